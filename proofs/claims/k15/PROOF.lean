import PyProof.Rows.All
import Wide.All
import OpenK.AllK
import Wide.FinOn
import Lean
import PyProof.TableCode
import PyProof.EqAt
import PyProof.EqKinds
import PyProof.TupleCall
import PyProof.NeKinds
import PyProof.ZipIter
import PyProof.StrLoop
import PyProof.StrWalks
import PyProof.StrCalls
import PyProof.StrCalls2
import PyProof.StrLawsIn
import PyProof.SliceStr2
import PyProof.StrBlock
import PyProof.Rows.StrFirst
import KE.KIntText
import PyProof.StrLawsChain
import PyProof.StrLawsTight
import PyProof.CallStr
import PyProof.Rows.FStr
import PySem.SetTable
import PyProof.TupleKey
import PyProof.SetKind
import PyProof.IsRules
import PyProof.Rows.SetFrom
import PyProof.WalksMore
import PyProof.TupleIter
import KE.KSortTup
import KE.KTryMore
import PySem.Challenge.RW_dipright_k15_a_claim_kept_by_work
set_option Elab.async false
set_option backward.eqns.nonrecursive false
set_option genInjectivity false
set_option genSizeOf false
set_option linter.all false
set_option maxRecDepth 100000
set_option maxHeartbeats 4000000
open PySem.W renaming Frag→Qqq,nsIn→Qqe,mg_none_of→Qqm,mg_of→Qq2,keepIn→Qzj,methodCall_KW→Qxd,plainGet_of→Qxl,callWith_K→Qxm,cellsFrom_some→Qjv
open PySem.Heap renaming get?_push_of_some→Qqz,lt_size→Qqv,get?_push_size→Qqw,size_push→Qzm,get?_update_other→Qz3,get?_update_self→Qz4
open List renaming size_toArray→Qqx,length_map→Qqk,getElem?_cons_succ→Qqa,getElem?_eq_some_iff→Qqb,length_cons→Qqd,getElem?_cons_zero→Qqf,getElem?_eq_getElem→Qqg,mem_cons→Qqh,getElem?_map→Qqn,mem_cons_of_mem→Qqr,mem_append_right→Qqs,getElem?_eq_none_iff→Qqt,length_append→Qq0,not_mem_nil→Qq1,map_cons→Qq3,mem_cons_self→Qq4,replicate_succ→Qq5,lookup_cons→Qq6,any_cons→Qq7,getElem?_append_right→Qq8,mem_of_getElem?→Qq9,find?_cons→Qzq,getElem?_append_left→Qzz,length_eq_zero_iff→Qzk,getElem_of_mem→Qzc,append_nil→Qzf,mem_range→Qzl,length_take→Qzn,all_eq_true→Qzo,getElem?_set_self→Qzp,mem_singleton→Qzr,getElem?_eq_none→Qzs,flatten_cons→Qzu,mem_append_left→Qz1,length_singleton→Qz5,any_nil→Qz6,getElem?_set_ne→Qz8,filterMap_cons→Qz9,mem_append→Qxq,length_set→Qxz,mem_filterMap→Qxj,mem_map→Qxk,getElem_append_left→Qxv,take_of_length_le→Qxa,all_cons→Qxb,take_succ_eq_append_getElem→Qxc,length_replicate→Qxe,nodup_cons→Qxg,map_nil→Qxh,getElem?_take→Qxn,pairwise_cons→Qxo,length_range→Qxt,pairwise_iff_getElem→Qx1,length_drop→Qx2,getElem_mem→Qx4,getElem?_replicate→Qx8,mem_filter→Qx9,of_mem_zip→Qjq,foldl_cons→Qjz,map_const'→Qjx,forIn_cons→Qjj,drop_zero→Qja
open Nat renaming le_refl→Qqj,ne_of_lt→Qqo,lt_of_lt_of_le→Qqp,le_trans→Qzx,lt_succ_self→Qza,lt_or_ge→Qzd,zero_le→Qze,lt_irrefl→Qzi,le_of_lt_succ→Qz0,ne_of_gt→Qxx,succ_pos→Qxw,lt_succ_of_lt→Qxy,le_of_lt→Qxf,mod_lt→Qxi,lt_trichotomy→Qx0,mul_comm→Qx3,zero_add→Qx5,le_add_right→Qx7,le_succ→Qjk
open Bool renaming and_eq_true→Qqy,false_eq_true→Qqc,false_ne_true→Qqi,or_eq_true→Qzh,or_false→Qzt,not_true→Qz2,and_false→Qz7,and_self→Qxp,true_and→Qxr,not_false→Qjb,false_or→Qjc
open Array renaming getElem?_toList→Qql,getElem?_eq_getElem→Qqu,getElem?_eq_some_iff→Qzv,length_toList→Qzy,getD_eq_getD_getElem?→Qzb,size_append→Qxu,getElem?_replicate→Qx6,getElem?_extract→Qjw,getElem?_eq_none→Qjy
open Option renaming map_eq_some_iff→Qzw,isSome_iff_exists→Qzg,isSome_map→Qxs
section
universe u v
theorem oBs{α:Type u}{β:Type v}(a:α)(f:α→Option β):(some a).bind f=f a:=rfl
theorem oMs{α:Type u}{β:Type v}(a:α)(f:α→β):(some a).map f=some (f a):=rfl
end
section
namespace L2
open PySem
noncomputable def qqx(s:Stmt):Arguments:=match s with
 |.FunctionDef _ a _ _ _ _ _ _ _ _=>a
 |_=>{ posonlyargs:=[],args:=[],vararg:=none,kwonlyargs:=[],kw_defaults:=[],kwarg:=none,defaults:=[] }
noncomputable def qzq(s:Stmt):List Stmt:=match s with
 |.FunctionDef _ _ b _ _ _ _ _ _ _=>b
 |_=>[]
noncomputable def qzz(s:Stmt):Scope:=match s with
 |.FunctionDef _ _ _ _ _ _ sc _ _ _=>sc
 |_=>{ kind:=.function,names:=[],isGenerator:=false,isCoroutine:=false }
end L2
namespace K15
open PySem PySem.Spec PyProof.Rows
def top(i:Nat):Stmt:=PySem.Challenge.pw_dipright_k15_a_claim_kept_by_work.main.body.getD i (.Pass ⟨0,0,0,0⟩)
def cb(s:Stmt)(j:Nat):Stmt:=match s with
 |.ClassDef _ _ _ b _ _ _ _ _ _ _=>b.getD j (.Pass ⟨0,0,0,0⟩)
 |_=>s
end K15
namespace HD
open PySem PySem.W PySem.Calls PyProof.Rows
def lf:Life:=PySem.Life.mk [] [] [] 0 [] [] Bool.false #[] [] 0 Bool.false Bool.false Bool.false 0 [2000,10,10] Bool.false 0 Bool.true [] [] 0 Bool.false
def sM:Str:=⟨#[60,109,111,100,117,108,101,62]⟩
def sF:Str:=⟨#[47,99,108,97,105,109,47,99,117,116,46,112,121]⟩
def sN:Str:=⟨#[95,95,109,97,105,110,95,95]⟩
def bt(l:List Obj):BT:=(l.foldl (fun(p:BT×Nat) o=>(p.1.ins p.2 o,p.2+1)) (.nil,0)).1
noncomputable def Ta(P:Params):BT:=bt ((boot_heap P).objs.toList++[Obj.mk (.type "tuple") none (.seq #[]) #[],Obj.mk .none none (.fields #[]) #[],
 Obj.mk (.type "code") none (.fields #[.str sM 182,.str sM 183,.str sF 184,.int 1 0,.int 0 0,.int 0 0,.int 0 0,.int 0 0,.ref 11,.bool false,.int 181 0,.ref 12,.none,.none,.none,.none,.int 185 0,.int 1 0,.str sF 186]) #[],
 Obj.mk (.type "frame") none .plain #[some (.ref 13),some (.ref 3),some (.ref 3),none,some (.str sN 164),none,some (.ref 0)]])
noncomputable def Sa(w:World)(os:OsState):SharedT:=⟨Ta w.params,15,lf,#[],⟨0,0,0,0⟩,187,os⟩
abbrev an:Option Value:=some (.ref 6)
abbrev p0:Pos:=⟨0,0,0,0⟩
def ev(p:Program):Env:={ scope:=p.main.scope,locals:=mainNs,globals:=mainNs,cells:=[],code:=.ref 13,frame:=some 14 }
def cE(p:Program):Code:=.body (behindTheImports p) (ev p)
noncomputable def Lk(p q:Program)(loose:List Str)(Xt:Program→Shared→Bool)(ads:List Addr)(w:World)(s:Shared):=((staticsOk (importedModules p.main.body) (boot_heap w.params) s.heap&&namesBound p s.heap&&gensDone s&&laidKept (boot_heap w.params) s.heap),openSeen q loose (importedModules p.main.body) (Xt q) true s,ads.map s.heap.get?)
end HD
namespace HD
open PySem PySem.W PySem.Calls PyProof.Rows
theorem fin_of{p:Program}{w:World}{s:Shared}{env:Env}{c:Code}{q:Pos}:topRun treeTable p w 11 an 2 s (restOf [] env c q [topFrame p0])=some s:=by
 cases s
 rfl
noncomputable abbrev Fs(p:Program)(w:World)(s:Shared):Bool:=staticsOk (importedModules p.main.body) (boot_heap w.params) s.heap&&namesBound p s.heap&&gensDone s&&laidKept (boot_heap w.params) s.heap
theorem qo3{p:Program}{w:World}{N:Nat}{os:OsState}{s:Shared}(z:((boot_heap w.params).isNs mainGlobals&&(Array.mk []:Array GenState).size==0,(boot_heap w.params).objs.size,(boot_heap w.params).nsMap mainGlobals "__annotations__")=(true,11,an))
  (r:topRun treeTable p w 11 an N ⟨boot_heap w.params,#[],boot_drawn,boot_toks,os⟩ (topStub p)=some s) (l:Fs p w s=true):topFrom treeTable p w N ⟨boot_heap w.params,#[],boot_drawn,boot_toks,os⟩=some s:=by
 have z1:=congrArg (·.1) z
 have z2:=congrArg (·.2.1) z
 have z3:=congrArg (·.2.2) z
 dsimp only at z1 z2 z3
 simp only[topFrom,z1,z2,z3,r,oBs]
 show(match Fs p w s with|true=>some s|false=>none)=_
 rw[l]
end HD
namespace HD
open PySem PySem.W PySem.Calls PyProof.Rows
noncomputable def Rn(p:Program)(n:Nat)(w:World)(os:OsState):=segRunT treeTable p w 11 an 1 n (Sa w os) (piecesOf (behindTheImports p) (ev p) (cE p) p0 [topFrame p0])
noncomputable def LA(p q:Program)(ads:List Addr)(w:World)(s:Shared):=(staticsOk (importedModules p.main.body) (boot_heap w.params) s.heap&&namesBound p s.heap&&gensDone s&&laidKept (boot_heap w.params) s.heap,seen ((recsOf q).map (·.name)) (ownsOf q) [] { s with gens:=#[] },ads.map s.heap.get?)
noncomputable def LB(p q:Program)(loose:List Str)(Xt:Program→Shared→Bool)(s:Shared):Bool:=s.heap.keysOk (looseW q loose) ((recsOf q).map (·.name)) ((litsOf q).map (·.1)) ((clssOf q (looseW q loose)).map (·.name))&&s.heap.accountedOkI (importedModules p.main.body)&&s.heap.isNs mainGlobals&&s.heap.isNs builtinsNs&&tablesOk q s.heap&&Xt q s&&s.gens.size==0
noncomputable def LD(q:Program)(loose:List Str)(s:Shared):=(s.heap.bltView,tabsOk q s,pinSeenD q (drecsOf q) s,clsSeenW q loose s)
noncomputable def LG(q:Program)(loose:List Str)(s:Shared):=(wideSeen q s,plainSeenD q loose s)
theorem lo3{p q:Program}{loose:List Str}{Xt:Program→Shared→Bool}{ads:List Addr}{K:Params→Frag}{n N:Nat}{p1:Pos}
  (op:∀ w:World,Option.map (fun s:Shared=>(s.heap,s.gens,s.drawn,s.toks)) (fencedOpening treeTable p w N)=some (boot_heap w.params,#[],boot_drawn,boot_toks))
  (z:∀ w:World,((boot_heap w.params).isNs mainGlobals&&(Array.mk []:Array GenState).size==0,(boot_heap w.params).objs.size,(boot_heap w.params).nsMap mainGlobals "__annotations__")=(true,11,an))
  (pre:∀ w:World,(fun os=>topGo treeTable p w 11 an 12 ⟨boot_heap w.params,#[],boot_drawn,boot_toks,os⟩ (topStub p))=fun os=>some ((Sa w os).abs,⟨denote treeTable (cE p),cE p,p0,[topFrame p0]⟩))
  (blk:∀ w:World,(fun os=>segRun treeTable p w 11 an 1 1 (Sa w os).abs (blockOf (behindTheImports p) (ev p) (cE p) p0 [topFrame p0]))=fun os=>some (Flow.next,(Sa w os).abs,cE p,p0))
  (gA:∀ w:World,(fun os=>(Rn p n w os).map fun r=>(r.1,r.2.2.1,r.2.2.2,LA p q ads w r.2.1.abs))=fun _=>some (Flow.next,cE p,p1,true,expectedOf q,(K w.params).map fun p=>some p.2))
  (gB:∀ w:World,(fun os=>(Rn p n w os).map fun r=>LB p q loose Xt r.2.1.abs)=fun _=>some true)
  (gC:∀ w:World,(fun os=>(Rn p n w os).map fun r=>plainSeenE q (looseW q loose) r.2.1.abs)=fun _=>some (plainGoodE q (looseW q loose)))
  (gD:∀ w:World,(fun os=>(Rn p n w os).map fun r=>LD q loose r.2.1.abs)=fun _=>some (bltViewBooted,true,pinGoodD (drecsOf q),clsGoodW q loose))
  (gE:∀ w:World,(fun os=>(Rn p n w os).map fun r=>LG q loose r.2.1.abs)=fun _=>some (wideGood q,plainGoodD q loose))
  (le:Nat.ble (12+(1+(n+2))) N=true):LeftO p q loose (Xt q) (fun s=>ads.map s.heap.get?) (fun w=>(K w.params).map fun p=>some p.2) N:=by
 intro w
 rcases Qzw.mp (op w) with⟨S,eS,hS⟩
 rcases S with⟨H,g,d,t,os⟩
 have h1:H=boot_heap w.params:=congrArg (·.1) hS
 have h2:g=#[]:=congrArg (·.2.1) hS
 have h3:d=boot_drawn:=congrArg (·.2.2.1) hS
 have h4:t=boot_toks:=congrArg (·.2.2.2) hS
 subst h1 h2 h3 h4
 rcases Qzw.mp (congrFun (gA w) os) with⟨⟨f,S1,c,q1⟩,run,same⟩
 have ot:∀ {α:Type}{g:Flow×SharedT×Code×Pos→α}{v:α},(Rn p n w os).map g=some v→g (f,S1,c,q1)=v:=fun e=>by rw[run]at e; exact Option.some.inj e
 have g1:f=Flow.next:=congrArg (·.1) same
 have g2:c=cE p:=congrArg (·.2.1) same
 have g3:q1=p1:=congrArg (·.2.2.1) same
 have l1:Fs p w S1.abs=true:=congrArg (·.2.2.2.1) same
 have l0:=congrArg (·.2.2.2.2.1) same
 have l3:=congrArg (·.2.2.2.2.2) same
 have b:=ot (congrFun (gB w) os)
 have c0:=ot (congrFun (gC w) os)
 have d:=ot (congrFun (gD w) os)
 have e:=ot (congrFun (gE w) os)
 have l2:openSeen q loose (importedModules p.main.body) (Xt q) true S1.abs=openGood q loose:=Prod.ext l0 (Prod.ext (congrArg (·.1) d) (Prod.ext b (Prod.ext (congrArg (·.2.1) d) (Prod.ext (congrArg (·.2.2.1) d) (Prod.ext c0 (Prod.ext (congrArg (·.2) e) (Prod.ext (congrArg (·.1) e) (congrArg (·.2.2.2) d))))))))
 subst g1 g2 g3
 have last:=piece_app (rest:=[]) (segRun_of run) fin_of
 rw[Qzf]at last
 have all:=go_top (congrFun (pre w) os) (piece_block (congrFun (blk w) os) last)
 have more:=topRun_mono (N - (12+(1+(n+2)))) _ _ _ _ all
 rw[Nat.add_sub_cancel' (Nat.le_of_ble_eq_true le)]at more
 simp only[openEnds,eS,oBs,qo3 (z w) more l1,oMs]
 exact congrArg some (Prod.ext l2 l3)
end HD
namespace K15
open PySem L2
noncomputable def c0:List Str:=["_law_enter_claim","_law_model_here","_law_fact","claims","noclaim","_law_claim","_law_state","given","fallen","ended","part","_law_enter_part"]
noncomputable def c1:List Str:=["work","day","term","append","sell","give","good","_law_enter_join","veins","novein","order","joins"]
noncomputable def c2:List Str:=["joined","_law_enter","_law_day","join","vein","stake","_law_name","sorted","_law_vest","_law_vein","_law_ask","_law_field"]
noncomputable def c3:List Str:=["_law_same","claim","tuple","years","state","_law_passed","_law_other","twin","pass_to","_law_kept","_law_good","law"]
noncomputable def c4:List Str:=["_law_script","_law_term_here","_law_draw","_law_term","Field","_law_model","_law_plan","_law_ended","_law_k","range","_law_gap","min"]
noncomputable def c5:List Str:=["int","_law_when","enter","_law_last","_law_in","_law_rect","_law_cell","_law_size","size","row","book","dug"]
noncomputable def c6:List Str:=["stands","unvested","_law_outs","any",".0","fast","_law_old","_law_near","list","_law_far","nocut","insert"]
noncomputable def c7:List Str:=["index","__init__","self","wide","tall","deep","check_district","extent","year","found","joints","staked"]
noncomputable def c8:List Str:=["Claims","debts","fact","check_day","sound","BadFact","not sound for this district","Late","the field's day isn't earlier","answer","enter_vein","enter_join"]
noncomputable def c9:List Str:=["enter_stake","dig","enter_dig","pay","enter_pay","change","vest_all","other","outcrops","extend","who","spot"]
noncomputable def c10:List Str:=["worth","owe","owner","COIN","gatekeeper","mouth","over","debtor","creditor","tenths","the field's day is later","today"]
noncomputable def c11:List Str:=["_wall","names","name","NoVein","no vein is known by that day","get","named","ground","last","vested","days","standing"]
noncomputable def c12:List Str:=["entries","dict","__name__","law_dipright_k15_a_claim_kept_by_work","_law_j","_law_many","_law_turn","len","_law_rest","_law_step","_law_one","_law_two"]
noncomputable def c13:List Str:=["_law_found","_law_due","isinstance","_law_like","all","bool","str","DEPTHS","TERMS","fits","LENGTHS","BadNumber"]
noncomputable def c14:List Str:=["not the numbers of a district","DAYS","not a day","first_claim","ranks","title","field","heirs","cell","standing_grounds","inside","dipright.field"]
noncomputable def c15:List Str:=["covers","dipright.title","ground_of","ranked","grounds","heads","first","behind","has_one","dip","columns_at","in_ground"]
noncomputable def c16:List Str:=["OutOfGround","not a spot of the district","met","pairs","met_columns","column","dipright.reach","outcrop","pair","sound_vein","ASKS","all_fit"]
noncomputable def c17:List Str:=["numbers_agree","dipright.veins","MOVES","climbed","steps","x","y","step","reversed","joint","enumerate","asked"]
noncomputable def c18:List Str:=["values","known","bounds","value","kind","zip","is_cell","thing","good_steps","good_outcrops","MOST_COLUMNS","set"]
noncomputable def c19:List Str:=["COINS","below","folk","side","line","floor","coins","FOLK","SIDES","LINES","STEPS","bound"]
noncomputable def c20:List Str:=["through","counted","dipright.claims","Claim","piece","NoClaim","no claim is known by that day","vest","whole","pieces","parted","dipright.facts"]
noncomputable def c21:List Str:=["rect","some","can_part","ahead","LEFT","TOP","LOW","RIGHT","dipright.years","kept","DiprightError","dipright.ground"]
noncomputable def c22:List Str:=["k","dipright.errors","ValueError","/claim/cut.py","__doc__","__package__","__loader__","__spec__","__annotations__","__builtins__","__file__","__cached__"]
noncomputable def c23:List Str:=["__main__","__module__","__firstlineno__","__static_attributes__","__weakref__","Claim.__init__","Claim.piece","Claim.twin","Claim.state","__dict__","Claims.__init__","Claims.names"]
noncomputable def c24:List Str:=["Claims.named","Claims.standing","Claims.stake","Claims.vest","Claims.vest_all","Claims.change","Claims.part","Claims.twin","Field.__init__","Field.enter","Field.answer","Field.enter_vein"]
noncomputable def c25:List Str:=["Field.enter_join","Field.enter_stake","Field.enter_dig","Field.enter_pay","Field.gatekeeper","Field.owe","Field.pass_to","Field.today","Field.size","Field.term","Field.veins","Field.claims"]
noncomputable def c26:List Str:=["Field.vein","Field.joined","Field.claim","Field.state","Field.years","Field.standing","Field.entries","Field.twin"]
noncomputable def Al:List (List Str):=[c0,c1,c2,c3,c4,c5,c6,c7,c8,c9,c10,c11,c12,c13,c14,c15,c16,c17,c18,c19,c20,c21,c22,c23,c24,c25,c26]
noncomputable def Af(i j:Nat):Str:=(Al.getD i []).getD j ⟨#[]⟩
noncomputable def b0:String:="dict"
noncomputable def b1:String:="__main__.__loader__#opaque"
noncomputable def b2:String:="tuple"
noncomputable def b3:String:="code"
noncomputable def b4:String:="function"
noncomputable def b5:String:="ValueError"
noncomputable def b6:String:="ValueError.__new__"
noncomputable def b7:String:="type"
noncomputable def b8:String:="Exception"
noncomputable def b9:String:="BaseException"
noncomputable def b10:String:="object"
noncomputable def b11:String:="ExceptionGroup.__weakref__"
noncomputable def b12:String:="getset_descriptor"
noncomputable def b13:String:="object.__new__"
noncomputable def b14:String:="function.__dict__"
noncomputable def b15:String:="function.__dict__#set"
lay_quick Af b0 b1 b2 b3 b4 b5 b6 b7 b8 b9 b10 b11 b12 b13 b14 b15
noncomputable def G(a:Nat→Nat→Str):Program:=by
 refine'(?f:(x:Program)→(Str.ofString "_law_enter_claim" = a 0 0→Str.ofString "_law_model_here" = a 0 1→Str.ofString "_law_fact" = a 0 2→Str.ofString "claims" = a 0 3→Str.ofString "noclaim" = a 0 4→Str.ofString "_law_claim" = a 0 5→Str.ofString "_law_state" = a 0 6→Str.ofString "given" = a 0 7→Str.ofString "fallen" = a 0 8→Str.ofString "ended" = a 0 9→Str.ofString "part" = a 0 10→Str.ofString "_law_enter_part" = a 0 11→Str.ofString "work" = a 1 0→Str.ofString "day" = a 1 1→Str.ofString "term" = a 1 2→Str.ofString "append" = a 1 3→Str.ofString "sell" = a 1 4→Str.ofString "give" = a 1 5→Str.ofString "good" = a 1 6→Str.ofString "_law_enter_join" = a 1 7→Str.ofString "veins" = a 1 8→Str.ofString "novein" = a 1 9→Str.ofString "order" = a 1 10→Str.ofString "joins" = a 1 11→Str.ofString "joined" = a 2 0→Str.ofString "_law_enter" = a 2 1→Str.ofString "_law_day" = a 2 2→Str.ofString "join" = a 2 3→Str.ofString "vein" = a 2 4→Str.ofString "stake" = a 2 5→Str.ofString "_law_name" = a 2 6→Str.ofString "sorted" = a 2 7→Str.ofString "_law_vest" = a 2 8→Str.ofString "_law_vein" = a 2 9→Str.ofString "_law_ask" = a 2 10→Str.ofString "_law_field" = a 2 11→Str.ofString "_law_same" = a 3 0→Str.ofString "claim" = a 3 1→Str.ofString "tuple" = a 3 2→Str.ofString "years" = a 3 3→Str.ofString "state" = a 3 4→Str.ofString "_law_passed" = a 3 5→Str.ofString "_law_other" = a 3 6→Str.ofString "twin" = a 3 7→Str.ofString "pass_to" = a 3 8→Str.ofString "_law_kept" = a 3 9→Str.ofString "_law_good" = a 3 10→Str.ofString "law" = a 3 11→Str.ofString "_law_script" = a 4 0→Str.ofString "_law_term_here" = a 4 1→Str.ofString "_law_draw" = a 4 2→Str.ofString "_law_term" = a 4 3→Str.ofString "Field" = a 4 4→Str.ofString "_law_model" = a 4 5→Str.ofString "_law_plan" = a 4 6→Str.ofString "_law_ended" = a 4 7→Str.ofString "_law_k" = a 4 8→Str.ofString "range" = a 4 9→Str.ofString "_law_gap" = a 4 10→Str.ofString "min" = a 4 11→Str.ofString "int" = a 5 0→Str.ofString "_law_when" = a 5 1→Str.ofString "enter" = a 5 2→Str.ofString "_law_last" = a 5 3→Str.ofString "_law_in" = a 5 4→Str.ofString "_law_rect" = a 5 5→Str.ofString "_law_cell" = a 5 6→Str.ofString "_law_size" = a 5 7→Str.ofString "size" = a 5 8→Str.ofString "row" = a 5 9→Str.ofString "book" = a 5 10→Str.ofString "dug" = a 5 11→Str.ofString "stands" = a 6 0→Str.ofString "unvested" = a 6 1→Str.ofString "_law_outs" = a 6 2→Str.ofString "any" = a 6 3→Str.ofString ".0" = a 6 4→Str.ofString "fast" = a 6 5→Str.ofString "_law_old" = a 6 6→Str.ofString "_law_near" = a 6 7→Str.ofString "list" = a 6 8→Str.ofString "_law_far" = a 6 9→Str.ofString "nocut" = a 6 10→Str.ofString "insert" = a 6 11→Str.ofString "index" = a 7 0→Str.ofString "__init__" = a 7 1→Str.ofString "self" = a 7 2→Str.ofString "wide" = a 7 3→Str.ofString "tall" = a 7 4→Str.ofString "deep" = a 7 5→Str.ofString "check_district" = a 7 6→Str.ofString "extent" = a 7 7→Str.ofString "year" = a 7 8→Str.ofString "found" = a 7 9→Str.ofString "joints" = a 7 10→Str.ofString "staked" = a 7 11→Str.ofString "Claims" = a 8 0→Str.ofString "debts" = a 8 1→Str.ofString "fact" = a 8 2→Str.ofString "check_day" = a 8 3→Str.ofString "sound" = a 8 4→Str.ofString "BadFact" = a 8 5→Str.ofString "not sound for this district" = a 8 6→Str.ofString "Late" = a 8 7→Str.ofString "the field's day isn't earlier" = a 8 8→Str.ofString "answer" = a 8 9→Str.ofString "enter_vein" = a 8 10→Str.ofString "enter_join" = a 8 11→Str.ofString "enter_stake" = a 9 0→Str.ofString "dig" = a 9 1→Str.ofString "enter_dig" = a 9 2→Str.ofString "pay" = a 9 3→Str.ofString "enter_pay" = a 9 4→Str.ofString "change" = a 9 5→Str.ofString "vest_all" = a 9 6→Str.ofString "other" = a 9 7→Str.ofString "outcrops" = a 9 8→Str.ofString "extend" = a 9 9→Str.ofString "who" = a 9 10→Str.ofString "spot" = a 9 11→Str.ofString "worth" = a 10 0→Str.ofString "owe" = a 10 1→Str.ofString "owner" = a 10 2→Str.ofString "COIN" = a 10 3→Str.ofString "gatekeeper" = a 10 4→Str.ofString "mouth" = a 10 5→Str.ofString "over" = a 10 6→Str.ofString "debtor" = a 10 7→Str.ofString "creditor" = a 10 8→Str.ofString "tenths" = a 10 9→Str.ofString "the field's day is later" = a 10 10→Str.ofString "today" = a 10 11→Str.ofString "_wall" = a 11 0→Str.ofString "names" = a 11 1→Str.ofString "name" = a 11 2→Str.ofString "NoVein" = a 11 3→Str.ofString "no vein is known by that day" = a 11 4→Str.ofString "get" = a 11 5→Str.ofString "named" = a 11 6→Str.ofString "ground" = a 11 7→Str.ofString "last" = a 11 8→Str.ofString "vested" = a 11 9→Str.ofString "days" = a 11 10→Str.ofString "standing" = a 11 11→Str.ofString "entries" = a 12 0→Str.ofString "dict" = a 12 1→Str.ofString "__name__" = a 12 2→Str.ofString "law_dipright_k15_a_claim_kept_by_work" = a 12 3→Str.ofString "_law_j" = a 12 4→Str.ofString "_law_many" = a 12 5→Str.ofString "_law_turn" = a 12 6→Str.ofString "len" = a 12 7→Str.ofString "_law_rest" = a 12 8→Str.ofString "_law_step" = a 12 9→Str.ofString "_law_one" = a 12 10→Str.ofString "_law_two" = a 12 11→Str.ofString "_law_found" = a 13 0→Str.ofString "_law_due" = a 13 1→Str.ofString "isinstance" = a 13 2→Str.ofString "_law_like" = a 13 3→Str.ofString "all" = a 13 4→Str.ofString "bool" = a 13 5→Str.ofString "str" = a 13 6→Str.ofString "DEPTHS" = a 13 7→Str.ofString "TERMS" = a 13 8→Str.ofString "fits" = a 13 9→Str.ofString "LENGTHS" = a 13 10→Str.ofString "BadNumber" = a 13 11→Str.ofString "not the numbers of a district" = a 14 0→Str.ofString "DAYS" = a 14 1→Str.ofString "not a day" = a 14 2→Str.ofString "first_claim" = a 14 3→Str.ofString "ranks" = a 14 4→Str.ofString "title" = a 14 5→Str.ofString "field" = a 14 6→Str.ofString "heirs" = a 14 7→Str.ofString "cell" = a 14 8→Str.ofString "standing_grounds" = a 14 9→Str.ofString "inside" = a 14 10→Str.ofString "dipright.field" = a 14 11→Str.ofString "covers" = a 15 0→Str.ofString "dipright.title" = a 15 1→Str.ofString "ground_of" = a 15 2→Str.ofString "ranked" = a 15 3→Str.ofString "grounds" = a 15 4→Str.ofString "heads" = a 15 5→Str.ofString "first" = a 15 6→Str.ofString "behind" = a 15 7→Str.ofString "has_one" = a 15 8→Str.ofString "dip" = a 15 9→Str.ofString "columns_at" = a 15 10→Str.ofString "in_ground" = a 15 11→Str.ofString "OutOfGround" = a 16 0→Str.ofString "not a spot of the district" = a 16 1→Str.ofString "met" = a 16 2→Str.ofString "pairs" = a 16 3→Str.ofString "met_columns" = a 16 4→Str.ofString "column" = a 16 5→Str.ofString "dipright.reach" = a 16 6→Str.ofString "outcrop" = a 16 7→Str.ofString "pair" = a 16 8→Str.ofString "sound_vein" = a 16 9→Str.ofString "ASKS" = a 16 10→Str.ofString "all_fit" = a 16 11→Str.ofString "numbers_agree" = a 17 0→Str.ofString "dipright.veins" = a 17 1→Str.ofString "MOVES" = a 17 2→Str.ofString "climbed" = a 17 3→Str.ofString "steps" = a 17 4→Str.ofString "x" = a 17 5→Str.ofString "y" = a 17 6→Str.ofString "step" = a 17 7→Str.ofString "reversed" = a 17 8→Str.ofString "joint" = a 17 9→Str.ofString "enumerate" = a 17 10→Str.ofString "asked" = a 17 11→Str.ofString "values" = a 18 0→Str.ofString "known" = a 18 1→Str.ofString "bounds" = a 18 2→Str.ofString "value" = a 18 3→Str.ofString "kind" = a 18 4→Str.ofString "zip" = a 18 5→Str.ofString "is_cell" = a 18 6→Str.ofString "thing" = a 18 7→Str.ofString "good_steps" = a 18 8→Str.ofString "good_outcrops" = a 18 9→Str.ofString "MOST_COLUMNS" = a 18 10→Str.ofString "set" = a 18 11→Str.ofString "COINS" = a 19 0→Str.ofString "below" = a 19 1→Str.ofString "folk" = a 19 2→Str.ofString "side" = a 19 3→Str.ofString "line" = a 19 4→Str.ofString "floor" = a 19 5→Str.ofString "coins" = a 19 6→Str.ofString "FOLK" = a 19 7→Str.ofString "SIDES" = a 19 8→Str.ofString "LINES" = a 19 9→Str.ofString "STEPS" = a 19 10→Str.ofString "bound" = a 19 11→Str.ofString "through" = a 20 0→Str.ofString "counted" = a 20 1→Str.ofString "dipright.claims" = a 20 2→Str.ofString "Claim" = a 20 3→Str.ofString "piece" = a 20 4→Str.ofString "NoClaim" = a 20 5→Str.ofString "no claim is known by that day" = a 20 6→Str.ofString "vest" = a 20 7→Str.ofString "whole" = a 20 8→Str.ofString "pieces" = a 20 9→Str.ofString "parted" = a 20 10→Str.ofString "dipright.facts" = a 20 11→Str.ofString "rect" = a 21 0→Str.ofString "some" = a 21 1→Str.ofString "can_part" = a 21 2→Str.ofString "ahead" = a 21 3→Str.ofString "LEFT" = a 21 4→Str.ofString "TOP" = a 21 5→Str.ofString "LOW" = a 21 6→Str.ofString "RIGHT" = a 21 7→Str.ofString "dipright.years" = a 21 8→Str.ofString "kept" = a 21 9→Str.ofString "DiprightError" = a 21 10→Str.ofString "dipright.ground" = a 21 11→Str.ofString "k" = a 22 0→Str.ofString "dipright.errors" = a 22 1→Str.ofString "ValueError" = a 22 2→Str.ofString "/claim/cut.py" = a 22 3→PySem.Challenge.pw_dipright_k15_a_claim_kept_by_work=x)→Program) _ ?h
 (case f=>exact fun x _=>x)
 (case h=>intros; delta PySem.Challenge.pw_dipright_k15_a_claim_kept_by_work; conv=>lhs; simp only[*])
noncomputable abbrev fnD(x y:Str)(s:Stmt):=FuncData.mk x y (qqx s) (.stmts (qzq s)) (qzz s)
noncomputable abbrev fq(x:Str)(s:Stmt)(m r:Value):=fnD x x s 3 [] .none .none .none m Option.none r .none 0
noncomputable abbrev kh:=PyData.keyHash
noncomputable abbrev de(P:Params)(x:Str)(k:Nat)(v:Value):=DictEntry.mk (kh P x) (.str x k) v
noncomputable abbrev oq(u:String)(x:Array Value):=Obj.mk (.type u) Option.none (.seq x) #[]
noncomputable abbrev cq(u:String)(f x:Str)(k l m:Nat)(i j:Int)(r:Nat)(o:Int)(s:Nat)(v w z:Value)(p:Int)(q:Nat):=Obj.mk (.type u) Option.none (.fields #[.str x k,.str x l,.str f m,.int i 0,.int j 0,.int 0 0,.int 0 0,.int 3 0,.ref r,.bool Bool.true,.int o 0,.ref s,.none,v,w,z,.int p 0,.int i 0,.str f q]) #[]
noncomputable def KG(tp:Nat→Stmt)(a:Nat→Nat→Str)(u0 u1 u2 u3 u4 u5 u6 u7 u8 u9 u10 u11 u12 u13 u14 u15:String)(P:Params):Qqq:=(nat_lit 3,Obj.mk (.type u0) Option.none (.dict #[de P (a 12 2) 165 (.str (a 12 3) 1087),de P (a 22 4) 166 .none,de P (a 22 5) 167 .none,de P (a 22 6) 168 (.builtin u1),de P (a 22 7) 169 .none,de P (a 22 8) 170 (.ref 6),de P (a 22 9) 171 (.ref 4),de P (a 22 10) 173 (.str (a 22 3) 172),de P (a 22 11) 174 .none,de P (a 11 0) 193 (.ref 21),de P (a 21 10) 213 (.ref 31),de P (a 13 11) 229 (.ref 44),de P (a 8 5) 245 (.ref 56),de P (a 8 7) 261 (.ref 68),de P (a 11 3) 277 (.ref 80),de P (a 20 5) 293 (.ref 92),de P (a 16 0) 309 (.ref 104),de P (a 21 4) 313 (.int 0 312),de P (a 21 5) 315 (.int 1 314),de P (a 21 7) 317 (.int 2 316),de P (a 21 6) 319 (.int 3 318),de P (a 14 10) 327 (.ref 113),de P (a 15 8) 333 (.ref 118),de P (a 21 2) 342 (.ref 125),de P (a 20 10) 353 (.ref 132),de P (a 15 11) 361 (.ref 139),de P (a 20 1) 373 (.ref 146),de P (a 20 0) 381 (.ref 153),de P (a 20 3) 446 (.ref 191),de P (a 8 0) 562 (.ref 273),de P (a 14 1) 567 (.ref 278),de P (a 19 7) 570 (.ref 279),de P (a 19 8) 573 (.ref 280),de P (a 19 9) 576 (.ref 281),de P (a 19 10) 579 (.ref 282),de P (a 19 0) 582 (.ref 283),de P (a 18 10) 584 (.int 16 583),de P (a 16 10) 627 (.ref 284),de P (a 18 2) 634 (.ref 299),de P (a 13 9) 642 (.ref 306),de P (a 16 11) 648 (.ref 311),de P (a 18 6) 656 (.ref 318),de P (a 18 8) 664 (.ref 325),de P (a 18 9) 670 (.ref 330),de P (a 16 9) 678 (.ref 337),de P (a 17 0) 685 (.ref 344),de P (a 8 4) 693 (.ref 351),de P (a 17 2) 708 (.ref 357),de P (a 17 3) 720 (.ref 364),de P (a 16 4) 726 (.ref 369),de P (a 15 10) 732 (.ref 374),de P (a 15 2) 742 (.ref 381),de P (a 16 7) 750 (.ref 388),de P (a 9 8) 756 (.ref 393),de P (a 15 0) 764 (.ref 400),de P (a 14 9) 772 (.ref 405),de P (a 15 3) 785 (.ref 412),de P (a 14 7) 794 (.ref 419),de P (a 14 3) 801 (.ref 426),de P (a 14 5) 809 (.ref 433),de P (a 10 2) 818 (.ref 440),de P (a 10 6) 828 (.ref 447),de P (a 13 10) 833 (.ref 448),de P (a 13 7) 836 (.ref 449),de P (a 13 8) 839 (.ref 450),de P (a 10 3) 841 (.int 10 840),de P (a 7 6) 851 (.ref 457),de P (a 8 3) 858 (.ref 464),de P (a 4 4) 1086 (.ref 642),de P (a 4 2) 1104 (.ref 653),de P (a 3 0) 1110 (.ref 658),de P (a 4 3) 1119 (.ref 665),de P (a 5 4) 1127 (.ref 672),de P (a 4 5) 1136 (.ref 679),de P (a 0 6) 1145 (.ref 686),de P (a 2 8) 1151 (.ref 691),de P (a 0 11) 1163 (.ref 698),de P (a 0 0) 1172 (.ref 705),de P (a 1 7) 1180 (.ref 712),de P (a 2 1) 1191 (.ref 719),de P (a 2 10) 1200 (.ref 726),de P (a 3 5) 1212 (.ref 733),de P (a 3 11) 1230 (.ref 740)] 83) #[]) ::
(nat_lit 112,cq u3 (a 22 3) (a 14 10) 320 321 322 24 2 107 181 108 (.ref 109) (.ref 110) (.ref 111) 325 326) ::
(nat_lit 113,Obj.mk (.type u4) Option.none (.func (fq (a 14 10) (tp 14) (.str (a 21 11) 310) (.ref 112))) #[]) ::
(nat_lit 117,cq u3 (a 22 3) (a 15 8) 328 329 330 26 2 114 181 115 (.none) (.none) (.ref 116) 331 332) ::
(nat_lit 118,Obj.mk (.type u4) Option.none (.func (fq (a 15 8) (tp 15) (.str (a 21 11) 310) (.ref 117))) #[]) ::
(nat_lit 145,cq u3 (a 22 3) (a 20 1) 364 365 366 43 2 140 181 141 (.ref 142) (.ref 143) (.ref 144) 371 372) ::
(nat_lit 146,Obj.mk (.type u4) Option.none (.func (fq (a 20 1) (tp 20) (.str (a 21 8) 362) (.ref 145))) #[]) ::
(nat_lit 152,cq u3 (a 22 3) (a 20 0) 374 375 376 49 2 147 181 148 (.ref 149) (.ref 150) (.ref 151) 379 380) ::
(nat_lit 153,Obj.mk (.type u4) Option.none (.func (fq (a 20 0) (tp 21) (.str (a 21 8) 362) (.ref 152))) #[]) ::
(nat_lit 166,Obj.mk (.type u3) Option.none (.fields #[.str (a 7 1) 396,.str (a 23 5) 397,.str (a 22 3) 398,.int 54 0,.int 5 0,.int 0 0,.int 0 0,.int 3 0,.ref 161,.bool Bool.true,.int 181 0,.ref 162,.none,.ref 163,.ref 164,.ref 165,.int 404 0,.int 54 0,.str (a 22 3) 405]) #[]) ::
(nat_lit 167,Obj.mk (.type u4) Option.none (.func (fnD (a 7 1) (a 23 5) (cb (tp 23) 0) 3 [] .none .none .none (.str (a 20 2) 382) Option.none (.ref 166) .none 0)) #[]) ::
(nat_lit 173,Obj.mk (.type u3) Option.none (.fields #[.str (a 20 4) 407,.str (a 23 6) 408,.str (a 22 3) 409,.int 62 0,.int 3 0,.int 0 0,.int 0 0,.int 3 0,.ref 168,.bool Bool.true,.int 181 0,.ref 169,.none,.ref 170,.ref 171,.ref 172,.int 414 0,.int 62 0,.str (a 22 3) 415]) #[]) ::
(nat_lit 174,Obj.mk (.type u4) Option.none (.func (fnD (a 20 4) (a 23 6) (cb (tp 23) 1) 3 [] .none .none .none (.str (a 20 2) 382) Option.none (.ref 173) .none 0)) #[]) ::
(nat_lit 180,Obj.mk (.type u3) Option.none (.fields #[.str (a 3 7) 417,.str (a 23 7) 418,.str (a 22 3) 419,.int 67 0,.int 1 0,.int 0 0,.int 0 0,.int 3 0,.ref 175,.bool Bool.true,.int 181 0,.ref 176,.none,.ref 177,.ref 178,.ref 179,.int 422 0,.int 67 0,.str (a 22 3) 423]) #[]) ::
(nat_lit 181,Obj.mk (.type u4) Option.none (.func (fnD (a 3 7) (a 23 7) (cb (tp 23) 2) 3 [] .none .none .none (.str (a 20 2) 382) Option.none (.ref 180) .none 0)) #[]) ::
(nat_lit 187,Obj.mk (.type u3) Option.none (.fields #[.str (a 3 4) 425,.str (a 23 8) 426,.str (a 22 3) 427,.int 72 0,.int 2 0,.int 0 0,.int 0 0,.int 3 0,.ref 182,.bool Bool.true,.int 181 0,.ref 183,.none,.ref 184,.ref 185,.ref 186,.int 430 0,.int 72 0,.str (a 22 3) 431]) #[]) ::
(nat_lit 188,Obj.mk (.type u4) Option.none (.func (fnD (a 3 4) (a 23 8) (cb (tp 23) 3) 3 [] .none .none .none (.str (a 20 2) 382) Option.none (.ref 187) .none 0)) #[]) ::
(nat_lit 190,Obj.mk (.type u0) Option.none (.dict #[de P (a 23 1) 391 (.str (a 20 2) 382),de P (a 23 2) 395 (.int 52 394),de P (a 7 1) 406 (.ref 167),de P (a 20 4) 416 (.ref 174),de P (a 3 7) 424 (.ref 181),de P (a 3 4) 432 (.ref 188),de P (a 23 3) 439 (.ref 189),de P (a 23 9) 441 (.ref 192),de P (a 23 4) 443 (.ref 193),de P (a 22 4) 444 .none] 4) #[]) ::
(nat_lit 191,Obj.mk (.type u7) Option.none (.cls (ClassData.mk (a 20 3) [.type u10] [.ref 191,.type u10] 190 (a 20 3) Bool.true [] [] Bool.false Option.none Bool.false)) #[Option.none,Option.none,Option.some (.str (a 20 3) 384),Option.some (.str (a 20 3) 392),Option.some (.builtin u13),Option.some (.bool Bool.true)]) ::
(nat_lit 208,Obj.mk (.type u3) Option.none (.fields #[.str (a 7 1) 459,.str (a 23 10) 460,.str (a 22 3) 461,.int 82 0,.int 2 0,.int 0 0,.int 0 0,.int 3 0,.ref 203,.bool Bool.true,.int 181 0,.ref 204,.none,.ref 205,.ref 206,.ref 207,.int 464 0,.int 82 0,.str (a 22 3) 465]) #[]) ::
(nat_lit 209,Obj.mk (.type u4) Option.none (.func (fnD (a 7 1) (a 23 10) (cb (tp 24) 0) 3 [] .none .none .none (.str (a 20 2) 382) Option.none (.ref 208) .none 0)) #[]) ::
(nat_lit 215,Obj.mk (.type u3) Option.none (.fields #[.str (a 11 1) 467,.str (a 23 11) 468,.str (a 22 3) 469,.int 87 0,.int 1 0,.int 0 0,.int 0 0,.int 3 0,.ref 210,.bool Bool.true,.int 181 0,.ref 211,.none,.ref 212,.ref 213,.ref 214,.int 471 0,.int 87 0,.str (a 22 3) 472]) #[]) ::
(nat_lit 216,Obj.mk (.type u4) Option.none (.func (fnD (a 11 1) (a 23 11) (cb (tp 24) 1) 3 [] .none .none .none (.str (a 20 2) 382) Option.none (.ref 215) .none 0)) #[]) ::
(nat_lit 222,Obj.mk (.type u3) Option.none (.fields #[.str (a 11 6) 474,.str (a 24 0) 475,.str (a 22 3) 476,.int 90 0,.int 2 0,.int 0 0,.int 0 0,.int 3 0,.ref 217,.bool Bool.true,.int 181 0,.ref 218,.none,.ref 219,.ref 220,.ref 221,.int 479 0,.int 90 0,.str (a 22 3) 480]) #[]) ::
(nat_lit 223,Obj.mk (.type u4) Option.none (.func (fnD (a 11 6) (a 24 0) (cb (tp 24) 2) 3 [] .none .none .none (.str (a 20 2) 382) Option.none (.ref 222) .none 0)) #[]) ::
(nat_lit 234,Obj.mk (.type u3) Option.none (.fields #[.str (a 2 5) 488,.str (a 24 2) 489,.str (a 22 3) 490,.int 98 0,.int 5 0,.int 0 0,.int 0 0,.int 3 0,.ref 229,.bool Bool.true,.int 181 0,.ref 230,.none,.ref 231,.ref 232,.ref 233,.int 496 0,.int 98 0,.str (a 22 3) 497]) #[]) ::
(nat_lit 235,Obj.mk (.type u4) Option.none (.func (fnD (a 2 5) (a 24 2) (cb (tp 24) 4) 3 [] .none .none .none (.str (a 20 2) 382) Option.none (.ref 234) .none 0)) #[]) ::
(nat_lit 241,Obj.mk (.type u3) Option.none (.fields #[.str (a 20 7) 499,.str (a 24 3) 500,.str (a 22 3) 501,.int 102 0,.int 4 0,.int 0 0,.int 0 0,.int 3 0,.ref 236,.bool Bool.true,.int 181 0,.ref 237,.none,.ref 238,.ref 239,.ref 240,.int 507 0,.int 102 0,.str (a 22 3) 508]) #[]) ::
(nat_lit 242,Obj.mk (.type u4) Option.none (.func (fnD (a 20 7) (a 24 3) (cb (tp 24) 5) 3 [] .none .none .none (.str (a 20 2) 382) Option.none (.ref 241) .none 0)) #[]) ::
(nat_lit 248,Obj.mk (.type u3) Option.none (.fields #[.str (a 9 6) 510,.str (a 24 4) 511,.str (a 22 3) 512,.int 108 0,.int 3 0,.int 0 0,.int 0 0,.int 3 0,.ref 243,.bool Bool.true,.int 181 0,.ref 244,.none,.ref 245,.ref 246,.ref 247,.int 517 0,.int 108 0,.str (a 22 3) 518]) #[]) ::
(nat_lit 249,Obj.mk (.type u4) Option.none (.func (fnD (a 9 6) (a 24 4) (cb (tp 24) 6) 3 [] .none .none .none (.str (a 20 2) 382) Option.none (.ref 248) .none 0)) #[]) ::
(nat_lit 255,Obj.mk (.type u3) Option.none (.fields #[.str (a 9 5) 520,.str (a 24 5) 521,.str (a 22 3) 522,.int 112 0,.int 3 0,.int 0 0,.int 0 0,.int 3 0,.ref 250,.bool Bool.true,.int 181 0,.ref 251,.none,.ref 252,.ref 253,.ref 254,.int 528 0,.int 112 0,.str (a 22 3) 529]) #[]) ::
(nat_lit 256,Obj.mk (.type u4) Option.none (.func (fnD (a 9 5) (a 24 5) (cb (tp 24) 7) 3 [] .none .none .none (.str (a 20 2) 382) Option.none (.ref 255) .none 0)) #[]) ::
(nat_lit 269,Obj.mk (.type u3) Option.none (.fields #[.str (a 3 7) 542,.str (a 24 7) 543,.str (a 22 3) 544,.int 141 0,.int 1 0,.int 0 0,.int 0 0,.int 3 0,.ref 264,.bool Bool.true,.int 181 0,.ref 265,.none,.ref 266,.ref 267,.ref 268,.int 549 0,.int 141 0,.str (a 22 3) 550]) #[]) ::
(nat_lit 270,Obj.mk (.type u4) Option.none (.func (fnD (a 3 7) (a 24 7) (cb (tp 24) 9) 3 [] .none .none .none (.str (a 20 2) 382) Option.none (.ref 269) .none 0)) #[]) ::
(nat_lit 272,Obj.mk (.type u0) Option.none (.dict #[de P (a 23 1) 454 (.str (a 20 2) 382),de P (a 23 2) 458 (.int 80 457),de P (a 7 1) 466 (.ref 209),de P (a 11 1) 473 (.ref 216),de P (a 11 6) 481 (.ref 223),de P (a 11 11) 487 (.ref 228),de P (a 2 5) 498 (.ref 235),de P (a 20 7) 509 (.ref 242),de P (a 9 6) 519 (.ref 249),de P (a 9 5) 530 (.ref 256),de P (a 0 10) 541 (.ref 263),de P (a 3 7) 551 (.ref 270),de P (a 23 3) 555 (.ref 271),de P (a 23 9) 557 (.ref 274),de P (a 23 4) 559 (.ref 275),de P (a 22 4) 560 .none] 4) #[]) ::
(nat_lit 273,Obj.mk (.type u7) Option.none (.cls (ClassData.mk (a 8 0) [.type u10] [.ref 273,.type u10] 272 (a 8 0) Bool.true [] [] Bool.false Option.none Bool.false)) #[Option.none,Option.none,Option.some (.str (a 8 0) 447),Option.some (.str (a 8 0) 455),Option.some (.builtin u13),Option.some (.bool Bool.true)]) ::
(nat_lit 278,oq u2 #[.int 1 565,.int 400 566]) ::
(nat_lit 279,oq u2 #[.int 1 568,.int 40 569]) ::
(nat_lit 280,oq u2 #[.int 0 571,.int 1 572]) ::
(nat_lit 281,oq u2 #[.int 1 574,.int 23 575]) ::
(nat_lit 282,oq u2 #[.int 0 577,.int 4 578]) ::
(nat_lit 283,oq u2 #[.int 1 580,.int 1000000 581]) ::
(nat_lit 284,Obj.mk (.type u0) Option.none (.dict #[de P (a 2 3) 585 (.ref 285),de P (a 2 5) 589 (.ref 286),de P (a 1 0) 595 (.ref 287),de P (a 1 4) 597 (.ref 288),de P (a 0 10) 600 (.ref 289),de P (a 1 5) 605 (.ref 290),de P (a 9 1) 607 (.ref 291),de P (a 9 3) 615 (.ref 292)] 8) #[]) ::
(nat_lit 285,oq u2 #[.str (a 1 1) 586,.str (a 1 1) 587,.str (a 19 1) 588]) ::
(nat_lit 286,oq u2 #[.str (a 19 2) 590,.str (a 17 5) 591,.str (a 17 6) 592,.str (a 17 5) 593,.str (a 17 6) 594]) ::
(nat_lit 287,oq u2 #[.str (a 1 1) 596]) ::
(nat_lit 288,oq u2 #[.str (a 1 1) 598,.str (a 19 2) 599]) ::
(nat_lit 289,oq u2 #[.str (a 1 1) 601,.str (a 19 3) 602,.str (a 19 4) 603,.str (a 19 2) 604]) ::
(nat_lit 290,oq u2 #[.str (a 1 1) 606]) ::
(nat_lit 291,oq u2 #[.str (a 19 2) 608,.str (a 17 5) 609,.str (a 17 6) 610,.str (a 17 5) 611,.str (a 17 6) 612,.str (a 19 5) 613,.str (a 19 6) 614]) ::
(nat_lit 292,oq u2 #[.str (a 19 2) 616,.str (a 19 2) 617,.str (a 19 6) 618]) ::
(nat_lit 298,cq u3 (a 22 3) (a 18 2) 628 629 630 158 1 293 181 294 (.ref 295) (.ref 296) (.ref 297) 632 633) ::
(nat_lit 299,Obj.mk (.type u4) Option.none (.func (fq (a 18 2) (tp 34) (.str (a 20 11) 563) (.ref 298))) #[]) ::
(nat_lit 305,cq u3 (a 22 3) (a 13 9) 635 636 637 160 2 300 181 301 (.ref 302) (.ref 303) (.ref 304) 640 641) ::
(nat_lit 306,Obj.mk (.type u4) Option.none (.func (fq (a 13 9) (tp 35) (.str (a 20 11) 563) (.ref 305))) #[]) ::
(nat_lit 310,cq u3 (a 22 3) (a 16 11) 643 644 645 164 3 307 181 308 (.none) (.none) (.ref 309) 646 647) ::
(nat_lit 311,Obj.mk (.type u4) Option.none (.func (fq (a 16 11) (tp 36) (.str (a 20 11) 563) (.ref 310))) #[]) ::
(nat_lit 317,cq u3 (a 22 3) (a 18 6) 649 650 651 169 2 312 181 313 (.ref 314) (.ref 315) (.ref 316) 654 655) ::
(nat_lit 318,Obj.mk (.type u4) Option.none (.func (fq (a 18 6) (tp 37) (.str (a 20 11) 563) (.ref 317))) #[]) ::
(nat_lit 324,cq u3 (a 22 3) (a 18 8) 657 658 659 171 2 319 181 320 (.ref 321) (.ref 322) (.ref 323) 662 663) ::
(nat_lit 325,Obj.mk (.type u4) Option.none (.func (fq (a 18 8) (tp 38) (.str (a 20 11) 563) (.ref 324))) #[]) ::
(nat_lit 329,cq u3 (a 22 3) (a 18 9) 665 666 667 173 2 326 181 327 (.none) (.none) (.ref 328) 668 669) ::
(nat_lit 330,Obj.mk (.type u4) Option.none (.func (fq (a 18 9) (tp 39) (.str (a 20 11) 563) (.ref 329))) #[]) ::
(nat_lit 336,cq u3 (a 22 3) (a 16 9) 671 672 673 179 2 331 181 332 (.ref 333) (.ref 334) (.ref 335) 676 677) ::
(nat_lit 337,Obj.mk (.type u4) Option.none (.func (fq (a 16 9) (tp 40) (.str (a 20 11) 563) (.ref 336))) #[]) ::
(nat_lit 343,cq u3 (a 22 3) (a 17 0) 679 680 681 181 1 338 181 339 (.ref 340) (.ref 341) (.ref 342) 683 684) ::
(nat_lit 344,Obj.mk (.type u4) Option.none (.func (fq (a 17 0) (tp 41) (.str (a 20 11) 563) (.ref 343))) #[]) ::
(nat_lit 350,cq u3 (a 22 3) (a 8 4) 686 687 688 187 2 345 181 346 (.ref 347) (.ref 348) (.ref 349) 691 692) ::
(nat_lit 351,Obj.mk (.type u4) Option.none (.func (fq (a 8 4) (tp 42) (.str (a 20 11) 563) (.ref 350))) #[]) ::
(nat_lit 448,oq u2 #[.int 1 831,.int 24 832]) ::
(nat_lit 449,oq u2 #[.int 0 834,.int 12 835]) ::
(nat_lit 450,oq u2 #[.int 1 837,.int 400 838]) ::
(nat_lit 456,cq u3 (a 22 3) (a 7 6) 842 843 844 261 4 451 181 452 (.ref 453) (.ref 454) (.ref 455) 849 850) ::
(nat_lit 457,Obj.mk (.type u4) Option.none (.func (fq (a 7 6) (tp 66) (.str (a 14 11) 829) (.ref 456))) #[]) ::
(nat_lit 463,cq u3 (a 22 3) (a 8 3) 852 853 854 264 1 458 181 459 (.ref 460) (.ref 461) (.ref 462) 856 857) ::
(nat_lit 464,Obj.mk (.type u4) Option.none (.func (fq (a 8 3) (tp 67) (.str (a 14 11) 829) (.ref 463))) #[]) ::
(nat_lit 477,Obj.mk (.type u3) Option.none (.fields #[.str (a 7 1) 871,.str (a 24 8) 872,.str (a 22 3) 873,.int 269 0,.int 5 0,.int 0 0,.int 0 0,.int 3 0,.ref 472,.bool Bool.true,.int 181 0,.ref 473,.none,.ref 474,.ref 475,.ref 476,.int 879 0,.int 269 0,.str (a 22 3) 880]) #[]) ::
(nat_lit 478,Obj.mk (.type u4) Option.none (.func (fnD (a 7 1) (a 24 8) (cb (tp 68) 0) 3 [] .none .none .none (.str (a 14 11) 829) Option.none (.ref 477) .none 0)) #[]) ::
(nat_lit 484,Obj.mk (.type u3) Option.none (.fields #[.str (a 5 2) 882,.str (a 24 9) 883,.str (a 22 3) 884,.int 280 0,.int 3 0,.int 0 0,.int 0 0,.int 3 0,.ref 479,.bool Bool.true,.int 181 0,.ref 480,.none,.ref 481,.ref 482,.ref 483,.int 888 0,.int 280 0,.str (a 22 3) 889]) #[]) ::
(nat_lit 485,Obj.mk (.type u4) Option.none (.func (fnD (a 5 2) (a 24 9) (cb (tp 68) 1) 3 [] .none .none .none (.str (a 14 11) 829) Option.none (.ref 484) .none 0)) #[]) ::
(nat_lit 491,Obj.mk (.type u3) Option.none (.fields #[.str (a 8 9) 891,.str (a 24 10) 892,.str (a 22 3) 893,.int 289 0,.int 2 0,.int 0 0,.int 0 0,.int 3 0,.ref 486,.bool Bool.true,.int 181 0,.ref 487,.none,.ref 488,.ref 489,.ref 490,.int 896 0,.int 289 0,.str (a 22 3) 897]) #[]) ::
(nat_lit 492,Obj.mk (.type u4) Option.none (.func (fnD (a 8 9) (a 24 10) (cb (tp 68) 2) 3 [] .none .none .none (.str (a 14 11) 829) Option.none (.ref 491) .none 0)) #[]) ::
(nat_lit 498,Obj.mk (.type u3) Option.none (.fields #[.str (a 8 10) 899,.str (a 24 11) 900,.str (a 22 3) 901,.int 302 0,.int 2 0,.int 0 0,.int 0 0,.int 3 0,.ref 493,.bool Bool.true,.int 181 0,.ref 494,.none,.ref 495,.ref 496,.ref 497,.int 904 0,.int 302 0,.str (a 22 3) 905]) #[]) ::
(nat_lit 499,Obj.mk (.type u4) Option.none (.func (fnD (a 8 10) (a 24 11) (cb (tp 68) 3) 3 [] .none .none .none (.str (a 14 11) 829) Option.none (.ref 498) .none 0)) #[]) ::
(nat_lit 512,Obj.mk (.type u3) Option.none (.fields #[.str (a 9 0) 917,.str (a 25 1) 918,.str (a 22 3) 919,.int 319 0,.int 2 0,.int 0 0,.int 0 0,.int 3 0,.ref 507,.bool Bool.true,.int 181 0,.ref 508,.none,.ref 509,.ref 510,.ref 511,.int 924 0,.int 319 0,.str (a 22 3) 925]) #[]) ::
(nat_lit 513,Obj.mk (.type u4) Option.none (.func (fnD (a 9 0) (a 25 1) (cb (tp 68) 5) 3 [] .none .none .none (.str (a 14 11) 829) Option.none (.ref 512) .none 0)) #[]) ::
(nat_lit 547,Obj.mk (.type u3) Option.none (.fields #[.str (a 3 8) 965,.str (a 25 6) 966,.str (a 22 3) 967,.int 349 0,.int 2 0,.int 0 0,.int 0 0,.int 3 0,.ref 542,.bool Bool.true,.int 181 0,.ref 543,.none,.ref 544,.ref 545,.ref 546,.int 970 0,.int 349 0,.str (a 22 3) 971]) #[]) ::
(nat_lit 548,Obj.mk (.type u4) Option.none (.func (fnD (a 3 8) (a 25 6) (cb (tp 68) 10) 3 [] .none .none .none (.str (a 14 11) 829) Option.none (.ref 547) .none 0)) #[]) ::
(nat_lit 603,Obj.mk (.type u3) Option.none (.fields #[.str (a 3 1) 1024,.str (a 26 2) 1025,.str (a 22 3) 1026,.int 380 0,.int 2 0,.int 0 0,.int 0 0,.int 3 0,.ref 598,.bool Bool.true,.int 181 0,.ref 599,.none,.ref 600,.ref 601,.ref 602,.int 1030 0,.int 380 0,.str (a 22 3) 1031]) #[]) ::
(nat_lit 604,Obj.mk (.type u4) Option.none (.func (fnD (a 3 1) (a 26 2) (cb (tp 68) 18) 3 [] .none .none .none (.str (a 14 11) 829) Option.none (.ref 603) .none 0)) #[]) ::
(nat_lit 610,Obj.mk (.type u3) Option.none (.fields #[.str (a 3 4) 1033,.str (a 26 3) 1034,.str (a 22 3) 1035,.int 384 0,.int 2 0,.int 0 0,.int 0 0,.int 3 0,.ref 605,.bool Bool.true,.int 181 0,.ref 606,.none,.ref 607,.ref 608,.ref 609,.int 1038 0,.int 384 0,.str (a 22 3) 1039]) #[]) ::
(nat_lit 611,Obj.mk (.type u4) Option.none (.func (fnD (a 3 4) (a 26 3) (cb (tp 68) 19) 3 [] .none .none .none (.str (a 14 11) 829) Option.none (.ref 610) .none 0)) #[]) ::
(nat_lit 617,Obj.mk (.type u3) Option.none (.fields #[.str (a 3 3) 1041,.str (a 26 4) 1042,.str (a 22 3) 1043,.int 387 0,.int 2 0,.int 0 0,.int 0 0,.int 3 0,.ref 612,.bool Bool.true,.int 181 0,.ref 613,.none,.ref 614,.ref 615,.ref 616,.int 1046 0,.int 387 0,.str (a 22 3) 1047]) #[]) ::
(nat_lit 618,Obj.mk (.type u4) Option.none (.func (fnD (a 3 3) (a 26 4) (cb (tp 68) 20) 3 [] .none .none .none (.str (a 14 11) 829) Option.none (.ref 617) .none 0)) #[]) ::
(nat_lit 638,Obj.mk (.type u3) Option.none (.fields #[.str (a 3 7) 1063,.str (a 26 7) 1064,.str (a 22 3) 1065,.int 396 0,.int 1 0,.int 0 0,.int 0 0,.int 3 0,.ref 633,.bool Bool.true,.int 181 0,.ref 634,.none,.ref 635,.ref 636,.ref 637,.int 1068 0,.int 396 0,.str (a 22 3) 1069]) #[]) ::
(nat_lit 639,Obj.mk (.type u4) Option.none (.func (fnD (a 3 7) (a 26 7) (cb (tp 68) 23) 3 [] .none .none .none (.str (a 14 11) 829) Option.none (.ref 638) .none 0)) #[]) ::
(nat_lit 641,Obj.mk (.type u0) Option.none (.dict #[de P (a 23 1) 866 (.str (a 14 11) 829),de P (a 23 2) 870 (.int 267 869),de P (a 7 1) 881 (.ref 478),de P (a 5 2) 890 (.ref 485),de P (a 8 9) 898 (.ref 492),de P (a 8 10) 906 (.ref 499),de P (a 8 11) 916 (.ref 506),de P (a 9 0) 926 (.ref 513),de P (a 9 2) 937 (.ref 520),de P (a 9 4) 945 (.ref 527),de P (a 10 4) 954 (.ref 534),de P (a 10 1) 964 (.ref 541),de P (a 3 8) 972 (.ref 548),de P (a 10 11) 979 (.ref 555),de P (a 5 8) 986 (.ref 562),de P (a 1 2) 993 (.ref 569),de P (a 1 8) 1000 (.ref 576),de P (a 0 3) 1007 (.ref 583),de P (a 2 4) 1015 (.ref 590),de P (a 2 0) 1023 (.ref 597),de P (a 3 1) 1032 (.ref 604),de P (a 3 4) 1040 (.ref 611),de P (a 3 3) 1048 (.ref 618),de P (a 11 11) 1055 (.ref 625),de P (a 12 0) 1062 (.ref 632),de P (a 3 7) 1070 (.ref 639),de P (a 23 3) 1079 (.ref 640),de P (a 23 9) 1081 (.ref 643),de P (a 23 4) 1083 (.ref 644),de P (a 22 4) 1084 .none] 4) #[]) ::
(nat_lit 642,Obj.mk (.type u7) Option.none (.cls (ClassData.mk (a 4 4) [.type u10] [.ref 642,.type u10] 641 (a 4 4) Bool.true [] [] Bool.false Option.none Bool.false)) #[Option.none,Option.none,Option.some (.str (a 4 4) 859),Option.some (.str (a 4 4) 867),Option.some (.builtin u13),Option.some (.bool Bool.true)]) ::
(nat_lit 652,cq u3 (a 22 3) (a 4 2) 1089 1090 1091 406 4 647 181 648 (.ref 649) (.ref 650) (.ref 651) 1102 1103) ::
(nat_lit 653,Obj.mk (.type u4) Option.none (.func (fq (a 4 2) (tp 70) (.str (a 12 3) 1087) (.ref 652))) #[]) ::
(nat_lit 657,cq u3 (a 22 3) (a 3 0) 1105 1106 1107 421 2 654 181 655 (.none) (.none) (.ref 656) 1108 1109) ::
(nat_lit 658,Obj.mk (.type u4) Option.none (.func (fq (a 3 0) (tp 71) (.str (a 12 3) 1087) (.ref 657))) #[]) ::
(nat_lit 664,cq u3 (a 22 3) (a 4 3) 1111 1112 1113 430 2 659 181 660 (.ref 661) (.ref 662) (.ref 663) 1117 1118) ::
(nat_lit 665,Obj.mk (.type u4) Option.none (.func (fq (a 4 3) (tp 72) (.str (a 12 3) 1087) (.ref 664))) #[]) ::
(nat_lit 671,cq u3 (a 22 3) (a 5 4) 1120 1121 1122 433 2 666 181 667 (.ref 668) (.ref 669) (.ref 670) 1125 1126) ::
(nat_lit 672,Obj.mk (.type u4) Option.none (.func (fq (a 5 4) (tp 73) (.str (a 12 3) 1087) (.ref 671))) #[]) ::
(nat_lit 678,cq u3 (a 22 3) (a 4 5) 1128 1129 1130 435 2 673 181 674 (.ref 675) (.ref 676) (.ref 677) 1134 1135) ::
(nat_lit 679,Obj.mk (.type u4) Option.none (.func (fq (a 4 5) (tp 74) (.str (a 12 3) 1087) (.ref 678))) #[]) ::
(nat_lit 685,cq u3 (a 22 3) (a 0 6) 1137 1138 1139 441 2 680 181 681 (.ref 682) (.ref 683) (.ref 684) 1143 1144) ::
(nat_lit 686,Obj.mk (.type u4) Option.none (.func (fq (a 0 6) (tp 75) (.str (a 12 3) 1087) (.ref 685))) #[]) ::
(nat_lit 690,cq u3 (a 22 3) (a 2 8) 1146 1147 1148 448 3 687 181 688 (.none) (.none) (.ref 689) 1149 1150) ::
(nat_lit 691,Obj.mk (.type u4) Option.none (.func (fq (a 2 8) (tp 76) (.str (a 12 3) 1087) (.ref 690))) #[]) ::
(nat_lit 704,cq u3 (a 22 3) (a 0 0) 1164 1165 1166 467 2 699 181 700 (.ref 701) (.ref 702) (.ref 703) 1170 1171) ::
(nat_lit 705,Obj.mk (.type u4) Option.none (.func (fq (a 0 0) (tp 78) (.str (a 12 3) 1087) (.ref 704))) #[]) ::
(nat_lit 718,cq u3 (a 22 3) (a 2 1) 1181 1182 1183 492 3 713 181 714 (.ref 715) (.ref 716) (.ref 717) 1189 1190) ::
(nat_lit 719,Obj.mk (.type u4) Option.none (.func (fq (a 2 1) (tp 80) (.str (a 12 3) 1087) (.ref 718))) #[]) ::
(nat_lit 725,cq u3 (a 22 3) (a 2 10) 1192 1193 1194 507 2 720 181 721 (.ref 722) (.ref 723) (.ref 724) 1198 1199) ::
(nat_lit 726,Obj.mk (.type u4) Option.none (.func (fq (a 2 10) (tp 81) (.str (a 12 3) 1087) (.ref 725))) #[]) ::
(nat_lit 732,cq u3 (a 22 3) (a 3 5) 1201 1202 1203 512 3 727 181 728 (.ref 729) (.ref 730) (.ref 731) 1210 1211) ::
(nat_lit 733,Obj.mk (.type u4) Option.none (.func (fq (a 3 5) (tp 82) (.str (a 12 3) 1087) (.ref 732))) #[]) ::
(nat_lit 739,cq u3 (a 22 3) (a 3 11) 1213 1214 1215 520 1 734 181 735 (.ref 736) (.ref 737) (.ref 738) 1228 1229) ::
(nat_lit 740,Obj.mk (.type u4) Option.none (.func (fq (a 3 11) (tp 83) (.str (a 12 3) 1087) (.ref 739))) #[])::[]
noncomputable def KF:Params→Qqq:=KG top Af b0 b1 b2 b3 b4 b5 b6 b7 b8 b9 b10 b11 b12 b13 b14 b15
noncomputable def KH(P:Params):Qqq:=by refine'(?f:(x:Qqq)→KF P=x→Qqq) _ ?h; (case f=>exact fun x _=>x); (case h=>conv=>lhs; whnf)
end K15
namespace PySem.W.Fast
open PySem K15
noncomputable def tw15771873153845470258:Program:=G tw17312316708760103540
theorem te15771873153845470258:PySem.Challenge.pw_dipright_k15_a_claim_kept_by_work=tw15771873153845470258:=Eq.trans (b:=G Af) (by kernel_rfl) (congrArg G te17312316708760103540)
noncomputable def qz1(i:Nat):Stmt:=tw15771873153845470258.main.body.getD i (.Pass ⟨0,0,0,0⟩)
theorem qq0:top=qz1:=funext fun i=>congrArg (fun p:Program=>p.main.body.getD i (.Pass ⟨0,0,0,0⟩)) te15771873153845470258
noncomputable def qqu:Params→Frag:=KG qz1 tw17312316708760103540 tw11126984499932659576 tw50256093251094475 tw8804942872958998080 tw9288036697282781956 tw11903211624923332442 tw10850793215161868155 tw405483147467979350 tw6113920748561194239 tw15200202150144052523 tw3395893700800476230 tw11166737518335137758 tw9102165369389377882 tw1682763338726164051 tw4777818663523540212 tw668066795221352286 tw1158652480253724409
theorem te4903278782368867884:KF=qqu:=congr (congr (congr (congr (congr (congr (congr (congr (congr (congr (congr (congr (congr (congr (congr (congr (congr (congrArg KG qq0) te17312316708760103540) te11126984499932659576) te50256093251094475) te8804942872958998080) te9288036697282781956) te11903211624923332442) te10850793215161868155) te405483147467979350) te6113920748561194239) te15200202150144052523) te3395893700800476230) te11166737518335137758) te9102165369389377882) te1682763338726164051) te4777818663523540212) te668066795221352286) te1158652480253724409
end PySem.W.Fast
namespace K15
open PySem PySem.W PySem.Calls PyProof.Rows HD
abbrev ads:List Addr:=[3,112,113,117,118,145,146,152,153,166,167,173,174,180,181,187,188,190,191,208,209,215,216,222,223,234,235,241,242,248,249,255,256,269,270,272,273,278,279,280,281,282,283,284,285,286,287,288,289,290,291,292,298,299,305,306,310,311,317,318,324,325,329,330,336,337,343,344,350,351,448,449,450,456,457,463,464,477,478,484,485,491,492,498,499,512,513,547,548,603,604,610,611,617,618,638,639,641,642,652,653,657,658,664,665,671,672,678,679,685,686,690,691,704,705,718,719,725,726,732,733,739,740]
abbrev loose:List Str:=["ASKS"]
def vw(p:Program):Program:=view p [0,2,3,4,5,6,7,8,10,11,12,13,14,15,16,17,18,20,21,23,24,26,27,28,29,30,31,32,33,34,35,36,37,38,39,40,41,42,44,45,46,47,49,50,51,52,54,55,56,57,58,59,60,62,63,64,65,66,67,68,70,71,72,73,74,75,76,77,78,79,80,81,82,83]
noncomputable def Xt(q:Program)(s:Shared):Bool:=xlAt q [] s&&recOk (RowW.records (OpenRow.toRowW (OpenLaw.row PySem.Challenge.rw_dipright_k15_a_claim_kept_by_work))) s
theorem pre:∀ w:World,(fun os=>topGo treeTable PySem.Challenge.pw_dipright_k15_a_claim_kept_by_work w 11 an 12 ⟨boot_heap w.params,#[],boot_drawn,boot_toks,os⟩ (topStub PySem.Challenge.pw_dipright_k15_a_claim_kept_by_work))=fun os=>some ((Sa w os).abs,⟨denote treeTable (cE PySem.Challenge.pw_dipright_k15_a_claim_kept_by_work),cE PySem.Challenge.pw_dipright_k15_a_claim_kept_by_work,p0,[topFrame p0]⟩):=by
 rw[Fast.te15667345088766844465,Fast.te14364793385576792824,Fast.te11892475500146522536,Fast.te15771873153845470258]
 exact fun w=>by kernel_rfl
theorem blk:∀ w:World,(fun os=>segRun treeTable PySem.Challenge.pw_dipright_k15_a_claim_kept_by_work w 11 an 1 1 (Sa w os).abs (blockOf (behindTheImports PySem.Challenge.pw_dipright_k15_a_claim_kept_by_work) (ev PySem.Challenge.pw_dipright_k15_a_claim_kept_by_work) (cE PySem.Challenge.pw_dipright_k15_a_claim_kept_by_work) p0 [topFrame p0]))=fun os=>some (Flow.next,(Sa w os).abs,cE PySem.Challenge.pw_dipright_k15_a_claim_kept_by_work,p0):=by
 rw[Fast.te14374325043358763698,Fast.te14364793385576792824,Fast.te15771873153845470258]
 exact fun w=>by kernel_rfl
noncomputable def GA(w:World):Prop:=(fun os=>(Rn PySem.Challenge.pw_dipright_k15_a_claim_kept_by_work 5169 w os).map fun r=>(r.1,r.2.2.1,r.2.2.2,LA PySem.Challenge.pw_dipright_k15_a_claim_kept_by_work (vw PySem.Challenge.pw_dipright_k15_a_claim_kept_by_work) ads w r.2.1.abs))=fun _=>some (Flow.next,cE PySem.Challenge.pw_dipright_k15_a_claim_kept_by_work,⟨520,0,544,15⟩,true,expectedOf (vw PySem.Challenge.pw_dipright_k15_a_claim_kept_by_work),(KF w.params).map fun p=>some p.2)
theorem gAf:∀ w:World,GA (w.withFollow "special-get-raises" false):=by
 unfold GA Rn LA
 rw[Fast.te10110043849684766642,Fast.te14364793385576792824,Fast.te5923862056798008813,Fast.te15771873153845470258,Fast.te4903278782368867884]
 exact fun w=>by kernel_rfl
theorem gAt:∀ w:World,GA (w.withFollow "special-get-raises" true):=by
 unfold GA Rn LA
 rw[Fast.te10110043849684766642,Fast.te14364793385576792824,Fast.te5923862056798008813,Fast.te15771873153845470258,Fast.te4903278782368867884]
 exact fun w=>by kernel_rfl
noncomputable def GB(w:World):Prop:=(fun os=>(Rn PySem.Challenge.pw_dipright_k15_a_claim_kept_by_work 5169 w os).map fun r=>LB PySem.Challenge.pw_dipright_k15_a_claim_kept_by_work (vw PySem.Challenge.pw_dipright_k15_a_claim_kept_by_work) loose Xt r.2.1.abs)=fun _=>some true
theorem gBf:∀ w:World,GB (w.withFollow "special-get-raises" false):=by
 unfold GB Rn LB
 rw[Fast.te10110043849684766642,Fast.te14364793385576792824,Fast.te5923862056798008813,Fast.te15771873153845470258]
 exact fun w=>by kernel_rfl
theorem gBt:∀ w:World,GB (w.withFollow "special-get-raises" true):=by
 unfold GB Rn LB
 rw[Fast.te10110043849684766642,Fast.te14364793385576792824,Fast.te5923862056798008813,Fast.te15771873153845470258]
 exact fun w=>by kernel_rfl
noncomputable def GC(w:World):Prop:=(fun os=>(Rn PySem.Challenge.pw_dipright_k15_a_claim_kept_by_work 5169 w os).map fun r=>plainSeenE (vw PySem.Challenge.pw_dipright_k15_a_claim_kept_by_work) (looseW (vw PySem.Challenge.pw_dipright_k15_a_claim_kept_by_work) loose) r.2.1.abs)=fun _=>some (plainGoodE (vw PySem.Challenge.pw_dipright_k15_a_claim_kept_by_work) (looseW (vw PySem.Challenge.pw_dipright_k15_a_claim_kept_by_work) loose))
theorem gCf:∀ w:World,GC (w.withFollow "special-get-raises" false):=by
 unfold GC Rn 
 rw[Fast.te10110043849684766642,Fast.te14364793385576792824,Fast.te15771873153845470258]
 exact fun w=>by kernel_rfl
theorem gCt:∀ w:World,GC (w.withFollow "special-get-raises" true):=by
 unfold GC Rn 
 rw[Fast.te10110043849684766642,Fast.te14364793385576792824,Fast.te15771873153845470258]
 exact fun w=>by kernel_rfl
noncomputable def GD(w:World):Prop:=(fun os=>(Rn PySem.Challenge.pw_dipright_k15_a_claim_kept_by_work 5169 w os).map fun r=>LD (vw PySem.Challenge.pw_dipright_k15_a_claim_kept_by_work) loose r.2.1.abs)=fun _=>some (bltViewBooted,true,pinGoodD (drecsOf (vw PySem.Challenge.pw_dipright_k15_a_claim_kept_by_work)),clsGoodW (vw PySem.Challenge.pw_dipright_k15_a_claim_kept_by_work) loose)
theorem gDf:∀ w:World,GD (w.withFollow "special-get-raises" false):=by
 unfold GD Rn LD
 rw[Fast.te10110043849684766642,Fast.te14364793385576792824,Fast.te15771873153845470258]
 exact fun w=>by kernel_rfl
theorem gDt:∀ w:World,GD (w.withFollow "special-get-raises" true):=by
 unfold GD Rn LD
 rw[Fast.te10110043849684766642,Fast.te14364793385576792824,Fast.te15771873153845470258]
 exact fun w=>by kernel_rfl
noncomputable def GE(w:World):Prop:=(fun os=>(Rn PySem.Challenge.pw_dipright_k15_a_claim_kept_by_work 5169 w os).map fun r=>LG (vw PySem.Challenge.pw_dipright_k15_a_claim_kept_by_work) loose r.2.1.abs)=fun _=>some (wideGood (vw PySem.Challenge.pw_dipright_k15_a_claim_kept_by_work),plainGoodD (vw PySem.Challenge.pw_dipright_k15_a_claim_kept_by_work) loose)
theorem gEf:∀ w:World,GE (w.withFollow "special-get-raises" false):=by
 unfold GE Rn LG
 rw[Fast.te10110043849684766642,Fast.te14364793385576792824,Fast.te15771873153845470258]
 exact fun w=>by kernel_rfl
theorem gEt:∀ w:World,GE (w.withFollow "special-get-raises" true):=by
 unfold GE Rn LG
 rw[Fast.te10110043849684766642,Fast.te14364793385576792824,Fast.te15771873153845470258]
 exact fun w=>by kernel_rfl
theorem left:LeftO PySem.Challenge.pw_dipright_k15_a_claim_kept_by_work (vw PySem.Challenge.pw_dipright_k15_a_claim_kept_by_work) loose (Xt (vw PySem.Challenge.pw_dipright_k15_a_claim_kept_by_work)) (fun s=>ads.map s.heap.get?) (fun w=>(KF w.params).map fun p=>some p.2) 10462:=
 lo3 (boot_open (by kernel_rfl) (by decide) (fun s=>by kernel_rfl)) (fun w=>by kernel_rfl) pre blk (byRow2 "special-get-raises" gAf gAt) (byRow2 "special-get-raises" gBf gBt) (byRow2 "special-get-raises" gCf gCt) (byRow2 "special-get-raises" gDf gDt) (byRow2 "special-get-raises" gEf gEt) (by decide)
end K15
namespace L2
open PySem PySem.Spec PyProof.Rows
abbrev Key:=Sum Int Str
noncomputable def qe4:Key→Value→Bool
 |.inl k,v=>Value.isInt k v
 |.inr x,v=>Value.isStrOf x v
noncomputable def keyH(w:World):Key→Int
 |.inl k=>hashInt k
 |.inr x=>hashStr w x
theorem qzg:∀ {k:Key}{v:Value},qe4 k v=true→(∃ i t,k=Sum.inl i∧v=Value.int i t)∨(∃ x t,k=Sum.inr x∧v=Value.str x t)
 |.inl i,v,h=>by
  obtain⟨t,e⟩:=Value.isInt_shape (k:=i) (v:=v) h
  exact .inl ⟨i,t,rfl,e⟩
 |.inr x,v,h=>by
  obtain⟨t,e⟩:=Value.isStrOf_shape (x:=x) (v:=v) h
  exact .inr ⟨x,t,rfl,e⟩
theorem qhz(i:Int)(t:Tok):qe4 (.inl i) (.int i t)=true:=by simp[qe4,Value.isInt]
theorem qg9(x:Str)(t:Tok):qe4 (.inr x) (.str x t)=true:=by simp[qe4,Value.isStrOf]
theorem key_ll(a b:Int):decide ((Sum.inl a:Key)=Sum.inl b)=(a==b):=by
 by_cases e:a=b
 ·subst e; simp
 ·have h:¬ (Sum.inl a:Key)=Sum.inl b:=fun q=>e (Sum.inl.inj q)
  rw[decide_eq_false h]
  exact(beq_eq_false_iff_ne.mpr e).symm
theorem key_rr(a b:Str):decide ((Sum.inr a:Key)=Sum.inr b)=decide (a=b):=by
 by_cases e:a=b
 ·subst e; simp
 ·have h:¬ (Sum.inr a:Key)=Sum.inr b:=fun q=>e (Sum.inr.inj q)
  rw[decide_eq_false h,decide_eq_false e]
theorem key_lr(a:Int)(b:Str):decide ((Sum.inl a:Key)=Sum.inr b)=false:=decide_eq_false (fun q=>nomatch q)
theorem key_rl(a:Str)(b:Int):decide ((Sum.inr a:Key)=Sum.inl b)=false:=decide_eq_false (fun q=>nomatch q)
noncomputable def mixKind(prog:Program)(w:World):PySem.KeyKind prog w Key where
 is:=qe4
 hash:=keyH w
 inj:=fun v a b ha hb=>by
  rcases qzg ha with⟨i,t,rfl,rfl⟩|⟨x,t,rfl,rfl⟩
  ·rcases qzg hb with⟨j,u,rfl,e⟩|⟨y,u,rfl,e⟩
   ·injection e with e1 _; rw[e1]
   ·exact nomatch e
  ·rcases qzg hb with⟨j,u,rfl,e⟩|⟨y,u,rfl,e⟩
   ·exact nomatch e
   ·injection e with e1 _; rw[e1]
 byValue:=fun k v h=>by
  rcases qzg h with⟨i,t,rfl,rfl⟩|⟨x,t,rfl,rfl⟩<;>rfl
 pyHash:=fun hv h=>by
  rcases qzg hv with⟨i,t,rfl,rfl⟩|⟨x,t,rfl,rfl⟩
  ·exact wpAny_pyHash_int h
  ·exact wpAny_pyHash_str h
 eqBool:=fun hu hv h=>by
  rcases qzg hu with⟨i,t,rfl,rfl⟩|⟨x,t,rfl,rfl⟩
  ·rcases qzg hv with⟨j,u,rfl,rfl⟩|⟨y,u,rfl,rfl⟩
   ·rw[key_ll]at h; exact wpAny_eqBool_int h
   ·rw[key_lr]at h; exact SeqAt.EqAt.int_str i t y u _ _ _ _ h
  ·rcases qzg hv with⟨j,u,rfl,rfl⟩|⟨y,u,rfl,rfl⟩
   ·rw[key_rl]at h; exact SeqAt.EqAt.str_int x t j u _ _ _ _ h
   ·rw[key_rr]at h; exact wpAny_eqBool_str h
 «strs»:=fun k x t v h=>by
  rcases qzg h with⟨i,u,rfl,e⟩|⟨y,u,rfl,e⟩
  ·exact nomatch e
  ·injection e with e1 _
   subst e1
   cases v<;>rfl
theorem qcf(prog:Program)(w:World)(i:Int)(t:Tok):(mixKind prog w).is (.inl i) (.int i t)=true:=qhz i t
theorem qxo(prog:Program)(w:World)(x:Str)(t:Tok):(mixKind prog w).is (.inr x) (.str x t)=true:=qg9 x t
end L2
namespace L2
open PySem PySem.Spec PyProof.Rows
inductive V where
 |non|bl (b:Bool)|int (i:Int)|str (x:Str)|byt (b:Array UInt8)|flt (b:UInt64)|ref (a:Addr)|ty (n:String)
 deriving DecidableEq
noncomputable def RelV:V→Value→Prop
 |.non,u=>u=Value.none
 |.bl b,u=>u=Value.bool b
 |.int i,u=>∃ t,u=Value.int i t
 |.str x,u=>∃ t,u=Value.str x t
 |.byt b,u=>∃ t,u=Value.bytes b t
 |.flt b,u=>∃ t,u=Value.float b t
 |.ref a,u=>u=Value.ref a
 |.ty n,u=>u=Value.type n
abbrev Vals:List V→List Value→Prop:=Paired RelV
theorem Vals.length{xs:List V}{us:List Value}(r:Vals xs us):xs.length=us.length:=Paired.length r
theorem Vals.get:∀ {xs:List V}{us:List Value}{i:Nat}{x:V},Vals xs us→xs[i]?=some x→∃ u,us[i]?=some u∧RelV x u
 |_,_,_,_,.nil,e=>by simp at e
 |_,_,0,_,.cons r _,e=>by simp at e; subst e; exact⟨_,rfl,r⟩
 |_,_,i+1,x,.cons _ t,e=>by
  obtain⟨u,h1,h2⟩:=Vals.get (i:=i) (x:=x) t (by simpa using e)
  exact⟨u,by simpa using h1,h2⟩
theorem Vals.set{x:V}{u:Value}(r:RelV x u):∀ {xs:List V}{us:List Value}(i:Nat),Vals xs us→Vals (xs.set i x) (us.set i u)
 |_,_,_,.nil=>.nil
 |_,_,0,.cons _ t=>.cons r t
 |_,_,i+1,.cons q t=>.cons q (Vals.set r i t)
theorem Vals.append:∀ {xs ys:List V}{us ws:List Value},Vals xs us→Vals ys ws→Vals (xs++ys) (us++ws)
 |_,_,_,_,.nil,s=>s
 |_,_,_,_,.cons r t,s=>.cons r (Vals.append t s)
theorem Vals.take:∀ {xs:List V}{us:List Value}(n:Nat),Vals xs us→Vals (xs.take n) (us.take n)
 |_,_,0,_=>.nil
 |_,_,_+1,.nil=>.nil
 |_,_,n+1,.cons r t=>.cons r (Vals.take n t)
theorem Vals.drop:∀ {xs:List V}{us:List Value}(n:Nat),Vals xs us→Vals (xs.drop n) (us.drop n)
 |_,_,0,r=>r
 |_,_,_+1,.nil=>.nil
 |_,_,n+1,.cons _ t=>Vals.drop n t
theorem Vals.none_of:∀ {xs:List V}{us:List Value}{i:Nat},Vals xs us→xs[i]?=none→us[i]?=none:=fun {xs us i} r e=>by
 have h1:=r.length
 have h2:xs.length≤i:=Qqt.mp e
 exact Qqt.mpr (by omega)
noncomputable def RelO:Option V→Option Value→Prop
 |some v,some u=>RelV v u
 |none,none=>True
 |_,_=>False
def KV{κ:Type}:List (κ×V)→List (κ×Value)→Prop:=Paired fun(p:κ×V) (q:κ×Value)=>p.1=q.1∧RelV p.2 q.2
noncomputable def kV:Key→V
 |.inl i=>.int i
 |.inr x=>.str x
inductive HO where
 /-- a list -/
 |lst (xs:List V)
 /-- a tuple (never changes) -/
 |tup (xs:List V)
 /-- a dict whose keys are ints and texts; one whose keys are tuples of ints and texts (the empty one is both) -/
 |dK (kvs:List (Key×V))|dT (kvs:List (List Key×V))
 /-- a set of ints: its members,its size -/
 |set (S:Int→Bool) (n:Nat)
 /-- an instance of the class at C,its dict at dx,its attributes -/
 |ins (C dx:Addr) (fs:List (Str×V))
 /-- the dict of the instance at x -/
 |own (x:Addr)
 /-- the dict of an exception -/
 |xd (fs:List (Str×V))
 /-- a bound method,f of x -/
 |met (f x:Addr)
 /-- a range object lo,lo+1,.. below hi -/
 |rng (lo hi:Int)
 /-- a thing that is known to the object (the script; a dict while a loop walks it): read,never written while it is so -/
 |frz (o:Obj) (u:HO)
 /-- a code object's table -/
 |tbl (ps:Array Value)
 /-- any other thing,by what is true of its one object (a def of one's own: SetO a S n:=HO.ext fun h=>..) -/
 |ext (φ:Heap→Prop)
abbrev Hp:=Addr→Option HO
noncomputable def upd(H:Hp)(a:Addr)(o:HO):Hp:=fun b=>if b=a then some o else H b
theorem qzc{H:Hp}{a:Addr}{o:HO}:upd H a o a=some o:=by unfold upd; rw[if_pos rfl]
theorem qzj{H:Hp}{a b:Addr}{o:HO}(h:b≠a):upd H a o b=H b:=by unfold upd; rw[if_neg h]
theorem qzu{H:Hp}{a b:Addr}{o u:HO}(h:H a=some o)(h':H b=some u)(d:o≠u):a≠b:=by
 intro e; subst e; rw[h]at h'; exact d (Option.some.inj h')
theorem qzi{H:Hp}{a b:Addr}{o:HO}(h:H a=some o)(h':H b=none):a≠b:=by
 intro e; subst e; rw[h]at h'; cases h'
section
variable (P:Program)(w:World)
noncomputable def ObjOk(H:Hp)(h:Heap)(a:Addr):HO→Prop
 |.lst xs=>xs.length≤sizeLine∧∃ (its:List Value) (n:Nat),Vals xs its∧h.get? a=some { cls:=.type "list",data:=.seq its.toArray n }
 |.tup xs=>xs.length≤sizeLine∧∃ its:List Value,Vals xs its∧IsTup h a its.toArray
 |.dK kvs=>kvs.length≤sizeLine∧(a==sysModules)=false∧∃ vs,KV kvs vs∧h.DictOf (mixKind P w) a vs
 |.dT kvs=>kvs.length≤sizeLine∧(a==sysModules)=false∧∃ xs:List (List Key×Addr×Value),
   Paired (fun(p:List Key×V) (q:List Key×Addr×Value)=>p.1=q.1∧H q.2.1=some (.tup (p.1.map kV))∧RelV p.2 q.2.2) kvs xs∧
   ∃ o es ep,h.get? a=some o∧o.ExactDict∧o.data=.dict es ep∧es.toList=xs.map (entryOfKey (tupleKind (mixKind P w)))∧(xs.map (·.1)).Nodup
 |.set S n=>h.SetOf (intKind P w) a S n
 |.ins C dx fs=>H dx=some (.own a)∧fs.length≤1000∧dx≠a∧h.get? a=some (PySem.W.instObj C dx)∧
   ∃ mA,h.Ns1 dx mA∧(∀ f,RelO (fs.lookup f) (mA f))∧PySem.Within mA (fs.map (·.1))
 |.own _=>∃ o,h.get? a=some o
 |.xd fs=>∃ mA,h.Ns1 a mA∧∀ f,RelO (fs.lookup f) (mA f)
 |.rng lo hi=>∃ t u v,h.get? a=some { cls:=.type "range",data:=.fields #[.int lo t,.int hi u,.int 1 v] }
 |.frz o u=>h.get? a=some o∧ObjOk H h a u
 |.tbl ps=>h.get? a=some { cls:=.none,data:=.fields ps }
 |.met f x=>h.get? a=some (PySem.W.methodObj (.ref f) (.ref x))
 |.ext φ=>φ h∧(∃ o,h.get? a=some o)∧∀ h1 h2:Heap,φ h1→(∀ o,h1.get? a=some o→h2.get? a=some o)→φ h2
def HOk(H:Hp)(h:Heap):Prop:=∀ a o,H a=some o→ObjOk P w H h a o
end
section
variable {P:Program}{w:World}{H H':Hp}{h h':Heap}{a:Addr}{o:HO}
theorem ObjOk.lt(x:ObjOk P w H h a o):a<h.objs.size:=by
 cases o with
 |lst xs=>obtain⟨_,_,_,_,e⟩:=x; exact Qqv e
 |tup xs=>obtain⟨_,_,_,p⟩:=x; exact p.lt
 |dK kvs=>obtain⟨_,_,_,_,o,_,_,e,_⟩:=x; exact Qqv e
 |dT kvs=>obtain⟨_,_,_,_,o,_,_,e,_⟩:=x; exact Qqv e
 |set S n=>obtain⟨o,_,_,_,e,_⟩:=x; exact Qqv e
 |ins C dx fs=>obtain⟨_,_,_,e,_⟩:=x; exact Qqv e
 |own y=>obtain⟨_,e⟩:=x; exact Qqv e
 |xd fs=>obtain⟨_,⟨_,_,_,e,_⟩,_⟩:=x; exact Qqv e
 |rng lo hi=>obtain⟨_,_,_,e⟩:=x; exact Qqv e
 |frz ob u=>obtain⟨e,_⟩:=x; exact Qqv e
 |tbl ps=>exact Qqv (show h.get? a=some _ from x)
 |met f y=>exact Qqv (show h.get? a=some _ from x)
 |ext φ=>obtain⟨_,⟨_,e⟩,_⟩:=x; exact Qqv e
theorem Paired.mapP{α β:Type}{F G:α→β→Prop}:∀ {l₁:List α}{l₂:List β},Paired F l₁ l₂→(∀ a b,F a b→G a b)→Paired G l₁ l₂
 |_,_,.nil,_=>.nil
 |_,_,.cons r t,f=>.cons (f _ _ r) (Paired.mapP t f)
theorem ObjOk.stay(x:ObjOk P w H h a o)(k:∀ b u,(b=a∨H b=some (.own a))→h.get? b=some u→h'.get? b=some u)
  (ho:∀ b,H b=some (.own a)→H' b=some (.own a)) (ht:∀ b xs,H b=some (.tup xs)→H' b=some (.tup xs)):ObjOk P w H' h' a o:=by
 induction o with
 |lst xs=>obtain⟨z,its,n,r,e⟩:=x; exact⟨z,its,n,r,k _ _ (.inl rfl) e⟩
 |tup xs=>obtain⟨z,its,r,ob,e,c⟩:=x; exact⟨z,its,r,ob,k _ _ (.inl rfl) e,c⟩
 |dK kvs=>obtain⟨z,y,vs,r,ob,es,ep,e,c⟩:=x; exact⟨z,y,vs,r,ob,es,ep,k _ _ (.inl rfl) e,c⟩
 |dT kvs=>
  obtain⟨z,y,xs,r,ob,es,ep,e,c⟩:=x
  exact⟨z,y,xs,Paired.mapP r fun p q z=>⟨z.1,ht _ _ z.2.1,z.2.2⟩,ob,es,ep,k _ _ (.inl rfl) e,c⟩
 |set S n=>obtain⟨ob,es,ep,t,e,c⟩:=x; exact⟨ob,es,ep,t,k _ _ (.inl rfl) e,c⟩
 |ins C dx fs=>
  obtain⟨d,z,ne,e,mA,⟨od,es,ep,e2,c⟩,r⟩:=x
  exact⟨ho _ d,z,ne,k _ _ (.inl rfl) e,mA,⟨od,es,ep,k _ _ (.inr d) e2,c⟩,r⟩
 |own y=>obtain⟨ob,e⟩:=x; exact⟨ob,k _ _ (.inl rfl) e⟩
 |xd fs=>obtain⟨mA,⟨od,es,ep,e,c⟩,r⟩:=x; exact⟨mA,⟨od,es,ep,k _ _ (.inl rfl) e,c⟩,r⟩
 |rng lo hi=>obtain⟨t,u,v,e⟩:=x; exact⟨t,u,v,k _ _ (.inl rfl) e⟩
 |frz ob u ih=>obtain⟨e,q⟩:=x; exact⟨k _ _ (.inl rfl) e,ih q⟩
 |tbl ps=>
  have e:h.get? a=some { cls:=.none,data:=.fields ps }:=x
  show h'.get? a=some { cls:=.none,data:=.fields ps }
  exact k a _ (.inl rfl) e
 |met f y=>
  have e:h.get? a=some (PySem.W.methodObj (.ref f) (.ref y)):=x
  show h'.get? a=some (PySem.W.methodObj (.ref f) (.ref y))
  exact k a _ (.inl rfl) e
 |ext φ=>obtain⟨p,⟨o,e⟩,st⟩:=x; exact⟨st _ _ p fun o q=>k _ _ (.inl rfl) q,⟨o,k _ _ (.inl rfl) e⟩,st⟩
theorem HOk.lt(x:HOk P w H h)(e:H a=some o):a<h.objs.size:=(x a o e).lt
theorem HOk.fresh(x:HOk P w H h)(e:h.objs.size≤a):H a=none:=by
 cases q:H a with
 |none=>rfl
 |some u=>exact absurd (Qqp (x.lt q) e) (Qzi _)
theorem HOk.kept(x:HOk P w H h)(k:∀ b u,h.get? b=some u→h'.get? b=some u):HOk P w H h':=fun a o e=>
 (x a o e).stay (fun b u _ q=>k b u q) (fun _ q=>q) fun _ _ q=>q
theorem HOk.laid(x:HOk P w H h)(k:∀ b u,h.get? b=some u→h'.get? b=some u)(hp:h.objs.size≤a)(new:ObjOk P w (upd H a o) h' a o):HOk P w (upd H a o) h':=fun b u e=>by
 have hn:=x.fresh hp
 by_cases hb:b=a
 ·subst hb; rw[qzc]at e; cases e; exact new
 ·rw[qzj hb]at e
  exact(x b u e).stay (fun c v _ q=>k c v q) (fun c q=>by rw[qzj (qzi q hn)]; exact q) fun c xs q=>by rw[qzj (qzi q hn)]; exact q
end
def Rd(H:Hp)(a:Addr)(u:HO):Prop:=H a=some u∨∃ o,H a=some (.frz o u)
theorem Rd.of{H:Hp}{a:Addr}{u:HO}(h:H a=some u):Rd H a u:=.inl h
theorem Rd.ok{P:Program}{w:World}{H:Hp}{h:Heap}{a:Addr}{u:HO}(r:Rd H a u)(x:HOk P w H h):ObjOk P w H h a u:=by
 rcases r with r|⟨o,r⟩
 ·exact x a u r
 ·obtain⟨_,q⟩:=x a _ r
  exact q
noncomputable def Mut:Option HO→Prop
 |some (.lst _)=>True
 |some (.dK _)=>True
 |some (.dT _)=>True
 |some (.set _ _)=>True
 |some (.ins _ _ _)=>True
 |some (.ext _)=>True
 |_=>False
section
variable {P:Program}{w:World}{H:Hp}{h h':Heap}{x e:Addr}{o':HO}
theorem HOk.write(ok:HOk P w H h)(mu:Mut (H x))(he:e=x∨H e=some (.own x))(k:∀ b u,b≠e→h.get? b=some u→h'.get? b=some u)(heo:∃ u,h'.get? e=some u)
  (new:ObjOk P w (upd H x o') h' x o'):HOk P w (upd H x o') h':=fun b u q=>by
 have nown:∀ c y,H c=some (.own y)→c≠x:=fun c y r z=>by subst z; rw[r]at mu; exact mu
 have ntup:∀ c xs,H c=some (.tup xs)→c≠x:=fun c xs r z=>by subst z; rw[r]at mu; exact mu
 by_cases hb:b=x
 ·subst hb; rw[qzc]at q; cases q; exact new
 ·rw[qzj hb]at q
  by_cases hbe:b=e
  ·have q':H b=some (.own x):=by
    rcases he with z|z
    ·exact absurd (hbe.trans z) hb
    ·rw[hbe]; exact z
   rw[q]at q'; cases q'
   obtain⟨v,hv⟩:=heo
   exact⟨v,by rw[hbe]; exact hv⟩
  ·refine(ok b u q).stay (fun c v hc r=>k c v ?_ r) (fun c r=>by rw[qzj (nown c b r)]; exact r) fun c xs r=>by rw[qzj (ntup c xs r)]; exact r
   rcases hc with rfl|hc
   ·exact hbe
   ·rintro rfl
    rcases he with z|z
    ·exact nown c b hc z
    ·rw[hc]at z; cases z; exact hb rfl
end
structure Un (fs ex:List Addr) (H H':Hp) (h h':Heap):Prop where
 keep:∀ b o,h.get? b=some o→H b=none→b ∉ fs→b ∉ ex→h'.get? b=some o
 slot:∀ b o,h.get? b=some o→H b=none→b∈fs→b ∉ ex→∃ sl,h'.get? b=some { o with slots:=sl }
 free:∀ b o,h.get? b=some o→H b=none→b ∉ ex→H' b=none
 there:∀ b o,h.get? b=some o→b ∉ ex→∃ o',h'.get? b=some o'
 tups:∀ b xs,H b=some (.tup xs)→H' b=some (.tup xs)
 frzs:∀ b o u,H b=some (.frz o u)→H' b=some (.frz o u)
 tbls:∀ b ps,H b=some (.tbl ps)→∃ more,H' b=some (.tbl (ps++more))
section
variable {fs fs' ex ex':List Addr}{H H1 H2:Hp}{h h1 h2 h':Heap}{a x e:Addr}{o:HO}
theorem Un.any(u:Un fs ex H H1 h h1){b:Addr}{ob:Obj}(q:h.get? b=some ob)(n:H b=none)(hx:b ∉ ex):∃ sl,h1.get? b=some { ob with slots:=sl }:=by
 by_cases hb:b∈fs
 ·exact u.slot b ob q n hb hx
 ·exact⟨ob.slots,u.keep b ob q n hb hx⟩
theorem Un.trans(a:Un fs ex H H1 h h1)(b:Un fs ex H1 H2 h1 h2):Un fs ex H H2 h h2 where
 keep:=fun c ob q n hc hx=>b.keep c ob (a.keep c ob q n hc hx) (a.free c ob q n hx) hc hx
 slot:=fun c ob q n hc hx=>by
  obtain⟨sl,e1⟩:=a.slot c ob q n hc hx
  obtain⟨sl',e2⟩:=b.slot c _ e1 (a.free c ob q n hx) hc hx
  exact⟨sl',e2⟩
 free:=fun c ob q n hx=>by
  obtain⟨o',e1⟩:=a.there c ob q hx
  exact b.free c o' e1 (a.free c ob q n hx) hx
 there:=fun c ob q hx=>by
  obtain⟨o',e1⟩:=a.there c ob q hx
  exact b.there c o' e1 hx
 tups:=fun c xs q=>b.tups c xs (a.tups c xs q)
 frzs:=fun c ob xs q=>b.frzs c ob xs (a.frzs c ob xs q)
 tbls:=fun c ps q=>by
  obtain⟨m1,e1⟩:=a.tbls c ps q
  obtain⟨m2,e2⟩:=b.tbls c _ e1
  exact⟨m1++m2,by rw[e2,Array.append_assoc]⟩
theorem Un.kept(k:∀ b u,h.get? b=some u→h'.get? b=some u):Un fs ex H H h h':=
 ⟨fun b ob q _ _ _=>k b ob q,fun b ob q _ _ _=>⟨ob.slots,k b ob q⟩,fun _ _ _ n _=>n,fun b ob q _=>⟨ob,k b ob q⟩,fun _ _ q=>q,fun _ _ _ q=>q,fun _ ps q=>⟨#[],by rw[q]; simp⟩⟩
theorem Un.refl:Un fs ex H H h h:=Un.kept fun _ _ q=>q
theorem Un.laid(k:∀ b u,h.get? b=some u→h'.get? b=some u)(hp:h.objs.size≤a)(hn:H a=none):Un fs ex H (upd H a o) h h' where
 keep:=fun b u q _ _ _=>k b u q
 slot:=fun b u q _ _ _=>⟨u.slots,k b u q⟩
 free:=fun b u q n _=>by rw[qzj (Qqo (Qqp (Qqv q) hp))]; exact n
 there:=fun b u q _=>⟨u,k b u q⟩
 tups:=fun b xs q=>by rw[qzj (qzi q hn)]; exact q
 frzs:=fun b u xs q=>by rw[qzj (qzi q hn)]; exact q
 tbls:=fun b ps q=>⟨#[],by rw[qzj (qzi q hn),q]; simp⟩
theorem Un.write(mu:Mut (H x))(he:e=x∨H e=some (.own x))(k:∀ b u,b≠e→h.get? b=some u→h'.get? b=some u)(heo:∃ u,h'.get? e=some u):Un fs ex H (upd H x o) h h':=by
 have hx:∀ b,H b=none→b≠x:=fun b n z=>by subst z; rw[n]at mu; exact mu
 have hb:∀ b,H b=none→b≠e:=fun b n z=>by
  subst z
  rcases he with r|r
  ·exact hx b n r
  ·rw[n]at r; cases r
 have hm:∀ b u,H b=some u→¬ Mut (some u)→b≠x:=fun b u q nm z=>by subst z; rw[q]at mu; exact nm mu
 refine⟨fun b u q n _ _=>k b u (hb b n) q,fun b u q n _ _=>⟨u.slots,k b u (hb b n) q⟩,fun b u q n _=>by rw[qzj (hx b n)]; exact n,fun b u q _=>?_,
  fun b xs q=>by rw[qzj (hm b _ q fun z=>z)]; exact q,fun b u xs q=>by rw[qzj (hm b _ q fun z=>z)]; exact q,fun b ps q=>⟨#[],by rw[qzj (hm b _ q fun z=>z),q]; simp⟩⟩
 by_cases hbe:b=e
 ·subst hbe; exact heo
 ·exact⟨u,k b u hbe q⟩
theorem Un.mono(u:Un fs ex H H1 h h1)(hs:∀ b∈fs,b∈fs')(hx:∀ b∈ex,b∈ex'):Un fs' ex' H H1 h h1:=
 ⟨fun b ob q n hb he=>u.keep b ob q n (fun z=>hb (hs b z)) fun z=>he (hx b z),fun _ _ q n _ he=>u.any q n fun z=>he (hx _ z),fun b ob q n he=>u.free b ob q n fun z=>he (hx b z),fun b ob q he=>u.there b ob q fun z=>he (hx b z),u.tups,u.frzs,u.tbls⟩
end
noncomputable def trk(h:Heap)(H:Hp):List Addr:=(List.range h.objs.size).filter fun a=>(H a).isSome
noncomputable def hidT(h:Heap)(H:Hp):Heap:=PySem.W.hideAll h (trk h H)
theorem qhw(h:Heap)(H:Hp):(hidT h H).objs.size=h.objs.size:=PySem.W.hideAll_size _ _
theorem qlh{h:Heap}{H:Hp}{b:Addr}{o:Obj}(e:h.get? b=some o)(n:H b=none):(hidT h H).get? b=some o:=
 PySem.W.hideAll_get _ e fun hm=>by
  have q:(H b).isSome=true:=(Qx9.mp hm).2
  rw[n]at q; simp at q
theorem qoj{h:Heap}{H:Hp}{b:Addr}{o:Obj}(e:(hidT h H).get? b=some o):h.get? b=some o∧H b=none:=by
 have e':h.get? b=some o:=PySem.W.of_hideAll (trk h H) e
 refine⟨e',?_⟩
 cases q:H b with
 |none=>rfl
 |some x=>
  have hm:b∈trk h H:=Qx9.mpr ⟨Qzl.mpr (Qqv e'),by simp[q]⟩
  have z:(hidT h H).get? b=none:=PySem.W.hideAll_none (trk h H) hm
  rw[z]at e; cases e
noncomputable def qpj(g h:Heap)(L:Addr):List (Addr×Obj):=(List.range h.objs.size).filterMap fun a=>if a=L∨(g.get? a).isSome=true then none else(h.get? a).map fun o=>(a,o)
noncomputable def rest(g h:Heap)(L d:Addr):List (Addr×Obj):=(qpj g h L).filter fun p=>decide (p.1≠d)
end L2
namespace L2
open PySem PySem.Spec PyProof.Rows
structure Mod (K:Qqq) (mg:Str→Option Value) (base:Heap):Prop where
 kin:K.In base
 glob:base.Ns mainGlobals mg
 blt:∃ mb,base.Ns builtinsNs mb∧∀ x:Str,x ≠ "__name__"→mb x=bootBuiltins x
 nolimit:base.NoLimit
structure Cx where
 prog:Program
 w:World
 K:Qqq
 mg:Str→Option Value
 base:Heap
 A:Around
 N:List Str
 s₀:Shared
 H₀:Hp
 env:Env
 outer:List Env
 stack:List Env
 ex:List Addr
 fn:Str→Bool
 calm:Bool
 pn:List (Addr×Obj)
 xe:Value→Shared→Prop
noncomputable def frs(l:List Env):List Addr:=l.filterMap (·.frame)
noncomputable abbrev Cx.fs(X:Cx):List Addr:=frs X.outer
def Vis(sc:Scope)(x:Str):Prop:=sc.names.lookup x=some .local∨sc.names.lookup x=some .cell∨sc.names.lookup x=some .free
def Loc(sc:Scope)(x:Str):Prop:=sc.names.lookup x=some .local∨sc.names.lookup x=some .cell
def Look(env:Env)(h:Heap)(m:Str→Option Value)(x:Str)(u:Value):Prop:=
 (env.kindOf x=some .local∧m x=some u)∨((env.kindOf x=some .cell∨env.kindOf x=some .free)∧∃ c,env.cells.lookup x=some c∧h.IsCell c (some u))
structure Cx.Ok (X:Cx):Prop where
 mod:Mod X.K X.mg X.base
 kind:X.env.scope.kind=.function
 glob:X.env.globals=mainGlobals
 blt:X.env.builtins=builtinsNs
 above:X.s₀.heap.objs.size≤X.env.locals
 inj:∀ x y c,X.env.cells.lookup x=some c→X.env.cells.lookup y=some c→x=y
 has:∀ x,(X.env.kindOf x=some .cell∨X.env.kindOf x=some .free)→∃ c,X.env.cells.lookup x=some c
 cab:∀ x c,X.fn x=true→X.env.cells.lookup x=some c→X.s₀.heap.objs.size≤c
 hd:X.calm=true→X.A.handled=none
 frames:X.A.frames=some X.stack
 stk:X.stack=X.outer∨(X.stack=X.env::X.outer∧X.env.frame=some X.env.locals)
 exf:∀ b∈X.ex,b≠X.env.locals∧∀ x c,X.env.cells.lookup x=some c→c≠b
 bs:∀ b o,X.base.get? b=some o→X.s₀.heap.get? b=some o∧X.H₀ b=none
 bsz:X.base.objs.size≤X.s₀.heap.objs.size
 noex:∀ b o,X.base.get? b=some o→b ∉ X.ex
 exfs:∀ b∈X.ex,b ∉ X.fs
 funs:X.s₀.heap.FunFrames X.base X.outer
 frf:∀ b∈X.fs,X.H₀ b=none
structure Inv (X:Cx) (pins:List (Addr×Obj)) (σ:List (Option V)) (H:Hp) (s:Shared):Prop where
 ok:X.Ok
 os:s.os=X.s₀.os
 bare:AllBare s.gens
 base:Un X.fs X.ex X.H₀ H X.s₀.heap s.heap
 loc:∃ m,s.heap.Ns X.env.locals m∧∀ (i:Nat) (x:Str) (v:V),X.N[i]?=some x→σ[i]?=some (some v)→Vis X.env.scope x→∃ u,RelV v u∧Look X.env s.heap m x u
 cell:∀ x c,X.env.cells.lookup x=some c→∃ v,s.heap.IsCell c v
 free:H X.env.locals=none
 freeC:∀ x c,X.env.cells.lookup x=some c→H c=none
 pin:∀ p∈X.pn++pins,s.heap.get? p.1=some p.2∧H p.1=none∧p.1≠X.env.locals∧p.1 ∉ X.fs∧∀ v,p.2.data≠.cell v
 hok:HOk X.prog X.w H s.heap
 len:σ.length=X.N.length
section
variable {X:Cx}{pins:List (Addr×Obj)}{σ:List (Option V)}{H H':Hp}{s:Shared}{h':Heap}
theorem Cx.Ok.nofr(ok:X.Ok){b:Addr}{o:Obj}(e:X.base.get? b=some o):b ∉ X.fs:=fun hb=>by
 have:=(ok.funs.mem hb).1
 rw[e]at this; cases this
theorem Inv.bs(I:Inv X pins σ H s):∀ b o,X.base.get? b=some o→s.heap.get? b=some o∧H b=none:=fun b o e=>
 ⟨I.base.keep b o (I.ok.bs b o e).1 (I.ok.bs b o e).2 (I.ok.nofr e) (I.ok.noex b o e),I.base.free b o (I.ok.bs b o e).1 (I.ok.bs b o e).2 (I.ok.noex b o e)⟩
theorem Inv.bk(I:Inv X pins σ H s):∀ b o,X.base.get? b=some o→s.heap.get? b=some o:=fun b o e=>(I.bs b o e).1
theorem Inv.mod(I:Inv X pins σ H s):Mod X.K X.mg X.base:=I.ok.mod
theorem Inv.kIn(I:Inv X pins σ H s):X.K.In s.heap:=I.ok.mod.kin.keeps I.bk
theorem Inv.nolimit(I:Inv X pins σ H s):s.heap.NoLimit:=I.ok.mod.nolimit.keeps I.bk
theorem Inv.fr(I:Inv X pins σ H s):∃ m,Fr X.base X.env.locals s.heap m:=
 let ⟨m,hn,_⟩:=I.loc
 ⟨m,hn,I.bk,Qzx I.ok.bsz I.ok.above⟩
theorem Inv.lt(I:Inv X pins σ H s):X.env.locals<s.heap.objs.size:=let ⟨_,hn,_⟩:=I.loc; hn.lt
theorem Inv.sz(I:Inv X pins σ H s):X.s₀.heap.objs.size≤s.heap.objs.size:=Qzx I.ok.above (Qxf I.lt)
theorem Inv.nofs(I:Inv X pins σ H s){a:Addr}(h:s.heap.objs.size≤a):a ∉ X.fs:=fun hb=>by
 obtain⟨_,o,ho,_⟩:=I.ok.funs.mem hb
 exact absurd (Qqp (Qqv ho) (Qzx I.sz h)) (Qzi _)
theorem Inv.cne(I:Inv X pins σ H s):∀ x c,X.env.cells.lookup x=some c→c≠X.env.locals:=fun x c e z=>by
 obtain⟨v,o,ho,hd⟩:=I.cell x c e
 obtain⟨m,⟨o',es,ep,ho',hd',_⟩,_⟩:=I.loc
 rw[z,ho']at ho; cases ho; rw[hd']at hd; cases hd
theorem Inv.funs(I:Inv X pins σ H s):s.heap.FunFrames X.base X.outer:=by
 have all:∀ (l:List Env),(∀ b∈frs l,b∈X.fs)→X.s₀.heap.FunFrames X.base l→s.heap.FunFrames X.base l:=by
  intro l
  induction l with
  |nil=>intro _ _; trivial
  |cons env r ih=>
   intro hs hl
   obtain⟨hk,⟨L,o,hf,hn,ho,hd⟩,hr⟩:=hl
   have hL:L∈X.fs:=hs L (by unfold frs; rw[Qz9,hf]; exact Qq4)
   obtain⟨sl,e⟩:=I.base.slot L o ho (I.ok.frf L hL) hL fun z=>I.ok.exfs L z hL
   exact⟨hk,⟨L,_,hf,hn,e,hd⟩,ih (fun b hb=>hs b (by unfold frs; rw[Qz9,hf]; exact Qqr _ hb)) hr⟩
 exact all X.outer (fun _ hb=>hb) I.ok.funs
theorem Inv.stack(I:Inv X pins σ H s):s.heap.FunFrames X.base X.stack:=by
 rcases I.ok.stk with e|⟨e,hf⟩
 ·rw[e]; exact I.funs
 ·rw[e]
  obtain⟨m,hn,_⟩:=I.loc
  refine .cons (by rw[I.ok.kind]; decide) hf hn ?_ I.funs
  exact Heap.get?_none_of_le (Qzx I.ok.bsz I.ok.above)
theorem Inv.stkSub(I:Inv X pins σ H s):∀ b∈frs X.stack,b∈X.env.locals::X.fs:=fun b hb=>by
 rcases I.ok.stk with e|⟨e,hf⟩
 ·rw[e]at hb; exact Qqr _ hb
 ·rw[e]at hb
  unfold frs at hb
  rw[Qz9,hf]at hb
  exact hb
theorem Inv.stkFree(I:Inv X pins σ H s):∀ b∈frs X.stack,H b=none:=fun b hb=>by
 rcases Qqh.mp (I.stkSub b hb) with e|hb
 ·rw[e]; exact I.free
 ·obtain⟨_,o,ho,_⟩:=I.ok.funs.mem hb
  exact I.base.free b o ho (I.ok.frf b hb) fun z=>I.ok.exfs b z hb
theorem Inv.step{g':Array GenState}{t':Nat}{d':Drawn}{ch:List Addr}(I:Inv X pins σ H s)
  (hch:∀ b∈ch,(b∈X.ex∨X.s₀.heap.objs.size≤b)∧b≠X.env.locals∧(∀ x c,X.env.cells.lookup x=some c→c≠b)∧∀ p∈X.pn++pins,p.1≠b)
  (keep:∀ b o,b≠X.env.locals→b ∉ X.fs→b ∉ ch→s.heap.get? b=some o→H b=none→h'.get? b=some o)
  (slot:∀ b o,b≠X.env.locals→b∈X.fs→b ∉ ch→s.heap.get? b=some o→H b=none→∃ sl,h'.get? b=some { o with slots:=sl }) (free:∀ b o,b ∉ ch→s.heap.get? b=some o→H b=none→H' b=none)
  (there:∀ b o,b ∉ ch→s.heap.get? b=some o→∃ o',h'.get? b=some o')
  (tups:∀ b xs,H b=some (.tup xs)→H' b=some (.tup xs)) (frzs:∀ b o u,H b=some (.frz o u)→H' b=some (.frz o u)) (tbls:∀ b ps,H b=some (.tbl ps)→∃ more,H' b=some (.tbl (ps++more)))
  (ns:∀ m,s.heap.Ns X.env.locals m→h'.Ns X.env.locals m) (hok:HOk X.prog X.w H' h') (hg:AllBare g') :
  Inv X pins σ H' { s with heap:=h',gens:=g',drawn:=d',toks:=t' }:=by
 have neL:∀ b o,X.s₀.heap.get? b=some o→b≠X.env.locals:=fun b o e=>Qqo (Qqp (Qqv e) I.ok.above)
 have neC:∀ b o,X.s₀.heap.get? b=some o→b ∉ X.ex→b ∉ ch:=fun b o e hx hb=>by
  rcases (hch b hb).1 with z|z
  ·exact hx z
  ·exact absurd (Qqp (Qqv e) z) (Qzi _)
 have cellK:∀ x c,X.env.cells.lookup x=some c→∀ v,s.heap.IsCell c v→h'.IsCell c v:=fun x c e v ⟨o,ho,hd⟩=>by
  have nch:c ∉ ch:=fun z=>(hch c z).2.2.1 x c e rfl
  by_cases hc:c∈X.fs
  ·obtain⟨sl,q⟩:=slot c o (I.cne x c e) hc nch ho (I.freeC x c e)
   exact⟨_,q,hd⟩
  ·exact⟨o,keep c o (I.cne x c e) hc nch ho (I.freeC x c e),hd⟩
 refine⟨I.ok,I.os,hg,⟨fun b o e n hb hx=>?_,fun b o e n hb hx=>?_,fun b o e n hx=>?_,fun b o e hx=>?_,fun b xs e=>tups b xs (I.base.tups b xs e),fun b o xs e=>frzs b o xs (I.base.frzs b o xs e),fun b ps e=>?_⟩,?_,fun x c e=>?_,?_,fun x c e=>?_,fun p hp=>?_,hok,I.len⟩
 ·exact keep b o (neL b o e) hb (neC b o e hx) (I.base.keep b o e n hb hx) (I.base.free b o e n hx)
 ·obtain⟨sl,e1⟩:=I.base.slot b o e n hb hx
  obtain⟨sl',e2⟩:=slot b _ (neL b o e) hb (neC b o e hx) e1 (I.base.free b o e n hx)
  exact⟨sl',e2⟩
 ·obtain⟨o',e1⟩:=I.base.there b o e hx
  exact free b o' (neC b o e hx) e1 (I.base.free b o e n hx)
 ·obtain⟨o',e1⟩:=I.base.there b o e hx
  exact there b o' (neC b o e hx) e1
 ·obtain⟨m1,e1⟩:=I.base.tbls b ps e
  obtain⟨m2,e2⟩:=tbls b _ e1
  exact⟨m1++m2,by rw[e2,Array.append_assoc]⟩
 ·obtain⟨m,hn,hl⟩:=I.loc
  refine⟨m,ns m hn,fun i x v e1 e2 e3=>?_⟩
  obtain⟨u,r,l⟩:=hl i x v e1 e2 e3
  refine⟨u,r,?_⟩
  rcases l with l|⟨k,c,e,z⟩
  ·exact .inl l
  ·exact .inr ⟨k,c,e,cellK x c e _ z⟩
 ·obtain⟨v,z⟩:=I.cell x c e
  exact⟨v,cellK x c e v z⟩
 ·obtain⟨m,⟨o,_,_,ho,_⟩,_⟩:=I.loc
  exact free _ o (fun z=>(hch _ z).2.1 rfl) ho I.free
 ·obtain⟨v,o,ho,hd⟩:=I.cell x c e
  exact free c o (fun z=>(hch c z).2.2.1 x c e rfl) ho (I.freeC x c e)
 ·obtain⟨e,n,ne,nf,d⟩:=I.pin p hp
  have nch:p.1 ∉ ch:=fun z=>(hch p.1 z).2.2.2 p hp rfl
  exact⟨keep p.1 p.2 ne nf nch e n,free p.1 p.2 nch e n,ne,nf,d⟩
theorem Inv.un{t':Nat}(I:Inv X pins σ H s)(u:Un X.fs [] H H' s.heap h')(hok:HOk X.prog X.w H' h'):Inv X pins σ H' { s with heap:=h',toks:=t' }:=by
 obtain⟨m,⟨o,es,ep,ho,r⟩,_⟩:=id I.loc
 obtain⟨sl,hL⟩:=u.any ho I.free (by simp)
 exact I.step (g':=s.gens) (d':=s.drawn) (ch:=[]) (fun _ z=>nomatch z) (fun b o _ hb _ e n=>u.keep b o e n hb (by simp)) (fun b o _ hb _ e n=>u.slot b o e n hb (by simp)) (fun b o _ e n=>u.free b o e n (by simp)) (fun b o _ e=>u.there b o e (by simp)) u.tups u.frzs u.tbls (fun m' hm=>by
  obtain⟨o',es',ep',ho',r'⟩:=hm
  rw[ho]at ho'; cases ho'
  exact⟨_,es',ep',hL,r'⟩) hok I.bare
theorem Inv.call{g':Array GenState}{t':Nat}{d':Drawn}{ch:List Addr}(I:Inv X pins σ H s)(u:Un (frs X.stack) ch H H' s.heap h')(hok:HOk X.prog X.w H' h')(hg:AllBare g')
  (hch:∀ b∈ch,(b∈X.ex∨X.s₀.heap.objs.size≤b)∧b≠X.env.locals∧(∀ x c,X.env.cells.lookup x=some c→c≠b)∧∀ p∈X.pn++pins,p.1≠b) :
  Inv X pins σ H' { s with heap:=h',gens:=g',drawn:=d',toks:=t' }:=by
 obtain⟨m,⟨o,es,ep,ho,r⟩,_⟩:=id I.loc
 obtain⟨sl,hL⟩:=u.any ho I.free fun z=>(hch _ z).2.1 rfl
 exact I.step (ch:=ch) hch (fun b o hL hb hc e n=>u.keep b o e n (fun z=>(Qqh.mp (I.stkSub b z)).elim hL hb) hc) (fun b o _ _ hc e n=>u.any e n hc) (fun b o hc e n=>u.free b o e n hc) (fun b o hc e=>u.there b o e hc) u.tups u.frzs u.tbls (fun m' hm=>by
  obtain⟨o',es',ep',ho',r'⟩:=hm
  rw[ho]at ho'; cases ho'
  exact⟨_,es',ep',hL,r'⟩) hok hg
theorem Inv.turned{t':Nat}{it:Addr}(I:Inv X pins σ H s)(k:∀ b o,b≠it→s.heap.get? b=some o→h'.get? b=some o)(hn:H it=none)(hL:it≠X.env.locals)
  (h1:it∈X.ex∨X.s₀.heap.objs.size≤it) (h2:∀ x c,X.env.cells.lookup x=some c→c≠it) (h3:∀ p∈X.pn++pins,p.1≠it):Inv X pins σ H { s with heap:=h',toks:=t' }:=by
 have nit:∀ b u,H b=some u→b≠it:=fun b u e z=>by rw[z,hn]at e; cases e
 refine I.step (g':=s.gens) (d':=s.drawn) (ch:=[it]) (fun b hb=>?_) (fun b o _ _ hc e _=>k b o (fun z=>hc (by simp[z])) e) (fun b o _ _ hc e _=>⟨o.slots,k b o (fun z=>hc (by simp[z])) e⟩) (fun _ _ _ _ n=>n)
  (fun b o hc e=>⟨o,k b o (fun z=>hc (by simp[z])) e⟩) (fun _ _ e=>e) (fun _ _ _ e=>e) (fun b ps e=>⟨#[],by rw[e]; simp⟩) (fun m hm=>?_) (fun b u e=>?_) I.bare
 ·have e:b=it:=by simpa using hb
  subst e
  exact⟨h1,hL,h2,h3⟩
 ·obtain⟨o,es,ep,ho,r⟩:=hm
  exact⟨o,es,ep,k _ o (Ne.symm hL) ho,r⟩
 ·refine(I.hok b u e).stay (fun c v hc q=>k c v ?_ q) (fun _ q=>q) fun _ _ q=>q
  rcases hc with z|z
  ·rw[z]; exact nit b u e
  ·exact nit c _ z
theorem Inv.tok(I:Inv X pins σ H s)(t:Nat):Inv X pins σ H { s with toks:=t }:=I.un (h':=s.heap) (t':=t) Un.refl I.hok
theorem Inv.kept{t':Nat}(I:Inv X pins σ H s)(k:∀ b u,s.heap.get? b=some u→h'.get? b=some u):Inv X pins σ H { s with heap:=h',toks:=t' }:=I.un (Un.kept k) (I.hok.kept k)
theorem Inv.laid{a:Addr}{o:HO}{t':Nat}(I:Inv X pins σ H s)(k:∀ b u,s.heap.get? b=some u→h'.get? b=some u)(hp:s.heap.objs.size≤a)(new:ObjOk X.prog X.w (upd H a o) h' a o):
  Inv X pins σ (upd H a o) { s with heap:=h',toks:=t' }:=I.un (Un.laid k hp (I.hok.fresh hp)) (I.hok.laid k hp new)
theorem Inv.write{x e:Addr}{o:HO}{t':Nat}(I:Inv X pins σ H s)(mu:Mut (H x))(he:e=x∨H e=some (.own x))(k:∀ b u,b≠e→s.heap.get? b=some u→h'.get? b=some u)(heo:∃ u,h'.get? e=some u)
  (new:ObjOk X.prog X.w (upd H x o) h' x o):Inv X pins σ (upd H x o) { s with heap:=h',toks:=t' }:=I.un (Un.write mu he k heo) (I.hok.write mu he k heo new)
theorem Inv.pins_of{pins':List (Addr×Obj)}(I:Inv X pins σ H s)(h:∀ p∈pins',s.heap.get? p.1=some p.2∧H p.1=none∧p.1≠X.env.locals∧p.1 ∉ X.fs∧∀ v,p.2.data≠.cell v):Inv X pins' σ H s:=
 ⟨I.ok,I.os,I.bare,I.base,I.loc,I.cell,I.free,I.freeC,fun p hp=>(Qxq.mp hp).elim (fun z=>I.pin p (Qz1 _ z)) (h p),I.hok,I.len⟩
theorem qdh{N:List Str}(hN:N.Nodup){i j:Nat}{x:Str}(a:N[i]?=some x)(b:N[j]?=some x):i=j:=by
 obtain⟨h1,e1⟩:=Qqb.mp a
 obtain⟨h2,e2⟩:=Qqb.mp b
 exact(List.getElem_inj hN).mp (e1.trans e2.symm)
theorem qf0{M:Model}{A:Around}{E:Value→Shared→Prop}{i:Nat}{x:Str}{v:V}{u:Value}{Q:Unit→Shared→Prop}(I:Inv X pins σ H s)(hN:X.N.Nodup)(hi:X.N[i]?=some x)(hx:Loc X.env.scope x)(r:RelV v u)
  (h:∀ s',Inv X pins (σ.set i (some v)) H s'→(∃ a,Heap.SameBut a s.heap s'.heap∧(a=X.env.locals∨X.env.cells.lookup x=some a))→Q () s') (hf:X.fn x=true∨X.env.scope.names.lookup x=some .local):wpAny M A (storeName X.env x u) Q E s:=by
 obtain⟨m,hn,hl⟩:=id I.loc
 have hcls:(X.env.scope.kind==.class||(X.env.scope.kind==.module&&X.env.locals != X.env.globals))=false:=by rw[I.ok.kind]; rfl
 have hiσ:i<σ.length:=by rw[I.len]; exact(Qqb.mp hi).1
 have cne:=I.cne
 have tracked:∀ {a:Addr}{h':Heap},(∃ o,s.heap.get? a=some o∧H a=none)→Heap.SameBut a s.heap h'→HOk X.prog X.w H h':=fun {a h'} ha hs b ob e=>by
  obtain⟨_,_,hfree⟩:=ha
  refine(I.hok b ob e).stay (fun c w' hc q=>(hs.2 c ?_).trans q) (fun _ q=>q) fun _ _ q=>q
  rintro rfl
  rcases hc with rfl|hc
  ·rw[hfree]at e; cases e
  ·rw[hfree]at hc; cases hc
 rcases hx with hk|hk
 ·refine wpAny_storeName_local hk hn (fun h' hn' hs=>?_) hcls
  obtain⟨oL,_,_,hoL,_⟩:=id hn
  refine h _ ⟨I.ok,I.os,I.bare,⟨fun b o e n hb hx=>?_,fun b o e n hb hx=>?_,I.base.free,fun b o e hx=>?_,I.base.tups,I.base.frzs,I.base.tbls⟩,⟨_,hn',fun j y v' e1 e2 e3=>?_⟩,fun y c e=>?_,I.free,I.freeC,fun p hp=>?_,tracked ⟨oL,hoL,I.free⟩ hs,by simpa using I.len⟩ ⟨_,hs,.inl rfl⟩
  ·exact(hs.2 b (Qqo (Qqp (Qqv e) I.ok.above))).trans (I.base.keep b o e n hb hx)
  ·obtain⟨sl,e1⟩:=I.base.slot b o e n hb hx
   exact⟨sl,(hs.2 b (Qqo (Qqp (Qqv e) I.ok.above))).trans e1⟩
  ·obtain⟨o',e1⟩:=I.base.there b o e hx
   exact⟨o',(hs.2 b (Qqo (Qqp (Qqv e) I.ok.above))).trans e1⟩
  ·by_cases hj:j=i
   ·subst hj
    rw[hi]at e1; cases e1
    rw[Qzp hiσ]at e2
    cases e2
    exact⟨u,r,.inl ⟨hk,by simp⟩⟩
   ·rw[Qz8 (Ne.symm hj)]at e2
    obtain⟨u',r',q⟩:=hl j y v' e1 e2 e3
    refine⟨u',r',?_⟩
    rcases q with⟨k,e⟩|⟨k,c,e,z⟩
    ·refine .inl ⟨k,?_⟩
     have:y≠x:=fun e=>hj (qdh hN e1 (e▸hi))
     simp[this,e]
    ·exact .inr ⟨k,c,e,z.sameBut hs (cne y c e)⟩
  ·obtain⟨w',z⟩:=I.cell y c e
   exact⟨w',z.sameBut hs (cne y c e)⟩
  ·obtain⟨e,n,ne,nf,d⟩:=I.pin p hp
   exact⟨(hs.2 p.1 ne).trans e,n,ne,nf,d⟩
 ·have hfn:X.fn x=true:=by
   rcases hf with z|z
   ·exact z
   ·rw[z]at hk; cases hk
  obtain⟨c,hc⟩:=I.ok.has x (.inl hk)
  obtain⟨w',z⟩:=I.cell x c hc
  refine wpAny_storeName_cell I.ok.kind hk hc z (fun h' hc' hs=>?_)
  obtain⟨oc,hoc,hocd⟩:=id z
  refine h { s with heap:=h' } ⟨I.ok,I.os,I.bare,⟨fun b o e n hb hx=>?_,fun b o e n hb hx=>?_,I.base.free,fun b o e hx=>?_,I.base.tups,I.base.frzs,I.base.tbls⟩,⟨m,hn.sameBut hs (Ne.symm (cne x c hc)),fun j y v' e1 e2 e3=>?_⟩,fun y c' e=>?_,I.free,I.freeC,fun p hp=>?_,tracked ⟨oc,hoc,I.freeC x c hc⟩ hs,by simpa using I.len⟩ ⟨c,hs,.inr hc⟩
  ·exact(hs.2 b (Qqo (Qqp (Qqv e) (I.ok.cab x c hfn hc)))).trans (I.base.keep b o e n hb hx)
  ·obtain⟨sl,e1⟩:=I.base.slot b o e n hb hx
   exact⟨sl,(hs.2 b (Qqo (Qqp (Qqv e) (I.ok.cab x c hfn hc)))).trans e1⟩
  ·obtain⟨o',e1⟩:=I.base.there b o e hx
   exact⟨o',(hs.2 b (Qqo (Qqp (Qqv e) (I.ok.cab x c hfn hc)))).trans e1⟩
  ·by_cases hj:j=i
   ·subst hj
    rw[hi]at e1; cases e1
    rw[Qzp hiσ]at e2
    cases e2
    exact⟨u,r,.inr ⟨.inl hk,c,hc,hc'⟩⟩
   ·rw[Qz8 (Ne.symm hj)]at e2
    obtain⟨u',r',q⟩:=hl j y v' e1 e2 e3
    refine⟨u',r',?_⟩
    rcases q with q|⟨k,c',e,z'⟩
    ·exact .inl q
    ·refine .inr ⟨k,c',e,z'.sameBut hs ?_⟩
     rintro rfl
     exact hj (qdh hN e1 (I.ok.inj _ _ _ e hc▸hi))
  ·by_cases hcc:c'=c
   ·subst hcc; exact⟨_,hc'⟩
   ·obtain⟨w2,z2⟩:=I.cell y c' e
    exact⟨w2,z2.sameBut hs hcc⟩
  ·obtain⟨e,n,ne,nf,d⟩:=I.pin p hp
   refine⟨(hs.2 p.1 ?_).trans e,n,ne,nf,d⟩
   intro q
   rw[q,hoc]at e
   have q':oc=p.2:=Option.some.inj e
   exact d w' (by rw[← q']; exact hocd)
theorem qc7{M:Model}{A:Around}{E:Value→Shared→Prop}{i:Nat}{x:Str}{v:V}{u:Value}{Q:Unit→Shared→Prop}(I:Inv X pins σ H s)(hN:X.N.Nodup)(hi:X.N[i]?=some x)(hx:Loc X.env.scope x)(r:RelV v u)
  (h:∀ s',Inv X pins (σ.set i (some v)) H s'→Q () s') (hf:X.fn x=true∨X.env.scope.names.lookup x=some .local):wpAny M A (storeName X.env x u) Q E s:=
 qf0 I hN hi hx r (fun s' I' _=>h s' I') hf
theorem Inv.call'{s':Shared}{ch:List Addr}(I:Inv X pins σ H s)(ho:s'.os=s.os)(u:Un (frs X.stack) ch H H' s.heap s'.heap)(hok:HOk X.prog X.w H' s'.heap)(hg:AllBare s'.gens)
  (hch:∀ b∈ch,(b∈X.ex∨X.s₀.heap.objs.size≤b)∧b≠X.env.locals∧(∀ x c,X.env.cells.lookup x=some c→c≠b)∧∀ p∈X.pn++pins,p.1≠b):Inv X pins σ H' s':=by
 obtain⟨h',g',d',t',o'⟩:=s'
 have e:o'=s.os:=ho
 subst e
 exact I.call (g':=g') (t':=t') (d':=d') u hok hg hch
end
abbrev XK:=Value→Option Addr→Hp→Prop
abbrev St:=List (Option V)
abbrev VK:=V→Hp→Prop
abbrev TE:=St→Hp→VK→Prop
abbrev TT:=St→Hp→(Bool→Hp→Prop)→Prop
abbrev TA:=St→Hp→(List V→Hp→Prop)→Prop
structure Ends where
 nx:St→Hp→Prop
 rt:VK
 bk:St→Hp→Prop:=fun _ _=>False
 ct:St→Hp→Prop:=fun _ _=>False
abbrev TS:=Ends→St→Hp→Prop
def EP(X:Cx)(pins:List (Addr×Obj))(σ:St)(Q:VK)(u:Value)(s':Shared):Prop:=∃ v H',Inv X pins σ H' s'∧RelV v u∧Q v H'
def TP(X:Cx)(pins:List (Addr×Obj))(σ:St)(Q:Bool→Hp→Prop)(b:Bool)(s':Shared):Prop:=∃ H',Inv X pins σ H' s'∧Q b H'
def AP(X:Cx)(pins:List (Addr×Obj))(σ:St)(Q:List V→Hp→Prop)(us:List Value)(s':Shared):Prop:=∃ vs H',Inv X pins σ H' s'∧Vals vs us∧Q vs H'
def SP(X:Cx)(pins:List (Addr×Obj))(D:Ends)(f:Flow)(s':Shared):Prop:=
 match f with
 |.next=>∃ σ' H',Inv X pins σ' H' s'∧D.nx σ' H'
 |.brk=>∃ σ' H',Inv X pins σ' H' s'∧D.bk σ' H'
 |.cont=>∃ σ' H',Inv X pins σ' H' s'∧D.ct σ' H'
 |.ret u=>∃ v σ' H',Inv X pins σ' H' s'∧RelV v u∧D.rt v H'
def PE(X:Cx)(e:Expr)(t:TE):Prop:=
 ∀ (pins:List (Addr×Obj)) (s:Shared) (σ:St) (H:Hp) (Q:VK),Inv X pins σ H s→t σ H Q→wpAny (model X.prog X.w) X.A (eval e X.env) (EP X pins σ Q) X.xe s
def PT(X:Cx)(e:Expr)(t:TT):Prop:=
 ∀ (pins:List (Addr×Obj)) (s:Shared) (σ:St) (H:Hp) (Q:Bool→Hp→Prop),Inv X pins σ H s→t σ H Q→wpAny (model X.prog X.w) X.A (isTrue e X.env (eval e X.env)) (TP X pins σ Q) X.xe s
def PW(X:Cx)(e:Expr)(t:TT):Prop:=
 ∀ (whole:Sem Value) (pins:List (Addr×Obj)) (s:Shared) (σ:St) (H:Hp) (Q:Bool→Hp→Prop),Inv X pins σ H s→t σ H Q→wpAny (model X.prog X.w) X.A (isTrue e X.env whole) (TP X pins σ Q) X.xe s
theorem PW.pt{X:Cx}{e:Expr}{t:TT}(h:PW X e t):PT X e t:=h _
def PA(X:Cx)(es:List Expr)(t:TA):Prop:=
 ∀ (pos:Pos) (pins:List (Addr×Obj)) (s:Shared) (σ:St) (H:Hp) (Q:List V→Hp→Prop),Inv X pins σ H s→t σ H Q→wpAny (model X.prog X.w) X.A (spliced (backTo pos (starEach es X.env))) (AP X pins σ Q) X.xe s
def PS(X:Cx)(st:Stmt)(t:TS):Prop:=
 ∀ (pins:List (Addr×Obj)) (s:Shared) (σ:St) (H:Hp) (D:Ends),Inv X pins σ H s→t D σ H→wpAny (model X.prog X.w) X.A (exec st X.env) (SP X pins D) X.xe s
def PSs(X:Cx)(st:List Stmt)(t:TS):Prop:=
 ∀ (pins:List (Addr×Obj)) (s:Shared) (σ:St) (H:Hp) (D:Ends),Inv X pins σ H s→t D σ H→wpAny (model X.prog X.w) X.A (execs st X.env) (SP X pins D) X.xe s
theorem thn{α:Type}{t:Sem α}{Q Q':α→Shared→Prop}{M:Model}{A:Around}{E:Value→Shared→Prop}{s:Shared}(h:wpAny M A t Q E s)(hQ:∀ a s,Q a s→Q' a s):wpAny M A t Q' E s:=wpAny_mono h hQ fun _ _ x=>x
end L2
namespace L2
open PySem PySem.Spec PyProof.Rows
section
variable {X:Cx}
theorem bin{a b:Expr}{ta tb:TE}(ha:PE X a ta)(hb:PE X b tb){pins:List (Addr×Obj)}{s:Shared}{σ:St}{H:Hp}{R:V→V→Hp→Prop}(I:Inv X pins σ H s)(h:ta σ H fun x H1=>tb σ H1 fun y H2=>R x y H2)
  {α:Type}{Q:α→Shared→Prop}{f:Value→Value→Sem α}
  (hf:∀ v u s2 x y H2,Inv X pins σ H2 s2→RelV x v→RelV y u→R x y H2→wpAny (model X.prog X.w) X.A (f v u) Q X.xe s2) :
  wpAny (model X.prog X.w) X.A (eval a X.env) (fun v s₁=>wpAny (model X.prog X.w) X.A (eval b X.env) (fun u s₂=>wpAny (model X.prog X.w) X.A (f v u) Q X.xe s₂) X.xe s₁) X.xe s:=by
 refine thn (ha pins s σ H _ I h) fun v s1 ⟨x,H1,I1,r1,q1⟩=>?_
 refine thn (hb pins s1 σ H1 _ I1 q1) fun u s2 ⟨y,H2,I2,r2,q2⟩=>?_
 exact hf v u s2 x y H2 I2 r1 r2 q2
noncomputable def tVar(i:Nat):TE:=fun σ H Q=>∃ v,σ[i]?=some (some v)∧Q v H
noncomputable def tC(v:V):TE:=fun _ H Q=>Q v H
theorem qmk{i:Nat}{x:Str}{pos:Pos}(hN:X.N[i]?=some x)(hv:Vis X.env.scope x)(hd:(x==("__debug__" : Str))=false:=by decide)(hcd:(x==("__classdict__" : Str))=false:=by decide):PE X (.Name x pos) (tVar i):=by
 intro pins s σ H Q I h
 obtain⟨v,e,h⟩:=h
 obtain⟨m,hn,hl⟩:=I.loc
 obtain⟨u,r,l⟩:=hl i x v hN e hv
 have fin:EP X pins σ Q u s:=⟨v,H,I,r,h⟩
 rcases l with⟨hk,hm⟩|⟨hk,c,hc,hcell⟩
 ·exact wpAny_Name (wpAny_loadName_local I.ok.kind hk hn hm fin) hd
 ·rcases hk with hk|hk
  ·exact wpAny_Name (wpAny_loadName_cell I.ok.kind hk hc hcell fin) hd
  ·exact wpAny_Name (wpAny_loadName_free I.ok.kind hk hc hcell fin hcd) hd
theorem pe_int{i j pos}:PE X (.Constant (.int i) j pos) (tC (.int i)):=fun _ _ _ H _ I h=>wpAny_Constant_int ⟨.int i,H,I.tok _,⟨_,rfl⟩,h⟩
theorem pe_bl{b j pos}:PE X (.Constant (.bool b) j pos) (tC (.bl b)):=fun _ _ _ H _ I h=>Constant_bool ⟨.bl b,H,I,rfl,h⟩
theorem pe_non{j pos}:PE X (.Constant .none j pos) (tC .non):=fun _ _ _ H _ I h=>Constant_none ⟨.non,H,I,rfl,h⟩
theorem pe_str{x j pos}:PE X (.Constant (.str x) j pos) (tC (.str x)):=fun _ _ _ H _ I h=>Calls.Constant_str ⟨.str x,H,I.tok _,⟨_,rfl⟩,h⟩
def Gl(X:Cx)(x:Str):Prop:=X.env.kindOf x=some .globalImplicit
theorem qch{E:Value→Shared→Prop}{pins:List (Addr×Obj)}{s:Shared}{σ:St}{H:Hp}{x:Str}{u:Value}{pos:Pos}{Q:Value→Shared→Prop}(I:Inv X pins σ H s)(hg:Gl X x)(hm:X.mg x=some u)(h:Q u s)
  (hd:(x==("__debug__" : Str))=false:=by decide):wpAny (model X.prog X.w) X.A (eval (.Name x pos) X.env) Q E s:=
 Calls.Name_function_global I.ok.kind hg (Calls.loadGlobal_global (by rw[I.ok.glob]; exact I.mod.glob.keeps I.bk) hm h) hd
theorem qyj{E:Value→Shared→Prop}{pins:List (Addr×Obj)}{s:Shared}{σ:St}{H:Hp}{x:Str}{u:Value}{pos:Pos}{Q:Value→Shared→Prop}(I:Inv X pins σ H s)(hg:Gl X x)(hm:X.mg x=none)(hv:bootBuiltins x=some u)(h:Q u s)
  (hn:x ≠ "__name__":=by decide) (hd:(x==("__debug__" : Str))=false:=by decide):wpAny (model X.prog X.w) X.A (eval (.Name x pos) X.env) Q E s:=by
 obtain⟨mb,h1,h2⟩:=I.mod.blt
 exact Calls.Name_function_global I.ok.kind hg (Calls.loadGlobal_builtin (by rw[I.ok.glob]; exact I.mod.glob.keeps I.bk) hm (by rw[I.ok.blt]; exact h1.keeps I.bk) ((h2 x hn).trans hv) h) hd
theorem qcc{x:Str}{v:V}{u:Value}{pos:Pos}(hg:Gl X x)(hm:X.mg x=some u)(r:RelV v u)(hd:(x==("__debug__" : Str))=false:=by decide):PE X (.Name x pos) (tC v):=
 fun _ _ _ H _ I h=>qch I hg hm ⟨v,H,I,r,h⟩ hd
theorem qvw{x:Str}{v:V}{u:Value}{pos:Pos}(hg:Gl X x)(hm:X.mg x=none)(hv:bootBuiltins x=some u)(r:RelV v u)(hn:x ≠ "__name__":=by decide)(hd:(x==("__debug__" : Str))=false:=by decide):PE X (.Name x pos) (tC v):=
 fun _ _ _ H _ I h=>qyj I hg hm hv ⟨v,H,I,r,h⟩ hn hd
def t2I(ta tb:TE)(k:Int→Int→Hp→Prop):St→Hp→Prop:=fun σ H=>ta σ H fun x H1=>tb σ H1 fun y H2=>∃ i j,x=.int i∧y=.int j∧k i j H2
variable {a b:Expr}{ta tb:TE}{pos:Pos}
def PC(X:Cx)(op:CmpOp)(a b:Expr)(t:TE):Prop:=
 ∀ (pins:List (Addr×Obj)) (s:Shared) (σ:St) (H:Hp) (Q:VK),Inv X pins σ H s→t σ H Q→
  wpAny (model X.prog X.w) X.A (eval a X.env) (fun v s₁=>wpAny (model X.prog X.w) X.A (eval b X.env) (fun u s₂=>wpAny (model X.prog X.w) X.A (compareOp op v u) (EP X pins σ Q) X.xe s₂) X.xe s₁) X.xe s
theorem nobehind(b:Expr){op:CmpOp}(h:op≠.In)(h2:op≠.NotIn):behindInMarks op b=false:=by
 have e1:(op==CmpOp.In)=false:=by cases op<;>first|rfl|exact absurd rfl h
 have e2:(op==CmpOp.NotIn)=false:=by cases op<;>first|rfl|exact absurd rfl h2
 cases b<;>simp[behindInMarks,e1,e2]
noncomputable def tCmp(p:Int→Int→Bool)(ta tb:TE):TE:=fun σ H Q=>t2I ta tb (fun i j H2=>Q (.bl (p i j)) H2) σ H
noncomputable def tB(t:TE):TT:=fun σ H Q=>t σ H fun x H1=>∃ c,x=.bl c∧Q c H1
theorem qmy{op:CmpOp}{t:TE}(h:PC X op a b t)(h1:behindInMarks op b=false):PE X (.Compare a [op] [b] pos) t:=fun pins s σ H Q I hw=>wpAny_Compare1 (h pins s σ H Q I hw) h1
theorem qmq{op:CmpOp}{t:TE}(h:PC X op a b t)(h1:behindInMarks op b=false):PT X (.Compare a [op] [b] pos) (tB t):=by
 intro pins s σ H Q I hw
 refine wpAny_isTrue_Compare1 (thn (h pins s σ H _ I hw) fun v s1 h1=>thn h1 fun u s2 h2=>thn h2 fun c s3 ⟨x,H1,I1,r1,q1⟩=>?_) h1
 obtain⟨d,rfl,q⟩:=q1
 cases r1
 exact wpAny_truthy_bool ⟨H1,I1,q⟩
variable {tA tB':TT}{rest:List Expr}
noncomputable def tAnd(t u:TT):TT:=fun σ H Q=>t σ H fun c H1=>if c=true then u σ H1 Q else Q false H1
noncomputable def tOr(t u:TT):TT:=fun σ H Q=>t σ H fun c H1=>if c=true then Q true H1 else u σ H1 Q
noncomputable def tNot(t:TT):TT:=fun σ H Q=>t σ H fun c H1=>Q (!c) H1
theorem qnf(ha:PT X a tA):PW X (.BoolOp .And [a] pos) tA:=by
 intro wh pins s σ H Q I h
 refine isTrue_and (thn (ha pins s σ H Q I h) fun c s1 e=>?_)
 cases c with
 |true=>exact isTrue_and_nil e
 |false=>exact e
theorem pw_or1(ha:PT X a tA):PW X (.BoolOp .Or [a] pos) tA:=by
 intro wh pins s σ H Q I h
 refine isTrue_or (thn (ha pins s σ H Q I h) fun c s1 e=>?_)
 cases c with
 |false=>exact isTrue_or_nil e
 |true=>exact e
theorem qmz(ha:PT X a tA)(hb:PW X (.BoolOp .And (b::rest) pos) tB'):PW X (.BoolOp .And (a::b::rest) pos) (tAnd tA tB'):=by
 intro wh pins s σ H Q I h
 refine isTrue_and (thn (ha pins s σ H _ I h) fun c s1 ⟨H1,I1,q1⟩=>?_)
 cases c with
 |true=>exact hb wh pins s1 σ H1 Q I1 q1
 |false=>exact⟨H1,I1,q1⟩
theorem pw_or(ha:PT X a tA)(hb:PW X (.BoolOp .Or (b::rest) pos) tB'):PW X (.BoolOp .Or (a::b::rest) pos) (tOr tA tB'):=by
 intro wh pins s σ H Q I h
 refine isTrue_or (thn (ha pins s σ H _ I h) fun c s1 ⟨H1,I1,q1⟩=>?_)
 cases c with
 |true=>exact⟨H1,I1,q1⟩
 |false=>exact hb wh pins s1 σ H1 Q I1 q1
theorem pt_not(ha:PT X a tA):PT X (.UnaryOp .Not a pos) (tNot tA):=by
 intro pins s σ H Q I h
 exact isTrue_not (ha pins s σ H (fun c H1=>Q (!c) H1) I h)
noncomputable def tAndV(ta tb:TE):TE:=fun σ H Q=>ta σ H fun x H1=>∃ c,x=.bl c∧if c=true then tb σ H1 Q else Q (.bl false) H1
noncomputable def tOrV(ta tb:TE):TE:=fun σ H Q=>ta σ H fun x H1=>∃ c,x=.bl c∧if c=true then Q (.bl true) H1 else tb σ H1 Q
noncomputable def tNotV(ta:TE):TE:=fun σ H Q=>ta σ H fun x H1=>∃ c,x=.bl c∧Q (.bl (!c)) H1
theorem qmw{op}{t:TE}(h:PE X a t):PE X (.BoolOp op [a] pos) t:=fun pins s σ H Q I hw=>BoolOp_one (h pins s σ H Q I hw)
theorem qma(ha:PE X a ta)(hb:PE X (.BoolOp .And (b::rest) pos) tb):PE X (.BoolOp .And (a::b::rest) pos) (tAndV ta tb):=by
 intro pins s σ H Q I h
 refine BoolOp_and (thn (ha pins s σ H _ I h) fun v s1 ⟨x,H1,I1,r1,q1⟩=>?_)
 obtain⟨c,rfl,q1⟩:=q1
 cases r1
 refine wpAny_truthy_bool ?_
 cases c with
 |true=>exact hb pins s1 σ H1 Q I1 q1
 |false=>exact⟨.bl false,H1,I1,rfl,q1⟩
theorem pe_or(ha:PE X a ta)(hb:PE X (.BoolOp .Or (b::rest) pos) tb):PE X (.BoolOp .Or (a::b::rest) pos) (tOrV ta tb):=by
 intro pins s σ H Q I h
 refine BoolOp_or (thn (ha pins s σ H _ I h) fun v s1 ⟨x,H1,I1,r1,q1⟩=>?_)
 obtain⟨c,rfl,q1⟩:=q1
 cases r1
 refine wpAny_truthy_bool ?_
 cases c with
 |false=>exact hb pins s1 σ H1 Q I1 q1
 |true=>exact⟨.bl true,H1,I1,rfl,q1⟩
theorem pe_not(ha:PE X a ta):PE X (.UnaryOp .Not a pos) (tNotV ta):=by
 intro pins s σ H Q I h
 refine UnaryOp_ (thn (ha pins s σ H _ I h) fun v s1 ⟨x,H1,I1,r1,q1⟩=>?_)
 obtain⟨c,rfl,q1⟩:=q1
 cases r1
 exact not_of (wpAny_truthy_bool ⟨.bl (!c),H1,I1,rfl,q1⟩)
noncomputable def tIf(t:TT)(ta tb:TE):TE:=fun σ H Q=>t σ H fun c H1=>if c=true then ta σ H1 Q else tb σ H1 Q
theorem qi9{c:Expr}(hc:PT X c tA)(ha:PE X a ta)(hb:PE X b tb):PE X (.IfExp c a b pos) (tIf tA ta tb):=by
 intro pins s σ H Q I h
 refine wpAny_IfExp (thn (hc pins s σ H _ I h) fun d s1 ⟨H1,I1,q1⟩=>?_)
 cases d with
 |true=>exact ha pins s1 σ H1 Q I1 q1
 |false=>exact hb pins s1 σ H1 Q I1 q1
end
end L2
namespace L2
open PySem PySem.Spec PyProof.Rows
def SqL(K:Qqq)(H:Hp)(a:Addr)(xs:List V):Prop:=
 Rd H a (.lst xs)∨
  ∃ (o:Obj) (its:Array Value) (n:Nat),K.lookup a=some o∧o.cls=.type "list"∧o.dict=none∧o.data=.seq its n∧its.size≤sizeLine∧Vals xs its.toList
def SqT(K:Qqq)(H:Hp)(a:Addr)(xs:List V):Prop:=
 Rd H a (.tup xs)∨
  ∃ (o:Obj) (its:Array Value) (n:Nat),K.lookup a=some o∧o.cls=.type "tuple"∧o.data=.seq its n∧its.size≤sizeLine∧Vals xs its.toList
noncomputable def absV:Value→Option V
 |.none=>some .non
 |.bool b=>some (.bl b)
 |.int i _=>some (.int i)
 |.str x _=>some (.str x)
 |.bytes b _=>some (.byt b)
 |.float b _=>some (.flt b)
 |.ref a=>some (.ref a)
 |.type n=>some (.ty n)
 |_=>none
theorem RelV.abs{x:V}{u:Value}(r:RelV x u):absV u=some x:=by
 cases x with
 |non=>cases r; rfl
 |bl _=>cases r; rfl
 |int _=>obtain⟨t,rfl⟩:=r; rfl
 |str _=>obtain⟨t,rfl⟩:=r; rfl
 |byt _=>obtain⟨t,rfl⟩:=r; rfl
 |flt _=>obtain⟨t,rfl⟩:=r; rfl
 |ref _=>cases r; rfl
 |ty _=>cases r; rfl
theorem RelV.inj{x y:V}{u:Value}(r:RelV x u)(q:RelV y u):x=y:=Option.some.inj (r.abs.symm.trans q.abs)
theorem Vals.inj:∀ {xs ys:List V}{us:List Value},Vals xs us→Vals ys us→xs=ys
 |_,_,_,.nil,.nil=>rfl
 |_,_,_,.cons r t,.cons r' t'=>by rw[r.inj r',Vals.inj t t']
section
variable {X:Cx}{pins:List (Addr×Obj)}{σ:St}{H:Hp}{s:Shared}{a:Addr}{xs ys:List V}
theorem SqL.of{K:Qqq}(h:H a=some (.lst xs)):SqL K H a xs:=.inl (.inl h)
theorem SqT.of{K:Qqq}(h:H a=some (.tup xs)):SqT K H a xs:=.inl (.inl h)
theorem Inv.list(I:Inv X pins σ H s)(h:SqL X.K H a xs):∃ its:List Value,Vals xs its∧PlainL s.heap a its.toArray∧xs.length≤sizeLine:=by
 rcases h with h|⟨o,its,n,hk,hc,hd,hs,hz,r⟩
 ·obtain⟨z,its,n,r,e⟩:=h.ok I.hok
  exact⟨its,r,⟨_,n,e,rfl,rfl,rfl⟩,z⟩
 ·refine⟨its.toList,r,⟨o,n,I.kIn a o hk,hc,hd,by simpa using hs⟩,?_⟩
  have e:=r.length
  simp only[Qzy]at e
  omega
theorem Inv.tuple(I:Inv X pins σ H s)(h:SqT X.K H a xs):∃ its:List Value,Vals xs its∧IsTup s.heap a its.toArray∧xs.length≤sizeLine:=by
 rcases h with h|⟨o,its,n,hk,hc,hs,hz,r⟩
 ·obtain⟨z,its,r,p⟩:=h.ok I.hok
  exact⟨its,r,p,z⟩
 ·refine⟨its.toList,r,⟨o,I.kIn a o hk,hc,n,by simpa using hs⟩,?_⟩
  have e:=r.length
  simp only[Qzy]at e
  omega
theorem Inv.list_inj(I:Inv X pins σ H s)(h:SqL X.K H a xs)(h':SqL X.K H a ys):xs=ys:=by
 obtain⟨its,r,⟨o,n,e,_,_,d⟩,_⟩:=I.list h
 obtain⟨its',r',⟨o',n',e',_,_,d'⟩,_⟩:=I.list h'
 rw[e]at e'; cases e'
 rw[d]at d'
 injection d' with d1 _
 have:its=its':=by simpa using congrArg Array.toList d1
 subst this
 exact r.inj r'
theorem Inv.tuple_inj(I:Inv X pins σ H s)(h:SqT X.K H a xs)(h':SqT X.K H a ys):xs=ys:=by
 obtain⟨its,r,⟨o,e,_,n,d⟩,_⟩:=I.tuple h
 obtain⟨its',r',⟨o',e',_,n',d'⟩,_⟩:=I.tuple h'
 rw[e]at e'; cases e'
 rw[d]at d'
 injection d' with d1 _
 have:its=its':=by simpa using congrArg Array.toList d1
 subst this
 exact r.inj r'
end
noncomputable abbrev Cx.wish(X:Cx)(E:Value→Shared→Prop):Cx:={ X with xe:=E }
noncomputable abbrev Cx.nox(X:Cx):Cx:=X.wish fun _ _=>False
theorem Cx.Ok.wish{X:Cx}(ok:X.Ok)(E:Value→Shared→Prop):(X.wish E).Ok:=
 ⟨ok.mod,ok.kind,ok.glob,ok.blt,ok.above,ok.inj,ok.has,ok.cab,ok.hd,ok.frames,ok.stk,ok.exf,ok.bs,ok.bsz,ok.noex,ok.exfs,ok.funs,ok.frf⟩
theorem Cx.Ok.unwish{X:Cx}{E:Value→Shared→Prop}(ok:(X.wish E).Ok):X.Ok:=
 ⟨ok.mod,ok.kind,ok.glob,ok.blt,ok.above,ok.inj,ok.has,ok.cab,ok.hd,ok.frames,ok.stk,ok.exf,ok.bs,ok.bsz,ok.noex,ok.exfs,ok.funs,ok.frf⟩
section
variable {X:Cx}{pins:List (Addr×Obj)}{σ:St}{H:Hp}{s:Shared}{E:Value→Shared→Prop}
theorem Inv.wish(I:Inv X pins σ H s)(E:Value→Shared→Prop):Inv (X.wish E) pins σ H s:=⟨I.ok.wish E,I.os,I.bare,I.base,I.loc,I.cell,I.free,I.freeC,I.pin,I.hok,I.len⟩
theorem Inv.unwish(I:Inv (X.wish E) pins σ H s):Inv X pins σ H s:=⟨I.ok.unwish,I.os,I.bare,I.base,I.loc,I.cell,I.free,I.freeC,I.pin,I.hok,I.len⟩
theorem SP.unwish{D:Ends}{f:Flow}{s':Shared}(h:SP (X.wish E) pins D f s'):SP X pins D f s':=by
 cases f with
 |next=>obtain⟨σ',H',I,q⟩:=h; exact⟨σ',H',I.unwish,q⟩
 |brk=>obtain⟨σ',H',I,q⟩:=h; exact⟨σ',H',I.unwish,q⟩
 |cont=>obtain⟨σ',H',I,q⟩:=h; exact⟨σ',H',I.unwish,q⟩
 |ret u=>obtain⟨v,σ',H',I,r,q⟩:=h; exact⟨v,σ',H',I.unwish,r,q⟩
theorem PE.nox{e:Expr}{t:TE}(h:PE X.nox e t):PE X e t:=fun pins s σ H Q I hw=>
 wpAny_mono (h pins s σ H Q (I.wish _) hw) (fun _ _ ⟨v,H',I',r,q⟩=>⟨v,H',I'.unwish,r,q⟩) fun _ _ z=>False.elim z
theorem PT.nox{e:Expr}{t:TT}(h:PT X.nox e t):PT X e t:=fun pins s σ H Q I hw=>
 wpAny_mono (h pins s σ H Q (I.wish _) hw) (fun _ _ ⟨H',I',q⟩=>⟨H',I'.unwish,q⟩) fun _ _ z=>False.elim z
theorem PSs.nox{st:List Stmt}{t:TS}(h:PSs X.nox st t):PSs X st t:=fun pins s σ H D I hw=>
 wpAny_mono (h pins s σ H D (I.wish _) hw) (fun _ _ q=>q.unwish) fun _ _ z=>False.elim z
end
section
variable {X:Cx}{st:Stmt}{rest:List Stmt}{t u:TS}{e:Expr}{te:TE}{pos:Pos}
noncomputable def tNext:TS:=fun D σ H=>D.nx σ H
noncomputable def tSeq(t u:TS):TS:=fun D σ H=>t { D with nx:=u D } σ H
theorem pss_nil:PSs X [] tNext:=fun _ _ σ H _ I h=>wpAny_execs_nil ⟨σ,H,I,h⟩
theorem qdc(h1:PS X st t)(h2:PSs X rest u):PSs X (st::rest) (tSeq t u):=by
 intro pins s σ H D I h
 refine wpAny_execs_cons (thn (h1 pins s σ H { D with nx:=u D } I h) fun f s1 q=>?_)
 cases f with
 |next=>
  obtain⟨σ',H',I',q⟩:=q
  exact h2 pins s1 σ' H' D I' q
 |ret v=>exact q
 |brk=>exact q
 |cont=>exact q
noncomputable def tCont:TS:=fun D σ H=>D.ct σ H
theorem ps_continue:PS X (.Continue pos) tCont:=fun _ _ σ H _ I h=>wpAny_Continue ⟨σ,H,I,h⟩
theorem Inv.quiet{pins:List (Addr×Obj)}{σ:St}{H:Hp}{s:Shared}(I:Inv X pins σ H s):interactive X.env=false:=by simp[interactive,I.ok.kind]
theorem ps_doc{x j pos pos'}:PS X (.Expr (.Constant (.str x) j pos) pos') tNext:=fun _ s σ H _ I h=>wpAny_Expr (Calls.Constant_str (show SP X _ _ .next { s with toks:=s.toks+1 } from⟨σ,H,I.tok _,h⟩)) I.quiet
noncomputable def tDrop(te:TE):TS:=fun D σ H=>te σ H fun _ H1=>D.nx σ H1
theorem qni(he:PE X e te)(hs:swapsWith e none pos.line X.env=pure false):PS X (.Expr e pos) (tDrop te):=by
 intro pins s σ H D I h
 exact wpAny_Expr_any (thn (he pins s σ H _ I h) fun v s1 ⟨x,H1,I1,r1,q1⟩=>⟨σ,H1,I1,q1⟩) I.quiet hs
noncomputable def tRet(te:TE):TS:=fun D σ H=>te σ H D.rt
theorem ps_ret(he:PE X e te):PS X (.Return (some e) pos) (tRet te):=by
 intro pins s σ H D I h
 exact wpAny_Return_some (thn (he pins s σ H _ I h) fun v s1 ⟨x,H1,I1,r1,q1⟩=>⟨x,σ,H1,I1,r1,q1⟩)
noncomputable def tIfS(c:TT)(t u:TS):TS:=fun D σ H=>c σ H fun b H1=>if b=true then t D σ H1 else u D σ H1
theorem ps_if{c:Expr}{a b:List Stmt}{tc:TT}(hc:PT X c tc)(ha:PSs X a t)(hb:PSs X b u):PS X (.If c a b pos) (tIfS tc t u):=by
 intro pins s σ H D I h
 refine wpAny_If (thn (hc pins s σ H _ I h) fun d s1 ⟨H1,I1,q1⟩=>?_)
 cases d with
 |true=>exact ha pins s1 σ H1 D I1 q1
 |false=>exact hb pins s1 σ H1 D I1 q1
end
abbrev TG:=V→St→Hp→(St→Hp→Prop)→Prop
abbrev TGs:=List V→St→Hp→(St→Hp→Prop)→Prop
def PG(X:Cx)(target:Expr)(t:TG):Prop:=
 ∀ (pins:List (Addr×Obj)) (s:Shared) (σ:St) (H:Hp) (v:V) (u:Value) (Q:St→Hp→Prop),Inv X pins σ H s→RelV v u→t v σ H Q→
  wpAny (model X.prog X.w) X.A (assign target X.env u) (fun _ s'=>∃ σ' H',Inv X pins σ' H' s'∧Q σ' H') X.xe s
def PGs(X:Cx)(ts:List Expr)(t:TGs):Prop:=
 ∀ (pins:List (Addr×Obj)) (s:Shared) (σ:St) (H:Hp) (vs:List V) (us:List Value) (Q:St→Hp→Prop),Inv X pins σ H s→Vals vs us→t vs σ H Q→
  wpAny (model X.prog X.w) X.A (assignInOrder ((assignEach ts X.env).map (·.2)) us) (fun _ s'=>∃ σ' H',Inv X pins σ' H' s'∧Q σ' H') X.xe s
abbrev TSet:=V→V→V→Hp→(Hp→Prop)→Prop
def PSet(X:Cx)(t:TSet):Prop:=
 ∀ (pins:List (Addr×Obj)) (s:Shared) (σ:St) (H:Hp) (o i v:V) (ov iv u:Value) (Q:Hp→Prop),Inv X pins σ H s→RelV o ov→RelV i iv→RelV v u→t o i v H Q→
  wpAny (model X.prog X.w) X.A (setItem ov iv u) (fun _ s'=>∃ H',Inv X pins σ H' s'∧Q H') X.xe s
section
variable {X:Cx}{pos:Pos}
noncomputable def qe9(i:Nat):TG:=fun v σ H Q=>Q (σ.set i (some v)) H
theorem qgd{i:Nat}{x:Str}(hN:X.N.Nodup)(hi:X.N[i]?=some x)(hx:Loc X.env.scope x)(hf:X.fn x=true∨X.env.scope.names.lookup x=some .local):PG X (.Name x pos) (qe9 i):=by
 intro pins s σ H v u Q I r h
 exact wpAny_assign_Name (qc7 I hN hi hx r (fun s' I'=>⟨_,H,I',h⟩) hf)
noncomputable def gNil:TGs:=fun vs σ H Q=>vs=[]∧Q σ H
noncomputable def gCons(t:TG)(u:TGs):TGs:=fun vs σ H Q=>∃ v r,vs=v::r∧t v σ H fun σ' H'=>u r σ' H' Q
theorem qns:PGs X [] gNil:=by
 intro pins s σ H vs us Q I r h
 obtain⟨e,h⟩:=h
 subst e
 cases r
 exact assignInOrder_nil ⟨σ,H,I,h⟩
theorem qi6{e:Expr}{es:List Expr}{t:TG}{u:TGs}(h1:PG X e t)(h2:PGs X es u)
  (hs:(assignEach (e::es) X.env).map (·.2)=assign e X.env::(assignEach es X.env).map (·.2):=by rfl):PGs X (e::es) (gCons t u):=by
 intro pins s σ H vs us Q I r h
 obtain⟨v,vr,e1,h⟩:=h
 subst e1
 cases r with
 |cons r rr=>
  rw[hs]
  refine assignInOrder_cons (thn (h1 pins s σ H _ _ _ I r h) fun _ s1 ⟨σ1,H1,I1,q1⟩=>?_)
  exact h2 pins s1 σ1 H1 _ _ Q I1 rr q1
noncomputable def gTup(K:Qqq)(n:Nat)(t:TGs):TG:=fun v σ H Q=>∃ a xs,v=.ref a∧SqT K H a xs∧xs.length=n∧t xs σ H Q
theorem pg_tup{es:List Expr}{k:Nat}{t:TGs}{n:Nat}(hc:X.calm=true)(h:PGs X es t)
  (hn:(assignEach es X.env).length=n:=by rfl) (hst:(assignEach es X.env).findIdx? (·.1)=none:=by rfl):PG X (.Tuple es k pos) (gTup X.K n t):=by
 intro pins s σ H v u Q I r hw
 obtain⟨a,xs,e1,hq,hl,hw⟩:=hw
 subst e1
 cases r
 obtain⟨its,rv,ht,hz⟩:=I.tuple hq
 refine assign_Tuple_tuple (I.ok.hd hc) ht (by simp[hn,← hl,rv.length]) hst fun h' hx=>?_
 have I1:Inv X pins σ H { s with heap:=h' }:=I.kept (t':=s.toks) fun b o e=>hx b o (Qqo (Qqv e)) e
 exact h pins _ σ H xs _ Q I1 (by simpa using rv) hw
noncomputable def gSub(to ti:TE)(t:TSet):TG:=fun v σ H Q=>to σ H fun o H1=>ti σ H1 fun i H2=>t o i v H2 fun H3=>Q σ H3
theorem pg_sub{o i:Expr}{to ti:TE}{t:TSet}(ho:PE X o to)(hi:PE X i ti)(hs:PSet X t)
  (ha:∀ v,assign (.Subscript o i pos) X.env v=(do
   let ov ← holding [v] (eval o X.env)
   let iv ← holding [v,ov] (eval i X.env)
   standAt pos
   holding [v,ov,iv] (setItem ov iv v)
   release [v,ov,iv] []):=by intro _; rfl):PG X (.Subscript o i pos) (gSub to ti t):=by
 intro pins s σ H v u Q I r h
 rw[ha]
 refine wpAny_bind (wpAny_holding (thn (ho pins s σ H _ I h) fun ov s1 ⟨x,H1,I1,r1,q1⟩=>?_))
 refine wpAny_bind (wpAny_holding (thn (hi pins s1 σ H1 _ I1 q1) fun iv s2 ⟨y,H2,I2,r2,q2⟩=>?_))
 refine wpAny_bind (wpAny_standAt (wpAny_bind (wpAny_holding (thn (hs pins s2 σ H2 x y v ov iv u _ I2 r1 r2 r q2) fun _ s3 ⟨H3,I3,q3⟩=>?_))))
 exact wpAny_release ⟨σ,H3,I3,q3⟩
noncomputable def tAsg(te:TE)(g:TG):TS:=fun D σ H=>te σ H fun x H1=>g x σ H1 D.nx
theorem ps_asg{tg e:Expr}{te:TE}{g:TG}(he:PE X e te)(hg:PG X tg g)(hs:swapsWithSole [tg] e pos.line X.env=pure false:=by rfl)(hw:swappedStores [tg] e X.env=pure none:=by rfl)
  (h1:(assignEach [tg] X.env).map (·.2)=[assign tg X.env]:=by rfl):PS X (.Assign [tg] e pos) (tAsg te g):=by
 intro pins s σ H D I h
 refine wpAny_Assign_stores (thn (he pins s σ H _ I h) fun v s1 ⟨x,H1,I1,r1,q1⟩=>?_) hs hw
 rw[h1]
 exact thn (hg pins s1 σ H1 x v _ I1 r1 q1) fun _ s2 q=>q
theorem ps_set{i:Nat}{x:Str}{e:Expr}{te:TE}{pos':Pos}(hN:X.N.Nodup)(hi:X.N[i]?=some x)(hx:Loc X.env.scope x)(he:PE X e te)(hs:swapsWith e (some (.Name x pos')) pos.line X.env=pure false:=by rfl)(hf:X.fn x=true∨X.env.scope.names.lookup x=some .local):
  PS X (.Assign [.Name x pos'] e pos) (tAsg te (qe9 i)):=by
 intro pins s σ H D I h
 refine wpAny_Assign_Name (thn (he pins s σ H _ I h) fun v s1 ⟨y,H1,I1,r1,q1⟩=>?_) hs
 exact qc7 I1 hN hi hx r1 (fun s2 I2=>⟨_,H1,I2,q1⟩) hf
end
section
variable {X:Cx}{pos:Pos}
end
structure It where
 go:Nat→Hp→Prop
 yld:Nat→Hp→V→Hp→Prop
 stop:Nat→Hp→Prop
def FpOk(X:Cx)(pins:List (Addr×Obj))(H:Hp)(b:Addr):Prop:=
 H b=none∧b≠X.env.locals∧b ∉ X.fs∧(b∈X.ex∨X.s₀.heap.objs.size≤b)∧(∀ x c,X.env.cells.lookup x=some c→c≠b)∧∀ p∈X.pn++pins,p.1≠b
theorem Inv.fpOk{X:Cx}{pins:List (Addr×Obj)}{σ:St}{H H':Hp}{s:Shared}{b:Addr}(I:Inv X pins σ H s)(hb:s.heap.objs.size≤b)(hn:H' b=none):FpOk X pins H' b:=by
 refine⟨hn,Qxx (Qqp I.lt hb),I.nofs hb,.inr (Qzx I.sz hb),fun x c e z=>?_,fun p hp z=>?_⟩
 ·obtain⟨v,q⟩:=I.cell x c e
  exact absurd (Qqp q.lt (by rw[z]; exact hb)) (Qzi _)
 ·exact absurd (Qqp (Qqv (I.pin p hp).1) (by rw[z]; exact hb)) (Qzi _)
structure Turn (P:Program) (w:World) (K:Qqq) (tg:Expr) (J:It) (fp:List Addr) (it:Addr) (tn:Nat→Heap→Prop):Prop where
 mem:it∈fp
 obj:∀ i h,tn i h→∀ b∈fp,∃ o,h.get? b=some o∧∀ v,o.data≠.cell v
 keep:∀ i h h',tn i h→(∀ b∈fp,∀ o,h.get? b=some o→h'.get? b=some o)→tn i h'
 item:∀ (X:Cx),X.prog=P→X.w=w→X.K=K→X.calm=true→∀ (i:Nat) (pins:List (Addr×Obj)) (s:Shared) (σ:St) (H:Hp) (E:Value→Shared→Prop),Inv X pins σ H s→(∀ b∈fp,FpOk X pins H b)→tn i s.heap→J.go i H→
  wpAny (model P w) X.A (pyNext (.ref it)) (fun r s1=>∃ u,r=some u∧
   wpAny (model P w) X.A (letOwnedTupleGo tg (.ref it) u) (fun _ s2=>∃ x H',Inv X pins σ H' s2∧RelV x u∧J.yld i H x H'∧tn (i+1) s2.heap∧∀ b∈fp,H' b=none) E s1) E s
 done:∀ (X:Cx),X.prog=P→X.w=w→X.K=K→X.calm=true→∀ (i:Nat) (pins:List (Addr×Obj)) (s:Shared) (σ:St) (H:Hp) (E:Value→Shared→Prop),Inv X pins σ H s→(∀ b∈fp,FpOk X pins H b)→tn i s.heap→J.stop i H→
  wpAny (model P w) X.A (pyNext (.ref it)) (fun r s1=>r=none∧Inv X pins σ H s1) E s
 self:∀ (A:Around) (i:Nat) (s:Shared) (Q:Value→Shared→Prop) (E:Value→Shared→Prop),tn i s.heap→Q (.ref it) s→wpAny (model P w) A (pyIter (.ref it)) Q E s
abbrev TI:=St→Hp→(It→Hp→Prop)→Prop
def PIE(X:Cx)(pins:List (Addr×Obj))(σ:St)(tg:Expr)(R:It→Hp→Prop)(itv:Value)(s2:Shared):Prop:=
 ∃ (it:Addr) (fp:List Addr) (tn:Nat→Heap→Prop) (J:It) (H':Hp),itv=.ref it∧Inv X pins σ H' s2∧Turn X.prog X.w X.K tg J fp it tn∧tn 0 s2.heap∧(∀ b∈fp,FpOk X pins H' b)∧R J H'
def PI(X:Cx)(tg iter:Expr)(wi:TI):Prop:=
 ∀ (pins:List (Addr×Obj)) (s:Shared) (σ:St) (H:Hp) (R:It→Hp→Prop),Inv X pins σ H s→wi σ H R→
  wpAny (model X.prog X.w) X.A (eval iter X.env) (fun v s1=>wpAny (model X.prog X.w) X.A (pyIter v) (PIE X pins σ tg R) X.xe s1) X.xe s
theorem qhc{M:Model}{A:Around}{E:Value→Shared→Prop}{s:Shared}{tg:Expr}{it:Addr}{u:Value}{o:Obj}{n:String}{vs:Array Value}{Q:Unit→Shared→Prop}(ho:s.heap.get? it=some o)(hc:o.cls=.type n)(hd:o.data=.fields vs)
  (hn:["enumerate","zip","dict_itemiterator","dict_reverseitemiterator","odict_iterator","itertools.zip_longest","itertools.pairwise"].contains n=false) (hQ:Q () s):wpAny M A (letOwnedTupleGo tg (.ref it) u) Q E s:=by
 unfold letOwnedTupleGo
 cases tg<;>first
  |exact wpAny_pure hQ
  |(cases u<;>first
    |exact wpAny_pure hQ
    |(refine wpAny_bind (wpAny_load ho ?_)
      rw[hc,hd]
      show wpAny M A (if (["enumerate","zip","dict_itemiterator","dict_reverseitemiterator","odict_iterator","itertools.zip_longest","itertools.pairwise"].contains n&&vs[0]?==some (rawInt _))=true then _ else _) Q E s
      rw[if_neg (by intro h; rw[hn,Bool.false_and]at h; cases h)]
      exact wpAny_pure hQ))
noncomputable def Itl(K:Qqq)(a:Addr):It:=
 ⟨fun i H=>∃ xs x,SqL K H a xs∧xs[i]?=some x,fun i H x H'=>H'=H∧∀ xs,SqL K H a xs→xs[i]?=some x,fun i H=>∃ xs,SqL K H a xs∧xs.length≤i⟩
noncomputable def Itt(K:Qqq)(a:Addr):It:=
 ⟨fun i H=>∃ xs x,SqT K H a xs∧xs[i]?=some x,fun i H x H'=>H'=H∧∀ xs,SqT K H a xs→xs[i]?=some x,fun i H=>∃ xs,SqT K H a xs∧xs.length≤i⟩
noncomputable def Itr(lo:Int)(n:Nat):It:=⟨fun i _=>i<n,fun i H x H'=>H'=H∧x=.int (lo+i),fun i _=>n≤i⟩
theorem qfo{P:Program}{w:World}{K:Qqq}{tg:Expr}(a it:Addr):Turn P w K tg (Itl K a) [it] it (fun i h=>h.IsListIter it a i) where
 mem:=by simp
 obj:=fun i h st b hb=>by
  have e:b=it:=by simpa using hb
  subst e
  obtain⟨o,e,c,d⟩:=st
  exact⟨o,e,fun v z=>by rw[d]at z; cases z⟩
 keep:=fun i h h' st k=>st.at fun o e=>k it (by simp) o e
 item:=by
  intro X hP hw hK hc i pins s σ H E I hf st hg
  subst hP hw hK
  obtain⟨xs,x,hq,hx⟩:=hg
  obtain⟨its,rv,p,hz⟩:=I.list hq
  obtain⟨u,hu,ru⟩:=rv.get hx
  obtain⟨f0,f1,f2,f3,f4,f5⟩:=hf it (by simp)
  refine wpAny_pyNext_list_item st p.isList (x:=u) (by simpa using hu) fun h' st' sb=>?_
  have I1:Inv X pins σ H { s with heap:=h' }:=I.turned (t':=s.toks) (fun b o hb e=>(sb.2 b hb).trans e) f0 f1 f3 f4 f5
  obtain⟨o,e,c,d⟩:=id st'
  exact⟨u,rfl,qhc (s:={ s with heap:=h' }) e c d (by decide) ⟨x,H,I1,ru,⟨rfl,fun ys hy=>by rw[I.list_inj hy hq]; exact hx⟩,st',fun b hb=>(hf b hb).1⟩⟩
 done:=by
  intro X hP hw hK hc i pins s σ H E I hf st hg
  subst hP hw hK
  obtain⟨xs,hq,hx⟩:=hg
  obtain⟨its,rv,p,hz⟩:=I.list hq
  obtain⟨f0,f1,f2,f3,f4,f5⟩:=hf it (by simp)
  have hl:=rv.length
  exact wpAny_pyNext_list_end (I.ok.hd hc) st p.isList (by simp; omega) fun h' eb=>⟨rfl,I.turned (t':=s.toks) (fun b o hb e=>eb b o hb e) f0 f1 f3 f4 f5⟩
 self:=fun _ _ _ _ _ st h=>wpAny_pyIter_listiter st h
theorem qek{P:Program}{w:World}{K:Qqq}{tg:Expr}(a it:Addr):Turn P w K tg (Itt K a) [it] it (fun i h=>h.IsTupleIter it a i) where
 mem:=by simp
 obj:=fun i h st b hb=>by
  have e:b=it:=by simpa using hb
  subst e
  obtain⟨o,e,c,d⟩:=st
  exact⟨o,e,fun v z=>by rw[d]at z; cases z⟩
 keep:=fun i h h' st k=>st.at fun o e=>k it (by simp) o e
 item:=by
  intro X hP hw hK hc i pins s σ H E I hf st hg
  subst hP hw hK
  obtain⟨xs,x,hq,hx⟩:=hg
  obtain⟨its,rv,p,hz⟩:=I.tuple hq
  obtain⟨u,hu,ru⟩:=rv.get hx
  obtain⟨f0,f1,f2,f3,f4,f5⟩:=hf it (by simp)
  refine wpAny_pyNext_tuple_item st (show s.heap.IsTuple a its.toArray from p) (x:=u) (by simpa using hu) fun h' st' sb=>?_
  have I1:Inv X pins σ H { s with heap:=h' }:=I.turned (t':=s.toks) (fun b o hb e=>(sb.2 b hb).trans e) f0 f1 f3 f4 f5
  obtain⟨o,e,c,d⟩:=id st'
  exact⟨u,rfl,qhc (s:={ s with heap:=h' }) e c d (by decide) ⟨x,H,I1,ru,⟨rfl,fun ys hy=>by rw[I.tuple_inj hy hq]; exact hx⟩,st',fun b hb=>(hf b hb).1⟩⟩
 done:=by
  intro X hP hw hK hc i pins s σ H E I hf st hg
  subst hP hw hK
  obtain⟨xs,hq,hx⟩:=hg
  obtain⟨its,rv,p,hz⟩:=I.tuple hq
  obtain⟨f0,f1,f2,f3,f4,f5⟩:=hf it (by simp)
  have hl:=rv.length
  exact wpAny_pyNext_tuple_end (I.ok.hd hc) st (show s.heap.IsTuple a its.toArray from p) (by simp; omega) fun h' eb=>⟨rfl,I.turned (t':=s.toks) (fun b o hb e=>eb b o hb e) f0 f1 f3 f4 f5⟩
 self:=fun _ _ _ _ _ st h=>wpAny_pyIter_tupleiter st h
theorem qew{P:Program}{w:World}{K:Qqq}{tg:Expr}(it:Addr)(lo:Int)(n:Nat):Turn P w K tg (Itr lo n) [it] it (fun i h=>IsRangeIter h it (lo+(i:Nat)*1) ((n:Int) - (i:Nat)) 1) where
 mem:=by simp
 obj:=fun i h st b hb=>by
  have e:b=it:=by simpa using hb
  subst e
  exact⟨_,st,fun v z=>by
   have z':Data.fields _=Data.cell v:=z
   cases z'⟩
 keep:=fun i h h' st k=>k it (by simp) _ st
 item:=by
  intro X hP hw hK hc i pins s σ H E I hf st hg
  subst hP hw hK
  obtain⟨f0,f1,f2,f3,f4,f5⟩:=hf it (by simp)
  have W:=Walks.range (prog:=X.prog) (w:=X.w) (I.ok.hd hc) it lo 1 n
  refine W.item i s _ _ hg st fun v h' tk hv st' kk=>?_
  obtain⟨t,rfl⟩:=hv
  have I1:Inv X pins σ H { s with heap:=h',toks:=tk }:=I.turned (fun b o hb e=>kk b o (by simpa using hb) e) f0 f1 f3 f4 f5
  refine⟨_,rfl,qhc (s:={ s with heap:=h',toks:=tk }) (n:="range_iterator") st' rfl rfl (by decide) ⟨.int (lo+i),H,I1,⟨t,?_⟩,⟨rfl,rfl⟩,st',fun b hb=>(hf b hb).1⟩⟩
  rw[Int.mul_one]
 done:=by
  intro X hP hw hK hc i pins s σ H E I hf st hg
  subst hP hw hK
  obtain⟨f0,f1,f2,f3,f4,f5⟩:=hf it (by simp)
  exact wpAny_pyNext_range_end (I.ok.hd hc) st (by have:n≤i:=hg; omega) fun h' eb=>⟨rfl,I.turned (t':=s.toks) (fun b o hb e=>eb b o hb e) f0 f1 f3 f4 f5⟩
 self:=fun _ _ _ _ _ st h=>wpAny_pyIter_rangeiter st h
end L2
namespace L2
open PySem PySem.Spec PyProof.Rows
section
variable {X:Cx}{tg:Expr}
theorem qdb{pins:List (Addr×Obj)}{σ:St}{H:Hp}{s:Shared}{R:It→Hp→Prop}{E:Value→Shared→Prop}{lo hi:Int}{t u v:Tok}{tk:Nat}(I:Inv X pins σ H s)(h1:-(2 ^ 62)≤lo)(h2:lo<2 ^ 62)(h3:-(2 ^ 62)≤hi)(h4:hi<2 ^ 62)
  (q:R (Itr lo (hi - lo).toNat) H):wpAny (model X.prog X.w) X.A (pyIter (.ref s.heap.objs.size)) (PIE X pins σ tg R) E { s with heap:=s.heap.push { cls:=.type "range",data:=.fields #[.int lo t,.int hi u,.int 1 v] },toks:=tk }:=by
 refine wpAny_pyIter_range (IsRange.new ..) (small_one h1 h2 h3 h4) ?_
 have I1:Inv X pins σ H { s with heap:=s.heap.push { cls:=.type "range",data:=.fields #[.int lo t,.int hi u,.int 1 v] },toks:=tk }:=I.kept fun b o e=>Qqz _ e
 refine⟨(s.heap.push { cls:=.type "range",data:=.fields #[.int lo t,.int hi u,.int 1 v] }).objs.size,[(s.heap.push { cls:=.type "range",data:=.fields #[.int lo t,.int hi u,.int 1 v] }).objs.size],_,_,H,rfl,
  I1.kept (t':=tk) fun b o e=>Qqz _ e,qew _ lo (hi - lo).toNat,?_,fun b hb=>?_,q⟩
 ·have e1:lo+((0:Nat):Int)*1=lo:=by simp
  have e2:(((hi - lo).toNat:Nat):Int) - ((0:Nat):Int)=Builtin.Range.rangeSize lo hi 1:=by rw[rangeSize_one]; split<;>omega
  show IsRangeIter _ _ (lo+((0:Nat):Int)*1) ((((hi - lo).toNat:Nat):Int) - ((0:Nat):Int)) 1
  rw[e1,e2]
  exact Qqw _ rfl
 ·have e:b=(s.heap.push { cls:=.type "range",data:=.fields #[.int lo t,.int hi u,.int 1 v] }).objs.size:=by simpa using hb
  subst e
  exact I1.fpOk (Qqj _) (I1.hok.fresh (Qqj _))
noncomputable def iRng1(ta:TA):TI:=fun σ H R=>ta σ H fun vs H1=>∃ j:Int,vs=[.int j]∧-(2 ^ 62)≤j∧j<2 ^ 62∧R (Itr 0 j.toNat) H1
noncomputable def iRng2(ta:TA):TI:=fun σ H R=>ta σ H fun vs H1=>∃ i j:Int,vs=[.int i,.int j]∧(-(2 ^ 62)≤i∧i<2 ^ 62∧-(2 ^ 62)≤j∧j<2 ^ 62)∧R (Itr i (j - i).toNat) H1
theorem qgc{a:Expr}{ta:TA}{p pos:Pos}(hg:Gl X "range")(hm:X.mg "range" = none)(ha:PA X [a] ta)(hs:starEach [a] X.env=[(false,eval a X.env)]:=by rfl):PI X tg (.Call (.Name "range" p) [a] [] pos) (iRng1 ta):=by
 intro pins s σ H R I h
 refine Call_ (qyj I hg hm boot_range (PyProof.Rows.callWith_type1 (thn (ha pos pins s σ H _ I h) fun us s1 ⟨vs,H1,I1,r1,q1⟩=>?_) hs rfl))
 obtain⟨j,e,q1,q2,q⟩:=q1
 subst e
 cases r1 with
 |cons r rr=>
  cases rr
  obtain⟨t,rfl⟩:=r
  exact call_range_1 (qdb I1 (by omega) (by omega) q1 q2 (by simpa using q))
theorem qgb{a b:Expr}{ta:TA}{p pos:Pos}(hg:Gl X "range")(hm:X.mg "range" = none)(ha:PA X [a,b] ta)(hs:starEach [a,b] X.env=[(false,eval a X.env),(false,eval b X.env)]:=by rfl)(hs2:starEach [b] X.env=[(false,eval b X.env)]:=by rfl):
  PI X tg (.Call (.Name "range" p) [a,b] [] pos) (iRng2 ta):=by
 intro pins s σ H R I h
 refine Call_ (qyj I hg hm boot_range (PyProof.Rows.callWith_type1 (thn (ha pos pins s σ H _ I h) fun us s1 ⟨vs,H1,I1,r1,q1⟩=>?_) (by rw[hs,hs2]) (by rw[hs2]; rfl)))
 obtain⟨i,j,e,⟨q1,q2,q3,q4⟩,q⟩:=q1
 subst e
 cases r1 with
 |cons r rr=>
  cases rr with
  |cons r' rr=>
   cases rr
   obtain⟨t,rfl⟩:=r
   obtain⟨t',rfl⟩:=r'
   exact call_range_2 (qdb I1 q1 q2 q3 q4 q)
noncomputable def tFor(wi:TI)(g:TG)(tb:TS):TS:=fun D σ H=>wi σ H fun J H1=>∃ W:Nat→Nat→St→Hp→Prop,(∃ m,W 0 m σ H1)∧∀ i m σ H,W i m σ H→
 (J.stop i H∧D.nx σ H)∨(J.go i H∧∃ N:St→Hp→Prop,(∀ σ' H',N σ' H'→∃ m',m'<m∧W (i+1) m' σ' H')∧∀ x H',J.yld i H x H'→g x σ H' fun σ2 H2=>tb { D with nx:=N,ct:=N,bk:=D.nx } σ2 H2)
noncomputable def qa3(fp:List Addr)(h:Heap):List (Addr×Obj):=fp.filterMap fun b=>(h.get? b).map fun o=>(b,o)
theorem qxw{fp:List Addr}{h:Heap}{b:Addr}{o:Obj}(hb:b∈fp)(e:h.get? b=some o):(b,o)∈qa3 fp h:=Qxj.mpr ⟨b,hb,by rw[e]; rfl⟩
theorem qgo{fp:List Addr}{h:Heap}{p:Addr×Obj}(hp:p∈qa3 fp h):p.1∈fp∧h.get? p.1=some p.2:=by
 obtain⟨b,hb,e⟩:=Qxj.mp hp
 cases q:h.get? b with
 |none=>rw[q]at e; cases e
 |some o=>
  rw[q]at e
  have e':(b,o)=p:=Option.some.inj e
  subst e'
  exact⟨hb,q⟩
theorem Inv.pinned{pins:List (Addr×Obj)}{σ:St}{H:Hp}{s:Shared}{fp:List Addr}(I:Inv X pins σ H s)(hf:∀ b∈fp,FpOk X pins H b)(ho:∀ b∈fp,∃ o,s.heap.get? b=some o∧∀ v,o.data≠.cell v):Inv X (pins++qa3 fp s.heap) σ H s:=
 I.pins_of fun p hp=>(Qxq.mp hp).elim (fun z=>I.pin p (Qqs _ z)) fun z=>by
  obtain⟨hb,e⟩:=qgo z
  obtain⟨f0,f1,f2,_⟩:=hf p.1 hb
  obtain⟨o,e',d⟩:=ho p.1 hb
  rw[e]at e'; cases e'
  exact⟨e,f0,f1,f2,d⟩
theorem Inv.unpinned{pins pl:List (Addr×Obj)}{σ:St}{H:Hp}{s:Shared}(I:Inv X (pins++pl) σ H s):Inv X pins σ H s:=I.pins_of fun p hp=>I.pin p (Qqs _ (Qz1 _ hp))
theorem qmx{iter:Expr}{body:List Stmt}{wi:TI}{g:TG}{tb:TS}{pos:Pos}(hp:PassesOwn (model X.prog X.w) X.A X.env X.xe)(hc:X.calm=true)(hi:PI X tg iter wi)(hg:PG X tg g)(hb:PSs X body tb)
  (hs:∀ x,foldedSetIterable iter X.env x=pure x):PS X (.For tg iter body [] pos) (tFor wi g tb):=by
 intro pins s σ H D I h
 refine wpAny_For (thn (hi pins s σ H _ I h) fun v s1 h1=>thn h1 fun itv s2 h2=>?_) hs
 obtain⟨it,fp,tn,J,H2,e,I2,T,st2,f2,W,⟨m0,w0⟩,turn⟩:=h2
 subst e
 have stat:∀ {H':Hp},(∀ b∈fp,H' b=none)→∀ b∈fp,FpOk X pins H' b:=fun hn b hb=>⟨hn b hb,(f2 b hb).2⟩
 refine codeAny_forLoop_any (fun n s'=>∃ i σ' H',Inv X pins σ' H' s'∧tn i s'.heap∧(∀ b∈fp,H' b=none)∧W i n σ' H') ?_ m0 ⟨0,σ,H2,I2,st2,fun b hb=>(f2 b hb).1,w0⟩
 rintro n s3 ⟨i,σ3,H3,I3,st3,fr3,w3⟩
 rcases turn i n σ3 H3 w3 with⟨stop,qn⟩|⟨go,N,hN,step⟩
 ·refine wpAny_passesOwn hp (thn (T.done X rfl rfl rfl hc i pins s3 σ3 H3 X.xe I3 (stat fr3) st3 stop) fun r s4 ⟨hr,I4⟩=>?_)
  subst hr
  exact wpAny_execs_nil ⟨σ3,H3,I4,qn⟩
 ·refine wpAny_passesOwn hp (thn (T.item X rfl rfl rfl hc i pins s3 σ3 H3 X.xe I3 (stat fr3) st3 go) fun r s4 ⟨u,hr,h4⟩=>?_)
  subst hr
  refine wpAny_passesOwn hp (thn h4 fun _ s5 ⟨x,H5,I5,r5,y5,st5,fr5⟩=>?_)
  have I5':=I5.pinned (stat fr5) (T.obj _ _ st5)
  refine wpAny_passesOwn hp (thn (hg _ s5 σ3 H5 x u _ I5' r5 (step x H5 y5)) fun _ s6 ⟨σ6,H6,I6,q6⟩=>?_)
  refine wpAny_passesOwn hp (thn (hb _ s6 σ6 H6 _ I6 q6) fun f s7 q7=>?_)
  have again:∀ {σ7:St}{H7:Hp},Inv X (pins++qa3 fp s5.heap) σ7 H7 s7→N σ7 H7→∃ m,m<n∧∃ i σ' H',Inv X pins σ' H' s7∧tn i s7.heap∧(∀ b∈fp,H' b=none)∧W i m σ' H':=fun {σ7 H7} I7 n7=>by
   obtain⟨m',hm,w7⟩:=hN σ7 H7 n7
   refine⟨m',hm,i+1,σ7,H7,I7.unpinned,T.keep _ _ _ st5 fun b hb o e=>(I7.pin (b,o) (Qqs _ (Qqs _ (qxw hb e)))).1,fun b hb=>?_,w7⟩
   obtain⟨o,e,d⟩:=T.obj _ _ st5 b hb
   exact(I7.pin (b,o) (Qqs _ (Qqs _ (qxw hb e)))).2.1
  cases f with
  |next=>obtain⟨σ7,H7,I7,n7⟩:=q7; exact again I7 n7
  |cont=>obtain⟨σ7,H7,I7,n7⟩:=q7; exact again I7 n7
  |brk=>obtain⟨σ7,H7,I7,q7⟩:=q7; exact⟨σ7,H7,I7.unpinned,q7⟩
  |ret v=>obtain⟨x7,σ7,H7,I7,r7,q7⟩:=q7; exact⟨x7,σ7,H7,I7.unpinned,r7,q7⟩
end
end L2
namespace L2
open PySem PySem.Spec PyProof.Rows
abbrev R2:=V→V→Hp→VK→Prop
def OpR(X:Cx)(f:Value→Value→Sem Value)(r:R2):Prop:=
 ∀ (pins:List (Addr×Obj)) (s:Shared) (σ:St) (H:Hp) (x y:V) (v u:Value) (Q:VK),Inv X pins σ H s→RelV x v→RelV y u→r x y H Q→
  wpAny (model X.prog X.w) X.A (f v u) (EP X pins σ Q) X.xe s
def UnR(X:Cx)(f:Value→Sem Value)(r:V→Hp→VK→Prop):Prop:=
 ∀ (pins:List (Addr×Obj)) (s:Shared) (σ:St) (H:Hp) (x:V) (v:Value) (Q:VK),Inv X pins σ H s→RelV x v→r x H Q→
  wpAny (model X.prog X.w) X.A (f v) (EP X pins σ Q) X.xe s
def CallR(X:Cx)(f:Value)(r:List V→Hp→VK→Prop):Prop:=
 ∀ (pins:List (Addr×Obj)) (s:Shared) (σ:St) (H:Hp) (xs:List V) (us:List Value) (Q:VK),Inv X pins σ H s→Vals xs us→r xs H Q→
  wpAny (model X.prog X.w) X.A (call f us) (EP X pins σ Q) X.xe s
def TruR(X:Cx)(r:V→Hp→(Bool→Hp→Prop)→Prop):Prop:=
 ∀ (pins:List (Addr×Obj)) (s:Shared) (σ:St) (H:Hp) (x:V) (v:Value) (Q:Bool→Hp→Prop),Inv X pins σ H s→RelV x v→r x H Q→
  wpAny (model X.prog X.w) X.A (truthy v) (TP X pins σ Q) X.xe s
noncomputable def tOp(r:R2)(ta tb:TE):TE:=fun σ H Q=>ta σ H fun x H1=>tb σ H1 fun y H2=>r x y H2 Q
noncomputable def tUn(r:V→Hp→VK→Prop)(ta:TE):TE:=fun σ H Q=>ta σ H fun x H1=>r x H1 Q
noncomputable def rI(C:Int→Int→Prop)(g:Int→Int→V):R2:=fun x y H Q=>∃ i j,x=.int i∧y=.int j∧C i j∧Q (g i j) H
noncomputable def rI0(g:Int→Int→V):R2:=fun x y H Q=>∃ i j,x=.int i∧y=.int j∧Q (g i j) H
def rU(g:Int→V):V→Hp→VK→Prop:=fun x H Q=>∃ i,x=.int i∧Q (g i) H
section
variable {X:Cx}{a b c:Expr}{ta tb tc:TE}{pos:Pos}
theorem binT(ha:PE X a ta)(hb:PE X b tb){pins:List (Addr×Obj)}{s:Shared}{σ:St}{H:Hp}{R:V→V→Hp→Prop}(I:Inv X pins σ H s)
  (h:ta σ H fun x H1=>tb σ H1 fun y H2=>R x y H2){Q:Value→Shared→Prop}{f:Value→Value→Sem Value}
  (hf:∀ v u s2 x y H2,Inv X pins σ H2 s2→RelV x v→RelV y u→R x y H2→wpAny (model X.prog X.w) X.A (f v u) Q X.xe s2) :
  wpAny (model X.prog X.w) X.A (eval a X.env) (fun v s₁=>wpAny (model X.prog X.w) X.A (eval b X.env) (fun u s₂=>wpAny (model X.prog X.w) X.A (f v u) Q X.xe s₂) X.xe s₁) X.xe s:=by
 refine thn (ha pins s σ H _ I h) fun v s1 ⟨x,H1,I1,r1,q1⟩=>?_
 refine thn (hb pins s1 σ H1 _ I1 q1) fun u s2 ⟨y,H2,I2,r2,q2⟩=>?_
 exact hf v u s2 x y H2 I2 r1 r2 q2
theorem pe_op{op:Operator}{r:R2}(ho:OpR X (binaryOp op) r)(ha:PE X a ta)(hb:PE X b tb):PE X (.BinOp a op b pos) (tOp r ta tb):=by
 intro pins s σ H Q I h
 exact wpAny_BinOp (binT ha hb I h fun v u s2 x y H2 I2 rx ry q=>ho pins s2 σ H2 x y v u Q I2 rx ry q)
theorem pe_un{op:UnaryOp}{r:V→Hp→VK→Prop}(ho:UnR X (unaryOp op) r)(ha:PE X a ta):PE X (.UnaryOp op a pos) (tUn r ta):=by
 intro pins s σ H Q I h
 exact UnaryOp_ (thn (ha pins s σ H _ I h) fun v s1 ⟨x,H1,I1,r1,q1⟩=>ho pins s1 σ H1 x v Q I1 r1 q1)
theorem opI{f:Value→Value→Sem Value}{C:Int→Int→Prop}{g:Int→Int→Int}
  (rule:∀ (i j:Int) (t u:Tok) (s:Shared) (Q:Value→Shared→Prop) (E:Value→Shared→Prop),C i j→Q (.int (g i j) s.toks) { s with toks:=s.toks+1 }→wpAny (model X.prog X.w) X.A (f (.int i t) (.int j u)) Q E s) :
  OpR X f (rI C fun i j=>.int (g i j)):=by
 intro pins s σ H x y v u Q I rx ry h
 obtain⟨i,j,rfl,rfl,hc,q⟩:=h
 obtain⟨t,rfl⟩:=rx
 obtain⟨t',rfl⟩:=ry
 exact rule i j t t' s _ _ hc ⟨.int (g i j),H,I.tok _,⟨_,rfl⟩,q⟩
theorem opI0{f:Value→Value→Sem Value}{g:Int→Int→Int}
  (rule:∀ (i j:Int) (t u:Tok) (s:Shared) (Q:Value→Shared→Prop) (E:Value→Shared→Prop),Q (.int (g i j) s.toks) { s with toks:=s.toks+1 }→wpAny (model X.prog X.w) X.A (f (.int i t) (.int j u)) Q E s) :
  OpR X f (rI0 fun i j=>.int (g i j)):=by
 intro pins s σ H x y v u Q I rx ry h
 obtain⟨i,j,rfl,rfl,q⟩:=h
 obtain⟨t,rfl⟩:=rx
 obtain⟨t',rfl⟩:=ry
 exact rule i j t t' s _ _ ⟨.int (g i j),H,I.tok _,⟨_,rfl⟩,q⟩
theorem opB0{f:Value→Value→Sem Value}{g:Int→Int→Bool}
  (rule:∀ (i j:Int) (t u:Tok) (s:Shared) (Q:Value→Shared→Prop) (E:Value→Shared→Prop),Q (.bool (g i j)) s→wpAny (model X.prog X.w) X.A (f (.int i t) (.int j u)) Q E s) :
  OpR X f (rI0 fun i j=>.bl (g i j)):=by
 intro pins s σ H x y v u Q I rx ry h
 obtain⟨i,j,rfl,rfl,q⟩:=h
 obtain⟨t,rfl⟩:=rx
 obtain⟨t',rfl⟩:=ry
 exact rule i j t t' s _ _ ⟨.bl (g i j),H,I,rfl,q⟩
def CPow(i j:Int):Prop:=0≤j∧j≤1000000∧i.natAbs<2 ^ 64
def CMul(i j:Int):Prop:=(-(2 ^ 64)<i∧i<2 ^ 64)∨(-(2 ^ 64)<j∧j<2 ^ 64)
theorem CMul.ok{i j:Int}(h:CMul i j):IntMulOk i j:=by
 rcases h with⟨h1,h2⟩|⟨h1,h2⟩
 ·exact .of_left (intBits_le_64 h1 h2)
 ·exact .of_right (intBits_le_64 h1 h2)
theorem op_add:OpR X (binaryOp .Add) (rI0 fun i j=>.int (i+j)):=opI0 fun _ _ _ _ _ _ _ q=>add_int q
theorem op_sub:OpR X (binaryOp .Sub) (rI0 fun i j=>.int (i - j)):=opI0 fun _ _ _ _ _ _ _ q=>sub_int q
theorem op_mul:OpR X (binaryOp .Mult) (rI CMul fun i j=>.int (i*j)):=opI fun _ _ _ _ _ _ _ hc q=>mul_int q hc.ok
theorem op_mod:OpR X (binaryOp .Mod) (rI (fun _ j=>0<j) fun i j=>.int (i % j)):=opI fun i j _ _ _ _ _ hc q=>by
 have h1:(0:Int)<j:=hc
 exact mod_int' (by omega) (by rw[Int.fmod_eq_emod_of_nonneg i (by omega)]; exact q)
theorem op_pow:OpR X (binaryOp .Pow) (rI CPow fun i j=>.int (i ^ j.toNat)):=opI fun _ _ _ _ _ _ _ hc q=>pow_int_small hc.1 hc.2.1 hc.2.2 q
theorem unI{f:Value→Sem Value}{g:Int→Int}
  (rule:∀ (i:Int) (t:Tok) (s:Shared) (Q:Value→Shared→Prop) (E:Value→Shared→Prop),Q (.int (g i) s.toks) { s with toks:=s.toks+1 }→wpAny (model X.prog X.w) X.A (f (.int i t)) Q E s) :
  UnR X f (rU fun i=>.int (g i)):=by
 intro pins s σ H x v Q I rx h
 obtain⟨i,rfl,q⟩:=h
 obtain⟨t,rfl⟩:=rx
 exact rule i t s _ _ ⟨.int (g i),H,I.tok _,⟨_,rfl⟩,q⟩
theorem un_neg:UnR X (unaryOp .USub) (rU fun i=>.int (-i)):=unI fun _ _ _ _ _ q=>neg_int q
end
section
variable {X:Cx}{a b c:Expr}{ta tb tc:TE}{pos:Pos}
theorem qd1{pins:List (Addr×Obj)}{σ:St}{H:Hp}{s:Shared}{Q:VK}{k k':Bool}(I:Inv X pins σ H s)(q:Q (.bl k) H)(e:k=k'):EP X pins σ Q (.bool k') s:=by
 subst e
 exact⟨.bl k,H,I,rfl,q⟩
theorem op_lt:OpR X (compareOp .Lt) (rI0 fun i j=>.bl (decide (i<j))):=opB0 fun _ _ _ _ _ _ _ q=>lt_int q
theorem op_le:OpR X (compareOp .LtE) (rI0 fun i j=>.bl (decide (i≤j))):=opB0 fun _ _ _ _ _ _ _ q=>le_int q
theorem op_gt:OpR X (compareOp .Gt) (rI0 fun i j=>.bl (decide (j<i))):=opB0 fun _ _ _ _ _ _ _ q=>gt_int q
theorem op_ge:OpR X (compareOp .GtE) (rI0 fun i j=>.bl (decide (j≤i))):=opB0 fun _ _ _ _ _ _ _ q=>ge_int q
theorem qgm:OpR X (compareOp .In) (fun x y H Q=>∃ i j,x=.str i∧y=.str j∧Q (.bl (!(Builtin.Str.occurrences j i 0 j.length 1).isEmpty)) H):=by
 intro pins s σ H x y v u Q I rx ry h
 obtain⟨i,j,rfl,rfl,q⟩:=h
 obtain⟨t,rfl⟩:=rx
 obtain⟨t',rfl⟩:=ry
 exact in_str (qd1 I q rfl)
theorem op_isN:OpR X (compareOp .Is) (fun x y H Q=>y=.non∧Q (.bl (decide (x=.non))) H):=by
 intro pins s σ H x y v u Q I rx ry h
 obtain⟨rfl,q⟩:=h
 cases ry
 refine is_none_gen (qd1 I q ?_)
 cases x<;>first
  |(cases rx; rfl)
  |(obtain⟨t,rfl⟩:=rx; rfl)
theorem qn8:OpR X (compareOp .IsNot) (fun x y H Q=>y=.non∧Q (.bl (!decide (x=.non))) H):=by
 intro pins s σ H x y v u Q I rx ry h
 obtain⟨rfl,q⟩:=h
 cases ry
 refine isnot_none_gen (qd1 I q ?_)
 cases x<;>first
  |(cases rx; rfl)
  |(obtain⟨t,rfl⟩:=rx; rfl)
theorem qa7:OpR X (compareOp .NotIn) (fun x y H Q=>∃ i j,x=.str i∧y=.str j∧Q (.bl (!(!(Builtin.Str.occurrences j i 0 j.length 1).isEmpty))) H):=by
 intro pins s σ H x y v u Q I rx ry h
 obtain⟨i,j,rfl,rfl,q⟩:=h
 obtain⟨t,rfl⟩:=rx
 obtain⟨t',rfl⟩:=ry
 exact notIn_str (qd1 I q rfl)
theorem OpR.or{f:Value→Value→Sem Value}{r r':R2}(h:OpR X f r)(h':OpR X f r'):OpR X f (fun x y H Q=>r x y H Q∨r' x y H Q):=by
 intro pins s σ H x y v u Q I rx ry q
 rcases q with q|q
 ·exact h pins s σ H x y v u Q I rx ry q
 ·exact h' pins s σ H x y v u Q I rx ry q
theorem qn4{op:CmpOp}{r:R2}(ho:OpR X (compareOp op) r)(ha:PE X a ta)(hb:PE X b tb)(hm:behindInMarks op b=false):PE X (.Compare a [op] [b] pos) (tOp r ta tb):=by
 intro pins s σ H Q I h
 exact wpAny_Compare1 (binT ha hb I h fun v u s2 x y H2 I2 rx ry q=>ho pins s2 σ H2 x y v u Q I2 rx ry q) hm
noncomputable def tTest(t:TE):TT:=fun σ H Q=>t σ H fun x H'=>∃ k,x=.bl k∧Q k H'
theorem qng{op:CmpOp}{r:R2}(ho:OpR X (compareOp op) r)(ha:PE X a ta)(hb:PE X b tb)(hm:behindInMarks op b=false):PT X (.Compare a [op] [b] pos) (tTest (tOp r ta tb)):=by
 intro pins s σ H Q I h
 refine wpAny_isTrue_Compare1 (thn (ha pins s σ H _ I h) fun v s1 ⟨x,H1,I1,r1,q1⟩=>thn (hb pins s1 σ H1 _ I1 q1) fun u s2 ⟨y,H2,I2,r2,q2⟩=>
  thn (ho pins s2 σ H2 x y v u _ I2 r1 r2 q2) fun c s3 ⟨z,H3,I3,r3,k,e,q3⟩=>?_) hm
 subst e
 cases r3
 exact wpAny_truthy_bool ⟨H3,I3,q3⟩
noncomputable def ql7(r r':R2)(ta tb tc:TE):TE:=fun σ H Q=>ta σ H fun x H1=>tb σ H1 fun y H2=>r x y H2 fun z H3=>∃ k,z=.bl k∧
 (if k=true then tc σ H3 fun w' H4=>r' y w' H4 Q else Q (.bl false) H3)
theorem qlx{op op':CmpOp}{r r':R2}(ho:OpR X (compareOp op) r)(ho':OpR X (compareOp op') r')(ha:PE X a ta)(hb:PE X b tb)(hc:PE X c tc)
  (hm:lastMarks [op,op'] [b,c]=false):PE X (.Compare a [op,op'] [b,c] pos) (ql7 r r' ta tb tc):=by
 intro pins s σ H Q I h
 refine Compare_chain (thn (ha pins s σ H _ I h) fun v s1 ⟨x,H1,I1,r1,q1⟩=>chain_link (thn (hb pins s1 σ H1 _ I1 q1) fun u s2 ⟨y,H2,I2,r2,q2⟩=>
  thn (ho pins s2 σ H2 x y v u _ I2 r1 r2 q2) fun d s3 ⟨z,H3,I3,r3,k,e,q3⟩=>?_)) hm
 subst e
 cases r3
 refine wpAny_truthy_bool ?_
 cases k with
 |false=>exact ite_ff ⟨.bl false,H3,I3,rfl,q3⟩
 |true=>exact ite_tt (chain_last (thn (hc pins s3 σ H3 _ I3 q3) fun w' s4 ⟨z',H4,I4,r4,q4⟩=>ho' pins s4 σ H4 y z' u w' Q I4 r2 r4 q4))
theorem qi2{op op':CmpOp}{r r':R2}(ho:OpR X (compareOp op) r)(ho':OpR X (compareOp op') r')(ha:PE X a ta)(hb:PE X b tb)(hc:PE X c tc)
  (hm:lastMarks [op,op'] [b,c]=false):PT X (.Compare a [op,op'] [b,c] pos) (tTest (ql7 r r' ta tb tc)):=by
 intro pins s σ H Q I h
 refine isTrue_chain (thn (ha pins s σ H _ I h) fun v s1 ⟨x,H1,I1,r1,q1⟩=>test_link (thn (hb pins s1 σ H1 _ I1 q1) fun u s2 ⟨y,H2,I2,r2,q2⟩=>
  thn (ho pins s2 σ H2 x y v u _ I2 r1 r2 q2) fun d s3 ⟨z,H3,I3,r3,k,e,q3⟩=>?_)) hm
 subst e
 cases r3
 refine wpAny_truthy_bool ?_
 cases k with
 |false=>
  obtain⟨k',e',q'⟩:=q3
  cases e'
  exact ite_ff ⟨H3,I3,q'⟩
 |true=>
  refine ite_tt (test_last (thn (hc pins s3 σ H3 _ I3 q3) fun w' s4 ⟨z',H4,I4,r4,q4⟩=>thn (ho' pins s4 σ H4 y z' u w' _ I4 r2 r4 q4) fun d' s5 ⟨z2,H5,I5,r5,k2,e2,q5⟩=>?_))
  subst e2
  cases r5
  exact wpAny_truthy_bool ⟨H5,I5,q5⟩
def TruV(K:Qqq)(x:V)(H:Hp)(k:Bool):Prop:=
 match x with
 |.non=>k=false
 |.bl b=>k=b
 |.int i=>k=(i != 0)
 |.str y=>y.length≤sizeLine∧k=((y.length:Int) != 0)
 |.byt y=>y.size≤sizeLine∧k=((y.size:Int) != 0)
 |.ref p=>(∃ xs,SqL K H p xs∧k = !xs.isEmpty)∨(∃ xs,SqT K H p xs∧k = !xs.isEmpty)∨∃ kvs,H p=some (.dK kvs)∧k = !kvs.isEmpty
 |_=>False
theorem qe5{κ:Type}{kvs:List (κ×V)}{vs:List (κ×Value)}(r:KV kvs vs):(!vs.isEmpty) = !kvs.isEmpty:=by
 cases r<;>rfl
theorem qyk{xs:List V}{its:List Value}(r:Vals xs its):(!its.toArray.isEmpty) = !xs.isEmpty:=by
 cases r<;>simp
theorem qve:(sizeLine:Nat)<2 ^ 63:=by rw[sizeLine_eq]; decide
theorem tru_ok:TruR X (fun x H Q=>∃ k,TruV X.K x H k∧Q k H):=by
 intro pins s σ H x v Q I rx h
 obtain⟨k,e,q⟩:=h
 have hl:=qve
 have hs:sizeLine=16777216:=sizeLine_eq
 cases x with
 |non=>
  cases rx
  have e':k=false:=e
  subst e'
  exact truthy_none ⟨H,I,q⟩
 |bl b=>
  cases rx
  have e':k=b:=e
  subst e'
  exact wpAny_truthy_bool ⟨H,I,q⟩
 |int i=>
  obtain⟨t,rfl⟩:=rx
  have e':k=(i != 0):=e
  subst e'
  exact PySem.P.truthy_int ⟨H,I,q⟩
 |str y=>
  obtain⟨t,rfl⟩:=rx
  obtain⟨hy,e'⟩:y.length≤sizeLine∧k=((y.length:Int) != 0):=e
  subst e'
  exact PySem.P.truthy_str (by omega) ⟨H,I.tok _,q⟩
 |byt y=>
  obtain⟨t,rfl⟩:=rx
  obtain⟨hy,e'⟩:y.size≤sizeLine∧k=((y.size:Int) != 0):=e
  subst e'
  exact PySem.W.truthy_bytes (by omega) ⟨H,I.tok _,q⟩
 |ref p=>
  cases rx
  have e':(∃ xs,SqL X.K H p xs∧k = !xs.isEmpty)∨(∃ xs,SqT X.K H p xs∧k = !xs.isEmpty)∨∃ kvs,H p=some (.dK kvs)∧k = !kvs.isEmpty:=e
  rcases e' with⟨xs,hx,e'⟩|⟨xs,hx,e'⟩|⟨kvs,hx,e'⟩
  ·subst e'
   obtain⟨its,r,pl,hz⟩:=I.list hx
   have hlen:=r.length
   exact wpAny_truthy_list pl.isList (by simp only[Qqx]; omega) ⟨H,I.tok _,by rw[qyk r]; exact q⟩
  ·subst e'
   obtain⟨its,r,pl,hz⟩:=I.tuple hx
   have hlen:=r.length
   exact truthy_tuple pl (by simp only[Qqx]; omega) ⟨H,I.tok _,by rw[qyk r]; exact q⟩
  ·subst e'
   obtain⟨hz,hS,vs,r,m⟩:kvs.length≤sizeLine∧(p==sysModules)=false∧∃ vs,KV kvs vs∧s.heap.DictOf (mixKind X.prog X.w) p vs:=I.hok p _ hx
   have hlen:kvs.length=vs.length:=Paired.length r
   exact wpAny_truthy_dict hS m (by omega) ⟨H,I.tok _,by rw[qe5 r]; exact q⟩
 |_=>exact(show False from e).elim
theorem qxv(ha:PE X a ta)(he:∀ whole,isTrue a X.env whole=(do let v ← whole; standAt a.pos; holding [v] (truthy v))):
  PT X a (fun σ H Q=>ta σ H fun x H'=>∃ k,TruV X.K x H' k∧Q k H'):=by
 intro pins s σ H Q I h
 exact isTrue_plain (thn (ha pins s σ H _ I h) fun v s1 ⟨x,H1,I1,r1,q1⟩=>tru_ok pins s1 σ H1 x v Q I1 r1 q1) (he _)
theorem qep:OpR X (binaryOp .Add) (fun x y H Q=>∃ i j,x=.str i∧y=.str j∧i.length+j.length≤sizeLine∧Q (.str (i++j)) H):=by
 intro pins s σ H x y v u Q I rx ry h
 obtain⟨i,j,rfl,rfl,hz,q⟩:=h
 obtain⟨t,rfl⟩:=rx
 obtain⟨t',rfl⟩:=ry
 exact add_str (fun t' tk=>⟨.str (i++j),H,I.tok _,⟨_,rfl⟩,q⟩) hz
theorem vals1{x:V}{us:List Value}(r:Vals [x] us):∃ u,us=[u]∧RelV x u:=by
 cases r with
 |cons r1 r2=>cases r2; exact⟨_,rfl,r1⟩
theorem vals2{x y:V}{us:List Value}(r:Vals [x,y] us):∃ u w',us=[u,w']∧RelV x u∧RelV y w':=by
 cases r with
 |cons r1 r2=>
  cases r2 with
  |cons r3 r4=>cases r4; exact⟨_,_,rfl,r1,r3⟩
theorem qh9(hc:X.calm=true):CallR X (.builtin "min") (fun xs H Q=>∃ i j,xs=[.int i,.int j]∧Q (.int (if j<i then j else i)) H):=by
 intro pins s σ H xs us Q I r h
 obtain⟨i,j,rfl,q⟩:=h
 obtain⟨u,w',rfl,⟨t,rfl⟩,⟨t',rfl⟩⟩:=vals2 r
 refine min_two_ints (I.ok.hd hc) fun h' tk k=>⟨_,H,I.kept k,?_,q⟩
 by_cases hj:j<i
 ·rw[if_pos hj,if_pos hj]; exact⟨_,rfl⟩
 ·rw[if_neg hj,if_neg hj]; exact⟨_,rfl⟩
theorem qbt:CallR X (.type "int") (fun xs H Q=>(∃ i,xs=[.int i]∧Q (.int i) H)∨∃ k,xs=[.bl k]∧Q (.int (if k then 1 else 0)) H):=by
 intro pins s σ H xs us Q I r h
 rcases h with⟨i,rfl,q⟩|⟨k,rfl,q⟩
 ·obtain⟨u,rfl,t,rfl⟩:=vals1 r
  exact call_int_int ⟨.int i,H,I,⟨_,rfl⟩,q⟩
 ·obtain⟨u,rfl,r1⟩:=vals1 r
  cases r1
  exact call_int_bool ⟨.int (if k then 1 else 0),H,I.tok _,⟨_,rfl⟩,q⟩
end
end L2
namespace L2
open PySem PySem.Spec PyProof.Rows
structure ObjM (h:Heap) (x dx C:Addr) (mA:Str→Option Value):Prop where
 obj:h.get? x=some (PySem.W.instObj C dx)
 ns:h.Ns1 dx mA
 ne:dx≠x
theorem qg1{h:Heap}{dx:Addr}{mA:Str→Option Value}(n:h.Ns1 dx mA):∃ od,h.get? dx=some od∧∀ name,PySem.W.lookIn name od=some (mA name):=by
 obtain⟨o,es,ep,ho,hd,hk,_,hm⟩:=n
 refine⟨o,ho,fun name=>?_⟩
 have e:=hm name
 unfold nsFind findBy at e
 rw[← Array.find?_toList]at e
 unfold PySem.W.lookIn
 rw[hd]
 dsimp only
 split
 ·rename_i y q
  rw[q]at e
  exact congrArg some e
 ·rename_i q
  rw[q]at e
  have a:es.toList.any (·.refKey)=false:=by
   rw[List.any_eq_false]
   intro y hy
   obtain⟨z,t,hkey⟩:=hk y (Array.mem_toList_iff.mp hy)
   simp[DictEntry.refKey,hkey]
  have a':¬ es.toList.any (·.refKey)=true:=by rw[a]; exact Qqi
  rw[if_neg a']
  exact congrArg some e
theorem ObjM.look{h:Heap}{x dx C:Addr}{mA:Str→Option Value}(I:ObjM h x dx C mA):∃ od,PySem.W.InstAt h x (PySem.W.instObj C dx) C (some od)∧∀ name,PySem.W.lookIn name od=some (mA name):=
 let ⟨od,ho,hl⟩:=qg1 I.ns
 ⟨od,⟨I.obj,rfl,rfl,ho⟩,hl⟩
section
variable {prog:Program}{w:World}{A:Around}{E:Value→Shared→Prop}{s:Shared}{K:Qqq}{x dx C f:Addr}{mA:Str→Option Value}{name:Str}{v:Value}
theorem qot{expr:Bool}{Q:Value→Shared→Prop}(X:K.In s.heap)(I:ObjM s.heap x dx C mA)(hg:PySem.W.plainGet K C name=true)(hh:PySem.W.hasDictIn K C=true)
  (ha:PySem.W.findIn K (.ref C) name=some none) (hv:mA name=some v) (hv':PySem.W.handedIn v=true) (h:Q v { s with toks:=s.toks+1 }) :
  wpAny (model prog w) A (getAttr (.ref x) name expr) Q E s:=by
 obtain⟨od,J,hl⟩:=I.look
 exact PySem.W.get_value X J (Qxl hg).1 (PySem.W.findObj_own hh ha rfl (by rw[hl,hv])) hv' h
theorem qli{pl:Sem Bool}{Q:Value×List Value→Shared→Prop}(X:K.In s.heap)(I:ObjM s.heap x dx C mA)(hg:PySem.W.plainGet K C name=true)
  (hf:PySem.W.findIn K (.ref C) name=some (some (.ref f))) (ht:PySem.W.isFn K (.ref f)=true) (hv:mA name=none) (h:Q (.ref f,[.ref x]) s) :
  wpAny (model prog w) A (getMethod (.ref x) name pl) Q E s:=by
 obtain⟨od,J,hl⟩:=I.look
 exact PySem.W.method_fn X J (Qxl hg).1 (Qxl hg).2 hf (beq_iff_eq.mp ht) (by show(PySem.W.lookIn name od).map (·.isSome)=some false; rw[hl,hv]; rfl) h
theorem qna{ns:List Str}{Q:Unit→Shared→Prop}(X:K.In s.heap)(I:ObjM s.heap x dx C mA)
  (hs:PySem.W.findIn K (.ref C) "__setattr__" = some (some (.builtin "object.__setattr__"))) (hp:PySem.W.plainOver K C=true) (ht:PySem.W.takerIn K C name=some none) (hh:PySem.W.hasDictIn K C=true)
  (hw:PySem.Within mA ns) (hsz:ns.length≤sizeLine)
  (h:∀ h',ObjM h' x dx C (fun y=>if y=name then some v else mA y)→Heap.SameBut dx s.heap h'→Q () { s with heap:=h',toks:=s.toks+2 }) :
  wpAny (model prog w) A (setAttr (.ref x) name v) Q E s:=by
 obtain⟨od,J,hl⟩:=I.look
 refine PySem.W.set_plain X J hs (PySem.W.osa_open (s:={ s with toks:=s.toks+1 }) (r:=none) X J hp ht fun b=>?_)
 obtain⟨cd,hc,hd'⟩:=PySem.W.any_some hh
 have hx:s.heap.get? x=some ⟨.ref C,some dx,.plain,#[]⟩:=I.obj
 refine wpAny_bind (wpAny_pure (wpAny_bind (wpAny_bind (wpAny_loadPart hx (wpAny_bind (PySem.W.Looks.here (s:={ s with toks:=s.toks+1 }) (PySem.W.looks_clsIn X hc) ?_))))))
 rw[hd']
 refine wpAny_pure (a:=some dx) (wpAny_bind (wpAny_pure (wpAny_bind ?_)))
 refine wpAny_nsSet1 (s:={ s with toks:=s.toks+1 }) I.ns fun h' hn2 hs2=>?_
 obtain⟨oD,esD,epD,hoD,hdD,hcD⟩:=hn2.count (PySem.Within.cons name v hw)
 refine wpAny_bind (wpAny_lookBehind hoD (by rw[hdD]; exact pastItsLine_dict (Qzx hcD (by rw[Qqd]; omega))) ?_)
 exact wpAny_pure (h _ ⟨(hs2.2 _ (Ne.symm I.ne)).trans I.obj,hn2,I.ne⟩ hs2)
theorem qlw{R:Result→Shared→Prop}{vs:List Value}{kw:List (Str×Value)}(X:K.In s.heap)(hm:PySem.W.makesIn K C=true)
  (hi:PySem.W.findIn K (.ref C) "__init__" = some (some (.ref f))) (hf:PySem.W.typeIn K (.ref f)=some (.type "function"))
  (h:codeAny (model prog w) (A.under (.builtin "type.__call__" ⟨.ref C::vs,kw⟩)) (.call (.ref f) ⟨.ref (s.heap.objs.size+1)::vs,kw⟩) (PySem.W.InitBack (s.heap.objs.size+1) R)
   { s with heap:=(s.heap.push PySem.W.emptyDict).push (PySem.W.instObj C s.heap.objs.size) }) :
  codeAny (model prog w) A (.call (.ref C) ⟨vs,kw⟩) R s:=by
 obtain⟨hh,g,d,t,os⟩:=s
 exact PySem.W.make_core (PySem.W.makes_of X hm) (PySem.W.looks_findIn X hi) (fun self=>PySem.W.bind_fn X self hf) (.inl rfl) h
end
noncomputable def putF(f:Str)(v:V):List (Str×V)→List (Str×V)
 |[]=>[(f,v)]
 |(g,x)::r=>if g=f then(g,v)::r else(g,x)::putF f v r
theorem qvd(f g:Str)(v:V):∀ fs:List (Str×V),(putF f v fs).lookup g=if g=f then some v else fs.lookup g
 |[]=>by
  show List.lookup g [(f,v)]=_
  by_cases h:g=f
  ·have hb:(g==f)=true:=beq_iff_eq.mpr h
   simp only[List.lookup,hb,if_pos h]
  ·have hb:(g==f)=false:=beq_eq_false_iff_ne.mpr h
   simp only[List.lookup,hb,if_neg h]
 |(k,x)::r=>by
  have ih:=qvd f g v r
  rw[show putF f v ((k,x)::r)=(if k=f then(k,v)::r else(k,x)::putF f v r) from rfl]
  by_cases hk:k=f
  ·rw[if_pos hk]
   by_cases h:g=k
   ·have hb:(g==k)=true:=beq_iff_eq.mpr h
    simp only[List.lookup,hb,if_pos (h.trans hk)]
   ·have hb:(g==k)=false:=beq_eq_false_iff_ne.mpr h
    simp only[List.lookup,hb,if_neg (fun e:g=f=>h (e.trans hk.symm))]
  ·rw[if_neg hk]
   by_cases h:g=k
   ·have hb:(g==k)=true:=beq_iff_eq.mpr h
    simp only[List.lookup,hb,if_neg (fun e:g=f=>hk (h.symm.trans e))]
   ·have hb:(g==k)=false:=beq_eq_false_iff_ne.mpr h
    simp only[List.lookup,hb]
    exact ih
theorem qvh(f:Str)(v:V):∀ fs:List (Str×V),f∈(putF f v fs).map (·.1)∧∀ g,g∈fs.map (·.1)→g∈(putF f v fs).map (·.1)
 |[]=>⟨by simp[putF],fun g h=>by simp at h⟩
 |(k,x)::r=>by
  obtain⟨i1,i2⟩:=qvh f v r
  rw[show putF f v ((k,x)::r)=(if k=f then(k,v)::r else(k,x)::putF f v r) from rfl]
  by_cases hk:k=f
  ·rw[if_pos hk]
   subst hk
   exact⟨by simp,fun g h=>by simpa using h⟩
  ·rw[if_neg hk]
   refine⟨?_,fun g h=>?_⟩
   ·rw[Qq3]
    exact Qqr _ i1
   ·rw[Qq3]at h ⊢
    rcases Qqh.mp h with e|e
    ·exact Qqh.mpr (.inl e)
    ·exact Qqr _ (i2 g e)
theorem qvf(f:Str)(v:V):∀ fs:List (Str×V),(putF f v fs).length≤fs.length+1
 |[]=>by simp[putF]
 |(k,x)::r=>by
  have ih:=qvf f v r
  rw[show putF f v ((k,x)::r)=(if k=f then(k,v)::r else(k,x)::putF f v r) from rfl]
  by_cases hk:k=f
  ·rw[if_pos hk,Qqd,Qqd]; omega
  ·rw[if_neg hk,Qqd,Qqd]; omega
theorem RelO.some_of{v:V}{o:Option Value}(r:RelO (some v) o):∃ u,o=some u∧RelV v u:=by
 cases o with
 |none=>exact(show False from r).elim
 |some u=>exact⟨u,rfl,r⟩
theorem RelO.none_of{o:Option Value}(r:RelO none o):o=none:=by
 cases o with
 |none=>rfl
 |some u=>exact(show False from r).elim
theorem qhy{v:V}{u:Value}(r:RelV v u):PySem.W.handedIn u=true:=by
 cases v with
 |non=>cases (show u=Value.none from r); rfl
 |bl b=>cases (show u=Value.bool b from r); rfl
 |int i=>obtain⟨t,e⟩:=(show ∃ t,u=Value.int i t from r); cases e; rfl
 |str x=>obtain⟨t,e⟩:=(show ∃ t,u=Value.str x t from r); cases e; rfl
 |byt b=>obtain⟨t,e⟩:=(show ∃ t,u=Value.bytes b t from r); cases e; rfl
 |flt b=>obtain⟨t,e⟩:=(show ∃ t,u=Value.float b t from r); cases e; rfl
 |ref a=>cases (show u=Value.ref a from r); rfl
 |ty n=>cases (show u=Value.type n from r); rfl
section
variable {P:Program}{w:World}{H H':Hp}{h h':Heap}{a C dx:Addr}{fs fs':List (Str×V)}
theorem qqd(hok:HOk P w H h)(e:H a=some (.ins C dx fs)):∃ mA,ObjM h a dx C mA∧(∀ f,RelO (fs.lookup f) (mA f))∧PySem.Within mA (fs.map (·.1))∧fs.length≤1000∧H dx=some (.own a):=by
 obtain⟨d,z,ne,ob,mA,n,r,q⟩:=(show ObjOk P w H h a (.ins C dx fs) from hok a _ e)
 exact⟨mA,⟨ob,n,ne⟩,r,q,z,d⟩
end
structure Cls (K:Qqq) (C:Addr):Prop where
 pg:PySem.W.plainGet K C Str.empty=true
 hd:PySem.W.hasDictIn K C=true
 po:PySem.W.plainOver K C=true
 sa:PySem.W.findIn K (.ref C) "__setattr__" = some (some (.builtin "object.__setattr__"))
theorem Cls.get{K:Qqq}{C:Addr}(c:Cls K C)(f:Str):PySem.W.plainGet K C f=true:=c.pg
def NoAttr(K:Qqq)(C:Addr)(f:Str):Prop:=PySem.W.findIn K (.ref C) f=some none
theorem NoAttr.taker{K:Qqq}{C:Addr}{f:Str}(n:NoAttr K C f):PySem.W.takerIn K C f=some none:=by
 unfold PySem.W.takerIn
 rw[show PySem.W.findIn K (.ref C) f=some none from n]
 rfl
structure Con (K:Qqq) (C:Addr) (f:Str) (v:V) (u:Value):Prop where
 at_:PySem.W.findIn K (.ref C) f=some (some u)
 rel:RelV v u
 get:PySem.W.specialIn K u "__get__" = some none
 cp:PySem.W.copiedNames.contains f=false
structure Meth (K:Qqq) (C:Addr) (m:Str) (f:Addr):Prop where
 at_:PySem.W.findIn K (.ref C) m=some (some (.ref f))
 fn:PySem.W.isFn K (.ref f)=true
 kp:Qzj K (.ref f)=true
section
variable {X:Cx}{pins:List (Addr×Obj)}{σ:St}{H:Hp}{s:Shared}{a C dx:Addr}{fs:List (Str×V)}{f:Str}{v:V}{A:Around}{E:Value→Shared→Prop}
theorem qe8{b:Bool}{Q:Value→Shared→Prop}(I:Inv X pins σ H s)(e:H a=some (.ins C dx fs))(c:Cls X.K C)(n:NoAttr X.K C f)(l:fs.lookup f=some v)
  (h:∀ u s',Inv X pins σ H s'→RelV v u→Q u s'):wpAny (model X.prog X.w) A (getAttr (.ref a) f b) Q E s:=by
 obtain⟨mA,O,r,_,_,_⟩:=qqd I.hok e
 obtain⟨u,hu,ru⟩:=RelO.some_of (v:=v) (o:=mA f) (by rw[← l]; exact r f)
 exact qot I.kIn O (c.get f) c.hd n hu (qhy ru) (h u _ (I.tok _) ru)
theorem qj4{m:Str}{g:Addr}{pl:Sem Bool}{Q:Value×List Value→Shared→Prop}(I:Inv X pins σ H s)(e:H a=some (.ins C dx fs))(c:Cls X.K C)(k:Meth X.K C m g)(l:fs.lookup m=none)
  (h:Q (.ref g,[.ref a]) s):wpAny (model X.prog X.w) A (getMethod (.ref a) m pl) Q E s:=by
 obtain⟨mA,O,r,_,_,_⟩:=qqd I.hok e
 have hn:mA m=none:=RelO.none_of (by rw[← l]; exact r m)
 exact qli I.kIn O (c.get m) k.at_ k.fn hn h
theorem qed{y:V}{u:Value}{Q:Unit→Shared→Prop}(I:Inv X pins σ H s)(e:H a=some (.ins C dx fs))(c:Cls X.K C)(n:NoAttr X.K C f)(hl:fs.length<1000)(ry:RelV y u)
  (h:∀ s',Inv X pins σ (upd H a (.ins C dx (putF f y fs))) s'→Q () s'):wpAny (model X.prog X.w) A (setAttr (.ref a) f u) Q E s:=by
 obtain⟨mA,O,r,wi,_,ho⟩:=qqd I.hok e
 have hz:(fs.map (·.1)).length≤sizeLine:=by rw[Qqk,sizeLine_eq]; omega
 refine qna I.kIn O c.sa c.po n.taker c.hd wi hz fun h' O' sb=>h _ ?_
 have hd:∃ o,h'.get? dx=some o:=let ⟨o,_,_,e',_⟩:=O'.ns; ⟨o,e'⟩
 refine I.write (x:=a) (e:=dx) (by rw[e]; exact True.intro) (.inr ho) (fun b q hb z=>(sb.2 b hb).trans z) hd ?_
 refine⟨by rw[qzj O.ne]; exact ho,?_,O.ne,O'.obj,_,O'.ns,fun g=>?_,fun g hg=>?_⟩
 ·have:=qvf f y fs; omega
 ·show RelO ((putF f y fs).lookup g) (if g=f then some u else mA g)
  rw[qvd]
  by_cases q:g=f
  ·rw[if_pos q,if_pos q]; exact ry
  ·rw[if_neg q,if_neg q]; exact r g
 ·by_cases q:g=f
  ·rw[q]; exact(qvh f y fs).1
  ·refine(qvh f y fs).2 g (wi g fun z=>hg ?_)
   show(if g=f then some u else mA g)=none
   rw[if_neg q]; exact z
theorem Inv.made(I:Inv X pins σ H s):Inv X pins σ (upd (upd H s.heap.objs.size (.own (s.heap.objs.size+1))) (s.heap.objs.size+1) (.ins C s.heap.objs.size []))
  { s with heap:=(s.heap.push PySem.W.emptyDict).push (PySem.W.instObj C s.heap.objs.size) }:=by
 have e1:(s.heap.push PySem.W.emptyDict).get? s.heap.objs.size=some PySem.W.emptyDict:=Qqw s.heap rfl
 have e2:((s.heap.push PySem.W.emptyDict).push (PySem.W.instObj C s.heap.objs.size)).get? (s.heap.objs.size+1)=some (PySem.W.instObj C s.heap.objs.size):=by
  have:=Qqw (s.heap.push PySem.W.emptyDict) (o:=PySem.W.instObj C s.heap.objs.size) rfl
  rwa [Qzm]at this
 have e3:(s.heap.push PySem.W.emptyDict).Ns s.heap.objs.size (fun _=>none):=⟨PySem.W.emptyDict,#[],_,e1,rfl,(fun e he=>absurd he (by simp)),fun _=>rfl⟩
 have I1:=I.laid (a:=s.heap.objs.size) (o:=.own (s.heap.objs.size+1)) (h':=s.heap.push PySem.W.emptyDict) (t':=s.toks) (fun b u q=>Qqz _ q) (Qqj _) ⟨_,e1⟩
 refine I1.laid (a:=s.heap.objs.size+1) (o:=.ins C s.heap.objs.size []) (t':=s.toks) (fun b u q=>Qqz _ q) (Nat.le_of_eq (Qzm _ _)) ?_
 have ne:s.heap.objs.size≠s.heap.objs.size+1:=Qqo (Qza _)
 refine⟨by rw[qzj ne,qzc],Qze _,ne,e2,fun _=>none,(Heap.Ns1.of_empty e3).at fun o q=>Qqz _ q,fun _=>True.intro,fun y hy=>absurd rfl hy⟩
theorem qpx{prog:Program}{w:World}{env:Env}{e:Expr}{f:Str}{pos:Pos}{s:Shared}{Q:Value→Shared→Prop}(hb:attributeBase e f env (eval e env)=eval e env)
  (h:wpAny (model prog w) A (eval e env) (fun o s₁=>wpAny (model prog w) A (getAttr o f true) Q E s₁) E s):wpAny (model prog w) A (eval (.Attribute e f pos) env) Q E s:=
 Attribute_any_ h (by rw[arm_eval_Attribute,hb])
end
noncomputable def tFld(K:Qqq)(ta:TE)(f:Str):TE:=fun σ H Q=>ta σ H fun x H1=>∃ a C dx fs v,x=.ref a∧H1 a=some (.ins C dx fs)∧Cls K C∧NoAttr K C f∧fs.lookup f=some v∧Q v H1
noncomputable def sFld(K:Qqq)(ta tv:TE)(f:Str):TS:=fun D σ H=>tv σ H fun y H1=>ta σ H1 fun x H2=>∃ a C dx fs,x=.ref a∧H2 a=some (.ins C dx fs)∧Cls K C∧NoAttr K C f∧fs.length<1000∧
 D.nx σ (upd H2 a (.ins C dx (putF f y fs)))
section
variable {X:Cx}{o e value:Expr}{f:Str}{pos pos' tpos:Pos}{ta tv:TE}
theorem pe_fld(he:PE X e ta)(hb:attributeBase e f X.env (eval e X.env)=eval e X.env):PE X (.Attribute e f pos) (tFld X.K ta f):=by
 intro pins s σ H Q I h
 refine qpx hb (thn (he pins s σ H _ I h) fun u s1 ⟨x,H1,I1,rx,a,C,dx,fs,v,ex,ea,c,n,l,q⟩=>?_)
 subst ex
 obtain rfl:u=Value.ref a:=rx
 exact qe8 I1 ea c n l fun u' s2 I2 ru=>⟨v,H1,I2,ru,q⟩
theorem ps_fld(ha:PE X o ta)(hv:PE X value tv)(hs:swapsWith value (some (.Attribute o f pos')) pos.line X.env=pure false):PS X (.Assign [.Attribute o f pos'] value pos) (sFld X.K ta tv f):=by
 intro pins s σ H D I h
 refine plainObj_wpAny_Assign_Attribute (thn (hv pins s σ H _ I h) fun u s1 ⟨y,H1,I1,ry,q⟩=>thn (ha pins s1 σ H1 _ I1 q) fun ov s2 ⟨x,H2,I2,rx,a,C,dx,fs,ex,ea,c,n,l,q2⟩=>?_) hs
 subst ex
 obtain rfl:ov=Value.ref a:=rx
 exact qed I2 ea c n l ry fun s3 I3=>⟨σ,_,I3,q2⟩
theorem qoy{pl:Sem Bool}{m:Str}{apos:Pos}{args:List Expr}{pins:List (Addr×Obj)}{s:Shared}{σ:St}{H:Hp}{Q:Value→Shared→Prop}{te:TE}(he:PE X e te)(I:Inv X pins σ H s)
  (h:te σ H fun x H1=>∃ a C dx fs g,x=.ref a∧H1 a=some (.ins C dx fs)∧Cls X.K C∧Meth X.K C m g∧fs.lookup m=none∧
   ∀ s1,Inv X pins σ H1 s1→wpAny (model X.prog X.w) X.A (callWith pos (.ref g) [.ref a] (backTo pos (starEach args X.env)) (backToKw pos (keywordEach [] X.env))) Q X.xe s1)
  (ht:eval (.Call (.Attribute e m apos) args [] pos) X.env=(do
   let ov ← eval e X.env
   standAt apos.atName
   let (f,first) ← holding [ov] (getMethod ov m pl)
   callWith pos f first (backTo pos (starEach args X.env)) (backToKw pos (keywordEach [] X.env)))) :
  wpAny (model X.prog X.w) X.A (eval (.Call (.Attribute e m apos) args [] pos) X.env) Q X.xe s:=by
 refine Qxd (pl:=pl) (thn (he pins s σ H _ I h) fun u s1 ⟨x,H1,I1,rx,a,C,dx,fs,g,ex,ea,c,k,l,q⟩=>?_) ht
 subst ex
 obtain rfl:u=Value.ref a:=rx
 exact qj4 I1 ea c k l (q s1 I1)
end
section
variable {X:Cx}{pins:List (Addr×Obj)}{σ:St}{H:Hp}{s:Shared}{A:Around}{E:Value→Shared→Prop}{Q:Value→Shared→Prop}{c:Value}{b:Bool}
inductive TyOf (K:Qqq) (H:Hp):V→Value→Prop where
 |non:TyOf K H .non (.type "NoneType")
 |bl (x:Bool):TyOf K H (.bl x) (.type "bool")
 |int (i:Int):TyOf K H (.int i) (.type "int")
 |str (x:Str):TyOf K H (.str x) (.type "str")
 |flt (x:UInt64):TyOf K H (.flt x) (.type "float")
 |lst {a:Addr}{xs:List V}(e:H a=some (.lst xs)):TyOf K H (.ref a) (.type "list")
 |frz {a:Addr}{o:Obj}{xs:List V}(e:H a=some (.frz o (.lst xs))):TyOf K H (.ref a) (.type "list")
 |tup {a:Addr}{xs:List V}(e:H a=some (.tup xs)):TyOf K H (.ref a) (.type "tuple")
 |dK {a:Addr}{kvs:List (Key×V)}(e:H a=some (.dK kvs)):TyOf K H (.ref a) (.type "dict")
 |dT {a:Addr}{kvs:List (List Key×V)}(e:H a=some (.dT kvs)):TyOf K H (.ref a) (.type "dict")
 |ins {a C dx:Addr}{fs:List (Str×V)}(e:H a=some (.ins C dx fs)) (cl:Cls K C) (ha:PySem.W.findIn K (.ref C) "__class__" = some (some (.builtin "object.__class__")))
   (hn:PySem.W.specialIn K (.builtin "object.__class__") "__get__" = some (some (.builtin "getset_descriptor.__get__"))) (htk:PySem.W.takesIn K (.builtin "object.__class__")=some true)
   (hm:PySem.W.mroIn K C (.type "object")=some true):TyOf K H (.ref a) (.ref C)
end
end L2
namespace L2
open PySem PySem.Spec PyProof.Rows
structure Room (k:Nat) (A:Around):Prop where
 hd:A.handled=none
 dp:A.depth+3*k+5<recursionLimit
 un:A.units+16*k+200<cLine
theorem Room.mono{j k:Nat}{A:Around}(r:Room k A)(h:j≤k):Room j A:=⟨r.hd,by have:=r.dp; omega,by have:=r.un; omega⟩
theorem Room.deeper{k:Nat}{A:Around}(r:Room (k+1) A)(env:Env):Room k (A.deeper env):=
 ⟨r.hd,by have:=r.dp; show A.depth+1+3*k+5<_; omega,by have:=r.un; show A.units+3+16*k+200<_; omega⟩
theorem Room.in1{k:Nat}{A:Around}(r:Room (k+1) A):Room k A.in1:=
 ⟨r.hd,by have:=r.dp; show A.depth+3*k+5<_; omega,by have:=r.un; show A.units+1+16*k+200<_; omega⟩
theorem qe0{A:Around}{C:Addr}{us:List Value}{kw:List (Str×Value)}:(A.under (.builtin "type.__call__" ⟨.ref C::us,kw⟩)).depth=A.depth+1:=by
 first|rfl|simp[Around.under,Code.weight,Code.isCreation,Code.isGuard,Code.isCaller,Code.frames,Code.isFrame,guardIds]
theorem qeu{A:Around}{C:Addr}{us:List Value}{kw:List (Str×Value)}:(A.under (.builtin "type.__call__" ⟨.ref C::us,kw⟩)).units=A.units+1:=by
 first|rfl|simp[Around.under,Code.cUnits,Code.frames,Code.isFrame]
theorem Room.make{k:Nat}{A:Around}(r:Room (k+1) A)(C:Addr)(us:List Value)(kw:List (Str×Value)):Room k (A.under (.builtin "type.__call__" ⟨.ref C::us,kw⟩)):=
 ⟨r.hd,by have:=r.dp; rw[qe0]; omega,by have:=r.un; rw[qeu]; omega⟩
theorem Room.depth{k:Nat}{A:Around}(r:Room k A):A.depth<recursionLimit:=by have:=r.dp; omega
theorem Room.units{k:Nat}{A:Around}(r:Room k A):A.units+64<cLine:=by have:=r.un; omega
noncomputable def tNil:TA:=fun _ H Q=>Q [] H
noncomputable def qnj(ta:TE)(tr:TA):TA:=fun σ H Q=>ta σ H fun x H1=>tr σ H1 fun xs H2=>Q (x::xs) H2
section
variable {X:Cx}{e:Expr}{es:List Expr}{te:TE}{t:TA}{pos:Pos}
theorem pa_nil:PA X [] tNil:=fun _ _ _ _ H Q I h=>Calls.spliced_nil ⟨[],H,I,.nil,h⟩
theorem qq2(ha:PE X e te)(hr:PA X es t)(hs:starEach (e::es) X.env=(false,eval e X.env)::starEach es X.env:=by rfl):PA X (e::es) (qnj te t):=by
 intro pos pins s σ H Q I h
 rw[hs]
 show wpAny _ _ (spliced ((false,eval e X.env)::backTo pos (starEach es X.env))) _ _ s
 refine Calls.spliced_cons (thn (ha pins s σ H _ I h) fun u s1 ⟨x,H1,I1,r1,q1⟩=>?_)
 exact thn (hr pos pins s1 σ H1 _ I1 q1) fun us s2 ⟨xs,H2,I2,r2,q2⟩=>⟨x::xs,H2,I2,.cons r1 r2,q2⟩
noncomputable def tTup(t:TA):TE:=fun σ H Q=>t σ H fun xs H1=>xs.length≤sizeLine∧∀ p,H1 p=none→Q (.ref p) (upd H1 p (.tup xs))
noncomputable def tLst(t:TA):TE:=fun σ H Q=>t σ H fun xs H1=>xs.length≤sizeLine∧∀ p,H1 p=none→Q (.ref p) (upd H1 p (.lst xs))
theorem qmv{x1}(h:PA X es t):PE X (.Tuple es x1 pos) (tTup t):=by
 intro pins s σ H Q I hq
 refine wpAny_Tuple_spliced (thn (h pos pins s σ H _ I hq) fun us s1 ⟨xs,H1,I1,r,z,q⟩=>⟨by rw[← r.length]; exact z,?_⟩)
 have hf:H1 s1.heap.objs.size=none:=I1.hok.fresh (Qqj _)
 refine⟨.ref s1.heap.objs.size,upd H1 s1.heap.objs.size (.tup xs),I1.laid (t':=s1.toks) (fun b u e=>Qqz _ e) (Qqj _) ?_,rfl,q _ hf⟩
 exact⟨z,us,r,⟨_,Qqw _ rfl,rfl,_,rfl⟩⟩
theorem pe_lst(h:PA X es t):PE X (.List es pos) (tLst t):=by
 intro pins s σ H Q I hq
 refine wpAny_List_spliced (thn (h pos pins s σ H _ I hq) fun us s1 ⟨xs,H1,I1,r,z,q⟩=>⟨by rw[← r.length]; exact z,?_⟩)
 have hf:H1 s1.heap.objs.size=none:=I1.hok.fresh (Qqj _)
 refine⟨.ref s1.heap.objs.size,upd H1 s1.heap.objs.size (.lst xs),I1.laid (t':=s1.toks) (fun b u e=>Qqz _ e) (Qqj _) ?_,rfl,q _ hf⟩
 exact⟨z,us,0,r,Qqw _ rfl⟩
end
abbrev Sp:=List V→Hp→VK→XK→Prop
abbrev CXT:=List Env→Hp→Shared→XK→Value→Shared→Prop
structure Env0 (P:Program) (w:World) (K:Qqq) (mg:Str→Option Value) (base:Heap) (A:Around) (outer:List Env) (s:Shared) (H:Hp):Prop where
 frames:A.frames=some outer
 mod:Mod K mg base
 bs:∀ b o,base.get? b=some o→s.heap.get? b=some o∧H b=none
 bsz:base.objs.size≤s.heap.objs.size
 funs:s.heap.FunFrames base outer
 frf:∀ b∈frs outer,H b=none
 hok:HOk P w H s.heap
 bare:AllBare s.gens
def CE(outer:List Env)(P:Program)(w:World)(H:Hp)(s:Shared)(Q:VK)(u:Value)(s':Shared):Prop:=
 ∃ v H',s'.os=s.os∧AllBare s'.gens∧Un (frs outer) [] H H' s.heap s'.heap∧HOk P w H' s'.heap∧RelV v u∧Q v H'
def CR(CX:CXT)(outer:List Env)(P:Program)(w:World)(H:Hp)(s:Shared)(Q:VK)(E:XK)(r:Result)(s':Shared):Prop:=
 match r with
 |.ok (.ret u)=>CE outer P w H s Q u s'
 |.ok _=>False
 |.error e=>CX outer H s E e s'
structure FnOk (P:Program) (w:World) (K:Qqq) (mg:Str→Option Value) (base:Heap) (CX:CXT) (k:Nat) (f:Addr) (fd:FuncData) (ps:List Str) (sp:Sp):Prop where
 len:∀ vs H Q E,sp vs H Q E→vs.length=ps.length
 run:∀ (A:Around) (outer:List Env) (s:Shared) (H:Hp) (args:Args) (us:List Value) (vs:List V) (Q:VK) (E:XK),Room k A→Env0 P w K mg base A outer s H→BindsTo s fd args (ps.zip us)→Vals vs us→sp vs H Q E→
  codeAny (model P w) A (.call (.ref f) args) (CR CX outer P w H s Q E) s
theorem FnOk.mono{P:Program}{w:World}{K:Qqq}{mg:Str→Option Value}{base:Heap}{CX:CXT}{j k:Nat}{f:Addr}{fd:FuncData}{ps:List Str}{sp:Sp}(F:FnOk P w K mg base CX j f fd ps sp)(h:j≤k):
  FnOk P w K mg base CX k f fd ps sp:=⟨F.len,fun A outer s H args us vs Q E hr=>F.run A outer s H args us vs Q E (hr.mono h)⟩
theorem FnOk.imp{P:Program}{w:World}{K:Qqq}{mg:Str→Option Value}{base:Heap}{CX:CXT}{k:Nat}{f:Addr}{fd:FuncData}{ps:List Str}{sp sp':Sp}(F:FnOk P w K mg base CX k f fd ps sp)
  (h:∀ vs H Q E,sp' vs H Q E→sp vs H Q E):FnOk P w K mg base CX k f fd ps sp':=
 ⟨fun vs H Q E q=>F.len vs H Q E (h _ _ _ _ q),fun A outer s H args us vs Q E hr he hb hv hs=>F.run A outer s H args us vs Q E hr he hb hv (h _ _ _ _ hs)⟩
theorem Env0.make{P:Program}{w:World}{K:Qqq}{mg:Str→Option Value}{base:Heap}{A:Around}{outer:List Env}{s:Shared}{H:Hp}(e:Env0 P w K mg base A outer s H)(C:Addr)(us:List Value)(kw:List (Str×Value)):
  Env0 P w K mg base (A.under (.builtin "type.__call__" ⟨.ref C::us,kw⟩)) outer s H:=⟨by first|exact e.frames|(simpa[Around.under,Code.envs,Code.isFrame,pushEnvs] using e.frames),e.mod,e.bs,e.bsz,e.funs,e.frf,e.hok,e.bare⟩
theorem Env0.in1{P:Program}{w:World}{K:Qqq}{mg:Str→Option Value}{base:Heap}{A:Around}{outer:List Env}{s:Shared}{H:Hp}(e:Env0 P w K mg base A outer s H):
  Env0 P w K mg base A.in1 outer s H:=⟨e.frames,e.mod,e.bs,e.bsz,e.funs,e.frf,e.hok,e.bare⟩
section
variable {X:Cx}{pins:List (Addr×Obj)}{σ:St}{H:Hp}{s s':Shared}
theorem Inv.env0(I:Inv X pins σ H s):Env0 X.prog X.w X.K X.mg X.base X.A X.stack s H:=
 ⟨I.ok.frames,I.ok.mod,I.bs,Qzx I.ok.bsz I.sz,I.stack,I.stkFree,I.hok,I.bare⟩
theorem Inv.after{Q:VK}{u:Value}(I:Inv X pins σ H s)(h:CE X.stack X.prog X.w H s Q u s'):EP X pins σ Q u s':=by
 obtain⟨v,H',os,bare,un,hok,r,q⟩:=h
 obtain⟨hh,g,d,t,os'⟩:=s'
 obtain rfl:os'=s.os:=os
 exact⟨v,H',I.call (h':=hh) (g':=g) (d':=d) (t':=t) (ch:=[]) un hok bare (fun b z=>absurd z (by simp)),r,q⟩
end
noncomputable def tCall(sp:Sp)(dvs:List V)(E:XK)(t:TA):TE:=fun σ H Q=>t σ H fun vs H1=>sp (vs++dvs) H1 Q E
noncomputable def qnz(C:Addr)(m:Str)(sp:Sp)(dvs:List V)(E:XK)(ta:TE)(t:TA):TE:=fun σ H Q=>ta σ H fun x H1=>∃ a dx fs,x=.ref a∧H1 a=some (.ins C dx fs)∧fs.lookup m=none∧
 t σ H1 fun vs H2=>sp (x::(vs++dvs)) H2 Q E
noncomputable def tMake(C:Addr)(sp:Sp)(dvs:List V)(E:XK)(t:TA):TE:=fun σ H Q=>t σ H fun vs H1=>∀ x dx,H1 x=none→H1 dx=none→dx≠x→
 sp (.ref x::(vs++dvs)) (upd (upd H1 dx (.own x)) x (.ins C dx [])) (fun v H2=>v=.non∧Q (.ref x) H2) E
def Binds(K:Qqq)(fd:FuncData)(ps:List Str)(ds:List Value):Prop:=
 ∀ (s:Shared) (us:List Value),K.In s.heap→(us++ds).length=ps.length→BindsTo s fd ⟨us,[]⟩ (ps.zip (us++ds))
theorem Binds.all{K:Qqq}{fd:FuncData}{ps:List Str}(h:∀ us:List Value,us.length=ps.length→bindArgs fd ⟨us,[]⟩=pure (ps.zip us)):Binds K fd ps []:=fun s us _ hl=>by
 rw[Qzf]at hl ⊢
 exact .of_eq (h us hl)
def qwj(CX:CXT)(X:Cx)(E:XK):Prop:=∀ (pins:List (Addr×Obj)) (σ:St) (H:Hp) (s:Shared) (e:Value) (s':Shared),Inv X pins σ H s→CX X.stack H s E e s'→X.xe e s'
section
variable {X:Cx}{CX:CXT}{k:Nat}{f C:Addr}{fd:FuncData}{ps:List Str}{sp:Sp}{dvs:List V}{ds:List Value}{E:XK}{x m:Str}{p pos apos:Pos}{e o:Expr}{es:List Expr}{ta:TE}{t:TA}
theorem qgx{pins:List (Addr×Obj)}{σ:St}{H:Hp}{s:Shared}{Q:VK}{us:List Value}{vs:List V}(F:FnOk X.prog X.w X.K X.mg X.base CX k f fd ps sp)(hr:Room k X.A)(hb:Binds X.K fd ps ds)(hd:Vals dvs ds)(hx:qwj CX X E)
  (I:Inv X pins σ H s) (r:Vals vs us) (h:sp (vs++dvs) H Q E):wpAny (model X.prog X.w) X.A (call (.ref f) us) (EP X pins σ Q) X.xe s:=by
 have r2:Vals (vs++dvs) (us++ds):=r.append hd
 have hl:(us++ds).length=ps.length:=by rw[← r2.length]; exact F.len _ _ _ _ h
 refine wpAny_call (codeAny_mono (F.run X.A X.stack s H ⟨us,[]⟩ (us++ds) (vs++dvs) Q E hr I.env0 (hb s us I.kIn hl) r2 h) fun r s' hq=>?_)
 cases r with
 |error e=>exact hx pins σ H s e s' I hq
 |ok fl=>
  cases fl with
  |ret u=>exact I.after hq
  |next=>exact False.elim hq
  |brk=>exact False.elim hq
  |cont=>exact False.elim hq
theorem qn5(F:FnOk X.prog X.w X.K X.mg X.base CX k f fd ps sp)(hr:Room k X.A)(hg:Gl X x)(hm:X.mg x=some (.ref f))(hk:Qzj X.K (.ref f)=true)(hb:Binds X.K fd ps ds)(hd:Vals dvs ds)(hx:qwj CX X E)
  (ha:PA X (e::es) t) (hdb:(x==("__debug__" : Str))=false:=by decide) (he:starEach (e::es) X.env=(false,eval e X.env)::starEach es X.env:=by rfl) (hpl:(backTo pos (starEach es X.env)).any (·.1)=false:=by rfl) :
  PE X (.Call (.Name x p) (e::es) [] pos) (tCall sp dvs E t):=by
 intro pins s σ H Q I h
 refine wpAny_Call_Name_kw (qch I hg hm ?_ hdb)
 refine Qxm (h₀:=X.base) I.ok.mod.kin hk (thn (ha pos pins s σ H _ I h) fun us s1 ⟨vs,H1,I1,r,q⟩=>⟨I1.kIn,?_⟩) he hpl
 exact qgx F hr hb hd hx I1 r q
theorem qnt{pl:Sem Bool}(he:PE X o ta)(c:Cls X.K C)(hm:Meth X.K C m f)(F:FnOk X.prog X.w X.K X.mg X.base CX k f fd ps sp)(hr:Room k X.A)(hb:Binds X.K fd ps ds)(hd:Vals dvs ds)(hx:qwj CX X E)(ha:PA X (e::es) t)
  (hst:starEach (e::es) X.env=(false,eval e X.env)::starEach es X.env:=by rfl) (hpl:(backTo pos (starEach es X.env)).any (·.1)=false:=by rfl)
  (ht:eval (.Call (.Attribute o m apos) (e::es) [] pos) X.env=(do
   let ov ← eval o X.env
   standAt apos.atName
   let (f,first) ← holding [ov] (getMethod ov m pl)
   callWith pos f first (backTo pos (starEach (e::es) X.env)) (backToKw pos (keywordEach [] X.env))):=by rfl) :
  PE X (.Call (.Attribute o m apos) (e::es) [] pos) (qnz C m sp dvs E ta t):=by
 intro pins s σ H Q I h
 refine Qxd (pl:=pl) (thn (he pins s σ H _ I h) fun u s1 ⟨x,H1,I1,rx,a,dx,fs,ex,ea,l,q⟩=>?_) ht
 subst ex
 obtain rfl:u=Value.ref a:=rx
 refine qj4 I1 ea c hm l ?_
 refine Qxm (first:=[.ref a]) (h₀:=X.base) I.ok.mod.kin hm.kp (thn (ha pos pins s1 σ H1 _ I1 q) fun us s2 ⟨vs,H2,I2,r,q2⟩=>⟨I2.kIn,?_⟩) hst hpl
 exact qgx (us:=.ref a::us) (vs:=.ref a::vs) F hr hb hd hx I2 (.cons rfl r) q2
theorem qi8{pl:Sem Bool}(he:PE X o ta)(c:Cls X.K C)(hm:Meth X.K C m f)(F:FnOk X.prog X.w X.K X.mg X.base CX k f fd ps sp)(hr:Room k X.A)(hb:Binds X.K fd ps ds)(hd:Vals dvs ds)(hx:qwj CX X E)
  (ht:eval (.Call (.Attribute o m apos) [] [] pos) X.env=(do
   let ov ← eval o X.env
   standAt apos.atName
   let (f,first) ← holding [ov] (getMethod ov m pl)
   callWith pos f first (backTo pos (starEach [] X.env)) (backToKw pos (keywordEach [] X.env))):=by rfl) :
  PE X (.Call (.Attribute o m apos) [] [] pos) (qnz C m sp dvs E ta tNil):=by
 intro pins s σ H Q I h
 refine Qxd (pl:=pl) (thn (he pins s σ H _ I h) fun u s1 ⟨x,H1,I1,rx,a,dx,fs,ex,ea,l,q⟩=>?_) ht
 subst ex
 obtain rfl:u=Value.ref a:=rx
 refine qj4 I1 ea c hm l ?_
 exact PySem.W.callWith_K0 (first:=[.ref a]) I1.kIn hm.kp (qgx (us:=[.ref a]) (vs:=[.ref a]) F hr hb hd hx I1 (.cons rfl .nil) q)
structure Mk (K:Qqq) (C f:Addr):Prop where
 makes:PySem.W.makesIn K C=true
 init:PySem.W.findIn K (.ref C) "__init__" = some (some (.ref f))
 fn:PySem.W.isFn K (.ref f)=true
 kp:Qzj K (.ref C)=true
theorem qi0{pins:List (Addr×Obj)}{σ:St}{H:Hp}{s:Shared}{Q:VK}{us:List Value}{vs:List V}(M:Mk X.K C f)(F:FnOk X.prog X.w X.K X.mg X.base CX k f fd ps sp)(hr:Room (k+1) X.A)(hb:Binds X.K fd ps ds)(hd:Vals dvs ds)
  (hx:qwj CX X E) (I:Inv X pins σ H s) (r:Vals vs us)
  (h:∀ x dx,H x=none→H dx=none→dx≠x→sp (.ref x::(vs++dvs)) (upd (upd H dx (.own x)) x (.ins C dx [])) (fun v H2=>v=.non∧Q (.ref x) H2) E) :
  wpAny (model X.prog X.w) X.A (call (.ref C) us) (EP X pins σ Q) X.xe s:=by
 have hq:=h (s.heap.objs.size+1) s.heap.objs.size (I.hok.fresh (Qjk _)) (I.hok.fresh (Qqj _)) (Qqo (Qza _))
 have I2:=Inv.made (C:=C) I
 have r2:Vals (V.ref (s.heap.objs.size+1)::(vs++dvs)) (Value.ref (s.heap.objs.size+1)::(us++ds)):=.cons rfl (r.append hd)
 have hl:(Value.ref (s.heap.objs.size+1)::us++ds).length=ps.length:=by
  have e:=r2.length
  rw[F.len _ _ _ _ hq]at e
  exact e.symm
 refine wpAny_call (qlw (f:=f) I.kIn M.makes M.init (beq_iff_eq.mp M.fn) (codeAny_mono (F.run _ X.stack _ _ ⟨Value.ref (s.heap.objs.size+1)::us,[]⟩ (Value.ref (s.heap.objs.size+1)::(us++ds)) _ _ E (hr.make C us [])
  (I2.env0.make C us []) (hb _ (Value.ref (s.heap.objs.size+1)::us) I2.kIn hl) r2 hq) fun r s' hq'=>?_))
 cases r with
 |error e=>exact hx pins σ _ _ e s' I2 hq'
 |ok fl=>
  cases fl with
  |ret u=>
   obtain⟨v,H',I3,rv,ev,q3⟩:=I2.after hq'
   subst ev
   exact⟨rv,⟨V.ref (s.heap.objs.size+1),H',I3,rfl,q3⟩⟩
  |next=>exact False.elim hq'
  |brk=>exact False.elim hq'
  |cont=>exact False.elim hq'
theorem qnu(M:Mk X.K C f)(F:FnOk X.prog X.w X.K X.mg X.base CX k f fd ps sp)(hr:Room (k+1) X.A)(hg:Gl X x)(hm:X.mg x=some (.ref C))(hb:Binds X.K fd ps ds)(hd:Vals dvs ds)(hx:qwj CX X E)
  (ha:PA X (e::es) t) (hdb:(x==("__debug__" : Str))=false:=by decide) (he:starEach (e::es) X.env=(false,eval e X.env)::starEach es X.env:=by rfl) (hpl:(backTo pos (starEach es X.env)).any (·.1)=false:=by rfl) :
  PE X (.Call (.Name x p) (e::es) [] pos) (tMake C sp dvs E t):=by
 intro pins s σ H Q I h
 refine wpAny_Call_Name_kw (qch I hg hm ?_ hdb)
 refine Qxm (h₀:=X.base) I.ok.mod.kin M.kp (thn (ha pos pins s σ H _ I h) fun us s1 ⟨vs,H1,I1,r,q⟩=>⟨I1.kIn,?_⟩) he hpl
 exact qi0 M F hr hb hd hx I1 r q
end
section
variable {X:Cx}{CX:CXT}{k:Nat}{f C:Addr}{fd:FuncData}{ps ks:List Str}{sp:Sp}{E:XK}{x m:Str}{p pos apos kpos:Pos}{e o:Expr}{es:List Expr}{kws:List Keyword}{te ta:TE}{t tk:TA}{nm:Option Str}
structure KBinds (K:Qqq) (fd:FuncData) (ps ks:List Str) (g:List Value→List Value→List Value) (gV:List V→List V→List V):Prop where
 to:∀ (s:Shared) (us ws:List Value),K.In s.heap→(g us ws).length=ps.length→BindsTo s fd ⟨us,ks.zip ws⟩ (ps.zip (g us ws))
 rel:∀ {vs:List V}{us:List Value}{zs:List V}{ws:List Value},Vals vs us→Vals zs ws→Vals (gV vs zs) (g us ws)
variable {g:List Value→List Value→List Value}{gV:List V→List V→List V}
end
structure FnScope (N P:List Str) (sc:Scope):Prop where
 kind:sc.kind=.function
 co:sc.isCoroutine=false
 gen:sc.isGenerator=false
 nd:N.Nodup
 pre:N.take P.length=P
 par:∀ x∈P,sc.names.lookup x=some .local∨sc.names.lookup x=some .cell
 nofree:∀ y∈sc.names,y.2≠.free
theorem qb3{kindOf:Str→Option NameKind}{x:Str}:∀ {binds:List (Str×Value)}{m:Str→Option Value},(∀ v,(x,v) ∉ binds)→bindL kindOf binds m x=m x
 |[],_,_=>rfl
 |(n,v)::r,m,h=>by
  unfold bindL
  rw[qb3 fun w hw=>h w (Qqr _ hw)]
  split
  ·have:x≠n:=by rintro rfl; exact h v Qq4
   simp[this]
  ·rfl
theorem qb5{kindOf:Str→Option NameKind}{x:Str}:∀ {binds:List (Str×Value)}{m:Str→Option Value},(∀ v,(x,v) ∉ binds)→bindC kindOf binds m x=m x
 |[],_,_=>rfl
 |(n,v)::r,m,h=>by
  unfold bindC
  rw[qb5 fun w hw=>h w (Qqr _ hw)]
  split
  ·rfl
  ·have:x≠n:=by rintro rfl; exact h v Qq4
   simp[this]
theorem qb4{kindOf:Str→Option NameKind}{x:Str}{v:Value}:∀ {P:List Str}{vs:List Value}{i:Nat}{m:Str→Option Value},P.Nodup→P[i]?=some x→vs[i]?=some v→kindOf x=some .local→
  bindL kindOf (P.zip vs) m x=some v
 |[],_,_,_,_,h,_,_=>by simp at h
 |_::_,[],_,_,_,_,h,_=>by simp at h
 |p::P,w::vs,0,m,nd,h1,h2,hk=>by
  simp at h1 h2; subst h1; subst h2
  show bindL kindOf ((p,w)::P.zip vs) m p=_
  unfold bindL
  rw[qb3 fun v hv=>(Qxg.mp nd).1 (Qjq hv).1,if_pos hk]
  simp
 |p::P,w::vs,i+1,m,nd,h1,h2,hk=>by
  show bindL kindOf ((p,w)::P.zip vs) m x=_
  unfold bindL
  exact qb4 (i:=i) (Qxg.mp nd).2 (by simpa using h1) (by simpa using h2) hk
theorem qb6{kindOf:Str→Option NameKind}{x:Str}{v:Value}:∀ {P:List Str}{vs:List Value}{i:Nat}{m:Str→Option Value},P.Nodup→P[i]?=some x→vs[i]?=some v→kindOf x≠some .local→
  bindC kindOf (P.zip vs) m x=some v
 |[],_,_,_,_,h,_,_=>by simp at h
 |_::_,[],_,_,_,_,h,_=>by simp at h
 |p::P,w::vs,0,m,nd,h1,h2,hk=>by
  simp at h1 h2; subst h1; subst h2
  show bindC kindOf ((p,w)::P.zip vs) m p=_
  unfold bindC
  rw[qb5 fun v hv=>(Qxg.mp nd).1 (Qjq hv).1,if_neg hk]
  simp
 |p::P,w::vs,i+1,m,nd,h1,h2,hk=>by
  show bindC kindOf ((p,w)::P.zip vs) m x=_
  unfold bindC
  exact qb6 (i:=i) (Qxg.mp nd).2 (by simpa using h1) (by simpa using h2) hk
noncomputable def start(N:List Str)(vs:List V):St:=vs.map some++List.replicate (N.length - vs.length) none
noncomputable def cxOf(CX:CXT)(P:Program)(w:World)(K:Qqq)(mg:Str→Option Value)(base:Heap)(N:List Str)(qual:Str)(scope:Scope)(f:Addr)(cd:Value)(A:Around)(outer:List Env)(s:Shared)(H:Hp)(E:XK):Cx where
 prog:=P
 w:=w
 K:=K
 mg:=mg
 base:=base
 A:=A.deeper (envOfC qual scope s.heap.objs.size f cd)
 N:=N
 s₀:=s
 H₀:=H
 env:=envOfC qual scope s.heap.objs.size f cd
 outer:=outer
 stack:=envOfC qual scope s.heap.objs.size f cd::outer
 ex:=[]
 calm:=true
 fn:=fun _=>true
 pn:=[]
 xe:=fun e s'=>wpAny (model P w) (A.deeper (envOfC qual scope s.heap.objs.size f cd)) (leaving (envOfC qual scope s.heap.objs.size f cd) e) (fun _ s''=>CX outer H s E e s'') (fun e' s''=>CX outer H s E e' s'') s'
theorem qd9{sc:Scope}{n:Nat}{x:Str}(h:sc.names.lookup x=some .cell):∃ c,(cellsFrom n sc.names []).lookup x=some c:=by
 have q:=Qjv sc.names n [] (.inl h)
 exact Qzg.mp q
theorem qhv{CX:CXT}{P:Program}{w:World}{K:Qqq}{mg:Str→Option Value}{base:Heap}{N ps:List Str}{qual:Str}{scope:Scope}{f:Addr}{cd:Value}{A:Around}{outer:List Env}{s s1:Shared}{H:Hp}{E:XK}{us:List Value}{vs:List V}
  (S:FnScope N ps scope) (hd:A.handled=none) (e0:Env0 P w K mg base A outer s H) (hl:vs.length=ps.length) (r:Vals vs us)
  (x:InCallC s s.heap.objs.size (bindL (envOfC qual scope s.heap.objs.size f cd).kindOf (ps.zip us) fun _=>none) (cellsFrom (s.heap.objs.size+1) scope.names []) (bindC (envOfC qual scope s.heap.objs.size f cd).kindOf (ps.zip us) fun _=>none) s1) :
  Inv (cxOf CX P w K mg base N qual scope f cd A outer s H E) [] (start N vs) H s1:=by
 have hpl:ps.length≤N.length:=by have:=congrArg List.length S.pre; rw[Qzn]at this; omega
 obtain⟨h1,tk,rfl,hk⟩:=x.done
 have noA:∀ b:Addr,b ∉ (cxOf CX P w K mg base N qual scope f cd A outer s H E).ex:=fun b z=>absurd (show b∈([]:List Addr) from z) (by simp)
 refine⟨⟨e0.mod,S.kind,rfl,rfl,Qqj _,fun y z c h1 h2=>?_,fun y hy=>?_,fun y c _ h=>?_,fun _=>hd,Around.frames_deeper e0.frames,.inr ⟨rfl,rfl⟩,fun b z=>absurd z (noA b),e0.bs,e0.bsz,fun b _ _=>noA b,fun b z=>absurd z (noA b),e0.funs,e0.frf⟩,
  rfl,e0.bare,Un.kept hk,⟨_,x.toInCall.ns,fun i y v h1 h2 h3=>?_⟩,fun y c h=>⟨_,x.cell y c h⟩,e0.hok.fresh (Qqj _),fun y c h=>?_,fun p hp=>absurd (show p∈([]:List (Addr×Obj)) from hp) (by simp),e0.hok.kept hk,?_⟩
 ·exact name_of_addr x.apart (PySem.mem_of_lookup h1) (PySem.mem_of_lookup h2)
 ·have hy:scope.names.lookup y=some .cell∨scope.names.lookup y=some .free:=hy
  rcases hy with hy|hy
  ·exact qd9 hy
  ·exact absurd rfl (S.nofree _ (PySem.mem_of_lookup hy))
 ·exact Qxf (x.above y c (PySem.mem_of_lookup h))
 ·have hi:i<vs.length:=by
   unfold start at h2
   by_cases hi:i<vs.length
   ·exact hi
   ·rw[Qq8 (by simpa using hi)]at h2
    rw[Qx8]at h2
    split at h2<;>cases h2
  have ha:vs[i]?=some v:=by
   unfold start at h2
   rw[Qzz (by simpa using hi),Qqn]at h2
   cases e:vs[i]? with
   |none=>rw[e]at h2; cases h2
   |some a=>rw[e]at h2; cases h2; rfl
  obtain⟨u,hu,rv⟩:=r.get ha
  have hp:ps[i]?=some y:=by
   rw[← S.pre,List.getElem?_take_of_lt (by omega)]; exact h1
  have ndP:ps.Nodup:=by rw[← S.pre]; exact S.nd.sublist (List.take_sublist _ _)
  refine⟨u,rv,?_⟩
  rcases S.par y (Qq9 hp) with k|k
  ·exact .inl ⟨k,qb4 ndP hp hu k⟩
  ·obtain⟨c,e⟩:=qd9 (n:=s.heap.objs.size+1) k
   refine .inr ⟨.inl k,c,e,?_⟩
   have q:=x.cell y c e
   rw[qb6 ndP hp hu (by show scope.names.lookup y≠_; rw[k]; decide)]at q
   exact q
 ·exact e0.hok.fresh (Qxf (x.above y c (PySem.mem_of_lookup h)))
 ·unfold start
  show _=N.length
  rw[Qq0,Qqk,Qxe]
  omega
theorem fn_of{CX:CXT}{P:Program}{w:World}{K:Qqq}{mg:Str→Option Value}{base:Heap}{k:Nat}{f:Addr}{name qual:Str}{params:Arguments}{body:List Stmt}{scope:Scope}{dV kV doc pm cdv ct oc:Value}{an od:Option Addr}
  {osl:Array (Option Value)}{N ps:List Str}{sp:Sp}(lk:K.lookup f=some ⟨oc,od,.func (PySem.W.fnOf name qual params body scope dV kV doc pm an cdv ct),osl⟩) (hcd:PySem.W.codeIn K cdv qual=true) (S:FnScope N ps scope)
  (len:∀ vs H Q E,sp vs H Q E→vs.length=ps.length)
  (hbody:∀ (A:Around) (outer:List Env) (s:Shared) (H:Hp) (vs:List V) (Q:VK) (E:XK),Room k (A.deeper (envOfC qual scope s.heap.objs.size f cdv))→sp vs H Q E→
   ∃ t,PSs (cxOf CX P w K mg base N qual scope f cdv A outer s H E) body t∧t { nx:=fun _ H'=>Q .non H',rt:=Q } (start N vs) H) :
  FnOk P w K mg base CX (k+1) f (PySem.W.fnOf name qual params body scope dV kV doc pm an cdv ct) ps sp:=by
 refine⟨len,fun A outer s H args us vs Q E hr e0 hb r hsp=>?_⟩
 have hl:=len _ _ _ _ hsp
 have KX:K.In s.heap:=e0.mod.kin.keeps fun b o e=>(e0.bs b o e).1
 have lim:s.heap.NoLimit:=e0.mod.nolimit.keeps fun b o e=>(e0.bs b o e).1
 have hkind:∀ y∈ps.zip us,scope.names.lookup y.1=some .local∨(scope.names.lookup y.1=some .cell∧((cellsFrom (s.heap.objs.size+1) scope.names []).lookup y.1).isSome=true):=fun ⟨n,v⟩ hy=>by
  rcases S.par n (Qjq hy).1 with q|q
  ·exact .inl q
  ·exact .inr ⟨q,Qjv _ _ _ (.inl q)⟩
 refine codeAny_call_function hr.depth (KX _ _ lk) rfl S.co S.gen rfl (PySem.W.codeRec_of KX hcd) (hb _ _ _ _ ?_)
 refine wpAny_newFunctionEnv_cells S.kind hkind fun env he s1 x=>?_
 subst he
 refine⟨lim.keeps x.toInCall.keep,codeAny_func ?_⟩
 obtain⟨t,ht,hq⟩:=hbody A outer s H vs Q E (hr.deeper _) hsp
 have I:Inv (cxOf CX P w K mg base N qual scope f cdv A outer s H E) [] (start N vs) H s1:=qhv S hr.hd e0 hl r x
 refine wpAny_mono (ht [] s1 (start N vs) H _ I hq) (fun fl s' hs=>?_) fun e s' hs=>hs
 have fin:∀ {σ':St}{H':Hp}{v:V}{u:Value},Inv (cxOf CX P w K mg base N qual scope f cdv A outer s H E) [] σ' H' s'→RelV v u→Q v H'→CE outer P w H s Q u s':=
  fun {σ' H' v u} J rv q=>⟨v,H',J.os,J.bare,J.base,J.hok,rv,q⟩
 cases fl with
 |ret u=>
  obtain⟨v,σ',H',J,rv,q⟩:=hs
  exact fin J rv q
 |next=>
  obtain⟨σ',H',J,q⟩:=hs
  exact fin (v:=V.non) (u:=Value.none) J rfl q
 |brk=>
  obtain⟨_,_,_,q⟩:=hs
  exact False.elim q
 |cont=>
  obtain⟨_,_,_,q⟩:=hs
  exact False.elim q
end L2
namespace L2
open PySem PySem.Spec PyProof.Rows
section
variable {X:Cx}{x:Str}{p pos:Pos}{e:Expr}{es:List Expr}{t:TA}{id T:String}{r:List V→Hp→VK→Prop}
noncomputable def tCB(r:List V→Hp→VK→Prop)(t:TA):TE:=fun σ H Q=>t σ H fun vs H1=>r vs H1 Q
theorem qqv(hc:CallR X (.builtin id) r)(hg:Gl X x)(hm:X.mg x=none)(hv:bootBuiltins x=some (.builtin id))(ha:PA X (e::es) t)(hn:x ≠ "__name__":=by decide)(hdb:(x==("__debug__" : Str))=false:=by decide)
  (he:starEach (e::es) X.env=(false,eval e X.env)::starEach es X.env:=by rfl) (hpl:(backTo pos (starEach es X.env)).any (·.1)=false:=by rfl):PE X (.Call (.Name x p) (e::es) [] pos) (tCB r t):=by
 intro pins s σ H Q I h
 refine wpAny_Call_Name_kw (qyj I hg hm hv ?_ hn hdb)
 exact PyProof.Rows.callWith_builtin1 (thn (ha pos pins s σ H _ I h) fun us s1 ⟨vs,H1,I1,r1,q1⟩=>hc pins s1 σ H1 vs us Q I1 r1 q1) he hpl
theorem qq1(hc:CallR X (.type T) r)(hg:Gl X x)(hm:X.mg x=none)(hv:bootBuiltins x=some (.type T))(ha:PA X (e::es) t)(hn:x ≠ "__name__":=by decide)(hdb:(x==("__debug__" : Str))=false:=by decide)
  (he:starEach (e::es) X.env=(false,eval e X.env)::starEach es X.env:=by rfl) (hpl:(backTo pos (starEach es X.env)).any (·.1)=false:=by rfl):PE X (.Call (.Name x p) (e::es) [] pos) (tCB r t):=by
 intro pins s σ H Q I h
 refine wpAny_Call_Name_kw (qyj I hg hm hv ?_ hn hdb)
 exact PyProof.Rows.callWith_type1 (thn (ha pos pins s σ H _ I h) fun us s1 ⟨vs,H1,I1,r1,q1⟩=>hc pins s1 σ H1 vs us Q I1 r1 q1) he hpl
end
end L2
namespace HT
open PySem PyProof.Rows
section
open PySem.SeqAt
open PySem.AutoSeq1 (wpAny_loadPart')
open PySem.MeetsSeq PySem.MeetsSeq2 PySem.MeetsSeq3
end
section
variable {prog:Program}{w:World}{A:Around}{E:Value→Shared→Prop}{s:Shared}
theorem cat_tup{t b:Addr}{vs ws:List Value}{Q:Value→Shared→Prop}(ht:IsTup s.heap t vs.toArray)(hb:IsTup s.heap b ws.toArray)(hv:vs≠[])
  (h1:ws=[]→Q (.ref t) s) (h2:ws≠[]→Q (.ref s.heap.objs.size) { s with heap:=s.heap.push { cls:=.type "tuple",data:=.seq (vs++ws).toArray } })
  (hsz:vs.length+ws.length≤sizeLine):wpAny (model prog w) A (binaryOp .Add (.ref t) (.ref b)) Q E s:=by
 obtain⟨⟨cls,dd,data,sl⟩,ho,hc,n,hd⟩:=id ht
 obtain⟨⟨cls2,dd2,data2,sl2⟩,ho2,hc2,n2,hd2⟩:=id hb
 simp only at hc hd hc2 hd2
 subst hc hd hc2 hd2
 have e:vs.toArray++ws.toArray=(vs++ws).toArray:=by simp
 by_cases hw:ws=[]
 ·exact concat_meets ⟨_,ho,rfl⟩ ⟨_,ho2,rfl⟩ noFill_tuple_add seq_tuple_add PySem.F.slot_tuple_add PySem.F.entry_tuple_add (PySem.F.args_tuple_add_2 _ _)
   (tuple_addW1 t b vs.toArray ws.toArray n n2 dd dd2 sl sl2 (by simpa using hv) (by simp[hw])) ⟨ho,ho2,h1 hw⟩
 ·refine concat_meets ⟨_,ho,rfl⟩ ⟨_,ho2,rfl⟩ noFill_tuple_add seq_tuple_add PySem.F.slot_tuple_add PySem.F.entry_tuple_add (PySem.F.args_tuple_add_2 _ _)
   (tuple_addW2 t b vs.toArray ws.toArray n n2 dd dd2 sl sl2 (by simpa using hv) (by simpa using hw) (by rw[Qqx,Qqx]; exact hsz)) ⟨ho,ho2,?_⟩
  rw[e]
  exact h2 hw
noncomputable def sIx(n d:Nat):Option Int→Nat
 |none=>d
 |some v=>if v<0 then(v+(n:Int)).toNat else min v.toNat n
theorem sIx_le(n d:Nat)(hd:d≤n)(o:Option Int):sIx n d o≤n:=by
 cases o with
 |none=>exact hd
 |some v=>
  show(if v<0 then(v+(n:Int)).toNat else min v.toNat n)≤n
  by_cases hv:v<0
  ·rw[if_pos hv]; omega
  ·rw[if_neg hv]; exact Nat.min_le_right _ _
theorem qh2(v:Int)(n d:Nat):(if v<0 then max (v+(n:Int)) 0 else min v (n:Int))=((sIx n d (some v):Nat):Int):=by
 show(if v<0 then max (v+(n:Int)) 0 else min v (n:Int))=(((if v<0 then(v+(n:Int)).toNat else min v.toNat n):Nat):Int)
 by_cases hv:v<0
 ·simp only[if_pos hv]; omega
 ·simp only[if_neg hv]; omega
theorem qfm(lo hi:Option Int)(n:Nat):Builtin.Slice.sliceAdjust lo hi 1 (n:Int)=(((sIx n 0 lo:Nat):Int),((sIx n n hi:Nat):Int)):=by
 have h1:¬ ((1:Int)<0):=by omega
 unfold Builtin.Slice.sliceAdjust
 simp only[h1,if_false]
 refine Prod.ext ?_ ?_
 ·cases lo with
  |none=>rfl
  |some v=>exact qh2 v n 0
 ·cases hi with
  |none=>rfl
  |some v=>exact qh2 v n n
theorem qeo(i j:Nat):Builtin.Slice.slicePlaces (i:Int) (j:Int) 1=j - i:=by
 unfold Builtin.Slice.slicePlaces
 have h1:(1:Int) > 0:=by omega
 simp only[h1,if_true,Int.ediv_one]
 split<;>omega
theorem qw7{v:Value}{o:Option Int}{Q:Option Int→Shared→Prop}(p:IsPart v o)(h:Q o s):wpAny (model prog w) A (Builtin.Slice.slicePartIndex v) Q E s:=by
 cases p with
 |none=>exact slicePart_none h
 |int i t=>exact slicePart_int h
theorem sliceApplied_gen{sl:Addr}{vl vu:Value}{lo hi:Option Int}{n:Nat}{Q:Int×Int×Nat→Shared→Prop}(hs:s.heap.IsSliceOf sl vl vu .none)(pl:IsPart vl lo)(pu:IsPart vu hi)
  (h:Q (((sIx n 0 lo:Nat):Int),1,sIx n n hi - sIx n 0 lo) s):wpAny (model prog w) A (Builtin.Slice.sliceApplied (.ref sl) (pure (n:Int))) Q E s:=by
 obtain⟨os,hos,hcs,hds⟩:=id hs
 unfold Builtin.Slice.sliceApplied Builtin.Slice.sliceFields
 refine wpAny_bind (wpAny_bind (wpAny_field hos hds (x:=vl) rfl (wpAny_bind (wpAny_field hos hds (x:=vu) rfl (wpAny_bind (wpAny_field hos hds (x:=.none) rfl (wpAny_pure ?_)))))))
 refine wpAny_bind (slicePart_none ?_)
 show wpAny _ _ (if ((1:Int)==0)=true then _ else _) _ _ s
 rw[if_neg (by decide)]
 refine wpAny_bind (qw7 pl (wpAny_bind (qw7 pu (wpAny_bind (wpAny_pure ?_)))))
 show wpAny _ _ (match Builtin.Slice.sliceAdjust lo hi 1 (n:Int) with|(lo,hi)=>pure (lo,(1:Int),Builtin.Slice.slicePlaces lo hi 1)) _ _ s
 rw[qfm lo hi n]
 show wpAny _ _ (pure (((sIx n 0 lo:Nat):Int),(1:Int),Builtin.Slice.slicePlaces ((sIx n 0 lo:Nat):Int) ((sIx n n hi:Nat):Int) 1)) _ _ s
 rw[qeo]
 exact wpAny_pure h
theorem qi5(xs:Array Value)(i k:Nat):((List.range k).filterMap fun(m:Nat)=>xs[((i:Int)+(m:Int)*1).toNat]?).toArray=((xs.toList.drop i).take k).toArray:=by
 have e:(fun(m:Nat)=>xs[((i:Int)+(m:Int)*1).toNat]?)=fun m=>xs[i+m]?:=by
  funext m
  have:((i:Int)+(m:Int)*1).toNat=i+m:=by omega
  rw[this]
 rw[e]
 have:=pick_run xs i k
 rw[List.filterMap_map]at this
 have e2:((fun x=>xs[x]?)∘fun x=>i+x)=fun m=>xs[i+m]?:=rfl
 rw[e2]at this
 rw[this]
theorem getItem_tuple_cut{t sl:Addr}{items:Array Value}{vl vu:Value}{lo hi:Option Int}{Q:Value→Shared→Prop}(ht:IsTup s.heap t items)(hs:s.heap.IsSliceOf sl vl vu .none)(pl:IsPart vl lo)(pu:IsPart vu hi)
  (hw:¬ (sIx items.size 0 lo=0∧sIx items.size items.size hi=items.size))
  (h:Q (.ref s.heap.objs.size) { s with heap:=s.heap.push { cls:=.type "tuple",data:=.seq ((items.toList.drop (sIx items.size 0 lo)).take (sIx items.size items.size hi - sIx items.size 0 lo)).toArray } })
  (hsz:items.size≤sizeLine):wpAny (model prog w) A (getItem (.ref t) (.ref sl)) Q E s:=by
 have htake:sizeOk (.seq ((items.toList.drop (sIx items.size 0 lo)).take (sIx items.size items.size hi - sIx items.size 0 lo)).toArray):=by
  show((items.toList.drop (sIx items.size 0 lo)).take (sIx items.size items.size hi - sIx items.size 0 lo)).toArray.size≤sizeLine
  rw[Qqx,Qzn,Qx2,Qzy]
  omega
 have hj:sIx items.size items.size hi≤items.size:=sIx_le _ _ (Qqj _) hi
 obtain⟨os,hos,hcs,hds⟩:=id hs
 have hTs:s.TypeIs (.ref sl) "slice":=⟨os,hos,hcs⟩
 unfold getItem
 try with_reducible refine wpAny_holding ?_
 first|refine wpAny_bind (wpAny_pure ?_)|skip
 refine wpAny_bind (wpAny_sequenceKey ht.typeIs (by decide) ?_)
 refine wpAny_bind (wpAny_callSpecial?_slot (name:=Str.ofString "__getitem__") ht.typeIs PyProof.Rows.slot_tuple_getitem
  (wpAny_call_entry PyProof.Rows.slot_tuple_getitem ht.typeIs entry_tuple_getitem ?_ (args_tuple_getitem _ _)))
 show wpAny _ _ (Builtin.Tuple.tupleItemsOf (.ref t) >>= _) _ _ s
 refine wpAny_bind (tupleItemsOf_ ht ?_)
 refine wpAny_bind (wpAny_typeOf hTs ?_)
 rw[if_pos (by decide)]
 refine wpAny_bind (sliceApplied_gen hs pl pu ?_)
 have hno:¬ ((((sIx items.size 0 lo:Nat):Int)==0&&(1:Int)==1&&(sIx items.size items.size hi - sIx items.size 0 lo)==items.size)=true):=by
  intro q
  rw[Qqy,Qqy]at q
  have q1:((sIx items.size 0 lo:Nat):Int)=0:=eq_of_beq q.1.1
  have q2:sIx items.size items.size hi - sIx items.size 0 lo=items.size:=eq_of_beq q.2
  exact hw ⟨by omega,by omega⟩
 show wpAny _ _ (if (((sIx items.size 0 lo:Nat):Int)==0&&(1:Int)==1&&(sIx items.size items.size hi - sIx items.size 0 lo)==items.size)=true then _ else _) _ _ s
 rw[if_neg hno,qi5]
 first
  |exact wpAny_bind (m:=Builtin.Tuple.tupleExact _) (wpAny_newObj_type (wpAny_pure ⟨_,rfl,wpAny_pure h⟩) htake)
  |exact wpAny_bind (m:=Builtin.Tuple.tupleExact _) (wpAny_newObj_type (wpAny_bind (wpAny_pure (wpAny_pure ⟨_,rfl,wpAny_pure h⟩))) htake)
  |exact wpAny_bind (wpAny_bind (m:=Builtin.Tuple.tupleExact _) (wpAny_newObj_type (wpAny_pure (wpAny_pure ⟨_,rfl,wpAny_pure h⟩)) htake))
  |exact wpAny_bind (wpAny_bind (m:=Builtin.Tuple.tupleExact _) (wpAny_newObj_type (wpAny_pure ⟨_,rfl,wpAny_pure h⟩) htake))
end
end HT
namespace L2
open PySem PySem.Spec PyProof.Rows
abbrev TO:=St→Hp→(Option Int→Hp→Prop)→Prop
def PO(X:Cx)(e:Option Expr)(t:TO):Prop:=
 ∀ (pins:List (Addr×Obj)) (s:Shared) (σ:St) (H:Hp) (Q:Option Int→Hp→Prop),Inv X pins σ H s→t σ H Q→
  wpAny (model X.prog X.w) X.A (evalPart e X.env) (fun u s'=>∃ o H',Inv X pins σ H' s'∧IsPart u o∧Q o H') X.xe s
noncomputable def qm9:TO:=fun _ H Q=>Q none H
noncomputable def tPart(t:TE):TO:=fun σ H Q=>t σ H fun x H1=>∃ i,x=.int i∧Q (some i) H1
theorem intsAre_of{ns:List Int}:∀ {us:List Value},Vals (ns.map V.int) us→IntsAre us ns:=by
 induction ns with
 |nil=>intro us r; rw[Qxh]at r; cases r; exact .nil
 |cons n ns ih=>
  intro us r
  rw[Qq3]at r
  cases r with
  |cons r1 r2=>
   obtain⟨t,e⟩:=r1
   subst e
   exact .cons n t (ih r2)
section
variable {X:Cx}{e:Expr}{te:TE}{lo hi:Option Expr}{tl th:TO}{pos p2:Pos}
theorem qno:PO X none qm9:=by
 intro pins s σ H Q I h
 rw[evalPart_none]
 exact wpAny_pure ⟨none,H,I,.none,h⟩
theorem qnn(h:PE X e te):PO X (some e) (tPart te):=by
 intro pins s σ H Q I hw
 rw[evalPart_some]
 refine thn (h pins s σ H _ I hw) fun u s1 ⟨x,H1,I1,r1,q1⟩=>?_
 obtain⟨i,rfl,q⟩:=q1
 obtain⟨t,rfl⟩:=r1
 exact⟨some i,H1,I1,.int i t,q⟩
def SlR(X:Cx)(r:V→Option Int→Option Int→Hp→VK→Prop):Prop:=
 ∀ (pins:List (Addr×Obj)) (s:Shared) (σ:St) (H:Hp) (x:V) (v vl vu:Value) (lo hi:Option Int) (sl:Addr) (Q:VK),Inv X pins σ H s→RelV x v→s.heap.IsSliceOf sl vl vu .none→IsPart vl lo→IsPart vu hi→r x lo hi H Q→
  ∃ T id,typeLookup (.type T) "__getitem__" = pure (some (.builtin id))∧s.TypeIs v T∧wpAny (model X.prog X.w) X.A (getItem v (.ref sl)) (EP X pins σ Q) X.xe s
theorem SlR.or{r r':V→Option Int→Option Int→Hp→VK→Prop}(h:SlR X r)(h':SlR X r'):SlR X (fun x lo hi H Q=>r x lo hi H Q∨r' x lo hi H Q):=by
 intro pins s σ H x v vl vu lo hi sl Q I rx hs pl pu q
 rcases q with q|q
 ·exact h pins s σ H x v vl vu lo hi sl Q I rx hs pl pu q
 ·exact h' pins s σ H x v vl vu lo hi sl Q I rx hs pl pu q
noncomputable def tSl(r:V→Option Int→Option Int→Hp→VK→Prop)(te:TE)(tl th:TO):TE:=fun σ H Q=>te σ H fun x H1=>tl σ H1 fun l H2=>th σ H2 fun u H3=>r x l u H3 Q
theorem qi7{r:V→Option Int→Option Int→Hp→VK→Prop}(hr:SlR X r)(he:PE X e te)(hl:PO X lo tl)(hu:PO X hi th):PE X (.Subscript e (.Slice lo hi none p2) pos) (tSl r te tl th):=by
 intro pins s σ H Q I h
 refine Subscript_ (thn (he pins s σ H _ I h) fun v s1 ⟨x,H1,I1,r1,q1⟩=>?_)
 refine wpAny_Slice (thn (hl pins s1 σ H1 _ I1 q1) fun vl s2 ⟨l,H2,I2,pl,q2⟩=>thn (hu pins s2 σ H2 _ I2 q2) fun vu s3 ⟨u,H3,I3,pu,q3⟩=>?_)
 rw[evalPart_none]
 refine wpAny_pure ?_
 have I4:Inv X pins σ H3 { s3 with heap:=s3.heap.push { cls:=.type "slice",data:=.fields #[vl,vu,.none] } }:=I3.kept (t':=s3.toks) fun b ob q=>Qqz _ q
 obtain⟨T,id,hT,ht,hg⟩:=hr pins { s3 with heap:=s3.heap.push { cls:=.type "slice",data:=.fields #[vl,vu,.none] } } σ H3 x v vl vu l u s3.heap.objs.size Q I4 r1 (Heap.IsSliceOf.new ..) pl pu q3
 show wpAny (model X.prog X.w) X.A (subscriptTail e (.Slice lo hi none p2) v (.ref s3.heap.objs.size)) (EP X pins σ Q) X.xe { s3 with heap:=s3.heap.push { cls:=.type "slice",data:=.fields #[vl,vu,.none] } }
 exact tail_any (ops:=[.ref s3.heap.objs.size,v]) ht hT hg (by with_unfolding_all rfl)
noncomputable def cutV(xs:List V)(lo hi:Option Int):List V:=(xs.drop (HT.sIx xs.length 0 lo)).take (HT.sIx xs.length xs.length hi - HT.sIx xs.length 0 lo)
theorem qv2(xs:List V)(lo hi:Option Int):(cutV xs lo hi).length≤xs.length:=by
 unfold cutV
 rw[Qzn,Qx2]
 omega
def rSlT(K:Qqq):V→Option Int→Option Int→Hp→VK→Prop:=fun x lo hi H Q=>∃ a xs,x=.ref a∧SqT K H a xs∧
 ¬ (HT.sIx xs.length 0 lo=0∧HT.sIx xs.length xs.length hi=xs.length)∧∀ p,H p=none→Q (.ref p) (upd H p (.tup (cutV xs lo hi)))
theorem sl_tup:SlR X (rSlT X.K):=by
 intro pins s σ H x v vl vu lo hi sl Q I rx hs pl pu h
 obtain⟨a,xs,rfl,hx,hw,q⟩:=h
 cases rx
 obtain⟨its,r,ht,hz⟩:=I.tuple hx
 have hlen:its.toArray.size=xs.length:=by rw[Qqx]; exact r.length.symm
 refine⟨"tuple",_,PyProof.Rows.slot_tuple_getitem.lookup,ht.typeIs,?_⟩
 refine HT.getItem_tuple_cut ht hs pl pu (by rw[hlen]; exact hw) ?_ (by rw[hlen]; exact hz)
 rw[hlen]
 refine⟨.ref s.heap.objs.size,_,I.laid (t':=s.toks) (o:=.tup (cutV xs lo hi)) (fun b ob q=>Qqz _ q) (Qqj _) ?_,rfl,q _ (I.hok.fresh (Qqj _))⟩
 exact⟨Qzx (qv2 xs lo hi) hz,_,(r.drop (HT.sIx xs.length 0 lo)).take (HT.sIx xs.length xs.length hi - HT.sIx xs.length 0 lo),IsTup.new _ _⟩
noncomputable def rCatT(K:Qqq):R2:=fun x y H Q=>∃ a b xs ys,x=.ref a∧y=.ref b∧SqT K H a xs∧SqT K H b ys∧xs≠[]∧xs.length+ys.length≤sizeLine∧
 (ys=[]→Q (.ref a) H)∧(ys≠[]→∀ p,H p=none→Q (.ref p) (upd H p (.tup (xs++ys))))
theorem Vals.nil_iff{xs:List V}{us:List Value}(r:Vals xs us):us=[]↔xs=[]:=by
 cases r with
 |nil=>simp
 |cons _ _=>simp
theorem qn9:OpR X (binaryOp .Add) (rCatT X.K):=by
 intro pins s σ H x y v u Q I rx ry h
 obtain⟨a,b,xs,ys,rfl,rfl,ha,hb,hx,hz,q1,q2⟩:=h
 cases rx
 cases ry
 obtain⟨its,r1,p1,_⟩:=I.tuple ha
 obtain⟨its2,r2,p2,_⟩:=I.tuple hb
 refine HT.cat_tup p1 p2 (fun z=>hx (r1.nil_iff.mp z)) (fun z=>⟨.ref a,H,I,rfl,q1 (r2.nil_iff.mp z)⟩) (fun z=>?_) (by rw[← r1.length,← r2.length]; exact hz)
 refine⟨.ref s.heap.objs.size,_,I.laid (t':=s.toks) (o:=.tup (xs++ys)) (fun b ob q=>Qqz _ q) (Qqj _) ?_,rfl,q2 (fun w=>z (r2.nil_iff.mpr w)) _ (I.hok.fresh (Qqj _))⟩
 exact⟨by rw[Qq0]; exact hz,_,r1.append r2,IsTup.new _ _⟩
end
end L2
namespace L2
open PySem PySem.Spec PyProof.Rows
noncomputable def ixN(n:Nat)(i:Int):Option Nat:=if 0≤i then(if i<n then some i.toNat else none) else if -(n:Int)≤i then some (i+n).toNat else none
noncomputable def atI{α:Type}(xs:List α)(i:Int):Option α:=(ixN xs.length i).bind fun j=>xs[j]?
theorem qhq{n:Nat}{i:Int}{j:Nat}(h:ixN n i=some j):seqIndex? i n=some j∧j<n∧-(n:Int)≤i∧i<n:=by
 unfold ixN at h
 by_cases h0:0≤i
 ·rw[if_pos h0]at h
  by_cases h1:i<n
  ·rw[if_pos h1]at h
   have e:i.toNat=j:=Option.some.inj h
   exact⟨by rw[seqIndex_of h0 h1,e],by omega,by omega,h1⟩
  ·rw[if_neg h1]at h; cases h
 ·rw[if_neg h0]at h
  by_cases h1:-(n:Int)≤i
  ·rw[if_pos h1]at h
   have e:(i+n).toNat=j:=Option.some.inj h
   exact⟨by rw[seqIndex_neg (by omega) h1,e],by omega,h1,by omega⟩
  ·rw[if_neg h1]at h; cases h
theorem qc2{α:Type}{xs:List α}{i:Int}{v:α}(h:atI xs i=some v):∃ j,seqIndex? i xs.length=some j∧xs[j]?=some v∧j<xs.length∧-(xs.length:Int)≤i∧i<xs.length:=by
 unfold atI at h
 cases e:ixN xs.length i with
 |none=>rw[e]at h; cases h
 |some j=>
  rw[e]at h
  obtain⟨h1,h2,h3,h4⟩:=qhq e
  exact⟨j,h1,h,h2,h3,h4⟩
def qc3(b:Expr):Prop:=∀ o i,subscripted b false o i=operate [o,i] (getItem o i)
def IxR(X:Cx)(r:R2):Prop:=
 ∀ (value slice:Expr) (pins:List (Addr×Obj)) (s:Shared) (σ:St) (H:Hp) (x y:V) (v u:Value) (Q:VK),Inv X pins σ H s→RelV x v→RelV y u→r x y H Q→
  subscripted slice false v u=operate [v,u] (getItem v u)→wpAny (model X.prog X.w) X.A (subscriptTail value slice v u) (EP X pins σ Q) X.xe s
def MtR(X:Cx)(id:String)(r:V→List V→Hp→VK→Prop):Prop:=
 ∀ (pins:List (Addr×Obj)) (s:Shared) (σ:St) (H:Hp) (x:V) (xs:List V) (v:Value) (us:List Value) (Q:VK),Inv X pins σ H s→RelV x v→Vals xs us→r x xs H Q→
  wpAny (model X.prog X.w) X.A (call (.builtin id) (v::us)) (EP X pins σ Q) X.xe s
section
variable {X:Cx}{a b:Expr}{ta tb:TE}{pos:Pos}
theorem IxR.or{r r':R2}(h:IxR X r)(h':IxR X r'):IxR X (fun x y H Q=>r x y H Q∨r' x y H Q):=by
 intro value slice pins s σ H x y v u Q I rx ry q hs
 rcases q with q|q
 ·exact h value slice pins s σ H x y v u Q I rx ry q hs
 ·exact h' value slice pins s σ H x y v u Q I rx ry q hs
theorem MtR.or{id:String}{r r':V→List V→Hp→VK→Prop}(h:MtR X id r)(h':MtR X id r'):MtR X id (fun x xs H Q=>r x xs H Q∨r' x xs H Q):=by
 intro pins s σ H x xs v us Q I rx rs q
 rcases q with q|q
 ·exact h pins s σ H x xs v us Q I rx rs q
 ·exact h' pins s σ H x xs v us Q I rx rs q
theorem pe_ix{r:R2}(hr:IxR X r)(ha:PE X a ta)(hb:PE X b tb)(hs:qc3 b):PE X (.Subscript a b pos) (tOp r ta tb):=by
 intro pins s σ H Q I h
 exact Subscript_ (binT ha hb I h fun v u s2 x y H2 I2 rx ry q=>hr a b pins s2 σ H2 x y v u Q I2 rx ry q (hs _ _))
noncomputable def rIxL(K:Qqq):R2:=fun x y H Q=>∃ p xs i v,x=.ref p∧y=.int i∧SqL K H p xs∧atI xs i=some v∧Q v H
noncomputable def rIxT(K:Qqq):R2:=fun x y H Q=>∃ p xs i v,x=.ref p∧y=.int i∧SqT K H p xs∧atI xs i=some v∧Q v H
noncomputable def rIxS:R2:=fun x y H Q=>∃ z i c,x=.str z∧y=.int i∧z.length≤sizeLine∧atI z.cps.toList i=some c∧Q (.str ⟨#[c]⟩) H
theorem qoo:IxR X (rIxL X.K):=by
 intro value slice pins s σ H x y v u Q I rx ry h hs
 obtain⟨p,xs,i,z,rfl,rfl,hq,he,q⟩:=h
 cases rx
 obtain⟨t,rfl⟩:=ry
 obtain⟨its,r,pl,hz⟩:=I.list hq
 obtain⟨j,h1,h2,h3,h4,h5⟩:=qc2 he
 obtain⟨w,ew,rw'⟩:=r.get h2
 have hl:=r.length
 have hn:=qve
 have fin:EP X pins σ Q w s:=⟨z,H,I,rw',q⟩
 by_cases h0:0≤i
 ·have hj:i.toNat=j:=by
   rw[seqIndex_of h0 h5]at h1
   exact Option.some.inj h1
  exact item_listR pl.isList h0 (by omega) (by rw[hj]; simpa using ew) fin hs
 ·have hj:(i+(its.toArray.size:Int)).toNat=j:=by
   rw[seqIndex_neg (by omega) h4]at h1
   rw[Qqx,← hl]
   exact Option.some.inj h1
  exact subscriptTail_builtinR (x:=w) pl.isList.typeIs slot_list_getitem.lookup
   (wpAny_getItem_list_neg (Q:=fun r s'=>r=w∧EP X pins σ Q r s') pl.isList (by omega) (by rw[Qqx]<;>omega) (by omega) (by rw[hj]; simpa using ew) ⟨rfl,fin⟩) hs
theorem ix_tup:IxR X (rIxT X.K):=by
 intro value slice pins s σ H x y v u Q I rx ry h hs
 obtain⟨p,xs,i,z,rfl,rfl,hq,he,q⟩:=h
 cases rx
 obtain⟨t,rfl⟩:=ry
 obtain⟨its,r,pl,hz⟩:=I.tuple hq
 obtain⟨j,h1,h2,h3,h4,h5⟩:=qc2 he
 obtain⟨w,ew,rw'⟩:=r.get h2
 have hl:=r.length
 have hn:=qve
 have fin:EP X pins σ Q w s:=⟨z,H,I,rw',q⟩
 exact subscriptTail_builtinR (x:=w) pl.typeIs slot_tuple_getitem.lookup
  (getItem_tuple (j:=j) (Q:=fun r s'=>r=w∧EP X pins σ Q r s') pl (by omega) (by omega) (by rw[Qqx,← hl]; exact h1) (by simpa using ew) ⟨rfl,fin⟩) hs
theorem ix_str:IxR X rIxS:=by
 intro value slice pins s σ H x y v u Q I rx ry h hs
 obtain⟨z,i,c,rfl,rfl,hz,he,q⟩:=h
 obtain⟨t,rfl⟩:=rx
 obtain⟨t',rfl⟩:=ry
 obtain⟨j,h1,h2,h3,h4,h5⟩:=qc2 he
 have hl:z.cps.toList.length=z.length:=by simp[Str.length]
 rw[hl]at h1 h4 h5
 have hn:=qve
 exact tail_any (typeIs_str s z t) slot_str_getitem.lookup (getItem_str (c:=c) (by
  have e1:decide (i < -(2 ^ 63:Int))=false:=decide_eq_false (by omega)
  have e2:decide (i ≥ 2 ^ 63)=false:=decide_eq_false (by omega)
  rw[e1,e2,Qzt]) (by rw[h1]; simpa using h2) ⟨.str ⟨#[c]⟩,H,I.tok _,⟨_,rfl⟩,q⟩) hs
theorem qet(its:List Value)(n j:Nat)(u:Value):Obj.mapSeq (·.setIfInBounds j u) { cls:=.type "list",data:=.seq its.toArray n }={ cls:=.type "list",data:=.seq (its.set j u).toArray n }:=by
 simp[Obj.mapSeq]
theorem Inv.lst{pins:List (Addr×Obj)}{σ:St}{H:Hp}{s:Shared}{p:Addr}{xs:List V}(I:Inv X pins σ H s)(h:H p=some (.lst xs)):
  ∃ (its:List Value) (n:Nat),Vals xs its∧s.heap.get? p=some { cls:=.type "list",data:=.seq its.toArray n }∧xs.length≤sizeLine:=by
 obtain⟨z,its,n,r,e⟩:=I.hok p _ h
 exact⟨its,n,r,e,z⟩
theorem Inv.lstUpd{pins:List (Addr×Obj)}{σ:St}{H:Hp}{s:Shared}{p:Addr}{xs ys:List V}{its its':List Value}{n n':Nat}{f:Obj→Obj}(I:Inv X pins σ H s)(h:H p=some (.lst xs))
  (ho:s.heap.get? p=some { cls:=.type "list",data:=.seq its.toArray n }) (hf:f { cls:=.type "list",data:=.seq its.toArray n }={ cls:=.type "list",data:=.seq its'.toArray n' }) (r:Vals ys its') (hz:ys.length≤sizeLine) (t:Nat) :
  Inv X pins σ (upd H p (.lst ys)) { s with heap:=s.heap.update p f,toks:=t }:=by
 have e:(s.heap.update p f).get? p=some { cls:=.type "list",data:=.seq its'.toArray n' }:=by
  rw[Qz4 f ho (by rw[hf]<;>rfl),hf]
 refine I.write (x:=p) (e:=p) (by rw[h]; trivial) (.inl rfl) (fun b u hb q=>(Qz3 _ _ (Ne.symm hb)).trans q) ⟨_,e⟩ ?_
 exact⟨hz,its',n',r,e⟩
def rSetL:V→V→V→Hp→(Hp→Prop)→Prop:=fun o i v H Q=>∃ p xs k j,o=.ref p∧i=.int k∧H p=some (.lst xs)∧ixN xs.length k=some j∧Q (upd H p (.lst (xs.set j v)))
theorem set_list:PSet X rSetL:=by
 intro pins s σ H o i v ov iv u Q I ro ri rv h
 obtain⟨p,xs,k,j,rfl,rfl,hp,hj,q⟩:=h
 cases ro
 obtain⟨t,rfl⟩:=ri
 obtain⟨its,n,r,ho,hz⟩:=I.lst hp
 obtain⟨h1,h2,h3,h4⟩:=qhq hj
 have hl:=r.length
 have hn:=qve
 have I':Inv X pins σ (upd H p (.lst (xs.set j v))) { s with heap:=s.heap.update p (Obj.mapSeq (·.setIfInBounds j u)) }:=
  I.lstUpd hp ho (qet its n j u) (r.set rv j) (by rw[Qxz]; exact hz) s.toks
 by_cases h0:0≤k
 ·have hk:k.toNat=j:=by
   rw[seqIndex_of h0 h4]at h1
   exact Option.some.inj h1
  exact PySem.W.ki_setAt ho h0 (by omega) (by rw[Qqx,← hl]; exact h4) (by rw[hk]; exact⟨_,I',q⟩)
 ·have hk:(k+(its.toArray.size:Int)).toNat=j:=by
   rw[seqIndex_neg (by omega) h3]at h1
   rw[Qqx,← hl]
   exact Option.some.inj h1
  exact PySem.W.ki_setBack ho (by omega) (by rw[Qqx,← hl]; exact h3) (by omega) (by rw[hk]; exact⟨_,I',q⟩)
theorem qan(lo hi:Option Int)(n:Nat):(sliceBounds lo hi none n).1=((HT.sIx n 0 lo:Nat):Int)∧(sliceBounds lo hi none n).2.1=((HT.sIx n n hi:Nat):Int)∧(sliceBounds lo hi none n).2.2=1:=by
 refine⟨?_,?_,rfl⟩
 ·cases lo with
  |none=>simp[sliceBounds,HT.sIx]
  |some i=>
   simp only[sliceBounds,HT.sIx,Option.getD_none,show(1:Int) > 0 by decide,if_true]
   by_cases h:i<0
   ·simp only[h,if_true]<;>omega
   ·simp only[h,if_false]<;>omega
 ·cases hi with
  |none=>simp[sliceBounds,HT.sIx]
  |some i=>
   simp only[sliceBounds,HT.sIx,Option.getD_none,show(1:Int) > 0 by decide,if_true]
   by_cases h:i<0
   ·simp only[h,if_true]<;>omega
   ·simp only[h,if_false]<;>omega
theorem qyo(its:List Value)(lo hi:Option Int):slicePick its.toArray lo hi none=((its.drop (HT.sIx its.length 0 lo)).take (HT.sIx its.length its.length hi - HT.sIx its.length 0 lo)).toArray:=by
 obtain⟨h1,h2,h3⟩:=qan lo hi its.toArray.size
 unfold slicePick
 rw[h1,h2,h3]
 simp only[sliceRange_one,pick_run,Qqx]<;>rfl
def rSlL(K:Qqq):V→Option Int→Option Int→Hp→VK→Prop:=fun x lo hi H Q=>∃ a xs,x=.ref a∧SqL K H a xs∧∀ p,H p=none→Q (.ref p) (upd H p (.lst (cutV xs lo hi)))
theorem qny:SlR X (rSlL X.K):=by
 intro pins s σ H x v vl vu lo hi sl Q I rx hs pl pu h
 obtain⟨a,xs,rfl,hx,q⟩:=h
 cases rx
 obtain⟨its,r,ht,hz⟩:=I.list hx
 have hlen:=r.length
 refine⟨"list",_,slot_list_getitem.lookup,ht.isList.typeIs,?_⟩
 refine wpAny_getItem_list_slice ht.isList hs pl pu .none (by simp) ?_ (by rw[Qqx]<;>omega)
 rw[qyo,← hlen]
 refine⟨.ref s.heap.objs.size,_,I.laid (t':=s.toks) (o:=.lst (cutV xs lo hi)) (fun b ob q=>Qqz _ q) (Qqj _) ?_,rfl,q _ (I.hok.fresh (Qqj _))⟩
 exact⟨Qzx (qv2 xs lo hi) hz,_,0,(r.drop (HT.sIx xs.length 0 lo)).take (HT.sIx xs.length xs.length hi - HT.sIx xs.length 0 lo),Qqw _ rfl⟩
theorem qka:CallR X (.builtin "len") (fun xs H Q=>∃ p ys,xs=[.ref p]∧(SqL X.K H p ys∨SqT X.K H p ys)∧Q (.int ys.length) H):=by
 intro pins s σ H xs us Q I r h
 obtain⟨p,ys,rfl,hq,q⟩:=h
 obtain⟨u,rfl,rx⟩:=vals1 r
 cases rx
 have hn:=qve
 rcases hq with hq|hq
 ·obtain⟨its,r',pl,hz⟩:=I.list hq
  have hlen:=r'.length
  exact Calls.call_len_list pl.isList (by simp only[Qqx]<;>omega) ⟨.int ys.length,H,I.tok _,⟨s.toks+1,by rw[Qqx,hlen]⟩,q⟩
 ·obtain⟨its,r',pl,hz⟩:=I.tuple hq
  have hlen:=r'.length
  exact len_tuple pl (by simp only[Qqx]<;>omega) ⟨.int ys.length,H,I.tok _,⟨s.toks+1,by rw[Qqx,hlen]⟩,q⟩
theorem qbs:CallR X (.builtin "len") (fun xs H Q=>∃ z,xs=[.str z]∧z.length≤sizeLine∧Q (.int z.length) H):=by
 intro pins s σ H xs us Q I r h
 obtain⟨z,rfl,hz,q⟩:=h
 obtain⟨u,rfl,t,rfl⟩:=vals1 r
 have hn:=qve
 exact len_str (by omega) ⟨.int z.length,H,I.tok _,⟨_,rfl⟩,q⟩
theorem CallR.or{f:Value}{r r':List V→Hp→VK→Prop}(h:CallR X f r)(h':CallR X f r'):CallR X f (fun xs H Q=>r xs H Q∨r' xs H Q):=by
 intro pins s σ H xs us Q I rs q
 rcases q with q|q
 ·exact h pins s σ H xs us Q I rs q
 ·exact h' pins s σ H xs us Q I rs q
theorem qky:CallR X (.type "list") (fun xs H Q=>∃ p ys,xs=[.ref p]∧(SqL X.K H p ys∨SqT X.K H p ys)∧∀ l,H l=none→Q (.ref l) (upd H l (.lst ys))):=by
 intro pins s σ H xs us Q I r h
 obtain⟨p,ys,rfl,hq,q⟩:=h
 obtain⟨u,rfl,rx⟩:=vals1 r
 cases rx
 have fin:∀ (its:List Value),Vals ys its→ys.length≤sizeLine→∀ (h':Heap) (c':Nat),(∀ b o',s.heap.get? b=some o'→h'.get? b=some o')→
   h'.get? s.heap.objs.size=some { cls:=.type "list",dict:=none,data:=.seq its.toArray c',slots:=#[] }→EP X pins σ Q (.ref s.heap.objs.size) { s with heap:=h' }:=fun its r' hz h' c' kp e=>
  ⟨.ref s.heap.objs.size,_,I.laid (t':=s.toks) kp (Qqj _) (show ObjOk X.prog X.w _ h' _ (.lst ys) from⟨hz,its,c',r',e⟩),rfl,q _ (I.hok.fresh (Qqj _))⟩
 rcases hq with hq|hq
 ·obtain⟨its,r',pl,hz⟩:=I.list hq
  have hlen:=r'.length
  obtain⟨o,ho,hc,n,hd⟩:=pl.isList
  exact call_list_seq p (.inl rfl) ho hc hd (fun h' c' kp e=>fin its r' hz h' c' kp e) (by simp only[Qqx]<;>omega)
 ·obtain⟨its,r',pl,hz⟩:=I.tuple hq
  have hlen:=r'.length
  obtain⟨o,ho,hc,n,hd⟩:=pl
  exact call_list_seq p (.inr rfl) ho hc hd (fun h' c' kp e=>fin its r' hz h' c' kp e) (by simp only[Qqx]<;>omega)
theorem qjh:CallR X (.type "tuple") (fun xs H Q=>∃ p ys,xs=[.ref p]∧((SqL X.K H p ys∧∀ l,H l=none→Q (.ref l) (upd H l (.tup ys)))∨(SqT X.K H p ys∧Q (.ref p) H))):=by
 intro pins s σ H xs us Q I r h
 obtain⟨p,ys,rfl,h⟩:=h
 obtain⟨u,rfl,rx⟩:=vals1 r
 cases rx
 rcases h with⟨hq,q⟩|⟨hq,q⟩
 ·obtain⟨its,r',pl,hz⟩:=I.list hq
  have hlen:=r'.length
  refine call_tuple_list pl.isList (fun h' kp=>?_) (by simp only[Qqx]<;>omega)
  have I1:Inv X pins σ H { s with heap:=h' }:=I.kept (t':=s.toks) kp
  have I2:Inv X pins σ (upd H h'.objs.size (.tup ys)) { s with heap:=h'.push { cls:=.type "tuple",data:=.seq its.toArray } }:=
   I1.laid (t':=s.toks) (fun b o e=>Qqz _ e) (Qqj _) (show ObjOk X.prog X.w _ _ _ (.tup ys) from⟨hz,its,r',IsTup.new _ _⟩)
  exact⟨.ref h'.objs.size,_,I2,rfl,q _ (I1.hok.fresh (Qqj _))⟩
 ·obtain⟨its,r',pl,hz⟩:=I.tuple hq
  exact call_tuple_same pl ⟨.ref p,H,I,rfl,q⟩
def tyV(K:Qqq)(T:String)(x:V)(H:Hp):Prop:=match x with
 |.str _=>T = "str"
 |.int _=>T = "int"
 |.ref p=>(T = "list"∧∃ xs,SqL K H p xs)∨(T = "tuple"∧∃ o,K.lookup p=some o∧o.cls=.type "tuple"∧o.dict=none)∨
   (T = "dict"∧((∃ kvs,H p=some (.dK kvs))∨∃ kvs,H p=some (.dT kvs)))∨(T = "set"∧∃ S n,H p=some (.set S n))
 |_=>False
theorem tyV_is{pins:List (Addr×Obj)}{σ:St}{H:Hp}{s:Shared}{T:String}{x:V}{v:Value}(I:Inv X pins σ H s)(r:RelV x v)(ty:tyV X.K T x H):
  s.TypeIs v T∧∀ a,v=.ref a→∃ ob,s.heap.get? a=some ob∧ob.dict=none:=by
 cases x with
 |str z=>
  obtain⟨t,rfl⟩:=r
  cases (show T = "str" from ty)
  exact⟨typeIs_str s z t,fun _ e=>nomatch e⟩
 |int i=>
  obtain⟨t,rfl⟩:=r
  cases (show T = "int" from ty)
  exact⟨typeIs_int s i t,fun _ e=>nomatch e⟩
 |ref p=>
  cases r
  rcases ty with⟨rfl,xs,hq⟩|⟨rfl,o,hk,hc,hd⟩|⟨rfl,hk⟩|⟨rfl,S,n,hk⟩
  ·obtain⟨its,_,pl,_⟩:=I.list hq
   refine⟨pl.isList.typeIs,fun a e=>?_⟩
   cases e
   obtain⟨o,n,e,c,hd,_⟩:=pl
   exact⟨o,e,hd⟩
  ·refine⟨⟨o,I.kIn p o hk,hc⟩,fun a e=>?_⟩
   cases e
   exact⟨o,I.kIn _ o hk,hd⟩
  ·have z:∃ o,s.heap.get? p=some o∧o.ExactDict:=by
    rcases hk with⟨kvs,hk⟩|⟨kvs,hk⟩
    ·obtain⟨_,_,_,_,o,_,_,e,ex,_⟩:=I.hok p _ hk
     exact⟨o,e,ex⟩
    ·obtain⟨_,_,_,_,o,_,_,e,ex,_⟩:=I.hok p _ hk
     exact⟨o,e,ex⟩
   obtain⟨o,e,ex⟩:=z
   refine⟨⟨o,e,ex.1⟩,fun a e2=>?_⟩
   cases e2
   exact⟨o,e,ex.2.1⟩
  ·obtain⟨o,_,_,_,e,ex,_⟩:=I.hok p _ hk
   refine⟨⟨o,e,ex.1⟩,fun a e2=>?_⟩
   cases e2
   exact⟨o,e,ex.2.1⟩
 |_=>exact False.elim ty
noncomputable def tBM(K:Qqq)(T:String)(r:V→List V→Hp→VK→Prop)(to:TE)(t:TA):TE:=fun σ H Q=>to σ H fun x H1=>tyV K T x H1∧t σ H1 fun xs H2=>r x xs H2 Q
variable {o e:Expr}{es:List Expr}{to:TE}{t:TA}{name:Str}{apos cpos:Pos}{T id:String}{r:V→List V→Hp→VK→Prop}
theorem pe_bm(pa:PlainAttrs T)(slot:Slot T name id)(hty:typeOf (.builtin id)=pure (.type "method_descriptor"))(hm:MtR X id r)(ho:PE X o to)(ha:PA X (e::es) t)
  (hbase:attributeBase o name X.env (eval o X.env)=eval o X.env:=by rfl)
  (hfew:((backTo cpos (starEach (e::es) X.env)).all (fun x=>!x.1)&&(backToKw cpos (keywordEach [] X.env)).all (fun x=>x.1.isSome)
   && decide ((e::es).length+([]:List Keyword).length+(if ([]:List Keyword).isEmpty then 0 else 1)<30))=true:=by rfl)
  (hline:(apos.endLine==cpos.line)=true:=by rfl) (hs:starEach (e::es) X.env=(false,eval e X.env)::starEach es X.env:=by rfl) (hplain:(backTo cpos (starEach es X.env)).any (·.1)=false:=by rfl) :
  PE X (.Call (.Attribute o name apos) (e::es) [] cpos) (tBM X.K T r to t):=by
 intro pins s σ H Q I h
 refine wpAny_Call_method_late hbase hfew hline rfl (thn (ho pins s σ H _ I h) fun v s1 ⟨x,H1,I1,r1,ty,q1⟩=>?_)
 obtain⟨h1,h2⟩:=tyV_is I1 r1 ty
 refine⟨T,id,pa,slot,hty,h1,h2,?_⟩
 have hA:=ha cpos pins s1 σ H1 _ I1 q1
 rw[hs]at hA ⊢
 refine Calls.callWith_builtin (by show(false||(backTo cpos (starEach es X.env)).any (·.1))=false; rw[hplain]<;>rfl) (Calls.evalArgs_plain ?_)
 exact thn hA fun us s2 ⟨vs,H2,I2,r2,q2⟩=>hm pins s2 σ H2 x vs v us Q I2 r1 r2 q2
end
end L2
namespace L2
open PySem PySem.Spec PyProof.Rows
def MtM(X:Cx)(id:String)(r:V→List V→Hp→VK→Prop):Prop:=
 ∀ (pins:List (Addr×Obj)) (s:Shared) (σ:St) (H:Hp) (x:V) (xs:List V) (v:Value) (us:List Value) (Q:VK),Inv X pins σ H s→RelV x v→Vals xs us→r x xs H Q→
  wpAny (model X.prog X.w) X.A (call (.builtin id) (v::us)) (EP X pins σ Q) X.xe s
theorem Vals.one:∀ {x:V}{us:List Value},Vals [x] us→∃ u,us=[u]∧RelV x u
 |_,_,.cons r .nil=>⟨_,rfl,r⟩
theorem Vals.two:∀ {x y:V}{us:List Value},Vals [x,y] us→∃ u v,us=[u,v]∧RelV x u∧RelV y v
 |_,_,_,.cons r (.cons q .nil)=>⟨_,_,rfl,r,q⟩
theorem Vals.zero:∀ {us:List Value},Vals [] us→us=[]
 |_,.nil=>rfl
theorem Vals.reverse{xs:List V}{us:List Value}(h:Vals xs us):Vals xs.reverse us.reverse:=by
 induction h with
 |nil=>exact .nil
 |cons r t ih=>rw[List.reverse_cons,List.reverse_cons]; exact Vals.append ih (.cons r .nil)
theorem Vals.rep{xs:List V}{us:List Value}(h:Vals xs us):∀ k:Nat,Vals (List.replicate k xs).flatten (List.replicate k us).flatten
 |0=>.nil
 |k+1=>by
  rw[Qq5,Qq5,Qzu,Qzu]
  exact Vals.append h (Vals.rep h k)
theorem foldl_rep(its:List Value):∀ (k:Nat) (acc:List Value),
  List.foldl (fun x1 x2=>x1++x2) acc.toArray (List.replicate k its.toArray)=(acc++(List.replicate k its).flatten).toArray
 |0,acc=>by simp
 |k+1,acc=>by
  have e:acc.toArray++its.toArray=(acc++its).toArray:=by simp
  have e2:(acc++its)++(List.replicate k its).flatten=acc++(List.replicate (k+1) its).flatten:=by
   rw[Qq5,Qzu,List.append_assoc]
  rw[← e2,← foldl_rep its k (acc++its),← e,Qq5,Qjz]
section
variable {X:Cx}{pins:List (Addr×Obj)}{σ:St}{H:Hp}{s:Shared}{l b:Addr}{xs ys zs:List V}
theorem Inv.lset{its its':List Value}{n:Nat}{f:Array Value→Array Value}{t':Nat}(I:Inv X pins σ H s)(hH:H l=some (.lst xs))
  (e:s.heap.get? l=some { cls:=.type "list",data:=.seq its.toArray n }) (hf:f its.toArray=its'.toArray) (hv:Vals ys its') (hz:ys.length≤sizeLine) :
  Inv X pins σ (upd H l (.lst ys)) { s with heap:=s.heap.update l (Obj.mapSeq f),toks:=t' }:=by
 have q:=PySem.IsL.update e f
 rw[hf]at q
 refine I.write (x:=l) (e:=l) (by rw[hH]; exact trivial) (.inl rfl) (fun b' u hb hu=>(Qz3 s.heap (Obj.mapSeq f) (Ne.symm hb)).trans hu) ⟨_,q⟩ ?_
 exact⟨hz,its',_,hv,q⟩
theorem Inv.lnew{its:List Value}{t':Nat}(I:Inv X pins σ H s)(hv:Vals ys its)(hz:ys.length≤sizeLine):
  Inv X pins σ (upd H s.heap.objs.size (.lst ys)) { s with heap:=s.heap.push { cls:=.type "list",data:=.seq its.toArray },toks:=t' }:=
 I.laid (fun _ _ q=>Qqz _ q) (Qqj _) ⟨hz,its,0,hv,Qqw _ rfl⟩
theorem Inv.fresh(I:Inv X pins σ H s):H s.heap.objs.size=none:=I.hok.fresh (Qqj _)
theorem Inv.lstM(I:Inv X pins σ H s)(hH:H l=some (.lst xs)):xs.length≤sizeLine∧∃ (its:List Value) (n:Nat),Vals xs its∧xs.length=its.length∧s.heap.get? l=some { cls:=.type "list",data:=.seq its.toArray n }:=by
 obtain⟨z,its,n,r,e⟩:=I.hok l _ hH
 exact⟨z,its,n,r,r.length,e⟩
theorem qy5{n:Nat}(h:n≤sizeLine):Builtin.List.listTooLong n=false:=by
 unfold Builtin.List.listTooLong
 exact decide_eq_false (by omega)
end
section
variable {X:Cx}
def qne:V→List V→Hp→VK→Prop:=fun x vs H Q=>∃ l xs y,x=.ref l∧vs=[y]∧H l=some (.lst xs)∧xs.length<sizeLine∧Q .non (upd H l (.lst (xs++[y])))
theorem qgs:MtM X "list.append" qne:=by
 intro pins s σ H x vs v us Q I rx rv h
 obtain⟨l,xs,y,rfl,rfl,hH,hz,q⟩:=h
 cases rx
 obtain⟨u,rfl,ru⟩:=rv.one
 obtain⟨z,its,n,r,hl,e⟩:=I.lstM hH
 refine call_meets F.slot_list_append ⟨_,e,rfl⟩ F.entry_list_append (F.args_list_append_2 _ _) (PySem.list_append l its.toArray n u (by rw[Qqx]; omega)) ⟨e,?_⟩
 refine⟨.non,_,I.lset (its':=its++[u]) hH e (by simp) (r.append (.cons ru .nil)) ?_,rfl,q⟩
 rw[Qq0,Qz5]
 omega
noncomputable def rRep:R2:=fun x y H Q=>∃ l k xs,x=.ref l∧y=.int k∧H l=some (.lst xs)∧-(2 ^ 63)≤k∧k<2 ^ 63∧xs.length*k.toNat≤sizeLine∧
 ∀ p,H p=none→Q (.ref p) (upd H p (.lst (List.replicate k.toNat xs).flatten))
theorem len_rep{α:Type}(xs:List α)(k:Nat):(List.replicate k xs).flatten.length=k*xs.length:=by
 induction k with
 |zero=>simp
 |succ k ih=>rw[Qq5,Qzu,Qq0,ih,Nat.succ_mul,Nat.add_comm]
theorem op_rep:OpR X (binaryOp .Mult) rRep:=by
 intro pins s σ H x y v u Q I rx ry h
 obtain⟨l,k,xs,rfl,rfl,hH,h1,h2,hz,q⟩:=h
 cases rx
 obtain⟨t,rfl⟩:=ry
 obtain⟨z,its,n,r,hl,e⟩:=I.lstM hH
 have hlen:its.toArray.size*k.toNat≤sizeLine:=by rw[Qqx,← hl]; exact hz
 have hcap:¬ its.toArray.size*k.toNat > (2 ^ 63 - 1) / 8:=by
  have:(sizeLine:Nat)≤(2 ^ 63 - 1) / 8:=by decide
  omega
 have hfit:¬ (!Builtin.List.listFitsIndex k)=true:=by
  rw[fitsIndex_both h1 h2]
  exact Qqi
 have hlong:¬ Builtin.List.listTooLong (its.toArray.size*k.toNat)=true:=by
  rw[qy5 hlen]
  exact Qqi
 have hnew:List.foldl (fun x1 x2=>x1++x2) #[] (List.replicate (if its.toArray.isEmpty=true then 0 else k.toNat) its.toArray)=(List.replicate k.toNat its).flatten.toArray:=by
  have f0:∀ m:Nat,List.foldl (fun x1 x2=>x1++x2) #[] (List.replicate m its.toArray)=(List.replicate m its).flatten.toArray:=fun m=>by
   have:=foldl_rep its m []
   rw[List.nil_append]at this
   exact this
  rw[f0]
  cases its with
  |nil=>simp
  |cons a r'=>rw[if_neg (by simp)]
 refine wpAny_binaryOp_repeat_ref (T:="list") (U:="int") (by decide) ⟨_,e,rfl⟩ (fun s'=>typeIs_int s' k t) noFill_list_mul F.fills_int_mul F.slot_int_rmul repeat_list F.slot_int_index.lookup
  (call_meets F.slot_int_rmul (typeIs_int s k t) F.entry_int_rmul (F.args_int_rmul_2 _ _) (int___rmul___int_list k t l its.toArray n)
   ⟨e,rfl,⟨_,e,rfl⟩,call_meets F.slot_list_mul ⟨_,e,rfl⟩ F.entry_list_mul (F.args_list_mul_2 _ _) (AutoListH.list___mul___list_int_3 l its.toArray n k t hfit hcap hlong) ⟨e,?_⟩⟩)
 rw[hnew]
 exact⟨.ref _,_,I.lnew (t':=s.toks) (r.rep k.toNat) (by rw[len_rep,Qx3]; exact hz),rfl,q _ I.fresh⟩
end
section
variable {prog:Program}{w:World}{A:Around}{E:Value→Shared→Prop}{s:Shared}
end
section
variable {X:Cx}
end
end L2
namespace Att
open PySem PySem.W PySem.Calls PyProof.Rows
theorem qvm{P:Params}{h:Heap}:∀ (ns:List Int) (vs:List Value),WellAll P h vs (ns.map WData.int)→IntsAre vs ns:=by
 intro ns
 induction ns with
 |nil=>
  intro vs w
  rw[Qxh]at w
  cases w
  exact .nil
 |cons n ns ih=>
  intro vs w
  rw[Qq3]at w
  cases w with
  |cons a b=>
   cases a
   exact .cons _ _ (ih _ b)
theorem qf8{l:OpenLaw}{n:Nat}(hn:l.most=some n){P:Params}{h:Heap}{args:List WData}{vals:List Value}
  (hpre:l.row.toRowW.claim.pre args=true) (hwl:WellAll P h vals args) :
  ∃ a vs ns,vals=[Value.ref a]∧args=[WData.list (ns.map WData.int)]∧h.get? a=some { cls:=.type "list",data:=.seq vs.toArray }∧IntsAre vs ns∧ns.length≤n:=by
 have hsh:WShape.hasAll [] args [.list .int]=true:=(pre_splitW hpre).1
 have hc:l.pre.holds [] { args:=args }=true:=(pre_splitW hpre).2
 obtain⟨d,r,rfl,h1,h2⟩:=hasAllW_cons hsh
 obtain rfl:=hasAllW_nil h2
 obtain⟨xs,rfl,h3⟩:=hasW_list h1
 obtain⟨ns,rfl⟩:=items_int h3
 have hlen:ns.length≤n:=by
  unfold OpenLaw.pre at hc
  have h4:(WTm.not (.lt (.lit (.int (n:Int))) (.len (.arg 0)))).holds [] { args:=[.list (ns.map .int)] }=true:=by
   have h4:=(holds_andW hc).1
   rw[hn]at h4
   exact h4
  have h5:=condW_of h4 (w_not (w_lt w_lit (w_len_list (w_arg rfl))))
  rw[Qqk]at h5
  refine Nat.le_of_not_lt fun q=>?_
  have q':(n:Int)<((ns.length:Nat):Int):=by omega
  first
   |(rw[decide_eq_true q']at h5; exact absurd h5 (by decide))
   |(simp at h5; omega)
 cases hwl with
 |cons w1 w2=>
  cases w2
  cases w1 with
  |list ho hall=>exact⟨_,_,ns,rfl,rfl,ho,qvm ns _ hall,hlen⟩
theorem qgy(l:OpenLaw)(args:List WData):l.row.toRowW.claim.post args (.bool true) args=true:=
 postW_of (r:=l.row.toRowW) (X:=(true==true))
  (show WShape.has [] (.bool true) .bool=true by first|rfl|decide|simp[WShape.has,WShape.arms,WShape.armsAll])
  (show(WTm.eq .res (.lit (.bool true))).value [] { args:=args,res:=some (.bool true),after:=args }=some (.bool (true==true)) from w_eq_bool (w_res rfl) w_lit) rfl
theorem attach_call{l:OpenLaw}{n:Nat}{q:Program}{loose:List Str}{XP:(Str→Option Value)→Heap→Prop}{YP:World→Heap→Prop}{d:DefRec}
  (hn:l.most=some n) (hdf:d.params.defaults=[])
  (call:∀ (w:World) (s₀ s₁:Shared) (mg mb:Str→Option Value) (fa:Addr) (o:Obj) (pm cd doc:Value) (a:Addr) (vs:List Value) (ns:List Int),
   Ground q loose [] XP w s₀ mg mb s₁.heap→YP w s₁.heap→
   s₁.heap.get? fa=some o→o.data=.func (docDef d.name d.params d.body d.scope pm cd doc)→s₁.heap.CodeRec cd d.name→mg d.name=some (.ref fa)→
   s₁.heap.get? a=some { cls:=.type "list",data:=.seq vs.toArray }→IntsAre vs ns→ns.length≤n→s₁.gens=#[]→
   codeAny (model l.prog w) callerA (.call (.ref fa) ⟨[.ref a],[]⟩) (fun r s'=>r=.ok (.ret (.bool true))∧OldK s₁.heap s'.heap∧s'.os=s₁.os∧AllBare s'.gens) s₁) :
  WalkO q loose XP YP l.row.toRowW d [] (fun f vs=>PySem.call f vs):=by
 intro w s₀ s₁ mg mb G Y fa o pm cd doc dV kV ho hd hcd hD hmg hg args vals as hpre hlay hrd hwl hlo
 obtain rfl:dV=.none:=Dflts.none hD hdf
 obtain rfl:kV=.none:=Dflts.noKw hD
 obtain⟨a,vs,ns,rfl,rfl,hobj,hints,hlen⟩:=qf8 hn hpre hwl
 refine enter_call (codeAny_mono (call w s₀ s₁ mg mb fa o pm cd doc a vs ns G Y ho (fd_plain hd) hcd hmg hobj hints hlen hg) fun r s' hq=>?_)
 obtain⟨rfl,h2,h3,h4⟩:=hq
 exact⟨.inl ⟨.bool true,.bool true,[],rfl,fun _=>rfl,.bool true,qgy l _,fun _=>⟨List.Pairwise.nil,fun _ hm=>(nomatch hm)⟩⟩,h2,h3,h4⟩
section
variable {prog:Program}{w:World}{A:Around}{E:Value→Shared→Prop}{s:Shared}{K:Frag}
end
end Att
namespace L2
open PySem PySem.Spec PyProof.Rows
theorem qx0:∀ {vs:List Value}{ns:List Int},IntsAre vs ns→Vals (ns.map V.int) vs
 |_,_,.nil=>.nil
 |_,_,.cons n t h=>.cons ⟨t,rfl⟩ (qx0 h)
def Only(H:Hp):Prop:=∀ b,H b=none∨∃ o xs,H b=some (.frz o (.lst xs))
theorem qld{P:Program}{w:World}{K:Qqq}{mg mb:Str→Option Value}{CX:CXT}{k:Nat}{fa a:Addr}{fd:FuncData}{x:Str}{sp:Sp}{s₁:Shared}{vs:List Value}{ns:List Int}
  (KX:K.In s₁.heap) (hns:s₁.heap.Ns mainGlobals mg) (hb:s₁.heap.Ns builtinsNs mb) (hbb:∀ x:Str,x ≠ "__name__"→mb x=bootBuiltins x) (hlim:s₁.heap.NoLimit) (hg:s₁.gens=#[])
  (ha:s₁.heap.get? a=some { cls:=.type "list",data:=.seq vs.toArray }) (hi:IntsAre vs ns) (hl:ns.length≤sizeLine) (hr:Room k callerA)
  (F:∀ base:Heap,K.In base→base.Ns mainGlobals mg→FnOk P w K mg base CX k fa fd [x] sp) (hbind:∀ (s:Shared) (u:Value),BindsTo s fd ⟨[u],[]⟩ [(x,u)])
  (hsp:∀ H:Hp,Only H→SqL K H a (ns.map V.int)→sp [.ref a] H (fun v _=>v=.bl true) fun _ _ _=>False)
  (hCX:∀ H e s',CX [] H s₁ (fun _ _ _=>False) e s'→False) :
  codeAny (model P w) callerA (.call (.ref fa) ⟨[.ref a],[]⟩) (fun r s'=>r=.ok (.ret (.bool true))∧OldK s₁.heap s'.heap∧s'.os=s₁.os∧AllBare s'.gens) s₁:=by
 have rv:=qx0 hi
 have lenV:=hi.length
 have core:∀ H:Hp,Only H→SqL K H a (ns.map V.int)→HOk P w H s₁.heap→(∀ b,H b≠none→b=a)→(H a≠none→K.lookup a=none)→
   codeAny (model P w) callerA (.call (.ref fa) ⟨[.ref a],[]⟩) (fun r s'=>r=.ok (.ret (.bool true))∧OldK s₁.heap s'.heap∧s'.os=s₁.os∧AllBare s'.gens) s₁:=by
  intro H hO hS hok hA hK
  have base_of:∀ {b:Addr}{o:Obj},s₁.heap.get? b=some o→H b=none→(hidT s₁.heap H).get? b=some o:=fun e n=>qlh e n
  have noA:∀ {b:Addr}{o:Obj}{es:Array DictEntry}{ep:Nat},s₁.heap.get? b=some o→o.data=.dict es ep→H b=none:=fun {b o es ep} e d=>by
   cases q:H b with
   |none=>rfl
   |some u=>
    have e':b=a:=hA b (by rw[q]; simp)
    subst e'
    rw[ha]at e; cases e
    have d':Data.seq vs.toArray _=Data.dict es ep:=d
    cases d'
  have nsK:∀ {b:Addr}{m:Str→Option Value},s₁.heap.Ns b m→(hidT s₁.heap H).Ns b m:=fun {b m} ⟨o,es,ep,e,d,r⟩=>⟨o,es,ep,base_of e (noA e d),d,r⟩
  have hKb:K.In (hidT s₁.heap H):=fun b o e=>base_of (KX b o e) (by
   cases q:H b with
   |none=>rfl
   |some u=>
    have e':b=a:=hA b (by rw[q]; simp)
    subst e'
    rw[hK (by rw[q]; simp)]at e; cases e)
  have hM:Mod K mg (hidT s₁.heap H):=⟨hKb,nsK hns,⟨mb,nsK hb,hbb⟩,let ⟨mc,h1,h2⟩:=hlim; ⟨mc,nsK h1,h2⟩⟩
  have e0:Env0 P w K mg (hidT s₁.heap H) callerA [] s₁ H:=⟨rfl,hM,fun b o e=>qoj e,Nat.le_of_eq (qhw _ _),trivial,fun b hb=>absurd (show b∈([]:List Addr) from hb) (by simp),hok,.of_eq hg⟩
  refine codeAny_mono ((F _ hKb (nsK hns)).run callerA [] s₁ H ⟨[.ref a],[]⟩ [.ref a] [.ref a] _ _ hr e0 (hbind s₁ (.ref a)) (.cons rfl .nil) (hsp H hO hS)) fun r s' h=>?_
  cases r with
  |error e=>exact(hCX H e s' h).elim
  |ok fl=>
   cases fl with
   |next=>exact False.elim h
   |brk=>exact False.elim h
   |cont=>exact False.elim h
   |ret u=>
    obtain⟨v,H',os,bare,un,hok',r',q⟩:=h
    have q':v=.bl true:=q
    subst q'
    obtain rfl:u=Value.bool true:=r'
    refine⟨rfl,OldK.of_keep fun b o e=>?_,os,bare⟩
    cases q:H b with
    |none=>exact un.keep b o e q (by intro z; exact absurd (show b∈([]:List Addr) from z) (by simp)) (by simp)
    |some u=>
     rcases hO b with z|⟨ob,xs,z⟩
     ·rw[q]at z; cases z
     ·have z2:=un.frzs b ob _ z
      obtain⟨e1,_⟩:=hok b _ z
      obtain⟨e2,_⟩:=hok' b _ z2
      rw[e]at e1; cases e1
      exact e2
 cases hk:K.lookup a with
 |some o=>
  have e:=KX a o hk
  rw[ha]at e
  cases e
  refine core (fun _=>none) (fun _=>.inl rfl) (.inr ⟨_,vs.toArray,_,hk,rfl,rfl,rfl,by rw[Qqx,lenV]; exact hl,by simpa using rv⟩) (fun b u z=>by have z':(none:Option HO)=some u:=z; cases z') (fun b z=>absurd rfl z) fun z=>absurd rfl z
 |none=>
  refine core (fun b=>if b=a then some (.frz { cls:=.type "list",data:=.seq vs.toArray } (.lst (ns.map V.int))) else none) (fun b=>?_) (.inl (.inr ⟨{ cls:=.type "list",data:=.seq vs.toArray },if_pos rfl⟩)) (fun b u z=>?_) (fun b z=>?_) fun _=>hk
  ·by_cases hb:b=a
   ·exact .inr ⟨_,_,if_pos hb⟩
   ·exact .inl (if_neg hb)
  ·by_cases hb:b=a
   ·have z':=(if_pos hb).symm.trans z
    cases z'
    subst hb
    exact⟨ha,by rw[Qqk]; exact hl,vs,_,rv,ha⟩
   ·have z':=(if_neg hb).symm.trans z
    cases z'
  ·by_cases hb:b=a
   ·exact hb
   ·exact absurd (if_neg hb) z
end L2
namespace L2
open PySem PySem.Spec PyProof.Rows
theorem walk_of{l:PySem.W.OpenLaw}{n k:Nat}{q:Program}{loose:List Str}{XP:(Str→Option Value)→Heap→Prop}{YP:World→Heap→Prop}{d:DefRec}{K:Params→Qqq}{CX:World→CXT}{sp:World→Sp}{x:Str}
  (hn:l.most=some n) (hn2:n≤sizeLine) (hdf:d.params.defaults=[]) (hr:Room k callerA)
  (hY:∀ (w:World) (h:Heap),YP w h→(K w.params).In h)
  (F:∀ (w:World) (mg:Str→Option Value) (fa:Addr) (h:Heap),(K w.params).In h→h.Ns mainGlobals mg→mg d.name=some (.ref fa)→
   ∃ fd:FuncData,(∀ (s:Shared) (u:Value),BindsTo s fd ⟨[u],[]⟩ [(x,u)])∧
    ∀ base:Heap,(K w.params).In base→base.Ns mainGlobals mg→FnOk l.prog w (K w.params) mg base (CX w) k fa fd [x] (sp w))
  (hsp:∀ (w:World) (H:Hp) (a:Addr) (ns:List Int),ns.length≤n→Only H→SqL (K w.params) H a (ns.map V.int)→sp w [.ref a] H (fun v _=>v=.bl true) fun _ _ _=>False)
  (hCX:∀ (w:World) (H:Hp) (s:Shared) (e:Value) (s':Shared),CX w [] H s (fun _ _ _=>False) e s'→False) :
  PySem.W.WalkO q loose XP YP l.row.toRowW d [] (fun f vs=>PySem.call f vs):=by
 refine Att.attach_call hn hdf fun w s₀ s₁ mg mb fa o pm cd doc a vs ns G Y ho hd hcd hmg hobj hints hlen hg=>?_
 have KX:=hY w _ Y
 obtain⟨fd,hb,hF⟩:=F w mg fa _ KX G.T.g hmg
 exact qld KX G.T.g G.T.b G.T.builtins G.T.nolimit hg hobj hints (Qzx hlen hn2) hr hF hb (fun H hO hS=>hsp w H a ns hlen hO hS) fun H e s'=>hCX w H s₁ e s'
end L2
namespace L2
open PySem PySem.Spec PyProof.Rows
noncomputable abbrev CX0:CXT:=fun _ _ _ _ _ _=>False
noncomputable abbrev E0:XK:=fun _ _ _=>False
theorem qlj{X:Cx}:qwj CX0 X E0:=fun _ _ _ _ _ _ _ h=>h.elim
structure Fun (K:Qqq) (x qual:Str) (st:Stmt) (f:Addr) (fd:FuncData):Prop where
 ex:∃ (oc:Value) (od:Option Addr) (kV doc pm:Value) (an:Option Addr) (cdv ct:Value) (osl:Array (Option Value)),
  fd=PySem.W.fnOf x qual (qqx st) (qzq st) (qzz st) .none kV doc pm an cdv ct∧K.lookup f=some ⟨oc,od,.func fd,osl⟩∧PySem.W.codeIn K cdv qual=true
 kp:Qzj K (.ref f)=true
section
variable {P:Program}{w:World}{K:Qqq}{mg:Str→Option Value}{base:Heap}
theorem Fun.ok{x qual:Str}{st:Stmt}{f:Addr}{fd:FuncData}{N ps:List Str}{k:Nat}{sp:Sp}(F:Fun K x qual st f fd)(S:FnScope N ps (qzz st))(len:∀ vs H Q E,sp vs H Q E→vs.length=ps.length)
  (hbody:∀ (cdv:Value) (A:Around) (outer:List Env) (s:Shared) (H:Hp) (vs:List V) (Q:VK) (E:XK),Room k (A.deeper (envOfC qual (qzz st) s.heap.objs.size f cdv))→sp vs H Q E→
   ∃ t,PSs (cxOf CX0 P w K mg base N qual (qzz st) f cdv A outer s H E).nox (qzq st) t∧t { nx:=fun _ H'=>Q .non H',rt:=Q } (start N vs) H):FnOk P w K mg base CX0 (k+1) f fd ps sp:=by
 obtain⟨oc,od,kV,doc,pm,an,cdv,ct,osl,rfl,lk,hcd⟩:=F.ex
 refine fn_of lk hcd S len fun A outer s H vs Q E hr hsp=>?_
 obtain⟨t,h,q⟩:=hbody cdv A outer s H vs Q E hr hsp
 exact⟨t,h.nox,q⟩
theorem Fun.binds{x qual:Str}{st:Stmt}{f:Addr}{fd:FuncData}{ps:List Str}(F:Fun K x qual st f fd)
  (h:∀ (kV doc pm:Value) (an:Option Addr) (cdv ct:Value) (us:List Value),us.length=ps.length→bindArgs (PySem.W.fnOf x qual (qqx st) (qzq st) (qzz st) .none kV doc pm an cdv ct) ⟨us,[]⟩=pure (ps.zip us)):Binds K fd ps []:=by
 obtain⟨oc,od,kV,doc,pm,an,cdv,ct,osl,rfl,lk,hcd⟩:=F.ex
 exact .all (h kV doc pm an cdv ct)
theorem qba{x qual:Str}{st:Stmt}{f:Addr}{oc:Value}{od an:Option Addr}{osl:Array (Option Value)}{kV doc pm cdv ct:Value}(l:K.lookup f=some ⟨oc,od,.func (PySem.W.fnOf x qual (qqx st) (qzq st) (qzz st) .none kV doc pm an cdv ct),osl⟩)
  (c:PySem.W.codeIn K cdv qual=true) (k:Qzj K (.ref f)=true):Fun K x qual st f (PySem.W.fnOf x qual (qqx st) (qzq st) (qzz st) .none kV doc pm an cdv ct):=⟨⟨oc,od,kV,doc,pm,an,cdv,ct,osl,rfl,l,c⟩,k⟩
end
theorem qf6{n:Nat}(h:n≤1000):n<sizeLine:=Nat.lt_of_le_of_lt h (by decide)
section
variable {X:Cx}
theorem pv(i:Nat){x:Str}{pos:Pos}(hN:X.N[i]?=some x)(hv:Vis X.env.scope x)(hd:(x==("__debug__" : Str))=false:=by decide)
  (hcd:(x==("__classdict__" : Str))=false:=by decide):PE X (.Name x pos) (tVar i):=qmk hN hv hd hcd
end
def Same(H H':Hp):Prop:=∀ b o,H b=some o→H' b=some o
theorem Same.refl(H:Hp):Same H H:=fun _ _ h=>h
theorem Same.trans{H H1 H2:Hp}(a:Same H H1)(b:Same H1 H2):Same H H2:=fun c o h=>b c o (a c o h)
theorem Same.free{H H':Hp}(e:Same H H'){l:Addr}(h:H' l=Option.none):H l=Option.none:=by
 cases q:H l with
 |none=>rfl
 |some o=>
  rw[e l o q]at h
  cases h
theorem Same.seq{K:Qqq}{H H':Hp}{a:Addr}{xs:List V}(e:Same H H')(h:SqL K H a xs):SqL K H' a xs:=by
 rcases h with (h|⟨o,h⟩)|h
 ·exact .inl (.inl (e _ _ h))
 ·exact .inl (.inr ⟨o,e _ _ h⟩)
 ·exact .inr h
end L2
end
section
namespace L2
open PySem PySem.Spec PyProof.Rows
section
variable {κ:Type} [DecidableEq κ]
noncomputable def valV(kvs:List (κ×V))(k:κ):Option V:=(kvs.find? fun kv=>decide (kv.1=k)).map (·.2)
noncomputable def putK(kvs:List (κ×V))(k:κ)(v:V):List (κ×V):=
 if (kvs.any fun kv=>decide (kv.1=k))=true then kvs.map (fun kv=>if kv.1=k then(kv.1,v) else kv) else kvs++[(k,v)]
noncomputable def dropK(kvs:List (κ×V))(k:κ):List (κ×V):=kvs.filter fun kv=>decide (kv.1≠k)
theorem qk1{p:κ×V}{r:List (κ×V)}{k:κ}(e:p.1=k):valV (p::r) k=some p.2:=by simp[valV,Qzq,e]
theorem qk2{p:κ×V}{r:List (κ×V)}{k:κ}(e:¬ p.1=k):valV (p::r) k=valV r k:=by simp[valV,Qzq,e]
theorem qc5(k:κ):∀ kvs:List (κ×V),(kvs.any fun kv=>decide (kv.1=k))=(valV kvs k).isSome
 |[]=>rfl
 |p::r=>by
  rw[Qq7]
  by_cases e:p.1=k
  ·simp only[qk1 e,decide_eq_true e,Bool.true_or,Option.isSome_some]
  ·rw[qk2 e,decide_eq_false e,Qjc]; exact qc5 k r
theorem qxr(kvs:List (κ×V))(k:κ)(v:V):(putK kvs k v).length≤kvs.length+1:=by
 unfold putK
 split
 ·rw[Qqk]; omega
 ·rw[Qq0,Qqd,List.length_nil]; omega
theorem RelO.isSome_eq{o:Option V}{u:Option Value}(r:RelO o u):o.isSome=u.isSome:=by
 cases o with
 |none=>cases u with
  |none=>rfl
  |some _=>exact(show False from r).elim
 |some _=>cases u with
  |none=>exact(show False from r).elim
  |some _=>rfl
theorem RelO.getD{o:Option V}{u:Option Value}{d:V}{d':Value}(r:RelO o u)(rd:RelV d d'):RelV (o.getD d) (u.getD d'):=by
 cases o with
 |none=>cases u with
  |none=>exact rd
  |some _=>exact(show False from r).elim
 |some _=>cases u with
  |none=>exact(show False from r).elim
  |some _=>exact r
theorem KV.val{kvs:List (κ×V)}{vs:List (κ×Value)}(r:KV kvs vs)(k:κ):RelO (valV kvs k) (valueAt vs k):=by
 unfold KV at r
 induction r with
 |nil=>exact True.intro
 |@cons p q ps qs h t ih=>
  obtain⟨h1,h2⟩:=h
  by_cases e:p.1=k
  ·have e':q.1=k:=h1.symm.trans e
   have b:valueAt (q::qs) k=some q.2:=by simp[valueAt,Qzq,e']
   rw[qk1 e,b]; exact h2
  ·have e':¬ q.1=k:=fun z=>e (h1.trans z)
   have b:valueAt (q::qs) k=valueAt qs k:=by simp[valueAt,Qzq,e']
   rw[qk2 e,b]; exact ih
theorem KV.any{kvs:List (κ×V)}{vs:List (κ×Value)}(r:KV kvs vs)(k:κ):(kvs.any fun kv=>decide (kv.1=k))=vs.any fun kv=>decide (kv.1=k):=by
 unfold KV at r
 induction r with
 |nil=>rfl
 |cons h t ih=>rw[Qq7,Qq7,ih,h.1]
theorem KV.repl{kvs:List (κ×V)}{vs:List (κ×Value)}(r:KV kvs vs)(k:κ){y:V}{u:Value}(ry:RelV y u):
  KV (kvs.map fun kv=>if kv.1=k then(kv.1,y) else kv) (vs.map fun kv=>if kv.1=k then(kv.1,u) else kv):=by
 unfold KV at r ⊢
 induction r with
 |nil=>exact .nil
 |@cons p q ps qs h t ih=>
  rw[Qq3,Qq3]
  refine .cons ?_ ih
  obtain⟨h1,h2⟩:=h
  by_cases e:p.1=k
  ·rw[if_pos e,if_pos (h1.symm.trans e)]; exact⟨h1,ry⟩
  ·rw[if_neg e,if_neg (fun z=>e (h1.trans z))]; exact⟨h1,h2⟩
theorem KV.put{kvs:List (κ×V)}{vs:List (κ×Value)}(r:KV kvs vs)(k:κ){y:V}{u:Value}(ry:RelV y u):KV (putK kvs k y) (stored vs k u):=by
 unfold putK stored
 rw[r.any k]
 by_cases e:(vs.any fun kv=>decide (kv.1=k))=true
 ·rw[if_pos e,if_pos e]; exact r.repl k ry
 ·rw[if_neg e,if_neg e]; exact Paired.snoc r ⟨rfl,ry⟩
theorem KV.drop{kvs:List (κ×V)}{vs:List (κ×Value)}(r:KV kvs vs)(k:κ):KV (dropK kvs k) (without vs k):=by
 unfold KV at r ⊢
 unfold dropK without
 induction r with
 |nil=>exact .nil
 |@cons p q ps qs h t ih=>
  obtain⟨h1,h2⟩:=h
  rw[List.filter_cons,List.filter_cons]
  by_cases e:p.1=k
  ·have a:¬ decide (p.1≠k)=true:=by simp[e]
   have b:¬ decide (q.1≠k)=true:=by simp[h1.symm.trans e]
   rw[if_neg a,if_neg b]; exact ih
  ·have e':¬ q.1=k:=fun z=>e (h1.trans z)
   have a:decide (p.1≠k)=true:=by simp[e]
   have b:decide (q.1≠k)=true:=by simp[e']
   rw[if_pos a,if_pos b]; exact .cons ⟨h1,h2⟩ ih
theorem KV.keys{kvs:List (κ×V)}{vs:List (κ×Value)}(r:KV kvs vs):kvs.map (·.1)=vs.map (·.1):=by
 unfold KV at r
 induction r with
 |nil=>rfl
 |cons h t ih=>rw[Qq3,Qq3,ih,h.1]
theorem KV.length{kvs:List (κ×V)}{vs:List (κ×Value)}(r:KV kvs vs):kvs.length=vs.length:=Paired.length r
end
theorem qy9{P:Program}{w:World}{k:Key}{u:Value}(r:RelV (kV k) u):(mixKind P w).is k u=true:=by
 cases k with
 |inl i=>obtain⟨t,e⟩:=(show ∃ t,u=Value.int i t from r); subst e; exact qcf P w i t
 |inr x=>obtain⟨t,e⟩:=(show ∃ t,u=Value.str x t from r); subst e; exact qxo P w x t
theorem qbx{P:Program}{w:World}:∀ {ks:List Key}{us:List Value},Vals (ks.map kV) us→ItemsAre (mixKind P w) ks us
 |[],_,r=>by rw[Qxh]at r; cases r; exact .nil
 |k::ks,_,r=>by
  rw[Qq3]at r
  cases r with
  |cons h t=>exact .cons (qy9 h) (qbx t)
abbrev KT(H:Hp):List (List Key×V)→List (List Key×Addr×Value)→Prop:=Paired fun p q=>p.1=q.1∧H q.2.1=some (.tup (p.1.map kV))∧RelV p.2 q.2.2
theorem KT.val{H:Hp}{kvs:List (List Key×V)}{xs:List (List Key×Addr×Value)}(r:KT H kvs xs)(k:List Key):RelO (valV kvs k) ((atKey xs k).map (·.2)):=by
 induction r with
 |nil=>exact True.intro
 |@cons p q ps qs h t ih=>
  obtain⟨h1,_,h2⟩:=h
  by_cases e:p.1=k
  ·have e':q.1=k:=h1.symm.trans e
   have b:atKey (q::qs) k=some q.2:=by simp[atKey,Qzq,e']
   rw[qk1 e,b]; exact h2
  ·have e':¬ q.1=k:=fun z=>e (h1.trans z)
   have b:atKey (q::qs) k=atKey qs k:=by simp[atKey,Qzq,e']
   rw[qk2 e,b]; exact ih
theorem KT.repl{H:Hp}{kvs:List (List Key×V)}{xs:List (List Key×Addr×Value)}(r:KT H kvs xs)(k:List Key){y:V}{u:Value}(ry:RelV y u):
  KT H (kvs.map fun kv=>if kv.1=k then(kv.1,y) else kv) (xs.map (putAt k u)):=by
 induction r with
 |nil=>exact .nil
 |@cons p q ps qs h t ih=>
  rw[Qq3,Qq3]
  refine .cons ?_ ih
  obtain⟨h1,h2,h3⟩:=h
  unfold putAt
  by_cases e:p.1=k
  ·rw[if_pos e,if_pos (h1.symm.trans e)]; exact⟨h1,h2,ry⟩
  ·rw[if_neg e,if_neg (fun z=>e (h1.trans z))]; exact⟨h1,h2,h3⟩
theorem KT.put{H:Hp}{kvs:List (List Key×V)}{xs:List (List Key×Addr×Value)}(r:KT H kvs xs)(k:List Key){b:Addr}{y:V}{u:Value}(hb:H b=some (.tup (k.map kV)))(ry:RelV y u):
  KT H (putK kvs k y) (storedH xs k b u):=by
 have e:(kvs.any fun kv=>decide (kv.1=k))=(atKey xs k).isSome:=by
  rw[qc5,(r.val k).isSome_eq,Qxs]
 unfold putK storedH
 rw[e]
 by_cases q:(atKey xs k).isSome=true
 ·rw[if_pos q,if_pos q]; exact r.repl k ry
 ·rw[if_neg q,if_neg q]; exact Paired.snoc r ⟨rfl,hb,ry⟩
theorem KT.keeps{H H':Hp}{kvs:List (List Key×V)}{xs:List (List Key×Addr×Value)}(r:KT H kvs xs)(ht:∀ b ys,H b=some (.tup ys)→H' b=some (.tup ys)):KT H' kvs xs:=
 Paired.mapP r fun _ _ z=>⟨z.1,ht _ _ z.2.1,z.2.2⟩
section
variable {P:Program}{w:World}{H:Hp}{h:Heap}{a:Addr}
theorem rd_of{u:HO}(ok:HOk P w H h)(e:Rd H a u):ObjOk P w H h a u:=e.ok ok
theorem qcm{kvs:List (Key×V)}(ok:HOk P w H h)(e:Rd H a (.dK kvs)):kvs.length≤sizeLine∧(a==sysModules)=false∧∃ vs,KV kvs vs∧h.DictOf (mixKind P w) a vs:=
 show ObjOk P w H h a (.dK kvs) from rd_of ok e
theorem dk_of{kvs:List (Key×V)}(ok:HOk P w H h)(e:H a=some (.dK kvs)):kvs.length≤sizeLine∧(a==sysModules)=false∧∃ vs,KV kvs vs∧h.DictOf (mixKind P w) a vs:=qcm ok (.inl e)
theorem qx8{ks:List Key}(ok:HOk P w H h)(e:H a=some (.tup (ks.map kV))):(tupleKind (mixKind P w)).is h ks a:=by
 obtain⟨_,its,r,o,h1,h2,n,h3⟩:=(show ObjOk P w H h a (.tup (ks.map kV)) from ok a _ e)
 exact⟨o,its.toArray,n,h1,h2,h3,by simpa using qbx r⟩
theorem qho{kvs:List (List Key×V)}(ok:HOk P w H h)(e:Rd H a (.dT kvs)):kvs.length≤sizeLine∧(a==sysModules)=false∧
  ∃ xs,KT H kvs xs∧h.DictOfH (tupleKind (mixKind P w)) a xs:=by
 obtain⟨z,y,xs,r,o,es,ep,h1,h2,h3,h4,h5⟩:=(show ObjOk P w H h a (.dT kvs) from rd_of ok e)
 refine⟨z,y,xs,r,o,es,ep,h1,h2,h3,h4,fun x hx=>?_,h5⟩
 have all:∀ {l:List (List Key×V)}{m:List (List Key×Addr×Value)},KT H l m→∀ x∈m,(tupleKind (mixKind P w)).is h x.1 x.2.1:=by
  intro l m q
  induction q with
  |nil=>intro x hx; exact nomatch hx
  |@cons p q ps qs hq t ih=>
   intro x hx
   rcases Qqh.mp hx with e|hx
   ·subst e
    exact qx8 ok (by rw[← hq.1]; exact hq.2.1)
   ·exact ih x hx
 exact all r x hx
theorem dt_of{kvs:List (List Key×V)}(ok:HOk P w H h)(e:H a=some (.dT kvs)):kvs.length≤sizeLine∧(a==sysModules)=false∧
  ∃ xs,KT H kvs xs∧h.DictOfH (tupleKind (mixKind P w)) a xs:=qho ok (.inl e)
end
def DGet(H:Hp)(a:Addr)(y:V)(r:Option V):Prop:=
 (∃ kvs k,Rd H a (.dK kvs)∧y=kV k∧r=valV kvs k)∨∃ kvs k b,Rd H a (.dT kvs)∧y=.ref b∧H b=some (.tup (k.map kV))∧r=valV kvs k
def DPut(H:Hp)(a:Addr)(y v:V)(H':Hp):Prop:=
 (∃ kvs k,H a=some (.dK kvs)∧y=kV k∧kvs.length<sizeLine∧H'=upd H a (.dK (putK kvs k v)))∨
 ∃ kvs k b,H a=some (.dT kvs)∧y=.ref b∧H b=some (.tup (k.map kV))∧kvs.length<sizeLine∧H'=upd H a (.dT (putK kvs k v))
theorem DGet.k{H:Hp}{a:Addr}{kvs:List (Key×V)}{k:Key}(e:H a=some (.dK kvs)):DGet H a (kV k) (valV kvs k):=.inl ⟨kvs,k,.inl e,rfl,rfl⟩
theorem DGet.t{H:Hp}{a b:Addr}{kvs:List (List Key×V)}{k:List Key}(e:H a=some (.dT kvs))(eb:H b=some (.tup (k.map kV))):DGet H a (.ref b) (valV kvs k):=.inr ⟨kvs,k,b,.inl e,rfl,eb,rfl⟩
theorem DPut.k{H:Hp}{a:Addr}{kvs:List (Key×V)}{k:Key}{v:V}(e:H a=some (.dK kvs))(hl:kvs.length<sizeLine):DPut H a (kV k) v (upd H a (.dK (putK kvs k v))):=.inl ⟨kvs,k,e,rfl,hl,rfl⟩
theorem DPut.t{H:Hp}{a b:Addr}{kvs:List (List Key×V)}{k:List Key}{v:V}(e:H a=some (.dT kvs))(eb:H b=some (.tup (k.map kV)))(hl:kvs.length<sizeLine):
  DPut H a (.ref b) v (upd H a (.dT (putK kvs k v))):=.inr ⟨kvs,k,b,e,rfl,eb,hl,rfl⟩
section
variable {X:Cx}{pins:List (Addr×Obj)}{σ:St}{H:Hp}{s:Shared}{a:Addr}{y v:V}{u r:Value}{o:Option V}{A:Around}{E:Value→Shared→Prop}
theorem Inv.big(I:Inv X pins σ H s):sysModules<s.heap.objs.size:=by
 have h:mainGlobals<s.heap.objs.size:=(I.mod.glob.keeps I.bk).lt
 exact Nat.lt_trans (by decide) h
theorem qht{Q:Value→Shared→Prop}(hu:A.units+1<cLine)(I:Inv X pins σ H s)(g:DGet H a y (some v))(ry:RelV y u)(h:∀ w' s',Inv X pins σ H s'→RelV v w'→Q w' s'):
  wpAny (model X.prog X.w) A (getItem (.ref a) u) Q E s:=by
 rcases g with⟨kvs,k,e,ey,l⟩|⟨kvs,k,b,e,ey,eb,l⟩
 ·subst ey
  obtain⟨z,hd,vs,rel,dd⟩:=qcm I.hok e
  obtain⟨w',hw,rw'⟩:=RelO.some_of (v:=v) (o:=valueAt vs k) (by rw[l]; exact rel.val k)
  exact wpAny_getItem_of (qy9 ry) dd.mapOf hw (h w' _ (I.tok _) rw')
 ·subst ey
  cases (show u=Value.ref b from ry)
  obtain⟨z,hd,xs,rel,dd⟩:=qho I.hok e
  obtain⟨w',hw,rw'⟩:=RelO.some_of (v:=v) (o:=(atKey xs k).map (·.2)) (by rw[l]; exact rel.val k)
  obtain⟨p,hp,hp2⟩:=Qzw.mp hw
  refine wpAny_getItem_heap (tupleKind_room_in1 hu) (qx8 I.hok eb) dd hp ?_
  rw[hp2]
  exact h w' _ (I.tok _) rw'
theorem d_in{Q:Value→Shared→Prop}(hu:A.units+1<cLine)(I:Inv X pins σ H s)(g:DGet H a y o)(ry:RelV y u)(h:∀ s',Inv X pins σ H s'→Q (.bool o.isSome) s'):
  wpAny (model X.prog X.w) A (compareOp .In u (.ref a)) Q E s:=by
 rcases g with⟨kvs,k,e,ey,l⟩|⟨kvs,k,b,e,ey,eb,l⟩
 ·subst ey
  obtain⟨z,hd,vs,rel,dd⟩:=qcm I.hok e
  refine wpAny_in_of (qy9 ry) hd dd.mapOf ?_
  rw[← (rel.val k).isSome_eq,← l]
  exact h _ (I.tok _)
 ·subst ey
  cases (show u=Value.ref b from ry)
  obtain⟨z,hd,xs,rel,dd⟩:=qho I.hok e
  refine wpAny_in_heap (tupleKind_room_in1 hu) (qx8 I.hok eb) hd dd ?_
  have q:=(rel.val k).isSome_eq
  rw[Qxs]at q
  rw[← q,← l]
  exact h _ (I.tok _)
theorem qo8{Q:Value→Shared→Prop}(hu:A.units+1<cLine)(I:Inv X pins σ H s)(g:DGet H a y o)(ry:RelV y u)(h:∀ s',Inv X pins σ H s'→Q (.bool (!o.isSome)) s'):
  wpAny (model X.prog X.w) A (compareOp .NotIn u (.ref a)) Q E s:=by
 rcases g with⟨kvs,k,e,ey,l⟩|⟨kvs,k,b,e,ey,eb,l⟩
 ·subst ey
  obtain⟨z,hd,vs,rel,dd⟩:=qcm I.hok e
  refine wpAny_notIn_of (qy9 ry) hd dd.mapOf ?_
  rw[← (rel.val k).isSome_eq,← l]
  exact h _ (I.tok _)
 ·subst ey
  cases (show u=Value.ref b from ry)
  obtain⟨z,hd,xs,rel,dd⟩:=qho I.hok e
  refine wpAny_notIn_heap (tupleKind_room_in1 hu) (qx8 I.hok eb) hd dd ?_
  have q:=(rel.val k).isSome_eq
  rw[Qxs]at q
  rw[← q,← l]
  exact h _ (I.tok _)
theorem qco{h':Heap}{t':Nat}{ob:HO}(I:Inv X pins σ H s)(mu:Mut (H a))(hs:Heap.SameBut a s.heap h')(he:∃ q,h'.get? a=some q)(new:ObjOk X.prog X.w (upd H a ob) h' a ob):
  Inv X pins σ (upd H a ob) { s with heap:=h',toks:=t' }:=
 I.write (x:=a) (e:=a) mu (.inl rfl) (fun b q hb z=>(hs.2 b hb).trans z) he new
theorem dk_new{P:Program}{w:World}{H':Hp}{h':Heap}{kvs:List (Key×V)}{vs:List (Key×Value)}(z:kvs.length≤sizeLine)(hd:(a==sysModules)=false)(rel:KV kvs vs)(dd:h'.DictOf (mixKind P w) a vs):
  ObjOk P w H' h' a (.dK kvs):=⟨z,hd,vs,rel,dd⟩
theorem qhs{H':Hp}{Q:Unit→Shared→Prop}(hu:A.units+1<cLine)(I:Inv X pins σ H s)(g:DPut H a y v H')(ry:RelV y u)(rv:RelV v r)(h:∀ s',Inv X pins σ H' s'→Q () s'):
  wpAny (model X.prog X.w) A (setItem (.ref a) u r) Q E s:=by
 rcases g with⟨kvs,k,e,ey,l,eH⟩|⟨kvs,k,b,e,ey,eb,l,eH⟩
 ·subst ey eH
  obtain⟨z,hd,vs,rel,dd⟩:=dk_of I.hok e
  have hz:vs.length≤sizeLine:=by rw[← rel.length]; exact z
  have hl:(putK kvs k v).length≤sizeLine:=by have:=qxr kvs k v; omega
  refine wpAny_setItem_pairs (hsz:=hz) (qy9 ry) dd fun h' dd' hs=>h _ ?_
  have he:∃ q,h'.get? a=some q:=let ⟨q,_,_,hq,_⟩:=dd'; ⟨q,hq⟩
  exact qco I (by rw[e]; exact True.intro) hs he (dk_new hl hd (rel.put k rv) dd')
 ·subst ey eH
  cases (show u=Value.ref b from ry)
  obtain⟨z,hd,xs,rel,dd⟩:=dt_of I.hok e
  have hz:xs.length≤sizeLine:=by rw[← Paired.length rel]; exact z
  have hl:(putK kvs k v).length≤sizeLine:=by have:=qxr kvs k v; omega
  refine wpAny_setItem_heap (hsz:=hz) (tupleKind_room_in1 hu) (qx8 I.hok eb) dd fun h' dd' hs=>h _ ?_
  obtain⟨q,es,ep,hq,h2,h3,h4,_,h5⟩:=dd'
  refine qco I (by rw[e]; exact True.intro) hs ⟨q,hq⟩ ⟨hl,hd,_,(rel.put k eb rv).keeps fun c ys ec=>?_,q,es,ep,hq,h2,h3,h4,h5⟩
  rw[qzj (qzu ec e (fun z=>nomatch z))]
  exact ec
end
section
variable {X:Cx}{pins:List (Addr×Obj)}{σ:St}{H:Hp}{s:Shared}{a:Addr}{kvs:List (Key×V)}{k:Key}{u:Value}{A:Around}{E:Value→Shared→Prop}
end
def NoSl(i:Expr):Prop:=∀ ov iv,subscripted i false ov iv=operate [ov,iv] (getItem ov iv)
theorem qfu{prog:Program}{w:World}{A:Around}{E:Value→Shared→Prop}{s:Shared}{env:Env}{value slice:Expr}{pos:Pos}{T id:String}{Q:Value→Shared→Prop}
  (hl:typeLookup (.type T) "__getitem__" = pure (some (.builtin id))) (hs:NoSl slice)
  (h:wpAny (model prog w) A (eval value env) (fun o s₁=>wpAny (model prog w) A (eval slice env) (fun i s₂=>s₂.TypeIs o T∧wpAny (model prog w) A (getItem o i) Q E s₂) E s₁) E s) :
  wpAny (model prog w) A (eval (.Subscript value slice pos) env) Q E s:=by
 refine Subscript_ (wpAny_mono h (fun o s₁ h₁=>wpAny_mono h₁ (fun i s₂ h₂=>?_) fun _ _ x=>x) fun _ _ x=>x)
 obtain⟨hT,h₂⟩:=h₂
 unfold subscriptTail
 refine wpAny_bind ?_
 rw[getitemInPython_of_ne hT.not_modules]
 refine wpAny_bind (wpAny_specialOf hT hl ?_)
 have fin:wpAny (model prog w) A (subscripted slice false o i) (fun r s₃=>wpAny (model prog w) A (letTemporaryGo value o r >>= fun _=>pure r) Q E s₃) E s₂:=by
  rw[hs o i]
  exact wpAny_operating (wpAny_mono h₂ (fun r s₃ h₃=>wpAny_bind (wpAny_letTemporaryGo (wpAny_pure h₃))) fun _ _ x=>x)
 first
  |exact wpAny_pure (wpAny_bind fin)
  |exact wpAny_bind (wpAny_pure (wpAny_bind fin))
  |exact wpAny_bind fin
theorem qcn{X:Cx}{pins:List (Addr×Obj)}{σ:St}{H:Hp}{s:Shared}{a:Addr}{y:V}{o:Option V}(I:Inv X pins σ H s)(g:DGet H a y o):s.TypeIs (.ref a) "dict":=by
 rcases g with⟨kvs,k,e,_,_⟩|⟨kvs,k,b,e,_,_,_⟩
 ·obtain⟨_,_,vs,_,dd⟩:=qcm I.hok e
  exact dd.typeIs
 ·obtain⟨_,_,xs,_,dd⟩:=qho I.hok e
  exact dd.typeIs
noncomputable def tDGet(td ty:TE):TE:=fun σ H Q=>td σ H fun x H1=>ty σ H1 fun y H2=>∃ a v,x=.ref a∧DGet H2 a y (some v)∧Q v H2
noncomputable def tDIn(ty td:TE):TE:=fun σ H Q=>ty σ H fun y H1=>td σ H1 fun x H2=>∃ a o,x=.ref a∧DGet H2 a y o∧Q (.bl o.isSome) H2
noncomputable def qfs(ty td:TE):TE:=fun σ H Q=>ty σ H fun y H1=>td σ H1 fun x H2=>∃ a o,x=.ref a∧DGet H2 a y o∧Q (.bl (!o.isSome)) H2
noncomputable def sDPut(td ty tv:TE):TS:=fun D σ H=>tv σ H fun v H1=>td σ H1 fun x H2=>ty σ H2 fun y H3=>∃ a H4,x=.ref a∧DPut H3 a y v H4∧D.nx σ H4
section
variable {X:Cx}{o i e value:Expr}{pos pos' tpos:Pos}{td ty tv:TE}
theorem qn2(hu:X.A.units+1<cLine)(ho:PE X o td)(hi:PE X i ty)(hs:NoSl i):PE X (.Subscript o i pos) (tDGet td ty):=by
 intro pins s σ H Q I h
 refine qfu PySem.F.slot_dict_getitem.lookup hs (thn (ho pins s σ H _ I h) fun u s1 ⟨x,H1,I1,rx,q1⟩=>thn (hi pins s1 σ H1 _ I1 q1) fun iv s2 ⟨y,H2,I2,ry,a,v,ex,g,q2⟩=>?_)
 subst ex
 obtain rfl:u=Value.ref a:=rx
 exact⟨qcn I2 g,qht hu I2 g ry fun w' s3 I3 rw'=>⟨v,H2,I3,rw',q2⟩⟩
theorem pc_din(hu:X.A.units+1<cLine)(hi:PE X i ty)(ho:PE X o td):PC X .In i o (tDIn ty td):=by
 intro pins s σ H Q I h
 refine thn (hi pins s σ H _ I h) fun iv s1 ⟨y,H1,I1,ry,q1⟩=>thn (ho pins s1 σ H1 _ I1 q1) fun u s2 ⟨x,H2,I2,rx,a,ov,ex,g,q2⟩=>?_
 subst ex
 obtain rfl:u=Value.ref a:=rx
 exact d_in hu I2 g ry fun s3 I3=>⟨.bl ov.isSome,H2,I3,rfl,q2⟩
theorem qgf(hu:X.A.units+1<cLine)(hi:PE X i ty)(ho:PE X o td):PC X .NotIn i o (qfs ty td):=by
 intro pins s σ H Q I h
 refine thn (hi pins s σ H _ I h) fun iv s1 ⟨y,H1,I1,ry,q1⟩=>thn (ho pins s1 σ H1 _ I1 q1) fun u s2 ⟨x,H2,I2,rx,a,ov,ex,g,q2⟩=>?_
 subst ex
 obtain rfl:u=Value.ref a:=rx
 exact qo8 hu I2 g ry fun s3 I3=>⟨.bl (!ov.isSome),H2,I3,rfl,q2⟩
theorem qnl(hu:X.A.units+1<cLine)(ho:PE X o td)(hi:PE X i ty)(hv:PE X value tv)(hs:swapsWith value (some (.Subscript o i pos')) pos.line X.env=pure false):
  PS X (.Assign [.Subscript o i pos'] value pos) (sDPut td ty tv):=by
 intro pins s σ H D I h
 refine wpAny_Assign_Subscript (thn (hv pins s σ H _ I h) fun r s1 ⟨v,H1,I1,rv,q1⟩=>thn (ho pins s1 σ H1 _ I1 q1) fun u s2 ⟨x,H2,I2,rx,q2⟩=>thn (hi pins s2 σ H2 _ I2 q2) fun iv s3 ⟨y,H3,I3,ry,a,H4,ex,g,q3⟩=>?_) hs
 subst ex
 obtain rfl:u=Value.ref a:=rx
 exact qhs hu I3 g ry rv fun s4 I4=>⟨σ,H4,I4,q3⟩
end
theorem qd6{P:Program}{w:World}{H:Hp}(h:Heap)(hb:sysModules<h.objs.size):ObjOk P w H (h.push { cls:=.type "dict",data:=.dict #[] }) h.objs.size (.dK []):=
 ⟨Qze _,beq_eq_false_iff_ne.mpr (Ne.symm (Qqo hb)),[],.nil,Heap.DictOf.new h⟩
noncomputable def tDNewK:TE:=fun _ H Q=>∀ p,H p=none→Q (.ref p) (upd H p (.dK []))
section
variable {X:Cx}{pos:Pos}
theorem pe_dnewK:PE X (.Dict [] [] pos) tDNewK:=fun pins s σ H Q I h=>
 wpAny_Dict_empty ⟨.ref s.heap.objs.size,_,I.laid (a:=s.heap.objs.size) (o:=.dK []) (t':=s.toks) (fun _ _ q=>Qqz _ q) (Qqj _) (qd6 s.heap I.big),rfl,h _ (I.hok.fresh (Qqj _))⟩
end
noncomputable def qc6:List (TE×TE)→St→Hp→(List (V×V)→Hp→Prop)→Prop
 |[],_,H,Q=>Q [] H
 |(tk,tv)::r,σ,H,Q=>tk σ H fun x H1=>tv σ H1 fun y H2=>qc6 r σ H2 fun ps H3=>Q ((x,y)::ps) H3
abbrev VV:List (V×V)→List (Value×Value)→Prop:=Paired fun p q=>RelV p.1 q.1∧RelV p.2 q.2
def PPs(X:Cx)(pos:Pos)(keys:List (Option Expr))(values:List Expr)(trs:List (TE×TE)):Prop:=
 ∀ (pins:List (Addr×Obj)) (s:Shared) (σ:St) (H:Hp) (Q:List (V×V)→Hp→Prop),Inv X pins σ H s→qc6 trs σ H Q→
  wpAny (model X.prog X.w) X.A (evalPairs (pairTrees keys values X.env pos)) (fun vs s'=>∃ ps H',Inv X pins σ H' s'∧VV ps vs∧Q ps H') X.xe s
theorem qnm{X:Cx}{pos:Pos}:PPs X pos [] [] []:=fun pins s σ H Q I h=>pairTrees_nil_walk ⟨[],H,I,.nil,h⟩
theorem qi3{X:Cx}{pos:Pos}{k v:Expr}{ks:List (Option Expr)}{vs:List Expr}{tk tv:TE}{trs:List (TE×TE)}(hk:PE X k tk)(hv:PE X v tv)(hr:PPs X pos ks vs trs):
  PPs X pos (some k::ks) (v::vs) ((tk,tv)::trs):=fun pins s σ H Q I h=>
 pairTrees_cons_walk (thn (hk pins s σ H _ I h) fun u s1 ⟨x,H1,I1,rx,q1⟩=>thn (hv pins s1 σ H1 _ I1 q1) fun w2 s2 ⟨y,H2,I2,ry,q2⟩=>
  thn (hr pins s2 σ H2 _ I2 q2) fun ws s3 ⟨ps,H3,I3,rel,q3⟩=>⟨(x,y)::ps,H3,I3,.cons ⟨rx,ry⟩ rel,q3⟩)
noncomputable def qyq(kvs more:List (Key×V)):List (Key×V):=more.foldl (fun acc kv=>putK acc kv.1 kv.2) kvs
theorem KV.merge:∀ {more:List (Key×V)}{rs:List (Key×Value)}{kvs:List (Key×V)}{vs:List (Key×Value)},KV more rs→KV kvs vs→KV (qyq kvs more) (merged vs rs):=by
 intro more rs kvs vs r
 unfold KV at r
 induction r generalizing kvs vs with
 |nil=>intro q; exact q
 |@cons p q ps qs h t ih=>
  intro r0
  have e:KV (putK kvs p.1 p.2) (stored vs q.1 q.2):=by
   have:=r0.put p.1 h.2
   rw[← h.1]; exact this
  exact ih e
theorem qx7:∀ (more kvs:List (Key×V)),(qyq kvs more).length≤kvs.length+more.length
 |[],kvs=>by show kvs.length≤kvs.length+0; omega
 |p::r,kvs=>by
  have h1:=qx7 r (putK kvs p.1 p.2)
  have h2:=qxr kvs p.1 p.2
  show(qyq (putK kvs p.1 p.2) r).length≤_
  rw[Qqd]; omega
theorem qyd{P:Program}{w:World}:∀ {kvs:List (Key×V)}{ws:List (Value×Value)},VV (kvs.map fun kv=>(kV kv.1,kv.2)) ws→∃ rs,Carries (mixKind P w) ws rs∧KV kvs rs
 |[],_,r=>by rw[Qxh]at r; cases r; exact⟨[],True.intro,.nil⟩
 |p::kvs,_,r=>by
  rw[Qq3]at r
  cases r with
  |@cons a b as bs h t=>
   obtain⟨rs,c,q⟩:=qyd (P:=P) (w:=w) t
   obtain⟨b1,b2⟩:=b
   exact⟨(p.1,b2)::rs,⟨qy9 h.1,rfl,c⟩,.cons ⟨rfl,h.2⟩ q⟩
noncomputable def tDisp(trs:List (TE×TE)):TE:=fun σ H Q=>∀ p,H p=none→qc6 trs σ (upd H p (.dK [])) fun ps H2=>H2 p=some (.dK [])∧∃ kvs:List (Key×V),ps=kvs.map (fun kv=>(kV kv.1,kv.2))∧kvs.length≤15∧Q (.ref p) (upd H2 p (.dK (qyq [] kvs)))
theorem qn1{X:Cx}{pos:Pos}{keys:List (Option Expr)}{values:List Expr}{trs:List (TE×TE)}(h:PPs X pos keys values trs)(hall:keys.all (·.isSome)=true)(hl:keys.length=values.length)(h0:keys≠[])
  (h15:keys.length≤15):PE X (.Dict keys values pos) (tDisp trs):=by
 intro pins s σ H Q I q
 have hn:=I.hok.fresh (Qqj s.heap.objs.size)
 have I1:=I.laid (a:=s.heap.objs.size) (o:=.dK []) (h':=s.heap.push { cls:=.type "dict",data:=.dict #[] }) (t':=s.toks) (fun _ _ q=>Qqz _ q) (Qqj _) (qd6 s.heap I.big)
 refine wpAny_Dict_walk (knd:=mixKind X.prog X.w) hall hl h0 h15 (thn (h pins _ σ _ _ I1 (q _ hn)) fun ws s2 ⟨ps,H2,I2,rel,e,kvs,ep,lk,q2⟩=>?_)
 subst ep
 obtain⟨rs,c,rk⟩:=qyd (P:=X.prog) (w:=X.w) rel
 obtain⟨z,hd,vs0,r0,dd⟩:=dk_of I2.hok e
 cases r0
 refine⟨rs,c,dd,fun h' dd' hs=>⟨.ref s.heap.objs.size,_,?_,rfl,q2⟩⟩
 have hz:(qyq [] kvs).length≤sizeLine:=by
  have h1:=qx7 kvs []
  rw[List.length_nil]at h1
  rw[sizeLine_eq]; omega
 have he:∃ q,h'.get? s.heap.objs.size=some q:=let ⟨q,_,_,hq,_⟩:=dd'; ⟨q,hq⟩
 exact qco I2 (by rw[e]; exact True.intro) hs he (dk_new hz hd (rk.merge .nil) dd')
structure M1 (X:Cx) (o:Expr) (m:Str) (apos:Pos) (e:Expr) (cpos:Pos):Prop where
 base:attributeBase o m X.env (eval o X.env)=eval o X.env
 few:((backTo cpos (starEach [e] X.env)).all (fun x=>!x.1)&&(backToKw cpos (keywordEach [] X.env)).all (fun x=>x.1.isSome)
  && decide (([e]:List Expr).length+([]:List Keyword).length+(if ([]:List Keyword).isEmpty then 0 else 1)<30))=true
 line:(apos.endLine==cpos.line)=true
 trees:backTo cpos (starEach [e] X.env)=[(false,eval e X.env)]
structure M2 (X:Cx) (o:Expr) (m:Str) (apos:Pos) (e f:Expr) (cpos:Pos):Prop where
 base:attributeBase o m X.env (eval o X.env)=eval o X.env
 few:((backTo cpos (starEach [e,f] X.env)).all (fun x=>!x.1)&&(backToKw cpos (keywordEach [] X.env)).all (fun x=>x.1.isSome)
  && decide (([e,f]:List Expr).length+([]:List Keyword).length+(if ([]:List Keyword).isEmpty then 0 else 1)<30))=true
 line:(apos.endLine==cpos.line)=true
 trees:backTo cpos (starEach [e,f] X.env)=[(false,eval e X.env),(false,eval f X.env)]
def IsD(H:Hp)(a:Addr):Prop:=(∃ kvs,Rd H a (.dK kvs))∨∃ kvs,Rd H a (.dT kvs)
section
variable {X:Cx}{pins:List (Addr×Obj)}{σ:St}{H:Hp}{s:Shared}{a:Addr}{y d:V}{u r:Value}{o:Option V}{A:Around}{E:Value→Shared→Prop}
end
section
variable {X:Cx}{o e f:Expr}{apos cpos:Pos}{td ty tx:TE}
end
section
variable {X:Cx}{pins:List (Addr×Obj)}{σ:St}{H:Hp}{s:Shared}{a:Addr}{kvs:List (Key×V)}{A:Around}{E:Value→Shared→Prop}
theorem qlu{Q:Value→Shared→Prop}(I:Inv X pins σ H s)(e:Rd H a (.dK kvs))(h:∀ p s',H p=none→Inv X pins σ (upd H p (.dK kvs)) s'→Q (.ref p) s'):wpAny (model X.prog X.w) A (call (.type "dict") [.ref a]) Q E s:=by
 obtain⟨z,hd,vs,rel,dd⟩:=qcm I.hok e
 refine kt_call_dict hd dd (by rw[← rel.length]; exact z) fun h' dd' hs=>?_
 refine h _ _ (I.hok.fresh (Qqj _)) (I.laid (a:=s.heap.objs.size) (o:=.dK kvs) (t':=s.toks) (fun b q hq=>?_) (Qqj _) (dk_new z (beq_eq_false_iff_ne.mpr (Ne.symm (Qqo I.big))) rel dd'))
 exact(hs.2 b (Qqo (Qqv hq))).trans (Qqz _ hq)
end
section
variable {X:Cx}{pins:List (Addr×Obj)}{σ:St}{H:Hp}{s:Shared}{a:Addr}{y:V}{u:Value}{A:Around}{E:Value→Shared→Prop}
end
end L2
end
section
namespace M
open PySem (Str Operator CmpOp)
inductive D where
 |non|bl (b:Bool)|int (i:Int)|str (s:Str)|tup (ds:List D)|lst (ds:List D)|loc (l:Nat)
 deriving Inhabited
inductive Cell where
 |lst (w:Bool) (ds:List D)
 /-- a dict,its keys ints and texts; it may be written,or not (a loop walks it) -/
 |dic (w:Bool) (kvs:List (D×D))
 /-- an instance of the class at C -/
 |obj (C:Nat) (fs:List (Str×D))
 deriving Inhabited
abbrev Store:=List Cell
abbrev Sl:=List (Option D)
noncomputable def lim:Nat:=16777216
inductive Ty where
 |non|bl|int|str|tup|lst
 deriving DecidableEq
noncomputable def Ty.name:Ty→String
 |.non=>"NoneType"
 |.bl=>"bool"
 |.int=>"int"
 |.str=>"str"
 |.tup=>"tuple"
 |.lst=>"list"
inductive B where
 |len|min|max|tuple|list|all|sorted|int|str|any|dict
inductive Mt where
 |append|find|join|split|extend|index
inductive T where
 |var (i:Nat)
 |tup (is:List Nat)
noncomputable def T.slots:T→List Nat
 |.var i=>[i]
 |.tup is=>is
inductive E where
 |var (i:Nat)
 |lit (d:D)
 |glo (x:Str) (d:D)
 |bin (op:Operator) (a b:E)
 |neg (a:E)
 |not (a:E)
 |cmp (op:CmpOp) (a b:E)
 |cmp2 (op op':CmpOp) (a b c:E)
 |and (a b:E)
 |or (a b:E)
 |ite (c a b:E)
 |tup (es:List E)
 |lst (es:List E)
 |idx (a b:E)
 |sli (a:E) (lo hi:Option E)
 |call (f:Nat) (es:List E)
 |bcall (f:B) (es:List E)
 |isi (a:E) (ts:List Ty) (many:Bool)
 |meth (a:E) (m:Mt) (es:List E)
 /-- what a part made is dropped where nothing else holds it; a list that it tells is a value from then on -/
 |gc (a:E)
 |rng1 (a:E)
 |rng2 (a b:E)
 |rng3 (a b c:E)
 |zip (a b:E)
 /-- a written dict: key,value,key,value .. -/
 |dic (es:List E)
 |didx (a b:E)
 |din (neg:Bool) (a b:E)
 |dgt (a b:E)
 |fmt (a:E)
 |fstr (es:List E)
 /-- of a dict of the file's top: its keys,its values -/
 |gidx (x:Str) (ks:List Str) (ds:List D) (b:E)
 |gin (neg:Bool) (x:Str) (ks:List Str) (b:E)
 /-- the number of unlike things of a tuple of tuples of ints -/
 |lenset (a:E)
 /-- tuples,one behind the other -/
 |cat (a b:E)
 /-- a list,turned about -/
 |rev (a:E)
 |comp (t:T) (it:E) (test:Option E) (elt:E) (src:List (Option Nat))
 /-- a.f,a an instance of the class at C -/
 |attr (C:Nat) (a:E) (f:Str)
 /-- a.m(..),the method m of the class at C is the f-th function -/
 |mcall (C f:Nat) (m:Str) (a:E) (es:List E)
 /-- a new instance of the class at C,its __init__ is the f-th function -/
 |new (C f:Nat) (es:List E)
inductive S where
 |set (t:T) (e:E)
 |setIx (a i e:E)
 |dset (a i e:E)
 |setA (C:Nat) (a:E) (f:Str) (e:E)
 /-- for over a dict -/
 |ford (t:T) (a:E) (body:List S)
 |bad
 |rais
 |expr (e:E)
 |ret (e:E)
 |retN
 |ite (c:E) (a b:List S)
 |forr (t:T) (it:E) (body:List S)
 |whil (c:E) (body:List S)
 |aug (i:Nat) (op:Operator) (e:E)
 |brk|cnt|pass
structure Fn where
 np:Nat
 nl:Nat
 body:List S
mutual
noncomputable def eqT:D→D→Bool
 |.non,.non=>true
 |.bl a,.bl b=>a==b
 |.bl a,.int j=>(if a then 1 else 0)==j
 |.int i,.bl b=>i==(if b then 1 else 0)
 |.int i,.int j=>i==j
 |.str a,.str b=>a==b
 |.tup a,.tup b=>eqTs a b
 |_,_=>false
noncomputable def eqTs:List D→List D→Bool
 |[],[]=>true
 |a::as,b::bs=>eqT a b&&eqTs as bs
 |_,_=>false
end
mutual
/-- no place of the store within,at most n deep -/
noncomputable def flat:Nat→D→Bool
 |_,.loc _=>false
 |_,.lst _=>false
 |0,.tup _=>false
 |n+1,.tup ds=>flats n ds
 |_,_=>true
noncomputable def flats:Nat→List D→Bool
 |_,[]=>true
 |n,d::ds=>flat n d&&flats n ds
end
noncomputable def mulOk(i j:Int):Bool:=(decide (-(2 ^ 64)<i)&&decide (i<2 ^ 64))||(decide (-(2 ^ 64)<j)&&decide (j<2 ^ 64))
noncomputable def listAt(st:Store)(l:Nat):Option (List D):=match st[l]? with|some (.lst _ ds)=>some ds|_=>none
noncomputable def wlistAt(st:Store)(l:Nat):Option (List D):=match st[l]? with|some (.lst true ds)=>some ds|_=>none
noncomputable def seqAt(st:Store):D→Option (List D)
 |.loc l=>listAt st l
 |.lst ds=>some ds
 |_=>none
mutual
/-- no place of the store within -/
noncomputable def noLoc:D→Bool
 |.loc _=>false
 |.tup ds=>noLocs ds
 |.lst ds=>noLocs ds
 |_=>true
noncomputable def noLocs:List D→Bool
 |[]=>true
 |d::ds=>noLoc d&&noLocs ds
end
mutual
/-- every place of the store within is one of the first n -/
noncomputable def lt(n:Nat):D→Bool
 |.loc l=>Nat.blt l n
 |.tup ds=>lts n ds
 |.lst ds=>lts n ds
 |_=>true
noncomputable def lts(n:Nat):List D→Bool
 |[]=>true
 |d::ds=>lt n d&&lts n ds
end
noncomputable def ltC(n:Nat):Cell→Bool
 |.lst _ ds=>lts n ds
 |.dic _ kvs=>kvs.all fun p=>lt n p.2
 |.obj _ fs=>fs.all fun p=>lt n p.2
noncomputable def gcX(n:Nat)(p:D×Store):D×Store:=
 if noLoc p.1 then(p.1,p.2.take n) else match p.1 with
  |.loc l=>if n≤l then(match p.2[l]? with
   |some (.lst true ds)=>if noLocs ds then(.lst ds,p.2.take n) else p
   |_=>p) else p
  |_=>p
open Classical in
noncomputable def gcD(st:Store)(p:D×Store):D×Store:=
 if (p.2.take st.length).all (ltC st.length)=true then gcX st.length p else if p.2.take st.length=st then gcX st.length p else p
noncomputable def dicAt(st:Store)(l:Nat):Option (List (D×D)):=match st[l]? with|some (.dic _ kvs)=>some kvs|_=>none
noncomputable def wdicAt(st:Store)(l:Nat):Option (List (D×D)):=match st[l]? with|some (.dic true kvs)=>some kvs|_=>none
noncomputable def objAt(st:Store)(C:Nat):D→Option (List (Str×D))
 |.loc l=>match st[l]? with|some (.obj C' fs)=>if C'=C then some fs else none|_=>none
 |_=>none
noncomputable def putA(f:Str)(v:D):List (Str×D)→List (Str×D)
 |[]=>[(f,v)]
 |(g,x)::r=>if g=f then(g,v)::r else(g,x)::putA f v r
noncomputable def keysOf(kvs:List (D×D)):List D:=kvs.map (·.1)
noncomputable def dkeys(st:Store):D→Option (List D)
 |.loc l=>(dicAt st l).map keysOf
 |_=>none
noncomputable def isKey:D→Bool
 |.int _=>true
 |.str _=>true
 |_=>false
noncomputable def dget(kvs:List (D×D))(k:D):Option D:=(kvs.find? fun p=>eqT p.1 k).map (·.2)
noncomputable def dput(kvs:List (D×D))(k v:D):List (D×D):=if kvs.any fun p=>eqT p.1 k then kvs.map (fun p=>if eqT p.1 k then(p.1,v) else p) else kvs++[(k,v)]
noncomputable def pairUp:List D→Option (List (D×D))
 |[]=>some []
 |k::v::r=>if isKey k then(pairUp r).map ((k,v)::·) else none
 |_=>none
noncomputable def dall(kvs:List (D×D)):List (D×D):=kvs.foldl (fun acc p=>dput acc p.1 p.2) []
noncomputable def alloc(st:Store)(c:Cell):D×Store:=(.loc st.length,st++[c])
noncomputable def binop(st:Store):Operator→D→D→Option (D×Store)
 |.Add,.int i,.int j=>some (.int (i+j),st)
 |.Add,.tup a,.tup b=>if a.isEmpty||decide (lim<a.length+b.length) then none else some (.tup (a++b),st)
 |.Add,.str a,.str b=>if lim<a.length+b.length then none else some (.str (a++b),st)
 |.Add,a,b=>(seqAt st a).bind fun x=>(seqAt st b).bind fun y=>if lim<x.length+y.length then none else some (alloc st (.lst true (x++y)))
 |.Sub,.int i,.int j=>some (.int (i - j),st)
 |.Mult,.int i,.int j=>if mulOk i j then some (.int (i*j),st) else none
 |.Mult,.tup a,.int k=>if decide (k < -(2 ^ 62))||decide (2 ^ 62≤k)||decide (lim<a.length*k.toNat) then none else some (.tup (List.replicate k.toNat a).flatten,st)
 |.Mult,.loc l,.int k=>(wlistAt st l).bind fun a=>if decide (k < -(2 ^ 62))||decide (2 ^ 62≤k)||decide (lim<a.length*k.toNat) then none else some (alloc st (.lst true (List.replicate k.toNat a).flatten))
 |.FloorDiv,.int i,.int j=>if 0<j∧j<2 ^ 64 then some (.int (i / j),st) else none
 |.Mod,.int i,.int j=>if 0<j then some (.int (i % j),st) else none
 |.Pow,.int i,.int j=>if 0≤j∧j≤1000∧i.natAbs<2 ^ 64 then some (.int (i ^ j.toNat),st) else none
 |_,_,_=>none
noncomputable def addK(S:List (List Int))(k:List Int):List (List Int):=if k∈S then S else S++[k]
noncomputable def distinct(ks:List (List Int)):List (List Int):=ks.foldl addK []
noncomputable def keyD:D→Option (List Int)
 |.tup ds=>ds.mapM fun d=>match d with|.int i=>some i|_=>none
 |_=>none
noncomputable def qg2:D→Option D
 |.tup ds=>(ds.mapM keyD).bind fun ks=>if ds.length≤16 then some (.int (distinct ks).length) else none
 |_=>none
noncomputable def catT(st:Store):D→D→Option (D×Store)
 |.tup a,.tup b=>if lim<a.length+b.length then none else some (.tup (a++b),st)
 |_,_=>none
noncomputable def ixN(n:Nat)(i:Int):Option Nat:=if 0≤i then(if i<n then some i.toNat else none) else if -(n:Int)≤i then some (i+n).toNat else none
noncomputable def atI{α:Type}(xs:List α)(i:Int):Option α:=(ixN xs.length i).bind fun j=>xs[j]?
noncomputable def idxD(st:Store):D→D→Option D
 |.tup ds,.int i=>atI ds i
 |.str z,.int i=>if lim<z.length then none else(atI z.cps.toList i).map fun c=>.str ⟨#[c]⟩
 |d,.int i=>(seqAt st d).bind fun ds=>atI ds i
 |_,_=>none
noncomputable def cutIx(n d:Nat):Option Int→Nat
 |none=>d
 |some v=>if v<0 then(v+(n:Int)).toNat else min v.toNat n
noncomputable def cut{α:Type}(xs:List α)(lo hi:Option Int):List α:=(xs.drop (cutIx xs.length 0 lo)).take (cutIx xs.length xs.length hi - cutIx xs.length 0 lo)
noncomputable def oneOf(z:Str):Option Nat:=match z.cps.toList with
 |[c]=>some c
 |_=>none
noncomputable def sliD(st:Store):D→Option Int→Option Int→Option (D×Store)
 |.tup ds,lo,hi=>some (.tup (cut ds lo hi),st)
 |.str z,lo,hi=>if lim<z.length then none else some (.str ⟨(cut z.cps.toList lo hi).toArray⟩,st)
 |d,lo,hi=>(seqAt st d).map fun ds=>alloc st (.lst true (cut ds lo hi))
noncomputable def inD(st:Store)(x:D):D→Option Bool
 |.tup ds=>if flat 9 x&&flats 9 ds then some (ds.any fun y=>eqT y x) else none
 |.str z=>match x with
  |.str i=>(oneOf i).map fun c=>decide (c∈z.cps.toList)
  |_=>none
 |d=>(seqAt st d).bind fun ds=>if flat 9 x&&flats 9 ds then some (ds.any fun y=>eqT y x) else none
noncomputable def eqD(st:Store)(x y:D):Option Bool:=match seqAt st x,seqAt st y with
 |some a,some b=>if flats 9 a&&flats 9 b then some (eqTs a b) else none
 |_,_=>if flat 9 x&&flat 9 y then some (eqT x y) else none
noncomputable def neD(st:Store)(a b:D):Option Bool:=(eqD st a b).map (!·)
noncomputable def isNon:D→Bool
 |.non=>true
 |_=>false
noncomputable def cmpD(st:Store):CmpOp→D→D→Option Bool
 |.Lt,.int i,.int j=>some (decide (i<j))
 |.LtE,.int i,.int j=>some (decide (i≤j))
 |.Gt,.int i,.int j=>some (decide (j<i))
 |.GtE,.int i,.int j=>some (decide (j≤i))
 |.Eq,x,y=>eqD st x y
 |.NotEq,x,y=>neD st x y
 |.Is,x,.non=>some (isNon x)
 |.IsNot,x,.non=>some (!isNon x)
 |.In,x,y=>inD st x y
 |.NotIn,x,y=>(inD st x y).map (!·)
 |_,_,_=>none
noncomputable def tyName(st:Store):D→Option Ty
 |.non=>some .non
 |.bl _=>some .bl
 |.int _=>some .int
 |.str _=>some .str
 |.tup _=>some .tup
 |d=>(seqAt st d).map fun _=>.lst
noncomputable def tyIs(t n:Ty):Bool:=t==n||(t==.int&&n==.bl)
noncomputable def truth(st:Store):D→Option Bool
 |.non=>some false
 |.bl b=>some b
 |.int i=>some (i != 0)
 |.tup ds=>some (!ds.isEmpty)
 |.str z=>if lim<z.length then none else some ((z.length:Int) != 0)
 |d=>(seqAt st d).map fun ds=>!ds.isEmpty
noncomputable def insInt(x:Int):List Int→List Int
 |[]=>[x]
 |y::r=>if x≤y then x::y::r else y::insInt x r
noncomputable def sortInt:List Int→List Int
 |[]=>[]
 |x::r=>insInt x (sortInt r)
noncomputable def asInts:List D→Option (List Int)
 |[]=>some []
 |.int i::r=>(asInts r).map (i::·)
 |_=>none
noncomputable def asBools:List D→Option (List Bool)
 |[]=>some []
 |.bl i::r=>(asBools r).map (i::·)
 |_=>none
noncomputable def bLen(st:Store):List D→Option (D×Store)
 |[.tup ds]=>some (.int ds.length,st)
 |[.str z]=>if lim<z.length then none else some (.int z.length,st)
 |[d]=>(seqAt st d).map fun ds=>(.int ds.length,st)
 |_=>none
noncomputable def augD(st:Store):Operator→D→D→Option D
 |.Add,.int i,.int j=>some (.int (i+j))
 |.Sub,.int i,.int j=>some (.int (i - j))
 |.Mult,.int i,.int j=>if mulOk i j then some (.int (i*j)) else none
 |.Add,.str a,.str b=>if lim<a.length+b.length then none else some (.str (a++b))
 |_,_,_=>none
noncomputable def bMin(st:Store):List D→Option (D×Store)
 |[.int i,.int j]=>some (.int (if j<i then j else i),st)
 |_=>none
noncomputable def bMax(st:Store):List D→Option (D×Store)
 |[.int i,.int j]=>some (.int (if j > i then j else i),st)
 |_=>none
noncomputable def bTuple(st:Store):List D→Option (D×Store)
 |[.tup ds]=>some (.tup ds,st)
 |[d]=>(seqAt st d).map fun ds=>(.tup ds,st)
 |_=>none
noncomputable def bList(st:Store):List D→Option (D×Store)
 |[.tup ds]=>some (alloc st (.lst true ds))
 |[d]=>((seqAt st d).or (dkeys st d)).map fun ds=>alloc st (.lst true ds)
 |_=>none
noncomputable def bDict(st:Store):List D→Option (D×Store)
 |[.loc l]=>(dicAt st l).map fun kvs=>alloc st (.dic true kvs)
 |_=>none
noncomputable def bAll(st:Store):List D→Option (D×Store)
 |[d]=>(seqAt st d).bind fun ds=>(asBools ds).map fun bs=>(.bl (bs.all id),st)
 |_=>none
noncomputable def bAny(st:Store):List D→Option (D×Store)
 |[d]=>(seqAt st d).bind fun ds=>(asBools ds).map fun bs=>(.bl (bs.any id),st)
 |_=>none
noncomputable def bSorted(st:Store):List D→Option (D×Store)
 |[d]=>((seqAt st d).or (dkeys st d)).bind fun ds=>(if 64≤ds.length then none else asInts ds).map fun ns=>alloc st (.lst true ((sortInt ns).map .int))
 |_=>none
noncomputable def isFig(c:Nat):Bool:=decide (48≤c)&&decide (c≤57)
noncomputable def figVal(cs:List Nat):Nat:=cs.foldl (fun acc c=>acc*10+(c - 48)) 0
noncomputable def bInt(st:Store):List D→Option (D×Store)
 |[.str z]=>if !z.cps.toList.isEmpty&&z.cps.toList.all isFig&&decide (z.length≤640) then some (.int (figVal z.cps.toList:Nat),st) else none
 |[.int i]=>some (.int i,st)
 |[.bl b]=>some (.int (if b then 1 else 0),st)
 |_=>none
noncomputable def bStr(st:Store):List D→Option (D×Store)
 |[.int i]=>if i.natAbs.log2<1920 then some (.str (Str.ofString (toString i)),st) else none
 |[.str z]=>some (.str z,st)
 |_=>none
noncomputable def qf5(c:Nat):List Nat→List (List Nat)
 |[]=>[[]]
 |x::r=>if x=c then []::qf5 c r else match qf5 c r with
  |[]=>[[x]]
  |p::ps=>(x::p)::ps
noncomputable def mSplit(st:Store):D→List D→Option (D×Store)
 |.str z,[.str y]=>(oneOf y).bind fun c=>if z.length<1000000 then some (alloc st (.lst true ((qf5 c z.cps.toList).map fun p=>.str ⟨p.toArray⟩))) else none
 |_,_=>none
noncomputable def fmtD:D→Option D
 |.int i=>if i.natAbs.log2<1920 then some (.str (Str.ofString (toString i))) else none
 |.str z=>if z.length≤lim then some (.str z) else none
 |_=>none
noncomputable def catD:List D→Str→Option Str
 |[],acc=>some acc
 |.str z::r,acc=>if (acc++z).length≤lim then catD r (acc++z) else none
 |_,_=>none
noncomputable def qmt:List D→Option (List Str)
 |[]=>some []
 |.str i::r=>(qmt r).map (i::·)
 |_=>none
noncomputable def findC(cs:List Nat)(c:Nat):Int:=match cs.findIdx? (· == c) with
 |some i=>(i:Int)
 |none=>-1
noncomputable def mFind(st:Store):D→List D→Option (D×Store)
 |.str z,[.str y]=>(oneOf y).map fun c=>(.int (findC z.cps.toList c),st)
 |_,_=>none
noncomputable def mJoin(st:Store):D→List D→Option (D×Store)
 |.str z,[d]=>(seqAt st d).bind fun ds=>(qmt ds).bind fun ts=>if (ts.map (·.length)).sum+ts.length*z.length≤lim then some (.str (Str.join z ts),st) else none
 |_,_=>none
noncomputable def bfun(st:Store):B→List D→Option (D×Store)
 |.len=>bLen st
 |.min=>bMin st
 |.max=>bMax st
 |.tuple=>bTuple st
 |.list=>bList st
 |.all=>bAll st
 |.sorted=>bSorted st
 |.int=>bInt st
 |.str=>bStr st
 |.any=>bAny st
 |.dict=>bDict st
noncomputable def mAppend(st:Store):D→List D→Option (D×Store)
 |.loc l,[d]=>(wlistAt st l).bind fun ds=>if ds.length<lim then some (.non,st.set l (.lst true (ds++[d]))) else none
 |_,_=>none
noncomputable def mExtend(st:Store):D→List D→Option (D×Store)
 |.loc l,[d]=>(wlistAt st l).bind fun ds=>(match d with|.tup es=>some es|d=>seqAt st d).bind fun es=>if ds.length+es.length≤lim then some (.non,st.set l (.lst true (ds++es))) else none
 |_,_=>none
noncomputable def mIndex(st:Store):D→List D→Option (D×Store)
 |d,[x]=>(seqAt st d).bind fun ds=>if flat 9 x&&flats 9 ds then(ds.findIdx? fun y=>eqT y x).map fun(j:Nat)=>(.int (j:Int),st) else none
 |_,_=>none
noncomputable def mfun(st:Store):Mt→D→List D→Option (D×Store)
 |.append=>mAppend st
 |.find=>mFind st
 |.join=>mJoin st
 |.split=>mSplit st
 |.extend=>mExtend st
 |.index=>mIndex st
noncomputable def Mt.ofList:Mt→Bool
 |.append=>true
 |.extend=>true
 |.index=>true
 |_=>false
noncomputable def mty(st:Store)(m:Mt):D→Bool
 |.str _=>!m.ofList
 |d=>m.ofList&&(seqAt st d).isSome
noncomputable def setIxD(st:Store):D→D→D→Option Store
 |.loc l,.int i,d=>(wlistAt st l).bind fun ds=>(ixN ds.length i).map fun j=>st.set l (.lst true (ds.set j d))
 |_,_,_=>none
inductive Out where
 |nx (τ:Sl)
 |rt (d:D)
 |bk (τ:Sl)
 |ct (τ:Sl)
structure R where
 ev:Sl→Store→E→Option (D×Store)
 tst:Sl→Store→E→Option (Bool×Store)
 ex:Sl→Store→List S→Option (Out×Store)
 call:Nat→List D→Store→Option (D×Store)
noncomputable def evs(f:Store→E→Option (D×Store)):List E→Store→Option (List D×Store)
 |[],st=>some ([],st)
 |e::es,st=>(f st e).bind fun p=>(evs f es p.2).bind fun q=>some (p.1::q.1,q.2)
noncomputable def setIs:List Nat→List D→Sl→Option Sl
 |[],[],τ=>some τ
 |i::is,d::ds,τ=>if i<τ.length then setIs is ds (τ.set i (some d)) else none
 |_,_,_=>none
noncomputable def setT:T→D→Sl→Option Sl
 |.var i,d,τ=>if i<τ.length then some (τ.set i (some d)) else none
 |.tup is,.tup ds,τ=>setIs is ds τ
 |_,_,_=>none
inductive Src where
 |tup (ds:List D)
 |lst (d:D)
 |rng (lo:Int) (n:Nat)
 |rgs (lo c:Int) (n:Nat)
 |zip (a b:D)
 |str (z:Str)
noncomputable def rowAt(st:Store):D→Option (List D)
 |.tup ds=>some ds
 |d=>seqAt st d
noncomputable def pairAt(xs ys:List D)(i:Nat):Option D:=match xs[i]?,ys[i]? with
 |some x,some y=>some (.tup [x,y])
 |_,_=>none
noncomputable def Src.at(st:Store)(i:Nat):Src→Option (Option D)
 |.tup ds=>some ds[i]?
 |.lst d=>(seqAt st d).map fun ds=>ds[i]?
 |.rng lo n=>some (if i<n then some (.int (lo+i)) else none)
 |.rgs lo c n=>some (if i<n then some (.int (lo+i*c)) else none)
 |.zip a b=>(rowAt st a).bind fun xs=>(rowAt st b).map fun ys=>pairAt xs ys i
 |.str z=>some ((z.cps.toList.map fun c=>D.str ⟨#[c]⟩)[i]?)
noncomputable def Src.size(st:Store):Src→Nat
 |.tup ds=>ds.length
 |.lst d=>((seqAt st d).getD []).length
 |.rng _ n=>n
 |.rgs _ _ n=>n
 |.str z=>z.cps.toList.length
 |.zip a b=>min ((rowAt st a).getD []).length ((rowAt st b).getD []).length
noncomputable def big(i:Int):Bool:=decide (i < -(2 ^ 62))||decide (2 ^ 62≤i)
noncomputable def src(r:R)(τ:Sl)(st:Store):E→Option (Src×Store)
 |.rng1 a=>(r.ev τ st a).bind fun p=>match p.1 with
  |.int n=>if big n then none else some (.rng 0 n.toNat,p.2)
  |_=>none
 |.rng2 a b=>(r.ev τ st a).bind fun p=>(r.ev τ p.2 b).bind fun q=>match p.1,q.1 with
  |.int i,.int j=>if big i||big j then none else some (.rng i (j - i).toNat,q.2)
  |_,_=>none
 |.rng3 a b c=>(r.ev τ st a).bind fun p=>(r.ev τ p.2 b).bind fun q=>(r.ev τ q.2 c).bind fun u=>match p.1,q.1,u.1 with
  |.int i,.int j,.int k=>if big i||big j || !(decide (0<k)&&decide (k<1000)) then none else some (.rgs i k (if i<j then(j - i - 1) / k+1 else 0).toNat,u.2)
  |_,_,_=>none
 |.zip a b=>(r.ev τ st a).bind fun p=>(r.ev τ p.2 b).bind fun q=>(rowAt q.2 p.1).bind fun _=>(rowAt q.2 q.1).map fun _=>(.zip p.1 q.1,q.2)
 |e=>(r.ev τ st e).bind fun p=>match p.1 with
  |.tup ds=>some (.tup ds,p.2)
  |.str z=>if z.cps.all (· < 128) then some (.str z,p.2) else none
  |d=>(seqAt p.2 d).map fun _=>(.lst d,p.2)
noncomputable def loop(it:Src)(f:Sl→Store→D→Option (Out×Store)):Nat→Nat→Sl→Store→Option (Out×Store)
 |0,_,_,_=>none
 |k+1,i,τ,st=>(it.at st i).bind fun o=>match o with
  |none=>some (.nx τ,st)
  |some d=>(f τ st d).bind fun p=>match p.1 with
   |.nx τ'=>loop it f k (i+1) τ' p.2
   |.ct τ'=>loop it f k (i+1) τ' p.2
   |.bk τ'=>some (.nx τ',p.2)
   |.rt v=>some (.rt v,p.2)
noncomputable def turnC(r:R)(t:T)(test:Option E)(elt:E)(τ:Sl)(st:Store)(d:D):Option (Option D×Sl×Store):=
 (setT t d τ).bind fun τ'=>match test with
  |none=>(r.ev τ' st elt).map fun p=>(some p.1,τ',p.2)
  |some c=>(r.tst τ' st c).bind fun b=>if b.1 then(r.ev τ' b.2 elt).map fun p=>(some p.1,τ',p.2) else some (none,τ',b.2)
noncomputable def loopC(it:Src)(f:Sl→Store→D→Option (Option D×Sl×Store)):Nat→Nat→List D→Sl→Store→Option (List D×Store)
 |0,_,_,_,_=>none
 |k+1,i,acc,τ,st=>(it.at st i).bind fun o=>match o with
  |none=>if lim<acc.length then none else some (acc,st)
  |some d=>if lim≤acc.length then none else(f τ st d).bind fun p=>loopC it f k (i+1) (match p.1 with|some x=>acc++[x]|none=>acc) p.2.1 p.2.2
noncomputable def inner(src:List (Option Nat))(τ:Sl):Sl:=src.map fun o=>o.bind fun i=>(τ[i]?).bind id
noncomputable def part(r:R)(τ:Sl)(st:Store):Option E→Option (Option Int×Store)
 |none=>some (none,st)
 |some e=>(r.ev τ st e).bind fun p=>match p.1 with
  |.int i=>some (some i,p.2)
  |_=>none
noncomputable def qe1(f:Sl→Store→Option (Bool×Store))(g:Sl→Store→Option (Out×Store)):Nat→Sl→Store→Option (Out×Store)
 |0,_,_=>none
 |k+1,τ,st=>(f τ st).bind fun b=>if b.1 then(g τ b.2).bind fun p=>match p.1 with
   |.nx τ'=>qe1 f g k τ' p.2
   |.ct τ'=>qe1 f g k τ' p.2
   |.bk τ'=>some (.nx τ',p.2)
   |.rt v=>some (.rt v,p.2)
  else some (.nx τ,b.2)
noncomputable def dinR(r:R)(τ:Sl)(st:Store)(neg:Bool)(a b:E):Option (D×Store):=
 (r.ev τ st a).bind fun p=>(r.ev τ p.2 b).bind fun q=>match q.1 with
  |.loc l=>(dicAt q.2 l).bind fun kvs=>if isKey p.1 then some (.bl ((dget kvs p.1).isSome != neg),q.2) else none
  |_=>none
noncomputable def ginR(r:R)(τ:Sl)(st:Store)(neg:Bool)(ks:List Str)(b:E):Option (D×Store):=
 (r.ev τ st b).bind fun p=>match p.1 with
  |.str z=>some (.bl (ks.contains z != neg),p.2)
  |_=>none
noncomputable def stepEv(r:R)(τ:Sl)(st:Store):E→Option (D×Store)
 |.var i=>match τ[i]? with
  |some (some d)=>some (d,st)
  |_=>none
 |.lit d=>some (d,st)
 |.glo _ d=>some (d,st)
 |.bin op a b=>(r.ev τ st a).bind fun p=>(r.ev τ p.2 b).bind fun q=>binop q.2 op p.1 q.1
 |.neg a=>(r.ev τ st a).bind fun p=>match p.1 with
  |.int i=>some (.int (-i),p.2)
  |_=>none
 |.not a=>(r.ev τ st a).bind fun p=>match p.1 with
  |.bl b=>some (.bl (!b),p.2)
  |_=>none
 |.cmp op a b=>(r.ev τ st a).bind fun p=>(r.ev τ p.2 b).bind fun q=>(cmpD q.2 op p.1 q.1).map fun k=>(.bl k,q.2)
 |.cmp2 op op' a b c=>(r.ev τ st a).bind fun p=>(r.ev τ p.2 b).bind fun q=>(cmpD q.2 op p.1 q.1).bind fun k=>
   if k then(r.ev τ q.2 c).bind fun u=>(cmpD u.2 op' q.1 u.1).map fun k'=>(.bl k',u.2) else some (.bl false,q.2)
 |.and a b=>(r.ev τ st a).bind fun p=>match p.1 with
  |.bl true=>r.ev τ p.2 b
  |.bl false=>some (.bl false,p.2)
  |_=>none
 |.or a b=>(r.ev τ st a).bind fun p=>match p.1 with
  |.bl false=>r.ev τ p.2 b
  |.bl true=>some (.bl true,p.2)
  |_=>none
 |.ite c a b=>(r.tst τ st c).bind fun p=>if p.1 then r.ev τ p.2 a else r.ev τ p.2 b
 |.tup es=>(evs (r.ev τ) es st).bind fun p=>if lim<p.1.length then none else some (.tup p.1,p.2)
 |.lst es=>(evs (r.ev τ) es st).bind fun p=>if lim<p.1.length then none else some (alloc p.2 (.lst true p.1))
 |.idx a b=>(r.ev τ st a).bind fun p=>(r.ev τ p.2 b).bind fun q=>(idxD q.2 p.1 q.1).map fun d=>(d,q.2)
 |.sli a lo hi=>(r.ev τ st a).bind fun p=>(part r τ p.2 lo).bind fun l=>(part r τ l.2 hi).bind fun h=>sliD h.2 p.1 l.1 h.1
 |.call f es=>(evs (r.ev τ) es st).bind fun p=>r.call f p.1 p.2
 |.bcall f es=>(evs (r.ev τ) es st).bind fun p=>bfun p.2 f p.1
 |.isi a ts _=>(r.ev τ st a).bind fun p=>(tyName p.2 p.1).map fun n=>(.bl (ts.any fun t=>tyIs t n),p.2)
 |.meth a m es=>(r.ev τ st a).bind fun p=>if mty p.2 m p.1 then(evs (r.ev τ) es p.2).bind fun q=>mfun q.2 m p.1 q.1 else none
 |.gc a=>(r.ev τ st a).map fun p=>gcD st p
 |.rng1 _=>none
 |.rng2 _ _=>none
 |.rng3 _ _ _=>none
 |.zip _ _=>none
 |.dic es=>(evs (r.ev τ) es (st++[.dic true []])).bind fun p=>match wdicAt p.2 st.length with
  |some []=>(pairUp p.1).bind fun kvs=>if kvs.length≤15 then some (.loc st.length,p.2.set st.length (.dic true (dall kvs))) else none
  |_=>none
 |.didx a b=>(r.ev τ st a).bind fun p=>(r.ev τ p.2 b).bind fun q=>match p.1 with
  |.loc l=>(dicAt q.2 l).bind fun kvs=>if isKey q.1 then(dget kvs q.1).map fun d=>(d,q.2) else none
  |_=>none
 |.din neg a b=>dinR r τ st neg a b
 |.dgt a b=>(r.ev τ st a).bind fun p=>match p.1 with
  |.loc l=>(dicAt p.2 l).bind fun _=>(r.ev τ p.2 b).bind fun q=>(dicAt q.2 l).bind fun kvs=>if isKey q.1 then some ((dget kvs q.1).getD .non,q.2) else none
  |_=>none
 |.fmt a=>(r.ev τ st a).bind fun p=>(fmtD p.1).map fun d=>(d,p.2)
 |.fstr es=>(evs (r.ev τ) es st).bind fun p=>(catD p.1 Str.empty).map fun z=>(.str z,p.2)
 |.gidx _ ks ds b=>(r.ev τ st b).bind fun p=>match p.1 with
  |.str z=>((ks.zip ds).find? fun q=>q.1==z).map fun q=>(q.2,p.2)
  |_=>none
 |.gin neg _ ks b=>ginR r τ st neg ks b
 |.lenset a=>(r.ev τ st a).bind fun p=>(qg2 p.1).map fun d=>(d,p.2)
 |.cat a b=>(r.ev τ st a).bind fun p=>(r.ev τ p.2 b).bind fun q=>catT q.2 p.1 q.1
 |.rev a=>(r.ev τ st a).bind fun p=>(seqAt p.2 p.1).map fun ds=>alloc p.2 (.lst true ds.reverse)
 |.comp t it test elt sr=>(src r τ st it).bind fun p=>
   (loopC p.1 (turnC r t test elt) (p.1.size p.2+1) 0 [] (inner sr τ) p.2).map fun q=>alloc q.2 (.lst true q.1)
 |.attr C a f=>(r.ev τ st a).bind fun p=>(objAt p.2 C p.1).bind fun fs=>(fs.lookup f).map fun d=>(d,p.2)
 |.mcall C f m a es=>(r.ev τ st a).bind fun p=>(objAt p.2 C p.1).bind fun fs=>if (fs.lookup m).isSome then none else(evs (r.ev τ) es p.2).bind fun q=>r.call f (p.1::q.1) q.2
 |.new C f es=>(evs (r.ev τ) es st).bind fun p=>(r.call f (.loc p.2.length::p.1) (p.2++[.obj C []])).bind fun q=>if isNon q.1 then some (.loc p.2.length,q.2) else none
noncomputable def stepTst(r:R)(τ:Sl)(st:Store):E→Option (Bool×Store)
 |.not a=>(r.tst τ st a).map fun p=>(!p.1,p.2)
 |.and a b=>(r.tst τ st a).bind fun p=>if p.1 then r.tst τ p.2 b else some (false,p.2)
 |.or a b=>(r.tst τ st a).bind fun p=>if p.1 then some (true,p.2) else r.tst τ p.2 b
 |.ite _ _ _=>none
 |.din neg a b=>(dinR r τ st neg a b).bind fun p=>(truth p.2 p.1).map fun k=>(k,p.2)
 |.gin neg _ ks b=>(ginR r τ st neg ks b).bind fun p=>(truth p.2 p.1).map fun k=>(k,p.2)
 |.cmp op a b=>(r.ev τ st a).bind fun p=>(r.ev τ p.2 b).bind fun q=>(cmpD q.2 op p.1 q.1).map fun k=>(k,q.2)
 |.cmp2 op op' a b c=>(r.ev τ st a).bind fun p=>(r.ev τ p.2 b).bind fun q=>(cmpD q.2 op p.1 q.1).bind fun k=>
   if k then(r.ev τ q.2 c).bind fun u=>(cmpD u.2 op' q.1 u.1).map fun k'=>(k',u.2) else some (false,q.2)
 |e=>(r.ev τ st e).bind fun p=>(truth p.2 p.1).map fun k=>(k,p.2)
noncomputable def stepEx(r:R)(τ:Sl)(st:Store):S→Option (Out×Store)
 |.set t e=>(r.ev τ st e).bind fun p=>(setT t p.1 τ).map fun τ'=>(.nx τ',p.2)
 |.setIx a i e=>(r.ev τ st e).bind fun p=>(r.ev τ p.2 a).bind fun q=>(r.ev τ q.2 i).bind fun u=>(setIxD u.2 q.1 u.1 p.1).map fun st'=>(.nx τ,st')
 |.dset a i e=>(r.ev τ st e).bind fun p=>(r.ev τ p.2 a).bind fun q=>(r.ev τ q.2 i).bind fun u=>match q.1 with
  |.loc l=>(wdicAt u.2 l).bind fun kvs=>if isKey u.1&&decide (kvs.length<lim) then some (.nx τ,u.2.set l (.dic true (dput kvs u.1 p.1))) else none
  |_=>none
 |.setA C a f e=>(r.ev τ st e).bind fun p=>(r.ev τ p.2 a).bind fun q=>(objAt q.2 C q.1).bind fun fs=>match q.1 with
  |.loc l=>if fs.length<900 then some (.nx τ,q.2.set l (.obj C (putA f p.1 fs))) else none
  |_=>none
 |.ford t a body=>(r.ev τ st a).bind fun p=>match p.1 with
  |.loc l=>(wdicAt p.2 l).bind fun kvs=>(loop (.tup (keysOf kvs)) (fun τ st d=>(setT t d τ).bind fun τ'=>r.ex τ' st body) (kvs.length+1) 0 τ (p.2.set l (.dic false kvs))).bind fun q=>
   match q.2[l]? with
   |some (.dic false kvs')=>some (q.1,q.2.set l (.dic true kvs'))
   |_=>none
  |_=>none
 |.bad=>none
 |.rais=>none
 |.expr e=>(r.ev τ st e).map fun p=>(.nx τ,p.2)
 |.ret e=>(r.ev τ st e).map fun p=>(.rt p.1,p.2)
 |.retN=>some (.rt .non,st)
 |.ite c a b=>(r.tst τ st c).bind fun p=>if p.1 then r.ex τ p.2 a else r.ex τ p.2 b
 |.forr t it body=>(src r τ st it).bind fun p=>
   loop p.1 (fun τ st d=>(setT t d τ).bind fun τ'=>r.ex τ' st body) (p.1.size p.2+1) 0 τ p.2
 |.whil c body=>qe1 (fun τ st=>r.tst τ st c) (fun τ st=>r.ex τ st body) lim τ st
 |.aug i op e=>match τ[i]? with
  |some (some x)=>(r.ev τ st e).bind fun p=>(augD p.2 op x p.1).map fun z=>(.nx (τ.set i (some z)),p.2)
  |_=>none
 |.brk=>some (.bk τ,st)
 |.cnt=>some (.ct τ,st)
 |.pass=>some (.nx τ,st)
noncomputable def exs(f:Sl→Store→S→Option (Out×Store)):List S→Sl→Store→Option (Out×Store)
 |[],τ,st=>some (.nx τ,st)
 |s::ss,τ,st=>(f τ st s).bind fun p=>match p.1 with
  |.nx τ'=>exs f ss τ' p.2
  |o=>some (o,p.2)
noncomputable def stepCall(fns:List Fn)(r:R)(f:Nat)(ds:List D)(st:Store):Option (D×Store):=
 match fns[f]? with
 |some F=>if ds.length=F.np then(r.ex (ds.map some++List.replicate (F.nl - ds.length) none) st F.body).bind fun p=>match p.1 with
   |.rt d=>some (d,p.2)
   |.nx _=>some (.non,p.2)
   |_=>none
  else none
 |none=>none
noncomputable def step(c:Nat→List D→Store→Option (D×Store))(r:R):R:=⟨stepEv r,stepTst r,fun τ st ss=>exs (stepEx r) ss τ st,c⟩
noncomputable def runK(c:Nat→List D→Store→Option (D×Store)):Nat→R
 |0=>⟨fun _ _ _=>none,fun _ _ _=>none,fun _ _ _=>none,c⟩
 |k+1=>step c (runK c k)
open Classical in
noncomputable def lim1{α:Type}(f:Nat→Option α):Option α:=if h:∃ x,∃ n,f n=some x then some h.choose else none
noncomputable def RL(c:Nat→List D→Store→Option (D×Store)):R:=⟨fun τ st e=>lim1 fun n=>(runK c n).ev τ st e,fun τ st e=>lim1 fun n=>(runK c n).tst τ st e,fun τ st e=>lim1 fun n=>(runK c n).ex τ st e,c⟩
noncomputable def callD(fns:List Fn):Nat→Nat→List D→Store→Option (D×Store)
 |0=>fun _ _ _=>none
 |d+1=>stepCall fns (RL (callD fns d))
noncomputable abbrev rn(fns:List Fn)(d n:Nat):R:=runK (callD fns d) n
noncomputable abbrev Lv(fns:List Fn)(d:Nat):R:=RL (callD fns d)
theorem lim1_is{α:Type}{f:Nat→Option α}{x:α}(h:lim1 f=some x):∃ n,f n=some x:=by
 unfold lim1 at h
 split at h
 ·rename_i hx
  obtain⟨n,hn⟩:=hx.choose_spec
  exact⟨n,by rw[hn]; exact h⟩
 ·cases h
theorem runK_call(c:Nat→List D→Store→Option (D×Store)):∀ n,(runK c n).call=c
 |0=>rfl
 |_+1=>rfl
end M
end
section
namespace M
open PySem (Str)
theorem qjd:∀ (a:List S){b:List S}{f:Sl→Store→S→Option (Out×Store)}{τ τ':Sl}{s s':Store},exs f a τ s=some (.nx τ',s')→exs f (a++b) τ s=exs f b τ' s'
 |[],b,f,τ,τ',s,s',h=>by cases h; rfl
 |x::a,b,f,τ,τ',s,s',h=>by
  simp only[exs,List.cons_append]at h ⊢
  cases q:f τ s x with
  |none=>rw[q]at h; cases h
  |some p=>
   rw[q]at h
   simp only[oBs]at h ⊢
   cases hp:p.1 with
   |nx τ2=>rw[hp]at h; simp only at h ⊢; exact qjd a h
   |rt d=>rw[hp]at h; cases h
   |bk d=>rw[hp]at h; cases h
   |ct d=>rw[hp]at h; cases h
theorem qzb{x:S}{b:List S}{f:Sl→Store→S→Option (Out×Store)}{τ τ':Sl}{s s':Store}(h:f τ s x=some (.nx τ',s')):exs f (x::b) τ s=exs f b τ' s':=by
 simp only[exs,h,oBs]
theorem qz6{x:S}{b:List S}{f:Sl→Store→S→Option (Out×Store)}{τ:Sl}{s s':Store}{d:D}(h:f τ s x=some (.rt d,s')):exs f (x::b) τ s=some (.rt d,s'):=by
 simp only[exs,h,oBs]
theorem eqT_bb(a b:Bool):eqT (.bl a) (.bl b)=(a==b):=by rw[eqT]
theorem eqT_ii(a b:Int):eqT (.int a) (.int b)=(a==b):=by rw[eqT]
theorem eqT_ss(a b:Str):eqT (.str a) (.str b)=(a==b):=by rw[eqT]
theorem eqT_nn:eqT .non .non=true:=by rw[eqT]
theorem flat_b(n:Nat)(a:Bool):flat n (.bl a)=true:=by cases n<;>rfl
theorem flat_i(n:Nat)(a:Int):flat n (.int a)=true:=by cases n<;>rfl
theorem flat_s(n:Nat)(a:Str):flat n (.str a)=true:=by cases n<;>rfl
theorem flat_n(n:Nat):flat n .non=true:=by cases n<;>rfl
theorem qbg(st:Store)(a b:Bool):eqD st (.bl a) (.bl b)=some (a==b):=by simp[eqD,seqAt,flat_b,eqT_bb]
theorem qbf(st:Store)(a b:Int):eqD st (.int a) (.int b)=some (a==b):=by simp[eqD,seqAt,flat_i,eqT_ii]
theorem eqD_ss(st:Store)(a b:Str):eqD st (.str a) (.str b)=some (a==b):=by simp[eqD,seqAt,flat_s,eqT_ss]
theorem eqD_nn(st:Store):eqD st .non .non=some true:=by simp[eqD,seqAt,flat_n,eqT_nn]
theorem qa8{f:Sl→Store→D→Option (Out×Store)}{lo:Int}{n:Nat}(P:Nat→Sl→Store→Prop)(hs:∀ i τ st,i<n→P i τ st→∃ τ' st',f τ st (.int (lo+i))=some (.nx τ',st')∧P (i+1) τ' st'):
  ∀ (k i:Nat) (τ:Sl) (st:Store),i+k=n→P i τ st→∃ τ' st',loop (.rng lo n) f (k+1) i τ st=some (.nx τ',st')∧P n τ' st'
 |0,i,τ,st,h,p=>by
  have:i=n:=by omega
  subst this
  exact⟨τ,st,by simp[loop,Src.at],p⟩
 |k+1,i,τ,st,h,p=>by
  have hi:i<n:=by omega
  obtain⟨τ',st',e,q⟩:=hs i τ st hi p
  obtain⟨τ2,st2,e2,q2⟩:=qa8 P hs k (i+1) τ' st' (by omega) q
  refine⟨τ2,st2,?_,q2⟩
  rw[loop]
  simp only[Src.at,hi,if_true,oBs,e]
  exact e2
theorem qy7{f:Sl→Store→D→Option (Out×Store)}{lo:Int}{n:Nat}{τ:Sl}{st:Store}(P:Nat→Sl→Store→Prop)(h0:P 0 τ st)(hs:∀ i τ st,i<n→P i τ st→∃ τ' st',f τ st (.int (lo+i))=some (.nx τ',st')∧P (i+1) τ' st'):
  ∃ τ' st',loop (.rng lo n) f (n+1) 0 τ st=some (.nx τ',st')∧P n τ' st':=qa8 P hs n 0 τ st (by omega) h0
theorem qe3(st:Store)(w:Bool)(ds:List D):listAt (st++[.lst w ds]) st.length=some ds:=by simp[listAt]
theorem qcj(st:Store)(ds:List D):wlistAt (st++[.lst true ds]) st.length=some ds:=by simp[wlistAt]
theorem qf7(st:Store)(c c':Cell):(st++[c]).set st.length c'=st++[c']:=by simp
end M
end
section
namespace M
open PySem (Str)
def Co{α:Type}(a:Option α)(b:Nat→Option α):Prop:=∀ x,a=some x→∃ n,∀ m,n≤m→b m=some x
theorem Co.refl{α:Type}(a:Option α):Co a fun _=>a:=fun _ h=>⟨0,fun _ _=>h⟩
theorem Co.none{α:Type}(b:Nat→Option α):Co Option.none b:=fun _ h=>by cases h
theorem Co.bind{α β:Type}{f:Option α}{f':Nat→Option α}{g:α→Option β}{g':Nat→α→Option β}(hf:Co f f')(hg:∀ a,Co (g a) fun m=>g' m a):Co (f.bind g) fun m=>(f' m).bind (g' m):=fun x h=>by
 cases e:f with
 |none=>rw[e]at h; cases h
 |some a=>
  rw[e]at h
  obtain⟨n,hn⟩:=hf a e
  obtain⟨k,hk⟩:=hg a x h
  refine⟨max n k,fun m hm=>?_⟩
  simp only
  rw[hn m (by omega)]
  exact hk m (by omega)
theorem Co.map{α β:Type}{f:Option α}{f':Nat→Option α}(g:α→β)(hf:Co f f'):Co (f.map g) fun m=>(f' m).map g:=fun x h=>by
 cases e:f with
 |none=>rw[e]at h; cases h
 |some a=>
  rw[e]at h
  obtain⟨n,hn⟩:=hf a e
  refine⟨n,fun m hm=>?_⟩
  simp only
  rw[hn m hm]
  exact h
theorem Co.ite{α:Type}{c:Prop} [Decidable c]{a b:Option α}{a' b':Nat→Option α}(ha:Co a a') (hb:Co b b'):Co (if c then a else b) fun m=>if c then a' m else b' m:=by
 by_cases h:c
 ·simp only[if_pos h]; exact ha
 ·simp only[if_neg h]; exact hb
structure Le (r:R) (r':Nat→R):Prop where
 ev:∀ τ st e,Co (r.ev τ st e) fun m=>(r' m).ev τ st e
 tst:∀ τ st e,Co (r.tst τ st e) fun m=>(r' m).tst τ st e
 ex:∀ τ st e,Co (r.ex τ st e) fun m=>(r' m).ex τ st e
 call:∀ f ds st,Co (r.call f ds st) fun m=>(r' m).call f ds st
theorem qz0{f:Store→E→Option (D×Store)}{f':Nat→Store→E→Option (D×Store)}(h:∀ st e,Co (f st e) fun m=>f' m st e):∀ (es:List E) (st:Store),Co (evs f es st) fun m=>evs (f' m) es st
 |[],st=>.refl _
 |e::es,st=>(h st e).bind fun p=>(qz0 h es p.2).bind fun q=>.refl _
theorem qx6{it:Src}{f:Sl→Store→D→Option (Out×Store)}{f':Nat→Sl→Store→D→Option (Out×Store)}(h:∀ τ st d,Co (f τ st d) fun m=>f' m τ st d):∀ (k i:Nat) (τ:Sl) (st:Store),Co (loop it f k i τ st) fun m=>loop it (f' m) k i τ st
 |0,_,_,_=>.refl _
 |k+1,i,τ,st=>by
  unfold loop
  refine(Co.refl _).bind fun o=>?_
  cases o with
  |none=>exact .refl _
  |some d=>
   refine(h τ st d).bind fun p=>?_
   cases hp:p.1 with
   |nx τ'=>exact qx6 h k _ _ _
   |ct τ'=>exact qx6 h k _ _ _
   |bk τ'=>exact .refl _
   |rt v=>exact .refl _
theorem qyx{it:Src}{f:Sl→Store→D→Option (Option D×Sl×Store)}{f':Nat→Sl→Store→D→Option (Option D×Sl×Store)}(h:∀ τ st d,Co (f τ st d) fun m=>f' m τ st d):∀ (k i:Nat) (acc:List D) (τ:Sl) (st:Store),Co (loopC it f k i acc τ st) fun m=>loopC it (f' m) k i acc τ st
 |0,_,_,_,_=>.refl _
 |k+1,i,acc,τ,st=>by
  unfold loopC
  refine(Co.refl _).bind fun o=>?_
  cases o with
  |none=>exact .refl _
  |some d=>exact Co.ite (.refl _) ((h τ st d).bind fun p=>qyx h k _ _ _ _)
theorem qj2{f:Sl→Store→Option (Bool×Store)}{f':Nat→Sl→Store→Option (Bool×Store)}{g:Sl→Store→Option (Out×Store)}{g':Nat→Sl→Store→Option (Out×Store)}(h:∀ τ st,Co (f τ st) fun m=>f' m τ st)(h':∀ τ st,Co (g τ st) fun m=>g' m τ st):∀ (k:Nat) (τ:Sl) (st:Store),Co (qe1 f g k τ st) fun m=>qe1 (f' m) (g' m) k τ st
 |0,_,_=>.refl _
 |k+1,τ,st=>by
  unfold qe1
  refine(h τ st).bind fun b=>Co.ite ((h' τ _).bind fun p=>?_) (.refl _)
  cases hp:p.1 with
  |nx τ'=>exact qj2 h h' k _ _
  |ct τ'=>exact qj2 h h' k _ _
  |bk τ'=>exact .refl _
  |rt v=>exact .refl _
theorem qav{f:Sl→Store→S→Option (Out×Store)}{f':Nat→Sl→Store→S→Option (Out×Store)}(h:∀ τ st s,Co (f τ st s) fun m=>f' m τ st s):∀ (ss:List S) (τ:Sl) (st:Store),Co (exs f ss τ st) fun m=>exs (f' m) ss τ st
 |[],_,_=>.refl _
 |s::ss,τ,st=>by
  unfold exs
  refine(h τ st s).bind fun p=>?_
  cases hp:p.1 with
  |nx τ'=>exact qav h ss _ _
  |_=>exact .refl _
section
variable {r:R}{r':Nat→R}(h:Le r r')
include h
theorem qc9(τ:Sl)(st:Store)(e:E):Co (src r τ st e) fun m=>src (r' m) τ st e:=by
 cases e with
 |rng1 a=>exact(h.ev τ st a).bind fun p=>.refl _
 |rng2 a b=>exact(h.ev τ st a).bind fun p=>(h.ev τ _ b).bind fun q=>.refl _
 |rng3 a b c=>exact(h.ev τ st a).bind fun p=>(h.ev τ _ b).bind fun q=>(h.ev τ _ c).bind fun u=>.refl _
 |zip a b=>exact(h.ev τ st a).bind fun p=>(h.ev τ _ b).bind fun q=>.refl _
 |_=>exact(h.ev τ st _).bind fun p=>.refl _
theorem qa4(τ:Sl)(st:Store)(e:Option E):Co (part r τ st e) fun m=>part (r' m) τ st e:=by
 cases e with
 |none=>exact .refl _
 |some e=>exact(h.ev τ st e).bind fun p=>.refl _
theorem qey(t:T)(test:Option E)(elt:E)(τ:Sl)(st:Store)(d:D):Co (turnC r t test elt τ st d) fun m=>turnC (r' m) t test elt τ st d:=by
 unfold turnC
 refine(Co.refl _).bind fun τ'=>?_
 cases test with
 |none=>exact(h.ev _ _ _).map _
 |some c=>exact(h.tst _ _ _).bind fun b=>Co.ite ((h.ev _ _ _).map _) (.refl _)
theorem qbi(τ:Sl)(st:Store)(neg:Bool)(a b:E):Co (dinR r τ st neg a b) fun m=>dinR (r' m) τ st neg a b:=(h.ev τ st a).bind fun p=>(h.ev τ _ b).bind fun q=>.refl _
theorem qby(τ:Sl)(st:Store)(neg:Bool)(ks:List PySem.Str)(b:E):Co (ginR r τ st neg ks b) fun m=>ginR (r' m) τ st neg ks b:=(h.ev τ st b).bind fun p=>.refl _
theorem qk9(τ:Sl)(st:Store)(e:E):Co (stepEv r τ st e) fun m=>stepEv (r' m) τ st e:=by
 cases e with
 |var i=>exact .refl _
 |lit d=>exact .refl _
 |glo x d=>exact .refl _
 |bin op a b=>exact(h.ev τ st a).bind fun p=>(h.ev τ _ b).bind fun q=>.refl _
 |neg a=>exact(h.ev τ st a).bind fun p=>.refl _
 |not a=>exact(h.ev τ st a).bind fun p=>.refl _
 |cmp op a b=>exact(h.ev τ st a).bind fun p=>(h.ev τ _ b).bind fun q=>.refl _
 |cmp2 op op' a b c=>exact(h.ev τ st a).bind fun p=>(h.ev τ _ b).bind fun q=>(Co.refl _).bind fun k=>Co.ite ((h.ev τ _ c).bind fun u=>.refl _) (.refl _)
 |and a b=>
  refine(h.ev τ st a).bind fun p=>?_
  obtain⟨d,s⟩:=p
  cases d with
  |bl k=>cases k with
   |true=>exact h.ev τ _ b
   |false=>exact .refl _
  |_=>exact .refl _
 |or a b=>
  refine(h.ev τ st a).bind fun p=>?_
  obtain⟨d,s⟩:=p
  cases d with
  |bl k=>cases k with
   |false=>exact h.ev τ _ b
   |true=>exact .refl _
  |_=>exact .refl _
 |ite c a b=>exact(h.tst τ st c).bind fun p=>Co.ite (h.ev τ _ a) (h.ev τ _ b)
 |tup es=>exact(qz0 (h.ev τ) es st).bind fun p=>.refl _
 |lst es=>exact(qz0 (h.ev τ) es st).bind fun p=>.refl _
 |idx a b=>exact(h.ev τ st a).bind fun p=>(h.ev τ _ b).bind fun q=>.refl _
 |sli a lo hi=>exact(h.ev τ st a).bind fun p=>(qa4 h τ _ lo).bind fun l=>(qa4 h τ _ hi).bind fun u=>.refl _
 |call f es=>exact(qz0 (h.ev τ) es st).bind fun p=>h.call f _ _
 |bcall f es=>exact(qz0 (h.ev τ) es st).bind fun p=>.refl _
 |isi a ts m=>exact(h.ev τ st a).bind fun p=>.refl _
 |rev a=>exact(h.ev τ st a).bind fun p=>.refl _
 |lenset a=>exact(h.ev τ st a).bind fun p=>.refl _
 |cat a b=>exact(h.ev τ st a).bind fun p=>(h.ev τ _ b).bind fun q=>.refl _
 |gc a=>exact(h.ev τ st a).map _
 |meth a m es=>exact(h.ev τ st a).bind fun p=>Co.ite ((qz0 (h.ev τ) es _).bind fun q=>.refl _) (.refl _)
 |rng1 a=>exact .refl _
 |rng2 a b=>exact .refl _
 |rng3 a b c=>exact .refl _
 |zip a b=>exact .refl _
 |dic es=>exact(qz0 (h.ev τ) es _).bind fun p=>.refl _
 |didx a b=>exact(h.ev τ st a).bind fun p=>(h.ev τ _ b).bind fun q=>.refl _
 |din neg a b=>exact qbi h τ st neg a b
 |dgt a b=>
  refine(h.ev τ st a).bind fun p=>?_
  obtain⟨d,s⟩:=p
  cases d with
  |loc l=>exact(Co.refl _).bind fun _=>(h.ev τ _ b).bind fun q=>.refl _
  |_=>exact .refl _
 |fmt a=>exact(h.ev τ st a).bind fun p=>.refl _
 |fstr es=>exact(qz0 (h.ev τ) es st).bind fun p=>.refl _
 |gidx x ks ds b=>exact(h.ev τ st b).bind fun p=>.refl _
 |gin neg x ks b=>exact qby h τ st neg ks b
 |comp t it test elt sr=>exact(qc9 h τ st it).bind fun p=>(qyx (qey h t test elt) _ _ _ _ _).map _
 |attr C a f=>exact(h.ev τ st a).bind fun p=>.refl _
 |mcall C f m a es=>exact(h.ev τ st a).bind fun p=>(Co.refl _).bind fun fs=>Co.ite (.refl _) ((qz0 (h.ev τ) es _).bind fun q=>h.call f _ _)
 |new C f es=>exact(qz0 (h.ev τ) es st).bind fun p=>(h.call f _ _).bind fun q=>.refl _
theorem qj8(τ:Sl)(st:Store)(e:E):Co (stepTst r τ st e) fun m=>stepTst (r' m) τ st e:=by
 cases e with
 |not a=>exact(h.tst τ st a).map _
 |and a b=>exact(h.tst τ st a).bind fun p=>Co.ite (h.tst τ _ b) (.refl _)
 |or a b=>exact(h.tst τ st a).bind fun p=>Co.ite (.refl _) (h.tst τ _ b)
 |ite _ _ _=>exact .refl _
 |din neg a b=>exact(qbi h τ st neg a b).bind fun p=>.refl _
 |gin neg x ks b=>exact(qby h τ st neg ks b).bind fun p=>.refl _
 |cmp op a b=>exact(h.ev τ st a).bind fun p=>(h.ev τ _ b).bind fun q=>.refl _
 |cmp2 op op' a b c=>exact(h.ev τ st a).bind fun p=>(h.ev τ _ b).bind fun q=>(Co.refl _).bind fun k=>Co.ite ((h.ev τ _ c).bind fun u=>.refl _) (.refl _)
 |_=>exact(h.ev τ st _).bind fun p=>.refl _
theorem qk8(τ:Sl)(st:Store)(s:S):Co (stepEx r τ st s) fun m=>stepEx (r' m) τ st s:=by
 cases s with
 |set t e=>exact(h.ev τ st e).bind fun p=>.refl _
 |setIx a i e=>exact(h.ev τ st e).bind fun p=>(h.ev τ _ a).bind fun q=>(h.ev τ _ i).bind fun u=>.refl _
 |dset a i e=>exact(h.ev τ st e).bind fun p=>(h.ev τ _ a).bind fun q=>(h.ev τ _ i).bind fun u=>.refl _
 |rais=>exact .refl _
 |bad=>exact .refl _
 |setA C a f e=>exact(h.ev τ st e).bind fun p=>(h.ev τ _ a).bind fun q=>.refl _
 |ford t a body=>
  refine(h.ev τ st a).bind fun p=>?_
  obtain⟨d,s⟩:=p
  cases d with
  |loc l=>exact(Co.refl _).bind fun kvs=>(qx6 (fun τ st d=>(Co.refl _).bind fun τ'=>h.ex τ' st body) _ _ _ _).bind fun q=>.refl _
  |_=>exact .refl _
 |expr e=>exact(h.ev τ st e).map _
 |ret e=>exact(h.ev τ st e).map _
 |retN=>exact .refl _
 |ite c a b=>exact(h.tst τ st c).bind fun p=>Co.ite (h.ex τ _ a) (h.ex τ _ b)
 |forr t it body=>exact(qc9 h τ st it).bind fun p=>qx6 (fun τ st d=>(Co.refl _).bind fun τ'=>h.ex τ' st body) _ _ _ _
 |whil c body=>exact qj2 (fun τ st=>h.tst τ st c) (fun τ st=>h.ex τ st body) _ _ _
 |aug i op e=>
  simp only[stepEx]
  cases h1:τ[i]? with
  |none=>exact .none _
  |some o=>
   cases o with
   |none=>exact .none _
   |some x=>exact(h.ev τ st e).bind fun p=>.refl _
 |brk=>exact .refl _
 |cnt=>exact .refl _
 |pass=>exact .refl _
theorem qf1(c:Nat→List D→Store→Option (D×Store)):Le (step c r) fun m=>step c (r' m):=
 ⟨qk9 h,qj8 h,fun τ st ss=>qav (qk8 h) ss τ st,fun f ds st=>.refl _⟩
end
theorem qk3(c:Nat→List D→Store→Option (D×Store)):∀ n,Le (runK c n) fun _=>runK c (n+1)
 |0=>⟨fun _ _ _=>.none _,fun _ _ _=>.none _,fun _ _ _=>.none _,fun _ _ _=>.refl _⟩
 |n+1=>qf1 (qk3 c n) c
section
variable {c:Nat→List D→Store→Option (D×Store)}{n N:Nat}
theorem qhm{τ:Sl}{st:Store}{e:E}{x:D×Store}(h:(runK c n).ev τ st e=some x)(hN:n≤N):(runK c N).ev τ st e=some x:=by
 induction hN with
 |refl=>exact h
 |step _ ih=>obtain⟨k,hk⟩:=(qk3 c _).ev τ st e x ih; exact hk k (Qqj _)
theorem ql6{τ:Sl}{st:Store}{e:E}{x:Bool×Store}(h:(runK c n).tst τ st e=some x)(hN:n≤N):(runK c N).tst τ st e=some x:=by
 induction hN with
 |refl=>exact h
 |step _ ih=>obtain⟨k,hk⟩:=(qk3 c _).tst τ st e x ih; exact hk k (Qqj _)
theorem qo6{τ:Sl}{st:Store}{e:List S}{x:Out×Store}(h:(runK c n).ex τ st e=some x)(hN:n≤N):(runK c N).ex τ st e=some x:=by
 induction hN with
 |refl=>exact h
 |step _ ih=>obtain⟨k,hk⟩:=(qk3 c _).ex τ st e x ih; exact hk k (Qqj _)
end
theorem qxp{α:Type}{f:Nat→Option α}{n:Nat}{x:α}(up:∀ n N x,f n=some x→n≤N→f N=some x)(h:f n=some x):lim1 f=some x:=by
 have hx:∃ x,∃ n,f n=some x:=⟨x,n,h⟩
 unfold lim1
 rw[dif_pos hx]
 obtain⟨k,hk⟩:=hx.choose_spec
 have e1:=up _ (max n k) _ h (by omega)
 have e2:=up _ (max n k) _ hk (by omega)
 rw[e1]at e2
 exact e2.symm
section
variable {fns:List Fn}{d:Nat}{τ:Sl}{st:Store}
theorem call_of{f:Nat}{F:Fn}{ds:List D}{st':Store}{v:D}(n:Nat)(hf:fns[f]?=some F)(hl:ds.length=F.np)(hτ:ds.map some++List.replicate (F.nl - ds.length) none=τ)
  (h:exs (stepEx (rn fns d n)) F.body τ st=some (.rt v,st')):callD fns (d+1) f ds st=some (v,st'):=by
 show stepCall fns (RL (callD fns d)) f ds st=_
 unfold stepCall
 rw[hf]
 dsimp only
 have e:(RL (callD fns d)).ex τ st F.body=some (.rt v,st'):=qxp (n:=n+1) (fun _ _ _ h k=>qo6 h k) h
 rw[if_pos hl,hτ,e]
 rfl
theorem ev_k{c:Nat→List D→Store→Option (D×Store)}{n:Nat}(e:E):(runK c (n+1)).ev τ st e=stepEv (runK c n) τ st e:=rfl
theorem qki{c:Nat→List D→Store→Option (D×Store)}{n:Nat}(e:E):(runK c (n+1)).tst τ st e=stepTst (runK c n) τ st e:=rfl
theorem ex_k{c:Nat→List D→Store→Option (D×Store)}{n:Nat}(e:List S):(runK c (n+1)).ex τ st e=exs (stepEx (runK c n)) e τ st:=rfl
theorem call_k{c:Nat→List D→Store→Option (D×Store)}{n:Nat}(f:Nat)(ds:List D):(runK c (n+1)).call f ds st=c f ds st:=rfl
end
end M
end
section
namespace M
open PySem (Str)
section
variable {r:R}{s:Src}{S:Store}{rest:Sl}{elt:E}{ds:List D}
theorem qa9{es:List D}(hat:∀ i,s.at S i=some ds[i]?)(hlen:es.length=ds.length)(hlim:ds.length<lim)(he:∀ (i:Nat) (d e:D),ds[i]?=some d→es[i]?=some e→r.ev (some d::rest) S elt=some (e,S)):
  ∀ (k i:Nat) (o:Option D),i+k=ds.length→loopC s (turnC r (.var 0) none elt) (k+1) i (es.take i) (o::rest) S=some (es,S)
 |0,i,o,h=>by
  have e:i=ds.length:=by omega
  subst e
  have h1:es.take ds.length=es:=Qxa (by omega)
  rw[loopC,hat,h1]
  simp only[oBs,Qzs (Qqj _)]
  rw[if_neg (by omega)]
 |k+1,i,o,h=>by
  have hi:i<ds.length:=by omega
  have h1:ds[i]?=some ds[i]:=by simp
  have h2:es[i]?=some (es[i]'(by omega)):=by simp
  have h3:=he i _ _ h1 h2
  rw[loopC,hat,h1]
  simp only[oBs]
  rw[if_neg (by rw[Qzn]; omega)]
  have e1:turnC r (.var 0) none elt (o::rest) S ds[i]=some (some (es[i]'(by omega)),some ds[i]::rest,S):=by
   unfold turnC
   simp only[setT,Qqd,Nat.zero_lt_succ,if_true,List.set_cons_zero,oBs,h3,oMs]
  rw[e1]
  simp only[oBs]
  rw[show es.take i++[es[i]'(by omega)]=es.take (i+1) by rw[Qxc (by omega)]]
  exact qa9 hat hlen hlim he k (i+1) _ (by omega)
end
theorem ql1{r:R}{τ:Sl}{S S':Store}{it elt:E}{sr:List (Option Nat)}{s:Src}{rest:Sl}{ds es:List D}(hsrc:src r τ S it=some (s,S'))(hat:∀ i,s.at S' i=some ds[i]?)(hsz:s.size S'=ds.length)(hin:inner sr τ=none::rest)(hlen:es.length=ds.length)(hlim:ds.length<lim)
  (he:∀ (i:Nat) (d e:D),ds[i]?=some d→es[i]?=some e→r.ev (some d::rest) S' elt=some (e,S')):stepEv r τ S (.comp (.var 0) it none elt sr)=some (.loc S'.length,S'++[.lst true es]):=by
 have h:=qa9 (r:=r) (s:=s) (S:=S') (rest:=rest) (elt:=elt) hat hlen hlim he ds.length 0 none (by omega)
 show((src r τ S it).bind fun p=>(loopC p.1 (turnC r (.var 0) none elt) (p.1.size p.2+1) 0 [] (inner sr τ) p.2).map fun q=>alloc q.2 (.lst true q.1))=_
 rw[hsrc]
 simp only[oBs,hsz,hin]
 rw[show([]:List D)=es.take 0 by simp,h]
 rfl
theorem at_lst{S:Store}{q:D}{ds:List D}(h:seqAt S q=some ds)(i:Nat):(Src.lst q).at S i=some ds[i]?:=by simp[Src.at,h]
theorem qdk{S:Store}{q:D}{ds:List D}(h:seqAt S q=some ds):(Src.lst q).size S=ds.length:=by simp[Src.size,h]
theorem qmr{S:Store}(lo:Int)(n:Nat)(i:Nat):(Src.rng lo n).at S i=some ((List.range n).map fun(j:Nat)=>D.int (lo+j))[i]?:=by
 simp only[Src.at,Qqn]
 by_cases h:i<n
 ·rw[if_pos h,List.getElem?_range h]; rfl
 ·rw[if_neg h,Qzs (by simpa using h)]; rfl
theorem qvc{f:Sl→Store→D→Option (Out×Store)}{s:Src}{ds:List D}(P:Nat→Sl→Store→Prop)(Q:Sl→Store→Prop)(hat:∀ i τ st,P i τ st→s.at st i=some ds[i]?)
  (hs:∀ i τ st d,ds[i]?=some d→P i τ st→(∃ τ' st',(f τ st d=some (.nx τ',st')∨f τ st d=some (.ct τ',st'))∧P (i+1) τ' st')∨∃ τ' st',f τ st d=some (.bk τ',st')∧Q τ' st') :
  ∀ (k i:Nat) (τ:Sl) (st:Store),i+k=ds.length→P i τ st→∃ τ' st',loop s f (k+1) i τ st=some (.nx τ',st')∧(P ds.length τ' st'∨Q τ' st')
 |0,i,τ,st,h,p=>by
  have e:i=ds.length:=by omega
  subst e
  refine⟨τ,st,?_,.inl p⟩
  rw[loop,hat _ _ _ p]
  simp[Qzs (Qqj _)]
 |k+1,i,τ,st,h,p=>by
  have hi:i<ds.length:=by omega
  have h1:ds[i]?=some ds[i]:=by simp
  rw[loop,hat _ _ _ p,h1]
  simp only[oBs]
  rcases hs i τ st _ h1 p with⟨τ',st',e|e,q⟩|⟨τ',st',e,q⟩
  ·rw[e]
   exact qvc P Q hat hs k (i+1) τ' st' (by omega) q
  ·rw[e]
   exact qvc P Q hat hs k (i+1) τ' st' (by omega) q
  ·rw[e]
   exact⟨τ',st',rfl,.inr q⟩
theorem qla{f:Sl→Store→D→Option (Out×Store)}{s:Src}{ds:List D}{τ:Sl}{st:Store}(P:Nat→Sl→Store→Prop)(Q:Sl→Store→Prop)(h0:P 0 τ st)(hsz:s.size st=ds.length)(hat:∀ i τ st,P i τ st→s.at st i=some ds[i]?)
  (hs:∀ i τ st d,ds[i]?=some d→P i τ st→(∃ τ' st',(f τ st d=some (.nx τ',st')∨f τ st d=some (.ct τ',st'))∧P (i+1) τ' st')∨∃ τ' st',f τ st d=some (.bk τ',st')∧Q τ' st') :
  ∃ τ' st',loop s f (s.size st+1) 0 τ st=some (.nx τ',st')∧(P ds.length τ' st'∨Q τ' st'):=by
 rw[hsz]
 exact qvc P Q hat hs ds.length 0 τ st (by omega) h0
end M
end
section
namespace M
open PySem (Str)
section
variable {st r:Store}{d:D}{ds:List D}
theorem gc_x{p:D×Store}(h:p.2.take st.length=st):gcD st p=gcX st.length p:=by
 unfold gcD
 rw[if_pos h,ite_self]
theorem qmg(h:noLoc d=true):gcD st (d,st++r)=(d,st):=by
 rw[gc_x (by simp)]
 unfold gcX
 rw[if_pos h]
 simp
theorem qzw(h:noLoc d=true):gcD st (d,st)=(d,st):=by
 have:=qmg (st:=st) (r:=[]) h
 rwa [Qzf]at this
theorem qgp:noLoc (.tup ds)=noLocs ds:=by rw[noLoc]
theorem qgr:noLoc (.lst ds)=noLocs ds:=by rw[noLoc]
theorem qcd:noLocs (d::ds)=(noLoc d&&noLocs ds):=rfl
theorem qyz:∀ {ds:List D},noLocs ds=ds.all noLoc
 |[]=>rfl
 |d::ds=>by rw[qcd,Qxb,qyz]
theorem qva(h:∀ d∈ds,noLoc d=true):noLocs ds=true:=by rw[qyz,Qzo]; exact h
theorem qzo{α:Type}{xs:List α}{g:α→D}(h:∀ x∈xs,noLoc (g x)=true):noLocs (xs.map g)=true:=qva fun d hd=>by
 obtain⟨x,hx,rfl⟩:=Qxk.mp hd
 exact h x hx
theorem qzv(h:noLocs ds=true):gcD st (.loc st.length,st++[.lst true ds])=(.lst ds,st):=by
 rw[gc_x (by simp)]
 unfold gcX
 rw[if_neg (by simp[noLoc])]
 simp[h]
end
theorem qz2{r:R}{τ:Sl}{st st':Store}{c:E}{a b:List S}(h:r.tst τ st c=some (true,st')):stepEx r τ st (.ite c a b)=r.ex τ st' a:=by
 show(r.tst τ st c).bind _=_
 rw[h]; rfl
theorem qz3{r:R}{τ:Sl}{st st':Store}{c:E}{a b:List S}(h:r.tst τ st c=some (false,st')):stepEx r τ st (.ite c a b)=r.ex τ st' b:=by
 show(r.tst τ st c).bind _=_
 rw[h]; rfl
noncomputable def cDraw:List S:=[
 .set (.var 4) (.lit (.int 0)),
 .set (.var 5) (.lit (.int 1)),
 .ite (.cmp .Gt (.bcall .len [(.var 0)]) (.lit (.int 0))) [.set (.var 4) (.idx (.var 0) (.bin .Mod (.var 1) (.bcall .len [(.var 0)]))),.set (.var 5) (.bin .FloorDiv (.var 1) (.bcall .len [(.var 0)]))] [],
 .set (.var 6) (.var 4),
 .forr (.var 7) (.rng1 (.var 2)) [.set (.var 6) (.bin .FloorDiv (.var 6) (.bin .Pow (.lit (.int 10)) (.lit (.int 10))))],
 .ite (.and (.cmp .Eq (.var 5) (.lit (.int 0))) (.and (.cmp .GtE (.var 4) (.bin .Pow (.lit (.int 10)) (.lit (.int 18)))) (.cmp .Gt (.var 6) (.lit (.int 0))))) [.ret (.bin .Mod (.bin .Mod (.var 6) (.bin .Pow (.lit (.int 10)) (.lit (.int 10)))) (.var 3))] [],
 .set (.var 8) (.bin .Mod (.bin .Add (.bin .Add (.bin .Add (.bin .Mult (.var 4) (.lit (.int 7919))) (.bin .Mult (.var 1) (.lit (.int 104729)))) (.bin .Mult (.var 2) (.lit (.int 1299709)))) (.lit (.int 31))) (.lit (.int 1000000007))),
 .set (.var 9) (.bin .Mod (.bin .Add (.bin .Mult (.var 8) (.lit (.int 48271))) (.bin .FloorDiv (.var 4) (.lit (.int 1009)))) (.lit (.int 998244353))),
 .set (.var 9) (.bin .Mod (.bin .Add (.bin .Mult (.var 9) (.bin .Add (.bin .Mod (.var 8) (.lit (.int 9973))) (.lit (.int 1)))) (.var 2)) (.lit (.int 1000000009))),
 .ret (.bin .Mod (.bin .Mod (.bin .Add (.bin .Add (.bin .Mult (.var 8) (.lit (.int 69621))) (.bin .Mult (.var 9) (.lit (.int 40692)))) (.bin .FloorDiv (.var 9) (.lit (.int 1013)))) (.lit (.int 2147483647))) (.var 3))]
noncomputable def qo5:Fn:=⟨4,10,cDraw⟩
theorem qov{a b:Int}(h1:-(2 ^ 64)<b)(h2:b<2 ^ 64):mulOk a b=true:=by unfold mulOk; simp; omega
noncomputable def qkr(ns:List Int)(k:Int):Int×Int:=if ns=[] then(0,1) else(ns.getD (k % (ns.length:Int)).toNat 0,k / ns.length)
noncomputable def qwl:Nat→Int→Int
 |0,c=>c
 |n+1,c=>qwl n c / 10000000000
noncomputable def drawF(c k j many:Int):Int:=(fun one=>(fun two=>(fun two'=>(one*69621+two'*40692+two' / 1013) % 2147483647 % many) ((two*(one % 9973+1)+j) % 1000000009)) ((one*48271+c / 1009) % 998244353)) ((c*7919+k*104729+j*1299709+31) % 1000000007)
noncomputable def qqz(ns:List Int)(k j many:Int):Int:=
 if (qkr ns k).2=0∧1000000000000000000≤(qkr ns k).1∧0<qwl j.toNat (qkr ns k).1 then qwl j.toNat (qkr ns k).1 % 10000000000 % many else drawF (qkr ns k).1 k j many
theorem qqy(ns:List Int)(k j:Int){many:Int}(h:0<many):0≤qqz ns k j many:=by
 unfold qqz
 split
 ·exact Int.emod_nonneg _ (by omega)
 ·exact Int.emod_nonneg _ (by omega)
theorem qqr(ns:List Int)(k j:Int){many:Int}(h:0<many):qqz ns k j many<many:=by
 unfold qqz
 split
 ·exact Int.emod_lt_of_pos _ h
 ·exact Int.emod_lt_of_pos _ h
section
variable {c:Nat→List D→Store→Option (D×Store)}{n:Nat}{τ:Sl}{st:Store}
theorem evB{op:PySem.Operator}{A B:E}{a b r:D}(ha:(runK c n).ev τ st A=some (a,st))(hb:(runK c n).ev τ st B=some (b,st))(hr:binop st op a b=some (r,st)):(runK c (n+1)).ev τ st (.bin op A B)=some (r,st):=by
 rw[ev_k]
 simp only[stepEv,ha,hb,oBs,hr]
theorem evX{a b:E}{x y r:D}(ha:(runK c n).ev τ st a=some (x,st))(hb:(runK c n).ev τ st b=some (y,st))(h:idxD st x y=some r):(runK c (n+1)).ev τ st (.idx a b)=some (r,st):=by
 rw[ev_k]
 simp only[stepEv,ha,hb,oBs,h,oMs]
theorem stS{τ':Sl}{i:Nat}{e:E}{d:D}(he:(runK c n).ev τ st e=some (d,st))(ht:setT (.var i) d τ=some τ'):stepEx (runK c n) τ st (.set (.var i) e)=some (.nx τ',st):=by
 simp only[stepEx,he,oBs,ht,oMs]
theorem stR{e:E}{d:D}(he:(runK c n).ev τ st e=some (d,st)):stepEx (runK c n) τ st (.ret e)=some (.rt d,st):=by
 simp only[stepEx,he,oMs]
theorem tCmp{op:PySem.CmpOp}{a b:E}{x y:D}{k:Bool}(ha:(runK c n).ev τ st a=some (x,st))(hb:(runK c n).ev τ st b=some (y,st))(h:cmpD st op x y=some k):(runK c (n+1)).tst τ st (.cmp op a b)=some (k,st):=by
 rw[qki]
 simp only[stepTst,ha,hb,oBs,h,oMs]
theorem tAnd{a b:E}{x y:Bool}(ha:(runK c n).tst τ st a=some (x,st))(hb:(runK c n).tst τ st b=some (y,st)):(runK c (n+1)).tst τ st (.and a b)=some (x&&y,st):=by
 rw[qki]
 simp only[stepTst,ha,oBs]
 cases x with
 |true=>rw[if_pos rfl,hb]; rfl
 |false=>rfl
end
theorem bMu(S:Store)(a:Int){b:Int}(h0:-(2 ^ 64)<b)(h1:b<2 ^ 64):binop S .Mult (.int a) (.int b)=some (.int (a*b),S):=by
 simp only[binop]
 rw[if_pos (qov h0 h1)]
theorem bMo(S:Store)(a:Int){b:Int}(h:0<b):binop S .Mod (.int a) (.int b)=some (.int (a % b),S):=by
 simp only[binop]
 rw[if_pos h]
theorem bDi(S:Store)(a:Int){b:Int}(h:0<b)(h1:b<2 ^ 64):binop S .FloorDiv (.int a) (.int b)=some (.int (a / b),S):=by
 simp only[binop]
 rw[if_pos ⟨h,h1⟩]
noncomputable abbrev dT(ns:List Int)(k j many:Int)(r:Sl):Sl:=some (.lst (ns.map D.int))::some (.int k)::some (.int j)::some (.int many)::r
theorem qfx{c:Nat→List D→Store→Option (D×Store)}(st:Store)(ns:List Int)(k j many:Int)(hn:ns.length≤63):
  exs (stepEx (runK c 30)) (cDraw.take 4) (dT ns k j many [none,none,none,none,none,none]) st=some (.nx (dT ns k j many [some (.int (qkr ns k).1),some (.int (qkr ns k).2),some (.int (qkr ns k).1),none,none,none]),st):=by
 by_cases he:ns=[]
 ·subst he
  rfl
 ·have hp:0<ns.length:=List.length_pos_iff.mpr he
  have hz:0<(ns.length:Int):=by omega
  have h1:0≤k % (ns.length:Int):=Int.emod_nonneg _ (by omega)
  have h2:k % (ns.length:Int)<ns.length:=Int.emod_lt_of_pos _ hz
  have h5:(k % (ns.length:Int)).toNat<ns.length:=by omega
  have eC:qkr ns k=(ns[(k % (ns.length:Int)).toNat]'h5,k / ns.length):=by
   unfold qkr
   rw[if_neg he,List.getD_eq_getElem?_getD,Qqg h5]
   rfl
  rw[eC]
  have l:∀ (m:Nat) (r:Sl),(runK c (m+2)).ev (dT ns k j many r) st (.bcall .len [(.var 0)])=some (.int ns.length,st):=fun m r=>by
   have v:(runK c (m+1)).ev (dT ns k j many r) st (.var 0)=some (.lst (ns.map D.int),st):=rfl
   rw[ev_k]
   simp only[stepEv,evs,v,oBs,bfun,bLen,seqAt,oMs,Qqk]
  have x:idxD st (.lst (ns.map D.int)) (.int (k % ns.length))=some (.int (ns[(k % (ns.length:Int)).toNat]'h5)):=by
   simp only[idxD,seqAt,oBs,atI,ixN,h1,if_true,Qqk,h2,Qqn,Qqg h5,oMs]
  refine(qzb (τ':=dT ns k j many [some (.int 0),none,none,none,none,none]) (s':=st) rfl).trans ?_
  refine(qzb (τ':=dT ns k j many [some (.int 0),some (.int 1),none,none,none,none]) (s':=st) rfl).trans ?_
  have t:=tCmp (c:=c) (n:=29) (τ:=dT ns k j many [some (.int 0),some (.int 1),none,none,none,none]) (st:=st) (op:=.Gt) (b:=.lit (.int 0)) (y:=.int 0) (k:=true) (l 27 _) rfl (by
   show some (decide ((0:Int)<ns.length))=_
   rw[decide_eq_true hz])
  refine(qzb (τ':=dT ns k j many [some (.int (ns[(k % (ns.length:Int)).toNat]'h5)),some (.int (k / ns.length)),none,none,none,none]) (s':=st) ((qz2 t).trans ?_)).trans rfl
  refine(qzb (τ':=dT ns k j many [some (.int (ns[(k % (ns.length:Int)).toNat]'h5)),some (.int 1),none,none,none,none]) (s':=st) (stS (evX (n:=28) (x:=.lst (ns.map D.int)) rfl (evB (n:=27) (a:=.int k) rfl (l 25 _) (bMo _ _ hz)) x) rfl)).trans ?_
  exact(qzb (τ':=dT ns k j many [some (.int (ns[(k % (ns.length:Int)).toNat]'h5)),some (.int (k / ns.length)),none,none,none,none]) (s':=st) (stS (evB (n:=28) (a:=.int k) rfl (l 26 _) (bDi _ _ hz (by omega))) rfl)).trans rfl
theorem qcl{c:Nat→List D→Store→Option (D×Store)}(st:Store)(ns:List Int)(k j many cell turn:Int)(hj:0≤j)(hj2:j<100000):
  ∃ o,stepEx (runK c 30) (dT ns k j many [some (.int cell),some (.int turn),some (.int cell),none,none,none]) st (.forr (.var 7) (.rng1 (.var 2)) [.set (.var 6) (.bin .FloorDiv (.var 6) (.bin .Pow (.lit (.int 10)) (.lit (.int 10))))])=some (.nx (dT ns k j many [some (.int cell),some (.int turn),some (.int (qwl j.toNat cell)),o,none,none]),st):=by
 have hb:big j=false:=by unfold big; simp; omega
 obtain⟨τ',st',e,o,hT,hS⟩:=qy7 (lo:=0) (n:=j.toNat) (τ:=dT ns k j many [some (.int cell),some (.int turn),some (.int cell),none,none,none]) (st:=st)
  (f:=fun τ st d=>(setT (.var 7) d τ).bind fun τ'=>(runK c 30).ex τ' st [.set (.var 6) (.bin .FloorDiv (.var 6) (.bin .Pow (.lit (.int 10)) (.lit (.int 10))))])
  (fun i τ s=>∃ (o:Option D),τ=dT ns k j many [some (.int cell),some (.int turn),some (.int (qwl i cell)),o,none,none]∧s=st) ⟨none,rfl,rfl⟩ (by
   rintro i τ s hi ⟨o,rfl,rfl⟩
   refine⟨dT ns k j many [some (.int cell),some (.int turn),some (.int (qwl i cell / 10000000000)),some (.int (0+i)),none,none],s,?_,_,rfl,rfl⟩
   show exs (stepEx (runK c 29)) _ (dT ns k j many [some (.int cell),some (.int turn),some (.int (qwl i cell)),some (.int (0+i)),none,none]) s=_
   exact(qzb (τ':=dT ns k j many [some (.int cell),some (.int turn),some (.int (qwl i cell / 10000000000)),some (.int (0+i)),none,none]) (s':=s) (stS (evB (n:=28) (a:=.int (qwl i cell)) (b:=.int 10000000000) rfl rfl (bDi _ _ (by decide) (by decide))) rfl)).trans rfl)
 rw[hT,hS]at e
 refine⟨o,?_⟩
 have v:(runK c 30).ev (dT ns k j many [some (.int cell),some (.int turn),some (.int cell),none,none,none]) st (.var 2)=some (.int j,st):=rfl
 simp only[stepEx,src,v,oBs,hb,Qqc,if_false,Src.size]
 exact e
theorem qlt{fns:List Fn}{f:Nat}(hf:fns[f]?=some qo5)(n:Nat)(st:Store)(ns:List Int)(k j many:Int)(hn:ns.length≤63)(hj:0≤j)(hj2:j<100000)(hm:0<many):
  callD fns (n+1) f [.lst (ns.map D.int),.int k,.int j,.int many] st=some (.int (qqz ns k j many),st):=by
 refine call_of 30 hf rfl rfl ?_
 show exs (stepEx (rn fns n 30)) (cDraw.take 4++cDraw.drop 4) (dT ns k j many [none,none,none,none,none,none]) st=_
 rw[qjd _ (qfx st ns k j many hn)]
 unfold qqz
 generalize (qkr ns k).1=cell
 generalize (qkr ns k).2=turn
 obtain⟨o,e2⟩:=qcl (c:=callD fns n) st ns k j many cell turn hj hj2
 refine(qzb e2).trans ?_
 generalize qwl j.toNat cell=rest
 have t:=tAnd (c:=callD fns n) (n:=29) (τ:=dT ns k j many [some (.int cell),some (.int turn),some (.int rest),o,none,none]) (st:=st) (tCmp (n:=28) (op:=.Eq) (a:=.var 5) (b:=.lit (.int 0)) (x:=.int turn) (y:=.int 0) (k:=turn==0) rfl rfl (qbf st turn 0)) (tAnd (n:=28) (tCmp (n:=27) (op:=.GtE) (a:=.var 4) (b:=.bin .Pow (.lit (.int 10)) (.lit (.int 18))) (x:=.int cell) (y:=.int 1000000000000000000) rfl rfl rfl) (tCmp (n:=27) (op:=.Gt) (a:=.var 6) (b:=.lit (.int 0)) (x:=.int rest) (y:=.int 0) rfl rfl rfl))
 by_cases hc:turn=0∧1000000000000000000≤cell∧0<rest
 ·rw[if_pos hc]
  have tb:((turn==0)&&(decide (1000000000000000000≤cell)&&decide (0<rest)))=true:=by
   rw[hc.1,decide_eq_true hc.2.1,decide_eq_true hc.2.2]; rfl
  rw[tb]at t
  exact qz6 ((qz2 t).trans (qz6 (stR (evB (n:=28) (b:=.int many) (evB (n:=27) (a:=.int rest) (b:=.int 10000000000) rfl rfl (bMo _ _ (by decide))) rfl (bMo _ _ hm)))))
 ·rw[if_neg hc]
  have tb:((turn==0)&&(decide (1000000000000000000≤cell)&&decide (0<rest)))=false:=by
   rw[← Bool.not_eq_true,Qqy,Qqy,beq_iff_eq,decide_eq_true_iff,decide_eq_true_iff]
   exact hc
  rw[tb]at t
  refine(qzb (τ':=dT ns k j many [some (.int cell),some (.int turn),some (.int rest),o,none,none]) (s':=st) ((qz3 t).trans rfl)).trans ?_
  unfold drawF
  refine(qzb (stS (evB (n:=29) (b:=.int 1000000007) (evB (n:=28) (b:=.int 31) (evB (n:=27) (evB (n:=26) (evB (n:=25) (a:=.int cell) (b:=.int 7919) rfl rfl (bMu _ _ (by decide) (by decide))) (evB (n:=25) (a:=.int k) (b:=.int 104729) rfl rfl (bMu _ _ (by decide) (by decide))) rfl) (evB (n:=26) (a:=.int j) (b:=.int 1299709) rfl rfl (bMu _ _ (by decide) (by decide))) rfl) rfl rfl) rfl (bMo _ _ (by decide))) rfl)).trans ?_
  generalize (cell*7919+k*104729+j*1299709+31) % 1000000007=one
  try dsimp only
  refine(qzb (stS (evB (n:=29) (b:=.int 998244353) (evB (n:=28) (evB (n:=27) (a:=.int one) (b:=.int 48271) rfl rfl (bMu _ _ (by decide) (by decide))) (evB (n:=27) (a:=.int cell) (b:=.int 1009) rfl rfl (bDi _ _ (by decide) (by decide))) rfl) rfl (bMo _ _ (by decide))) rfl)).trans ?_
  generalize (one*48271+cell / 1009) % 998244353=two
  try dsimp only
  have h1:0≤one % 9973:=Int.emod_nonneg _ (by decide)
  have h2:one % 9973<9973:=Int.emod_lt_of_pos _ (by decide)
  refine(qzb (stS (evB (n:=29) (b:=.int 1000000009) (evB (n:=28) (b:=.int j) (evB (n:=27) (a:=.int two) rfl (evB (n:=26) (b:=.int 1) (evB (n:=25) (a:=.int one) (b:=.int 9973) rfl rfl (bMo _ _ (by decide))) rfl rfl) (bMu _ _ (by omega) (by omega))) rfl rfl) rfl (bMo _ _ (by decide))) rfl)).trans ?_
  generalize (two*(one % 9973+1)+j) % 1000000009=two'
  try dsimp only
  exact qz6 (stR (evB (n:=29) (b:=.int many) (evB (n:=28) (b:=.int 2147483647) (evB (n:=27) (evB (n:=26) (evB (n:=25) (a:=.int one) (b:=.int 69621) rfl rfl (bMu _ _ (by decide) (by decide))) (evB (n:=25) (a:=.int two') (b:=.int 40692) rfl rfl (bMu _ _ (by decide) (by decide))) rfl) (evB (n:=26) (a:=.int two') (b:=.int 1013) rfl rfl (bDi _ _ (by decide) (by decide))) rfl) rfl (bMo _ _ (by decide))) rfl (bMo _ _ hm)))
theorem qj5{fns:List Fn}{f:Nat}(hf:fns[f]?=some qo5){N:Nat}(hN:1≤N){st:Store}{ns:List Int}{k j many:Int}(hn:ns.length≤63)(hj:0≤j)(hj2:j<100000)(hm:0<many):
  callD fns N f [.lst (ns.map D.int),.int k,.int j,.int many] st=some (.int (qqz ns k j many),st):=by
 have:=qlt hf (N - 1) st ns k j many hn hj hj2 hm
 rwa [show N - 1+1=N by omega]at this
end M
end
section
namespace M
open PySem (Str)
abbrev CF:=Nat→List D→Store→Option (D×Store)
section
variable {c:CF}{n:Nat}{τ:Sl}{st:Store}{it elt:E}{sr:List (Option Nat)}{s:Src}{rest:Sl}{α:Type}
theorem qhd(xs:List α)(f g:α→D)(hsrc:src (runK c n) τ st it=some (s,st))(hat:∀ i,s.at st i=some (xs.map f)[i]?)(hsz:s.size st=xs.length)(hin:inner sr τ=none::rest)(hlim:xs.length<1000000)(hg:∀ x∈xs,noLoc (g x)=true)
  (he:∀ x∈xs,(runK c n).ev (some (f x)::rest) st elt=some (g x,st)):(runK c (n+2)).ev τ st (.gc (.comp (.var 0) it none elt sr))=some (.lst (xs.map g),st):=by
 have h:=ql1 (r:=runK c n) (τ:=τ) (S:=st) (S':=st) (it:=it) (elt:=elt) (sr:=sr) (s:=s) (rest:=rest) (ds:=xs.map f) (es:=xs.map g) hsrc hat (by rw[hsz,Qqk]) hin (by rw[Qqk,Qqk]) (by rw[Qqk]; unfold lim; omega) (fun i d e h1 h2=>by
  rw[Qqn]at h1 h2
  cases hx:xs[i]? with
  |none=>rw[hx]at h1; cases h1
  |some x=>
   rw[hx]at h1 h2
   cases h1
   cases h2
   exact he x (Qq9 hx))
 have e1:(runK c (n+1)).ev τ st (.comp (.var 0) it none elt sr)=some (.loc st.length,st++[.lst true (xs.map g)]):=h
 show((runK c (n+1)).ev τ st (.comp (.var 0) it none elt sr)).map (fun p=>gcD st p)=_
 rw[e1]
 show some (gcD st (.loc st.length,st++[.lst true (xs.map g)]))=_
 rw[qzv (qzo hg)]
theorem qlm{d:D}{e:E}(h:(runK c n).ev τ st e=some (d,st))(hd:noLoc d=true):(runK c (n+1)).ev τ st (.gc e)=some (d,st):=by
 show((runK c n).ev τ st e).map (fun p=>gcD st p)=_
 rw[h]
 show some (gcD st (d,st))=_
 rw[qzw hd]
theorem qmf{ds:List D}{e:E}(h:(runK c n).ev τ st e=some (.loc st.length,st++[.lst true ds]))(hd:noLocs ds=true):(runK c (n+1)).ev τ st (.gc e)=some (.lst ds,st):=by
 show((runK c n).ev τ st e).map (fun p=>gcD st p)=_
 rw[h]
 show some (gcD st _)=_
 rw[qzv hd]
end
noncomputable def qc1(f:Nat):List S:=[
 .ite (.isi (.var 1) [.tup,.lst] true) [.ite (.or (.not (.isi (.var 0) [.tup,.lst] true)) (.cmp .NotEq (.bcall .len [(.var 0)]) (.bcall .len [(.var 1)]))) [.ret (.lit (.bl false))] [],.set (.var 2) (.bcall .all [(.gc (.comp (.var 0) (.rng1 (.bcall .len [(.var 1)])) none (.gc (.call f [(.idx (.var 1) (.var 0)),(.idx (.var 2) (.var 0))])) [none,some 0,some 1]))]),.ret (.and (.var 2) (.cmp .Eq (.isi (.var 0) [.tup] false) (.isi (.var 1) [.tup] false)))] [],
 .set (.var 2) (.cmp .Eq (.isi (.var 0) [.int] false) (.isi (.var 1) [.int] false)),
 .set (.var 2) (.and (.var 2) (.cmp .Eq (.isi (.var 0) [.bl] false) (.isi (.var 1) [.bl] false))),
 .ret (.and (.var 2) (.and (.cmp .Eq (.isi (.var 0) [.str] false) (.isi (.var 1) [.str] false)) (.cmp .Eq (.var 0) (.var 1))))]
noncomputable def qhi(f:Nat):Fn:=⟨2,3,qc1 f⟩
inductive Dp:Nat→D→Prop
 |non {k}:Dp k .non
 |bl {k b}:Dp k (.bl b)
 |int {k i}:Dp k (.int i)
 |str {k s}:Dp k (.str s)
 |tup {k ds} (h:∀ d∈ds,Dp k d) (hl:ds.length<100000):Dp (k+1) (.tup ds)
 |lst {k ds} (h:∀ d∈ds,Dp k d) (hl:ds.length<100000):Dp (k+1) (.lst ds)
theorem Dp.noLoc{k:Nat}{d:D}(h:Dp k d):noLoc d=true:=by
 induction h with
 |tup h hl ih=>rw[qgp]; exact qva ih
 |lst h hl ih=>rw[qgr]; exact qva ih
 |_=>rfl
section
variable {fns:List Fn}{f:Nat}
theorem qx3(hf:fns[f]?=some (qhi f))(q m:Nat)(st:Store)(d:D)(t:Ty)(ht:∀ S,tyName S d=some t)(h1:tyIs .tup t=false)(h2:tyIs .lst t=false)(hi:Bool)(e1:tyIs .int t=hi)(hb:Bool)(e2:tyIs .bl t=hb)(hs:Bool)(e3:tyIs .str t=hs)(he:∀ S,eqD S d d=some true):callD fns (m+1) f [d,d] st=some (.bl true,st):=by
 refine call_of (q+20) hf rfl rfl ?_
 show exs (stepEx (rn fns m (q+20))) (qc1 f) [some d,some d,none] st=_
 unfold qc1
 rw[qzb (τ':=[some d,some d,none]) (s':=st) (by
  refine(qz3 (st':=st) ?_).trans rfl
  simp only[qki,stepTst,ev_k,stepEv,Qqa,Qqf,oBs,ht,oMs,Qq7,Qz6,h1,h2,truth,Bool.or_self])]
 rw[qzb (τ':=[some d,some d,some (.bl true)]) (s':=st) (by
  simp only[stepEx,ev_k,stepEv,Qqa,Qqf,oBs,ht,oMs,Qq7,Qz6,e1,cmpD,Qzt,qbg,beq_self_eq_true]
  rfl)]
 rw[qzb (τ':=[some d,some d,some (.bl true)]) (s':=st) (by
  simp only[stepEx,ev_k,stepEv,Qqa,Qqf,oBs,ht,oMs,Qq7,Qz6,e2,cmpD,Qzt,qbg,beq_self_eq_true]
  rfl)]
 refine qz6 ?_
 simp only[stepEx,ev_k,stepEv,Qqa,Qqf,oBs,ht,oMs,Qq7,Qz6,e3,cmpD,Qzt,qbg,beq_self_eq_true,he]
theorem qdv(hf:fns[f]?=some (qhi f))(q m:Nat)(st:Store)(d:D)(ds:List D)(k:Bool)(hd:(d=.tup ds∧k=true)∨(d=.lst ds∧k=false))(hl:ds.length<100000)(ih:∀ x∈ds,callD fns m f [x,x] st=some (.bl true,st)):callD fns (m+1) f [d,d] st=some (.bl true,st):=by
 have ty:∀ S,∃ t,tyName S d=some t∧(tyIs .tup t||tyIs .lst t)=true∧tyIs .tup t=k:=fun S=>by
  rcases hd with⟨rfl,rfl⟩|⟨rfl,rfl⟩
  ·exact⟨.tup,rfl,rfl,rfl⟩
  ·exact⟨.lst,rfl,rfl,rfl⟩
 have ln:∀ S,bLen S [d]=some (.int ds.length,S):=fun S=>by
  rcases hd with⟨rfl,rfl⟩|⟨rfl,rfl⟩
  ·rfl
  ·rfl
 have ix:∀ S (i:Nat) x,ds[i]?=some x→idxD S d (.int ((0:Int)+i))=some x:=fun S i x hx=>by
  have hi:=(Qqb.mp hx).1
  have h1:(0:Int)≤0+i:=by omega
  have h2:(0:Int)+i<ds.length:=by omega
  have h3:((0:Int)+i).toNat=i:=by omega
  rcases hd with⟨rfl,rfl⟩|⟨rfl,rfl⟩
  ·simp only[idxD,atI,ixN,h1,h2,h3,if_true,oBs,hx]
  ·simp only[idxD,seqAt,atI,ixN,h1,h2,h3,if_true,oBs,hx]
 obtain⟨t,t1,t2,t3⟩:=ty st
 have hb:big (ds.length:Int)=false:=by unfold big; simp; omega
 have cm:∀ n:Nat,(rn fns m (n+10)).ev [some d,some d,none] st (.gc (.comp (.var 0) (.rng1 (.bcall .len [(.var 1)])) none (.gc (.call f [(.idx (.var 1) (.var 0)),(.idx (.var 2) (.var 0))])) [none,some 0,some 1]))=some (.lst ((List.range ds.length).map fun _=>.bl true),st):=fun n=>by
  refine qhd (n:=n+8) (s:=.rng 0 ds.length) (rest:=[some d,some d]) (List.range ds.length) (fun(i:Nat)=>.int ((0:Int)+i)) (fun _=>.bl true) ?_ (fun i=>qmr 0 _ i) (by simp[Src.size]) rfl (by simpa using (by omega:ds.length<1000000)) (fun _ _=>rfl) fun i hi=>?_
  ·simp only[src,ev_k,stepEv,evs,Qqa,Qqf,oBs,bfun,ln,hb,Qqc,if_false]
   rfl
  ·have hi:i<ds.length:=by simpa using hi
   have hx:ds[i]?=some ds[i]:=by simp
   refine qlm (n:=n+7) ?_ rfl
   simp only[ev_k,stepEv,evs,Qqa,Qqf,oBs,ix _ i _ hx,oMs,call_k]
   exact ih _ (Qx4 hi)
 refine call_of (q+20) hf rfl rfl ?_
 show exs (stepEx (rn fns m (q+20))) (qc1 f) [some d,some d,none] st=_
 unfold qc1
 refine qz6 ?_
 refine(qz2 (st':=st) ?_).trans ?_
 ·simp only[qki,stepTst,ev_k,stepEv,Qqa,Qqf,oBs,t1,oMs,Qq7,Qz6,Qzt,t2,truth]
 rw[ex_k]
 rw[qzb (τ':=[some d,some d,none]) (s':=st) (by
  refine(qz3 (st':=st) ?_).trans rfl
  simp only[qki,stepTst,ev_k,stepEv,evs,Qqa,Qqf,oBs,t1,oMs,Qq7,Qz6,Qzt,t2,truth,Qz2,Qqc,if_false,bfun,ln,cmpD,neD,qbf,beq_self_eq_true])]
 rw[qzb (τ':=[some d,some d,some (.bl true)]) (s':=st) (by
  have al:bAll st [.lst ((List.range ds.length).map fun _=>.bl true)]=some (.bl true,st):=by
   have:∀ n:Nat,asBools ((List.range n).map fun _=>D.bl true)=some (List.replicate n true):=fun n=>by
    rw[Qjx,Qxt]
    induction n with
    |zero=>rfl
    |succ n ih=>rw[Qq5,Qq5,asBools,ih]; rfl
   simp only[bAll,seqAt,oBs,this,oMs]
   simp
  simp only[stepEx]
  rw[ev_k]
  simp only[stepEv,evs,cm,oBs,bfun,al]
  rfl)]
 refine qz6 ?_
 simp only[stepEx,ev_k,stepEv,Qqa,Qqf,oBs,t1,oMs,Qq7,Qz6,cmpD,Qzt,qbg,beq_self_eq_true]
theorem qzn(hf:fns[f]?=some (qhi f)){k:Nat}{d:D}(h:Dp k d):∀ (m:Nat) (st:Store),k<m→callD fns m f [d,d] st=some (.bl true,st):=by
 induction h with
 |non=>intro m st hm; obtain⟨m,rfl⟩:∃ j,m=j+1:=⟨m - 1,by omega⟩; exact qx3 hf 0 m st .non .non (fun _=>rfl) rfl rfl _ rfl _ rfl _ rfl fun _=>eqD_nn _
 |@bl _ b=>intro m st hm; obtain⟨m,rfl⟩:∃ j,m=j+1:=⟨m - 1,by omega⟩; exact qx3 hf 0 m st (.bl b) .bl (fun _=>rfl) rfl rfl _ rfl _ rfl _ rfl fun _=>by rw[qbg]; simp
 |@int _ b=>intro m st hm; obtain⟨m,rfl⟩:∃ j,m=j+1:=⟨m - 1,by omega⟩; exact qx3 hf 0 m st (.int b) .int (fun _=>rfl) rfl rfl _ rfl _ rfl _ rfl fun _=>by rw[qbf]; simp
 |@str _ b=>intro m st hm; obtain⟨m,rfl⟩:∃ j,m=j+1:=⟨m - 1,by omega⟩; exact qx3 hf 0 m st (.str b) .str (fun _=>rfl) rfl rfl _ rfl _ rfl _ rfl fun _=>by rw[eqD_ss]; simp
 |@tup k ds h hl ih=>intro m st hm; obtain⟨m,rfl⟩:∃ j,m=j+1:=⟨m - 1,by omega⟩; exact qdv hf 0 m st _ ds true (.inl ⟨rfl,rfl⟩) hl fun x hx=>ih x hx m st (by omega)
 |@lst k ds h hl ih=>intro m st hm; obtain⟨m,rfl⟩:∃ j,m=j+1:=⟨m - 1,by omega⟩; exact qdv hf 0 m st _ ds false (.inr ⟨rfl,rfl⟩) hl fun x hx=>ih x hx m st (by omega)
end
end M
end
section
namespace M
open PySem (Str)
section
variable {c:CF}{n:Nat}{τ:Sl}{st st':Store}
theorem evC{f:Nat}{es:List E}{ds:List D}{r:D×Store}(hes:evs ((runK c (n+1)).ev τ) es st=some (ds,st'))(h:c f ds st'=some r):(runK c (n+2)).ev τ st (.call f es)=some r:=by
 rw[ev_k]
 simp only[stepEv,hes,oBs,call_k,h]
theorem wd_new(kvs:List (D×D)):wdicAt (st++[.dic true kvs]) st.length=some kvs:=by simp[wdicAt]
theorem da_new(kvs:List (D×D)):dicAt (st++[.dic true kvs]) st.length=some kvs:=by simp[dicAt]
theorem evD{es:List E}{ds:List D}{kvs kvs':List (D×D)}(h:evs ((runK c n).ev τ) es (st++[.dic true []])=some (ds,st++[.dic true []]))(hp:pairUp ds=some kvs)(hl:kvs.length≤15)(hd:dall kvs=kvs'):(runK c (n+1)).ev τ st (.dic es)=some (.loc st.length,st++[.dic true kvs']):=by
 rw[ev_k]
 simp only[stepEv,h,oBs,wd_new,hp,if_pos hl,hd,qf7]
theorem tNot{e:E}{k:Bool}(h:(runK c n).tst τ st e=some (k,st)):(runK c (n+1)).tst τ st (.not e)=some (!k,st):=by
 rw[qki]
 simp only[stepTst,h,oMs]
theorem tOr{a b:E}{x y:Bool}(ha:(runK c n).tst τ st a=some (x,st))(hb:(runK c n).tst τ st b=some (y,st)):(runK c (n+1)).tst τ st (.or a b)=some (x||y,st):=by
 rw[qki]
 simp only[stepTst,ha,oBs]
 cases x with
 |false=>rw[if_neg Qqi,hb]; rfl
 |true=>rfl
end
end M
end
section
namespace M
open PySem (Str CmpOp)
inductive It where
 |b (k:Bool)
 |c (a:D×Store)
 |k
 |g (a:D×Store)
abbrev Tp:=List It
noncomputable def TM(α:Type):=Tp→(α→Tp→Prop)→Prop
noncomputable def TM.bind{α β:Type}(x:TM α)(f:α→TM β):TM β:=fun t K=>x t fun a t'=>f a t' K
noncomputable def TM.map{α β:Type}(x:TM α)(f:α→β):TM β:=fun t K=>x t fun a t'=>K (f a) t'
noncomputable def no{α:Type}:TM α:=fun _ _=>False
noncomputable def lf{α:Type}:Option α→TM α
 |some a=>fun t K=>K a t
 |none=>no
noncomputable def ys{α:Type}(a:α):TM α:=fun t K=>K a t
noncomputable def askB(p:Bool):TM Bool:=fun t K=>match t with
 |.b k::t'=>p=k∧K k t'
 |.k::t'=>K p t'
 |_=>False
noncomputable def isOrd:CmpOp→D→Bool
 |.Lt,_=>true
 |.LtE,_=>true
 |.Gt,_=>true
 |.GtE,_=>true
 |.Eq,.int _=>true
 |_,_=>false
noncomputable def cmpT(st:Store)(op:CmpOp)(x y:D):TM Bool:=(lf (cmpD st op x y)).bind fun p=>if isOrd op x then askB p else ys p
structure RT where
 ev:Sl→Store→E→TM (D×Store)
 tst:Sl→Store→E→TM (Bool×Store)
 ex:Sl→Store→List S→TM (Out×Store)
 call:Nat→List D→Store→TM (D×Store)
 gcall:Nat→List D→Store→Store→TM (D×Store)
noncomputable def gcT(st:Store)(p:D×Store):TM (D×Store):=fun t K=>match t with
 |.g a::t'=>gcD st p=a∧K a t'
 |.k::t'=>K (gcD st p) t'
 |_=>False
noncomputable def qow(st:Store)(m:Mt)(d:D)(es:List D):TM (D×Store):=match m,d,es with
 |.append,.loc l,[d]=>(lf (wlistAt st l)).bind fun ds=>(askB (decide (ds.length<lim))).bind fun b=>if b then ys (.non,st.set l (.lst true (ds++[d]))) else no
 |.append,_,_=>no
 |m,d,es=>lf (mfun st m d es)
noncomputable def evsT(f:Store→E→TM (D×Store)):List E→Store→TM (List D×Store)
 |[],st=>ys ([],st)
 |e::es,st=>(f st e).bind fun p=>(evsT f es p.2).bind fun q=>ys (p.1::q.1,q.2)
noncomputable def srcT(r:RT)(τ:Sl)(st:Store):E→TM (Src×Store)
 |.rng1 a=>(r.ev τ st a).bind fun p=>match p.1 with
  |.int n=>if big n then no else ys (.rng 0 n.toNat,p.2)
  |_=>no
 |.zip a b=>(r.ev τ st a).bind fun p=>(r.ev τ p.2 b).bind fun q=>lf ((rowAt q.2 p.1).bind fun _=>(rowAt q.2 q.1).map fun _=>(.zip p.1 q.1,q.2))
 |.rng2 _ _=>no
 |.rng3 _ _ _=>no
 |e=>(r.ev τ st e).bind fun p=>match p.1 with
  |.tup ds=>ys (.tup ds,p.2)
  |.str z=>no
  |d=>(lf (seqAt p.2 d)).map fun _=>(.lst d,p.2)
noncomputable def qe2(it:Src)(f:Sl→Store→D→TM (Out×Store)):Nat→Nat→Sl→Store→TM (Out×Store)
 |0,_,_,_=>no
 |k+1,i,τ,st=>(lf (it.at st i)).bind fun o=>match o with
  |none=>ys (.nx τ,st)
  |some d=>(f τ st d).bind fun p=>match p.1 with
   |.nx τ'=>qe2 it f k (i+1) τ' p.2
   |.ct τ'=>qe2 it f k (i+1) τ' p.2
   |.bk τ'=>ys (.nx τ',p.2)
   |.rt v=>ys (.rt v,p.2)
noncomputable def turnT(r:RT)(t:T)(elt:E)(τ:Sl)(st:Store)(d:D):TM (Option D×Sl×Store):=
 (lf (setT t d τ)).bind fun τ'=>(r.ev τ' st elt).map fun p=>(some p.1,τ',p.2)
noncomputable def qdl(it:Src)(f:Sl→Store→D→TM (Option D×Sl×Store)):Nat→Nat→List D→Sl→Store→TM (List D×Store)
 |0,_,_,_,_=>no
 |k+1,i,acc,τ,st=>(lf (it.at st i)).bind fun o=>match o with
  |none=>if lim<acc.length then no else ys (acc,st)
  |some d=>if lim≤acc.length then no else(f τ st d).bind fun p=>qdl it f k (i+1) (match p.1 with|some x=>acc++[x]|none=>acc) p.2.1 p.2.2
noncomputable def qn6(r:RT)(τ:Sl)(st:Store):Option E→TM (Option Int×Store)
 |none=>ys (none,st)
 |some e=>(r.ev τ st e).bind fun p=>match p.1 with
  |.int i=>ys (some i,p.2)
  |_=>no
noncomputable def dinT(r:RT)(τ:Sl)(st:Store)(neg:Bool)(a b:E):TM (D×Store):=
 (r.ev τ st a).bind fun p=>(r.ev τ p.2 b).bind fun q=>lf (match q.1 with
  |.loc l=>(dicAt q.2 l).bind fun kvs=>if isKey p.1 then some (.bl ((dget kvs p.1).isSome != neg),q.2) else none
  |_=>none)
noncomputable def ginT(r:RT)(τ:Sl)(st:Store)(neg:Bool)(ks:List Str)(b:E):TM (D×Store):=
 (r.ev τ st b).bind fun p=>lf (match p.1 with
  |.str z=>some (.bl (ks.contains z != neg),p.2)
  |_=>none)
noncomputable def qf3(r:RT)(τ:Sl)(st:Store):E→TM (D×Store)
 |.var i=>lf (match τ[i]? with
  |some (some d)=>some (d,st)
  |_=>none)
 |.lit d=>ys (d,st)
 |.glo _ d=>ys (d,st)
 |.bin op a b=>(r.ev τ st a).bind fun p=>(r.ev τ p.2 b).bind fun q=>lf (binop q.2 op p.1 q.1)
 |.neg a=>(r.ev τ st a).bind fun p=>lf (match p.1 with
  |.int i=>some (.int (-i),p.2)
  |_=>none)
 |.cmp op a b=>(r.ev τ st a).bind fun p=>(r.ev τ p.2 b).bind fun q=>(cmpT q.2 op p.1 q.1).map fun k=>(.bl k,q.2)
 |.cmp2 op op' a b c=>(r.ev τ st a).bind fun p=>(r.ev τ p.2 b).bind fun q=>(cmpT q.2 op p.1 q.1).bind fun k=>
   if k then(r.ev τ q.2 c).bind fun u=>(cmpT u.2 op' q.1 u.1).map fun k'=>(.bl k',u.2) else ys (.bl false,q.2)
 |.and a b=>(r.ev τ st a).bind fun p=>match p.1 with
  |.bl true=>r.ev τ p.2 b
  |.bl false=>ys (.bl false,p.2)
  |_=>no
 |.tup es=>(evsT (r.ev τ) es st).bind fun p=>if lim<p.1.length then no else ys (.tup p.1,p.2)
 |.lst es=>(evsT (r.ev τ) es st).bind fun p=>if lim<p.1.length then no else ys (alloc p.2 (.lst true p.1))
 |.idx a b=>(r.ev τ st a).bind fun p=>(r.ev τ p.2 b).bind fun q=>(lf (idxD q.2 p.1 q.1)).map fun d=>(d,q.2)
 |.sli a lo hi=>(r.ev τ st a).bind fun p=>(qn6 r τ p.2 lo).bind fun l=>(qn6 r τ l.2 hi).bind fun h=>lf (sliD h.2 p.1 l.1 h.1)
 |.call f es=>(evsT (r.ev τ) es st).bind fun p=>r.call f p.1 p.2
 |.bcall f es=>(evsT (r.ev τ) es st).bind fun p=>lf (bfun p.2 f p.1)
 |.isi a ts _=>(r.ev τ st a).bind fun p=>(lf (tyName p.2 p.1)).map fun n=>(.bl (ts.any fun t=>tyIs t n),p.2)
 |.meth a m es=>(r.ev τ st a).bind fun p=>if mty p.2 m p.1 then(evsT (r.ev τ) es p.2).bind fun q=>qow q.2 m p.1 q.1 else no
 |.gc (.call f es)=>(evsT (r.ev τ) es st).bind fun p=>r.gcall f p.1 p.2 st
 |.gc (.mcall C f m a es)=>(r.ev τ st a).bind fun p=>(lf (objAt p.2 C p.1)).bind fun fs=>if (fs.lookup m).isSome then no else(evsT (r.ev τ) es p.2).bind fun q=>r.gcall f (p.1::q.1) q.2 st
 |.gc a=>(r.ev τ st a).bind fun p=>gcT st p
 |.dic es=>(evsT (r.ev τ) es (st++[.dic true []])).bind fun p=>lf (match wdicAt p.2 st.length with
  |some []=>(pairUp p.1).bind fun kvs=>if kvs.length≤15 then some (.loc st.length,p.2.set st.length (.dic true (dall kvs))) else none
  |_=>none)
 |.didx a b=>(r.ev τ st a).bind fun p=>(r.ev τ p.2 b).bind fun q=>lf (match p.1 with
  |.loc l=>(dicAt q.2 l).bind fun kvs=>if isKey q.1 then(dget kvs q.1).map fun d=>(d,q.2) else none
  |_=>none)
 |.din neg a b=>dinT r τ st neg a b
 |.gidx _ ks ds b=>(r.ev τ st b).bind fun p=>lf (match p.1 with
  |.str z=>((ks.zip ds).find? fun q=>q.1==z).map fun q=>(q.2,p.2)
  |_=>none)
 |.gin neg _ ks b=>ginT r τ st neg ks b
 |.lenset a=>(r.ev τ st a).bind fun p=>(lf (qg2 p.1)).map fun d=>(d,p.2)
 |.comp t it none elt sr=>(srcT r τ st it).bind fun p=>
   (qdl p.1 (turnT r t elt) (p.1.size p.2+1) 0 [] (inner sr τ) p.2).map fun q=>alloc q.2 (.lst true q.1)
 |.attr C a f=>(r.ev τ st a).bind fun p=>lf ((objAt p.2 C p.1).bind fun fs=>(fs.lookup f).map fun d=>(d,p.2))
 |.mcall C f m a es=>(r.ev τ st a).bind fun p=>(lf (objAt p.2 C p.1)).bind fun fs=>if (fs.lookup m).isSome then no else(evsT (r.ev τ) es p.2).bind fun q=>r.call f (p.1::q.1) q.2
 |.new C f es=>(evsT (r.ev τ) es st).bind fun p=>(r.call f (.loc p.2.length::p.1) (p.2++[.obj C []])).bind fun q=>if isNon q.1 then ys (.loc p.2.length,q.2) else no
 |_=>no
noncomputable def qc8(r:RT)(τ:Sl)(st:Store):E→TM (Bool×Store)
 |.not a=>(r.tst τ st a).map fun p=>(!p.1,p.2)
 |.and a b=>(r.tst τ st a).bind fun p=>if p.1 then r.tst τ p.2 b else ys (false,p.2)
 |.or a b=>(r.tst τ st a).bind fun p=>if p.1 then ys (true,p.2) else r.tst τ p.2 b
 |.ite _ _ _=>no
 |.din neg a b=>(dinT r τ st neg a b).bind fun p=>(lf (truth p.2 p.1)).map fun k=>(k,p.2)
 |.gin neg _ ks b=>(ginT r τ st neg ks b).bind fun p=>(lf (truth p.2 p.1)).map fun k=>(k,p.2)
 |.cmp op a b=>(r.ev τ st a).bind fun p=>(r.ev τ p.2 b).bind fun q=>(cmpT q.2 op p.1 q.1).map fun k=>(k,q.2)
 |.cmp2 op op' a b c=>(r.ev τ st a).bind fun p=>(r.ev τ p.2 b).bind fun q=>(cmpT q.2 op p.1 q.1).bind fun k=>
   if k then(r.ev τ q.2 c).bind fun u=>(cmpT u.2 op' q.1 u.1).map fun k'=>(k',u.2) else ys (false,q.2)
 |e=>(r.ev τ st e).bind fun p=>(lf (truth p.2 p.1)).map fun k=>(k,p.2)
noncomputable def qyn(r:RT)(τ:Sl)(st:Store):S→TM (Out×Store)
 |.set t e=>(r.ev τ st e).bind fun p=>(lf (setT t p.1 τ)).map fun τ'=>(.nx τ',p.2)
 |.setIx a i e=>(r.ev τ st e).bind fun p=>(r.ev τ p.2 a).bind fun q=>(r.ev τ q.2 i).bind fun u=>(lf (setIxD u.2 q.1 u.1 p.1)).map fun st'=>(.nx τ,st')
 |.dset a i e=>(r.ev τ st e).bind fun p=>(r.ev τ p.2 a).bind fun q=>(r.ev τ q.2 i).bind fun u=>lf (match q.1 with
  |.loc l=>(wdicAt u.2 l).bind fun kvs=>if isKey u.1&&decide (kvs.length<lim) then some (.nx τ,u.2.set l (.dic true (dput kvs u.1 p.1))) else none
  |_=>none)
 |.setA C a f e=>(r.ev τ st e).bind fun p=>(r.ev τ p.2 a).bind fun q=>lf ((objAt q.2 C q.1).bind fun fs=>match q.1 with
  |.loc l=>if fs.length<900 then some (.nx τ,q.2.set l (.obj C (putA f p.1 fs))) else none
  |_=>none)
 |.ford t a body=>(r.ev τ st a).bind fun p=>match p.1 with
  |.loc l=>(lf (wdicAt p.2 l)).bind fun kvs=>(qe2 (.tup (keysOf kvs)) (fun τ st d=>(lf (setT t d τ)).bind fun τ'=>r.ex τ' st body) (kvs.length+1) 0 τ (p.2.set l (.dic false kvs))).bind fun q=>
   lf (match q.2[l]? with
   |some (.dic false kvs')=>some (q.1,q.2.set l (.dic true kvs'))
   |_=>none)
  |_=>no
 |.expr e=>(r.ev τ st e).map fun p=>(.nx τ,p.2)
 |.ret e=>(r.ev τ st e).map fun p=>(.rt p.1,p.2)
 |.ite c a b=>(r.tst τ st c).bind fun p=>if p.1 then r.ex τ p.2 a else r.ex τ p.2 b
 |.forr t it body=>(srcT r τ st it).bind fun p=>
   qe2 p.1 (fun τ st d=>(lf (setT t d τ)).bind fun τ'=>r.ex τ' st body) (p.1.size p.2+1) 0 τ p.2
 |.cnt=>ys (.ct τ,st)
 |_=>no
noncomputable def exsT(f:Sl→Store→S→TM (Out×Store)):List S→Sl→Store→TM (Out×Store)
 |[],τ,st=>ys (.nx τ,st)
 |s::ss,τ,st=>(f τ st s).bind fun p=>match p.1 with
  |.nx τ'=>exsT f ss τ' p.2
  |o=>ys (o,p.2)
abbrev CT:=Nat→List D→Store→TM (D×Store)
abbrev GT:=Nat→List D→Store→Store→TM (D×Store)
noncomputable def runT(c:CT)(g:GT):Nat→RT
 |0=>⟨fun _ _ _=>no,fun _ _ _=>no,fun _ _ _=>no,c,g⟩
 |k+1=>⟨qf3 (runT c g k),qc8 (runT c g k),fun τ st ss=>exsT (qyn (runT c g k)) ss τ st,c,g⟩
noncomputable def askC(o:Option (D×Store)):TM (D×Store):=fun t K=>match t with
 |.c a::t'=>o=some a∧K a t'
 |_=>False
noncomputable def qyv(fns:List Fn)(O:List Nat)(k d:Nat)(c:CT):GT:=fun f ds st1 st=>if O.contains f then askC ((callD fns (k+d) f ds st1).map (gcD st)) else(c f ds st1).bind (gcT st)
noncomputable def qw3(fns:List Fn)(O:List Nat)(k:Nat):Nat→CT
 |0=>fun _ _ _=>no
 |d+1=>fun f ds st=>if O.contains f then askC (callD fns (k+(d+1)) f ds st) else match fns[f]? with
   |some F=>if ds.length=F.np then((runT (qw3 fns O k d) (qyv fns O k d (qw3 fns O k d)) 40).ex (ds.map some++List.replicate (F.nl - ds.length) none) st F.body).bind fun p=>(match p.1 with
     |.rt d=>ys (d,p.2)
     |.nx _=>ys (.non,p.2)
     |_=>no)
    else no
   |none=>no
def Sn{α:Type}(x:TM α)(y:Option α):Prop:=∀ t K,x t K→∃ a t',y=some a∧K a t'
theorem Sn.lf{α:Type}:∀ (o:Option α),Sn (lf o) o
 |some a=>fun t K h=>⟨a,t,rfl,h⟩
 |none=>fun t K h=>h.elim
theorem Sn.ys{α:Type}(a:α):Sn (ys a) (some a):=fun t K h=>⟨a,t,rfl,h⟩
theorem Sn.no{α:Type}(o:Option α):Sn no o:=fun t K h=>h.elim
theorem Sn.bind{α β:Type}{x:TM α}{y:Option α}{f:α→TM β}{g:α→Option β}(h:Sn x y)(h':∀ a,Sn (f a) (g a)):Sn (x.bind f) (y.bind g):=fun t K e=>by
 obtain⟨a,t',rfl,e1⟩:=h _ _ e
 exact h' a _ _ e1
theorem Sn.map{α β:Type}{x:TM α}{y:Option α}(f:α→β)(h:Sn x y):Sn (x.map f) (y.map f):=fun t K e=>by
 obtain⟨a,t',rfl,e1⟩:=h _ _ e
 exact⟨f a,t',rfl,e1⟩
theorem Sn.ite{α:Type}{c:Prop} [Decidable c]{a b:TM α}{a' b':Option α}(ha:Sn a a') (hb:Sn b b'):Sn (if c then a else b) (if c then a' else b'):=by
 by_cases h:c
 ·rw[if_pos h,if_pos h]; exact ha
 ·rw[if_neg h,if_neg h]; exact hb
theorem Sn.askB(p:Bool):Sn (askB p) (some p):=fun t K h=>by
 cases t with
 |nil=>exact h.elim
 |cons i t=>
  cases i with
  |b k=>obtain⟨rfl,e⟩:=h; exact⟨_,_,rfl,e⟩
  |k=>exact⟨p,t,rfl,h⟩
  |c a=>exact h.elim
  |g a=>exact h.elim
theorem Sn.askC(o:Option (D×Store)):Sn (askC o) o:=fun t K h=>by
 cases t with
 |nil=>exact h.elim
 |cons i t=>
  cases i with
  |c a=>exact⟨a,t,h.1,h.2⟩
  |b k=>exact h.elim
  |k=>exact h.elim
  |g a=>exact h.elim
theorem Sn.gc(st:Store)(p:D×Store):Sn (gcT st p) (some (gcD st p)):=fun t K h=>by
 cases t with
 |nil=>exact h.elim
 |cons i t=>
  cases i with
  |g a=>exact⟨a,t,congrArg some h.1,h.2⟩
  |k=>exact⟨_,t,rfl,h⟩
  |b k=>exact h.elim
  |c a=>exact h.elim
theorem Sn.meth(st:Store)(m:Mt)(d:D)(es:List D):Sn (qow st m d es) (mfun st m d es):=by
 unfold qow
 split
 ·rename_i l d
  refine(Sn.lf _).bind fun ds=>?_
  have h:=(Sn.askB (decide (ds.length<lim))).bind (g:=fun b=>if b=true then some (D.non,st.set l (.lst true (ds++[d]))) else none) fun b=>Sn.ite (c:=b=true) (Sn.ys (D.non,st.set l (.lst true (ds++[d])))) (.no none)
  simp only[oBs,decide_eq_true_eq]at h
  exact h
 ·exact .no _
 ·exact .lf _
theorem Sn.up{α:Type}{x:TM α}{y y':Option α}(h:∀ a,y=some a→y'=some a)(e:Sn x y):Sn x y':=fun t K h1=>by
 obtain⟨a,t',e1,e2⟩:=e t K h1
 exact⟨a,t',h a e1,e2⟩
theorem Sn.cmp(st:Store)(op:CmpOp)(x y:D):Sn (cmpT st op x y) (cmpD st op x y):=by
 have h:Sn (cmpT st op x y) ((cmpD st op x y).bind fun p=>if isOrd op x=true then some p else some p):=(Sn.lf _).bind fun p=>Sn.ite (Sn.askB p) (Sn.ys p)
 simpa using h
structure SnR (r:RT) (r':R):Prop where
 ev:∀ τ st e,Sn (r.ev τ st e) (r'.ev τ st e)
 tst:∀ τ st e,Sn (r.tst τ st e) (r'.tst τ st e)
 ex:∀ τ st e,Sn (r.ex τ st e) (r'.ex τ st e)
 call:∀ f ds st,Sn (r.call f ds st) (r'.call f ds st)
 gcall:∀ f ds s st,Sn (r.gcall f ds s st) ((r'.call f ds s).map fun p=>gcD st p)
 up:∀ τ st e x,stepEv r' τ st e=some x→r'.ev τ st e=some x
theorem qq9{f:Store→E→TM (D×Store)}{f':Store→E→Option (D×Store)}(h:∀ st e,Sn (f st e) (f' st e)):∀ (es:List E) (st:Store),Sn (evsT f es st) (evs f' es st)
 |[],st=>.ys _
 |e::es,st=>(h st e).bind fun p=>(qq9 h es p.2).bind fun q=>.ys _
theorem qy6{it:Src}{f:Sl→Store→D→TM (Out×Store)}{f':Sl→Store→D→Option (Out×Store)}(h:∀ τ st d,Sn (f τ st d) (f' τ st d)):∀ (k i:Nat) (τ:Sl) (st:Store),Sn (qe2 it f k i τ st) (loop it f' k i τ st)
 |0,_,_,_=>.no _
 |k+1,i,τ,st=>by
  unfold loop qe2
  refine(Sn.lf _).bind fun o=>?_
  cases o with
  |none=>exact .ys _
  |some d=>
   refine(h τ st d).bind fun p=>?_
   obtain⟨o,s⟩:=p
   cases o with
   |nx τ'=>exact qy6 h k _ _ _
   |ct τ'=>exact qy6 h k _ _ _
   |bk τ'=>exact .ys _
   |rt v=>exact .ys _
theorem qdi{it:Src}{f:Sl→Store→D→TM (Option D×Sl×Store)}{f':Sl→Store→D→Option (Option D×Sl×Store)}(h:∀ τ st d,Sn (f τ st d) (f' τ st d)):∀ (k i:Nat) (acc:List D) (τ:Sl) (st:Store),Sn (qdl it f k i acc τ st) (loopC it f' k i acc τ st)
 |0,_,_,_,_=>.no _
 |k+1,i,acc,τ,st=>by
  unfold loopC qdl
  refine(Sn.lf _).bind fun o=>?_
  cases o with
  |none=>exact Sn.ite (.no _) (.ys _)
  |some d=>exact Sn.ite (.no _) ((h τ st d).bind fun p=>qdi h k _ _ _ _)
theorem qhl{f:Sl→Store→S→TM (Out×Store)}{f':Sl→Store→S→Option (Out×Store)}(h:∀ τ st s,Sn (f τ st s) (f' τ st s)):∀ (ss:List S) (τ:Sl) (st:Store),Sn (exsT f ss τ st) (exs f' ss τ st)
 |[],_,_=>.ys _
 |s::ss,τ,st=>by
  unfold exs exsT
  refine(h τ st s).bind fun p=>?_
  obtain⟨o,q⟩:=p
  cases o with
  |nx τ'=>exact qhl h ss _ _
  |rt _=>exact .ys _
  |bk _=>exact .ys _
  |ct _=>exact .ys _
section
variable {r:RT}{r':R}(h:SnR r r')
include h
theorem ql8(τ:Sl)(st:Store)(e:E):Sn (srcT r τ st e) (src r' τ st e):=by
 cases e with
 |rng1 a=>
  refine(h.ev τ st a).bind fun p=>?_
  obtain⟨d,s⟩:=p
  cases d with
  |int n=>exact Sn.ite (.no _) (.ys _)
  |_=>exact .no _
 |rng2 a b=>exact .no _
 |rng3 a b c=>exact .no _
 |zip a b=>exact(h.ev τ st a).bind fun p=>(h.ev τ _ b).bind fun q=>.lf _
 |_=>
  refine(h.ev τ st _).bind fun p=>?_
  obtain⟨d,s⟩:=p
  cases d with
  |tup n=>exact .ys _
  |str z=>exact .no _
  |_=>exact(Sn.lf _).map _
theorem qgi(τ:Sl)(st:Store)(e:Option E):Sn (qn6 r τ st e) (part r' τ st e):=by
 cases e with
 |none=>exact .ys _
 |some e=>
  refine(h.ev τ st e).bind fun p=>?_
  obtain⟨d,s⟩:=p
  cases d with
  |int n=>exact .ys _
  |_=>exact .no _
theorem qm2(t:T)(elt:E)(τ:Sl)(st:Store)(d:D):Sn (turnT r t elt τ st d) (turnC r' t none elt τ st d):=(Sn.lf _).bind fun τ'=>(h.ev _ _ _).map _
theorem qmm(τ:Sl)(st:Store)(neg:Bool)(a b:E):Sn (dinT r τ st neg a b) (dinR r' τ st neg a b):=(h.ev τ st a).bind fun p=>(h.ev τ _ b).bind fun q=>.lf _
theorem qme(τ:Sl)(st:Store)(neg:Bool)(ks:List PySem.Str)(b:E):Sn (ginT r τ st neg ks b) (ginR r' τ st neg ks b):=(h.ev τ st b).bind fun p=>.lf _
theorem qf2(τ:Sl)(st:Store)(e:E):Sn (qf3 r τ st e) (stepEv r' τ st e):=by
 cases e with
 |var i=>exact .lf _
 |lit d=>exact .ys _
 |glo x d=>exact .ys _
 |bin op a b=>exact(h.ev τ st a).bind fun p=>(h.ev τ _ b).bind fun q=>.lf _
 |neg a=>exact(h.ev τ st a).bind fun p=>.lf _
 |cmp op a b=>exact(h.ev τ st a).bind fun p=>(h.ev τ _ b).bind fun q=>(Sn.cmp _ _ _ _).map _
 |cmp2 op op' a b c=>exact(h.ev τ st a).bind fun p=>(h.ev τ _ b).bind fun q=>(Sn.cmp _ _ _ _).bind fun k=>Sn.ite ((h.ev τ _ c).bind fun u=>(Sn.cmp _ _ _ _).map _) (.ys _)
 |and a b=>
  refine(h.ev τ st a).bind fun p=>?_
  obtain⟨d,s⟩:=p
  cases d with
  |bl k=>cases k with
   |true=>exact h.ev τ _ b
   |false=>exact .ys _
  |_=>exact .no _
 |tup es=>exact(qq9 (h.ev τ) es st).bind fun p=>Sn.ite (.no _) (.ys _)
 |lst es=>exact(qq9 (h.ev τ) es st).bind fun p=>Sn.ite (.no _) (.ys _)
 |idx a b=>exact(h.ev τ st a).bind fun p=>(h.ev τ _ b).bind fun q=>(Sn.lf _).map _
 |sli a lo hi=>exact(h.ev τ st a).bind fun p=>(qgi h τ _ lo).bind fun l=>(qgi h τ _ hi).bind fun u=>.lf _
 |call f es=>exact(qq9 (h.ev τ) es st).bind fun p=>h.call f _ _
 |bcall f es=>exact(qq9 (h.ev τ) es st).bind fun p=>.lf _
 |isi a ts m=>exact(h.ev τ st a).bind fun p=>(Sn.lf _).map _
 |lenset a=>exact(h.ev τ st a).bind fun p=>(Sn.lf _).map _
 |gc a=>
  have u:∀ b,(stepEv r' τ st a).map (fun p=>gcD st p)=some b→stepEv r' τ st (.gc a)=some b:=fun b e=>by
   cases e1:stepEv r' τ st a with
   |none=>rw[e1]at e; cases e
   |some x=>
    rw[e1]at e
    show(r'.ev τ st a).map _=_
    rw[h.up τ st a x e1]
    exact e
  have g:∀ x,Sn x (r'.ev τ st a)→Sn (x.bind fun p=>gcT st p) (stepEv r' τ st (.gc a)):=fun x hx=>by
   have e:=hx.bind (g:=some∘fun p=>gcD st p) fun p=>Sn.gc st p
   rw[← Option.map_eq_bind]at e
   exact e
  cases a with
  |call f es=>
   refine Sn.up (y:=((evs (r'.ev τ) es st).bind fun p=>(r'.call f p.1 p.2).map fun p=>gcD st p)) (fun b e=>u b ?_) ((qq9 (h.ev τ) es st).bind fun p=>h.gcall f _ _ _)
   rw[← e]
   simp only[stepEv,Option.map_bind,Function.comp_def]
  |mcall C f m a es=>
   refine Sn.up (y:=(r'.ev τ st a).bind fun p=>(objAt p.2 C p.1).bind fun fs=>if (fs.lookup m).isSome then none else(evs (r'.ev τ) es p.2).bind fun q=>(r'.call f (p.1::q.1) q.2).map fun p=>gcD st p) (fun b e=>u b ?_) ((h.ev τ st a).bind fun p=>(Sn.lf _).bind fun fs=>Sn.ite (.no _) ((qq9 (h.ev τ) es _).bind fun q=>h.gcall f _ _ _))
   rw[← e]
   simp only[stepEv,Option.map_bind,Function.comp_def,apply_ite (Option.map _),Option.map_none]
  |_=>exact g _ (h.ev τ st _)
 |meth a m es=>exact(h.ev τ st a).bind fun p=>Sn.ite ((qq9 (h.ev τ) es _).bind fun q=>.meth _ _ _ _) (.no _)
 |dic es=>exact(qq9 (h.ev τ) es _).bind fun p=>.lf _
 |didx a b=>exact(h.ev τ st a).bind fun p=>(h.ev τ _ b).bind fun q=>.lf _
 |din neg a b=>exact qmm h τ st neg a b
 |gidx x ks ds b=>exact(h.ev τ st b).bind fun p=>.lf _
 |gin neg x ks b=>exact qme h τ st neg ks b
 |comp t it test elt sr=>
  cases test with
  |none=>exact(ql8 h τ st it).bind fun p=>(qdi (qm2 h t elt) _ _ _ _ _).map _
  |some c=>exact .no _
 |attr C a f=>exact(h.ev τ st a).bind fun p=>.lf _
 |mcall C f m a es=>exact(h.ev τ st a).bind fun p=>(Sn.lf _).bind fun fs=>Sn.ite (.no _) ((qq9 (h.ev τ) es _).bind fun q=>h.call f _ _)
 |new C f es=>exact(qq9 (h.ev τ) es st).bind fun p=>(h.call f _ _).bind fun q=>Sn.ite (.ys _) (.no _)
 |_=>exact .no _
theorem qea(τ:Sl)(st:Store)(e:E):Sn (qc8 r τ st e) (stepTst r' τ st e):=by
 cases e with
 |not a=>exact(h.tst τ st a).map _
 |and a b=>exact(h.tst τ st a).bind fun p=>Sn.ite (h.tst τ _ b) (.ys _)
 |or a b=>exact(h.tst τ st a).bind fun p=>Sn.ite (.ys _) (h.tst τ _ b)
 |ite _ _ _=>exact .no _
 |din neg a b=>exact(qmm h τ st neg a b).bind fun p=>(Sn.lf _).map _
 |gin neg x ks b=>exact(qme h τ st neg ks b).bind fun p=>(Sn.lf _).map _
 |cmp op a b=>exact(h.ev τ st a).bind fun p=>(h.ev τ _ b).bind fun q=>(Sn.cmp _ _ _ _).map _
 |cmp2 op op' a b c=>exact(h.ev τ st a).bind fun p=>(h.ev τ _ b).bind fun q=>(Sn.cmp _ _ _ _).bind fun k=>Sn.ite ((h.ev τ _ c).bind fun u=>(Sn.cmp _ _ _ _).map _) (.ys _)
 |_=>exact(h.ev τ st _).bind fun p=>(Sn.lf _).map _
theorem qam(τ:Sl)(st:Store)(s:S):Sn (qyn r τ st s) (stepEx r' τ st s):=by
 cases s with
 |set t e=>exact(h.ev τ st e).bind fun p=>(Sn.lf _).map _
 |setIx a i e=>exact(h.ev τ st e).bind fun p=>(h.ev τ _ a).bind fun q=>(h.ev τ _ i).bind fun u=>(Sn.lf _).map _
 |dset a i e=>exact(h.ev τ st e).bind fun p=>(h.ev τ _ a).bind fun q=>(h.ev τ _ i).bind fun u=>.lf _
 |setA C a f e=>exact(h.ev τ st e).bind fun p=>(h.ev τ _ a).bind fun q=>.lf _
 |ford t a body=>
  refine(h.ev τ st a).bind fun p=>?_
  obtain⟨d,s⟩:=p
  cases d with
  |loc l=>exact(Sn.lf _).bind fun kvs=>(qy6 (fun τ st d=>(Sn.lf _).bind fun τ'=>h.ex τ' st body) _ _ _ _).bind fun q=>.lf _
  |_=>exact .no _
 |expr e=>exact(h.ev τ st e).map _
 |ret e=>exact(h.ev τ st e).map _
 |ite c a b=>exact(h.tst τ st c).bind fun p=>Sn.ite (h.ex τ _ a) (h.ex τ _ b)
 |forr t it body=>exact(ql8 h τ st it).bind fun p=>qy6 (fun τ st d=>(Sn.lf _).bind fun τ'=>h.ex τ' st body) _ _ _ _
 |cnt=>exact .ys _
 |_=>exact .no _
end
theorem qnc(c:CF):Le (RL c) fun m=>runK c m:=
 ⟨fun τ st e x h=>by obtain⟨n,e⟩:=lim1_is h; exact⟨n,fun m hm=>qhm e hm⟩,fun τ st e x h=>by obtain⟨n,e⟩:=lim1_is h; exact⟨n,fun m hm=>ql6 e hm⟩,fun τ st e x h=>by obtain⟨n,e⟩:=lim1_is h; exact⟨n,fun m hm=>qo6 e hm⟩,fun f ds st x h=>⟨0,fun m _=>by show(runK c m).call f ds st=_; rw[runK_call]; exact h⟩⟩
theorem qgk(c:CF)(τ:Sl)(st:Store)(e:E)(x:D×Store)(h:stepEv (RL c) τ st e=some x):(RL c).ev τ st e=some x:=by
 obtain⟨n,hn⟩:=qk9 (qnc c) τ st e x h
 exact qxp (n:=n+1) (fun _ _ _ h k=>qhm h k) (hn n (Qqj _))
theorem rl_tst(c:CF)(τ:Sl)(st:Store)(e:E)(x:Bool×Store)(h:stepTst (RL c) τ st e=some x):(RL c).tst τ st e=some x:=by
 obtain⟨n,hn⟩:=qj8 (qnc c) τ st e x h
 exact qxp (n:=n+1) (fun _ _ _ h k=>ql6 h k) (hn n (Qqj _))
theorem qnd(c:CF)(τ:Sl)(st:Store)(e:List S)(x:Out×Store)(h:exs (stepEx (RL c)) e τ st=some x):(RL c).ex τ st e=some x:=by
 obtain⟨n,hn⟩:=qav (qk8 (qnc c)) e τ st x h
 exact qxp (n:=n+1) (fun _ _ _ h k=>qo6 h k) (hn n (Qqj _))
theorem qa0{c:CT}{g:GT}{c':CF}(h:∀ f ds st,Sn (c f ds st) (c' f ds st))(hg:∀ f ds s st,Sn (g f ds s st) ((c' f ds s).map fun p=>gcD st p)):∀ n,SnR (runT c g n) (RL c')
 |0=>⟨fun _ _ _=>.no _,fun _ _ _=>.no _,fun _ _ _=>.no _,h,hg,qgk c'⟩
 |n+1=>⟨fun τ st e=>(qf2 (qa0 h hg n) τ st e).up (qgk c' τ st e),fun τ st e=>(qea (qa0 h hg n) τ st e).up (rl_tst c' τ st e),fun τ st ss=>(qhl (qam (qa0 h hg n)) ss τ st).up (qnd c' τ st ss),h,hg,qgk c'⟩
theorem qdu{fns:List Fn}{O:List Nat}{k d:Nat}{c:CT}(h:∀ f ds st,Sn (c f ds st) (callD fns (k+d) f ds st))(f:Nat)(ds:List D)(s st:Store):Sn (qyv fns O k d c f ds s st) ((callD fns (k+d) f ds s).map fun p=>gcD st p):=by
 unfold qyv
 by_cases hO:O.contains f=true
 ·rw[if_pos hO]
  exact .askC _
 ·rw[if_neg hO,Option.map_eq_bind]
  exact(h f ds s).bind fun p=>Sn.gc st p
theorem qv7{fns:List Fn}{O:List Nat}{k:Nat}:∀ (d f:Nat) (ds:List D) (st:Store),Sn (qw3 fns O k d f ds st) (callD fns (k+d) f ds st)
 |0,f,ds,st=>.no _
 |d+1,f,ds,st=>by
  unfold qw3
  by_cases hO:O.contains f=true
  ·rw[if_pos hO]
   exact .askC _
  ·rw[if_neg hO]
   show Sn _ (stepCall fns (RL (callD fns (k+d))) f ds st)
   unfold stepCall
   cases hf:fns[f]? with
   |none=>exact .no _
   |some F=>
    refine Sn.ite (((qa0 (fun f ds st=>qv7 d f ds st) (qdu (fun f ds st=>qv7 d f ds st)) 40).ex _ _ _).bind fun p=>?_) (.no _)
    obtain⟨o,s⟩:=p
    cases o with
    |rt _=>exact .ys _
    |nx _=>exact .ys _
    |bk _=>exact .no _
    |ct _=>exact .no _
theorem qll{fns:List Fn}{O:List Nat}{k:Nat}(d:Nat):∀ (f:Nat) (ds:List D) (s st:Store),Sn (qyv fns O k d (qw3 fns O k d) f ds s st) ((callD fns (k+d) f ds s).map fun p=>gcD st p):=qdu fun f ds st=>qv7 d f ds st
theorem qxy{fns:List Fn}{k:Nat}{τ:Sl}{st:Store}{ss:List S}{r:Out×Store}(O:List Nat)(d:Nat)(P:Prop→Prop)(t:Tp)(h:exsT (qyn (runT (qw3 fns O k d) (qyv fns O k d (qw3 fns O k d)) 40)) ss τ st t (fun a _=>a=r)=P (r=r))(hp:P (r=r)):exs (stepEx (RL (callD fns (k+d)))) ss τ st=some r:=by
 rw[← h]at hp
 obtain⟨a,t',e,rfl⟩:=qhl (qam (qa0 (fun f ds st=>qv7 d f ds st) (qll d) 40)) ss τ st t _ hp
 exact e
theorem qzs{fns:List Fn}{k:Nat}{τ:Sl}{st:Store}{ss:List S}{r:Out×Store}(O:List Nat)(d:Nat)(P:Prop→Prop)(t:Tp)(h:exsT (qyn (runT (qw3 fns O k d) (qyv fns O k d (qw3 fns O k d)) 40)) ss τ st t (fun a _=>a=r)=P (r=r))(hp:P (r=r)):(RL (callD fns (k+d))).ex τ st ss=some r:=qnd _ _ _ _ _ (qxy O d P t h hp)
theorem qpq{fns:List Fn}{d f:Nat}{F:Fn}{ds:List D}{τ:Sl}{st st':Store}{v:D}(hf:fns[f]?=some F)(hl:ds.length=F.np)(hτ:ds.map some++List.replicate (F.nl - ds.length) none=τ)(h:exs (stepEx (RL (callD fns d))) F.body τ st=some (.rt v,st')):callD fns (d+1) f ds st=some (v,st'):=by
 show stepCall fns (RL (callD fns d)) f ds st=_
 unfold stepCall
 rw[hf]
 dsimp only
 rw[if_pos hl,hτ,qnd _ _ _ _ _ h]
 rfl
theorem qzk{fns:List Fn}{k f:Nat}{ds:List D}{st:Store}{r:D×Store}(O:List Nat)(d:Nat)(P:Prop→Prop)(t:Tp)(h:qw3 fns O k d f ds st t (fun a _=>a=r)=P (r=r))(hp:P (r=r)):callD fns (k+d) f ds st=some r:=by
 rw[← h]at hp
 obtain⟨a,t',e,rfl⟩:=qv7 d f ds st t _ hp
 exact e
end M
end
section
namespace K15
noncomputable def qeq:List M.S:=[
 .ret (.and (.cmp2 .LtE .LtE (.idx (.var 0) (.glo "LEFT" (.int 0))) (.idx (.var 1) (.lit (.int 0))) (.idx (.var 0) (.glo "RIGHT" (.int 2)))) (.cmp2 .LtE .LtE (.idx (.var 0) (.glo "TOP" (.int 1))) (.idx (.var 1) (.lit (.int 1))) (.idx (.var 0) (.glo "LOW" (.int 3)))))]
noncomputable def qd3:M.Fn:=⟨2,2,qeq⟩
noncomputable def qcz:List M.S:=[
 .ret (.bcall .any [(.gc (.comp (.var 0) (.var 1) none (.gc (.call 0 [(.var 1),(.var 0)])) [none,some 0]))])]
noncomputable def qbd:M.Fn:=⟨2,2,qcz⟩
noncomputable def qcq:List M.S:=[
 .set (.var 2) (.lst []),
 .forr (.var 3) (.var 1) [.ite (.or (.not (.var 2)) (.cmp .LtE (.var 3) (.bin .Add (.idx (.var 2) (.neg (.lit (.int 1)))) (.var 0)))) [.expr (.meth (.var 2) .append [(.var 3)])] []],
 .ret (.var 2)]
noncomputable def qvs:M.Fn:=⟨2,4,qcq⟩
noncomputable def qb7:List M.S:=[
 .ret (.bin .Add (.idx (.gc (.call 2 [(.var 0),(.var 1)])) (.neg (.lit (.int 1)))) (.var 0))]
noncomputable def qvn:M.Fn:=⟨2,2,qb7⟩
noncomputable def qkh:List M.S:=[
 .setA 191 (.var 0) "owner" (.var 1),
 .setA 191 (.var 0) "ground" (.var 2),
 .setA 191 (.var 0) "days" (.var 3),
 .setA 191 (.var 0) "last" (.var 4),
 .setA 191 (.var 0) "vested" (.lit .non),
 .setA 191 (.var 0) "given" (.lit .non)]
noncomputable def qkv:M.Fn:=⟨5,5,qkh⟩
noncomputable def qjt:List M.S:=[
 .set (.var 3) (.new 191 4 [(.var 1),(.var 2),(.bcall .list [(.attr 191 (.var 0) "days")]),(.attr 191 (.var 0) "last")]),
 .setA 191 (.var 3) "vested" (.attr 191 (.var 0) "vested"),
 .ret (.var 3)]
noncomputable def qjc:M.Fn:=⟨3,4,qjt⟩
noncomputable def qkg:List M.S:=[
 .set (.var 1) (.mcall 191 5 "piece" (.var 0) [(.attr 191 (.var 0) "owner"),(.attr 191 (.var 0) "ground")]),
 .setA 191 (.var 1) "given" (.attr 191 (.var 0) "given"),
 .ret (.var 1)]
noncomputable def qkk:M.Fn:=⟨1,2,qkg⟩
noncomputable def qjs:List M.S:=[
 .ite (.cmp .IsNot (.attr 191 (.var 0) "given") (.lit .non)) [.ret (.lit (.str "given"))] [],
 .ite (.cmp .Gt (.var 1) (.attr 191 (.var 0) "last")) [.ret (.lit (.str "fallen"))] [],
 .ite (.cmp .Is (.attr 191 (.var 0) "vested") (.lit .non)) [.ret (.lit (.str "unvested"))] [],
 .ret (.lit (.str "stands"))]
noncomputable def qjb:M.Fn:=⟨2,2,qjs⟩
noncomputable def qjr:List M.S:=[
 .setA 273 (.var 0) "year" (.var 1),
 .setA 273 (.var 0) "book" (.dic []),
 .setA 273 (.var 0) "row" (.lst [])]
noncomputable def qja:M.Fn:=⟨2,2,qjr⟩
noncomputable def qxl:List M.S:=[
 .ret (.bcall .list [(.attr 273 (.var 0) "book")])]
noncomputable def qxf:M.Fn:=⟨1,1,qxl⟩
noncomputable def qxm:List M.S:=[
 .ite (.din true (.var 1) (.attr 273 (.var 0) "book")) [.bad] [],
 .ret (.didx (.attr 273 (.var 0) "book") (.var 1))]
noncomputable def qxg:M.Fn:=⟨2,2,qxm⟩
noncomputable def qxi:List M.S:=[
 .dset (.attr 273 (.var 0) "book") (.var 1) (.new 191 4 [(.var 2),(.var 3),(.lst [(.var 1)]),(.gc (.call 3 [(.attr 273 (.var 0) "year"),(.gc (.lst [(.var 1)]))]))]),
 .expr (.mcall 273 12 "vest" (.var 0) [(.var 1),(.var 1),(.var 4)])]
noncomputable def qxe:M.Fn:=⟨5,5,qxi⟩
noncomputable def qjo:List M.S:=[
 .set (.var 4) (.didx (.attr 273 (.var 0) "book") (.var 1)),
 .ite (.and (.cmp .Eq (.gc (.mcall 191 7 "state" (.var 4) [(.var 2)])) (.lit (.str "unvested"))) (.gc (.call 1 [(.attr 191 (.var 4) "ground"),(.var 3)]))) [.setA 191 (.var 4) "vested" (.var 2),.expr (.meth (.attr 273 (.var 0) "row") .append [(.var 1)])] []]
noncomputable def qjw:M.Fn:=⟨4,5,qjo⟩
noncomputable def qqm:List M.S:=[
 .forr (.var 3) (.gc (.mcall 273 9 "names" (.var 0) [])) [.expr (.mcall 273 12 "vest" (.var 0) [(.var 3),(.var 1),(.var 2)])]]
noncomputable def qqh:M.Fn:=⟨3,4,qqm⟩
noncomputable def qxj:List M.S:=[
 .set (.var 3) (.idx (.var 2) (.lit (.int 1))),
 .ite (.din true (.var 3) (.attr 273 (.var 0) "book")) [.ret (.lit (.str "noclaim"))] [],
 .set (.var 4) (.didx (.attr 273 (.var 0) "book") (.var 3)),
 .ite (.cmp .In (.gc (.mcall 191 7 "state" (.var 4) [(.var 1)])) (.tup [(.lit (.str "given")),(.lit (.str "fallen"))])) [.ret (.lit (.str "ended"))] [],
 .ite (.cmp .Eq (.idx (.var 2) (.lit (.int 0))) (.lit (.str "part"))) [.bad] [],
 .ite (.cmp .Eq (.idx (.var 2) (.lit (.int 0))) (.lit (.str "work"))) [.expr (.meth (.attr 191 (.var 4) "days") .append [(.var 1)]),.setA 191 (.var 4) "last" (.gc (.call 3 [(.attr 273 (.var 0) "year"),(.attr 191 (.var 4) "days")]))] [.ite (.cmp .Eq (.idx (.var 2) (.lit (.int 0))) (.lit (.str "sell"))) [.setA 191 (.var 4) "owner" (.idx (.var 2) (.lit (.int 2)))] [.setA 191 (.var 4) "given" (.var 1)]],
 .ret (.lit (.str "good"))]
noncomputable def qq8:M.Fn:=⟨3,5,qxj⟩
noncomputable def qjp:List M.S:=[
 .set (.var 1) (.dic []),
 .ford (.var 2) (.attr 273 (.var 0) "book") [.dset (.var 1) (.var 2) (.mcall 191 6 "twin" (.didx (.attr 273 (.var 0) "book") (.var 2)) [])],
 .set (.var 3) (.new 273 8 [(.attr 273 (.var 0) "year")]),
 .setA 273 (.var 3) "book" (.var 1),
 .setA 273 (.var 3) "row" (.bcall .list [(.attr 273 (.var 0) "row")]),
 .ret (.var 3)]
noncomputable def qjy:M.Fn:=⟨1,4,qjp⟩
noncomputable def qex:List M.S:=[
 .ret (.dic [(.lit (.str "day")),(.glo "DAYS" (.tup [(.int 1),(.int 400)])),(.lit (.str "folk")),(.glo "FOLK" (.tup [(.int 1),(.int 40)])),(.lit (.str "x")),(.tup [(.lit (.int 0)),(.bin .Sub (.idx (.var 0) (.lit (.int 0))) (.lit (.int 1)))]),(.lit (.str "y")),(.tup [(.lit (.int 0)),(.bin .Sub (.idx (.var 0) (.lit (.int 1))) (.lit (.int 1)))]),(.lit (.str "floor")),(.tup [(.lit (.int 0)),(.idx (.var 0) (.lit (.int 2)))]),(.lit (.str "below")),(.tup [(.lit (.int 1)),(.idx (.var 0) (.lit (.int 2)))]),(.lit (.str "side")),(.glo "SIDES" (.tup [(.int 0),(.int 1)])),(.lit (.str "line")),(.glo "LINES" (.tup [(.int 1),(.int 23)])),(.lit (.str "step")),(.glo "STEPS" (.tup [(.int 0),(.int 4)])),(.lit (.str "coins")),(.glo "COINS" (.tup [(.int 1),(.int 1000000)]))])]
noncomputable def qak:M.Fn:=⟨1,1,qex⟩
noncomputable def qmp:List M.S:=[
 .ite (.or (.isi (.var 0) [.bl] false) (.not (.isi (.var 0) [.int] false))) [.ret (.lit (.bl false))] [],
 .ret (.cmp2 .LtE .LtE (.idx (.var 1) (.lit (.int 0))) (.var 0) (.idx (.var 1) (.lit (.int 1))))]
noncomputable def qml:M.Fn:=⟨2,2,qmp⟩
noncomputable def qcx:List M.S:=[
 .ite (.cmp .NotEq (.bcall .len [(.var 2)]) (.bcall .len [(.var 1)])) [.ret (.lit (.bl false))] [],
 .set (.var 3) (.call 16 [(.var 0)]),
 .ret (.bcall .all [(.gc (.comp (.tup [0,1]) (.zip (.var 2) (.var 1)) none (.gc (.call 17 [(.var 0),(.didx (.var 2) (.var 1))])) [none,none,some 3]))])]
noncomputable def qvu:M.Fn:=⟨3,4,qcx⟩
noncomputable def qb9:List M.S:=[
 .ret (.and (.isi (.var 1) [.tup] false) (.gc (.call 18 [(.var 0),(.tup [(.lit (.str "x")),(.lit (.str "y"))]),(.var 1)])))]
noncomputable def qbc:M.Fn:=⟨2,2,qb9⟩
noncomputable def qkd:List M.S:=[
 .ret (.and (.isi (.var 1) [.tup] false) (.gc (.call 18 [(.var 0),(.bin .Mult (.tup [(.lit (.str "step"))]) (.idx (.var 0) (.lit (.int 2)))),(.var 1)])))]
noncomputable def qkq:M.Fn:=⟨2,2,qkd⟩
noncomputable def qxq:List M.S:=[
 .ite (.or (.not (.isi (.var 1) [.tup] false)) (.not (.cmp2 .LtE .LtE (.lit (.int 1)) (.bcall .len [(.var 1)]) (.glo "MOST_COLUMNS" (.int 16))))) [.ret (.lit (.bl false))] [],
 .ite (.not (.bcall .all [(.gc (.comp (.var 0) (.var 1) none (.gc (.call 19 [(.var 1),(.var 0)])) [none,some 0]))])) [.ret (.lit (.bl false))] [],
 .ret (.cmp .Eq (.lenset (.var 1)) (.bcall .len [(.var 1)]))]
noncomputable def qq6:M.Fn:=⟨2,2,qxq⟩
noncomputable def qkb:List M.S:=[
 .ret (.and (.cmp .Eq (.bcall .len [(.var 1)]) (.lit (.int 3))) (.and (.gc (.call 20 [(.var 0),(.idx (.var 1) (.lit (.int 1)))])) (.gc (.call 21 [(.var 0),(.idx (.var 1) (.lit (.int 2)))]))))]
noncomputable def qj9:M.Fn:=⟨2,2,qkb⟩
noncomputable def qxz:List M.S:=[
 .ite (.cmp .Eq (.idx (.var 0) (.lit (.int 0))) (.lit (.str "stake"))) [.ret (.and (.cmp .LtE (.idx (.var 0) (.lit (.int 2))) (.idx (.var 0) (.lit (.int 4)))) (.cmp .LtE (.idx (.var 0) (.lit (.int 3))) (.idx (.var 0) (.lit (.int 5)))))] [],
 .ite (.cmp .Eq (.idx (.var 0) (.lit (.int 0))) (.lit (.str "pay"))) [.ret (.cmp .NotEq (.idx (.var 0) (.lit (.int 1))) (.idx (.var 0) (.lit (.int 2))))] [],
 .ret (.lit (.bl true))]
noncomputable def qq5:M.Fn:=⟨1,1,qxz⟩
noncomputable def qif:List M.S:=[
 .ite (.cmp .Eq (.idx (.var 1) (.lit (.int 0))) (.lit (.str "vein"))) [.ret (.call 22 [(.var 0),(.var 1)])] [],
 .ite (.gin true "ASKS" ["join","stake","work","sell","part","give","dig","pay"] (.idx (.var 1) (.lit (.int 0)))) [.ret (.lit (.bl false))] [],
 .ret (.and (.gc (.call 18 [(.var 0),(.gidx "ASKS" ["join","stake","work","sell","part","give","dig","pay"] [(.tup [(.str "day"),(.str "day"),(.str "below")]),(.tup [(.str "folk"),(.str "x"),(.str "y"),(.str "x"),(.str "y")]),(.tup [(.str "day")]),(.tup [(.str "day"),(.str "folk")]),(.tup [(.str "day"),(.str "side"),(.str "line"),(.str "folk")]),(.tup [(.str "day")]),(.tup [(.str "folk"),(.str "x"),(.str "y"),(.str "x"),(.str "y"),(.str "floor"),(.str "coins")]),(.tup [(.str "folk"),(.str "folk"),(.str "coins")])] (.idx (.var 1) (.lit (.int 0)))),(.gc (.sli (.var 1) (some (.lit (.int 1))) none))])) (.gc (.call 23 [(.var 1)])))]
noncomputable def qhh:M.Fn:=⟨2,2,qif⟩
noncomputable def qqt:List M.S:=[
 .ite (.not (.and (.gc (.call 17 [(.var 0),(.glo "LENGTHS" (.tup [(.int 1),(.int 24)]))])) (.and (.gc (.call 17 [(.var 1),(.glo "LENGTHS" (.tup [(.int 1),(.int 24)]))])) (.and (.gc (.call 17 [(.var 2),(.glo "DEPTHS" (.tup [(.int 0),(.int 12)]))])) (.gc (.call 17 [(.var 3),(.glo "TERMS" (.tup [(.int 1),(.int 400)]))])))))) [.bad] []]
noncomputable def qqs:M.Fn:=⟨4,4,qqt⟩
noncomputable def qwx:List M.S:=[
 .ite (.not (.gc (.call 17 [(.var 0),(.glo "DAYS" (.tup [(.int 1),(.int 400)]))]))) [.bad] []]
noncomputable def qvt:M.Fn:=⟨1,1,qwx⟩
noncomputable def qkf:List M.S:=[
 .expr (.gc (.call 25 [(.var 1),(.var 2),(.var 3),(.var 4)])),
 .setA 642 (.var 0) "extent" (.tup [(.var 1),(.var 2),(.var 3)]),
 .setA 642 (.var 0) "year" (.var 4),
 .setA 642 (.var 0) "day" (.lit (.int 0)),
 .setA 642 (.var 0) "found" (.dic []),
 .setA 642 (.var 0) "joints" (.dic []),
 .setA 642 (.var 0) "staked" (.new 273 8 [(.var 4)]),
 .setA 642 (.var 0) "dug" (.dic []),
 .setA 642 (.var 0) "debts" (.lst [])]
noncomputable def qkj:M.Fn:=⟨5,5,qkf⟩
noncomputable def qjm:List M.S:=[
 .expr (.gc (.call 26 [(.var 1)])),
 .ite (.not (.gc (.call 24 [(.attr 642 (.var 0) "extent"),(.var 2)]))) [.bad] [],
 .ite (.cmp .LtE (.var 1) (.attr 642 (.var 0) "day")) [.bad] [],
 .setA 642 (.var 0) "day" (.var 1),
 .ret (.mcall 642 29 "answer" (.var 0) [(.var 2)])]
noncomputable def qjk:M.Fn:=⟨3,3,qjm⟩
noncomputable def qxh:List M.S:=[
 .ite (.cmp .Eq (.idx (.var 1) (.lit (.int 0))) (.lit (.str "vein"))) [.ret (.mcall 642 30 "enter_vein" (.var 0) [(.var 1)])] [],
 .ite (.cmp .Eq (.idx (.var 1) (.lit (.int 0))) (.lit (.str "join"))) [.bad] [],
 .ite (.cmp .Eq (.idx (.var 1) (.lit (.int 0))) (.lit (.str "stake"))) [.ret (.mcall 642 31 "enter_stake" (.var 0) [(.var 1)])] [],
 .ite (.cmp .Eq (.idx (.var 1) (.lit (.int 0))) (.lit (.str "dig"))) [.bad] [],
 .ite (.cmp .Eq (.idx (.var 1) (.lit (.int 0))) (.lit (.str "pay"))) [.bad] [],
 .ret (.mcall 273 14 "change" (.attr 642 (.var 0) "staked") [(.attr 642 (.var 0) "day"),(.var 1)])]
noncomputable def qxd:M.Fn:=⟨2,2,qxh⟩
noncomputable def qqa:List M.S:=[
 .dset (.attr 642 (.var 0) "found") (.attr 642 (.var 0) "day") (.tup [(.idx (.var 1) (.lit (.int 1))),(.idx (.var 1) (.lit (.int 2)))]),
 .expr (.mcall 273 13 "vest_all" (.attr 642 (.var 0) "staked") [(.attr 642 (.var 0) "day"),(.idx (.var 1) (.lit (.int 2)))]),
 .ret (.lit (.str "good"))]
noncomputable def qqw:M.Fn:=⟨2,2,qqa⟩
noncomputable def qqk:List M.S:=[
 .set (.var 2) (.lst []),
 .ford (.var 3) (.attr 642 (.var 0) "found") [.expr (.meth (.var 2) .extend [(.idx (.didx (.attr 642 (.var 0) "found") (.var 3)) (.lit (.int 1)))])],
 .expr (.mcall 273 11 "stake" (.attr 642 (.var 0) "staked") [(.attr 642 (.var 0) "day"),(.idx (.var 1) (.lit (.int 1))),(.sli (.var 1) (some (.lit (.int 2))) (some (.lit (.int 6)))),(.var 2)]),
 .ret (.lit (.str "good"))]
noncomputable def qz9:M.Fn:=⟨2,4,qqk⟩
noncomputable def qxx:List M.S:=[
 .expr (.gc (.call 26 [(.var 1)])),
 .ite (.cmp .Lt (.var 1) (.attr 642 (.var 0) "day")) [.bad] [],
 .setA 642 (.var 0) "day" (.var 1)]
noncomputable def qq7:M.Fn:=⟨2,2,qxx⟩
noncomputable def qjn:List M.S:=[
 .set (.var 2) (.mcall 273 10 "named" (.attr 642 (.var 0) "staked") [(.var 1)]),
 .ret (.tup [(.attr 191 (.var 2) "owner"),(.attr 191 (.var 2) "ground"),(.attr 191 (.var 2) "last"),(.attr 191 (.var 2) "vested"),(.attr 191 (.var 2) "given")])]
noncomputable def qjv:M.Fn:=⟨2,3,qjn⟩
noncomputable def qjl:List M.S:=[
 .ret (.mcall 191 7 "state" (.mcall 273 10 "named" (.attr 642 (.var 0) "staked") [(.var 1)]) [(.attr 642 (.var 0) "day")])]
noncomputable def qjj:M.Fn:=⟨2,2,qjl⟩
noncomputable def qji:List M.S:=[
 .ret (.bcall .list [(.attr 191 (.mcall 273 10 "named" (.attr 642 (.var 0) "staked") [(.var 1)]) "days")])]
noncomputable def qjx:M.Fn:=⟨2,2,qji⟩
noncomputable def qke:List M.S:=[
 .set (.var 1) (.new 642 27 [(.idx (.attr 642 (.var 0) "extent") (.lit (.int 0))),(.idx (.attr 642 (.var 0) "extent") (.lit (.int 1))),(.idx (.attr 642 (.var 0) "extent") (.lit (.int 2))),(.attr 642 (.var 0) "year")]),
 .setA 642 (.var 1) "day" (.attr 642 (.var 0) "day"),
 .setA 642 (.var 1) "found" (.bcall .dict [(.attr 642 (.var 0) "found")]),
 .setA 642 (.var 1) "joints" (.bcall .dict [(.attr 642 (.var 0) "joints")]),
 .setA 642 (.var 1) "staked" (.mcall 273 15 "twin" (.attr 642 (.var 0) "staked") []),
 .setA 642 (.var 1) "dug" (.bcall .dict [(.attr 642 (.var 0) "dug")]),
 .setA 642 (.var 1) "debts" (.bcall .list [(.attr 642 (.var 0) "debts")]),
 .ret (.var 1)]
noncomputable def qkx:M.Fn:=⟨1,2,qke⟩
noncomputable def qyi:List M.S:=[
 .set (.var 4) (.lit (.int 0)),
 .set (.var 5) (.lit (.int 1)),
 .ite (.cmp .Gt (.bcall .len [(.var 0)]) (.lit (.int 0))) [.set (.var 4) (.idx (.var 0) (.bin .Mod (.var 1) (.bcall .len [(.var 0)]))),.set (.var 5) (.bin .FloorDiv (.var 1) (.bcall .len [(.var 0)]))] [],
 .set (.var 6) (.var 4),
 .forr (.var 7) (.rng1 (.var 2)) [.set (.var 6) (.bin .FloorDiv (.var 6) (.bin .Pow (.lit (.int 10)) (.lit (.int 10))))],
 .ite (.and (.cmp .Eq (.var 5) (.lit (.int 0))) (.and (.cmp .GtE (.var 4) (.bin .Pow (.lit (.int 10)) (.lit (.int 18)))) (.cmp .Gt (.var 6) (.lit (.int 0))))) [.ret (.bin .Mod (.bin .Mod (.var 6) (.bin .Pow (.lit (.int 10)) (.lit (.int 10)))) (.var 3))] [],
 .set (.var 8) (.bin .Mod (.bin .Add (.bin .Add (.bin .Add (.bin .Mult (.var 4) (.lit (.int 7919))) (.bin .Mult (.var 1) (.lit (.int 104729)))) (.bin .Mult (.var 2) (.lit (.int 1299709)))) (.lit (.int 31))) (.lit (.int 1000000007))),
 .set (.var 9) (.bin .Mod (.bin .Add (.bin .Mult (.var 8) (.lit (.int 48271))) (.bin .FloorDiv (.var 4) (.lit (.int 1009)))) (.lit (.int 998244353))),
 .set (.var 9) (.bin .Mod (.bin .Add (.bin .Mult (.var 9) (.bin .Add (.bin .Mod (.var 8) (.lit (.int 9973))) (.lit (.int 1)))) (.var 2)) (.lit (.int 1000000009))),
 .ret (.bin .Mod (.bin .Mod (.bin .Add (.bin .Add (.bin .Mult (.var 8) (.lit (.int 69621))) (.bin .Mult (.var 9) (.lit (.int 40692)))) (.bin .FloorDiv (.var 9) (.lit (.int 1013)))) (.lit (.int 2147483647))) (.var 3))]
noncomputable def qyc:M.Fn:=⟨4,10,qyi⟩
noncomputable def qyh:List M.S:=[
 .ite (.isi (.var 1) [.tup,.lst] true) [.ite (.or (.not (.isi (.var 0) [.tup,.lst] true)) (.cmp .NotEq (.bcall .len [(.var 0)]) (.bcall .len [(.var 1)]))) [.ret (.lit (.bl false))] [],.set (.var 2) (.bcall .all [(.gc (.comp (.var 0) (.rng1 (.bcall .len [(.var 1)])) none (.gc (.call 38 [(.idx (.var 1) (.var 0)),(.idx (.var 2) (.var 0))])) [none,some 0,some 1]))]),.ret (.and (.var 2) (.cmp .Eq (.isi (.var 0) [.tup] false) (.isi (.var 1) [.tup] false)))] [],
 .set (.var 2) (.cmp .Eq (.isi (.var 0) [.int] false) (.isi (.var 1) [.int] false)),
 .set (.var 2) (.and (.var 2) (.cmp .Eq (.isi (.var 0) [.bl] false) (.isi (.var 1) [.bl] false))),
 .ret (.and (.var 2) (.and (.cmp .Eq (.isi (.var 0) [.str] false) (.isi (.var 1) [.str] false)) (.cmp .Eq (.var 0) (.var 1))))]
noncomputable def qyb:M.Fn:=⟨2,3,qyh⟩
noncomputable def qyg:List M.S:=[
 .set (.var 2) (.gc (.call 37 [(.var 0),(.var 1),(.lit (.int 5)),(.lit (.int 400))])),
 .ret (.idx (.gc (.lst [(.bin .Add (.lit (.int 1)) (.var 2)),(.bin .Add (.lit (.int 1)) (.bin .Mod (.var 2) (.lit (.int 4)))),(.bin .Add (.lit (.int 4)) (.bin .Mod (.var 2) (.lit (.int 50)))),(.bin .Add (.lit (.int 4)) (.bin .Mod (.var 2) (.lit (.int 50))))])) (.gc (.call 37 [(.var 0),(.var 1),(.lit (.int 4)),(.lit (.int 4))])))]
noncomputable def qya:M.Fn:=⟨2,3,qyg⟩
noncomputable def qez:List M.S:=[
 .ret (.and (.cmp2 .LtE .LtE (.idx (.var 0) (.lit (.int 0))) (.idx (.var 1) (.lit (.int 0))) (.idx (.var 0) (.lit (.int 2)))) (.cmp2 .LtE .LtE (.idx (.var 0) (.lit (.int 1))) (.idx (.var 1) (.lit (.int 1))) (.idx (.var 0) (.lit (.int 3)))))]
noncomputable def qd2:M.Fn:=⟨2,2,qez⟩
noncomputable def qwz:List M.S:=[
 .set (.var 2) (.dic [(.lit (.str "size")),(.var 0),(.lit (.str "term")),(.var 1),(.lit (.str "day")),(.lit (.int 0)),(.lit (.str "row")),(.lst []),(.lit (.str "book")),(.lst []),(.lit (.str "dug")),(.lst [])]),
 .dset (.var 2) (.lit (.str "veins")) (.dic []),
 .dset (.var 2) (.lit (.str "joins")) (.dic []),
 .dset (.var 2) (.lit (.str "claims")) (.dic []),
 .ret (.var 2)]
noncomputable def qvp:M.Fn:=⟨2,3,qwz⟩
noncomputable def qv9:List M.S:=[
 .set (.var 2) (.didx (.didx (.var 0) (.lit (.str "claims"))) (.var 1)),
 .ite (.cmp .IsNot (.idx (.var 2) (.lit (.int 4))) (.lit .non)) [.ret (.lit (.str "given"))] [],
 .ite (.cmp .Gt (.didx (.var 0) (.lit (.str "day"))) (.idx (.var 2) (.lit (.int 2)))) [.ret (.lit (.str "fallen"))] [],
 .ret (.idx (.gc (.lst [(.lit (.str "stands")),(.lit (.str "unvested"))])) (.bcall .int [(.cmp .Is (.idx (.var 2) (.lit (.int 3))) (.lit .non))]))]
noncomputable def qvo:M.Fn:=⟨2,3,qv9⟩
noncomputable def qyf:List M.S:=[
 .set (.var 3) (.didx (.didx (.var 0) (.lit (.str "claims"))) (.var 1)),
 .ite (.and (.cmp .Eq (.gc (.call 42 [(.var 0),(.var 1)])) (.lit (.str "unvested"))) (.bcall .any [(.gc (.comp (.var 0) (.var 2) none (.gc (.call 40 [(.idx (.var 1) (.lit (.int 1))),(.var 0)])) [none,some 3]))])) [.setIx (.var 3) (.lit (.int 3)) (.didx (.var 0) (.lit (.str "day"))),.expr (.meth (.didx (.var 0) (.lit (.str "row"))) .append [(.var 1)])] []]
noncomputable def qyy:M.Fn:=⟨3,4,qyf⟩
noncomputable def qql:List M.S:=[
 .ite (.din true (.idx (.var 1) (.lit (.int 1))) (.didx (.var 0) (.lit (.str "claims")))) [.ret (.lit (.str "noclaim"))] [],
 .set (.var 2) (.didx (.didx (.var 0) (.lit (.str "claims"))) (.idx (.var 1) (.lit (.int 1)))),
 .ite (.cmp .In (.gc (.call 42 [(.var 0),(.idx (.var 1) (.lit (.int 1)))])) (.tup [(.lit (.str "given")),(.lit (.str "fallen"))])) [.ret (.lit (.str "ended"))] [],
 .ite (.cmp .Eq (.idx (.var 1) (.lit (.int 0))) (.lit (.str "part"))) [.bad] [],
 .ite (.cmp .Eq (.idx (.var 1) (.lit (.int 0))) (.lit (.str "work"))) [.setIx (.var 2) (.lit (.int 2)) (.bin .Add (.didx (.var 0) (.lit (.str "day"))) (.didx (.var 0) (.lit (.str "term")))),.expr (.meth (.idx (.var 2) (.lit (.int 5))) .append [(.didx (.var 0) (.lit (.str "day")))])] [],
 .ite (.cmp .Eq (.idx (.var 1) (.lit (.int 0))) (.lit (.str "sell"))) [.setIx (.var 2) (.lit (.int 0)) (.idx (.var 1) (.lit (.int 2)))] [],
 .ite (.cmp .Eq (.idx (.var 1) (.lit (.int 0))) (.lit (.str "give"))) [.setIx (.var 2) (.lit (.int 4)) (.didx (.var 0) (.lit (.str "day")))] [],
 .ret (.lit (.str "good"))]
noncomputable def qqg:M.Fn:=⟨2,3,qql⟩
noncomputable def qwq:List M.S:=[
 .dset (.var 0) (.lit (.str "day")) (.var 1),
 .ite (.cmp .Eq (.idx (.var 2) (.lit (.int 0))) (.lit (.str "join"))) [.bad] [],
 .ite (.cmp .NotIn (.idx (.var 2) (.lit (.int 0))) (.tup [(.lit (.str "vein")),(.lit (.str "stake"))])) [.ret (.call 44 [(.var 0),(.var 2)])] [],
 .ite (.cmp .Eq (.idx (.var 2) (.lit (.int 0))) (.lit (.str "vein"))) [.dset (.didx (.var 0) (.lit (.str "veins"))) (.var 1) (.tup [(.idx (.var 2) (.lit (.int 1))),(.idx (.var 2) (.lit (.int 2)))]),.forr (.var 3) (.gc (.bcall .sorted [(.didx (.var 0) (.lit (.str "claims")))])) [.expr (.call 43 [(.var 0),(.var 3),(.idx (.var 2) (.lit (.int 2)))])]] [.dset (.didx (.var 0) (.lit (.str "claims"))) (.var 1) (.lst [(.idx (.var 2) (.lit (.int 1))),(.sli (.var 2) (some (.lit (.int 2))) none),(.bin .Add (.var 1) (.didx (.var 0) (.lit (.str "term")))),(.lit .non),(.lit .non),(.lst [(.var 1)])]),.forr (.var 4) (.gc (.bcall .sorted [(.didx (.var 0) (.lit (.str "veins")))])) [.expr (.call 43 [(.var 0),(.var 1),(.idx (.didx (.didx (.var 0) (.lit (.str "veins"))) (.var 4)) (.lit (.int 1)))])]],
 .ret (.lit (.str "good"))]
noncomputable def qvr:M.Fn:=⟨3,5,qwq⟩
noncomputable def qb8:List M.S:=[
 .set (.var 2) (.didx (.didx (.var 1) (.lit (.str "claims"))) (.lit (.int 3))),
 .ite (.or (.not (.gc (.call 38 [(.gc (.mcall 642 33 "claim" (.var 0) [(.lit (.int 3))])),(.bcall .tuple [(.gc (.sli (.var 2) none (some (.lit (.int 5)))))])]))) (.not (.gc (.call 38 [(.gc (.mcall 642 35 "years" (.var 0) [(.lit (.int 3))])),(.idx (.var 2) (.lit (.int 5)))])))) [.ret (.lit (.bl false))] [],
 .ret (.call 38 [(.gc (.mcall 642 34 "state" (.var 0) [(.lit (.int 3))])),(.gc (.call 42 [(.var 1),(.lit (.int 3))]))])]
noncomputable def qbb:M.Fn:=⟨2,3,qb8⟩
noncomputable def qkc:List M.S:=[
 .set (.var 3) (.mcall 642 36 "twin" (.var 0) []),
 .expr (.mcall 642 32 "pass_to" (.var 3) [(.var 2)]),
 .set (.var 4) (.didx (.var 1) (.lit (.str "day"))),
 .dset (.var 1) (.lit (.str "day")) (.var 2),
 .set (.var 5) (.gc (.call 46 [(.var 3),(.var 1)])),
 .dset (.var 1) (.lit (.str "day")) (.var 4),
 .ret (.var 5)]
noncomputable def qkz:M.Fn:=⟨3,6,qkc⟩
noncomputable def b_law:List M.S:=[
 .set (.var 1) (.idx (.gc (.lst [(.bin .Add (.lit (.int 1)) (.gc (.call 37 [(.var 0),(.lit (.int 0)),(.lit (.int 0)),(.lit (.int 30))]))),(.call 39 [(.var 0),(.lit (.int 0))])])) (.gc (.call 37 [(.var 0),(.lit (.int 0)),(.lit (.int 1)),(.lit (.int 2))]))),
 .set (.var 2) (.new 642 27 [(.lit (.int 1)),(.lit (.int 1)),(.lit (.int 0)),(.var 1)]),
 .set (.var 3) (.call 41 [(.tup [(.lit (.int 1)),(.lit (.int 1)),(.lit (.int 0))]),(.var 1)]),
 .set (.var 4) (.lst [(.tup [(.lit (.int 3)),(.tup [(.lit (.str "stake")),(.bin .Add (.lit (.int 1)) (.gc (.call 37 [(.var 0),(.lit (.int 0)),(.lit (.int 2)),(.lit (.int 40))]))),(.lit (.int 0)),(.lit (.int 0)),(.lit (.int 0)),(.lit (.int 0))])])]),
 .ite (.cmp .Gt (.gc (.call 37 [(.var 0),(.lit (.int 0)),(.lit (.int 3)),(.lit (.int 3))])) (.lit (.int 0))) [.set (.var 4) (.bin .Add (.gc (.lst [(.tup [(.lit (.int 1)),(.tup [(.lit (.str "vein")),(.tup []),(.tup [(.tup [(.lit (.int 0)),(.lit (.int 0))])])])])])) (.var 4))] [],
 .set (.var 5) (.lit (.int 3)),
 .set (.var 6) (.gc (.call 37 [(.var 0),(.lit (.int 0)),(.lit (.int 6)),(.lit (.int 48))])),
 .forr (.var 7) (.rng1 (.gc (.call 37 [(.var 0),(.lit (.int 0)),(.lit (.int 7)),(.lit (.int 13))]))) [.set (.var 8) (.idx (.gc (.lst [(.bin .Add (.lit (.int 1)) (.gc (.call 37 [(.var 0),(.bin .Add (.lit (.int 1)) (.var 7)),(.lit (.int 0)),(.var 1)]))),(.var 1),(.bin .Add (.var 1) (.lit (.int 1))),(.lit (.int 1))])) (.gc (.call 37 [(.var 0),(.bin .Add (.lit (.int 1)) (.var 7)),(.lit (.int 1)),(.lit (.int 4))]))),.set (.var 5) (.bcall .min [(.bin .Add (.var 5) (.var 8)),(.bin .Add (.lit (.int 380)) (.var 7))]),.expr (.meth (.var 4) .append [(.tup [(.var 5),(.idx (.gc (.lst [(.tup [(.lit (.str "work")),(.lit (.int 3))]),(.tup [(.lit (.str "give")),(.lit (.int 3))])])) (.bcall .int [(.cmp .Eq (.var 7) (.var 6))]))])])],
 .forr (.tup [9,10]) (.var 4) [.ite (.cmp .LtE (.var 9) (.didx (.var 3) (.lit (.str "day")))) [.cnt] [],.ite (.not (.call 38 [(.mcall 642 28 "enter" (.var 2) [(.var 9),(.var 10)]),(.call 45 [(.var 3),(.var 9),(.var 10)])])) [.ret (.lit (.bl false))] [],.ite (.and (.cmp .GtE (.var 9) (.lit (.int 3))) (.not (.gc (.call 46 [(.var 2),(.var 3)])))) [.ret (.lit (.bl false))] []],
 .set (.var 11) (.idx (.didx (.didx (.var 3) (.lit (.str "claims"))) (.lit (.int 3))) (.lit (.int 2))),
 .forr (.var 9) (.rng2 (.bin .Sub (.var 11) (.lit (.int 1))) (.bin .Add (.var 11) (.lit (.int 3)))) [.ite (.and (.cmp2 .LtE .LtE (.didx (.var 3) (.lit (.str "day"))) (.var 9) (.lit (.int 400))) (.not (.gc (.call 47 [(.var 2),(.var 3),(.var 9)])))) [.ret (.lit (.bl false))] []],
 .ret (.lit (.bl true))]
noncomputable def qlr:M.Fn:=⟨1,12,b_law⟩
noncomputable def fns:List M.Fn:=[qd3,qbd,qvs,qvn,qkv,qjc,qkk,qjb,qja,qxf,qxg,qxe,qjw,qqh,qq8,qjy,qak,qml,qvu,qbc,qkq,qq6,qj9,qq5,qhh,qqs,qvt,qkj,qjk,qxd,qqw,qz9,qq7,qjv,qjj,qjx,qkx,qyc,qyb,qya,qd2,qvp,qvo,qyy,qqg,qvr,qbb,qkz,qlr]
open PySem (Str)
open M
theorem gcp{st:Store}{d:D}{o:Option (D×Store)}(h:o=some (d,st))(hd:noLoc d=true):o.map (gcD st)=some (d,st):=by
 rw[h,oMs,qzw hd]
theorem gcq{st r:Store}{d:D}{o:Option (D×Store)}(h:o=some (d,st++r))(hd:noLoc d=true):o.map (gcD st)=some (d,st):=by
 rw[h,oMs,qmg hd]
theorem qfz(m:Nat)(st:Store){v a b:Int}(h1:a≤v)(h2:v≤b):callD fns (m+1) 17 [.int v,.tup [.int a,.int b]] st=some (.bl true,st):=
 qzk [] 1 (fun q=>decide (a≤v)=true∧decide (v≤b)=true∧q) [.b true,.b true] (by kernel_rfl) ⟨decide_eq_true h1,decide_eq_true h2,rfl⟩
theorem qkw(m:Nat)(st:Store){d:Int}(h1:1≤d)(h2:d≤400):callD fns (m+2) 26 [.int d] st=some (.non,st):=
 qzk [17] 2 (fun q=>_∧q) [.c (.bl true,st)] (by kernel_rfl) ⟨gcp (qfz m st h1 h2) rfl,rfl⟩
theorem qqq(m:Nat)(st:Store){t:Int}(h1:1≤t)(h2:t≤400):callD fns (m+2) 25 [.int 1,.int 1,.int 0,.int t] st=some (.non,st):=
 qzk [17] 2 (fun q=>_∧_∧_∧_∧q) [.c (.bl true,st),.c (.bl true,st),.c (.bl true,st),.c (.bl true,st)] (by kernel_rfl) ⟨gcp (qfz (v:=1) (a:=1) (b:=24) m st (by decide) (by decide)) rfl,gcp (qfz (v:=1) (a:=1) (b:=24) m st (by decide) (by decide)) rfl,gcp (qfz (v:=0) (a:=0) (b:=12) m st (by decide) (by decide)) rfl,gcp (qfz m st h1 h2) rfl,rfl⟩
end K15
end
section
namespace M
open PySem (Str)
theorem qg0{f:Sl→Store→D→Option (Option D×Sl×Store)}{s:Src}{S:Store}{ds:List D}(P:Sl→Prop)(g:D→D)(hat:∀ i,s.at S i=some ds[i]?)(hlim:ds.length<1000)(hf:∀ τ d,P τ→d∈ds→∃ τ',f τ S d=some (some (g d),τ',S)∧P τ'):
  ∀ (k i:Nat) (acc:List D) (τ:Sl),i+k=ds.length→acc.length=i→P τ→loopC s f (k+1) i acc τ S=some (acc++(ds.drop i).map g,S)
 |0,i,acc,τ,h,ha,p=>by
  rw[loopC,hat,oBs,Qqt.mpr (by omega)]
  show(if lim<acc.length then none else some (acc,S))=_
  rw[if_neg (by unfold lim; omega),List.drop_eq_nil_iff.mpr (by omega)]
  simp
 |k+1,i,acc,τ,h,ha,p=>by
  have hi:i<ds.length:=by omega
  have e:ds[i]?=some ds[i]:=by simp
  obtain⟨τ',e1,p'⟩:=hf τ ds[i] p (Qx4 hi)
  rw[loopC,hat,oBs,e]
  show(if lim≤acc.length then none else(f τ S ds[i]).bind _)=_
  rw[if_neg (by unfold lim; omega),e1,oBs]
  show loopC s f (k+1) (i+1) (acc++[g ds[i]]) τ' S=_
  rw[qg0 P g hat hlim hf k (i+1) _ τ' (by omega) (by rw[Qq0]; simpa using ha) p',List.append_assoc]
  congr 2
  rw[List.drop_eq_getElem_cons hi]
  rfl
theorem compP{c:CF}{n:Nat}{τ:Sl}{st:Store}{t:T}{it elt:E}{sr:List (Option Nat)}{s:Src}{ds:List D}(P:Sl→Prop)(g:D→D)(hsrc:src (runK c n) τ st it=some (s,st))(hat:∀ i,s.at st i=some ds[i]?)(hsz:s.size st=ds.length)(hlim:ds.length<1000)(h0:P (inner sr τ))(hg:∀ d∈ds,noLoc (g d)=true)
  (hf:∀ τ d,P τ→d∈ds→∃ τ',setT t d τ=some τ'∧(runK c n).ev τ' st elt=some (g d,st)∧P τ'):(runK c (n+2)).ev τ st (.gc (.comp t it none elt sr))=some (.lst (ds.map g),st):=by
 refine qmf ?_ (qzo hg)
 show(src (runK c n) τ st it).bind _=_
 rw[hsrc,oBs]
 dsimp only
 rw[hsz,qg0 P g hat hlim (fun τ d p hd=>by
  obtain⟨τ',e1,e2,e3⟩:=hf τ d p hd
  refine⟨τ',?_,e3⟩
  unfold turnC
  rw[e1]
  simp only[oBs,e2,oMs]) ds.length 0 [] _ (by omega) rfl h0]
 simp[alloc]
theorem allT(S:Store):∀ (n:Nat),bAll S [.lst (List.replicate n (.bl true))]=some (.bl true,S):=fun n=>by
 have:∀ n:Nat,asBools (List.replicate n (D.bl true))=some (List.replicate n true):=fun n=>by
  induction n with
  |zero=>rfl
  |succ n ih=>rw[Qq5,Qq5,asBools,ih]; rfl
 simp only[bAll,seqAt,oBs,this,oMs]
 simp
end M
namespace K15
open PySem (Str)
open M
noncomputable abbrev sz:D:=.tup [.int 1,.int 1,.int 0]
noncomputable abbrev sO(s:String):D:=.str (Str.ofString s)
noncomputable abbrev iv(a b:Int):D:=.tup [.int a,.int b]
noncomputable def bd:List (D×D):=[(sO "day",iv 1 400),(sO "folk",iv 1 40),(sO "x",iv 0 0),(sO "y",iv 0 0),(sO "floor",iv 0 0),(sO "below",iv 1 0),(sO "side",iv 0 1),(sO "line",iv 1 23),(sO "step",iv 0 4),(sO "coins",iv 1 1000000)]
theorem qiy(m:Nat)(st:Store):callD fns (m+1) 16 [sz] st=some (.loc st.length,st++[.dic true bd]):=by
 refine call_of 10 (F:=qak) rfl rfl rfl (qz6 ?_)
 show Option.map _ ((rn fns m 10).ev _ st _)=_
 rw[evD (n:=9) (ds:=bd.flatMap fun p=>[p.1,p.2]) (kvs:=bd) (kvs':=bd) (by kernel_rfl) (by kernel_rfl) (by decide) (by kernel_rfl)]
 rfl
def qii(p:D×D):Prop:=∃ (n a b:Int) (k:Str),p=(.int n,.str k)∧dget bd (.str k)=some (iv a b)∧a≤n∧n≤b
theorem zip_at(S:Store)(ps:List (D×D))(i:Nat):(Src.zip (.tup (ps.map (·.1))) (.tup (ps.map (·.2)))).at S i=some (ps.map fun p=>D.tup [p.1,p.2])[i]?:=by
 simp only[Src.at,rowAt,oBs,oMs,pairAt,Qqn]
 cases ps[i]?<;>rfl
theorem qqn(m:Nat)(st:Store)(ps:List (D×D))(hl:ps.length<10)(h:∀ p∈ps,qii p):callD fns (m+2) 18 [sz,.tup (ps.map (·.2)),.tup (ps.map (·.1))] st=some (.bl true,st++[.dic true bd]):=by
 refine call_of 20 (F:=qvu) rfl rfl rfl ?_
 refine(qzb (τ':=[some sz,some (.tup (ps.map (·.2))),some (.tup (ps.map (·.1))),none]) (s':=st) ((qz3 (tCmp (n:=19) (x:=.int (ps.map (·.1)).length) (y:=.int (ps.map (·.2)).length) rfl rfl ?_)).trans rfl)).trans ?_
 ·simp only[cmpD,neD,qbf,Qqk,oMs,beq_self_eq_true,Qz2]
 refine(qzb (τ':=[some sz,some (.tup (ps.map (·.2))),some (.tup (ps.map (·.1))),some (.loc st.length)]) (s':=st++[.dic true bd]) ?_).trans ?_
 ·show Option.bind ((rn fns (m+1) 20).ev _ _ _) _=_
  rw[evC (n:=18) (ds:=[sz]) (st':=st) rfl (qiy m st)]
  rfl
 refine qz6 ?_
 have cm:(rn fns (m+1) 19).ev [some sz,some (.tup (ps.map (·.2))),some (.tup (ps.map (·.1))),some (.loc st.length)] (st++[.dic true bd]) (.gc (.comp (.tup [0,1]) (.zip (.var 2) (.var 1)) none (.gc (.call 17 [.var 0,.didx (.var 2) (.var 1)])) [none,none,some 3]))=some (.lst ((ps.map fun p=>D.tup [p.1,p.2]).map fun _=>.bl true),st++[.dic true bd]):=by
  refine compP (n:=17) (s:=.zip (.tup (ps.map (·.1))) (.tup (ps.map (·.2)))) (fun τ=>∃ a b,τ=[a,b,some (.loc st.length)]) (fun _=>.bl true) rfl (fun i=>zip_at _ ps i) (by simp[Src.size,rowAt]) (by simpa using (by omega:ps.length<1000)) ⟨none,none,rfl⟩ (fun _ _=>rfl) ?_
  rintro τ d ⟨a,b,rfl⟩ hd
  obtain⟨p,hp,rfl⟩:=Qxk.mp hd
  obtain⟨n,x,y,k,rfl,hk,h1,h2⟩:=h p hp
  refine⟨[some (.int n),some (.str k),some (.loc st.length)],rfl,qlm (evC (n:=14) (ds:=[.int n,iv x y]) ?_ (qfz m _ h1 h2)) rfl,_,_,rfl⟩
  simp only[evs,ev_k,stepEv,Qqf,Qqa,oBs,da_new,isKey,if_true,hk,oMs]
 show Option.map _ ((rn fns (m+1) 20).ev _ _ _)=_
 rw[ev_k]
 simp only[stepEv,evs,cm,oBs,bfun,List.map_map,Qjx,allT,Function.comp_def]
 rfl
end K15
end
section
namespace K15
open PySem (Str)
open M
theorem qdz(m:Nat)(st:Store):callD fns (m+4) 24 [sz,.tup [sO "work",.int 3]] st=some (.bl true,st):=
 qzk [18] 4 (fun q=>_∧_∧_∧q) [.g (.tup [.int 3],st),.c (.bl true,st),.g (.bl true,st)] (by kernel_rfl) ⟨qzw (st:=st) (d:=.tup [.int 3]) rfl,gcq (qqn (m+1) st [(.int 3,sO "day")] (by simp) (by rintro p hp; simp only[Qqh,Qq1,or_false]at hp; subst hp; exact⟨3,1,400,Str.ofString "day",rfl,by kernel_rfl,by decide,by decide⟩)) rfl,qzw (st:=st) (d:=.bl true) rfl,rfl⟩
theorem qdx(m:Nat)(st:Store):callD fns (m+4) 24 [sz,.tup [sO "give",.int 3]] st=some (.bl true,st):=
 qzk [18] 4 (fun q=>_∧_∧_∧q) [.g (.tup [.int 3],st),.c (.bl true,st),.g (.bl true,st)] (by kernel_rfl) ⟨qzw (st:=st) (d:=.tup [.int 3]) rfl,gcq (qqn (m+1) st [(.int 3,sO "day")] (by simp) (by rintro p hp; simp only[Qqh,Qq1,or_false]at hp; subst hp; exact⟨3,1,400,Str.ofString "day",rfl,by kernel_rfl,by decide,by decide⟩)) rfl,qzw (st:=st) (d:=.bl true) rfl,rfl⟩
theorem qdq(m:Nat)(st:Store){w:Int}(h1:1≤w)(h2:w≤40):callD fns (m+4) 24 [sz,.tup [sO "stake",.int w,.int 0,.int 0,.int 0,.int 0]] st=some (.bl true,st):=
 qzk [18] 4 (fun q=>_∧_∧_∧q) [.g (.tup [.int w,.int 0,.int 0,.int 0,.int 0],st),.c (.bl true,st),.k,.k,.g (.bl true,st)] (by kernel_rfl) ⟨qzw (st:=st) (d:=.tup [.int w,.int 0,.int 0,.int 0,.int 0]) rfl,gcq (qqn (m+1) st [(.int w,sO "folk"),(.int 0,sO "x"),(.int 0,sO "y"),(.int 0,sO "x"),(.int 0,sO "y")] (by simp) (by
  rintro p hp
  simp only[Qqh,Qq1,or_false]at hp
  have hx:qii (.int 0,sO "x"):=⟨0,0,0,Str.ofString "x",rfl,by kernel_rfl,by decide,by decide⟩
  have hy:qii (.int 0,sO "y"):=⟨0,0,0,Str.ofString "y",rfl,by kernel_rfl,by decide,by decide⟩
  rcases hp with rfl|rfl|rfl|rfl|rfl
  ·exact⟨w,1,40,Str.ofString "folk",rfl,by kernel_rfl,h1,h2⟩
  ·exact hx
  ·exact hy
  ·exact hx
  ·exact hy)) rfl,qzw (st:=st) (d:=.bl true) rfl,rfl⟩
structure Good (n:Nat) (T L:Int) (ys:List Int):Prop where
 len:ys.length≤n
 pos:0<ys.length
 ch:∀ i,(h:i+1<ys.length)→ys[i+1]≤ys[i]+T
 la:ys[ys.length - 1]?=some (L - T)
theorem Good.next{n:Nat}{T L d:Int}{ys:List Int}(g:Good n T L ys)(h:d≤L):Good (n+1) T (d+T) (ys++[d]) where
 len:=by have:=g.len; simp; omega
 pos:=by simp
 ch:=fun i hi=>by
  have hi':i+1<ys.length+1:=by simpa using hi
  have:=g.pos
  by_cases hc:i+1<ys.length
  ·rw[Qxv hc,Qxv (by omega)]
   exact g.ch i hc
  ·have e:i=ys.length - 1:=by omega
   have h1:=g.la
   rw[← e,Qqg (by omega)]at h1
   have h2:=Option.some.inj h1
   rw[List.getElem_append_right (by omega),Qxv (by omega),h2]
   simp only[List.getElem_singleton]
   omega
 la:=by
  rw[Qq0,Qq8 (by simp)]
  simp
theorem Good.one(T d:Int):Good 1 T (d+T) [d]:=⟨by simp,by simp,fun i h=>by simp at h,by simp⟩
theorem src_q{c:CF}{n i:Nat}{τ:Sl}{st:Store}{q:D}{ds:List D}(h:τ[i]?=some (some q))(hq:seqAt st q=some ds):src (runK c (n+1)) τ st (.var i)=some (.lst q,st):=by
 cases q with
 |lst a=>simp only[src,ev_k,stepEv,h,oBs,hq,oMs]
 |loc a=>simp only[src,ev_k,stepEv,h,oBs,hq,oMs]
 |_=>cases hq
theorem qfj(m:Nat)(st:Store){n:Nat}{T L:Int}{ys:List Int}{q:D}(g:Good n T L ys)(hn:n<1000)(hq:∀ r,seqAt (st++r) q=some (ys.map D.int)):
  callD fns (m+1) 2 [.int T,q] st=some (.loc st.length,st++[.lst true (ys.map D.int)]):=by
 have hl:=g.len
 refine call_of 20 (F:=qvs) rfl rfl rfl ?_
 refine(qzb (τ':=[some (.int T),some q,some (.loc st.length),none]) (s':=st++[.lst true []]) rfl).trans ?_
 have lp:=qla (s:=.lst q) (ds:=ys.map D.int) (τ:=[some (.int T),some q,some (.loc st.length),none]) (st:=st++[.lst true []])
  (f:=fun τ st d=>(setT (.var 3) d τ).bind fun τ'=>(rn fns m 20).ex τ' st [.ite (.or (.not (.var 2)) (.cmp .LtE (.var 3) (.bin .Add (.idx (.var 2) (.neg (.lit (.int 1)))) (.var 0)))) [.expr (.meth (.var 2) .append [(.var 3)])] []])
  (fun i τ S=>∃ o,τ=[some (.int T),some q,some (.loc st.length),o]∧S=st++[.lst true ((ys.take i).map D.int)]) (fun _ _=>False) ⟨none,rfl,by simp⟩ (qdk (hq _)) (by rintro i τ S ⟨o,rfl,rfl⟩; exact at_lst (hq _) i) (by
   rintro i τ S d hd ⟨o,rfl,rfl⟩
   refine .inl ⟨[some (.int T),some q,some (.loc st.length),some d],st++[.lst true ((ys.take (i+1)).map D.int)],.inl ?_,_,rfl,rfl⟩
   have hi:i<ys.length:=by simpa using (Qqb.mp hd).1
   rw[Qqn,Qqg hi]at hd
   obtain rfl:=Option.some.inj hd
   have sq:seqAt (st++[.lst true ((ys.take i).map D.int)]) (.loc st.length)=some ((ys.take i).map D.int):=qe3 _ _ _
   have ap:(rn fns m 19).ex [some (.int T),some q,some (.loc st.length),some (.int ys[i])] (st++[.lst true ((ys.take i).map D.int)]) [.expr (.meth (.var 2) .append [(.var 3)])]=some (.nx [some (.int T),some q,some (.loc st.length),some (.int ys[i])],st++[.lst true ((ys.take (i+1)).map D.int)]):=by
    simp only[ex_k,exs,stepEx,ev_k,stepEv,evs,Qqf,Qqa,oBs,mty,Mt.ofList,sq,Option.isSome_some,Qxp,if_true,mfun,mAppend,qcj]
    rw[if_pos (by simp[lim]; omega)]
    simp only[oMs,oBs,qf7,Qxc hi,List.map_append,Qq3,Qxh]
   show(rn fns m 20).ex [some (.int T),some q,some (.loc st.length),some (.int ys[i])] _ _=_
   rw[ex_k]
   refine(qzb (s':=_) ((qz2 (st':=st++[.lst true ((ys.take i).map D.int)]) ?_).trans ap)).trans rfl
   have t1:(rn fns m 18).tst [some (.int T),some q,some (.loc st.length),some (.int ys[i])] (st++[.lst true ((ys.take i).map D.int)]) (.not (.var 2))=some (!!((ys.take i).map D.int).isEmpty,st++[.lst true ((ys.take i).map D.int)]):=by
    simp only[qki,stepTst,ev_k,stepEv,Qqf,Qqa,oBs,truth,sq,oMs]
   rw[qki]
   simp only[stepTst,t1,oBs,Bool.not_not]
   cases i with
   |zero=>rfl
   |succ i=>
    have hne:((ys.take (i+1)).map D.int).isEmpty=false:=by
     rw[List.isEmpty_eq_false_iff_exists_mem]
     exact⟨.int (ys[0]'(by omega)),Qxk.mpr ⟨_,List.mem_take_iff_getElem.mpr ⟨0,by omega,rfl⟩,rfl⟩⟩
    rw[hne]
    have ln:((ys.take (i+1)).map D.int).length=i+1:=by simp; omega
    have ix:idxD (st++[.lst true ((ys.take (i+1)).map D.int)]) (.loc st.length) (.int (-1))=some (.int (ys[i]'(by omega))):=by
     simp only[idxD,sq,oBs,atI,ixN,ln]
     rw[if_neg (by decide),if_pos (by omega),oBs,show(-1+((i+1:Nat):Int)).toNat=i by omega,Qqn,Qxn,if_pos (by omega),Qqg (by omega)]
     rfl
    simp only[Qqc,if_false,qki,stepTst,ev_k,stepEv,Qqf,Qqa,oBs,ix,oMs,binop,cmpD]
    rw[decide_eq_true (g.ch i hi)])
 obtain⟨τ',S,e1,e2⟩:=lp
 rcases e2 with⟨o,rfl,rfl⟩|e2
 ·refine(qzb (τ':=[some (.int T),some q,some (.loc st.length),o]) (s':=st++[.lst true (ys.map D.int)]) ?_).trans rfl
  show(src (rn fns m 20) _ _ (.var 1)).bind _=_
  rw[src_q (n:=19) (ds:=ys.map D.int) rfl (hq _),oBs]
  rw[Qqk,List.take_length]at e1
  exact e1
 ·exact e2.elim
theorem qju(m:Nat)(st:Store){n:Nat}{T L:Int}{ys:List Int}{q:D}(g:Good n T L ys)(hn:n<1000)(hq:∀ r,seqAt (st++r) q=some (ys.map D.int)):
  callD fns (m+2) 3 [.int T,q] st=some (.int L,st):=by
 refine call_of 20 (F:=qvn) rfl rfl rfl ?_
 refine qz6 ?_
 have e:(rn fns (m+1) 18).ev [some (.int T),some q] st (.gc (.call 2 [(.var 0),(.var 1)]))=some (.lst (ys.map D.int),st):=qmf (evC (n:=15) (ds:=[.int T,q]) rfl (qfj m st g hn hq)) (qzo fun _ _=>rfl)
 have hp:=g.pos
 have ix:idxD st (.lst (ys.map D.int)) (.int (-1))=some (.int (L - T)):=by
  simp only[idxD,seqAt,oBs,atI,ixN,Qqk]
  rw[if_neg (by decide),if_pos (by omega),oBs,show(-1+(ys.length:Int)).toNat=ys.length - 1 by omega,Qqn,g.la]
  rfl
 refine(stR (evB (n:=19) (a:=.int (L - T)) (b:=.int T) (r:=.int (L - T+T)) (evX (n:=18) (y:=.int (-1)) e rfl ix) rfl rfl)).trans ?_
 rw[Int.sub_add_cancel]
theorem hsame:fns[38]?=some (qhi 38):=rfl
theorem qxk(m:Nat)(st:Store)(z:Nat)(ys:List Int)(hz:listAt st z=some (ys.map D.int))(hl:ys.length<1000):callD fns (m+2) 38 [.lst (ys.map D.int),.loc z] st=some (.bl true,st):=by
 have ix:∀ (i:Nat) x,ys[i]?=some x→idxD st (.lst (ys.map D.int)) (.int ((0:Int)+i))=some (.int x)∧idxD st (.loc z) (.int ((0:Int)+i))=some (.int x):=fun i x hx=>by
  have hi:=(Qqb.mp hx).1
  have h1:(0:Int)≤0+i:=by omega
  have h2:(0:Int)+i<ys.length:=by omega
  have h3:((0:Int)+i).toNat=i:=by omega
  constructor
  ·simp only[idxD,seqAt,atI,ixN,h1,h2,h3,if_true,oBs,Qqk,Qqn,hx,oMs]
  ·simp only[idxD,seqAt,hz,atI,ixN,h1,h2,h3,if_true,oBs,Qqk,Qqn,hx,oMs]
 have hb:big (ys.length:Int)=false:=by unfold big; simp; omega
 have cm:(rn fns (m+1) 18).ev [some (.lst (ys.map D.int)),some (.loc z),none] st (.gc (.comp (.var 0) (.rng1 (.bcall .len [(.var 1)])) none (.gc (.call 38 [(.idx (.var 1) (.var 0)),(.idx (.var 2) (.var 0))])) [none,some 0,some 1]))=some (.lst ((List.range ys.length).map fun _=>.bl true),st):=by
  refine qhd (n:=16) (s:=.rng 0 ys.length) (rest:=[some (.lst (ys.map D.int)),some (.loc z)]) (List.range ys.length) (fun(i:Nat)=>.int ((0:Int)+i)) (fun _=>.bl true) ?_ (fun i=>qmr 0 _ i) (by simp[Src.size]) rfl (by simpa using (by omega:ys.length<1000000)) (fun _ _=>rfl) fun i hi=>?_
  ·simp only[src,ev_k,stepEv,evs,Qqa,Qqf,oBs,bfun,bLen,seqAt,hz,oMs,Qqk,hb,Qqc,if_false]
   rfl
  ·have hi:i<ys.length:=by simpa using hi
   have hx:ys[i]?=some ys[i]:=by simp
   refine qlm (n:=15) ?_ rfl
   simp only[ev_k,stepEv,evs,Qqa,Qqf,oBs,ix i _ hx,oMs,call_k]
   exact qzn hsame (k:=0) .int (m+1) st (by omega)
 refine call_of 20 (F:=qhi 38) rfl rfl rfl ?_
 show exs (stepEx (rn fns (m+1) 20)) (qc1 38) [some (.lst (ys.map D.int)),some (.loc z),none] st=_
 have ty:tyName st (.loc z)=some .lst:=by simp only[tyName,seqAt,hz,oMs]
 have tl:tyName st (.lst (ys.map D.int))=some .lst:=rfl
 have ln:bLen st [.loc z]=some (.int ys.length,st):=by simp only[bLen,seqAt,hz,oMs,Qqk]
 have ll:bLen st [.lst (ys.map D.int)]=some (.int ys.length,st):=by simp only[bLen,seqAt,oMs,Qqk]
 unfold qc1
 refine qz6 ?_
 refine(qz2 (st':=st) ?_).trans ?_
 ·simp only[qki,stepTst,ev_k,stepEv,Qqa,Qqf,oBs,ty,oMs,truth]
  rfl
 rw[ex_k]
 rw[qzb (τ':=[some (.lst (ys.map D.int)),some (.loc z),none]) (s':=st) (by
  refine(qz3 (st':=st) ?_).trans rfl
  simp only[qki,stepTst,ev_k,stepEv,evs,Qqa,Qqf,oBs,ty,tl,oMs,truth,bfun,ln,ll,cmpD,neD,qbf,beq_self_eq_true]
  rfl)]
 rw[qzb (τ':=[some (.lst (ys.map D.int)),some (.loc z),some (.bl true)]) (s':=st) (by
  show Option.bind ((rn fns (m+1) 19).ev _ st _) _=_
  rw[ev_k]
  simp only[stepEv,evs,cm,oBs,bfun,Qjx,Qxt,allT]
  rfl)]
 refine qz6 ?_
 simp only[stepEx,ev_k,stepEv,Qqa,Qqf,oBs,ty,tl,oMs]
 rfl
noncomputable abbrev sS(s:String):Str:=Str.ofString s
noncomputable abbrev n2(v:Bool):Nat:=match v with|true=>17|false=>16
noncomputable abbrev vn:D:=.tup [.tup [],.tup [.tup [.int 0,.int 0]]]
noncomputable abbrev fnd(v:Bool):List (D×D):=match v with|true=>[(.int 1,vn)]|false=>[]
noncomputable abbrev vV(v:Bool):D:=match v with|true=>.int 3|false=>.non
noncomputable abbrev rw3(v:Bool):List D:=match v with|true=>[.int 3]|false=>[]
noncomputable abbrev otc(v:Bool):List D:=match v with|true=>[.tup [.int 0,.int 0]]|false=>[]
noncomputable abbrev pl(v:Bool)(Q P:List D)(r:Store):Store:=match v with|true=>.lst true Q::.lst true P::r|false=>.lst true P::r
noncomputable abbrev gr:D:=.tup [.int 0,.int 0,.int 0,.int 0]
noncomputable abbrev fo(T d:Int)(p q s r u:Nat):Cell:=.obj 642 [(sS "extent",sz),(sS "year",.int T),(sS "day",.int d),(sS "found",.loc p),(sS "joints",.loc q),(sS "staked",.loc s),(sS "dug",.loc r),(sS "debts",.loc u)]
noncomputable abbrev cs(T:Int)(b r:Nat):Cell:=.obj 273 [(sS "year",.int T),(sS "book",.loc b),(sS "row",.loc r)]
noncomputable abbrev cl(w:Int)(y:Nat)(L:Int)(V G:D):Cell:=.obj 191 [(sS "owner",.int w),(sS "ground",gr),(sS "days",.loc y),(sS "last",.int L),(sS "vested",V),(sS "given",G)]
noncomputable abbrev ml(T d:Int):Cell:=.dic true [(sO "size",sz),(sO "term",.int T),(sO "day",.int d),(sO "row",.loc 9),(sO "book",.loc 10),(sO "dug",.loc 11),(sO "veins",.loc 12),(sO "joins",.loc 13),(sO "claims",.loc 14)]
noncomputable abbrev MA(v u:Bool)(T d e:Int)(r:Store):Store:=fo T d 1 2 3 6 7::.dic true (fnd v)::.dic true []::cs T 4 5::.dic true []::.lst true []::.dic true []::.lst true []::ml T e::.lst true []::.lst true []::.lst true []::.dic true (fnd u)::.dic true []::.dic true []::r
noncomputable abbrev MB(v:Bool)(T d e w L K:Int)(G H:D)(ys zs Q P:List D):Store:=fo T d 1 2 3 6 7::.dic true (fnd v)::.dic true []::cs T 4 5::.dic true [(.int 3,.loc (n2 v+2))]::.lst true (rw3 v)::.dic true []::.lst true []::ml T e::.lst true (rw3 v)::.lst true []::.lst true []::.dic true (fnd v)::.dic true []::.dic true [(.int 3,.loc (n2 v+4))]::pl v Q P [.lst true (otc v),.lst true ys,cl w (n2 v+1) L (vV v) G,.lst true zs,.lst true [.int w,gr,.int K,vV v,H,.loc (n2 v+3)]]
noncomputable abbrev wk:D:=.tup [sO "work",.int 3]
noncomputable abbrev gv:D:=.tup [sO "give",.int 3]
noncomputable abbrev sv(v:Bool):D:=match v with|true=>sO "stands" | false=>sO "unvested"
variable {m:Nat}{v:Bool}{T d e x w L K:Int}{G H:D}{ys zs Q P:List D}
theorem qo0(h1:1≤d)(h2:d≤400)(h3:x<d)(h4:d≤L)(hy:ys.length<lim)(ht:callD fns (m+7) 3 [.int T,.loc (n2 v+1)] (MB v T d e w L K .non H (ys++[.int d]) zs Q P)=some (.int (d+T),MB v T d e w L K .non H (ys++[.int d]) zs Q P)):
  callD fns (m+10) 28 [.loc 0,.int d,wk] (MB v T x e w L K .non H ys zs Q P)=some (sO "good",MB v T d e w (d+T) K .non H (ys++[.int d]) zs Q P):=by
 refine qzk [26,24,3] 10 (fun q=>_∧_∧decide (d≤x)=false∧decide (L<d)=false∧_∧decide (ys.length<lim)=true∧_∧q) [.c (.non,MB v T x e w L K .non H ys zs Q P),.c (.bl true,MB v T x e w L K .non H ys zs Q P),.b false,.b false,.g (sv v,MB v T d e w L K .non H ys zs Q P),.b true,.c (.int (d+T),MB v T d e w L K .non H (ys++[.int d]) zs Q P)] ?_ ⟨gcp (qkw (m+7) (MB v T x e w L K .non H ys zs Q P) h1 h2) rfl,gcp (qdz (m+5) (MB v T x e w L K .non H ys zs Q P)) rfl,decide_eq_false (by omega),decide_eq_false (by omega),qzw (st:=MB v T d e w L K .non H ys zs Q P) (d:=sv v) (by cases v<;>rfl),decide_eq_true hy,gcp ht rfl,rfl⟩
 cases v<;>kernel_rfl
theorem qo4(h1:1≤d)(h2:d≤400)(h3:x<d)(h4:d≤L):
  callD fns (m+10) 28 [.loc 0,.int d,gv] (MB v T x e w L K .non H ys zs Q P)=some (sO "good",MB v T d e w L K (.int d) H ys zs Q P):=by
 refine qzk [26,24,3] 10 (fun q=>_∧_∧decide (d≤x)=false∧decide (L<d)=false∧_∧q) [.c (.non,MB v T x e w L K .non H ys zs Q P),.c (.bl true,MB v T x e w L K .non H ys zs Q P),.b false,.b false,.g (sv v,MB v T d e w L K .non H ys zs Q P)] ?_ ⟨gcp (qkw (m+7) (MB v T x e w L K .non H ys zs Q P) h1 h2) rfl,gcp (qdx (m+5) (MB v T x e w L K .non H ys zs Q P)) rfl,decide_eq_false (by omega),decide_eq_false (by omega),qzw (st:=MB v T d e w L K .non H ys zs Q P) (d:=sv v) (by cases v<;>rfl),rfl⟩
 cases v<;>kernel_rfl
variable {m:Nat}{v f:Bool}{T d e x w L K g:Int}{G H:D}{ys zs Q P:List D}
noncomputable abbrev fk(f:Bool):D:=match f with|true=>gv|false=>wk
theorem qdj(m:Nat)(st:Store)(f:Bool):callD fns (m+4) 24 [sz,fk f] st=some (.bl true,st):=by
 cases f with
 |true=>exact qdx m st
 |false=>exact qdz m st
theorem qlp(h1:1≤d)(h2:d≤400)(h3:x<d):
  callD fns (m+10) 28 [.loc 0,.int d,fk f] (MB v T x e w L K (.int g) H ys zs Q P)=some (sO "ended",MB v T d e w L K (.int g) H ys zs Q P):=by
 refine qzk [26,24,3] 10 (fun q=>_∧_∧decide (d≤x)=false∧_∧q) [.c (.non,MB v T x e w L K (.int g) H ys zs Q P),.c (.bl true,MB v T x e w L K (.int g) H ys zs Q P),.b false,.g (sO "given",MB v T d e w L K (.int g) H ys zs Q P)] ?_ ⟨gcp (qkw (m+7) (MB v T x e w L K (.int g) H ys zs Q P) h1 h2) rfl,gcp (qdj (m+5) (MB v T x e w L K (.int g) H ys zs Q P) f) rfl,decide_eq_false (by omega),qzw (st:=MB v T d e w L K (.int g) H ys zs Q P) (d:=sO "given") rfl,rfl⟩
 cases v<;>cases f<;>kernel_rfl
theorem qhf(h1:1≤d)(h2:d≤400)(h3:x<d)(h4:L<d):
  callD fns (m+10) 28 [.loc 0,.int d,fk f] (MB v T x e w L K .non H ys zs Q P)=some (sO "ended",MB v T d e w L K .non H ys zs Q P):=by
 refine qzk [26,24,3] 10 (fun q=>_∧_∧decide (d≤x)=false∧decide (L<d)=true∧_∧q) [.c (.non,MB v T x e w L K .non H ys zs Q P),.c (.bl true,MB v T x e w L K .non H ys zs Q P),.b false,.b true,.g (sO "fallen",MB v T d e w L K .non H ys zs Q P)] ?_ ⟨gcp (qkw (m+7) (MB v T x e w L K .non H ys zs Q P) h1 h2) rfl,gcp (qdj (m+5) (MB v T x e w L K .non H ys zs Q P) f) rfl,decide_eq_false (by omega),decide_eq_true h4,qzw (st:=MB v T d e w L K .non H ys zs Q P) (d:=sO "fallen") rfl,rfl⟩
 cases v<;>cases f<;>kernel_rfl
noncomputable def stD(v:Bool)(G:D)(d L:Int):D:=match G with
 |.non=>if L<d then sO "fallen" else sv v
 |_=>sO "given"
theorem qcg(hH:H=.non∨∃ g,H=.int g):callD fns (m+1) 42 [.loc 8,.int 3] (MB v T d e w L K G H ys zs Q P)=some (stD v H e K,MB v T d e w L K G H ys zs Q P):=by
 rcases hH with rfl|⟨g,rfl⟩
 ·by_cases h:K<e
  ·rw[stD,if_pos h]
   refine qzk [] 1 (fun q=>decide (K<e)=true∧q) [.b true] ?_ ⟨decide_eq_true h,rfl⟩
   cases v<;>kernel_rfl
  ·rw[stD,if_neg h]
   refine qzk [] 1 (fun q=>decide (K<e)=false∧_∧q) [.b false,.g (.lst [sO "stands",sO "unvested"],MB v T d e w L K G .non ys zs Q P)] ?_ ⟨decide_eq_false h,qzv (st:=MB v T d e w L K G .non ys zs Q P) (ds:=[sO "stands",sO "unvested"]) rfl,rfl⟩
   cases v<;>kernel_rfl
 ·refine qzk [] 1 (fun q=>q) [] ?_ rfl
  cases v<;>kernel_rfl
theorem qoa(h4:d≤K)(hy:zs.length<lim):
  callD fns (m+4) 45 [.loc 8,.int d,wk] (MB v T x e w L K G .non ys zs Q P)=some (sO "good",MB v T x d w L (d+T) G .non ys (zs++[.int d]) Q P):=by
 have hs:=qcg (m:=m+1) (v:=v) (T:=T) (d:=x) (e:=d) (w:=w) (L:=L) (K:=K) (G:=G) (ys:=ys) (zs:=zs) (Q:=Q) (P:=P) (.inl rfl)
 rw[stD,if_neg (by omega)]at hs
 refine qzk [42] 4 (fun q=>_∧decide (zs.length<lim)=true∧q) [.c (sv v,MB v T x d w L K G .non ys zs Q P),.b true] ?_ ⟨gcp hs (by cases v<;>rfl),decide_eq_true hy,rfl⟩
 cases v<;>kernel_rfl
theorem qog(h4:d≤K):
  callD fns (m+4) 45 [.loc 8,.int d,gv] (MB v T x e w L K G .non ys zs Q P)=some (sO "good",MB v T x d w L K G (.int d) ys zs Q P):=by
 have hs:=qcg (m:=m+1) (v:=v) (T:=T) (d:=x) (e:=d) (w:=w) (L:=L) (K:=K) (G:=G) (ys:=ys) (zs:=zs) (Q:=Q) (P:=P) (.inl rfl)
 rw[stD,if_neg (by omega)]at hs
 refine qzk [42] 4 (fun q=>_∧q) [.c (sv v,MB v T x d w L K G .non ys zs Q P)] ?_ ⟨gcp hs (by cases v<;>rfl),rfl⟩
 cases v<;>kernel_rfl
theorem qlb:
  callD fns (m+4) 45 [.loc 8,.int d,fk f] (MB v T x e w L K G (.int g) ys zs Q P)=some (sO "ended",MB v T x d w L K G (.int g) ys zs Q P):=by
 have hs:=qcg (m:=m+1) (v:=v) (T:=T) (d:=x) (e:=d) (w:=w) (L:=L) (K:=K) (G:=G) (ys:=ys) (zs:=zs) (Q:=Q) (P:=P) (.inr ⟨g,rfl⟩)
 refine qzk [42] 4 (fun q=>_∧q) [.c (sO "given",MB v T x d w L K G (.int g) ys zs Q P)] ?_ ⟨gcp hs rfl,rfl⟩
 cases v<;>cases f<;>kernel_rfl
theorem qg3(h4:K<d):
  callD fns (m+4) 45 [.loc 8,.int d,fk f] (MB v T x e w L K G .non ys zs Q P)=some (sO "ended",MB v T x d w L K G .non ys zs Q P):=by
 have hs:=qcg (m:=m+1) (v:=v) (T:=T) (d:=x) (e:=d) (w:=w) (L:=L) (K:=K) (G:=G) (ys:=ys) (zs:=zs) (Q:=Q) (P:=P) (.inl rfl)
 rw[stD,if_pos h4]at hs
 refine qzk [42] 4 (fun q=>_∧q) [.c (sO "fallen",MB v T x d w L K G .non ys zs Q P)] ?_ ⟨gcp hs rfl,rfl⟩
 cases v<;>cases f<;>kernel_rfl
variable {m:Nat}{v f:Bool}{T d e x w L K g:Int}{G H:D}{js:List Int}{Q P:List D}
noncomputable abbrev MM(v:Bool)(T d e w L:Int)(G:D)(js:List Int)(Q P:List D):Store:=MB v T d e w L L G G (js.map D.int) (js.map D.int) Q P
noncomputable abbrev l5(v:Bool)(w L:Int)(G:D):List D:=[.int w,gr,.int L,vV v,G]
theorem dp5(hV:Dp 0 (vV v))(hG:Dp 0 G):Dp 2 (.tup (l5 v w L G)):=by
 have up:∀ {d:D},Dp 0 d→Dp 1 d:=fun h=>by cases h<;>constructor
 refine .tup (fun d hd=>?_) (by simp)
 simp only[Qqh,Qq1,or_false]at hd
 rcases hd with rfl|rfl|rfl|rfl|rfl
 ·exact .int
 ·refine .tup (fun d hd=>?_) (by simp)
  simp only[Qqh,Qq1,or_false]at hd
  rcases hd with rfl|rfl|rfl|rfl<;>exact .int
 ·exact .int
 ·exact up hV
 ·exact up hG
theorem dpV:Dp 0 (vV v):=by cases v<;>constructor
theorem qig(hl:js.length<1000)(hG:G=.non∨∃ g,G=.int g):callD fns (m+6) 46 [.loc (0),.loc 8] (MM v T d d w L G js Q P)=some (.bl true,MM v T d d w L G js Q P):=by
 rcases hG with rfl|⟨g,rfl⟩
 ·by_cases h:L<d
  ·refine qzk [38,42] 6 (fun q=>_∧_∧_∧_∧_∧decide (L<d)=true∧_∧_∧_∧q) [.g (.tup (l5 v w L .non),MM v T d d w L .non js Q P),.g (.lst (l5 v w L .non),MM v T d d w L .non js Q P),.c (.bl true,MM v T d d w L .non js Q P),.g (.lst (js.map D.int),MM v T d d w L .non js Q P),.c (.bl true,MM v T d d w L .non js Q P),.b true,.g (sO "fallen",MM v T d d w L .non js Q P),.c (sO "fallen",MM v T d d w L .non js Q P),.c (.bl true,MM v T d d w L .non js Q P)] ?_ ⟨qzw (st:=MM v T d d w L .non js Q P) (d:=.tup (l5 v w L .non)) (by cases v<;>rfl),qzv (st:=MM v T d d w L .non js Q P) (ds:=(l5 v w L .non)) (by cases v<;>rfl),gcp (qzn hsame (dp5 (v:=v) (w:=w) (L:=L) (G:=.non) dpV .non) (m+5) (MM v T d d w L .non js Q P) (by omega)) rfl,qzv (st:=MM v T d d w L .non js Q P) (ds:=js.map D.int) (qzo fun _ _=>rfl),gcp (qxk (m+3) (MM v T d d w L .non js Q P) (n2 v+3) js (by cases v<;>rfl) hl) rfl,decide_eq_true h,qzw (st:=MM v T d d w L .non js Q P) (d:=sO "fallen") (by cases v<;>rfl),gcp ((qcg (m:=m+4) (v:=v) (T:=T) (d:=d) (e:=d) (w:=w) (L:=L) (K:=L) (G:=.non) (ys:=js.map D.int) (zs:=js.map D.int) (Q:=Q) (P:=P) (.inl rfl)).trans (by rw[stD,if_pos h])) (by cases v<;>rfl),qzn hsame (k:=0) (d:=sO "fallen") (by cases v<;>constructor) (m+5) (MM v T d d w L .non js Q P) (by omega),rfl⟩
   cases v<;>kernel_rfl
  ·refine qzk [38,42] 6 (fun q=>_∧_∧_∧_∧_∧decide (L<d)=false∧_∧_∧_∧q) [.g (.tup (l5 v w L .non),MM v T d d w L .non js Q P),.g (.lst (l5 v w L .non),MM v T d d w L .non js Q P),.c (.bl true,MM v T d d w L .non js Q P),.g (.lst (js.map D.int),MM v T d d w L .non js Q P),.c (.bl true,MM v T d d w L .non js Q P),.b false,.g (sv v,MM v T d d w L .non js Q P),.c (sv v,MM v T d d w L .non js Q P),.c (.bl true,MM v T d d w L .non js Q P)] ?_ ⟨qzw (st:=MM v T d d w L .non js Q P) (d:=.tup (l5 v w L .non)) (by cases v<;>rfl),qzv (st:=MM v T d d w L .non js Q P) (ds:=(l5 v w L .non)) (by cases v<;>rfl),gcp (qzn hsame (dp5 (v:=v) (w:=w) (L:=L) (G:=.non) dpV .non) (m+5) (MM v T d d w L .non js Q P) (by omega)) rfl,qzv (st:=MM v T d d w L .non js Q P) (ds:=js.map D.int) (qzo fun _ _=>rfl),gcp (qxk (m+3) (MM v T d d w L .non js Q P) (n2 v+3) js (by cases v<;>rfl) hl) rfl,decide_eq_false h,qzw (st:=MM v T d d w L .non js Q P) (d:=sv v) (by cases v<;>rfl),gcp ((qcg (m:=m+4) (v:=v) (T:=T) (d:=d) (e:=d) (w:=w) (L:=L) (K:=L) (G:=.non) (ys:=js.map D.int) (zs:=js.map D.int) (Q:=Q) (P:=P) (.inl rfl)).trans (by rw[stD,if_neg h])) (by cases v<;>rfl),qzn hsame (k:=0) (d:=sv v) (by cases v<;>constructor) (m+5) (MM v T d d w L .non js Q P) (by omega),rfl⟩
   cases v<;>kernel_rfl
 ·refine qzk [38,42] 6 (fun q=>_∧_∧_∧_∧_∧_∧_∧_∧q) [.g (.tup (l5 v w L (.int g)),MM v T d d w L (.int g) js Q P),.g (.lst (l5 v w L (.int g)),MM v T d d w L (.int g) js Q P),.c (.bl true,MM v T d d w L (.int g) js Q P),.g (.lst (js.map D.int),MM v T d d w L (.int g) js Q P),.c (.bl true,MM v T d d w L (.int g) js Q P),.g (sO "given",MM v T d d w L (.int g) js Q P),.c (sO "given",MM v T d d w L (.int g) js Q P),.c (.bl true,MM v T d d w L (.int g) js Q P)] ?_ ⟨qzw (st:=MM v T d d w L (.int g) js Q P) (d:=.tup (l5 v w L (.int g))) (by cases v<;>rfl),qzv (st:=MM v T d d w L (.int g) js Q P) (ds:=(l5 v w L (.int g))) (by cases v<;>rfl),gcp (qzn hsame (dp5 (v:=v) (w:=w) (L:=L) (G:=(.int g)) dpV .int) (m+5) (MM v T d d w L (.int g) js Q P) (by omega)) rfl,qzv (st:=MM v T d d w L (.int g) js Q P) (ds:=js.map D.int) (qzo fun _ _=>rfl),gcp (qxk (m+3) (MM v T d d w L (.int g) js Q P) (n2 v+3) js (by cases v<;>rfl) hl) rfl,qzw (st:=MM v T d d w L (.int g) js Q P) (d:=sO "given") (by cases v<;>rfl),gcp (qcg (m:=m+4) (v:=v) (T:=T) (d:=d) (e:=d) (w:=w) (L:=L) (K:=L) (G:=.int g) (ys:=js.map D.int) (zs:=js.map D.int) (Q:=Q) (P:=P) (.inr ⟨g,rfl⟩)) (by cases v<;>rfl),qzn hsame (k:=0) (d:=sO "given") (by cases v<;>constructor) (m+5) (MM v T d d w L (.int g) js Q P) (by omega),rfl⟩
  cases v<;>kernel_rfl
noncomputable abbrev tw(v:Bool)(T k w L:Int)(G:D)(ys:List D):Store:=[fo T k (n2 v+13) (n2 v+14) (n2 v+18) (n2 v+22) (n2 v+23),.dic true [],.dic true [],cs T (n2 v+9) (n2 v+10),.dic true [],.lst true [],.dic true [],.lst true [],.dic true (fnd v),.dic true [],.dic true [(.int 3,.loc (n2 v+17))],.lst true ys,cl w (n2 v+16) L (vV v) G,cs T (n2 v+15) (n2 v+21),.dic true [],.lst true [],.lst true (rw3 v),.dic true [],.lst true []]
noncomputable abbrev MT(v:Bool)(T d e k w L:Int)(G:D)(js:List Int)(Q P:List D):Store:=MM v T d e w L G js Q P++tw v T k w L G (js.map D.int)
theorem qoc(hG:G=.non∨∃ g,G=.int g):callD fns (m+1) 42 [.loc 8,.int 3] (MT v T d e e w L G js Q P)=some (stD v G e L,MT v T d e e w L G js Q P):=by
 rcases hG with rfl|⟨g,rfl⟩
 ·by_cases h:L<e
  ·rw[stD,if_pos h]
   refine qzk [] 1 (fun q=>decide (L<e)=true∧q) [.b true] ?_ ⟨decide_eq_true h,rfl⟩
   cases v<;>kernel_rfl
  ·rw[stD,if_neg h]
   refine qzk [] 1 (fun q=>decide (L<e)=false∧_∧q) [.b false,.g (.lst [sO "stands",sO "unvested"],MT v T d e e w L .non js Q P)] ?_ ⟨decide_eq_false h,qzv (st:=MT v T d e e w L .non js Q P) (ds:=[sO "stands",sO "unvested"]) rfl,rfl⟩
   cases v<;>kernel_rfl
 ·refine qzk [] 1 (fun q=>q) [] ?_ rfl
  cases v<;>kernel_rfl
theorem ask_tw(hl:js.length<1000)(hG:G=.non∨∃ g,G=.int g):callD fns (m+6) 46 [.loc (n2 v+5),.loc 8] (MT v T d e e w L G js Q P)=some (.bl true,MT v T d e e w L G js Q P):=by
 rcases hG with rfl|⟨g,rfl⟩
 ·by_cases h:L<e
  ·refine qzk [38,42] 6 (fun q=>_∧_∧_∧_∧_∧decide (L<e)=true∧_∧_∧_∧q) [.g (.tup (l5 v w L .non),MT v T d e e w L .non js Q P),.g (.lst (l5 v w L .non),MT v T d e e w L .non js Q P),.c (.bl true,MT v T d e e w L .non js Q P),.g (.lst (js.map D.int),MT v T d e e w L .non js Q P),.c (.bl true,MT v T d e e w L .non js Q P),.b true,.g (sO "fallen",MT v T d e e w L .non js Q P),.c (sO "fallen",MT v T d e e w L .non js Q P),.c (.bl true,MT v T d e e w L .non js Q P)] ?_ ⟨qzw (st:=MT v T d e e w L .non js Q P) (d:=.tup (l5 v w L .non)) (by cases v<;>rfl),qzv (st:=MT v T d e e w L .non js Q P) (ds:=(l5 v w L .non)) (by cases v<;>rfl),gcp (qzn hsame (dp5 (v:=v) (w:=w) (L:=L) (G:=.non) dpV .non) (m+5) (MT v T d e e w L .non js Q P) (by omega)) rfl,qzv (st:=MT v T d e e w L .non js Q P) (ds:=js.map D.int) (qzo fun _ _=>rfl),gcp (qxk (m+3) (MT v T d e e w L .non js Q P) (n2 v+3) js (by cases v<;>rfl) hl) rfl,decide_eq_true h,qzw (st:=MT v T d e e w L .non js Q P) (d:=sO "fallen") (by cases v<;>rfl),gcp ((qoc (m:=m+4) (v:=v) (T:=T) (d:=d) (e:=e) (w:=w) (L:=L) (js:=js) (Q:=Q) (P:=P) (.inl rfl)).trans (by rw[stD,if_pos h])) (by cases v<;>rfl),qzn hsame (k:=0) (d:=sO "fallen") (by cases v<;>constructor) (m+5) (MT v T d e e w L .non js Q P) (by omega),rfl⟩
   cases v<;>kernel_rfl
  ·refine qzk [38,42] 6 (fun q=>_∧_∧_∧_∧_∧decide (L<e)=false∧_∧_∧_∧q) [.g (.tup (l5 v w L .non),MT v T d e e w L .non js Q P),.g (.lst (l5 v w L .non),MT v T d e e w L .non js Q P),.c (.bl true,MT v T d e e w L .non js Q P),.g (.lst (js.map D.int),MT v T d e e w L .non js Q P),.c (.bl true,MT v T d e e w L .non js Q P),.b false,.g (sv v,MT v T d e e w L .non js Q P),.c (sv v,MT v T d e e w L .non js Q P),.c (.bl true,MT v T d e e w L .non js Q P)] ?_ ⟨qzw (st:=MT v T d e e w L .non js Q P) (d:=.tup (l5 v w L .non)) (by cases v<;>rfl),qzv (st:=MT v T d e e w L .non js Q P) (ds:=(l5 v w L .non)) (by cases v<;>rfl),gcp (qzn hsame (dp5 (v:=v) (w:=w) (L:=L) (G:=.non) dpV .non) (m+5) (MT v T d e e w L .non js Q P) (by omega)) rfl,qzv (st:=MT v T d e e w L .non js Q P) (ds:=js.map D.int) (qzo fun _ _=>rfl),gcp (qxk (m+3) (MT v T d e e w L .non js Q P) (n2 v+3) js (by cases v<;>rfl) hl) rfl,decide_eq_false h,qzw (st:=MT v T d e e w L .non js Q P) (d:=sv v) (by cases v<;>rfl),gcp ((qoc (m:=m+4) (v:=v) (T:=T) (d:=d) (e:=e) (w:=w) (L:=L) (js:=js) (Q:=Q) (P:=P) (.inl rfl)).trans (by rw[stD,if_neg h])) (by cases v<;>rfl),qzn hsame (k:=0) (d:=sv v) (by cases v<;>constructor) (m+5) (MT v T d e e w L .non js Q P) (by omega),rfl⟩
   cases v<;>kernel_rfl
 ·refine qzk [38,42] 6 (fun q=>_∧_∧_∧_∧_∧_∧_∧_∧q) [.g (.tup (l5 v w L (.int g)),MT v T d e e w L (.int g) js Q P),.g (.lst (l5 v w L (.int g)),MT v T d e e w L (.int g) js Q P),.c (.bl true,MT v T d e e w L (.int g) js Q P),.g (.lst (js.map D.int),MT v T d e e w L (.int g) js Q P),.c (.bl true,MT v T d e e w L (.int g) js Q P),.g (sO "given",MT v T d e e w L (.int g) js Q P),.c (sO "given",MT v T d e e w L (.int g) js Q P),.c (.bl true,MT v T d e e w L (.int g) js Q P)] ?_ ⟨qzw (st:=MT v T d e e w L (.int g) js Q P) (d:=.tup (l5 v w L (.int g))) (by cases v<;>rfl),qzv (st:=MT v T d e e w L (.int g) js Q P) (ds:=(l5 v w L (.int g))) (by cases v<;>rfl),gcp (qzn hsame (dp5 (v:=v) (w:=w) (L:=L) (G:=(.int g)) dpV .int) (m+5) (MT v T d e e w L (.int g) js Q P) (by omega)) rfl,qzv (st:=MT v T d e e w L (.int g) js Q P) (ds:=js.map D.int) (qzo fun _ _=>rfl),gcp (qxk (m+3) (MT v T d e e w L (.int g) js Q P) (n2 v+3) js (by cases v<;>rfl) hl) rfl,qzw (st:=MT v T d e e w L (.int g) js Q P) (d:=sO "given") (by cases v<;>rfl),gcp (qoc (m:=m+4) (v:=v) (T:=T) (d:=d) (e:=e) (w:=w) (L:=L) (js:=js) (Q:=Q) (P:=P) (.inr ⟨g,rfl⟩)) (by cases v<;>rfl),qzn hsame (k:=0) (d:=sO "given") (by cases v<;>constructor) (m+5) (MT v T d e e w L (.int g) js Q P) (by omega),rfl⟩
  cases v<;>kernel_rfl
theorem qgh(hT:1≤T)(hT2:T≤400)(h1:1≤e)(h2:e≤400)(h3:d≤e)(hl:js.length<1000)(hG:G=.non∨∃ g,G=.int g):callD fns (m+12) 47 [.loc 0,.loc 8,.int e] (MM v T d d w L G js Q P)=some (.bl true,MT v T d d e w L G js Q P):=by
 refine qzk [25,26,46] 12 (fun q=>_∧_∧decide (e<d)=false∧_∧q) [.c (.non,MM v T d d w L G js Q P++[.obj 642 []]),.c (.non,MT v T d d d w L G js Q P),.b false,.c (.bl true,MT v T d e e w L G js Q P)] ?_ ⟨gcp (qqq (m+7) (MM v T d d w L G js Q P++[.obj 642 []]) hT hT2) rfl,gcp (qkw (m+8) (MT v T d d d w L G js Q P) h1 h2) rfl,decide_eq_false (by omega),gcp (ask_tw (m:=m+5) (v:=v) (T:=T) (d:=d) (e:=e) (w:=w) (L:=L) (Q:=Q) (P:=P) hl hG) rfl,rfl⟩
 cases v<;>kernel_rfl
variable {m:Nat}{v f:Bool}{T d e x w L K g:Int}{G H:D}{js:List Int}{Q P:List D}
noncomputable abbrev vt:D:=.tup [sO "vein",.tup [],.tup [.tup [.int 0,.int 0]]]
noncomputable abbrev sk(w:Int):D:=.tup [sO "stake",.int w,.int 0,.int 0,.int 0,.int 0]
theorem qit(m:Nat)(st:Store):callD fns (m+6) 24 [sz,vt] st=some (.bl true,st):=by
 refine qzk [18] 6 (fun q=>_∧_∧_∧_∧_∧_∧q) [.k,.c (.bl true,st),.g (.bl true,st),.k,.k,.c (.bl true,st),.g (.bl true,st),.g (.lst [.bl true],st),.k,.g (.bl true,st)] ?_ ⟨gcq (qqn (m+1) st [] (by simp) (by simp)) rfl,qzw (st:=st) (d:=.bl true) rfl,gcq (qqn m st [(.int 0,sO "x"),(.int 0,sO "y")] (by simp) (by
  rintro p hp
  simp only[Qqh,Qq1,or_false]at hp
  rcases hp with rfl|rfl
  ·exact⟨0,0,0,Str.ofString "x",rfl,by kernel_rfl,by decide,by decide⟩
  ·exact⟨0,0,0,Str.ofString "y",rfl,by kernel_rfl,by decide,by decide⟩)) rfl,qzw (st:=st) (d:=.bl true) rfl,qzv (st:=st) (ds:=[.bl true]) rfl,qzw (st:=st) (d:=.bl true) rfl,rfl⟩
 kernel_rfl
theorem qo1:callD fns (m+10) 28 [.loc 0,.int 1,vt] (MA false false T 0 0 (pl true Q P []))=some (sO "good",MA true false T 1 0 (pl true Q P [])):=by
 refine qzk [26,24] 10 (fun q=>_∧_∧_∧q) [.c (.non,MA false false T 0 0 (pl true Q P [])),.c (.bl true,MA false false T 0 0 (pl true Q P [])),.k,.g (.lst [],MA true false T 1 0 (pl true Q P []))] ?_ ⟨gcp (qkw (d:=1) (m+7) (MA false false T 0 0 (pl true Q P [])) (by decide) (by decide)) rfl,gcp (qit (m+3) (MA false false T 0 0 (pl true Q P []))) rfl,qzv (st:=MA true false T 1 0 (pl true Q P [])) (ds:=[]) rfl,rfl⟩
 kernel_rfl
theorem qob:callD fns (m+4) 45 [.loc 8,.int 1,vt] (MA true false T 1 0 (pl true Q P []))=some (sO "good",MA true true T 1 1 (pl true Q P [])):=by
 refine qzk [] 4 (fun q=>_∧q) [.g (.lst [],MA true true T 1 1 (pl true Q P []))] ?_ ⟨qzv (st:=MA true true T 1 1 (pl true Q P [])) (ds:=[]) rfl,rfl⟩
 kernel_rfl
noncomputable abbrev MC(v:Bool)(T d e w L:Int)(V:D)(row ys Q P:List D):Store:=fo T d 1 2 3 6 7::.dic true (fnd v)::.dic true []::cs T 4 5::.dic true [(.int 3,.loc (n2 v+2))]::.lst true row::.dic true []::.lst true []::ml T e::.lst true []::.lst true []::.lst true []::.dic true (fnd v)::.dic true []::.dic true []::pl v Q P [.lst true (otc v),.lst true ys,cl w (n2 v+1) L V .non]
noncomputable abbrev MD(v:Bool)(T d e w L K:Int)(row:List D)(V:D)(Q P:List D):Store:=fo T d 1 2 3 6 7::.dic true (fnd v)::.dic true []::cs T 4 5::.dic true [(.int 3,.loc (n2 v+2))]::.lst true (rw3 v)::.dic true []::.lst true []::ml T e::.lst true row::.lst true []::.lst true []::.dic true (fnd v)::.dic true []::.dic true [(.int 3,.loc (n2 v+4))]::pl v Q P [.lst true (otc v),.lst true [.int 3],cl w (n2 v+1) L (vV v) .non,.lst true [.int 3],.lst true [.int w,gr,.int K,V,.non,.loc (n2 v+3)]]
theorem qo2(hT:1≤T)(h1:1≤w)(h2:w≤40):callD fns (m+10) 28 [.loc 0,.int 3,sk w] (MA true true T 1 1 (pl true Q P []))=some (sO "good",MC true T 3 1 w (3+T) (vV true) (rw3 true) [.int 3] Q P):=by
 refine qzk [26,24,3] 10 (fun q=>_∧_∧_∧_∧decide (3+T<3)=false∧_∧_∧_∧_∧q) [.c (.non,MA true true T 1 1 (pl true Q P [])),.c (.bl true,MA true true T 1 1 (pl true Q P [])),.k,.g (.lst [.int 3],MA true true T 3 1 (pl true Q P [.lst true (otc true),.lst true [.int 3]])),.c (.int (3+T),MA true true T 3 1 (pl true Q P [.lst true (otc true),.lst true [.int 3]])),.b false,.g (sO "unvested",MC true T 3 1 w (3+T) .non [] [.int 3] Q P),.k,.k,.k,.k,.g (.bl true,MC true T 3 1 w (3+T) .non [] [.int 3] Q P),.g (.lst [.bl true],MC true T 3 1 w (3+T) .non [] [.int 3] Q P),.g (.bl true,MC true T 3 1 w (3+T) .non [] [.int 3] Q P),.k] ?_ ⟨gcp (qkw (d:=3) (m+7) (MA true true T 1 1 (pl true Q P [])) (by decide) (by decide)) rfl,gcp (qdq (m+5) (MA true true T 1 1 (pl true Q P [])) h1 h2) rfl,qzv (st:=MA true true T 3 1 (pl true Q P [.lst true (otc true),.lst true [.int 3]])) (ds:=[.int 3]) rfl,gcp (qju (m+4) (MA true true T 3 1 (pl true Q P [.lst true (otc true),.lst true [.int 3]])) (q:=.lst [.int 3]) (Good.one T 3) (by omega) (fun _=>rfl)) rfl,decide_eq_false (by omega),qzw (st:=MC true T 3 1 w (3+T) .non [] [.int 3] Q P) (d:=sO "unvested") rfl,qzw (st:=MC true T 3 1 w (3+T) .non [] [.int 3] Q P) (d:=.bl true) rfl,qzv (st:=MC true T 3 1 w (3+T) .non [] [.int 3] Q P) (ds:=[.bl true]) rfl,qzw (st:=MC true T 3 1 w (3+T) .non [] [.int 3] Q P) (d:=.bl true) rfl,rfl⟩
 kernel_rfl
theorem qod(hT:1≤T):callD fns (m+6) 45 [.loc 8,.int 3,sk w] (MC true T 3 1 w (3+T) (vV true) (rw3 true) [.int 3] Q P)=some (sO "good",MB true T 3 3 w (3+T) (3+T) .non .non [.int 3] [.int 3] Q P):=by
 refine qzk [] 6 (fun q=>_∧decide (3+T<3)=false∧_∧_∧_∧_∧q) [.g (.lst [.int 1],MD true T 3 3 w (3+T) (3+T) [] .non Q P),.b false,.g (.lst [sO "stands",sO "unvested"],MD true T 3 3 w (3+T) (3+T) [] .non Q P),.g (sO "unvested",MD true T 3 3 w (3+T) (3+T) [] .non Q P),.k,.k,.k,.k,.g (.bl true,MD true T 3 3 w (3+T) (3+T) [] .non Q P),.g (.lst [.bl true],MD true T 3 3 w (3+T) (3+T) [] .non Q P),.k] ?_ ⟨qzv (st:=MD true T 3 3 w (3+T) (3+T) [] .non Q P) (ds:=[.int 1]) rfl,decide_eq_false (by omega),qzv (st:=MD true T 3 3 w (3+T) (3+T) [] .non Q P) (ds:=[sO "stands",sO "unvested"]) rfl,qzw (st:=MD true T 3 3 w (3+T) (3+T) [] .non Q P) (d:=sO "unvested") rfl,qzw (st:=MD true T 3 3 w (3+T) (3+T) [] .non Q P) (d:=.bl true) rfl,qzv (st:=MD true T 3 3 w (3+T) (3+T) [] .non Q P) (ds:=[.bl true]) rfl,rfl⟩
 kernel_rfl
theorem qln(hT:1≤T)(h1:1≤w)(h2:w≤40):callD fns (m+10) 28 [.loc 0,.int 3,sk w] (MA false false T 0 0 (pl false Q P []))=some (sO "good",MC false T 3 0 w (3+T) (vV false) (rw3 false) [.int 3] Q P):=by
 refine qzk [26,24,3] 10 (fun q=>_∧_∧_∧_∧decide (3+T<3)=false∧_∧_∧_∧q) [.c (.non,MA false false T 0 0 (pl false Q P [])),.c (.bl true,MA false false T 0 0 (pl false Q P [])),.k,.g (.lst [.int 3],MA false false T 3 0 (pl false Q P [.lst true (otc false),.lst true [.int 3]])),.c (.int (3+T),MA false false T 3 0 (pl false Q P [.lst true (otc false),.lst true [.int 3]])),.b false,.g (sO "unvested",MC false T 3 0 w (3+T) .non [] [.int 3] Q P),.g (.lst [],MC false T 3 0 w (3+T) .non [] [.int 3] Q P),.g (.bl false,MC false T 3 0 w (3+T) .non [] [.int 3] Q P)] ?_ ⟨gcp (qkw (d:=3) (m+7) (MA false false T 0 0 (pl false Q P [])) (by decide) (by decide)) rfl,gcp (qdq (m+5) (MA false false T 0 0 (pl false Q P [])) h1 h2) rfl,qzv (st:=MA false false T 3 0 (pl false Q P [.lst true (otc false),.lst true [.int 3]])) (ds:=[.int 3]) rfl,gcp (qju (m+4) (MA false false T 3 0 (pl false Q P [.lst true (otc false),.lst true [.int 3]])) (q:=.lst [.int 3]) (Good.one T 3) (by omega) (fun _=>rfl)) rfl,decide_eq_false (by omega),qzw (st:=MC false T 3 0 w (3+T) .non [] [.int 3] Q P) (d:=sO "unvested") rfl,qzv (st:=MC false T 3 0 w (3+T) .non [] [.int 3] Q P) (ds:=[]) rfl,qzw (st:=MC false T 3 0 w (3+T) .non [] [.int 3] Q P) (d:=.bl false) rfl,rfl⟩
 kernel_rfl
theorem qly(hT:1≤T):callD fns (m+6) 45 [.loc 8,.int 3,sk w] (MC false T 3 0 w (3+T) (vV false) (rw3 false) [.int 3] Q P)=some (sO "good",MB false T 3 3 w (3+T) (3+T) .non .non [.int 3] [.int 3] Q P):=by
 refine qzk [] 6 (fun q=>_∧q) [.g (.lst [],MD false T 3 3 w (3+T) (3+T) [] .non Q P)] ?_ ⟨qzv (st:=MD false T 3 3 w (3+T) (3+T) [] .non Q P) (ds:=[]) rfl,rfl⟩
 kernel_rfl
noncomputable abbrev sc(ns:List Int):D:=.lst (ns.map D.int)
theorem qe7:fns[37]?=some qo5:=rfl
theorem qm8(ns:List Int)(hn:ns.length≤63):∃ t:Int,1≤t∧t≤400∧∀ m st,callD fns (m+2) 39 [sc ns,.int 0] st=some (.int t,st):=by
 have a1:=qqy ns 0 5 (many:=400) (by decide)
 have a2:=qqr ns 0 5 (many:=400) (by decide)
 have b1:=qqy ns 0 4 (many:=4) (by decide)
 have b2:=qqr ns 0 4 (many:=4) (by decide)
 have e1:∀ m st,callD fns (m+1) 37 [sc ns,.int 0,.int 5,.int 400] st=some (.int (qqz ns 0 5 400),st):=fun m st=>qj5 qe7 (by omega) hn (by decide) (by decide) (by decide)
 have e2:∀ m st,callD fns (m+1) 37 [sc ns,.int 0,.int 4,.int 4] st=some (.int (qqz ns 0 4 4),st):=fun m st=>qj5 qe7 (by omega) hn (by decide) (by decide) (by decide)
 generalize qqz ns 0 5 400=r at *
 generalize qqz ns 0 4 4=q at *
 have hq:q=0∨q=1∨q=2∨q=3:=by omega
 rcases hq with rfl|rfl|rfl|rfl
 ·exact⟨1+r,by omega,by omega,fun m st=>qzk [37] 2 (fun q=>_∧_∧_∧q) [.c (.int r,st),.g (.lst [.int (1+r),.int (1+r % 4),.int (4+r % 50),.int (4+r % 50)],st),.c (.int 0,st)] (by kernel_rfl) ⟨gcp (e1 m st) rfl,qzv (st:=st) (ds:=[.int (1+r),.int (1+r % 4),.int (4+r % 50),.int (4+r % 50)]) rfl,gcp (e2 m st) rfl,rfl⟩⟩
 ·exact⟨1+r % 4,by omega,by omega,fun m st=>qzk [37] 2 (fun q=>_∧_∧_∧q) [.c (.int r,st),.g (.lst [.int (1+r),.int (1+r % 4),.int (4+r % 50),.int (4+r % 50)],st),.c (.int 1,st)] (by kernel_rfl) ⟨gcp (e1 m st) rfl,qzv (st:=st) (ds:=[.int (1+r),.int (1+r % 4),.int (4+r % 50),.int (4+r % 50)]) rfl,gcp (e2 m st) rfl,rfl⟩⟩
 ·exact⟨4+r % 50,by omega,by omega,fun m st=>qzk [37] 2 (fun q=>_∧_∧_∧q) [.c (.int r,st),.g (.lst [.int (1+r),.int (1+r % 4),.int (4+r % 50),.int (4+r % 50)],st),.c (.int 2,st)] (by kernel_rfl) ⟨gcp (e1 m st) rfl,qzv (st:=st) (ds:=[.int (1+r),.int (1+r % 4),.int (4+r % 50),.int (4+r % 50)]) rfl,gcp (e2 m st) rfl,rfl⟩⟩
 ·exact⟨4+r % 50,by omega,by omega,fun m st=>qzk [37] 2 (fun q=>_∧_∧_∧q) [.c (.int r,st),.g (.lst [.int (1+r),.int (1+r % 4),.int (4+r % 50),.int (4+r % 50)],st),.c (.int 3,st)] (by kernel_rfl) ⟨gcp (e1 m st) rfl,qzv (st:=st) (ds:=[.int (1+r),.int (1+r % 4),.int (4+r % 50),.int (4+r % 50)]) rfl,gcp (e2 m st) rfl,rfl⟩⟩
noncomputable abbrev pt(w:Int):D:=.tup [.int 3,sk w]
noncomputable abbrev pv:D:=.tup [.int 1,vt]
noncomputable abbrev P0(v:Bool)(w:Int):List D:=match v with|true=>[pv,pt w]|false=>[pt w]
noncomputable abbrev pL(v:Bool):Nat:=match v with|true=>16|false=>15
noncomputable abbrev tz(ns:List Int)(v:Bool)(T z y:Int)(o7 o8 o9 o10 o11:Option D):Sl:=[some (sc ns),some (.int T),some (.loc 0),some (.loc 8),some (.loc (pL v)),some (.int y),some (.int z),o7,o8,o9,o10,o11]
noncomputable abbrev MP(v:Bool)(T:Int)(Q P:List D):Store:=MA false false T 0 0 (pl v Q P [])
theorem top_ok(ns:List Int)(hn:ns.length≤63):∃ (T w z:Int) (v:Bool),1≤T∧T≤400∧1≤w∧w≤40∧exs (stepEx (RL (callD fns 19))) (b_law.take 7) [some (sc ns),none,none,none,none,none,none,none,none,none,none,none] []=some (.nx (tz ns v T z 3 none none none none none),MP v T [pt w] (P0 v w)):=by
 obtain⟨t,t1,t2,et⟩:=qm8 ns hn
 have a1:=qqy ns 0 0 (many:=30) (by decide)
 have a2:=qqr ns 0 0 (many:=30) (by decide)
 have b1:=qqy ns 0 1 (many:=2) (by decide)
 have b2:=qqr ns 0 1 (many:=2) (by decide)
 have c1:=qqy ns 0 2 (many:=40) (by decide)
 have c2:=qqr ns 0 2 (many:=40) (by decide)
 have dr:∀ (j M:Int) (st:Store),0≤j→j<100000→0<M→callD fns 19 37 [sc ns,.int 0,.int j,.int M] st=some (.int (qqz ns 0 j M),st):=fun j M st h1 h2 h3=>qj5 qe7 (by omega) hn h1 h2 h3
 have ea:=dr 0 30 [] (by decide) (by decide) (by decide)
 have eb:=dr 1 2 [] (by decide) (by decide) (by decide)
 have ec:=fun st=>dr 2 40 st (by decide) (by decide) (by decide)
 have ed:=fun st=>dr 3 3 st (by decide) (by decide) (by decide)
 have ee:=fun st=>dr 6 48 st (by decide) (by decide) (by decide)
 have e9:=et 17 []
 generalize qqz ns 0 0 30=r at *
 generalize qqz ns 0 1 2=q at *
 generalize qqz ns 0 2 40=u at *
 generalize qqz ns 0 3 3=y at *
 generalize qqz ns 0 6 48=z at *
 have hq:q=0∨q=1:=by omega
 by_cases hy:0<y
 ·rcases hq with rfl|rfl
  ·exact⟨1+r,1+u,z,true,by omega,by omega,by omega,by omega,qxy (k:=10) [37,39,25] 9 (fun q=>_∧_∧_∧_∧_∧_∧decide (0<y)=true∧_∧q) [.c (.int r,[]),.c (.int t,[]),.k,.c (.int 0,[]),.c (.non,[.obj 642 []]),.c (.int u,MA false false (1+r) 0 0 []),.c (.int y,MA false false (1+r) 0 0 [.lst true [pt (1+u)]]),.b true,.k,.c (.int z,MP true (1+r) [pt (1+u)] (P0 true (1+u)))] (by kernel_rfl) ⟨gcp ea rfl,e9,gcp eb rfl,gcp (qqq (t:=1+r) 16 [.obj 642 []] (by omega) (by omega)) rfl,gcp (ec (MA false false (1+r) 0 0 [])) rfl,gcp (ed (MA false false (1+r) 0 0 [.lst true [pt (1+u)]])) rfl,decide_eq_true hy,gcp (ee (MP true (1+r) [pt (1+u)] (P0 true (1+u)))) rfl,rfl⟩⟩
  ·exact⟨t,1+u,z,true,by omega,by omega,by omega,by omega,qxy (k:=10) [37,39,25] 9 (fun q=>_∧_∧_∧_∧_∧_∧decide (0<y)=true∧_∧q) [.c (.int r,[]),.c (.int t,[]),.k,.c (.int 1,[]),.c (.non,[.obj 642 []]),.c (.int u,MA false false t 0 0 []),.c (.int y,MA false false t 0 0 [.lst true [pt (1+u)]]),.b true,.k,.c (.int z,MP true t [pt (1+u)] (P0 true (1+u)))] (by kernel_rfl) ⟨gcp ea rfl,e9,gcp eb rfl,gcp (qqq (t:=t) 16 [.obj 642 []] (by omega) (by omega)) rfl,gcp (ec (MA false false t 0 0 [])) rfl,gcp (ed (MA false false t 0 0 [.lst true [pt (1+u)]])) rfl,decide_eq_true hy,gcp (ee (MP true t [pt (1+u)] (P0 true (1+u)))) rfl,rfl⟩⟩
 ·rcases hq with rfl|rfl
  ·exact⟨1+r,1+u,z,false,by omega,by omega,by omega,by omega,qxy (k:=10) [37,39,25] 9 (fun q=>_∧_∧_∧_∧_∧_∧decide (0<y)=false∧_∧q) [.c (.int r,[]),.c (.int t,[]),.k,.c (.int 0,[]),.c (.non,[.obj 642 []]),.c (.int u,MA false false (1+r) 0 0 []),.c (.int y,MA false false (1+r) 0 0 [.lst true [pt (1+u)]]),.b false,.c (.int z,MP false (1+r) [pt (1+u)] (P0 false (1+u)))] (by kernel_rfl) ⟨gcp ea rfl,e9,gcp eb rfl,gcp (qqq (t:=1+r) 16 [.obj 642 []] (by omega) (by omega)) rfl,gcp (ec (MA false false (1+r) 0 0 [])) rfl,gcp (ed (MA false false (1+r) 0 0 [.lst true [pt (1+u)]])) rfl,decide_eq_false hy,gcp (ee (MP false (1+r) [pt (1+u)] (P0 false (1+u)))) rfl,rfl⟩⟩
  ·exact⟨t,1+u,z,false,by omega,by omega,by omega,by omega,qxy (k:=10) [37,39,25] 9 (fun q=>_∧_∧_∧_∧_∧_∧decide (0<y)=false∧_∧q) [.c (.int r,[]),.c (.int t,[]),.k,.c (.int 1,[]),.c (.non,[.obj 642 []]),.c (.int u,MA false false t 0 0 []),.c (.int y,MA false false t 0 0 [.lst true [pt (1+u)]]),.b false,.c (.int z,MP false t [pt (1+u)] (P0 false (1+u)))] (by kernel_rfl) ⟨gcp ea rfl,e9,gcp eb rfl,gcp (qqq (t:=t) 16 [.obj 642 []] (by omega) (by omega)) rfl,gcp (ec (MA false false t 0 0 [])) rfl,gcp (ed (MA false false t 0 0 [.lst true [pt (1+u)]])) rfl,decide_eq_false hy,gcp (ee (MP false t [pt (1+u)] (P0 false (1+u)))) rfl,rfl⟩⟩
noncomputable def bd1:List S:=[.set (.var 8) (.idx (.gc (.lst [(.bin .Add (.lit (.int 1)) (.gc (.call 37 [(.var 0),(.bin .Add (.lit (.int 1)) (.var 7)),(.lit (.int 0)),(.var 1)]))),(.var 1),(.bin .Add (.var 1) (.lit (.int 1))),(.lit (.int 1))])) (.gc (.call 37 [(.var 0),(.bin .Add (.lit (.int 1)) (.var 7)),(.lit (.int 1)),(.lit (.int 4))]))),.set (.var 5) (.bcall .min [(.bin .Add (.var 5) (.var 8)),(.bin .Add (.lit (.int 380)) (.var 7))]),.expr (.meth (.var 4) .append [(.tup [(.var 5),(.idx (.gc (.lst [(.tup [(.lit (.str "work")),(.lit (.int 3))]),(.tup [(.lit (.str "give")),(.lit (.int 3))])])) (.bcall .int [(.cmp .Eq (.var 7) (.var 6))]))])])]
noncomputable def bd2:List S:=[.ite (.cmp .LtE (.var 9) (.didx (.var 3) (.lit (.str "day")))) [.cnt] [],.ite (.not (.call 38 [(.mcall 642 28 "enter" (.var 2) [(.var 9),(.var 10)]),(.call 45 [(.var 3),(.var 9),(.var 10)])])) [.ret (.lit (.bl false))] [],.ite (.and (.cmp .GtE (.var 9) (.lit (.int 3))) (.not (.gc (.call 46 [(.var 2),(.var 3)])))) [.ret (.lit (.bl false))] []]
noncomputable def bd3:List S:=[.ite (.and (.cmp2 .LtE .LtE (.didx (.var 3) (.lit (.str "day"))) (.var 9) (.lit (.int 400))) (.not (.gc (.call 47 [(.var 2),(.var 3),(.var 9)])))) [.ret (.lit (.bl false))] []]
theorem qlc:b_law.drop 7=[.forr (.var 7) (.rng1 (.gc (.call 37 [(.var 0),(.lit (.int 0)),(.lit (.int 7)),(.lit (.int 13))]))) bd1,.forr (.tup [9,10]) (.var 4) bd2,.set (.var 11) (.idx (.didx (.didx (.var 3) (.lit (.str "claims"))) (.lit (.int 3))) (.lit (.int 2))),.forr (.var 9) (.rng2 (.bin .Sub (.var 11) (.lit (.int 1))) (.bin .Add (.var 11) (.lit (.int 3)))) bd3,.ret (.lit (.bl true))]:=rfl
theorem qga(ns:List Int)(hn:ns.length≤63)(v:Bool)(T z k y:Int)(o8:Option D)(Q P:List D)(hT:1≤T)(hP:P.length<1000):∃ (g:Int) (b:Bool),1≤g∧(RL (callD fns 19)).ex (tz ns v T z y (some (.int k)) o8 none none none) (MP v T Q P) bd1=some (.nx (tz ns v T z (if 380+k<y+g then 380+k else y+g) (some (.int k)) (some (.int g)) none none none),MP v T Q (P++[.tup [.int (if 380+k<y+g then 380+k else y+g),fk b]])):=by
 have a1:=qqy ns (1+k) 0 (many:=T) (by omega)
 have b1:=qqy ns (1+k) 1 (many:=4) (by decide)
 have b2:=qqr ns (1+k) 1 (many:=4) (by decide)
 have e1:callD fns 19 37 [sc ns,.int (1+k),.int 0,.int T] (MP v T Q P)=some (.int (qqz ns (1+k) 0 T),(MP v T Q P)):=qj5 qe7 (by omega) hn (by decide) (by decide) (by omega)
 have e2:callD fns 19 37 [sc ns,.int (1+k),.int 1,.int 4] (MP v T Q P)=some (.int (qqz ns (1+k) 1 4),(MP v T Q P)):=qj5 qe7 (by omega) hn (by decide) (by decide) (by omega)
 generalize qqz ns (1+k) 0 T=r at *
 generalize qqz ns (1+k) 1 4=q at *
 have hq:q=0∨q=1∨q=2∨q=3:=by omega
 have hl:decide (P.length<lim)=true:=decide_eq_true (by unfold lim; omega)
 by_cases hb:k=z
 ·have hb:(k==z)=true:=by simpa using hb
  rcases hq with rfl|rfl|rfl|rfl
  ·refine⟨1+r,true,by omega,qzs (k:=18) [37] 1 (fun q=>_∧_∧_∧_∧(k==z)=true∧decide (P.length<lim)=true∧q) [.c (.int r,MP v T Q P),.g (.lst [.int (1+r),.int T,.int (T+1),.int 1],MP v T Q P),.c (.int 0,MP v T Q P),.g (.lst [wk,gv],MP v T Q P),.b true,.b true] ?_ ⟨gcp e1 rfl,qzv (st:=MP v T Q P) (ds:=[.int (1+r),.int T,.int (T+1),.int 1]) rfl,gcp e2 rfl,qzv (st:=MP v T Q P) (ds:=[wk,gv]) rfl,hb,hl,rfl⟩⟩
   cases v<;>kernel_rfl
  ·refine⟨T,true,by omega,qzs (k:=18) [37] 1 (fun q=>_∧_∧_∧_∧(k==z)=true∧decide (P.length<lim)=true∧q) [.c (.int r,MP v T Q P),.g (.lst [.int (1+r),.int T,.int (T+1),.int 1],MP v T Q P),.c (.int 1,MP v T Q P),.g (.lst [wk,gv],MP v T Q P),.b true,.b true] ?_ ⟨gcp e1 rfl,qzv (st:=MP v T Q P) (ds:=[.int (1+r),.int T,.int (T+1),.int 1]) rfl,gcp e2 rfl,qzv (st:=MP v T Q P) (ds:=[wk,gv]) rfl,hb,hl,rfl⟩⟩
   cases v<;>kernel_rfl
  ·refine⟨T+1,true,by omega,qzs (k:=18) [37] 1 (fun q=>_∧_∧_∧_∧(k==z)=true∧decide (P.length<lim)=true∧q) [.c (.int r,MP v T Q P),.g (.lst [.int (1+r),.int T,.int (T+1),.int 1],MP v T Q P),.c (.int 2,MP v T Q P),.g (.lst [wk,gv],MP v T Q P),.b true,.b true] ?_ ⟨gcp e1 rfl,qzv (st:=MP v T Q P) (ds:=[.int (1+r),.int T,.int (T+1),.int 1]) rfl,gcp e2 rfl,qzv (st:=MP v T Q P) (ds:=[wk,gv]) rfl,hb,hl,rfl⟩⟩
   cases v<;>kernel_rfl
  ·refine⟨1,true,by omega,qzs (k:=18) [37] 1 (fun q=>_∧_∧_∧_∧(k==z)=true∧decide (P.length<lim)=true∧q) [.c (.int r,MP v T Q P),.g (.lst [.int (1+r),.int T,.int (T+1),.int 1],MP v T Q P),.c (.int 3,MP v T Q P),.g (.lst [wk,gv],MP v T Q P),.b true,.b true] ?_ ⟨gcp e1 rfl,qzv (st:=MP v T Q P) (ds:=[.int (1+r),.int T,.int (T+1),.int 1]) rfl,gcp e2 rfl,qzv (st:=MP v T Q P) (ds:=[wk,gv]) rfl,hb,hl,rfl⟩⟩
   cases v<;>kernel_rfl
 ·have hb:(k==z)=false:=by simpa using hb
  rcases hq with rfl|rfl|rfl|rfl
  ·refine⟨1+r,false,by omega,qzs (k:=18) [37] 1 (fun q=>_∧_∧_∧_∧(k==z)=false∧decide (P.length<lim)=true∧q) [.c (.int r,MP v T Q P),.g (.lst [.int (1+r),.int T,.int (T+1),.int 1],MP v T Q P),.c (.int 0,MP v T Q P),.g (.lst [wk,gv],MP v T Q P),.b false,.b true] ?_ ⟨gcp e1 rfl,qzv (st:=MP v T Q P) (ds:=[.int (1+r),.int T,.int (T+1),.int 1]) rfl,gcp e2 rfl,qzv (st:=MP v T Q P) (ds:=[wk,gv]) rfl,hb,hl,rfl⟩⟩
   cases v<;>kernel_rfl
  ·refine⟨T,false,by omega,qzs (k:=18) [37] 1 (fun q=>_∧_∧_∧_∧(k==z)=false∧decide (P.length<lim)=true∧q) [.c (.int r,MP v T Q P),.g (.lst [.int (1+r),.int T,.int (T+1),.int 1],MP v T Q P),.c (.int 1,MP v T Q P),.g (.lst [wk,gv],MP v T Q P),.b false,.b true] ?_ ⟨gcp e1 rfl,qzv (st:=MP v T Q P) (ds:=[.int (1+r),.int T,.int (T+1),.int 1]) rfl,gcp e2 rfl,qzv (st:=MP v T Q P) (ds:=[wk,gv]) rfl,hb,hl,rfl⟩⟩
   cases v<;>kernel_rfl
  ·refine⟨T+1,false,by omega,qzs (k:=18) [37] 1 (fun q=>_∧_∧_∧_∧(k==z)=false∧decide (P.length<lim)=true∧q) [.c (.int r,MP v T Q P),.g (.lst [.int (1+r),.int T,.int (T+1),.int 1],MP v T Q P),.c (.int 2,MP v T Q P),.g (.lst [wk,gv],MP v T Q P),.b false,.b true] ?_ ⟨gcp e1 rfl,qzv (st:=MP v T Q P) (ds:=[.int (1+r),.int T,.int (T+1),.int 1]) rfl,gcp e2 rfl,qzv (st:=MP v T Q P) (ds:=[wk,gv]) rfl,hb,hl,rfl⟩⟩
   cases v<;>kernel_rfl
  ·refine⟨1,false,by omega,qzs (k:=18) [37] 1 (fun q=>_∧_∧_∧_∧(k==z)=false∧decide (P.length<lim)=true∧q) [.c (.int r,MP v T Q P),.g (.lst [.int (1+r),.int T,.int (T+1),.int 1],MP v T Q P),.c (.int 3,MP v T Q P),.g (.lst [wk,gv],MP v T Q P),.b false,.b true] ?_ ⟨gcp e1 rfl,qzv (st:=MP v T Q P) (ds:=[.int (1+r),.int T,.int (T+1),.int 1]) rfl,gcp e2 rfl,qzv (st:=MP v T Q P) (ds:=[wk,gv]) rfl,hb,hl,rfl⟩⟩
   cases v<;>kernel_rfl
noncomputable def Inc:Int→List (Int×Bool)→Prop
 |_,[]=>True
 |x,p::r=>x<p.1∧p.1≤400∧Inc p.1 r
noncomputable def laD(x:Int)(fs:List (Int×Bool)):Int:=fs.foldl (fun _ p=>p.1) x
theorem Inc.snoc:∀ {fs:List (Int×Bool)}{x d:Int}{b:Bool},Inc x fs→laD x fs<d→d≤400→Inc x (fs++[(d,b)])
 |[],x,d,b,_,h,h2=>⟨h,h2,trivial⟩
 |p::r,x,d,b,h,h1,h2=>⟨h.1,h.2.1,Inc.snoc (fs:=r) h.2.2 h1 h2⟩
noncomputable abbrev ft(p:Int×Bool):D:=.tup [.int p.1,fk p.2]
theorem qnp(ns:List Int)(hn:ns.length≤63)(v:Bool)(T z w:Int)(hT:1≤T):∃ (fs:List (Int×Bool)) (o7 o8:Option D) (y:Int),fs.length≤12∧Inc 3 fs∧stepEx (RL (callD fns 19)) (tz ns v T z 3 none none none none none) (MP v T [pt w] (P0 v w)) (.forr (.var 7) (.rng1 (.gc (.call 37 [(.var 0),(.lit (.int 0)),(.lit (.int 7)),(.lit (.int 13))]))) bd1)=some (.nx (tz ns v T z y o7 o8 none none none),MP v T [pt w] (P0 v w++fs.map ft)):=by
 have a1:=qqy ns 0 7 (many:=13) (by decide)
 have a2:=qqr ns 0 7 (many:=13) (by decide)
 have e1:callD fns 19 37 [sc ns,.int 0,.int 7,.int 13] (MP v T [pt w] (P0 v w))=some (.int (qqz ns 0 7 13),(MP v T [pt w] (P0 v w))):=qj5 qe7 (by omega) hn (by decide) (by decide) (by omega)
 generalize qqz ns 0 7 13=N at *
 have ev:(RL (callD fns 19)).ev (tz ns v T z 3 none none none none none) (MP v T [pt w] (P0 v w)) (.gc (.call 37 [(.var 0),(.lit (.int 0)),(.lit (.int 7)),(.lit (.int 13))]))=some (.int N,MP v T [pt w] (P0 v w)):=qxp (n:=5) (fun _ _ _ h k=>qhm h k) (qlm (evC (n:=2) (ds:=[sc ns,.int 0,.int 7,.int 13]) rfl e1) rfl)
 have hp0:(P0 v w).length≤2:=by cases v<;>simp
 obtain⟨τ',st',e,fs,o7,o8,y,h1,h2,h3,h4,rfl,rfl⟩:=qy7 (lo:=0) (n:=N.toNat) (τ:=(tz ns v T z 3 none none none none none)) (st:=MP v T [pt w] (P0 v w))
  (f:=fun τ st d=>(setT (.var 7) d τ).bind fun τ'=>(RL (callD fns 19)).ex τ' st bd1)
  (fun i τ s=>∃ (fs:List (Int×Bool)) (o7 o8:Option D) (y:Int),fs.length=i∧Inc 3 fs∧laD 3 fs=y∧y≤379+i∧τ=(tz ns v T z y o7 o8 none none none)∧s=MP v T [pt w] (P0 v w++fs.map ft)) ⟨[],none,none,3,rfl,trivial,rfl,by omega,rfl,by simp⟩ (by
   rintro i τ s hi ⟨fs,o7,o8,y,h1,h2,h3,h4,rfl,rfl⟩
   obtain⟨g,b,hg,e⟩:=qga ns hn v T z (0+(i:Int)) y o8 [pt w] (P0 v w++fs.map ft) hT (by simp; omega)
   refine⟨_,_,e,fs++[((if 380+(0+(i:Int))<y+g then 380+(0+(i:Int)) else y+g),b)],_,_,_,by simp[h1],h2.snoc ?_ ?_,?_,?_,rfl,?_⟩
   ·rw[h3]; split<;>omega
   ·split<;>omega
   ·simp[laD]
   ·split<;>omega
   ·simp)
 refine⟨fs,o7,o8,y,by omega,h2,?_⟩
 show(src (RL (callD fns 19)) _ _ (.rng1 _)).bind _=_
 simp only[src,ev,oBs]
 rw[if_neg (by unfold big; simp; omega)]
 exact e
def okG(G:D):Prop:=G=.non∨∃ g,G=.int g
theorem Good.mono{n k:Nat}{T L:Int}{ys:List Int}(g:Good n T L ys)(h:n≤k):Good k T L ys:=⟨by have:=g.len; omega,g.pos,g.ch,g.la⟩
theorem qnk{v f:Bool}{T x d w L:Int}{G:D}{js:List Int}{Q P:List D}{n:Nat}(hT:1≤T)(hT2:T≤400)(hx:3≤x)(h1:x<d)(h2:d≤400)(g:Good n T L js)(hn:n<900)(hG:okG G)(hL:0≤L∧L≤800):
  ∃ (L':Int) (G':D) (js':List Int) (r:D) (S1:Store),callD fns 19 28 [.loc 0,.int d,fk f] (MM v T x x w L G js Q P)=some (r,S1)∧callD fns 19 45 [.loc 8,.int d,fk f] S1=some (r,MM v T d d w L' G' js' Q P)∧Good (n+1) T L' js'∧okG G'∧(0≤L'∧L'≤800)∧Dp 0 r:=by
 rcases hG with rfl|⟨k,rfl⟩
 ·by_cases h:L<d
  ·exact⟨L,.non,js,_,_,qhf (m:=9) (by omega) h2 h1 h,qg3 (m:=15) h,g.mono (by omega),.inl rfl,hL,.str⟩
  ·cases f with
   |true=>exact⟨L,.int d,js,_,_,qo4 (m:=9) (by omega) h2 h1 (by omega),qog (m:=15) (by omega),g.mono (by omega),.inr ⟨_,rfl⟩,hL,.str⟩
   |false=>
    have hl:=g.len
    have e:(js++[d]).map D.int=js.map D.int++[.int d]:=by simp
    refine⟨d+T,.non,js++[d],_,_,qo0 (m:=9) (by omega) h2 h1 (by omega) (by simp[lim]; omega) (qju 14 _ (g.next (by omega)) (by omega) fun r=>?_),?_,g.next (by omega),.inl rfl,by omega,.str⟩
    ·rw[e]
     cases v<;>rfl
    ·show _=some (sO "good",MB v T d d w (d+T) (d+T) .non .non ((js++[d]).map D.int) ((js++[d]).map D.int) Q P)
     rw[e]
     exact qoa (m:=15) (by omega) (by simp[lim]; omega)
 ·exact⟨L,.int k,js,_,_,qlp (m:=9) (by omega) h2 h1,qlb (m:=15),g.mono (by omega),.inr ⟨_,rfl⟩,hL,.str⟩
section
variable {ns:List Int}{v:Bool}{T z w:Int}{y:Int}{o7 o8:Option D}{Q P:List D}
theorem qm3{x d L L':Int}{G G':D}{js js':List Int}{S1:Store}{r fact:D}(hx:x<d)(h3:3≤d)(e1:callD fns 19 28 [.loc 0,.int d,fact] (MM v T x x w L G js Q P)=some (r,S1))(e2:callD fns 19 45 [.loc 8,.int d,fact] S1=some (r,MM v T d d w L' G' js' Q P))(hr:Dp 0 r)(hl:js'.length<1000)(hG:okG G'):
  (RL (callD fns 19)).ex (tz ns v T z y o7 o8 (some (.int d)) (some fact) none) (MM v T x x w L G js Q P) bd2=some (.nx (tz ns v T z y o7 o8 (some (.int d)) (some fact) none),MM v T d d w L' G' js' Q P):=by
 refine qzs (k:=18) [28,45,46,38] 1 (fun q=>decide (d≤x)=false∧_∧_∧_∧decide (3≤d)=true∧_∧q) [.b false,.c (r,S1),.c (r,MM v T d d w L' G' js' Q P),.c (.bl true,MM v T d d w L' G' js' Q P),.b true,.c (.bl true,MM v T d d w L' G' js' Q P)] ?_ ⟨decide_eq_false (by omega),e1,e2,qzn hsame hr 19 (MM v T d d w L' G' js' Q P) (by omega),decide_eq_true h3,gcp (qig (m:=13) (v:=v) (T:=T) (d:=d) (w:=w) (L:=L') (Q:=Q) (P:=P) hl hG) rfl,rfl⟩
 cases v<;>kernel_rfl
theorem qm1:(RL (callD fns 19)).ex (tz ns true T z y o7 o8 (some (.int 1)) (some vt) none) (MP true T Q P) bd2=some (.nx (tz ns true T z y o7 o8 (some (.int 1)) (some vt) none),MA true true T 1 1 (pl true Q P [])):=by
 refine qzs (k:=18) [28,45,46,38] 1 (fun q=>_∧_∧_∧q) [.k,.c (sO "good",MA true false T 1 0 (pl true Q P [])),.c (sO "good",MA true true T 1 1 (pl true Q P [])),.c (.bl true,MA true true T 1 1 (pl true Q P [])),.k] ?_ ⟨qo1 (m:=9) (T:=T) (Q:=Q) (P:=P),qob (m:=15) (T:=T) (Q:=Q) (P:=P),qzn hsame (k:=0) (d:=sO "good") .str 19 (MA true true T 1 1 (pl true Q P [])) (by omega),rfl⟩
 kernel_rfl
theorem qev(hT:1≤T)(hw:1≤w)(hw2:w≤40):(RL (callD fns 19)).ex (tz ns true T z y o7 o8 (some (.int 3)) (some (sk w)) none) (MA true true T 1 1 (pl true Q P [])) bd2=some (.nx (tz ns true T z y o7 o8 (some (.int 3)) (some (sk w)) none),MB true T 3 3 w (3+T) (3+T) .non .non [.int 3] [.int 3] Q P):=by
 refine qzs (k:=18) [28,45,46,38] 1 (fun q=>_∧_∧_∧_∧q) [.k,.c (sO "good",MC true T 3 1 w (3+T) (vV true) (rw3 true) [.int 3] Q P),.c (sO "good",MB true T 3 3 w (3+T) (3+T) .non .non [.int 3] [.int 3] Q P),.c (.bl true,MB true T 3 3 w (3+T) (3+T) .non .non [.int 3] [.int 3] Q P),.k,.c (.bl true,MB true T 3 3 w (3+T) (3+T) .non .non [.int 3] [.int 3] Q P)] ?_ ⟨qo2 (m:=9) (T:=T) (w:=w) (Q:=Q) (P:=P) hT hw hw2,qod (m:=13) (T:=T) (w:=w) (Q:=Q) (P:=P) hT,qzn hsame (k:=0) (d:=sO "good") .str 19 (MB true T 3 3 w (3+T) (3+T) .non .non [.int 3] [.int 3] Q P) (by omega),gcp (qig (m:=13) (v:=true) (T:=T) (d:=3) (w:=w) (L:=3+T) (G:=.non) (js:=[3]) (Q:=Q) (P:=P) (by simp) (.inl rfl)) rfl,rfl⟩
 kernel_rfl
theorem qck(hT:1≤T)(hw:1≤w)(hw2:w≤40):(RL (callD fns 19)).ex (tz ns false T z y o7 o8 (some (.int 3)) (some (sk w)) none) (MA false false T 0 0 (pl false Q P [])) bd2=some (.nx (tz ns false T z y o7 o8 (some (.int 3)) (some (sk w)) none),MB false T 3 3 w (3+T) (3+T) .non .non [.int 3] [.int 3] Q P):=by
 refine qzs (k:=18) [28,45,46,38] 1 (fun q=>_∧_∧_∧_∧q) [.k,.c (sO "good",MC false T 3 0 w (3+T) (vV false) (rw3 false) [.int 3] Q P),.c (sO "good",MB false T 3 3 w (3+T) (3+T) .non .non [.int 3] [.int 3] Q P),.c (.bl true,MB false T 3 3 w (3+T) (3+T) .non .non [.int 3] [.int 3] Q P),.k,.c (.bl true,MB false T 3 3 w (3+T) (3+T) .non .non [.int 3] [.int 3] Q P)] ?_ ⟨qln (m:=9) (T:=T) (w:=w) (Q:=Q) (P:=P) hT hw hw2,qly (m:=13) (T:=T) (w:=w) (Q:=Q) (P:=P) hT,qzn hsame (k:=0) (d:=sO "good") .str 19 (MB false T 3 3 w (3+T) (3+T) .non .non [.int 3] [.int 3] Q P) (by omega),gcp (qig (m:=13) (v:=false) (T:=T) (d:=3) (w:=w) (L:=3+T) (G:=.non) (js:=[3]) (Q:=Q) (P:=P) (by simp) (.inl rfl)) rfl,rfl⟩
 kernel_rfl
end
theorem qx5{it:Src}{f:Sl→Store→D→Option (Out×Store)}{k i:Nat}{τ τ':Sl}{st st':Store}{d:D}(h:it.at st i=some (some d))(e:f τ st d=some (.nx τ',st')):loop it f (k+1) i τ st=loop it f k (i+1) τ' st':=by
 rw[loop,h]
 simp only[oBs,e]
section
variable {ns:List Int}{v:Bool}{T z w:Int}{y:Int}{o7 o8:Option D}{Q P:List D}
theorem qvb(hT:1≤T)(hT2:T≤400):∀ (fs:List (Int×Bool)) (i n:Nat) (x L:Int) (G:D) (js:List Int) (o9 o10:Option D),Inc x fs→3≤x→x≤400→Good n T L js→n+fs.length<900→okG G→(0≤L∧L≤800)→P.drop i=fs.map ft→
  ∃ (x' L':Int) (G':D) (js':List Int) (o9' o10':Option D),loop (.lst (.loc (pL v))) (fun τ st d=>(setT (.tup [9,10]) d τ).bind fun τ'=>(RL (callD fns 19)).ex τ' st bd2) (fs.length+1) i (tz ns v T z y o7 o8 o9 o10 none) (MM v T x x w L G js Q P)=some (.nx (tz ns v T z y o7 o8 o9' o10' none),MM v T x' x' w L' G' js' Q P)∧3≤x'∧x'≤400∧js'.length<900∧okG G'∧(0≤L'∧L'≤800)
 |[],i,n,x,L,G,js,o9,o10,hi,h3,h4,g,hn,hG,hL,hP=>by
  refine⟨x,L,G,js,o9,o10,?_,h3,h4,by have:=g.len; simp at hn; omega,hG,hL⟩
  have e:(Src.lst (.loc (pL v))).at (MM v T x x w L G js Q P) i=some none:=by
   have:P[i]?=none:=by
    rw[Qqt]
    simpa using hP
   cases v
   ·show some P[i]?=_
    rw[this]
   ·show some P[i]?=_
    rw[this]
  rw[loop,e]
  rfl
 |p::fs,i,n,x,L,G,js,o9,o10,hi,h3,h4,g,hn,hG,hL,hP=>by
  obtain⟨hi1,hi2,hi3⟩:=hi
  simp only[Qqd]at hn
  obtain⟨L',G',js',r,S1,e1,e2,g',hG',hL',hr⟩:=qnk (v:=v) (f:=p.2) (w:=w) (Q:=Q) (P:=P) hT hT2 h3 hi1 hi2 g (by omega) hG hL
  have e:(Src.lst (.loc (pL v))).at (MM v T x x w L G js Q P) i=some (some (ft p)):=by
   have:P[i]?=some (ft p):=by
    rw[← List.head?_drop,hP]
    rfl
   cases v
   ·show some P[i]?=_
    rw[this]
   ·show some P[i]?=_
    rw[this]
  have hl:=g'.len
  rw[Qqd,qx5 e (qm3 (ns:=ns) (z:=z) (y:=y) (o7:=o7) (o8:=o8) hi1 (by omega) e1 e2 hr (by omega) hG')]
  exact qvb hT hT2 fs (i+1) (n+1) p.1 L' G' js' _ _ hi3 (by omega) hi2 g' (by omega) hG' hL' (by rw[← List.drop_drop,hP]; rfl)
theorem src_rl{c:CF}{τ:Sl}{st:Store}{p i:Nat}{ds:List D}(h:τ[i]?=some (some (.loc p)))(hq:seqAt st (.loc p)=some ds):src (RL c) τ st (.var i)=some (.lst (.loc p),st):=by
 have e:(RL c).ev τ st (.var i)=some (.loc p,st):=qgk _ _ _ _ _ (by simp only[stepEv,h])
 simp only[src,e,oBs,hq,oMs]
theorem qi4(hT:1≤T)(hT2:T≤400)(hw:1≤w)(hw2:w≤40)(fs:List (Int×Bool))(hf:fs.length≤12)(hi:Inc 3 fs):
  ∃ (P:List D) (x' L':Int) (G':D) (js':List Int) (o9' o10':Option D),stepEx (RL (callD fns 19)) (tz ns v T z y o7 o8 none none none) (MP v T [pt w] (P0 v w++fs.map ft)) (.forr (.tup [9,10]) (.var 4) bd2)=some (.nx (tz ns v T z y o7 o8 o9' o10' none),MM v T x' x' w L' G' js' [pt w] P)∧3≤x'∧x'≤400∧js'.length<900∧okG G'∧(0≤L'∧L'≤800):=by
 refine⟨P0 v w++fs.map ft,?_⟩
 have sq:seqAt (MP v T [pt w] (P0 v w++fs.map ft)) (.loc (pL v))=some (P0 v w++fs.map ft):=by cases v<;>rfl
 have e0:stepEx (RL (callD fns 19)) (tz ns v T z y o7 o8 none none none) (MP v T [pt w] (P0 v w++fs.map ft)) (.forr (.tup [9,10]) (.var 4) bd2)=loop (.lst (.loc (pL v))) (fun τ st d=>(setT (.tup [9,10]) d τ).bind fun τ'=>(RL (callD fns 19)).ex τ' st bd2) ((P0 v w++fs.map ft).length+1) 0 (tz ns v T z y o7 o8 none none none) (MP v T [pt w] (P0 v w++fs.map ft)):=by
  show(src (RL (callD fns 19)) _ _ (.var 4)).bind _=_
  rw[src_rl (p:=pL v) rfl sq,oBs]
  simp only[qdk sq]
 rw[e0]
 cases v with
 |true=>
  have l:(P0 true w++fs.map ft).length+1=fs.length+1+1+1:=by simp
  rw[l,qx5 (d:=pv) rfl (qm1 (ns:=ns) (z:=z) (y:=y) (o7:=o7) (o8:=o8)),qx5 (d:=pt w) rfl (qev (ns:=ns) (z:=z) (y:=y) (o7:=o7) (o8:=o8) hT hw hw2)]
  exact qvb (v:=true) hT hT2 fs 2 1 3 (3+T) .non [3] _ _ hi (by omega) (by omega) (Good.one T 3) (by omega) (.inl rfl) (by omega) rfl
 |false=>
  have l:(P0 false w++fs.map ft).length+1=fs.length+1+1:=by simp
  rw[l,qx5 (d:=pt w) rfl (qck (ns:=ns) (z:=z) (y:=y) (o7:=o7) (o8:=o8) hT hw hw2)]
  exact qvb (v:=false) hT hT2 fs 1 1 3 (3+T) .non [3] _ _ hi (by omega) (by omega) (Good.one T 3) (by omega) (.inl rfl) (by omega) rfl
theorem qo7{x L:Int}{G:D}{js:List Int}{o9 o10:Option D}(hT:1≤T)(hT2:T≤400)(hx:3≤x)(hx2:x≤400)(hl:js.length<900)(hG:okG G)(hL:0≤L∧L≤800):
  ∃ o,stepEx (RL (callD fns 19)) (tz ns v T z y o7 o8 o9 o10 (some (.int L))) (MM v T x x w L G js Q P) (.forr (.var 9) (.rng2 (.bin .Sub (.var 11) (.lit (.int 1))) (.bin .Add (.var 11) (.lit (.int 3)))) bd3)=some (.nx (tz ns v T z y o7 o8 o o10 (some (.int L))),MM v T x x w L G js Q P):=by
 obtain⟨τ',st',e,o,rfl,rfl⟩:=qy7 (lo:=L - 1) (n:=4) (τ:=(tz ns v T z y o7 o8 o9 o10 (some (.int L)))) (st:=MM v T x x w L G js Q P)
  (f:=fun τ st d=>(setT (.var 9) d τ).bind fun τ'=>(RL (callD fns 19)).ex τ' st bd3)
  (fun i τ s=>∃ o,τ=(tz ns v T z y o7 o8 o o10 (some (.int L)))∧s=MM v T x x w L G js Q P) ⟨o9,rfl,rfl⟩ (by
   rintro i τ s hi ⟨o,rfl,rfl⟩
   refine⟨_,_,?_,some (.int (L - 1+i)),rfl,rfl⟩
   generalize L - 1+(i:Int)=k
   show(RL (callD fns 19)).ex (tz ns v T z y o7 o8 (some (.int k)) o10 (some (.int L))) (MM v T x x w L G js Q P) bd3=_
   by_cases h1:x≤k
   ·by_cases h2:k≤400
    ·refine qzs (k:=18) [47] 1 (fun q=>decide (x≤k)=true∧decide (k≤400)=true∧_∧q) [.b true,.b true,.c (.bl true,MM v T x x w L G js Q P)] ?_ ⟨decide_eq_true h1,decide_eq_true h2,gcq (qgh (m:=7) (v:=v) (T:=T) (d:=x) (e:=k) (w:=w) (L:=L) (G:=G) (js:=js) (Q:=Q) (P:=P) hT hT2 (by omega) h2 h1 (by omega) hG) rfl,rfl⟩
     cases v<;>kernel_rfl
    ·refine qzs (k:=18) [47] 1 (fun q=>decide (x≤k)=true∧decide (k≤400)=false∧q) [.b true,.b false] ?_ ⟨decide_eq_true h1,decide_eq_false h2,rfl⟩
     cases v<;>kernel_rfl
   ·refine qzs (k:=18) [47] 1 (fun q=>decide (x≤k)=false∧q) [.b false] ?_ ⟨decide_eq_false h1,rfl⟩
    cases v<;>kernel_rfl)
 refine⟨o,?_⟩
 have v1:∀ τ st a b (i j:Int),(RL (callD fns 19)).ev τ st a=some (.int i,st)→(RL (callD fns 19)).ev τ st b=some (.int j,st)→big i=false→big j=false→src (RL (callD fns 19)) τ st (.rng2 a b)=some (.rng i (j - i).toNat,st):=fun τ st a b i j h1 h2 h3 h4=>by
  simp only[src,h1,h2,oBs,h3,h4,Bool.or_self,Qqc,if_false]
 show(src (RL (callD fns 19)) _ _ (.rng2 (.bin .Sub (.var 11) (.lit (.int 1))) (.bin .Add (.var 11) (.lit (.int 3))))).bind _=_
 rw[v1 _ _ _ _ (L - 1) (L+3) (qxp (n:=3) (fun _ _ _ h k=>qhm h k) rfl) (qxp (n:=3) (fun _ _ _ h k=>qhm h k) rfl) (by unfold big; simp; omega) (by unfold big; simp; omega),oBs,show(L+3 - (L - 1)).toNat=4 by omega]
 exact e
end
theorem law_ok(ns:List Int)(hn:ns.length≤63):∃ st,callD fns 20 48 [.lst (ns.map D.int)] []=some (.bl true,st):=by
 obtain⟨T,w,z,v,hT,hT2,hw,hw2,e1⟩:=top_ok ns hn
 obtain⟨fs,o7,o8,y,hf,hi,e2⟩:=qnp ns hn v T z w hT
 obtain⟨P,x,L,G,js,o9,o10,e3,hx,hx2,hl,hG,hL⟩:=qi4 (ns:=ns) (v:=v) (z:=z) (y:=y) (o7:=o7) (o8:=o8) hT hT2 hw hw2 fs hf hi
 obtain⟨o,e5⟩:=qo7 (ns:=ns) (v:=v) (T:=T) (z:=z) (w:=w) (y:=y) (o7:=o7) (o8:=o8) (Q:=[pt w]) (P:=P) (o9:=o9) (o10:=o10) hT hT2 hx hx2 hl hG hL
 refine⟨MM v T x x w L G js [pt w] P,qpq (d:=19) (F:=qlr) rfl rfl rfl ?_⟩
 show exs (stepEx (RL (callD fns 19))) b_law [some (sc ns),none,none,none,none,none,none,none,none,none,none,none] []=_
 rw[← List.take_append_drop 7 b_law,qjd _ e1,qlc,qzb e2,qzb e3]
 have e4:exs (stepEx (RL (callD fns 19))) [.set (.var 11) (.idx (.didx (.didx (.var 3) (.lit (.str "claims"))) (.lit (.int 3))) (.lit (.int 2)))] (tz ns v T z y o7 o8 o9 o10 none) (MM v T x x w L G js [pt w] P)=some (.nx (tz ns v T z y o7 o8 o9 o10 (some (.int L))),MM v T x x w L G js [pt w] P):=by
  refine qxy (k:=18) [] 1 (fun q=>q) [] ?_ rfl
  cases v<;>kernel_rfl
 refine(qjd _ e4).trans ?_
 rw[qzb e5]
 exact qz6 (by
  show Option.map _ ((RL (callD fns 19)).ev _ _ _)=_
  rw[qgk _ _ _ (.lit (.bl true)) _ rfl]
  rfl)
end K15
end
section
namespace MS
open PySem PySem.Spec PyProof.Rows L2
theorem qkp:fillsNumberSlot (.type "tuple") "mul" = pure false:=
 PySem.fillsNumberSlot_seq (id:="tuple.__mul__") (r:=some (.builtin "tuple.__rmul__")) F.slot_tuple_mul.lookup (by decide +kernel) F.slot_tuple_rmul.lookup (by decide +kernel)
theorem qa1:seqRepeat? (.type "tuple")=pure (some (.builtin "tuple.__mul__")):=by
 unfold seqRepeat?
 rw[PySem.seqSlot_of (T:="tuple") (name:="__mul__") (id:="tuple.__mul__") F.slot_tuple_mul.lookup (by decide +kernel),PySem.seqSlot_of (T:="tuple") (name:="__rmul__") (id:="tuple.__rmul__") F.slot_tuple_rmul.lookup (by decide +kernel)]
 rfl
theorem qwm(a:Int)(t:Tok)(l:Addr)(items:Array Value)(n:Nat)(dd:Option Addr)(sl:Array (Option Value)):
  Meets (Builtin.«int.__rmul__» ⟨[.int a t,.ref l],[]⟩) (fun _ R s=>s.heap.get? l=some { cls:=.type "tuple",dict:=dd,data:=.seq items n,slots:=sl }∧R (.ok (.ret Value.notImplemented)) s):=
 .of_wp fun prog w A R s h=>by obtain⟨hp,g,d,tk,os⟩:=s; obtain⟨hl,h⟩:=h; wp_walk; exact⟨_,rfl,h⟩
theorem qwk(l:Addr)(items:Array Value)(n:Nat)(dd:Option Addr)(sl:Array (Option Value))(x:Int)(u:Tok)(h0:¬ (decide (x < -(2 ^ 63))||decide (x ≥ 2 ^ 63))=true)(h1:(items.isEmpty||x==1)=true):
  Meets (Builtin.«tuple.__mul__» ⟨[.ref l,.int x u],[]⟩) (fun _ R s=>s.heap.get? l=some { cls:=.type "tuple",dict:=dd,data:=.seq items n,slots:=sl }∧R (.ok (.ret (Value.ref l))) s):=
 .of_wp fun prog w A R s h=>by
  obtain⟨hp,g,d,tk,os⟩:=s; obtain⟨hl,h⟩:=h
  wp_walk
  simp only[if_neg h0]
  wp_walk
  exact⟨_,rfl,h⟩
theorem qwv(l:Addr)(items:Array Value)(n:Nat)(dd:Option Addr)(sl:Array (Option Value))(x:Int)(u:Tok)(h0:¬ (decide (x < -(2 ^ 63))||decide (x ≥ 2 ^ 63))=true)(h1:¬ (items.isEmpty||x==1)=true)(h2:(decide (x≤0)||items.isEmpty)=true):
  Meets (Builtin.«tuple.__mul__» ⟨[.ref l,.int x u],[]⟩) (fun _ R s=>s.heap.get? l=some { cls:=.type "tuple",dict:=dd,data:=.seq items n,slots:=sl }∧R (.ok (.ret (Value.ref s.heap.objs.size))) { s with heap:=s.heap.push { cls:=.type "tuple",data:=.seq #[] } }):=
 .of_wp fun prog w A R s h=>by
  obtain⟨hp,g,d,tk,os⟩:=s; obtain⟨hl,h⟩:=h
  wp_walk
  simp only[if_neg h0]
  wp_walk
  exact⟨_,rfl,h⟩
theorem qww(l:Addr)(items:Array Value)(n:Nat)(dd:Option Addr)(sl:Array (Option Value))(x:Int)(u:Tok)(h0:¬ (decide (x < -(2 ^ 63))||decide (x ≥ 2 ^ 63))=true)(h1:¬ (items.isEmpty||x==1)=true)(h2:¬ (decide (x≤0)||items.isEmpty)=true)
  (h3:¬ ((items.size:Int)*x > (2 ^ 63 - 1) / 8)) (h4:¬ Builtin.Tuple.tupleTooMany ((items.size:Int)*x)=true) (h5:(List.foldl (fun x1 x2=>x1++x2) #[] (List.replicate x.toNat items)).size≤sizeLine) :
  Meets (Builtin.«tuple.__mul__» ⟨[.ref l,.int x u],[]⟩) (fun _ R s=>s.heap.get? l=some { cls:=.type "tuple",dict:=dd,data:=.seq items n,slots:=sl }∧R (.ok (.ret (Value.ref s.heap.objs.size))) { s with heap:=s.heap.push { cls:=.type "tuple",data:=.seq (List.foldl (fun x1 x2=>x1++x2) #[] (List.replicate x.toNat items)) } }):=
 .of_wp fun prog w A R s h=>by
  obtain⟨hp,g,d,tk,os⟩:=s; obtain⟨hl,h⟩:=h
  wp_walk
  simp only[if_neg h0]
  wp_walk
  simp only[if_neg h3]
  wp_walk
  exact⟨_,rfl,h⟩
noncomputable def rRepT(K:Qqq):R2:=fun x y H Q=>∃ l k xs,x=.ref l∧y=.int k∧SqT K H l xs∧-(2 ^ 62)≤k∧k<2 ^ 62∧xs.length*k.toNat≤sizeLine∧
 (∀ ys,ys=(List.replicate k.toNat xs).flatten→(ys=xs→Q (.ref l) H)∧∀ p,H p=none→Q (.ref p) (upd H p (.tup ys)))
theorem qn7{X:Cx}:OpR X (binaryOp .Mult) (rRepT X.K):=by
 intro pins s σ H x y v u Q I rx ry h
 obtain⟨l,k,xs,rfl,rfl,hq,k1,k2,hz,q⟩:=h
 cases rx
 obtain⟨t,rfl⟩:=ry
 obtain⟨its,r,hp,hz0⟩:=I.tuple hq
 obtain⟨⟨cls,dd,data,sl⟩,ho,hc,n,hd⟩:=id hp
 simp only at hc hd
 subst hc hd
 have hl:=r.length
 obtain⟨qs,qn⟩:=q _ rfl
 have f0:∀ m:Nat,List.foldl (fun x1 x2=>x1++x2) #[] (List.replicate m its.toArray)=(List.replicate m its).flatten.toArray:=fun m=>by
  have:=foldl_rep its m []
  rw[List.nil_append]at this
  exact this
 have h0:¬ (decide (k < -(2 ^ 63))||decide (k ≥ 2 ^ 63))=true:=by simp; omega
 refine wpAny_binaryOp_repeat_ref (T:="tuple") (U:="int") (by decide) ⟨_,ho,rfl⟩ (fun s'=>typeIs_int s' k t) qkp F.fills_int_mul F.slot_int_rmul qa1 F.slot_int_index.lookup
  (call_meets F.slot_int_rmul (typeIs_int s k t) F.entry_int_rmul (F.args_int_rmul_2 _ _) (qwm k t l its.toArray n dd sl) ⟨ho,rfl,⟨_,ho,rfl⟩,?_⟩)
 by_cases h1:(its.toArray.isEmpty||k==1)=true
 ·refine call_meets F.slot_tuple_mul ⟨_,ho,rfl⟩ F.entry_tuple_mul (F.args_tuple_mul_2 _ _) (qwk l its.toArray n dd sl k t h0 h1) ⟨ho,?_⟩
  refine⟨.ref l,H,I,rfl,qs ?_⟩
  rw[Qzh]at h1
  rcases h1 with z|z
  ·have e1:its=[]:=by simpa using z
   have e2:xs=[]:=Qzk.mp (by rw[hl,e1]; rfl)
   rw[e2]
   simp
  ·have e1:k=1:=by simpa using z
   rw[e1]
   simp
 ·have hne:its≠[]:=fun z=>h1 (by rw[z]; rfl)
  by_cases h2:(decide (k≤0)||its.toArray.isEmpty)=true
  ·refine call_meets F.slot_tuple_mul ⟨_,ho,rfl⟩ F.entry_tuple_mul (F.args_tuple_mul_2 _ _) (qwv l its.toArray n dd sl k t h0 h1 h2) ⟨ho,?_⟩
   have hk:k≤0:=by
    rw[Qzh]at h2
    rcases h2 with z|z
    ·simpa using z
    ·exact absurd (by simpa using z) hne
   have e0:k.toNat=0:=by omega
   refine⟨.ref _,_,I.laid (a:=s.heap.objs.size) (o:=.tup (List.replicate k.toNat xs).flatten) (t':=s.toks) (fun _ _ e=>Qqz _ e) (Qqj _) ?_,rfl,qn _ I.fresh⟩
   rw[e0]
   exact⟨Qze _,[],.nil,IsTup.new s.heap _⟩
  ·have hk:0<k:=by
    simp at h2; omega
   have hmul:((its.toArray.size:Nat):Int)*k=((its.length*k.toNat:Nat):Int):=by
    rw[Qqx,Int.natCast_mul]
    congr 1
    omega
   have hz':its.length*k.toNat≤sizeLine:=by rw[← hl]; exact hz
   have hsl:(sizeLine:Nat)<2 ^ 60:=by rw[sizeLine_eq]; decide
   refine call_meets F.slot_tuple_mul ⟨_,ho,rfl⟩ F.entry_tuple_mul (F.args_tuple_mul_2 _ _) (qww l its.toArray n dd sl k t h0 h1 h2 ?_ ?_ ?_) ⟨ho,?_⟩
   ·rw[hmul]; omega
   ·unfold Builtin.Tuple.tupleTooMany
    rw[hmul,decide_eq_true_eq]
    omega
   ·rw[f0,Qqx,len_rep,Qx3]; exact hz'
   ·refine⟨.ref _,_,I.laid (a:=s.heap.objs.size) (o:=.tup (List.replicate k.toNat xs).flatten) (t':=s.toks) (fun _ _ e=>Qqz _ e) (Qqj _) ?_,rfl,qn _ I.fresh⟩
    rw[f0]
    exact⟨by rw[len_rep,Qx3]; exact hz,_,r.rep k.toNat,IsTup.new s.heap _⟩
section
variable {prog:Program}{w:World}{A:Around}{E:Value→Shared→Prop}{s:Shared}
theorem qxt{t sl:Addr}{items:Array Value}{vl vu:Value}{lo hi:Option Int}{Q:Value→Shared→Prop}(ht:IsTup s.heap t items)(hs:s.heap.IsSliceOf sl vl vu .none)(pl:IsPart vl lo)(pu:IsPart vu hi)
  (hw:HT.sIx items.size 0 lo=0∧HT.sIx items.size items.size hi=items.size) (h:Q (.ref t) s):wpAny (model prog w) A (getItem (.ref t) (.ref sl)) Q E s:=by
 obtain⟨os,hos,hcs,hds⟩:=id hs
 have hTs:s.TypeIs (.ref sl) "slice":=⟨os,hos,hcs⟩
 unfold getItem
 try with_reducible refine wpAny_holding ?_
 first|refine wpAny_bind (wpAny_pure ?_)|skip
 refine wpAny_bind (wpAny_sequenceKey ht.typeIs (by decide) ?_)
 refine wpAny_bind (wpAny_callSpecial?_slot (name:=Str.ofString "__getitem__") ht.typeIs PyProof.Rows.slot_tuple_getitem
  (wpAny_call_entry PyProof.Rows.slot_tuple_getitem ht.typeIs entry_tuple_getitem ?_ (args_tuple_getitem _ _)))
 show wpAny _ _ (Builtin.Tuple.tupleItemsOf (.ref t) >>= _) _ _ s
 refine wpAny_bind (tupleItemsOf_ ht ?_)
 refine wpAny_bind (wpAny_typeOf hTs ?_)
 rw[if_pos (by decide)]
 refine wpAny_bind (HT.sliceApplied_gen hs pl pu ?_)
 have hyes:(((HT.sIx items.size 0 lo:Nat):Int)==0&&(1:Int)==1&&(HT.sIx items.size items.size hi - HT.sIx items.size 0 lo)==items.size)=true:=by
  rw[hw.1,hw.2]
  simp
 show wpAny _ _ (if (((HT.sIx items.size 0 lo:Nat):Int)==0&&(1:Int)==1&&(HT.sIx items.size items.size hi - HT.sIx items.size 0 lo)==items.size)=true then _ else _) _ _ s
 rw[if_pos hyes]
 refine wpAny_bind (m:=Builtin.Tuple.tupleIsExact _) ?_
 unfold Builtin.Tuple.tupleIsExact
 refine wpAny_bind (wpAny_typeOf ht.typeIs (wpAny_pure ?_))
 rw[if_pos (by decide)]
 first
  |exact wpAny_bind (wpAny_rule (wpAny_pure ⟨_,rfl,wpAny_pure h⟩))
  |exact wpAny_bind (wpAny_rule (wpAny_bind (wpAny_pure (wpAny_pure ⟨_,rfl,wpAny_pure h⟩))))
  |exact wpAny_bind (wpAny_bind (wpAny_rule (wpAny_pure (wpAny_pure ⟨_,rfl,wpAny_pure h⟩))))
end
end MS
end
section
namespace MS
open PySem PySem.Spec PyProof.Rows L2
open M (D Cell Store Sl)
def SqF(K:Qqq)(H:Hp)(a:Addr)(xs:List V):Prop:=
 (∃ o,H a=some (.frz o (.lst xs)))∨∃ (o:Obj) (its:Array Value) (n:Nat),K.lookup a=some o∧o.cls=.type "list"∧o.dict=none∧o.data=.seq its n∧its.size≤sizeLine∧Vals xs its.toList
mutual
noncomputable def IsD(K:Qqq)(m:List Addr)(H:Hp):D→V→Prop
 |.non,v=>v=.non
 |.bl b,v=>v=.bl b
 |.int i,v=>v=.int i
 |.str s,v=>v=.str s
 |.tup ds,v=>∃ a xs,v=.ref a∧SqT K H a xs∧IsDs K m H ds xs
 |.lst ds,v=>∃ a xs,v=.ref a∧SqF K H a xs∧IsDs K m H ds xs
 |.loc l,v=>∃ a,m[l]?=some a∧v=.ref a
noncomputable def IsDs(K:Qqq)(m:List Addr)(H:Hp):List D→List V→Prop
 |[],xs=>xs=[]
 |d::ds,xs=>∃ x r,xs=x::r∧IsD K m H d x∧IsDs K m H ds r
end
def Sub(m m':List Addr):Prop:=∀ (l:Nat) (a:Addr),m[l]?=some a→m'[l]?=some a
noncomputable def Sq:HO→Prop
 |.lst _=>True
 |.tup _=>True
 |_=>False
structure Tr (H H':Hp):Prop where
 tup:∀ b xs,H b=some (.tup xs)→H' b=some (.tup xs)
 frz:∀ b o u,H b=some (.frz o u)→H' b=some (.frz o u)
structure Tw (H H':Hp):Prop where
 tup:∀ b xs,H b=some (.tup xs)→H' b=some (.tup xs)
 frz:∀ b o u,Sq u→H b=some (.frz o u)→H' b=some (.frz o u)
theorem Tr.w{H H':Hp}(t:Tr H H'):Tw H H':=⟨t.tup,fun b o u _=>t.frz b o u⟩
theorem Sub.refl(m:List Addr):Sub m m:=fun _ _ h=>h
theorem Sub.trans{m m1 m2:List Addr}(a:Sub m m1)(b:Sub m1 m2):Sub m m2:=fun l x h=>b l x (a l x h)
theorem Sub.app(m r:List Addr):Sub m (m++r):=fun l a h=>by
 rw[Qzz (Qqb.mp h).1]; exact h
theorem Tr.refl(H:Hp):Tr H H:=⟨fun _ _ h=>h,fun _ _ _ h=>h⟩
theorem Tr.trans{H H1 H2:Hp}(a:Tr H H1)(b:Tr H1 H2):Tr H H2:=⟨fun c xs h=>b.tup c xs (a.tup c xs h),fun c o u h=>b.frz c o u (a.frz c o u h)⟩
theorem Tr.of_same{H H':Hp}(h:Same H H'):Tr H H':=⟨fun b xs e=>h b _ e,fun b o u e=>h b _ e⟩
theorem qzy{H:Hp}{p:Addr}{o:HO}(hp:H p=none):Same H (upd H p o):=fun b u e=>by
 rw[qzj (qzi e hp)]; exact e
theorem Tr.put{H:Hp}{p:Addr}{xs ys:List V}(hp:H p=some (.lst xs)):Tr H (upd H p (.lst ys)):=
 ⟨fun b zs e=>by rw[qzj (qzu e hp (by intro z; cases z))]; exact e,fun b o u e=>by rw[qzj (qzu e hp (by intro z; cases z))]; exact e⟩
theorem Tw.sqT{K:Qqq}{H H':Hp}{a:Addr}{xs:List V}(t:Tw H H')(h:SqT K H a xs):SqT K H' a xs:=by
 rcases h with (h|⟨o,h⟩)|h
 ·exact .inl (.inl (t.tup _ _ h))
 ·exact .inl (.inr ⟨o,t.frz _ _ _ trivial h⟩)
 ·exact .inr h
theorem SqF.sq{K:Qqq}{H:Hp}{a:Addr}{xs:List V}(h:SqF K H a xs):SqL K H a xs:=by
 rcases h with h|h
 ·exact .inl (.inr h)
 ·exact .inr h
theorem Tw.sqF{K:Qqq}{H H':Hp}{a:Addr}{xs:List V}(t:Tw H H')(h:SqF K H a xs):SqF K H' a xs:=by
 rcases h with⟨o,h⟩|h
 ·exact .inl ⟨o,t.frz _ _ _ trivial h⟩
 ·exact .inr h
theorem Tr.sqT{K:Qqq}{H H':Hp}{a:Addr}{xs:List V}(t:Tr H H')(h:SqT K H a xs):SqT K H' a xs:=t.w.sqT h
theorem Tr.sqF{K:Qqq}{H H':Hp}{a:Addr}{xs:List V}(t:Tr H H')(h:SqF K H a xs):SqF K H' a xs:=t.w.sqF h
section
variable {K:Qqq}{m m':List Addr}{H H':Hp}
mutual
theorem qqf(hs:Sub m m')(ht:Tw H H'):∀ (d:D) (v:V),IsD K m H d v→IsD K m' H' d v
 |.non,_,h=>h
 |.bl _,_,h=>h
 |.int _,_,h=>h
 |.str _,_,h=>h
 |.tup ds,_,h=>by
  unfold IsD at h ⊢
  obtain⟨a,xs,e,q,r⟩:=h
  exact⟨a,xs,e,ht.sqT q,qz8 hs ht ds xs r⟩
 |.lst ds,_,h=>by
  unfold IsD at h ⊢
  obtain⟨a,xs,e,q,r⟩:=h
  exact⟨a,xs,e,ht.sqF q,qz8 hs ht ds xs r⟩
 |.loc l,_,h=>by
  unfold IsD at h ⊢
  obtain⟨a,e,q⟩:=h
  exact⟨a,hs l a e,q⟩
theorem qz8(hs:Sub m m')(ht:Tw H H'):∀ (ds:List D) (xs:List V),IsDs K m H ds xs→IsDs K m' H' ds xs
 |[],_,h=>h
 |d::ds,_,h=>by
  unfold IsDs at h ⊢
  obtain⟨x,r,e,q,t⟩:=h
  exact⟨x,r,e,qqf hs ht d x q,qz8 hs ht ds r t⟩
end
theorem qza(hs:Sub m m')(ht:Tr H H')(d:D)(v:V)(h:IsD K m H d v):IsD K m' H' d v:=qqf hs ht.w d v h
theorem qzf(hs:Sub m m')(ht:Tr H H')(ds:List D)(xs:List V)(h:IsDs K m H ds xs):IsDs K m' H' ds xs:=qz8 hs ht.w ds xs h
theorem IsD.int{i:Int}{v:V}(h:IsD K m H (.int i) v):v=.int i:=by unfold IsD at h; exact h
theorem IsD.bl{i:Bool}{v:V}(h:IsD K m H (.bl i) v):v=.bl i:=by unfold IsD at h; exact h
theorem IsD.str{i:Str}{v:V}(h:IsD K m H (.str i) v):v=.str i:=by unfold IsD at h; exact h
theorem IsD.non{v:V}(h:IsD K m H .non v):v=.non:=by unfold IsD at h; exact h
theorem IsD.tup{ds:List D}{v:V}(h:IsD K m H (.tup ds) v):∃ a xs,v=.ref a∧SqT K H a xs∧IsDs K m H ds xs:=by unfold IsD at h; exact h
theorem IsD.lst{ds:List D}{v:V}(h:IsD K m H (.lst ds) v):∃ a xs,v=.ref a∧SqF K H a xs∧IsDs K m H ds xs:=by unfold IsD at h; exact h
theorem IsD.loc{l:Nat}{v:V}(h:IsD K m H (.loc l) v):∃ a,m[l]?=some a∧v=.ref a:=by unfold IsD at h; exact h
theorem mkInt(i:Int):IsD K m H (.int i) (.int i):=by unfold IsD; rfl
theorem mkBl(i:Bool):IsD K m H (.bl i) (.bl i):=by unfold IsD; rfl
theorem mkStr(i:Str):IsD K m H (.str i) (.str i):=by unfold IsD; rfl
theorem qce:IsD K m H .non .non:=by unfold IsD; rfl
theorem qzt{ds:List D}{a:Addr}{xs:List V}(h:SqT K H a xs)(q:IsDs K m H ds xs):IsD K m H (.tup ds) (.ref a):=by unfold IsD; exact⟨a,xs,rfl,h,q⟩
theorem qgt{ds:List D}{a:Addr}{xs:List V}(h:SqF K H a xs)(q:IsDs K m H ds xs):IsD K m H (.lst ds) (.ref a):=by unfold IsD; exact⟨a,xs,rfl,h,q⟩
theorem qlv{l:Nat}{a:Addr}(h:m[l]?=some a):IsD K m H (.loc l) (.ref a):=by unfold IsD; exact⟨a,h,rfl⟩
theorem IsDs.nil{xs:List V}(h:IsDs K m H [] xs):xs=[]:=by unfold IsDs at h; exact h
theorem IsDs.cons{d:D}{ds:List D}{xs:List V}(h:IsDs K m H (d::ds) xs):∃ x r,xs=x::r∧IsD K m H d x∧IsDs K m H ds r:=by unfold IsDs at h; exact h
theorem qzm:IsDs K m H [] []:=by unfold IsDs; rfl
theorem qzx{d:D}{ds:List D}{x:V}{r:List V}(h:IsD K m H d x)(t:IsDs K m H ds r):IsDs K m H (d::ds) (x::r):=by unfold IsDs; exact⟨x,r,rfl,h,t⟩
theorem IsDs.one{d:D}{xs:List V}(h:IsDs K m H [d] xs):∃ x,xs=[x]∧IsD K m H d x:=by
 obtain⟨x,r,rfl,q,t⟩:=h.cons
 rw[t.nil]
 exact⟨x,rfl,q⟩
theorem IsDs.two{d e:D}{xs:List V}(h:IsDs K m H [d,e] xs):∃ x y,xs=[x,y]∧IsD K m H d x∧IsD K m H e y:=by
 obtain⟨x,r,rfl,q,t⟩:=h.cons
 obtain⟨y,rfl,q'⟩:=t.one
 exact⟨x,y,rfl,q,q'⟩
theorem IsDs.length:∀ {ds:List D}{xs:List V},IsDs K m H ds xs→ds.length=xs.length
 |[],_,h=>by rw[h.nil]; rfl
 |_::_,_,h=>by
  obtain⟨x,r,rfl,_,t⟩:=h.cons
  rw[Qqd,Qqd,t.length]
theorem IsDs.get:∀ {ds:List D}{xs:List V}{i:Nat}{d:D},IsDs K m H ds xs→ds[i]?=some d→∃ x,xs[i]?=some x∧IsD K m H d x
 |[],_,_,_,_,e=>by simp at e
 |d::ds,_,0,d',h,e=>by
  obtain⟨x,r,rfl,q,_⟩:=h.cons
  have e':d=d':=by simpa using e
  subst e'
  exact⟨x,rfl,q⟩
 |d::ds,_,i+1,d',h,e=>by
  obtain⟨x,r,rfl,_,t⟩:=h.cons
  obtain⟨y,e1,e2⟩:=t.get (i:=i) (d:=d') (by simpa using e)
  exact⟨y,by simpa using e1,e2⟩
theorem IsDs.back:∀ {ds:List D}{xs:List V}{i:Nat}{x:V},IsDs K m H ds xs→xs[i]?=some x→∃ d,ds[i]?=some d∧IsD K m H d x:=fun {ds xs i x} h e=>by
 have hl:=h.length
 have hi:=(Qqb.mp e).1
 have e2:ds[i]?=some (ds[i]'(by omega)):=by simp
 obtain⟨y,e3,q⟩:=h.get e2
 rw[e]at e3
 cases e3
 exact⟨_,e2,q⟩
theorem IsDs.append:∀ {ds es:List D}{xs ys:List V},IsDs K m H ds xs→IsDs K m H es ys→IsDs K m H (ds++es) (xs++ys)
 |[],_,_,_,h,q=>by rw[h.nil]; exact q
 |_::_,_,_,_,h,q=>by
  obtain⟨x,r,rfl,a,t⟩:=h.cons
  exact qzx a (t.append q)
theorem IsDs.set:∀ {ds:List D}{xs:List V}(i:Nat){d:D}{x:V},IsDs K m H ds xs→IsD K m H d x→IsDs K m H (ds.set i d) (xs.set i x)
 |[],_,_,_,_,h,_=>by rw[h.nil]; exact qzm
 |_::_,_,0,_,_,h,q=>by
  obtain⟨x,r,rfl,a,t⟩:=h.cons
  exact qzx q t
 |_::_,_,i+1,_,_,h,q=>by
  obtain⟨x,r,rfl,a,t⟩:=h.cons
  exact qzx a (t.set i q)
end
noncomputable def keyOf:D→Option Key
 |.int i=>some (.inl i)
 |.str z=>some (.inr z)
 |_=>none
noncomputable def IsKV(K:Qqq)(m:List Addr)(H:Hp):List (D×D)→List (Key×V)→Prop
 |[],xs=>xs=[]
 |p::r,xs=>∃ k v xr,xs=(k,v)::xr∧keyOf p.1=some k∧IsD K m H p.2 v∧IsKV K m H r xr
theorem qqe{K:Qqq}{m m':List Addr}{H H':Hp}(hs:Sub m m')(ht:Tw H H'):∀ (kvs:List (D×D)) (xs:List (Key×V)),IsKV K m H kvs xs→IsKV K m' H' kvs xs
 |[],_,h=>h
 |p::r,_,⟨k,v,xr,e,hk,hv,hr⟩=>⟨k,v,xr,e,hk,qqf hs ht _ _ hv,qqe hs ht r xr hr⟩
theorem qvi{K:Qqq}{m m':List Addr}{H H':Hp}(hs:Sub m m')(ht:Tr H H')(kvs:List (D×D))(xs:List (Key×V))(h:IsKV K m H kvs xs):IsKV K m' H' kvs xs:=qqe hs ht.w kvs xs h
theorem IsKV.length{K:Qqq}{m:List Addr}{H:Hp}:∀ {kvs:List (D×D)}{xs:List (Key×V)},IsKV K m H kvs xs→kvs.length=xs.length
 |[],_,h=>by rw[show _=[] from h]; rfl
 |p::r,_,⟨k,v,xr,e,_,_,hr⟩=>by rw[e,Qqd,Qqd,hr.length]
theorem qhn{a b:D}{k j:Key}(ha:keyOf a=some k)(hb:keyOf b=some j):M.eqT a b=decide (k=j):=by
 cases a with
 |int i=>
  cases ha
  cases b with
  |int i'=>cases hb; rw[M.eqT]; by_cases h:i=i'<;>simp[h]
  |str z=>cases hb; simp[M.eqT]
  |_=>cases hb
 |str z=>
  cases ha
  cases b with
  |int i'=>cases hb; simp[M.eqT]
  |str z'=>cases hb; rw[M.eqT]; by_cases h:z=z'<;>simp[h]
  |_=>cases hb
 |_=>cases ha
theorem qx8{a:D}(h:M.isKey a=true):∃ k,keyOf a=some k:=by
 cases a with
 |int i=>exact⟨_,rfl⟩
 |str z=>exact⟨_,rfl⟩
 |_=>cases h
theorem qom{K:Qqq}{m:List Addr}{H:Hp}{a:D}{k:Key}{v:V}(h:keyOf a=some k)(i:IsD K m H a v):v=kV k:=by
 cases a with
 |int i'=>cases h; exact i.int
 |str z=>cases h; exact i.str
 |_=>cases h
theorem IsKV.get{K:Qqq}{m:List Addr}{H:Hp}{a:D}{j:Key}(ha:keyOf a=some j):∀ {kvs:List (D×D)}{xs:List (Key×V)},IsKV K m H kvs xs→(M.dget kvs a=none∧valV xs j=none)∨∃ d v,M.dget kvs a=some d∧valV xs j=some v∧IsD K m H d v
 |[],_,h=>by rw[show _=[] from h]; exact .inl ⟨rfl,rfl⟩
 |p::r,_,⟨k,v,xr,e,hk,hv,hr⟩=>by
  subst e
  have eq:=qhn hk ha
  by_cases hkj:k=j
  ·refine .inr ⟨p.2,v,?_,qk1 (p:=(k,v)) hkj,hv⟩
   rw[decide_eq_true hkj]at eq
   simp[M.dget,Qzq,eq]
  ·rw[decide_eq_false hkj]at eq
   have e1:M.dget (p::r) a=M.dget r a:=by simp[M.dget,Qzq,eq]
   rw[e1,qk2 (p:=(k,v)) hkj]
   exact hr.get ha
theorem IsKV.any{K:Qqq}{m:List Addr}{H:Hp}{a:D}{j:Key}(ha:keyOf a=some j):∀ {kvs:List (D×D)}{xs:List (Key×V)},IsKV K m H kvs xs→(kvs.any fun p=>M.eqT p.1 a)=(xs.any fun p=>decide (p.1=j))
 |[],_,h=>by rw[show _=[] from h]; rfl
 |p::r,_,⟨k,v,xr,e,hk,hv,hr⟩=>by
  subst e
  rw[Qq7,Qq7,qhn hk ha,hr.any ha]
theorem IsKV.repl{K:Qqq}{m:List Addr}{H:Hp}{a d:D}{j:Key}{w:V}(ha:keyOf a=some j)(hd:IsD K m H d w):∀ {kvs:List (D×D)}{xs:List (Key×V)},IsKV K m H kvs xs→IsKV K m H (kvs.map fun p=>if M.eqT p.1 a then(p.1,d) else p) (xs.map fun p=>if p.1=j then(p.1,w) else p)
 |[],_,h=>by rw[show _=[] from h]; rfl
 |p::r,_,⟨k,v,xr,e,hk,hv,hr⟩=>by
  subst e
  have eq:=qhn hk ha
  rw[Qq3,Qq3]
  by_cases hkj:k=j
  ·rw[decide_eq_true hkj]at eq
   rw[if_pos eq,if_pos hkj]
   exact⟨k,w,_,rfl,hk,hd,hr.repl ha hd⟩
  ·rw[decide_eq_false hkj]at eq
   rw[if_neg (by rw[eq]; nofun),if_neg hkj]
   exact⟨k,v,_,rfl,hk,hv,hr.repl ha hd⟩
theorem IsKV.snoc{K:Qqq}{m:List Addr}{H:Hp}{a d:D}{j:Key}{w:V}(ha:keyOf a=some j)(hd:IsD K m H d w):∀ {kvs:List (D×D)}{xs:List (Key×V)},IsKV K m H kvs xs→IsKV K m H (kvs++[(a,d)]) (xs++[(j,w)])
 |[],_,h=>by rw[show _=[] from h]; exact⟨j,w,[],rfl,ha,hd,rfl⟩
 |p::r,_,⟨k,v,xr,e,hk,hv,hr⟩=>by
  subst e
  exact⟨k,v,_,rfl,hk,hv,hr.snoc ha hd⟩
theorem IsKV.put{K:Qqq}{m:List Addr}{H:Hp}{a d:D}{j:Key}{w:V}{kvs:List (D×D)}{xs:List (Key×V)}(h:IsKV K m H kvs xs)(ha:keyOf a=some j)(hd:IsD K m H d w):IsKV K m H (M.dput kvs a d) (putK xs j w):=by
 unfold M.dput putK
 rw[h.any ha]
 split
 ·exact h.repl ha hd
 ·exact h.snoc ha hd
theorem IsKV.merge{K:Qqq}{m:List Addr}{H:Hp}:∀ {more:List (D×D)}{ms:List (Key×V)}{kvs:List (D×D)}{xs:List (Key×V)},IsKV K m H more ms→IsKV K m H kvs xs→IsKV K m H (more.foldl (fun acc p=>M.dput acc p.1 p.2) kvs) (qyq xs ms)
 |[],_,kvs,xs,h,q=>by rw[show _=[] from h]; exact q
 |p::r,_,kvs,xs,⟨k,v,xr,e,hk,hv,hr⟩,q=>by
  subst e
  exact hr.merge (q.put hk hv)
noncomputable def IsFs(K:Qqq)(m:List Addr)(H:Hp):List (Str×D)→List (Str×V)→Prop
 |[],ys=>ys=[]
 |p::r,ys=>∃ v yr,ys=(p.1,v)::yr∧IsD K m H p.2 v∧IsFs K m H r yr
theorem qj3{K:Qqq}{m m':List Addr}{H H':Hp}(hs:Sub m m')(ht:Tw H H'):∀ (fs:List (Str×D)) (ys:List (Str×V)),IsFs K m H fs ys→IsFs K m' H' fs ys
 |[],_,h=>h
 |p::r,_,⟨v,yr,e,hv,hr⟩=>⟨v,yr,e,qqf hs ht _ _ hv,qj3 hs ht r yr hr⟩
theorem qhj{K:Qqq}{m m':List Addr}{H H':Hp}(hs:Sub m m')(ht:Tr H H')(fs:List (Str×D))(ys:List (Str×V))(h:IsFs K m H fs ys):IsFs K m' H' fs ys:=qj3 hs ht.w fs ys h
theorem IsFs.length{K:Qqq}{m:List Addr}{H:Hp}:∀ {fs:List (Str×D)}{ys:List (Str×V)},IsFs K m H fs ys→fs.length=ys.length
 |[],_,h=>by rw[show _=[] from h]; rfl
 |p::r,_,⟨v,yr,e,_,hr⟩=>by rw[e,Qqd,Qqd,hr.length]
theorem IsFs.get{K:Qqq}{m:List Addr}{H:Hp}(f:Str):∀ {fs:List (Str×D)}{ys:List (Str×V)},IsFs K m H fs ys→(fs.lookup f=none∧ys.lookup f=none)∨∃ d v,fs.lookup f=some d∧ys.lookup f=some v∧IsD K m H d v
 |[],_,h=>by rw[show _=[] from h]; exact .inl ⟨rfl,rfl⟩
 |(g,d)::r,_,⟨v,yr,e,hv,hr⟩=>by
  subst e
  rw[Qq6,Qq6]
  cases f==g with
  |true=>exact .inr ⟨d,v,rfl,rfl,hv⟩
  |false=>exact hr.get f
theorem IsFs.put{K:Qqq}{m:List Addr}{H:Hp}{f:Str}{d:D}{w:V}(hd:IsD K m H d w):∀ {fs:List (Str×D)}{ys:List (Str×V)},IsFs K m H fs ys→IsFs K m H (M.putA f d fs) (putF f w ys)
 |[],_,h=>by rw[show _=[] from h]; exact⟨w,[],rfl,hd,rfl⟩
 |(g,x)::r,_,⟨v,yr,e,hv,hr⟩=>by
  subst e
  unfold M.putA putF
  split
  ·exact⟨w,yr,rfl,hd,hr⟩
  ·exact⟨v,_,rfl,hv,hr.put hd⟩
noncomputable def IsC(K:Qqq)(m:List Addr)(H:Hp):Cell→Addr→Prop
 |.lst true ds,a=>∃ xs,H a=some (.lst xs)∧IsDs K m H ds xs
 |.lst false ds,a=>∃ xs,SqF K H a xs∧IsDs K m H ds xs
 |.dic true kvs,a=>∃ xs,H a=some (.dK xs)∧IsKV K m H kvs xs
 |.dic false kvs,a=>∃ o xs,H a=some (.frz o (.dK xs))∧IsKV K m H kvs xs
 |.obj C fs,a=>∃ dx ys,H a=some (.ins C dx ys)∧IsFs K m H fs ys
noncomputable def Wr:Cell→Bool
 |.lst w _=>w
 |_=>true
structure Rel (K:Qqq) (m:List Addr) (st:Store) (H:Hp):Prop where
 len:m.length=st.length
 nd:∀ (l l':Nat) (a:Addr) (c c':Cell),m[l]?=some a→m[l']?=some a→st[l]?=some c→st[l']?=some c'→Wr c=true→Wr c'=true→l=l'
 cell:∀ (l:Nat) (c:Cell) (a:Addr),st[l]?=some c→m[l]?=some a→IsC K m H c a
section
variable {K:Qqq}{m:List Addr}{st:Store}{H:Hp}
theorem IsC.wr{c:Cell}{a:Addr}(h:IsC K m H c a)(w:Wr c=true):∃ o,H a=some o:=by
 cases c with
 |lst w' ds=>
  have e:w'=true:=w
  subst e
  obtain⟨xs,e,_⟩:=h
  exact⟨_,e⟩
 |dic w' kvs=>
  cases w' with
  |true=>obtain⟨xs,e,_⟩:=h; exact⟨_,e⟩
  |false=>obtain⟨o,xs,e,_⟩:=h; exact⟨_,e⟩
 |obj C fs=>
  obtain⟨dx,ys,e,_⟩:=h
  exact⟨_,e⟩
theorem Rel.list(h:Rel K m st H){l:Nat}{ds:List D}{v:V}(e:M.listAt st l=some ds)(hv:IsD K m H (.loc l) v):∃ a xs,m[l]?=some a∧v=.ref a∧SqL K H a xs∧IsDs K m H ds xs:=by
 obtain⟨a,ha,rfl⟩:=hv.loc
 unfold M.listAt at e
 split at e
 ·rename_i w ds' q
  cases e
  have c:=h.cell l _ a q ha
  cases w with
  |true=>
   obtain⟨xs,e1,e2⟩:=c
   exact⟨a,xs,ha,rfl,SqL.of e1,e2⟩
  |false=>
   obtain⟨xs,e1,e2⟩:=c
   exact⟨a,xs,ha,rfl,e1.sq,e2⟩
 ·cases e
theorem Rel.seq(h:Rel K m st H){d:D}{ds:List D}{v:V}(e:M.seqAt st d=some ds)(hv:IsD K m H d v):∃ a xs,True∧v=.ref a∧SqL K H a xs∧IsDs K m H ds xs:=by
 cases d with
 |loc l=>
  obtain⟨a,xs,_,q⟩:=h.list e hv
  exact⟨a,xs,trivial,q⟩
 |lst es=>
  cases e
  obtain⟨a,xs,e,q,r⟩:=hv.lst
  exact⟨a,xs,trivial,e,q.sq,r⟩
 |_=>cases e
theorem Rel.wlist(h:Rel K m st H){l:Nat}{ds:List D}{v:V}(e:M.wlistAt st l=some ds)(hv:IsD K m H (.loc l) v):∃ a xs,m[l]?=some a∧v=.ref a∧H a=some (.lst xs)∧IsDs K m H ds xs∧st[l]?=some (.lst true ds):=by
 obtain⟨a,ha,rfl⟩:=hv.loc
 unfold M.wlistAt at e
 split at e
 ·rename_i ds' q
  cases e
  obtain⟨xs,e1,e2⟩:=h.cell l _ a q ha
  exact⟨a,xs,ha,rfl,e1,e2,q⟩
 ·cases e
theorem qbv{m':List Addr}{H':Hp}(hs:Sub m m')(ht:Tw H H'){c:Cell}{a:Addr}(h:IsC K m H c a)(hw:Wr c=true→H' a=H a):IsC K m' H' c a:=by
 cases c with
 |lst w ds=>
  cases w with
  |true=>
   obtain⟨xs,e,q⟩:=h
   exact⟨xs,(hw rfl).trans e,qz8 hs ht ds xs q⟩
  |false=>
   obtain⟨xs,e,q⟩:=h
   exact⟨xs,ht.sqF e,qz8 hs ht ds xs q⟩
 |dic w kvs=>
  cases w with
  |true=>
   obtain⟨xs,e,q⟩:=h
   exact⟨xs,(hw rfl).trans e,qqe hs ht kvs xs q⟩
  |false=>
   obtain⟨o,xs,e,q⟩:=h
   exact⟨o,xs,(hw rfl).trans e,qqe hs ht kvs xs q⟩
 |obj C fs=>
  obtain⟨dx,ys,e,q⟩:=h
  exact⟨dx,ys,(hw rfl).trans e,qj3 hs ht fs ys q⟩
theorem qk4{m':List Addr}{H':Hp}(hs:Sub m m')(ht:Tr H H'){c:Cell}{a:Addr}(h:IsC K m H c a)(hw:Wr c=true→H' a=H a):IsC K m' H' c a:=qbv hs ht.w h hw
theorem Rel.dict(h:Rel K m st H){l:Nat}{kvs:List (D×D)}{v:V}(e:M.dicAt st l=some kvs)(hv:IsD K m H (.loc l) v):∃ a xs,m[l]?=some a∧v=.ref a∧Rd H a (.dK xs)∧IsKV K m H kvs xs:=by
 obtain⟨a,ha,rfl⟩:=hv.loc
 unfold M.dicAt at e
 split at e
 ·rename_i w kvs' q
  cases e
  have c:=h.cell l _ a q ha
  cases w with
  |true=>
   obtain⟨xs,e1,e2⟩:=c
   exact⟨a,xs,ha,rfl,.inl e1,e2⟩
  |false=>
   obtain⟨o,xs,e1,e2⟩:=c
   exact⟨a,xs,ha,rfl,.inr ⟨o,e1⟩,e2⟩
 ·cases e
theorem Rel.wdict(h:Rel K m st H){l:Nat}{kvs:List (D×D)}{v:V}(e:M.wdicAt st l=some kvs)(hv:IsD K m H (.loc l) v):∃ a xs,m[l]?=some a∧v=.ref a∧H a=some (.dK xs)∧IsKV K m H kvs xs∧st[l]?=some (.dic true kvs):=by
 obtain⟨a,ha,rfl⟩:=hv.loc
 unfold M.wdicAt at e
 split at e
 ·rename_i kvs' q
  cases e
  obtain⟨xs,e1,e2⟩:=h.cell l _ a q ha
  exact⟨a,xs,ha,rfl,e1,e2,q⟩
 ·cases e
theorem Rel.inst(h:Rel K m st H){C:Nat}{d:D}{fs:List (Str×D)}{v:V}(e:M.objAt st C d=some fs)(hv:IsD K m H d v):∃ l a dx ys,d=.loc l∧m[l]?=some a∧v=.ref a∧H a=some (.ins C dx ys)∧IsFs K m H fs ys∧st[l]?=some (.obj C fs):=by
 cases d with
 |loc l=>
  obtain⟨a,ha,rfl⟩:=hv.loc
  have e:(match st[l]? with|some (.obj C' fs)=>if C'=C then some fs else none|_=>none)=some fs:=e
  split at e
  ·rename_i C' fs' q
   split at e
   ·rename_i hC
    cases e
    subst hC
    obtain⟨dx,ys,e1,e2⟩:=h.cell l _ a q ha
    exact⟨l,a,dx,ys,rfl,ha,rfl,e1,e2,q⟩
   ·cases e
  ·cases e
 |_=>cases e
theorem Rel.same(h:Rel K m st H){H':Hp}(s:Same H H'):Rel K m st H':=
 ⟨h.len,h.nd,fun l c a e ea=>qk4 (Sub.refl m) (Tr.of_same s) (h.cell l c a e ea) fun w=>by
  obtain⟨xs,q⟩:=(h.cell l c a e ea).wr w
  rw[q]; exact s _ _ q⟩
theorem Rel.newC(h:Rel K m st H){p:Addr}{o:HO}{c:Cell}(hp:H p=none)(hc:Wr c=true→True)(hd:IsC K (m++[p]) (upd H p o) c p):Rel K (m++[p]) (st++[c]) (upd H p o):=by
 have ht:Tr H (upd H p o):=Tr.of_same (qzy hp)
 have old:∀ (l:Nat) (e:Cell) (a:Addr),(st++[c])[l]?=some e→(m++[p])[l]?=some a→(l<st.length∧st[l]?=some e∧m[l]?=some a)∨(l=st.length∧e=c∧a=p):=by
  intro l e a he ea
  by_cases hl:l<st.length
  ·rw[Qzz hl]at he
   rw[Qzz (by rw[h.len]; exact hl)]at ea
   exact .inl ⟨hl,he,ea⟩
  ·have hlt:=(Qqb.mp he).1
   rw[Qq0,Qz5]at hlt
   have e1:l=st.length:=by omega
   subst e1
   rw[Qq8 (Qqj _)]at he
   rw[Qq8 (by rw[h.len]; exact Qqj _),h.len]at ea
   have e2:c=e:=by simpa using he
   have e3:p=a:=by simpa using ea
   exact .inr ⟨rfl,e2.symm,e3.symm⟩
 refine⟨by simp[h.len],fun l l' a e e' e1 e2 e3 e4 w w'=>?_,fun l e a he ea=>?_⟩
 ·rcases old l e a e3 e1 with⟨h1,q1,r1⟩|⟨h1,q1,r1⟩<;>rcases old l' e' a e4 e2 with⟨h2,q2,r2⟩|⟨h2,q2,r2⟩
  ·exact h.nd l l' a e e' r1 r2 q1 q2 w w'
  ·obtain⟨ys,z⟩:=(h.cell l e a q1 r1).wr w
   rw[r2,hp]at z; cases z
  ·obtain⟨ys,z⟩:=(h.cell l' e' a q2 r2).wr w'
   rw[r1,hp]at z; cases z
  ·rw[h1,h2]
 ·rcases old l e a he ea with⟨h1,q1,r1⟩|⟨h1,q1,r1⟩
  ·refine qk4 (Sub.app m [p]) ht (h.cell l e a q1 r1) fun w=>?_
   obtain⟨ys,z⟩:=(h.cell l e a q1 r1).wr w
   exact qzj (qzi z hp)
  ·rw[q1,r1]
   exact hd
theorem Rel.new(h:Rel K m st H){p:Addr}{ds:List D}{xs:List V}(hp:H p=none)(hd:IsDs K m H ds xs):Rel K (m++[p]) (st++[.lst true ds]) (upd H p (.lst xs)):=
 h.newC hp (fun _=>trivial) ⟨xs,qzc,qzf (Sub.app m [p]) (Tr.of_same (qzy hp)) ds xs hd⟩
theorem Rel.newD(h:Rel K m st H){p:Addr}{kvs:List (D×D)}{xs:List (Key×V)}(hp:H p=none)(hd:IsKV K m H kvs xs):Rel K (m++[p]) (st++[.dic true kvs]) (upd H p (.dK xs)):=
 h.newC hp (fun _=>trivial) ⟨xs,qzc,qvi (Sub.app m [p]) (Tr.of_same (qzy hp)) kvs xs hd⟩
theorem Rel.newLoc(h:Rel K m st H){p:Addr}{H':Hp}:IsD K (m++[p]) H' (.loc st.length) (.ref p):=qlv (by
 rw[Qq8 (by rw[h.len]; exact Qqj _),h.len]; simp)
theorem Rel.putW(h:Rel K m st H){l:Nat}{a:Addr}{c c':Cell}{o:HO}(e:st[l]?=some c)(hw:Wr c=true)(ea:m[l]?=some a)(ht:Tw H (upd H a o))(hd:IsC K m (upd H a o) c' a):
  Rel K m (st.set l c') (upd H a o):=by
 have hl:=(Qqb.mp e).1
 have wr:∀ (j:Nat) (d:Cell),(st.set l c')[j]?=some d→(j=l∧d=c')∨(j≠l∧st[j]?=some d):=by
  intro j d q
  by_cases hj:j=l
  ·subst hj
   rw[Qzp hl]at q
   exact .inl ⟨rfl,(Option.some.inj q).symm⟩
  ·rw[Qz8 (Ne.symm hj)]at q
   exact .inr ⟨hj,q⟩
 refine⟨by rw[Qxz]; exact h.len,fun j j' b d d' e1 e2 e3 e4 w w'=>?_,fun j d b q eb=>?_⟩
 ·rcases wr j d e3 with⟨a1,b1⟩|⟨a1,b1⟩<;>rcases wr j' d' e4 with⟨a2,b2⟩|⟨a2,b2⟩
  ·rw[a1,a2]
  ·subst a1; exact h.nd _ _ b _ _ e1 e2 e b2 hw w'
  ·subst a2; exact h.nd _ _ b _ _ e1 e2 b1 e w hw
  ·exact h.nd _ _ b _ _ e1 e2 b1 b2 w w'
 ·rcases wr j d q with⟨a1,b1⟩|⟨a1,b1⟩
  ·subst a1 b1
   rw[ea]at eb; cases eb
   exact hd
  ·refine qbv (Sub.refl m) ht (h.cell j d b b1 eb) fun w=>qzj fun z=>?_
   subst z
   exact a1 (h.nd _ _ b _ _ eb ea b1 e w hw)
theorem Rel.putC(h:Rel K m st H){l:Nat}{a:Addr}{c c':Cell}{o:HO}(e:st[l]?=some c)(hw:Wr c=true)(ea:m[l]?=some a)(ht:Tr H (upd H a o))(hd:IsC K m (upd H a o) c' a):
  Rel K m (st.set l c') (upd H a o):=h.putW e hw ea ht.w hd
theorem Rel.put(h:Rel K m st H){l:Nat}{a:Addr}{ds ds':List D}{xs ys:List V}(e:st[l]?=some (.lst true ds))(ea:m[l]?=some a)(hH:H a=some (.lst xs))(hd:IsDs K m H ds' ys):
  Rel K m (st.set l (.lst true ds')) (upd H a (.lst ys)):=
 h.putC e rfl ea (Tr.put hH) ⟨ys,qzc,qzf (Sub.refl m) (Tr.put hH) ds' ys hd⟩
theorem Tr.putD{H:Hp}{p:Addr}{xs ys:List (Key×V)}(hp:H p=some (.dK xs)):Tr H (upd H p (.dK ys)):=
 ⟨fun b zs e=>by rw[qzj (qzu e hp (by intro z; cases z))]; exact e,fun b o u e=>by rw[qzj (qzu e hp (by intro z; cases z))]; exact e⟩
theorem Rel.putD(h:Rel K m st H){l:Nat}{a:Addr}{kvs kvs':List (D×D)}{xs ys:List (Key×V)}(e:st[l]?=some (.dic true kvs))(ea:m[l]?=some a)(hH:H a=some (.dK xs))(hd:IsKV K m H kvs' ys):
  Rel K m (st.set l (.dic true kvs')) (upd H a (.dK ys)):=
 h.putC e rfl ea (Tr.putD hH) ⟨ys,qzc,qvi (Sub.refl m) (Tr.putD hH) kvs' ys hd⟩
end
theorem Tr.putI{H:Hp}{p C dx:Addr}{xs ys:List (Str×V)}(hp:H p=some (.ins C dx xs)):Tr H (upd H p (.ins C dx ys)):=
 ⟨fun b zs e=>by rw[qzj (qzu e hp (by intro z; cases z))]; exact e,fun b o u e=>by rw[qzj (qzu e hp (by intro z; cases z))]; exact e⟩
theorem Rel.putI{K:Qqq}{m:List Addr}{st:Store}{H:Hp}(h:Rel K m st H){l:Nat}{a C dx:Addr}{fs gs:List (Str×D)}{xs ys:List (Str×V)}(e:st[l]?=some (.obj C fs))(ea:m[l]?=some a)(hH:H a=some (.ins C dx xs))(hd:IsFs K m H gs ys):
  Rel K m (st.set l (.obj C gs)) (upd H a (.ins C dx ys)):=
 h.putC e rfl ea (Tr.putI hH) ⟨dx,ys,qzc,qhj (Sub.refl m) (Tr.putI hH) gs ys hd⟩
theorem Rel.newI{K:Qqq}{m:List Addr}{st:Store}{H:Hp}(h:Rel K m st H){x dx C:Addr}(hx:H x=none)(hdx:H dx=none)(hne:dx≠x):Same H (upd (upd H dx (.own x)) x (.ins C dx []))∧Rel K (m++[x]) (st++[.obj C []]) (upd (upd H dx (.own x)) x (.ins C dx [])):=by
 have s1:Same H (upd H dx (.own x)):=qzy hdx
 have hx2:(upd H dx (.own x)) x=none:=by rw[qzj (Ne.symm hne)]; exact hx
 exact⟨fun b u e=>qzy hx2 b u (s1 b u e),(h.same s1).newC hx2 (fun _=>trivial) ⟨dx,[],qzc,rfl⟩⟩
theorem Tr.ice{H:Hp}{a:Addr}{o:Obj}{xs:List (Key×V)}(h:H a=some (.dK xs)):Tr H (upd H a (.frz o (.dK xs))):=
 ⟨fun b zs e=>by rw[qzj (qzu e h (by intro z; cases z))]; exact e,fun b o u e=>by rw[qzj (qzu e h (by intro z; cases z))]; exact e⟩
theorem Tr.thaw{H H':Hp}{a:Addr}{o:Obj}{xs ys:List (Key×V)}(h:H a=some (.dK xs))(t:Tr (upd H a (.frz o (.dK xs))) H'):Tr H (upd H' a (.dK ys)):=
 ⟨fun b zs e=>by
  have hb:=qzu e h (by intro z; cases z)
  rw[qzj hb]
  exact t.tup b zs (by rw[qzj hb]; exact e),fun b o u e=>by
  have hb:=qzu e h (by intro z; cases z)
  rw[qzj hb]
  exact t.frz b o u (by rw[qzj hb]; exact e)⟩
theorem Tw.thaw{H:Hp}{a:Addr}{o:Obj}{xs ys:List (Key×V)}(h:H a=some (.frz o (.dK xs))):Tw H (upd H a (.dK ys)):=
 ⟨fun b zs e=>by rw[qzj (qzu e h (by intro z; cases z))]; exact e,fun b o u hs e=>by rw[qzj (qzu e h (by intro z; cases z; exact hs))]; exact e⟩
theorem Rel.ice{K:Qqq}{m:List Addr}{st:Store}{H:Hp}(h:Rel K m st H){l:Nat}{a:Addr}{o:Obj}{kvs:List (D×D)}{xs:List (Key×V)}(e:st[l]?=some (.dic true kvs))(ea:m[l]?=some a)(hH:H a=some (.dK xs))(hd:IsKV K m H kvs xs):
  Rel K m (st.set l (.dic false kvs)) (upd H a (.frz o (.dK xs))):=
 h.putC e rfl ea (Tr.ice hH) ⟨o,xs,qzc,qvi (Sub.refl m) (Tr.ice hH) kvs xs hd⟩
theorem Rel.thaw{K:Qqq}{m:List Addr}{st:Store}{H:Hp}(h:Rel K m st H){l:Nat}{a:Addr}{o:Obj}{kvs:List (D×D)}{xs:List (Key×V)}(e:st[l]?=some (.dic false kvs))(ea:m[l]?=some a)(hH:H a=some (.frz o (.dK xs))):
  Rel K m (st.set l (.dic true kvs)) (upd H a (.dK xs)):=by
 obtain⟨o',ys,e1,q⟩:=h.cell l _ a e ea
 rw[hH]at e1
 cases e1
 exact h.putW e rfl ea (Tw.thaw hH) ⟨xs,qzc,qqe (Sub.refl m) (Tw.thaw hH) kvs xs q⟩
structure SlotOk (K:Qqq) (m:List Addr) (H:Hp) (τ:Sl) (σ:L2.St):Prop where
 len:τ.length=σ.length
 at_:∀ (i:Nat) (d:D),τ[i]?=some (some d)→∃ v,σ[i]?=some (some v)∧IsD K m H d v
theorem SlotOk.monoW{K:Qqq}{m m':List Addr}{H H':Hp}{τ:Sl}{σ:L2.St}(h:SlotOk K m H τ σ)(s:Sub m m')(t:Tw H H'):SlotOk K m' H' τ σ:=
 ⟨h.len,fun i d e=>let ⟨v,a,b⟩:=h.at_ i d e; ⟨v,a,qqf s t d v b⟩⟩
theorem SlotOk.mono{K:Qqq}{m m':List Addr}{H H':Hp}{τ:Sl}{σ:L2.St}(h:SlotOk K m H τ σ)(s:Sub m m')(t:Tr H H'):SlotOk K m' H' τ σ:=
 ⟨h.len,fun i d e=>let ⟨v,a,b⟩:=h.at_ i d e; ⟨v,a,qza s t d v b⟩⟩
theorem SlotOk.put{K:Qqq}{m:List Addr}{H:Hp}{τ:Sl}{σ:L2.St}(h:SlotOk K m H τ σ){i:Nat}{d:D}{v:V}(q:IsD K m H d v):SlotOk K m H (τ.set i (some d)) (σ.set i (some v)):=by
 refine⟨by rw[Qxz,Qxz]; exact h.len,fun j e ej=>?_⟩
 by_cases hj:i=j
 ·subst hj
  have hi:i<τ.length:=by
   have:=(Qqb.mp ej).1
   rwa [Qxz]at this
  rw[Qzp hi]at ej
  cases ej
  exact⟨v,Qzp (by rw[← h.len]; exact hi),q⟩
 ·rw[Qz8 hj]at ej ⊢
  exact h.at_ j e ej
def Post(K:Qqq)(m:List Addr)(H:Hp)(d:D)(st':Store)(Q:VK):Prop:=∀ v m' H',Sub m m'→Tr H H'→Rel K m' st' H'→IsD K m' H' d v→Q v H'
def PostB(K:Qqq)(m:List Addr)(H:Hp)(b:Bool)(st':Store)(Q:Bool→Hp→Prop):Prop:=∀ m' H',Sub m m'→Tr H H'→Rel K m' st' H'→Q b H'
def PostL(K:Qqq)(m:List Addr)(H:Hp)(ds:List D)(st':Store)(Q:List V→Hp→Prop):Prop:=∀ vs m' H',Sub m m'→Tr H H'→Rel K m' st' H'→IsDs K m' H' ds vs→Q vs H'
theorem Post.mono{K:Qqq}{m m1:List Addr}{H H1:Hp}{d:D}{st':Store}{Q:VK}(p:Post K m H d st' Q)(s:Sub m m1)(t:Tr H H1):Post K m1 H1 d st' Q:=
 fun v m' H' s' t' r i=>p v m' H' (s.trans s') (t.trans t') r i
theorem Post.here{K:Qqq}{m:List Addr}{H:Hp}{d:D}{st':Store}{Q:VK}{v:V}(p:Post K m H d st' Q)(r:Rel K m st' H)(i:IsD K m H d v):Q v H:=p v m H (Sub.refl m) (Tr.refl H) r i
noncomputable def tD(K:Qqq)(f:Sl→Store→Option (D×Store)):TE:=fun σ H Q=>∃ m st τ d st',Rel K m st H∧SlotOk K m H τ σ∧f τ st=some (d,st')∧Post K m H d st' Q
noncomputable def tTs(K:Qqq)(f:Sl→Store→Option (Bool×Store)):TT:=fun σ H Q=>∃ m st τ d st',Rel K m st H∧SlotOk K m H τ σ∧f τ st=some (d,st')∧PostB K m H d st' Q
noncomputable def tL(K:Qqq)(f:Sl→Store→Option (List D×Store)):TA:=fun σ H Q=>∃ m st τ d st',Rel K m st H∧SlotOk K m H τ σ∧f τ st=some (d,st')∧PostL K m H d st' Q
noncomputable def rD(K:Qqq)(g:Store→D→D→Option (D×Store)):R2:=fun x y H Q=>∃ m st a b d st',Rel K m st H∧IsD K m H a x∧IsD K m H b y∧g st a b=some (d,st')∧Post K m H d st' Q
def rC(K:Qqq)(g:Store→List D→Option (D×Store)):List V→Hp→VK→Prop:=fun xs H Q=>∃ m st ds d st',Rel K m st H∧IsDs K m H ds xs∧g st ds=some (d,st')∧Post K m H d st' Q
def rU1(K:Qqq)(g:Store→D→Option (D×Store)):V→Hp→VK→Prop:=fun x H Q=>∃ m st a d st',Rel K m st H∧IsD K m H a x∧g st a=some (d,st')∧Post K m H d st' Q
theorem tD.el{K:Qqq}{f:Sl→Store→Option (D×Store)}{σ:L2.St}{H:Hp}{Q:VK}{P:Prop}(h:tD K f σ H Q)(k:∀ m st τ d st',Rel K m st H→SlotOk K m H τ σ→f τ st=some (d,st')→Post K m H d st' Q→P):P:=by
 rcases h with⟨m,st,τ,d,st',a,b,c,e⟩
 exact k m st τ d st' a b c e
theorem tTs.el{K:Qqq}{f:Sl→Store→Option (Bool×Store)}{σ:L2.St}{H:Hp}{Q:Bool→Hp→Prop}{P:Prop}(h:tTs K f σ H Q)(k:∀ m st τ d st',Rel K m st H→SlotOk K m H τ σ→f τ st=some (d,st')→PostB K m H d st' Q→P):P:=by
 rcases h with⟨m,st,τ,d,st',p0,p1,p2,p3⟩
 exact k m st τ d st' p0 p1 p2 p3
theorem tL.el{K:Qqq}{f:Sl→Store→Option (List D×Store)}{σ:L2.St}{H:Hp}{Q:List V→Hp→Prop}{P:Prop}(h:tL K f σ H Q)(k:∀ m st τ d st',Rel K m st H→SlotOk K m H τ σ→f τ st=some (d,st')→PostL K m H d st' Q→P):P:=by
 rcases h with⟨m,st,τ,d,st',p0,p1,p2,p3⟩
 exact k m st τ d st' p0 p1 p2 p3
theorem rD.el{K:Qqq}{f:Store→D→D→Option (D×Store)}{x y:V}{H:Hp}{Q:VK}{P:Prop}(h:rD K f x y H Q)(k:∀ m st a b d st',Rel K m st H→IsD K m H a x→IsD K m H b y→f st a b=some (d,st')→Post K m H d st' Q→P):P:=by
 rcases h with⟨m,st,a,b,d,st',p0,p1,p2,p3,p4⟩
 exact k m st a b d st' p0 p1 p2 p3 p4
theorem rC.el{K:Qqq}{f:Store→List D→Option (D×Store)}{xs:List V}{H:Hp}{Q:VK}{P:Prop}(h:rC K f xs H Q)(k:∀ m st ds d st',Rel K m st H→IsDs K m H ds xs→f st ds=some (d,st')→Post K m H d st' Q→P):P:=by
 rcases h with⟨m,st,ds,d,st',p0,p1,p2,p3⟩
 exact k m st ds d st' p0 p1 p2 p3
theorem rU1.el{K:Qqq}{f:Store→D→Option (D×Store)}{x:V}{H:Hp}{Q:VK}{P:Prop}(h:rU1 K f x H Q)(k:∀ m st a d st',Rel K m st H→IsD K m H a x→f st a=some (d,st')→Post K m H d st' Q→P):P:=by
 rcases h with⟨m,st,a,d,st',p0,p1,p2,p3⟩
 exact k m st a d st' p0 p1 p2 p3
theorem _root_.L2.PE.imp{X:Cx}{e:Expr}{t t':TE}(h:PE X e t)(f:∀ σ H Q,t' σ H Q→t σ H Q):PE X e t':=fun pins s σ H Q I q=>h pins s σ H Q I (f σ H Q q)
theorem _root_.L2.PT.imp{X:Cx}{e:Expr}{t t':TT}(h:PT X e t)(f:∀ σ H Q,t' σ H Q→t σ H Q):PT X e t':=fun pins s σ H Q I q=>h pins s σ H Q I (f σ H Q q)
theorem _root_.L2.PW.imp{X:Cx}{e:Expr}{t t':TT}(h:PW X e t)(f:∀ σ H Q,t' σ H Q→t σ H Q):PW X e t':=fun w pins s σ H Q I q=>h w pins s σ H Q I (f σ H Q q)
theorem _root_.L2.PA.imp{X:Cx}{e:List Expr}{t t':TA}(h:PA X e t)(f:∀ σ H Q,t' σ H Q→t σ H Q):PA X e t':=fun p pins s σ H Q I q=>h p pins s σ H Q I (f σ H Q q)
theorem _root_.L2.PS.imp{X:Cx}{e:Stmt}{t t':TS}(h:PS X e t)(f:∀ σ H Q,t' σ H Q→t σ H Q):PS X e t':=fun pins s σ H Q I q=>h pins s σ H Q I (f Q σ H q)
theorem _root_.L2.PSs.imp{X:Cx}{e:List Stmt}{t t':TS}(h:PSs X e t)(f:∀ D σ H,t' D σ H→t D σ H):PSs X e t':=fun pins s σ H D I q=>h pins s σ H D I (f D σ H q)
theorem qze{α:Type}{f:Option (D×Store)}{g:D×Store→Option α}{r:α}(e:f.bind g=some r):∃ d st,f=some (d,st)∧g (d,st)=some r:=by
 cases f with
 |none=>cases e
 |some p=>exact⟨p.1,p.2,rfl,e⟩
theorem orO{α:Type}{a b:Option α}{r:α}(h:a.or b=some r):a=some r∨b=some r:=by
 cases a with
 |none=>exact .inr h
 |some x=>exact .inl h
theorem mapD{α β:Type}{f:Option α}{g:α→β}{r:β}(e:f.map g=some r):∃ d,f=some d∧g d=r:=by
 cases f with
 |none=>cases e
 |some p=>exact⟨p,rfl,Option.some.inj e⟩
theorem qzd{α β:Type}{f:Option α}{g:α→Option β}{r:β}(e:f.bind g=some r):∃ d,f=some d∧g d=some r:=by
 cases f with
 |none=>cases e
 |some p=>exact⟨p,rfl,e⟩
section
variable {K:Qqq}
theorem qfr{fa fb:Sl→Store→Option (D×Store)}{g:Store→D→D→Option (D×Store)}{σ:L2.St}{H:Hp}{Q:VK}
  (h:tD K (fun τ st=>(fa τ st).bind fun p=>(fb τ p.2).bind fun q=>g q.2 p.1 q.1) σ H Q):tOp (rD K g) (tD K fa) (tD K fb) σ H Q:=by
 refine h.el fun m st τ d st' R0 S0 e q=>?_
 obtain⟨d1,s1,e1,e⟩:=qze e
 obtain⟨d2,s2,e2,e⟩:=qze e
 exact⟨m,st,τ,d1,s1,R0,S0,e1,fun x m1 H1 b1 t1 R1 i1=>⟨m1,s1,τ,d2,s2,R1,S0.mono b1 t1,e2,fun y m2 H2 b2 t2 R2 i2=>
  ⟨m2,s2,d1,d2,d,st',R2,qza b2 t2 _ _ i1,i2,e,q.mono (b1.trans b2) (t1.trans t2)⟩⟩⟩
theorem tD_un{fa:Sl→Store→Option (D×Store)}{g:Store→D→Option (D×Store)}{σ:L2.St}{H:Hp}{Q:VK}
  (h:tD K (fun τ st=>(fa τ st).bind fun p=>g p.2 p.1) σ H Q):tUn (rU1 K g) (tD K fa) σ H Q:=by
 refine h.el fun m st τ d st' R0 S0 e q=>?_
 obtain⟨d1,s1,e1,e⟩:=qze e
 exact⟨m,st,τ,d1,s1,R0,S0,e1,fun x m1 H1 b1 t1 R1 i1=>⟨m1,s1,d1,d,st',R1,i1,e,q.mono b1 t1⟩⟩
theorem qnq{fa:Sl→Store→Option (D×Store)}{fr:Sl→Store→Option (List D×Store)}{σ:L2.St}{H:Hp}{Q:List V→Hp→Prop}
  (h:tL K (fun τ st=>(fa τ st).bind fun p=>(fr τ p.2).bind fun q=>some (p.1::q.1,q.2)) σ H Q):qnj (tD K fa) (tL K fr) σ H Q:=by
 refine h.el fun m st τ d st' R0 S0 e q=>?_
 obtain⟨d1,s1,e1,e⟩:=qze e
 obtain⟨p,e2,e⟩:=qzd e
 cases e
 exact⟨m,st,τ,d1,s1,R0,S0,e1,fun x m1 H1 b1 t1 R1 i1=>⟨m1,s1,τ,p.1,p.2,R1,S0.mono b1 t1,e2,fun xs m2 H2 b2 t2 R2 i2=>
  q _ m2 H2 (b1.trans b2) (t1.trans t2) R2 (qzx (qza b2 t2 _ _ i1) i2)⟩⟩
theorem tL_nil{σ:L2.St}{H:Hp}{Q:List V→Hp→Prop}(h:tL K (fun _ st=>some ([],st)) σ H Q):tNil σ H Q:=by
 refine h.el fun m st τ d st' R0 S0 e q=>?_
 cases e
 exact q [] m H (Sub.refl m) (Tr.refl H) R0 qzm
theorem qqo{fa:Sl→Store→Option (List D×Store)}{g:Store→List D→Option (D×Store)}{σ:L2.St}{H:Hp}{Q:VK}
  (h:tD K (fun τ st=>(fa τ st).bind fun p=>g p.2 p.1) σ H Q):tCB (rC K g) (tL K fa) σ H Q:=by
 refine h.el fun m st τ d st' R0 S0 e q=>?_
 obtain⟨p,e1,e⟩:=qzd e
 exact⟨m,st,τ,p.1,p.2,R0,S0,e1,fun xs m1 H1 b1 t1 R1 i1=>⟨m1,p.2,p.1,d,st',R1,i1,e,q.mono b1 t1⟩⟩
end
end MS
end
section
namespace MS
open PySem PySem.Spec PyProof.Rows L2
open M (D Cell Store Sl)
section
variable {X:Cx}
theorem qz5:(sizeLine:Nat)=M.lim:=sizeLine_eq
theorem qgn:OpR X (binaryOp .FloorDiv) (rI (fun _ j=>0<j∧j<2 ^ 64) fun i j=>.int (i / j)):=opI fun i j _ _ _ _ _ hc q=>by
 have h1:(0:Int)<j:=hc.1
 have h2:j<2 ^ 64:=hc.2
 refine floordiv_int (by omega) (by rw[Int.fdiv_eq_ediv_of_nonneg i (by omega)]; exact q) (.inl (PyProof.noPylong_of_log2 ?_))
 have h3:j.natAbs<2 ^ 64:=by omega
 have h4:j.natAbs≠0:=by omega
 have h5:j.natAbs.log2<64:=(Nat.log2_lt h4).mpr h3
 omega
theorem _root_.MS.IsDs.rep{K:Qqq}{m:List Addr}{H:Hp}{ds:List D}{xs:List V}(h:IsDs K m H ds xs):∀ k:Nat,IsDs K m H (List.replicate k ds).flatten (List.replicate k xs).flatten
 |0=>by simp only[List.replicate_zero,List.flatten_nil]; exact qzm
 |k+1=>by
  rw[Qq5,Qq5,Qzu,Qzu]
  exact h.append (IsDs.rep h k)
theorem qoz{pins:List (Addr×Obj)}{s:Shared}{σ:L2.St}{H:Hp}{Q:VK}{l b:Addr}{xs ys:List V}(I:Inv X pins σ H s)(hq:SqL X.K H l xs)(hq':SqL X.K H b ys)(hz:xs.length+ys.length≤sizeLine)(q:∀ p,H p=none→Q (.ref p) (upd H p (.lst (xs++ys)))):
  wpAny (model X.prog X.w) X.A (binaryOp .Add (.ref l) (.ref b)) (EP X pins σ Q) X.xe s:=by
 obtain⟨vs,r1,pl,_⟩:=I.list hq
 obtain⟨ws,r2,pl2,_⟩:=I.list hq'
 have l1:=r1.length
 have l2:=r2.length
 obtain⟨⟨cls,dd,data,sl⟩,n,ho,hc,hdd,hd⟩:=pl
 obtain⟨⟨cls2,dd2,data2,sl2⟩,n2,ho2,hc2,hdd2,hd2⟩:=pl2
 simp only at hc hd hc2 hd2
 subst hc hd hc2 hd2
 have e:vs.toArray++ws.toArray=(vs++ws).toArray:=by simp
 refine concat_meets ⟨_,ho,rfl⟩ ⟨_,ho2,rfl⟩ noFill_list_add seq_list_add PySem.F.slot_list_add PySem.F.entry_list_add (PySem.F.args_list_add_2 _ _) (list_addW l b vs.toArray ws.toArray n n2 dd dd2 sl sl2 (by simp; omega)) ⟨ho,ho2,?_⟩
 rw[e]
 exact⟨.ref _,_,I.lnew (t':=s.toks) (r1.append r2) (by rw[Qq0]; omega),rfl,q _ I.fresh⟩
theorem qoq(op:Operator):OpR X (binaryOp op) (rD X.K fun st a b=>M.binop st op a b):=by
 intro pins s σ H x y v u Q I rx ry h
 refine h.el fun m st a b d st' R0 i1 i2 e q=>?_
 have e:M.binop st op a b=some (d,st'):=e
 unfold M.binop at e
 split at e
 ·cases e
  exact op_add pins s σ H x y v u Q I rx ry ⟨_,_,i1.int,i2.int,q.here R0 (mkInt _)⟩
 ·rename_i as bs
  split at e
  ·cases e
  ·rename_i hc
   cases e
   rw[Qzh,decide_eq_true_eq,not_or,List.isEmpty_iff]at hc
   obtain⟨pa,xs,rfl,hx,ix⟩:=i1.tup
   obtain⟨pb,ys,rfl,hy,iy⟩:=i2.tup
   have l1:=ix.length
   have l2:=iy.length
   have l3:=qz5
   refine qn9 pins s σ H _ _ v u Q I rx ry ⟨pa,pb,xs,ys,rfl,rfl,hx,hy,?_,by omega,fun z=>?_,fun z p hp=>?_⟩
   ·intro z
    subst z
    exact hc.1 (Qzk.mp l1)
   ·have i3:=ix.append iy
    rw[z,Qzf]at i3
    exact q.here R0 (qzt hx i3)
   ·have sm:=qzy (o:=.tup (xs++ys)) hp
    exact q _ m _ (Sub.refl m) (Tr.of_same sm) (R0.same sm) (qzt (SqT.of qzc) (qzf (Sub.refl m) (Tr.of_same sm) _ _ (ix.append iy)))
 ·split at e
  ·cases e
  ·rename_i hc
   cases e
   have l3:=qz5
   exact qep pins s σ H x y v u Q I rx ry ⟨_,_,i1.str,i2.str,by omega,q.here R0 (mkStr _)⟩
 ·rename_i la lb _ _ _
  obtain⟨ds1,e1,e⟩:=qzd e
  obtain⟨ds2,e2,e⟩:=qzd e
  split at e
  ·cases e
  ·rename_i hc
   cases e
   obtain⟨pa,xs,_,rfl,hx,ix⟩:=R0.seq e1 i1
   obtain⟨pb,ys,_,rfl,hy,iy⟩:=R0.seq e2 i2
   have l1:=ix.length
   have l2:=iy.length
   have l3:=qz5
   cases rx
   cases ry
   refine qoz I hx hy (by omega) fun p hp=>?_
   exact q _ (m++[p]) _ (Sub.app m [p]) (Tr.of_same (qzy hp)) (R0.new hp (ix.append iy)) R0.newLoc
 ·cases e
  exact op_sub pins s σ H x y v u Q I rx ry ⟨_,_,i1.int,i2.int,q.here R0 (mkInt _)⟩
 ·split at e
  ·rename_i hc
   cases e
   refine op_mul pins s σ H x y v u Q I rx ry ⟨_,_,i1.int,i2.int,?_,q.here R0 (mkInt _)⟩
   unfold M.mulOk at hc
   simp only[Qzh,Qqy,decide_eq_true_eq]at hc
   exact hc
  ·cases e
 ·rename_i as k _
  split at e
  ·cases e
  ·rename_i hc
   cases e
   simp only[Qzh,decide_eq_true_eq,not_or]at hc
   obtain⟨pa,xs,rfl,hx,ix⟩:=i1.tup
   have l1:=ix.length
   have l3:=qz5
   refine qn7 pins s σ H _ _ v u Q I rx ry ⟨pa,k,xs,rfl,i2.int,hx,by omega,by omega,by rw[← l1]; omega,fun ys hy=>⟨fun z=>?_,fun p hp=>?_⟩⟩
   ·have i3:=ix.rep k.toNat
    rw[← hy,z]at i3
    exact q.here R0 (qzt hx i3)
   ·have sm:=qzy (o:=.tup ys) hp
    have i3:=ix.rep k.toNat
    rw[← hy]at i3
    exact q _ m _ (Sub.refl m) (Tr.of_same sm) (R0.same sm) (qzt (SqT.of qzc) (qzf (Sub.refl m) (Tr.of_same sm) _ _ i3))
 ·rename_i la k _
  obtain⟨ds1,e1,e⟩:=qzd e
  split at e
  ·cases e
  ·rename_i hc
   cases e
   simp only[Qzh,decide_eq_true_eq,not_or]at hc
   obtain⟨pa,xs,m1,rfl,hx,ix,_⟩:=R0.wlist e1 i1
   have l1:=ix.length
   have l3:=qz5
   refine op_rep pins s σ H _ _ v u Q I rx ry ⟨pa,k,xs,rfl,i2.int,hx,by omega,by omega,by rw[← l1]; omega,fun p hp=>?_⟩
   exact q _ (m++[p]) _ (Sub.app m [p]) (Tr.of_same (qzy hp)) (R0.new hp (ix.rep k.toNat)) R0.newLoc
 ·split at e
  ·rename_i hc
   cases e
   exact qgn pins s σ H x y v u Q I rx ry ⟨_,_,i1.int,i2.int,hc,q.here R0 (mkInt _)⟩
  ·cases e
 ·split at e
  ·rename_i hc
   cases e
   exact op_mod pins s σ H x y v u Q I rx ry ⟨_,_,i1.int,i2.int,hc,q.here R0 (mkInt _)⟩
  ·cases e
 ·split at e
  ·rename_i hc
   cases e
   exact op_pow pins s σ H x y v u Q I rx ry ⟨_,_,i1.int,i2.int,⟨hc.1,by omega,hc.2.2⟩,q.here R0 (mkInt _)⟩
  ·cases e
 ·cases e
theorem qzh{pins:List (Addr×Obj)}{σ:L2.St}{H:Hp}{s:Shared}{m:List Addr}{ds:List D}{v:V}(I:Inv X pins σ H s)(h:IsD X.K m H (.tup ds) v):∃ a xs its,v=.ref a∧SqT X.K H a xs∧IsDs X.K m H ds xs∧Vals xs its∧IsTup s.heap a its.toArray:=by
 obtain⟨a,xs,rfl,hx,ix⟩:=h.tup
 obtain⟨its,r,p,_⟩:=I.tuple hx
 exact⟨a,xs,its,rfl,hx,ix,r,p⟩
section
variable {pins:List (Addr×Obj)}{σ:L2.St}{H:Hp}{s:Shared}{m:List Addr}
mutual
theorem qhk(I:Inv X pins σ H s):∀ (n:Nat) (d e:D) (v:V),M.flat n d=true→M.flat n e=true→IsD X.K m H d v→IsD X.K m H e v→d=e
 |n,.loc _,_,_,f,_,_,_=>by simp[M.flat]at f
 |n,.lst _,_,_,f,_,_,_=>by simp[M.flat]at f
 |n,.non,e,v,_,fe,h,h'=>by
  rw[h.non]at h'
  cases e with
  |non=>rfl
  |tup ds=>obtain⟨a,xs,z,_⟩:=h'.tup; cases z
  |loc l=>simp[M.flat]at fe
  |lst _=>simp[M.flat]at fe
  |bl b=>cases h'.bl
  |int b=>cases h'.int
  |str b=>cases h'.str
 |n,.bl b,e,v,_,fe,h,h'=>by
  rw[h.bl]at h'
  cases e with
  |non=>cases h'.non
  |tup ds=>obtain⟨a,xs,z,_⟩:=h'.tup; cases z
  |loc l=>simp[M.flat]at fe
  |lst _=>simp[M.flat]at fe
  |bl b=>cases h'.bl; rfl
  |int b=>cases h'.int
  |str b=>cases h'.str
 |n,.int b,e,v,_,fe,h,h'=>by
  rw[h.int]at h'
  cases e with
  |non=>cases h'.non
  |tup ds=>obtain⟨a,xs,z,_⟩:=h'.tup; cases z
  |loc l=>simp[M.flat]at fe
  |lst _=>simp[M.flat]at fe
  |bl b=>cases h'.bl
  |int b=>cases h'.int; rfl
  |str b=>cases h'.str
 |n,.str b,e,v,_,fe,h,h'=>by
  rw[h.str]at h'
  cases e with
  |non=>cases h'.non
  |tup ds=>obtain⟨a,xs,z,_⟩:=h'.tup; cases z
  |loc l=>simp[M.flat]at fe
  |lst _=>simp[M.flat]at fe
  |bl b=>cases h'.bl
  |int b=>cases h'.int
  |str b=>cases h'.str; rfl
 |0,.tup ds,e,v,f,fe,h,h'=>by simp[M.flat]at f
 |n+1,.tup ds,e,v,f,fe,h,h'=>by
  obtain⟨a,xs,rfl,hx,ix⟩:=h.tup
  cases e with
  |non=>cases h'.non
  |tup es=>
   obtain⟨b,ys,z,hy,iy⟩:=h'.tup
   cases z
   have:=I.tuple_inj hx hy
   subst this
   simp only[M.flat]at f fe
   rw[qax I n ds es xs f fe ix iy]
  |loc l=>simp[M.flat]at fe
  |lst _=>simp[M.flat]at fe
  |bl b=>cases h'.bl
  |int b=>cases h'.int
  |str b=>cases h'.str
theorem qax(I:Inv X pins σ H s):∀ (n:Nat) (ds es:List D) (xs:List V),M.flats n ds=true→M.flats n es=true→IsDs X.K m H ds xs→IsDs X.K m H es xs→ds=es
 |n,[],es,xs,_,_,h,h'=>by
  rw[h.nil]at h'
  exact(Qzk.mp h'.length).symm
 |n,d::ds,es,xs,f,fe,h,h'=>by
  obtain⟨x,r,rfl,q,t⟩:=h.cons
  cases es with
  |nil=>cases h'.nil
  |cons e es=>
   obtain⟨x',r',z,q',t'⟩:=h'.cons
   cases z
   simp only[M.flats,Qqy]at f fe
   rw[qhk I n d e x f.1 fe.1 q q',qax I n ds es r f.2 fe.2 t t']
end
mutual
theorem qls:∀ (n:Nat) (d:D),M.flat n d=true→M.eqT d d=true
 |n,.loc _,f=>by simp[M.flat]at f
 |n,.lst _,f=>by simp[M.flat]at f
 |n,.non,_=>rfl
 |n,.bl b,_=>by simp[M.eqT]
 |n,.int b,_=>by simp[M.eqT]
 |n,.str b,_=>by simp[M.eqT]
 |0,.tup ds,f=>by simp[M.flat]at f
 |n+1,.tup ds,f=>by
  simp only[M.flat]at f
  simp only[M.eqT]
  exact qv0 n ds f
theorem qv0:∀ (n:Nat) (ds:List D),M.flats n ds=true→M.eqTs ds ds=true
 |n,[],_=>rfl
 |n,d::ds,f=>by
  simp only[M.flats,Qqy]at f
  simp only[M.eqTs,qls n d f.1,qv0 n ds f.2,Qxp]
end
noncomputable def pairE(ds es:List D)(j:Nat):Bool:=match ds[j]?,es[j]? with
 |some d,some e=>M.eqT d e
 |_,_=>true
theorem qqi:∀ (ds es:List D),M.eqTs ds es=((List.range (min ds.length es.length)).all (pairE ds es)&&ds.length==es.length)
 |[],[]=>rfl
 |[],e::es=>by simp[M.eqTs]
 |d::ds,[]=>by simp[M.eqTs]
 |d::ds,e::es=>by
  simp only[M.eqTs]
  rw[qqi ds es,Qqd,Qqd,Nat.add_min_add_right,List.range_succ_eq_map,Qxb,List.all_map,Bool.and_assoc]
  congr 1
  congr 1
  rw[Bool.eq_iff_iff,beq_iff_eq,beq_iff_eq]
  omega
theorem qbe{ds es:List D}(h:ds.length=es.length):M.eqTs ds es=(List.range ds.length).all (pairE ds es):=by
 rw[qqi,h,Nat.min_self]
 simp
theorem qd4(I:Inv X pins σ H s):∀ (n:Nat) (A:Around) (d e:D) (x y:V) (u v:Value),A.units+n<cLine→M.flat n d=true→M.flat n e=true→IsD X.K m H d x→IsD X.K m H e y→RelV x u→RelV y v→
  SeqAt.EqAt A s u v (M.eqT d e)∧SeqAt.RcAt A s u v (M.eqT d e):=by
 intro n
 induction n with
 |zero=>
  intro A d e x y u v hu f fe hx hy rx ry
  have hu0:A.units<cLine:=by omega
  cases d with
  |loc _=>simp[M.flat]at f
  |lst _=>simp[M.flat]at f
  |tup _=>simp[M.flat]at f
  |non=>
   cases hx.non; cases rx
   cases e with
   |loc _=>simp[M.flat]at fe
   |lst _=>simp[M.flat]at fe
   |tup _=>simp[M.flat]at fe
   |non=>cases hy.non; cases ry; exact⟨SeqAt.EqAt.same _,SeqAt.RcAt.none_none⟩
   |bl b=>cases hy.bl; cases ry; exact⟨SeqAt.EqAt.none_bool b,SeqAt.RcAt.none_bool b⟩
   |int b=>cases hy.int; obtain⟨t,rfl⟩:=ry; exact⟨SeqAt.EqAt.none_int b t,SeqAt.RcAt.none_int b t⟩
   |str b=>cases hy.str; obtain⟨t,rfl⟩:=ry; exact⟨SeqAt.EqAt.none_str b t,SeqAt.RcAt.none_str b t⟩
  |bl a=>
   cases hx.bl; cases rx
   cases e with
   |loc _=>simp[M.flat]at fe
   |lst _=>simp[M.flat]at fe
   |tup _=>simp[M.flat]at fe
   |non=>cases hy.non; cases ry; exact⟨SeqAt.EqAt.bool_none a,SeqAt.RcAt.bool_none a⟩
   |bl b=>cases hy.bl; cases ry; exact⟨SeqAt.EqAt.bool_bool a b,SeqAt.RcAt.bool_bool a b⟩
   |int b=>cases hy.int; obtain⟨t,rfl⟩:=ry; exact⟨SeqAt.EqAt.bool_int a b t,SeqAt.RcAt.bool_int a b t⟩
   |str b=>cases hy.str; obtain⟨t,rfl⟩:=ry; exact⟨SeqAt.EqAt.bool_str a b t,SeqAt.RcAt.bool_str a b t⟩
  |int a=>
   cases hx.int; obtain⟨t',rfl⟩:=rx
   cases e with
   |loc _=>simp[M.flat]at fe
   |lst _=>simp[M.flat]at fe
   |tup _=>simp[M.flat]at fe
   |non=>cases hy.non; cases ry; exact⟨SeqAt.EqAt.int_none a t',SeqAt.RcAt.int_none a t'⟩
   |bl b=>cases hy.bl; cases ry; exact⟨SeqAt.EqAt.int_bool a t' b,SeqAt.RcAt.int_bool a t' b⟩
   |int b=>cases hy.int; obtain⟨t,rfl⟩:=ry; exact⟨SeqAt.EqAt.int_int a t' b t,SeqAt.RcAt.int_int a t' b t⟩
   |str b=>cases hy.str; obtain⟨t,rfl⟩:=ry; exact⟨SeqAt.EqAt.int_str a t' b t,SeqAt.RcAt.int_str a t' b t⟩
  |str a=>
   cases hx.str; obtain⟨t',rfl⟩:=rx
   cases e with
   |loc _=>simp[M.flat]at fe
   |lst _=>simp[M.flat]at fe
   |tup _=>simp[M.flat]at fe
   |non=>cases hy.non; cases ry; exact⟨SeqAt.EqAt.str_none a t',SeqAt.RcAt.str_none a t'⟩
   |bl b=>cases hy.bl; cases ry; exact⟨SeqAt.EqAt.str_bool a t' b,SeqAt.RcAt.str_bool a t' b⟩
   |int b=>cases hy.int; obtain⟨t,rfl⟩:=ry; exact⟨SeqAt.EqAt.str_int a t' b t,SeqAt.RcAt.str_int a t' b t⟩
   |str b=>cases hy.str; obtain⟨t,rfl⟩:=ry; exact⟨SeqAt.EqAt.str_str a t' b t,SeqAt.RcAt.str_str a t' b t⟩
 |succ n ih=>
  intro A d e x y u v hu f fe hx hy rx ry
  have hu0:A.units<cLine:=by omega
  cases d with
  |loc _=>simp[M.flat]at f
  |lst _=>simp[M.flat]at f
  |tup ds=>
   obtain⟨a,xs,its,rfl,hq,ix,r1,p1⟩:=qzh I hx
   cases rx
   cases e with
   |loc _=>simp[M.flat]at fe
   |lst _=>simp[M.flat]at fe
   |non=>cases hy.non; cases ry; exact⟨SeqAt.EqAt.tuple_none p1 hu0,SeqAt.RcAt.tuple_none p1 hu0⟩
   |bl b=>cases hy.bl; cases ry; exact⟨SeqAt.EqAt.tuple_bool b p1 hu0,SeqAt.RcAt.tuple_bool b p1 hu0⟩
   |int b=>cases hy.int; obtain⟨t,rfl⟩:=ry; exact⟨SeqAt.EqAt.tuple_int b t p1 hu0,SeqAt.RcAt.tuple_int b t p1 hu0⟩
   |str b=>cases hy.str; obtain⟨t,rfl⟩:=ry; exact⟨SeqAt.EqAt.tuple_str b t p1 hu0,SeqAt.RcAt.tuple_str b t p1 hu0⟩
   |tup es=>
    obtain⟨b,ys,its2,rfl,hq2,iy,r2,p2⟩:=qzh I hy
    cases ry
    have l1:=ix.length
    have l2:=iy.length
    have l3:=r1.length
    have l4:=r2.length
    simp only[M.flat]at f fe
    have he:∀ j (h1:j<its.toArray.size) (h2:j<its2.toArray.size),SeqAt.EqAt A.in1 s its.toArray[j] its2.toArray[j] (pairE ds es j):=by
     intro j h1 h2
     rw[Qqx]at h1 h2
     have j1:j<ds.length:=by omega
     have j2:j<es.length:=by omega
     have g1:ds[j]?=some ds[j]:=by simp
     have g2:es[j]?=some es[j]:=by simp
     obtain⟨x1,k1,q1⟩:=ix.get g1
     obtain⟨x2,k2,q2⟩:=iy.get g2
     obtain⟨u1,w1,z1⟩:=r1.get k1
     obtain⟨u2,w2,z2⟩:=r2.get k2
     have fl:∀ (l:List D) (k:Nat) (hk:k<l.length),M.flats n l=true→M.flat n l[k]=true:=by
      intro l
      induction l with
      |nil=>intro k hk; cases hk
      |cons c l ihl=>
       intro k hk hf
       simp only[M.flats,Qqy]at hf
       cases k with
       |zero=>exact hf.1
       |succ k=>exact ihl k (by simpa using hk) hf.2
     have:=(ih A.in1 ds[j] es[j] x1 x2 u1 u2 (by have hz:A.in1.units=A.units+1:=rfl; omega) (fl ds j j1 f) (fl es j j2 fe) q1 q2 z1 z2).1
     have e1:its.toArray[j]=u1:=by
      have:its[j]?=some its[j]:=by simp
      rw[w1]at this
      simpa using (Option.some.inj this).symm
     have e2:its2.toArray[j]=u2:=by
      have:its2[j]?=some its2[j]:=by simp
      rw[w2]at this
      simpa using (Option.some.inj this).symm
     rw[e1,e2]
     have e3:pairE ds es j=M.eqT ds[j] es[j]:=by
      unfold pairE
      rw[g1,g2]
     rw[e3]
     exact this
    have rc:SeqAt.RcAt A s (.ref a) (.ref b) (M.eqT (.tup ds) (.tup es)):=by
     have:=SeqAt.RcAt.tuples p1 p2 hu0 he
     simp only[M.eqT]
     rw[qqi,l1,l2,l3,l4]
     simpa using this
    refine⟨?_,rc⟩
    by_cases hab:a=b
    ·subst hab
     have:=I.tuple_inj hq hq2
     subst this
     have e0:=qax I n ds es xs f fe ix iy
     subst e0
     have e1:M.eqT (.tup ds) (.tup ds)=true:=by
      simp only[M.eqT]
      exact qv0 n ds f
     rw[e1]
     exact SeqAt.EqAt.same _
    ·exact SeqAt.EqAt.of_refs hab rc
  |non=>
   cases hx.non; cases rx
   cases e with
   |loc _=>simp[M.flat]at fe
   |lst _=>simp[M.flat]at fe
   |tup es=>
    obtain⟨b,ys,its2,rfl,hq2,iy,r2,p2⟩:=qzh I hy
    cases ry
    exact⟨SeqAt.EqAt.none_tuple p2 hu0,SeqAt.RcAt.none_tuple p2 hu0⟩
   |non=>cases hy.non; cases ry; exact⟨SeqAt.EqAt.same _,SeqAt.RcAt.none_none⟩
   |bl b=>cases hy.bl; cases ry; exact⟨SeqAt.EqAt.none_bool b,SeqAt.RcAt.none_bool b⟩
   |int b=>cases hy.int; obtain⟨t,rfl⟩:=ry; exact⟨SeqAt.EqAt.none_int b t,SeqAt.RcAt.none_int b t⟩
   |str b=>cases hy.str; obtain⟨t,rfl⟩:=ry; exact⟨SeqAt.EqAt.none_str b t,SeqAt.RcAt.none_str b t⟩
  |bl a=>
   cases hx.bl; cases rx
   cases e with
   |loc _=>simp[M.flat]at fe
   |lst _=>simp[M.flat]at fe
   |tup es=>
    obtain⟨b,ys,its2,rfl,hq2,iy,r2,p2⟩:=qzh I hy
    cases ry
    exact⟨SeqAt.EqAt.bool_tuple a p2 hu0,SeqAt.RcAt.bool_tuple a p2 hu0⟩
   |non=>cases hy.non; cases ry; exact⟨SeqAt.EqAt.bool_none a,SeqAt.RcAt.bool_none a⟩
   |bl b=>cases hy.bl; cases ry; exact⟨SeqAt.EqAt.bool_bool a b,SeqAt.RcAt.bool_bool a b⟩
   |int b=>cases hy.int; obtain⟨t,rfl⟩:=ry; exact⟨SeqAt.EqAt.bool_int a b t,SeqAt.RcAt.bool_int a b t⟩
   |str b=>cases hy.str; obtain⟨t,rfl⟩:=ry; exact⟨SeqAt.EqAt.bool_str a b t,SeqAt.RcAt.bool_str a b t⟩
  |int a=>
   cases hx.int; obtain⟨t',rfl⟩:=rx
   cases e with
   |loc _=>simp[M.flat]at fe
   |lst _=>simp[M.flat]at fe
   |tup es=>
    obtain⟨b,ys,its2,rfl,hq2,iy,r2,p2⟩:=qzh I hy
    cases ry
    exact⟨SeqAt.EqAt.int_tuple a t' p2 hu0,SeqAt.RcAt.int_tuple a t' p2 hu0⟩
   |non=>cases hy.non; cases ry; exact⟨SeqAt.EqAt.int_none a t',SeqAt.RcAt.int_none a t'⟩
   |bl b=>cases hy.bl; cases ry; exact⟨SeqAt.EqAt.int_bool a t' b,SeqAt.RcAt.int_bool a t' b⟩
   |int b=>cases hy.int; obtain⟨t,rfl⟩:=ry; exact⟨SeqAt.EqAt.int_int a t' b t,SeqAt.RcAt.int_int a t' b t⟩
   |str b=>cases hy.str; obtain⟨t,rfl⟩:=ry; exact⟨SeqAt.EqAt.int_str a t' b t,SeqAt.RcAt.int_str a t' b t⟩
  |str a=>
   cases hx.str; obtain⟨t',rfl⟩:=rx
   cases e with
   |loc _=>simp[M.flat]at fe
   |lst _=>simp[M.flat]at fe
   |tup es=>
    obtain⟨b,ys,its2,rfl,hq2,iy,r2,p2⟩:=qzh I hy
    cases ry
    exact⟨SeqAt.EqAt.str_tuple a t' p2 hu0,SeqAt.RcAt.str_tuple a t' p2 hu0⟩
   |non=>cases hy.non; cases ry; exact⟨SeqAt.EqAt.str_none a t',SeqAt.RcAt.str_none a t'⟩
   |bl b=>cases hy.bl; cases ry; exact⟨SeqAt.EqAt.str_bool a t' b,SeqAt.RcAt.str_bool a t' b⟩
   |int b=>cases hy.int; obtain⟨t,rfl⟩:=ry; exact⟨SeqAt.EqAt.str_int a t' b t,SeqAt.RcAt.str_int a t' b t⟩
   |str b=>cases hy.str; obtain⟨t,rfl⟩:=ry; exact⟨SeqAt.EqAt.str_str a t' b t,SeqAt.RcAt.str_str a t' b t⟩
theorem qq4:∀ {n:Nat}{l:List D}{k:Nat}{d:D},M.flats n l=true→l[k]?=some d→M.flat n d=true
 |_,[],_,_,_,e=>by simp at e
 |n,c::l,0,d,f,e=>by
  simp only[M.flats,Qqy]at f
  have e':c=d:=by simpa using e
  rw[← e']; exact f.1
 |n,c::l,k+1,d,f,e=>by
  simp only[M.flats,Qqy]at f
  exact qq4 (k:=k) f.2 (by simpa using e)
end
end
end MS
end
section
namespace MS
open PySem PySem.Spec PyProof.Rows L2
noncomputable def Its(z:Str):It:=⟨fun i _=>i<z.cps.toList.length,fun i H x H'=>H'=H∧∃ c,z.cps.toList[i]?=some c∧x=.str ⟨#[c]⟩,fun i _=>z.cps.toList.length≤i⟩
theorem qfn{P:Program}{w:World}{K:Qqq}{tg:Expr}(z:Str)(t:Tok)(it:Addr):Turn P w K tg (Its z) [it] it (fun i h=>h.IsStrIter it "str_ascii_iterator" z t i) where
 mem:=by simp
 obj:=fun i h st b hb=>by
  have e:b=it:=by simpa using hb
  subst e
  obtain⟨o,e,c,d⟩:=st
  exact⟨o,e,fun v q=>by rw[d]at q; cases q⟩
 keep:=fun i h h' st k=>by
  obtain⟨o,e,r⟩:=st
  exact⟨o,k it (by simp) o e,r⟩
 item:=by
  intro X hP hw hK hc i pins s σ H E I hf st hg
  subst hP hw hK
  obtain⟨f0,f1,f2,f3,f4,f5⟩:=hf it (by simp)
  have hi:i<z.cps.toList.length:=hg
  have hx:z.cps[i]?=some (z.cps.toList[i]):=by
   rw[← Qql]
   exact Qqg hi
  refine wpAny_pyNext_ascii_item st hx fun h' st' sb=>?_
  have I1:Inv X pins σ H { s with heap:=h',toks:=s.toks+1 }:=I.turned (fun b o hb e=>(sb.2 b hb).trans e) f0 f1 f3 f4 f5
  obtain⟨o,e,c,d⟩:=id st'
  exact⟨_,rfl,qhc (s:={ s with heap:=h',toks:=s.toks+1 }) e c d (by decide) ⟨.str ⟨#[z.cps.toList[i]]⟩,H,I1,⟨_,rfl⟩,⟨rfl,_,Qqg hi,rfl⟩,st',fun b hb=>(hf b hb).1⟩⟩
 done:=by
  intro X hP hw hK hc i pins s σ H E I hf st hg
  subst hP hw hK
  obtain⟨f0,f1,f2,f3,f4,f5⟩:=hf it (by simp)
  have hi:z.cps.toList.length≤i:=hg
  have hx:z.cps[i]?=none:=by
   rw[← Qql]
   exact Qzs hi
  exact wpAny_pyNext_ascii_end (I.ok.hd hc) st hx fun h' eb=>⟨rfl,I.turned (t':=s.toks) (fun b o hb e=>eb b o hb e) f0 f1 f3 f4 f5⟩
 self:=fun _ _ _ _ _ st h=>wpAny_pyIter_striter_ascii st h
section
variable {X:Cx}
theorem qde{v:Value}{o:Option Int}(h:IsPart v o):∃ p:Option (Int×Tok),v=partValue p∧p.map (·.1)=o:=by
 cases h with
 |none=>exact⟨none,rfl,rfl⟩
 |int i t=>exact⟨some (i,t),rfl,rfl⟩
theorem qbw(n:Nat)(lo hi:Option Int):Builtin.Str.strSliceIndices lo hi 1 n=PySem.sliceRange ((M.cutIx n 0 lo:Nat):Int) ((M.cutIx n n hi:Nat):Int) 1:=by
 have cl:∀ (o:Option Int) (d:Nat),d≤n→(match o with
   |none=>(d:Int)
   |some i=>max 0 (min (if i<0 then i+(n:Int) else i) (n:Int)))=((M.cutIx n d o:Nat):Int):=by
  intro o d hd
  cases o with
  |none=>rfl
  |some i=>
   simp only[M.cutIx]
   split<;>omega
 rw[← cl lo 0 (Qze _),← cl hi n (Qqj _)]
 unfold Builtin.Str.strSliceIndices
 simp only[show((1:Int) > 0)=True from by simp,if_true]
 congr 2
theorem qk6(n d:Nat)(o:Option Int)(h:d≤n):M.cutIx n d o≤n:=by
 cases o with
 |none=>exact h
 |some i=>
  simp only[M.cutIx]
  split<;>omega
theorem qa2(a b:Nat):PySem.sliceRange (a:Int) (b:Int) 1=(List.range (b - a)).map fun k=>a+k:=by
 unfold PySem.sliceRange
 simp only[show((1:Int) > 0)=True from by simp,if_true]
 by_cases h:(a:Int)<(b:Int)
 ·rw[if_pos h]
  have e:(((b:Int) - a+1 - 1) / 1).toNat=b - a:=by
   rw[Int.ediv_one]; omega
  rw[e]
  refine List.map_congr_left fun k _=>?_
  omega
 ·rw[if_neg h]
  have e:b - a=0:=by omega
  rw[e]
  rfl
theorem ql0(z:Str)(lo hi:Option Int):(Builtin.Str.strSliceIndices lo hi 1 z.length).filterMap (z.cps[·]?)=M.cut z.cps.toList lo hi:=by
 have hl:z.cps.toList.length=z.length:=by simp[Str.length]
 have h1:=qk6 z.length 0 lo (Qze _)
 have h2:=qk6 z.length z.length hi (Qqj _)
 rw[qbw,qa2]
 unfold M.cut
 rw[hl]
 generalize M.cutIx z.length 0 lo=a at *
 generalize M.cutIx z.length z.length hi=b at *
 have e:∀ l:List Nat,l.filterMap (z.cps[·]?)=l.filterMap (z.cps.toList[·]?):=fun l=>by simp
 rw[e]
 by_cases hab:a≤b
 ·exact PySem.StrLaws.picks z.cps.toList (b - a) a (by omega)
 ·have e0:b - a=0:=by omega
  rw[e0]
  simp
theorem qhu(z:Str)(lo hi:Option Int)(h:(Builtin.Str.strSliceIndices lo hi 1 z.length).length=z.length):M.cut z.cps.toList lo hi=z.cps.toList:=by
 have hl:z.cps.toList.length=z.length:=by simp[Str.length]
 have h1:=qk6 z.length 0 lo (Qze _)
 have h2:=qk6 z.length z.length hi (Qqj _)
 rw[qbw,qa2,Qqk,Qxt]at h
 unfold M.cut
 rw[hl]
 generalize M.cutIx z.length 0 lo=a at *
 generalize M.cutIx z.length z.length hi=b at *
 by_cases h0:z.length=0
 ·have e:z.cps.toList=[]:=Qzk.mp (hl.trans h0)
  rw[e]; simp
 ·have ea:a=0:=by omega
  subst ea
  rw[Qja]
  exact Qxa (by omega)
theorem qnw:SlR X (fun x lo hi H Q=>∃ z,x=.str z∧z.length≤sizeLine∧Q (.str ⟨(M.cut z.cps.toList lo hi).toArray⟩) H):=by
 intro pins s σ H x v vl vu lo hi sl Q I rx hs pl pu h
 obtain⟨z,rfl,hz,q⟩:=h
 obtain⟨t,rfl⟩:=rx
 obtain⟨l,rfl,el⟩:=qde pl
 obtain⟨u,rfl,eu⟩:=qde pu
 have hsl:s.heap.IsSlice sl l u none:=hs
 refine⟨"str",_,PySem.F.slot_str_getitem.lookup,typeIs_str s z t,?_⟩
 have el:l.map (·.1)=lo:=el
 have eu:u.map (·.1)=hi:=eu
 have hpick:slicePicked z l u none=Builtin.Str.strSliceIndices lo hi 1 z.length:=by unfold slicePicked; rw[el,eu]; rfl
 have hcut:=ql0 z lo hi
 have hl:z.cps.toList.length=z.length:=by simp[Str.length]
 have clen:(M.cut z.cps.toList lo hi).length≤z.length:=by
  unfold M.cut
  rw[Qzn,Qx2,hl]
  omega
 refine wpAny_getItem_str_slice hsl (by decide) ?_
 unfold sliceMade
 rw[hpick,hcut]
 refine post_val_or_str ⟨?_,fun t' k=>?_⟩
 ·split
  ·exact hz
  ·show(M.cut z.cps.toList lo hi).toArray.size≤sizeLine
   rw[Qqx]
   exact Qzx clen hz
 ·refine⟨.str ⟨(M.cut z.cps.toList lo hi).toArray⟩,H,I.tok k,⟨t',?_⟩,q⟩
  split
  ·rename_i hw
   rw[Qqy,beq_iff_eq,beq_iff_eq]at hw
   have hw2:(Builtin.Str.strSliceIndices lo hi 1 z.length).length=z.length:=hw.2
   have e:M.cut z.cps.toList lo hi=z.cps.toList:=qhu z lo hi hw2
   rw[e]
  ·rfl
theorem qdg{z:Str}{c:Nat}(h:M.oneOf z=some c):z=⟨#[c]⟩:=by
 obtain⟨cs⟩:=z
 unfold M.oneOf at h
 split at h
 ·rename_i d hd
  cases h
  have:cs=#[c]:=by
   apply Array.toList_inj.mp
   simpa using hd
  rw[this]
 ·cases h
end
end MS
end
section
namespace MS
open PySem PySem.Spec PyProof.Rows L2
open M (D Cell Store Sl)
section
variable {X:Cx}
section
variable {pins:List (Addr×Obj)}{σ:L2.St}{H:Hp}{s:Shared}{m:List Addr}
theorem qyl(I:Inv X pins σ H s)(A:Around)(hu:A.units+9<cLine){d0:D}{x0:V}{u0:Value}(f0:M.flat 9 d0=true)(h0:IsD X.K m H d0 x0)(r0:RelV x0 u0):
  ∃ e:Value→Bool,∀ (ds:List D) (xs:List V) (its:List Value),M.flats 9 ds=true→IsDs X.K m H ds xs→Vals xs its→(∀ w∈its,SeqAt.EqAt A s w u0 (e w))∧its.any e=ds.any fun y=>M.eqT y d0:=by
 classical
 refine⟨fun w=>decide (∃ d x,M.flat 9 d=true∧IsD X.K m H d x∧RelV x w∧M.eqT d d0=true),fun ds=>?_⟩
 have key:∀ d x w,M.flat 9 d=true→IsD X.K m H d x→RelV x w→decide (∃ d x,M.flat 9 d=true∧IsD X.K m H d x∧RelV x w∧M.eqT d d0=true)=M.eqT d d0:=by
  intro d x w f i r
  cases q:M.eqT d d0 with
  |true=>exact decide_eq_true ⟨d,x,f,i,r,q⟩
  |false=>
   refine decide_eq_false ?_
   rintro⟨d',x',f',i',r',q'⟩
   have e1:=r.inj r'
   subst e1
   have e2:=qhk I 9 d d' x f f' i i'
   subst e2
   rw[q]at q'
   cases q'
 induction ds with
 |nil=>
  intro xs its _ ix r
  rw[ix.nil]at r
  cases r
  exact⟨fun w hw=>(by cases hw),rfl⟩
 |cons d ds ih=>
  intro xs its f ix r
  obtain⟨x,xr,rfl,q,t⟩:=ix.cons
  simp only[M.flats,Qqy]at f
  cases r with
  |@cons _ u _ us r1 r2=>
   obtain⟨a1,a2⟩:=ih xr us f.2 t r2
   refine⟨fun w hw=>?_,?_⟩
   ·rcases Qqh.mp hw with z|z
    ·subst z
     show SeqAt.EqAt A s w u0 (decide _)
     rw[key d x w f.1 q r1]
     exact(qd4 I 9 A d d0 x x0 w u0 hu f.1 f0 q h0 r1 r0).1
    ·exact a1 w z
   ·rw[Qq7,Qq7,a2]
    congr 1
    exact key d x u f.1 q r1
end
theorem qdo{pins:List (Addr×Obj)}{σ:L2.St}{H:Hp}{s:Shared}{m:List Addr}(I:Inv X pins σ H s)(A:Around)(n:Nat)(hu:A.units+n<cLine){ds es:List D}{xs ys:List V}{its its2:List Value}(f:M.flats n ds=true)(fe:M.flats n es=true)(ix:IsDs X.K m H ds xs)(iy:IsDs X.K m H es ys)(r1:Vals xs its)(r2:Vals ys its2)
  (j:Nat) (h1:j<its.toArray.size) (h2:j<its2.toArray.size):SeqAt.EqAt A s its.toArray[j] its2.toArray[j] (pairE ds es j):=by
 have l1:=ix.length
 have l2:=iy.length
 have l3:=r1.length
 have l4:=r2.length
 rw[Qqx]at h1 h2
 have j1:j<ds.length:=by omega
 have j2:j<es.length:=by omega
 have g1:ds[j]?=some ds[j]:=by simp
 have g2:es[j]?=some es[j]:=by simp
 obtain⟨x1,k1,q1⟩:=ix.get g1
 obtain⟨x2,k2,q2⟩:=iy.get g2
 obtain⟨u1,w1,z1⟩:=r1.get k1
 obtain⟨u2,w2,z2⟩:=r2.get k2
 have this:=(qd4 I n A ds[j] es[j] x1 x2 u1 u2 hu (qq4 f g1) (qq4 fe g2) q1 q2 z1 z2).1
 have e1:its.toArray[j]=u1:=by
  have:its[j]?=some its[j]:=by simp
  rw[w1]at this
  simpa using (Option.some.inj this).symm
 have e2:its2.toArray[j]=u2:=by
  have:its2[j]?=some its2[j]:=by simp
  rw[w2]at this
  simpa using (Option.some.inj this).symm
 rw[e1,e2]
 have e3:pairE ds es j=M.eqT ds[j] es[j]:=by
  unfold pairE
  rw[g1,g2]
 rw[e3]
 exact this
theorem op_inD(hu:X.A.units+64<cLine):OpR X (compareOp .In) (rD X.K fun st a b=>(M.inD st a b).map fun k=>(.bl k,st)):=by
 intro pins s σ H x y v u Q I rx ry h
 refine h.el fun m st a b d st' R0 i1 i2 e q=>?_
 obtain⟨k,e1,e2⟩:=mapD e
 cases e2
 have hu1:X.A.in1.units+9<cLine:=by have hz:X.A.in1.units=X.A.units+1:=rfl; omega
 cases b with
 |tup ds=>
  simp only[M.inD]at e1
  split at e1
  ·rename_i hf
   cases e1
   rw[Qqy]at hf
   obtain⟨p,xs,its,rfl,hq,ix,r,pl⟩:=qzh I i2
   cases ry
   obtain⟨ef,ha⟩:=qyl I X.A.in1 hu1 hf.1 i1 rx
   obtain⟨h1,h2⟩:=ha ds xs its hf.2 ix r
   refine SeqAt.in_tupleAt ef pl (fun w hw=>h1 w (by simpa using hw)) ⟨.bl _,H,I,rfl,?_⟩
   rw[show its.toArray.any ef=its.any ef by simp,h2]
   exact q.here R0 (mkBl _)
  ·cases e1
 |loc l=>
  simp only[M.inD]at e1
  obtain⟨ds,e2,e1⟩:=qzd e1
  split at e1
  ·rename_i hf
   cases e1
   rw[Qqy]at hf
   obtain⟨p,xs,_,rfl,hq,ix⟩:=R0.seq e2 i2
   cases ry
   obtain⟨its,r,pl,_⟩:=I.list hq
   obtain⟨ef,ha⟩:=qyl I X.A.in1 hu1 hf.1 i1 rx
   obtain⟨h1,h2⟩:=ha ds xs its hf.2 ix r
   refine SeqAt.in_listAt ef pl.isList (fun w hw=>h1 w (by simpa using hw)) ⟨.bl _,H,I,rfl,?_⟩
   rw[show its.toArray.any ef=its.any ef by simp,h2]
   exact q.here R0 (mkBl _)
  ·cases e1
 |lst l=>
  simp only[M.inD]at e1
  obtain⟨ds,e2,e1⟩:=qzd e1
  split at e1
  ·rename_i hf
   cases e1
   rw[Qqy]at hf
   obtain⟨p,xs,_,rfl,hq,ix⟩:=R0.seq e2 i2
   cases ry
   obtain⟨its,r,pl,_⟩:=I.list hq
   obtain⟨ef,ha⟩:=qyl I X.A.in1 hu1 hf.1 i1 rx
   obtain⟨h1,h2⟩:=ha ds xs its hf.2 ix r
   refine SeqAt.in_listAt ef pl.isList (fun w hw=>h1 w (by simpa using hw)) ⟨.bl _,H,I,rfl,?_⟩
   rw[show its.toArray.any ef=its.any ef by simp,h2]
   exact q.here R0 (mkBl _)
  ·cases e1
 |str z=>
  simp only[M.inD]at e1
  cases a with
  |str y0=>
   obtain⟨c,e3,e4⟩:=mapD e1
   have hy:=qdg e3
   subst hy
   subst e4
   refine qgm pins s σ H x y v u Q I rx ry ⟨_,_,i1.str,i2.str,?_⟩
   rw[PySem.StrLaws.found_one]
   exact q.here R0 (mkBl _)
  |_=>cases e1
 |_=>simp[M.inD,M.seqAt]at e1
theorem qgl(hu:X.A.units+64<cLine):OpR X (compareOp .NotIn) (rD X.K fun st a b=>((M.inD st a b).map (!·)).map fun k=>(.bl k,st)):=by
 intro pins s σ H x y v u Q I rx ry h
 refine h.el fun m st a b d st' R0 i1 i2 e q=>?_
 obtain⟨k0,e0,e2⟩:=mapD e
 cases e2
 obtain⟨k,e1,e3⟩:=mapD e0
 subst e3
 have hu1:X.A.in1.units+9<cLine:=by have hz:X.A.in1.units=X.A.units+1:=rfl; omega
 cases b with
 |tup ds=>
  simp only[M.inD]at e1
  split at e1
  ·rename_i hf
   cases e1
   rw[Qqy]at hf
   obtain⟨p,xs,its,rfl,hq,ix,r,pl⟩:=qzh I i2
   cases ry
   obtain⟨ef,ha⟩:=qyl I X.A.in1 hu1 hf.1 i1 rx
   obtain⟨h1,h2⟩:=ha ds xs its hf.2 ix r
   refine SeqAt.notIn_tupleAt ef pl (fun w hw=>h1 w (by simpa using hw)) ⟨.bl _,H,I,rfl,?_⟩
   rw[show its.toArray.any ef=its.any ef by simp,h2]
   exact q.here R0 (mkBl _)
  ·cases e1
 |loc l=>
  simp only[M.inD]at e1
  obtain⟨ds,e2,e1⟩:=qzd e1
  split at e1
  ·rename_i hf
   cases e1
   rw[Qqy]at hf
   obtain⟨p,xs,_,rfl,hq,ix⟩:=R0.seq e2 i2
   cases ry
   obtain⟨its,r,pl,_⟩:=I.list hq
   obtain⟨ef,ha⟩:=qyl I X.A.in1 hu1 hf.1 i1 rx
   obtain⟨h1,h2⟩:=ha ds xs its hf.2 ix r
   refine SeqAt.notIn_listAt ef pl.isList (fun w hw=>h1 w (by simpa using hw)) ⟨.bl _,H,I,rfl,?_⟩
   rw[show its.toArray.any ef=its.any ef by simp,h2]
   exact q.here R0 (mkBl _)
  ·cases e1
 |lst l=>
  simp only[M.inD]at e1
  obtain⟨ds,e2,e1⟩:=qzd e1
  split at e1
  ·rename_i hf
   cases e1
   rw[Qqy]at hf
   obtain⟨p,xs,_,rfl,hq,ix⟩:=R0.seq e2 i2
   cases ry
   obtain⟨its,r,pl,_⟩:=I.list hq
   obtain⟨ef,ha⟩:=qyl I X.A.in1 hu1 hf.1 i1 rx
   obtain⟨h1,h2⟩:=ha ds xs its hf.2 ix r
   refine SeqAt.notIn_listAt ef pl.isList (fun w hw=>h1 w (by simpa using hw)) ⟨.bl _,H,I,rfl,?_⟩
   rw[show its.toArray.any ef=its.any ef by simp,h2]
   exact q.here R0 (mkBl _)
  ·cases e1
 |str z=>
  simp only[M.inD]at e1
  cases a with
  |str y0=>
   obtain⟨c,e3,e4⟩:=mapD e1
   have hy:=qdg e3
   subst hy
   subst e4
   refine qa7 pins s σ H x y v u Q I rx ry ⟨_,_,i1.str,i2.str,?_⟩
   rw[PySem.StrLaws.found_one]
   exact q.here R0 (mkBl _)
  |_=>cases e1
 |_=>simp[M.inD,M.seqAt]at e1
theorem op_eqD(hu:X.A.units+64<cLine):OpR X (compareOp .Eq) (rD X.K fun st a b=>(M.eqD st a b).map fun k=>(.bl k,st)):=by
 intro pins s σ H x y v u Q I rx ry h
 refine h.el fun m st a b d st' R0 i1 i2 e q=>?_
 obtain⟨k,e1,e2⟩:=mapD e
 cases e2
 have e1:M.eqD st a b=some k:=e1
 unfold M.eqD at e1
 split at e1
 ·rename_i ds es g1 g2
  split at e1
  ·rename_i hf
   cases e1
   rw[Qqy]at hf
   obtain⟨p,xs,_,rfl,hq,ix⟩:=R0.seq g1 i1
   obtain⟨p',ys,_,rfl,hq',iy⟩:=R0.seq g2 i2
   cases rx
   cases ry
   obtain⟨its,r1,pl,_⟩:=I.list hq
   obtain⟨its2,r2,pl2,_⟩:=I.list hq'
   have l1:=ix.length
   have l2:=iy.length
   have l3:=r1.length
   have l4:=r2.length
   by_cases hsz:its.toArray.size=its2.toArray.size
   ·refine SeqAt.RcAt.lists (e:=pairE ds es) pl.isList pl2.isList hsz (by omega) (fun j h1 h2=>?_) _ _ _ _ ⟨.bl _,H,I,rfl,?_⟩
    ·rw[Qqx]at h1 h2
     have j1:j<ds.length:=by omega
     have j2:j<es.length:=by omega
     have g1:ds[j]?=some ds[j]:=by simp
     have g2:es[j]?=some es[j]:=by simp
     obtain⟨x1,k1,q1⟩:=ix.get g1
     obtain⟨x2,k2,q2⟩:=iy.get g2
     obtain⟨u1,w1,z1⟩:=r1.get k1
     obtain⟨u2,w2,z2⟩:=r2.get k2
     have this:=(qd4 I 9 X.A.in1 ds[j] es[j] x1 x2 u1 u2 (by have hz:X.A.in1.units=X.A.units+1:=rfl; omega) (qq4 hf.1 g1) (qq4 hf.2 g2) q1 q2 z1 z2).1
     have e1:its.toArray[j]=u1:=by
      have:its[j]?=some its[j]:=by simp
      rw[w1]at this
      simpa using (Option.some.inj this).symm
     have e2:its2.toArray[j]=u2:=by
      have:its2[j]?=some its2[j]:=by simp
      rw[w2]at this
      simpa using (Option.some.inj this).symm
     rw[e1,e2]
     have e3:pairE ds es j=M.eqT ds[j] es[j]:=by
      unfold pairE
      rw[g1,g2]
     rw[e3]
     exact this
    ·rw[Qqx,Qqx]at hsz
     have e5:(List.range its.toArray.size).all (pairE ds es)=M.eqTs ds es:=by
      rw[qbe (by omega),Qqx,← l3,← l1]
     rw[e5]
     exact q.here R0 (mkBl _)
   ·rw[Qqx,Qqx]at hsz
    have e5:M.eqTs ds es=false:=by
     rw[qqi]
     have:(ds.length==es.length)=false:=by simp; omega
     rw[this,Qz7]
    rw[e5]at q
    refine SeqAt.RcAt.lists_lengths pl.isList pl2.isList (by simpa using hsz) (by omega) _ _ _ _ ⟨.bl _,H,I,rfl,q.here R0 (mkBl _)⟩
  ·cases e1
 ·split at e1
  ·rename_i hf
   cases e1
   rw[Qqy]at hf
   exact(qd4 I 9 X.A a b x y v u (by omega) hf.1 hf.2 i1 i2 rx ry).2 _ _ _ _ ⟨.bl _,H,I,rfl,q.here R0 (mkBl _)⟩
  ·cases e1
theorem neAt_D{pins:List (Addr×Obj)}{σ:L2.St}{H:Hp}{s:Shared}{m:List Addr}(I:Inv X pins σ H s)(A:Around)(d e:D)(x y:V)(u v:Value)(hu:A.units+10<cLine)(f:M.flat 9 d=true)(fe:M.flat 9 e=true)(hx:IsD X.K m H d x)(hy:IsD X.K m H e y)(rx:RelV x u)(ry:RelV y v):
  SeqAt.RcNeAt A s u v (!M.eqT d e):=by
 have hu0:A.units<cLine:=by omega
 cases d with
 |loc _=>simp[M.flat]at f
 |lst _=>simp[M.flat]at f
 |non=>
  cases hx.non; cases rx
  cases e with
  |loc _=>simp[M.flat]at fe
  |lst _=>simp[M.flat]at fe
  |tup es=>obtain⟨b,ys,its2,rfl,hq2,iy,r2,p2⟩:=qzh I hy; cases ry; exact SeqAt.RcNeAt.none_tuple p2 hu0
  |non=>cases hy.non; cases ry; exact SeqAt.RcNeAt.none_none
  |bl b=>cases hy.bl; cases ry; exact SeqAt.RcNeAt.none_bool b
  |int b=>cases hy.int; obtain⟨t,rfl⟩:=ry; exact SeqAt.RcNeAt.none_int b t
  |str b=>cases hy.str; obtain⟨t,rfl⟩:=ry; exact SeqAt.RcNeAt.none_str b t
 |bl a=>
  cases hx.bl; cases rx
  cases e with
  |loc _=>simp[M.flat]at fe
  |lst _=>simp[M.flat]at fe
  |tup es=>obtain⟨b,ys,its2,rfl,hq2,iy,r2,p2⟩:=qzh I hy; cases ry; exact SeqAt.RcNeAt.bool_tuple a p2 hu0
  |non=>cases hy.non; cases ry; exact SeqAt.RcNeAt.bool_none a
  |bl b=>cases hy.bl; cases ry; exact SeqAt.RcNeAt.bool_bool a b
  |int b=>cases hy.int; obtain⟨t,rfl⟩:=ry; exact SeqAt.RcNeAt.bool_int a b t
  |str b=>cases hy.str; obtain⟨t,rfl⟩:=ry; exact SeqAt.RcNeAt.bool_str a b t
 |int a=>
  cases hx.int; obtain⟨t',rfl⟩:=rx
  cases e with
  |loc _=>simp[M.flat]at fe
  |lst _=>simp[M.flat]at fe
  |tup es=>obtain⟨b,ys,its2,rfl,hq2,iy,r2,p2⟩:=qzh I hy; cases ry; exact SeqAt.RcNeAt.int_tuple a t' p2 hu0
  |non=>cases hy.non; cases ry; exact SeqAt.RcNeAt.int_none a t'
  |bl b=>cases hy.bl; cases ry; exact SeqAt.RcNeAt.int_bool a t' b
  |int b=>cases hy.int; obtain⟨t,rfl⟩:=ry; exact SeqAt.RcNeAt.int_int a t' b t
  |str b=>cases hy.str; obtain⟨t,rfl⟩:=ry; exact SeqAt.RcNeAt.int_str a t' b t
 |str a=>
  cases hx.str; obtain⟨t',rfl⟩:=rx
  cases e with
  |loc _=>simp[M.flat]at fe
  |lst _=>simp[M.flat]at fe
  |tup es=>obtain⟨b,ys,its2,rfl,hq2,iy,r2,p2⟩:=qzh I hy; cases ry; exact SeqAt.RcNeAt.str_tuple a t' p2 hu0
  |non=>cases hy.non; cases ry; exact SeqAt.RcNeAt.str_none a t'
  |bl b=>cases hy.bl; cases ry; exact SeqAt.RcNeAt.str_bool a t' b
  |int b=>cases hy.int; obtain⟨t,rfl⟩:=ry; exact SeqAt.RcNeAt.str_int a t' b t
  |str b=>cases hy.str; obtain⟨t,rfl⟩:=ry; exact SeqAt.RcNeAt.str_str a t' b t
 |tup ds=>
  obtain⟨a,xs,its,rfl,hq,ix,r1,p1⟩:=qzh I hx
  cases rx
  cases e with
  |loc _=>simp[M.flat]at fe
  |lst _=>simp[M.flat]at fe
  |non=>cases hy.non; cases ry; exact SeqAt.RcNeAt.tuple_none p1 hu0
  |bl b=>cases hy.bl; cases ry; exact SeqAt.RcNeAt.tuple_bool b p1 hu0
  |int b=>cases hy.int; obtain⟨t,rfl⟩:=ry; exact SeqAt.RcNeAt.tuple_int b t p1 hu0
  |str b=>cases hy.str; obtain⟨t,rfl⟩:=ry; exact SeqAt.RcNeAt.tuple_str b t p1 hu0
  |tup es=>
   obtain⟨b,ys,its2,rfl,hq2,iy,r2,p2⟩:=qzh I hy
   cases ry
   have l1:=ix.length
   have l2:=iy.length
   have l3:=r1.length
   have l4:=r2.length
   simp only[M.flat]at f fe
   have he:∀ j (h1:j<its.toArray.size) (h2:j<its2.toArray.size),SeqAt.EqAt A.in1 s its.toArray[j] its2.toArray[j] (pairE ds es j):=fun j h1 h2=>qdo I A.in1 8 (by have hz:A.in1.units=A.units+1:=rfl; omega) f fe ix iy r1 r2 j h1 h2
   have:=SeqAt.RcNeAt.tuples p1 p2 hu0 he
   simp only[M.eqT]
   rw[qqi,l1,l2,l3,l4]
   simpa using this
theorem op_neD(hu:X.A.units+64<cLine):OpR X (compareOp .NotEq) (rD X.K fun st a b=>(M.neD st a b).map fun k=>(.bl k,st)):=by
 intro pins s σ H x y v u Q I rx ry h
 obtain⟨m,st,a,b,d,st',R0,i1,i2,e,q⟩:=h
 obtain⟨k0,e0,e2⟩:=mapD e
 cases e2
 obtain⟨k,e1,e3⟩:=mapD e0
 subst e3
 have e1:M.eqD st a b=some k:=e1
 unfold M.eqD at e1
 split at e1
 ·rename_i ds es g1 g2
  split at e1
  ·rename_i hf
   cases e1
   rw[Qqy]at hf
   obtain⟨p,xs,_,rfl,hq,ix⟩:=R0.seq g1 i1
   obtain⟨p',ys,_,rfl,hq',iy⟩:=R0.seq g2 i2
   cases rx
   cases ry
   obtain⟨its,r1,pl,_⟩:=I.list hq
   obtain⟨its2,r2,pl2,_⟩:=I.list hq'
   have l1:=ix.length
   have l2:=iy.length
   have l3:=r1.length
   have l4:=r2.length
   by_cases hsz:its.toArray.size=its2.toArray.size
   ·refine SeqAt.RcNeAt.lists (e:=pairE ds es) pl.isList pl2.isList hsz (by omega) (fun j h1 h2=>qdo I X.A.in1 9 (by have hz:X.A.in1.units=X.A.units+1:=rfl; omega) hf.1 hf.2 ix iy r1 r2 j h1 h2) _ _ _ _ ⟨.bl _,H,I,rfl,?_⟩
    rw[Qqx,Qqx]at hsz
    have e5:(List.range its.toArray.size).all (pairE ds es)=M.eqTs ds es:=by
     rw[qbe (by omega),Qqx,← l3,← l1]
    rw[e5]
    exact q.here R0 (mkBl _)
   ·rw[Qqx,Qqx]at hsz
    have e5:M.eqTs ds es=false:=by
     rw[qqi]
     have:(ds.length==es.length)=false:=by simp; omega
     rw[this,Qz7]
    rw[e5]at q
    refine SeqAt.RcNeAt.lists_lengths pl.isList pl2.isList (by simpa using hsz) (by omega) _ _ _ _ ⟨.bl _,H,I,rfl,q.here R0 (mkBl _)⟩
  ·cases e1
 ·split at e1
  ·rename_i hf
   cases e1
   rw[Qqy]at hf
   exact neAt_D I X.A a b x y v u (by omega) hf.1 hf.2 i1 i2 rx ry _ _ _ _ ⟨.bl _,H,I,rfl,q.here R0 (mkBl _)⟩
  ·cases e1
theorem qdr{K:Qqq}{m:List Addr}{H:Hp}{d:D}{x:V}(h:IsD K m H d x):decide (x=.non)=M.isNon d:=by
 cases d with
 |non=>rw[h.non]; rfl
 |bl b=>rw[h.bl]; rfl
 |int b=>rw[h.int]; rfl
 |str b=>rw[h.str]; rfl
 |tup ds=>obtain⟨a,xs,rfl,_⟩:=h.tup; rfl
 |loc l=>obtain⟨a,_,rfl⟩:=h.loc; rfl
 |lst l=>obtain⟨a,xs,rfl,_⟩:=h.lst; rfl
theorem qj1(hu:X.A.units+64<cLine)(op:CmpOp):OpR X (compareOp op) (rD X.K fun st a b=>(M.cmpD st op a b).map fun k=>(.bl k,st)):=by
 intro pins s σ H x y v u Q I rx ry h
 obtain⟨m,st,a,b,d,st',R0,i1,i2,e,q⟩:=h
 obtain⟨k,e1,e2⟩:=mapD e
 cases e2
 have e1:M.cmpD st op a b=some k:=e1
 unfold M.cmpD at e1
 split at e1
 ·cases e1
  exact op_lt pins s σ H x y v u Q I rx ry ⟨_,_,i1.int,i2.int,q.here R0 (mkBl _)⟩
 ·cases e1
  exact op_le pins s σ H x y v u Q I rx ry ⟨_,_,i1.int,i2.int,q.here R0 (mkBl _)⟩
 ·cases e1
  exact op_gt pins s σ H x y v u Q I rx ry ⟨_,_,i1.int,i2.int,q.here R0 (mkBl _)⟩
 ·cases e1
  exact op_ge pins s σ H x y v u Q I rx ry ⟨_,_,i1.int,i2.int,q.here R0 (mkBl _)⟩
 ·exact op_eqD hu pins s σ H x y v u Q I rx ry ⟨m,st,a,b,_,_,R0,i1,i2,by dsimp only; rw[e1]; rfl,q⟩
 ·exact op_neD hu pins s σ H x y v u Q I rx ry ⟨m,st,a,b,_,_,R0,i1,i2,by dsimp only; rw[e1]; rfl,q⟩
 ·cases e1
  refine op_isN pins s σ H x y v u Q I rx ry ⟨i2.non,?_⟩
  rw[qdr i1]
  exact q.here R0 (mkBl _)
 ·cases e1
  refine qn8 pins s σ H x y v u Q I rx ry ⟨i2.non,?_⟩
  rw[qdr i1]
  exact q.here R0 (mkBl _)
 ·exact op_inD hu pins s σ H x y v u Q I rx ry ⟨m,st,a,b,_,_,R0,i1,i2,by dsimp only; rw[e1]; rfl,q⟩
 ·exact qgl hu pins s σ H x y v u Q I rx ry ⟨m,st,a,b,_,_,R0,i1,i2,by dsimp only; rw[e1]; rfl,q⟩
 ·cases e1
theorem qm4{K:Qqq}{m:List Addr}{st:Store}{H:Hp}{d:D}{x:V}{k:Bool}(R0:Rel K m st H)(h:IsD K m H d x)(e:M.truth st d=some k):TruV K x H k:=by
 cases d with
 |non=>rw[h.non]; simp only[M.truth]at e; exact(Option.some.inj e).symm
 |bl b=>rw[h.bl]; simp only[M.truth]at e; exact(Option.some.inj e).symm
 |int b=>rw[h.int]; simp only[M.truth]at e; exact(Option.some.inj e).symm
 |str b=>
  rw[h.str]
  simp only[M.truth]at e
  split at e
  ·cases e
  ·have l3:=qz5
   exact⟨by omega,(Option.some.inj e).symm⟩
 |tup ds=>
  obtain⟨a,xs,rfl,hq,ix⟩:=h.tup
  simp only[M.truth]at e
  refine .inr (.inl ⟨xs,hq,?_⟩)
  have:=ix.length
  cases e
  cases ds<;>cases xs<;>simp_all
 |loc l=>
  simp only[M.truth]at e
  obtain⟨ds,e1,e2⟩:=mapD e
  obtain⟨a,xs,_,rfl,hq,ix⟩:=R0.seq e1 h
  refine .inl ⟨xs,hq,?_⟩
  have:=ix.length
  subst e2
  cases ds<;>cases xs<;>simp_all
 |lst l=>
  simp only[M.truth]at e
  obtain⟨ds,e1,e2⟩:=mapD e
  obtain⟨a,xs,_,rfl,hq,ix⟩:=R0.seq e1 h
  refine .inl ⟨xs,hq,?_⟩
  have:=ix.length
  subst e2
  cases ds<;>cases xs<;>simp_all
theorem qms{K:Qqq}{m:List Addr}{H:Hp}{ds:List D}{xs:List V}{i:Int}{d:D}(ix:IsDs K m H ds xs)(e:M.atI ds i=some d):∃ x,L2.atI xs i=some x∧IsD K m H d x:=by
 unfold M.atI at e
 obtain⟨j,e1,e2⟩:=qzd e
 obtain⟨x,e3,q⟩:=ix.get e2
 refine⟨x,?_,q⟩
 unfold L2.atI
 have e4:L2.ixN xs.length i=some j:=by rw[← ix.length]; exact e1
 rw[e4]
 exact e3
theorem ix_D:IxR X (rD X.K fun st a b=>(M.idxD st a b).map fun d=>(d,st)):=by
 intro value slice pins s σ H x y v u Q I rx ry h hs
 obtain⟨m,st,a,b,d,st',R0,i1,i2,e,q⟩:=h
 obtain⟨k,e1,e2⟩:=mapD e
 cases e2
 have e1:M.idxD st a b=some d:=e1
 unfold M.idxD at e1
 split at e1
 ·obtain⟨p,xs,rfl,hq,ix⟩:=i1.tup
  obtain⟨w,e3,iw⟩:=qms ix e1
  exact ix_tup value slice pins s σ H _ _ v u Q I rx ry ⟨p,xs,_,w,rfl,i2.int,hq,e3,q.here R0 iw⟩ hs
 ·split at e1
  ·cases e1
  ·obtain⟨c,e3,e4⟩:=mapD e1
   subst e4
   have l3:=qz5
   exact ix_str value slice pins s σ H _ _ v u Q I rx ry ⟨_,_,c,i1.str,i2.int,by omega,e3,q.here R0 (mkStr _)⟩ hs
 ·obtain⟨ds,e2,e1⟩:=qzd e1
  obtain⟨p,xs,_,rfl,hq,ix⟩:=R0.seq e2 i1
  obtain⟨w,e3,iw⟩:=qms ix e1
  exact qoo value slice pins s σ H _ _ v u Q I rx ry ⟨p,xs,_,w,rfl,i2.int,hq,e3,q.here R0 iw⟩ hs
 ·cases e1
def rSetD(K:Qqq):V→V→V→Hp→(Hp→Prop)→Prop:=fun o i v H Q=>∃ m st a b c st',Rel K m st H∧IsD K m H a o∧IsD K m H b i∧IsD K m H c v∧M.setIxD st a b c=some st'∧
 ∀ m' H',Sub m m'→Tr H H'→Rel K m' st' H'→Q H'
theorem set_D:PSet X (rSetD X.K):=by
 intro pins s σ H o i v ov iv u Q I ro ri rv h
 obtain⟨m,st,a,b,c,st',R0,i1,i2,i3,e,q⟩:=h
 unfold M.setIxD at e
 split at e
 ·obtain⟨ds,e1,e⟩:=qzd e
  obtain⟨j,e2,e3⟩:=mapD e
  subst e3
  obtain⟨p,xs,hm,rfl,hp,ix,hs⟩:=R0.wlist e1 i1
  refine set_list pins s σ H _ _ _ ov iv u Q I ro ri rv ⟨p,xs,_,j,rfl,i2.int,hp,by rw[← ix.length]; exact e2,?_⟩
  exact q m _ (Sub.refl m) (Tr.put hp) (R0.put hs hm hp (ix.set j i3))
 ·cases e
theorem qes:MtM X "list.append" (fun x xs H Q=>∃ m st a ds d st',Rel X.K m st H∧IsD X.K m H a x∧IsDs X.K m H ds xs∧M.mAppend st a ds=some (d,st')∧Post X.K m H d st' Q):=by
 intro pins s σ H x xs v us Q I rx rs h
 obtain⟨m,st,a,ds,d,st',R0,i1,i2,e,q⟩:=h
 unfold M.mAppend at e
 split at e
 ·obtain⟨ds0,e1,e⟩:=qzd e
  split at e
  ·rename_i hl
   cases e
   obtain⟨p,ys,hm,rfl,hp,ix,hs⟩:=R0.wlist e1 i1
   obtain⟨y,rfl,iy⟩:=i2.one
   have l1:=ix.length
   have l2:=qz5
   refine qgs pins s σ H _ _ v us Q I rx rs ⟨p,ys,y,rfl,rfl,hp,by omega,?_⟩
   exact q _ m _ (Sub.refl m) (Tr.put hp) (R0.put hs hm hp (ix.append (qzx iy qzm))) qce
  ·cases e
 ·cases e
def rSlD(K:Qqq):V→Option Int→Option Int→Hp→VK→Prop:=fun x lo hi H Q=>∃ m st a d st',Rel K m st H∧IsD K m H a x∧M.sliD st a lo hi=some (d,st')∧Post K m H d st' Q
theorem _root_.MS.IsDs.take{K:Qqq}{m:List Addr}{H:Hp}:∀ {ds:List D}{xs:List V}(n:Nat),IsDs K m H ds xs→IsDs K m H (ds.take n) (xs.take n)
 |_,_,0,_=>by simp only[List.take_zero]; exact qzm
 |[],_,n+1,h=>by rw[h.nil]; simp only[List.take_nil]; exact qzm
 |d::ds,_,n+1,h=>by
  obtain⟨x,r,rfl,q,t⟩:=h.cons
  simp only[List.take_succ_cons]
  exact qzx q (IsDs.take n t)
theorem _root_.MS.IsDs.drop{K:Qqq}{m:List Addr}{H:Hp}:∀ {ds:List D}{xs:List V}(n:Nat),IsDs K m H ds xs→IsDs K m H (ds.drop n) (xs.drop n)
 |_,_,0,h=>by simp only[Qja]; exact h
 |[],_,n+1,h=>by rw[h.nil]; simp only[List.drop_nil]; exact qzm
 |d::ds,_,n+1,h=>by
  obtain⟨x,r,rfl,q,t⟩:=h.cons
  simp only[List.drop_succ_cons]
  exact IsDs.drop n t
theorem qd7(n d:Nat)(o:Option Int):M.cutIx n d o=HT.sIx n d o:=by
 cases o<;>rfl
theorem qmn{K:Qqq}{m:List Addr}{H:Hp}{ds:List D}{xs:List V}(h:IsDs K m H ds xs)(lo hi:Option Int):IsDs K m H (M.cut ds lo hi) (cutV xs lo hi):=by
 unfold M.cut cutV
 rw[qd7,qd7,h.length]
 exact(h.drop _).take _
theorem sl_D:SlR X (rSlD X.K):=by
 intro pins s σ H x v vl vu lo hi sl Q I rx hs pl pu h
 obtain⟨m,st,a,d,st',R0,i1,e,q⟩:=h
 unfold M.sliD at e
 split at e
 ·cases e
  obtain⟨p,xs,rfl,hx,ix⟩:=i1.tup
  have ic:=qmn ix lo hi
  by_cases hw:HT.sIx xs.length 0 lo=0∧HT.sIx xs.length xs.length hi=xs.length
  ·cases rx
   obtain⟨its,r,ht,hz⟩:=I.tuple hx
   refine⟨"tuple",_,PyProof.Rows.slot_tuple_getitem.lookup,ht.typeIs,?_⟩
   have hlen:its.toArray.size=xs.length:=by rw[Qqx]; exact r.length.symm
   refine qxt ht hs pl pu (by rw[hlen]; exact hw) ?_
   refine⟨.ref p,H,I,rfl,q.here R0 (qzt hx ?_)⟩
   have e1:cutV xs lo hi=xs:=by
    unfold cutV
    rw[hw.1,hw.2]
    simp
   rw[e1]at ic
   exact ic
  ·refine sl_tup pins s σ H _ v vl vu lo hi sl Q I rx hs pl pu ⟨p,xs,rfl,hx,hw,fun p' hp=>?_⟩
   have sm:=qzy (o:=.tup (cutV xs lo hi)) hp
   exact q _ m _ (Sub.refl m) (Tr.of_same sm) (R0.same sm) (qzt (SqT.of qzc) (qzf (Sub.refl m) (Tr.of_same sm) _ _ ic))
 ·split at e
  ·cases e
  ·rename_i hz
   cases e
   have l2:=qz5
   exact qnw pins s σ H _ v vl vu lo hi sl Q I rx hs pl pu ⟨_,i1.str,by omega,q.here R0 (mkStr _)⟩
 ·obtain⟨ds,e1,e2⟩:=mapD e
  cases e2
  obtain⟨p,xs,_,rfl,hq,ix⟩:=R0.seq e1 i1
  refine qny pins s σ H _ v vl vu lo hi sl Q I rx hs pl pu ⟨p,xs,rfl,hq,fun l hl=>?_⟩
  exact q _ (m++[l]) _ (Sub.app m [l]) (Tr.of_same (qzy hl)) (R0.new hl (qmn ix lo hi)) R0.newLoc
theorem qiq:CallR X (.builtin "len") (rC X.K M.bLen):=by
 intro pins s σ H xs us Q I r h
 refine h.el fun m st ds d st' R0 ix e q=>?_
 unfold M.bLen at e
 split at e
 ·cases e
  obtain⟨x,rfl,i⟩:=ix.one
  obtain⟨p,ys,rfl,hq,iy⟩:=i.tup
  refine qka pins s σ H _ us Q I r ⟨p,ys,rfl,.inr hq,?_⟩
  rw[← iy.length]
  exact q.here R0 (mkInt _)
 ·split at e
  ·cases e
  ·cases e
   obtain⟨x,rfl,i⟩:=ix.one
   have l3:=qz5
   cases i.str
   exact qbs pins s σ H _ us Q I r ⟨_,rfl,by omega,q.here R0 (mkInt _)⟩
 ·obtain⟨ds',e1,e2⟩:=mapD e
  cases e2
  obtain⟨x,rfl,i⟩:=ix.one
  obtain⟨p,ys,_,rfl,hq,iy⟩:=R0.seq e1 i
  refine qka pins s σ H _ us Q I r ⟨p,ys,rfl,.inl hq,?_⟩
  rw[← iy.length]
  exact q.here R0 (mkInt _)
 ·cases e
theorem qh8(hc:X.calm=true):CallR X (.builtin "min") (rC X.K M.bMin):=by
 intro pins s σ H xs us Q I r h
 refine h.el fun m st ds d st' R0 ix e q=>?_
 unfold M.bMin at e
 split at e
 ·cases e
  obtain⟨x,y,rfl,i,j⟩:=ix.two
  cases i.int; cases j.int
  exact qh9 hc pins s σ H _ us Q I r ⟨_,_,rfl,q.here R0 (mkInt _)⟩
 ·cases e
theorem qc0:CallR X (.type "tuple") (rC X.K M.bTuple):=by
 intro pins s σ H xs us Q I r h
 refine h.el fun m st ds d st' R0 ix e q=>?_
 unfold M.bTuple at e
 split at e
 ·cases e
  obtain⟨x,rfl,i⟩:=ix.one
  obtain⟨p,ys,rfl,hq,iy⟩:=i.tup
  exact qjh pins s σ H _ us Q I r ⟨p,ys,rfl,.inr ⟨hq,q.here R0 (qzt hq iy)⟩⟩
 ·obtain⟨ds',e1,e2⟩:=mapD e
  cases e2
  obtain⟨x,rfl,i⟩:=ix.one
  obtain⟨p,ys,_,rfl,hq,iy⟩:=R0.seq e1 i
  refine qjh pins s σ H _ us Q I r ⟨p,ys,rfl,.inl ⟨hq,fun l hl=>?_⟩⟩
  have sm:=qzy (o:=.tup ys) hl
  exact q _ m _ (Sub.refl m) (Tr.of_same sm) (R0.same sm) (qzt (SqT.of qzc) (qzf (Sub.refl m) (Tr.of_same sm) _ _ iy))
 ·cases e
theorem qvg{P:Program}{w:World}:∀ {xs:List (Key×V)}{vs:List (Key×Value)}{L:List Value},KV xs vs→L.length=vs.length→(∀ (j:Nat) (v:Value),L[j]?=some v→∃ k x,vs[j]?=some (k,x)∧(mixKind P w).is k v=true)→Vals (xs.map fun p=>kV p.1) L
 |[],_,L,.nil,hl,_=>by
  rw[Qzk.mp hl]
  exact .nil
 |(k,x)::xs,(k',u)::vs,[],.cons _ _,hl,_=>by cases hl
 |(k,x)::xs,(k',u)::vs,v::L,.cons h r,hl,hv=>by
  obtain⟨k2,x2,e,hk⟩:=hv 0 v rfl
  cases e
  have hk':k=k':=h.1
  subst hk'
  refine .cons ?_ (qvg (P:=P) (w:=w) r (by simpa using hl) fun j v' e=>?_)
  ·rcases qzg hk with⟨i,t,rfl,rfl⟩|⟨z,t,rfl,rfl⟩
   ·exact⟨t,rfl⟩
   ·exact⟨t,rfl⟩
  ·obtain⟨k3,x3,e3,h3⟩:=hv (j+1) v' (by simpa using e)
   exact⟨k3,x3,by simpa using e3,h3⟩
theorem IsKV.keys{K:Qqq}{m:List Addr}{H:Hp}:∀ {kvs:List (D×D)}{xs:List (Key×V)},IsKV K m H kvs xs→IsDs K m H (M.keysOf kvs) (xs.map fun p=>kV p.1)
 |[],_,h=>by rw[show _=[] from h]; exact qzm
 |p::r,_,⟨k,v,xr,e,hk,hv,hr⟩=>by
  subst e
  refine qzx ?_ hr.keys
  obtain⟨d,e⟩:=p
  cases d with
  |int i=>cases hk; exact mkInt i
  |str z=>cases hk; exact mkStr z
  |_=>cases hk
theorem Rel.dkeys{K:Qqq}{m:List Addr}{st:Store}{H:Hp}(h:Rel K m st H){d:D}{ds:List D}{v:V}(e:M.dkeys st d=some ds)(hv:IsD K m H d v):∃ a xs,v=.ref a∧Rd H a (.dK xs)∧IsDs K m H ds (xs.map fun p=>kV p.1):=by
 cases d with
 |loc l=>
  obtain⟨kvs,e1,rfl⟩:=mapD e
  obtain⟨a,xs,_,rfl,hr,hk⟩:=h.dict e1 hv
  exact⟨a,xs,rfl,hr,hk.keys⟩
 |_=>cases e
theorem qhp{pins:List (Addr×Obj)}{σ:L2.St}{H:Hp}{s:Shared}{a:Addr}{xs:List (Key×V)}(I:Inv X pins σ H s)(e:Rd H a (.dK xs)):∃ vs ep,KV xs vs∧s.heap.DictAt (mixKind X.prog X.w) a vs ep∧(a==sysModules)=false∧vs.length≤sizeLine:=by
 obtain⟨hz,lo,vs,kv,o,es,ep,r⟩:=qcm I.hok e
 exact⟨vs,ep,kv,⟨o,es,r⟩,lo,by rw[← kv.length]; exact hz⟩
theorem qw2(hh:X.A.handled=none):CallR X (.type "list") (fun xs H Q=>∃ p ys,xs=[.ref p]∧Rd H p (.dK ys)∧∀ l,H l=none→Q (.ref l) (upd H l (.lst (ys.map fun q=>kV q.1)))):=by
 intro pins s σ H xs us Q I r h
 obtain⟨p,ys,rfl,hq,q⟩:=h
 obtain⟨u,rfl,rx⟩:=vals1 r
 cases rx
 obtain⟨vs,ep,kv,da,lo,hn⟩:=qhp I hq
 refine PySem.W.kdl_call (PySem.W.kdl_dict lo) hh da hn fun h' tk acc c hk hS hI=>?_
 have r2:=qvg (P:=X.prog) (w:=X.w) (L:=acc.toList) kv (by rw[Qzy]; exact hI.1) fun j v e=>hI.2 j v (by rw[← Qql]; exact e)
 refine⟨.ref s.heap.objs.size,_,I.laid (t':=tk) hk (Qqj _) (show ObjOk X.prog X.w _ h' _ (.lst (ys.map fun q=>kV q.1)) from⟨?_,acc.toList,c,r2,hS⟩),rfl,q _ (I.hok.fresh (Qqj _))⟩
 rw[Qqk,kv.length]; exact hn
theorem qcp{T:String}{r d:Addr}{n:Nat}{P:Nat→Value→Prop}{OK:Heap→Prop}{A:Around}{E:Value→Shared→Prop}{s:Shared}{R:List Value→Shared→Prop}(K:PySem.W.KdlSrc X.prog X.w T r d n P OK)(hh:A.handled=none)(hok:OK s.heap)(hn:n≤sizeLine)
  (h:∀ (h1:Heap) (k:Nat) (vs:Array Value),(∀ b o,s.heap.get? b=some o→h1.get? b=some o)→s.heap.objs.size<h1.objs.size→ItemsOf P vs n→R vs.toList { s with heap:=h1,toks:=k }):wpAny (model X.prog X.w) A (collect (.ref r)) R E s:=by
 have lt:=K.there _ hok
 let g:=s.heap.objs.size
 let h0:=s.heap.push { cls:=.type "list",data:=.seq ([]:List Value).toArray }
 have hg:h0.get? g=some { cls:=.type "list",data:=.seq #[] }:=Qqw _ rfl
 have ext:=PySem.W.kdl_extend (A:=A) (s:={ s with heap:=h0 }) (R:=fun q s1=>∃ (h1:Heap) (k:Nat) (vs:Array Value) (c:Nat),q=.ok (.ret (.ref g))∧s1={ s with heap:=h1,toks:=k }∧(∀ b o,s.heap.get? b=some o→h1.get? b=some o)∧h1.get? g=some { cls:=.type "list",dict:=none,data:=.seq vs c,slots:=#[] }∧ItemsOf P vs n)
  K hh (K.keep _ _ hok fun b _ o e=>Qqz _ e) g (Qxx lt.1) (Qxx lt.2) (.ref g) 0 hg
  (fun h1 k vs c q1 q2 q3=>⟨h1,k,vs,c,rfl,rfl,fun b o e=>q1 b o (Qqo (Qqv e)) (Qqz _ e),q2,q3⟩) hn
 unfold collect
 apply wpAny_bind
 apply wpAny_runValue
 apply codeAny_builtin entry_proto_collect'
 rw[Around.under_plainId PySem.F.plain_proto_collect _]
 show wpAny _ A.in1 (newList [] >>= fun y=>again (.builtin "list.__iadd__" ⟨[y,.ref r],[]⟩)) _ _ s
 apply wpAny_bind
 refine wpAny_newObj_type (wpAny_pure ⟨plainId_quiet PySem.F.plain_list_iadd _,?_⟩)
 apply codeAny_builtin entry_list_iadd'
 rw[Around.under_plainId PySem.F.plain_list_iadd _]
 refine wpAny_mono (show wpAny _ A.in1 (Builtin.List.listExtendWith (.ref g) (.ref r) (.ref g)) _ _ _ from ext) (fun fi s1 x=>?_) fun e s1 x=>?_
 ·cases fi with
  |done f=>
   rcases x with⟨h1,k,vs,c,e,rfl,q1,q2,q3⟩
   cases e
   show wpAny _ A (load g >>= _) _ _ _
   apply wpAny_bind
   apply wpAny_load q2
   exact wpAny_pure (h h1 k vs q1 (Qqv q2) q3)
  |again c=>
   rcases x with⟨x1,x2⟩
   refine⟨x1,codeAny_mono x2 fun res s2 y=>?_⟩
   rcases y with⟨h1,k,vs,c,rfl,rfl,q1,q2,q3⟩
   show wpAny _ A (load g >>= _) _ _ _
   apply wpAny_bind
   apply wpAny_load q2
   exact wpAny_pure (h h1 k vs q1 (Qqv q2) q3)
 ·rcases x with⟨_,_,_,_,e,_⟩
  cases e
theorem qeb{T:String}{r d:Addr}{n:Nat}{P:Nat→Value→Prop}{OK:Heap→Prop}{A:Around}{E:Value→Shared→Prop}{s:Shared}{Q:Value→Shared→Prop}{ns:List Int}(K:PySem.W.KdlSrc X.prog X.w T r d n P OK)(hh:A.handled=none)(hok:OK s.heap)(hn:n<64)(hP:∀ vs:List Value,vs.length=n→(∀ (j:Nat) (v:Value),vs[j]?=some v→P j v)→IntsAre vs ns)
  (h:∀ (a:Addr) (h':Heap) (tk e:Nat) (out:Array Value) (ns':List Int),(∀ b o,s.heap.get? b=some o→h'.get? b=some o)→s.heap.objs.size≤a→h'.get? a=some (seqObj "list" out e)→IntsAre out.toList ns'→ns'.Perm ns→ns'.Pairwise (· ≤ ·)→Q (.ref a) { s with heap:=h',toks:=tk }) :
  wpAny (model X.prog X.w) A (call (.builtin "sorted") [.ref r]) Q E s:=by
 have h16:n≤sizeLine:=by rw[sizeLine_eq]; omega
 apply PySem.Calls.call_function_entry kind_sorted plain_sorted entry_sorted (args_sorted1 _)
 show wpAny _ _ (Builtin.«sorted» _) _ _ s
 unfold Builtin.«sorted»
 apply wpAny_bind (m:=checkCount "sorted" 1 1 _)
 apply wpAny_pure
 apply wpAny_bind
 apply qcp (A:=A.in1) K hh hok h16
 intro h1 tk acc hk hsz hI
 have hl:acc.toList.length=n:=by rw[Qzy]; exact hI.1
 have hi:=hP acc.toList hl fun j v e=>hI.2 j v (by rw[← Qql]; exact e)
 apply wpAny_bind
 refine wpAny_newList ?_ (by rw[hl]; exact h16)
 have ho:(h1.push (seqObj "list" acc.toList.toArray 0)).get? h1.objs.size=some (seqObj "list" acc.toList.toArray 0):=Qqw _ rfl
 apply wpAny_bind
 apply wpAny_holding
 refine wpAny_call_entry (s:={ s with heap:=h1.push (seqObj "list" acc.toList.toArray 0),toks:=tk }) slot_list_sort ⟨_,ho,rfl⟩ entry_list_sort (list_sort_tree ho hi (by omega) fun out ns' a1 a2 a3=>⟨_,rfl,?_⟩) (args_list_sort _)
 obtain⟨e,he⟩:=sortedHeap_at (out:=out) ho
 refine wpAny_pure ⟨_,rfl,h _ _ _ e out ns' (fun b o q=>?_) ?_ he a1 a2 a3⟩
 ·have hb:=Qqv (hk b o q)
  exact(sortedHeap_old (Qqo hb) (by rw[size_push']; exact Qxy hb)).trans (Qqz _ (hk b o q))
 ·exact Qxf hsz
theorem qff(hh:X.A.handled=none):CallR X (.type "list") (rC X.K M.bList):=by
 intro pins s σ H xs us Q I r h
 refine h.el fun m st ds d st' R0 ix e q=>?_
 unfold M.bList at e
 split at e
 ·cases e
  obtain⟨x,rfl,i⟩:=ix.one
  obtain⟨p,ys,rfl,hq,iy⟩:=i.tup
  refine qky pins s σ H _ us Q I r ⟨p,ys,rfl,.inr hq,fun l hl=>?_⟩
  exact q _ (m++[l]) _ (Sub.app m [l]) (Tr.of_same (qzy hl)) (R0.new hl iy) R0.newLoc
 ·obtain⟨ds',e1,e2⟩:=mapD e
  cases e2
  obtain⟨x,rfl,i⟩:=ix.one
  rcases orO e1 with e1|e1
  ·obtain⟨p,ys,_,rfl,hq,iy⟩:=R0.seq e1 i
   refine qky pins s σ H _ us Q I r ⟨p,ys,rfl,.inl hq,fun l hl=>?_⟩
   exact q _ (m++[l]) _ (Sub.app m [l]) (Tr.of_same (qzy hl)) (R0.new hl iy) R0.newLoc
  ·obtain⟨p,ys,rfl,hq,iy⟩:=R0.dkeys e1 i
   refine qw2 hh pins s σ H _ us Q I r ⟨p,ys,rfl,hq,fun l hl=>?_⟩
   exact q _ (m++[l]) _ (Sub.app m [l]) (Tr.of_same (qzy hl)) (R0.new hl iy) R0.newLoc
 ·cases e
theorem qah{K:Qqq}{m:List Addr}{H:Hp}:∀ {ds:List D}{xs:List V}{its:List Value}{bs:List Bool},M.asBools ds=some bs→IsDs K m H ds xs→Vals xs its→LSm.BoolsAre its bs
 |[],_,_,_,e,ix,r=>by
  rw[ix.nil]at r
  cases r
  cases e
  exact .nil
 |d::ds,_,_,_,e,ix,r=>by
  obtain⟨x,xr,rfl,q,t⟩:=ix.cons
  cases d with
  |bl b=>
   simp only[M.asBools]at e
   obtain⟨bs',e1,e2⟩:=mapD e
   subst e2
   cases q.bl
   cases r with
   |cons r1 r2=>
    cases r1
    exact .cons b (qah e1 t r2)
  |_=>simp[M.asBools]at e
theorem ints_of{K:Qqq}{m:List Addr}{H:Hp}:∀ {ds:List D}{xs:List V}{ns:List Int},M.asInts ds=some ns→IsDs K m H ds xs→xs=ns.map V.int∧ds=ns.map D.int
 |[],_,_,e,ix=>by
  cases e
  exact⟨ix.nil,rfl⟩
 |d::ds,_,_,e,ix=>by
  obtain⟨x,xr,rfl,q,t⟩:=ix.cons
  cases d with
  |int b=>
   simp only[M.asInts]at e
   obtain⟨bs',e1,e2⟩:=mapD e
   subst e2
   cases q.int
   obtain⟨h1,h2⟩:=ints_of e1 t
   rw[h1,h2]
   exact⟨rfl,rfl⟩
  |_=>simp[M.asInts]at e
theorem qiw(hc:X.calm=true):CallR X (.builtin "all") (rC X.K M.bAll):=by
 intro pins s σ H xs us Q I r h
 refine h.el fun m st ds d st' R0 ix e q=>?_
 unfold M.bAll at e
 split at e
 ·obtain⟨ds',e1,e⟩:=qzd e
  obtain⟨bs,e2,e3⟩:=mapD e
  cases e3
  obtain⟨x,rfl,i⟩:=ix.one
  obtain⟨p,ys,_,rfl,hq,iy⟩:=R0.seq e1 i
  obtain⟨u,rfl,ru⟩:=vals1 r
  cases ru
  obtain⟨its,rv,pl,_⟩:=I.list hq
  have hb:=qah e2 iy rv
  have hl:=pl.isList
  have hlt:p<s.heap.objs.size:=by obtain⟨_,e,_⟩:=id hl; exact Qqv e
  refine call_all_walk (wpAny_pyIter_list hl ?_)
  refine⟨s.heap.objs.size,[s.heap.objs.size,p],[s.heap.objs.size],its.toArray.size,_,_,fun i=>(bs[i]?).getD true,rfl,Walks.list (A:=X.A.in1) (I.ok.hd hc) _ p (Qqo hlt) its.toArray,
   ⟨⟨_,Qqw _ rfl,rfl,rfl⟩,hl.push _⟩,fun i v s' Q' E' hP hQ=>?_,fun h' tk hk=>?_⟩
  ·obtain⟨b,e,rfl⟩:=hb.get i v (by simpa using hP)
   simp only[e,Option.getD_some]at hQ
   exact wpAny_truthy_bool hQ
  ·have e:((List.range its.toArray.size).all fun i=>(bs[i]?).getD true)=bs.all id:=by
    rw[Qqx,hb.length]; exact LSm.range_all bs
   rw[e]
   exact⟨.bl _,H,I.kept (LSm.kept_iter hk),rfl,q.here R0 (mkBl _)⟩
 ·cases e
theorem range_any(bs:List Bool):((List.range bs.length).any fun i=>(bs[i]?).getD false)=bs.any id:=by
 rw[Bool.eq_iff_iff,List.any_eq_true,List.any_eq_true]
 constructor
 ·rintro⟨i,hi,h⟩
  have hi:=Qzl.mp hi
  rw[Qqg hi]at h
  exact⟨bs[i],Qx4 hi,h⟩
 ·rintro⟨b,hb,h⟩
  obtain⟨i,hi,rfl⟩:=Qzc hb
  exact⟨i,Qzl.mpr hi,by rw[Qqg hi]; exact h⟩
theorem qiv(hc:X.calm=true):CallR X (.builtin "any") (rC X.K M.bAny):=by
 intro pins s σ H xs us Q I r h
 refine h.el fun m st ds d st' R0 ix e q=>?_
 unfold M.bAny at e
 split at e
 ·obtain⟨ds',e1,e⟩:=qzd e
  obtain⟨bs,e2,e3⟩:=mapD e
  cases e3
  obtain⟨x,rfl,i⟩:=ix.one
  obtain⟨p,ys,_,rfl,hq,iy⟩:=R0.seq e1 i
  obtain⟨u,rfl,ru⟩:=vals1 r
  cases ru
  obtain⟨its,rv,pl,_⟩:=I.list hq
  have hb:=qah e2 iy rv
  have hl:=pl.isList
  have hlt:p<s.heap.objs.size:=by obtain⟨_,e,_⟩:=id hl; exact Qqv e
  refine call_any_walk (wpAny_pyIter_list hl ?_)
  refine⟨s.heap.objs.size,[s.heap.objs.size,p],[s.heap.objs.size],its.toArray.size,_,_,fun i=>(bs[i]?).getD false,rfl,Walks.list (A:=X.A.in1) (I.ok.hd hc) _ p (Qqo hlt) its.toArray,
   ⟨⟨_,Qqw _ rfl,rfl,rfl⟩,hl.push _⟩,fun i v s' Q' E' hP hQ=>?_,fun h' tk hk=>?_⟩
  ·obtain⟨b,e,rfl⟩:=hb.get i v (by simpa using hP)
   simp only[e,Option.getD_some]at hQ
   exact wpAny_truthy_bool hQ
  ·have e:((List.range its.toArray.size).any fun i=>(bs[i]?).getD false)=bs.any id:=by
    rw[Qqx,hb.length]; exact range_any bs
   rw[e]
   exact⟨.bl _,H,I.kept (LSm.kept_iter hk),rfl,q.here R0 (mkBl _)⟩
 ·cases e
theorem qxs(x:Int):∀ l:List Int,(M.insInt x l).Perm (x::l)
 |[]=>.refl _
 |y::r=>by
  unfold M.insInt
  split
  ·exact .refl _
  ·exact((qxs x r).cons y).trans (.swap x y r)
theorem qz4:∀ l:List Int,(M.sortInt l).Perm l
 |[]=>.refl _
 |x::r=>by
  unfold M.sortInt
  exact(qxs x _).trans ((qz4 r).cons x)
theorem qjq(x:Int):∀ l:List Int,l.Pairwise (· ≤ ·)→(M.insInt x l).Pairwise (· ≤ ·)
 |[],_=>by unfold M.insInt; simp
 |y::r,h=>by
  unfold M.insInt
  split
  ·rename_i hx
   refine List.Pairwise.cons (fun z hz=>?_) h
   rcases Qqh.mp hz with e|e
   ·rw[e]; exact hx
   ·exact Int.le_trans hx ((Qxo.mp h).1 z e)
  ·rename_i hx
   have h':=Qxo.mp h
   refine List.Pairwise.cons (fun z hz=>?_) (qjq x r h'.2)
   rcases Qqh.mp ((qxs x r).mem_iff.mp hz) with e|e
   ·rw[e]; omega
   ·exact h'.1 z e
theorem qqb:∀ l:List Int,(M.sortInt l).Pairwise (· ≤ ·)
 |[]=>by unfold M.sortInt; simp
 |x::r=>by
  unfold M.sortInt
  exact qjq x _ (qqb r)
theorem qjz{K:Qqq}{m:List Addr}{H:Hp}:∀ (ns:List Int),IsDs K m H (ns.map D.int) (ns.map V.int)
 |[]=>qzm
 |n::r=>qzx (mkInt n) (qjz r)
theorem qbr(hh:X.A.handled=none):CallR X (.builtin "sorted") (rC X.K M.bSorted):=by
 intro pins s σ H xs us Q I r h
 refine h.el fun m st ds d st' R0 ix e q=>?_
 unfold M.bSorted at e
 split at e
 ·obtain⟨ds',e1,e⟩:=qzd e
  obtain⟨ns,e2,e3⟩:=mapD e
  cases e3
  split at e2
  ·cases e2
  ·rename_i h64
   obtain⟨x,rfl,i⟩:=ix.one
   rcases orO e1 with e1|e1
   case inr=>
    obtain⟨p,ys,rfl,hq,iy⟩:=R0.dkeys e1 i
    obtain⟨u,rfl,ru⟩:=vals1 r
    cases ru
    obtain⟨vs,ep,kv,da,lo,hn⟩:=qhp I hq
    obtain⟨e4,e5⟩:=ints_of e2 iy
    have l1:=iy.length
    rw[Qqk]at l1
    have l5:=kv.length
    refine qeb (ns:=ns) (PySem.W.kdl_dict lo) hh da (by omega) (fun L hl hv=>?_) fun a h1 tk c out ns' hk ha he a1 a2 a3=>?_
    ·have r2:=qvg (P:=X.prog) (w:=X.w) kv hl hv
     rw[e4]at r2
     exact intsAre_of r2
    ·have e6:ns'=M.sortInt ns:=PySem.W.ksm_same (a2.trans (qz4 ns).symm) a3 (qqb ns)
     subst e6
     have l3:=(qz4 ns).length_eq
     have l4:=qz5
     have l6:ns.length=ds'.length:=by
      have:=congrArg List.length e5
      rw[Qqk]at this
      exact this.symm
     have fr:H a=none:=I.hok.fresh ha
     refine⟨.ref a,upd H a (.lst ((M.sortInt ns).map V.int)),I.laid (t':=tk) hk ha ⟨?_,out.toList,c,qx0 a1,?_⟩,rfl,?_⟩
     ·rw[Qqk,l3,l4]
      unfold M.lim
      omega
     ·rw[he]
     ·exact q _ (m++[_]) _ (Sub.app m _) (Tr.of_same (qzy fr)) (R0.new fr (qjz _)) R0.newLoc
   obtain⟨p,ys,_,rfl,hq,iy⟩:=R0.seq e1 i
   obtain⟨u,rfl,ru⟩:=vals1 r
   cases ru
   obtain⟨its,rv,pl,_⟩:=I.list hq
   obtain⟨e4,e5⟩:=ints_of e2 iy
   have l1:=iy.length
   have l2:=rv.length
   subst e4
   have hI:IntsAre its ns:=intsAre_of rv
   refine sorted_ints pl.isList hI (by omega) fun out ns' a1 a2 a3=>?_
   have e6:ns'=M.sortInt ns:=PySem.W.ksm_same (a2.trans (qz4 ns).symm) a3 (qqb ns)
   subst e6
   obtain⟨ep,he⟩:=sortedAll_at s.heap its out
   have fr:H (s.heap.objs.size+1)=none:=I.hok.fresh (Qjk _)
   have l3:=(qz4 ns).length_eq
   have l4:=qz5
   rw[Qqk]at l1
   refine⟨.ref (s.heap.objs.size+1),upd H (s.heap.objs.size+1) (.lst ((M.sortInt ns).map V.int)),I.laid (t':=s.toks) (fun b o e=>sortedAll_old e) (Qjk _) ?_,rfl,?_⟩
   ·refine⟨?_,out.toList,ep,qx0 a1,?_⟩
    ·rw[Qqk,l3,l4]
     unfold M.lim
     omega
    ·rw[he]
   ·exact q _ (m++[_]) _ (Sub.app m _) (Tr.of_same (qzy fr)) (R0.new fr (qjz _)) R0.newLoc
 ·cases e
theorem qg5(K:Qqq)(n t:M.Ty)(ht:t≠.non):PySem.W.kitOne K (.type n.name) (.type t.name)=some (M.tyIs t n):=by
 cases n<;>cases t<;>first
  |exact absurd rfl ht
  |rfl
  |decide +kernel
theorem qg6(K:Qqq)(n:M.Ty):∀ ts:List M.Ty,(∀ t∈ts,t≠.non)→PySem.W.kitAny K (.type n.name) (ts.map fun t=>Value.type t.name)=some (ts.any fun t=>M.tyIs t n)
 |[],_=>rfl
 |t::ts,h=>by
  rw[Qq3,Qq7]
  unfold PySem.W.kitAny
  rw[qg5 K n t (h t Qq4)]
  cases M.tyIs t n with
  |true=>rfl
  |false=>exact qg6 K n ts fun t' ht=>h t' (Qqr _ ht)
theorem qmc{pins:List (Addr×Obj)}{σ:L2.St}{H:Hp}{s:Shared}{m:List Addr}{st:Store}{d:D}{x:V}{u:Value}{n:M.Ty}(I:Inv X pins σ H s)(R0:Rel X.K m st H)(h:IsD X.K m H d x)(r:RelV x u)(e:M.tyName st d=some n):
  ∃ Hf:Heap→Prop,PySem.W.KitX X.K u (.type n.name) Hf∧Hf s.heap∧u≠.builtin "__main__.__loader__#opaque":=by
 cases d with
 |non=>cases h.non; cases r; cases e; exact⟨_,PySem.W.kitx_none,True.intro,fun z=>nomatch z⟩
 |bl b=>cases h.bl; cases r; cases e; exact⟨_,PySem.W.kitx_bool,True.intro,fun z=>nomatch z⟩
 |int b=>cases h.int; obtain⟨t,rfl⟩:=r; cases e; exact⟨_,PySem.W.kitx_int,True.intro,fun z=>nomatch z⟩
 |str b=>cases h.str; obtain⟨t,rfl⟩:=r; cases e; exact⟨_,PySem.W.kitx_str,True.intro,fun z=>nomatch z⟩
 |tup ds=>
  obtain⟨a,xs,its,rfl,hq,ix,r1,p1⟩:=qzh I h
  cases r
  cases e
  obtain⟨o,h1,h2,_⟩:=p1
  exact⟨_,PySem.W.kitx_tuple,⟨o,h1,h2⟩,fun z=>nomatch z⟩
 |loc l=>
  simp only[M.tyName]at e
  obtain⟨ds,e1,e2⟩:=mapD e
  subst e2
  obtain⟨a,xs,_,rfl,hq,ix⟩:=R0.seq e1 h
  cases r
  obtain⟨its,rv,pl,_⟩:=I.list hq
  obtain⟨o,h1,h2,_⟩:=pl.isList
  exact⟨_,PySem.W.kitx_list,⟨o,h1,h2⟩,fun z=>nomatch z⟩
 |lst l=>
  simp only[M.tyName]at e
  obtain⟨ds,e1,e2⟩:=mapD e
  subst e2
  obtain⟨a,xs,_,rfl,hq,ix⟩:=R0.seq e1 h
  cases r
  obtain⟨its,rv,pl,_⟩:=I.list hq
  obtain⟨o,h1,h2,_⟩:=pl.isList
  exact⟨_,PySem.W.kitx_list,⟨o,h1,h2⟩,fun z=>nomatch z⟩
def rIsi1(K:Qqq)(t:M.Ty):List V→Hp→VK→Prop:=fun xs H Q=>∃ m st d n x,xs=[x,.ty t.name]∧Rel K m st H∧IsD K m H d x∧M.tyName st d=some n∧Q (.bl (M.tyIs t n)) H
theorem qij(t:M.Ty)(ht:t≠.non):CallR X (.builtin "isinstance") (rIsi1 X.K t):=by
 intro pins s σ H xs us Q I r h
 obtain⟨m,st,d,n,x,rfl,R0,i,e,q⟩:=h
 obtain⟨u,w,rfl,ru,rw'⟩:=vals2 r
 cases rw'
 obtain⟨Hf,Z,p,hx⟩:=qmc I R0 i ru e
 exact PySem.W.kia_one Z I.kIn p (qg5 X.K n t ht) hx fun tk=>⟨.bl _,H,I.tok tk,rfl,q⟩
def rIsiN(K:Qqq)(ts:List M.Ty):List V→Hp→VK→Prop:=fun xs H Q=>∃ m st d n x p,xs=[x,.ref p]∧H p=some (.tup (ts.map fun t=>V.ty t.name))∧Rel K m st H∧IsD K m H d x∧M.tyName st d=some n∧Q (.bl (ts.any fun t=>M.tyIs t n)) H
theorem qc4:∀ {ts:List M.Ty}{us:List Value},Vals (ts.map fun t=>V.ty t.name) us→us=ts.map fun t=>Value.type t.name
 |[],_,.nil=>rfl
 |t::ts,_,.cons r q=>by
  cases r
  rw[qc4 q]
  rfl
theorem qix(ts:List M.Ty)(ht:∀ t∈ts,t≠.non):CallR X (.builtin "isinstance") (rIsiN X.K ts):=by
 intro pins s σ H xs us Q I r h
 obtain⟨m,st,d,n,x,p,rfl,hp,R0,i,e,q⟩:=h
 obtain⟨u,w,rfl,ru,rw'⟩:=vals2 r
 cases rw'
 obtain⟨Hf,Z,pz,hx⟩:=qmc I R0 i ru e
 obtain⟨_,its,rv,⟨cls,dd,data,sl⟩,h1,h2,nn,h3⟩:=I.hok p _ hp
 have e1:=qc4 rv
 subst e1
 simp only at h2 h3
 subst h2 h3
 exact PySem.W.kia_tup Z I.kIn pz h1 (qg6 X.K n ts ht) hx fun tk=>⟨.bl _,H,I.tok tk,rfl,q⟩
end
end MS
end
section
namespace MS
open PySem PySem.Spec PyProof.Rows L2
noncomputable def qje(cells:List (Str×Addr)):List (Str×NameKind)→List (Str×Addr)→List (Str×Addr)
 |[],acc=>acc
 |(n,k)::r,acc=>qje cells r (if k==.free then(match cells.lookup n with|some a=>(n,a)::acc|none=>acc) else acc)
theorem qh1{env:Env}:∀ (names:List (Str×NameKind)) (acc:List (Str×Addr)),(∀ x∈names,x.2=.free→∃ c,env.cells.lookup x.1=some c)→
  (forIn names acc fun x r=>match x,r with
   |(name,kind),cs=>if (kind==.free)=true then do let a ← cellOf env name; pure (ForInStep.yield ((name,a)::cs)) else pure (ForInStep.yield cs):Sem (List (Str×Addr)))=pure (qje env.cells names acc):=by
 intro names
 induction names with
 |nil=>intro acc _; rfl
 |cons x r ih=>
  intro acc h
  obtain⟨n,k⟩:=x
  rw[Qjj]
  have hr:=fun acc=>ih acc fun y hy=>h y (Qqr _ hy)
  by_cases hk:k=.free
  ·subst hk
   obtain⟨c,hc⟩:=h (n,.free) Qq4 rfl
   simp only[beq_self_eq_true,if_true,cellOf,hc]
   show(do let r_1 ← (do let a ← (pure c:Sem Addr); pure (ForInStep.yield ((n,a)::acc))); match r_1 with|.done b=>pure b|.yield b=>_)=_
   simp only[pure_bind]
   refine(hr ((n,c)::acc)).trans ?_
   have hc':env.cells.lookup n=some c:=hc
   simp[qje,hc']
  ·have hb:(k==NameKind.free)=false:=by simpa using hk
   simp only[hb,Qqc,if_false,pure_bind]
   refine(hr acc).trans ?_
   simp[qje,hb]
theorem qaw{scope:Scope}{env:Env}(h:∀ x∈scope.names,x.2=.free→∃ c,env.cells.lookup x.1=some c):closureFor scope env=pure (qje env.cells scope.names []):=by
 unfold closureFor
 have:=qh1 (env:=env) scope.names [] h
 simp only[this]
 rfl
theorem qay{cells:List (Str×Addr)}{x:Str}{c:Addr}(hc:cells.lookup x=some c):∀ (names:List (Str×NameKind)) (acc:List (Str×Addr)),((x,NameKind.free)∈names∨acc.lookup x=some c)→(qje cells names acc).lookup x=some c
 |[],acc,h=>by
  rcases h with h|h
  ·cases h
  ·exact h
 |(n,k)::r,acc,h=>by
  unfold qje
  refine qay hc r _ ?_
  by_cases hk:k=.free
  ·subst hk
   simp only[beq_self_eq_true,if_true]
   by_cases hn:n=x
   ·subst hn
    rw[hc]
    exact .inr (by simp)
   ·rcases h with h|h
    ·rcases Qqh.mp h with e|e
     ·cases e; exact absurd rfl hn
     ·exact .inl e
    ·refine .inr ?_
     split
     ·have:(x==n)=false:=by simpa using Ne.symm hn
      rw[Qq6,this]; exact h
     ·exact h
  ·have hb:(k==NameKind.free)=false:=by simpa using hk
   rw[hb,if_neg Qqi]
   rcases h with h|h
   ·rcases Qqh.mp h with e|e
    ·cases e; exact absurd rfl hk
    ·exact .inl e
   ·exact .inr h
theorem qqj{cells:List (Str×Addr)}:∀ (names:List (Str×NameKind)) (acc:List (Str×Addr)),(∀ x c,acc.lookup x=some c→cells.lookup x=some c)→∀ x c,(qje cells names acc).lookup x=some c→cells.lookup x=some c
 |[],acc,h,x,c,e=>h x c e
 |(n,k)::r,acc,h,x,c,e=>by
  unfold qje at e
  refine qqj r _ ?_ x c e
  intro y d q
  by_cases hk:(k==NameKind.free)=true
  ·rw[if_pos hk]at q
   split at q
   ·rename_i a ha
    by_cases hy:(y==n)=true
    ·rw[Qq6,hy]at q
     rw[eq_of_beq hy,ha]; exact q
    ·have:(y==n)=false:=by simpa using hy
     rw[Qq6,this]at q
     exact h y d q
   ·exact h y d q
  ·rw[if_neg hk]at q
   exact h y d q
theorem qqc(env:Env):∀ (names:List (Str×NameKind)) (x:Str),(names.map fun(n,k)=>if (k==NameKind.free&&env.scope.kind==.function&&env.kindOf n==some .cell) then(n,NameKind.cell) else(n,k)).lookup x =
  (names.lookup x).map fun k=>if (k==NameKind.free&&env.scope.kind==.function&&env.kindOf x==some .cell) then NameKind.cell else k
 |[],x=>rfl
 |(n,k)::r,x=>by
  have ih:=qqc env r x
  rw[Qq3]
  by_cases hx:(x==n)=true
  ·have e:=eq_of_beq hx
   subst e
   dsimp only
   split
   ·rename_i hc
    rw[Qq6,hx,Qq6,hx]
    dsimp only[oMs]
    rw[if_pos hc]
   ·rename_i hc
    rw[Qq6,hx,Qq6,hx]
    dsimp only[oMs]
    rw[if_neg hc]
  ·have hx':(x==n)=false:=by simpa using hx
   dsimp only
   split
   ·rw[Qq6,hx',Qq6,hx']; exact ih
   ·rw[Qq6,hx',Qq6,hx']; exact ih
section
variable {prog:Program}{w:World}{A:Around}{R:Result→Shared→Prop}{s:Shared}
abbrev NoX:Value→Shared→Prop:=fun _ _=>False
theorem qbl{elt target iter:Expr}{ifs:List Expr}{scope:Scope}{pos:Pos}{it acc:Value}{env:Env}{Ex:Value→Shared→Prop}(hEx:∀ e s',Ex e s'→notedBy (model prog w) A env (fun e s'=>R (.error e) s') e s')(I:Nat→Shared→Prop)
  (turn:∀ n s,I n s→wpAny (model prog w) A (pyNext it) (fun r s₁=>match r with
   |none=>R (.ok .next) s₁
   |some v=>wpAny (model prog w) A (letOwnedTupleGo target it v) (fun _ s₀=>wpAny (model prog w) A (assign target env v) (fun _ s₂=>
     wpAny (model prog w) A (forIn ifs true fun c r=>if r=true then do let ok ← isTrue c env (eval c env); pure (ForInStep.yield ok) else pure (ForInStep.yield r)) (fun ok s₃=>
      if ok=true then wpAny (model prog w) A (eval elt env) (fun x s₄=>wpAny (model prog w) A (call (.builtin "list.append") [acc,x]) (fun _ s₅=>∃ m,m<n∧I m s₅) Ex s₄) Ex s₃
      else ∃ m,m<n∧I m s₃) Ex s₂) Ex s₀) Ex s₁) Ex s)
  (n:Nat) (h:I n s):codeAny (model prog w) A (.compLoop (.ListComp elt [⟨target,iter,ifs,0⟩] scope pos) 0 it acc env) R s:=by
 refine codeAny_loop rfl I (fun n s hI=>?_) n h
 show wpAny _ A ((compTurn (.ListComp elt [⟨target,iter,ifs,0⟩] scope pos) 0 it acc env).onRaise (fun x=>do noteFrame x env; theTreesLotGoes x)) _ _ s
 refine wpAny_noted (wpAny_mono ?_ (fun _ _ q=>q) hEx)
 rw[compTurn_list]
 refine wpAny_bind (wpAny_standAt (wpAny_bind (wpAny_mono (turn n s hI) (fun r s₁ h₁=>?_) fun _ _ z=>z)))
 cases r with
 |none=>exact wpAny_pure h₁
 |some v=>
  refine wpAny_bind (wpAny_mono h₁ (fun _ s₀ h₀=>?_) fun _ _ z=>z)
  refine wpAny_bind (wpAny_mono h₀ (fun _ s₂ h₂=>wpAny_bind (wpAny_mono h₂ (fun ok s₃ h₃=>?_) fun _ _ z=>z)) fun _ _ z=>z)
  cases ok with
  |false=>exact wpAny_pure ⟨rfl,h₃⟩
  |true=>
   exact wpAny_bind (wpAny_bind (wpAny_mono h₃ (fun x s₄ h₄=>wpAny_bind (wpAny_mono h₄ (fun _ s₅ h₅=>wpAny_pure (wpAny_pure ⟨rfl,h₅⟩)) fun _ _ z=>z)) fun _ _ z=>z))
end
theorem HOk.track{P:Program}{w:World}{H:Hp}{h:Heap}{a:Addr}{o:HO}(x:HOk P w H h)(hn:H a=none)(new:ObjOk P w (upd H a o) h a o):HOk P w (upd H a o) h:=fun b u e=>by
 by_cases hb:b=a
 ·subst hb; rw[qzc]at e; cases e; exact new
 ·rw[qzj hb]at e
  exact(x b u e).stay (fun c v _ q=>q) (fun c q=>by rw[qzj (qzi q hn)]; exact q) fun c xs q=>by rw[qzj (qzi q hn)]; exact q
theorem Inv.track{X:Cx}{pins:List (Addr×Obj)}{σ:L2.St}{H:Hp}{s:Shared}{a:Addr}{o:HO}(I:Inv X pins σ H s)(hf:FpOk X pins H a)(new:ObjOk X.prog X.w (upd H a o) s.heap a o):Inv X pins σ (upd H a o) s:=by
 obtain⟨f0,f1,f2,f3,f4,f5⟩:=hf
 refine I.step (h':=s.heap) (g':=s.gens) (t':=s.toks) (d':=s.drawn) (ch:=[a]) (fun b hb=>?_) (fun b o _ _ _ e _=>e) (fun b o _ _ _ e _=>⟨o.slots,e⟩) (fun b o hb e n=>?_) (fun b o _ e=>⟨o,e⟩)
  (fun b xs e=>by rw[qzj (qzi e f0)]; exact e) (fun b o u e=>by rw[qzj (qzi e f0)]; exact e) (fun b ps e=>⟨#[],by rw[qzj (qzi e f0),e]; simp⟩) (fun m h=>h) (HOk.track I.hok f0 new) I.bare
 ·have e:b=a:=by simpa using hb
  subst e
  exact⟨f3,f1,f4,f5⟩
 ·rw[qzj (by simpa using hb)]; exact n
noncomputable def qzr(X:Cx)(N:List Str)(scope:Scope)(C:Addr)(fp:List Addr)(s:Shared)(H:Hp):Cx:=
 { X with N:=N,s₀:=s,H₀:=H,env:=compEnvC scope (qje X.env.cells scope.names []) C X.env,outer:=X.stack,ex:=fp,fn:=fun _=>false,pn:=[],xe:=fun _ _=>False }
noncomputable def qxc(src:List (Option Nat))(σ:L2.St):L2.St:=src.map fun o=>o.bind fun i=>(σ[i]?).bind id
structure CompScope (X:Cx) (N:List Str) (src:List (Option Nat)) (scope:Scope):Prop where
 kind:scope.kind=.function
 cell:∀ y∈scope.names,y.2≠.cell
 free:∀ y∈scope.names,y.2=.free→X.env.kindOf y.1=some .cell∨X.env.kindOf y.1=some .free
 loc:∀ y∈scope.names,y.2=.local→scope.names.lookup y.1=some .local
 len:src.length=N.length
 src:∀ (j i:Nat),src[j]?=some (some i)→∃ x,N[j]?=some x∧X.N[i]?=some x∧scope.names.lookup x=some .free
section
variable {X:Cx}{pins:List (Addr×Obj)}{σ:L2.St}{H:Hp}{s:Shared}
theorem mem_lookup{names:List (Str×NameKind)}{x:Str}{k:NameKind}(h:names.lookup x=some k):(x,k)∈names:=PySem.mem_of_lookup h
theorem qh0{N:List Str}{src:List (Option Nat)}{scope:Scope}(S:CompScope X N src scope)(I:Inv X pins σ H s):closureFor scope X.env=pure (qje X.env.cells scope.names []):=
 qaw fun x hx hk=>I.ok.has x.1 (S.free x hx hk)
theorem qo9{N:List Str}{src:List (Option Nat)}{scope:Scope}{C:Addr}{fp:List Addr}(S:CompScope X N src scope)(I:Inv X pins σ H s)(hC:s.heap.objs.size≤C)(hfp:∀ b∈fp,FpOk X pins H b)(hlt:∀ b∈fp,b<s.heap.objs.size):(qzr X N scope C fp s H).Ok where
 mod:=I.ok.mod
 kind:=S.kind
 glob:=I.ok.glob
 blt:=I.ok.blt
 above:=hC
 inj:=fun x y c h1 h2=>I.ok.inj x y c (qqj _ [] (fun _ _ z=>nomatch z) x c h1) (qqj _ [] (fun _ _ z=>nomatch z) y c h2)
 has:=fun x h=>by
  have e:(qzr X N scope C fp s H).env.kindOf x=(scope.names.lookup x).map fun k=>if (k==NameKind.free&&X.env.scope.kind==.function&&X.env.kindOf x==some .cell) then NameKind.cell else k:=qqc X.env scope.names x
  rw[e]at h
  cases q:scope.names.lookup x with
  |none=>rw[q]at h; rcases h with h|h<;>cases h
  |some k=>
   have hk:k=.free:=by
    rw[q]at h
    simp only[oMs,Option.some.injEq]at h
    by_cases hc:(k==NameKind.free&&X.env.scope.kind==.function&&X.env.kindOf x==some .cell)=true
    ·simp only[Qqy]at hc
     exact eq_of_beq hc.1.1
    ·rw[if_neg hc]at h
     rcases h with h|h
     ·subst h; exact absurd rfl (S.cell _ (mem_lookup q))
     ·exact h
   subst hk
   have hm:=mem_lookup q
   obtain⟨c,hc⟩:=I.ok.has x (S.free _ hm rfl)
   exact⟨c,qay hc _ _ (.inl hm)⟩
 cab:=fun x c h=>by cases h
 hd:=I.ok.hd
 frames:=I.ok.frames
 stk:=.inl rfl
 exf:=fun b hb=>⟨Qqo (Qqp (hlt b hb) hC),fun x c e=>(hfp b hb).2.2.2.2.1 x c (qqj _ [] (fun _ _ z=>nomatch z) x c e)⟩
 bs:=I.bs
 bsz:=Qzx I.ok.bsz I.sz
 noex:=fun b o e hb=>by
  rcases (hfp b hb).2.2.2.1 with z|z
  ·exact I.ok.noex b o e z
  ·exact absurd (Qqp (Qqv e) (Qzx I.ok.bsz z)) (Qzi _)
 exfs:=fun b hb hf=>by
  have f:=hfp b hb
  rcases Qqh.mp (I.stkSub b hf) with z|z
  ·exact f.2.1 z
  ·exact f.2.2.1 z
 funs:=I.stack
 frf:=I.stkFree
theorem qfk{N:List Str}{src:List (Option Nat)}{scope:Scope}{C:Addr}{fp:List Addr}{h':Heap}{tk:Nat}{m':Str→Option Value}(S:CompScope X N src scope)(I:Inv X pins σ H s)(hC:s.heap.objs.size≤C)(hfp:∀ b∈fp,FpOk X pins H b)(hlt:∀ b∈fp,b<s.heap.objs.size)
  (kp:∀ b o,s.heap.get? b=some o→h'.get? b=some o) (ns:h'.Ns C m'):Inv (qzr X N scope C fp s H) [] (qxc src σ) H { s with heap:=h',toks:=tk }:=by
 have O:=qo9 S I hC hfp hlt
 refine⟨O,rfl,I.bare,Un.kept kp,⟨m',ns,fun j x v hN hσ hv=>?_⟩,fun x c e=>?_,I.hok.fresh hC,fun x c e=>?_,fun p hp=>absurd (show p∈([]:List (Addr×Obj)) from hp) (by simp),I.hok.kept kp,?_⟩
 ·unfold qxc at hσ
  rw[Qqn]at hσ
  cases q:src[j]? with
  |none=>rw[q]at hσ; cases hσ
  |some o=>
   rw[q]at hσ
   cases o with
   |none=>cases hσ
   |some i=>
    obtain⟨x',e1,e2,e3⟩:=S.src j i q
    have hN:N[j]?=some x:=hN
    rw[hN]at e1
    cases e1
    have hi:σ[i]?=some (some v):=by
     cases z:σ[i]? with
     |none=>simp[z]at hσ
     |some w=>
      cases w with
      |none=>simp[z]at hσ
      |some w=>simpa[z] using hσ
    obtain⟨m0,hn0,hl0⟩:=I.loc
    have hk:=S.free _ (mem_lookup e3) rfl
    have vis:Vis X.env.scope x:=by
     rcases hk with z|z
     ·exact .inr (.inl z)
     ·exact .inr (.inr z)
    obtain⟨u,ru,lk⟩:=hl0 i x v e2 hi vis
    refine⟨u,ru,?_⟩
    rcases lk with⟨z,_⟩|⟨_,c,hc,hcell⟩
    ·rcases hk with y|y
     ·rw[y]at z; cases z
     ·rw[y]at z; cases z
    ·refine .inr ⟨?_,c,qay hc _ _ (.inl (mem_lookup e3)),?_⟩
     ·have e:(qzr X N scope C fp s H).env.kindOf x=(scope.names.lookup x).map fun k=>if (k==NameKind.free&&X.env.scope.kind==.function&&X.env.kindOf x==some .cell) then NameKind.cell else k:=qqc X.env scope.names x
      rw[e,e3]
      simp only[oMs,Option.some.injEq]
      by_cases hc:(NameKind.free==NameKind.free&&X.env.scope.kind==.function&&X.env.kindOf x==some .cell)=true
      ·rw[if_pos hc]; exact .inl rfl
      ·rw[if_neg hc]; exact .inr rfl
     ·obtain⟨o,ho,hd⟩:=hcell
      exact⟨o,kp c o ho,hd⟩
 ·have e':=qqj _ [] (fun _ _ z=>nomatch z) x c e
  obtain⟨v,o,ho,hd⟩:=I.cell x c e'
  exact⟨v,o,kp c o ho,hd⟩
 ·exact I.freeC x c (qqj _ [] (fun _ _ z=>nomatch z) x c e)
 ·unfold qxc
  rw[Qqk]
  exact S.len
end
def qpv(X:Cx)(ifs:List Expr)(tt:TT):Prop:=∀ (pins:List (Addr×Obj)) (s:Shared) (σ:L2.St) (H:Hp) (Q:Bool→Hp→Prop),Inv X pins σ H s→tt σ H Q→
 wpAny (model X.prog X.w) X.A (forIn ifs true fun c r=>if r=true then do let ok ← isTrue c X.env (eval c X.env); pure (ForInStep.yield ok) else pure (ForInStep.yield r)) (TP X pins σ Q) X.xe s
theorem qip{X:Cx}:qpv X [] (fun _ H Q=>Q true H):=fun pins s σ H Q I h=>by
 show wpAny _ _ (pure true) _ _ _
 exact wpAny_pure ⟨H,I,h⟩
theorem qfw{X:Cx}{pins:List (Addr×Obj)}{σ:L2.St}{H:Hp}{s:Shared}{elt tg iter:Expr}{ifs:List Expr}{scope:Scope}{pos:Pos}{it:Addr}{fp:List Addr}{tn:Nat→Heap→Prop}{J:It}{N:List Str}{src:List (Option Nat)}
  {g:TG}{tt:TT}{te:TE}{E:Value→Shared→Prop}{Fin:List V→Hp→Prop}{RR:Value→Addr→Result→Shared→Prop}{Ex:Addr→Addr→Value→Shared→Prop}(hc:X.calm=true) (I:Inv X pins σ H s) (T:Turn X.prog X.w X.K tg J fp it tn) (st0:tn 0 s.heap) (hfp:∀ b∈fp,FpOk X pins H b) (S:CompScope X N src scope)
  (hg:∀ C,PG (qzr X N scope C fp s H) tg g) (ht:∀ C,qpv (qzr X N scope C fp s H) ifs tt) (he:∀ D C,PE ((qzr X N scope C fp s H).wish (Ex D C)) elt te)
  (hEx:∀ D C,s.heap.objs.size≤C→∀ e s',Ex D C e s'→notedBy (model X.prog X.w) X.A (compEnvC scope (qje X.env.cells scope.names []) C X.env) (fun e s'=>RR (.ref D) C (.error e) s') e s')
  (W:Nat→Nat→List V→L2.St→Hp→Prop) (w0:∃ k,W 0 k [] (qxc src σ) H)
  (step:∀ i k acc σ H,W i k acc σ H→(J.stop i H∧acc.length≤sizeLine∧Fin acc H)∨(J.go i H∧acc.length<sizeLine∧∀ x H',J.yld i H x H'→g x σ H' fun σ2 H2=>tt σ2 H2 fun b H3=>
   if b=true then te σ2 H3 fun v H4=>∃ k',k'<k∧W (i+1) k' (acc++[v]) σ2 H4 else ∃ k',k'<k∧W (i+1) k' acc σ2 H3))
  (hRR:∀ D C s' H' acc,Fin acc H'→H' D=none→Inv X pins σ (upd H' D (.lst acc)) s'→FpOk X pins (upd H' D (.lst acc)) C→(∃ m,s'.heap.Ns C m)→RR (.ref D) C (.ok .next) s') :
  wpAny (model X.prog X.w) X.A (newList []) (fun acc s₃=>wpAny (model X.prog X.w) X.A (newFunctionEnv scope X.env.globals (qje X.env.cells scope.names []) [] X.env.qual none .none (some X.env)) (fun cenv s₄=>
   codeAny (model X.prog X.w) X.A (.compStart (.ListComp elt [⟨tg,iter,ifs,0⟩] scope pos) 0 (.ref it) acc { cenv with scope:=relabel scope X.env }) (RR acc cenv.locals) s₄) E s₃) E s:=by
 have hlt:∀ b∈fp,b<s.heap.objs.size:=fun b hb=>by obtain⟨o,e,_⟩:=T.obj 0 _ st0 b hb; exact Qqv e
 refine wpAny_newObj_type (wpAny_newFunctionEnv S.cell (by intro y hy; simp at hy) (fun h₁ hns₁ hsb₁=>?_) S.kind)
 dsimp only at hns₁ hsb₁ ⊢
 generalize hH2:s.heap.push { cls:=.type "list",dict:=none,data:=.seq ([]:List Value).toArray }=H2 at hns₁ hsb₁ ⊢
 have hC:H2.objs.size=s.heap.objs.size+1:=by rw[← hH2,Qzm]
 have hDC:s.heap.objs.size≠H2.objs.size:=by rw[hC]; exact Qqo (Qza _)
 have hCle:s.heap.objs.size≤H2.objs.size:=by rw[hC]; exact Qjk _
 have old:∀ b o,s.heap.get? b=some o→h₁.get? b=some o:=fun b o e=>hsb₁.extBut b o (by rw[hC]; exact Qqo (Qxy (Qqv e))) (Qqz _ (hH2▸Qqz _ e))
 have hacc:h₁.get? s.heap.objs.size=some { cls:=.type "list",data:=.seq ([]:List Value).toArray }:=hsb₁.extBut _ _ hDC (Qqz _ (hH2▸Qqw _ rfl))
 generalize hDd:s.heap.objs.size=Dd at hDC hCle hacc
 generalize hCc:H2.objs.size=Cc at hDC hCle hns₁ hsb₁ hC ⊢
 have hDs:s.heap.objs.size≤Dd:=Nat.le_of_eq hDd
 have hCs:s.heap.objs.size≤Cc:=by rw[hDd]; exact hCle
 have fD:H Dd=none:=I.hok.fresh hDs
 have I1:Inv (qzr X N scope Cc fp s H) [] (qxc src σ) H { s with heap:=h₁,toks:=s.toks+([]:List (Str×Value)).length }:=qfk S I hCs hfp hlt old hns₁
 have nfp:∀ b∈fp,b≠Dd:=fun b hb=>by rw[← hDd]; exact Qqo (hlt b hb)
 have cellD:∀ x c,(qzr X N scope Cc fp s H).env.cells.lookup x=some c→c≠Dd:=fun x c e z=>by
  have e':=qqj _ [] (fun _ _ z=>nomatch z) x c e
  obtain⟨v,o,ho,_⟩:=I.cell x c e'
  rw[z,← hDd]at ho
  exact Qzi _ (Qqv ho)
 have fsD:Dd ∉ (qzr X N scope Cc fp s H).fs:=fun z=>by
  obtain⟨_,o,ho,_⟩:=I1.ok.funs.mem z
  have ho:s.heap.get? Dd=some o:=ho
  rw[← hDd]at ho
  exact Qzi _ (Qqv ho)
 have stat:∀ {pl:List (Addr×Obj)}{H':Hp},(∀ p∈pl,p.1=Dd)→(∀ b∈fp,H' b=none)→∀ b∈fp,FpOk (qzr X N scope Cc fp s H) pl H' b:=fun {pl H'} hpl hn b hb=>
  ⟨hn b hb,(I1.ok.exf b hb).1,I1.ok.exfs b hb,.inl hb,(I1.ok.exf b hb).2,fun p hp=>by
   have hp':p∈pl:=hp
   rw[hpl p hp']; exact(nfp b hb).symm⟩
 obtain⟨k0,w0⟩:=w0
 have loop:∀ s₃:Shared,s₃={ s with heap:=h₁,toks:=s.toks+([]:List (Str×Value)).length }→
   codeAny (model X.prog X.w) X.A (.compLoop (.ListComp elt [⟨tg,iter,ifs,0⟩] scope pos) 0 (.ref it) (.ref Dd) (compEnvC scope (qje X.env.cells scope.names []) Cc X.env)) (RR (.ref Dd) Cc) s₃:=by
  rintro s₃ rfl
  refine qbl (hEx Dd Cc hCs) (fun k s'=>∃ i acc its nn σ' H',Inv (qzr X N scope Cc fp s H) [] σ' H' s'∧tn i s'.heap∧(∀ b∈fp,H' b=none)∧W i k acc σ' H'∧Vals acc its∧s'.heap.get? Dd=some { cls:=.type "list",data:=.seq its.toArray nn }∧H' Dd=none) ?_ k0
   ⟨0,[],[],0,qxc src σ,H,I1,T.keep _ _ _ st0 fun b _ o e=>old b o e,fun b hb=>(hfp b hb).1,w0,.nil,hacc,fD⟩
  rintro k s3 ⟨i,acc,its,nn,σ3,H3,I3,t3,fr3,w3,rv,ho3,nD3⟩
  have I3':Inv (qzr X N scope Cc fp s H) [(Dd,{ cls:=.type "list",data:=.seq its.toArray nn })] σ3 H3 s3:=I3.pins_of fun p hp=>by
   have e:p=(Dd,{ cls:=.type "list",data:=.seq its.toArray nn }):=by simpa using hp
   subst e
   exact⟨ho3,nD3,hDC,fsD,fun v z=>by
    have z':Data.seq its.toArray nn=Data.cell v:=z
    cases z'⟩
  rcases step i k acc σ3 H3 w3 with⟨stop,hz,fin⟩|⟨go,hz,next⟩
  ·refine thn (T.done (qzr X N scope Cc fp s H) rfl rfl rfl hc i _ s3 σ3 H3 (Ex Dd Cc) I3' (stat (fun p hp=>by rw[Qzr.mp hp]) fr3) t3 stop) fun r s4 ⟨hr,I4⟩=>?_
   subst hr
   have p4:=I4.pin (Dd,{ cls:=.type "list",data:=.seq its.toArray nn }) (Qqs _ (by simp))
   have I5:Inv X pins σ H3 s4:=I.call' I4.os I4.base I4.hok I4.bare fun b hb=>⟨(hfp b hb).2.2.2.1,(hfp b hb).2.1,(hfp b hb).2.2.2.2.1,(hfp b hb).2.2.2.2.2⟩
   have fpD:FpOk X pins H3 Dd:=I.fpOk hDs nD3
   refine hRR Dd Cc s4 H3 acc fin nD3 (Inv.track I5 fpD ⟨hz,its,nn,rv,p4.1⟩) (I.fpOk hCs (by rw[qzj (Ne.symm hDC)]; exact I4.free)) ?_
   obtain⟨m4,n4,_⟩:=I4.loc
   exact⟨m4,n4⟩
  ·refine thn (T.item (qzr X N scope Cc fp s H) rfl rfl rfl hc i _ s3 σ3 H3 (Ex Dd Cc) I3' (stat (fun p hp=>by rw[Qzr.mp hp]) fr3) t3 go) fun r s4 ⟨u,hr,h4⟩=>?_
   subst hr
   refine thn h4 fun _ s5 ⟨x,H5,I5,r5,y5,t5,fr5⟩=>?_
   have I5':=I5.pinned (stat (fun p hp=>by rw[Qzr.mp hp]) fr5) (T.obj _ _ t5)
   refine wpAny_mono (hg Cc _ s5 σ3 H5 x u _ I5' r5 (next x H5 y5)) (fun _ s6 ⟨σ6,H6,I6,q6⟩=>?_) fun _ _ z=>z.elim
   refine wpAny_mono (ht Cc _ s6 σ6 H6 _ I6 q6) (fun b s7 ⟨H7,I7,q7⟩=>?_) fun _ _ z=>z.elim
   have back:∀ {σ8:L2.St}{H8:Hp}{s8:Shared},Inv (qzr X N scope Cc fp s H) ([(Dd,{ cls:=.type "list",data:=.seq its.toArray nn })]++qa3 fp s5.heap) σ8 H8 s8→
     tn (i+1) s8.heap∧(∀ b∈fp,H8 b=none)∧s8.heap.get? Dd=some { cls:=.type "list",data:=.seq its.toArray nn }∧H8 Dd=none:=fun {σ8 H8 s8} I8=>by
    refine⟨T.keep _ _ _ t5 fun b hb o e=>(I8.pin (b,o) (Qqs _ (Qqs _ (qxw hb e)))).1,fun b hb=>?_,?_,?_⟩
    ·obtain⟨o,e,d⟩:=T.obj _ _ t5 b hb
     exact(I8.pin (b,o) (Qqs _ (Qqs _ (qxw hb e)))).2.1
    ·exact(I8.pin (Dd,_) (Qqs _ (Qz1 _ (by simp)))).1
    ·exact(I8.pin (Dd,{ cls:=.type "list",data:=.seq its.toArray nn }) (Qqs _ (Qz1 _ (by simp)))).2.1
   cases b with
   |false=>
    simp only[Qqc,if_false]at q7 ⊢
    obtain⟨k',hk,w7⟩:=q7
    obtain⟨b1,b2,b3,b4⟩:=back I7
    exact⟨k',hk,i+1,acc,its,nn,σ6,H7,I7.pins_of fun p hp=>absurd hp (by simp),b1,b2,w7,rv,b3,b4⟩
   |true=>
    simp only[if_true]at q7 ⊢
    refine thn (he Dd Cc _ s7 σ6 H7 _ (I7.wish _) q7) fun y s8 ⟨v8,H8,I8,r8,k',hk,w8⟩=>?_
    have I8:=I8.unwish
    obtain⟨b1,b2,b3,b4⟩:=back I8
    have l1:=rv.length
    refine call_meets F.slot_list_append ⟨_,b3,rfl⟩ F.entry_list_append (F.args_list_append_2 _ _) (PySem.list_append Dd its.toArray nn y (by rw[Qqx]; omega)) ⟨b3,?_⟩
    have q:=PySem.IsL.update b3 (fun a=>a.push y)
    have hpush:its.toArray.push y=(its++[y]).toArray:=by simp
    rw[hpush]at q
    have I9:Inv (qzr X N scope Cc fp s H) [] σ6 H8 s8:=I8.pins_of fun p hp=>absurd hp (by simp)
    have I10:Inv (qzr X N scope Cc fp s H) [] σ6 H8 { s8 with heap:=s8.heap.update Dd (Obj.mapSeq (·.push y)) }:=
     I9.turned (it:=Dd) (t':=s8.toks) (fun b o hb e=>(Qz3 s8.heap _ (Ne.symm hb)).trans e) b4 hDC (.inr hDs) cellD fun p hp=>absurd (show p∈([]:List (Addr×Obj)) from hp) (by simp)
    exact⟨k',hk,i+1,acc++[v8],its++[y],_,σ6,H8,I10,T.keep _ _ _ b1 fun b hb o e=>(Qz3 s8.heap _ (Ne.symm (nfp b hb))).trans e,b2,w8,rv.append (.cons r8 .nil),q,b4⟩
 exact codeAny_compStart_list (loop _ rfl) (T.self _ 0 _ _ _ (T.keep _ _ _ st0 fun b _ o e=>old b o e) (loop _ rfl))
noncomputable def tComp(src:List (Option Nat))(wi:TI)(g:TG)(tt:TT)(te:TE):TE:=fun σ H Q=>wi σ H fun J H1=>∃ W:Nat→Nat→List V→L2.St→Hp→Prop,(∃ k,W 0 k [] (qxc src σ) H1)∧
 ∀ i k acc σ' H',W i k acc σ' H'→(J.stop i H'∧acc.length≤sizeLine∧∀ p,H' p=none→Q (.ref p) (upd H' p (.lst acc)))∨(J.go i H'∧acc.length<sizeLine∧∀ x H2,J.yld i H' x H2→g x σ' H2 fun σ2 H3=>tt σ2 H3 fun b H4=>
  if b=true then te σ2 H4 fun v H5=>∃ k',k'<k∧W (i+1) k' (acc++[v]) σ2 H5 else ∃ k',k'<k∧W (i+1) k' acc σ2 H4)
theorem qn3{X:Cx}{elt tg iter:Expr}{ifs:List Expr}{scope:Scope}{pos:Pos}{N:List Str}{src:List (Option Nat)}{wi:TI}{g:TG}{tt:TT}{te:TE}(hc:X.calm=true)(S:CompScope X N src scope)(hi:PI X tg iter wi)
  (hg:∀ C fp s H,PG (qzr X N scope C fp s H) tg g) (ht:∀ C fp s H,qpv (qzr X N scope C fp s H) ifs tt) (he:∀ C fp s H,PE (qzr X N scope C fp s H) elt te)
  (hs:∀ x,foldedSetIterable iter X.env x=pure x):PE X (.ListComp elt [⟨tg,iter,ifs,0⟩] scope pos) (tComp src wi g tt te):=by
 intro pins s σ H Q I h
 rw[eval_ListComp]
 refine wpAny_comprehension_free (use:=none) rfl hs (qh0 S I) S.kind S.loc (thn (hi pins s σ H _ I h) fun v s1 h1=>thn h1 fun itv s2 h2=>?_)
 obtain⟨it,fp,tn,J,H2,e,I2,T,st2,f2,W,w0,turn⟩:=h2
 subst e
 refine qfw (Ex:=fun _ _=>NoX) hc I2 T st2 f2 S (fun C=>hg C fp s2 H2) (fun C=>ht C fp s2 H2) (fun _ C=>he C fp s2 H2) (fun _ _ _ _ _ z=>z.elim) W w0 turn ?_
 intro D C s' H' acc fin nD I' fC hm
 obtain⟨m',hn⟩:=hm
 refine⟨m',hn,fun h' sb=>⟨.ref D,upd H' D (.lst acc),?_,rfl,fin D nD⟩⟩
 obtain⟨c0,c1,c2,c3,c4,c5⟩:=fC
 exact I'.turned (t':=s'.toks) (fun b o hb e=>(sb.2 b hb).trans e) c0 c1 c3 c4 c5
end MS
end
section
namespace MS
open PySem PySem.Spec PyProof.Rows L2
theorem Inv.turnedL{X:Cx}{pins:List (Addr×Obj)}{σ:L2.St}{H:Hp}{s:Shared}{h':Heap}{t':Nat}{ch:List Addr}(I:Inv X pins σ H s)(k:∀ b o,b ∉ ch→s.heap.get? b=some o→h'.get? b=some o)(hf:∀ b∈ch,FpOk X pins H b):Inv X pins σ H { s with heap:=h',toks:=t' }:=by
 have nit:∀ b u,H b=some u→b ∉ ch:=fun b u e z=>by rw[(hf b z).1]at e; cases e
 refine I.step (g':=s.gens) (d':=s.drawn) (ch:=ch) (fun b hb=>?_) (fun b o _ _ hc e _=>k b o hc e) (fun b o _ _ hc e _=>⟨o.slots,k b o hc e⟩) (fun _ _ _ _ n=>n) (fun b o hc e=>⟨o,k b o hc e⟩) (fun _ _ e=>e) (fun _ _ _ e=>e) (fun b ps e=>⟨#[],by rw[e]; simp⟩) (fun m hm=>?_) (fun b u e=>?_) I.bare
 ·obtain⟨f0,f1,f2,f3,f4,f5⟩:=hf b hb
  exact⟨f3,f1,f4,f5⟩
 ·obtain⟨o,es,ep,ho,r⟩:=hm
  exact⟨o,es,ep,k _ o (fun z=>(hf _ z).2.1 rfl) ho,r⟩
 ·refine(I.hok b u e).stay (fun c v hc q=>k c v ?_ q) (fun _ q=>q) fun _ _ q=>q
  rcases hc with z|z
  ·rw[z]; exact nit b u e
  ·exact nit c _ z
inductive RK where
 |lst|tup
noncomputable def RK.It:RK→Heap→Addr→Addr→Nat→Prop
 |.lst,h,it,a,i=>h.IsListIter it a i
 |.tup,h,it,a,i=>h.IsTupleIter it a i
noncomputable def RK.Sq:RK→Heap→Addr→Array Value→Prop
 |.lst,h,a,xs=>h.IsList a xs
 |.tup,h,a,xs=>h.IsTuple a xs
theorem RK.It.on{k:RK}{h h':Heap}{it a:Addr}{i:Nat}(x:k.It h it a i)(e:∀ o,h.get? it=some o→h'.get? it=some o):k.It h' it a i:=by
 cases k with
 |lst=>exact Heap.IsListIter.at x e
 |tup=>obtain⟨o,ho,r⟩:=x; exact⟨o,e o ho,r⟩
theorem RK.Sq.on{k:RK}{h h':Heap}{a:Addr}{xs:Array Value}(x:k.Sq h a xs)(e:∀ o,h.get? a=some o→h'.get? a=some o):k.Sq h' a xs:=by
 cases k with
 |lst=>exact Heap.IsList.at x e
 |tup=>obtain⟨o,ho,r⟩:=x; exact⟨o,e o ho,r⟩
theorem RK.It.obj{k:RK}{h:Heap}{it a:Addr}{i:Nat}(x:k.It h it a i):∃ o,h.get? it=some o∧∀ v,o.data≠.cell v:=by
 cases k with
 |lst=>obtain⟨o,ho,_,d⟩:=x; exact⟨o,ho,fun v z=>by rw[d]at z; cases z⟩
 |tup=>obtain⟨o,ho,_,d⟩:=x; exact⟨o,ho,fun v z=>by rw[d]at z; cases z⟩
section
variable {prog:Program}{w:World}{A:Around}{E:Value→Shared→Prop}{s:Shared}
theorem qv1{k:RK}{it a:Addr}{i:Nat}{xs:Array Value}{x:Value}{Q:Value→Shared→Prop}(hi:k.It s.heap it a i)(hs:k.Sq s.heap a xs)(hx:xs[i]?=some x)
  (hQ:∀ h',k.It h' it a (i+1)→(∀ b o,b≠it→s.heap.get? b=some o→h'.get? b=some o)→h'.objs.size=s.heap.objs.size→Q x { s with heap:=h' }):wpAny (model prog w) A (Builtin.SmallTypes.nextOf (.ref it)) Q E s:=by
 cases k with
 |lst=>exact wpAny_nextOf_list_item hi hs hx fun h' a1 a2=>hQ h' a1 a2.extBut a2.1
 |tup=>
  obtain⟨o,e1,e2,e3⟩:=id hi
  obtain⟨q,f1,_,m,f2⟩:=hs
  unfold Builtin.SmallTypes.nextOf
  refine wpAny_bind (wpAny_callSpecial?_slot (name:=Str.ofString "__next__") (Heap.IsTupleIter.typeIs hi) F.slot_tuple_iterator_next (wpAny_call_entry F.slot_tuple_iterator_next (Heap.IsTupleIter.typeIs hi) F.entry_tuple_iterator_next ?_ (F.args_tuple_iterator_next_1 _)))
  show wpAny _ _ (field (.ref it) 0 >>= _) _ _ _
  refine wpAny_bind (wpAny_field e1 e3 (x:=.ref a) rfl ?_)
  show wpAny _ _ (if (Value.ref a==Value.none)=true then _ else _) _ _ _
  rw[if_neg (show ¬ ((Value.ref a==Value.none)=true) from fun z=>nomatch z)]
  show wpAny _ _ (field (.ref it) 1 >>= _) _ _ _
  refine wpAny_bind (wpAny_field e1 e3 (x:=.int i 0) rfl ?_)
  show wpAny _ _ (seqItems? (.ref a) >>= _) _ _ _
  refine wpAny_bind (wpAny_seqItems f1 f2 ?_)
  simp only[Int.toNat_natCast,hx]
  refine wpAny_bind (wpAny_setField e1 e3 (by simp) (wpAny_pure ⟨x,rfl,wpAny_pure (hQ _ ?_ (Heap.SameBut.update ..).extBut (Heap.SameBut.update ..).1)⟩))
  exact⟨_,Qz4 _ e1 (Obj.isFreed_of_fields (Obj.data_mapFields e3 _)),(Obj.cls_mapFields ..).trans e2,by rw[Obj.data_mapFields e3]; simp[rawInt]⟩
theorem qbh{k:RK}{it a:Addr}{i:Nat}{xs:Array Value}{Q:Value→Shared→Prop}(hh:A.handled=none)(hi:k.It s.heap it a i)(hs:k.Sq s.heap a xs)(hx:xs[i]?=none)
  (hE:∀ h' e,(∀ b o,b≠it→s.heap.get? b=some o→h'.get? b=some o)→(∃ o,h'.get? e=some o∧o.cls=.type "StopIteration")→E (.ref e) { s with heap:=h' }):wpAny (model prog w) A (Builtin.SmallTypes.nextOf (.ref it)) Q E s:=by
 cases k with
 |lst=>exact wpAny_nextOf_list_end hh hi hs hx fun h' e a1 a2=>hE h' e a1 a2
 |tup=>
  obtain⟨o,e1,e2,e3⟩:=id hi
  obtain⟨q,f1,_,m,f2⟩:=hs
  unfold Builtin.SmallTypes.nextOf
  refine wpAny_bind (wpAny_callSpecial?_slot (name:=Str.ofString "__next__") (Heap.IsTupleIter.typeIs hi) F.slot_tuple_iterator_next (wpAny_call_entry F.slot_tuple_iterator_next (Heap.IsTupleIter.typeIs hi) F.entry_tuple_iterator_next ?_ (F.args_tuple_iterator_next_1 _)))
  show wpAny _ _ (field (.ref it) 0 >>= _) _ _ _
  refine wpAny_bind (wpAny_field e1 e3 (x:=.ref a) rfl ?_)
  show wpAny _ _ (if (Value.ref a==Value.none)=true then _ else _) _ _ _
  rw[if_neg (show ¬ ((Value.ref a==Value.none)=true) from fun z=>nomatch z)]
  show wpAny _ _ (field (.ref it) 1 >>= _) _ _ _
  refine wpAny_bind (wpAny_field e1 e3 (x:=.int i 0) rfl ?_)
  show wpAny _ _ (seqItems? (.ref a) >>= _) _ _ _
  refine wpAny_bind (wpAny_seqItems f1 f2 ?_)
  simp only[Int.toNat_natCast,hx]
  refine wpAny_bind (wpAny_rule (wpAny_bind (wpAny_setField e1 e3 (by simp) ?_))); show wpAny _ _ (newExc (.type "StopIteration") [] >>= _) _ _ _
  refine wpAny_bind ?_; simp only[newExc,newTuple]
  refine wpAny_bind (wpAny_newObj_type ?_ (by size_fits)); refine wpAny_bind (m:=firstArgMember _ _) (wpAny_of_eq (a:=Value.none) (by first|rfl|(simp only[firstArgMember]; rfl)) ?_)
  refine wpAny_newObj_type ?_ (by size_fits); simp only[raiseNew]
  refine wpAny_bind (wpAny_handled ?_)
  first|rw[show A.in1.handled=none from hh]|(rw[hh])
  refine wpAny_bind (wpAny_pure (wpAny_throw ?_))
  exact hE _ _ (((Heap.SameBut.update ..).extBut.push _).push _) ⟨_,Qqw _ rfl,by rfl⟩
end
section
variable {prog:Program}{w:World}{A:Around}{E:Value→Shared→Prop}{s:Shared}
theorem qy4{T:Addr}{a b x:Value}{j:Nat}{Q:Unit→Shared→Prop}(hT:IsPair s.heap T a b)
  (h:∀ h',h'.get? T=some { cls:=.type "tuple",data:=.seq ((#[a,b]:Array Value).setIfInBounds j x) }→(∀ c o,c≠T→s.heap.get? c=some o→h'.get? c=some o)→h'.objs.size=s.heap.objs.size→Q () { s with heap:=h' }) :
  wpAny (model prog w) A (updateSeq T (·.setIfInBounds j x)) Q E s:=
 wpAny_updateSeq_pair hT fun h' a1 a2=>h h' a1 a2.extBut a2.1
theorem zip_get{n l1 l2:Nat}{k1 k2:RK}{i:Nat}{xs ys:Array Value}{x y a b:Value}{Q:Option Value→Shared→Prop}(n1:l1<n)(n2:l2<n)
  (hz:IsZip s.heap (n+4) (n+2) (n+3) .none) (hI:IsPair s.heap (n+2) (.ref n) (.ref (n+1))) (hO:IsPair s.heap (n+3) a b) (h1:k1.It s.heap n l1 i) (h2:k2.It s.heap (n+1) l2 i) (s1:k1.Sq s.heap l1 xs) (s2:k2.Sq s.heap l2 ys) (hx:xs[i]?=some x) (hy:ys[i]?=some y)
  (hQ:∀ h',IsZip h' (n+4) (n+2) (n+3) (rawInt s.heap.objs.size)→IsPair h' (n+2) (.ref n) (.ref (n+1))→IsPair h' (n+3) x y→k1.It h' n l1 (i+1)→k2.It h' (n+1) l2 (i+1)→IsPair h' s.heap.objs.size x y→
   (∀ c o,c≠n+4→c≠n+3→c≠n→c≠n+1→s.heap.get? c=some o→h'.get? c=some o)→Q (some (.ref s.heap.objs.size)) { s with heap:=h' }) :
  wpAny (model prog w) A (pyNext (.ref (n+4))) Q E s:=by
 have hT:s.TypeIs (.ref (n+4)) "zip":=⟨_,hz,rfl⟩
 unfold pyNext
 refine wpAny_bind (wpAny_attempt (wpAny_callSpecial?_slot (name:=Str.ofString "__next__") hT F.slot_zip_next (wpAny_call_entry F.slot_zip_next hT F.entry_zip_next ?_ (F.args_zip_next_1 _))))
 show wpAny _ _ (field (.ref (n+4)) 2 >>= _) _ _ _
 refine wpAny_bind (wpAny_field hz rfl (x:=.bool false) rfl ?_)
 show wpAny _ _ (field (.ref (n+4)) 3 >>= _) _ _ _
 refine wpAny_bind (wpAny_field hz rfl (x:=.ref (n+2)) rfl ?_)
 refine wpAny_bind (wpAny_seqItems hI rfl ?_)
 show wpAny _ _ (Builtin.SmallTypes.ownedTupleIsFree (.ref (n+4)) >>= _) _ _ _
 refine wpAny_bind ?_
 unfold Builtin.SmallTypes.ownedTupleIsFree
 refine wpAny_bind (wpAny_field hz rfl (x:=.none) rfl (wpAny_pure ?_))
 simp only[if_true]
 refine wpAny_bind (wpAny_rule ?_)
 refine wpAny_bind (wpAny_field hz rfl (x:=.ref (n+3)) rfl ?_)
 refine wpAny_bind (wpAny_setField_rec hz (by simp) fun g1 z1 u1=>?_)
 replace z1:IsZip g1 (n+4) (n+2) (n+3) .ellipsis:=z1
 have v1:=u1.extBut
 refine wpAny_bind ?_
 simp only[List.zipIdx_cons,List.zipIdx_nil,Qjj,List.forIn_nil]
 refine wpAny_bind (wpAny_bind (wpAny_onRaise ?_)); show wpAny _ _ (Builtin.SmallTypes.nextOf (.ref n) >>= _) _ _ _
 refine wpAny_bind (qv1 (s:={ s with heap:=g1 }) (h1.on fun o e=>v1 _ o (by show @Ne Nat _ _; omega) e) (s1.on fun o e=>v1 _ o (by show @Ne Nat _ _; omega) e) hx fun g2 i2 v2 c2=>wpAny_pure ?_)
 have O2:IsPair g2 (n+3) a b:=v2 _ _ (by show @Ne Nat _ _; omega) (v1 _ _ (by show @Ne Nat _ _; omega) hO)
 refine wpAny_bind (wpAny_seqItems O2 rfl ?_)
 refine wpAny_bind (qy4 O2 fun g3 O3 v3 c3=>?_)
 replace O3:IsPair g3 (n+3) x b:=O3
 refine wpAny_bind (wpAny_letGo (wpAny_pure ?_))
 refine wpAny_bind (wpAny_bind (wpAny_onRaise ?_)); show wpAny _ _ (Builtin.SmallTypes.nextOf (.ref (n+1)) >>= _) _ _ _
 refine wpAny_bind (qv1 (s:={ s with heap:=g3 }) (h2.on fun o e=>v3 _ o (by show @Ne Nat _ _; omega) (v2 _ o (by show @Ne Nat _ _; omega) (v1 _ o (by show @Ne Nat _ _; omega) e))) (s2.on fun o e=>v3 _ o (by show @Ne Nat _ _; omega) (v2 _ o (by show @Ne Nat _ _; omega) (v1 _ o (by show @Ne Nat _ _; omega) e))) hy fun g4 i4 v4 c4=>wpAny_pure ?_)
 have O4:IsPair g4 (n+3) x b:=v4 _ _ (by show @Ne Nat _ _; omega) O3
 refine wpAny_bind (wpAny_seqItems O4 rfl ?_)
 refine wpAny_bind (qy4 O4 fun g5 O5 v5 c5=>?_)
 replace O5:IsPair g5 (n+3) x y:=O5
 refine wpAny_bind (wpAny_letGo (wpAny_pure (wpAny_pure ?_)))
 refine wpAny_bind (wpAny_seqItems O5 rfl ?_)
 refine wpAny_bind (wpAny_newTuple ?_)
 have sz:g5.objs.size=s.heap.objs.size:=c5.trans (c4.trans (c3.trans (c2.trans u1.1)))
 have z5:IsZip g5 (n+4) (n+2) (n+3) .ellipsis:=v5 _ _ (by show @Ne Nat _ _; omega) (v4 _ _ (by show @Ne Nat _ _; omega) (v3 _ _ (by show @Ne Nat _ _; omega) (v2 _ _ (by show @Ne Nat _ _; omega) z1)))
 have up5:∀ c o,c≠n+4→c≠n+3→c≠n→c≠n+1→s.heap.get? c=some o→g5.get? c=some o:=fun c o c1 c2 c3 c4 e=>v5 _ _ c2 (v4 _ _ c4 (v3 _ _ c2 (v2 _ _ c3 (v1 _ _ c1 e))))
 have j1:k1.It g5 n l1 (i+1):=i2.on fun o e=>v5 _ o (by show @Ne Nat _ _; omega) (v4 _ o (by show @Ne Nat _ _; omega) (v3 _ o (by show @Ne Nat _ _; omega) e))
 have j2:k2.It g5 (n+1) l2 (i+1):=i4.on fun o e=>v5 _ o (by show @Ne Nat _ _; omega) e
 have lz:n+4<g5.objs.size:=Qqv z5
 show wpAny _ _ (Builtin.SmallTypes.ownedTupleHandOut (.ref (n+4)) (.ref g5.objs.size) >>= _) _ _ _
 refine wpAny_bind ?_
 unfold Builtin.SmallTypes.ownedTupleHandOut
 have z6:IsZip (g5.push { cls:=.type "tuple",data:=.seq #[x,y] }) (n+4) (n+2) (n+3) .ellipsis:=Qqz _ z5
 refine wpAny_bind (wpAny_setField_rec z6 (by simp) fun g7 z7 u7=>?_)
 replace z7:IsZip g7 (n+4) (n+2) (n+3) (rawInt g5.objs.size):=z7
 refine wpAny_setField_rec z7 (by simp) fun g8 z8 u8=>?_
 replace z8:IsZip g8 (n+4) (n+2) (n+3) (rawInt g5.objs.size):=z8
 have up:∀ c o,c≠n+4→g5.get? c=some o→g8.get? c=some o:=fun c o c1 e=>u8.extBut _ _ c1 (u7.extBut _ _ c1 (Qqz _ e))
 have t8:IsPair g8 g5.objs.size x y:=u8.extBut _ _ (Qxx lz) (u7.extBut _ _ (Qxx lz) (Qqw _ rfl))
 rw[sz]at z8 t8
 refine wpAny_pure ⟨_,rfl,wpAny_pure ?_⟩
 show Q (some (.ref g5.objs.size)) _
 rw[sz]
 exact hQ g8 z8 (up _ _ (by show @Ne Nat _ _; omega) (up5 _ _ (by show @Ne Nat _ _; omega) (by show @Ne Nat _ _; omega) (by show @Ne Nat _ _; omega) (by show @Ne Nat _ _; omega) hI)) (up _ _ (by show @Ne Nat _ _; omega) O5) (j1.on fun o e=>up _ o (by show @Ne Nat _ _; omega) e) (j2.on fun o e=>up _ o (by show @Ne Nat _ _; omega) e) t8 fun c o c1 c2 c3 c4 e=>up c o c1 (up5 c o c1 c2 c3 c4 e)
theorem qil{n l1 l2:Nat}{k1 k2:RK}{i:Nat}{xs ys:Array Value}{a b:Value}{Q:Option Value→Shared→Prop}(hh:A.handled=none)(n1:l1<n)(n2:l2<n)
  (hz:IsZip s.heap (n+4) (n+2) (n+3) .none) (hI:IsPair s.heap (n+2) (.ref n) (.ref (n+1))) (hO:IsPair s.heap (n+3) a b) (h1:k1.It s.heap n l1 i) (h2:k2.It s.heap (n+1) l2 i) (s1:k1.Sq s.heap l1 xs) (s2:k2.Sq s.heap l2 ys) (hend:xs[i]?=none∨ys[i]?=none)
  (hQ:∀ h',(∀ c o,c≠n+4→c≠n+3→c≠n→c≠n+1→s.heap.get? c=some o→h'.get? c=some o)→Q none { s with heap:=h' }) :
  wpAny (model prog w) A (pyNext (.ref (n+4))) Q E s:=by
 have hT:s.TypeIs (.ref (n+4)) "zip":=⟨_,hz,rfl⟩
 have fin:∀ (h':Heap) (e:Addr),(∀ c o,c≠n+4→c≠n+3→c≠n→c≠n+1→s.heap.get? c=some o→h'.get? c=some o)→(∃ o,h'.get? e=some o∧o.cls=.type "StopIteration")→
   wpAny (model prog w) A (do if (← isInstance (.ref e) (.type "StopIteration")) then pure none else(throw (Value.ref e):Sem (Option Value))) Q E { s with heap:=h' }:=fun h' e hk he=>by
  obtain⟨o,ho,hc⟩:=he
  refine wpAny_bind (wpAny_isInstance (T:="StopIteration") (b:=true) ⟨o,ho,hc⟩ isSubtype_stop ?_)
  exact wpAny_pure (hQ _ hk)
 unfold pyNext
 refine wpAny_bind (wpAny_attempt (wpAny_callSpecial?_slot (name:=Str.ofString "__next__") hT F.slot_zip_next (wpAny_call_entry F.slot_zip_next hT F.entry_zip_next ?_ (F.args_zip_next_1 _))))
 show wpAny _ _ (field (.ref (n+4)) 2 >>= _) _ _ _
 refine wpAny_bind (wpAny_field hz rfl (x:=.bool false) rfl ?_)
 show wpAny _ _ (field (.ref (n+4)) 3 >>= _) _ _ _
 refine wpAny_bind (wpAny_field hz rfl (x:=.ref (n+2)) rfl ?_)
 refine wpAny_bind (wpAny_seqItems hI rfl ?_)
 show wpAny _ _ (Builtin.SmallTypes.ownedTupleIsFree (.ref (n+4)) >>= _) _ _ _
 refine wpAny_bind ?_
 unfold Builtin.SmallTypes.ownedTupleIsFree
 refine wpAny_bind (wpAny_field hz rfl (x:=.none) rfl (wpAny_pure ?_))
 simp only[if_true]
 refine wpAny_bind (wpAny_rule ?_)
 refine wpAny_bind (wpAny_field hz rfl (x:=.ref (n+3)) rfl ?_)
 refine wpAny_bind (wpAny_setField_rec hz (by simp) fun g1 z1 u1=>?_)
 replace z1:IsZip g1 (n+4) (n+2) (n+3) .ellipsis:=z1
 have v1:=u1.extBut
 refine wpAny_bind ?_
 simp only[List.zipIdx_cons,List.zipIdx_nil,Qjj,List.forIn_nil]
 refine wpAny_bind (wpAny_bind (wpAny_onRaise ?_)); show wpAny _ _ (Builtin.SmallTypes.nextOf (.ref n) >>= _) _ _ _
 cases hx:xs[i]? with
 |none=>
  refine wpAny_bind (qbh (s:={ s with heap:=g1 }) hh (h1.on fun o e=>v1 _ o (by show @Ne Nat _ _; omega) e) (s1.on fun o e=>v1 _ o (by show @Ne Nat _ _; omega) e) hx fun g2 e v2 he=>?_)
  obtain⟨oe,ho,hc⟩:=he
  have z2:IsZip g2 (n+4) (n+2) (n+3) .ellipsis:=v2 _ _ (by show @Ne Nat _ _; omega) z1
  have ez:e≠n+4:=fun q=>by subst q; rw[z2]at ho; cases ho; simp at hc
  exact wpAny_setField_rec z2 (by simp) fun g3 _ u3=>fin g3 e (fun c o c1 _ c3 _ q=>u3.extBut _ _ c1 (v2 _ _ c3 (v1 _ _ c1 q))) ⟨oe,u3.extBut _ _ ez ho,hc⟩
 |some x=>
  have hy:ys[i]?=none:=by
   rcases hend with h|h
   ·rw[hx]at h; cases h
   ·exact h
  refine wpAny_bind (qv1 (s:={ s with heap:=g1 }) (h1.on fun o e=>v1 _ o (by show @Ne Nat _ _; omega) e) (s1.on fun o e=>v1 _ o (by show @Ne Nat _ _; omega) e) hx fun g2 i2 v2 c2=>wpAny_pure ?_)
  have O2:IsPair g2 (n+3) a b:=v2 _ _ (by show @Ne Nat _ _; omega) (v1 _ _ (by show @Ne Nat _ _; omega) hO)
  refine wpAny_bind (wpAny_seqItems O2 rfl ?_)
  refine wpAny_bind (qy4 O2 fun g3 O3 v3 c3=>?_)
  refine wpAny_bind (wpAny_letGo (wpAny_pure ?_))
  refine wpAny_bind (wpAny_bind (wpAny_onRaise ?_)); show wpAny _ _ (Builtin.SmallTypes.nextOf (.ref (n+1)) >>= _) _ _ _
  refine wpAny_bind (qbh (s:={ s with heap:=g3 }) hh (h2.on fun o e=>v3 _ o (by show @Ne Nat _ _; omega) (v2 _ o (by show @Ne Nat _ _; omega) (v1 _ o (by show @Ne Nat _ _; omega) e))) (s2.on fun o e=>v3 _ o (by show @Ne Nat _ _; omega) (v2 _ o (by show @Ne Nat _ _; omega) (v1 _ o (by show @Ne Nat _ _; omega) e))) hy fun g4 e v4 he=>?_)
  obtain⟨oe,ho,hc⟩:=he
  have z4:IsZip g4 (n+4) (n+2) (n+3) .ellipsis:=v4 _ _ (by show @Ne Nat _ _; omega) (v3 _ _ (by show @Ne Nat _ _; omega) (v2 _ _ (by show @Ne Nat _ _; omega) z1))
  have ez:e≠n+4:=fun q=>by subst q; rw[z4]at ho; cases ho; simp at hc
  exact wpAny_setField_rec z4 (by simp) fun g5 _ u5=>fin g5 e (fun c o c1 c2 c3 c4 q=>u5.extBut _ _ c1 (v4 _ _ c4 (v3 _ _ c2 (v2 _ _ c3 (v1 _ _ c1 q))))) ⟨oe,u5.extBut _ _ ez ho,hc⟩
end
noncomputable def RK.itO(k:RK)(a:Addr):Obj:=match k with
 |.lst=>{ cls:=.type "list_iterator",data:=.fields #[.ref a,.int 0 0] }
 |.tup=>{ cls:=.type "tuple_iterator",data:=.fields #[.ref a,.int 0 0] }
theorem qda{prog:Program}{w:World}{A:Around}{E:Value→Shared→Prop}{s:Shared}{k:RK}{a:Addr}{xs:Array Value}{Q:Value→Shared→Prop}(hs:k.Sq s.heap a xs)(hQ:Q (.ref s.heap.objs.size) { s with heap:=s.heap.push (k.itO a) }):wpAny (model prog w) A (pyIter (.ref a)) Q E s:=by
 cases k with
 |lst=>exact wpAny_pyIter_list hs hQ
 |tup=>exact wpAny_pyIter_tuple hs hQ
theorem row_new{h:Heap}{k:RK}{a:Addr}:k.It (h.push (k.itO a)) h.objs.size a 0:=by
 cases k with
 |lst=>exact⟨_,Qqw _ rfl,rfl,rfl⟩
 |tup=>exact⟨_,Qqw _ rfl,rfl,rfl⟩
noncomputable abbrev zh1(k1:RK)(h:Heap)(l1:Addr):Heap:=h.push (k1.itO l1)
noncomputable abbrev zh2(k1 k2:RK)(h:Heap)(l1 l2:Addr):Heap:=(zh1 k1 h l1).push (k2.itO l2)
noncomputable abbrev zh3(k1 k2:RK)(h:Heap)(l1 l2:Addr):Heap:=(zh2 k1 k2 h l1 l2).push { cls:=.type "tuple",data:=.seq #[.ref h.objs.size,.ref (zh1 k1 h l1).objs.size] }
noncomputable abbrev zh4(k1 k2:RK)(h:Heap)(l1 l2:Addr):Heap:=(zh3 k1 k2 h l1 l2).push { cls:=.type "tuple",data:=.seq #[.none,.none] }
noncomputable abbrev zh5(k1 k2:RK)(h:Heap)(l1 l2:Addr):Heap:=(zh4 k1 k2 h l1 l2).push { cls:=.type "zip",data:=.fields #[.none,.bool false,.bool false,.ref (zh2 k1 k2 h l1 l2).objs.size,.ref (zh3 k1 k2 h l1 l2).objs.size] }
theorem qim(k1 k2:RK)(l1 l2:Addr)(xs ys:Array Value):Meets (Builtin.«zip.__new__» ⟨[.type "zip",.ref l1,.ref l2],[]⟩) (fun _ R s=>k1.Sq s.heap l1 xs∧k2.Sq s.heap l2 ys∧R (.ok (.ret (.ref (zh4 k1 k2 s.heap l1 l2).objs.size))) { s with heap:=zh5 k1 k2 s.heap l1 l2 }):=
 .of_wp fun prog w A R s h=>by
  obtain⟨hp,g,d,tk,os⟩:=s
  obtain⟨q1,q2,h⟩:=h
  have hsub:=sub_zip
  have L1:k1.Sq (Shared.heap ⟨hp,g,d,tk,os⟩) l1 xs:=q1
  have L2:k2.Sq (Shared.heap ⟨hp.push (k1.itO l1),g,d,tk,os⟩) l2 ys:=q2.on fun o e=>Qqz _ e
  wp_walk using qda L1,qda L2
  exact⟨_,rfl,h⟩
def ZipAt(k1 k2:RK)(n l1 l2:Nat)(i:Nat)(h:Heap):Prop:=
 l1<n∧l2<n∧IsZip h (n+4) (n+2) (n+3) .none∧IsPair h (n+2) (.ref n) (.ref (n+1))∧(∃ a b,IsPair h (n+3) a b)∧k1.It h n l1 i∧k2.It h (n+1) l2 i
theorem qh6{prog:Program}{w:World}{A:Around}{E:Value→Shared→Prop}{s:Shared}{k1 k2:RK}{l1 l2:Nat}{xs ys:Array Value}{Q:Value→Shared→Prop}(q1:k1.Sq s.heap l1 xs)(q2:k2.Sq s.heap l2 ys)(b1:l1<s.heap.objs.size)(b2:l2<s.heap.objs.size)
  (h:∀ h',ZipAt k1 k2 s.heap.objs.size l1 l2 0 h'→(∀ c o,s.heap.get? c=some o→h'.get? c=some o)→Q (.ref (s.heap.objs.size+4)) { s with heap:=h' }):wpAny (model prog w) A (call (.type "zip") [.ref l1,.ref l2]) Q E s:=by
 refine callType_new F.called_zip (by decide) (F.typeCall_zip_2 _ _) (F.newCall_zip_2 _ _) (fun obj=>F.args_object_init_3 obj _ _) F.entry_zip_new (qim k1 k2 l1 l2 xs ys) ⟨q1,q2,?_⟩
 have z1:(zh1 k1 s.heap l1).objs.size=s.heap.objs.size+1:=Qzm ..
 have z2:(zh2 k1 k2 s.heap l1 l2).objs.size=s.heap.objs.size+2:=by rw[Qzm,z1]
 have z3:(zh3 k1 k2 s.heap l1 l2).objs.size=s.heap.objs.size+3:=by rw[Qzm,z2]
 have z4:(zh4 k1 k2 s.heap l1 l2).objs.size=s.heap.objs.size+4:=by rw[Qzm,z3]
 have g5:(zh5 k1 k2 s.heap l1 l2).get? (zh4 k1 k2 s.heap l1 l2).objs.size=some _:=Qqw _ rfl
 have g4:(zh5 k1 k2 s.heap l1 l2).get? (zh3 k1 k2 s.heap l1 l2).objs.size=some _:=Qqz _ (Qqw _ rfl)
 have g3:(zh5 k1 k2 s.heap l1 l2).get? (zh2 k1 k2 s.heap l1 l2).objs.size=some _:=Qqz _ (Qqz _ (Qqw _ rfl))
 have g2:k2.It (zh5 k1 k2 s.heap l1 l2) (zh1 k1 s.heap l1).objs.size l2 0:=row_new.on fun o e=>Qqz _ (Qqz _ (Qqz _ e))
 have g1:k1.It (zh5 k1 k2 s.heap l1 l2) s.heap.objs.size l1 0:=row_new.on fun o e=>Qqz _ (Qqz _ (Qqz _ (Qqz _ e)))
 show _∧_
 rw[z2,z3,z4]at g5
 rw[z1,z2]at g3
 rw[z3]at g4
 rw[z1]at g2
 rw[z4]
 exact⟨⟨_,g5,rfl⟩,h _ ⟨b1,b2,g5,g3,⟨_,_,g4⟩,g1,g2⟩ fun c o x=>Qqz _ (Qqz _ (Qqz _ (Qqz _ (Qqz _ x))))⟩
def RK.sq(k:RK)(K:Qqq)(H:Hp)(a:Addr)(xs:List V):Prop:=match k with
 |.lst=>SqL K H a xs
 |.tup=>SqT K H a xs
noncomputable def Itz(K:Qqq)(k1 k2:RK)(a b:Addr):It:=
 ⟨fun i H=>∃ xs ys x y,k1.sq K H a xs∧k2.sq K H b ys∧xs[i]?=some x∧ys[i]?=some y,
  fun i H v H'=>∃ p x y,v=.ref p∧H p=none∧H'=upd H p (.tup [x,y])∧(∀ xs,k1.sq K H a xs→xs[i]?=some x)∧∀ ys,k2.sq K H b ys→ys[i]?=some y,
  fun i H=>∃ xs ys,k1.sq K H a xs∧k2.sq K H b ys∧(xs.length≤i∨ys.length≤i)⟩
section
variable {X:Cx}{pins:List (Addr×Obj)}{σ:L2.St}{H:Hp}{s:Shared}
theorem qw9{k:RK}{a:Addr}{xs:List V}(I:Inv X pins σ H s)(q:k.sq X.K H a xs):∃ its,Vals xs its∧k.Sq s.heap a its.toArray:=by
 cases k with
 |lst=>obtain⟨its,rv,p,hz⟩:=I.list q; exact⟨its,rv,p.isList⟩
 |tup=>obtain⟨its,rv,p,hz⟩:=I.tuple q; exact⟨its,rv,show s.heap.IsTuple a its.toArray from p⟩
theorem qgj{k:RK}{a:Addr}{xs ys:List V}(I:Inv X pins σ H s)(q:k.sq X.K H a xs)(q':k.sq X.K H a ys):xs=ys:=by
 cases k with
 |lst=>exact I.list_inj q q'
 |tup=>exact I.tuple_inj q q'
end
noncomputable def fpZ(n:Nat):List Addr:=[n+4,n+2,n+3,n,n+1]
theorem qin{P:Program}{w:World}{K:Qqq}{elts:List Expr}{c:Nat}{pos:Pos}(k1 k2:RK)(n a b:Nat):Turn P w K (.Tuple elts c pos) (Itz K k1 k2 a b) (fpZ n) (n+4) (ZipAt k1 k2 n a b) where
 mem:=by simp[fpZ]
 obj:=fun i h st e he=>by
  obtain⟨b1,b2,hz,hI,⟨x,y,hO⟩,h1,h2⟩:=st
  simp only[fpZ,Qqh,Qq1,or_false]at he
  rcases he with rfl|rfl|rfl|rfl|rfl
  ·exact⟨_,hz,fun v z=>nomatch z⟩
  ·exact⟨_,hI,fun v z=>nomatch z⟩
  ·exact⟨_,hO,fun v z=>nomatch z⟩
  ·exact h1.obj
  ·exact h2.obj
 keep:=fun i h h' st k=>by
  obtain⟨b1,b2,hz,hI,⟨x,y,hO⟩,h1,h2⟩:=st
  exact⟨b1,b2,k _ (by simp[fpZ]) _ hz,k _ (by simp[fpZ]) _ hI,⟨x,y,k _ (by simp[fpZ]) _ hO⟩,h1.on fun o e=>k _ (by simp[fpZ]) o e,h2.on fun o e=>k _ (by simp[fpZ]) o e⟩
 item:=by
  intro X hP hw hK hc i pins s σ H E I hf st hg
  subst hP hw hK
  obtain⟨xs,ys,x,y,qx,qy,ex,ey⟩:=hg
  obtain⟨b1,b2,hz,hI,⟨ua,ub,hO⟩,h1,h2⟩:=st
  obtain⟨vx,rx,sx⟩:=qw9 I qx
  obtain⟨vy,ry,sy⟩:=qw9 I qy
  obtain⟨u1,hu1,ru1⟩:=rx.get ex
  obtain⟨u2,hu2,ru2⟩:=ry.get ey
  refine zip_get b1 b2 hz hI hO h1 h2 sx sy (x:=u1) (y:=u2) (by simpa using hu1) (by simpa using hu2) fun h' a1 a2 a3 a4 a5 a6 kp=>⟨_,rfl,?_⟩
  refine wpAny_letOwnedTupleGo_zip (s:={ s with heap:=h' }) a1 fun h9 c1 c2=>?_
  have ex2:=c2.extBut
  have lt:∀ b∈fpZ n,b≠s.heap.objs.size:=fun b hb z=>by
   have q:b<s.heap.objs.size:=by
    simp only[fpZ,Qqh,Qq1,or_false]at hb
    rcases hb with rfl|rfl|rfl|rfl|rfl
    ·exact Qqv hz
    ·exact Qqv hI
    ·exact Qqv hO
    ·obtain⟨o,e,_⟩:=h1.obj; exact Qqv e
    ·obtain⟨o,e,_⟩:=h2.obj; exact Qqv e
   rw[z]at q
   exact Qzi _ q
  have nz:s.heap.objs.size≠n+4:=fun z=>lt (n+4) (by simp[fpZ]) z.symm
  have I1:Inv X pins σ H { s with heap:=h9,toks:=s.toks }:=Inv.turnedL (ch:=fpZ n) I (fun b o hb e=>ex2 _ _ (fun z=>hb (by simp[fpZ,z])) (kp b o (fun z=>hb (by simp[fpZ,z])) (fun z=>hb (by simp[fpZ,z])) (fun z=>hb (by simp[fpZ,z])) (fun z=>hb (by simp[fpZ,z])) e)) hf
  have fr:H s.heap.objs.size=none:=I.hok.fresh (Qqj _)
  have I2:Inv X pins σ (upd H s.heap.objs.size (.tup [x,y])) { s with heap:=h9,toks:=s.toks }:=Inv.track I1 (I.fpOk (Qqj _) fr) ⟨by show 2≤sizeLine; decide,[u1,u2],.cons ru1 (.cons ru2 .nil),⟨_,ex2 _ _ nz a6,rfl,_,rfl⟩⟩
  refine⟨.ref s.heap.objs.size,upd H s.heap.objs.size (.tup [x,y]),I2,rfl,⟨_,x,y,rfl,fr,rfl,fun zs hz'=>?_,fun zs hz'=>?_⟩,⟨b1,b2,c1,ex2 _ _ (by show @Ne Nat _ _; omega) a2,⟨_,_,ex2 _ _ (by show @Ne Nat _ _; omega) a3⟩,a4.on fun o e=>ex2 _ o (by show @Ne Nat _ _; omega) e,a5.on fun o e=>ex2 _ o (by show @Ne Nat _ _; omega) e⟩,fun b hb=>?_⟩
  ·rw[qgj I hz' qx]; exact ex
  ·rw[qgj I hz' qy]; exact ey
  ·rw[qzj (lt b hb)]; exact(hf b hb).1
 done:=by
  intro X hP hw hK hc i pins s σ H E I hf st hg
  subst hP hw hK
  obtain⟨xs,ys,qx,qy,hend⟩:=hg
  obtain⟨b1,b2,hz,hI,⟨ua,ub,hO⟩,h1,h2⟩:=st
  obtain⟨vx,rx,sx⟩:=qw9 I qx
  obtain⟨vy,ry,sy⟩:=qw9 I qy
  have lx:=rx.length
  have ly:=ry.length
  refine qil (I.ok.hd hc) b1 b2 hz hI hO h1 h2 sx sy ?_ fun h' kp=>⟨rfl,Inv.turnedL (ch:=fpZ n) I (fun b o hb e=>kp b o (fun z=>hb (by simp[fpZ,z])) (fun z=>hb (by simp[fpZ,z])) (fun z=>hb (by simp[fpZ,z])) (fun z=>hb (by simp[fpZ,z])) e) hf⟩
  rcases hend with h|h
  ·exact .inl (by simp; omega)
  ·exact .inr (by simp; omega)
 self:=fun _ _ _ _ _ st h=>wpAny_pyIter_zip st.2.2.1 h
noncomputable def iZip(K:Qqq)(ta:TA):TI:=fun σ H R=>ta σ H fun vs H1=>∃ (k1 k2:RK) (a b:Addr),vs=[.ref a,.ref b]∧(∃ xs,k1.sq K H1 a xs)∧(∃ ys,k2.sq K H1 b ys)∧R (Itz K k1 k2 a b) H1
theorem pi_zip{X:Cx}{a b:Expr}{ta:TA}{p pos:Pos}{elts:List Expr}{c:Nat}{tpos:Pos}(hg:Gl X "zip")(hm:X.mg "zip" = none)(ha:PA X [a,b] ta)(hs:starEach [a,b] X.env=[(false,eval a X.env),(false,eval b X.env)]:=by rfl)(hs2:starEach [b] X.env=[(false,eval b X.env)]:=by rfl):
  PI X (.Tuple elts c tpos) (.Call (.Name "zip" p) [a,b] [] pos) (iZip X.K ta):=by
 intro pins s σ H R I h
 refine Call_ (qyj I hg hm boot_zip (PyProof.Rows.callWith_type1 (thn (ha pos pins s σ H _ I h) fun us s1 ⟨vs,H1,I1,r1,q1⟩=>?_) (by rw[hs,hs2]) (by rw[hs2]; rfl)))
 obtain⟨k1,k2,a,b,e,⟨xs,qx⟩,⟨ys,qy⟩,q⟩:=q1
 subst e
 cases r1 with
 |cons r rr=>
  cases rr with
  |cons r' rr=>
   cases rr
   cases r
   cases r'
   obtain⟨vx,rx,sx⟩:=qw9 I1 qx
   obtain⟨vy,ry,sy⟩:=qw9 I1 qy
   have la:a<s1.heap.objs.size:=by
    cases k1<;>(obtain⟨o,e,_⟩:=sx; exact Qqv e)
   have lb:b<s1.heap.objs.size:=by
    cases k2<;>(obtain⟨o,e,_⟩:=sy; exact Qqv e)
   refine qh6 sx sy la lb fun h' st kp=>?_
   refine wpAny_pyIter_zip (s:={ s1 with heap:=h' }) st.2.2.1 ?_
   refine⟨s1.heap.objs.size+4,fpZ s1.heap.objs.size,_,_,H1,rfl,I1.kept (t':=s1.toks) kp,qin k1 k2 _ a b,st,fun d hd=>?_,q⟩
   have ld:s1.heap.objs.size≤d:=by
    simp only[fpZ,Qqh,Qq1,or_false]at hd
    rcases hd with rfl|rfl|rfl|rfl|rfl<;>(show @LE.le Nat _ _ _; omega)
   exact I1.fpOk ld (I1.hok.fresh ld)
end MS
end
section
namespace MS
open PySem PySem.Spec PyProof.Rows L2
section
variable {X:Cx}
theorem qik:CallR X (.type "int") (rC X.K M.bInt):=by
 intro pins s σ H xs us Q I r h
 refine h.el fun m st ds d st' R0 ix e q=>?_
 unfold M.bInt at e
 split at e
 ·rename_i z
  split at e
  ·rename_i hz
   cases e
   obtain⟨x,rfl,i⟩:=ix.one
   have hx:=i.str
   subst hx
   cases r with
   |cons r rr=>
    cases rr
    obtain⟨t,rfl⟩:=r
    simp only[Qqy,decide_eq_true_eq]at hz
    obtain⟨⟨h1,h2⟩,h3⟩:=hz
    have hd:NumText.AllDigits z.cps.toList:=fun c hc=>by
     have:=Qzo.mp h2 c hc
     unfold M.isFig at this
     simpa using this
    have hne:z.cps.toList≠[]:=fun e=>by rw[e]at h1; cases h1
    exact PySem.W.KIN.call_text (PySem.intText_digits hd hne (by omega)) h3 ⟨.int _,H,I.tok _,⟨_,rfl⟩,q.here R0 (mkInt _)⟩
  ·cases e
 ·rename_i i
  cases e
  obtain⟨x,rfl,j⟩:=ix.one
  exact qbt pins s σ H _ us Q I r (.inl ⟨i,by rw[j.int],q.here R0 (mkInt _)⟩)
 ·rename_i k
  cases e
  obtain⟨x,rfl,j⟩:=ix.one
  exact qbt pins s σ H _ us Q I r (.inr ⟨k,by rw[j.bl],q.here R0 (mkInt _)⟩)
 ·cases e
end
end MS
end
section
namespace MS
open PySem PySem.Spec PyProof.Rows L2
inductive EntOk (prm:Params):List DictEntry→List Str→List Value→Prop
 |nil:EntOk prm [] [] []
 |cons {k:Str}{t:Tok}{u:Value}{es:List DictEntry}{ks:List Str}{us:List Value}(h:EntOk prm es ks us):EntOk prm (⟨PyData.keyHash prm k,.str k t,u⟩::es) (k::ks) (u::us)
structure FDict (prm:Params) (K:Qqq) (a:Addr) (ks:List Str) (ds:List M.D):Prop where
 ex:∃ (us:List Value) (vs:List V) (es:Array DictEntry) (ep:Nat),K.lookup a=some { cls:=.type "dict",data:=.dict es ep }∧EntOk prm es.toList ks us∧Vals vs us∧∀ m H,IsDs K m H ds vs
 nd:ks.Nodup
 ne:(a==sysModules)=false
noncomputable def kzip{α:Type}(ks:List Str)(us:List α):List (Key×α):=(ks.map fun k=>(Sum.inr k:Key)).zip us
theorem qd5{P:Program}{w:World}:∀ {es:List DictEntry}{ks:List Str}{us:List Value},EntOk w.params es ks us→(∀ e∈es,∃ k,(mixKind P w).is k e.key=true∧e.hash=(mixKind P w).hash k)∧PySem.Pairs (mixKind P w) es (kzip ks us)∧(kzip ks us).map (·.1)=ks.map fun k=>(Sum.inr k:Key)
 |_,_,_,.nil=>⟨(fun e h=>nomatch h),.nil,rfl⟩
 |_,_,_,.cons (k:=k) (t:=t) (u:=u) h=>by
  obtain⟨h1,h2,h3⟩:=qd5 (P:=P) h
  refine⟨fun e he=>?_,?_,?_⟩
  ·rcases Qqh.mp he with q|q
   ·subst q
    exact⟨.inr k,qxo P w k t,rfl⟩
   ·exact h1 e q
  ·exact .cons (qxo P w k t) rfl h2
  ·exact congrArg (List.cons (Sum.inr k:Key)) h3
theorem qhg{X:Cx}{pins:List (Addr×Obj)}{σ:L2.St}{H:Hp}{s:Shared}{a:Addr}{ks:List Str}{ds:List M.D}(I:Inv X pins σ H s)(h:FDict X.w.params X.K a ks ds):
  ∃ (us:List Value) (vs:List V),s.heap.DictOf (mixKind X.prog X.w) a (kzip ks us)∧Vals vs us∧(∀ m H,IsDs X.K m H ds vs)∧ks.length=us.length:=by
 obtain⟨us,vs,es,ep,e1,e2,e3,e4⟩:=h.ex
 obtain⟨h1,h2,h3⟩:=qd5 (P:=X.prog) (w:=X.w) e2
 refine⟨us,vs,⟨_,es,ep,I.kIn a _ e1,⟨rfl,rfl,rfl⟩,rfl,fun e he=>h1 e (by simpa using he),h2,?_⟩,e3,e4,?_⟩
 ·rw[h3]
  exact(List.pairwise_map.mpr (h.nd.imp fun hne hq=>hne (Sum.inr.inj hq)))
 ·have:∀ {es:List DictEntry}{ks:List Str}{us:List Value},EntOk X.w.params es ks us→ks.length=us.length:=by
   intro es ks us q
   induction q with
   |nil=>rfl
   |cons _ ih=>rw[Qqd,Qqd,ih]
  exact this e2
theorem qol{α:Type}(z:Str):∀ (ks:List Str) (us:List α),((kzip ks us).find? fun p=>decide (p.1=Sum.inr z)).map (·.2)=((ks.zip us).find? fun q=>q.1==z).map (·.2)
 |[],us=>rfl
 |k::ks,[]=>rfl
 |k::ks,u::us=>by
  have ih:=qol z ks us
  show((((Sum.inr k:Key),u)::kzip ks us).find? fun p=>decide (p.1=Sum.inr z)).map (·.2)=(((k,u)::ks.zip us).find? fun q=>q.1==z).map (·.2)
  rw[Qzq,Qzq]
  by_cases h:k=z
  ·have h1:decide ((Sum.inr k:Key)=Sum.inr z)=true:=by rw[h]; simp
   have h2:(k==z)=true:=by rw[h]; simp
   simp only[h1,h2]
   rfl
  ·have h1:decide ((Sum.inr k:Key)=Sum.inr z)=false:=decide_eq_false fun q=>h (Sum.inr.inj q)
   have h2:(k==z)=false:=by simpa using h
   simp only[h1,h2]
   exact ih
theorem qha{K:Qqq}(z:Str):∀ {ks:List Str}{ds:List M.D}{vs:List V}{us:List Value},(∀ m H,IsDs K m H ds vs)→Vals vs us→ks.length=us.length→
  (((ks.zip ds).find? fun q=>q.1==z)=none∧((ks.zip us).find? fun q=>q.1==z)=none∧ks.contains z=false)∨∃ k d v u,((ks.zip ds).find? fun q=>q.1==z)=some (k,d)∧((ks.zip us).find? fun q=>q.1==z)=some (k,u)∧(∀ m H,MS.IsD K m H d v)∧RelV v u∧ks.contains z=true
 |[],ds,vs,us,i,r,h=>.inl ⟨rfl,rfl,rfl⟩
 |k::ks,[],vs,us,i,r,h=>by
  rw[(i [] fun _=>none).nil]at r
  cases r
  cases h
 |k::ks,d::ds,vs,us,i,r,h=>by
  obtain⟨v,vr,e,_,_⟩:=(i [] fun _=>none).cons
  subst e
  have i1:∀ m H,MS.IsD K m H d v:=fun m H=>by
   obtain⟨v',vr',e,q,_⟩:=(i m H).cons
   cases e
   exact q
  have i2:∀ m H,IsDs K m H ds vr:=fun m H=>by
   obtain⟨v',vr',e,_,q⟩:=(i m H).cons
   cases e
   exact q
  cases r with
  |cons r1 r2=>
   rename_i u us
   by_cases hk:k=z
   ·subst hk
    refine .inr ⟨k,d,v,u,by simp,by simp,i1,r1,by simp⟩
   ·have h2:(k==z)=false:=by simpa using hk
    have h3:(z==k)=false:=by simpa using Ne.symm hk
    have ih:=qha z (ks:=ks) i2 r2 (by simpa using h)
    rw[List.zip_cons_cons,List.zip_cons_cons,Qzq,Qzq,List.contains_cons]
    simp only[h2,h3,Qjc]
    exact ih
section
variable {X:Cx}{b:Expr}{tb:TE}{pos p0:Pos}{x:Str}
theorem qn0{a:Addr}{ks:List Str}{ds:List M.D}(hg:Gl X x)(hm:X.mg x=some (.ref a))(hF:FDict X.w.params X.K a ks ds)(hd:(x==("__debug__" : Str))=false)(hb:PE X b tb)(hs:NoSl b):
  PE X (.Subscript (.Name x p0) b pos) (fun σ H Q=>tb σ H fun y H2=>∃ z d,y=.str z∧(∃ k,((ks.zip ds).find? fun q=>q.1==z)=some (k,d))∧∀ v,(∀ m,MS.IsD X.K m H2 d v)→Q v H2):=by
 intro pins s σ H Q I h
 refine qfu PySem.F.slot_dict_getitem.lookup hs (thn (qcc hg hm (show RelV (.ref a) (.ref a) from rfl) hd pins s σ H (fun x H1=>x=.ref a∧tb σ H1 _) I ⟨rfl,h⟩) fun u s1 ⟨x',H1,I1,rx,ex,q1⟩=>?_)
 subst ex
 cases rx
 refine thn (hb pins s1 σ H1 _ I1 q1) fun iv s2 ⟨y,H2,I2,ry,z,d,ey,⟨k,ek⟩,q2⟩=>?_
 subst ey
 obtain⟨us,vs,dd,rv,hI,hl⟩:=qhg I2 hF
 refine⟨dd.typeIs,?_⟩
 rcases qha z hI rv hl with⟨n1,_,_⟩|⟨k',d',v',u',f1,f2,f3,f4,_⟩
 ·rw[n1]at ek; cases ek
 ·rw[f1]at ek
  cases ek
  have hw:valueAt (kzip ks us) (Sum.inr z)=some u':=by
   unfold valueAt
   rw[qol,f2]
   rfl
  exact wpAny_getItem_of (qy9 (k:=.inr z) ry) dd.mapOf hw ⟨v',H2,I2.tok _,f4,q2 v' fun m=>f3 m H2⟩
theorem gd_has{X:Cx}{pins:List (Addr×Obj)}{σ:L2.St}{H:Hp}{s:Shared}{a:Addr}{ks:List Str}{ds:List M.D}(I:Inv X pins σ H s)(hF:FDict X.w.params X.K a ks ds)(z:Str):
  ∃ us,s.heap.DictOf (mixKind X.prog X.w) a (kzip ks us)∧(valueAt (kzip ks us) (Sum.inr z)).isSome=ks.contains z:=by
 obtain⟨us,vs,dd,rv,hI,hl⟩:=qhg I hF
 refine⟨us,dd,?_⟩
 unfold valueAt
 rw[qol]
 rcases qha z hI rv hl with⟨_,n2,n3⟩|⟨k',d',v',u',f1,f2,f3,f4,f5⟩
 ·rw[n2,n3]; rfl
 ·rw[f2,f5]; rfl
theorem pc_gin{a:Addr}{ks:List Str}{ds:List M.D}(neg:Bool)(hg:Gl X x)(hm:X.mg x=some (.ref a))(hF:FDict X.w.params X.K a ks ds)(hd:(x==("__debug__" : Str))=false)(hb:PE X b tb):
  PC X (if neg then .NotIn else .In) b (.Name x p0) (fun σ H Q=>tb σ H fun y H2=>∃ z,y=.str z∧Q (.bl (ks.contains z != neg)) H2):=by
 intro pins s σ H Q I h
 refine thn (hb pins s σ H _ I h) fun iv s1 ⟨y,H1,I1,ry,z,ey,q1⟩=>?_
 subst ey
 refine thn (qcc hg hm (show RelV (.ref a) (.ref a) from rfl) hd pins s1 σ H1 (fun x H2=>x=.ref a∧Q (.bl (ks.contains z != neg)) H2) I1 ⟨rfl,q1⟩) fun u s2 ⟨x',H2,I2,rx,ex,q2⟩=>?_
 subst ex
 cases rx
 obtain⟨us,dd,hs⟩:=gd_has I2 hF z
 cases neg with
 |false=>
  refine wpAny_in_of (qy9 (k:=.inr z) ry) hF.ne dd.mapOf ?_
  rw[hs]
  refine⟨.bl _,H2,I2.tok _,rfl,?_⟩
  simpa using q2
 |true=>
  refine wpAny_notIn_of (qy9 (k:=.inr z) ry) hF.ne dd.mapOf ?_
  rw[hs]
  refine⟨.bl _,H2,I2.tok _,rfl,?_⟩
  simpa using q2
open M (D Cell Store Sl)
theorem qge{a:Addr}{ks:List Str}{ds:List D}{fb:Sl→Store→Option (D×Store)}(neg:Bool)(hg:Gl X x)(hm:X.mg x=some (.ref a))(hF:FDict X.w.params X.K a ks ds)(hd:(x==("__debug__" : Str))=false)(hb:PE X b (tD X.K fb)):
  PC X (if neg then .NotIn else .In) b (.Name x p0) (tD X.K fun τ st=>(fb τ st).bind fun p=>match p.1 with
   |.str z=>some (.bl (ks.contains z != neg),p.2)
   |_=>none):=by
 intro pins s σ H Q I h
 refine pc_gin neg hg hm hF hd hb pins s σ H Q I ?_
 refine h.el fun m st τ d st' R0 S0 e q=>?_
 obtain⟨d1,s1,e1,e⟩:=qze e
 refine⟨m,st,τ,d1,s1,R0,S0,e1,fun y m1 H1 b1 t1 R1 i1=>?_⟩
 cases d1 with
 |str z=>
  cases e
  exact⟨z,i1.str,q _ m1 H1 b1 t1 R1 (mkBl _)⟩
 |_=>cases e
theorem qlz{a:Addr}{ks:List Str}{ds:List D}{fb:Sl→Store→Option (D×Store)}(hg:Gl X x)(hm:X.mg x=some (.ref a))(hF:FDict X.w.params X.K a ks ds)(hd:(x==("__debug__" : Str))=false)(hb:PE X b (tD X.K fb))(hs:NoSl b):
  PE X (.Subscript (.Name x p0) b pos) (tD X.K fun τ st=>(fb τ st).bind fun p=>match p.1 with
   |.str z=>((ks.zip ds).find? fun q=>q.1==z).map fun q=>(q.2,p.2)
   |_=>none):=by
 refine(qn0 hg hm hF hd hb hs).imp fun σ H Q h=>?_
 refine h.el fun m st τ d st' R0 S0 e q=>?_
 obtain⟨d1,s1,e1,e⟩:=qze e
 refine⟨m,st,τ,d1,s1,R0,S0,e1,fun y m1 H1 b1 t1 R1 i1=>?_⟩
 cases d1 with
 |str z=>
  obtain⟨w,e2,e3⟩:=mapD e
  cases e3
  exact⟨z,w.2,i1.str,⟨w.1,e2⟩,fun v hv=>q _ m1 H1 b1 t1 R1 (hv m1)⟩
 |_=>cases e
theorem qhr{K:Qqq}{m:List Addr}{H:Hp}{kvs:List (D×D)}{xs:List (Key×V)}{kd:D}{y:V}{a:Addr}(hk:M.isKey kd=true)(hkv:IsKV K m H kvs xs)(hH:Rd H a (.dK xs))(iy:MS.IsD K m H kd y):
  ∃ o,DGet H a y o∧((M.dget kvs kd=none∧o=none)∨∃ d v,M.dget kvs kd=some d∧o=some v∧MS.IsD K m H d v):=by
 obtain⟨k,hk1⟩:=qx8 hk
 have hy:=qom hk1 iy
 subst hy
 refine⟨valV xs k,.inl ⟨xs,k,hH,rfl,rfl⟩,?_⟩
 rcases hkv.get hk1 with⟨h1,h2⟩|⟨d,v,h1,h2,h3⟩
 ·exact .inl ⟨h1,h2⟩
 ·exact .inr ⟨d,v,h1,h2,h3⟩
theorem qgg{a:Expr}{fa fb:Sl→Store→Option (D×Store)}(hu:X.A.units+1<cLine)(neg:Bool)(ha:PE X a (tD X.K fa))(hb:PE X b (tD X.K fb)):
  PC X (if neg then .NotIn else .In) a b (tD X.K fun τ st=>(fa τ st).bind fun p=>(fb τ p.2).bind fun q=>match q.1 with
   |.loc l=>(M.dicAt q.2 l).bind fun kvs=>if M.isKey p.1 then some (.bl ((M.dget kvs p.1).isSome != neg),q.2) else none
   |_=>none):=by
 have key:∀ {σ:L2.St}{H:Hp}{Q:VK},tD X.K (fun τ st=>(fa τ st).bind fun p=>(fb τ p.2).bind fun q=>match q.1 with
   |.loc l=>(M.dicAt q.2 l).bind fun kvs=>if M.isKey p.1 then some (.bl ((M.dget kvs p.1).isSome != neg),q.2) else none
   |_=>none) σ H Q→tD X.K fa σ H fun y H1=>tD X.K fb σ H1 fun x H2=>∃ a o,x=.ref a∧DGet H2 a y o∧Q (.bl (o.isSome != neg)) H2:=by
  intro σ H Q h
  refine h.el fun m st τ d st' R0 S0 e q=>?_
  obtain⟨d1,s1,e1,e⟩:=qze e
  obtain⟨d2,s2,e2,e⟩:=qze e
  refine⟨m,st,τ,d1,s1,R0,S0,e1,fun y m1 H1 b1 t1 R1 i1=>⟨m1,s1,τ,d2,s2,R1,S0.mono b1 t1,e2,fun z m2 H2 b2 t2 R2 i2=>?_⟩⟩
  cases d2 with
  |loc l=>
   obtain⟨kvs,e3,e⟩:=qzd e
   split at e
   ·rename_i hk
    cases e
    obtain⟨a',xs,_,rfl,hH,hkv⟩:=R2.dict e3 i2
    obtain⟨o,g,hg⟩:=qhr hk hkv hH (qza b2 t2 _ _ i1)
    refine⟨a',o,rfl,g,?_⟩
    have e4:o.isSome=(M.dget kvs d1).isSome:=by
     rcases hg with⟨h1,h2⟩|⟨d,v,h1,h2,_⟩
     ·rw[h1,h2]; rfl
     ·rw[h1,h2]; rfl
    rw[e4]
    exact q _ m2 H2 (b1.trans b2) (t1.trans t2) R2 (mkBl _)
   ·cases e
  |_=>cases e
 cases neg with
 |false=>
  intro pins s σ H Q I h
  refine pc_din hu ha hb pins s σ H Q I ?_
  have:=key h
  simpa only[tDIn,Bool.bne_false] using this
 |true=>
  intro pins s σ H Q I h
  refine qgf hu ha hb pins s σ H Q I ?_
  have:=key h
  simpa only[qfs,Bool.bne_true] using this
theorem qlq{a:Expr}{fa fb:Sl→Store→Option (D×Store)}(hu:X.A.units+1<cLine)(ha:PE X a (tD X.K fa))(hb:PE X b (tD X.K fb))(hs:NoSl b):
  PE X (.Subscript a b pos) (tD X.K fun τ st=>(fa τ st).bind fun p=>(fb τ p.2).bind fun q=>match p.1 with
   |.loc l=>(M.dicAt q.2 l).bind fun kvs=>if M.isKey q.1 then(M.dget kvs q.1).map fun d=>(d,q.2) else none
   |_=>none):=by
 refine(qn2 hu ha hb hs).imp fun σ H Q h=>?_
 refine h.el fun m st τ d st' R0 S0 e q=>?_
 obtain⟨d1,s1,e1,e⟩:=qze e
 obtain⟨d2,s2,e2,e⟩:=qze e
 refine⟨m,st,τ,d1,s1,R0,S0,e1,fun y m1 H1 b1 t1 R1 i1=>⟨m1,s1,τ,d2,s2,R1,S0.mono b1 t1,e2,fun z m2 H2 b2 t2 R2 i2=>?_⟩⟩
 cases d1 with
 |loc l=>
  obtain⟨kvs,e3,e⟩:=qzd e
  split at e
  ·rename_i hk
   obtain⟨w,e4,e5⟩:=mapD e
   cases e5
   obtain⟨a',xs,_,rfl,hH,hkv⟩:=R2.dict e3 (qza b2 t2 _ _ i1)
   obtain⟨o,g,hg⟩:=qhr hk hkv hH i2
   rcases hg with⟨h1,h2⟩|⟨d,v,h1,h2,h3⟩
   ·rw[h1]at e4; cases e4
   ·rw[h1]at e4
    cases e4
    subst h2
    exact⟨a',v,rfl,g,q _ m2 H2 (b1.trans b2) (t1.trans t2) R2 h3⟩
  ·cases e
 |_=>cases e
theorem qfg:CallR X (.type "dict") (rC X.K M.bDict):=by
 intro pins s σ H xs us Q I r h
 refine h.el fun m st ds d st' R0 ix e q=>?_
 unfold M.bDict at e
 split at e
 ·obtain⟨kvs,e1,e2⟩:=mapD e
  cases e2
  obtain⟨x,rfl,i⟩:=ix.one
  obtain⟨p,ys,_,rfl,hq,hkv⟩:=R0.dict e1 i
  obtain⟨u,rfl,rx⟩:=vals1 r
  cases rx
  exact qlu I hq fun l s' hl I'=>⟨.ref l,_,I',rfl,q _ (m++[l]) _ (Sub.app m [l]) (Tr.of_same (qzy hl)) (R0.newD hl hkv) R0.newLoc⟩
 ·cases e
end
end MS
end
section
namespace MS
open PySem PySem.Spec PyProof.Rows L2
section
variable {prog:Program}{w:World}{A:Around}{E:Value→Shared→Prop}{s:Shared}{x:Str}{t:Tok}{Q:Value→Shared→Prop}
end
section
variable {X:Cx}
inductive PEs (X:Cx):List Expr→List TE→Prop
 |nil:PEs X [] []
 |cons {p:Expr}{ps:List Expr}{t:TE}{ts:List TE}(h:PE X p t) (r:PEs X ps ts):PEs X (p::ps) (t::ts)
open M (D Cell Store Sl)
end
end MS
end
section
namespace MS
open PySem PySem.Spec PyProof.Rows L2
open M (D Cell Store Sl)
section
variable {K:Qqq}{m m1:List Addr}{H H1:Hp}
mutual
theorem qmd:∀ (d:D) (v:V),M.noLoc d=true→MS.IsD K m1 H1 d v→MS.IsD K m H1 d v
 |.non,_,_,h=>by rw[h.non]; exact qce
 |.bl _,_,_,h=>by rw[h.bl]; exact mkBl _
 |.int _,_,_,h=>by rw[h.int]; exact mkInt _
 |.str _,_,_,h=>by rw[h.str]; exact mkStr _
 |.tup ds,_,n,h=>by
  obtain⟨a,xs,rfl,q,r⟩:=h.tup
  unfold M.noLoc at n
  exact qzt q (qaq ds xs n r)
 |.lst ds,_,n,h=>by
  obtain⟨a,xs,rfl,q,r⟩:=h.lst
  unfold M.noLoc at n
  exact qgt q (qaq ds xs n r)
 |.loc l,_,n,h=>by unfold M.noLoc at n; cases n
theorem qaq:∀ (ds:List D) (xs:List V),M.noLocs ds=true→IsDs K m1 H1 ds xs→IsDs K m H1 ds xs
 |[],_,_,h=>by rw[h.nil]; exact qzm
 |d::ds,_,n,h=>by
  obtain⟨x,r,rfl,q,t⟩:=h.cons
  unfold M.noLocs at n
  rw[Qqy]at n
  exact qzx (qmd d x n.1 q) (qaq ds r n.2 t)
end
mutual
theorem qaj(s:Sub m m1):∀ (d:D) (v v1:V),MS.IsD K m H d v→MS.IsD K m1 H1 d v1→MS.IsD K m H1 d v1
 |.non,_,_,_,h=>by rw[h.non]; exact qce
 |.bl _,_,_,_,h=>by rw[h.bl]; exact mkBl _
 |.int _,_,_,_,h=>by rw[h.int]; exact mkInt _
 |.str _,_,_,_,h=>by rw[h.str]; exact mkStr _
 |.tup ds,_,_,h0,h=>by
  obtain⟨a,xs,rfl,q,r⟩:=h.tup
  obtain⟨a0,xs0,_,_,r0⟩:=h0.tup
  exact qzt q (qq3 s ds xs0 xs r0 r)
 |.lst ds,_,_,h0,h=>by
  obtain⟨a,xs,rfl,q,r⟩:=h.lst
  obtain⟨a0,xs0,_,_,r0⟩:=h0.lst
  exact qgt q (qq3 s ds xs0 xs r0 r)
 |.loc l,_,_,h0,h=>by
  obtain⟨a0,e0,_⟩:=h0.loc
  obtain⟨a,e,rfl⟩:=h.loc
  have:=s l a0 e0
  rw[e]at this
  cases this
  exact qlv e0
theorem qq3(s:Sub m m1):∀ (ds:List D) (xs xs1:List V),IsDs K m H ds xs→IsDs K m1 H1 ds xs1→IsDs K m H1 ds xs1
 |[],_,_,_,h=>by rw[h.nil]; exact qzm
 |d::ds,_,_,h0,h=>by
  obtain⟨x,r,rfl,q,t⟩:=h.cons
  obtain⟨x0,r0,rfl,q0,t0⟩:=h0.cons
  exact qzx (qaj s d x0 x q0 q) (qq3 s ds r0 r t0 t)
end
theorem qvl(s:Sub m m1):∀ (kvs:List (D×D)) (xs xs1:List (Key×V)),IsKV K m H kvs xs→IsKV K m1 H1 kvs xs1→IsKV K m H1 kvs xs1
 |[],_,_,_,h=>h
 |p::r,_,_,⟨k0,v0,xr0,e0,hk0,hv0,hr0⟩,⟨k,v,xr,e,hk,hv,hr⟩=>⟨k,v,xr,e,hk,qaj s _ _ _ hv0 hv,qvl s r _ _ hr0 hr⟩
theorem qbk(s:Sub m m1):∀ (fs:List (Str×D)) (ys ys1:List (Str×V)),IsFs K m H fs ys→IsFs K m1 H1 fs ys1→IsFs K m H1 fs ys1
 |[],_,_,_,h=>h
 |p::r,_,_,⟨v0,yr0,e0,hv0,hr0⟩,⟨v,yr,e,hv,hr⟩=>⟨v,yr,e,qaj s _ _ _ hv0 hv,qbk s r _ _ hr0 hr⟩
theorem qle(s:Sub m m1){c:Cell}{a:Addr}(h0:IsC K m H c a)(h:IsC K m1 H1 c a):IsC K m H1 c a:=by
 cases c with
 |lst w ds=>
  cases w with
  |true=>
   obtain⟨xs,e,q⟩:=h
   obtain⟨xs0,_,q0⟩:=h0
   exact⟨xs,e,qq3 s _ _ _ q0 q⟩
  |false=>
   obtain⟨xs,e,q⟩:=h
   obtain⟨xs0,_,q0⟩:=h0
   exact⟨xs,e,qq3 s _ _ _ q0 q⟩
 |dic w kvs=>
  cases w with
  |true=>
   obtain⟨xs,e,q⟩:=h
   obtain⟨xs0,_,q0⟩:=h0
   exact⟨xs,e,qvl s _ _ _ q0 q⟩
  |false=>
   obtain⟨o,xs,e,q⟩:=h
   obtain⟨_,xs0,_,q0⟩:=h0
   exact⟨o,xs,e,qvl s _ _ _ q0 q⟩
 |obj C fs=>
  obtain⟨dx,ys,e,q⟩:=h
  obtain⟨_,ys0,_,q0⟩:=h0
  exact⟨dx,ys,e,qbk s _ _ _ q0 q⟩
theorem pre_at{st st0:Store}(h:st0.take st.length=st){l:Nat}{c:Cell}(e:st[l]?=some c):st0[l]?=some c:=by
 have hl:=(Qqb.mp e).1
 rw[← h,Qxn,if_pos hl]at e
 exact e
theorem Rel.cutBack{st st0:Store}(R0:Rel K m st H)(R1:Rel K m1 st0 H1)(s:Sub m m1)(h:st0.take st.length=st){H2:Hp}(t:Tr H1 H2)(hw:∀ (l:Nat) (c:Cell) (a:Addr),st[l]?=some c→m[l]?=some a→Wr c=true→H2 a=H1 a):Rel K m st H2:=
 ⟨R0.len,R0.nd,fun l c a e ea=>qk4 (Sub.refl m) t (qle s (R0.cell l c a e ea) (R1.cell l c a (pre_at h e) (s l a ea))) fun w=>hw l c a e ea w⟩
mutual
theorem qci(s:Sub m m1):∀ (d:D) (v:V),M.lt m.length d=true→IsD K m1 H d v→IsD K m H d v
 |.non,_,_,h=>h
 |.bl _,_,_,h=>h
 |.int _,_,_,h=>h
 |.str _,_,_,h=>h
 |.tup ds,_,hl,h=>by
  unfold M.lt at hl
  obtain⟨a,xs,rfl,q,r⟩:=h.tup
  exact qzt q (qx9 s ds xs hl r)
 |.lst ds,_,hl,h=>by
  unfold M.lt at hl
  obtain⟨a,xs,rfl,q,r⟩:=h.lst
  exact qgt q (qx9 s ds xs hl r)
 |.loc l,_,hl,h=>by
  unfold M.lt at hl
  obtain⟨a,e,rfl⟩:=h.loc
  have hl:l<m.length:=by simpa[Nat.blt_eq] using hl
  have e2:m[l]?=some m[l]:=by simp
  have e3:=s l _ e2
  rw[e]at e3
  cases e3
  exact qlv e2
theorem qx9(s:Sub m m1):∀ (ds:List D) (xs:List V),M.lts m.length ds=true→IsDs K m1 H ds xs→IsDs K m H ds xs
 |[],_,_,h=>h
 |d::ds,_,hl,h=>by
  unfold M.lts at hl
  rw[Qqy]at hl
  obtain⟨x,r,rfl,q,t⟩:=h.cons
  exact qzx (qci s d x hl.1 q) (qx9 s ds r hl.2 t)
end
theorem qaz(s:Sub m m1):∀ (kvs:List (D×D)) (xs:List (Key×V)),(kvs.all fun p=>M.lt m.length p.2)=true→IsKV K m1 H kvs xs→IsKV K m H kvs xs
 |[],_,_,h=>h
 |p::r,_,hl,⟨k,v,xr,e,hk,hv,hr⟩=>by
  rw[Qxb,Qqy]at hl
  exact⟨k,v,xr,e,hk,qci s _ _ hl.1 hv,qaz s r xr hl.2 hr⟩
theorem qds(s:Sub m m1):∀ (fs:List (Str×D)) (ys:List (Str×V)),(fs.all fun p=>M.lt m.length p.2)=true→IsFs K m1 H fs ys→IsFs K m H fs ys
 |[],_,_,h=>h
 |p::r,_,hl,⟨v,yr,e,hv,hr⟩=>by
  rw[Qxb,Qqy]at hl
  exact⟨v,yr,e,qci s _ _ hl.1 hv,qds s r yr hl.2 hr⟩
theorem qop(s:Sub m m1){c:Cell}{a:Addr}(hl:M.ltC m.length c=true)(h:IsC K m1 H c a):IsC K m H c a:=by
 cases c with
 |lst w ds=>
  cases w with
  |true=>obtain⟨xs,e,q⟩:=h; exact⟨xs,e,qx9 s _ _ hl q⟩
  |false=>obtain⟨xs,e,q⟩:=h; exact⟨xs,e,qx9 s _ _ hl q⟩
 |dic w kvs=>
  cases w with
  |true=>obtain⟨xs,e,q⟩:=h; exact⟨xs,e,qaz s _ _ hl q⟩
  |false=>obtain⟨o,xs,e,q⟩:=h; exact⟨o,xs,e,qaz s _ _ hl q⟩
 |obj C fs=>obtain⟨dx,ys,e,q⟩:=h; exact⟨dx,ys,e,qds s _ _ hl q⟩
def GcOk(st st0:Store):Prop:=(st0.take st.length).all (M.ltC st.length)=true∨st0.take st.length=st
theorem gc_el{st:Store}{p q:D×Store}(e:M.gcD st p=q):p=q∨(GcOk st p.2∧M.gcX st.length p=q):=by
 unfold M.gcD at e
 split at e
 ·rename_i h; exact .inr ⟨.inl h,e⟩
 ·split at e
  ·rename_i h; exact .inr ⟨.inr h,e⟩
  ·exact .inl e
theorem qym{st0:Store}{n l:Nat}{c:Cell}(e:(st0.take n)[l]?=some c):l<n∧st0[l]?=some c:=by
 rw[Qxn]at e
 split at e
 ·rename_i h; exact⟨h,e⟩
 ·cases e
theorem Rel.cut{st st0:Store}(R0:Rel K m st H)(R1:Rel K m1 st0 H1)(s:Sub m m1)(h:GcOk st st0){H2:Hp}(t:Tr H1 H2)(hw:∀ (l:Nat) (c:Cell) (a:Addr),(st0.take st.length)[l]?=some c→m[l]?=some a→Wr c=true→H2 a=H1 a):Rel K m (st0.take st.length) H2:=by
 rcases h with h|h
 ·have hm:=R0.len
  have hle:m.length≤m1.length:=by
   rcases Qzd m1.length m.length with z|z
   ·have e2:m[m1.length]?=some (m[m1.length]'z):=by simp
    have:=(Qqb.mp (s _ _ e2)).1
    omega
   ·exact z
  have h1:=R1.len
  refine⟨by rw[Qzn]; omega,fun l l' a c c' e1 e2 e3 e4 w w'=>R1.nd l l' a c c' (s _ _ e1) (s _ _ e2) (qym e3).2 (qym e4).2 w w',fun l c a e ea=>?_⟩
  refine qk4 (Sub.refl m) t (qop s ?_ (R1.cell l c a (qym e).2 (s l a ea))) fun w=>hw l c a e ea w
  have:=Qzo.mp h c (Qq9 e)
  rw[hm]; exact this
 ·rw[h]
  exact R0.cutBack R1 s h t fun l c a e ea w=>hw l c a (by rw[h]; exact e) ea w
end
section
variable {X:Cx}
theorem qe6{pins:List (Addr×Obj)}{s:Shared}{σ:L2.St}{H:Hp}{a:Addr}{xs:List V}(I:Inv X pins σ H s)(h:H a=some (.lst xs)):∃ o,Inv X pins σ (upd H a (.frz o (.lst xs))) s:=by
 obtain⟨z,its,n,r,e⟩:=id (I.hok a _ h)
 refine⟨{ cls:=.type "list",data:=.seq its.toArray n },I.un (t':=s.toks) (h':=s.heap) ⟨fun b o q _ _ _=>q,fun b o q _ _ _=>⟨o.slots,q⟩,fun b o q hn _=>?_,fun b o q _=>⟨o,q⟩,fun b ys q=>?_,fun b o u q=>?_,fun b ps q=>⟨#[],?_⟩⟩ ?_⟩
 ·rw[qzj (fun z=>by subst z; rw[h]at hn; cases hn)]
  exact hn
 ·rw[qzj (qzu q h (by intro z; cases z))]; exact q
 ·rw[qzj (qzu q h (by intro z; cases z))]; exact q
 ·rw[qzj (qzu q h (by intro z; cases z)),q]; simp
 ·intro b u q
  by_cases hb:b=a
  ·subst hb
   rw[qzc]at q
   cases q
   exact⟨e,z,its,n,r,e⟩
  ·rw[qzj hb]at q
   refine(I.hok b u q).stay (fun c v _ w=>w) (fun c w=>?_) fun c ys w=>?_
   ·rw[qzj (qzu w h (by intro z; cases z))]; exact w
   ·rw[qzj (qzu w h (by intro z; cases z))]; exact w
theorem qor{pins:List (Addr×Obj)}{s:Shared}{σ:L2.St}{H:Hp}{a:Addr}{xs:List (Key×V)}(I:Inv X pins σ H s)(h:H a=some (.dK xs)):∃ o,s.heap.get? a=some o∧Inv X pins σ (upd H a (.frz o (.dK xs))) s:=by
 have ok:=I.hok a _ h
 obtain⟨_,_,vs,_,o,es,ep,ho,_⟩:=id ok
 refine⟨o,ho,I.un (t':=s.toks) (h':=s.heap) ⟨fun b o q _ _ _=>q,fun b o q _ _ _=>⟨o.slots,q⟩,fun b o q hn _=>?_,fun b o q _=>⟨o,q⟩,fun b ys q=>?_,fun b o u q=>?_,fun b ps q=>⟨#[],?_⟩⟩ ?_⟩
 ·rw[qzj (fun z=>by subst z; rw[h]at hn; cases hn)]
  exact hn
 ·rw[qzj (qzu q h (by intro z; cases z))]; exact q
 ·rw[qzj (qzu q h (by intro z; cases z))]; exact q
 ·rw[qzj (qzu q h (by intro z; cases z)),q]; simp
 ·intro b u q
  by_cases hb:b=a
  ·subst hb
   rw[qzc]at q
   cases q
   exact⟨ho,ok⟩
  ·rw[qzj hb]at q
   refine(I.hok b u q).stay (fun c v _ w=>w) (fun c w=>?_) fun c ys w=>?_
   ·rw[qzj (qzu w h (by intro z; cases z))]; exact w
   ·rw[qzj (qzu w h (by intro z; cases z))]; exact w
def NoFz(X:Cx)(a:Addr):Prop:=∀ o u,X.H₀ a≠some (.frz o u)
theorem qok{pins:List (Addr×Obj)}{s:Shared}{σ:L2.St}{H:Hp}{a:Addr}{xs:List (Key×V)}(I:Inv X pins σ H s)(h:H a=some (.dK xs)):NoFz X a:=fun o u z=>by
 have:=I.base.frzs a o u z
 rw[h]at this
 cases this
theorem qdt{pins:List (Addr×Obj)}{s:Shared}{σ:L2.St}{H:Hp}{a:Addr}{o:Obj}{xs:List (Key×V)}(I:Inv X pins σ H s)(nf:NoFz X a)(h:H a=some (.frz o (.dK xs))):Inv X pins σ (upd H a (.dK xs)) s:=by
 have ok:=I.hok a _ h
 have none_:∀ {b:Addr},H b=none→(upd H a (.dK xs)) b=none:=fun {b} q=>by
  rw[qzj (fun z=>by subst z; rw[h]at q; cases q)]
  exact q
 refine⟨I.ok,I.os,I.bare,⟨I.base.keep,I.base.slot,fun b o q hn hx=>none_ (I.base.free b o q hn hx),I.base.there,fun b ys q=>?_,fun b o u q=>?_,fun b ps q=>?_⟩,I.loc,I.cell,none_ I.free,fun x c q=>none_ (I.freeC x c q),fun p hp=>?_,?_,I.len⟩
 ·have:=I.base.tups b ys q
  rw[qzj (qzu this h (by intro z; cases z))]; exact this
 ·have:=I.base.frzs b o u q
  by_cases hb:b=a
  ·subst hb; exact absurd q (nf o u)
  ·rw[qzj hb]; exact this
 ·obtain⟨more,this⟩:=I.base.tbls b ps q
  exact⟨more,by rw[qzj (qzu this h (by intro z; cases z))]; exact this⟩
 ·obtain⟨p1,p2,p3⟩:=I.pin p hp
  exact⟨p1,none_ p2,p3⟩
 ·intro b u q
  by_cases hb:b=a
  ·subst hb
   rw[qzc]at q
   cases q
   exact ok.2
  ·rw[qzj hb]at q
   refine(I.hok b u q).stay (fun c v _ w=>w) (fun c w=>?_) fun c ys w=>?_
   ·rw[qzj (qzu w h (by intro z; cases z))]; exact w
   ·rw[qzj (qzu w h (by intro z; cases z))]; exact w
theorem Tr.lay{H:Hp}{a:Addr}{o:Obj}{xs:List V}(hx:H a=some (.lst xs)):Tr H (upd H a (.frz o (.lst xs))):=
 ⟨fun b zs e=>by rw[qzj (qzu e hx (by intro z; cases z))]; exact e,fun b o u e=>by rw[qzj (qzu e hx (by intro z; cases z))]; exact e⟩
theorem pe_gc{p:Expr}{f:Sl→Store→Option (D×Store)}(he:PE X p (tD X.K f)):PE X p (tD X.K fun τ st=>(f τ st).map fun q=>M.gcD st q):=by
 intro pins s σ H Q I h
 refine h.el fun m st τ d st' R0 S0 e q=>?_
 obtain⟨⟨d0,st0⟩,e1,e2⟩:=mapD e
 refine thn (he pins s σ H (fun v H1=>∃ m1,Sub m m1∧Tr H H1∧Rel X.K m1 st0 H1∧MS.IsD X.K m1 H1 d0 v) I ⟨m,st,τ,d0,st0,R0,S0,e1,fun v m1 H1 b1 t1 R1 i1=>⟨m1,b1,t1,R1,i1⟩⟩) fun v s1 ⟨x,H1,I1,r1,m1,b1,t1,R1,i1⟩=>?_
 have plain:(d0,st0)=(d,st')→EP X pins σ Q v s1:=fun z=>by
  cases z
  exact⟨x,H1,I1,r1,q x m1 H1 b1 t1 R1 i1⟩
 rcases gc_el e2 with z|⟨ok,z⟩
 ·exact plain z
 ·unfold M.gcX at z
  split at z
  ·rename_i hn
   cases z
   exact⟨x,H1,I1,r1,q x m H1 (Sub.refl m) t1 (R0.cut R1 b1 ok (Tr.refl H1) fun _ _ _ _ _ _=>rfl) (qmd _ _ hn i1)⟩
  ·split at z
   ·rename_i l hd
    simp only at hd
    split at z
    ·rename_i hl
     split at z
     ·rename_i ds hc
      split at z
      ·rename_i hn
       cases z
       subst hd
       obtain⟨a,ha,rfl⟩:=i1.loc
       obtain⟨xs,hx,ix⟩:=R1.cell l _ a hc ha
       obtain⟨o,I2⟩:=qe6 I1 hx
       have t2:=Tr.lay (o:=o) hx
       refine⟨.ref a,_,I2,r1,q _ m _ (Sub.refl m) (t1.trans t2) (R0.cut R1 b1 ok t2 fun l' c a' e ea w=>?_) ?_⟩
       ·refine qzj fun z=>?_
        subst z
        have h3:=qym e
        have:=R1.nd l' l a' c _ (b1 l' a' ea) ha h3.2 hc w rfl
        omega
       ·exact qgt (.inl ⟨o,qzc⟩) (qaq _ _ hn (qzf (Sub.refl m1) t2 _ _ ix))
      ·exact plain z
     ·exact plain z
    ·exact plain z
   ·exact plain z
end
end MS
end
section
namespace MS
open PySem PySem.Spec PyProof.Rows L2
open M (D Cell Store Sl)
theorem qbz(l:Addr)(items:Array Value)(n:Nat)(b:Addr)(items2:Array Value)(n2:Nat)(dd2:Option Addr)(sl2:Array (Option Value))(hc0:¬(!items.isEmpty&&Builtin.List.listTooLong (items.size+items2.size))=true)(hc1:items.size≤sizeLine)(hs2:items.size+items2.size≤sizeLine+1):
  Meets (Builtin.«list.extend» ⟨[.ref l,.ref b],[]⟩) (fun _ R s=>s.heap.get? l=some { cls:=.type "list",dict:=none,data:=.seq items n,slots:=#[] }∧s.heap.get? b=some { cls:=.type "list",dict:=dd2,data:=.seq items2 n2,slots:=sl2 }∧R (.ok (.ret Value.none)) { s with heap:=s.heap.update l (Obj.mapSeq fun x=>x++items2),toks:=s.toks }):=
 .of_wp fun prog w A R s h=>by
  obtain⟨hp,g,d,tk,os⟩:=s; obtain⟨hl,hb,h⟩:=h; have f1:=AutoSeq1.idx_int; have f2:=AutoSeq1.sub_tuple_tuple; have f3:=AutoSeq1.sub_list_list; have f4:=AutoSeq1.sub_tuple_list; have f5:=AutoSeq1.sub_list_tuple;
  have hz':(items++items2).size≤sizeLine+1:=by rw[Qxu]; exact hs2
  wp_walk using (wpAny_updateSeq hl rfl (hz:=hc1) (_hz':=hz')),wpAny_loadPart' hl,wpAny_loadPart' hb; exact⟨_,rfl,h⟩
theorem qbq(l:Addr)(items:Array Value)(n:Nat)(b:Addr)(items2:Array Value)(n2:Nat)(dd2:Option Addr)(sl2:Array (Option Value))(hc0:¬(!items.isEmpty&&Builtin.List.listTooLong (items.size+items2.size))=true)(hc1:items.size≤sizeLine)(hs2:items.size+items2.size≤sizeLine+1):
  Meets (Builtin.«list.extend» ⟨[.ref l,.ref b],[]⟩) (fun _ R s=>s.heap.get? l=some { cls:=.type "list",dict:=none,data:=.seq items n,slots:=#[] }∧s.heap.get? b=some { cls:=.type "tuple",dict:=dd2,data:=.seq items2 n2,slots:=sl2 }∧R (.ok (.ret Value.none)) { s with heap:=s.heap.update l (Obj.mapSeq fun x=>x++items2),toks:=s.toks }):=
 .of_wp fun prog w A R s h=>by
  obtain⟨hp,g,d,tk,os⟩:=s; obtain⟨hl,hb,h⟩:=h; have f1:=AutoSeq1.idx_int; have f2:=AutoSeq1.sub_tuple_tuple; have f3:=AutoSeq1.sub_list_list; have f4:=AutoSeq1.sub_tuple_list; have f5:=AutoSeq1.sub_list_tuple;
  have hz':(items++items2).size≤sizeLine+1:=by rw[Qxu]; exact hs2
  wp_walk using (wpAny_updateSeq hl rfl (hz:=hc1) (_hz':=hz')),wpAny_loadPart' hl,wpAny_loadPart' hb; exact⟨_,rfl,h⟩
section
variable {X:Cx}
theorem qer:MtM X "list.extend" (fun x xs H Q=>∃ m st a ds d st',Rel X.K m st H∧MS.IsD X.K m H a x∧IsDs X.K m H ds xs∧M.mExtend st a ds=some (d,st')∧Post X.K m H d st' Q):=by
 intro pins s σ H x xs v us Q I rx rs h
 obtain⟨m,st,a,ds,d,st',R0,i1,i2,e,q⟩:=h
 unfold M.mExtend at e
 split at e
 ·obtain⟨ds0,e1,e⟩:=qzd e
  obtain⟨es,e2,e⟩:=qzd e
  split at e
  ·rename_i hl
   cases e
   obtain⟨p,ys,hm,rfl,hp,ix,hs⟩:=R0.wlist e1 i1
   obtain⟨y,rfl,iy⟩:=i2.one
   have l1:=ix.length
   have l2:=qz5
   cases rx
   obtain⟨u,rfl,ru⟩:=rs.one
   obtain⟨z,its,n,r,hln,eo⟩:=I.lstM hp
   split at e2
   ·rename_i ts
    cases e2
    obtain⟨b,zs,rfl,hq,iz⟩:=iy.tup
    cases ru
    obtain⟨its2,r2,⟨⟨cls2,dd2,data2,sl2⟩,h1,h2,n2,h3⟩,_⟩:=I.tuple hq
    simp only at h2 h3
    subst h2 h3
    have l3:=iz.length
    have l4:=r2.length
    have hsz:its.toArray.size+its2.toArray.size≤sizeLine:=by rw[Qqx,Qqx]; omega
    have hlong:¬ (!its.toArray.isEmpty&&Builtin.List.listTooLong (its.toArray.size+its2.toArray.size))=true:=by
     rw[qy5 hsz,Qz7]
     exact Qqi
    refine call_meets F.slot_list_extend ⟨_,eo,rfl⟩ F.entry_list_extend (F.args_list_extend_2 _ _) (qbq p its.toArray n b its2.toArray n2 dd2 sl2 hlong (by rw[Qqx]; omega) (by omega)) ⟨eo,h1,?_⟩
    refine⟨.non,_,I.lset (its':=its++its2) hp eo (by simp) (r.append r2) ?_,rfl,?_⟩
    ·rw[Qq0]; omega
    ·exact q _ m _ (Sub.refl m) (Tr.put hp) (R0.put hs hm hp (ix.append iz)) qce
   ·obtain⟨b,zs,_,rfl,hq,iz⟩:=R0.seq e2 iy
    cases ru
    obtain⟨its2,r2,⟨⟨cls2,dd2,data2,sl2⟩,n2,h1,h2,h4,h3⟩,_⟩:=I.list hq
    simp only at h2 h3
    subst h2 h3
    have l3:=iz.length
    have l4:=r2.length
    have hsz:its.toArray.size+its2.toArray.size≤sizeLine:=by rw[Qqx,Qqx]; omega
    have hlong:¬ (!its.toArray.isEmpty&&Builtin.List.listTooLong (its.toArray.size+its2.toArray.size))=true:=by
     rw[qy5 hsz,Qz7]
     exact Qqi
    refine call_meets F.slot_list_extend ⟨_,eo,rfl⟩ F.entry_list_extend (F.args_list_extend_2 _ _) (qbz p its.toArray n b its2.toArray n2 dd2 sl2 hlong (by rw[Qqx]; omega) (by omega)) ⟨eo,h1,?_⟩
    refine⟨.non,_,I.lset (its':=its++its2) hp eo (by simp) (r.append r2) ?_,rfl,?_⟩
    ·rw[Qq0]; omega
    ·exact q _ m _ (Sub.refl m) (Tr.put hp) (R0.put hs hm hp (ix.append iz)) qce
  ·cases e
 ·cases e
end
end MS
end
section
namespace MS
open PySem PySem.Spec PyProof.Rows L2
open M (D Cell Store Sl)
section
variable {X:Cx}
noncomputable def Itd(a:Addr)(o:Obj)(xs:List (Key×V)):It:=
 ⟨fun i H=>H a=some (.frz o (.dK xs))∧i<xs.length,fun i H x H'=>H'=H∧∃ p,xs[i]?=some p∧x=kV p.1,fun i H=>H a=some (.frz o (.dK xs))∧xs.length≤i⟩
theorem qd0{pins:List (Addr×Obj)}{σ:L2.St}{H:Hp}{s:Shared}{a:Addr}{o:Obj}{es:Array DictEntry}{ep:Nat}{xs:List (Key×V)}(I:Inv X pins σ H s)(h:H a=some (.frz o (.dK xs)))(hd:o.data=.dict es ep):∃ vs,KV xs vs∧s.heap.DictAt (mixKind X.prog X.w) a vs ep:=by
 obtain⟨h1,_,_,vs,kv,o',es',ep',h2,h3,h4,r⟩:=I.hok a _ h
 rw[h1]at h2
 cases h2
 rw[hd]at h4
 cases h4
 exact⟨vs,kv,o,es,h1,h3,hd,r⟩
theorem qfp{P:Program}{w:World}{K:Qqq}{tg:Expr}{es:Array DictEntry}{ep:Nat}(a it:Addr)(o:Obj)(xs:List (Key×V))(hd:o.data=.dict es ep):Turn P w K tg (Itd a o xs) [it] it (fun i h=>h.IsKeyIter it a i xs.length ep) where
 mem:=by simp
 obj:=fun i h st b hb=>by
  have e:b=it:=by simpa using hb
  subst e
  obtain⟨o,e,c,d⟩:=st
  exact⟨o,e,fun v z=>by rw[d]at z; cases z⟩
 keep:=fun i h h' st k=>st.at fun o e=>k it (by simp) o e
 item:=by
  intro X hP hw hK hc i pins s σ H E I hf st hg
  subst hP hw hK
  obtain⟨hH,hi⟩:=hg
  obtain⟨vs,kv,da⟩:=qd0 I hH hd
  obtain⟨f0,f1,f2,f3,f4,f5⟩:=hf it (by simp)
  have hl:=kv.length
  obtain⟨⟨k,u⟩,hx⟩:∃ q,vs[i]?=some q:=⟨vs[i]'(by omega),by simp⟩
  have hp:xs[i]?=some xs[i]:=by simp
  have hk:xs[i].1=k:=by
   have e1:=congrArg (fun l:List Key=>l[i]?) kv.keys
   simp only[Qqn,hx,hp,oMs,Option.some.injEq]at e1
   exact e1
  rw[hl]at st
  refine wpAny_pyNext_dict_item st da hx fun key h' hkey st' sb=>?_
  have I1:Inv X pins σ H { s with heap:=h' }:=I.turned (t':=s.toks) (fun b o hb e=>(sb.2 b hb).trans e) f0 f1 f3 f4 f5
  obtain⟨o1,e,c,d⟩:=id st'
  rw[← hl]at st'
  refine⟨key,rfl,qhc (s:={ s with heap:=h' }) e c d (by decide) ⟨kV xs[i].1,H,I1,?_,⟨rfl,xs[i],hp,rfl⟩,st',fun b hb=>(hf b hb).1⟩⟩
  rw[hk]
  rcases qzg hkey with⟨j,t,e1,e2⟩|⟨z,t,e1,e2⟩
  ·subst e1 e2; exact⟨t,rfl⟩
  ·subst e1 e2; exact⟨t,rfl⟩
 done:=by
  intro X hP hw hK hc i pins s σ H E I hf st hg
  subst hP hw hK
  obtain⟨hH,hi⟩:=hg
  obtain⟨vs,kv,da⟩:=qd0 I hH hd
  obtain⟨f0,f1,f2,f3,f4,f5⟩:=hf it (by simp)
  have hl:=kv.length
  rw[hl]at st
  exact wpAny_pyNext_dict_end (I.ok.hd hc) st da (Qqt.mpr (by omega)) fun h' eb=>⟨rfl,I.turned (t':=s.toks) (fun b o hb e=>eb b o hb e) f0 f1 f3 f4 f5⟩
 self:=fun _ _ _ _ _ st h=>wpAny_pyIter_keyiter st h
noncomputable def iDict(X:Cx)(tl:TE):TI:=fun σ H R=>tl σ H fun x H1=>∃ a xs,x=.ref a∧H1 a=some (.dK xs)∧∀ o,NoFz X a→R (Itd a o xs) (upd H1 a (.frz o (.dK xs)))
theorem qnr{tg l:Expr}{tl:TE}(hl:PE X l tl):PI X tg l (iDict X tl):=by
 intro pins s σ H R I h
 refine thn (hl pins s σ H _ I h) fun v s1 ⟨x,H1,I1,r1,a,xs,e,hH,q⟩=>?_
 subst e
 cases r1
 obtain⟨o,ho,I2⟩:=qor I1 hH
 obtain⟨_,lo,vs,kv,o',es,ep,h2,h3,hd,r⟩:=I1.hok a _ hH
 rw[ho]at h2
 cases h2
 have hn:=kv.length
 refine wpAny_pyIter_dict lo (ep:=ep) ⟨o,es,ho,h3,hd,r⟩ ?_
 refine⟨s1.heap.objs.size,[s1.heap.objs.size],_,_,_,rfl,I2.kept (t':=s1.toks) fun b o e=>Qqz _ e,qfp a _ o xs hd,⟨_,Qqw _ rfl,rfl,by rw[hn]; rfl⟩,fun b hb=>?_,q o (qok I1 hH)⟩
 have e:b=s1.heap.objs.size:=by simpa using hb
 subst e
 exact I2.fpOk (Qqj _) (I2.hok.fresh (Qqj _))
noncomputable def thawE(X:Cx)(Dn:Ends):Ends:=
 ⟨fun σ H=>∃ a o xs,NoFz X a∧H a=some (.frz o (.dK xs))∧Dn.nx σ (upd H a (.dK xs)),fun v H=>∃ a o xs,NoFz X a∧H a=some (.frz o (.dK xs))∧Dn.rt v (upd H a (.dK xs)),fun _ _=>False,fun _ _=>False⟩
theorem qnh{tg l:Expr}{body:List Stmt}{tl:TE}{g:TG}{tb:TS}{pos:Pos}(hp:PassesOwn (model X.prog X.w) X.A X.env X.xe)(hc:X.calm=true)(hl:PE X l tl)(hg:PG X tg g)(hb:PSs X body tb)(hs:∀ x,foldedSetIterable l X.env x=pure x):
  PS X (.For tg l body [] pos) (fun Dn σ H=>tFor (iDict X tl) g tb (thawE X Dn) σ H):=by
 intro pins s σ H Dn I h
 refine thn (qmx hp hc (qnr hl) hg hb hs pins s σ H (thawE X Dn) I h) fun fl s1 q=>?_
 cases fl with
 |next=>
  obtain⟨σ1,H1,I1,a,o,xs,nf,e,q⟩:=q
  exact⟨σ1,_,qdt I1 nf e,q⟩
 |ret u=>
  obtain⟨v,σ1,H1,I1,r,a,o,xs,nf,e,q⟩:=q
  exact⟨v,σ1,_,qdt I1 nf e,r,q⟩
 |brk=>obtain⟨_,_,_,z⟩:=q; exact z.elim
 |cont=>obtain⟨_,_,_,z⟩:=q; exact z.elim
end
end MS
end
section
namespace ST
open PySem SetTable
noncomputable def adv(m:Nat)(p:Probe):Probe:=
 if p.more > 0 then { p with j:=p.j+1,more:=p.more - 1 } else
 { p with j:=(leap m p.i p.perturb).1,more:=runEnd m (leap m p.i p.perturb).1 - (leap m p.i p.perturb).1,i:=(leap m p.i p.perturb).1,perturb:=(leap m p.i p.perturb).2 }
noncomputable def qzp(m:Nat)(h:Int):Probe:={ j:=bits h % (m+1),more:=runEnd m (bits h % (m+1)) - bits h % (m+1),i:=bits h % (m+1),perturb:=bits h,dummy:=none }
noncomputable def stp(m:Nat):Nat→Probe→Probe
 |0,p=>p
 |n+1,p=>stp m n (adv m p)
theorem qqp(m:Nat):∀ (a b:Nat) (p:Probe),stp m (a+b) p=stp m b (stp m a p)
 |0,b,p=>by rw[Qx5]; rfl
 |a+1,b,p=>by rw[Nat.add_right_comm]; exact qqp m a b (adv m p)
theorem qir(m n:Nat)(p:Probe):stp m (n+1) p=adv m (stp m n p):=by rw[qqp]; rfl
noncomputable def runP(m i pt:Nat)(d:Option Nat):Probe:={ j:=i,more:=runEnd m i - i,i:=i,perturb:=pt,dummy:=d }
theorem qw8(m:Nat):∀ (k:Nat) (p:Probe),p.more=k→stp m (k+1) p=runP m (leap m p.i p.perturb).1 (leap m p.i p.perturb).2 p.dummy
 |0,p,h=>by
  show adv m p=_
  unfold adv
  rw[if_neg (by omega)]; rfl
 |k+1,p,h=>by
  show stp m (k+1) (adv m p)=_
  have e:adv m p={ p with j:=p.j+1,more:=p.more - 1 }:=by unfold adv; rw[if_pos (by omega)]
  rw[e,qw8 m k _ (by show p.more - 1=k; omega)]
noncomputable def lp(m:Nat):Nat→Nat×Nat→Nat×Nat
 |0,q=>q
 |n+1,q=>lp m n (leap m q.1 q.2)
theorem more_le(m i:Nat):runEnd m i - i≤9:=by unfold runEnd; split<;>omega
theorem qdw(m:Nat)(d:Option Nat):∀ (n i pt:Nat),∃ N,N≤10*n∧stp m N (runP m i pt d)=runP m (lp m n (i,pt)).1 (lp m n (i,pt)).2 d
 |0,i,pt=>⟨0,Qqj _,rfl⟩
 |n+1,i,pt=>by
  obtain⟨N,hN,e⟩:=qdw m d n (leap m i pt).1 (leap m i pt).2
  refine⟨(runP m i pt d).more+1+N,?_,?_⟩
  ·have:=more_le m i
   show runEnd m i - i+1+N≤_
   omega
  ·rw[qqp,qw8 m _ _ rfl]
   exact e
theorem lp_pt(m:Nat):∀ (n i pt:Nat),(lp m n (i,pt)).2=pt / 32 ^ n
 |0,i,pt=>by simp[lp]
 |n+1,i,pt=>by
  show(lp m n (leap m i pt)).2=_
  have:leap m i pt=((leap m i pt).1,pt / 32):=rfl
  rw[this,lp_pt m n,Nat.div_div_eq_div_mul,Nat.pow_succ,Qx3]
theorem qmb(m:Nat):∀ (a b:Nat) (q:Nat×Nat),lp m (a+b) q=lp m b (lp m a q)
 |0,b,q=>by rw[Qx5]; rfl
 |a+1,b,q=>by rw[Nat.add_right_comm]; exact qmb m a b _
theorem lp_le(m:Nat):∀ (n i pt:Nat),i≤m→(lp m n (i,pt)).1≤m
 |0,i,pt,h=>h
 |n+1,i,pt,h=>by
  show(lp m n (leap m i pt)).1≤m
  exact lp_le m n _ _ (by exact Qz0 (Qxi _ (Qxw _)))
noncomputable def lcg(m:Nat):Nat→Nat→Nat
 |0,i=>i
 |n+1,i=>lcg m n ((i*5+1) % (m+1))
theorem qgu(m:Nat):∀ (n i:Nat),(lp m n (i,0)).1=lcg m n i
 |0,i=>rfl
 |n+1,i=>by
  show(lp m n (leap m i 0)).1=_
  have:leap m i 0=((i*5+1) % (m+1),0):=by simp[leap]
  rw[this,qgu m n]; rfl
theorem onto7:∀ i,i<8→∀ e,e<8→∃ r,r<8∧lcg 7 r i=e:=by decide +kernel
theorem onto31:∀ i,i<32→∀ e,e<32→∃ r,r<32∧lcg 31 r i=e:=by decide +kernel
theorem onto{m:Nat}(hm:m=7∨m=31){i e:Nat}(hi:i≤m)(he:e≤m):∃ r,r≤m∧lcg m r i=e:=by
 rcases hm with rfl|rfl
 ·obtain⟨r,h,q⟩:=onto7 i (by omega) e (by omega); exact⟨r,by omega,q⟩
 ·obtain⟨r,h,q⟩:=onto31 i (by omega) e (by omega); exact⟨r,by omega,q⟩
theorem qdy{m:Nat}(hm:m=7∨m=31){i pt e:Nat}(d:Option Nat)(hi:i≤m)(hp:pt<2 ^ 64)(he:e≤m):∃ n N,n≤m+13∧N≤10*n∧stp m N (runP m i pt d)=runP m e (lp m n (i,pt)).2 d∧(lp m n (i,pt)).1=e:=by
 have hz:(lp m 13 (i,pt)).2=0:=by
  rw[lp_pt]; exact Nat.div_eq_of_lt (Qqp hp (by decide))
 obtain⟨r,hr,er⟩:=onto hm (lp_le m 13 i pt hi) he
 have e1:(lp m (13+r) (i,pt)).1=e:=by
  rw[qmb]
  have:lp m 13 (i,pt)=((lp m 13 (i,pt)).1,0):=by rw[← hz]
  rw[this,qgu]; exact er
 obtain⟨N,hN,eN⟩:=qdw m d (13+r) i pt
 rw[e1]at eN
 exact⟨13+r,N,by omega,hN,eN,e1⟩
structure Okp (m:Nat) (p:Probe):Prop where
 i:p.i≤m
 pt:p.perturb<2 ^ 64
 more:p.more≤9
 dm:p.dummy=none
theorem Okp.start{m:Nat}(h:Int):Okp m (qzp m h):=by
 refine⟨Qz0 (Qxi _ (Qxw _)),?_,more_le _ _,rfl⟩
 show bits h<2 ^ 64
 unfold bits
 omega
theorem Okp.next{m:Nat}{p:Probe}(h:Okp m p):Okp m (adv m p):=by
 unfold adv
 split
 ·exact⟨h.i,h.pt,by have:=h.more; show p.more - 1≤9; omega,h.dm⟩
 ·refine⟨by show(leap m p.i p.perturb).1≤m; unfold leap; exact Qz0 (Qxi _ (Qxw _)),?_,more_le _ _,h.dm⟩
  show p.perturb / 32<2 ^ 64
  exact Nat.lt_of_le_of_lt (Nat.div_le_self _ _) h.pt
theorem Okp.stp{m:Nat}:∀ (n:Nat){p:Probe},Okp m p→Okp m (stp m n p)
 |0,_,h=>h
 |n+1,_,h=>Okp.stp n h.next
theorem hits{m:Nat}(hm:m=7∨m=31){p:Probe}(h:Okp m p){e:Nat}(he:e≤m):∃ N,N<10*turns m∧(stp m N p).j=e:=by
 have h1:=(h.stp (p.more+1))
 rw[qw8 m _ p rfl]at h1
 obtain⟨n,N,hn,hN,e1,_⟩:=qdy hm p.dummy h1.i h1.pt he
 refine⟨p.more+1+N,?_,?_⟩
 ·have:=h.more
  unfold turns; omega
 ·rw[qqp,qw8 m _ p rfl]
  exact congrArg Probe.j e1
end ST
end
section
namespace ST
open PySem SetTable
def Up(xs:Array Nat):Prop:=∀ (i k a b:Nat),i<k→xs[i]?=some a→xs[k]?=some b→a<b
theorem qai{xs:Array Nat}{j:Nat}(hs:Up xs):∀ (fuel lo hi:Nat),hi≤xs.size→lo≤hi→hi - lo≤fuel→(∀ (i a:Nat),i<lo→xs[i]?=some a→a<j)→(∀ (i a:Nat),hi≤i→xs[i]?=some a→j≤a)→
  (∀ (i a:Nat),i<below.go xs j fuel lo hi→xs[i]?=some a→a<j)∧(∀ (i a:Nat),below.go xs j fuel lo hi≤i→xs[i]?=some a→j≤a)∧below.go xs j fuel lo hi≤xs.size
 |0,lo,hi,h1,h2,h3,h4,h5=>by
  have:lo=hi:=by omega
  subst this
  exact⟨h4,h5,h1⟩
 |fuel+1,lo,hi,h1,h2,h3,h4,h5=>by
  unfold below.go
  by_cases hlt:lo<hi
  ·rw[if_pos hlt]
   have hm:(lo+hi) / 2<xs.size:=by omega
   have e:xs[(lo+hi) / 2]?=some xs[(lo+hi) / 2]:=Qqu hm
   have eg:xs.getD ((lo+hi) / 2) j=xs[(lo+hi) / 2]:=by rw[Qzb,e]; rfl
   simp only[eg]
   split
   ·rename_i hc
    refine qai hs fuel _ _ h1 (by omega) (by omega) (fun i a hi' ha=>?_) h5
    rcases Qzd i ((lo+hi) / 2) with h|h
    ·exact Nat.lt_trans (hs i _ a _ h ha e) hc
    ·have:i=(lo+hi) / 2:=by omega
     subst this
     rw[e]at ha; cases ha; exact hc
   ·rename_i hc
    refine qai hs fuel _ _ (by omega) (by omega) (by omega) h4 (fun i a hi' ha=>?_)
    rcases Qzd ((lo+hi) / 2) i with h|h
    ·have:=hs _ i _ a h e ha; omega
    ·have:i=(lo+hi) / 2:=by omega
     subst this
     rw[e]at ha; cases ha; omega
  ·rw[if_neg hlt]
   have:lo=hi:=by omega
   subst this
   exact⟨h4,h5,h1⟩
theorem qj7{xs:Array Nat}{j:Nat}(hs:Up xs):(∀ (i a:Nat),i<below xs j→xs[i]?=some a→a<j)∧(∀ (i a:Nat),below xs j≤i→xs[i]?=some a→j≤a)∧below xs j≤xs.size:=
 qai hs xs.size 0 xs.size (Qqj _) (Qze _) (by omega) (fun i a h=>by omega) fun i a h e=>by
  have:=(Qzv.mp e).1; omega
theorem below_at{xs:Array Nat}{i j:Nat}(hs:Up xs)(h:xs[i]?=some j):below xs j=i:=by
 obtain⟨b1,b2,b3⟩:=qj7 (j:=j) hs
 rcases Qx0 (below xs j) i with h1|h1|h1
 ·have hb:below xs j<xs.size:=Nat.lt_trans h1 (Qzv.mp h).1
  have e:xs[below xs j]?=some xs[below xs j]:=Qqu hb
  have:=b2 _ _ (Qqj _) e
  have:=hs _ _ _ _ h1 e h
  omega
 ·exact h1
 ·have:=b1 _ _ h1 h; omega
structure Tb (t:SetTable):Prop where
 mask:t.mask=7∨t.mask=31
 dum:t.dummies=#[]
 up:Up t.place
 le:∀ (i j:Nat),t.place[i]?=some j→j≤t.mask
 few:t.place.size≤t.mask
def Occ(t:SetTable)(j:Nat):Prop:=∃ i:Nat,t.place[i]?=some j
theorem qvz{t:SetTable}(T:Tb t){i j:Nat}(h:t.place[i]?=some j):t.slot j=.live i:=by
 unfold slot
 simp only[below_at T.up h,h,beq_self_eq_true,if_true]
theorem qec{t:SetTable}(T:Tb t){j:Nat}(h:¬ Occ t j):t.slot j=.empty:=by
 unfold slot
 have:(t.place[below t.place j]?==some j)=false:=by
  cases e:t.place[below t.place j]?==some j with
  |false=>rfl
  |true=>exact absurd ⟨_,beq_iff_eq.mp e⟩ h
 have hd:has t.dummies j=false:=by rw[T.dum]; unfold has; simp
 simp[this,hd]
theorem qyw{m:Nat}:∀ (l:List Nat) (lo:Nat),l.Pairwise (· < ·)→(∀ a∈l,lo≤a)→(∀ e,lo≤e→e≤m→e∈l)→lo≤m+1→m+1≤lo+l.length
 |[],lo,_,_,h3,h4=>by
  rcases Qzd m lo with h|h
  ·simp; omega
  ·exact absurd (h3 lo (Qqj _) h) (by simp)
 |a::l,lo,h1,h2,h3,h4=>by
  rcases Qzd m lo with h|h
  ·omega
  ·obtain⟨p1,p2⟩:=Qxo.mp h1
   have ha:a=lo:=by
    rcases Qqh.mp (h3 lo (Qqj _) h) with e|e
    ·exact e.symm
    ·have:=p1 lo e
     have:=h2 a Qq4
     omega
   subst ha
   have:=qyw l (a+1) p2 (fun b hb=>p1 b hb) (fun e e1 e2=>by
    rcases Qqh.mp (h3 e (by omega) e2) with q|q
    ·omega
    ·exact q) (by omega)
   simp only[Qqd]
   omega
theorem Up.pairwise{xs:Array Nat}(h:Up xs):xs.toList.Pairwise (· < ·):=by
 rw[Qx1]
 intro i j hi hj hij
 exact h i j _ _ hij (by rw[← Qql,Qqg hi]) (by rw[← Qql,Qqg hj])
theorem some_free{t:SetTable}(T:Tb t):∃ e,e≤t.mask∧¬ Occ t e:=by
 apply Classical.byContradiction
 intro hn
 have all:∀ e,e≤t.mask→Occ t e:=fun e he=>Classical.byContradiction fun hc=>hn ⟨e,he,hc⟩
 have:=qyw (m:=t.mask) t.place.toList 0 T.up.pairwise (fun a _=>Qze _) (fun e _ he=>by
  obtain⟨i,hi⟩:=all e he
  exact Qq9 (by rw[Qql]; exact hi)) (Qze _)
 have:=T.few
 rw[Qzy]at *
 omega
theorem qhb{t:SetTable}(T:Tb t){hashAt:Nat→Int}{h:Int}:∀ (fuel:Nat) (p:Probe) (N:Nat),p.dummy=none→N<fuel→¬ Occ t (stp t.mask N p).j→
  ∃ n,(∀ m,m<n→∃ i:Nat,t.place[i]?=some (stp t.mask m p).j∧hashAt i≠h)∧
   ((¬ Occ t (stp t.mask n p).j∧probe.go t hashAt h fuel p=some (.empty (stp t.mask n p).j none))∨
    (∃ i:Nat,t.place[i]?=some (stp t.mask n p).j∧hashAt i=h∧probe.go t hashAt h fuel p=some (.candidate (stp t.mask n p).j i (stp t.mask (n+1) p))))
 |0,p,N,_,hN,_=>by omega
 |fuel+1,p,N,hd,hN,hE=>by
  by_cases ho:Occ t p.j
  ·obtain⟨i,hi⟩:=ho
   by_cases hh:hashAt i=h
   ·refine⟨0,fun m hm=>by omega,.inr ⟨i,hi,hh,?_⟩⟩
    unfold probe.go
    rw[qvz T hi]
    simp only[hh,beq_self_eq_true,if_true]
    rfl
   ·cases N with
    |zero=>exact absurd ⟨i,hi⟩ hE
    |succ N=>
     have hd':(adv t.mask p).dummy=none:=by unfold adv; split<;>exact hd
     obtain⟨n,q1,q2⟩:=qhb T fuel (adv t.mask p) N hd' (by omega) hE
     have eg:probe.go t hashAt h (fuel+1) p=probe.go t hashAt h fuel (adv t.mask p):=by
      conv=>lhs; unfold probe.go
      rw[qvz T hi]
      have:(hashAt i==h)=false:=by simpa using hh
      simp only[this,Qqc,if_false]
      rfl
     refine⟨n+1,fun m hm=>?_,?_⟩
     ·cases m with
      |zero=>exact⟨i,hi,hh⟩
      |succ m=>exact q1 m (by omega)
     ·rw[eg]
      exact q2
  ·refine⟨0,fun m hm=>by omega,.inl ⟨ho,?_⟩⟩
   unfold probe.go
   rw[qec T ho]
   show some (Met.empty p.j p.dummy)=_
   rw[hd]; rfl
theorem qen{t:SetTable}(T:Tb t){hashAt:Nat→Int}{h:Int}{p:Probe}(hp:Okp t.mask p):
  ∃ n,(∀ m,m<n→∃ i:Nat,t.place[i]?=some (stp t.mask m p).j∧hashAt i≠h)∧
   ((¬ Occ t (stp t.mask n p).j∧t.probe hashAt h p=some (.empty (stp t.mask n p).j none))∨
    (∃ i:Nat,t.place[i]?=some (stp t.mask n p).j∧hashAt i=h∧t.probe hashAt h p=some (.candidate (stp t.mask n p).j i (stp t.mask (n+1) p)))):=by
 obtain⟨e,he,hf⟩:=some_free T
 obtain⟨N,hN,eN⟩:=hits T.mask hp he
 exact qhb T _ p N hp.dm hN (by rw[eN]; exact hf)
end ST
end
section
namespace ST
open PySem SetTable
section
variable {α:Type}
theorem qqd(xs:Array α)(p:Nat)(x:α)(hp:p≤xs.size)(i:Nat):(insertAt xs p x)[i]?=if i<p then xs[i]? else if i=p then some x else xs[i - 1]?:=by
 unfold insertAt
 rw[Array.getElem?_append,Array.getElem?_push,Qjw,Qjw]
 simp only[Array.size_push,Array.size_extract]
 have e:min p xs.size=p:=by omega
 simp only[e,Nat.sub_zero,Qx5]
 by_cases h1:i<p
 ·rw[if_pos (by omega),if_neg (by omega),if_pos h1,if_pos h1]
 ·by_cases h2:i=p
  ·subst h2
   rw[if_pos (by omega),if_pos rfl,if_neg h1,if_pos rfl]
  ·rw[if_neg (by omega),if_neg h1,if_neg h2]
   by_cases h3:i - (p+1)<min xs.size xs.size - p
   ·rw[if_pos h3]; congr 1; omega
   ·rw[if_neg h3]
    exact(Qjy (by omega)).symm
theorem qk5(xs:Array α)(p:Nat)(x:α)(hp:p≤xs.size):(insertAt xs p x).size=xs.size+1:=by
 unfold insertAt
 simp only[Qxu,Array.size_push,Array.size_extract]
 omega
theorem qos{xs:Array α}{p:Nat}{x y:α}(hp:p≤xs.size):y∈(insertAt xs p x).toList↔y∈xs.toList∨y=x:=by
 unfold insertAt
 simp only[Array.toList_append,Array.toList_push,Array.toList_extract,Qxq,Qzr,List.extract_eq_drop_take,Nat.sub_zero,Qja]
 have e:xs.toList.take p++xs.toList.drop p=xs.toList:=List.take_append_drop p _
 have e2:(xs.toList.drop p).take (xs.size - p)=xs.toList.drop p:=Qxa (by simp)
 rw[e2]
 conv=>rhs; rw[← e,Qxq]
 constructor
 ·rintro ((h|h)|h)
  ·exact .inl (.inl h)
  ·exact .inr h
  ·exact .inl (.inr h)
 ·rintro ((h|h)|h)
  ·exact .inl (.inl h)
  ·exact .inr h
  ·exact .inl (.inr h)
end
def Reach(t:SetTable)(h:Int)(j:Nat):Prop:=∃ n,(stp t.mask n (qzp t.mask h)).j=j∧∀ m,m<n→Occ t (stp t.mask m (qzp t.mask h)).j
structure SI {α:Type}(t:SetTable) (es:Array (Int×α)):Prop where
 tb:Tb t
 sz:t.place.size=es.size
 reach:∀ (i j:Nat) (e:Int×α),t.place[i]?=some j→es[i]?=some e→Reach t e.1 j
theorem qgv{t:SetTable}(T:Tb t)(j:Nat):t.put j=({ t with place:=insertAt t.place (below t.place j) j },below t.place j):=by
 unfold put
 have hd:has t.dummies j=false:=by rw[T.dum]; unfold has; simp
 simp only[hd,Qqc,if_false]
theorem put_ok{α:Type}{t:SetTable}{es:Array (Int×α)}(I:SI t es){j:Nat}{h:Int}{x:α}(hj:j≤t.mask)(hf:¬ Occ t j)(hr:Reach t h j)(hs:es.size+1≤t.mask):
  SI (t.put j).1 (insertAt es (t.put j).2 (h,x)):=by
 obtain⟨b1,b2,b3⟩:=qj7 (j:=j) I.tb.up
 have b3':below t.place j≤es.size:=by rw[← I.sz]; exact b3
 rw[qgv I.tb]
 have oc:∀ j',Occ t j'→Occ { t with place:=insertAt t.place (below t.place j) j } j':=fun j' ⟨i,hi⟩=>by
  by_cases h1:i<below t.place j
  ·exact⟨i,by show(insertAt _ _ _)[i]?=_; rw[qqd _ _ _ b3,if_pos h1]; exact hi⟩
  ·exact⟨i+1,by show(insertAt _ _ _)[i+1]?=_; rw[qqd _ _ _ b3,if_neg (by omega),if_neg (by omega)]; exact hi⟩
 have rc:∀ h' j',Reach t h' j'→Reach { t with place:=insertAt t.place (below t.place j) j } h' j':=fun h' j' ⟨n,e,q⟩=>⟨n,e,fun m hm=>oc _ (q m hm)⟩
 refine⟨⟨I.tb.mask,I.tb.dum,?_,?_,?_⟩,?_,?_⟩
 ·intro i k a b hik ha hb
  have ha:(insertAt t.place (below t.place j) j)[i]?=some a:=ha
  have hb:(insertAt t.place (below t.place j) j)[k]?=some b:=hb
  rw[qqd _ _ _ b3]at ha hb
  have ne:∀ (i' c:Nat),t.place[i']?=some c→c≠j:=fun i' c e z=>hf ⟨i',by rw[← z]; exact e⟩
  split at ha
  ·split at hb
   ·exact I.tb.up _ _ _ _ hik ha hb
   ·split at hb
    ·cases hb; exact b1 _ _ (by assumption) ha
    ·exact I.tb.up _ _ _ _ (by omega) ha hb
  ·split at ha
   ·cases ha
    rw[if_neg (by omega),if_neg (by omega)]at hb
    have:=b2 _ _ (by omega) hb
    have:=ne _ _ hb
    omega
   ·rw[if_neg (by omega),if_neg (by omega)]at hb
    exact I.tb.up _ _ _ _ (by omega) ha hb
 ·intro i j' e
  have e:(insertAt t.place (below t.place j) j)[i]?=some j':=e
  rw[qqd _ _ _ b3]at e
  split at e
  ·exact I.tb.le _ _ e
  ·split at e
   ·cases e; exact hj
   ·exact I.tb.le _ _ e
 ·show(insertAt t.place (below t.place j) j).size≤t.mask
  rw[qk5 _ _ _ b3,I.sz]; exact hs
 ·show(insertAt t.place (below t.place j) j).size=_
  rw[qk5 _ _ _ b3,qk5 _ _ _ b3',I.sz]
 ·intro i j' e e1 e2
  have e1:(insertAt t.place (below t.place j) j)[i]?=some j':=e1
  have e2:(insertAt es (below t.place j) (h,x))[i]?=some e:=e2
  rw[qqd _ _ _ b3]at e1
  rw[qqd _ _ _ b3']at e2
  split at e1
  ·rename_i h1
   rw[if_pos h1]at e2
   exact rc _ _ (I.reach _ _ _ e1 e2)
  ·rename_i h1
   rw[if_neg h1]at e2
   split at e1
   ·rename_i h2
    rw[if_pos h2]at e2
    cases e1; cases e2
    exact rc _ _ hr
   ·rename_i h2
    rw[if_neg h2]at e2
    exact rc _ _ (I.reach _ _ _ e1 e2)
theorem qih{α:Type}{t:SetTable}{es:Array (Int×α)}(I:SI t es){h:Int}{n:Nat}{bad:Nat→Prop}(hb:∀ m,m<n→∃ i:Nat,t.place[i]?=some (stp t.mask m (qzp t.mask h)).j∧bad i)(hn:¬ Occ t (stp t.mask n (qzp t.mask h)).j):
  ∀ (i:Nat) (e:Int×α),es[i]?=some e→e.1=h→bad i:=fun i e he hh=>by
 have hi:i<t.place.size:=by rw[I.sz]; exact(Qzv.mp he).1
 have hp:t.place[i]?=some t.place[i]:=Qqu hi
 obtain⟨n',q1,q2⟩:=I.reach _ _ _ hp he
 rw[hh]at q1 q2
 rcases Qx0 n n' with h1|h1|h1
 ·exact absurd (q2 n h1) hn
 ·subst h1; exact absurd ⟨i,by rw[q1]; exact hp⟩ hn
 ·obtain⟨i',e',b⟩:=hb n' h1
  rw[q1]at e'
  have:i'=i:=(below_at I.tb.up e').symm.trans (below_at I.tb.up hp)
  rw[← this]; exact b
theorem qlo{α:Type}(led:Bool):SI (α:=α) (PySem.SetTable.fresh 0 0 led) #[]:=
 ⟨⟨.inl rfl,rfl,fun i k a b _ h=>by simp[PySem.SetTable.fresh]at h,fun i j h=>by simp[PySem.SetTable.fresh]at h,by simp[PySem.SetTable.fresh]⟩,rfl,fun i j e h=>by simp[PySem.SetTable.fresh]at h⟩
end ST
end
section
namespace ST
open PySem SetTable
def OcO(ow:Array (Option Nat))(j:Nat):Prop:=∃ k,ow[j]?=some (some k)
theorem getD_none{ow:Array (Option Nat)}{j:Nat}(hj:j<ow.size):(ow.getD j (some 0)).isNone=true↔¬ OcO ow j:=by
 have e:ow[j]?=some ow[j]:=Qqu hj
 rw[Qzb,e]
 show(ow[j]).isNone=true↔_
 cases h:ow[j] with
 |none=>simp[OcO,e,h]
 |some k=>simp[OcO,e,h]
theorem qy2(m i pt:Nat)(d:Option Nat):∀ k,k≤runEnd m i - i→(stp m k (runP m i pt d)).j=i+k∧(stp m k (runP m i pt d)).more=runEnd m i - i - k
 |0,_=>⟨rfl,rfl⟩
 |k+1,h=>by
  obtain⟨h1,h2⟩:=qy2 m i pt d k (by omega)
  rw[qir]
  have e:adv m (stp m k (runP m i pt d))={ stp m k (runP m i pt d) with j:=(stp m k (runP m i pt d)).j+1,more:=(stp m k (runP m i pt d)).more - 1 }:=by
   conv=>lhs; unfold adv
   rw[if_pos (by omega)]
  rw[e]
  exact⟨by show(stp m k (runP m i pt d)).j+1=_; omega,by show(stp m k (runP m i pt d)).more - 1=_; omega⟩
theorem qvv{m i:Nat}(h:i≤m):i≤runEnd m i∧runEnd m i≤m:=by unfold runEnd; split<;>omega
theorem qfq{p:Nat→Bool}{n k:Nat}(h:(List.range n).find? p=some k):k<n∧p k=true∧∀ k',k'<k→p k'=false:=by
 have h1:=List.find?_some h
 have h2:=List.mem_of_find?_eq_some h
 refine⟨Qzl.mp h2,h1,fun k' hk=>?_⟩
 rw[List.find?_range_eq_some]at h
 have:=h.2.2 k' hk
 simpa using this
theorem qhe{m:Nat}{ow:Array (Option Nat)}(hs:ow.size=m+1):∀ (fuel i pt n':Nat),i≤m→n'<fuel→¬ OcO ow (lp m n' (i,pt)).1→
  ∃ n j,layClean.free m ow fuel i pt=some j∧(stp m n (runP m i pt none)).j=j∧j≤m∧¬ OcO ow j∧∀ k,k<n→OcO ow (stp m k (runP m i pt none)).j
 |0,i,pt,n',_,hn,_=>by omega
 |fuel+1,i,pt,n',hi,hn,he=>by
  unfold layClean.free
  obtain⟨r1,r2⟩:=qvv hi
  cases hf:(List.range (runEnd m i+1 - i)).find? fun k=>(ow.getD (i+k) (some 0)).isNone with
  |some k=>
   obtain⟨f1,f2,f3⟩:=qfq hf
   refine⟨k,i+k,rfl,(qy2 m i pt none k (by omega)).1,by omega,(getD_none (by omega)).mp f2,fun k' hk=>?_⟩
   rw[(qy2 m i pt none k' (by omega)).1]
   have:=f3 k' hk
   apply Classical.byContradiction
   intro hc
   rw[(getD_none (by omega)).mpr hc]at this
   cases this
  |none=>
   have all:∀ k,k<runEnd m i+1 - i→OcO ow (i+k):=fun k hk=>by
    have:=List.find?_eq_none.mp hf k (Qzl.mpr hk)
    apply Classical.byContradiction
    intro hc
    exact this ((getD_none (by omega)).mpr hc)
   cases n' with
   |zero=>exact absurd (all 0 (by omega)) he
   |succ n'=>
    have hl:(leap m i pt).1≤m:=Qz0 (Qxi _ (Qxw _))
    obtain⟨n,j,q1,q2,q3,q4,q5⟩:=qhe hs fuel (leap m i pt).1 (leap m i pt).2 n' hl (by omega) he
    refine⟨(runEnd m i - i)+1+n,j,q1,?_,q3,q4,fun k hk=>?_⟩
    ·rw[qqp,qw8 m (runEnd m i - i) (runP m i pt none) rfl]; exact q2
    ·rcases Qzd k (runEnd m i - i+1) with h|h
     ·rw[(qy2 m i pt none k (by omega)).1]; exact all k (by omega)
     ·have e:k=(runEnd m i - i)+1+(k - (runEnd m i - i+1)):=by omega
      rw[e,qqp,qw8 m (runEnd m i - i) (runP m i pt none) rfl]
      exact q5 _ (by omega)
structure FI (m:Nat) (ow:Array (Option Nat)) (hs:List Int):Prop where
 size:ow.size=m+1
 val:∀ (j k:Nat),ow[j]?=some (some k)→k<hs.length
 sur:∀ k,k<hs.length→∃ j:Nat,ow[j]?=some (some k)
 reach:∀ (j k:Nat) (h:Int),ow[j]?=some (some k)→hs[k]?=some h→∃ n,(stp m n (qzp m h)).j=j∧∀ q,q<n→OcO ow (stp m q (qzp m h)).j
 cnt:ow.toList.countP Option.isSome=hs.length
theorem FI.zero(m:Nat):FI m (Array.replicate (m+1) none) [] where
 size:=by simp
 val:=fun j k h=>by
  rw[Qx6]at h
  split at h<;>simp at h
 sur:=fun k h=>by simp at h
 reach:=fun j k x h=>by
  rw[Qx6]at h
  split at h<;>simp at h
 cnt:=by rw[Array.toList_replicate]; simp
theorem FI.some_free{m:Nat}{ow:Array (Option Nat)}{hs:List Int}(I:FI m ow hs)(h:hs.length≤m):∃ e,e≤m∧¬ OcO ow e:=by
 apply Classical.byContradiction
 intro hn
 have all:∀ x∈ow.toList,Option.isSome x=true:=fun x hx=>by
  obtain⟨j,hj,e⟩:=Qzc hx
  have hj':j<ow.size:=by simpa using hj
  have:OcO ow j:=Classical.byContradiction fun hc=>hn ⟨j,by have:=I.size; omega,hc⟩
  obtain⟨k,hk⟩:=this
  rw[Qqu hj']at hk
  rw[Array.getElem_toList]at e
  rw[← e,Option.some.inj hk]; rfl
 have:=List.countP_eq_length.mpr all
 have e1:=I.cnt
 have e2:ow.toList.length=m+1:=(Qzy).trans I.size
 omega
theorem FI.more{m:Nat}(hm:m=7∨m=31){ow:Array (Option Nat)}{hs:List Int}(I:FI m ow hs)(hl:hs.length≤m)(h:Int):
  ∃ j,layClean.free m ow (turns m) (bits h % (m+1)) (bits h)=some j∧FI m (ow.setIfInBounds j (some hs.length)) (hs++[h]):=by
 obtain⟨e,he,hf⟩:=I.some_free hl
 have ok:=Okp.start (m:=m) h
 obtain⟨n',_,hn',_,_,e1⟩:=qdy hm none ok.i ok.pt he
 have e1:(lp m n' (bits h % (m+1),bits h)).1=e:=e1
 obtain⟨n,j,q1,q2,q3,q4,q5⟩:=qhe I.size (turns m) (bits h % (m+1)) (bits h) n' ok.i (by unfold turns; omega) (by rw[e1]; exact hf)
 refine⟨j,q1,?_⟩
 have hj:j<ow.size:=by rw[I.size]; omega
 have gt:∀ j',(ow.setIfInBounds j (some hs.length))[j']?=if j=j' then some (some hs.length) else ow[j']?:=fun j'=>by
  rw[Array.getElem?_setIfInBounds]
  by_cases h:j=j'
  ·subst h; rw[if_pos rfl,if_pos hj,if_pos rfl]
  ·rw[if_neg h,if_neg h]
 have oc:∀ j',OcO ow j'→OcO (ow.setIfInBounds j (some hs.length)) j':=fun j' ⟨k,hk⟩=>by
  unfold OcO
  rw[gt]
  by_cases h:j=j'
  ·exact⟨_,if_pos h⟩
  ·rw[if_neg h]; exact⟨k,hk⟩
 refine⟨by rw[Array.size_setIfInBounds]; exact I.size,fun j' k hk=>?_,fun k hk=>?_,fun j' k h' hk hh=>?_,?_⟩
 ·rw[gt]at hk
  rw[Qq0,Qz5]
  split at hk
  ·cases hk; omega
  ·have:=I.val _ _ hk; omega
 ·rw[Qq0,Qz5]at hk
  rcases Qzd k hs.length with h1|h1
  ·obtain⟨j',hj'⟩:=I.sur k h1
   refine⟨j',?_⟩
   rw[gt,if_neg (fun z=>q4 (by rw[z]; exact⟨k,hj'⟩))]; exact hj'
  ·have:k=hs.length:=by omega
   subst this
   exact⟨j,by rw[gt,if_pos rfl]⟩
 ·rw[gt]at hk
  split at hk
  ·rename_i hjj
   cases hk
   rw[Qq8 (Qqj _),Nat.sub_self]at hh
   cases hh
   exact⟨n,by rw[← hjj]; exact q2,fun q hq=>oc _ (q5 q hq)⟩
  ·have hk':=I.val _ _ hk
   rw[Qzz hk']at hh
   obtain⟨n1,a1,a2⟩:=I.reach _ _ _ hk hh
   exact⟨n1,a1,fun q hq=>oc _ (a2 q hq)⟩
 ·rw[Array.toList_setIfInBounds,List.countP_set (by simpa using hj)]
  have hnone:(ow.toList[j]'(by simpa using hj)).isSome=false:=by
   cases e:ow.toList[j]'(by simpa using hj) with
   |none=>rfl
   |some k=>exact absurd ⟨k,by rw[← Qql,Qqg (by simpa using hj),e]⟩ q4
  simp only[hnone,I.cnt]
  simp
theorem qdm{m:Nat}(hm:m=7∨m=31):∀ (l:List Int) (ow:Array (Option Nat)) (hs:List Int),FI m ow hs→hs.length+l.length≤m+1→
  ∃ ow',l.foldl (fun acc h=>do let (owner,k) ← acc; let j ← layClean.free m owner (turns m) (bits h % (m+1)) (bits h); pure (owner.setIfInBounds j (some k),k+1)) (some (ow,hs.length))=some (ow',hs.length+l.length)∧FI m ow' (hs++l)
 |[],ow,hs,I,_=>⟨ow,rfl,by rw[Qzf]; exact I⟩
 |h::l,ow,hs,I,hl=>by
  simp only[Qqd]at hl
  obtain⟨j,e,I'⟩:=I.more hm (by omega) h
  obtain⟨ow',e',I''⟩:=qdm hm l _ _ I' (by simp; omega)
  refine⟨ow',?_,by simpa using I''⟩
  rw[Qjz]
  have:(do let (owner,k) ← (some (ow,hs.length):Option (Array (Option Nat)×Nat)); let j ← layClean.free m owner (turns m) (bits h % (m+1)) (bits h); pure (owner.setIfInBounds j (some k),k+1))=some (ow.setIfInBounds j (some hs.length),hs.length+1):=by
   show(layClean.free m ow (turns m) (bits h % (m+1)) (bits h)).bind _=_
   rw[e]; rfl
  rw[this]
  have el:hs.length+1=(hs++[h]).length:=by simp
  rw[el,e']
  simp; omega
theorem lay_ok{m:Nat}(hm:m=7∨m=31)(hs:Array Int)(hl:hs.size≤m+1):∃ ow,layClean m hs=some ow∧FI m ow hs.toList:=by
 obtain⟨ow,e,I⟩:=qdm hm hs.toList _ [] (FI.zero m) (by simpa using hl)
 refine⟨ow,?_,by simpa using I⟩
 unfold layClean
 rw[← Array.foldl_toList]
 exact congrArg (Option.map (·.1)) e
end ST
end
section
namespace ST
open PySem SetTable
noncomputable def qzl(m:Nat)(ow:Array (Option Nat)):List (Nat×Nat):=(List.range (m+1)).filterMap fun j=>(ow.getD j none).map (j,·)
theorem qx4{m:Nat}{ow:Array (Option Nat)}{hs:List Int}(I:FI m ow hs){q:Nat×Nat}:q∈qzl m ow↔ow[q.1]?=some (some q.2):=by
 unfold qzl
 rw[Qxj]
 constructor
 ·rintro⟨j,hj,e⟩
  have hj':j<ow.size:=by rw[I.size]; exact Qzl.mp hj
  rw[Qzb,Qqu hj']at e
  cases h:ow[j] with
  |none=>rw[h]at e; cases e
  |some k=>
   rw[h]at e
   cases e
   rw[Qqu hj',h]
 ·intro e
  have hj:q.1<ow.size:=(Qzv.mp e).1
  refine⟨q.1,Qzl.mpr (by rw[← I.size]; exact hj),?_⟩
  rw[Qzb,e]
  rfl
theorem qof(m:Nat)(ow:Array (Option Nat)):(qzl m ow).Pairwise fun a b=>a.1<b.1:=by
 unfold qzl
 refine List.Pairwise.filterMap _ (R:=fun a b=>a<b) (fun a a' h b hb b' hb'=>?_) (List.pairwise_lt_range)
 cases e:ow.getD a none with
 |none=>rw[e]at hb; cases hb
 |some k=>
  cases e':ow.getD a' none with
  |none=>rw[e']at hb'; cases hb'
  |some k'=>
   rw[e]at hb; rw[e']at hb'
   cases hb; cases hb'
   exact h
theorem qy8{m:Nat}{ow:Array (Option Nat)}{hs:List Int}(I:FI m ow hs):(qzl m ow).length=hs.length:=by
 unfold qzl
 rw[List.length_filterMap_eq_countP,← I.cnt]
 have e:ow.toList=(List.range (m+1)).map fun j=>ow.getD j none:=by
  apply List.ext_getElem?
  intro j
  rw[Qql,Qqn]
  rcases Qzd j (m+1) with h|h
  ·rw[List.getElem?_range h]
   have hj:j<ow.size:=by rw[I.size]; exact h
   rw[Qqu hj]
   show _=some (ow.getD j none)
   rw[Qzb,Qqu hj]; rfl
  ·rw[Qjy (by rw[I.size]; exact h),Qzs (by simpa using h)]; rfl
 rw[e,List.countP_map]
 refine List.countP_congr fun j _=>?_
 simp
theorem qdd{α:Type}(es:Array α):∀ (l:List Nat),(∀ k∈l,k<es.size)→(l.filterMap fun k=>es[k]?).length=l.length∧∀ i:Nat,(l.filterMap fun k=>es[k]?)[i]?=l[i]?.bind fun k=>es[k]?
 |[],_=>⟨rfl,fun i=>by simp⟩
 |k::l,h=>by
  obtain⟨h1,h2⟩:=qdd es l fun k' hk=>h k' (Qqr _ hk)
  have hk:k<es.size:=h k Qq4
  have e:es[k]?=some es[k]:=Qqu hk
  rw[Qz9,e]
  refine⟨by simp[h1],fun i=>?_⟩
  cases i with
  |zero=>simp[e]
  |succ i=>simp only[Qqa]; exact h2 i
theorem qoi{α:Type}{m f mv:Nat}{led plain:Bool}(hm:m=7∨m=31)(es:Array (Int×α))(hl:es.size≤m):
  ∃ t order,laid m f mv led plain (es.map (·.1))=some (t,order)∧SI t (order.filterMap (es[·]?))∧(order.filterMap (es[·]?)).size=es.size∧(∀ e,e∈(order.filterMap (es[·]?)).toList↔e∈es.toList)∧t.mask=m:=by
 obtain⟨ow,e,I⟩:=lay_ok hm (es.map (·.1)) (by rw[Array.size_map]; omega)
 have hlen:(es.map (·.1)).toList.length=es.size:=by simp
 have il:∀ k∈(qzl m ow).map (·.2),k<es.size:=fun k hk=>by
  obtain⟨q,hq,rfl⟩:=Qxk.mp hk
  rw[← hlen]
  exact I.val _ _ ((qx4 I).mp hq)
 obtain⟨p1,p2⟩:=qdd es _ il
 have tl:(((qzl m ow).map (·.2)).toArray.filterMap (es[·]?)).toList=((qzl m ow).map (·.2)).filterMap fun k=>es[k]?:=by simp
 have at_:∀ i:Nat,(((qzl m ow).map (·.2)).toArray.filterMap (es[·]?))[i]?=((qzl m ow)[i]?.map (·.2)).bind fun k=>es[k]?:=fun i=>by
  rw[← Qql,tl,p2,Qqn]
 have pl:∀ i:Nat,((qzl m ow).map (·.1)).toArray[i]?=(qzl m ow)[i]?.map (·.1):=fun i=>by simp
 have oc:∀ j,OcO ow j→Occ { mask:=m,place:=((qzl m ow).map (·.1)).toArray,dummies:=#[],finger:=f,led:=led,moves:=mv,plain:=plain } j:=fun j ⟨k,hk⟩=>by
  obtain⟨i,hi,e⟩:=Qzc ((qx4 I (q:=(j,k))).mpr hk)
  refine⟨i,?_⟩
  show((qzl m ow).map (·.1)).toArray[i]?=_
  rw[pl,Qqg hi,e]; rfl
 have ns:(((qzl m ow).map (·.2)).toArray.filterMap (es[·]?)).size=es.size:=by
  rw[← Qzy,tl,p1,Qqk,qy8 I,hlen]
 refine⟨{ mask:=m,place:=((qzl m ow).map (·.1)).toArray,dummies:=#[],finger:=f,led:=led,moves:=mv,plain:=plain },((qzl m ow).map (·.2)).toArray,?_,⟨⟨hm,rfl,?_,?_,?_⟩,?_,?_⟩,ns,?_,rfl⟩
 ·unfold laid
  rw[e]; rfl
 ·intro i k a b hik ha hb
  have ha:((qzl m ow).map (·.1)).toArray[i]?=some a:=ha
  have hb:((qzl m ow).map (·.1)).toArray[k]?=some b:=hb
  rw[pl]at ha hb
  obtain⟨x,hx,rfl⟩:=Qzw.mp ha
  obtain⟨y,hy,rfl⟩:=Qzw.mp hb
  obtain⟨h1,e1⟩:=Qqb.mp hx
  obtain⟨h2,e2⟩:=Qqb.mp hy
  have:=Qx1.mp (qof m ow) i k h1 h2 hik
  rw[e1,e2]at this
  exact this
 ·intro i j hj
  have hj:((qzl m ow).map (·.1)).toArray[i]?=some j:=hj
  rw[pl]at hj
  obtain⟨x,hx,rfl⟩:=Qzw.mp hj
  have:=(qx4 I).mp (Qq9 hx)
  have:=(Qzv.mp this).1
  rw[I.size]at this
  show x.1≤m
  omega
 ·show((qzl m ow).map (·.1)).toArray.size≤m
  rw[Qqx,Qqk,qy8 I,hlen]; exact hl
 ·show((qzl m ow).map (·.1)).toArray.size=_
  rw[Qqx,Qqk,qy8 I,hlen,ns]
 ·intro i j x hj hx
  have hj:((qzl m ow).map (·.1)).toArray[i]?=some j:=hj
  rw[pl]at hj
  rw[at_]at hx
  obtain⟨q,hq,rfl⟩:=Qzw.mp hj
  rw[hq]at hx
  have hx:es[q.2]?=some x:=hx
  have ho:=(qx4 I).mp (Qq9 hq)
  obtain⟨n,a1,a2⟩:=I.reach q.1 q.2 x.1 ho (by rw[Qql,Array.getElem?_map,hx]; rfl)
  exact⟨n,a1,fun z hz=>oc _ (a2 z hz)⟩
 ·intro x
  rw[tl,Qxj]
  constructor
  ·rintro⟨k,_,hk⟩
   exact Qq9 (by rw[Qql]; exact hk)
  ·intro hx
   obtain⟨k,hk,e'⟩:=Qzc hx
   have hk':k<(es.map (·.1)).toList.length:=by rw[hlen]; simpa using hk
   obtain⟨j,hj⟩:=I.sur k hk'
   refine⟨k,Qxk.mpr ⟨(j,k),(qx4 I).mpr hj,rfl⟩,?_⟩
   rw[← Qql,Qqg hk,e']
end ST
end
section
namespace ST
open PySem SetTable
theorem qgw{t:SetTable}(T:Tb t){hashAt:Nat→Int}{h:Int}{p:Probe}(hp:Okp t.mask p){met:Option Met}(hm:t.probe hashAt h p=met):
  ∃ n,(∀ m,m<n→∃ i:Nat,t.place[i]?=some (stp t.mask m p).j∧hashAt i≠h)∧
   ((¬ Occ t (stp t.mask n p).j∧met=some (.empty (stp t.mask n p).j none))∨
    (∃ i:Nat,t.place[i]?=some (stp t.mask n p).j∧hashAt i=h∧met=some (.candidate (stp t.mask n p).j i (stp t.mask (n+1) p)))):=by
 subst hm
 exact qen T hp
theorem SI.fits{α:Type}{t:SetTable}{es:Array (Int×α)}(I:SI t es):t.fits es.size=true:=by
 unfold SetTable.fits SetTable.fill
 rw[I.tb.dum]
 have:=I.tb.few
 simp[I.sz]
 rw[← I.sz]; exact this
theorem Tb.stays{t:SetTable}(T:Tb t):t.gaveWay=false:=by
 unfold SetTable.gaveWay
 rcases T.mask with h|h<;>rw[h]<;>rfl
section
variable {prog:Program}{w:World}{A:Around}{E:Value→Shared→Prop}{s:Shared}{K:Type} [DecidableEq K]{knd:KeyKind prog w K}
theorem qwi(n:Nat){v:Value}(h:carriedByValue v=true):ofAClassStatement n v=pure false:=by
 cases v with
 |ref a=>simp[carriedByValue]at h
 |_=>unfold ofAClassStatement; rfl
theorem qw4{ks:List K}{b:Addr}{Q:Bool→Shared→Prop}(hk:IsTupleKey knd s.heap ks b)(h:Q false s):wpAny (model prog w) A (ofAClassStatement 8 (.ref b)) Q E s:=by
 have hT:=hk.typeIs
 obtain⟨o,items,n,ho,hc,hd,hi⟩:=hk
 unfold ofAClassStatement
 refine wpAny_bind (wpAny_typeOf hT ?_)
 dsimp only
 refine wpAny_bind ?_
 refine wpAny_pure ?_
 simp only[Qz2,Qqc,if_false]
 refine wpAny_bind (wpAny_seqItems ho hd ?_)
 refine wpAny_bind ?_
 show wpAny _ _ (forIn items _ _) _ _ s
 rw[← Array.forIn_toList]
 refine wpAny_forIn_list _ (fun rest r s'=>r.1=none∧s'=s∧∀ v∈rest,carriedByValue v=true) _ ?_ ?_ _ _ ⟨rfl,rfl,hi.byValue⟩
 ·rintro v rest r s' ⟨hr,rfl,hall⟩
  rw[qwi _ (hall v Qq4)]
  refine wpAny_bind (wpAny_pure ?_)
  simp only[Qqc,if_false]
  exact wpAny_pure ⟨rfl,rfl,fun u hu'=>hall u (Qqr _ hu')⟩
 ·rintro⟨r1,r2⟩ s' ⟨hr,rfl,_⟩
  simp only at hr
  subst hr
  exact wpAny_pure h
theorem qmu{x:Addr}{ks:List K}{l:List Value}{Q:Bool→Shared→Prop}(hx:IsTupleKey knd s.heap ks x)(hl:∀ y∈l,∃ b k,y=.ref b∧IsTupleKey knd s.heap k b)(h:Q false s):
  wpAny (model prog w) A (searchCouldBeSeen (.ref x) l) Q E s:=by
 unfold searchCouldBeSeen
 refine wpAny_bind ?_
 refine wpAny_forIn_list _ (fun rest r s'=>r.1=none∧s'=s∧∀ y∈rest,∃ b k,y=.ref b∧IsTupleKey knd s.heap k b) _ ?_ ?_ _ _ ⟨rfl,rfl,hl⟩
 ·rintro y rest r s' ⟨hr,rfl,hall⟩
  obtain⟨b,k,rfl,hb⟩:=hall y Qq4
  have go:∀ {r':MProd (Option Bool) PUnit},r'.1=none→(fun(r:ForInStep (MProd (Option Bool) PUnit)) s''=>match r with|.done r=>r.1=none∧s''=s'∧True|.yield r=>r.1=none∧s''=s'∧True) (.yield r') s':=fun h=>⟨h,rfl,trivial⟩
  dsimp only
  have e1:(carriedByValue (Value.ref x)&&carriedByValue (Value.ref b))=false:=rfl
  simp only[e1,Qzt]
  by_cases he:(x==b)=true
  ·rw[if_pos he]
   exact wpAny_pure ⟨rfl,rfl,fun u hu'=>hall u (Qqr _ hu')⟩
  ·rw[if_neg he]
   refine wpAny_bind (wpAny_eqIsQuiet_tuple hx ?_)
   simp only[Qz2,Qqc,if_false]
   refine wpAny_bind (wpAny_eqIsQuiet_tuple hb ?_)
   simp only[Qz2,Qqc,if_false]
   refine wpAny_bind (qw4 hx ?_)
   simp only[Qqc,if_false]
   refine wpAny_bind (qw4 hb ?_)
   simp only[Qqc,if_false]
   exact wpAny_pure ⟨rfl,rfl,fun u hu'=>hall u (Qqr _ hu')⟩
 ·rintro⟨r1,r2⟩ s' ⟨hr,rfl,_⟩
  simp only at hr
  subst hr
  exact wpAny_pure h
end
section
variable {prog:Program}{w:World}{A:Around}{E:Value→Shared→Prop}{s:Shared}
theorem ints_of{ks:List Int}{vs:List Value}(h:ItemsAre (intKind prog w) ks vs):∀ v∈vs,∃ i t,v=.int i t:=by
 induction h with
 |nil=>intro v hv; simp at hv
 |@cons k v' ks vs h1 _ ih=>
  intro v hv
  rcases Qqh.mp hv with rfl|hv
  ·obtain⟨t,e⟩:=Value.isInt_shape (show Value.isInt k v=true from h1)
   exact⟨k,t,e⟩
  ·exact ih v hv
theorem qej{ks:List Int}{b:Addr}{Q:Bool→Shared→Prop}(hk:IsTupleKey (intKind prog w) s.heap ks b)(h:Q true s):wpAny (model prog w) A (hashByValue 8 (.ref b)) Q E s:=by
 have hT:=hk.typeIs
 obtain⟨o,items,n,ho,hc,hd,hi⟩:=hk
 unfold hashByValue
 refine wpAny_bind (wpAny_specialOf hT F.slot_tuple_hash.lookup ?_)
 dsimp only
 refine wpAny_bind (wpAny_seqItems ho hd ?_)
 refine wpAny_bind ?_
 show wpAny _ _ (forIn items _ _) _ _ s
 rw[← Array.forIn_toList]
 refine wpAny_forIn_list _ (fun rest r s'=>r.1=none∧s'=s∧∀ v∈rest,∃ i t,v=.int i t) _ ?_ ?_ _ _ ⟨rfl,rfl,ints_of hi⟩
 ·rintro v rest r s' ⟨hr,rfl,hall⟩
  obtain⟨i,t,rfl⟩:=hall v Qq4
  have e:hashByValue 7 (.int i t)=pure true:=by simp[hashByValue]
  rw[e]
  refine wpAny_bind (wpAny_pure ?_)
  simp only[Qz2,Qqc,if_false]
  exact wpAny_pure ⟨rfl,rfl,fun u hu'=>hall u (Qqr _ hu')⟩
 ·rintro⟨r1,r2⟩ s' ⟨hr,rfl,_⟩
  simp only at hr
  subst hr
  exact wpAny_pure h
def Els(prog:Program)(w:World)(h:Heap)(es:Array (Int×Value)):Prop:=∀ (i:Nat) (e:Int×Value),es[i]?=some e→∃ b k,e=(tupleKeyHash (intKind prog w) k,.ref b)∧IsTupleKey (intKind prog w) h k b
def Bad(prog:Program)(w:World)(h:Heap)(es:Array (Int×Value))(k:List Int)(i:Nat):Prop:=∀ (e:Int×Value) (b:Addr) (k':List Int),es[i]?=some e→e.2=.ref b→IsTupleKey (intKind prog w) h k' b→k'≠k
theorem qap{a:Addr}{o:Obj}{es:Array (Int×Value)}{ep:Nat}{t:SetTable}{x:Addr}{k:List Int}{Q:SetFound→Shared→Prop}(hu:A.units<cLine)(ho:s.heap.get? a=some o)(hd:o.data=.set es ep t)(I:SI t es)(hes:Els prog w s.heap es)
  (hx:IsTupleKey (intKind prog w) s.heap k x)
  (hf:∀ n,(∀ m,m<n→∃ i:Nat,t.place[i]?=some (stp t.mask m (qzp t.mask (tupleKeyHash (intKind prog w) k))).j∧Bad prog w s.heap es k i)→¬ Occ t (stp t.mask n (qzp t.mask (tupleKeyHash (intKind prog w) k))).j→
   Q (.free (stp t.mask n (qzp t.mask (tupleKeyHash (intKind prog w) k))).j false) s)
  (ht:(∃ (i:Nat) (b:Addr) (g:Int),es[i]?=some (g,.ref b)∧IsTupleKey (intKind prog w) s.heap k b)→Q (.there none) s)
  (N:Nat) (hN:¬ Occ t (stp t.mask N (qzp t.mask (tupleKeyHash (intKind prog w) k))).j) :
  ∀ (fuel n0:Nat) (stand:Option Probe),stand.getD (t.probeStart (tupleKeyHash (intKind prog w) k))=stp t.mask n0 (qzp t.mask (tupleKeyHash (intKind prog w) k))→n0≤N→N - n0<fuel→
   (∀ m,m<n0→∃ i:Nat,t.place[i]?=some (stp t.mask m (qzp t.mask (tupleKeyHash (intKind prog w) k))).j∧Bad prog w s.heap es k i)→
   wpAny (model prog w) A (setSearchFrom a (.ref x) (tupleKeyHash (intKind prog w) k) true fuel stand) Q E s
 |0,n0,_,_,_,hlt,_=>by omega
 |fuel+1,n0,stand,hst,hle,hlt,hbad=>by
  unfold setSearchFrom
  refine wpAny_bind (wpAny_setState_of ho hd I.fits ?_)
  dsimp only
  rw[I.tb.stays]
  simp only[Qqc,if_false]
  rw[hst]
  generalize hm:SetTable.probe t _ _ _=met
  have okp:Okp t.mask (stp t.mask n0 (qzp t.mask (tupleKeyHash (intKind prog w) k))):=(Okp.start _).stp n0
  obtain⟨n,p1,p2⟩:=qgw I.tb okp hm
  have bad1:∀ m,m<n→∃ i:Nat,t.place[i]?=some (stp t.mask (n0+m) (qzp t.mask (tupleKeyHash (intKind prog w) k))).j∧Bad prog w s.heap es k i:=fun m hm'=>by
   obtain⟨i,i1,i2⟩:=p1 m hm'
   refine⟨i,by rw[qqp]; exact i1,fun e b k' he hb hk' z=>i2 ?_⟩
   obtain⟨b',k'',e',q⟩:=hes i e he
   have:(es[i]?.map (·.1)).getD 0=tupleKeyHash (intKind prog w) k:=by
    rw[he,e']
    rw[e']at hb
    cases hb
    rw[q.inj hk',z]; rfl
   exact this
  have badN:∀ m,m<n0+n→∃ i:Nat,t.place[i]?=some (stp t.mask m (qzp t.mask (tupleKeyHash (intKind prog w) k))).j∧Bad prog w s.heap es k i:=fun m hm'=>by
   rcases Qzd m n0 with h|h
   ·exact hbad m h
   ·obtain⟨i,i1,i2⟩:=bad1 (m - n0) (by omega)
    rw[show n0+(m - n0)=m by omega]at i1
    exact⟨i,i1,i2⟩
  rw[← qqp]at p2
  rcases p2 with⟨q1,rfl⟩|⟨i,q1,q2,rfl⟩
  ·dsimp only
   exact wpAny_pure (hf _ badN q1)
  ·dsimp only
   have hi:i<es.size:=by rw[← I.sz]; exact(Qzv.mp q1).1
   have he:es[i]?=some es[i]:=Qqu hi
   obtain⟨b,k',e',hb⟩:=hes i _ he
   rw[e']at he
   have hnN:n0+n<N:=by
    rcases Qx0 (n0+n) N with h|h|h
    ·exact h
    ·exact absurd ⟨i,by rw[← h]; exact q1⟩ hN
    ·obtain⟨i',i1,_⟩:=badN N h
     exact absurd ⟨i',i1⟩ hN
   have rest:wpAny (model prog w) A (do
     let equal ← holding [Value.ref b] (eqBool (.ref b) (.ref x))
     let (es',_,t') ← setState a
     if true&&equal then return .there none
     let some same:=t'.sameMemory t.moves t.mask|unsupported "set.changed-during-lookup:is-the-new-block-at-the-old-address"
     let still ← match (if same then t'.slot (stp t.mask (n0+n) (qzp t.mask (tupleKeyHash (intKind prog w) k))).j else .empty) with
      |.live i'=>match es'[i']? with
       |some (_,y')=>do pure (if ← isSame y' (.ref b) then some i' else none)
       |none=>pure none
      |_=>pure none
     match still with
     |none=>rule "set.search.anew"; setSearchFrom a (.ref x) (tupleKeyHash (intKind prog w) k) true fuel none
     |some i'=>if equal then return .there (some i') else setSearchFrom a (.ref x) (tupleKeyHash (intKind prog w) k) true fuel (some (stp t.mask (n+1) (stp t.mask n0 (qzp t.mask (tupleKeyHash (intKind prog w) k)))))) Q E s:=by
    refine wpAny_bind (wpAny_holding (wpAny_eqBool_tuple hu hb hx ?_))
    refine wpAny_bind (wpAny_setState_of ho hd I.fits ?_)
    dsimp only
    by_cases hk:k'=k
    ·subst hk
     simp only[decide_true,Qxp,if_true]
     exact wpAny_pure (ht ⟨i,b,_,he,hb⟩)
    ·have ek:decide (k'=k)=false:=decide_eq_false hk
     simp only[ek,Qz7,Qqc,if_false]
     have em:t.sameMemory t.moves t.mask=some true:=by unfold SetTable.sameMemory; simp
     rw[em]
     dsimp only
     simp only[if_true]
     rw[qvz I.tb q1]
     dsimp only
     rw[he]
     dsimp only
     refine wpAny_bind (wpAny_isSame_ref_self ?_)
     simp only[if_true]
     refine wpAny_bind (wpAny_pure ?_)
     dsimp only
     refine qap hu ho hd I hes hx hf ht N hN fuel (n0+n+1) _ ?_ (by omega) (by omega) fun m hm'=>?_
     ·show stp t.mask (n+1) (stp t.mask n0 _)=_
      rw[← qqp]; rfl
     ·rcases Qzd m (n0+n) with h|h
      ·exact badN m h
      ·have:m=n0+n:=by omega
       subst this
       refine⟨i,q1,fun e b1 k1 he1 hb1 hk1 z=>hk ?_⟩
       rw[he]at he1
       cases he1
       cases hb1
       rw[hb.inj hk1,z]
   have seen:∀ y∈(es.filter (·.1==tupleKeyHash (intKind prog w) k)).toList.map (·.2),∃ b k,y=.ref b∧IsTupleKey (intKind prog w) s.heap k b:=fun y hy=>by
    obtain⟨e,h1,rfl⟩:=Qxk.mp hy
    have h2:e∈es.toList:=by
     rw[Array.toList_filter]at h1
     exact(Qx9.mp h1).1
    obtain⟨i',hi',e1⟩:=Qzc h2
    obtain⟨b',k1,e2,q⟩:=hes i' e (by rw[← Qql,Qqg hi',e1])
    exact⟨b',k1,by rw[e2],q⟩
   cases hl:t.led with
   |true=>
    simp only[Qz2,Qqc,if_false]
    rw[he]
    exact rest
   |false=>
    simp only[Qjb,if_true]
    refine wpAny_bind (qmu hx seen ?_)
    simp only[Qqc,if_false]
    rw[he]
    exact rest
end
end ST
end
section
namespace ST
open PySem SetTable
section
variable {prog:Program}{w:World}{A:Around}{E:Value→Shared→Prop}{s:Shared}
def TS(prog:Program)(w:World)(h:Heap)(a:Addr)(S:List (List Int)):Prop:=∃ o es ep t,h.get? a=some o∧o.ExactSet∧o.data=.set es ep t∧SI t es∧Els prog w h es∧es.size=S.length∧
 (∀ k,k∈S↔∃ g b,(g,Value.ref b)∈es.toList∧IsTupleKey (intKind prog w) h k b)∧(t.mask=7→es.size≤4)
theorem qg8{h h':Heap}{a b:Addr}{k:List Int}{o:Obj}{es:Array (Int×Value)}{ep:Nat}{t:SetTable}(ho:h.get? a=some o)(hd:o.data=.set es ep t)(hs:Heap.SameBut a h h')(x:IsTupleKey (intKind prog w) h k b):IsTupleKey (intKind prog w) h' k b:=by
 obtain⟨o',items,n,ho',hc,hd',hi⟩:=x
 have hne:b≠a:=by
  rintro rfl
  obtain rfl:o'=o:=Option.some.inj (ho'.symm.trans ho)
  rw[hd]at hd'; exact nomatch hd'
 exact⟨o',items,n,(hs.2 b hne).trans ho',hc,hd',hi⟩
theorem qg4:SetTable.sizeAbove (SetTable.grown 5)=32:=by decide
theorem qi1{a:Addr}{o:Obj}{es:Array (Int×Value)}{ep:Nat}{t:SetTable}{Q:Unit→Shared→Prop}(ho:s.heap.get? a=some o)(hd:o.data=.set es ep t)(I:SI t es)(h5:es.size=5)
  (h:∀ h' o' es' t',Heap.SameBut a s.heap h'→h'.get? a=some o'→(o.ExactSet→o'.ExactSet)→o'.data=.set es' (ep+1) t'→SI t' es'→es'.size=es.size→(∀ e,e∈es'.toList↔e∈es.toList)→t'.mask=31→Q () { s with heap:=h' }) :
  wpAny (model prog w) A (setRelay a (SetTable.grown 5)) Q E s:=by
 unfold setRelay
 refine wpAny_bind (wpAny_setState_of ho hd I.fits ?_)
 dsimp only
 rw[if_neg (by rw[qg4]; decide)]
 obtain⟨t',order,e1,I',z,mem,mk⟩:=qoi (f:=t.finger) (mv:=t.movedTo (SetTable.sizeAbove (SetTable.grown 5) - 1)) (led:=t.led) (plain:=t.plain) (m:=31) (.inr rfl) es (by omega)
 have er:t.relaid (es.map (·.1)) (SetTable.grown 5)=some (t',order):=by
  unfold SetTable.relaid
  rw[qg4]at e1 ⊢
  exact e1
 rw[er]
 refine wpAny_bind ?_
 change wpAny _ _ (do
  let some (t,order):=(some (t',order):Option (SetTable×Array Nat))|unsupported "internal:set-table-without-room"
  let es':=order.filterMap (es[·]?)
  if es'.size != es.size then unsupported "internal:set-table-lost-an-element"
  pure (es',t)) _ _ _
 dsimp only
 have ez:((order.filterMap (es[·]?)).size != es.size)=false:=by rw[z]; simp
 rw[ez]
 simp only[Qqc,if_false]
 refine wpAny_pure ?_
 refine wpAny_storeSet_of ho hd ?_ (by rw[z,h5,sizeLine_eq]; decide)
 have hg:(s.heap.update a (Obj.putSet (order.filterMap (es[·]?)) t')).get? a=some { o with data:=.set (order.filterMap (es[·]?)) (ep+1) t' }:=by
  have:=Qz4 (Obj.putSet (order.filterMap (es[·]?)) t') ho (by rw[putSet_of _ _ hd]; rfl)
  rw[putSet_of _ _ hd]at this; exact this
 exact h _ _ _ _ (Heap.SameBut.update _ a _) hg (fun q=>q) rfl I' z mem mk
theorem qon{m:Nat}(h:Int):(qzp m h).j+(qzp m h).more≤m:=by
 have hi:bits h % (m+1)≤m:=Qz0 (Qxi _ (Qxw _))
 obtain⟨r1,r2⟩:=qvv hi
 show bits h % (m+1)+(runEnd m (bits h % (m+1)) - bits h % (m+1))≤m
 omega
theorem j_next{m:Nat}{p:Probe}(h:p.j+p.more≤m):(adv m p).j+(adv m p).more≤m:=by
 unfold adv
 split
 ·show p.j+1+(p.more - 1)≤m; omega
 ·have hi:(leap m p.i p.perturb).1≤m:=Qz0 (Qxi _ (Qxw _))
  obtain⟨r1,r2⟩:=qvv hi
  show(leap m p.i p.perturb).1+(runEnd m (leap m p.i p.perturb).1 - (leap m p.i p.perturb).1)≤m
  omega
theorem j_stp{m:Nat}:∀ (n:Nat){p:Probe},p.j+p.more≤m→(stp m n p).j+(stp m n p).more≤m
 |0,_,h=>h
 |n+1,_,h=>j_stp n (j_next h)
theorem add_ok{a x:Addr}{S:List (List Int)}{k:List Int}{Q:Bool→Shared→Prop}(hu:A.units<cLine)(hT:TS prog w s.heap a S)(hx:IsTupleKey (intKind prog w) s.heap k x)(hl:S.length≤15)
  (h:∀ b h',Heap.SameBut a s.heap h'→TS prog w h' a (if k∈S then S else S++[k])→Q b { s with heap:=h' }) :
  wpAny (model prog w) A (setAddHashed a (.ref x) (tupleKeyHash (intKind prog w) k)) Q E s:=by
 have hT0:=hT
 obtain⟨o,es,ep,t,ho,hex,hd,I,hes,hsz,hmem,h4⟩:=hT
 have ofI:∀ {e:Int×Value},e∈es.toList→∃ i:Nat,es[i]?=some e:=fun {e} he=>by
  obtain⟨i,hi,e1⟩:=Qzc he
  exact⟨i,by rw[← Qql,Qqg hi,e1]⟩
 unfold setAddHashed setAddHashedIn
 refine wpAny_holding (wpAny_bind (wpAny_setState_of ho hd I.fits ?_))
 dsimp only
 have eb:byScan (.ref x) es=false:=rfl
 rw[eb]
 simp only[Qqc,if_false]
 obtain⟨fr,hfr,hfo⟩:=some_free I.tb
 obtain⟨N,hN,eN⟩:=hits I.tb.mask (Okp.start (tupleKeyHash (intKind prog w) k)) hfr
 refine wpAny_bind ?_
 unfold setSearch
 refine qap hu ho hd I hes hx (fun n hbad hfree=>?_) (fun hth=>?_) N (by rw[eN]; exact hfo) 100000 0 none rfl (Qze _) ?_ (fun m hm=>by omega)
 ·-- the element is new
  dsimp only
  have hnk:k ∉ S:=fun hk=>by
   obtain⟨g,b,hm,hb⟩:=(hmem k).mp hk
   obtain⟨i,hi⟩:=ofI hm
   obtain⟨b',k',e',hb'⟩:=hes i _ hi
   have e1:g=tupleKeyHash (intKind prog w) k':=congrArg Prod.fst e'
   have e2:b=b':=Value.ref.inj (congrArg Prod.snd e')
   subst e2
   obtain rfl:=hb.inj hb'
   exact qih I hbad hfree i _ hi e1 _ b k hi rfl hb rfl
  have hmk:es.size+1≤t.mask:=by
   rcases I.tb.mask with q|q
   ·have:=h4 q; omega
   ·omega
  have hjle:(stp t.mask n (qzp t.mask (tupleKeyHash (intKind prog w) k))).j≤t.mask:=Qzx (Qx7 _ _) (j_stp n (qon _))
  generalize hj:(stp t.mask n (qzp t.mask (tupleKeyHash (intKind prog w) k))).j=j at *
  have I1:SI (t.put j).1 (insertAt es (t.put j).2 (tupleKeyHash (intKind prog w) k,Value.ref x)):=put_ok I hjle hfree ⟨n,hj,fun m hm=>by obtain⟨i,hi,_⟩:=hbad m hm; exact⟨i,hi⟩⟩ hmk
  refine wpAny_bind (wpAny_setState_of ho hd I.fits ?_)
  dsimp only
  have hp2:(t.put j).2≤es.size:=by rw[qgv I.tb,← I.sz]; exact(qj7 I.tb.up).2.2
  have hmask:(t.put j).1.mask=t.mask:=by rw[qgv I.tb]
  have size1:(insertAt es (t.put j).2 (tupleKeyHash (intKind prog w) k,Value.ref x)).size=es.size+1:=qk5 _ _ _ hp2
  have mem1:∀ e,e∈(insertAt es (t.put j).2 (tupleKeyHash (intKind prog w) k,Value.ref x)).toList↔e∈es.toList∨e=(tupleKeyHash (intKind prog w) k,Value.ref x):=fun e=>qos hp2
  have fin:∀ (h':Heap) (es':Array (Int×Value)),Heap.SameBut a s.heap h'→(∀ e,e∈es'.toList↔e∈es.toList∨e=(tupleKeyHash (intKind prog w) k,Value.ref x))→
    Els prog w h' es'∧∀ k',k'∈S++[k]↔∃ g b,(g,Value.ref b)∈es'.toList∧IsTupleKey (intKind prog w) h' k' b:=fun h' es' sb hm=>by
   have kp:∀ {b:Addr}{k':List Int},IsTupleKey (intKind prog w) s.heap k' b→IsTupleKey (intKind prog w) h' k' b:=fun q=>qg8 ho hd sb q
   refine⟨fun i e he=>?_,fun k'=>?_⟩
   ·rcases (hm e).mp (Qq9 (by rw[Qql]; exact he)) with q|q
    ·obtain⟨i',hi'⟩:=ofI q
     obtain⟨b,k',e',hb⟩:=hes i' _ hi'
     exact⟨b,k',e',kp hb⟩
    ·exact⟨x,k,q,kp hx⟩
   ·constructor
    ·intro hk
     rcases Qxq.mp hk with q|q
     ·obtain⟨g,b,q1,q2⟩:=(hmem k').mp q
      exact⟨g,b,(hm _).mpr (.inl q1),kp q2⟩
     ·rw[Qzr]at q
      subst q
      exact⟨_,x,(hm _).mpr (.inr rfl),kp hx⟩
    ·rintro⟨g,b,q1,q2⟩
     rcases (hm _).mp q1 with q|q
     ·obtain⟨i',hi'⟩:=ofI q
      obtain⟨b',k'',e',hb⟩:=hes i' _ hi'
      have e2:b=b':=Value.ref.inj (congrArg Prod.snd e')
      subst e2
      obtain rfl:=q2.inj (kp hb)
      exact Qz1 _ ((hmem k').mpr ⟨g,b,q,hb⟩)
     ·have e2:b=x:=Value.ref.inj (congrArg Prod.snd q)
      subst e2
      obtain rfl:=q2.inj (kp hx)
      exact Qqs _ (by simp)
  have last:∀ (b:Bool) (t2:SetTable),SI t2 (insertAt es (t.put j).2 (tupleKeyHash (intKind prog w) k,Value.ref x))→t2.mask=t.mask→
    wpAny (model prog w) A (do
     storeSet a (insertAt es (t.put j).2 (tupleKeyHash (intKind prog w) k,Value.ref x)) t2
     if (!false&&t2.tooFull)=true then do
      setRelay a (SetTable.grown (es.size+1))
      pure true
     else pure true) Q E s:=fun b t2 I2 hm2=>by
   refine wpAny_bind (wpAny_storeSet_of ho hd ?_ (by rw[size1,sizeLine_eq]; omega))
   have hg:(s.heap.update a (Obj.putSet (insertAt es (t.put j).2 (tupleKeyHash (intKind prog w) k,Value.ref x)) t2)).get? a=some { o with data:=.set (insertAt es (t.put j).2 (tupleKeyHash (intKind prog w) k,Value.ref x)) (ep+1) t2 }:=by
    have:=Qz4 (Obj.putSet (insertAt es (t.put j).2 (tupleKeyHash (intKind prog w) k,Value.ref x)) t2) ho (by rw[putSet_of _ _ hd]; rfl)
    rw[putSet_of _ _ hd]at this; exact this
   have sb:=Heap.SameBut.update s.heap a (Obj.putSet (insertAt es (t.put j).2 (tupleKeyHash (intKind prog w) k,Value.ref x)) t2)
   obtain⟨fe,fm⟩:=fin _ _ sb mem1
   have full:t2.tooFull=decide ((es.size+1)*5 ≥ t.mask*3):=by
    unfold SetTable.tooFull SetTable.fill
    rw[I2.tb.dum,I2.sz,size1,hm2]; rfl
   rw[full]
   by_cases hfu:(es.size+1)*5 ≥ t.mask*3
   ·have m7:t.mask=7:=by
     rcases I.tb.mask with q|q
     ·exact q
     ·omega
    have e5:es.size+1=5:=by have:=h4 m7; omega
    simp only[decide_eq_true hfu,Qjb,Qxp,if_true]
    rw[e5]
    refine wpAny_bind (qi1 (s:={ s with heap:=_ }) hg rfl I2 (by rw[size1,e5]) fun h' o' es' t' sb' ho' hex' hd' I' z' mem' mk'=>wpAny_pure ?_)
    have sb2:=sb.trans sb'
    obtain⟨fe',fm'⟩:=fin h' es' sb2 fun e=>(mem' e).trans (mem1 e)
    refine h true h' sb2 ?_
    rw[if_neg hnk]
    exact⟨o',es',_,t',ho',hex' hex,hd',I',fe',by rw[z',size1,hsz]; simp,fm',fun q=>by rw[mk']at q; cases q⟩
   ·simp only[decide_eq_false hfu,Qjb,Qz7,Qqc,if_false]
    refine wpAny_pure (h true _ sb ?_)
    rw[if_neg hnk]
    exact⟨_,_,_,t2,hg,hex,rfl,I2,fe,by rw[size1,hsz]; simp,fm,fun q=>by rw[size1]; omega⟩
  cases hpl:(t.put j).1.plain with
  |true=>
   simp only[if_true]
   refine wpAny_bind (qej hx ?_)
   simp only[if_true]
   exact last true _ I1 hmask
  |false=>
   simp only[Qqc,if_false]
   refine wpAny_bind (wpAny_pure ?_)
   simp only[if_true]
   exact last true _ I1 hmask
 ·-- it is there
  dsimp only
  refine wpAny_pure ?_
  obtain⟨i,b,g,hi,hb⟩:=hth
  have hk:k∈S:=(hmem k).mpr ⟨g,b,Qq9 (by rw[Qql]; exact hi),hb⟩
  have e:s={ s with heap:=s.heap }:=by cases s; rfl
  rw[e]
  exact h false s.heap (Heap.SameBut.refl a s.heap) (by rw[if_pos hk]; exact hT0)
 ·have:t.mask≤31:=by rcases I.tb.mask with q|q<;>omega
  unfold SetTable.turns at hN
  omega
end
end ST
end
section
namespace ST
open PySem SetTable PyProof.Rows
noncomputable def addK(S:List (List Int))(k:List Int):List (List Int):=if k∈S then S else S++[k]
noncomputable def distinct(ks:List (List Int)):List (List Int):=ks.foldl addK []
theorem qpk(S:List (List Int))(k:List Int):(addK S k).length≤S.length+1:=by unfold addK; split<;>simp
theorem foldK_le:∀ (l S:List (List Int)),(l.foldl addK S).length≤S.length+l.length
 |[],S=>by simp
 |k::l,S=>by
  have:=foldK_le l (addK S k)
  have:=qpk S k
  rw[Qjz,Qqd]; omega
section
variable {prog:Program}{w:World}{A:Around}{R:Result→Shared→Prop}{I:Addr}{fp wr:List Addr}{G:Array GenState→Array GenState→Prop}{n:Nat}{P:Nat→Value→Prop}{St:Nat→Shared→Prop}
theorem TS.keeps{h h':Heap}{a:Addr}{S:List (List Int)}(x:TS prog w h a S)(hk:∀ b o,(b=a∨∃ k,IsTupleKey (intKind prog w) h k b)→h.get? b=some o→h'.get? b=some o):TS prog w h' a S:=by
 obtain⟨o,es,ep,t,ho,hex,hd,I,hes,hsz,hmem,h4⟩:=x
 have kp:∀ {b:Addr}{k':List Int},IsTupleKey (intKind prog w) h k' b→IsTupleKey (intKind prog w) h' k' b:=fun {b k'} q=>by
  obtain⟨o',items,n,ho',r⟩:=id q
  exact⟨o',items,n,hk b o' (.inr ⟨k',q⟩) ho',r⟩
 refine⟨o,es,ep,t,hk a o (.inl rfl) ho,hex,hd,I,fun i e he=>?_,hsz,fun k=>?_,h4⟩
 ·obtain⟨b,k,e',q⟩:=hes i e he
  exact⟨b,k,e',kp q⟩
 ·rw[hmem k]
  constructor
  ·rintro⟨g,b,q1,q2⟩; exact⟨g,b,q1,kp q2⟩
  ·rintro⟨g,b,q1,q2⟩
   obtain⟨i,hi,e1⟩:=Qzc q1
   obtain⟨b',k',e',q⟩:=hes i (g,.ref b) (by rw[← Qql,Qqg hi,e1])
   have e2:b=b':=Value.ref.inj (congrArg Prod.snd e')
   subst e2
   obtain rfl:=q2.inj (kp q)
   exact⟨g,b,q1,q⟩
theorem qoe(hu:A.in1.units<cLine)(W:WalksS prog w A.in1 I fp wr G n P St)(S:Addr)(hSf:S ∉ fp)(hwr:∀ b∈wr,∀ s i,St i s→¬ ∃ k,IsTupleKey (intKind prog w) s.heap k b)
  (ks:List (List Int)) (hn:ks.length=n) (hn16:n≤16) (hval:∀ i v,P i v→∃ b,v=.ref b) (Kp:Shared→Prop) (hkp:∀ s i b,Kp s→P i (.ref b)→∃ k,ks[i]?=some k∧IsTupleKey (intKind prog w) s.heap k b)
  (hkk:∀ s s',Kp s→(∀ b o,(∃ k,IsTupleKey (intKind prog w) s.heap k b)→s.heap.get? b=some o→s'.heap.get? b=some o)→Kp s') :
  ∀ (k i:Nat) (s:Shared),n - i=k→i≤n→St i s→Kp s→TS prog w s.heap S ((ks.take i).foldl addK [])→
   (∀ s',Moved (S::wr) G s s'→TS prog w s'.heap S (distinct ks)→R (.ok (.ret .none)) s')→
   codeAny (model prog w) A (.builtin "set.update.loop" ⟨[.ref S,.ref I],[]⟩) R s:=by
 have hSw:S ∉ wr:=fun h=>hSf (W.sub _ h)
 have hsub:∀ b∈wr,b∈S::wr:=fun b hb=>Qqr _ hb
 have tsk:∀ {s s':Shared}{i:Nat}{L:List (List Int)},St i s→Moved wr G s s'→TS prog w s.heap S L→TS prog w s'.heap S L:=fun {s s' i L} st hm x=>x.keeps fun b o hb ho=>hm.heap b o (fun hw=>by
  rcases hb with rfl|hb
  ·exact hSw hw
  ·exact hwr b hw s i st hb) ho
 intro k
 induction k with
 |zero=>
  intro i s hk hi hst hKp hS hR
  have hin:i=n:=by omega
  subst hin
  refine codeAny_builtin F.entry_set_update_loop ?_
  rw[Around.under_plainId F.plain_set_update_loop _]
  show wpAny _ A.in1 (pyNext (.ref I) >>= _) _ _ s
  refine wpAny_bind (W.done s _ _ hst fun s' hm=>?_)
  show wpAny _ A.in1 (ret Value.none) _ _ s'
  refine wpAny_pure (hR s' (hm.mono hsub) (tsk hst hm ?_))
  rw[← hn,List.take_length]at hS
  exact hS
 |succ k ih=>
  intro i s hk hi hst hKp hS hR
  have hlt:i<n:=by omega
  refine codeAny_builtin F.entry_set_update_loop ?_
  rw[Around.under_plainId F.plain_set_update_loop _]
  show wpAny _ A.in1 (pyNext (.ref I) >>= _) _ _ s
  refine wpAny_bind (W.item i s _ _ hlt hst fun v s' hP hst' hm=>?_)
  obtain⟨b,rfl⟩:=hval i v hP
  have hKp':Kp s':=hkk s s' hKp fun b' o hb ho=>hm.heap b' o (fun hw=>hwr b' hw s i hst hb) ho
  obtain⟨key,hkey,hb⟩:=hkp s' i b hKp' hP
  have hS':=tsk hst hm hS
  show wpAny _ A.in1 (holding [Value.ref b] (setAdd S (.ref b)) >>= _) _ _ s'
  refine wpAny_bind (wpAny_holding ?_)
  unfold setAdd
  refine wpAny_holding ?_
  refine wpAny_bind (wpAny_pyHash_tuple hu hb ?_)
  have hlen:((ks.take i).foldl addK []).length≤15:=by
   have:=foldK_le (ks.take i) []
   rw[Qzn]at this
   simp at this
   omega
  have htk:(ks.take (i+1)).foldl addK []=addK ((ks.take i).foldl addK []) key:=by
   rw[List.take_succ,hkey,List.foldl_append]; rfl
  refine add_ok (s:={ s' with toks:=s'.toks+(key.length+1) }) hu hS' hb hlen fun _ h' hsb hS2=>?_
  have hS3:TS prog w h' S ((ks.take (i+1)).foldl addK []):=by rw[htk]; exact hS2
  have noS:∀ {b':Addr},(∃ k,IsTupleKey (intKind prog w) s'.heap k b')→b'≠S:=fun {b'} ⟨k',q⟩ z=>by
   obtain⟨o,es,ep,t,ho,_,hd,_⟩:=hS'
   obtain⟨o',items,m,ho',_,hd',_⟩:=q
   rw[z]at ho'
   obtain rfl:o'=o:=Option.some.inj (ho'.symm.trans ho)
   rw[hd]at hd'; exact nomatch hd'
  refine wpAny_pure ⟨plainId_quiet F.plain_set_update_loop _,ih (i+1) _ (by omega) hlt (W.frame _ s' _ _ hst' (Qx7 _ _) fun b hb o e=>?_) (hkk s' _ hKp' fun b' o hb' ho'=>(hsb.2 b' (noS hb')).trans ho') hS3 fun s'' hm'' hS''=>?_⟩
  ·rw[hsb.2 b (fun h:b=S=>hSf (by rw[← h]; exact hb))]; exact e
  ·refine hR s'' (Moved.trans W.gtrans ((hm.mono hsub).then_heap (Qx7 _ _) fun b o hb e=>?_) hm'') hS''
   rw[hsb.2 b (fun h:b=S=>hb (by rw[h]; exact Qq4))]; exact e
end
end ST
end
section
namespace ST
open PySem SetTable
theorem qio:isSubtype (.type "tuple") (.type "set")=pure false:=by rw[isSubtype_type]; kernel_rfl
theorem qcv:isSubtype (.type "tuple") (.type "frozenset")=pure false:=by rw[isSubtype_type]; kernel_rfl
noncomputable abbrev bare(led:Bool):Obj:={ cls:=.type "set",dict:=none,data:=.set #[] 0 (.fresh 0 0 led) }
def Cells(prog:Program)(w:World)(h:Heap)(items:Array Value)(ks:List (List Int)):Prop:=∀ (i:Nat) (v:Value),items[i]?=some v→∃ b k,v=.ref b∧ks[i]?=some k∧IsTupleKey (intKind prog w) h k b
section
variable {prog:Program}{w:World}{E:Value→Shared→Prop}
theorem qlg{B:Around}{h0:Heap}{led:Bool}{l:Addr}{items:Array Value}{ks:List (List Int)}{s:Shared}{Z:Fin→Shared→Prop}(calm:B.handled=none)(room:B.units+4<cLine)(tup:h0.IsTuple l items)(cells:Cells prog w h0 items ks)
  (n1:ks.length=items.size) (n2:items.size≤16) (hs:s.heap=h0.push (bare led))
  (done:∀ h1 k1,TS prog w h1 h0.objs.size (distinct ks)→(∀ b o,b<h0.objs.size→h0.get? b=some o→h1.get? b=some o)→Z (.done (.ret .none)) { s with heap:=h1,toks:=k1 }) :
  wpAny (model prog w) B (Builtin.«set.__init__» ⟨[.ref h0.objs.size,.ref l],[]⟩) Z E s:=by
 obtain⟨hp,gs,dr,tk,os⟩:=s
 dsimp only at hs done
 subst hs
 obtain⟨⟨tc,td,tdat,tsl⟩,t1,t2,nl,t3⟩:=id tup
 dsimp only at t2 t3
 subst t2 t3
 have at0:(h0.push (bare led)).get? h0.objs.size=some (bare led):=Qqw _ rfl
 have atL:=Qqz (bare led) t1
 have a1:=qio
 have a2:=qcv
 have a3:(Value.type "tuple" == Value.type "dict")=false:=by decide
 have isT:Shared.TypeIs ⟨h0.push (bare led),gs,dr,tk,os⟩ (.ref h0.objs.size) "set":=⟨_,at0,rfl⟩
 have tupP:(h0.push (bare led)).IsTuple l items:=⟨_,atL,rfl,nl,rfl⟩
 unfold Builtin.«set.__init__» noKeywords Builtin.Frozenset.updateFrom
 generalize ei:pyIter=walk
 wp_walk
 subst ei
 refine wpAny_pyIter_tuple tupP (wpAny_bind (wpAny_runValue ?_))
 have lt0:l<h0.objs.size:=Qqv t1
 have sz:(h0.push (bare led)).objs.size=h0.objs.size+1:=Qzm ..
 have nI:l≠(h0.push (bare led)).objs.size:=by rw[sz]; exact Qqo (Qxy lt0)
 have nS:h0.objs.size ∉ [(h0.push (bare led)).objs.size,l]:=by
  rw[sz]
  simp only[Qqh,Qq1,or_false,not_or]
  exact⟨Qqo (Qza _),Qxx lt0⟩
 refine qoe (by show B.units+1<cLine; omega) ((Walks.tuple (by simp[calm]) _ l nI items).toS) h0.objs.size nS ?notKey ks n1 n2 (fun i v hv=>?isRef)
  (fun z=>∀ (i:Nat) (b:Addr),items[i]?=some (.ref b)→∃ k,ks[i]?=some k∧IsTupleKey (intKind prog w) z.heap k b) (fun z i b q hp=>q i b hp) ?stay items.size 0 _ rfl (Qze _) ⟨⟨_,Qqw _ rfl,rfl,rfl⟩,?tup2⟩ ?keys ?empty ?fin
 case isRef=>obtain⟨b,_,e,_⟩:=cells i v hv; exact⟨b,e⟩
 case tup2=>obtain⟨ob,e1,e2⟩:=tupP; exact⟨ob,Qqz _ e1,e2⟩
 case notKey=>
  rintro b hb z i ⟨⟨ob,u1,_,u3⟩,_⟩ ⟨_,oc,_,_,v1,_,v3,_⟩
  rw[Qzr.mp hb,u1]at v1
  cases v1
  rw[u3]at v3
  cases v3
 case stay=>
  intro z1 z2 q keep i b hb
  obtain⟨k,e,y⟩:=q i b hb
  obtain⟨oc,it,m,v1,r⟩:=id y
  exact⟨k,e,oc,it,m,keep b oc ⟨k,y⟩ v1,r⟩
 case keys=>
  intro i b hb
  obtain⟨b',k,e,ek,oc,it,m,v1,r⟩:=cells i _ hb
  cases e
  exact⟨k,ek,oc,it,m,Qqz _ (Qqz _ v1),r⟩
 case empty=>exact⟨_,#[],0,_,Qqz _ at0,⟨rfl,rfl,rfl⟩,rfl,qlo led,fun i e he=>by simp at he,rfl,fun k=>by simp,fun _=>by simp⟩
 case fin=>
  intro z mv q
  obtain⟨h1,gs',dr',tk',os'⟩:=z
  obtain⟨m1,rfl,rfl,rfl,_⟩:=mv
  refine wpAny_pure (wpAny_pure (done h1 tk' q fun b o hb e=>m1 b o ?_ (Qqz _ (Qqz _ e))))
  have nb1:b≠h0.objs.size:=Qqo hb
  have nb2:b≠(h0.push (bare led)).objs.size:=by rw[sz]; exact Qqo (Qxy hb)
  simp only[Qqh,Qq1,or_false,not_or]
  exact⟨nb1,nb2⟩
end
end ST
end
section
namespace ST
open PySem SetTable
section
variable {prog:Program}{w:World}{A:Around}{E:Value→Shared→Prop}{s:Shared}
theorem TS.size{h:Heap}{a:Addr}{S:List (List Int)}(x:TS prog w h a S)(hS:S.length≤16):∃ o es ep t,h.get? a=some o∧o.ExactSet∧o.data=.set es ep t∧t.fits es.size=true∧(es.size:Int)<2 ^ 63∧es.size=S.length:=by
 obtain⟨o,es,ep,t,ho,hex,hd,I,_,hz,_⟩:=x
 exact⟨o,es,ep,t,ho,hex,hd,I.fits,by omega,hz⟩
theorem set_call{l:Addr}{items:Array Value}{ks:List (List Int)}{Q:Value→Shared→Prop}(calm:A.handled=none)(room:A.units+12<cLine)(tup:s.heap.IsTuple l items)(cells:Cells prog w s.heap items ks)(n1:ks.length=items.size)(n2:items.size≤16)
  (k:∀ h1 k1,TS prog w h1 s.heap.objs.size (distinct ks)→(∀ b o,b<s.heap.objs.size→s.heap.get? b=some o→h1.get? b=some o)→Q (.ref s.heap.objs.size) { s with heap:=h1,toks:=k1 }) :
  wpAny (model prog w) A (call (.type "set") [.ref l]) Q E s:=by
 have ft:=F.called_set
 obtain⟨_,_,f1⟩:=ft.mro
 have f2:=ft.made
 have f3:=ft.sub
 have f4:=ft.notType
 have f5:=ft.canCreate
 have f6:=F.typeCall_set_1 (.ref l)
 refine wpAny_call (codeAny_of_tree (show wpAny _ _ (callAny (.type "set") _) _ _ _ from wpAny_pure ⟨Code.quiet_builtin _ (by decide +kernel),codeAny_builtin F.entry_type_call ?_⟩))
 rw[Around.under_plain (weight_type_call_type "set" [.ref l] []) rfl]
 repeat (any_goals (first|assumption|wp_step))
 refine codeAny_mono (code_set_new_1 (.ref l) (E:=E) (Q₁:=fun ob z=>∃ led,ob=.ref s.heap.objs.size∧z={ s with heap:=s.heap.push (bare led) }) fun led=>⟨led,rfl,rfl⟩) fun r z hr=>?_
 match r,hr with
 |.error _,hr=>exact hr
 |.ok .next,hr=>exact hr.elim
 |.ok .brk,hr=>exact hr.elim
 |.ok .cont,hr=>exact hr.elim
 |.ok (.ret ob),hr=>
  obtain⟨led,rfl,rfl⟩:=hr
  have isT:Shared.TypeIs { s with heap:=s.heap.push (bare led) } (.ref s.heap.objs.size) "set":=⟨_,Qqw _ rfl,rfl⟩
  have f7:=ft.init.lookup
  have f8:=ft.init.bind (.ref s.heap.objs.size)
  repeat (any_goals (first|assumption|wp_step))
  refine codeAny_mono (codeAny_call_builtin (R:=wants (fun r z=>r=.none∧∃ h1 k1,z={ s with heap:=h1,toks:=k1 }∧TS prog w h1 s.heap.objs.size (distinct ks)∧∀ b o,b<s.heap.objs.size→s.heap.get? b=some o→h1.get? b=some o) E) ft.init.plain F.entry_set_init (check_set_init_1 isT ?_)) fun r2 z2 hr2=>?_
  ·exact qlg (led:=led) (by simp[calm]) (by show A.units+1+1+4<cLine; omega) tup cells n1 n2 rfl fun h1 k1 q keep=>⟨rfl,h1,k1,rfl,q,keep⟩
  ·match r2,hr2 with
   |.error _,hr2=>exact hr2
   |.ok .next,hr2=>exact hr2.elim
   |.ok .brk,hr2=>exact hr2.elim
   |.ok .cont,hr2=>exact hr2.elim
   |.ok (.ret _),hr2=>
    obtain⟨rfl,h1,k1,rfl,q,keep⟩:=hr2
    repeat (any_goals (first|assumption|wp_step))
    exact k h1 k1 q keep
end
end ST
end
section
namespace MS
open PySem PySem.Spec PyProof.Rows L2
noncomputable def setO(a:Addr)(n:Nat):HO:=.ext fun h=>∃ o es ep t,h.get? a=some o∧o.ExactSet∧o.data=.set es ep t∧t.fits es.size=true∧(es.size:Int)<2 ^ 63∧es.size=n
def qpw(K:Qqq)(H:Hp):List V→List (List Int)→Prop:=Paired fun y k=>∃ q,y=.ref q∧SqT K H q (k.map V.int)
theorem items_int{prog:Program}{w:World}:∀ {k:List Int}{its:List Value},Vals (k.map V.int) its→ItemsAre (intKind prog w) k its
 |[],_,h=>by cases h; exact .nil
 |i::k,_,h=>by
  cases h with
  |cons r t=>
   obtain⟨t',rfl⟩:=r
   exact .cons (intKind_is _ _ _ _) (items_int t)
section
variable {X:Cx}
theorem qm7{pins:List (Addr×Obj)}{σ:L2.St}{H:Hp}{s:Shared}(I:Inv X pins σ H s){q:Addr}{k:List Int}(h:SqT X.K H q (k.map V.int)):IsTupleKey (intKind X.prog X.w) s.heap k q:=by
 obtain⟨its,r,⟨o,ho,hc,n,hd⟩,_⟩:=I.tuple h
 exact⟨o,its.toArray,n,ho,hc,hd,items_int r⟩
theorem qd8{pins:List (Addr×Obj)}{σ:L2.St}{H:Hp}{s:Shared}(I:Inv X pins σ H s):∀ {ys:List V}{ks:List (List Int)}{its:List Value},qpw X.K H ys ks→Vals ys its→
  ∀ (i:Nat) (v:Value),its[i]?=some v→∃ b k,v=.ref b∧ks[i]?=some k∧IsTupleKey (intKind X.prog X.w) s.heap k b
 |_,_,_,.nil,r,i,v,e=>by cases r; simp at e
 |_,_,_,.cons (a:=y) (b:=k) h t,r,i,v,e=>by
  cases r with
  |cons r1 r2=>
   obtain⟨q,rfl,hq⟩:=h
   cases i with
   |zero=>
    simp at e
    subst e
    cases r1
    exact⟨q,k,rfl,rfl,qm7 I hq⟩
   |succ i=>
    simp only[Qqa]at e ⊢
    exact qd8 I t r2 i v e
theorem qh7(calm:X.A.handled=none)(room:X.A.units+64<cLine):CallR X (.type "set") (fun xs H Q=>∃ p ys ks,xs=[.ref p]∧SqT X.K H p ys∧qpw X.K H ys ks∧ys.length≤16∧∀ l,H l=none→Q (.ref l) (upd H l (setO l (ST.distinct ks).length))):=by
 intro pins s σ H xs us Q I r h
 obtain⟨p,ys,ks,rfl,hq,hc,hl,q⟩:=h
 obtain⟨u,rfl,rx⟩:=vals1 r
 cases rx
 obtain⟨its,r',⟨o,ho,hcl,n,hd⟩,hz⟩:=I.tuple hq
 have l1:=r'.length
 have l2:ys.length=ks.length:=Paired.length hc
 refine ST.set_call (items:=its.toArray) (ks:=ks) calm (by omega) ⟨o,ho,hcl,n,hd⟩ (fun i v e=>qd8 I hc r' i v (by simpa using e)) (by simp; omega) (by simp; omega) fun h1 k1 T keep=>?_
 have le:=ST.foldK_le ks []
 obtain⟨o1,es,ep,t,a1,a2,a3,a4,a5,a6⟩:=T.size (by
  show(ks.foldl ST.addK []).length≤16
  simp at le; omega)
 refine⟨.ref s.heap.objs.size,_,I.laid (t':=k1) (fun b o e=>keep b o (Qqv e) e) (Qqj _) ?_,rfl,q _ (I.hok.fresh (Qqj _))⟩
 exact⟨⟨o1,es,ep,t,a1,a2,a3,a4,a5,a6⟩,⟨o1,a1⟩,fun h2 h3 ⟨o2,es2,ep2,t2,b1,b2⟩ kp=>⟨o2,es2,ep2,t2,kp o2 b1,b2⟩⟩
theorem qiz:CallR X (.builtin "len") (fun xs H Q=>∃ p n,xs=[.ref p]∧H p=some (setO p n)∧Q (.int n) H):=by
 intro pins s σ H xs us Q I r h
 obtain⟨p,n,rfl,hp,q⟩:=h
 obtain⟨u,rfl,rx⟩:=vals1 r
 cases rx
 obtain⟨⟨o,es,ep,t,a1,a2,a3,a4,a5,a6⟩,_⟩:=(show ObjOk X.prog X.w H s.heap p (setO p n) from I.hok p _ hp)
 refine call_len_set a1 a2 a3 a4 a5 ?_
 exact⟨.int n,H,I.kept (t':=s.toks+1+1) (fun b o e=>e),⟨_,by rw[a6]⟩,q⟩
end
end MS
end
section
namespace MS
open PySem PySem.Spec PyProof.Rows L2
open M (D Store)
section
variable {X:Cx}
theorem qdn{K:Qqq}{m:List Addr}{H:Hp}:∀ {ds:List D}{xs:List V}{k:List Int},IsDs K m H ds xs→(ds.mapM fun d=>match d with|.int i=>some i|_=>none)=some k→xs=k.map V.int
 |[],xs,k,h,e=>by
  simp at e
  subst e
  exact Qzk.mp h.length.symm
 |d::ds,xs,k,h,e=>by
  rw[List.mapM_cons]at e
  cases d with
  |int i=>
   obtain⟨x,r,rfl,h1,h2⟩:=h.cons
   cases e2:(ds.mapM fun d=>match d with|M.D.int i=>some i|_=>none) with
   |none=>rw[e2]at e; cases e
   |some k'=>
    rw[e2]at e
    cases e
    rw[h1.int,qdn h2 e2]; rfl
  |_=>cases e
theorem qg7{K:Qqq}{m:List Addr}{H:Hp}:∀ {ds:List D}{xs:List V}{ks:List (List Int)},IsDs K m H ds xs→ds.mapM M.keyD=some ks→qpw K H xs ks
 |[],xs,ks,h,e=>by
  simp at e
  subst e
  rw[Qzk.mp h.length.symm]
  exact .nil
 |d::ds,xs,ks,h,e=>by
  rw[List.mapM_cons]at e
  cases d with
  |tup cs=>
   obtain⟨x,r,rfl,h1,h2⟩:=h.cons
   cases e1:M.keyD (.tup cs) with
   |none=>rw[e1]at e; cases e
   |some k=>
    cases e2:ds.mapM M.keyD with
    |none=>rw[e1,e2]at e; cases e
    |some ks'=>
     rw[e1,e2]at e
     cases e
     obtain⟨pa,ys,rfl,hq,iy⟩:=h1.tup
     refine .cons ⟨pa,rfl,?_⟩ (qg7 h2 e2)
     rw[← qdn iy e1]; exact hq
  |_=>cases e
end
end MS
end
section
namespace MS
open PySem PySem.Spec PyProof.Rows L2
open M (D Cell Store Sl E S T Src Fn Out R)
noncomputable def iSeq(K:Qqq)(tl:TE):TI:=fun σ H R=>tl σ H fun x H1=>(∃ a,x=.ref a∧(((∃ xs,SqL K H1 a xs)∧R (Itl K a) H1)∨((∃ xs,SqT K H1 a xs)∧R (Itt K a) H1)))∨∃ z,x=.str z∧z.cps.all (· < 128)=true∧R (Its z) H1
theorem pi_seq{X:Cx}{tg l:Expr}{tl:TE}(hl:PE X l tl):PI X tg l (iSeq X.K tl):=by
 intro pins s σ H R I h
 refine thn (hl pins s σ H _ I h) fun v s1 ⟨x,H1,I1,r1,q1⟩=>?_
 rcases q1 with⟨a,e,q⟩|⟨z,e,ha,q⟩
 ·subst e
  cases r1
  rcases q with⟨⟨xs,hq⟩,q⟩|⟨⟨xs,hq⟩,q⟩
  ·obtain⟨its,rv,p,hz⟩:=I1.list hq
   refine wpAny_pyIter_list p.isList ?_
   refine⟨s1.heap.objs.size,[s1.heap.objs.size],_,_,H1,rfl,I1.kept (t':=s1.toks) fun b o e=>Qqz _ e,qfo a _,⟨_,Qqw _ rfl,rfl,rfl⟩,fun b hb=>?_,q⟩
   have e:b=s1.heap.objs.size:=by simpa using hb
   subst e
   exact I1.fpOk (Qqj _) (I1.hok.fresh (Qqj _))
  ·obtain⟨its,rv,p,hz⟩:=I1.tuple hq
   refine wpAny_pyIter_tuple (show s1.heap.IsTuple a its.toArray from p) ?_
   refine⟨s1.heap.objs.size,[s1.heap.objs.size],_,_,H1,rfl,I1.kept (t':=s1.toks) fun b o e=>Qqz _ e,qek a _,⟨_,Qqw _ rfl,rfl,rfl⟩,fun b hb=>?_,q⟩
   have e:b=s1.heap.objs.size:=by simpa using hb
   subst e
   exact I1.fpOk (Qqj _) (I1.hok.fresh (Qqj _))
 ·subst e
  obtain⟨t,rfl⟩:=r1
  refine wpAny_pyIter_ascii ha ?_
  refine⟨s1.heap.objs.size,[s1.heap.objs.size],_,_,H1,rfl,I1.kept (t':=s1.toks) fun b o e=>Qqz _ e,qfn z t _,⟨_,Qqw _ rfl,rfl,rfl⟩,fun b hb=>?_,q⟩
  have e:b=s1.heap.objs.size:=by simpa using hb
  subst e
  exact I1.fpOk (Qqj _) (I1.hok.fresh (Qqj _))
structure Glo where
 cs:List (Str×D)
 ds:List (Str×List Str×List D)
 /-- a method's place among the functions,its class,its name -/
 ms:List (Nat×Addr×Str)
 /-- the classes -/
 cl:List (Str×Addr)
 /-- attributes of instances -/
 ats:List (Addr×Str)
structure Ctx where
 N:List Str
 sc:Scope
 fns:List Str
 glo:Glo
noncomputable def ql3:M.B→String
 |.len=>"len"
 |.min=>"min"
 |.max=>"max"
 |.tuple=>"tuple"
 |.list=>"list"
 |.all=>"all"
 |.sorted=>"sorted"
 |.int=>"int"
 |.str=>"str"
 |.any=>"any"
 |.dict=>"dict"
noncomputable def bOk:M.B→Bool
 |.len=>true
 |.min=>true
 |.max=>false
 |.tuple=>true
 |.list=>true
 |.all=>true
 |.sorted=>true
 |.int=>true
 |.str=>false
 |.any=>true
 |.dict=>true
noncomputable def qy3(scope sc:Scope):Scope:={ scope with names:=scope.names.map fun(n,k)=>if (k==NameKind.free&&sc.kind==.function&&sc.names.lookup n==some .cell) then(n,NameKind.cell) else(n,k) }
noncomputable def tlOk(N:List Str)(sc:Scope)(t:T):Bool:=t.slots.all fun i=>match N[i]? with
 |some x=>sc.names.lookup x==some .local
 |none=>false
theorem qm6{N:List Str}{sc:Scope}{t:T}(h:tlOk N sc t=true):∀ i∈t.slots,∀ x,N[i]?=some x→sc.names.lookup x=some .local:=by
 intro i hi x hx
 unfold tlOk at h
 have:=Qzo.mp h i hi
 rw[hx]at this
 simpa using this
noncomputable def qlk(x:Str):Bool:=!x.cps.toList.contains 46
def MTree(pa:Expr)(m:Str)(apos:Pos)(ps:List Expr)(pos:Pos):Prop:=∀ env,∃ pl:Sem Bool,eval (.Call (.Attribute pa m apos) ps [] pos) env=(do
 let ov ← eval pa env
 standAt apos.atName
 let (f,first) ← holding [ov] (getMethod ov m pl)
 callWith pos f first (backTo pos (starEach ps env)) (backToKw pos (keywordEach [] env)))
def Star(p:Expr):Prop:=∀ es env,starEach (p::es) env=(false,eval p env)::starEach es env
inductive CkTys (c:Ctx):List M.Ty→List Expr→Prop
 |nil:CkTys c [] []
 |cons {t ts ps pos} (ht:t≠.non) (hg:c.sc.names.lookup (Str.ofString t.name)=some .globalImplicit) (h:CkTys c ts ps):CkTys c (t::ts) (.Name (Str.ofString t.name) pos::ps)
inductive CkTs (c:Ctx):List Nat→List Expr→Prop
 |nil:CkTs c [] []
 |cons {i x pos is es} (hN:c.N[i]?=some x) (hl:c.sc.names.lookup x=some .local∨c.sc.names.lookup x=some .cell) (h:CkTs c is es):CkTs c (i::is) (.Name x pos::es)
inductive CkT (c:Ctx):T→Expr→Prop
 |tup {is es k pos} (h:CkTs c is es):CkT c (.tup is) (.Tuple es k pos)
 |var {i x pos} (hN:c.N[i]?=some x) (hl:c.sc.names.lookup x=some .local∨c.sc.names.lookup x=some .cell):CkT c (.var i) (.Name x pos)
noncomputable def gcOk:Expr→Bool
 |.Call _ _ _ _=>true
 |.ListComp _ _ _ _=>true
 |.List _ _=>true
 |.BinOp _ _ _ _=>true
 |.Subscript _ _ _=>true
 |_=>false
inductive CkL (R:E→Expr→Prop):List E→List Expr→Prop
 |nil:CkL R [] []
 |cons {e es p ps} (h:R e p) (t:CkL R es ps):CkL R (e::es) (p::ps)
inductive CkP (R:E→Expr→Prop):List E→List (Option Expr)→List Expr→Prop
 |nil:CkP R [] [] []
 |cons {k v es pk pv ks vs} (hk:R k pk) (hv:R v pv) (t:CkP R es ks vs):CkP R (k::v::es) (some pk::ks) (pv::vs)
inductive CkO (R:E→Expr→Prop):Option E→Option Expr→Prop
 |none:CkO R none none
 |some {e p} (h:R e p):CkO R (some e) (some p)
inductive CkI (R:E→Expr→Prop):Ctx→Expr→E→Expr→Prop
 |rng1 {c tg a pa p0 pos} (hg:c.sc.names.lookup ("range" : Str)=some .globalImplicit) (ha:R a pa):CkI R c tg (.rng1 a) (.Call (.Name "range" p0) [pa] [] pos)
 |rng2 {c tg a b pa pb p0 pos} (hg:c.sc.names.lookup ("range" : Str)=some .globalImplicit) (ha:R a pa) (hb:R b pb):CkI R c tg (.rng2 a b) (.Call (.Name "range" p0) [pa,pb] [] pos)
 |zip {c es k tp a b pa pb p0 pos} (hg:c.sc.names.lookup ("zip" : Str)=some .globalImplicit) (ha:R a pa) (hb:R b pb):CkI R c (.Tuple es k tp) (.zip a b) (.Call (.Name "zip" p0) [pa,pb] [] pos)
 |seq {c tg e p} (h:R e p):CkI R c tg e p
inductive CkF (R:Ctx→E→Expr→Prop):Ctx→E→Expr→Prop
 |var {c i x pos} (hN:c.N[i]?=some x) (hv:Vis c.sc x) (hd:(x==("__debug__" : Str))=false) (hcd:(x==("__classdict__" : Str))=false):CkF R c (.var i) (.Name x pos)
 |int {c i j pos}:CkF R c (.lit (.int i)) (.Constant (.int i) j pos)
 |bl {c i j pos}:CkF R c (.lit (.bl i)) (.Constant (.bool i) j pos)
 |non {c j pos}:CkF R c (.lit .non) (.Constant .none j pos)
 |str {c i j pos}:CkF R c (.lit (.str i)) (.Constant (.str i) j pos)
 |glo {c x d pos} (hg:c.sc.names.lookup x=some .globalImplicit) (hm:(x,d)∈c.glo.cs) (hd:(x==("__debug__" : Str))=false):CkF R c (.glo x d) (.Name x pos)
 |bin {c op a b pa pb pos} (ha:R c a pa) (hb:R c b pb):CkF R c (.bin op a b) (.BinOp pa op pb pos)
 |lenset {c a pa p0 p1 pos1 pos} (hg:c.sc.names.lookup ("len" : Str)=some .globalImplicit) (hs:c.sc.names.lookup ("set" : Str)=some .globalImplicit) (ha:R c a pa):CkF R c (.lenset a) (.Call (.Name "len" p0) [.Call (.Name "set" p1) [pa] [] pos1] [] pos)
 |neg {c a pa pos} (ha:R c a pa):CkF R c (.neg a) (.UnaryOp .USub pa pos)
 |not {c a pa pos} (ha:R c a pa):CkF R c (.not a) (.UnaryOp .Not pa pos)
 |cmp {c op a b pa pb pos} (ha:R c a pa) (hb:R c b pb) (hm:behindInMarks op pb=false):CkF R c (.cmp op a b) (.Compare pa [op] [pb] pos)
 |cmp2 {c op op' a b d pa pb pd pos} (ha:R c a pa) (hb:R c b pb) (hd:R c d pd) (hm:lastMarks [op,op'] [pb,pd]=false):CkF R c (.cmp2 op op' a b d) (.Compare pa [op,op'] [pb,pd] pos)
 |and2 {c a b pa pb pos} (ha:R c a pa) (hb:R c b pb):CkF R c (.and a b) (.BoolOp .And [pa,pb] pos)
 |andN {c a b pa pb pd r pos} (ha:R c a pa) (hb:R c b (.BoolOp .And (pb::pd::r) pos)):CkF R c (.and a b) (.BoolOp .And (pa::pb::pd::r) pos)
 |or2 {c a b pa pb pos} (ha:R c a pa) (hb:R c b pb):CkF R c (.or a b) (.BoolOp .Or [pa,pb] pos)
 |ite {c q a b pq pa pb pos} (hq:R c q pq) (ha:R c a pa) (hb:R c b pb):CkF R c (.ite q a b) (.IfExp pq pa pb pos)
 |tup {c es ps k pos} (h:CkL (R c) es ps):CkF R c (.tup es) (.Tuple ps k pos)
 |lst {c es ps pos} (h:CkL (R c) es ps):CkF R c (.lst es) (.List ps pos)
 |idx {c a b pa pb pos} (ha:R c a pa) (hb:R c b pb) (hs:qc3 pb):CkF R c (.idx a b) (.Subscript pa pb pos)
 |call {c f x es p ps p0 pos} (hg:c.sc.names.lookup x=some .globalImplicit) (hf:c.fns[f]?=some x) (hd:(x==("__debug__" : Str))=false) (hn:qlk x=true) (h:CkL (R c) es (p::ps)):CkF R c (.call f es) (.Call (.Name x p0) (p::ps) [] pos)
 |bcall {c b es p ps p0 pos} (hg:c.sc.names.lookup (Str.ofString (ql3 b))=some .globalImplicit) (hb:bOk b=true) (h:CkL (R c) es (p::ps)):CkF R c (.bcall b es) (.Call (.Name (Str.ofString (ql3 b)) p0) (p::ps) [] pos)
 |isi1 {c t a pa p0 p1 pos} (hg:c.sc.names.lookup ("isinstance" : Str)=some .globalImplicit) (ht:t≠.non) (hgt:c.sc.names.lookup (Str.ofString t.name)=some .globalImplicit) (ha:R c a pa):CkF R c (.isi a [t] false) (.Call (.Name "isinstance" p0) [pa,.Name (Str.ofString t.name) p1] [] pos)
 |isiN {c ts a pa p0 ps k p1 pos} (hl:ts.length≤1000) (hg:c.sc.names.lookup ("isinstance" : Str)=some .globalImplicit) (ht:CkTys c ts ps) (ha:R c a pa):CkF R c (.isi a ts true) (.Call (.Name "isinstance" p0) [pa,.Tuple ps k p1] [] pos)
 |append {c a e pa pe apos cpos} (ha:R c a pa) (he:R c e pe) (hb:∀ env,attributeBase pa "append" env (eval pa env)=eval pa env) (hl:(apos.endLine==cpos.line)=true):CkF R c (.meth a .append [e]) (.Call (.Attribute pa "append" apos) [pe] [] cpos)
 |extend {c a e pa pe apos cpos} (ha:R c a pa) (he:R c e pe) (hb:∀ env,attributeBase pa "extend" env (eval pa env)=eval pa env) (hl:(apos.endLine==cpos.line)=true):CkF R c (.meth a .extend [e]) (.Call (.Attribute pa "extend" apos) [pe] [] cpos)
 |gc {c a p} (hp:gcOk p=true) (hg:∀ b,a≠.gc b) (ha:R c a p):CkF R c (.gc a) p
 |comp {c t it elt sr tg iter pelt scope pos N} (hk:scope.kind=.function) (hcell:∀ y∈scope.names,y.2≠.cell) (hfree:∀ y∈scope.names,y.2=.free→c.sc.names.lookup y.1=some .cell∨c.sc.names.lookup y.1=some .free) (hloc:∀ y∈scope.names,y.2=.local→scope.names.lookup y.1=some .local) (hlen:sr.length=N.length) (hsrc:∀ (j i:Nat),sr[j]?=some (some i)→∃ x,N[j]?=some x∧c.N[i]?=some x∧scope.names.lookup x=some .free) (hnd:N.Nodup) (hs:∀ env x,foldedSetIterable iter env x=pure x) (hi:CkI (R c) c tg it iter) (ht:CkT ⟨N,qy3 scope c.sc,c.fns,c.glo⟩ t tg) (htl:tlOk N (qy3 scope c.sc) t=true) (he:R ⟨N,qy3 scope c.sc,c.fns,c.glo⟩ elt pelt):CkF R c (.comp t it none elt sr) (.ListComp pelt [⟨tg,iter,[],0⟩] scope pos)
 |dic0 {c pos}:CkF R c (.dic []) (.Dict [] [] pos)
 |dic {c es k v ks vs pos} (h:CkP (R c) es (k::ks) (v::vs)) (h15:(k::ks).length≤15):CkF R c (.dic es) (.Dict (k::ks) (v::vs) pos)
 |didx {c a b pa pb pos} (ha:R c a pa) (hb:R c b pb) (hs:NoSl pb):CkF R c (.didx a b) (.Subscript pa pb pos)
 |dnin {c a b pa pb pos} (ha:R c a pa) (hb:R c b pb) (hm:behindInMarks .NotIn pb=false):CkF R c (.din true a b) (.Compare pa [.NotIn] [pb] pos)
 |gidx {c x ks ds b pb p0 pos} (hg:c.sc.names.lookup x=some .globalImplicit) (hm:(x,ks,ds)∈c.glo.ds) (hd:(x==("__debug__" : Str))=false) (hb:R c b pb) (hs:NoSl pb):CkF R c (.gidx x ks ds b) (.Subscript (.Name x p0) pb pos)
 |gnin {c x ks ds b pb p0 pos} (hg:c.sc.names.lookup x=some .globalImplicit) (hm:(x,ks,ds)∈c.glo.ds) (hd:(x==("__debug__" : Str))=false) (hb:R c b pb):CkF R c (.gin true x ks b) (.Compare pb [.NotIn] [.Name x p0] pos)
 |sli {c a lo hi pa pl ph p2 pos} (ha:R c a pa) (hl:CkO (R c) lo pl) (hh:CkO (R c) hi ph):CkF R c (.sli a lo hi) (.Subscript pa (.Slice pl ph none p2) pos)
 |attr {c C a f pa pos} (ha:R c a pa) (hc:(C,f)∈c.glo.ats) (hb:∀ env,attributeBase pa f env (eval pa env)=eval pa env):CkF R c (.attr C a f) (.Attribute pa f pos)
 |mcall {c C f m x cn a es pa ps apos pos} (ha:R c a pa) (hf:c.fns[f]?=some x) (hm:(f,C,m)∈c.glo.ms) (hc:(cn,C)∈c.glo.cl) (h:CkL (R c) es ps) (ht:MTree pa m apos ps pos):CkF R c (.mcall C f m a es) (.Call (.Attribute pa m apos) ps [] pos)
 |new {c C f x cn es p ps p0 pos} (hg:c.sc.names.lookup cn=some .globalImplicit) (hf:c.fns[f]?=some x) (hm:(f,C,("__init__" : Str))∈c.glo.ms) (hc:(cn,C)∈c.glo.cl) (hd:(cn==("__debug__" : Str))=false) (h:CkL (R c) es (p::ps)):CkF R c (.new C f es) (.Call (.Name cn p0) (p::ps) [] pos)
section
variable {R R':E→Expr→Prop}(k:∀ {e p},R e p→R' e p)
include k
theorem CkL.mono:∀ {es:List E}{ps:List Expr},CkL R es ps→CkL R' es ps
 |_,_,.nil=>.nil
 |_,_,.cons h t=>.cons (k h) (mono t)
theorem CkP.mono:∀ {es:List E}{ks:List (Option Expr)}{ps:List Expr},CkP R es ks ps→CkP R' es ks ps
 |_,_,_,.nil=>.nil
 |_,_,_,.cons h h' t=>.cons (k h) (k h') (mono t)
theorem CkO.mono{o:Option E}{p:Option Expr}(h:CkO R o p):CkO R' o p:=by
 cases h with
 |none=>exact .none
 |some h=>exact .some (k h)
theorem CkI.mono{c:Ctx}{tg:Expr}{e:E}{p:Expr}(h:CkI R c tg e p):CkI R' c tg e p:=by
 cases h with
 |rng1 hg ha=>exact .rng1 hg (k ha)
 |rng2 hg ha hb=>exact .rng2 hg (k ha) (k hb)
 |zip hg ha hb=>exact .zip hg (k ha) (k hb)
 |seq h=>exact .seq (k h)
end
theorem CkF.mono{R R':Ctx→E→Expr→Prop}(k:∀ {c e p},R c e p→R' c e p){c:Ctx}{e:E}{p:Expr}(h:CkF R c e p):CkF R' c e p:=by
 cases h with
 |var hN hv hd hcd=>exact .var hN hv hd hcd
 |int=>exact .int
 |bl=>exact .bl
 |non=>exact .non
 |str=>exact .str
 |glo hg hm hd=>exact .glo hg hm hd
 |bin ha hb=>exact .bin (k ha) (k hb)
 |lenset hg hs ha=>exact .lenset hg hs (k ha)
 |neg ha=>exact .neg (k ha)
 |not ha=>exact .not (k ha)
 |cmp ha hb hm=>exact .cmp (k ha) (k hb) hm
 |cmp2 ha hb hd hm=>exact .cmp2 (k ha) (k hb) (k hd) hm
 |and2 ha hb=>exact .and2 (k ha) (k hb)
 |andN ha hb=>exact .andN (k ha) (k hb)
 |or2 ha hb=>exact .or2 (k ha) (k hb)
 |ite hq ha hb=>exact .ite (k hq) (k ha) (k hb)
 |tup h=>exact .tup (CkL.mono k h)
 |lst h=>exact .lst (CkL.mono k h)
 |idx ha hb hs=>exact .idx (k ha) (k hb) hs
 |call hg hf hd hn h=>exact .call hg hf hd hn (CkL.mono k h)
 |bcall hg hb h=>exact .bcall hg hb (CkL.mono k h)
 |isi1 hg ht hgt ha=>exact .isi1 hg ht hgt (k ha)
 |isiN hl hg ht ha=>exact .isiN hl hg ht (k ha)
 |append ha he hb hl=>exact .append (k ha) (k he) hb hl
 |extend ha he hb hl=>exact .extend (k ha) (k he) hb hl
 |gc hp hg ha=>exact .gc hp hg (k ha)
 |comp hk hcell hfree hloc hlen hsrc hnd hs hi ht htl he=>exact .comp hk hcell hfree hloc hlen hsrc hnd hs (CkI.mono k hi) ht htl (k he)
 |dic0=>exact .dic0
 |dic h h15=>exact .dic (CkP.mono k h) h15
 |didx ha hb hs=>exact .didx (k ha) (k hb) hs
 |dnin ha hb hm=>exact .dnin (k ha) (k hb) hm
 |gidx hg hm hd hb hs=>exact .gidx hg hm hd (k hb) hs
 |gnin hg hm hd hb=>exact .gnin hg hm hd (k hb)
 |sli ha hl hh=>exact .sli (k ha) (CkO.mono k hl) (CkO.mono k hh)
 |attr ha hc hb=>exact .attr (k ha) hc hb
 |mcall ha hf hm hc h ht=>exact .mcall (k ha) hf hm hc (CkL.mono k h) ht
 |new hg hf hm hc hd h=>exact .new hg hf hm hc hd (CkL.mono k h)
def CkE(c:Ctx)(e:E)(p:Expr):Prop:=∀ R:Ctx→E→Expr→Prop,(∀ c e p,CkF R c e p→R c e p)→R c e p
theorem CkE.mk{c:Ctx}{e:E}{p:Expr}(h:CkF CkE c e p):CkE c e p:=fun R k=>k c e p (h.mono fun q=>q R k)
theorem CkE.out{c:Ctx}{e:E}{p:Expr}(h:CkE c e p):CkF CkE c e p:=h (CkF CkE) fun _ _ _ q=>q.mono CkE.mk
noncomputable abbrev CkEs(c:Ctx):=CkL (CkE c)
theorem CkE.v{c i x pos}(hN:c.N[i]?=some x:=by rfl)(hv:Vis c.sc x:=by exact .inl rfl)(hd:(x==("__debug__" : Str))=false:=by rfl)(hcd:(x==("__classdict__" : Str))=false:=by rfl):CkE c (.var i) (.Name x pos):=.mk (.var hN hv hd hcd)
theorem CkE.var{c i x pos}(hN:c.N[i]?=some x)(hv:Vis c.sc x)(hd:(x==("__debug__" : Str))=false)(hcd:(x==("__classdict__" : Str))=false):CkE c (.var i) (.Name x pos):=.mk (.var hN hv hd hcd)
theorem CkE.int{c i j pos}:CkE c (.lit (.int i)) (.Constant (.int i) j pos):=.mk (.int)
theorem CkE.bl{c i j pos}:CkE c (.lit (.bl i)) (.Constant (.bool i) j pos):=.mk (.bl)
theorem CkE.non{c j pos}:CkE c (.lit .non) (.Constant .none j pos):=.mk (.non)
theorem CkE.str{c i j pos}:CkE c (.lit (.str i)) (.Constant (.str i) j pos):=.mk (.str)
theorem CkE.glo{c x d pos}(hg:c.sc.names.lookup x=some .globalImplicit)(hm:(x,d)∈c.glo.cs)(hd:(x==("__debug__" : Str))=false):CkE c (.glo x d) (.Name x pos):=.mk (.glo hg hm hd)
theorem CkE.bin{c op a b pa pb pos}(ha:CkE c a pa)(hb:CkE c b pb):CkE c (.bin op a b) (.BinOp pa op pb pos):=.mk (.bin ha hb)
theorem CkE.lenset{c a pa p0 p1 pos1 pos}(hg:c.sc.names.lookup ("len" : Str)=some .globalImplicit)(hs:c.sc.names.lookup ("set" : Str)=some .globalImplicit)(ha:CkE c a pa):CkE c (.lenset a) (.Call (.Name "len" p0) [.Call (.Name "set" p1) [pa] [] pos1] [] pos):=.mk (.lenset hg hs ha)
theorem CkE.neg{c a pa pos}(ha:CkE c a pa):CkE c (.neg a) (.UnaryOp .USub pa pos):=.mk (.neg ha)
theorem CkE.not{c a pa pos}(ha:CkE c a pa):CkE c (.not a) (.UnaryOp .Not pa pos):=.mk (.not ha)
theorem CkE.cmp{c op a b pa pb pos}(ha:CkE c a pa)(hb:CkE c b pb)(hm:behindInMarks op pb=false:=by rfl):CkE c (.cmp op a b) (.Compare pa [op] [pb] pos):=.mk (.cmp ha hb hm)
theorem CkE.cmp2{c op op' a b d pa pb pd pos}(ha:CkE c a pa)(hb:CkE c b pb)(hd:CkE c d pd)(hm:lastMarks [op,op'] [pb,pd]=false):CkE c (.cmp2 op op' a b d) (.Compare pa [op,op'] [pb,pd] pos):=.mk (.cmp2 ha hb hd hm)
theorem CkE.and2{c a b pa pb pos}(ha:CkE c a pa)(hb:CkE c b pb):CkE c (.and a b) (.BoolOp .And [pa,pb] pos):=.mk (.and2 ha hb)
theorem CkE.andN{c a b pa pb pd r pos}(ha:CkE c a pa)(hb:CkE c b (.BoolOp .And (pb::pd::r) pos)):CkE c (.and a b) (.BoolOp .And (pa::pb::pd::r) pos):=.mk (.andN ha hb)
theorem CkE.or2{c a b pa pb pos}(ha:CkE c a pa)(hb:CkE c b pb):CkE c (.or a b) (.BoolOp .Or [pa,pb] pos):=.mk (.or2 ha hb)
theorem CkE.ite{c q a b pq pa pb pos}(hq:CkE c q pq)(ha:CkE c a pa)(hb:CkE c b pb):CkE c (.ite q a b) (.IfExp pq pa pb pos):=.mk (.ite hq ha hb)
theorem CkE.tup{c es ps k pos}(h:CkL (CkE c) es ps):CkE c (.tup es) (.Tuple ps k pos):=.mk (.tup h)
theorem CkE.lst{c es ps pos}(h:CkL (CkE c) es ps):CkE c (.lst es) (.List ps pos):=.mk (.lst h)
theorem CkE.idx{c a b pa pb pos}(ha:CkE c a pa)(hb:CkE c b pb)(hs:qc3 pb:=by exact fun _ _=>rfl):CkE c (.idx a b) (.Subscript pa pb pos):=.mk (.idx ha hb hs)
theorem CkE.call{c f x es p ps p0 pos}(h:CkL (CkE c) es (p::ps))(hg:c.sc.names.lookup x=some .globalImplicit:=by rfl)(hf:c.fns[f]?=some x:=by rfl)(hd:(x==("__debug__" : Str))=false:=by rfl)(hn:qlk x=true:=by rfl):CkE c (.call f es) (.Call (.Name x p0) (p::ps) [] pos):=.mk (.call hg hf hd hn h)
theorem CkE.bcall{c b es p ps p0 pos}(h:CkL (CkE c) es (p::ps))(hg:c.sc.names.lookup (Str.ofString (ql3 b))=some .globalImplicit:=by rfl)(hb:bOk b=true:=by rfl):CkE c (.bcall b es) (.Call (.Name (Str.ofString (ql3 b)) p0) (p::ps) [] pos):=.mk (.bcall hg hb h)
theorem CkE.isi1{c t a pa p0 p1 pos}(ha:CkE c a pa)(hg:c.sc.names.lookup ("isinstance" : Str)=some .globalImplicit:=by rfl)(ht:t≠.non:=by decide)(hgt:c.sc.names.lookup (Str.ofString t.name)=some .globalImplicit:=by rfl):CkE c (.isi a [t] false) (.Call (.Name "isinstance" p0) [pa,.Name (Str.ofString t.name) p1] [] pos):=.mk (.isi1 hg ht hgt ha)
theorem CkE.isiN{c ts a pa p0 ps k p1 pos}(hl:ts.length≤1000)(hg:c.sc.names.lookup ("isinstance" : Str)=some .globalImplicit)(ht:CkTys c ts ps)(ha:CkE c a pa):CkE c (.isi a ts true) (.Call (.Name "isinstance" p0) [pa,.Tuple ps k p1] [] pos):=.mk (.isiN hl hg ht ha)
theorem CkE.append{c a e pa pe apos cpos}(ha:CkE c a pa)(he:CkE c e pe)(hb:∀ env,attributeBase pa "append" env (eval pa env)=eval pa env:=by exact fun _=>rfl)(hl:(apos.endLine==cpos.line)=true:=by rfl):CkE c (.meth a .append [e]) (.Call (.Attribute pa "append" apos) [pe] [] cpos):=.mk (.append ha he hb hl)
theorem CkE.extend{c a e pa pe apos cpos}(ha:CkE c a pa)(he:CkE c e pe)(hb:∀ env,attributeBase pa "extend" env (eval pa env)=eval pa env:=by exact fun _=>rfl)(hl:(apos.endLine==cpos.line)=true:=by rfl):CkE c (.meth a .extend [e]) (.Call (.Attribute pa "extend" apos) [pe] [] cpos):=.mk (.extend ha he hb hl)
theorem CkE.gc{c a p}(ha:CkE c a p)(hp:gcOk p=true:=by rfl)(hg:∀ b,a≠.gc b:=by exact fun _ z=>nomatch z):CkE c (.gc a) p:=.mk (.gc hp hg ha)
theorem CkE.comp{c t it elt sr tg iter pelt scope pos N}(hi:CkI (CkE c) c tg it iter)(ht:CkT ⟨N,qy3 scope c.sc,c.fns,c.glo⟩ t tg)(he:CkE ⟨N,qy3 scope c.sc,c.fns,c.glo⟩ elt pelt)(hk:scope.kind=.function:=by rfl)(hcell:∀ y∈scope.names,y.2≠.cell:=by decide +kernel)(hfree:∀ y∈scope.names,y.2=.free→c.sc.names.lookup y.1=some .cell∨c.sc.names.lookup y.1=some .free:=by decide +kernel)(hloc:∀ y∈scope.names,y.2=.local→scope.names.lookup y.1=some .local:=by decide +kernel)(hlen:sr.length=N.length:=by rfl)(hsrc:∀ (j i:Nat),sr[j]?=some (some i)→∃ x,N[j]?=some x∧c.N[i]?=some x∧scope.names.lookup x=some .free:=by exact src_of (by decide +kernel))(hnd:N.Nodup:=by decide +kernel)(hs:∀ env x,foldedSetIterable iter env x=pure x:=by exact fun _ _=>rfl)(htl:tlOk N (qy3 scope c.sc) t=true:=by decide +kernel):CkE c (.comp t it none elt sr) (.ListComp pelt [⟨tg,iter,[],0⟩] scope pos):=.mk (.comp hk hcell hfree hloc hlen hsrc hnd hs hi ht htl he)
theorem CkE.dic0{c pos}:CkE c (.dic []) (.Dict [] [] pos):=.mk (.dic0)
theorem CkE.dic{c es k v ks vs pos}(h:CkP (CkE c) es (k::ks) (v::vs))(h15:(k::ks).length≤15):CkE c (.dic es) (.Dict (k::ks) (v::vs) pos):=.mk (.dic h h15)
theorem CkE.didx{c a b pa pb pos}(ha:CkE c a pa)(hb:CkE c b pb)(hs:NoSl pb):CkE c (.didx a b) (.Subscript pa pb pos):=.mk (.didx ha hb hs)
theorem CkE.dnin{c a b pa pb pos}(ha:CkE c a pa)(hb:CkE c b pb)(hm:behindInMarks .NotIn pb=false):CkE c (.din true a b) (.Compare pa [.NotIn] [pb] pos):=.mk (.dnin ha hb hm)
theorem CkE.gidx{c x ks ds b pb p0 pos}(hg:c.sc.names.lookup x=some .globalImplicit)(hm:(x,ks,ds)∈c.glo.ds)(hd:(x==("__debug__" : Str))=false)(hb:CkE c b pb)(hs:NoSl pb):CkE c (.gidx x ks ds b) (.Subscript (.Name x p0) pb pos):=.mk (.gidx hg hm hd hb hs)
theorem CkE.gnin{c x ks ds b pb p0 pos}(hg:c.sc.names.lookup x=some .globalImplicit)(hm:(x,ks,ds)∈c.glo.ds)(hd:(x==("__debug__" : Str))=false)(hb:CkE c b pb):CkE c (.gin true x ks b) (.Compare pb [.NotIn] [.Name x p0] pos):=.mk (.gnin hg hm hd hb)
theorem CkE.sli{c a lo hi pa pl ph p2 pos}(ha:CkE c a pa)(hl:CkO (CkE c) lo pl)(hh:CkO (CkE c) hi ph):CkE c (.sli a lo hi) (.Subscript pa (.Slice pl ph none p2) pos):=.mk (.sli ha hl hh)
theorem CkE.attr{c C a f pa pos}(ha:CkE c a pa)(hc:(C,f)∈c.glo.ats:=by decide +kernel)(hb:∀ env,attributeBase pa f env (eval pa env)=eval pa env:=by exact fun _=>rfl):CkE c (.attr C a f) (.Attribute pa f pos):=.mk (.attr ha hc hb)
theorem CkE.mcall{c C f m x cn a es pa ps apos pos}(ha:CkE c a pa)(h:CkL (CkE c) es ps)(hf:c.fns[f]?=some x)(hm:(f,C,m)∈c.glo.ms)(hc:(cn,C)∈c.glo.cl)(ht:MTree pa m apos ps pos:=by exact fun _=>⟨_,rfl⟩):CkE c (.mcall C f m a es) (.Call (.Attribute pa m apos) ps [] pos):=.mk (.mcall ha hf hm hc h ht)
theorem CkE.new{c C f x cn es p ps p0 pos}(h:CkL (CkE c) es (p::ps))(hf:c.fns[f]?=some x)(hm:(f,C,("__init__" : Str))∈c.glo.ms)(hc:(cn,C)∈c.glo.cl)(hg:c.sc.names.lookup cn=some .globalImplicit:=by rfl)(hd:(cn==("__debug__" : Str))=false:=by rfl):CkE c (.new C f es) (.Call (.Name cn p0) (p::ps) [] pos):=.mk (.new hg hf hm hc hd h)
mutual
inductive CkS:Ctx→S→Stmt→Prop
 |set {c i e x p pos pos'} (hN:c.N[i]?=some x) (hl:c.sc.names.lookup x=some .local∨c.sc.names.lookup x=some .cell) (h:CkE c e p) (hs:∀ env,swapsWith p (some (.Name x pos')) pos.line env=pure false):CkS c (.set (.var i) e) (.Assign [.Name x pos'] p pos)
 |setIx {c a i e pa pi pe tpos pos} (ha:CkE c a pa) (hi:CkE c i pi) (he:CkE c e pe)
   (hs:∀ env,swapsWithSole [.Subscript pa pi tpos] pe pos.line env=pure false) (hw:∀ env,swappedStores [.Subscript pa pi tpos] pe env=pure none) (h1:∀ env,(assignEach [.Subscript pa pi tpos] env).map (·.2)=[assign (.Subscript pa pi tpos) env])
   (hA:∀ env v,assign (.Subscript pa pi tpos) env v=(do
    let ov ← holding [v] (eval pa env)
    let iv ← holding [v,ov] (eval pi env)
    standAt tpos
    holding [v,ov,iv] (setItem ov iv v)
    release [v,ov,iv] [])):CkS c (.setIx a i e) (.Assign [.Subscript pa pi tpos] pe pos)
 |dset {c a i e pa pi pe tpos pos} (ha:CkE c a pa) (hi:CkE c i pi) (he:CkE c e pe) (hs:∀ env,swapsWith pe (some (.Subscript pa pi tpos)) pos.line env=pure false):CkS c (.dset a i e) (.Assign [.Subscript pa pi tpos] pe pos)
 |expr {c e p pos} (h:CkE c e p) (hs:∀ env,swapsWith p none pos.line env=pure false):CkS c (.expr e) (.Expr p pos)
 |ret {c e p pos} (h:CkE c e p):CkS c (.ret e) (.Return (some p) pos)
 |ite {c q a b pq pa pb pos} (hq:CkE c q pq) (ha:CkSs c a pa) (hb:CkSs c b pb):CkS c (.ite q a b) (.If pq pa pb pos)
 |forr {c t it body tg iter pb pos} (ht:CkT c t tg) (hi:CkI (CkE c) c tg it iter) (hs:∀ env x,foldedSetIterable iter env x=pure x) (hb:CkSs c body pb):CkS c (.forr t it body) (.For tg iter pb [] pos)
 |setA {c C a f e pa pe tpos pos} (ha:CkE c a pa) (he:CkE c e pe) (hc:(C,f)∈c.glo.ats) (hs:∀ env,swapsWith pe (some (.Attribute pa f tpos)) pos.line env=pure false):CkS c (.setA C a f e) (.Assign [.Attribute pa f tpos] pe pos)
 |ford {c t a body tg pa pb pos} (ht:CkT c t tg) (ha:CkE c a pa) (hs:∀ env x,foldedSetIterable pa env x=pure x) (hb:CkSs c body pb):CkS c (.ford t a body) (.For tg pa pb [] pos)
 |bad {c p}:CkS c .bad p
 |cnt {c pos}:CkS c .cnt (.Continue pos)
inductive CkSs:Ctx→List S→List Stmt→Prop
 |nil {c}:CkSs c [] []
 |cons {c s ss p ps} (h:CkS c s p) (t:CkSs c ss ps):CkSs c (s::ss) (p::ps)
 |doc {c ss x j pos pos' ps} (t:CkSs c ss ps):CkSs c ss (.Expr (.Constant (.str x) j pos) pos'::ps)
end
theorem CkS.st{c i e x p pos pos'}(h:CkE c e p)(hN:c.N[i]?=some x:=by rfl)(hl:c.sc.names.lookup x=some .local∨c.sc.names.lookup x=some .cell:=by exact .inl rfl)(hs:∀ env,swapsWith p (some (.Name x pos')) pos.line env=pure false:=by exact fun _=>rfl):CkS c (.set (.var i) e) (.Assign [.Name x pos'] p pos):=.set hN hl h hs
theorem CkE.star{c:Ctx}{e:E}{p:Expr}(h:CkE c e p):Star p:=by
 cases h.out with
 |gc hp hg ha=>
  cases p with
  |Call=>exact fun _ _=>rfl
  |ListComp=>exact fun _ _=>rfl
  |List=>exact fun _ _=>rfl
  |BinOp=>exact fun _ _=>rfl
  |Subscript=>exact fun _ _=>rfl
  |_=>cases hp
 |_=>exact fun _ _=>rfl
noncomputable def spN(K:Qqq)(fns:List Fn)(n f:Nat):Sp:=fun vs H Q _=>∃ m st ds d st',Rel K m st H∧IsDs K m H ds vs∧M.callD fns n f ds st=some (d,st')∧Post K m H d st' Q
def Lc(K:Qqq)(mg:Str→Option Value)(glo:Glo)(f:Nat)(x:Str)(fa:Addr):Prop:=(qlk x=true→mg x=some (.ref fa))∧∀ C m,(f,C,m)∈glo.ms→Meth K C m fa
def FTab(P:Program)(w:World)(K:Qqq)(mg:Str→Option Value)(base:Heap)(glo:Glo)(fns:List Fn)(names:List Str)(n:Nat):Prop:=∀ (f:Nat) (x:Str),names[f]?=some x→∃ (fa:Addr) (fd:FuncData) (ps:List Str),
 Lc K mg glo f x fa∧FnOk P w K mg base CX0 (2*n) fa fd ps (spN K fns n f)∧Qzj K (.ref fa)=true∧Binds K fd ps []
structure Mo (K:Qqq) (mg:Str→Option Value) (glo:Glo) (prm:Params):Prop where
 cls:∀ cn C,(cn,C)∈glo.cl→mg cn=some (.ref C)∧Cls K C∧PySem.W.makesIn K C=true∧Qzj K (.ref C)=true
 ats:∀ C f,(C,f)∈glo.ats→Cls K C∧NoAttr K C f
 gds:∀ x ks ds,(x,ks,ds)∈glo.ds→∃ a,mg x=some (.ref a)∧FDict prm K a ks ds
 glo:∀ x d,(x,d)∈glo.cs→∃ u v,mg x=some u∧RelV v u∧∀ m H,IsD K m H d v
 len:mg "len" = none
 min:mg "min" = none
 max:mg "max" = none
 tuple:mg "tuple" = none
 list:mg "list" = none
 all:mg "all" = none
 sorted:mg "sorted" = none
 isinstance:mg "isinstance" = none
 range:mg "range" = none
 int:mg "int" = none
 bool:mg "bool" = none
 str:mg "str" = none
 zip:mg "zip" = none
 any:mg "any" = none
 enumerate:mg "enumerate" = none
 reversed:mg "reversed" = none
 sum:mg "sum" = none
 set:mg "set" = none
 dict:mg "dict" = none
structure Good (fns:List Fn) (dl:Nat) (c:Ctx) (X:Cx):Prop where
 room:Room (2*dl+1) X.A
 calm:X.calm=true
 N:X.N=c.N
 sc:X.env.scope=c.sc
 nd:c.N.Nodup
 kind:c.sc.kind=.function
 tab:FTab X.prog X.w X.K X.mg X.base c.glo fns c.fns dl
 mo:Mo X.K X.mg c.glo X.w.params
 xe:X.xe=fun _ _=>False
end MS
end
section
namespace MS
open PySem PySem.Spec PyProof.Rows L2
open M (D Cell Store Sl E S T Src Fn Out R)
theorem qvy{c:Ctx}:∀ {es:List E}{ps:List Expr},CkEs c es ps→∀ (pos:Pos) (env:Env),(backTo pos (starEach ps env)).any (·.1)=false
 |_,_,.nil,_,_=>rfl
 |_,_,.cons h t,pos,env=>by
  rw[h.star]
  show(false||(backTo pos (starEach _ env)).any (·.1))=false
  rw[qvy t pos env]
  rfl
theorem Good.gl{fns:List Fn}{dl:Nat}{c:Ctx}{X:Cx}(G:Good fns dl c X){x:Str}(h:c.sc.names.lookup x=some .globalImplicit):Gl X x:=by
 show X.env.scope.names.lookup x=_
 rw[G.sc]; exact h
theorem qem{scope sc:Scope}{env:Env}(h:env.scope=sc):relabel scope env=qy3 scope sc:=by
 unfold relabel qy3 Env.kindOf
 rw[h]
theorem Good.inner{fns:List Fn}{dl:Nat}{c:Ctx}{X:Cx}(G:Good fns dl c X){N:List Str}{scope:Scope}{C:Addr}{fp:List Addr}{s:Shared}{H:Hp}(hk:scope.kind=.function)(hnd:N.Nodup):Good fns dl ⟨N,qy3 scope c.sc,c.fns,c.glo⟩ (qzr X N scope C fp s H):=
 ⟨G.room,G.calm,rfl,qem G.sc,hnd,hk,G.tab,G.mo,rfl⟩
noncomputable def IsRow(K:Qqq)(m:List Addr)(H:Hp)(k:RK)(a:Addr):D→Prop
 |.tup ds=>k=.tup∧∃ xs,SqT K H a xs∧IsDs K m H ds xs
 |.loc l=>k=.lst∧m[l]?=some a
 |.lst ds=>k=.lst∧∃ xs,SqF K H a xs∧IsDs K m H ds xs
 |_=>False
theorem IsRow.mono{K:Qqq}{m m':List Addr}{H H':Hp}{k:RK}{a:Addr}{d:D}(h:IsRow K m H k a d)(b:Sub m m')(t:Tr H H'):IsRow K m' H' k a d:=by
 cases d with
 |tup ds=>obtain⟨e,xs,q,r⟩:=h; exact⟨e,xs,t.sqT q,qzf b t ds xs r⟩
 |loc l=>exact⟨h.1,b l a h.2⟩
 |lst ds=>obtain⟨e,xs,q,r⟩:=h; exact⟨e,xs,t.sqF q,qzf b t ds xs r⟩
 |_=>exact h.elim
theorem IsRow.sq{K:Qqq}{m:List Addr}{st:Store}{H:Hp}{k:RK}{a:Addr}{d:D}{ds:List D}(h:IsRow K m H k a d)(R0:Rel K m st H)(e:M.rowAt st d=some ds):∃ xs,k.sq K H a xs∧IsDs K m H ds xs:=by
 cases d with
 |tup es=>
  cases e
  obtain⟨rfl,xs,q,r⟩:=h
  exact⟨xs,q,r⟩
 |loc l=>
  obtain⟨rfl,ha⟩:=h
  obtain⟨a',xs,ha',z,q,r⟩:=R0.list e (qlv ha)
  cases z
  exact⟨xs,q,r⟩
 |lst es=>
  cases e
  obtain⟨rfl,xs,q,r⟩:=h
  exact⟨xs,q.sq,r⟩
 |_=>exact h.elim
theorem qdp{K:Qqq}{m:List Addr}{st:Store}{H:Hp}{d:D}{v:V}{ds:List D}(iv:MS.IsD K m H d v)(R0:Rel K m st H)(e:M.rowAt st d=some ds):∃ k a,v=.ref a∧IsRow K m H k a d∧∃ xs,k.sq K H a xs:=by
 cases d with
 |tup es=>
  obtain⟨a,xs,rfl,q,r⟩:=iv.tup
  exact⟨.tup,a,rfl,⟨rfl,xs,q,r⟩,xs,q⟩
 |loc l=>
  obtain⟨a,xs,ha,rfl,q,r⟩:=R0.list e iv
  exact⟨.lst,a,rfl,⟨rfl,ha⟩,xs,q⟩
 |lst es=>
  obtain⟨a,xs,rfl,q,r⟩:=iv.lst
  exact⟨.lst,a,rfl,⟨rfl,xs,q,r⟩,xs,q.sq⟩
 |_=>cases e
theorem IsRow.sq'{K:Qqq}{m:List Addr}{st:Store}{H:Hp}{a:Addr}{d:D}{ds:List D}(h:IsRow K m H .lst a d)(R0:Rel K m st H)(e:M.seqAt st d=some ds):∃ xs,SqL K H a xs∧IsDs K m H ds xs:=by
 cases d with
 |loc l=>exact h.sq R0 e
 |lst l=>exact h.sq R0 e
 |_=>cases e
theorem qbj{K:Qqq}{m:List Addr}{st:Store}{H:Hp}{d:D}{v:V}{ds:List D}(iv:MS.IsD K m H d v)(R0:Rel K m st H)(e:M.seqAt st d=some ds):∃ a,v=.ref a∧IsRow K m H .lst a d∧∃ xs,SqL K H a xs:=by
 cases d with
 |loc l=>
  obtain⟨a,xs,ha,rfl,q,r⟩:=R0.list e iv
  exact⟨a,rfl,⟨rfl,ha⟩,xs,q⟩
 |lst l=>
  obtain⟨a,xs,rfl,q,r⟩:=iv.lst
  exact⟨a,rfl,⟨rfl,xs,q,r⟩,xs,q.sq⟩
 |_=>cases e
noncomputable def IsSrc(K:Qqq)(m:List Addr)(H:Hp):Src→It→Prop
 |.rng lo n,J=>J=Itr lo n
 |.tup ds,J=>∃ a xs,J=Itt K a∧SqT K H a xs∧IsDs K m H ds xs
 |.lst d,J=>∃ a,IsRow K m H .lst a d∧J=Itl K a
 |.str z,J=>J=Its z
 |.rgs lo c n,J=>False
 |.zip x y,J=>∃ (k1 k2:RK) (a b:Addr),J=Itz K k1 k2 a b∧IsRow K m H k1 a x∧IsRow K m H k2 b y
theorem IsSrc.mono{K:Qqq}{m m':List Addr}{H H':Hp}{s:Src}{J:It}(h:IsSrc K m H s J)(b:Sub m m')(t:Tr H H'):IsSrc K m' H' s J:=by
 cases s with
 |rng lo n=>exact h
 |tup ds=>obtain⟨a,xs,e,q,r⟩:=h; exact⟨a,xs,e,t.sqT q,qzf b t ds xs r⟩
 |lst l=>obtain⟨a,e,q⟩:=h; exact⟨a,e.mono b t,q⟩
 |str z=>exact h
 |rgs lo c n=>exact h.elim
 |zip x y=>obtain⟨k1,k2,a,a',e,h1,h2⟩:=h; exact⟨k1,k2,a,a',e,h1.mono b t,h2.mono b t⟩
theorem IsSrc.done{K:Qqq}{m:List Addr}{st:Store}{H:Hp}{s:Src}{J:It}{i:Nat}(h:IsSrc K m H s J)(R0:Rel K m st H)(e:s.at st i=some none):J.stop i H:=by
 cases s with
 |rng lo n=>
  cases h
  simp only[Src.at]at e
  split at e
  ·cases e
  ·rename_i q
   exact Nat.not_lt.mp q
 |rgs lo c n=>exact h.elim
 |tup ds=>
  obtain⟨a,xs,rfl,q,r⟩:=h
  simp only[Src.at,Option.some.injEq]at e
  exact⟨xs,q,by rw[← r.length]; exact Qqt.mp e⟩
 |lst l=>
  obtain⟨a,ha,rfl⟩:=h
  simp only[Src.at]at e
  obtain⟨ds,e1,e2⟩:=mapD e
  obtain⟨xs,q,r⟩:=ha.sq' R0 e1
  exact⟨xs,q,by rw[← r.length]; exact Qqt.mp e2⟩
 |str z=>
  cases h
  simp only[Src.at,Option.some.injEq]at e
  have:=Qqt.mp e
  rw[Qqk]at this
  exact this
 |zip x y=>
  obtain⟨k1,k2,a,b,rfl,h1,h2⟩:=h
  simp only[Src.at]at e
  obtain⟨ds,e1,e⟩:=qzd e
  obtain⟨es,e2,e3⟩:=mapD e
  obtain⟨xs,q1,r1⟩:=h1.sq R0 e1
  obtain⟨ys,q2,r2⟩:=h2.sq R0 e2
  refine⟨xs,ys,q1,q2,?_⟩
  unfold M.pairAt at e3
  rw[← r1.length,← r2.length]
  cases z1:ds[i]? with
  |none=>exact .inl (Qqt.mp z1)
  |some d1=>
   cases z2:es[i]? with
   |none=>exact .inr (Qqt.mp z2)
   |some d2=>rw[z1,z2]at e3; cases e3
theorem IsSrc.next{K:Qqq}{m:List Addr}{st:Store}{H:Hp}{s:Src}{J:It}{i:Nat}{d:D}(h:IsSrc K m H s J)(R0:Rel K m st H)(e:s.at st i=some (some d)):J.go i H∧∀ x H',J.yld i H x H'→Same H H'∧MS.IsD K m H' d x:=by
 cases s with
 |rng lo n=>
  cases h
  simp only[Src.at,Option.some.injEq]at e
  split at e
  ·rename_i q
   cases e
   refine⟨q,?_⟩
   rintro x H' ⟨rfl,rfl⟩
   exact⟨fun _ _ z=>z,mkInt _⟩
  ·cases e
 |rgs lo c n=>exact h.elim
 |tup ds=>
  obtain⟨a,xs,rfl,q,r⟩:=h
  simp only[Src.at,Option.some.injEq]at e
  obtain⟨x,ex,ix⟩:=r.get e
  refine⟨⟨xs,x,q,ex⟩,?_⟩
  rintro y H' ⟨rfl,z⟩
  have:=z xs q
  rw[ex]at this
  cases this
  exact⟨fun _ _ z=>z,ix⟩
 |lst l=>
  obtain⟨a,ha,rfl⟩:=h
  simp only[Src.at]at e
  obtain⟨ds,e1,e2⟩:=mapD e
  obtain⟨xs,q,r⟩:=ha.sq' R0 e1
  obtain⟨x,ex,ix⟩:=r.get e2
  refine⟨⟨xs,x,q,ex⟩,?_⟩
  rintro y H' ⟨rfl,z⟩
  have:=z xs q
  rw[ex]at this
  cases this
  exact⟨fun _ _ z=>z,ix⟩
 |str z=>
  cases h
  simp only[Src.at,Option.some.injEq]at e
  rw[Qqn]at e
  cases hc:z.cps.toList[i]? with
  |none=>rw[hc]at e; cases e
  |some c=>
   rw[hc]at e
   cases e
   refine⟨(Qqb.mp hc).1,?_⟩
   rintro x H' ⟨rfl,c',hc',rfl⟩
   rw[hc]at hc'
   cases hc'
   exact⟨fun _ _ w=>w,mkStr _⟩
 |zip u v=>
  obtain⟨k1,k2,a,b,rfl,h1,h2⟩:=h
  simp only[Src.at]at e
  obtain⟨ds,e1,e⟩:=qzd e
  obtain⟨es,e2,e3⟩:=mapD e
  obtain⟨xs,q1,r1⟩:=h1.sq R0 e1
  obtain⟨ys,q2,r2⟩:=h2.sq R0 e2
  unfold M.pairAt at e3
  cases z1:ds[i]? with
  |none=>rw[z1]at e3; cases e3
  |some d1=>
   cases z2:es[i]? with
   |none=>rw[z1,z2]at e3; cases e3
   |some d2=>
    rw[z1,z2]at e3
    cases e3
    obtain⟨x,ex,ix⟩:=r1.get z1
    obtain⟨y,ey,iy⟩:=r2.get z2
    refine⟨⟨xs,ys,x,y,q1,q2,ex,ey⟩,?_⟩
    rintro w H' ⟨p,x',y',rfl,hp,rfl,f1,f2⟩
    have g1:=f1 xs q1
    rw[ex]at g1
    cases g1
    have g2:=f2 ys q2
    rw[ey]at g2
    cases g2
    have sm:=qzy (o:=.tup [x,y]) hp
    exact⟨sm,qzt (SqT.of qzc) (qzf (Sub.refl _) (Tr.of_same sm) _ _ (qzx ix (qzx iy qzm)))⟩
noncomputable def tI(K:Qqq)(f:Sl→Store→Option (Src×Store)):TI:=fun σ H R=>∃ m st τ s st',Rel K m st H∧SlotOk K m H τ σ∧f τ st=some (s,st')∧∀ m' H' J,Sub m m'→Tr H H'→Rel K m' st' H'→IsSrc K m' H' s J→R J H'
theorem tI.el{K:Qqq}{f:Sl→Store→Option (Src×Store)}{σ:L2.St}{H:Hp}{Q:It→Hp→Prop}{P:Prop}(h:tI K f σ H Q)(k:∀ m st τ s st',Rel K m st H→SlotOk K m H τ σ→f τ st=some (s,st')→(∀ m' H' J,Sub m m'→Tr H H'→Rel K m' st' H'→IsSrc K m' H' s J→Q J H')→P):P:=by
 rcases h with⟨m,st,τ,d,st',a,b,c,e⟩
 exact k m st τ d st' a b c e
theorem _root_.L2.PI.imp{X:Cx}{tg e:Expr}{t t':TI}(h:PI X tg e t)(f:∀ σ H R,t' σ H R→t σ H R):PI X tg e t':=fun pins s σ H Q I q=>h pins s σ H Q I (f σ H Q q)
def PostO(K:Qqq)(m:List Addr)(H:Hp)(o:Out)(st':Store)(Dn:Ends):Prop:=∀ m' H',Sub m m'→Tr H H'→Rel K m' st' H'→match o with
 |.nx τ=>∀ σ',SlotOk K m' H' τ σ'→Dn.nx σ' H'
 |.rt d=>∀ v,IsD K m' H' d v→Dn.rt v H'
 |.bk τ=>∀ σ',SlotOk K m' H' τ σ'→Dn.bk σ' H'
 |.ct τ=>∀ σ',SlotOk K m' H' τ σ'→Dn.ct σ' H'
theorem PostO.mono{K:Qqq}{m m1:List Addr}{H H1:Hp}{o:Out}{st':Store}{Dn:Ends}(p:PostO K m H o st' Dn)(s:Sub m m1)(t:Tr H H1):PostO K m1 H1 o st' Dn:=fun m' H' s' t' r=>p m' H' (s.trans s') (t.trans t') r
noncomputable def tS(K:Qqq)(f:Sl→Store→Option (Out×Store)):TS:=fun Dn σ H=>∃ m st τ o st',Rel K m st H∧SlotOk K m H τ σ∧f τ st=some (o,st')∧PostO K m H o st' Dn
theorem tS.el{K:Qqq}{f:Sl→Store→Option (Out×Store)}{σ:L2.St}{H:Hp}{Dn:Ends}{P:Prop}(h:tS K f Dn σ H)(k:∀ m st τ o st',Rel K m st H→SlotOk K m H τ σ→f τ st=some (o,st')→PostO K m H o st' Dn→P):P:=by
 rcases h with⟨m,st,τ,d,st',a,b,c,e⟩
 exact k m st τ d st' a b c e
structure AllOk (fns:List Fn) (dl n:Nat):Prop where
 e:∀ c X,Good fns dl c X→∀ e p,CkE c e p→PE X p (tD X.K fun τ st=>(M.rn fns dl n).ev τ st e)
 t:∀ c X,Good fns dl c X→∀ e p,CkE c e p→PT X p (tTs X.K fun τ st=>(M.rn fns dl n).tst τ st e)
 w:∀ c X,Good fns dl c X→∀ e op ps pos,CkE c e (.BoolOp op ps pos)→PW X (.BoolOp op ps pos) (tTs X.K fun τ st=>(M.rn fns dl n).tst τ st e)
 s:∀ c X,Good fns dl c X→(∀ x,X.fn x=true)→∀ ss ps,CkSs c ss ps→PSs X ps (tS X.K fun τ st=>(M.rn fns dl n).ex τ st ss)
theorem qfl(fns:List Fn)(dl:Nat):AllOk fns dl 0 where
 e:=fun c X G e p h pins s σ H Q I q=>by obtain⟨m,st,τ,d,st',_,_,z,_⟩:=q; cases z
 t:=fun c X G e p h pins s σ H Q I q=>by obtain⟨m,st,τ,d,st',_,_,z,_⟩:=q; cases z
 w:=fun c X G e op ps pos h wh pins s σ H Q I q=>by obtain⟨m,st,τ,d,st',_,_,z,_⟩:=q; cases z
 s:=fun c X G hf ss ps h pins s σ H Q I q=>by obtain⟨m,st,τ,d,st',_,_,z,_⟩:=q; cases z
section
variable {fns:List Fn}{dl n:Nat}{c:Ctx}{X:Cx}
theorem qz7(A:AllOk fns dl n)(G:Good fns dl c X):∀ {es:List E}{ps:List Expr},CkEs c es ps→PA X ps (tL X.K fun τ st=>M.evs ((M.rn fns dl n).ev τ) es st)
 |_,_,.nil=>pa_nil.imp fun _ _ _ h=>tL_nil h
 |_,_,.cons (e:=e) (es:=es) h t=>(qq2 (A.e c X G _ _ h) (qz7 A G t) (h.star _ _)).imp fun _ _ _ q=>
   qnq (fa:=fun τ st=>(M.rn fns dl n).ev τ st e) (fr:=fun τ st=>M.evs ((M.rn fns dl n).ev τ) es st) q
noncomputable def qmj:E→Bool
 |.rng1 _=>false
 |.rng2 _ _=>false
 |.rng3 _ _ _=>false
 |.zip _ _=>false
 |_=>true
theorem CkF.plain{R:Ctx→E→Expr→Prop}{c:Ctx}{e:E}{p:Expr}(h:CkF R c e p):qmj e=true:=by cases h<;>rfl
theorem qf4{e:E}(h:qmj e=true)(r:R)(τ:Sl)(st:Store):M.src r τ st e=(r.ev τ st e).bind fun p=>match p.1 with
   |.tup ds=>some (.tup ds,p.2)
   |.str z=>if z.cps.all (· < 128) then some (.str z,p.2) else none
   |d=>(M.seqAt p.2 d).map fun _=>(.lst d,p.2):=by
 cases e with
 |rng1 _=>cases h
 |rng2 _ _=>cases h
 |rng3 _ _ _=>cases h
 |zip _ _=>cases h
 |_=>rfl
theorem qhx(A:AllOk fns dl n)(G:Good fns dl c X){it:E}{tg iter:Expr}(h:CkI (CkE c) c tg it iter):PI X tg iter (tI X.K fun τ st=>M.src (M.rn fns dl n) τ st it):=by
 have seq:∀ {e p},CkE c e p→(∀ τ st,M.src (M.rn fns dl n) τ st e=((M.rn fns dl n).ev τ st e).bind fun p=>match p.1 with
   |.tup ds=>some (.tup ds,p.2)
   |.str z=>if z.cps.all (· < 128) then some (.str z,p.2) else none
   |d=>(M.seqAt p.2 d).map fun _=>(.lst d,p.2))→PI X tg p (tI X.K fun τ st=>M.src (M.rn fns dl n) τ st e):=by
  intro e p he hsrc
  refine(pi_seq (A.e c X G e p he)).imp fun σ H R q=>?_
  refine q.el fun m st τ s st' R0 S0 e1 q=>?_
  have e1:=(hsrc τ st).symm.trans e1
  obtain⟨d,s1,e2,e1⟩:=qze e1
  refine⟨m,st,τ,d,s1,R0,S0,e2,fun x m1 H1 b1 t1 R1 i1=>?_⟩
  cases d with
  |tup ds=>
   cases e1
   obtain⟨a,xs,rfl,hq,ix⟩:=i1.tup
   exact .inl ⟨a,rfl,.inr ⟨⟨xs,hq⟩,q m1 H1 _ b1 t1 R1 ⟨a,xs,rfl,hq,ix⟩⟩⟩
  |loc l=>
   obtain⟨ds,e3,e4⟩:=mapD e1
   cases e4
   obtain⟨a,rfl,ha,xs,hq⟩:=qbj i1 R1 e3
   exact .inl ⟨a,rfl,.inl ⟨⟨xs,hq⟩,q m1 H1 _ b1 t1 R1 ⟨a,ha,rfl⟩⟩⟩
  |lst l=>
   obtain⟨ds,e3,e4⟩:=mapD e1
   cases e4
   obtain⟨a,rfl,ha,xs,hq⟩:=qbj i1 R1 e3
   exact .inl ⟨a,rfl,.inl ⟨⟨xs,hq⟩,q m1 H1 _ b1 t1 R1 ⟨a,ha,rfl⟩⟩⟩
  |str z=>
   dsimp only at e1
   split at e1
   ·rename_i hz
    cases e1
    exact .inr ⟨z,i1.str,hz,q m1 H1 _ b1 t1 R1 rfl⟩
   ·cases e1
  |_=>cases e1
 cases h with
 |@rng1 _ a pa p0 pos hg ha=>
  refine(qgc (G.gl hg) G.mo.range (qz7 A G (.cons ha .nil)) (by rw[ha.star]; rfl)).imp fun σ H R q=>?_
  refine q.el fun m st τ s st' R0 S0 e1 q=>?_
  have e1:(((M.rn fns dl n).ev τ st a).bind fun p=>match p.1 with
   |.int n=>if M.big n then none else some (Src.rng 0 n.toNat,p.2)
   |_=>none)=some (s,st'):=e1
  obtain⟨d,s1,e2,e1⟩:=qze e1
  cases d with
  |int k=>
   dsimp only at e1
   split at e1
   ·cases e1
   ·rename_i hb
    cases e1
    unfold M.big at hb
    simp only[Qzh,decide_eq_true_eq,not_or]at hb
    refine⟨m,st,τ,[.int k],st',R0,S0,?_,fun xs m1 H1 b1 t1 R1 i1=>?_⟩
    ·show(((M.rn fns dl n).ev τ st a).bind fun p=>(some (([]:List D),p.2)).bind fun q=>some (p.1::q.1,q.2))=_
     rw[e2]; rfl
    ·obtain⟨x,rfl,ix⟩:=i1.one
     cases ix.int
     exact⟨k,rfl,by omega,by omega,q m1 H1 _ b1 t1 R1 rfl⟩
  |_=>cases e1
 |@rng2 _ a b pa pb p0 pos hg ha hb=>
  refine(qgb (G.gl hg) G.mo.range (qz7 A G (.cons ha (.cons hb .nil))) (by rw[ha.star,hb.star]; rfl) (by rw[hb.star]; rfl)).imp fun σ H R q=>?_
  refine q.el fun m st τ s st' R0 S0 e1 q=>?_
  have e1:(((M.rn fns dl n).ev τ st a).bind fun p=>((M.rn fns dl n).ev τ p.2 b).bind fun q=>match p.1,q.1 with
   |.int i,.int j=>if M.big i||M.big j then none else some (Src.rng i (j - i).toNat,q.2)
   |_,_=>none)=some (s,st'):=e1
  obtain⟨d,s1,e2,e1⟩:=qze e1
  obtain⟨d',s2,e3,e1⟩:=qze e1
  dsimp only at e1
  split at e1
  ·rename_i i j _
   split at e1
   ·cases e1
   ·rename_i hb
    cases e1
    unfold M.big at hb
    simp only[Qzh,decide_eq_true_eq,not_or]at hb
    refine⟨m,st,τ,[.int i,.int j],st',R0,S0,?_,fun xs m1 H1 b1 t1 R1 i1=>?_⟩
    ·show(((M.rn fns dl n).ev τ st a).bind fun p=>(((M.rn fns dl n).ev τ p.2 b).bind fun p=>(some (([]:List D),p.2)).bind fun q=>some (p.1::q.1,q.2)).bind fun q=>some (p.1::q.1,q.2))=_
     rw[e2]
     show(((M.rn fns dl n).ev τ s1 b).bind fun p=>(some (([]:List D),p.2)).bind fun q=>some (p.1::q.1,q.2)).bind _=_
     rw[e3]; rfl
    ·obtain⟨x,y,rfl,ix,iy⟩:=i1.two
     cases ix.int
     cases iy.int
     exact⟨i,j,rfl,⟨by omega,by omega,by omega,by omega⟩,q m1 H1 _ b1 t1 R1 rfl⟩
  ·cases e1
 |@zip ts k tp a b pa pb p0 pos hg ha hb=>
  refine(pi_zip (G.gl hg) G.mo.zip (qz7 A G (.cons ha (.cons hb .nil))) (by rw[ha.star,hb.star]; rfl) (by rw[hb.star]; rfl)).imp fun σ H R q=>?_
  obtain⟨m,st,τ,s,st',R0,S0,e1,q⟩:=q
  have e1:(((M.rn fns dl n).ev τ st a).bind fun p=>((M.rn fns dl n).ev τ p.2 b).bind fun q=>(M.rowAt q.2 p.1).bind fun _=>(M.rowAt q.2 q.1).map fun _=>(Src.zip p.1 q.1,q.2))=some (s,st'):=e1
  obtain⟨d,s1,e2,e1⟩:=qze e1
  obtain⟨d',s2,e3,e1⟩:=qze e1
  obtain⟨ds,e4,e1⟩:=qzd e1
  obtain⟨es,e5,e6⟩:=mapD e1
  cases e6
  refine⟨m,st,τ,[d,d'],s2,R0,S0,?_,fun xs m1 H1 b1 t1 R1 i1=>?_⟩
  ·show(((M.rn fns dl n).ev τ st a).bind fun p=>(((M.rn fns dl n).ev τ p.2 b).bind fun p=>(some (([]:List D),p.2)).bind fun q=>some (p.1::q.1,q.2)).bind fun q=>some (p.1::q.1,q.2))=_
   rw[e2]
   show(((M.rn fns dl n).ev τ s1 b).bind fun p=>(some (([]:List D),p.2)).bind fun q=>some (p.1::q.1,q.2)).bind _=_
   rw[e3]; rfl
  ·obtain⟨x,y,rfl,ix,iy⟩:=i1.two
   obtain⟨k1,a1,rfl,h1,w1⟩:=qdp ix R1 e4
   obtain⟨k2,a2,rfl,h2,w2⟩:=qdp iy R1 e5
   exact⟨k1,k2,a1,a2,rfl,w1,w2,q m1 H1 _ b1 t1 R1 ⟨k1,k2,a1,a2,rfl,h1,h2⟩⟩
 |@seq _ e p he=>
  exact seq he (qf4 he.out.plain _)
theorem po_ok(A:AllOk fns dl n)(G:Good fns dl c X){o:Option E}{p:Option Expr}(h:CkO (CkE c) o p):PO X p (fun σ H Q=>∃ m st τ l st',Rel X.K m st H∧SlotOk X.K m H τ σ∧M.part (M.rn fns dl n) τ st o=some (l,st')∧∀ m' H',Sub m m'→Tr H H'→Rel X.K m' st' H'→Q l H'):=by
 cases h with
 |none=>
  intro pins s σ H Q I q
  obtain⟨m,st,τ,l,st',R0,S0,e,k⟩:=q
  cases e
  exact qno pins s σ H Q I (k m H (Sub.refl m) (Tr.refl H) R0)
 |@some e p h=>
  intro pins s σ H Q I q
  obtain⟨m,st,τ,l,st',R0,S0,e0,k⟩:=q
  have e0:(((M.rn fns dl n).ev τ st e).bind fun p=>match p.1 with
   |.int i=>some (some i,p.2)
   |_=>none)=some (l,st'):=e0
  obtain⟨d,s1,e1,e2⟩:=qze e0
  cases d with
  |int i=>
   cases e2
   exact qnn (A.e c X G e p h) pins s σ H Q I ⟨m,st,τ,.int i,s1,R0,S0,e1,fun v m' H' b t R1 iv=>⟨i,iv.int,k m' H' b t R1⟩⟩
  |_=>cases e2
noncomputable def gIs:List Nat→TGs
 |[]=>gNil
 |i::is=>gCons (qe9 i) (gIs is)
noncomputable def gT(K:Qqq):T→TG
 |.var i=>qe9 i
 |.tup is=>gTup K is.length (gIs is)
theorem qmh{K:Qqq}{m:List Addr}{H:Hp}{Q:L2.St→Hp→Prop}:∀ {is:List Nat}{ds:List D}{xs:List V}{τ τ':Sl}{σ:L2.St},IsDs K m H ds xs→SlotOk K m H τ σ→M.setIs is ds τ=some τ'→(∀ σ',SlotOk K m H τ' σ'→Q σ' H)→gIs is xs σ H Q
 |[],[],xs,τ,τ',σ,ix,S0,e,k=>by
  cases e
  exact⟨ix.nil,k σ S0⟩
 |i::is,d::ds,xs,τ,τ',σ,ix,S0,e,k=>by
  obtain⟨x,r,rfl,q,t⟩:=ix.cons
  unfold M.setIs at e
  split at e
  ·exact⟨x,r,rfl,qmh t (S0.put q) e k⟩
  ·cases e
 |[],_::_,_,_,_,_,_,_,e,_=>by cases e
 |_::_,[],_,_,_,_,_,_,e,_=>by cases e
theorem qao:∀ {is:List Nat}{ds:List D}{τ τ':Sl},M.setIs is ds τ=some τ'→is.length=ds.length
 |[],[],_,_,_=>rfl
 |i::is,d::ds,τ,τ',e=>by
  unfold M.setIs at e
  split at e
  ·rw[Qqd,Qqd,qao e]
  ·cases e
 |[],_::_,_,_,e=>by cases e
 |_::_,[],_,_,e=>by cases e
theorem qou{K:Qqq}{m:List Addr}{H:Hp}{Q:L2.St→Hp→Prop}{t:T}{d:D}{v:V}{τ τ':Sl}{σ:L2.St}(iv:IsD K m H d v)(S0:SlotOk K m H τ σ)(e:M.setT t d τ=some τ')(k:∀ σ',SlotOk K m H τ' σ'→Q σ' H):gT K t v σ H Q:=by
 cases t with
 |var i=>
  have e:(if i<τ.length then some (τ.set i (some d)) else none)=some τ':=e
  split at e
  ·cases e
   exact k _ (S0.put iv)
  ·cases e
 |tup is=>
  cases d with
  |tup ds=>
   obtain⟨a,xs,rfl,hq,ix⟩:=iv.tup
   have e:M.setIs is ds τ=some τ':=e
   exact⟨a,xs,rfl,hq,by rw[← ix.length,qao e],qmh ix S0 e k⟩
  |_=>cases e
theorem qal(G:Good fns dl c X){i:Nat}{x:Str}(h:c.N[i]?=some x):X.N[i]?=some x:=by rw[G.N]; exact h
theorem qid:bootBuiltins ("any" : Str)=some (.builtin "any"):=by decide +kernel
theorem qie:bootBuiltins ("all" : Str)=some (.builtin "all"):=by decide +kernel
theorem qb2:bootBuiltins ("int" : Str)=some (.type "int"):=by decide +kernel
theorem qfi:bootBuiltins ("bool" : Str)=some (.type "bool"):=by decide +kernel
theorem qia:bootBuiltins ("str" : Str)=some (.type "str"):=by decide +kernel
theorem qb1:bootBuiltins ("isinstance" : Str)=some (.builtin "isinstance"):=by decide +kernel
theorem qbu:bootBuiltins ("sorted" : Str)=some (.builtin "sorted"):=by decide +kernel
theorem qib:bootBuiltins ("set" : Str)=some (.type "set"):=by decide +kernel
theorem qb0:bootBuiltins ("len" : Str)=some (.builtin "len"):=by decide +kernel
theorem qic:bootBuiltins ("min" : Str)=some (.builtin "min"):=by decide +kernel
theorem qye:bootBuiltins ("list" : Str)=some (.type "list"):=by decide +kernel
theorem qfh:bootBuiltins ("dict" : Str)=some (.type "dict"):=by decide +kernel
theorem qv8:bootBuiltins ("tuple" : Str)=some (.type "tuple"):=by decide +kernel
theorem ty_ok(G:Good fns dl c X){t:M.Ty}{pos:Pos}(ht:t≠.non)(hg:c.sc.names.lookup (Str.ofString t.name)=some .globalImplicit):PE X (.Name (Str.ofString t.name) pos) (tC (.ty t.name)):=by
 cases t with
 |non=>exact absurd rfl ht
 |bl=>exact qvw (G.gl hg) G.mo.bool qfi rfl (by decide) (by decide)
 |int=>exact qvw (G.gl hg) G.mo.int qb2 rfl (by decide) (by decide)
 |str=>exact qvw (G.gl hg) G.mo.str qia rfl (by decide) (by decide)
 |tup=>exact qvw (G.gl hg) G.mo.tuple qv8 rfl (by decide) (by decide)
 |lst=>exact qvw (G.gl hg) G.mo.list qye rfl (by decide) (by decide)
noncomputable def tCs:List V→TA
 |[]=>tNil
 |v::vs=>qnj (tC v) (tCs vs)
theorem qft:∀ (vs:List V) (σ:L2.St) (H:Hp) (Q:List V→Hp→Prop),Q vs H→tCs vs σ H Q
 |[],_,_,_,h=>h
 |v::vs,σ,H,Q,h=>qft vs σ H (fun xs H2=>Q (v::xs) H2) h
theorem ql4(G:Good fns dl c X):∀ {ts:List M.Ty}{ps:List Expr},CkTys c ts ps→PA X ps (tCs (ts.map fun t=>V.ty t.name))∧∀ t∈ts,t≠.non
 |_,_,.nil=>⟨pa_nil,fun _ h=>nomatch h⟩
 |_,_,.cons ht hg h=>by
  obtain⟨h1,h2⟩:=ql4 G h
  refine⟨qq2 (ty_ok G ht hg) h1 rfl,fun t hm=>?_⟩
  rcases Qqh.mp hm with z|z
  ·rw[z]; exact ht
  ·exact h2 t z
end
end MS
end
section
namespace MS
open PySem PySem.Spec PyProof.Rows L2
open M (D Cell Store Sl E S T Src Fn Out R)
section
variable {fns:List Fn}{dl n:Nat}{c:Ctx}{X:Cx}
theorem qm0:UnR X (unaryOp .USub) (rU1 X.K fun st d=>match d with|.int i=>some (.int (-i),st)|_=>none):=by
 intro pins s σ H x v Q I rx h
 refine h.el fun m st a d st' R0 i1 e q=>?_
 cases a with
 |int i=>
  cases e
  exact un_neg pins s σ H x v Q I rx ⟨i,i1.int,q.here R0 (mkInt _)⟩
 |_=>cases e
theorem qfv(G:Good fns dl c X){N:List Str}{sr:List (Option Nat)}{scope:Scope}(hk:scope.kind=.function)(hcell:∀ y∈scope.names,y.2≠.cell)(hfree:∀ y∈scope.names,y.2=.free→c.sc.names.lookup y.1=some .cell∨c.sc.names.lookup y.1=some .free)
  (hloc:∀ y∈scope.names,y.2=.local→scope.names.lookup y.1=some .local) (hlen:sr.length=N.length) (hsrc:∀ (j i:Nat),sr[j]?=some (some i)→∃ x,N[j]?=some x∧c.N[i]?=some x∧scope.names.lookup x=some .free):CompScope X N sr scope:=
 ⟨hk,hcell,fun y hy hf=>by
  have:=hfree y hy hf
  show X.env.scope.names.lookup y.1=_∨X.env.scope.names.lookup y.1=_
  rw[G.sc]; exact this,hloc,hlen,fun j i h=>by
  obtain⟨x,a,b,d⟩:=hsrc j i h
  exact⟨x,a,qal G b,d⟩⟩
theorem qlf{K:Qqq}{m:List Addr}{H:Hp}{τ:Sl}{σ:L2.St}(sr:List (Option Nat))(h:SlotOk K m H τ σ):SlotOk K m H (M.inner sr τ) (qxc sr σ):=by
 refine⟨by unfold M.inner qxc; rw[Qqk,Qqk],fun j d e=>?_⟩
 unfold M.inner at e
 rw[Qqn]at e
 unfold qxc
 rw[Qqn]
 cases q:sr[j]? with
 |none=>rw[q]at e; cases e
 |some o=>
  rw[q]at e
  cases o with
  |none=>cases e
  |some i=>
   have hi:τ[i]?=some (some d):=by
    cases z:τ[i]? with
    |none=>simp[z]at e
    |some w=>
     cases w with
     |none=>simp[z]at e
     |some w=>simpa[z] using e
   obtain⟨v,a,b⟩:=h.at_ i d hi
   refine⟨v,?_,b⟩
   simp[a]
theorem qnx{K:Qqq}{r:R}{t:T}{it elt:E}{q:Option E}{sr:List (Option Nat)}{tt:TT}{σ:L2.St}{H:Hp}{Q:VK}
  (htt:∀ σ H (Q:Bool→Hp→Prop),(match q with
   |none=>Q true H
   |some c=>tTs K (fun τ st=>r.tst τ st c) σ H Q)→tt σ H Q)
  (h:tD K (fun τ st=>M.stepEv r τ st (.comp t it q elt sr)) σ H Q) :
  tComp sr (tI K fun τ st=>M.src r τ st it) (gT K t) tt (tD K fun τ st=>r.ev τ st elt) σ H Q:=by
 refine h.el fun m st τ d st' R0 S0 e post=>?_
 have e:((M.src r τ st it).bind fun p=>(M.loopC p.1 (M.turnC r t q elt) (p.1.size p.2+1) 0 [] (M.inner sr τ) p.2).map fun q=>M.alloc q.2 (.lst true q.1))=some (d,st'):=e
 obtain⟨p,e1,e⟩:=qzd e
 obtain⟨res,e2,e3⟩:=mapD e
 refine⟨m,st,τ,p.1,p.2,R0,S0,e1,fun m1 H1 J b1 t1 R1 hJ=>?_⟩
 refine⟨fun i' k acc σ' H'=>∃ m2 st2 τ2 accD,Sub m1 m2∧Tr H1 H'∧Rel K m2 st2 H'∧SlotOk K m2 H' τ2 σ'∧IsDs K m2 H' accD acc∧M.loopC p.1 (M.turnC r t q elt) k i' accD τ2 st2=some res,
  ⟨_,m1,p.2,M.inner sr τ,[],Sub.refl _,Tr.refl _,R1,qlf sr (S0.mono b1 t1),qzm,e2⟩,?_⟩
 rintro j k acc σ' H' ⟨m2,st2,τ2,accD,b2,t2,R2,S2,ia,e4⟩
 cases k with
 |zero=>cases e4
 |succ k=>
  have e4:(p.1.at st2 j).bind (fun o=>match o with
   |none=>if M.lim<accD.length then none else some (accD,st2)
   |some d=>if M.lim≤accD.length then none else(M.turnC r t q elt τ2 st2 d).bind fun z=>M.loopC p.1 (M.turnC r t q elt) k (j+1) (match z.1 with|some x=>accD++[x]|none=>accD) z.2.1 z.2.2)=some res:=e4
  obtain⟨o,e5,e4⟩:=qzd e4
  have l1:=ia.length
  have l2:=qz5
  cases o with
  |none=>
   dsimp only at e4
   split at e4
   ·cases e4
   ·rename_i hl
    cases e4
    refine .inl ⟨(hJ.mono b2 t2).done R2 e5,by omega,fun pp hp=>?_⟩
    cases e3
    exact post _ (m2++[pp]) _ (b1.trans (b2.trans (Sub.app _ _))) (t1.trans (t2.trans (Tr.of_same (qzy hp)))) (R2.new hp ia) R2.newLoc
  |some d'=>
   dsimp only at e4
   split at e4
   ·cases e4
   ·rename_i hl
    obtain⟨hgo,hy⟩:=(hJ.mono b2 t2).next R2 e5
    refine .inr ⟨hgo,by omega,fun x H2 hyl=>?_⟩
    obtain⟨sm,ix⟩:=hy x H2 hyl
    have t2:=t2.trans (Tr.of_same sm)
    have R2:=R2.same sm
    have S2:=S2.mono (Sub.refl _) (Tr.of_same sm)
    have ia:=qzf (Sub.refl _) (Tr.of_same sm) _ _ ia
    obtain⟨z,e6,e4⟩:=qzd e4
    unfold M.turnC at e6
    obtain⟨τ3,e7,e6⟩:=qzd e6
    refine qou ix S2 e7 fun σ3 S3=>?_
    ·refine htt _ _ _ ?_
     cases q with
     |none=>
      dsimp only at e6 ⊢
      obtain⟨y,e8,e9⟩:=mapD e6
      cases e9
      rw[if_pos rfl]
      refine⟨m2,st2,_,y.1,y.2,R2,S3,e8,fun v m3 H3 b3 t3 R3 i3=>⟨k,Qza k,m3,y.2,_,accD++[y.1],b2.trans b3,t2.trans t3,R3,S3.mono b3 t3,(qzf b3 t3 _ _ ia).append (qzx i3 qzm),e4⟩⟩
     |some cq=>
      dsimp only at e6 ⊢
      obtain⟨bb,e8,e6⟩:=qzd e6
      refine⟨m2,st2,_,bb.1,bb.2,R2,S3,e8,fun m3 H3 b3 t3 R3=>?_⟩
      cases hb:bb.1 with
      |true=>
       rw[hb,if_pos rfl]at e6
       rw[if_pos rfl]
       obtain⟨y,e9,e10⟩:=mapD e6
       cases e10
       refine⟨m3,bb.2,_,y.1,y.2,R3,S3.mono b3 t3,e9,fun v m4 H4 b4 t4 R4 i4=>⟨k,Qza k,m4,y.2,_,accD++[y.1],b2.trans (b3.trans b4),t2.trans (t3.trans t4),R4,S3.mono (b3.trans b4) (t3.trans t4),(qzf (b3.trans b4) (t3.trans t4) _ _ ia).append (qzx i4 qzm),e4⟩⟩
      |false=>
       rw[hb,if_neg Qqi]at e6
       cases e6
       rw[if_neg Qqi]
       exact⟨k,Qza k,m3,bb.2,_,accD,b2.trans b3,t2.trans t3,R3,S3.mono b3 t3,qzf b3 t3 _ _ ia,e4⟩
theorem qw6(G:Good fns dl c X):∀ {is:List Nat}{es:List Expr},CkTs c is es→(∀ i∈is,∀ x,c.N[i]?=some x→X.fn x=true∨c.sc.names.lookup x=some .local)→PGs X es (gIs is)∧(assignEach es X.env).length=is.length∧(assignEach es X.env).findIdx? (·.1)=none
 |_,_,.nil,_=>⟨qns,rfl,rfl⟩
 |_,_,.cons (i:=i) (x:=x) (pos:=pos) (is:=is) (es:=es) hN hl h,hf=>by
  obtain⟨h1,h2,h3⟩:=qw6 G h fun j hj=>hf j (Qqr _ hj)
  have hg:PG X (.Name x pos) (qe9 i):=qgd (by rw[G.N]; exact G.nd) (qal G hN) (by show X.env.scope.names.lookup x=_∨_=_; rw[G.sc]; exact hl) (by rw[G.sc]; exact hf i Qq4 x hN)
  refine⟨qi6 hg h1 rfl,?_,?_⟩
  ·show(assignEach es X.env).length+1=is.length+1
   rw[h2]
  ·show List.findIdx? (·.1) ((false,assign (.Name x pos) X.env)::assignEach es X.env)=none
   rw[List.findIdx?_cons,h3]
   rfl
theorem qk7(G:Good fns dl c X){t:T}{tg:Expr}(h:CkT c t tg)(hf:∀ i∈t.slots,∀ x,c.N[i]?=some x→X.fn x=true∨c.sc.names.lookup x=some .local):PG X tg (gT X.K t):=by
 cases h with
 |@var i x pos hN hl=>exact qgd (by rw[G.N]; exact G.nd) (qal G hN) (by show X.env.scope.names.lookup x=_∨_=_; rw[G.sc]; exact hl) (by rw[G.sc]; exact hf i (by simp[T.slots]) x hN)
 |@tup is es k pos h=>
  obtain⟨h1,h2,h3⟩:=qw6 G h hf
  exact pg_tup G.calm h1 h2 h3
noncomputable def qm5(r:R)(K:Qqq):List E→List (TE×TE)
 |k::v::es=>(tD K fun τ st=>r.ev τ st k,tD K fun τ st=>r.ev τ st v)::qm5 r K es
 |_=>[]
noncomputable def twos:List V→List (V×V)
 |x::y::r=>(x,y)::twos r
 |_=>[]
theorem qa6(A:AllOk fns dl n)(G:Good fns dl c X){pos:Pos}:∀ {es:List E}{ks:List (Option Expr)}{vs:List Expr},CkP (CkE c) es ks vs→PPs X pos ks vs (qm5 (M.rn fns dl n) X.K es)∧ks.all (·.isSome)=true∧ks.length=vs.length
 |_,_,_,.nil=>⟨qnm,rfl,rfl⟩
 |_,_,_,.cons hk hv t=>by
  obtain⟨h1,h2,h3⟩:=qa6 A G (pos:=pos) t
  refine⟨qi3 (A.e c X G _ _ hk) (A.e c X G _ _ hv) h1,?_,?_⟩
  ·rw[Qxb,h2]; rfl
  ·rw[Qqd,Qqd,h3]
theorem qa5{r:R}{K:Qqq}:∀ {es:List E}{ks:List (Option Expr)}{vs:List Expr}{c:Ctx}{m:List Addr}{st st':Store}{H:Hp}{τ:Sl}{σ:L2.St}{ds:List D}{Q:List (V×V)→Hp→Prop},CkP (CkE c) es ks vs→Rel K m st H→SlotOk K m H τ σ→M.evs (r.ev τ) es st=some (ds,st')→
  (∀ xs m' H',Sub m m'→Tr H H'→Rel K m' st' H'→IsDs K m' H' ds xs→Q (twos xs) H')→qc6 (qm5 r K es) σ H Q
 |_,_,_,c,m,st,st',H,τ,σ,ds,Q,.nil,R0,S0,e,q=>by
  cases e
  exact q [] m H (Sub.refl m) (Tr.refl H) R0 qzm
 |_,_,_,c,m,st,st',H,τ,σ,ds,Q,.cons (k:=k) (v:=v) (es:=es) hk hv t,R0,S0,e,q=>by
  have e:((r.ev τ st k).bind fun p=>((r.ev τ p.2 v).bind fun p'=>(M.evs (r.ev τ) es p'.2).bind fun q=>some (p'.1::q.1,q.2)).bind fun q=>some (p.1::q.1,q.2))=some (ds,st'):=e
  obtain⟨d1,s1,e1,e⟩:=qze e
  obtain⟨w,e2,e⟩:=qzd e
  obtain⟨d2,s2,e3,e2⟩:=qze e2
  obtain⟨u,e4,e2⟩:=qzd e2
  cases e2
  cases e
  refine⟨m,st,τ,d1,s1,R0,S0,e1,fun x m1 H1 b1 t1 R1 i1=>⟨m1,s1,τ,d2,s2,R1,S0.mono b1 t1,e3,fun y m2 H2 b2 t2 R2 i2=>?_⟩⟩
  refine qa5 t R2 (S0.mono (b1.trans b2) (t1.trans t2)) e4 fun xs m3 H3 b3 t3 R3 ix=>?_
  exact q (x::y::xs) m3 H3 (b1.trans (b2.trans b3)) (t1.trans (t2.trans t3)) R3 (qzx (qza (b2.trans b3) (t2.trans t3) _ _ i1) (qzx (qza b3 t3 _ _ i2) ix))
theorem qdf{K:Qqq}{m:List Addr}{H:Hp}:∀ {ds:List D}{xs:List V}{kvs:List (D×D)},IsDs K m H ds xs→M.pairUp ds=some kvs→∃ ys:List (Key×V),IsKV K m H kvs ys∧twos xs=ys.map fun kv=>(kV kv.1,kv.2)
 |[],xs,kvs,ix,e=>by
  cases e
  rw[ix.nil]
  exact⟨[],rfl,rfl⟩
 |[d],xs,kvs,ix,e=>by cases e
 |d::d'::ds,xs,kvs,ix,e=>by
  have e:(if M.isKey d then(M.pairUp ds).map ((d,d')::·) else none)=some kvs:=e
  split at e
  ·rename_i hk
   obtain⟨kr,e1,e2⟩:=mapD e
   subst e2
   obtain⟨x,xr,rfl,i1,i2⟩:=ix.cons
   obtain⟨y,yr,rfl,i3,i4⟩:=i2.cons
   obtain⟨k,hk1⟩:=qx8 hk
   have hx:=qom hk1 i1
   subst hx
   obtain⟨ys,h1,h2⟩:=qdf i4 e1
   refine⟨(k,y)::ys,⟨k,y,ys,rfl,hk1,i3,h1⟩,?_⟩
   show(kV k,y)::twos yr=_
   rw[h2]
   rfl
  ·cases e
theorem e_ok(A:AllOk fns dl n)(G':Good fns dl c X){e:E}{p:Expr}(h:CkE c e p):PE X p (tD X.K fun τ st=>M.stepEv (M.rn fns dl n) τ st e):=by
 have G:=G'
 have hu:X.A.units+64<cLine:=G'.room.units
 cases h.out with
 |@var i x pos hN hv hd hcd=>
  refine(qmk (qal G hN) (by rw[G.sc]; exact hv) hd hcd).imp fun σ H Q h=>?_
  refine h.el fun m st τ d st' R0 S0 e q=>?_
  simp only[M.stepEv]at e
  split at e
  ·rename_i d' hd'
   cases e
   obtain⟨v,a,b⟩:=S0.at_ i d hd'
   exact⟨v,a,q.here R0 b⟩
  ·cases e
 |int=>exact pe_int.imp fun σ H Q ⟨m,st,τ,d,st',R0,S0,e,q⟩=>by cases e; exact q.here R0 (mkInt _)
 |bl=>exact pe_bl.imp fun σ H Q ⟨m,st,τ,d,st',R0,S0,e,q⟩=>by cases e; exact q.here R0 (mkBl _)
 |non=>exact pe_non.imp fun σ H Q ⟨m,st,τ,d,st',R0,S0,e,q⟩=>by cases e; exact q.here R0 qce
 |str=>exact pe_str.imp fun σ H Q ⟨m,st,τ,d,st',R0,S0,e,q⟩=>by cases e; exact q.here R0 (mkStr _)
 |@glo x d pos hg hm hd=>
  obtain⟨u,v,h1,h2,h3⟩:=G.mo.glo x d hm
  exact(qcc (G.gl hg) h1 h2 hd).imp fun σ H Q ⟨m,st,τ,d,st',R0,S0,e,q⟩=>by cases e; exact q.here R0 (h3 m H)
 |@bin op a b pa pb pos ha hb=>
  exact(pe_op (qoq op) (A.e c X G a pa ha) (A.e c X G b pb hb)).imp fun σ H Q h=>qfr (fa:=fun τ st=>(M.rn fns dl n).ev τ st a) (fb:=fun τ st=>(M.rn fns dl n).ev τ st b) (g:=fun st x y=>M.binop st op x y) h
 |@lenset a pa p0 p1 pos1 pos hg hs ha=>
  refine(qqv qiz (G.gl hg) G.mo.len qb0 (qq2 (qq1 (qh7 G.room.hd G.room.units) (G.gl hs) G.mo.set qib (qq2 (A.e c X G a pa ha) pa_nil (ha.star _ _)) (by decide) (by decide) (ha.star _ _) rfl) pa_nil rfl) (by decide) (by decide) rfl rfl).imp fun σ H Q h=>?_
  refine h.el fun m st τ d st' R0 S0 e post=>?_
  obtain⟨d1,s1,e1,e⟩:=qze e
  obtain⟨d2,e2,e3⟩:=mapD e
  cases e3
  refine⟨m,st,τ,d1,s1,R0,S0,e1,fun x m1 H1 b1 t1 R1 ix=>?_⟩
  cases d1 with
  |tup ds=>
   obtain⟨ks,k1,k2⟩:=Option.bind_eq_some_iff.mp (show(ds.mapM M.keyD).bind _=some _ from e2)
   split at k2
   ·rename_i h16
    cases k2
    obtain⟨pt,ys,rfl,hq,iy⟩:=ix.tup
    refine⟨pt,ys,ks,rfl,hq,qg7 iy k1,by rw[← iy.length]; exact h16,fun l hl=>?_⟩
    refine⟨l,_,rfl,qzc,?_⟩
    have sm:=qzy (o:=setO l (ST.distinct ks).length) hl
    exact post _ m1 _ b1 (t1.trans (Tr.of_same sm)) (R1.same sm) (mkInt _)
   ·cases k2
  |_=>cases e2
 |@neg a pa pos ha=>
  exact(pe_un qm0 (A.e c X G a pa ha)).imp fun σ H Q h=>tD_un (fa:=fun τ st=>(M.rn fns dl n).ev τ st a) h
 |@not a pa pos ha=>
  refine(pe_not (A.e c X G a pa ha)).imp fun σ H Q h=>?_
  refine h.el fun m st τ d st' R0 S0 e q=>?_
  obtain⟨d1,s1,e1,e⟩:=qze e
  refine⟨m,st,τ,d1,s1,R0,S0,e1,fun v m1 H1 b1 t1 R1 i1=>?_⟩
  cases d1 with
  |bl k=>
   cases e
   exact⟨k,i1.bl,q _ m1 H1 b1 t1 R1 (mkBl _)⟩
  |_=>cases e
 |@cmp op a b pa pb pos ha hb hm=>
  exact(qn4 (qj1 hu op) (A.e c X G a pa ha) (A.e c X G b pb hb) hm).imp fun σ H Q h=>qfr (fa:=fun τ st=>(M.rn fns dl n).ev τ st a) (fb:=fun τ st=>(M.rn fns dl n).ev τ st b) (g:=fun st x y=>(M.cmpD st op x y).map fun k=>(.bl k,st)) h
 |@cmp2 op op' a b d pa pb pd pos ha hb hd hm=>
  refine(qlx (qj1 hu op) (qj1 hu op') (A.e c X G a pa ha) (A.e c X G b pb hb) (A.e c X G d pd hd) hm).imp fun σ H Q h=>?_
  refine h.el fun m st τ dd st' R0 S0 e q=>?_
  obtain⟨d1,s1,e1,e⟩:=qze e
  obtain⟨d2,s2,e2,e⟩:=qze e
  obtain⟨k,e3,e⟩:=qzd e
  refine⟨m,st,τ,d1,s1,R0,S0,e1,fun x m1 H1 b1 t1 R1 i1=>⟨m1,s1,τ,d2,s2,R1,S0.mono b1 t1,e2,fun y m2 H2 b2 t2 R2 i2=>
   ⟨m2,s2,d1,d2,.bl k,s2,R2,qza b2 t2 _ _ i1,i2,by show Option.map _ (M.cmpD s2 op d1 d2)=_; rw[e3]; rfl,fun z m3 H3 b3 t3 R3 i3=>⟨k,i3.bl,?_⟩⟩⟩⟩
  cases k with
  |true=>
   rw[if_pos rfl]at e ⊢
   obtain⟨d3,s3,e4,e⟩:=qze e
   exact⟨m3,s2,τ,d3,s3,R3,S0.mono (b1.trans (b2.trans b3)) (t1.trans (t2.trans t3)),e4,fun y' m4 H4 b4 t4 R4 i4=>
    ⟨m4,s3,d2,d3,dd,st',R4,qza (b3.trans b4) (t3.trans t4) _ _ i2,i4,e,q.mono (b1.trans (b2.trans (b3.trans b4))) (t1.trans (t2.trans (t3.trans t4)))⟩⟩
  |false=>
   rw[if_neg Qqi]at e ⊢
   cases e
   exact q _ m3 H3 (b1.trans (b2.trans b3)) (t1.trans (t2.trans t3)) R3 (mkBl _)
 |@and2 a b pa pb pos ha hb=>
  refine(qma (A.e c X G a pa ha) (qmw (A.e c X G b pb hb))).imp fun σ H Q h=>?_
  refine h.el fun m st τ d st' R0 S0 e q=>?_
  obtain⟨d1,s1,e1,e⟩:=qze e
  refine⟨m,st,τ,d1,s1,R0,S0,e1,fun v m1 H1 b1 t1 R1 i1=>?_⟩
  cases d1 with
  |bl k=>
   cases k with
   |true=>exact⟨true,i1.bl,by rw[if_pos rfl]; exact⟨m1,s1,τ,d,st',R1,S0.mono b1 t1,e,q.mono b1 t1⟩⟩
   |false=>cases e; exact⟨false,i1.bl,by rw[if_neg Qqi]; exact q _ m1 H1 b1 t1 R1 (mkBl _)⟩
  |_=>cases e
 |@andN a b pa pb pd r pos ha hb=>
  refine(qma (A.e c X G a pa ha) (A.e c X G b _ hb)).imp fun σ H Q h=>?_
  refine h.el fun m st τ d st' R0 S0 e q=>?_
  obtain⟨d1,s1,e1,e⟩:=qze e
  refine⟨m,st,τ,d1,s1,R0,S0,e1,fun v m1 H1 b1 t1 R1 i1=>?_⟩
  cases d1 with
  |bl k=>
   cases k with
   |true=>exact⟨true,i1.bl,by rw[if_pos rfl]; exact⟨m1,s1,τ,d,st',R1,S0.mono b1 t1,e,q.mono b1 t1⟩⟩
   |false=>cases e; exact⟨false,i1.bl,by rw[if_neg Qqi]; exact q _ m1 H1 b1 t1 R1 (mkBl _)⟩
  |_=>cases e
 |@or2 a b pa pb pos ha hb=>
  refine(pe_or (A.e c X G a pa ha) (qmw (A.e c X G b pb hb))).imp fun σ H Q h=>?_
  refine h.el fun m st τ d st' R0 S0 e q=>?_
  obtain⟨d1,s1,e1,e⟩:=qze e
  refine⟨m,st,τ,d1,s1,R0,S0,e1,fun v m1 H1 b1 t1 R1 i1=>?_⟩
  cases d1 with
  |bl k=>
   cases k with
   |false=>exact⟨false,i1.bl,by rw[if_neg Qqi]; exact⟨m1,s1,τ,d,st',R1,S0.mono b1 t1,e,q.mono b1 t1⟩⟩
   |true=>cases e; exact⟨true,i1.bl,by rw[if_pos rfl]; exact q _ m1 H1 b1 t1 R1 (mkBl _)⟩
  |_=>cases e
 |@ite q a b pq pa pb pos hq ha hb=>
  refine(qi9 (A.t c X G q pq hq) (A.e c X G a pa ha) (A.e c X G b pb hb)).imp fun σ H Q h=>?_
  refine h.el fun m st τ d st' R0 S0 e post=>?_
  obtain⟨bb,e1,e⟩:=qzd e
  refine⟨m,st,τ,bb.1,bb.2,R0,S0,e1,fun m1 H1 b1 t1 R1=>?_⟩
  cases hb:bb.1 with
  |true=>
   rw[hb,if_pos rfl]at e
   rw[if_pos rfl]
   exact⟨m1,bb.2,τ,d,st',R1,S0.mono b1 t1,e,post.mono b1 t1⟩
  |false=>
   rw[hb,if_neg Qqi]at e
   rw[if_neg Qqi]
   exact⟨m1,bb.2,τ,d,st',R1,S0.mono b1 t1,e,post.mono b1 t1⟩
 |@tup es ps k pos hs=>
  refine(qmv (qz7 A G hs)).imp fun σ H Q h=>?_
  refine h.el fun m st τ d st' R0 S0 e post=>?_
  obtain⟨p,e1,e⟩:=qzd e
  split at e
  ·cases e
  ·rename_i hl
   cases e
   refine⟨m,st,τ,p.1,p.2,R0,S0,e1,fun xs m1 H1 b1 t1 R1 ix=>?_⟩
   have l1:=ix.length
   have l2:=qz5
   refine⟨by omega,fun pp hp=>?_⟩
   have sm:=qzy (o:=.tup xs) hp
   exact post _ m1 _ b1 (t1.trans (Tr.of_same sm)) (R1.same sm) (qzt (SqT.of qzc) (qzf (Sub.refl _) (Tr.of_same sm) _ _ ix))
 |@lst es ps pos hs=>
  refine(pe_lst (qz7 A G hs)).imp fun σ H Q h=>?_
  refine h.el fun m st τ d st' R0 S0 e post=>?_
  obtain⟨p,e1,e⟩:=qzd e
  split at e
  ·cases e
  ·rename_i hl
   cases e
   refine⟨m,st,τ,p.1,p.2,R0,S0,e1,fun xs m1 H1 b1 t1 R1 ix=>?_⟩
   have l1:=ix.length
   have l2:=qz5
   refine⟨by omega,fun pp hp=>?_⟩
   exact post _ (m1++[pp]) _ (b1.trans (Sub.app _ _)) (t1.trans (Tr.of_same (qzy hp))) (R1.new hp ix) R1.newLoc
 |@idx a b pa pb pos ha hb hs=>
  exact(pe_ix ix_D (A.e c X G a pa ha) (A.e c X G b pb hb) hs).imp fun σ H Q h=>qfr (fa:=fun τ st=>(M.rn fns dl n).ev τ st a) (fb:=fun τ st=>(M.rn fns dl n).ev τ st b) (g:=fun st x y=>(M.idxD st x y).map fun d=>(d,st)) h
 |@call f x es p ps p0 pos hg hf hd hn hs=>
  obtain⟨fa,fd,pars,hm,F,hk,hb⟩:=G'.tab f x hf
  have hp:Star p:=by cases hs with|cons h _=>exact h.star
  have ht:(backTo pos (starEach ps X.env)).any (·.1)=false:=by cases hs with|cons _ t=>exact qvy t pos X.env
  refine(qn5 F (G.room.mono (by omega)) (G.gl hg) (hm.1 hn) hk hb .nil qlj (qz7 A G hs) hd (hp _ _) ht).imp fun σ H Q h=>?_
  refine h.el fun m st τ d st' R0 S0 e post=>?_
  obtain⟨q,e1,e⟩:=qzd e
  refine⟨m,st,τ,q.1,q.2,R0,S0,e1,fun xs m1 H1 b1 t1 R1 ix=>?_⟩
  show spN X.K fns dl f (xs++[]) H1 Q E0
  have e:(M.rn fns dl n).call f q.1 q.2=some (d,st'):=e
  rw[M.runK_call]at e
  rw[Qzf]
  exact⟨m1,q.2,q.1,d,st',R1,ix,e,post.mono b1 t1⟩
 |@bcall b es p ps p0 pos hg hbo hs=>
  have hp:Star p:=by cases hs with|cons h _=>exact h.star
  have ht:(backTo pos (starEach ps X.env)).any (·.1)=false:=by cases hs with|cons _ t=>exact qvy t pos X.env
  have hA:=qz7 A G hs
  cases b with
  |len=>exact(qqv qiq (G.gl hg) G.mo.len qb0 hA (by decide) (by decide) (hp _ _) ht).imp fun σ H Q h=>qqo (fa:=fun τ st=>M.evs ((M.rn fns dl n).ev τ) es st) (g:=M.bLen) h
  |min=>exact(qqv (qh8 G.calm) (G.gl hg) G.mo.min qic hA (by decide) (by decide) (hp _ _) ht).imp fun σ H Q h=>qqo (fa:=fun τ st=>M.evs ((M.rn fns dl n).ev τ) es st) (g:=M.bMin) h
  |max=>cases hbo
  |tuple=>exact(qq1 qc0 (G.gl hg) G.mo.tuple qv8 hA (by decide) (by decide) (hp _ _) ht).imp fun σ H Q h=>qqo (fa:=fun τ st=>M.evs ((M.rn fns dl n).ev τ) es st) (g:=M.bTuple) h
  |list=>exact(qq1 (qff G.room.hd) (G.gl hg) G.mo.list qye hA (by decide) (by decide) (hp _ _) ht).imp fun σ H Q h=>qqo (fa:=fun τ st=>M.evs ((M.rn fns dl n).ev τ) es st) (g:=M.bList) h
  |any=>exact(qqv (qiv G.calm) (G.gl hg) G.mo.any qid hA (by decide) (by decide) (hp _ _) ht).imp fun σ H Q h=>qqo (fa:=fun τ st=>M.evs ((M.rn fns dl n).ev τ) es st) (g:=M.bAny) h
  |all=>exact(qqv (qiw G.calm) (G.gl hg) G.mo.all qie hA (by decide) (by decide) (hp _ _) ht).imp fun σ H Q h=>qqo (fa:=fun τ st=>M.evs ((M.rn fns dl n).ev τ) es st) (g:=M.bAll) h
  |int=>exact(qq1 qik (G.gl hg) G.mo.int qb2 hA (by decide) (by decide) (hp _ _) ht).imp fun σ H Q h=>qqo (fa:=fun τ st=>M.evs ((M.rn fns dl n).ev τ) es st) (g:=M.bInt) h
  |str=>cases hbo
  |dict=>exact(qq1 qfg (G.gl hg) G.mo.dict qfh hA (by decide) (by decide) (hp _ _) ht).imp fun σ H Q h=>qqo (fa:=fun τ st=>M.evs ((M.rn fns dl n).ev τ) es st) (g:=M.bDict) h
  |sorted=>exact(qqv (qbr G.room.hd) (G.gl hg) G.mo.sorted qbu hA (by decide) (by decide) (hp _ _) ht).imp fun σ H Q h=>qqo (fa:=fun τ st=>M.evs ((M.rn fns dl n).ev τ) es st) (g:=M.bSorted) h
 |@isi1 t a pa p0 p1 pos hg ht hgt ha=>
  refine(qqv (qij t ht) (G.gl hg) G.mo.isinstance qb1 (qq2 (A.e c X G a pa ha) (qq2 (ty_ok G ht hgt) pa_nil rfl) (ha.star _ _)) (by decide) (by decide) (ha.star _ _) rfl).imp fun σ H Q h=>?_
  refine h.el fun m st τ d st' R0 S0 e post=>?_
  obtain⟨d1,s1,e1,e⟩:=qze e
  obtain⟨nm,e2,e3⟩:=mapD e
  cases e3
  refine⟨m,st,τ,d1,s1,R0,S0,e1,fun x m1 H1 b1 t1 R1 ix=>?_⟩
  refine⟨m1,s1,d1,nm,x,rfl,R1,ix,e2,post _ m1 H1 b1 t1 R1 ?_⟩
  have:([t].any fun t=>M.tyIs t nm)=M.tyIs t nm:=by simp
  rw[this]
  exact mkBl _
 |@isiN ts a pa p0 ps k p1 pos hlen hg ht ha=>
  obtain⟨h1,h2⟩:=ql4 G ht
  refine(qqv (qix ts h2) (G.gl hg) G.mo.isinstance qb1 (qq2 (A.e c X G a pa ha) (qq2 (qmv h1) pa_nil rfl) (ha.star _ _)) (by decide) (by decide) (ha.star _ _) rfl).imp fun σ H Q h=>?_
  refine h.el fun m st τ d st' R0 S0 e post=>?_
  obtain⟨d1,s1,e1,e⟩:=qze e
  obtain⟨nm,e2,e3⟩:=mapD e
  cases e3
  refine⟨m,st,τ,d1,s1,R0,S0,e1,fun x m1 H1 b1 t1 R1 ix=>?_⟩
  refine qft _ σ H1 _ ⟨?_,fun pp hp=>?_⟩
  ·rw[Qqk]
   exact Qxf (qf6 hlen)
  ·have sm:=qzy (o:=.tup (ts.map fun t=>V.ty t.name)) hp
   exact⟨m1,s1,d1,nm,x,pp,rfl,qzc,R1.same sm,qza (Sub.refl _) (Tr.of_same sm) _ _ ix,e2,post _ m1 _ b1 (t1.trans (Tr.of_same sm)) (R1.same sm) (mkBl _)⟩
 |@append a e pa pe apos cpos ha he hb hl=>
  refine(pe_bm PySem.F.plainAttrs_list PySem.F.slot_list_append PySem.F.type_list_append qes (A.e c X G a _ ha) (qz7 A G (.cons he .nil)) (hb X.env) (by rw[he.star]; rfl) hl (he.star _ _) rfl).imp fun σ H Q h=>?_
  refine h.el fun m st τ d st' R0 S0 e0 post=>?_
  obtain⟨d1,s1,e1,e0⟩:=qze e0
  split at e0
  ·rename_i hm
   obtain⟨q,e2,e0⟩:=qzd e0
   refine⟨m,st,τ,d1,s1,R0,S0,e1,fun v m1 H1 b1 t1 R1 i1=>⟨?_,m1,s1,τ,q.1,q.2,R1,S0.mono b1 t1,e2,fun xs m2 H2 b2 t2 R2 i2=>⟨m2,q.2,d1,q.1,d,st',R2,qza b2 t2 _ _ i1,i2,e0,post.mono (b1.trans b2) (t1.trans t2)⟩⟩⟩
   cases d1 with
   |loc l=>
    have hm:(true&&(M.seqAt s1 (.loc l)).isSome)=true:=hm
    rw[Qxr]at hm
    obtain⟨ds,hds⟩:=Qzg.mp hm
    obtain⟨a',xs,_,rfl,hq,_⟩:=R1.seq hds i1
    exact .inl ⟨rfl,xs,hq⟩
   |lst l=>
    have hm:(true&&(M.seqAt s1 (.lst l)).isSome)=true:=hm
    rw[Qxr]at hm
    obtain⟨ds,hds⟩:=Qzg.mp hm
    obtain⟨a',xs,_,rfl,hq,_⟩:=R1.seq hds i1
    exact .inl ⟨rfl,xs,hq⟩
   |_=>cases hm
  ·cases e0
 |@extend a e pa pe apos cpos ha he hb hl=>
  refine(pe_bm PySem.F.plainAttrs_list PySem.F.slot_list_extend PySem.F.type_list_extend qer (A.e c X G a _ ha) (qz7 A G (.cons he .nil)) (hb X.env) (by rw[he.star]; rfl) hl (he.star _ _) rfl).imp fun σ H Q h=>?_
  refine h.el fun m st τ d st' R0 S0 e0 post=>?_
  obtain⟨d1,s1,e1,e0⟩:=qze e0
  split at e0
  ·rename_i hm
   obtain⟨q,e2,e0⟩:=qzd e0
   refine⟨m,st,τ,d1,s1,R0,S0,e1,fun v m1 H1 b1 t1 R1 i1=>⟨?_,m1,s1,τ,q.1,q.2,R1,S0.mono b1 t1,e2,fun xs m2 H2 b2 t2 R2 i2=>⟨m2,q.2,d1,q.1,d,st',R2,qza b2 t2 _ _ i1,i2,e0,post.mono (b1.trans b2) (t1.trans t2)⟩⟩⟩
   cases d1 with
   |loc l=>
    have hm:(true&&(M.seqAt s1 (.loc l)).isSome)=true:=hm
    rw[Qxr]at hm
    obtain⟨ds,hds⟩:=Qzg.mp hm
    obtain⟨a',xs,_,rfl,hq,_⟩:=R1.seq hds i1
    exact .inl ⟨rfl,xs,hq⟩
   |lst l=>
    have hm:(true&&(M.seqAt s1 (.lst l)).isSome)=true:=hm
    rw[Qxr]at hm
    obtain⟨ds,hds⟩:=Qzg.mp hm
    obtain⟨a',xs,_,rfl,hq,_⟩:=R1.seq hds i1
    exact .inl ⟨rfl,xs,hq⟩
   |_=>cases hm
  ·cases e0
 |@gc a p hp hg ha=>exact(pe_gc (A.e c X G a _ ha)).imp fun _ _ _ h=>h
 |@dic0 pos=>
  refine pe_dnewK.imp fun σ H Q h=>?_
  refine h.el fun m st τ d st' R0 S0 e post=>?_
  have e0:M.wdicAt (st++[Cell.dic true []]) st.length=some []:=by simp[M.wdicAt]
  have e:(match M.wdicAt (st++[Cell.dic true []]) st.length with
   |some []=>(M.pairUp []).bind fun kvs=>if kvs.length≤15 then some (D.loc st.length,(st++[Cell.dic true []]).set st.length (Cell.dic true (M.dall kvs))) else none
   |_=>none)=some (d,st'):=e
  rw[e0]at e
  have e2:(st++[Cell.dic true []]).set st.length (.dic true [])=st++[.dic true []]:=by simp
  have e:some (D.loc st.length,(st++[Cell.dic true []]).set st.length (.dic true []))=some (d,st'):=e
  rw[e2]at e
  cases e
  intro pp hp
  exact post _ (m++[pp]) _ (Sub.app _ _) (Tr.of_same (qzy hp)) (R0.newD (kvs:=[]) (xs:=[]) hp rfl) R0.newLoc
 |@dic es k v ks vs pos hP h15=>
  obtain⟨h1,h2,h3⟩:=qa6 A G (pos:=pos) hP
  refine(qn1 h1 h2 h3 (by simp) h15).imp fun σ H Q h=>?_
  refine h.el fun m st τ d st' R0 S0 e post=>?_
  have e:((M.evs ((M.rn fns dl n).ev τ) es (st++[.dic true []])).bind fun p=>match M.wdicAt p.2 st.length with
   |some []=>(M.pairUp p.1).bind fun kvs=>if kvs.length≤15 then some (D.loc st.length,p.2.set st.length (.dic true (M.dall kvs))) else none
   |_=>none)=some (d,st'):=e
  obtain⟨p,e1,e⟩:=qzd e
  split at e
  ·rename_i hdic
   obtain⟨kvs,e2,e⟩:=qzd e
   split at e
   ·rename_i hl
    cases e
    intro pp hp
    have sm:=qzy (o:=.dK []) hp
    refine qa5 hP (R0.newD (kvs:=[]) (xs:=[]) hp rfl) (S0.mono (Sub.app _ _) (Tr.of_same sm)) e1 fun xs m1 H1 b1 t1 R1 ix=>?_
    obtain⟨ys,hkv,htw⟩:=qdf ix e2
    have hloc:MS.IsD X.K m1 H1 (.loc st.length) (.ref pp):=qza b1 (Tr.refl H1) _ _ (R0.newLoc (p:=pp))
    obtain⟨a',xs',ha',ea,hH,hkv0,hst⟩:=R1.wdict hdic hloc
    cases ea
    have hx0:xs'=[]:=hkv0
    subst hx0
    have l1:=hkv.length
    refine⟨hH,ys,htw,by omega,?_⟩
    exact post _ m1 _ ((Sub.app _ _).trans b1) ((Tr.of_same sm).trans (t1.trans (Tr.putD hH))) (R1.putD hst ha' hH (hkv.merge (show IsKV X.K m1 H1 [] [] from rfl))) (qza (Sub.refl _) (Tr.putD hH) _ _ hloc)
   ·cases e
  ·cases e
 |@didx a b pa pb pos ha hb hs=>exact qlq (by omega) (A.e c X G a pa ha) (A.e c X G b pb hb) hs
 |@dnin a b pa pb pos ha hb hm=>exact qmy (qgg (by omega) true (A.e c X G a pa ha) (A.e c X G b pb hb)) hm
 |@gidx x ks ds b pb p0 pos hg hm hd hb hs=>
  obtain⟨ad,h1,h2⟩:=G.mo.gds x ks ds hm
  exact qlz (G.gl hg) h1 h2 hd (A.e c X G b pb hb) hs
 |@gnin x ks ds b pb p0 pos hg hm hd hb=>
  obtain⟨ad,h1,h2⟩:=G.mo.gds x ks ds hm
  exact qmy (qge true (G.gl hg) h1 h2 hd (A.e c X G b pb hb)) rfl
 |@sli a lo hi pa pl ph p2 pos ha hl hh=>
  refine(qi7 sl_D (A.e c X G a pa ha) (po_ok A G hl) (po_ok A G hh)).imp fun σ H Q h=>?_
  refine h.el fun m st τ d st' R0 S0 e post=>?_
  have e:(((M.rn fns dl n).ev τ st a).bind fun p=>(M.part (M.rn fns dl n) τ p.2 lo).bind fun l=>(M.part (M.rn fns dl n) τ l.2 hi).bind fun h=>M.sliD h.2 p.1 l.1 h.1)=some (d,st'):=e
  obtain⟨d1,s1,e1,e⟩:=qze e
  obtain⟨l,e2,e⟩:=qzd e
  obtain⟨u,e3,e⟩:=qzd e
  exact⟨m,st,τ,d1,s1,R0,S0,e1,fun x m1 H1 b1 t1 R1 i1=>⟨m1,s1,τ,l.1,l.2,R1,S0.mono b1 t1,e2,fun m2 H2 b2 t2 R2=>⟨m2,l.2,τ,u.1,u.2,R2,S0.mono (b1.trans b2) (t1.trans t2),e3,fun m3 H3 b3 t3 R3=>
   ⟨m3,u.2,d1,d,st',R3,qza (b2.trans b3) (t2.trans t3) _ _ i1,e,post.mono (b1.trans (b2.trans b3)) (t1.trans (t2.trans t3))⟩⟩⟩⟩
 |@comp t it elt sr tg iter pelt scope pos N hk hcell hfree hloc hlen hsrc hnd hs hi ht htl he=>
  have S:=qfv G hk hcell hfree hloc hlen hsrc
  exact(qn3 (tt:=fun _ H Q=>Q true H) G.calm S (qhx A G hi) (fun C fp s H=>qk7 (G.inner hk hnd) ht fun i hi' x hx=>.inr (qm6 htl i hi' x hx)) (fun C fp s H=>qip) (fun C fp s H=>A.e _ _ (G.inner hk hnd) elt pelt he) (hs X.env)).imp fun σ H Q h=>
   qnx (fun _ _ _ q=>q) h
 |@attr C a f pa pos ha hc hb=>
  obtain⟨h1,h2⟩:=G.mo.ats C f hc
  refine(pe_fld (A.e c X G a pa ha) (hb X.env)).imp fun σ H Q h=>?_
  refine h.el fun m st τ d st' R0 S0 e post=>?_
  obtain⟨d1,s1,e1,e⟩:=qze e
  obtain⟨fs,e2,e⟩:=qzd e
  obtain⟨d2,e3,e4⟩:=mapD e
  cases e4
  refine⟨m,st,τ,d1,s1,R0,S0,e1,fun x m1 H1 b1 t1 R1 ix=>?_⟩
  obtain⟨l,p,dx,ys,rfl,_,rfl,hH,hfs,_⟩:=R1.inst e2 ix
  rcases hfs.get f with⟨z,_⟩|⟨d',v,z1,z2,iv⟩
  ·rw[z]at e3; cases e3
  ·rw[z1]at e3
   cases e3
   exact⟨p,C,dx,ys,v,rfl,hH,h1,h2,z2,post _ m1 H1 b1 t1 R1 iv⟩
 |@mcall C f m' x cn a es pa ps apos pos ha hf hm hc hs ht=>
  obtain⟨fa,fd,pars,hl,F,hk,hb⟩:=G'.tab f x hf
  obtain⟨_,hC,_,_⟩:=G.mo.cls cn C hc
  have hM:=hl.2 C m' hm
  obtain⟨pl,ht⟩:=ht X.env
  have key:∀ σ H Q,tD X.K (fun τ st=>M.stepEv (M.rn fns dl n) τ st (.mcall C f m' a es)) σ H Q→qnz C m' (spN X.K fns dl f) [] E0 (tD X.K fun τ st=>(M.rn fns dl n).ev τ st a) (tL X.K fun τ st=>M.evs ((M.rn fns dl n).ev τ) es st) σ H Q:=by
   intro σ H Q h
   refine h.el fun m st τ d st' R0 S0 e post=>?_
   obtain⟨d1,s1,e1,e⟩:=qze e
   obtain⟨fs,e2,e⟩:=qzd e
   refine⟨m,st,τ,d1,s1,R0,S0,e1,fun v m1 H1 b1 t1 R1 ix=>?_⟩
   obtain⟨l,p,dx,ys,rfl,_,rfl,hH,hfs,_⟩:=R1.inst e2 ix
   dsimp only at e
   split at e
   ·cases e
   ·rename_i hno
    obtain⟨q,e3,e⟩:=qzd e
    rcases hfs.get m' with⟨_,z⟩|⟨d',v,z1,_,_⟩
    ·refine⟨p,dx,ys,rfl,hH,z,m1,s1,τ,q.1,q.2,R1,S0.mono b1 t1,e3,fun xs m2 H2 b2 t2 R2 i2=>?_⟩
     have e:(M.rn fns dl n).call f (.loc l::q.1) q.2=some (d,st'):=e
     rw[M.runK_call]at e
     show spN X.K fns dl f (.ref p::(xs++[])) H2 Q E0
     rw[Qzf]
     exact⟨m2,q.2,_,d,st',R2,qzx (qza b2 t2 _ _ ix) i2,e,post.mono (b1.trans b2) (t1.trans t2)⟩
    ·rw[z1]at hno
     exact absurd rfl hno
  have hr:Room (2*dl) X.A:=G.room.mono (by omega)
  cases hs with
  |nil=>
   refine(qi8 (A.e c X G a pa ha) hC hM F hr hb .nil qlj ht).imp fun σ H Q h=>?_
   ·obtain⟨m,st,τ,d1,s1,R0,S0,e1,k⟩:=key σ H Q h
    refine⟨m,st,τ,d1,s1,R0,S0,e1,fun v m1 H1 b1 t1 R1 ix=>?_⟩
    obtain⟨p,dx,ys,rfl,hH,z,m2,s2,τ2,ds,s3,R2,S2,e2,k2⟩:=k v m1 H1 b1 t1 R1 ix
    cases e2
    exact⟨p,dx,ys,rfl,hH,z,k2 [] m2 H1 (Sub.refl _) (Tr.refl _) R2 qzm⟩
  |cons h1 h2=>exact(qnt (A.e c X G a pa ha) hC hM F hr hb .nil qlj (qz7 A G (.cons h1 h2)) (h1.star _ _) (qvy h2 pos X.env) ht).imp key
 |@new C f x cn es p ps p0 pos hg hf hm hc hd hs=>
  obtain⟨fa,fd,pars,hl,F,hk,hb⟩:=G'.tab f x hf
  obtain⟨h1,_,h3,h4⟩:=G.mo.cls cn C hc
  have hM:=hl.2 C _ hm
  have hp:Star p:=by cases hs with|cons h _=>exact h.star
  have ht:(backTo pos (starEach ps X.env)).any (·.1)=false:=by cases hs with|cons _ t=>exact qvy t pos X.env
  refine(qnu ⟨h3,hM.at_,hM.fn,h4⟩ F G.room (G.gl hg) h1 hb .nil qlj (qz7 A G hs) hd (hp _ _) ht).imp fun σ H Q h=>?_
  refine h.el fun m st τ d st' R0 S0 e post=>?_
  obtain⟨q,e1,e⟩:=qzd e
  obtain⟨w,e2,e⟩:=qzd e
  refine⟨m,st,τ,q.1,q.2,R0,S0,e1,fun xs m1 H1 b1 t1 R1 ix x dx hx hdx hne=>?_⟩
  have e2:(M.rn fns dl n).call f (.loc q.2.length::q.1) (q.2++[.obj C []])=some w:=e2
  rw[M.runK_call]at e2
  obtain⟨sm,R2⟩:=R1.newI (C:=C) hx hdx hne
  have lc:=R1.newLoc (p:=x) (H':=upd (upd H1 dx (.own x)) x (.ins C dx []))
  split at e
  ·rename_i hn
   cases e
   rw[Qzf]
   refine⟨m1++[x],_,_,w.1,w.2,R2,qzx lc (qzf (Sub.app m1 [x]) (Tr.of_same sm) _ _ ix),e2,fun v m2 H2 b2 t2 R3 iv=>?_⟩
   have hw:w.1=.non:=by
    cases hq:w.1 with
    |non=>rfl
    |_=>rw[hq]at hn; cases hn
   rw[hw]at iv
   exact⟨iv.non,post _ m2 H2 (b1.trans ((Sub.app m1 [x]).trans b2)) (t1.trans ((Tr.of_same sm).trans t2)) R3 (qza b2 t2 _ _ lc)⟩
  ·cases e
end
end MS
end
section
namespace MS
open PySem PySem.Spec PyProof.Rows L2
open M (D Cell Store Sl E S T Src Fn Out R)
section
variable {fns:List Fn}{dl n:Nat}{c:Ctx}{X:Cx}
theorem qw5{K:Qqq}{r:R}{e:E}{σ:L2.St}{H:Hp}{Q:Bool→Hp→Prop}(hr:∀ τ st,M.stepTst r τ st e=(r.ev τ st e).bind fun p=>(M.truth p.2 p.1).map fun k=>(k,p.2))
  (h:tTs K (fun τ st=>M.stepTst r τ st e) σ H Q):(tD K fun τ st=>r.ev τ st e) σ H fun x H'=>∃ k,TruV K x H' k∧Q k H':=by
 refine h.el fun m st τ d st' R0 S0 e0 q=>?_
 have e0:=(hr τ st).symm.trans e0
 obtain⟨d1,s1,e1,e0⟩:=qze e0
 obtain⟨k,e2,e3⟩:=mapD e0
 cases e3
 exact⟨m,st,τ,d1,s1,R0,S0,e1,fun x m1 H1 b1 t1 R1 i1=>⟨_,qm4 R1 i1 e2,q m1 H1 b1 t1 R1⟩⟩
theorem tt_bl{K:Qqq}{r:R}{e:E}{f:Sl→Store→Option (D×Store)}{σ:L2.St}{H:Hp}{Q:Bool→Hp→Prop}(hr:∀ τ st,M.stepTst r τ st e=(f τ st).bind fun p=>(M.truth p.2 p.1).map fun k=>(k,p.2))(hf:∀ τ st d st',f τ st=some (d,st')→∃ k,d=.bl k)
  (h:tTs K (fun τ st=>M.stepTst r τ st e) σ H Q):tB (tD K f) σ H Q:=by
 refine h.el fun m st τ d st' R0 S0 e0 q=>?_
 have e0:=(hr τ st).symm.trans e0
 obtain⟨d1,s1,e1,e0⟩:=qze e0
 obtain⟨k,rfl⟩:=hf _ _ _ _ e1
 cases e0
 exact⟨m,st,τ,_,_,R0,S0,e1,fun x m1 H1 b1 t1 R1 i1=>⟨_,i1.bl,q m1 H1 b1 t1 R1⟩⟩
theorem din_bl{r:R}{τ:Sl}{st st':Store}{neg:Bool}{a b:E}{d:D}(h:M.dinR r τ st neg a b=some (d,st')):∃ k,d=.bl k:=by
 unfold M.dinR at h
 obtain⟨d1,s1,e1,h⟩:=qze h
 obtain⟨d2,s2,e2,h⟩:=qze h
 cases d2 with
 |loc l=>
  obtain⟨kvs,e3,h⟩:=qzd h
  split at h
  ·cases h; exact⟨_,rfl⟩
  ·cases h
 |_=>cases h
theorem gin_bl{r:R}{τ:Sl}{st st':Store}{neg:Bool}{ks:List Str}{b:E}{d:D}(h:M.ginR r τ st neg ks b=some (d,st')):∃ k,d=.bl k:=by
 unfold M.ginR at h
 obtain⟨d1,s1,e1,h⟩:=qze h
 cases d1 with
 |str z=>cases h; exact⟨_,rfl⟩
 |_=>cases h
theorem ql5{K:Qqq}{r:R}{a b:E}{σ:L2.St}{H:Hp}{Q:Bool→Hp→Prop}(h:tTs K (fun τ st=>M.stepTst r τ st (.and a b)) σ H Q):tAnd (tTs K fun τ st=>r.tst τ st a) (tTs K fun τ st=>r.tst τ st b) σ H Q:=by
 refine h.el fun m st τ d st' R0 S0 e0 q=>?_
 have e0:((r.tst τ st a).bind fun p=>if p.1 then r.tst τ p.2 b else some (false,p.2))=some (d,st'):=e0
 obtain⟨p,e1,e0⟩:=qzd e0
 refine⟨m,st,τ,p.1,p.2,R0,S0,e1,fun m1 H1 b1 t1 R1=>?_⟩
 cases hp:p.1 with
 |true=>
  rw[hp,if_pos rfl]at e0
  rw[if_pos rfl]
  exact⟨m1,p.2,τ,d,st',R1,S0.mono b1 t1,e0,fun m2 H2 b2 t2 R2=>q m2 H2 (b1.trans b2) (t1.trans t2) R2⟩
 |false=>
  rw[hp,if_neg Qqi]at e0
  cases e0
  rw[if_neg Qqi]
  exact q m1 H1 b1 t1 R1
theorem tt_or{K:Qqq}{r:R}{a b:E}{σ:L2.St}{H:Hp}{Q:Bool→Hp→Prop}(h:tTs K (fun τ st=>M.stepTst r τ st (.or a b)) σ H Q):tOr (tTs K fun τ st=>r.tst τ st a) (tTs K fun τ st=>r.tst τ st b) σ H Q:=by
 refine h.el fun m st τ d st' R0 S0 e0 q=>?_
 have e0:((r.tst τ st a).bind fun p=>if p.1 then some (true,p.2) else r.tst τ p.2 b)=some (d,st'):=e0
 obtain⟨p,e1,e0⟩:=qzd e0
 refine⟨m,st,τ,p.1,p.2,R0,S0,e1,fun m1 H1 b1 t1 R1=>?_⟩
 cases hp:p.1 with
 |false=>
  rw[hp,if_neg Qqi]at e0
  rw[if_neg Qqi]
  exact⟨m1,p.2,τ,d,st',R1,S0.mono b1 t1,e0,fun m2 H2 b2 t2 R2=>q m2 H2 (b1.trans b2) (t1.trans t2) R2⟩
 |true=>
  rw[hp,if_pos rfl]at e0
  cases e0
  rw[if_pos rfl]
  exact q m1 H1 b1 t1 R1
theorem w_ok(A:AllOk fns dl n)(G':Good fns dl c X){e:E}{op:BoolOp}{ps:List Expr}{pos:Pos}(h:CkE c e (.BoolOp op ps pos)):PW X (.BoolOp op ps pos) (tTs X.K fun τ st=>M.stepTst (M.rn fns dl n) τ st e):=by
 have G:=G'
 cases h.out with
 |@and2 a b pa pb pos ha hb=>exact(qmz (A.t c X G a pa ha) (qnf (A.t c X G b pb hb))).imp fun σ H Q h=>ql5 h
 |@andN a b pa pb pd r pos ha hb=>exact(qmz (A.t c X G a pa ha) (A.w c X G b _ _ _ hb)).imp fun σ H Q h=>ql5 h
 |@or2 a b pa pb pos ha hb=>exact(pw_or (A.t c X G a pa ha) (pw_or1 (A.t c X G b pb hb))).imp fun σ H Q h=>tt_or h
 |gc hp hg ha=>cases hp
theorem t_ok(A:AllOk fns dl n)(G':Good fns dl c X){e:E}{p:Expr}(h:CkE c e p):PT X p (tTs X.K fun τ st=>M.stepTst (M.rn fns dl n) τ st e):=by
 have G:=G'
 have hu:X.A.units+64<cLine:=G'.room.units
 have hA:=A.e c X G e p h
 cases h.out with
 |@not a pa pos ha=>
  refine(pt_not (A.t c X G a pa ha)).imp fun σ H Q h=>?_
  refine h.el fun m st τ d st' R0 S0 e0 q=>?_
  obtain⟨p,e1,e2⟩:=mapD e0
  cases e2
  exact⟨m,st,τ,p.1,p.2,R0,S0,e1,fun m1 H1 b1 t1 R1=>q m1 H1 b1 t1 R1⟩
 |and2 ha hb=>exact(w_ok A G' (.and2 ha hb)).pt
 |andN ha hb=>exact(w_ok A G' (.andN ha hb)).pt
 |or2 ha hb=>exact(w_ok A G' (.or2 ha hb)).pt
 |@cmp op a b pa pb pos ha hb hm=>
  refine(qng (qj1 hu op) (A.e c X G a pa ha) (A.e c X G b pb hb) hm).imp fun σ H Q h=>?_
  refine h.el fun m st τ d st' R0 S0 e0 q=>?_
  obtain⟨d1,s1,e1,e0⟩:=qze e0
  obtain⟨d2,s2,e2,e0⟩:=qze e0
  obtain⟨k,e3,e4⟩:=mapD e0
  cases e4
  exact⟨m,st,τ,d1,s1,R0,S0,e1,fun x m1 H1 b1 t1 R1 i1=>⟨m1,s1,τ,d2,s2,R1,S0.mono b1 t1,e2,fun y m2 H2 b2 t2 R2 i2=>
   ⟨m2,s2,d1,d2,.bl d,s2,R2,qza b2 t2 _ _ i1,i2,by show Option.map _ (M.cmpD s2 op d1 d2)=_; rw[show M.cmpD s2 op d1 d2=some d from e3]; rfl,fun z m3 H3 b3 t3 R3 i3=>⟨d,i3.bl,q m3 H3 (b1.trans (b2.trans b3)) (t1.trans (t2.trans t3)) R3⟩⟩⟩⟩
 |@cmp2 op op' a b d pa pb pd pos ha hb hd hm=>
  refine(qi2 (qj1 hu op) (qj1 hu op') (A.e c X G a pa ha) (A.e c X G b pb hb) (A.e c X G d pd hd) hm).imp fun σ H Q h=>?_
  refine h.el fun m st τ dd st' R0 S0 e q=>?_
  obtain⟨d1,s1,e1,e⟩:=qze e
  obtain⟨d2,s2,e2,e⟩:=qze e
  obtain⟨k,e3,e⟩:=qzd e
  refine⟨m,st,τ,d1,s1,R0,S0,e1,fun x m1 H1 b1 t1 R1 i1=>⟨m1,s1,τ,d2,s2,R1,S0.mono b1 t1,e2,fun y m2 H2 b2 t2 R2 i2=>
   ⟨m2,s2,d1,d2,.bl k,s2,R2,qza b2 t2 _ _ i1,i2,by show Option.map _ (M.cmpD s2 op d1 d2)=_; rw[show M.cmpD s2 op d1 d2=some k from e3]; rfl,fun z m3 H3 b3 t3 R3 i3=>⟨k,i3.bl,?_⟩⟩⟩⟩
  cases k with
  |true=>
   rw[if_pos rfl]at e ⊢
   obtain⟨d3,s3,e4,e⟩:=qze e
   obtain⟨k',e5,e6⟩:=mapD e
   cases e6
   exact⟨m3,s2,τ,d3,s3,R3,S0.mono (b1.trans (b2.trans b3)) (t1.trans (t2.trans t3)),e4,fun y' m4 H4 b4 t4 R4 i4=>
    ⟨m4,s3,d2,d3,.bl dd,s3,R4,qza (b3.trans b4) (t3.trans t4) _ _ i2,i4,by show Option.map _ (M.cmpD s3 op' d2 d3)=_; rw[show M.cmpD s3 op' d2 d3=some dd from e5]; rfl,
     fun z m5 H5 b5 t5 R5 i5=>⟨dd,i5.bl,q m5 H5 (b1.trans (b2.trans (b3.trans (b4.trans b5)))) (t1.trans (t2.trans (t3.trans (t4.trans t5)))) R5⟩⟩⟩
  |false=>
   rw[if_neg Qqi]at e ⊢
   cases e
   exact⟨false,rfl,q m3 H3 (b1.trans (b2.trans b3)) (t1.trans (t2.trans t3)) R3⟩
 |ite hq ha hb=>exact fun pins s σ H Q I q=>by obtain⟨m,st,τ,d,st',_,_,z,_⟩:=q; cases z
 |@dnin a b pa pb pos ha hb hm=>exact(qmq (qgg (by omega) true (A.e c X G a pa ha) (A.e c X G b pb hb)) hm).imp fun σ H Q h=>tt_bl (fun _ _=>rfl) (fun _ _ _ _ z=>din_bl z) h
 |@gnin x ks ds b pb p0 pos hg hm hd hb=>
  obtain⟨ad,h1,h2⟩:=G.mo.gds x ks ds hm
  exact(qmq (qge true (G.gl hg) h1 h2 hd (A.e c X G b pb hb)) rfl).imp fun σ H Q h=>tt_bl (fun _ _=>rfl) (fun _ _ _ _ z=>gin_bl z) h
 |gc hp hg ha=>
  cases p with
  |Call=>exact(qxv hA fun _=>rfl).imp fun σ H Q h=>qw5 (fun _ _=>rfl) h
  |ListComp=>exact(qxv hA fun _=>rfl).imp fun σ H Q h=>qw5 (fun _ _=>rfl) h
  |List=>exact(qxv hA fun _=>rfl).imp fun σ H Q h=>qw5 (fun _ _=>rfl) h
  |BinOp=>exact(qxv hA fun _=>rfl).imp fun σ H Q h=>qw5 (fun _ _=>rfl) h
  |Subscript=>exact(qxv hA fun _=>rfl).imp fun σ H Q h=>qw5 (fun _ _=>rfl) h
  |_=>cases hp
 |_=>exact(qxv hA fun _=>rfl).imp fun σ H Q h=>qw5 (fun _ _=>rfl) h
theorem S_nx{K:Qqq}{m:List Addr}{H:Hp}{τ:Sl}{st':Store}{Dn:Ends}{σ:L2.St}(p:PostO K m H (.nx τ) st' Dn){m':List Addr}{H':Hp}(b:Sub m m')(t:Tr H H')(R0:Rel K m' st' H')(S0:SlotOk K m' H' τ σ):Dn.nx σ H':=p m' H' b t R0 σ S0
theorem set_ok{K:Qqq}{r:R}{i:Nat}{e:E}{te:TE}{Dn:Ends}{σ:L2.St}{H:Hp}(hte:∀ Q,(tD K fun τ st=>r.ev τ st e) σ H Q→te σ H Q)(h:tS K (fun τ st=>M.stepEx r τ st (.set (.var i) e)) Dn σ H):tAsg te (qe9 i) Dn σ H:=by
 refine h.el fun m st τ o st' R0 S0 e0 q=>?_
 obtain⟨d1,s1,e1,e0⟩:=qze e0
 obtain⟨τ',e2,e3⟩:=mapD e0
 cases e3
 have e2:(if i<τ.length then some (τ.set i (some d1)) else none)=some τ':=e2
 split at e2
 ·cases e2
  exact hte _ ⟨m,st,τ,d1,s1,R0,S0,e1,fun x m1 H1 b1 t1 R1 i1=>S_nx q b1 t1 R1 ((S0.mono b1 t1).put i1)⟩
 ·cases e2
theorem s1_ok(IH:∀ j,j≤n→AllOk fns dl j)(G:Good fns dl c X)(hf:∀ x,X.fn x=true){s:S}{p:Stmt}(h:CkS c s p):PS X p (tS X.K fun τ st=>M.stepEx (M.rn fns dl n) τ st s):=by
 have A:=IH n (Qqj n)
 have hN:X.N.Nodup:=by rw[G.N]; exact G.nd
 have loc:∀ {x:Str},(c.sc.names.lookup x=some .local∨c.sc.names.lookup x=some .cell)→Loc X.env.scope x:=fun {x} h=>by show X.env.scope.names.lookup x=_∨_=_; rw[G.sc]; exact h
 cases h with
 |@set i e x p pos pos' hi hl he hs=>exact(ps_set hN (qal G hi) (loc hl) (A.e c X G e p he) (hs X.env) (.inl (hf x))).imp fun D σ H h=>set_ok (fun _ q=>q) h
 |@setIx a i e pa pi pe tpos pos ha hi he hs hw h1 hA=>
  refine(ps_asg (A.e c X G e pe he) (pg_sub (A.e c X G a pa ha) (A.e c X G i pi hi) set_D (hA X.env)) (hs X.env) (hw X.env) (h1 X.env)).imp fun Dn σ H h=>?_
  refine h.el fun m st τ o st' R0 S0 e0 q=>?_
  obtain⟨d1,s1,e1,e0⟩:=qze e0
  obtain⟨d2,s2,e2,e0⟩:=qze e0
  obtain⟨d3,s3,e3,e0⟩:=qze e0
  obtain⟨s4,e4,e5⟩:=mapD e0
  cases e5
  exact⟨m,st,τ,d1,s1,R0,S0,e1,fun x m1 H1 b1 t1 R1 i1=>⟨m1,s1,τ,d2,s2,R1,S0.mono b1 t1,e2,fun y m2 H2 b2 t2 R2 i2=>⟨m2,s2,τ,d3,s3,R2,S0.mono (b1.trans b2) (t1.trans t2),e3,fun z m3 H3 b3 t3 R3 i3=>
   ⟨m3,s3,d2,d3,d1,_,R3,qza b3 t3 _ _ i2,i3,qza (b2.trans b3) (t2.trans t3) _ _ i1,e4,fun m4 H4 b4 t4 R4=>S_nx q (b1.trans (b2.trans (b3.trans b4))) (t1.trans (t2.trans (t3.trans t4))) R4 (S0.mono (b1.trans (b2.trans (b3.trans b4))) (t1.trans (t2.trans (t3.trans t4))))⟩⟩⟩⟩
 |@dset a i e pa pi pe tpos pos ha hi he hs=>
  refine(qnl (by have:=G.room.units; omega) (A.e c X G a pa ha) (A.e c X G i pi hi) (A.e c X G e pe he) (hs X.env)).imp fun Dn σ H h=>?_
  refine h.el fun m st τ o st' R0 S0 e0 q=>?_
  obtain⟨d1,s1,e1,e0⟩:=qze e0
  obtain⟨d2,s2,e2,e0⟩:=qze e0
  obtain⟨d3,s3,e3,e0⟩:=qze e0
  cases d2 with
  |loc l=>
   have e0:((M.wdicAt s3 l).bind fun kvs=>if M.isKey d3&&decide (kvs.length<M.lim) then some (Out.nx τ,s3.set l (.dic true (M.dput kvs d3 d1))) else none)=some (o,st'):=e0
   obtain⟨kvs,e4,e0⟩:=qzd e0
   split at e0
   ·rename_i hk
    cases e0
    rw[Qqy,decide_eq_true_eq]at hk
    obtain⟨k,hk1⟩:=qx8 hk.1
    refine⟨m,st,τ,d1,s1,R0,S0,e1,fun x m1 H1 b1 t1 R1 i1=>⟨m1,s1,τ,.loc l,s2,R1,S0.mono b1 t1,e2,fun y m2 H2 b2 t2 R2 i2=>⟨m2,s2,τ,d3,s3,R2,S0.mono (b1.trans b2) (t1.trans t2),e3,fun z m3 H3 b3 t3 R3 i3=>?_⟩⟩⟩
    obtain⟨a',xs,ha',rfl,hH,hkv,hst⟩:=R3.wdict e4 (qza b3 t3 _ _ i2)
    have hz:=qom hk1 i3
    subst hz
    have l1:=hkv.length
    have l2:=qz5
    refine⟨a',_,rfl,DPut.k hH (by omega),?_⟩
    have iv:=qza (b2.trans b3) (t2.trans t3) _ _ i1
    exact S_nx q (b1.trans (b2.trans b3)) (t1.trans (t2.trans (t3.trans (Tr.putD hH)))) (R3.putD hst ha' hH (hkv.put hk1 iv)) (S0.mono (b1.trans (b2.trans b3)) (t1.trans (t2.trans (t3.trans (Tr.putD hH)))))
   ·cases e0
  |_=>cases e0
 |@expr e p pos he hs=>
  refine(qni (A.e c X G e p he) (hs X.env)).imp fun Dn σ H h=>?_
  refine h.el fun m st τ o st' R0 S0 e0 q=>?_
  obtain⟨p,e1,e2⟩:=mapD e0
  cases e2
  exact⟨m,st,τ,p.1,p.2,R0,S0,e1,fun x m1 H1 b1 t1 R1 i1=>S_nx q b1 t1 R1 (S0.mono b1 t1)⟩
 |@ret e p pos he=>
  refine(ps_ret (A.e c X G e p he)).imp fun Dn σ H h=>?_
  refine h.el fun m st τ o st' R0 S0 e0 q=>?_
  obtain⟨p,e1,e2⟩:=mapD e0
  cases e2
  exact⟨m,st,τ,p.1,p.2,R0,S0,e1,fun x m1 H1 b1 t1 R1 i1=>q m1 H1 b1 t1 R1 x i1⟩
 |@ite q a b pq pa pb pos hq ha hb=>
  refine(ps_if (A.t c X G q pq hq) (A.s c X G hf a pa ha) (A.s c X G hf b pb hb)).imp fun Dn σ H h=>?_
  refine h.el fun m st τ o st' R0 S0 e0 post=>?_
  obtain⟨p,e1,e0⟩:=qzd e0
  refine⟨m,st,τ,p.1,p.2,R0,S0,e1,fun m1 H1 b1 t1 R1=>?_⟩
  cases hp:p.1 with
  |true=>
   rw[hp,if_pos rfl]at e0
   rw[if_pos rfl]
   exact⟨m1,p.2,τ,o,st',R1,S0.mono b1 t1,e0,post.mono b1 t1⟩
  |false=>
   rw[hp,if_neg Qqi]at e0
   rw[if_neg Qqi]
   exact⟨m1,p.2,τ,o,st',R1,S0.mono b1 t1,e0,post.mono b1 t1⟩
 |@forr t it body tg iter pb pos ht hi hs hb=>
   refine(qmx (by rw[G.xe]; exact PassesOwn.never) G.calm (qhx A G hi) (qk7 G ht fun i _ x _=>.inl (hf x)) (A.s c X G hf body pb hb) (hs X.env)).imp fun Dn σ H h=>?_
   refine h.el fun m st τ o st' R0 S0 e0 post=>?_
   obtain⟨p,e1,e0⟩:=qzd e0
   refine⟨m,st,τ,p.1,p.2,R0,S0,e1,fun m1 H1 J b1 t1 R1 hJ=>?_⟩
   refine⟨fun j k σ' H'=>∃ m2 st2 τ2,Sub m1 m2∧Tr H1 H'∧Rel X.K m2 st2 H'∧SlotOk X.K m2 H' τ2 σ'∧M.loop p.1 (fun τ st d=>(M.setT t d τ).bind fun τ'=>(M.rn fns dl n).ex τ' st body) k j τ2 st2=some (o,st'),
    ⟨_,m1,p.2,τ,Sub.refl _,Tr.refl _,R1,S0.mono b1 t1,e0⟩,?_⟩
   rintro j k σ' H' ⟨m2,st2,τ2,b2,t2,R2,S2,e4⟩
   cases k with
   |zero=>cases e4
   |succ k=>
    have e4:(p.1.at st2 j).bind (fun o=>match o with
     |none=>some (Out.nx τ2,st2)
     |some d=>((M.setT t d τ2).bind fun τ'=>(M.rn fns dl n).ex τ' st2 body).bind fun z=>match z.1 with
      |.nx τ'=>M.loop p.1 (fun τ st d=>(M.setT t d τ).bind fun τ'=>(M.rn fns dl n).ex τ' st body) k (j+1) τ' z.2
      |.ct τ'=>M.loop p.1 (fun τ st d=>(M.setT t d τ).bind fun τ'=>(M.rn fns dl n).ex τ' st body) k (j+1) τ' z.2
      |.bk τ'=>some (.nx τ',z.2)
      |.rt v=>some (.rt v,z.2))=some (o,st'):=e4
    obtain⟨oo,e5,e4⟩:=qzd e4
    cases oo with
    |none=>
     cases e4
     exact .inl ⟨(hJ.mono b2 t2).done R2 e5,S_nx post (b1.trans b2) (t1.trans t2) R2 S2⟩
    |some d=>
     obtain⟨hgo,hy⟩:=(hJ.mono b2 t2).next R2 e5
     dsimp only at e4
     obtain⟨z,e6,e4⟩:=qzd e4
     obtain⟨τ3,e7,e6⟩:=qzd e6
     refine .inr ⟨hgo,fun σ3 H3=>∃ m3 st3 τ3,Sub m1 m3∧Tr H1 H3∧Rel X.K m3 st3 H3∧SlotOk X.K m3 H3 τ3 σ3∧M.loop p.1 (fun τ st d=>(M.setT t d τ).bind fun τ'=>(M.rn fns dl n).ex τ' st body) k (j+1) τ3 st3=some (o,st'),fun σ3 H3 w3=>⟨k,Qza k,w3⟩,fun x H2 hyl=>?_⟩
     obtain⟨sm,ix⟩:=hy x H2 hyl
     have t2:=t2.trans (Tr.of_same sm)
     have R2:=R2.same sm
     have S2:=S2.mono (Sub.refl _) (Tr.of_same sm)
     refine qou ix S2 e7 fun σ3 S3=>?_
     refine⟨m2,st2,_,z.1,z.2,R2,S3,e6,fun m3 H3 b3 t3 R3=>?_⟩
     cases hz:z.1 with
     |nx τ4=>
      rw[hz]at e4
      exact fun σ4 S4=>⟨m3,z.2,τ4,b2.trans b3,t2.trans t3,R3,S4,e4⟩
     |ct τ4=>
      rw[hz]at e4
      exact fun σ4 S4=>⟨m3,z.2,τ4,b2.trans b3,t2.trans t3,R3,S4,e4⟩
     |bk τ4=>
      rw[hz]at e4
      cases e4
      exact fun σ4 S4=>S_nx post (b1.trans (b2.trans b3)) (t1.trans (t2.trans t3)) R3 S4
     |rt v=>
      rw[hz]at e4
      cases e4
      exact fun w iw=>post m3 H3 (b1.trans (b2.trans b3)) (t1.trans (t2.trans t3)) R3 w iw
 |bad=>exact fun pins s σ H Dn I q=>by obtain⟨m,st,τ,d,st',_,_,z,_⟩:=q; cases z
 |@setA C a f e pa pe tpos pos ha he hc hs=>
  obtain⟨h1,h2⟩:=G.mo.ats C f hc
  refine(ps_fld (A.e c X G a pa ha) (A.e c X G e pe he) (hs X.env)).imp fun Dn σ H h=>?_
  refine h.el fun m st τ o st' R0 S0 e0 q=>?_
  obtain⟨d1,s1,e1,e0⟩:=qze e0
  obtain⟨d2,s2,e2,e0⟩:=qze e0
  obtain⟨fs,e3,e0⟩:=qzd e0
  refine⟨m,st,τ,d1,s1,R0,S0,e1,fun x m1 H1 b1 t1 R1 i1=>⟨m1,s1,τ,d2,s2,R1,S0.mono b1 t1,e2,fun y m2 H2 b2 t2 R2 i2=>?_⟩⟩
  obtain⟨l,p,dx,ys,rfl,hl,rfl,hH,hfs,hst⟩:=R2.inst e3 i2
  dsimp only at e0
  split at e0
  ·rename_i hlen
   cases e0
   have l1:=hfs.length
   exact⟨p,C,dx,ys,rfl,hH,h1,h2,by omega,S_nx q (b1.trans b2) (t1.trans (t2.trans (Tr.putI hH))) (R2.putI hst hl hH (hfs.put (qza b2 t2 _ _ i1))) (S0.mono (b1.trans b2) (t1.trans (t2.trans (Tr.putI hH))))⟩
  ·cases e0
 |@ford t a body tg pa pb pos ht ha hs hb=>
  refine(qnh (by rw[G.xe]; exact PassesOwn.never) G.calm (A.e c X G a pa ha) (qk7 G ht fun i _ x _=>.inl (hf x)) (A.s c X G hf body pb hb) (hs X.env)).imp fun Dn σ H h=>?_
  refine h.el fun m st τ o st' R0 S0 e0 post=>?_
  obtain⟨d1,s1,e1,e0⟩:=qze e0
  cases d1 with
  |loc l=>
   have e0:((M.wdicAt s1 l).bind fun kvs=>(M.loop (.tup (M.keysOf kvs)) (fun τ st d=>(M.setT t d τ).bind fun τ'=>(M.rn fns dl n).ex τ' st body) (kvs.length+1) 0 τ (s1.set l (.dic false kvs))).bind fun q=>
    match q.2[l]? with
    |some (.dic false kvs')=>some (q.1,q.2.set l (.dic true kvs'))
    |_=>none)=some (o,st'):=e0
   obtain⟨kvs,e2,e0⟩:=qzd e0
   obtain⟨w,e3,e0⟩:=qzd e0
   split at e0
   case h_2=>cases e0
   case h_1 kvs' hw=>
   cases e0
   refine⟨m,st,τ,.loc l,s1,R0,S0,e1,fun x m1 H1 b1 t1 R1 i1=>?_⟩
   obtain⟨a',xs,ha',rfl,hH,hkv,hst⟩:=R1.wdict e2 i1
   refine⟨a',xs,rfl,hH,fun ob nf=>?_⟩
   have R2:=R1.ice (o:=ob) hst ha' hH hkv
   have ti:=Tr.ice (o:=ob) hH
   have IK:=hkv.keys
   have lk:=IK.length
   rw[Qqk]at lk
   have fz:∀ {H':Hp},Tr (upd H1 a' (.frz ob (.dK xs))) H'→H' a'=some (.frz ob (.dK xs)):=fun t2=>t2.frz a' ob _ qzc
   refine⟨fun j k σ' H'=>∃ m2 st2 τ2,Sub m1 m2∧Tr (upd H1 a' (.frz ob (.dK xs))) H'∧Rel X.K m2 st2 H'∧SlotOk X.K m2 H' τ2 σ'∧M.loop (.tup (M.keysOf kvs)) (fun τ st d=>(M.setT t d τ).bind fun τ'=>(M.rn fns dl n).ex τ' st body) k j τ2 st2=some w,
    ⟨_,m1,_,τ,Sub.refl _,Tr.refl _,R2,S0.mono b1 (t1.trans ti),e3⟩,?_⟩
   rintro j k σ' H' ⟨m2,st2,τ2,b2,t2,R3,S2,e4⟩
   cases k with
   |zero=>cases e4
   |succ k=>
    have e4:(some (M.keysOf kvs)[j]?:Option (Option D)).bind (fun o=>match o with
     |none=>some (Out.nx τ2,st2)
     |some d=>((M.setT t d τ2).bind fun τ'=>(M.rn fns dl n).ex τ' st2 body).bind fun z=>match z.1 with
      |.nx τ'=>M.loop (.tup (M.keysOf kvs)) (fun τ st d=>(M.setT t d τ).bind fun τ'=>(M.rn fns dl n).ex τ' st body) k (j+1) τ' z.2
      |.ct τ'=>M.loop (.tup (M.keysOf kvs)) (fun τ st d=>(M.setT t d τ).bind fun τ'=>(M.rn fns dl n).ex τ' st body) k (j+1) τ' z.2
      |.bk τ'=>some (.nx τ',z.2)
      |.rt v=>some (.rt v,z.2))=some w:=e4
    rw[oBs]at e4
    cases e5:(M.keysOf kvs)[j]? with
    |none=>
     rw[e5]at e4
     cases e4
     refine .inl ⟨⟨fz t2,by rw[← lk]; exact Qqt.mp e5⟩,a',ob,xs,nf,fz t2,?_⟩
     exact S_nx post (b1.trans b2) (t1.trans (Tr.thaw hH t2)) (R3.thaw hw (b2 l a' ha') (fz t2)) (S2.monoW (Sub.refl _) (Tw.thaw (fz t2)))
    |some d=>
     rw[e5]at e4
     dsimp only at e4
     have hj:=(Qqb.mp e5).1
     obtain⟨z,e6,e4⟩:=qzd e4
     obtain⟨τ3,e7,e6⟩:=qzd e6
     refine .inr ⟨⟨fz t2,by omega⟩,fun σ3 H3=>∃ m3 st3 τ3,Sub m1 m3∧Tr (upd H1 a' (.frz ob (.dK xs))) H3∧Rel X.K m3 st3 H3∧SlotOk X.K m3 H3 τ3 σ3∧M.loop (.tup (M.keysOf kvs)) (fun τ st d=>(M.setT t d τ).bind fun τ'=>(M.rn fns dl n).ex τ' st body) k (j+1) τ3 st3=some w,fun σ3 H3 w3=>⟨k,Qza k,w3⟩,?_⟩
     rintro x H2 ⟨rfl,p,hp,rfl⟩
     obtain⟨x',ex,ix⟩:=IK.get e5
     rw[Qqn,hp]at ex
     cases ex
     refine qou (qza b2 (ti.trans t2) _ _ ix) S2 e7 fun σ3 S3=>?_
     refine⟨m2,st2,_,z.1,z.2,R3,S3,e6,fun m3 H3 b3 t3 R4=>?_⟩
     cases hz:z.1 with
     |nx τ4=>
      rw[hz]at e4
      exact fun σ4 S4=>⟨m3,z.2,τ4,b2.trans b3,t2.trans t3,R4,S4,e4⟩
     |ct τ4=>
      rw[hz]at e4
      exact fun σ4 S4=>⟨m3,z.2,τ4,b2.trans b3,t2.trans t3,R4,S4,e4⟩
     |bk τ4=>
      rw[hz]at e4
      cases e4
      exact fun σ4 S4=>⟨a',ob,xs,nf,fz (t2.trans t3),S_nx post (b1.trans (b2.trans b3)) (t1.trans (Tr.thaw hH (t2.trans t3))) (R4.thaw hw ((b2.trans b3) l a' ha') (fz (t2.trans t3))) (S4.monoW (Sub.refl _) (Tw.thaw (fz (t2.trans t3))))⟩
     |rt v=>
      rw[hz]at e4
      cases e4
      exact fun v' iv=>⟨a',ob,xs,nf,fz (t2.trans t3),post m3 _ (b1.trans (b2.trans b3)) (t1.trans (Tr.thaw hH (t2.trans t3))) (R4.thaw hw ((b2.trans b3) l a' ha') (fz (t2.trans t3))) v' (qqf (Sub.refl _) (Tw.thaw (fz (t2.trans t3))) _ _ iv)⟩
  |_=>cases e0
 |cnt=>
  refine ps_continue.imp fun Dn σ H h=>?_
  refine h.el fun m st τ o st' R0 S0 e0 q=>?_
  cases e0
  exact q m H (Sub.refl m) (Tr.refl H) R0 _ S0
theorem qnv(IH:∀ j,j≤n→AllOk fns dl j)(G:Good fns dl c X)(hf:∀ x,X.fn x=true):∀ {ss:List S}{ps:List Stmt},CkSs c ss ps→PSs X ps (tS X.K fun τ st=>M.exs (M.stepEx (M.rn fns dl n)) ss τ st)
 |_,_,.nil=>pss_nil.imp fun Dn σ H h=>by
  refine h.el fun m st τ o st' R0 S0 e0 q=>?_
  cases e0
  exact q m H (Sub.refl m) (Tr.refl H) R0 _ S0
 |_,_,.doc t=>(qdc ps_doc (qnv IH G hf t)).imp fun Dn σ H h=>h
 |_,_,.cons (s:=s) (ss:=ss) h t=>(qdc (s1_ok IH G hf h) (qnv IH G hf t)).imp fun Dn σ H hq=>by
  refine hq.el fun m st τ o st' R0 S0 e0 q=>?_
  obtain⟨p,e1,e0⟩:=qzd e0
  refine⟨m,st,τ,p.1,p.2,R0,S0,e1,fun m1 H1 b1 t1 R1=>?_⟩
  cases hp:p.1 with
  |nx τ1=>
   rw[hp]at e0
   exact fun σ1 S1=>⟨m1,p.2,τ1,o,st',R1,S1,e0,q.mono b1 t1⟩
  |rt d=>
   rw[hp]at e0
   cases e0
   exact q m1 H1 b1 t1 R1
  |bk d=>
   rw[hp]at e0
   cases e0
   exact q m1 H1 b1 t1 R1
  |ct d=>
   rw[hp]at e0
   cases e0
   exact q m1 H1 b1 t1 R1
end
theorem allOk(fns:List Fn)(dl:Nat):∀ n j,j≤n→AllOk fns dl j:=by
 intro n
 induction n with
 |zero=>intro j h; rw[Nat.le_zero.mp h]; exact qfl fns dl
 |succ n ih=>
  intro j h
  rcases Qzd j (n+1) with z|z
  ·exact ih j (by omega)
  ·have e:j=n+1:=by omega
   subst e
   have A:=ih n (Qqj n)
   exact⟨fun c X G e p h=>e_ok A G h,fun c X G e p h=>t_ok A G h,fun c X G e op ps pos h=>w_ok A G h,fun c X G hf ss ps h=>qnv ih G hf h⟩
structure FText (K:Qqq) (mg:Str→Option Value) (fns:List Fn) (names:List Str) (glo:Glo) (f:Nat) (x:Str):Prop where
 ex:∃ (nm:Str) (fa:Addr) (fd:FuncData) (st:Stmt) (N ps:List Str) (F:Fn),fns[f]?=some F∧Fun K nm x st fa fd∧Lc K mg glo f x fa∧Binds K fd ps []∧FnScope N ps (qzz st)∧CkSs ⟨N,qzz st,names,glo⟩ F.body (qzq st)∧F.np=ps.length∧F.nl=N.length
theorem qmi{P:Program}{w:World}{K:Qqq}{mg:Str→Option Value}{base:Heap}{fns:List Fn}{names:List Str}{glo:Glo}{n f:Nat}{nm x:Str}{fa:Addr}{fd:FuncData}{st:Stmt}{N ps:List Str}{F:Fn}(ih:FTab P w K mg base glo fns names n)(Mg:Mo K mg glo w.params)
  (hF:fns[f]?=some F) (hfun:Fun K nm x st fa fd) (hsc:FnScope N ps (qzz st)) (hck:CkSs ⟨N,qzz st,names,glo⟩ F.body (qzq st)) (hnp:F.np=ps.length) (hnl:F.nl=N.length):FnOk P w K mg base CX0 (2*(n+1)) fa fd ps (spN K fns (n+1) f):=by
 have unf:∀ {ds:List D}{st0 st':Store}{d:D},M.callD fns (n+1) f ds st0=some (d,st')→ds.length=F.np∧((M.Lv fns n).ex (ds.map some++List.replicate (F.nl - ds.length) none) st0 F.body).bind (fun p=>match p.1 with
   |.rt d=>some (d,p.2)
   |.nx _=>some (D.non,p.2)
   |_=>none)=some (d,st'):=fun {ds st0 st' d} e=>by
  have e:M.stepCall fns (M.Lv fns n) f ds st0=some (d,st'):=e
  unfold M.stepCall at e
  rw[hF]at e
  dsimp only at e
  split at e
  ·rename_i hl
   exact⟨hl,e⟩
  ·cases e
 refine hfun.ok hsc (fun vs H Q E h=>?_) (fun cdv A outer s H vs Q E hr h=>?_)
 ·obtain⟨m,st0,ds,d,st',_,ix,e,_⟩:=h
  rw[← ix.length,(unf e).1,hnp]
 ·obtain⟨m,st0,ds,d,st',R0,ix,e,q⟩:=h
  obtain⟨hl,e⟩:=unf e
  obtain⟨p,e1,e2⟩:=qzd e
  obtain⟨k,e1⟩:=M.lim1_is e1
  have G:Good fns n ⟨N,qzz st,names,glo⟩ (cxOf CX0 P w K mg base N x (qzz st) fa cdv A outer s H E).nox:=⟨hr,rfl,rfl,rfl,hsc.nd,hsc.kind,ih,Mg,rfl⟩
  refine⟨_,(allOk fns n k k (Qqj k)).s _ _ G (fun _=>rfl) F.body (qzq st) hck,?_⟩
  refine⟨m,st0,ds.map some++List.replicate (F.nl - ds.length) none,p.1,p.2,R0,⟨?_,fun i d0 hi=>?_⟩,e1,fun m1 H1 b1 t1 R1=>?_⟩
  ·unfold L2.start
   rw[Qq0,Qq0,Qqk,Qqk,Qxe,Qxe,hnl,ix.length]
  ·unfold L2.start
   by_cases hlt:i<ds.length
   ·rw[Qzz (by simpa using hlt),Qqn]at hi
    have e3:ds[i]?=some d0:=by
     cases z:ds[i]? with
     |none=>rw[z]at hi; cases hi
     |some y=>rw[z]at hi; cases hi; rfl
    obtain⟨v,e4,iv⟩:=ix.get e3
    refine⟨v,?_,iv⟩
    rw[Qzz (by rw[Qqk,← ix.length]; exact hlt),Qqn,e4]
    rfl
   ·rw[Qq8 (by simpa using hlt),Qx8]at hi
    split at hi<;>cases hi
  ·cases hp:p.1 with
   |rt d1=>
    rw[hp]at e2
    cases e2
    exact fun v iv=>q v m1 H1 b1 t1 R1 iv
   |nx τ1=>
    rw[hp]at e2
    cases e2
    exact fun σ1 S1=>q _ m1 H1 b1 t1 R1 qce
   |bk d1=>rw[hp]at e2; cases e2
   |ct d1=>rw[hp]at e2; cases e2
theorem tab_ok{P:Program}{w:World}{K:Qqq}{mg:Str→Option Value}{base:Heap}{fns:List Fn}{names:List Str}{glo:Glo}(T:∀ f x,names[f]?=some x→FText K mg fns names glo f x)(Mg:Mo K mg glo w.params):
  ∀ n,FTab P w K mg base glo fns names n:=by
 intro n
 induction n with
 |zero=>
  intro f x hx
  obtain⟨nm,fa,fd,st,N,ps,F,hF,hfun,hm,hb,hsc,hck,hnp,hnl⟩:=(T f x hx).ex
  refine⟨fa,fd,ps,hm,?_,hfun.kp,hb⟩
  refine⟨fun vs H Q E h=>?_,fun A outer s H args us vs Q E hr he hbb hv h=>?_⟩
  ·obtain⟨m,st,ds,d,st',_,_,e,_⟩:=h; cases e
  ·obtain⟨m,st,ds,d,st',_,_,e,_⟩:=h; cases e
 |succ n ih=>
  intro f x hx
  obtain⟨nm,fa,fd,st,N,ps,F,hF,hfun,hm,hb,hsc,hck,hnp,hnl⟩:=(T f x hx).ex
  exact⟨fa,fd,ps,hm,qmi ih Mg hF hfun hsc hck hnp hnl,hfun.kp,hb⟩
noncomputable def qis(K:Qqq):Sp:=fun vs H Q _=>∃ (a:Addr) (ns:List Int),vs=[.ref a]∧SqF K H a (ns.map V.int)∧ns.length≤63∧∀ H',Q (.bl true) H'
theorem law_sp{K:Qqq}{fns:List Fn}{n f:Nat}(h:∀ ns:List Int,ns.length≤63→∃ st',M.callD fns n f [.lst (ns.map D.int)] []=some (.bl true,st'))(vs:List V)(H:Hp)(Q:VK)(E:XK)(q:qis K vs H Q E):spN K fns n f vs H Q E:=by
 obtain⟨a,ns,rfl,hS,hl,k⟩:=q
 obtain⟨st',e⟩:=h ns hl
 refine⟨[],[],[.lst (ns.map D.int)],.bl true,st',⟨rfl,fun l l' b c c' e1 e2 e3 e4 w w'=>?_,fun l c b e1 e2=>?_⟩,qzx (qgt hS (qjz ns)) qzm,e,fun v m' H' _ _ _ i=>?_⟩
 ·simp at e3
 ·simp at e1
 ·rw[i.bl]; exact k H'
theorem qox{K:Qqq}{H:Hp}{a:Addr}{xs:List V}(hO:Only H)(h:SqL K H a xs):SqF K H a xs:=by
 rcases h with (h|⟨o,h⟩)|h
 ·rcases hO a with z|⟨ob,ys,z⟩
  ·rw[h]at z; cases z
  ·rw[h]at z; cases z
 ·exact .inl ⟨o,h⟩
 ·exact .inr h
theorem walk_law{l:PySem.W.OpenLaw}{k:Nat}{q:Program}{loose:List Str}{XP:(Str→Option Value)→Heap→Prop}{YP:World→Heap→Prop}{d:DefRec}{K:Params→Qqq}{x:Str}(hn:l.most=some 63)(hdf:d.params.defaults=[])(hr:Room k callerA)
  (hY:∀ (w:World) (h:Heap),YP w h→(K w.params).In h)
  (F:∀ (w:World) (mg:Str→Option Value) (fa:Addr) (h:Heap),(K w.params).In h→h.Ns mainGlobals mg→mg d.name=some (.ref fa)→
   ∃ fd:FuncData,(∀ (s:Shared) (u:Value),BindsTo s fd ⟨[u],[]⟩ [(x,u)])∧∀ base:Heap,(K w.params).In base→base.Ns mainGlobals mg→FnOk l.prog w (K w.params) mg base CX0 k fa fd [x] (qis (K w.params))) :
  PySem.W.WalkO q loose XP YP l.row.toRowW d [] (fun f vs=>PySem.call f vs):=
 L2.walk_of (n:=63) (k:=k) (x:=x) (CX:=fun _=>CX0) (sp:=fun w=>qis (K w.params)) hn (by decide) hdf hr hY F (fun _ _ a ns hl hO hS=>⟨a,ns,rfl,qox hO hS,hl,fun _=>rfl⟩) fun _ _ _ _ _ z=>z
noncomputable def srcOk(sr:List (Option Nat))(N cN:List Str)(scope:Scope):Bool:=(List.range sr.length).all fun j=>match sr[j]? with
 |some (some i)=>match N[j]? with
  |some x=>cN[i]?==some x&&scope.names.lookup x==some .free
  |none=>false
 |_=>true
theorem src_of{sr:List (Option Nat)}{N cN:List Str}{scope:Scope}(h:srcOk sr N cN scope=true):∀ (j i:Nat),sr[j]?=some (some i)→∃ x,N[j]?=some x∧cN[i]?=some x∧scope.names.lookup x=some .free:=by
 intro j i e
 unfold srcOk at h
 rw[Qzo]at h
 have:=h j (Qzl.mpr (Qqb.mp e).1)
 rw[e]at this
 dsimp only at this
 split at this
 ·rename_i x hx
  rw[Qqy,beq_iff_eq,beq_iff_eq]at this
  exact⟨x,hx,this.1,this.2⟩
 ·cases this
inductive FnK (K:Qqq) (x:Str) (st:Stmt):Addr→FuncData→Prop
 |mk {f:Addr}{od an:Option Addr}{sl:Array (Option Value)}{oc kV dc pm cd ct:Value}(a:Qqe K mainGlobals x=some (some (.ref f))) (l:K.lookup f=some ⟨oc,od,.func (PySem.W.fnOf x x (qqx st) (qzq st) (qzz st) .none kV dc pm an cd ct),sl⟩) (c:PySem.W.codeIn K cd x=true) (k:Qzj K (.ref f)=true):FnK K x st f (PySem.W.fnOf x x (qqx st) (qzq st) (qzz st) .none kV dc pm an cd ct)
theorem FnK.text{K:Qqq}{h:Heap}{mg:Str→Option Value}{fns:List Fn}{names:List Str}{glo:Glo}{f:Nat}{x:Str}{st:Stmt}{fa:Addr}{fd:FuncData}{N ps:List Str}(q:FnK K x st fa fd)(X:K.In h)(G:h.Ns mainGlobals mg)(F:Fn)(sc:FnScope N ps (qzz st))(ck:CkSs ⟨N,qzz st,names,glo⟩ F.body (qzq st))(hF:fns[f]?=some F)(hnp:F.np=ps.length)(hnl:F.nl=N.length)
  (b:∀ (kV doc pm:Value) (an:Option Addr) (cdv ct:Value) (us:List Value),us.length=ps.length→bindArgs (PySem.W.fnOf x x (qqx st) (qzq st) (qzz st) .none kV doc pm an cdv ct) ⟨us,[]⟩=pure (ps.zip us)) (hno:(glo.ms.all fun q=>q.1 != f)=true):FText K mg fns names glo f x:=by
 cases q with
 |mk a l c k=>
  refine⟨x,_,_,st,N,ps,F,hF,qba l c k,⟨fun _=>Qq2 X G a,fun C m hm=>?_⟩,(qba l c k).binds b,sc,ck,hnp,hnl⟩
  have:=Qzo.mp hno _ hm
  simp at this
inductive MeK (K:Qqq) (C:Addr) (m x:Str) (st:Stmt):Addr→FuncData→Prop
 |mk {f:Addr}{od an:Option Addr}{sl:Array (Option Value)}{oc kV dc pm cd ct:Value}(a:PySem.W.findIn K (.ref C) m=some (some (.ref f))) (fn:PySem.W.isFn K (.ref f)=true) (l:K.lookup f=some ⟨oc,od,.func (PySem.W.fnOf m x (qqx st) (qzq st) (qzz st) .none kV dc pm an cd ct),sl⟩) (c:PySem.W.codeIn K cd x=true) (k:Qzj K (.ref f)=true):MeK K C m x st f (PySem.W.fnOf m x (qqx st) (qzq st) (qzz st) .none kV dc pm an cd ct)
theorem MeK.text{K:Qqq}{mg:Str→Option Value}{fns:List Fn}{names:List Str}{glo:Glo}{f:Nat}{C:Addr}{m x:Str}{st:Stmt}{fa:Addr}{fd:FuncData}{N ps:List Str}(q:MeK K C m x st fa fd)(F:Fn)(sc:FnScope N ps (qzz st))(ck:CkSs ⟨N,qzz st,names,glo⟩ F.body (qzq st))(hF:fns[f]?=some F)(hnp:F.np=ps.length)(hnl:F.nl=N.length)
  (b:∀ (kV doc pm:Value) (an:Option Addr) (cdv ct:Value) (us:List Value),us.length=ps.length→bindArgs (PySem.W.fnOf m x (qqx st) (qzq st) (qzz st) .none kV doc pm an cdv ct) ⟨us,[]⟩=pure (ps.zip us)) (hd:qlk x=false) (hms:(glo.ms.all fun q=>q.1 != f||q.2==(C,m))=true):FText K mg fns names glo f x:=by
 cases q with
 |mk a fn l c k=>
  refine⟨m,_,_,st,N,ps,F,hF,qba l c k,⟨fun z=>?_,fun C' m' hm=>?_⟩,(qba l c k).binds b,sc,ck,hnp,hnl⟩
  ·rw[hd]at z; cases z
  ·have:=Qzo.mp hms _ hm
   simp only[bne_self_eq_false,Qjc,beq_iff_eq,Prod.mk.injEq]at this
   obtain⟨rfl,rfl⟩:=this
   exact⟨a,fn,k⟩
inductive ClK (K:Qqq) (cn:Str) (C:Addr):Prop
 |mk (a:Qqe K mainGlobals cn=some (some (.ref C))) (pg:PySem.W.plainGet K C Str.empty=true) (hd:PySem.W.hasDictIn K C=true) (po:PySem.W.plainOver K C=true) (sa:PySem.W.findIn K (.ref C) "__setattr__" = some (some (.builtin "object.__setattr__"))) (mk:PySem.W.makesIn K C=true) (kp:Qzj K (.ref C)=true):ClK K cn C
theorem ClK.cls{K:Qqq}{cn:Str}{C:Addr}(h:ClK K cn C):Cls K C:=by
 cases h with
 |mk a pg hd po sa mk kp=>exact⟨pg,hd,po,sa⟩
theorem ClK.mo{K:Qqq}{cn:Str}{C:Addr}{h:Heap}{mg:Str→Option Value}(q:ClK K cn C)(X:K.In h)(G:h.Ns mainGlobals mg):mg cn=some (.ref C)∧Cls K C∧PySem.W.makesIn K C=true∧Qzj K (.ref C)=true:=by
 have c:=q.cls
 cases q with
 |mk a pg hd po sa mk kp=>exact⟨Qq2 X G a,c,mk,kp⟩
inductive NoB (K:Qqq):Prop
 |mk (z0:Qqe K mainGlobals "len" = some none) (z1:Qqe K mainGlobals "min" = some none) (z2:Qqe K mainGlobals "max" = some none) (z3:Qqe K mainGlobals "tuple" = some none) (z4:Qqe K mainGlobals "list" = some none) (z5:Qqe K mainGlobals "all" = some none) (z6:Qqe K mainGlobals "sorted" = some none) (z7:Qqe K mainGlobals "isinstance" = some none) (z8:Qqe K mainGlobals "range" = some none) (z9:Qqe K mainGlobals "int" = some none) (z10:Qqe K mainGlobals "bool" = some none) (z11:Qqe K mainGlobals "str" = some none) (z12:Qqe K mainGlobals "zip" = some none) (z13:Qqe K mainGlobals "any" = some none) (z14:Qqe K mainGlobals "enumerate" = some none) (z15:Qqe K mainGlobals "reversed" = some none) (z16:Qqe K mainGlobals "sum" = some none) (z17:Qqe K mainGlobals "set" = some none) (z18:Qqe K mainGlobals "dict" = some none):NoB K
theorem NoB.mo{K:Qqq}{h:Heap}{mg:Str→Option Value}{glo:Glo}{prm:Params}(z:NoB K)(X:K.In h)(G:h.Ns mainGlobals mg)(h1:∀ x ks ds,(x,ks,ds)∈glo.ds→∃ a,mg x=some (.ref a)∧FDict prm K a ks ds)(h2:∀ x d,(x,d)∈glo.cs→∃ u v,mg x=some u∧RelV v u∧∀ m H,IsD K m H d v)(h3:∀ cn C,(cn,C)∈glo.cl→mg cn=some (.ref C)∧Cls K C∧PySem.W.makesIn K C=true∧Qzj K (.ref C)=true)(h4:∀ C f,(C,f)∈glo.ats→Cls K C∧NoAttr K C f):Mo K mg glo prm:=by
 obtain⟨z0,z1,z2,z3,z4,z5,z6,z7,z8,z9,z10,z11,z12,z13,z14,z15,z16,z17,z18⟩:=z
 exact⟨h3,h4,h1,h2,Qqm X G z0,Qqm X G z1,Qqm X G z2,Qqm X G z3,Qqm X G z4,Qqm X G z5,Qqm X G z6,Qqm X G z7,Qqm X G z8,Qqm X G z9,Qqm X G z10,Qqm X G z11,Qqm X G z12,Qqm X G z13,Qqm X G z14,Qqm X G z15,Qqm X G z16,Qqm X G z17,Qqm X G z18⟩
inductive TupK (K:Qqq) (a:Addr) (vs:Array Value):Prop
 |mk {gd:Option Addr}{gn:Nat}{gs:Array (Option Value)}(h:K.lookup a=some ⟨.type "tuple",gd,.seq vs gn,gs⟩):TupK K a vs
end MS
end
namespace K15
open PySem PySem.Spec PyProof.Rows L2 MS
open M (D Cell Store Sl E S T Src Fn Out R)
noncomputable def names:List Str:=[.ofString "inside",.ofString "has_one",.ofString "counted",.ofString "through",.ofString "Claim.__init__",.ofString "Claim.piece",.ofString "Claim.twin",.ofString "Claim.state",.ofString "Claims.__init__",.ofString "Claims.names",.ofString "Claims.named",.ofString "Claims.stake",.ofString "Claims.vest",.ofString "Claims.vest_all",.ofString "Claims.change",.ofString "Claims.twin",.ofString "bounds",.ofString "fits",.ofString "all_fit",.ofString "is_cell",.ofString "good_steps",.ofString "good_outcrops",.ofString "sound_vein",.ofString "numbers_agree",.ofString "sound",.ofString "check_district",.ofString "check_day",.ofString "Field.__init__",.ofString "Field.enter",.ofString "Field.answer",.ofString "Field.enter_vein",.ofString "Field.enter_stake",.ofString "Field.pass_to",.ofString "Field.claim",.ofString "Field.state",.ofString "Field.years",.ofString "Field.twin",.ofString "_law_draw",.ofString "_law_same",.ofString "_law_term",.ofString "_law_in",.ofString "_law_model",.ofString "_law_state",.ofString "_law_vest",.ofString "_law_enter_claim",.ofString "_law_enter",.ofString "_law_ask",.ofString "_law_passed",.ofString "law"]
noncomputable def glo:Glo:=⟨[("COINS",(.tup [(.int 1),(.int 1000000)])),("DAYS",(.tup [(.int 1),(.int 400)])),("DEPTHS",(.tup [(.int 0),(.int 12)])),("FOLK",(.tup [(.int 1),(.int 40)])),("LEFT",(.int 0)),("LENGTHS",(.tup [(.int 1),(.int 24)])),("LINES",(.tup [(.int 1),(.int 23)])),("LOW",(.int 3)),("MOST_COLUMNS",(.int 16)),("RIGHT",(.int 2)),("SIDES",(.tup [(.int 0),(.int 1)])),("STEPS",(.tup [(.int 0),(.int 4)])),("TERMS",(.tup [(.int 1),(.int 400)])),("TOP",(.int 1))],[("ASKS",["join","stake","work","sell","part","give","dig","pay"],[(.tup [(.str "day"),(.str "day"),(.str "below")]),(.tup [(.str "folk"),(.str "x"),(.str "y"),(.str "x"),(.str "y")]),(.tup [(.str "day")]),(.tup [(.str "day"),(.str "folk")]),(.tup [(.str "day"),(.str "side"),(.str "line"),(.str "folk")]),(.tup [(.str "day")]),(.tup [(.str "folk"),(.str "x"),(.str "y"),(.str "x"),(.str "y"),(.str "floor"),(.str "coins")]),(.tup [(.str "folk"),(.str "folk"),(.str "coins")])])],[(4,191,.ofString "__init__"),(5,191,.ofString "piece"),(6,191,.ofString "twin"),(7,191,.ofString "state"),(8,273,.ofString "__init__"),(9,273,.ofString "names"),(10,273,.ofString "named"),(11,273,.ofString "stake"),(12,273,.ofString "vest"),(13,273,.ofString "vest_all"),(14,273,.ofString "change"),(15,273,.ofString "twin"),(27,642,.ofString "__init__"),(28,642,.ofString "enter"),(29,642,.ofString "answer"),(30,642,.ofString "enter_vein"),(31,642,.ofString "enter_stake"),(32,642,.ofString "pass_to"),(33,642,.ofString "claim"),(34,642,.ofString "state"),(35,642,.ofString "years"),(36,642,.ofString "twin")],[("Claim",191),("Claims",273),("Field",642)],[(191,.ofString "days"),(191,.ofString "given"),(191,.ofString "ground"),(191,.ofString "last"),(191,.ofString "owner"),(191,.ofString "vested"),(273,.ofString "book"),(273,.ofString "row"),(273,.ofString "year"),(642,.ofString "day"),(642,.ofString "debts"),(642,.ofString "dug"),(642,.ofString "extent"),(642,.ofString "found"),(642,.ofString "joints"),(642,.ofString "staked"),(642,.ofString "year")]⟩
theorem ma0:((191,"days"):Addr×Str)∈glo.ats:=by decide +kernel
theorem ma1:((191,"given"):Addr×Str)∈glo.ats:=by decide +kernel
theorem ma2:((191,"ground"):Addr×Str)∈glo.ats:=by decide +kernel
theorem ma3:((191,"last"):Addr×Str)∈glo.ats:=by decide +kernel
theorem ma4:((191,"owner"):Addr×Str)∈glo.ats:=by decide +kernel
theorem ma5:((191,"vested"):Addr×Str)∈glo.ats:=by decide +kernel
theorem ma6:((273,"book"):Addr×Str)∈glo.ats:=by decide +kernel
theorem ma7:((273,"row"):Addr×Str)∈glo.ats:=by decide +kernel
theorem ma8:((273,"year"):Addr×Str)∈glo.ats:=by decide +kernel
theorem ma9:((642,"day"):Addr×Str)∈glo.ats:=by decide +kernel
theorem ma10:((642,"debts"):Addr×Str)∈glo.ats:=by decide +kernel
theorem ma11:((642,"dug"):Addr×Str)∈glo.ats:=by decide +kernel
theorem ma12:((642,"extent"):Addr×Str)∈glo.ats:=by decide +kernel
theorem ma13:((642,"found"):Addr×Str)∈glo.ats:=by decide +kernel
theorem ma14:((642,"joints"):Addr×Str)∈glo.ats:=by decide +kernel
theorem ma15:((642,"staked"):Addr×Str)∈glo.ats:=by decide +kernel
theorem ma16:((642,"year"):Addr×Str)∈glo.ats:=by decide +kernel
theorem mm0:((4,191,"__init__"):Nat×Addr×Str)∈glo.ms:=by decide +kernel
theorem mm1:((5,191,"piece"):Nat×Addr×Str)∈glo.ms:=by decide +kernel
theorem mm2:((6,191,"twin"):Nat×Addr×Str)∈glo.ms:=by decide +kernel
theorem mm3:((7,191,"state"):Nat×Addr×Str)∈glo.ms:=by decide +kernel
theorem mm4:((8,273,"__init__"):Nat×Addr×Str)∈glo.ms:=by decide +kernel
theorem mm5:((9,273,"names"):Nat×Addr×Str)∈glo.ms:=by decide +kernel
theorem mm6:((10,273,"named"):Nat×Addr×Str)∈glo.ms:=by decide +kernel
theorem mm7:((11,273,"stake"):Nat×Addr×Str)∈glo.ms:=by decide +kernel
theorem mm8:((12,273,"vest"):Nat×Addr×Str)∈glo.ms:=by decide +kernel
theorem mm9:((13,273,"vest_all"):Nat×Addr×Str)∈glo.ms:=by decide +kernel
theorem mm10:((14,273,"change"):Nat×Addr×Str)∈glo.ms:=by decide +kernel
theorem mm11:((15,273,"twin"):Nat×Addr×Str)∈glo.ms:=by decide +kernel
theorem mm12:((27,642,"__init__"):Nat×Addr×Str)∈glo.ms:=by decide +kernel
theorem mm13:((28,642,"enter"):Nat×Addr×Str)∈glo.ms:=by decide +kernel
theorem mm14:((29,642,"answer"):Nat×Addr×Str)∈glo.ms:=by decide +kernel
theorem mm15:((30,642,"enter_vein"):Nat×Addr×Str)∈glo.ms:=by decide +kernel
theorem mm16:((31,642,"enter_stake"):Nat×Addr×Str)∈glo.ms:=by decide +kernel
theorem mm17:((32,642,"pass_to"):Nat×Addr×Str)∈glo.ms:=by decide +kernel
theorem mm18:((33,642,"claim"):Nat×Addr×Str)∈glo.ms:=by decide +kernel
theorem mm19:((34,642,"state"):Nat×Addr×Str)∈glo.ms:=by decide +kernel
theorem mm20:((35,642,"years"):Nat×Addr×Str)∈glo.ms:=by decide +kernel
theorem mm21:((36,642,"twin"):Nat×Addr×Str)∈glo.ms:=by decide +kernel
theorem mc0:(("Claim",191):Str×Addr)∈glo.cl:=by decide +kernel
theorem mc1:(("Claims",273):Str×Addr)∈glo.cl:=by decide +kernel
theorem mc2:(("Field",642):Str×Addr)∈glo.cl:=by decide +kernel
abbrev s_inside:Stmt:=(top 14)
theorem qgz:FnScope ["rect","cell"] ["rect","cell"] (qzz s_inside):=⟨rfl,rfl,rfl,by decide +kernel,rfl,by decide +kernel,by decide +kernel⟩
theorem qh4:CkSs ⟨["rect","cell"],qzz s_inside,names,glo⟩ qeq (qzq s_inside):=
  (.cons (.ret (.and2 (.cmp2 (.idx .v (.glo rfl (.tail _ (.tail _ (.tail _ (.tail _ (.head _))))) rfl)) (.idx .v .int) (.idx .v (.glo rfl (.tail _ (.tail _ (.tail _ (.tail _ (.tail _ (.tail _ (.tail _ (.tail _ (.tail _ (.head _)))))))))) rfl)) (by with_unfolding_all rfl)) (.cmp2 (.idx .v (.glo rfl (.tail _ (.tail _ (.tail _ (.tail _ (.tail _ (.tail _ (.tail _ (.tail _ (.tail _ (.tail _ (.tail _ (.tail _ (.tail _ (.head _)))))))))))))) rfl)) (.idx .v .int) (.idx .v (.glo rfl (.tail _ (.tail _ (.tail _ (.tail _ (.tail _ (.tail _ (.tail _ (.head _)))))))) rfl)) (by with_unfolding_all rfl))))
  .nil)
abbrev s_has_one:Stmt:=(top 15)
theorem qeh:FnScope ["rect","some"] ["rect","some"] (qzz s_has_one):=⟨rfl,rfl,rfl,by decide +kernel,rfl,by decide +kernel,by decide +kernel⟩
theorem qfc:CkSs ⟨["rect","some"],qzz s_has_one,names,glo⟩ qcz (qzq s_has_one):=
  (.cons (.ret (.bcall (.cons (.gc (.comp (N:=["cell","rect"]) (.seq .v) (.var rfl (.inl rfl)) (.gc (.call (.cons (.var rfl (.inr (.inl rfl)) rfl rfl) (.cons .v .nil)))))) .nil)))
  .nil)
abbrev s_counted:Stmt:=(top 20)
theorem qei:FnScope ["term","days","kept","day"] ["term","days"] (qzz s_counted):=⟨rfl,rfl,rfl,by decide +kernel,rfl,by decide +kernel,by decide +kernel⟩
theorem qfd:CkSs ⟨["term","days","kept","day"],qzz s_counted,names,glo⟩ qcq (qzq s_counted):=
  (.cons (.st (.lst .nil))
  (.cons (.forr (.var rfl (.inl rfl)) (.seq .v) (fun _ _=>rfl) (.cons (.ite (.or2 (.not .v) (.cmp .v (.bin (.idx .v (.neg .int)) .v))) (.cons (.expr (.append .v .v) (fun _=>rfl))
  .nil) .nil)
  .nil))
  (.cons (.ret .v)
  .nil)))
abbrev s_through:Stmt:=(top 21)
theorem qee:FnScope ["term","days"] ["term","days"] (qzz s_through):=⟨rfl,rfl,rfl,by decide +kernel,rfl,by decide +kernel,by decide +kernel⟩
theorem qfy:CkSs ⟨["term","days"],qzz s_through,names,glo⟩ qb7 (qzq s_through):=
  (.cons (.ret (.bin (.idx (.gc (.call (.cons .v (.cons .v .nil)))) (.neg .int)) .v))
  .nil)
abbrev s_Claim_init:Stmt:=(cb (top 23) 0)
theorem qy1:FnScope ["self","owner","ground","days","last"] ["self","owner","ground","days","last"] (qzz s_Claim_init):=⟨rfl,rfl,rfl,by decide +kernel,rfl,by decide +kernel,by decide +kernel⟩
theorem qag:CkSs ⟨["self","owner","ground","days","last"],qzz s_Claim_init,names,glo⟩ qkh (qzq s_Claim_init):=
  (.cons (.setA .v .v ma4 (fun _=>rfl))
  (.cons (.setA .v .v ma2 (fun _=>rfl))
  (.cons (.setA .v .v ma0 (fun _=>rfl))
  (.cons (.setA .v .v ma3 (fun _=>rfl))
  (.cons (.setA .v .non ma5 (fun _=>rfl))
  (.cons (.setA .v .non ma1 (fun _=>rfl))
  .nil))))))
abbrev s_Claim_piece:Stmt:=(cb (top 23) 1)
theorem qwh:FnScope ["self","owner","ground","other"] ["self","owner","ground"] (qzz s_Claim_piece):=⟨rfl,rfl,rfl,by decide +kernel,rfl,by decide +kernel,by decide +kernel⟩
theorem qw1:CkSs ⟨["self","owner","ground","other"],qzz s_Claim_piece,names,glo⟩ qjt (qzq s_Claim_piece):=
  (.cons (.st (.new (.cons .v (.cons .v (.cons (.bcall (.cons (.attr .v ma0) .nil)) (.cons (.attr .v ma3) .nil)))) rfl mm0 mc0))
  (.cons (.setA .v (.attr .v ma5) ma5 (fun _=>rfl))
  (.cons (.ret .v)
  .nil)))
abbrev s_Claim_twin:Stmt:=(cb (top 23) 2)
theorem qy0:FnScope ["self","other"] ["self"] (qzz s_Claim_twin):=⟨rfl,rfl,rfl,by decide +kernel,rfl,by decide +kernel,by decide +kernel⟩
theorem qaf:CkSs ⟨["self","other"],qzz s_Claim_twin,names,glo⟩ qkg (qzq s_Claim_twin):=
  (.cons (.st (.mcall .v (.cons (.attr .v ma4) (.cons (.attr .v ma2) .nil)) rfl mm1 mc0))
  (.cons (.setA .v (.attr .v ma1) ma1 (fun _=>rfl))
  (.cons (.ret .v)
  .nil)))
abbrev s_Claim_state:Stmt:=(cb (top 23) 3)
theorem qwg:FnScope ["self","day"] ["self","day"] (qzz s_Claim_state):=⟨rfl,rfl,rfl,by decide +kernel,rfl,by decide +kernel,by decide +kernel⟩
theorem qw0:CkSs ⟨["self","day"],qzz s_Claim_state,names,glo⟩ qjs (qzq s_Claim_state):=
  (.cons (.ite (.cmp (.attr .v ma1) .non) (.cons (.ret .str)
  .nil) .nil)
  (.cons (.ite (.cmp .v (.attr .v ma3)) (.cons (.ret .str)
  .nil) .nil)
  (.cons (.ite (.cmp (.attr .v ma5) .non) (.cons (.ret .str)
  .nil) .nil)
  (.cons (.ret .str)
  .nil))))
abbrev s_Claims_init:Stmt:=(cb (top 24) 0)
theorem qwf:FnScope ["self","year"] ["self","year"] (qzz s_Claims_init):=⟨rfl,rfl,rfl,by decide +kernel,rfl,by decide +kernel,by decide +kernel⟩
theorem qwu:CkSs ⟨["self","year"],qzz s_Claims_init,names,glo⟩ qjr (qzq s_Claims_init):=
  (.cons (.setA .v .v ma8 (fun _=>rfl))
  (.cons (.setA .v .dic0 ma6 (fun _=>rfl))
  (.cons (.setA .v (.lst .nil) ma7 (fun _=>rfl))
  .nil)))
abbrev s_Claims_names:Stmt:=(cb (top 24) 1)
theorem qvj:FnScope ["self"] ["self"] (qzz s_Claims_names):=⟨rfl,rfl,rfl,by decide +kernel,rfl,by decide +kernel,by decide +kernel⟩
theorem qv5:CkSs ⟨["self"],qzz s_Claims_names,names,glo⟩ qxl (qzq s_Claims_names):=
  (.cons (.ret (.bcall (.cons (.attr .v ma6) .nil)))
  .nil)
abbrev s_Claims_named:Stmt:=(cb (top 24) 2)
theorem qvk:FnScope ["self","name"] ["self","name"] (qzz s_Claims_named):=⟨rfl,rfl,rfl,by decide +kernel,rfl,by decide +kernel,by decide +kernel⟩
theorem qv6:CkSs ⟨["self","name"],qzz s_Claims_named,names,glo⟩ qxm (qzq s_Claims_named):=
  (.cons (.ite (.dnin .v (.attr .v ma6) rfl) (.cons .bad
  .nil) .nil)
  (.cons (.ret (.didx (.attr .v ma6) .v (fun _ _=>rfl)))
  .nil))
abbrev s_Claims_stake:Stmt:=(cb (top 24) 4)
theorem qvx:FnScope ["self","day","who","ground","outcrops"] ["self","day","who","ground","outcrops"] (qzz s_Claims_stake):=⟨rfl,rfl,rfl,by decide +kernel,rfl,by decide +kernel,by decide +kernel⟩
theorem qv4:CkSs ⟨["self","day","who","ground","outcrops"],qzz s_Claims_stake,names,glo⟩ qxi (qzq s_Claims_stake):=
  (.cons (.dset (.attr .v ma6) .v (.new (.cons .v (.cons .v (.cons (.lst (.cons .v .nil)) (.cons (.gc (.call (.cons (.attr .v ma8) (.cons (.gc (.lst (.cons .v .nil))) .nil)))) .nil)))) rfl mm0 mc0) (fun _=>rfl))
  (.cons (.expr (.mcall .v (.cons .v (.cons .v (.cons .v .nil))) rfl mm8 mc1) (fun _=>rfl))
  .nil))
abbrev s_Claims_vest:Stmt:=(cb (top 24) 5)
theorem qwd:FnScope ["self","name","day","outcrops","claim"] ["self","name","day","outcrops"] (qzz s_Claims_vest):=⟨rfl,rfl,rfl,by decide +kernel,rfl,by decide +kernel,by decide +kernel⟩
theorem qws:CkSs ⟨["self","name","day","outcrops","claim"],qzz s_Claims_vest,names,glo⟩ qjo (qzq s_Claims_vest):=
  (.cons (.st (.didx (.attr .v ma6) .v (fun _ _=>rfl)))
  (.cons (.ite (.and2 (.cmp (.gc (.mcall .v (.cons .v .nil) rfl mm3 mc0)) .str) (.gc (.call (.cons (.attr .v ma2) (.cons .v .nil))))) (.cons (.setA .v .v ma5 (fun _=>rfl))
  (.cons (.expr (.append (.attr .v ma7) .v) (fun _=>rfl))
  .nil)) .nil)
  .nil))
abbrev s_Claims_vest_all:Stmt:=(cb (top 24) 6)
theorem qx2:FnScope ["self","day","outcrops","name"] ["self","day","outcrops"] (qzz s_Claims_vest_all):=⟨rfl,rfl,rfl,by decide +kernel,rfl,by decide +kernel,by decide +kernel⟩
theorem qjg:CkSs ⟨["self","day","outcrops","name"],qzz s_Claims_vest_all,names,glo⟩ qqm (qzq s_Claims_vest_all):=
  (.cons (.forr (.var rfl (.inl rfl)) (.seq (.gc (.mcall .v .nil rfl mm5 mc1))) (fun _ _=>rfl) (.cons (.expr (.mcall .v (.cons .v (.cons .v (.cons .v .nil))) rfl mm8 mc1) (fun _=>rfl))
  .nil))
  .nil)
abbrev s_Claims_change:Stmt:=(cb (top 24) 7)
theorem qko:FnScope ["self","day","fact","name","claim"] ["self","day","fact"] (qzz s_Claims_change):=⟨rfl,rfl,rfl,by decide +kernel,rfl,by decide +kernel,by decide +kernel⟩
theorem qk0:CkSs ⟨["self","day","fact","name","claim"],qzz s_Claims_change,names,glo⟩ qxj (qzq s_Claims_change):=
  (.cons (.st (.idx .v .int))
  (.cons (.ite (.dnin .v (.attr .v ma6) rfl) (.cons (.ret .str)
  .nil) .nil)
  (.cons (.st (.didx (.attr .v ma6) .v (fun _ _=>rfl)))
  (.cons (.ite (.cmp (.gc (.mcall .v (.cons .v .nil) rfl mm3 mc0)) (.tup (.cons .str (.cons .str .nil)))) (.cons (.ret .str)
  .nil) .nil)
  (.cons (.ite (.cmp (.idx .v .int) .str) (.cons .bad
  .nil) .nil)
  (.cons (.ite (.cmp (.idx .v .int) .str) (.cons (.expr (.append (.attr .v ma0) .v) (fun _=>rfl))
  (.cons (.setA .v (.gc (.call (.cons (.attr .v ma8) (.cons (.attr .v ma0) .nil)))) ma3 (fun _=>rfl))
  .nil)) (.cons (.ite (.cmp (.idx .v .int) .str) (.cons (.setA .v (.idx .v .int) ma4 (fun _=>rfl))
  .nil) (.cons (.setA .v .v ma1 (fun _=>rfl))
  .nil))
  .nil))
  (.cons (.ret .str)
  .nil)))))))
abbrev s_Claims_twin:Stmt:=(cb (top 24) 9)
theorem qwe:FnScope ["self","book","name","other"] ["self"] (qzz s_Claims_twin):=⟨rfl,rfl,rfl,by decide +kernel,rfl,by decide +kernel,by decide +kernel⟩
theorem qwt:CkSs ⟨["self","book","name","other"],qzz s_Claims_twin,names,glo⟩ qjp (qzq s_Claims_twin):=
  (.cons (.st .dic0)
  (.cons (.ford (.var rfl (.inl rfl)) (.attr .v ma6) (fun _ _=>rfl) (.cons (.dset .v .v (.mcall (.didx (.attr .v ma6) .v (fun _ _=>rfl)) .nil rfl mm2 mc0) (fun _=>rfl))
  .nil))
  (.cons (.st (.new (.cons (.attr .v ma8) .nil) rfl mm4 mc1))
  (.cons (.setA .v .v ma6 (fun _=>rfl))
  (.cons (.setA .v (.bcall (.cons (.attr .v ma7) .nil)) ma7 (fun _=>rfl))
  (.cons (.ret .v)
  .nil))))))
abbrev s_bounds:Stmt:=(top 34)
theorem qgq:FnScope ["size"] ["size"] (qzz s_bounds):=⟨rfl,rfl,rfl,by decide +kernel,rfl,by decide +kernel,by decide +kernel⟩
theorem qh5:CkSs ⟨["size"],qzz s_bounds,names,glo⟩ qex (qzq s_bounds):=
  (.cons (.ret (.dic (.cons .str (.glo rfl (.tail _ (.head _)) rfl) (.cons .str (.glo rfl (.tail _ (.tail _ (.tail _ (.head _)))) rfl) (.cons .str (.tup (.cons .int (.cons (.bin (.idx .v .int) .int) .nil))) (.cons .str (.tup (.cons .int (.cons (.bin (.idx .v .int) .int) .nil))) (.cons .str (.tup (.cons .int (.cons (.idx .v .int) .nil))) (.cons .str (.tup (.cons .int (.cons (.idx .v .int) .nil))) (.cons .str (.glo rfl (.tail _ (.tail _ (.tail _ (.tail _ (.tail _ (.tail _ (.tail _ (.tail _ (.tail _ (.tail _ (.head _))))))))))) rfl) (.cons .str (.glo rfl (.tail _ (.tail _ (.tail _ (.tail _ (.tail _ (.tail _ (.head _))))))) rfl) (.cons .str (.glo rfl (.tail _ (.tail _ (.tail _ (.tail _ (.tail _ (.tail _ (.tail _ (.tail _ (.tail _ (.tail _ (.tail _ (.head _)))))))))))) rfl) (.cons .str (.glo rfl (.head _) rfl) .nil)))))))))) (by decide)))
  .nil)
abbrev s_fits:Stmt:=(top 35)
theorem qnb:FnScope ["value","bound"] ["value","bound"] (qzz s_fits):=⟨rfl,rfl,rfl,by decide +kernel,rfl,by decide +kernel,by decide +kernel⟩
theorem qpz:CkSs ⟨["value","bound"],qzz s_fits,names,glo⟩ qmp (qzq s_fits):=
  (.cons (.ite (.or2 (.isi1 .v) (.not (.isi1 .v))) (.cons (.ret .bl)
  .nil) .nil)
  (.cons (.ret (.cmp2 (.idx .v .int) .v (.idx .v .int) (by with_unfolding_all rfl)))
  .nil))
abbrev s_all_fit:Stmt:=(top 36)
theorem qel:FnScope ["size","asked","values","known"] ["size","asked","values"] (qzz s_all_fit):=⟨rfl,rfl,rfl,by decide +kernel,rfl,by decide +kernel,by decide +kernel⟩
theorem qfe:CkSs ⟨["size","asked","values","known"],qzz s_all_fit,names,glo⟩ qcx (qzq s_all_fit):=
  (.cons (.ite (.cmp (.bcall (.cons .v .nil)) (.bcall (.cons .v .nil))) (.cons (.ret .bl)
  .nil) .nil)
  (.cons (.set rfl (.inr rfl) (.call (.cons .v .nil)) (fun _=>rfl))
  (.cons (.ret (.bcall (.cons (.gc (.comp (N:=["value","kind","known"]) (.zip rfl .v .v) (.tup (.cons rfl (.inl rfl) (.cons rfl (.inl rfl) .nil))) (.gc (.call (.cons .v (.cons (.didx (.var rfl (.inr (.inl rfl)) rfl rfl) .v (fun _ _=>rfl)) .nil)))))) .nil)))
  .nil)))
abbrev s_is_cell:Stmt:=(top 37)
theorem qeg:FnScope ["size","thing"] ["size","thing"] (qzz s_is_cell):=⟨rfl,rfl,rfl,by decide +kernel,rfl,by decide +kernel,by decide +kernel⟩
theorem qfb:CkSs ⟨["size","thing"],qzz s_is_cell,names,glo⟩ qb9 (qzq s_is_cell):=
  (.cons (.ret (.and2 (.isi1 .v) (.gc (.call (.cons .v (.cons (.tup (.cons .str (.cons .str .nil))) (.cons .v .nil)))))))
  .nil)
abbrev s_good_steps:Stmt:=(top 38)
theorem qys:FnScope ["size","steps"] ["size","steps"] (qzz s_good_steps):=⟨rfl,rfl,rfl,by decide +kernel,rfl,by decide +kernel,by decide +kernel⟩
theorem qac:CkSs ⟨["size","steps"],qzz s_good_steps,names,glo⟩ qkd (qzq s_good_steps):=
  (.cons (.ret (.and2 (.isi1 .v) (.gc (.call (.cons .v (.cons (.bin (.tup (.cons .str .nil)) (.idx .v .int)) (.cons .v .nil)))))))
  .nil)
abbrev s_good_outcrops:Stmt:=(top 39)
theorem qkm:FnScope ["size","outcrops"] ["size","outcrops"] (qzz s_good_outcrops):=⟨rfl,rfl,rfl,by decide +kernel,rfl,by decide +kernel,by decide +kernel⟩
theorem qkt:CkSs ⟨["size","outcrops"],qzz s_good_outcrops,names,glo⟩ qxq (qzq s_good_outcrops):=
  (.cons (.ite (.or2 (.not (.isi1 .v)) (.not (.cmp2 .int (.bcall (.cons .v .nil)) (.glo rfl (.tail _ (.tail _ (.tail _ (.tail _ (.tail _ (.tail _ (.tail _ (.tail _ (.head _))))))))) rfl) (by with_unfolding_all rfl)))) (.cons (.ret .bl)
  .nil) .nil)
  (.cons (.ite (.not (.bcall (.cons (.gc (.comp (N:=["thing","size"]) (.seq .v) (.var rfl (.inl rfl)) (.gc (.call (.cons (.var rfl (.inr (.inl rfl)) rfl rfl) (.cons .v .nil)))))) .nil))) (.cons (.ret .bl)
  .nil) .nil)
  (.cons (.ret (.cmp (.lenset rfl rfl .v) (.bcall (.cons .v .nil))))
  .nil)))
abbrev s_sound_vein:Stmt:=(top 40)
theorem qyp:FnScope ["size","fact"] ["size","fact"] (qzz s_sound_vein):=⟨rfl,rfl,rfl,by decide +kernel,rfl,by decide +kernel,by decide +kernel⟩
theorem qaa:CkSs ⟨["size","fact"],qzz s_sound_vein,names,glo⟩ qkb (qzq s_sound_vein):=
  (.cons (.ret (.andN (.cmp (.bcall (.cons .v .nil)) .int) (.and2 (.gc (.call (.cons .v (.cons (.idx .v .int) .nil)))) (.gc (.call (.cons .v (.cons (.idx .v .int) .nil)))))))
  .nil)
abbrev s_numbers_agree:Stmt:=(top 41)
theorem qkl:FnScope ["fact"] ["fact"] (qzz s_numbers_agree):=⟨rfl,rfl,rfl,by decide +kernel,rfl,by decide +kernel,by decide +kernel⟩
theorem qks:CkSs ⟨["fact"],qzz s_numbers_agree,names,glo⟩ qxz (qzq s_numbers_agree):=
  (.cons (.ite (.cmp (.idx .v .int) .str) (.cons (.ret (.and2 (.cmp (.idx .v .int) (.idx .v .int)) (.cmp (.idx .v .int) (.idx .v .int))))
  .nil) .nil)
  (.cons (.ite (.cmp (.idx .v .int) .str) (.cons (.ret (.cmp (.idx .v .int) (.idx .v .int)))
  .nil) .nil)
  (.cons (.ret .bl)
  .nil)))
abbrev s_sound:Stmt:=(top 42)
theorem qiu:FnScope ["size","fact"] ["size","fact"] (qzz s_sound):=⟨rfl,rfl,rfl,by decide +kernel,rfl,by decide +kernel,by decide +kernel⟩
theorem ql2:CkSs ⟨["size","fact"],qzz s_sound,names,glo⟩ qif (qzq s_sound):=
  (.cons (.ite (.cmp (.idx .v .int) .str) (.cons (.ret (.call (.cons .v (.cons .v .nil))))
  .nil) .nil)
  (.cons (.ite (.gnin rfl (.head _) rfl (.idx .v .int)) (.cons (.ret .bl)
  .nil) .nil)
  (.cons (.ret (.and2 (.gc (.call (.cons .v (.cons (.gidx rfl (.head _) rfl (.idx .v .int) (fun _ _=>rfl)) (.cons (.gc (.sli .v (.some .int) .none)) .nil))))) (.gc (.call (.cons .v .nil)))))
  .nil)))
abbrev s_check_district:Stmt:=(top 66)
theorem qj0:FnScope ["wide","tall","deep","term"] ["wide","tall","deep","term"] (qzz s_check_district):=⟨rfl,rfl,rfl,by decide +kernel,rfl,by decide +kernel,by decide +kernel⟩
theorem qj6:CkSs ⟨["wide","tall","deep","term"],qzz s_check_district,names,glo⟩ qqt (qzq s_check_district):=
  (.cons (.ite (.not (.andN (.gc (.call (.cons .v (.cons (.glo rfl (.tail _ (.tail _ (.tail _ (.tail _ (.tail _ (.head _)))))) rfl) .nil)))) (.andN (.gc (.call (.cons .v (.cons (.glo rfl (.tail _ (.tail _ (.tail _ (.tail _ (.tail _ (.head _)))))) rfl) .nil)))) (.and2 (.gc (.call (.cons .v (.cons (.glo rfl (.tail _ (.tail _ (.head _))) rfl) .nil)))) (.gc (.call (.cons .v (.cons (.glo rfl (.tail _ (.tail _ (.tail _ (.tail _ (.tail _ (.tail _ (.tail _ (.tail _ (.tail _ (.tail _ (.tail _ (.tail _ (.head _))))))))))))) rfl) .nil)))))))) (.cons .bad
  .nil) .nil)
  .nil)
abbrev s_check_day:Stmt:=(top 67)
theorem qau:FnScope ["day"] ["day"] (qzz s_check_day):=⟨rfl,rfl,rfl,by decide +kernel,rfl,by decide +kernel,by decide +kernel⟩
theorem qbp:CkSs ⟨["day"],qzz s_check_day,names,glo⟩ qwx (qzq s_check_day):=
  (.cons (.ite (.not (.gc (.call (.cons .v (.cons (.glo rfl (.tail _ (.head _)) rfl) .nil))))) (.cons .bad
  .nil) .nil)
  .nil)
abbrev s_Field_init:Stmt:=(cb (top 68) 0)
theorem qyu:FnScope ["self","wide","tall","deep","term"] ["self","wide","tall","deep","term"] (qzz s_Field_init):=⟨rfl,rfl,rfl,by decide +kernel,rfl,by decide +kernel,by decide +kernel⟩
theorem qae:CkSs ⟨["self","wide","tall","deep","term"],qzz s_Field_init,names,glo⟩ qkf (qzq s_Field_init):=
  (.cons (.expr (.gc (.call (.cons .v (.cons .v (.cons .v (.cons .v .nil)))))) (fun _=>rfl))
  (.cons (.setA .v (.tup (.cons .v (.cons .v (.cons .v .nil)))) ma12 (fun _=>rfl))
  (.cons (.setA .v .v ma16 (fun _=>rfl))
  (.cons (.setA .v .int ma9 (fun _=>rfl))
  (.cons (.setA .v .dic0 ma13 (fun _=>rfl))
  (.cons (.setA .v .dic0 ma14 (fun _=>rfl))
  (.cons (.setA .v (.new (.cons .v .nil) rfl mm4 mc1) ma15 (fun _=>rfl))
  (.cons (.setA .v .dic0 ma11 (fun _=>rfl))
  (.cons (.setA .v (.lst .nil) ma10 (fun _=>rfl))
  .nil)))))))))
abbrev s_Field_enter:Stmt:=(cb (top 68) 1)
theorem qwb:FnScope ["self","day","fact"] ["self","day","fact"] (qzz s_Field_enter):=⟨rfl,rfl,rfl,by decide +kernel,rfl,by decide +kernel,by decide +kernel⟩
theorem qwp:CkSs ⟨["self","day","fact"],qzz s_Field_enter,names,glo⟩ qjm (qzq s_Field_enter):=
  (.cons (.expr (.gc (.call (.cons .v .nil))) (fun _=>rfl))
  (.cons (.ite (.not (.gc (.call (.cons (.attr .v ma12) (.cons .v .nil))))) (.cons .bad
  .nil) .nil)
  (.cons (.ite (.cmp .v (.attr .v ma9)) (.cons .bad
  .nil) .nil)
  (.cons (.setA .v .v ma9 (fun _=>rfl))
  (.cons (.ret (.mcall .v (.cons .v .nil) rfl mm14 mc2))
  .nil)))))
abbrev s_Field_answer:Stmt:=(cb (top 68) 2)
theorem qvq:FnScope ["self","fact"] ["self","fact"] (qzz s_Field_answer):=⟨rfl,rfl,rfl,by decide +kernel,rfl,by decide +kernel,by decide +kernel⟩
theorem qv3:CkSs ⟨["self","fact"],qzz s_Field_answer,names,glo⟩ qxh (qzq s_Field_answer):=
  (.cons (.ite (.cmp (.idx .v .int) .str) (.cons (.ret (.mcall .v (.cons .v .nil) rfl mm15 mc2))
  .nil) .nil)
  (.cons (.ite (.cmp (.idx .v .int) .str) (.cons .bad
  .nil) .nil)
  (.cons (.ite (.cmp (.idx .v .int) .str) (.cons (.ret (.mcall .v (.cons .v .nil) rfl mm16 mc2))
  .nil) .nil)
  (.cons (.ite (.cmp (.idx .v .int) .str) (.cons .bad
  .nil) .nil)
  (.cons (.ite (.cmp (.idx .v .int) .str) (.cons .bad
  .nil) .nil)
  (.cons (.ret (.mcall (.attr .v ma15) (.cons (.attr .v ma9) (.cons .v .nil)) rfl mm10 mc1))
  .nil))))))
abbrev s_Field_enter_vein:Stmt:=(cb (top 68) 3)
theorem qxn:FnScope ["self","fact"] ["self","fact"] (qzz s_Field_enter_vein):=⟨rfl,rfl,rfl,by decide +kernel,rfl,by decide +kernel,by decide +kernel⟩
theorem qxu:CkSs ⟨["self","fact"],qzz s_Field_enter_vein,names,glo⟩ qqa (qzq s_Field_enter_vein):=
  (.cons (.dset (.attr .v ma13) (.attr .v ma9) (.tup (.cons (.idx .v .int) (.cons (.idx .v .int) .nil))) (fun _=>rfl))
  (.cons (.expr (.mcall (.attr .v ma15) (.cons (.attr .v ma9) (.cons (.idx .v .int) .nil)) rfl mm9 mc1) (fun _=>rfl))
  (.cons (.ret .str)
  .nil)))
abbrev s_Field_enter_stake:Stmt:=(cb (top 68) 5)
theorem qxa:FnScope ["self","fact","outcrops","vein"] ["self","fact"] (qzz s_Field_enter_stake):=⟨rfl,rfl,rfl,by decide +kernel,rfl,by decide +kernel,by decide +kernel⟩
theorem qxb:CkSs ⟨["self","fact","outcrops","vein"],qzz s_Field_enter_stake,names,glo⟩ qqk (qzq s_Field_enter_stake):=
  (.cons (.st (.lst .nil))
  (.cons (.ford (.var rfl (.inl rfl)) (.attr .v ma13) (fun _ _=>rfl) (.cons (.expr (.extend .v (.idx (.didx (.attr .v ma13) .v (fun _ _=>rfl)) .int)) (fun _=>rfl))
  .nil))
  (.cons (.expr (.mcall (.attr .v ma15) (.cons (.attr .v ma9) (.cons (.idx .v .int) (.cons (.sli .v (.some .int) (.some .int)) (.cons .v .nil)))) rfl mm7 mc1) (fun _=>rfl))
  (.cons (.ret .str)
  .nil))))
abbrev s_Field_pass_to:Stmt:=(cb (top 68) 10)
theorem qkn:FnScope ["self","day"] ["self","day"] (qzz s_Field_pass_to):=⟨rfl,rfl,rfl,by decide +kernel,rfl,by decide +kernel,by decide +kernel⟩
theorem qku:CkSs ⟨["self","day"],qzz s_Field_pass_to,names,glo⟩ qxx (qzq s_Field_pass_to):=
  (.cons (.expr (.gc (.call (.cons .v .nil))) (fun _=>rfl))
  (.cons (.ite (.cmp .v (.attr .v ma9)) (.cons .bad
  .nil) .nil)
  (.cons (.setA .v .v ma9 (fun _=>rfl))
  .nil)))
abbrev s_Field_claim:Stmt:=(cb (top 68) 18)
theorem qwc:FnScope ["self","name","claim"] ["self","name"] (qzz s_Field_claim):=⟨rfl,rfl,rfl,by decide +kernel,rfl,by decide +kernel,by decide +kernel⟩
theorem qwr:CkSs ⟨["self","name","claim"],qzz s_Field_claim,names,glo⟩ qjn (qzq s_Field_claim):=
  (.cons (.st (.mcall (.attr .v ma15) (.cons .v .nil) rfl mm6 mc1))
  (.cons (.ret (.tup (.cons (.attr .v ma4) (.cons (.attr .v ma2) (.cons (.attr .v ma3) (.cons (.attr .v ma5) (.cons (.attr .v ma1) .nil)))))))
  .nil))
abbrev s_Field_state:Stmt:=(cb (top 68) 19)
theorem qwa:FnScope ["self","name"] ["self","name"] (qzz s_Field_state):=⟨rfl,rfl,rfl,by decide +kernel,rfl,by decide +kernel,by decide +kernel⟩
theorem qwo:CkSs ⟨["self","name"],qzz s_Field_state,names,glo⟩ qjl (qzq s_Field_state):=
  (.cons (.ret (.mcall (.mcall (.attr .v ma15) (.cons .v .nil) rfl mm6 mc1) (.cons (.attr .v ma9) .nil) rfl mm3 mc0))
  .nil)
abbrev s_Field_years:Stmt:=(cb (top 68) 20)
theorem qwy:FnScope ["self","name"] ["self","name"] (qzz s_Field_years):=⟨rfl,rfl,rfl,by decide +kernel,rfl,by decide +kernel,by decide +kernel⟩
theorem qwn:CkSs ⟨["self","name"],qzz s_Field_years,names,glo⟩ qji (qzq s_Field_years):=
  (.cons (.ret (.bcall (.cons (.attr (.mcall (.attr .v ma15) (.cons .v .nil) rfl mm6 mc1) ma0) .nil)))
  .nil)
abbrev s_Field_twin:Stmt:=(cb (top 68) 23)
theorem qyt:FnScope ["self","other"] ["self"] (qzz s_Field_twin):=⟨rfl,rfl,rfl,by decide +kernel,rfl,by decide +kernel,by decide +kernel⟩
theorem qad:CkSs ⟨["self","other"],qzz s_Field_twin,names,glo⟩ qke (qzq s_Field_twin):=
  (.cons (.st (.new (.cons (.idx (.attr .v ma12) .int) (.cons (.idx (.attr .v ma12) .int) (.cons (.idx (.attr .v ma12) .int) (.cons (.attr .v ma16) .nil)))) rfl mm12 mc2))
  (.cons (.setA .v (.attr .v ma9) ma9 (fun _=>rfl))
  (.cons (.setA .v (.bcall (.cons (.attr .v ma13) .nil)) ma13 (fun _=>rfl))
  (.cons (.setA .v (.bcall (.cons (.attr .v ma14) .nil)) ma14 (fun _=>rfl))
  (.cons (.setA .v (.mcall (.attr .v ma15) .nil rfl mm11 mc1) ma15 (fun _=>rfl))
  (.cons (.setA .v (.bcall (.cons (.attr .v ma11) .nil)) ma11 (fun _=>rfl))
  (.cons (.setA .v (.bcall (.cons (.attr .v ma10) .nil)) ma10 (fun _=>rfl))
  (.cons (.ret .v)
  .nil))))))))
abbrev s_law_draw:Stmt:=(top 70)
theorem qcb:FnScope ["_law_script","_law_k","_law_j","_law_many","_law_cell","_law_turn","_law_rest","_law_step","_law_one","_law_two"] ["_law_script","_law_k","_law_j","_law_many"] (qzz s_law_draw):=⟨rfl,rfl,rfl,by decide +kernel,rfl,by decide +kernel,by decide +kernel⟩
theorem qcu:CkSs ⟨["_law_script","_law_k","_law_j","_law_many","_law_cell","_law_turn","_law_rest","_law_step","_law_one","_law_two"],qzz s_law_draw,names,glo⟩ qyi (qzq s_law_draw):=
  (.cons (.st .int)
  (.cons (.st .int)
  (.cons (.ite (.cmp (.bcall (.cons .v .nil)) .int) (.cons (.st (.idx .v (.bin .v (.bcall (.cons .v .nil)))))
  (.cons (.st (.bin .v (.bcall (.cons .v .nil))))
  .nil)) .nil)
  (.cons (.st .v)
  (.cons (.forr (.var rfl (.inl rfl)) (.rng1 rfl .v) (fun _ _=>rfl) (.cons (.st (.bin .v (.bin .int .int)))
  .nil))
  (.cons (.ite (.andN (.cmp .v .int) (.and2 (.cmp .v (.bin .int .int)) (.cmp .v .int))) (.cons (.ret (.bin (.bin .v (.bin .int .int)) .v))
  .nil) .nil)
  (.cons (.st (.bin (.bin (.bin (.bin (.bin .v .int) (.bin .v .int)) (.bin .v .int)) .int) .int))
  (.cons (.st (.bin (.bin (.bin .v .int) (.bin .v .int)) .int))
  (.cons (.st (.bin (.bin (.bin .v (.bin (.bin .v .int) .int)) .v) .int))
  (.cons (.ret (.bin (.bin (.bin (.bin (.bin .v .int) (.bin .v .int)) (.bin .v .int)) .int) .v))
  .nil))))))))))
abbrev s_law_same:Stmt:=(top 71)
theorem qca:FnScope ["_law_found","_law_due","_law_like"] ["_law_found","_law_due"] (qzz s_law_same):=⟨rfl,rfl,rfl,by decide +kernel,rfl,by decide +kernel,by decide +kernel⟩
theorem qct:CkSs ⟨["_law_found","_law_due","_law_like"],qzz s_law_same,names,glo⟩ qyh (qzq s_law_same):=
  (.cons (.ite (.isiN (by decide) rfl (.cons (by decide) rfl (.cons (by decide) rfl .nil)) (.var rfl (.inr (.inl rfl)) rfl rfl)) (.cons (.ite (.or2 (.not (.isiN (by decide) rfl (.cons (by decide) rfl (.cons (by decide) rfl .nil)) (.var rfl (.inr (.inl rfl)) rfl rfl))) (.cmp (.bcall (.cons (.var rfl (.inr (.inl rfl)) rfl rfl) .nil)) (.bcall (.cons (.var rfl (.inr (.inl rfl)) rfl rfl) .nil)))) (.cons (.ret .bl)
  .nil) .nil)
  (.cons (.st (.bcall (.cons (.gc (.comp (N:=["_law_k","_law_found","_law_due"]) (.rng1 rfl (.bcall (.cons (.var rfl (.inr (.inl rfl)) rfl rfl) .nil))) (.var rfl (.inl rfl)) (.gc (.call (.cons (.idx (.var rfl (.inr (.inl rfl)) rfl rfl) .v) (.cons (.idx (.var rfl (.inr (.inl rfl)) rfl rfl) .v) .nil)))))) .nil)))
  (.cons (.ret (.and2 .v (.cmp (.isi1 (.var rfl (.inr (.inl rfl)) rfl rfl)) (.isi1 (.var rfl (.inr (.inl rfl)) rfl rfl)))))
  .nil))) .nil)
  (.cons (.st (.cmp (.isi1 (.var rfl (.inr (.inl rfl)) rfl rfl)) (.isi1 (.var rfl (.inr (.inl rfl)) rfl rfl))))
  (.cons (.st (.and2 .v (.cmp (.isi1 (.var rfl (.inr (.inl rfl)) rfl rfl)) (.isi1 (.var rfl (.inr (.inl rfl)) rfl rfl)))))
  (.cons (.ret (.andN .v (.and2 (.cmp (.isi1 (.var rfl (.inr (.inl rfl)) rfl rfl)) (.isi1 (.var rfl (.inr (.inl rfl)) rfl rfl))) (.cmp (.var rfl (.inr (.inl rfl)) rfl rfl) (.var rfl (.inr (.inl rfl)) rfl rfl)))))
  .nil))))
abbrev s_law_term:Stmt:=(top 72)
theorem qcy:FnScope ["_law_script","_law_k","_law_rest"] ["_law_script","_law_k"] (qzz s_law_term):=⟨rfl,rfl,rfl,by decide +kernel,rfl,by decide +kernel,by decide +kernel⟩
theorem qcs:CkSs ⟨["_law_script","_law_k","_law_rest"],qzz s_law_term,names,glo⟩ qyg (qzq s_law_term):=
  (.cons (.st (.gc (.call (.cons .v (.cons .v (.cons .int (.cons .int .nil)))))))
  (.cons (.ret (.idx (.gc (.lst (.cons (.bin .int .v) (.cons (.bin .int (.bin .v .int)) (.cons (.bin .int (.bin .v .int)) (.cons (.bin .int (.bin .v .int)) .nil)))))) (.gc (.call (.cons .v (.cons .v (.cons .int (.cons .int .nil))))))))
  .nil))
abbrev s_law_in:Stmt:=(top 73)
theorem qf9:FnScope ["_law_rect","_law_cell"] ["_law_rect","_law_cell"] (qzz s_law_in):=⟨rfl,rfl,rfl,by decide +kernel,rfl,by decide +kernel,by decide +kernel⟩
theorem qh3:CkSs ⟨["_law_rect","_law_cell"],qzz s_law_in,names,glo⟩ qez (qzq s_law_in):=
  (.cons (.ret (.and2 (.cmp2 (.idx .v .int) (.idx .v .int) (.idx .v .int) (by with_unfolding_all rfl)) (.cmp2 (.idx .v .int) (.idx .v .int) (.idx .v .int) (by with_unfolding_all rfl))))
  .nil)
abbrev s_law_model:Stmt:=(top 74)
theorem qas:FnScope ["_law_size","_law_term_here","_law_model_here"] ["_law_size","_law_term_here"] (qzz s_law_model):=⟨rfl,rfl,rfl,by decide +kernel,rfl,by decide +kernel,by decide +kernel⟩
theorem qbn:CkSs ⟨["_law_size","_law_term_here","_law_model_here"],qzz s_law_model,names,glo⟩ qwz (qzq s_law_model):=
  (.cons (.st (.dic (.cons .str .v (.cons .str .v (.cons .str .int (.cons .str (.lst .nil) (.cons .str (.lst .nil) (.cons .str (.lst .nil) .nil)))))) (by decide)))
  (.cons (.dset .v .str .dic0 (fun _=>rfl))
  (.cons (.dset .v .str .dic0 (fun _=>rfl))
  (.cons (.dset .v .str .dic0 (fun _=>rfl))
  (.cons (.ret .v)
  .nil)))))
abbrev s_law_state:Stmt:=(top 75)
theorem qar:FnScope ["_law_model_here","_law_name","_law_claim"] ["_law_model_here","_law_name"] (qzz s_law_state):=⟨rfl,rfl,rfl,by decide +kernel,rfl,by decide +kernel,by decide +kernel⟩
theorem qbm:CkSs ⟨["_law_model_here","_law_name","_law_claim"],qzz s_law_state,names,glo⟩ qv9 (qzq s_law_state):=
  (.cons (.st (.didx (.didx .v .str (fun _ _=>rfl)) .v (fun _ _=>rfl)))
  (.cons (.ite (.cmp (.idx .v .int) .non) (.cons (.ret .str)
  .nil) .nil)
  (.cons (.ite (.cmp (.didx .v .str (fun _ _=>rfl)) (.idx .v .int)) (.cons (.ret .str)
  .nil) .nil)
  (.cons (.ret (.idx (.gc (.lst (.cons .str (.cons .str .nil)))) (.bcall (.cons (.cmp (.idx .v .int) .non) .nil))))
  .nil))))
abbrev s_law_vest:Stmt:=(top 76)
theorem qcw:FnScope ["_law_model_here","_law_name","_law_outs","_law_claim"] ["_law_model_here","_law_name","_law_outs"] (qzz s_law_vest):=⟨rfl,rfl,rfl,by decide +kernel,rfl,by decide +kernel,by decide +kernel⟩
theorem qcr:CkSs ⟨["_law_model_here","_law_name","_law_outs","_law_claim"],qzz s_law_vest,names,glo⟩ qyf (qzq s_law_vest):=
  (.cons (.set rfl (.inr rfl) (.didx (.didx .v .str (fun _ _=>rfl)) .v (fun _ _=>rfl)) (fun _=>rfl))
  (.cons (.ite (.and2 (.cmp (.gc (.call (.cons .v (.cons .v .nil)))) .str) (.bcall (.cons (.gc (.comp (N:=["_law_cell","_law_claim"]) (.seq .v) (.var rfl (.inl rfl)) (.gc (.call (.cons (.idx (.var rfl (.inr (.inl rfl)) rfl rfl) .int) (.cons .v .nil)))))) .nil))) (.cons (.setIx (.var rfl (.inr (.inl rfl)) rfl rfl) .int (.didx .v .str (fun _ _=>rfl)) (fun _=>rfl) (fun _=>rfl) (fun _=>rfl) (fun _ _=>rfl))
  (.cons (.expr (.append (.didx .v .str (fun _ _=>rfl)) .v) (fun _=>rfl))
  .nil)) .nil)
  .nil))
abbrev s_law_enter_claim:Stmt:=(top 78)
theorem qx1:FnScope ["_law_model_here","_law_fact","_law_claim"] ["_law_model_here","_law_fact"] (qzz s_law_enter_claim):=⟨rfl,rfl,rfl,by decide +kernel,rfl,by decide +kernel,by decide +kernel⟩
theorem qjf:CkSs ⟨["_law_model_here","_law_fact","_law_claim"],qzz s_law_enter_claim,names,glo⟩ qql (qzq s_law_enter_claim):=
  (.cons (.ite (.dnin (.idx .v .int) (.didx .v .str (fun _ _=>rfl)) rfl) (.cons (.ret .str)
  .nil) .nil)
  (.cons (.st (.didx (.didx .v .str (fun _ _=>rfl)) (.idx .v .int) (fun _ _=>rfl)))
  (.cons (.ite (.cmp (.gc (.call (.cons .v (.cons (.idx .v .int) .nil)))) (.tup (.cons .str (.cons .str .nil)))) (.cons (.ret .str)
  .nil) .nil)
  (.cons (.ite (.cmp (.idx .v .int) .str) (.cons .bad
  .nil) .nil)
  (.cons (.ite (.cmp (.idx .v .int) .str) (.cons (.setIx .v .int (.bin (.didx .v .str (fun _ _=>rfl)) (.didx .v .str (fun _ _=>rfl))) (fun _=>rfl) (fun _=>rfl) (fun _=>rfl) (fun _ _=>rfl))
  (.cons (.expr (.append (.idx .v .int) (.didx .v .str (fun _ _=>rfl))) (fun _=>rfl))
  .nil)) .nil)
  (.cons (.ite (.cmp (.idx .v .int) .str) (.cons (.setIx .v .int (.idx .v .int) (fun _=>rfl) (fun _=>rfl) (fun _=>rfl) (fun _ _=>rfl))
  .nil) .nil)
  (.cons (.ite (.cmp (.idx .v .int) .str) (.cons (.setIx .v .int (.didx .v .str (fun _ _=>rfl)) (fun _=>rfl) (fun _=>rfl) (fun _=>rfl) (fun _ _=>rfl))
  .nil) .nil)
  (.cons (.ret .str)
  .nil))))))))
abbrev s_law_enter:Stmt:=(top 80)
theorem qat:FnScope ["_law_model_here","_law_day","_law_fact","_law_name","_law_vein"] ["_law_model_here","_law_day","_law_fact"] (qzz s_law_enter):=⟨rfl,rfl,rfl,by decide +kernel,rfl,by decide +kernel,by decide +kernel⟩
theorem qbo:CkSs ⟨["_law_model_here","_law_day","_law_fact","_law_name","_law_vein"],qzz s_law_enter,names,glo⟩ qwq (qzq s_law_enter):=
  (.cons (.dset .v .str .v (fun _=>rfl))
  (.cons (.ite (.cmp (.idx .v .int) .str) (.cons .bad
  .nil) .nil)
  (.cons (.ite (.cmp (.idx .v .int) (.tup (.cons .str (.cons .str .nil)))) (.cons (.ret (.call (.cons .v (.cons .v .nil))))
  .nil) .nil)
  (.cons (.ite (.cmp (.idx .v .int) .str) (.cons (.dset (.didx .v .str (fun _ _=>rfl)) .v (.tup (.cons (.idx .v .int) (.cons (.idx .v .int) .nil))) (fun _=>rfl))
  (.cons (.forr (.var rfl (.inl rfl)) (.seq (.gc (.bcall (.cons (.didx .v .str (fun _ _=>rfl)) .nil)))) (fun _ _=>rfl) (.cons (.expr (.call (.cons .v (.cons .v (.cons (.idx .v .int) .nil)))) (fun _=>rfl))
  .nil))
  .nil)) (.cons (.dset (.didx .v .str (fun _ _=>rfl)) .v (.lst (.cons (.idx .v .int) (.cons (.sli .v (.some .int) .none) (.cons (.bin .v (.didx .v .str (fun _ _=>rfl))) (.cons .non (.cons .non (.cons (.lst (.cons .v .nil)) .nil))))))) (fun _=>rfl))
  (.cons (.forr (.var rfl (.inl rfl)) (.seq (.gc (.bcall (.cons (.didx .v .str (fun _ _=>rfl)) .nil)))) (fun _ _=>rfl) (.cons (.expr (.call (.cons .v (.cons .v (.cons (.idx (.didx (.didx .v .str (fun _ _=>rfl)) .v (fun _ _=>rfl)) .int) .nil)))) (fun _=>rfl))
  .nil))
  .nil)))
  (.cons (.ret .str)
  .nil)))))
abbrev s_law_ask:Stmt:=(top 81)
theorem qef:FnScope ["_law_field","_law_model_here","_law_claim"] ["_law_field","_law_model_here"] (qzz s_law_ask):=⟨rfl,rfl,rfl,by decide +kernel,rfl,by decide +kernel,by decide +kernel⟩
theorem qfa:CkSs ⟨["_law_field","_law_model_here","_law_claim"],qzz s_law_ask,names,glo⟩ qb8 (qzq s_law_ask):=
  (.cons (.st (.didx (.didx .v .str (fun _ _=>rfl)) .int (fun _ _=>rfl)))
  (.cons (.ite (.or2 (.not (.gc (.call (.cons (.gc (.mcall .v (.cons .int .nil) rfl mm18 mc2)) (.cons (.bcall (.cons (.gc (.sli .v .none (.some .int))) .nil)) .nil))))) (.not (.gc (.call (.cons (.gc (.mcall .v (.cons .int .nil) rfl mm20 mc2)) (.cons (.idx .v .int) .nil)))))) (.cons (.ret .bl)
  .nil) .nil)
  (.cons (.ret (.call (.cons (.gc (.mcall .v (.cons .int .nil) rfl mm19 mc2)) (.cons (.gc (.call (.cons .v (.cons .int .nil)))) .nil))))
  .nil)))
abbrev s_law_passed:Stmt:=(top 82)
theorem qyr:FnScope ["_law_field","_law_model_here","_law_day","_law_other","_law_kept","_law_good"] ["_law_field","_law_model_here","_law_day"] (qzz s_law_passed):=⟨rfl,rfl,rfl,by decide +kernel,rfl,by decide +kernel,by decide +kernel⟩
theorem qab:CkSs ⟨["_law_field","_law_model_here","_law_day","_law_other","_law_kept","_law_good"],qzz s_law_passed,names,glo⟩ qkc (qzq s_law_passed):=
  (.cons (.st (.mcall .v .nil rfl mm21 mc2))
  (.cons (.expr (.mcall .v (.cons .v .nil) rfl mm17 mc2) (fun _=>rfl))
  (.cons (.st (.didx .v .str (fun _ _=>rfl)))
  (.cons (.dset .v .str .v (fun _=>rfl))
  (.cons (.st (.gc (.call (.cons .v (.cons .v .nil)))))
  (.cons (.dset .v .str .v (fun _=>rfl))
  (.cons (.ret .v)
  .nil)))))))
abbrev s_law:Stmt:=(top 83)
theorem ql9:FnScope ["_law_script","_law_term_here","_law_field","_law_model_here","_law_plan","_law_day","_law_ended","_law_k","_law_gap","_law_when","_law_fact","_law_last"] ["_law_script"] (qzz s_law):=⟨rfl,rfl,rfl,by decide +kernel,rfl,by decide +kernel,by decide +kernel⟩
theorem qmo:CkSs ⟨["_law_script","_law_term_here","_law_field","_law_model_here","_law_plan","_law_day","_law_ended","_law_k","_law_gap","_law_when","_law_fact","_law_last"],qzz s_law,names,glo⟩ b_law (qzq s_law):=
  (.cons (.st (.idx (.gc (.lst (.cons (.bin .int (.gc (.call (.cons .v (.cons .int (.cons .int (.cons .int .nil))))))) (.cons (.call (.cons .v (.cons .int .nil))) .nil)))) (.gc (.call (.cons .v (.cons .int (.cons .int (.cons .int .nil))))))))
  (.cons (.st (.new (.cons .int (.cons .int (.cons .int (.cons .v .nil)))) rfl mm12 mc2))
  (.cons (.st (.call (.cons (.tup (.cons .int (.cons .int (.cons .int .nil)))) (.cons .v .nil))))
  (.cons (.st (.lst (.cons (.tup (.cons .int (.cons (.tup (.cons .str (.cons (.bin .int (.gc (.call (.cons .v (.cons .int (.cons .int (.cons .int .nil))))))) (.cons .int (.cons .int (.cons .int (.cons .int .nil))))))) .nil))) .nil)))
  (.cons (.ite (.cmp (.gc (.call (.cons .v (.cons .int (.cons .int (.cons .int .nil)))))) .int) (.cons (.st (.bin (.gc (.lst (.cons (.tup (.cons .int (.cons (.tup (.cons .str (.cons (.tup .nil) (.cons (.tup (.cons (.tup (.cons .int (.cons .int .nil))) .nil)) .nil)))) .nil))) .nil))) .v))
  .nil) .nil)
  (.cons (.st .int)
  (.cons (.st (.gc (.call (.cons .v (.cons .int (.cons .int (.cons .int .nil)))))))
  (.cons (.forr (.var rfl (.inl rfl)) (.rng1 rfl (.gc (.call (.cons .v (.cons .int (.cons .int (.cons .int .nil))))))) (fun _ _=>rfl) (.cons (.st (.idx (.gc (.lst (.cons (.bin .int (.gc (.call (.cons .v (.cons (.bin .int .v) (.cons .int (.cons .v .nil))))))) (.cons .v (.cons (.bin .v .int) (.cons .int .nil)))))) (.gc (.call (.cons .v (.cons (.bin .int .v) (.cons .int (.cons .int .nil))))))))
  (.cons (.st (.bcall (.cons (.bin .v .v) (.cons (.bin .int .v) .nil))))
  (.cons (.expr (.append .v (.tup (.cons .v (.cons (.idx (.gc (.lst (.cons (.tup (.cons .str (.cons .int .nil))) (.cons (.tup (.cons .str (.cons .int .nil))) .nil)))) (.bcall (.cons (.cmp .v .v) .nil))) .nil)))) (fun _=>rfl))
  .nil))))
  (.cons (.forr (.tup (.cons rfl (.inl rfl) (.cons rfl (.inl rfl) .nil))) (.seq .v) (fun _ _=>rfl) (.cons (.ite (.cmp .v (.didx .v .str (fun _ _=>rfl))) (.cons .cnt
  .nil) .nil)
  (.cons (.ite (.not (.call (.cons (.mcall .v (.cons .v (.cons .v .nil)) rfl mm13 mc2) (.cons (.call (.cons .v (.cons .v (.cons .v .nil)))) .nil)))) (.cons (.ret .bl)
  .nil) .nil)
  (.cons (.ite (.and2 (.cmp .v .int) (.not (.gc (.call (.cons .v (.cons .v .nil)))))) (.cons (.ret .bl)
  .nil) .nil)
  .nil))))
  (.cons (.st (.idx (.didx (.didx .v .str (fun _ _=>rfl)) .int (fun _ _=>rfl)) .int))
  (.cons (.forr (.var rfl (.inl rfl)) (.rng2 rfl (.bin .v .int) (.bin .v .int)) (fun _ _=>rfl) (.cons (.ite (.and2 (.cmp2 (.didx .v .str (fun _ _=>rfl)) .v .int (by with_unfolding_all rfl)) (.not (.gc (.call (.cons .v (.cons .v (.cons .v .nil))))))) (.cons (.ret .bl)
  .nil) .nil)
  .nil))
  (.cons (.ret .bl)
  .nil))))))))))))
theorem ar0{P:List Value→Prop}(h:P []):∀ us:List Value,us.length=0→P us:=fun us e=>by
 cases us with
 |nil=>exact h
 |cons a r=>cases e
theorem arS{n:Nat}{P:List Value→Prop}(h:∀ a,∀ us:List Value,us.length=n→P (a::us)):∀ us:List Value,us.length=n+1→P us:=fun us e=>by
 cases us with
 |nil=>cases e
 |cons a r=>exact h a r (Nat.succ.inj e)
theorem ar1{P:List Value→Prop}(h:∀ a,P [a]):∀ us:List Value,us.length=1→P us:=arS fun a=>ar0 (P:=fun r=>P (a::r)) (h a)
theorem ar2{P:List Value→Prop}(h:∀ a b,P [a,b]):∀ us:List Value,us.length=2→P us:=arS fun a=>ar1 (P:=fun r=>P (a::r)) (h a)
theorem ar3{P:List Value→Prop}(h:∀ a b c,P [a,b,c]):∀ us:List Value,us.length=3→P us:=arS fun a=>ar2 (P:=fun r=>P (a::r)) (h a)
theorem ar4{P:List Value→Prop}(h:∀ a b c d,P [a,b,c,d]):∀ us:List Value,us.length=4→P us:=arS fun a=>ar3 (P:=fun r=>P (a::r)) (h a)
theorem ar5{P:List Value→Prop}(h:∀ a b c d e,P [a,b,c,d,e]):∀ us:List Value,us.length=5→P us:=arS fun a=>ar4 (P:=fun r=>P (a::r)) (h a)
theorem tb{P:Nat→Str→Prop}{n:Nat}{x:Str}{xs:List Str}(h:P n x)(t:∀ f y,xs[f]?=some y→P (n+1+f) y):∀ f y,(x::xs)[f]?=some y→P (n+f) y:=fun f y e=>by
 cases f with
 |zero=>cases e; exact h
 |succ f=>have:=t f y e; rwa [Nat.add_assoc,Nat.add_comm 1 f]at this
theorem tn{P:Nat→Str→Prop}{n:Nat}:∀ f y,([]:List Str)[f]?=some y→P (n+f) y:=fun f y e=>by cases e
theorem all_mk{l:PySem.W.OpenLaw}{w:World}{K:Qqq}{h:Heap}{mg:Str→Option Value}{fa f0 f1 f2 f3 f4 f5 f6 f7 f8 f9 f10 f11 f12 f13 f14 f15 f16 f17 f18 f19 f20 f21 f22 f23 f24 f25 f26 f27 f28 f29 f30 f31 f32 f33 f34 f35 f36 f37 f38 f39 f40 f41 f42 f43 f44 f45 f46 f47 f48:Addr}{d0 d1 d2 d3 d4 d5 d6 d7 d8 d9 d10 d11 d12 d13 d14 d15 d16 d17 d18 d19 d20 d21 d22 d23 d24 d25 d26 d27 d28 d29 d30 d31 d32 d33 d34 d35 d36 d37 d38 d39 d40 d41 d42 d43 d44 d45 d46 d47 d48:FuncData}{gt0 gt1 gt2 gt3 gt4 gt5 gt6 gt7 gt8 gt9 gt10 gt11 gt12 gt13 gt14 gt15 gt16 gt17 gt18 gt19 gt20 gt21 gt22 gt23 gt24 gt25 gt26 gt27 gt28 gt29 gt30 gt31 gt32 gt33 gt34 gt35 gt36 gt37 gt38 gt39 gt40 gt41 gt42 gt43 gt44 gt45 gt46 gt47 gt48 gt49 gt50 gt51 gt52 gt53 gt54 gt55 gt56:Tok}
  {gA0:Addr}{gN0:Nat}
  {ga0 ga1 ga2 ga3 ga4 ga5 ga6 ga7 ga8 ga9 ga10 ga11 ga12 ga13 ga14 ga15 ga16:Addr}
  (X:K.In h) (G:h.Ns mainGlobals mg) (hfa:mg "law" = some (.ref fa))
  (h0:FnK K "inside" s_inside f0 d0)
  (h1:FnK K "has_one" s_has_one f1 d1)
  (h2:FnK K "counted" s_counted f2 d2)
  (h3:FnK K "through" s_through f3 d3)
  (h4:MeK K 191 "__init__" "Claim.__init__" s_Claim_init f4 d4)
  (h5:MeK K 191 "piece" "Claim.piece" s_Claim_piece f5 d5)
  (h6:MeK K 191 "twin" "Claim.twin" s_Claim_twin f6 d6)
  (h7:MeK K 191 "state" "Claim.state" s_Claim_state f7 d7)
  (h8:MeK K 273 "__init__" "Claims.__init__" s_Claims_init f8 d8)
  (h9:MeK K 273 "names" "Claims.names" s_Claims_names f9 d9)
  (h10:MeK K 273 "named" "Claims.named" s_Claims_named f10 d10)
  (h11:MeK K 273 "stake" "Claims.stake" s_Claims_stake f11 d11)
  (h12:MeK K 273 "vest" "Claims.vest" s_Claims_vest f12 d12)
  (h13:MeK K 273 "vest_all" "Claims.vest_all" s_Claims_vest_all f13 d13)
  (h14:MeK K 273 "change" "Claims.change" s_Claims_change f14 d14)
  (h15:MeK K 273 "twin" "Claims.twin" s_Claims_twin f15 d15)
  (h16:FnK K "bounds" s_bounds f16 d16)
  (h17:FnK K "fits" s_fits f17 d17)
  (h18:FnK K "all_fit" s_all_fit f18 d18)
  (h19:FnK K "is_cell" s_is_cell f19 d19)
  (h20:FnK K "good_steps" s_good_steps f20 d20)
  (h21:FnK K "good_outcrops" s_good_outcrops f21 d21)
  (h22:FnK K "sound_vein" s_sound_vein f22 d22)
  (h23:FnK K "numbers_agree" s_numbers_agree f23 d23)
  (h24:FnK K "sound" s_sound f24 d24)
  (h25:FnK K "check_district" s_check_district f25 d25)
  (h26:FnK K "check_day" s_check_day f26 d26)
  (h27:MeK K 642 "__init__" "Field.__init__" s_Field_init f27 d27)
  (h28:MeK K 642 "enter" "Field.enter" s_Field_enter f28 d28)
  (h29:MeK K 642 "answer" "Field.answer" s_Field_answer f29 d29)
  (h30:MeK K 642 "enter_vein" "Field.enter_vein" s_Field_enter_vein f30 d30)
  (h31:MeK K 642 "enter_stake" "Field.enter_stake" s_Field_enter_stake f31 d31)
  (h32:MeK K 642 "pass_to" "Field.pass_to" s_Field_pass_to f32 d32)
  (h33:MeK K 642 "claim" "Field.claim" s_Field_claim f33 d33)
  (h34:MeK K 642 "state" "Field.state" s_Field_state f34 d34)
  (h35:MeK K 642 "years" "Field.years" s_Field_years f35 d35)
  (h36:MeK K 642 "twin" "Field.twin" s_Field_twin f36 d36)
  (h37:FnK K "_law_draw" s_law_draw f37 d37)
  (h38:FnK K "_law_same" s_law_same f38 d38)
  (h39:FnK K "_law_term" s_law_term f39 d39)
  (h40:FnK K "_law_in" s_law_in f40 d40)
  (h41:FnK K "_law_model" s_law_model f41 d41)
  (h42:FnK K "_law_state" s_law_state f42 d42)
  (h43:FnK K "_law_vest" s_law_vest f43 d43)
  (h44:FnK K "_law_enter_claim" s_law_enter_claim f44 d44)
  (h45:FnK K "_law_enter" s_law_enter f45 d45)
  (h46:FnK K "_law_ask" s_law_ask f46 d46)
  (h47:FnK K "_law_passed" s_law_passed f47 d47)
  (h48:FnK K "law" s_law f48 d48)
  (c0:ClK K "Claim" 191)
  (c1:ClK K "Claims" 273)
  (c2:ClK K "Field" 642)
  (t0:PySem.W.findIn K (.ref 191) "days" = some none)
  (t1:PySem.W.findIn K (.ref 191) "given" = some none)
  (t2:PySem.W.findIn K (.ref 191) "ground" = some none)
  (t3:PySem.W.findIn K (.ref 191) "last" = some none)
  (t4:PySem.W.findIn K (.ref 191) "owner" = some none)
  (t5:PySem.W.findIn K (.ref 191) "vested" = some none)
  (t6:PySem.W.findIn K (.ref 273) "book" = some none)
  (t7:PySem.W.findIn K (.ref 273) "row" = some none)
  (t8:PySem.W.findIn K (.ref 273) "year" = some none)
  (t9:PySem.W.findIn K (.ref 642) "day" = some none)
  (t10:PySem.W.findIn K (.ref 642) "debts" = some none)
  (t11:PySem.W.findIn K (.ref 642) "dug" = some none)
  (t12:PySem.W.findIn K (.ref 642) "extent" = some none)
  (t13:PySem.W.findIn K (.ref 642) "found" = some none)
  (t14:PySem.W.findIn K (.ref 642) "joints" = some none)
  (t15:PySem.W.findIn K (.ref 642) "staked" = some none)
  (t16:PySem.W.findIn K (.ref 642) "year" = some none)
  (gl0:Qqe K mainGlobals "COINS" = some (some (.ref ga0)))
  (go0:TupK K ga0 #[(.int 1 gt0),(.int 1000000 gt1)])
  (gl1:Qqe K mainGlobals "DAYS" = some (some (.ref ga1)))
  (go1:TupK K ga1 #[(.int 1 gt2),(.int 400 gt3)])
  (gl2:Qqe K mainGlobals "DEPTHS" = some (some (.ref ga2)))
  (go2:TupK K ga2 #[(.int 0 gt4),(.int 12 gt5)])
  (gl3:Qqe K mainGlobals "FOLK" = some (some (.ref ga3)))
  (go3:TupK K ga3 #[(.int 1 gt6),(.int 40 gt7)])
  (gl4:Qqe K mainGlobals "LEFT" = some (some (.int 0 gt8)))
  (gl5:Qqe K mainGlobals "LENGTHS" = some (some (.ref ga4)))
  (go4:TupK K ga4 #[(.int 1 gt9),(.int 24 gt10)])
  (gl6:Qqe K mainGlobals "LINES" = some (some (.ref ga5)))
  (go5:TupK K ga5 #[(.int 1 gt11),(.int 23 gt12)])
  (gl7:Qqe K mainGlobals "LOW" = some (some (.int 3 gt13)))
  (gl8:Qqe K mainGlobals "MOST_COLUMNS" = some (some (.int 16 gt14)))
  (gl9:Qqe K mainGlobals "RIGHT" = some (some (.int 2 gt15)))
  (gl10:Qqe K mainGlobals "SIDES" = some (some (.ref ga6)))
  (go6:TupK K ga6 #[(.int 0 gt16),(.int 1 gt17)])
  (gl11:Qqe K mainGlobals "STEPS" = some (some (.ref ga7)))
  (go7:TupK K ga7 #[(.int 0 gt18),(.int 4 gt19)])
  (gl12:Qqe K mainGlobals "TERMS" = some (some (.ref ga8)))
  (go8:TupK K ga8 #[(.int 1 gt20),(.int 400 gt21)])
  (gl13:Qqe K mainGlobals "TOP" = some (some (.int 1 gt22)))
  (gl14:Qqe K mainGlobals "ASKS" = some (some (.ref gA0)))
  (gO0:K.lookup gA0=some { cls:=.type "dict",data:=.dict #[⟨PyData.keyHash w.params "join",.str "join" gt23,(.ref ga9)⟩,⟨PyData.keyHash w.params "stake",.str "stake" gt27,(.ref ga10)⟩,⟨PyData.keyHash w.params "work",.str "work" gt33,(.ref ga11)⟩,⟨PyData.keyHash w.params "sell",.str "sell" gt35,(.ref ga12)⟩,⟨PyData.keyHash w.params "part",.str "part" gt38,(.ref ga13)⟩,⟨PyData.keyHash w.params "give",.str "give" gt43,(.ref ga14)⟩,⟨PyData.keyHash w.params "dig",.str "dig" gt45,(.ref ga15)⟩,⟨PyData.keyHash w.params "pay",.str "pay" gt53,(.ref ga16)⟩] gN0 })
  (go9:TupK K ga9 #[(.str "day" gt24),(.str "day" gt25),(.str "below" gt26)])
  (go10:TupK K ga10 #[(.str "folk" gt28),(.str "x" gt29),(.str "y" gt30),(.str "x" gt31),(.str "y" gt32)])
  (go11:TupK K ga11 #[(.str "day" gt34)])
  (go12:TupK K ga12 #[(.str "day" gt36),(.str "folk" gt37)])
  (go13:TupK K ga13 #[(.str "day" gt39),(.str "side" gt40),(.str "line" gt41),(.str "folk" gt42)])
  (go14:TupK K ga14 #[(.str "day" gt44)])
  (go15:TupK K ga15 #[(.str "folk" gt46),(.str "x" gt47),(.str "y" gt48),(.str "x" gt49),(.str "y" gt50),(.str "floor" gt51),(.str "coins" gt52)])
  (go16:TupK K ga16 #[(.str "folk" gt54),(.str "folk" gt55),(.str "coins" gt56)])
  (gm0:(gA0==sysModules)=false)
  (z:NoB K)
  : ∃ fd:FuncData,(∀ (s:Shared) (v:Value),BindsTo s fd ⟨[v],[]⟩ [("_law_script",v)])∧∀ base:Heap,K.In base→base.Ns mainGlobals mg→FnOk l.prog w K mg base CX0 (2*20) fa fd ["_law_script"] (qis K):=by
 obtain⟨go0⟩:=go0
 obtain⟨go1⟩:=go1
 obtain⟨go2⟩:=go2
 obtain⟨go3⟩:=go3
 obtain⟨go4⟩:=go4
 obtain⟨go5⟩:=go5
 obtain⟨go6⟩:=go6
 obtain⟨go7⟩:=go7
 obtain⟨go8⟩:=go8
 obtain⟨go9⟩:=go9
 obtain⟨go10⟩:=go10
 obtain⟨go11⟩:=go11
 obtain⟨go12⟩:=go12
 obtain⟨go13⟩:=go13
 obtain⟨go14⟩:=go14
 obtain⟨go15⟩:=go15
 obtain⟨go16⟩:=go16
 have Mg:Mo K mg glo w.params:=z.mo X G (fun x ks ds hm=>by
   simp only[glo,Qqh,Qq1,or_false,Prod.mk.injEq]at hm
   rcases hm with⟨rfl,rfl,rfl⟩
   ·exact⟨_,Qq2 X G gl14,⟨[(.ref ga9),(.ref ga10),(.ref ga11),(.ref ga12),(.ref ga13),(.ref ga14),(.ref ga15),(.ref ga16)],[(.ref ga9),(.ref ga10),(.ref ga11),(.ref ga12),(.ref ga13),(.ref ga14),(.ref ga15),(.ref ga16)],#[⟨PyData.keyHash w.params "join",.str "join" gt23,(.ref ga9)⟩,⟨PyData.keyHash w.params "stake",.str "stake" gt27,(.ref ga10)⟩,⟨PyData.keyHash w.params "work",.str "work" gt33,(.ref ga11)⟩,⟨PyData.keyHash w.params "sell",.str "sell" gt35,(.ref ga12)⟩,⟨PyData.keyHash w.params "part",.str "part" gt38,(.ref ga13)⟩,⟨PyData.keyHash w.params "give",.str "give" gt43,(.ref ga14)⟩,⟨PyData.keyHash w.params "dig",.str "dig" gt45,(.ref ga15)⟩,⟨PyData.keyHash w.params "pay",.str "pay" gt53,(.ref ga16)⟩],gN0,gO0,(.cons (.cons (.cons (.cons (.cons (.cons (.cons (.cons .nil)))))))),(.cons (show RelV (.ref ga9) (.ref ga9) from rfl) (.cons (show RelV (.ref ga10) (.ref ga10) from rfl) (.cons (show RelV (.ref ga11) (.ref ga11) from rfl) (.cons (show RelV (.ref ga12) (.ref ga12) from rfl) (.cons (show RelV (.ref ga13) (.ref ga13) from rfl) (.cons (show RelV (.ref ga14) (.ref ga14) from rfl) (.cons (show RelV (.ref ga15) (.ref ga15) from rfl) (.cons (show RelV (.ref ga16) (.ref ga16) from rfl) .nil)))))))),fun m H=>(qzx (qzt (xs:=[(.str "day"),(.str "day"),(.str "below")]) (.inr ⟨_,_,_,go9,rfl,rfl,(by show 3≤sizeLine; decide),(.cons ⟨_,rfl⟩ (.cons ⟨_,rfl⟩ (.cons ⟨_,rfl⟩ .nil)))⟩) (qzx (mkStr _) (qzx (mkStr _) (qzx (mkStr _) qzm)))) (qzx (qzt (xs:=[(.str "folk"),(.str "x"),(.str "y"),(.str "x"),(.str "y")]) (.inr ⟨_,_,_,go10,rfl,rfl,(by show 5≤sizeLine; decide),(.cons ⟨_,rfl⟩ (.cons ⟨_,rfl⟩ (.cons ⟨_,rfl⟩ (.cons ⟨_,rfl⟩ (.cons ⟨_,rfl⟩ .nil)))))⟩) (qzx (mkStr _) (qzx (mkStr _) (qzx (mkStr _) (qzx (mkStr _) (qzx (mkStr _) qzm)))))) (qzx (qzt (xs:=[(.str "day")]) (.inr ⟨_,_,_,go11,rfl,rfl,(by show 1≤sizeLine; decide),(.cons ⟨_,rfl⟩ .nil)⟩) (qzx (mkStr _) qzm)) (qzx (qzt (xs:=[(.str "day"),(.str "folk")]) (.inr ⟨_,_,_,go12,rfl,rfl,(by show 2≤sizeLine; decide),(.cons ⟨_,rfl⟩ (.cons ⟨_,rfl⟩ .nil))⟩) (qzx (mkStr _) (qzx (mkStr _) qzm))) (qzx (qzt (xs:=[(.str "day"),(.str "side"),(.str "line"),(.str "folk")]) (.inr ⟨_,_,_,go13,rfl,rfl,(by show 4≤sizeLine; decide),(.cons ⟨_,rfl⟩ (.cons ⟨_,rfl⟩ (.cons ⟨_,rfl⟩ (.cons ⟨_,rfl⟩ .nil))))⟩) (qzx (mkStr _) (qzx (mkStr _) (qzx (mkStr _) (qzx (mkStr _) qzm))))) (qzx (qzt (xs:=[(.str "day")]) (.inr ⟨_,_,_,go14,rfl,rfl,(by show 1≤sizeLine; decide),(.cons ⟨_,rfl⟩ .nil)⟩) (qzx (mkStr _) qzm)) (qzx (qzt (xs:=[(.str "folk"),(.str "x"),(.str "y"),(.str "x"),(.str "y"),(.str "floor"),(.str "coins")]) (.inr ⟨_,_,_,go15,rfl,rfl,(by show 7≤sizeLine; decide),(.cons ⟨_,rfl⟩ (.cons ⟨_,rfl⟩ (.cons ⟨_,rfl⟩ (.cons ⟨_,rfl⟩ (.cons ⟨_,rfl⟩ (.cons ⟨_,rfl⟩ (.cons ⟨_,rfl⟩ .nil)))))))⟩) (qzx (mkStr _) (qzx (mkStr _) (qzx (mkStr _) (qzx (mkStr _) (qzx (mkStr _) (qzx (mkStr _) (qzx (mkStr _) qzm)))))))) (qzx (qzt (xs:=[(.str "folk"),(.str "folk"),(.str "coins")]) (.inr ⟨_,_,_,go16,rfl,rfl,(by show 3≤sizeLine; decide),(.cons ⟨_,rfl⟩ (.cons ⟨_,rfl⟩ (.cons ⟨_,rfl⟩ .nil)))⟩) (qzx (mkStr _) (qzx (mkStr _) (qzx (mkStr _) qzm)))) qzm))))))))⟩,by decide +kernel,gm0⟩
  ) (fun x d hm=>by
   simp only[glo,Qqh,Qq1,or_false,Prod.mk.injEq]at hm
   rcases hm with⟨rfl,rfl⟩|⟨rfl,rfl⟩|⟨rfl,rfl⟩|⟨rfl,rfl⟩|⟨rfl,rfl⟩|⟨rfl,rfl⟩|⟨rfl,rfl⟩|⟨rfl,rfl⟩|⟨rfl,rfl⟩|⟨rfl,rfl⟩|⟨rfl,rfl⟩|⟨rfl,rfl⟩|⟨rfl,rfl⟩|⟨rfl,rfl⟩
   ·exact⟨_,(.ref ga0),Qq2 X G gl0,rfl,fun m H=>(qzt (xs:=[(.int 1),(.int 1000000)]) (.inr ⟨_,_,_,go0,rfl,rfl,(by show 2≤sizeLine; decide),(.cons ⟨_,rfl⟩ (.cons ⟨_,rfl⟩ .nil))⟩) (qzx (mkInt _) (qzx (mkInt _) qzm)))⟩
   ·exact⟨_,(.ref ga1),Qq2 X G gl1,rfl,fun m H=>(qzt (xs:=[(.int 1),(.int 400)]) (.inr ⟨_,_,_,go1,rfl,rfl,(by show 2≤sizeLine; decide),(.cons ⟨_,rfl⟩ (.cons ⟨_,rfl⟩ .nil))⟩) (qzx (mkInt _) (qzx (mkInt _) qzm)))⟩
   ·exact⟨_,(.ref ga2),Qq2 X G gl2,rfl,fun m H=>(qzt (xs:=[(.int 0),(.int 12)]) (.inr ⟨_,_,_,go2,rfl,rfl,(by show 2≤sizeLine; decide),(.cons ⟨_,rfl⟩ (.cons ⟨_,rfl⟩ .nil))⟩) (qzx (mkInt _) (qzx (mkInt _) qzm)))⟩
   ·exact⟨_,(.ref ga3),Qq2 X G gl3,rfl,fun m H=>(qzt (xs:=[(.int 1),(.int 40)]) (.inr ⟨_,_,_,go3,rfl,rfl,(by show 2≤sizeLine; decide),(.cons ⟨_,rfl⟩ (.cons ⟨_,rfl⟩ .nil))⟩) (qzx (mkInt _) (qzx (mkInt _) qzm)))⟩
   ·exact⟨_,(.int 0),Qq2 X G gl4,⟨_,rfl⟩,fun m H=>(mkInt _)⟩
   ·exact⟨_,(.ref ga4),Qq2 X G gl5,rfl,fun m H=>(qzt (xs:=[(.int 1),(.int 24)]) (.inr ⟨_,_,_,go4,rfl,rfl,(by show 2≤sizeLine; decide),(.cons ⟨_,rfl⟩ (.cons ⟨_,rfl⟩ .nil))⟩) (qzx (mkInt _) (qzx (mkInt _) qzm)))⟩
   ·exact⟨_,(.ref ga5),Qq2 X G gl6,rfl,fun m H=>(qzt (xs:=[(.int 1),(.int 23)]) (.inr ⟨_,_,_,go5,rfl,rfl,(by show 2≤sizeLine; decide),(.cons ⟨_,rfl⟩ (.cons ⟨_,rfl⟩ .nil))⟩) (qzx (mkInt _) (qzx (mkInt _) qzm)))⟩
   ·exact⟨_,(.int 3),Qq2 X G gl7,⟨_,rfl⟩,fun m H=>(mkInt _)⟩
   ·exact⟨_,(.int 16),Qq2 X G gl8,⟨_,rfl⟩,fun m H=>(mkInt _)⟩
   ·exact⟨_,(.int 2),Qq2 X G gl9,⟨_,rfl⟩,fun m H=>(mkInt _)⟩
   ·exact⟨_,(.ref ga6),Qq2 X G gl10,rfl,fun m H=>(qzt (xs:=[(.int 0),(.int 1)]) (.inr ⟨_,_,_,go6,rfl,rfl,(by show 2≤sizeLine; decide),(.cons ⟨_,rfl⟩ (.cons ⟨_,rfl⟩ .nil))⟩) (qzx (mkInt _) (qzx (mkInt _) qzm)))⟩
   ·exact⟨_,(.ref ga7),Qq2 X G gl11,rfl,fun m H=>(qzt (xs:=[(.int 0),(.int 4)]) (.inr ⟨_,_,_,go7,rfl,rfl,(by show 2≤sizeLine; decide),(.cons ⟨_,rfl⟩ (.cons ⟨_,rfl⟩ .nil))⟩) (qzx (mkInt _) (qzx (mkInt _) qzm)))⟩
   ·exact⟨_,(.ref ga8),Qq2 X G gl12,rfl,fun m H=>(qzt (xs:=[(.int 1),(.int 400)]) (.inr ⟨_,_,_,go8,rfl,rfl,(by show 2≤sizeLine; decide),(.cons ⟨_,rfl⟩ (.cons ⟨_,rfl⟩ .nil))⟩) (qzx (mkInt _) (qzx (mkInt _) qzm)))⟩
   ·exact⟨_,(.int 1),Qq2 X G gl13,⟨_,rfl⟩,fun m H=>(mkInt _)⟩
  ) (fun cn C hm=>by
   simp only[glo,Qqh,Qq1,or_false,Prod.mk.injEq]at hm
   rcases hm with⟨rfl,rfl⟩|⟨rfl,rfl⟩|⟨rfl,rfl⟩
   ·exact c0.mo X G
   ·exact c1.mo X G
   ·exact c2.mo X G
  ) (fun C f hm=>by
   simp only[glo,Qqh,Qq1,or_false,Prod.mk.injEq]at hm
   rcases hm with⟨rfl,rfl⟩|⟨rfl,rfl⟩|⟨rfl,rfl⟩|⟨rfl,rfl⟩|⟨rfl,rfl⟩|⟨rfl,rfl⟩|⟨rfl,rfl⟩|⟨rfl,rfl⟩|⟨rfl,rfl⟩|⟨rfl,rfl⟩|⟨rfl,rfl⟩|⟨rfl,rfl⟩|⟨rfl,rfl⟩|⟨rfl,rfl⟩|⟨rfl,rfl⟩|⟨rfl,rfl⟩|⟨rfl,rfl⟩
   ·exact⟨c0.cls,t0⟩
   ·exact⟨c0.cls,t1⟩
   ·exact⟨c0.cls,t2⟩
   ·exact⟨c0.cls,t3⟩
   ·exact⟨c0.cls,t4⟩
   ·exact⟨c0.cls,t5⟩
   ·exact⟨c1.cls,t6⟩
   ·exact⟨c1.cls,t7⟩
   ·exact⟨c1.cls,t8⟩
   ·exact⟨c2.cls,t9⟩
   ·exact⟨c2.cls,t10⟩
   ·exact⟨c2.cls,t11⟩
   ·exact⟨c2.cls,t12⟩
   ·exact⟨c2.cls,t13⟩
   ·exact⟨c2.cls,t14⟩
   ·exact⟨c2.cls,t15⟩
   ·exact⟨c2.cls,t16⟩
  )
 have T:∀ f x,names[f]?=some x→FText K mg fns names glo (0+f) x:=
  tb (h0.text X G qd3 qgz qh4 rfl rfl rfl (fun _ _ _ _ _ _=>ar2 fun _ _=>rfl) (by decide +kernel)) (
  tb (h1.text X G qbd qeh qfc rfl rfl rfl (fun _ _ _ _ _ _=>ar2 fun _ _=>rfl) (by decide +kernel)) (
  tb (h2.text X G qvs qei qfd rfl rfl rfl (fun _ _ _ _ _ _=>ar2 fun _ _=>rfl) (by decide +kernel)) (
  tb (h3.text X G qvn qee qfy rfl rfl rfl (fun _ _ _ _ _ _=>ar2 fun _ _=>rfl) (by decide +kernel)) (
  tb (h4.text qkv qy1 qag rfl rfl rfl (fun _ _ _ _ _ _=>ar5 fun _ _ _ _ _=>rfl) rfl (by decide +kernel)) (
  tb (h5.text qjc qwh qw1 rfl rfl rfl (fun _ _ _ _ _ _=>ar3 fun _ _ _=>rfl) rfl (by decide +kernel)) (
  tb (h6.text qkk qy0 qaf rfl rfl rfl (fun _ _ _ _ _ _=>ar1 fun _=>rfl) rfl (by decide +kernel)) (
  tb (h7.text qjb qwg qw0 rfl rfl rfl (fun _ _ _ _ _ _=>ar2 fun _ _=>rfl) rfl (by decide +kernel)) (
  tb (h8.text qja qwf qwu rfl rfl rfl (fun _ _ _ _ _ _=>ar2 fun _ _=>rfl) rfl (by decide +kernel)) (
  tb (h9.text qxf qvj qv5 rfl rfl rfl (fun _ _ _ _ _ _=>ar1 fun _=>rfl) rfl (by decide +kernel)) (
  tb (h10.text qxg qvk qv6 rfl rfl rfl (fun _ _ _ _ _ _=>ar2 fun _ _=>rfl) rfl (by decide +kernel)) (
  tb (h11.text qxe qvx qv4 rfl rfl rfl (fun _ _ _ _ _ _=>ar5 fun _ _ _ _ _=>rfl) rfl (by decide +kernel)) (
  tb (h12.text qjw qwd qws rfl rfl rfl (fun _ _ _ _ _ _=>ar4 fun _ _ _ _=>rfl) rfl (by decide +kernel)) (
  tb (h13.text qqh qx2 qjg rfl rfl rfl (fun _ _ _ _ _ _=>ar3 fun _ _ _=>rfl) rfl (by decide +kernel)) (
  tb (h14.text qq8 qko qk0 rfl rfl rfl (fun _ _ _ _ _ _=>ar3 fun _ _ _=>rfl) rfl (by decide +kernel)) (
  tb (h15.text qjy qwe qwt rfl rfl rfl (fun _ _ _ _ _ _=>ar1 fun _=>rfl) rfl (by decide +kernel)) (
  tb (h16.text X G qak qgq qh5 rfl rfl rfl (fun _ _ _ _ _ _=>ar1 fun _=>rfl) (by decide +kernel)) (
  tb (h17.text X G qml qnb qpz rfl rfl rfl (fun _ _ _ _ _ _=>ar2 fun _ _=>rfl) (by decide +kernel)) (
  tb (h18.text X G qvu qel qfe rfl rfl rfl (fun _ _ _ _ _ _=>ar3 fun _ _ _=>rfl) (by decide +kernel)) (
  tb (h19.text X G qbc qeg qfb rfl rfl rfl (fun _ _ _ _ _ _=>ar2 fun _ _=>rfl) (by decide +kernel)) (
  tb (h20.text X G qkq qys qac rfl rfl rfl (fun _ _ _ _ _ _=>ar2 fun _ _=>rfl) (by decide +kernel)) (
  tb (h21.text X G qq6 qkm qkt rfl rfl rfl (fun _ _ _ _ _ _=>ar2 fun _ _=>rfl) (by decide +kernel)) (
  tb (h22.text X G qj9 qyp qaa rfl rfl rfl (fun _ _ _ _ _ _=>ar2 fun _ _=>rfl) (by decide +kernel)) (
  tb (h23.text X G qq5 qkl qks rfl rfl rfl (fun _ _ _ _ _ _=>ar1 fun _=>rfl) (by decide +kernel)) (
  tb (h24.text X G qhh qiu ql2 rfl rfl rfl (fun _ _ _ _ _ _=>ar2 fun _ _=>rfl) (by decide +kernel)) (
  tb (h25.text X G qqs qj0 qj6 rfl rfl rfl (fun _ _ _ _ _ _=>ar4 fun _ _ _ _=>rfl) (by decide +kernel)) (
  tb (h26.text X G qvt qau qbp rfl rfl rfl (fun _ _ _ _ _ _=>ar1 fun _=>rfl) (by decide +kernel)) (
  tb (h27.text qkj qyu qae rfl rfl rfl (fun _ _ _ _ _ _=>ar5 fun _ _ _ _ _=>rfl) rfl (by decide +kernel)) (
  tb (h28.text qjk qwb qwp rfl rfl rfl (fun _ _ _ _ _ _=>ar3 fun _ _ _=>rfl) rfl (by decide +kernel)) (
  tb (h29.text qxd qvq qv3 rfl rfl rfl (fun _ _ _ _ _ _=>ar2 fun _ _=>rfl) rfl (by decide +kernel)) (
  tb (h30.text qqw qxn qxu rfl rfl rfl (fun _ _ _ _ _ _=>ar2 fun _ _=>rfl) rfl (by decide +kernel)) (
  tb (h31.text qz9 qxa qxb rfl rfl rfl (fun _ _ _ _ _ _=>ar2 fun _ _=>rfl) rfl (by decide +kernel)) (
  tb (h32.text qq7 qkn qku rfl rfl rfl (fun _ _ _ _ _ _=>ar2 fun _ _=>rfl) rfl (by decide +kernel)) (
  tb (h33.text qjv qwc qwr rfl rfl rfl (fun _ _ _ _ _ _=>ar2 fun _ _=>rfl) rfl (by decide +kernel)) (
  tb (h34.text qjj qwa qwo rfl rfl rfl (fun _ _ _ _ _ _=>ar2 fun _ _=>rfl) rfl (by decide +kernel)) (
  tb (h35.text qjx qwy qwn rfl rfl rfl (fun _ _ _ _ _ _=>ar2 fun _ _=>rfl) rfl (by decide +kernel)) (
  tb (h36.text qkx qyt qad rfl rfl rfl (fun _ _ _ _ _ _=>ar1 fun _=>rfl) rfl (by decide +kernel)) (
  tb (h37.text X G qyc qcb qcu rfl rfl rfl (fun _ _ _ _ _ _=>ar4 fun _ _ _ _=>rfl) (by decide +kernel)) (
  tb (h38.text X G qyb qca qct rfl rfl rfl (fun _ _ _ _ _ _=>ar2 fun _ _=>rfl) (by decide +kernel)) (
  tb (h39.text X G qya qcy qcs rfl rfl rfl (fun _ _ _ _ _ _=>ar2 fun _ _=>rfl) (by decide +kernel)) (
  tb (h40.text X G qd2 qf9 qh3 rfl rfl rfl (fun _ _ _ _ _ _=>ar2 fun _ _=>rfl) (by decide +kernel)) (
  tb (h41.text X G qvp qas qbn rfl rfl rfl (fun _ _ _ _ _ _=>ar2 fun _ _=>rfl) (by decide +kernel)) (
  tb (h42.text X G qvo qar qbm rfl rfl rfl (fun _ _ _ _ _ _=>ar2 fun _ _=>rfl) (by decide +kernel)) (
  tb (h43.text X G qyy qcw qcr rfl rfl rfl (fun _ _ _ _ _ _=>ar3 fun _ _ _=>rfl) (by decide +kernel)) (
  tb (h44.text X G qqg qx1 qjf rfl rfl rfl (fun _ _ _ _ _ _=>ar2 fun _ _=>rfl) (by decide +kernel)) (
  tb (h45.text X G qvr qat qbo rfl rfl rfl (fun _ _ _ _ _ _=>ar3 fun _ _ _=>rfl) (by decide +kernel)) (
  tb (h46.text X G qbb qef qfa rfl rfl rfl (fun _ _ _ _ _ _=>ar2 fun _ _=>rfl) (by decide +kernel)) (
  tb (h47.text X G qkz qyr qab rfl rfl rfl (fun _ _ _ _ _ _=>ar3 fun _ _ _=>rfl) (by decide +kernel)) (
  tb (h48.text X G qlr ql9 qmo rfl rfl rfl (fun _ _ _ _ _ _=>ar1 fun _=>rfl) (by decide +kernel)) (
  tn)))))))))))))))))))))))))))))))))))))))))))))))))
 have T:∀ f x,names[f]?=some x→FText K mg fns names glo f x:=fun f x h=>Qx5 f▸T f x h
 obtain⟨a,l,c,k⟩:=h48
 have e:=hfa.symm.trans (Qq2 X G a)
 cases e
 have F:=qba (st:=s_law) l c k
 refine⟨_,fun s v=>.of_eq rfl,fun base _ _=>(qmi (n:=19) (f:=48) (F:=qlr) (tab_ok T Mg _) Mg rfl F ql9 qmo rfl rfl).imp (law_sp K15.law_ok)⟩
end K15
open PySem PySem.W PyProof.Rows
set_option maxRecDepth 100000 in
set_option maxHeartbeats 0 in
theorem PySem.Challenge.cw_dipright_k15_a_claim_kept_by_work_holds : PySem.Challenge.rw_dipright_k15_a_claim_kept_by_work.Holds := by
 w_on; o_law
 refine holds_open (XP:=XL (K15.vw PySem.Challenge.pw_dipright_k15_a_claim_kept_by_work) []) (YP:=InK K15.KF) K15.left (InK.of (fun _=>by kernel_rfl)) InK.keeps (fun s e=>xl_of s (Bool.and_eq_true_iff.mp e).1) XL.keeps (by rfl) (by rfl) (by rfl) (fun s e=>recFacts_of (Bool.and_eq_true_iff.mp e).2) (by rfl) (by assumption) (by decide +kernel) ⟨rfl,rfl,rfl,rfl,rfl,by decide +kernel⟩ ?hw ?hc
 (case hw=>w_witness2)
 refine MS.walk_law (l:=PySem.Challenge.rw_dipright_k15_a_claim_kept_by_work) (K:=K15.KH) (k:=2*20) (x:="_law_script") rfl rfl ⟨rfl,by decide,by decide⟩ (fun w h Y=>Y) ?F
 case F=>
  intro w mg fa h KX G hmg
  k_fill
  refine' K15.all_mk KX G hmg (.mk ?a0 ?l0 ?c0 ?k0) (.mk ?a1 ?l1 ?c1 ?k1) (.mk ?a2 ?l2 ?c2 ?k2) (.mk ?a3 ?l3 ?c3 ?k3) (.mk ?a4 ?i4 ?l4 ?c4 ?k4) (.mk ?a5 ?i5 ?l5 ?c5 ?k5) (.mk ?a6 ?i6 ?l6 ?c6 ?k6) (.mk ?a7 ?i7 ?l7 ?c7 ?k7) (.mk ?a8 ?i8 ?l8 ?c8 ?k8) (.mk ?a9 ?i9 ?l9 ?c9 ?k9) (.mk ?a10 ?i10 ?l10 ?c10 ?k10) (.mk ?a11 ?i11 ?l11 ?c11 ?k11) (.mk ?a12 ?i12 ?l12 ?c12 ?k12) (.mk ?a13 ?i13 ?l13 ?c13 ?k13) (.mk ?a14 ?i14 ?l14 ?c14 ?k14) (.mk ?a15 ?i15 ?l15 ?c15 ?k15) (.mk ?a16 ?l16 ?c16 ?k16) (.mk ?a17 ?l17 ?c17 ?k17) (.mk ?a18 ?l18 ?c18 ?k18) (.mk ?a19 ?l19 ?c19 ?k19) (.mk ?a20 ?l20 ?c20 ?k20) (.mk ?a21 ?l21 ?c21 ?k21) (.mk ?a22 ?l22 ?c22 ?k22) (.mk ?a23 ?l23 ?c23 ?k23) (.mk ?a24 ?l24 ?c24 ?k24) (.mk ?a25 ?l25 ?c25 ?k25) (.mk ?a26 ?l26 ?c26 ?k26) (.mk ?a27 ?i27 ?l27 ?c27 ?k27) (.mk ?a28 ?i28 ?l28 ?c28 ?k28) (.mk ?a29 ?i29 ?l29 ?c29 ?k29) (.mk ?a30 ?i30 ?l30 ?c30 ?k30) (.mk ?a31 ?i31 ?l31 ?c31 ?k31) (.mk ?a32 ?i32 ?l32 ?c32 ?k32) (.mk ?a33 ?i33 ?l33 ?c33 ?k33) (.mk ?a34 ?i34 ?l34 ?c34 ?k34) (.mk ?a35 ?i35 ?l35 ?c35 ?k35) (.mk ?a36 ?i36 ?l36 ?c36 ?k36) (.mk ?a37 ?l37 ?c37 ?k37) (.mk ?a38 ?l38 ?c38 ?k38) (.mk ?a39 ?l39 ?c39 ?k39) (.mk ?a40 ?l40 ?c40 ?k40) (.mk ?a41 ?l41 ?c41 ?k41) (.mk ?a42 ?l42 ?c42 ?k42) (.mk ?a43 ?l43 ?c43 ?k43) (.mk ?a44 ?l44 ?c44 ?k44) (.mk ?a45 ?l45 ?c45 ?k45) (.mk ?a46 ?l46 ?c46 ?k46) (.mk ?a47 ?l47 ?c47 ?k47) (.mk ?a48 ?l48 ?c48 ?k48) (.mk ?C0a ?C0b ?C0c ?C0d ?C0e ?C0f ?C0g) (.mk ?C1a ?C1b ?C1c ?C1d ?C1e ?C1f ?C1g) (.mk ?C2a ?C2b ?C2c ?C2d ?C2e ?C2f ?C2g) ?T0 ?T1 ?T2 ?T3 ?T4 ?T5 ?T6 ?T7 ?T8 ?T9 ?T10 ?T11 ?T12 ?T13 ?T14 ?T15 ?T16 ?gl0 (.mk ?go0) ?gl1 (.mk ?go1) ?gl2 (.mk ?go2) ?gl3 (.mk ?go3) ?gl4 ?gl5 (.mk ?go4) ?gl6 (.mk ?go5) ?gl7 ?gl8 ?gl9 ?gl10 (.mk ?go6) ?gl11 (.mk ?go7) ?gl12 (.mk ?go8) ?gl13 ?gl14 ?gO0 (.mk ?go9) (.mk ?go10) (.mk ?go11) (.mk ?go12) (.mk ?go13) (.mk ?go14) (.mk ?go15) (.mk ?go16) ?gm0 (.mk ?z0 ?z1 ?z2 ?z3 ?z4 ?z5 ?z6 ?z7 ?z8 ?z9 ?z10 ?z11 ?z12 ?z13 ?z14 ?z15 ?z16 ?z17 ?z18)
  (case a0|l0|c0|k0|a1|l1|c1|k1|a2|l2|c2|k2|a3|l3|c3|k3|a4|i4|l4|c4|k4|a5|i5|l5|c5|k5|a6|i6|l6|c6|k6|a7|i7|l7|c7|k7|a8|i8|l8|c8|k8|a9|i9|l9|c9|k9|a10|i10|l10|c10|k10|a11|i11|l11|c11|k11|a12|i12|l12|c12|k12|a13|i13|l13|c13|k13|a14|i14|l14|c14|k14|a15|i15|l15|c15|k15|a16|l16|c16|k16|a17|l17|c17|k17|a18|l18|c18|k18|a19|l19|c19|k19|a20|l20|c20|k20|a21|l21|c21|k21|a22|l22|c22|k22|a23|l23|c23|k23|a24|l24|c24|k24|a25|l25|c25|k25|a26|l26|c26|k26|a27|i27|l27|c27|k27|a28|i28|l28|c28|k28|a29|i29|l29|c29|k29|a30|i30|l30|c30|k30|a31|i31|l31|c31|k31|a32|i32|l32|c32|k32|a33|i33|l33|c33|k33|a34|i34|l34|c34|k34|a35|i35|l35|c35|k35|a36|i36|l36|c36|k36|a37|l37|c37|k37|a38|l38|c38|k38|a39|l39|c39|k39|a40|l40|c40|k40|a41|l41|c41|k41|a42|l42|c42|k42|a43|l43|c43|k43|a44|l44|c44|k44|a45|l45|c45|k45|a46|l46|c46|k46|a47|l47|c47|k47|a48|l48|c48|k48|C0a|C0b|C0c|C0d|C0e|C0f|C0g|C1a|C1b|C1c|C1d|C1e|C1f|C1g|C2a|C2b|C2c|C2d|C2e|C2f|C2g|T0|T1|T2|T3|T4|T5|T6|T7|T8|T9|T10|T11|T12|T13|T14|T15|T16|gl0|go0|gl1|go1|gl2|go2|gl3|go3|gl4|gl5|go4|gl6|go5|gl7|gl8|gl9|gl10|go6|gl11|go7|gl12|go8|gl13|gl14|gO0|go9|go10|go11|go12|go13|go14|go15|go16|z0|z1|z2|z3|z4|z5|z6|z7|z8|z9|z10|z11|z12|z13|z14|z15|z16|z17|z18=>k_is)
  (case gm0=>rfl)

