import PyProof.Rows.All
import Wide.All
import OpenK.AllK
import Wide.FinOn
import Lean
import PyProof.EqAt
import PyProof.EqKinds
import PyProof.TupleCall
import PyProof.NeData
import PyProof.P3In
import PyProof.FactsAll.set
import PyProof.CollectWalk
import PyProof.FactsAll.range
import PyProof.MinMaxWalk
import KE.KMinKey
import PyProof.WalkInts
import PyProof.Rows.CallKwBuiltin
import KE.KLam
import KE.KSortTup
import PyProof.Rows.Range3
import PyProof.ListRange
import PyProof.DictRoadsH
import KE.KDictList
import PyProof.Rows.SortKeyStr
import PyProof.DictCompW
import PyProof.DictWalks
import PyProof.Rows.CompDC
import PyProof.SumAny
import PyProof.TupleOfGen
import PyProof.CollectIter
import KE.KTryMore
import OpenK.KOwn
import PyProof.ExcBaseAll.ValueError
import KE.KNestM
import PyProof.NsDelKeeps
import PyProof.ExcAttrAll.ValueError
import PyProof.Conv_int_bool
import PySem.Challenge.RW_twinmoulds_k14_refusals_of_the_first_sta
set_option bootstrap.genMatcherCode false
set_option genInjectivity false
set_option genSizeOfSpec false
set_option Elab.async false
set_option linter.all false
set_option maxRecDepth 100000
set_option maxHeartbeats 4000000
open PySem renaming wpAny_bind→À,wpAny_pure→Â,Shared→Ä,Value→Ç,starEach→Õ,mainGlobals→Ö,sizeLine→Ø,Addr→Ù,wpAny→Ý,model→â,Program→ä,Around→ì,wpAny_newObj_type→ï,wpAny_call_entry→ö,World→ù,bootBuiltins→ú,wpAny_callSpecial?_slot→ü,foldedSetIterable→ÿ,wpAny_mono→Ę,wpAny_holding→ě,compareOp→ġ,Expr→ħ,FuncData→Ī,wpAny_seqItems→ı,Heap→Ĳ,mem_of_lookup→ĳ,wpAny_field→Ĺ,binaryOp→Ł,sysModules→ņ,backTo→Ň,wpAny_typeNameOfWhole_keyiter→Ō,eval→ō,wpAny_attempt→Ŏ,wpAny_setField→Ő,wpAny_truthy_bool→ő,letOwnedTupleGo→Ŕ,Builtin→Ŗ,intKind→ŗ,assignEach→Ś,wpAny_rule→ś,wpAny_askSetting→ŝ,wpAny_setField_rec→Š,sizeLine_eq→Ţ,NameKind→Ť,wpAny_setState_of→Ū,codeAny_builtin→ū,rawInt→ŭ,codeAny_mono→Ů,wpAny_standAt→Ű,swapsWithSole→ű,swappedStores→Ų,wpAny_setEntries_of→ŵ,pickOrder→ź,pyNext→δ,codeAny→η,wpAny_loadPart'→ν,Scope→ο,wpAny_pyIter_list→ς,fits_of_scanBound→χ,PyData→ω,cellsFrom→aaV,firstArgMember→aaX,IsPair→aaY,scanBound→aa0,wpAny_fieldsOf→aa1,wpAny_isInstance→aa5,cLine→abh,wpAny_execs_nil→abi,holding→abj,wpAny_passesOwn→abl,behindInMarks→abm,wpAny_Call_Name_kw→abn,attributeBase→abp,wpAny_specialOf→abr,sliceBounds→abH,call_meets→abI,wpAny_storeSet_of→abL,eqIsQuiet_byValue→abN,bindName→abP,wpAny_bindName→abQ,wpAny_typeOf→abV,Keyword→ab3,assign→ab6,assignInOrder→ab8,swapsWith→ace,standAt→acf,keywordEach→acg,Stmt→acx,getItem→acz
open PySem.Heap renaming get?_push_of_some→Á,lt_size→Î,get?_push_size→Ô,size_push→Ċ,get?_update_self→Ė,SameBut→ī,get?_update_other→ſ,ExtBut→aba,get?_update_ne→abc,get?_some_iff→abz,FlyingW→abZ
open List renaming getElem?_eq_some_iff→Ã,replicate→Å,mem_cons_of_mem→Ê,getElem?_eq_getElem→Ë,length_map→Í,getElem?_set_ne→Ï,mem_cons_self→Ð,mem_append_right→Ñ,mem_cons→Ò,getElem?_set_self→Ó,size_toArray→Ú,getElem?_append_left→Ü,map_cons→ß,length_cons→á,getElem?_map→ç,mem_append→è,not_mem_nil→é,length_set→î,getElem?_append_right→ð,length_append→ó,pairwise_cons→ô,mem_singleton→õ,all_eq_true→ø,length_nil→ý,mem_append_left→þ,cons_append→ā,range→Ć,length_replicate→Ĉ,mem_map→ċ,set_cons_succ→č,set_cons_zero→Ď,mem_filter→ĕ,nil_append→ė,map_nil→Ě,mem_range→Ġ,getElem?_replicate→Ģ,lookup_cons→ģ,zip_cons_cons→Ĩ,getElem?_eq_none→Ĭ,append_assoc→į,append_nil→İ,map_map→ķ,replicate_succ→ŀ,map_append→ń,ext_getElem?→œ,any_eq_true→Ŝ,mem_of_getElem?→ť,flatten_cons→ŧ,getD→ũ,getElem_of_mem→ų,getElem?_range→Ŵ,filter_cons→ž,nodup_cons→θ,find?_cons→ι,nodup_append→ψ,drop_eq_getElem_cons→aa2,isEmpty_nil→aa7,filterMap_cons→aa9,eq_of_mem_replicate→abg,mem_filterMap→abk,forIn_cons→abq,length_eq_zero_iff→abu,pairwise_singleton→abv,flatMap_eq_nil_iff→abB,any_eq_false→abO,length_singleton→abW,toArray→abY,length_filter_le→ab0,set_set→ab2,length_take→ab4,getElem_mem→ab5,pairwise_append→ab7,map_congr_left→aci,nodup_nil→acs
open Bool renaming and_eq_true→Æ,false_eq_true→Ì,false_ne_true→Û,not_true→đ,true_and→Ē,and_self→Ĝ,not_eq_true'→Ķ,eq_iff_iff→ζ,not_eq_true→aa6,or_eq_true→ack
open Nat renaming lt_of_lt_of_le→È,le_trans→Þ,ne_of_lt→à,lt_irrefl→ë,zero_le→Đ,lt_succ_of_lt→Ħ,ne_of_gt→ş,le_of_not_lt→Ÿ,lt_succ_self→Ż,le_max_right→ż,mul_le_mul_right→aaU,le_succ→abb,le_max_left→abx,add_assoc→ab9,not_lt_zero→acn
open PySem.W renaming nsIn→å,mg_none_of→ò,Frag→ę,mg_of→ĩ,keepIn→ł,fnOf→ů,tabIn→Ŷ,hideAll_get→aa8,cellsFrom_some→abC,findIn→abR,codeIn→abS,callWith_K→acp,methodObj→acu,excIn→acA
open PySem.NameKind renaming free→ê
open Array renaming length_toList→ñ,getElem?_toList→ĭ,toList_push→abK,getD→acv
open Sum renaming inr→Ă
open PySem.Obj renaming data_mapFields→ă,isFreed_of_fields→ĵ,mapSeq→Œ,cls_mapFields→υ
open PySem.Builtin.SmallTypes renaming nextOf→ą,ownedTupleIsFree→Ĵ,ownedTupleHandOut→aaZ
open PySem.Str renaming ofString→ĉ
open PySem.SetTable renaming below→Č,grown→abT
open PySem.Heap.SameBut renaming update→ď
open Int renaming toNat_natCast→ē,emod_lt_of_pos→ε,emod_nonneg→abA,zero_add→ab1
open PyProof.Rows renaming slot_tuple_getitem→Ğ,firstMet→ŏ,callWith_type1→ŕ,assignInOrder_cons→Ş,envOfC→ŷ,IntsAre→abG,seqObj→acq,AllBare→acy
open PySem.PyData renaming depthAll→ğ,eqv→ĥ,shownAll→Ļ,showableAll→ļ,weightAll→ľ,leavesShortAll→š,showable→ξ,hasDict→aa4,leavesShort→acr
open PySem.PassesOwn renaming never→Ĥ
open False renaming elim→Į
open PySem.F renaming slot_dict_keyiterator_next→ĸ,slot_tuple_iterator_next→ř,called_set→μ,args_tuple_add_2→abe,entry_tuple_add→abo,plainAttrs_list→abw,slot_tuple_add→abD,slot_tuple_hash→abM,slot_int_rmul→ach,slot_zip_next→acj
open ForInStep renaming yield→ĺ
open Ne renaming symm→Ŀ
open PySem.Value renaming ref→Ń,bool→Ņ,type→abF,int→acd
open PySem.Builtin.Tuple renaming tupleExact→Ŋ,tupleItemsOf→Ř,tupleIsExact→aaT,tupleHashOf→aa3
open PySem.Builtin.Slice renaming slicePlaces→ţ,sliceAdjust→aaW,sliceApplied→aco
open PySem.Around renaming under_plainId→Ŧ
open Option renaming map_some→Ũ,isSome_iff_exists→abd,map_eq_some_iff→abE
open Function renaming comp_def→Ŭ
open Or renaming inl→Ź,inr→acB
open PySem.Sem renaming wp→Ž
open PySem.Builtin.List renaming listTooLong→abf,listExtendWith→acm
open PyProof.Rows.F renaming plain_set_update_loop→abt
open List.cons renaming injEq→aby
open PySem.SetTable.below renaming go→abJ
open PySem.ReprK renaming of_reads→abU
open List.Pairwise renaming sublist→abX
open PySem.Builtin.Dict_items renaming ownsTuple→aca
open PySem.SetTable.probe renaming go→acw
def É:=@decide_eq_true_eq
def ã:=@if_pos
def æ:=@decide_eq_true
def í:=@if_neg
def û:=@if_false
def Ā:=@if_true
def Ą:=@of_decide_eq_true
def ć:=@decide_eq_false
def Ĕ:=@bne_self_eq_false
def ĝ:=@beq_self_eq_true
def Ľ:=@decide_true
def ň:=@congrArg
def ŋ:=@and_self
def acb:=@true_and
def acG:=@Nat.le_refl
def acH:=@Option.some.inj
abbrev acI:PySem.Str:="_law_right"
abbrev acJ:PySem.Str:="_law_state_here"
abbrev acK:PySem.Str:="_law_script"
abbrev acL:PySem.Str:="_law_name"
abbrev acM:PySem.Str:="_law_mark"
abbrev acN:PySem.Str:="_law_some"
abbrev acO:PySem.Str:="_law_found"
abbrev acP:PySem.Str:="_law_day"
abbrev acQ:PySem.Str:="_law_mended"
abbrev acR:PySem.Str:="_law_error"
abbrev acS:PySem.Str:="_law_call_here"
abbrev acT:PySem.Str:="_law_book_here"
abbrev acU:PySem.Str:="_law_kinds_here"
noncomputable section
local macro_rules | `(tactic| omega) => `(tactic| lia)
open PySem.W (Frag)
namespace L2
open PySem PySem.Spec PyProof.Rows
noncomputable abbrev Key:=Sum Int Str
def pT:Key->Ç->Bool
 | .inl k,v=>Value.isInt k v
 | .inr x,v=>Value.isStrOf x v
def ZS (w:ù):Key->Int
 | .inl k=>hashInt k
 | .inr x=>hashStr w x
def lr:∀{k:Key} {v:Ç},pT k v=true->(∃i t,k=Sum.inl i/\v=acd i t)\/(∃x t,k=Ă x/\v=Value.str x t)
 | .inl i,v,h=>by
  obtain⟨t,e⟩:=Value.isInt_shape (k:=i) (v:=v) h;exact .inl ⟨i,t,rfl,e⟩
 | .inr x,v,h=>by
  obtain⟨t,e⟩:=Value.isStrOf_shape (x:=x) (v:=v) h;exact .inr ⟨x,t,rfl,e⟩
def Rv (i:Int) (t:Tok):pT (.inl i) (.int i t)=true:=by simp[pT,Value.isInt]
def Rw (x:Str) (t:Tok):pT (.inr x) (.str x t)=true:=by simp[pT,Value.isStrOf]
def Ws (a b:Int):decide ((Sum.inl a:Key)=Sum.inl b)=(a==b):=by
 by_cases e:a=b
 ·subst e;simp
 ·have h:¬ (Sum.inl a:Key)=Sum.inl b:=λq=>e (Sum.inl.inj q)
  rw[ć h];exact(beq_eq_false_iff_ne.mpr e).symm
def Wt (a b:Str):decide ((Ă a:Key)=Ă b)=decide (a=b):=by
 by_cases e:a=b
 ·subst e;simp
 ·have h:¬ (Ă a:Key)=Ă b:=λq=>e (Sum.inr.inj q)
  rw[ć h,ć e]
def Wu (a:Int) (b:Str):decide ((Sum.inl a:Key)=Ă b)=false:=ć (λq=>nomatch q)
def Wv (a:Str) (b:Int):decide ((Ă a:Key)=Sum.inl b)=false:=ć (λq=>nomatch q)
def hZ (prog:ä) (w:ù):PySem.KeyKind prog w Key where
 is:=pT
 hash:=ZS w
 inj:=λv a b X Y=>by
  rcases lr X with ⟨i,t,rfl,rfl⟩ | ⟨x,t,rfl,rfl⟩
  ·rcases lr Y with ⟨j,u,rfl,e⟩ | ⟨y,u,rfl,e⟩
   ·injection e with e1 _;rw[e1]
   ·exact nomatch e
  ·rcases lr Y with ⟨j,u,rfl,e⟩ | ⟨y,u,rfl,e⟩
   ·exact nomatch e
   ·injection e with e1 _;rw[e1]
 byValue:=λk v h=>by
  rcases lr h with ⟨i,t,rfl,rfl⟩ | ⟨x,t,rfl,rfl⟩<;>rfl
 pyHash:=λZ h=>by
  rcases lr Z with ⟨i,t,rfl,rfl⟩ | ⟨x,t,rfl,rfl⟩
  ·exact wpAny_pyHash_int h
  ·exact wpAny_pyHash_str h
 eqBool:=λW Z h=>by
  rcases lr W with ⟨i,t,rfl,rfl⟩ | ⟨x,t,rfl,rfl⟩
  ·rcases lr Z with ⟨j,u,rfl,rfl⟩ | ⟨y,u,rfl,rfl⟩
   ·rw[Ws] at h;exact wpAny_eqBool_int h
   ·rw[Wu] at h;exact SeqAt.EqAt.int_str i t y u _ _ _ _ h
  ·rcases lr Z with ⟨j,u,rfl,rfl⟩ | ⟨y,u,rfl,rfl⟩
   ·rw[Wv] at h;exact SeqAt.EqAt.str_int x t j u _ _ _ _ h
   ·rw[Wt] at h;exact wpAny_eqBool_str h
 «strs»:=λk x t v h=>by
  rcases lr h with ⟨i,u,rfl,e⟩ | ⟨y,u,rfl,e⟩
  ·exact nomatch e
  ·injection e with e1 _
   subst e1
   cases v<;>rfl
def PY (prog:ä) (w:ù) (i:Int) (t:Tok):(hZ prog w).is (.inl i) (.int i t)=true:=Rv i t
def PZ (prog:ä) (w:ù) (x:Str) (t:Tok):(hZ prog w).is (.inr x) (.str x t)=true:=Rw x t
set_option genInjectivity true in
inductive V where
 |au|bl (b:Bool)|int (i:Int)|str (x:Str)|jn (b:Array UInt8)|vZ (b:UInt64)|ref (a:Ù)|ty (n:String)
 deriving DecidableEq
def RelV:V->Ç->Prop
 | .au,u=>u=Value.none
 | .bl b,u=>u=Ņ b
 | .int i,u=>∃t,u=acd i t
 | .str x,u=>∃t,u=Value.str x t
 | .jn b,u=>∃t,u=Value.bytes b t
 | .vZ b,u=>∃t,u=Value.float b t
 | .ref a,u=>u=Ń a
 | .ty n,u=>u=abF n
abbrev Vals:List V->List Ç->Prop:=Paired RelV
theorem Vals.length (r:Vals xs us):xs.length=us.length:=Paired.length r
theorem Vals.get:∀{xs:List V} {us:List Ç} {i:Nat} {x:V},Vals xs us->xs[i]?=some x->∃u,us[i]?=some u/\RelV x u
 |_,_,_,_,.nil,e=>by simp at e
 |_,_,0,_,.cons r _,e=>by simp at e;subst e;exact⟨_,rfl,r⟩
 |_,_,i+1,x,.cons _ t,e=>by
  obtain⟨u,Z,Y⟩:=Vals.get (i:=i) (x:=x) t (by simpa using e);exact⟨u,by simpa using Z,Y⟩
theorem Vals.set (r:RelV x u):∀{xs:List V} {us:List Ç} (i:Nat),Vals xs us->Vals (xs.set i x) (us.set i u)
 |_,_,_,.nil=>.nil
 |_,_,0,.cons _ t=>.cons r t
 |_,_,i+1,.cons q t=>.cons q (Vals.set r i t)
theorem Vals.append:∀{xs ys:List V} {us ws:List Ç},Vals xs us->Vals ys ws->Vals (xs++ys) (us++ws)
 |_,_,_,_,.nil,s=>s
 |_,_,_,_,.cons r t,s=>.cons r (Vals.append t s)
theorem Vals.take:∀{xs:List V} {us:List Ç} (n:Nat),Vals xs us->Vals (xs.take n) (us.take n)
 |_,_,0,_=>.nil
 |_,_,_ + 1,.nil=>.nil
 |_,_,n+1,.cons r t=>.cons r (Vals.take n t)
theorem Vals.drop:∀{xs:List V} {us:List Ç} (n:Nat),Vals xs us->Vals (xs.drop n) (us.drop n)
 |_,_,0,r=>r
 |_,_,_ + 1,.nil=>.nil
 |_,_,n+1,.cons _ t=>Vals.drop n t
def ou:Option V->Option Ç->Prop
 |some v,some u=>RelV v u
 |none,none=>True
 |_,_=>False
def KV {κ:Type}:List (κ×V)->List (κ×Ç)->Prop:=Paired λ(p:κ×V) (q:κ×Ç)=>p.1=q.1/\RelV p.2 q.2
def kV:Key->V
 | .inl i=>.int i
 | .inr x=>.str x
inductive HO where
 |lst (xs:List V)
 |tup (xs:List V)
 |dK (ai:List (Key×V))|dT (ai:List (List Key×V))
 |set (S:Int->Bool) (n:Nat)
 |ins (C dx:Ù) (fs:List (Str×V))
 |own (x:Ù)
 |xd (fs:List (Str×V))
 |met (f x:Ù)
 |dE (lo hi:Int)
 |aR (o:Obj) (u:HO)
 |cN (ps:Array Ç)
 |ext (φ:Ĳ->Prop)
noncomputable abbrev Hp:=Ù->Option HO
def upd (H:Hp) (a:Ù) (o:HO):Hp:=λb=>if b=a then some o else H b
def cq:upd H a o a=some o:=by unfold upd;rw[ã rfl]
def aV (h:b≠a):upd H a o b=H b:=by unfold upd;rw[í h]
def dg {H:Hp} {a b:Ù} {o:HO} (h:H a=some o) (h':H b=none):a≠b:=by
 intro e;subst e;rw[h] at h';cases h'
section
variable (P:ä) (w:ù)
def cC (H:Hp) (h:Ĳ) (a:Ù):HO->Prop
 | .lst Z=>Z.length<=Ø/\∃(its:List Ç) (n:Nat),Vals Z its/\h.get? a=some { cls:=.type "list",data:=.seq its.toArray n }
 | .tup Z=>Z.length<=Ø/\∃its:List Ç,Vals Z its/\IsTup h a its.toArray
 | .dK X=>X.length<=Ø/\(a==ņ)=false/\∃R,KV X R/\h.DictOf (hZ P w) a R
 | .dT X=>X.length<=Ø/\(a==ņ)=false/\∃Z:List (List Key×Ù×Ç),
   Paired (λ(p:List Key×V) (q:List Key×Ù×Ç)=>p.1=q.1/\H q.2.1=some (.tup (p.1.map kV))/\RelV p.2 q.2.2) X Z /\
   ∃o Q M,h.get? a=some o/\o.ExactDict/\o.data=.dict Q M/\Q.toList=Z.map (entryOfKey (tupleKind (hZ P w)))/\(Z.map (·.1)).Nodup
 | .set S n=>h.SetOf (ŗ P w) a S n
 | .ins C U fs=>H U=some (.own a)/\fs.length<=1000/\U≠a/\h.get? a=some (PySem.W.instObj C U) /\
   ∃Y,h.Ns1 U Y/\(∀f,ou (fs.lookup f) (Y f))/\PySem.Within Y (fs.map (·.1))
 | .own _=>∃o,h.get? a=some o
 | .xd fs=>∃Y,h.Ns1 a Y/\∀f,ou (fs.lookup f) (Y f)
 | .dE lo hi=>∃t u v,h.get? a=some { cls:=.type "range",data:=.fields #[.int lo t,.int hi u,.int 1 v] }
 | .aR o u=>h.get? a=some o/\cC H h a u
 | .cN L=>h.get? a=some { cls:=.none,data:=.fields L }
 | .met f x=>h.get? a=some (acu (.ref f) (.ref x))
 | .ext T=>T h/\(∃o,h.get? a=some o)/\∀O N:Ĳ,T O->(∀o,O.get? a=some o->N.get? a=some o)->T N
def cf (H:Hp) (h:Ĳ):Prop:=∀a o,H a=some o->cC P w H h a o
end
section
variable {P:ä} {w:ù} {H H':Hp} {h h':Ĳ} {a:Ù} {o:HO}
theorem cC.lt (x:cC P w H h a o):a<h.objs.size:=by
 cases o with
 |lst Z=>obtain⟨_,_,_,_,e⟩:=x;exact Î e
 |tup Z=>obtain⟨_,_,_,p⟩:=x;exact p.lt
 |dK Y=>obtain⟨_,_,_,_,o,_,_,e,_⟩:=x;exact Î e
 |dT Y=>obtain⟨_,_,_,_,o,_,_,e,_⟩:=x;exact Î e
 |set S n=>obtain⟨o,_,_,_,e,_⟩:=x;exact Î e
 |ins C X fs=>obtain⟨_,_,_,e,_⟩:=x;exact Î e
 |own y=>obtain⟨_,e⟩:=x;exact Î e
 |xd fs=>obtain⟨_,⟨_,_,_,e,_⟩,_⟩:=x;exact Î e
 |dE lo hi=>obtain⟨_,_,_,e⟩:=x;exact Î e
 |aR W u=>obtain⟨e,_⟩:=x;exact Î e
 |cN V=>exact Î (show h.get? a=some _ from x)
 |met f y=>exact Î (show h.get? a=some _ from x)
 |ext U=>obtain⟨_,⟨_,e⟩,_⟩:=x;exact Î e
theorem Paired.Mx {α β:Type} {F G:α->β->Prop}:∀{My:List α} {Mz:List β},Paired F My Mz->(∀a b,F a b->G a b)->Paired G My Mz
 |_,_,.nil,_=>.nil
 |_,_,.cons r t,f=>.cons (f _ _ r) (Paired.Mx t f)
def cC.dY (x:cC P w H h a o) (k:∀b u,(b=a\/H b=some (.own a))->h.get? b=some u->h'.get? b=some u)
  (ho:∀b,H b=some (.own a)->H' b=some (.own a)) (ht:∀b xs,H b=some (.tup xs)->H' b=some (.tup xs)):cC P w H' h' a o:=by
 induction o with
 |lst xs=>obtain⟨z,its,n,r,e⟩:=x;exact⟨z,its,n,r,k _ _ (.inl rfl) e⟩
 |tup xs=>obtain⟨z,its,r,Z,e,c⟩:=x;exact⟨z,its,r,Z,k _ _ (.inl rfl) e,c⟩
 |dK R=>obtain⟨z,y,Q,r,Z,Y,X,e,c⟩:=x;exact⟨z,y,Q,r,Z,Y,X,k _ _ (.inl rfl) e,c⟩
 |dT R =>
  obtain⟨z,y,xs,r,Z,Y,X,e,c⟩:=x;exact⟨z,y,xs,Paired.Mx r λp q z=>⟨z.1,ht _ _ z.2.1,z.2.2⟩,Z,Y,X,k _ _ (.inl rfl) e,c⟩
 |set S n=>obtain⟨Z,Y,X,t,e,c⟩:=x;exact⟨Z,Y,X,t,k _ _ (.inl rfl) e,c⟩
 |ins C O fs =>
  obtain⟨d,z,ne,e,W,⟨V,Y,X,e2,c⟩,r⟩:=x;exact⟨ho _ d,z,ne,k _ _ (.inl rfl) e,W,⟨V,Y,X,k _ _ (.inr d) e2,c⟩,r⟩
 |own y=>obtain⟨Z,e⟩:=x;exact⟨Z,k _ _ (.inl rfl) e⟩
 |xd fs=>obtain⟨W,⟨V,Y,X,e,c⟩,r⟩:=x;exact⟨W,⟨V,Y,X,k _ _ (.inl rfl) e,c⟩,r⟩
 |dE lo hi=>obtain⟨t,u,v,e⟩:=x;exact⟨t,u,v,k _ _ (.inl rfl) e⟩
 |aR Z u ih=>obtain⟨e,q⟩:=x;exact⟨k _ _ (.inl rfl) e,ih q⟩
 |cN U =>
  have e:h.get? a=some { cls:=.none,data:=.fields U }:=x;show h'.get? a=some { cls:=.none,data:=.fields U };exact k a _ (.inl rfl) e
 |met f y =>
  have e:h.get? a=some (acu (.ref f) (.ref y)):=x;show h'.get? a=some (acu (.ref f) (.ref y));exact k a _ (.inl rfl) e
 |ext N=>obtain⟨p,⟨o,e⟩,T⟩:=x;exact⟨T _ _ p λo q=>k _ _ (.inl rfl) q,⟨o,k _ _ (.inl rfl) e⟩,T⟩
theorem cf.lt (x:cf P w H h) (e:H a=some o):a<h.objs.size:=(x a o e).lt
def cf.fresh (x:cf P w H h) (e:h.objs.size<=a):H a=none:=by
 cases q:H a with
 |none=>rfl
 |some u=>exact absurd (È (x.lt q) e) (ë _)
def cf.kept (x:cf P w H h) (k:∀b u,h.get? b=some u->h'.get? b=some u):cf P w H h':=λa o e =>
 (x a o e).dY (λb u _ q=>k b u q) (λ_ q=>q) λ_ _ q=>q
def cf.laid (x:cf P w H h) (k:∀b u,h.get? b=some u->h'.get? b=some u) (hp:h.objs.size<=a) (new:cC P w (upd H a o) h' a o):cf P w (upd H a o) h':=λb u e=>by
 have Z:=x.fresh hp;by_cases Y:b=a
 ·subst Y;rw[cq] at e;cases e;exact new
 ·rw[aV Y] at e
  exact(x b u e).dY (λc v _ q=>k c v q) (λc q=>by rw[aV (dg q Z)];exact q) λc X q=>by rw[aV (dg q Z)];exact q
end
def Rd (H:Hp) (a:Ù) (u:HO):Prop:=H a=some u\/∃o,H a=some (.aR o u)
def Rd.ok (r:Rd H a u) (x:cf P w H h):cC P w H h a u:=by
 rcases r with r | ⟨o,r⟩
 ·exact x a u r
 ·obtain⟨_,q⟩:=x a _ r
  exact q
def v5:Option HO->Prop
 |some (.lst _)=>True
 |some (.dK _)=>True
 |some (.dT _)=>True
 |some (.set _ _)=>True
 |some (.ins _ _ _)=>True
 |some (.ext _)=>True
 |_=>False
section
variable {P:ä} {w:ù} {H:Hp} {h h':Ĳ} {x e:Ù} {o':HO}
def cf.write (ok:cf P w H h) (mu:v5 (H x)) (he:e=x\/H e=some (.own x)) (k:∀b u,b≠e->h.get? b=some u->h'.get? b=some u) (sT:∃u,h'.get? e=some u)
  (new:cC P w (upd H x o') h' x o'):cf P w (upd H x o') h':=λb u q=>by
 have W:∀c y,H c=some (.own y)->c≠x:=λc y r z=>by subst z;rw[r] at mu;exact mu
 have U:∀c Z,H c=some (.tup Z)->c≠x:=λc Z r z=>by subst z;rw[r] at mu;exact mu
 by_cases Y:b=x
 ·subst Y;rw[cq] at q;cases q;exact new
 ·rw[aV Y] at q
  by_cases X:b=e
  ·have V:H b=some (.own x):=by
    rcases he with z|z
    ·exact absurd (X.trans z) Y
    ·rw[X];exact z
   rw[q] at V;cases V;obtain⟨v,T⟩:=sT;exact⟨v,by rw[X];exact T⟩
  ·refine(ok b u q).dY (λc v hc r=>k c v ?_ r) (λc r=>by rw[aV (W c b r)];exact r) λc Z r=>by rw[aV (U c Z r)];exact r
   rcases hc with rfl|hc
   ·exact X
   ·rintro rfl
    rcases he with z|z
    ·exact W c b hc z
    ·rw[hc] at z;cases z;exact Y rfl
end
structure Un (fs ex:List Ù) (H H':Hp) (h h':Ĳ):Prop where
 keep:∀b o,h.get? b=some o->H b=none->b∉fs->b∉ex->h'.get? b=some o
 slot:∀b o,h.get? b=some o->H b=none->b∈fs->b∉ex->∃sl,h'.get? b=some { o with slots:=sl }
 free:∀b o,h.get? b=some o->H b=none->b∉ex->H' b=none
 there:∀b o,h.get? b=some o->b∉ex->∃o',h'.get? b=some o'
 fN:∀b xs,H b=some (.tup xs)->H' b=some (.tup xs)
 eY:∀b o u,H b=some (.aR o u)->H' b=some (.aR o u)
 fO:∀b ps,H b=some (.cN ps)->∃more,H' b=some (.cN (ps++more))
section
variable {fs fs' ex ex':List Ù} {H H1 H2:Hp} {h h1 h2 h':Ĳ} {a x e:Ù} {o:HO}
def Un.any (u:Un fs ex H H1 h h1) (q:h.get? b=some ob) (n:H b=none) (hx:b∉ex):∃sl,h1.get? b=some { ob with slots:=sl }:=by
 by_cases Z:b∈fs
 ·exact u.slot b ob q n Z hx
 ·exact⟨ob.slots,u.keep b ob q n Z hx⟩
def Un.kept (k:∀b u,h.get? b=some u->h'.get? b=some u):Un fs ex H H h h' :=
 ⟨λb Z q _ _ _=>k b Z q,λb Z q _ _ _=>⟨Z.slots,k b Z q⟩,λ_ _ _ n _=>n,λb Z q _=>⟨Z,k b Z q⟩,λ_ _ q=>q,λ_ _ _ q=>q,λ_ Y q=>⟨#[],by rw[q];simp⟩⟩
def Un.refl:Un fs ex H H h h:=Un.kept λ_ _ q=>q
def Un.laid (k:∀b u,h.get? b=some u->h'.get? b=some u) (hp:h.objs.size<=a) (hn:H a=none):Un fs ex H (upd H a o) h h' where
 keep:=λb u q _ _ _=>k b u q
 slot:=λb u q _ _ _=>⟨u.slots,k b u q⟩
 free:=λb u q n _=>by rw[aV (à (È (Î q) hp))];exact n
 there:=λb u q _=>⟨u,k b u q⟩
 fN:=λb Z q=>by rw[aV (dg q hn)];exact q
 eY:=λb u Z q=>by rw[aV (dg q hn)];exact q
 fO:=λb Y q=>⟨#[],by rw[aV (dg q hn),q];simp⟩
def Un.write (mu:v5 (H x)) (he:e=x\/H e=some (.own x)) (k:∀b u,b≠e->h.get? b=some u->h'.get? b=some u) (sT:∃u,h'.get? e=some u):Un fs ex H (upd H x o) h h':=by
 have Y:∀b,H b=none->b≠x:=λb n z=>by subst z;rw[n] at mu;exact mu
 have X:∀b,H b=none->b≠e:=λb n z=>by
  subst z
  rcases he with r|r
  ·exact Y b n r
  ·rw[n] at r;cases r
 have Z:∀b u,H b=some u->¬ v5 (some u)->b≠x:=λb u q nm z=>by subst z;rw[q] at mu;exact nm mu
 refine⟨λb u q n _ _=>k b u (X b n) q,λb u q n _ _=>⟨u.slots,k b u (X b n) q⟩,λb u q n _=>by rw[aV (Y b n)];exact n,λb u q _=>?_,
  λb V q=>by rw[aV (Z b _ q λz=>z)];exact q,λb u V q=>by rw[aV (Z b _ q λz=>z)];exact q,λb U q=>⟨#[],by rw[aV (Z b _ q λz=>z),q];simp⟩⟩
 by_cases W:b=e
 ·subst W;exact sT
 ·exact⟨u,k b u W q⟩
end
def sU (h:Ĳ) (H:Hp):List Ù:=(Ć h.objs.size).filter λa=>(H a).isSome
def m9 (h:Ĳ) (H:Hp):Ĳ:=PySem.W.hideAll h (sU h H)
def Rx (h:Ĳ) (H:Hp):(m9 h H).objs.size=h.objs.size:=PySem.W.hideAll_size _ _
def Bh (e:h.get? b=some o) (n:H b=none):(m9 h H).get? b=some o :=
 aa8 _ e λZ=>by
  have q:(H b).isSome=true:=(ĕ.mp Z).2;rw[n] at q;simp at q
def UY (e:(m9 h H).get? b=some o):h.get? b=some o/\H b=none:=by
 have Z:h.get? b=some o:=PySem.W.of_hideAll (sU h H) e;refine⟨Z,?_⟩
 cases q:H b with
 |none=>rfl
 |some x =>
  have Y:b∈sU h H:=ĕ.mpr ⟨Ġ.mpr (Î Z),by simp[q]⟩;have z:(m9 h H).get? b=none:=PySem.W.hideAll_none (sU h H) Y;rw[z] at e;cases e
noncomputable def UZ (g h:Ĳ) (L:Ù):List (Ù×Obj):=(Ć h.objs.size).filterMap λa=>if a=L\/(g.get? a).isSome=true then none else (h.get? a).map λo=>(a,o)
def rest (g h:Ĳ) (L d:Ù):List (Ù×Obj):=(UZ g h L).filter λp=>decide (p.1≠d)
structure Mod (K:ę) (mg:Str->Option Ç) (base:Ĳ):Prop where
 lU:K.In base
 glob:base.Ns Ö mg
 blt:∃mb,base.Ns builtinsNs mb/\∀x:Str,x≠"__name__"->mb x=ú x
 nolimit:base.NoLimit
structure Cx where
 prog:ä
 w:ù
 K:ę
 mg:Str->Option Ç
 base:Ĳ
 A:ì
 N:List Str
 cQ:Ä
 lK:Hp
 env:Env
 outer:List Env
 stack:List Env
 ex:List Ù
 fn:Str->Bool
 calm:Bool
 pn:List (Ù×Obj)
 xe:Ç->Ä->Prop
noncomputable def cw (l:List Env):List Ù:=l.filterMap (·.frame)
abbrev Cx.fs (X:Cx):List Ù:=cw X.outer
def oG (sc:ο) (x:Str):Prop:=sc.names.lookup x=some .local\/sc.names.lookup x=some .cell\/sc.names.lookup x=some .free
def Loc (sc:ο) (x:Str):Prop:=sc.names.lookup x=some .local\/sc.names.lookup x=some .cell
def Look (env:Env) (h:Ĳ) (m:Str->Option Ç) (x:Str) (u:Ç):Prop :=
 (env.kindOf x=some .local/\m x=some u)\/((env.kindOf x=some .cell\/env.kindOf x=some .free)/\∃c,env.cells.lookup x=some c/\h.IsCell c (some u))
structure Cx.Ok (X:Cx):Prop where
 mod:Mod X.K X.mg X.base
 kind:X.env.scope.kind=.function
 glob:X.env.globals=Ö
 blt:X.env.builtins=builtinsNs
 above:X.cQ.heap.objs.size<=X.env.locals
 inj:∀x y c,X.env.cells.lookup x=some c->X.env.cells.lookup y=some c->x=y
 has:∀x,(X.env.kindOf x=some .cell\/X.env.kindOf x=some .free)->∃c,X.env.cells.lookup x=some c
 sV:∀x c,X.fn x=true->X.env.cells.lookup x=some c->X.cQ.heap.objs.size<=c
 hd:X.calm=true->X.A.handled=none
 frames:X.A.frames=some X.stack
 lV:X.stack=X.outer\/(X.stack=X.env::X.outer/\X.env.frame=some X.env.locals)
 Ni:∀b∈X.ex,b≠X.env.locals/\∀x c,X.env.cells.lookup x=some c->c≠b
 bs:∀b o,X.base.get? b=some o->X.cQ.heap.get? b=some o/\X.lK b=none
 jo:X.base.objs.size<=X.cQ.heap.objs.size
 ow:∀b o,X.base.get? b=some o->b∉X.ex
 zd:∀b∈X.ex,b∉X.fs
 jh:X.cQ.heap.FunFrames X.base X.outer
 nu:∀b∈X.fs,X.lK b=none
structure Inv (X:Cx) (π:List (Ù×Obj)) (σ:List (Option V)) (H:Hp) (s:Ä):Prop where
 ok:X.Ok
 os:s.os=X.cQ.os
 bare:acy s.gens
 base:Un X.fs X.ex X.lK H X.cQ.heap s.heap
 loc:∃m,s.heap.Ns X.env.locals m/\∀(i:Nat) (x:Str) (v:V),X.N[i]?=some x->σ[i]?=some (some v)->oG X.env.scope x->∃u,RelV v u/\Look X.env s.heap m x u
 cell:∀x c,X.env.cells.lookup x=some c->∃v,s.heap.IsCell c v
 free:H X.env.locals=none
 iU:∀x c,X.env.cells.lookup x=some c->H c=none
 pin:∀p∈X.pn++π,s.heap.get? p.1=some p.2/\H p.1=none/\p.1≠X.env.locals/\p.1∉X.fs/\∀v,p.2.data≠.cell v
 aE:cf X.prog X.w H s.heap
 len:σ.length=X.N.length
section
variable {X:Cx} {π:List (Ù×Obj)} {σ:List (Option V)} {H H':Hp} {s:Ä} {h':Ĳ}
def Cx.Ok.ZU (ok:X.Ok) (e:X.base.get? b=some o):b∉X.fs:=λZ=>by
 have:=(ok.jh.mem Z).1;rw[e] at this;cases this
theorem Inv.bs (I:Inv X π σ H s):∀b o,X.base.get? b=some o->s.heap.get? b=some o/\H b=none:=λb o e =>
 ⟨I.base.keep b o (I.ok.bs b o e).1 (I.ok.bs b o e).2 (I.ok.ZU e) (I.ok.ow b o e),I.base.free b o (I.ok.bs b o e).1 (I.ok.bs b o e).2 (I.ok.ow b o e)⟩
def Inv.bk (I:Inv X π σ H s):∀b o,X.base.get? b=some o->s.heap.get? b=some o:=λb o e=>(I.bs b o e).1
theorem Inv.mod (I:Inv X π σ H s):Mod X.K X.mg X.base:=I.ok.mod
def Inv.jq (I:Inv X π σ H s):X.K.In s.heap:=I.ok.mod.lU.keeps I.bk
theorem Inv.lt (I:Inv X π σ H s):X.env.locals<s.heap.objs.size:=let ⟨_,Z,_⟩:=I.loc;Z.lt
def Inv.sz (I:Inv X π σ H s):X.cQ.heap.objs.size<=s.heap.objs.size:=Þ I.ok.above (Nat.le_of_lt I.lt)
def Inv.vC (I:Inv X π σ H s) {a:Ù} (h:s.heap.objs.size<=a):a∉X.fs:=λZ=>by
 obtain⟨_,o,Y,_⟩:=I.ok.jh.mem Z;exact absurd (È (Î Y) (Þ I.sz h)) (ë _)
def Inv.j3 (I:Inv X π σ H s):∀x c,X.env.cells.lookup x=some c->c≠X.env.locals:=λx c e z=>by
 obtain⟨v,o,Z,Y⟩:=I.cell x c e;obtain⟨m,⟨U,T,S,W,V,_⟩,_⟩:=I.loc;rw[z,W] at Z;cases Z;rw[V] at Y;cases Y
theorem Inv.jh (I:Inv X π σ H s):s.heap.FunFrames X.base X.outer:=by
 have all:∀(l:List Env),(∀b∈cw l,b∈X.fs)->X.cQ.heap.FunFrames X.base l->s.heap.FunFrames X.base l:=by
  intro l
  induction l with
  |nil=>intro _ _;trivial
  |cons env r ih =>
   intro hs V;obtain⟨U,⟨L,o,Z,T,S,R⟩,Q⟩:=V;have Y:L∈X.fs:=hs L (by unfold cw;rw[aa9,Z];exact Ð);obtain⟨P,e⟩:=I.base.slot L o S (I.ok.nu L Y) Y λz=>I.ok.zd L z Y;exact⟨U,⟨L,_,Z,T,e,R⟩,ih (λb W=>hs b (by unfold cw;rw[aa9,Z];exact Ê _ W)) Q⟩
 exact all X.outer (λ_ W=>W) I.ok.jh
theorem Inv.stack (I:Inv X π σ H s):s.heap.FunFrames X.base X.stack:=by
 rcases I.ok.lV with e | ⟨e,Z⟩
 ·rw[e];exact I.jh
 ·rw[e]
  obtain⟨m,Y,_⟩:=I.loc;refine .cons (by rw[I.ok.kind];decide) Z Y ?_ I.jh;exact Heap.get?_none_of_le (Þ I.ok.jo I.ok.above)
def Inv.ki (I:Inv X π σ H s):∀b∈cw X.stack,b∈X.env.locals::X.fs:=λb Z=>by
 rcases I.ok.lV with e | ⟨e,Y⟩
 ·rw[e] at Z;exact Ê _ Z
 ·rw[e] at Z
  unfold cw at Z;rw[aa9,Y] at Z;exact Z
def Inv.uA (I:Inv X π σ H s):∀b∈cw X.stack,H b=none:=λb hb=>by
 rcases Ò.mp (I.ki b hb) with e|hb
 ·rw[e];exact I.free
 ·obtain⟨_,o,Z,_⟩:=I.ok.jh.mem hb
  exact I.base.free b o Z (I.ok.nu b hb) λz=>I.ok.zd b z hb
def Inv.step {g':Array GenState} {t':Nat} {d':Drawn} {ch:List Ù} (I:Inv X π σ H s)
  (lW:∀b∈ch,(b∈X.ex\/X.cQ.heap.objs.size<=b)/\b≠X.env.locals/\(∀x c,X.env.cells.lookup x=some c->c≠b)/\∀p∈X.pn++π,p.1≠b)
  (keep:∀b o,b≠X.env.locals->b∉X.fs->b∉ch->s.heap.get? b=some o->H b=none->h'.get? b=some o)
  (slot:∀b o,b≠X.env.locals->b∈X.fs->b∉ch->s.heap.get? b=some o->H b=none->∃sl,h'.get? b=some { o with slots:=sl }) (free:∀b o,b∉ch->s.heap.get? b=some o->H b=none->H' b=none)
  (there:∀b o,b∉ch->s.heap.get? b=some o->∃o',h'.get? b=some o')
  (fN:∀b xs,H b=some (.tup xs)->H' b=some (.tup xs)) (eY:∀b o u,H b=some (.aR o u)->H' b=some (.aR o u)) (fO:∀b ps,H b=some (.cN ps)->∃more,H' b=some (.cN (ps++more)))
  (ns:∀m,s.heap.Ns X.env.locals m->h'.Ns X.env.locals m) (aE:cf X.prog X.w H' h') (hg:acy g') :
  Inv X π σ H' { s with heap:=h',gens:=g',drawn:=d',toks:=t' }:=by
 have S:∀b o,X.cQ.heap.get? b=some o->b≠X.env.locals:=λb o e=>à (È (Î e) I.ok.above);have U:∀b o,X.cQ.heap.get? b=some o->b∉X.ex->b∉ch:=λb o e Z Y=>by
  rcases(lW b Y).1 with z|z
  ·exact Z z
  ·exact absurd (È (Î e) z) (ë _)
 have cellK:∀x c,X.env.cells.lookup x=some c->∀v,s.heap.IsCell c v->h'.IsCell c v:=λx c e v ⟨o,W,T⟩=>by
  have V:c∉ch:=λz=>(lW c z).2.2.1 x c e rfl;by_cases R:c∈X.fs
  ·obtain⟨sl,q⟩:=slot c o (I.j3 x c e) R V W (I.iU x c e)
   exact⟨_,q,T⟩
  ·exact⟨o,keep c o (I.j3 x c e) R V W (I.iU x c e),T⟩
 refine⟨I.ok,I.os,hg,⟨λb o e n Y Z=>?_,λb o e n Y Z=>?_,λb o e n Z=>?_,λb o e Z=>?_,λb xs e=>fN b xs (I.base.fN b xs e),λb o xs e=>eY b o xs (I.base.eY b o xs e),λb ps e=>?_⟩,?_,λx c e=>?_,?_,λx c e=>?_,λp Q=>?_,aE,I.len⟩
 ·exact keep b o (S b o e) Y (U b o e Z) (I.base.keep b o e n Y Z) (I.base.free b o e n Z)
 ·obtain⟨sl,e1⟩:=I.base.slot b o e n Y Z
  obtain⟨O,e2⟩:=slot b _ (S b o e) Y (U b o e Z) e1 (I.base.free b o e n Z);exact⟨O,e2⟩
 ·obtain⟨o',e1⟩:=I.base.there b o e Z
  exact free b o' (U b o e Z) e1 (I.base.free b o e n Z)
 ·obtain⟨o',e1⟩:=I.base.there b o e Z
  exact there b o' (U b o e Z) e1
 ·obtain⟨N,e1⟩:=I.base.fO b ps e
  obtain⟨M,e2⟩:=fO b _ e1;exact⟨N++M,by rw[e2,Array.append_assoc]⟩
 ·obtain⟨m,L,K⟩:=I.loc
  refine⟨m,ns m L,λi x v e1 e2 J=>?_⟩;obtain⟨u,r,l⟩:=K i x v e1 e2 J;refine⟨u,r,?_⟩
  rcases l with l | ⟨k,c,e,z⟩
  ·exact .inl l
  ·exact .inr ⟨k,c,e,cellK x c e _ z⟩
 ·obtain⟨v,z⟩:=I.cell x c e
  exact⟨v,cellK x c e v z⟩
 ·obtain⟨m,⟨o,_,_,W,_⟩,_⟩:=I.loc
  exact free _ o (λz=>(lW _ z).2.1 rfl) W I.free
 ·obtain⟨v,o,W,T⟩:=I.cell x c e
  exact free c o (λz=>(lW c z).2.2.1 x c e rfl) W (I.iU x c e)
 ·obtain⟨e,n,ne,P,d⟩:=I.pin p Q
  have V:p.1∉ch:=λz=>(lW p.1 z).2.2.2 p Q rfl;exact⟨keep p.1 p.2 ne P V e n,free p.1 p.2 V e n,ne,P,d⟩
def Inv.un {t':Nat} (I:Inv X π σ H s) (u:Un X.fs [] H H' s.heap h') (aE:cf X.prog X.w H' h'):Inv X π σ H' { s with heap:=h',toks:=t' }:=by
 obtain⟨m,⟨o,Q,P,Y,r⟩,_⟩:=id I.loc;obtain⟨O,V⟩:=u.any Y I.free (by simp)
 exact I.step (g':=s.gens) (d':=s.drawn) (ch:=[]) (λ_ z=>nomatch z) (λb o _ Z _ e n=>u.keep b o e n Z (by simp)) (λb o _ Z _ e n=>u.slot b o e n Z (by simp)) (λb o _ e n=>u.free b o e n (by simp)) (λb o _ e=>u.there b o e (by simp)) u.fN u.eY u.fO (λN U=>by
  obtain⟨M,T,S,W,R⟩:=U;rw[Y] at W;cases W;exact⟨_,T,S,V,R⟩) aE I.bare
def Inv.call {g':Array GenState} {t':Nat} {d':Drawn} {ch:List Ù} (I:Inv X π σ H s) (u:Un (cw X.stack) ch H H' s.heap h') (aE:cf X.prog X.w H' h') (hg:acy g')
  (lW:∀b∈ch,(b∈X.ex\/X.cQ.heap.objs.size<=b)/\b≠X.env.locals/\(∀x c,X.env.cells.lookup x=some c->c≠b)/\∀p∈X.pn++π,p.1≠b) :
  Inv X π σ H' { s with heap:=h',gens:=g',drawn:=d',toks:=t' }:=by
 obtain⟨m,⟨o,P,O,W,r⟩,_⟩:=id I.loc;obtain⟨N,Y⟩:=u.any W I.free λz=>(lW _ z).2.1 rfl;exact I.step (ch:=ch) lW (λb o Y U Z e n=>u.keep b o e n (λz=>(Ò.mp (I.ki b z)).elim Y U) Z) (λb o _ _ Z e n=>u.any e n Z) (λb o Z e n=>u.free b o e n Z) (λb o Z e=>u.there b o e Z) u.fN u.eY u.fO (λM T=>by
  obtain⟨L,S,R,V,Q⟩:=T;rw[W] at V;cases V;exact⟨_,S,R,Y,Q⟩) aE hg
def Inv.turned {t':Nat} {it:Ù} (I:Inv X π σ H s) (k:∀b o,b≠it->s.heap.get? b=some o->h'.get? b=some o) (hn:H it=none) (hL:it≠X.env.locals)
  (h1:it∈X.ex\/X.cQ.heap.objs.size<=it) (h2:∀x c,X.env.cells.lookup x=some c->c≠it) (h3:∀p∈X.pn++π,p.1≠it):Inv X π σ H { s with heap:=h',toks:=t' }:=by
 have Y:∀b u,H b=some u->b≠it:=λb u e z=>by rw[z,hn] at e;cases e
 refine I.step (g':=s.gens) (d':=s.drawn) (ch:=[it]) (λb W=>?_) (λb o _ _ Z e _=>k b o (λz=>Z (by simp[z])) e) (λb o _ _ Z e _=>⟨o.slots,k b o (λz=>Z (by simp[z])) e⟩) (λ_ _ _ _ n=>n)
  (λb o Z e=>⟨o,k b o (λz=>Z (by simp[z])) e⟩) (λ_ _ e=>e) (λ_ _ _ e=>e) (λb R e=>⟨#[],by rw[e];simp⟩) (λm V=>?_) (λb u e=>?_) I.bare
 ·have e:b=it:=by simpa using W
  subst e;exact⟨h1,hL,h2,h3⟩
 ·obtain⟨o,U,T,S,r⟩:=V
  exact⟨o,U,T,k _ o (Ŀ hL) S,r⟩
 ·refine(I.aE b u e).dY (λc v Z q=>k c v ?_ q) (λ_ q=>q) λ_ _ q=>q
  rcases Z with z|z
  ·rw[z];exact Y b u e
  ·exact Y c _ z
def Inv.tok (I:Inv X π σ H s) (t:Nat):Inv X π σ H { s with toks:=t }:=I.un (h':=s.heap) (t':=t) Un.refl I.aE
theorem Inv.kept (I:Inv X π σ H s) (k:∀b u,s.heap.get? b=some u->h'.get? b=some u):Inv X π σ H { s with heap:=h',toks:=t' }:=I.un (Un.kept k) (I.aE.kept k)
theorem Inv.laid {a:Ù} {o:HO} {t':Nat} (I:Inv X π σ H s) (k:∀b u,s.heap.get? b=some u->h'.get? b=some u) (hp:s.heap.objs.size<=a) (new:cC X.prog X.w (upd H a o) h' a o) :
  Inv X π σ (upd H a o) { s with heap:=h',toks:=t' }:=I.un (Un.laid k hp (I.aE.fresh hp)) (I.aE.laid k hp new)
theorem Inv.write (I:Inv X π σ H s) (mu:v5 (H x)) (he:e=x\/H e=some (.own x)) (k:∀b u,b≠e->s.heap.get? b=some u->h'.get? b=some u) (sT:∃u,h'.get? e=some u)
 (new:cC X.prog X.w (upd H x o) h' x o):Inv X π σ (upd H x o) { s with heap:=h',toks:=t' }:=I.un (Un.write mu he k sT) (I.aE.write mu he k sT new)
def Inv.mF (I:Inv X π σ H s) (h:∀p∈Yt,s.heap.get? p.1=some p.2/\H p.1=none/\p.1≠X.env.locals/\p.1∉X.fs/\∀v,p.2.data≠.cell v):Inv X Yt σ H s :=
 ⟨I.ok,I.os,I.bare,I.base,I.loc,I.cell,I.free,I.iU,λp Z=>(è.mp Z).elim (λz=>I.pin p (þ _ z)) (h p),I.aE,I.len⟩
def Bi {N:List Str} (hN:N.Nodup) {i j:Nat} {x:Str} (a:N[i]?=some x) (b:N[j]?=some x):i=j:=by
 obtain⟨Z,e1⟩:=Ã.mp a;obtain⟨Y,e2⟩:=Ã.mp b;exact(List.getElem_inj hN).mp (e1.trans e2.symm)
def Ry {M:Model} {A:ì} {E:Ç->Ä->Prop} {i:Nat} {x:Str} {v:V} {u:Ç} {Q:Unit->Ä->Prop} (I:Inv X π σ H s) (hN:X.N.Nodup) (hi:X.N[i]?=some x) (hx:Loc X.env.scope x) (r:RelV v u)
  (h:∀s',Inv X π (σ.set i (some v)) H s'->(∃a,ī a s.heap s'.heap/\(a=X.env.locals\/X.env.cells.lookup x=some a))->Q () s') (hf:X.fn x=true\/X.env.scope.names.lookup x=some .local:=by first|exact .inl rfl|exact .inr rfl|assumption):Ý M A (storeName X.env x u) Q E s:=by
 obtain⟨m,T,D⟩:=id I.loc;have vD:(X.env.scope.kind==.class||(X.env.scope.kind==.module&&X.env.locals != X.env.globals))=false:=by rw[I.ok.kind];rfl
 have C:i < σ.length:=by rw[I.len];exact(Ã.mp hi).1
 have j3:=I.j3;have tracked:∀{a:Ù} {h':Ĳ},(∃o,s.heap.get? a=some o/\H a=none)->ī a s.heap h'->cf X.prog X.w H h':=λ{a h'} ha hs b ob e=>by
  obtain⟨_,_,B⟩:=ha;refine(I.aE b ob e).dY (λc W hc q=>(hs.2 c ?_).trans q) (λ_ q=>q) λ_ _ q=>q;rintro rfl
  rcases hc with rfl|hc
  ·rw[B] at e;cases e
  ·rw[B] at hc;cases hc
 rcases hx with hk|hk
 ·refine wpAny_storeName_local hk T (λh' lX hs=>?_) vD
  obtain⟨oL,_,_,sW,_⟩:=id T;refine h _ ⟨I.ok,I.os,I.bare,⟨λb o e n Z hx=>?_,λb o e n Z hx=>?_,I.base.free,λb o e hx=>?_,I.base.fN,I.base.eY,I.base.fO⟩,⟨_,lX,λj y S e1 e2 R=>?_⟩,λy c e=>?_,I.free,I.iU,λp P=>?_,tracked ⟨oL,sW,I.free⟩ hs,by simpa using I.len⟩ ⟨_,hs,.inl rfl⟩
  ·exact(hs.2 b (à (È (Î e) I.ok.above))).trans (I.base.keep b o e n Z hx)
  ·obtain⟨O,e1⟩:=I.base.slot b o e n Z hx
   exact⟨O,(hs.2 b (à (È (Î e) I.ok.above))).trans e1⟩
  ·obtain⟨L,e1⟩:=I.base.there b o e hx
   exact⟨L,(hs.2 b (à (È (Î e) I.ok.above))).trans e1⟩
  ·by_cases Y:j=i
   ·subst Y
    rw[hi] at e1;cases e1;rw[Ó C] at e2;cases e2;exact⟨u,r,.inl ⟨hk,by simp⟩⟩
   ·rw[Ï (Ŀ Y)] at e2
    obtain⟨K,J,q⟩:=D j y S e1 e2 R;refine⟨K,J,?_⟩
    rcases q with ⟨k,e⟩ | ⟨k,c,e,z⟩
    ·refine .inl ⟨k,?_⟩
     have:y≠x:=λe=>Y (Bi hN e1 (e ▸ hi));simp[this,e]
    ·exact .inr ⟨k,c,e,z.sameBut hs (j3 y c e)⟩
  ·obtain⟨W,z⟩:=I.cell y c e
   exact⟨W,z.sameBut hs (j3 y c e)⟩
  ·obtain⟨e,n,ne,G,d⟩:=I.pin p P
   exact⟨(hs.2 p.1 ne).trans e,n,ne,G,d⟩
 ·have F:X.fn x=true:=by
   rcases hf with z|z
   ·exact z
   ·rw[z] at hk;cases hk
  obtain⟨c,hc⟩:=I.ok.has x (.inl hk);obtain⟨W,z⟩:=I.cell x c hc;refine wpAny_storeName_cell I.ok.kind hk hc z (λh' t hs=>?_);obtain⟨l,g,ZV⟩:=id z
  refine h { s with heap:=h' } ⟨I.ok,I.os,I.bare,⟨λb o e n Z hx=>?_,λb o e n Z hx=>?_,I.base.free,λb o e hx=>?_,I.base.fN,I.base.eY,I.base.fO⟩,⟨m,T.sameBut hs (Ŀ (j3 x c hc)),λj y S e1 e2 R=>?_⟩,λy U e=>?_,I.free,I.iU,λp P=>?_,tracked ⟨l,g,I.iU x c hc⟩ hs,by simpa using I.len⟩ ⟨c,hs,.inr hc⟩
  ·exact(hs.2 b (à (È (Î e) (I.ok.sV x c F hc)))).trans (I.base.keep b o e n Z hx)
  ·obtain⟨O,e1⟩:=I.base.slot b o e n Z hx
   exact⟨O,(hs.2 b (à (È (Î e) (I.ok.sV x c F hc)))).trans e1⟩
  ·obtain⟨L,e1⟩:=I.base.there b o e hx
   exact⟨L,(hs.2 b (à (È (Î e) (I.ok.sV x c F hc)))).trans e1⟩
  ·by_cases Y:j=i
   ·subst Y
    rw[hi] at e1;cases e1;rw[Ó C] at e2;cases e2;exact⟨u,r,.inr ⟨.inl hk,c,hc,t⟩⟩
   ·rw[Ï (Ŀ Y)] at e2
    obtain⟨K,J,q⟩:=D j y S e1 e2 R;refine⟨K,J,?_⟩
    rcases q with q | ⟨k,U,e,z'⟩
    ·exact .inl q
    ·refine .inr ⟨k,U,e,z'.sameBut hs ?_⟩
     rintro rfl;exact Y (Bi hN e1 (I.ok.inj _ _ _ e hc ▸ hi))
  ·by_cases f:U=c
   ·subst f;exact⟨_,t⟩
   ·obtain⟨w2,z2⟩:=I.cell y U e
    exact⟨w2,z2.sameBut hs f⟩
  ·obtain⟨e,n,ne,G,d⟩:=I.pin p P
   refine⟨(hs.2 p.1 ?_).trans e,n,ne,G,d⟩;intro q;rw[q,g] at e;have q':l=p.2:=acH e;exact d W (by rw[<- q'];exact ZV)
def mB (I:Inv X π σ H s) (hN:X.N.Nodup) (hi:X.N[i]?=some x) (hx:Loc X.env.scope x) (r:RelV v u)
 (h:∀s',Inv X π (σ.set i (some v)) H s'->Q () s') (hf:X.fn x=true\/X.env.scope.names.lookup x=some .local:=by first|exact .inl rfl|exact .inr rfl|assumption):Ý M A (storeName X.env x u) Q E s :=
 Ry I hN hi hx r (λs' Z _=>h s' Z) hf
def Inv.u7 (I:Inv X π σ H s) (ho:s'.os=s.os) (u:Un (cw X.stack) ch H H' s.heap s'.heap) (aE:cf X.prog X.w H' s'.heap) (hg:acy s'.gens)
 (lW:∀b∈ch,(b∈X.ex\/X.cQ.heap.objs.size<=b)/\b≠X.env.locals/\(∀x c,X.env.cells.lookup x=some c->c≠b)/\∀p∈X.pn++π,p.1≠b):Inv X π σ H' s':=by
 obtain⟨h',g',d',t',Z⟩:=s';have e:Z=s.os:=ho;subst e;exact I.call (g':=g') (t':=t') (d':=d') u aE hg lW
end
abbrev XK:=Ç->Option Ù->Hp->Prop
noncomputable abbrev St:=List (Option V)
abbrev VK:=V->Hp->Prop
abbrev TE:=St->Hp->VK->Prop
abbrev TT:=St->Hp->(Bool->Hp->Prop)->Prop
abbrev TA:=St->Hp->(List V->Hp->Prop)->Prop
structure Ends where
 nx:St->Hp->Prop
 rt:VK
 bk:St->Hp->Prop:=λ_ _=>False
 ct:St->Hp->Prop:=λ_ _=>False
abbrev TS:=Ends->St->Hp->Prop
def EP (X:Cx) (π:List (Ù×Obj)) (σ:St) (Q:VK) (u:Ç) (s':Ä):Prop:=∃v Z,Inv X π σ Z s'/\RelV v u/\Q v Z
def TP (X:Cx) (π:List (Ù×Obj)) (σ:St) (Q:Bool->Hp->Prop) (b:Bool) (s':Ä):Prop:=∃Z,Inv X π σ Z s'/\Q b Z
def AP (X:Cx) (π:List (Ù×Obj)) (σ:St) (Q:List V->Hp->Prop) (us:List Ç) (s':Ä):Prop:=∃Z Y,Inv X π σ Y s'/\Vals Z us/\Q Z Y
def SP (X:Cx) (π:List (Ù×Obj)) (D:Ends) (f:Flow) (s':Ä):Prop :=
 match f with
 | .next=>∃ Y Z,Inv X π Y Z s'/\D.nx Y Z
 | .brk=>∃ Y Z,Inv X π Y Z s'/\D.bk Y Z
 | .cont=>∃ Y Z,Inv X π Y Z s'/\D.ct Y Z
 | .ret u=>∃v Y Z,Inv X π Y Z s'/\RelV v u/\D.rt v Z
def PE (X:Cx) (e:ħ) (t:TE):Prop :=
 ∀(Z:List (Ù×Obj)) (s:Ä) (σ:St) (H:Hp) (Q:VK),Inv X Z σ H s->t σ H Q->Ý (â X.prog X.w) X.A (ō e X.env) (EP X Z σ Q) X.xe s
def PT (X:Cx) (e:ħ) (t:TT):Prop :=
 ∀(Z:List (Ù×Obj)) (s:Ä) (σ:St) (H:Hp) (Q:Bool->Hp->Prop),Inv X Z σ H s->t σ H Q->Ý (â X.prog X.w) X.A (isTrue e X.env (ō e X.env)) (TP X Z σ Q) X.xe s
def PW (X:Cx) (e:ħ) (t:TT):Prop :=
 ∀(whole:Sem Ç) (Z:List (Ù×Obj)) (s:Ä) (σ:St) (H:Hp) (Q:Bool->Hp->Prop),Inv X Z σ H s->t σ H Q->Ý (â X.prog X.w) X.A (isTrue e X.env whole) (TP X Z σ Q) X.xe s
def PW.pt (h:PW X e t):PT X e t:=h _
def PA (X:Cx) (es:List ħ) (t:TA):Prop :=
 ∀(pos:Pos) (Z:List (Ù×Obj)) (s:Ä) (σ:St) (H:Hp) (Q:List V->Hp->Prop),Inv X Z σ H s->t σ H Q->Ý (â X.prog X.w) X.A (spliced (Ň pos (Õ es X.env))) (AP X Z σ Q) X.xe s
def PS (X:Cx) (st:acx) (t:TS):Prop :=
 ∀(Z:List (Ù×Obj)) (s:Ä) (σ:St) (H:Hp) (D:Ends),Inv X Z σ H s->t D σ H->Ý (â X.prog X.w) X.A (exec st X.env) (SP X Z D) X.xe s
def cY (X:Cx) (st:List acx) (t:TS):Prop :=
 ∀(Z:List (Ù×Obj)) (s:Ä) (σ:St) (H:Hp) (D:Ends),Inv X Z σ H s->t D σ H->Ý (â X.prog X.w) X.A (execs st X.env) (SP X Z D) X.xe s
def aI {α:Type} {t:Sem α} {Q Q':α->Ä->Prop} {M:Model} {A:ì} {E:Ç->Ä->Prop} {s:Ä} (h:Ý M A t Q E s) (hQ:∀a s,Q a s->Q' a s):Ý M A t Q' E s:=Ę h hQ λ_ _ x=>x
section
variable {X:Cx}
def ZW (i:Nat):TE:=fun σ H Q=>∃v,σ[i]?=some (some v)/\Q v H
def tC (v:V):TE:=λ_ H Q=>Q v H
def Cv {i:Nat} {x:Str} {pos:Pos} (hN:X.N[i]?=some x) (hv:oG X.env.scope x) (hd:(x==("__debug__":Str))=false:=by decide) (fy:(x==("__classdict__":Str))=false:=by decide):PE X (.Name x pos) (ZW i):=by
 intro W s σ H Q I h;obtain⟨v,e,h⟩:=h;obtain⟨m,V,U⟩:=I.loc;obtain⟨u,r,l⟩:=U i x v hN e hv;have fin:EP X W σ Q u s:=⟨v,H,I,r,h⟩
 rcases l with ⟨hk,T⟩ | ⟨hk,c,Z,Y⟩
 ·exact wpAny_Name (wpAny_loadName_local I.ok.kind hk V T fin) hd
 ·rcases hk with hk|hk
  ·exact wpAny_Name (wpAny_loadName_cell I.ok.kind hk Z Y fin) hd
  ·exact wpAny_Name (wpAny_loadName_free I.ok.kind hk Z Y fin fy) hd
def Ks {i j pos}:PE X (.Constant (.int i) j pos) (tC (.int i)):=λ_ _ _ H _ I h=>wpAny_Constant_int ⟨.int i,H,I.tok _,⟨_,rfl⟩,h⟩
def Dd {b j pos}:PE X (.Constant (.bool b) j pos) (tC (.bl b)):=λ_ _ _ H _ I h=>Constant_bool ⟨.bl b,H,I,rfl,h⟩
def Ww {j pos}:PE X (.Constant .none j pos) (tC .au):=λ_ _ _ H _ I h=>Constant_none ⟨.au,H,I,rfl,h⟩
def yj {x j pos}:PE X (.Constant (.str x) j pos) (tC (.str x)):=λ_ _ _ H _ I h=>Calls.Constant_str ⟨.str x,H,I.tok _,⟨_,rfl⟩,h⟩
def Gl (X:Cx) (x:Str):Prop:=X.env.kindOf x=some .globalImplicit
def uB {E:Ç->Ä->Prop} {π:List (Ù×Obj)} {s:Ä} {σ:St} {H:Hp} {x:Str} {u:Ç} {pos:Pos} {Q:Ç->Ä->Prop} (I:Inv X π σ H s) (hg:Gl X x) (hm:X.mg x=some u) (h:Q u s)
  (hd:(x==("__debug__":Str))=false:=by decide):Ý (â X.prog X.w) X.A (ō (.Name x pos) X.env) Q E s :=
 Calls.Name_function_global I.ok.kind hg (Calls.loadGlobal_global (by rw[I.ok.glob];exact I.mod.glob.keeps I.bk) hm h) hd
def rA {E:Ç->Ä->Prop} {π:List (Ù×Obj)} {s:Ä} {σ:St} {H:Hp} {x:Str} {u:Ç} {pos:Pos} {Q:Ç->Ä->Prop} (I:Inv X π σ H s) (hg:Gl X x) (hm:X.mg x=none) (hv:ú x=some u) (h:Q u s)
  (hn:x≠"__name__":=by decide) (hd:(x==("__debug__":Str))=false:=by decide):Ý (â X.prog X.w) X.A (ō (.Name x pos) X.env) Q E s:=by
 obtain⟨W,Z,Y⟩:=I.mod.blt;exact Calls.Name_function_global I.ok.kind hg (Calls.loadGlobal_builtin (by rw[I.ok.glob];exact I.mod.glob.keeps I.bk) hm (by rw[I.ok.blt];exact Z.keeps I.bk) ((Y x hn).trans hv) h) hd
def xU (hg:Gl X x) (hm:X.mg x=some u) (r:RelV v u) (hd:(x==("__debug__":Str))=false:=by decide):PE X (.Name x pos) (tC v) :=
 λ_ _ _ H _ I h=>uB I hg hm ⟨v,H,I,r,h⟩ hd
def JF {x:Str} {v:V} {u:Ç} {pos:Pos} (hg:Gl X x) (hm:X.mg x=none) (hv:ú x=some u) (r:RelV v u) (hn:x≠"__name__":=by decide) (hd:(x==("__debug__":Str))=false:=by decide):PE X (.Name x pos) (tC v) :=
 λ_ _ _ H _ I h=>rA I hg hm hv ⟨v,H,I,r,h⟩ hn hd
variable {a b:ħ} {ta tb:TE} {pos:Pos}
variable {tA zK:TT} {rest:List ħ}
def kE (t u:TT):TT:=fun σ H Q=>t σ H λc Z=>if c=true then u σ Z Q else Q false Z
def i7 (t u:TT):TT:=fun σ H Q=>t σ H λc Z=>if c=true then Q true Z else u σ Z Q
def dJ (t:TT):TT:=fun σ H Q=>t σ H λc Z=>Q (!c) Z
def U0 (ha:PT X a tA):PW X (.BoolOp .And [a] pos) tA:=by
 intro Y Z s σ H Q I h;refine isTrue_and (aI (ha Z s σ H Q I h) λc W e=>?_)
 cases c with
 |true=>exact isTrue_and_nil e
 |false=>exact e
def Wx (ha:PT X a tA):PW X (.BoolOp .Or [a] pos) tA:=by
 intro Y Z s σ H Q I h;refine isTrue_or (aI (ha Z s σ H Q I h) λc W e=>?_)
 cases c with
 |false=>exact isTrue_or_nil e
 |true=>exact e
def Wy (ha:PT X a tA) (hb:PW X (.BoolOp .And (b::rest) pos) zK):PW X (.BoolOp .And (a::b::rest) pos) (kE tA zK):=by
 intro U Z s σ H Q I h;refine isTrue_and (aI (ha Z s σ H _ I h) λc T ⟨Y,W,V⟩=>?_)
 cases c with
 |true=>exact hb U Z T σ Y Q W V
 |false=>exact⟨Y,W,V⟩
def Yu (ha:PT X a tA) (hb:PW X (.BoolOp .Or (b::rest) pos) zK):PW X (.BoolOp .Or (a::b::rest) pos) (i7 tA zK):=by
 intro U Z s σ H Q I h;refine isTrue_or (aI (ha Z s σ H _ I h) λc T ⟨Y,W,V⟩=>?_)
 cases c with
 |true=>exact⟨Y,W,V⟩
 |false=>exact hb U Z T σ Y Q W V
def Wz (ha:PT X a tA):PT X (.UnaryOp .Not a pos) (dJ tA):=by
 intro Z s σ H Q I h;exact isTrue_not (ha Z s σ H (λc Y=>Q (!c) Y) I h)
def Yv (ta tb:TE):TE:=fun σ H Q=>ta σ H λx Z=>∃c,x=.bl c/\if c=true then tb σ Z Q else Q (.bl false) Z
def ZX (ta tb:TE):TE:=fun σ H Q=>ta σ H λx Z=>∃c,x=.bl c/\if c=true then Q (.bl true) Z else tb σ Z Q
def Yw (ta:TE):TE:=fun σ H Q=>ta σ H λx Z=>∃c,x=.bl c/\Q (.bl (!c)) Z
def WA {op} (h:PE X a t):PE X (.BoolOp op [a] pos) t:=λZ s σ H Q I hw=>BoolOp_one (h Z s σ H Q I hw)
def WB (ha:PE X a ta) (hb:PE X (.BoolOp .And (b::rest) pos) tb):PE X (.BoolOp .And (a::b::rest) pos) (Yv ta tb):=by
 intro Y s σ H Q I h;refine BoolOp_and (aI (ha Y s σ H _ I h) λv U ⟨x,W,V,T,Z⟩=>?_);obtain⟨c,rfl,Z⟩:=Z;cases T;refine ő ?_
 cases c with
 |true=>exact hb Y U σ W Q V Z
 |false=>exact⟨.bl false,W,V,rfl,Z⟩
def Yx (ha:PE X a ta) (hb:PE X (.BoolOp .Or (b::rest) pos) tb):PE X (.BoolOp .Or (a::b::rest) pos) (ZX ta tb):=by
 intro Y s σ H Q I h;refine BoolOp_or (aI (ha Y s σ H _ I h) λv U ⟨x,W,V,T,Z⟩=>?_);obtain⟨c,rfl,Z⟩:=Z;cases T;refine ő ?_
 cases c with
 |false=>exact hb Y U σ W Q V Z
 |true=>exact⟨.bl true,W,V,rfl,Z⟩
def WC (ha:PE X a ta):PE X (.UnaryOp .Not a pos) (Yw ta):=by
 intro Y s σ H Q I h;refine UnaryOp_ (aI (ha Y s σ H _ I h) λv T ⟨x,W,V,U,Z⟩=>?_);obtain⟨c,rfl,Z⟩:=Z;cases U;exact not_of (ő ⟨.bl (!c),W,V,rfl,Z⟩)
def tIf (t:TT) (ta tb:TE):TE:=fun σ H Q=>t σ H λc Z=>if c=true then ta σ Z Q else tb σ Z Q
def IQ {c:ħ} (hc:PT X c tA) (ha:PE X a ta) (hb:PE X b tb):PE X (.IfExp c a b pos) (tIf tA ta tb):=by
 intro Z s σ H Q I h;refine wpAny_IfExp (aI (hc Z s σ H _ I h) λd Y ⟨W,V,U⟩=>?_)
 cases d with
 |true=>exact ha Z Y σ W Q V U
 |false=>exact hb Z Y σ W Q V U
end
def bC (K:ę) (H:Hp) (a:Ù) (xs:List V):Prop :=
 Rd H a (.lst xs) \/
  ∃(o:Obj) (its:Array Ç) (n:Nat),K.lookup a=some o/\o.cls=.type "list"/\o.dict=none/\o.data=.seq its n/\its.size<=Ø/\Vals xs its.toList
def bz (K:ę) (H:Hp) (a:Ù) (xs:List V):Prop :=
 Rd H a (.tup xs) \/
  ∃(o:Obj) (its:Array Ç) (n:Nat),K.lookup a=some o/\o.cls=.type "tuple"/\o.data=.seq its n/\its.size<=Ø/\Vals xs its.toList
noncomputable def ZY:Ç->Option V
 | .none=>some .au
 | .bool b=>some (.bl b)
 | .int i _=>some (.int i)
 | .str x _=>some (.str x)
 | .bytes b _=>some (.jn b)
 | .float b _=>some (.vZ b)
 | .ref a=>some (.ref a)
 | .type n=>some (.ty n)
 |_=>none
def RelV.abs (r:RelV x u):ZY u=some x:=by
 cases x with
 |au=>cases r;rfl
 |bl _=>cases r;rfl
 |int _=>obtain⟨t,rfl⟩:=r;rfl
 |str _=>obtain⟨t,rfl⟩:=r;rfl
 |jn _=>obtain⟨t,rfl⟩:=r;rfl
 |vZ _=>obtain⟨t,rfl⟩:=r;rfl
 |ref _=>cases r;rfl
 |ty _=>cases r;rfl
def RelV.inj (r:RelV x u) (q:RelV y u):x=y:=acH (r.abs.symm.trans q.abs)
theorem Vals.inj:∀{xs ys:List V} {us:List Ç},Vals xs us->Vals ys us->xs=ys
 |_,_,_,.nil,.nil=>rfl
 |_,_,_,.cons r t,.cons Z Y=>by rw[r.inj Z,Vals.inj t Y]
section
variable {X:Cx} {π:List (Ù×Obj)} {σ:St} {H:Hp} {s:Ä} {a:Ù} {xs ys:List V}
def bC.of {K:ę} (h:H a=some (.lst xs)):bC K H a xs:=.inl (.inl h)
def bz.of {K:ę} (h:H a=some (.tup xs)):bz K H a xs:=.inl (.inl h)
def Inv.list (I:Inv X π σ H s) (h:bC X.K H a xs):∃its:List Ç,Vals xs its/\PlainL s.heap a its.toArray/\xs.length<=Ø:=by
 rcases h with h | ⟨o,its,n,Z,Y,W,hs,V,r⟩
 ·obtain⟨z,its,n,r,e⟩:=h.ok I.aE
  exact⟨its,r,⟨_,n,e,rfl,rfl,rfl⟩,z⟩
 ·refine⟨its.toList,r,⟨o,n,I.jq a o Z,Y,W,by simpa using hs⟩,?_⟩
  have e:=r.length;simp only[ñ] at e;omega
def Inv.tuple (I:Inv X π σ H s) (h:bz X.K H a xs):∃its:List Ç,Vals xs its/\IsTup s.heap a its.toArray/\xs.length<=Ø:=by
 rcases h with h | ⟨o,its,n,Z,Y,hs,W,r⟩
 ·obtain⟨z,its,r,p⟩:=h.ok I.aE
  exact⟨its,r,p,z⟩
 ·refine⟨its.toList,r,⟨o,I.jq a o Z,Y,n,by simpa using hs⟩,?_⟩
  have e:=r.length;simp only[ñ] at e;omega
def Inv.IS (I:Inv X π σ H s) (h:bC X.K H a xs) (h':bC X.K H a ys):xs=ys:=by
 obtain⟨its,r,⟨o,n,e,_,_,d⟩,_⟩:=I.list h;obtain⟨Z,V,⟨T,S,Y,_,_,W⟩,_⟩:=I.list h';rw[e] at Y;cases Y;rw[d] at W
 injection W with U _
 have:its=Z:=by simpa using ň Array.toList U
 subst this;exact r.inj V
def Inv.H9 (I:Inv X π σ H s) (h:bz X.K H a xs) (h':bz X.K H a ys):xs=ys:=by
 obtain⟨its,r,⟨o,e,_,n,d⟩,_⟩:=I.tuple h;obtain⟨Z,V,⟨T,Y,_,S,W⟩,_⟩:=I.tuple h';rw[e] at Y;cases Y;rw[d] at W
 injection W with U _
 have:its=Z:=by simpa using ň Array.toList U
 subst this;exact r.inj V
end
noncomputable abbrev Cx.jR (X:Cx) (E:Ç->Ä->Prop):Cx:={ X with xe:=E }
noncomputable abbrev Cx.ny (X:Cx):Cx:=X.jR λ_ _=>False
theorem Cx.Ok.jR {X:Cx} (ok:X.Ok) (E:Ç->Ä->Prop):(X.jR E).Ok :=
 ⟨ok.mod,ok.kind,ok.glob,ok.blt,ok.above,ok.inj,ok.has,ok.sV,ok.hd,ok.frames,ok.lV,ok.Ni,ok.bs,ok.jo,ok.ow,ok.zd,ok.jh,ok.nu⟩
def Cx.Ok.mG {X:Cx} {E:Ç->Ä->Prop} (ok:(X.jR E).Ok):X.Ok :=
 ⟨ok.mod,ok.kind,ok.glob,ok.blt,ok.above,ok.inj,ok.has,ok.sV,ok.hd,ok.frames,ok.lV,ok.Ni,ok.bs,ok.jo,ok.ow,ok.zd,ok.jh,ok.nu⟩
section
variable {X:Cx} {π:List (Ù×Obj)} {σ:St} {H:Hp} {s:Ä} {E:Ç->Ä->Prop}
theorem Inv.jR (I:Inv X π σ H s) (E:Ç->Ä->Prop):Inv (X.jR E) π σ H s:=⟨I.ok.jR E,I.os,I.bare,I.base,I.loc,I.cell,I.free,I.iU,I.pin,I.aE,I.len⟩
theorem Inv.mG (I:Inv (X.jR E) π σ H s):Inv X π σ H s:=⟨I.ok.mG,I.os,I.bare,I.base,I.loc,I.cell,I.free,I.iU,I.pin,I.aE,I.len⟩
theorem SP.mG (h:SP (X.jR E) π D f s'):SP X π D f s':=by
 cases f with
 |next=>obtain⟨Z,Y,I,q⟩:=h;exact⟨Z,Y,I.mG,q⟩
 |brk=>obtain⟨Z,Y,I,q⟩:=h;exact⟨Z,Y,I.mG,q⟩
 |cont=>obtain⟨Z,Y,I,q⟩:=h;exact⟨Z,Y,I.mG,q⟩
 |ret u=>obtain⟨v,Z,Y,I,r,q⟩:=h;exact⟨v,Z,Y,I.mG,r,q⟩
theorem cY.ny {st:List acx} {t:TS} (h:cY X.ny st t):cY X st t:=λπ s σ H D I hw =>
 Ę (h π s σ H D (I.jR _) hw) (λ_ _ q=>q.mG) λ_ _ z=>Į z
end
section
variable {X:Cx} {st:acx} {rest:List acx} {t u:TS} {e:ħ} {te:TE} {pos:Pos}
def Yy:TS:=λD σ H=>D.nx σ H
def ZZ (t u:TS):TS:=λD σ H=>t { D with nx:=u D } σ H
def U1:cY X [] Yy:=λ_ _ σ H _ I h=>abi ⟨σ,H,I,h⟩
def IT (h1:PS X st t) (h2:cY X rest u):cY X (st::rest) (ZZ t u):=by
 intro Z s σ H D I h
 refine wpAny_execs_cons (aI (h1 Z s σ H { D with nx:=u D } I h) λf Y q=>?_)
 cases f with
 |next =>
  obtain⟨W,V,U,q⟩:=q;exact h2 Z Y W V D U q
 |ret v=>exact q
 |brk=>exact q
 |cont=>exact q
def JG (h1:PS X st t):cY X [st] t:=by
 intro Z s σ H D I h;refine wpAny_execs_cons (aI (h1 Z s σ H D I h) λf Y q=>?_)
 cases f with
 |next=>exact abi q
 |ret v=>exact q
 |brk=>exact q
 |cont=>exact q
def Inv.quiet {π:List (Ù×Obj)} {σ:St} {H:Hp} {s:Ä} (I:Inv X π σ H s):interactive X.env=false:=by simp[interactive,I.ok.kind]
def Yz (te:TE):TS:=λD σ H=>te σ H λ_ Z=>D.nx σ Z
def U2 (he:PE X e te) (hs:ace e none pos.line X.env=pure false:=by rfl):PS X (.Expr e pos) (Yz te):=by
 intro Z s σ H D I h;exact wpAny_Expr_any (aI (he Z s σ H _ I h) λv U ⟨x,Y,W,T,V⟩=>⟨σ,Y,W,V⟩) I.quiet hs
def Z0 (te:TE):TS:=λD σ H=>te σ H D.rt
def Kt (he:PE X e te):PS X (.Return (some e) pos) (Z0 te):=by
 intro Z s σ H D I h;exact wpAny_Return_some (aI (he Z s σ H _ I h) λv T ⟨x,Y,W,V,U⟩=>⟨x,σ,Y,W,V,U⟩)
def Z1 (c:TT) (t u:TS):TS:=λD σ H=>c σ H λb Z=>if b=true then t D σ Z else u D σ Z
def YA {c:ħ} {a b:List acx} {tc:TT} (hc:PT X c tc) (ha:cY X a t) (hb:cY X b u):PS X (.If c a b pos) (Z1 tc t u):=by
 intro Z s σ H D I h;refine wpAny_If (aI (hc Z s σ H _ I h) λd Y ⟨W,V,U⟩=>?_)
 cases d with
 |true=>exact ha Z Y σ W D V U
 |false=>exact hb Z Y σ W D V U
end
abbrev TG:=V->St->Hp->(St->Hp->Prop)->Prop
abbrev kP:=List V->St->Hp->(St->Hp->Prop)->Prop
def PG (X:Cx) (target:ħ) (t:TG):Prop :=
 ∀(Z:List (Ù×Obj)) (s:Ä) (σ:St) (H:Hp) (v:V) (u:Ç) (Q:St->Hp->Prop),Inv X Z σ H s->RelV v u->t v σ H Q ->
  Ý (â X.prog X.w) X.A (ab6 target X.env u) (λ_ U=>∃ Y W,Inv X Z Y W U/\Q Y W) X.xe s
def lY (X:Cx) (ts:List ħ) (t:kP):Prop :=
 ∀(Z:List (Ù×Obj)) (s:Ä) (σ:St) (H:Hp) (Y:List V) (W:List Ç) (Q:St->Hp->Prop),Inv X Z σ H s->Vals Y W->t Y σ H Q ->
  Ý (â X.prog X.w) X.A (ab8 ((Ś ts X.env).map (·.2)) W) (λ_ S=>∃ U T,Inv X Z U T S/\Q U T) X.xe s
abbrev ze:=V->V->V->Hp->(Hp->Prop)->Prop
def D4 (X:Cx) (t:ze):Prop :=
 ∀(Z:List (Ù×Obj)) (s:Ä) (σ:St) (H:Hp) (o i v:V) (Y W u:Ç) (Q:Hp->Prop),Inv X Z σ H s->RelV o Y->RelV i W->RelV v u->t o i v H Q ->
  Ý (â X.prog X.w) X.A (setItem Y W u) (λ_ T=>∃U,Inv X Z σ U T/\Q U) X.xe s
section
variable {X:Cx} {pos:Pos}
def mO (i:Nat):TG:=λv σ H Q=>Q (σ.set i (some v)) H
def ke (hN:X.N.Nodup) (hi:X.N[i]?=some x) (hx:Loc X.env.scope x) (hf:X.fn x=true\/X.env.scope.names.lookup x=some .local:=by first|exact .inl rfl|exact .inr rfl|assumption):PG X (.Name x pos) (mO i):=by
 intro Y s σ H v u Q I r h;exact wpAny_assign_Name (mB I hN hi hx r (λW Z=>⟨_,H,Z,h⟩) hf)
def D5:kP:=λZ σ H Q=>Z=[]/\Q σ H
def De (t:TG) (u:kP):kP:=λZ σ H Q=>∃v r,Z=v::r/\t v σ H fun Y X=>u r Y X Q
def BO:lY X [] D5:=by
 intro Z s σ H Y W Q I r h;obtain⟨e,h⟩:=h;subst e;cases r;exact assignInOrder_nil ⟨σ,H,I,h⟩
def uj {e:ħ} {es:List ħ} {t:TG} {u:kP} (h1:PG X e t) (h2:lY X es u)
  (hs:(Ś (e::es) X.env).map (·.2)=ab6 e X.env::(Ś es X.env).map (·.2):=by rfl):lY X (e::es) (De t u):=by
 intro Z s σ H R P Q I r h;obtain⟨v,O,e1,h⟩:=h;subst e1
 cases r with
 |cons r Y =>
  rw[hs];refine Ş (aI (h1 Z s σ H _ _ _ I r h) λ_ W ⟨V,U,T,S⟩=>?_);exact h2 Z W V U _ _ Q T Y S
def D6 (K:ę) (n:Nat) (t:kP):TG:=λv σ H Q=>∃a Z,v=.ref a/\bz K H a Z/\Z.length=n/\t Z σ H Q
def pI {k:Nat} {n:Nat} (hc:X.calm=true) (h:lY X es t)
 (hn:(Ś es X.env).length=n:=by rfl) (wa:(Ś es X.env).findIdx? (·.1)=none:=by rfl):PG X (.Tuple es k pos) (D6 X.K n t):=by
 intro Z s σ H v u Q I r hw;obtain⟨a,W,e1,V,U,hw⟩:=hw;subst e1;cases r;obtain⟨its,Y,T,O⟩:=I.tuple V;refine assign_Tuple_tuple (I.ok.hd hc) T (by simp[hn,<- U,Y.length]) wa λS R=>?_
 have P:Inv X Z σ H { s with heap:=S }:=I.kept (t':=s.toks) λb o e=>R b o (à (Î e)) e
 exact h Z _ σ H W _ Q P (by simpa using Y) hw
def Z2 (to ti:TE) (t:ze):TG:=λv σ H Q=>to σ H λo Z=>ti σ Z λi Y=>t o i v Y λX=>Q σ X
def Ku {o i:ħ} {to ti:TE} {t:ze} (ho:PE X o to) (hi:PE X i ti) (hs:D4 X t)
  (ha:∀v,ab6 (.Subscript o i pos) X.env v=(do
   let ov <- abj [v] (ō o X.env)
   let iv <- abj [v,ov] (ō i X.env)
   acf pos
   abj [v,ov,iv] (setItem ov iv v)
   release [v,ov,iv] []):=by intro _;rfl):PG X (.Subscript o i pos) (Z2 to ti t):=by
 intro Z s σ H v u Q I r h;rw[ha];refine À (ě (aI (ho Z s σ H _ I h) λov Y ⟨x,W,V,U,T⟩=>?_));refine À (ě (aI (hi Z Y σ W _ V T) λiv S ⟨y,R,P,O,N⟩=>?_));refine À (Ű (À (ě (aI (hs Z S σ R x y v ov iv u _ P U O r N) λ_ J ⟨M,L,K⟩=>?_))));exact wpAny_release ⟨σ,M,L,K⟩
def sj (te:TE) (g:TG):TS:=λD σ H=>te σ H λx Z=>g x σ Z D.nx
def Cw {tg e:ħ} {te:TE} {g:TG} (he:PE X e te) (hg:PG X tg g) (hs:ű [tg] e pos.line X.env=pure false:=by rfl) (hw:Ų [tg] e X.env=pure none:=by rfl)
  (h1:(Ś [tg] X.env).map (·.2)=[ab6 tg X.env]:=by rfl):PS X (.Assign [tg] e pos) (sj te g):=by
 intro Z s σ H D I h;refine wpAny_Assign_stores (aI (he Z s σ H _ I h) λv Y ⟨x,W,V,U,T⟩=>?_) hs hw;rw[h1];exact aI (hg Z Y σ W x v _ V U T) λ_ S q=>q
def Kv {i:Nat} {x:Str} {e:ħ} {te:TE} {pos':Pos} (hN:X.N.Nodup) (hi:X.N[i]?=some x) (hx:Loc X.env.scope x) (he:PE X e te) (hs:ace e (some (.Name x pos')) pos.line X.env=pure false:=by rfl) (hf:X.fn x=true\/X.env.scope.names.lookup x=some .local:=by first|exact .inl rfl|exact .inr rfl|assumption) :
  PS X (.Assign [.Name x pos'] e pos) (sj te (mO i)):=by
 intro Z s σ H D I h;refine wpAny_Assign_Name (aI (he Z s σ H _ I h) λv S ⟨y,Y,W,V,U⟩=>?_) hs;exact mB W hN hi hx V (λR T=>⟨_,Y,T,U⟩) hf
def Z3 (i j:Nat) (ta:TA):TS:=λD σ H=>ta σ H λZ Y=>∃v w,Z=[v,w]/\D.nx ((σ.set i (some v)).set j (some w)) Y
def WD {i j:Nat} {x y:Str} {a b:ħ} {ta:TA} {px py pt:Pos} {kt k2 iG} (hc:X.calm=true) (hN:X.N.Nodup) (hi:X.N[i]?=some x) (hj:X.N[j]?=some y) (fe:i≠j)
  (hx:X.env.scope.names.lookup x=some .local) (hy:X.env.scope.names.lookup y=some .local) (ha:PA X [a,b] ta)
  (hw:Ų [.Tuple [.Name x px,.Name y py] kt pt] (.Tuple [a,b] k2 iG) X.env=pure (some [x,y]))
  (hs:ű [.Tuple [.Name x px,.Name y py] kt pt] (.Tuple [a,b] k2 iG) pos.line X.env=pure false:=by rfl) :
  PS X (.Assign [.Tuple [.Name x px,.Name y py] kt pt] (.Tuple [a,b] k2 iG) pos) (Z3 i j ta):=by
 intro U s σ H D I h;rw[exec_Assign_arm];refine À (Ű ?_);rw[hs];refine À (Â ?_);rw[í (by decide)];refine À (Tuple_ (aI (ha _ U s σ H _ I h) λR Z ⟨C,T,Q,P,V⟩=>?_));obtain⟨v,w,e1,V⟩:=V;subst e1;obtain⟨Y,W,rfl,O,M⟩:∃Y W,R=[Y,W]/\RelV v Y/\RelV w W:=by
  cases P with
  |cons p q =>
   cases q with
   |cons L K =>
    cases K;exact⟨_,_,rfl,p,L⟩
 refine ï ?_ (by show 2<=Ø;decide)
 have J:Inv X U σ T { Z with heap:=Z.heap.push { cls:=.type "tuple",data:=.seq [Y,W].toArray } }:=Q.kept (t':=Z.toks) λb o e=>Á _ e
 rw[hw];refine À (Â ?_)
 show Ý (â X.prog X.w) X.A (do rule "assign.swapped-stores";let items <- unpackItems (.ref Z.heap.objs.size) 2 none;ab8 [λv=>abP X.env y v,λv=>abP X.env x v] items.reverse;pure Flow.next) _ _ _
 refine À (ś (À (unpackItems_tuple (items:=#[Y,W]) (I.ok.hd hc) (IsTup.new Z.heap _) λh' G=>?_)));have F:=J.kept (h':=h') (t':=Z.toks) λb o e=>G b o (à (Î e)) e
 show Ý _ _ (ab8 [λv=>abP X.env y v,λv=>abP X.env x v] [W,Y] >>= λ_=>pure Flow.next) _ _ _
 refine À (Ş (abQ (mB F hN hj (.inl hy) M (λB E=>?_) (.inr hy))));refine Ş (abQ (mB E hN hi (.inl hx) O (λz S=>assignInOrder_nil (Â ?_)) (.inr hx)));rw[List.set_comm _ _ (Ŀ fe)] at S;exact⟨_,T,S,V⟩
end
section
variable {X:Cx} {pos:Pos}
end
structure It where
 go:Nat->Hp->Prop
 wb:Nat->Hp->V->Hp->Prop
 stop:Nat->Hp->Prop
def fU (X:Cx) (π:List (Ù×Obj)) (H:Hp) (b:Ù):Prop :=
 H b=none/\b≠X.env.locals/\b∉X.fs/\(b∈X.ex\/X.cQ.heap.objs.size<=b)/\(∀x c,X.env.cells.lookup x=some c->c≠b)/\∀p∈X.pn++π,p.1≠b
def Inv.zf {X:Cx} {π:List (Ù×Obj)} {σ:St} {H H':Hp} {s:Ä} {b:Ù} (I:Inv X π σ H s) (hb:s.heap.objs.size<=b) (hn:H' b=none):fU X π H' b:=by
 refine⟨hn,ş (È I.lt hb),I.vC hb,.inr (Þ I.sz hb),λx c e z=>?_,λp Z z=>?_⟩
 ·obtain⟨v,q⟩:=I.cell x c e
  exact absurd (È q.lt (by rw[z];exact hb)) (ë _)
 ·exact absurd (È (Î (I.pin p Z).1) (by rw[z];exact hb)) (ë _)
structure Turn (P:ä) (w:ù) (K:ę) (tg:ħ) (J:It) (fp:List Ù) (it:Ù) (tn:Nat->Ĳ->Prop):Prop where
 mem:it∈fp
 obj:∀i h,tn i h->∀b∈fp,∃o,h.get? b=some o/\∀v,o.data≠.cell v
 keep:∀i h h',tn i h->(∀b∈fp,∀o,h.get? b=some o->h'.get? b=some o)->tn i h'
 item:∀(X:Cx),X.prog=P->X.w=w->X.K=K->X.calm=true->∀(i:Nat) (π:List (Ù×Obj)) (s:Ä) (σ:St) (H:Hp) (E:Ç->Ä->Prop),Inv X π σ H s->(∀b∈fp,fU X π H b)->tn i s.heap->J.go i H ->
  Ý (â P w) X.A (δ (.ref it)) (λr s1=>∃u,r=some u /\
   Ý (â P w) X.A (Ŕ tg (.ref it) u) (λ_ s2=>∃x H',Inv X π σ H' s2/\RelV x u/\J.wb i H x H'/\tn (i+1) s2.heap/\∀b∈fp,H' b=none) E s1) E s
 done:∀(X:Cx),X.prog=P->X.w=w->X.K=K->X.calm=true->∀(i:Nat) (π:List (Ù×Obj)) (s:Ä) (σ:St) (H:Hp) (E:Ç->Ä->Prop),Inv X π σ H s->(∀b∈fp,fU X π H b)->tn i s.heap->J.stop i H ->
  Ý (â P w) X.A (δ (.ref it)) (λr s1=>r=none/\Inv X π σ H s1) E s
 self:∀(A:ì) (i:Nat) (s:Ä) (Q:Ç->Ä->Prop) (E:Ç->Ä->Prop),tn i s.heap->Q (.ref it) s->Ý (â P w) A (pyIter (.ref it)) Q E s
abbrev TI:=St->Hp->(It->Hp->Prop)->Prop
def Nm (X:Cx) (π:List (Ù×Obj)) (σ:St) (tg:ħ) (R:It->Hp->Prop) (gW:Ç) (s2:Ä):Prop :=
 ∃(it:Ù) (Y:List Ù) (W:Nat->Ĳ->Prop) (J:It) (Z:Hp),gW=.ref it/\Inv X π σ Z s2/\Turn X.prog X.w X.K tg J Y it W/\W 0 s2.heap/\(∀b∈Y,fU X π Z b)/\R J Z
def PI (X:Cx) (tg iter:ħ) (wi:TI):Prop :=
 ∀(Z:List (Ù×Obj)) (s:Ä) (σ:St) (H:Hp) (R:It->Hp->Prop),Inv X Z σ H s->wi σ H R ->
  Ý (â X.prog X.w) X.A (ō iter X.env) (λv Y=>Ý (â X.prog X.w) X.A (pyIter v) (Nm X Z σ tg R) X.xe Y) X.xe s
def Dg (ho:s.heap.get? it=some o) (hc:o.cls=.type n) (hd:o.data=.fields vs)
 (hn:["enumerate","zip","dict_itemiterator","dict_reverseitemiterator","odict_iterator","itertools.zip_longest","itertools.pairwise"].contains n=false) (hQ:Q () s):Ý M A (Ŕ tg (.ref it) u) Q E s:=by
 unfold Ŕ
 cases tg<;>first
  |exact Â hQ
  |(cases u<;>first
    |exact Â hQ
    |(refine À (wpAny_load ho ?_)
      rw[hc,hd]
      show Ý M A (if (["enumerate","zip","dict_itemiterator","dict_reverseitemiterator","odict_iterator","itertools.zip_longest","itertools.pairwise"].contains n&&vs[0]?==some (ŭ _))=true then _ else _) Q E s
      rw[í (by intro h;rw[hn,Bool.false_and] at h;cases h)];exact Â hQ))
noncomputable def EK (K:ę) (a:Ù):It :=
 ⟨λi H=>∃Z x,bC K H a Z/\Z[i]?=some x,λi H x Y=>Y=H/\∀Z,bC K H a Z->Z[i]?=some x,λi H=>∃Z,bC K H a Z/\Z.length<=i⟩
noncomputable def EL (K:ę) (a:Ù):It :=
 ⟨λi H=>∃Z x,bz K H a Z/\Z[i]?=some x,λi H x Y=>Y=H/\∀Z,bz K H a Z->Z[i]?=some x,λi H=>∃Z,bz K H a Z/\Z.length<=i⟩
noncomputable def wc (lo:Int) (n:Nat):It:=⟨λi _=>i<n,λi H x Z=>Z=H/\x=.int (lo+i),λi _=>n<=i⟩
def Rz {P:ä} {w:ù} {K:ę} {tg:ħ} (a it:Ù):Turn P w K tg (EK K a) [it] it (λi h=>h.IsListIter it a i) where
 mem:=by simp
 obj:=λi h Z b Y=>by
  have e:b=it:=by simpa using Y
  subst e;obtain⟨o,e,c,d⟩:=Z;exact⟨o,e,λv z=>by rw[d] at z;cases z⟩
 keep:=λi h W Z k=>Z.at λo e=>k it (by simp) o e
 item:=by
  intro X T hw S L i J s σ H E I V Z R;subst T hw S;obtain⟨F,x,U,Q⟩:=R;obtain⟨its,O,p,D⟩:=I.list U;obtain⟨u,C,B⟩:=O.get Q;obtain⟨f0,f1,f2,N,f4,M⟩:=V it (by simp);refine wpAny_pyNext_list_item Z p.isList (x:=u) (by simpa using C) λW G A=>?_
  have y:Inv X J σ H { s with heap:=W }:=I.turned (t':=s.toks) (λb o Y e=>(A.2 b Y).trans e) f0 f1 N f4 M
  obtain⟨o,e,c,d⟩:=id G
  exact⟨u,rfl,Dg (s:={ s with heap:=W }) e c d (by decide) ⟨x,H,y,B,⟨rfl,λq t=>by rw[I.IS t U];exact Q⟩,G,λb Y=>(V b Y).1⟩⟩
 done:=by
  intro X T hw S L i J s σ H E I V Z R;subst T hw S;obtain⟨F,U,Q⟩:=R;obtain⟨its,O,p,D⟩:=I.list U;obtain⟨f0,f1,f2,N,f4,M⟩:=V it (by simp);have n:=O.length;exact wpAny_pyNext_list_end (I.ok.hd L) Z p.isList (by simp;omega) λW r=>⟨rfl,I.turned (t':=s.toks) (λb o Y e=>r b o Y e) f0 f1 N f4 M⟩
 self:=λ_ _ _ _ _ Z h=>wpAny_pyIter_listiter Z h
def Qs {P:ä} {w:ù} {K:ę} {tg:ħ} (a it:Ù):Turn P w K tg (EL K a) [it] it (λi h=>h.IsTupleIter it a i) where
 mem:=by simp
 obj:=λi h Z b Y=>by
  have e:b=it:=by simpa using Y
  subst e;obtain⟨o,e,c,d⟩:=Z;exact⟨o,e,λv z=>by rw[d] at z;cases z⟩
 keep:=λi h W Z k=>Z.at λo e=>k it (by simp) o e
 item:=by
  intro X T hw S L i J s σ H E I V Z R;subst T hw S;obtain⟨F,x,U,Q⟩:=R;obtain⟨its,O,p,D⟩:=I.tuple U;obtain⟨u,C,B⟩:=O.get Q;obtain⟨f0,f1,f2,N,f4,M⟩:=V it (by simp);refine wpAny_pyNext_tuple_item Z (show s.heap.IsTuple a its.toArray from p) (x:=u) (by simpa using C) λW G A=>?_
  have y:Inv X J σ H { s with heap:=W }:=I.turned (t':=s.toks) (λb o Y e=>(A.2 b Y).trans e) f0 f1 N f4 M
  obtain⟨o,e,c,d⟩:=id G
  exact⟨u,rfl,Dg (s:={ s with heap:=W }) e c d (by decide) ⟨x,H,y,B,⟨rfl,λq t=>by rw[I.H9 t U];exact Q⟩,G,λb Y=>(V b Y).1⟩⟩
 done:=by
  intro X T hw S L i J s σ H E I V Z R;subst T hw S;obtain⟨F,U,Q⟩:=R;obtain⟨its,O,p,D⟩:=I.tuple U;obtain⟨f0,f1,f2,N,f4,M⟩:=V it (by simp);have n:=O.length;exact wpAny_pyNext_tuple_end (I.ok.hd L) Z (show s.heap.IsTuple a its.toArray from p) (by simp;omega) λW r=>⟨rfl,I.turned (t':=s.toks) (λb o Y e=>r b o Y e) f0 f1 N f4 M⟩
 self:=λ_ _ _ _ _ Z h=>wpAny_pyIter_tupleiter Z h
def Qt {P:ä} {w:ù} {K:ę} {tg:ħ} (it:Ù) (lo:Int) (n:Nat):Turn P w K tg (wc lo n) [it] it (λi h=>IsRangeIter h it (lo+(i:Nat)*1) ((n:Int)-(i:Nat)) 1) where
 mem:=by simp
 obj:=λi h Z b Y=>by
  have e:b=it:=by simpa using Y
  subst e;exact⟨_,Z,λv z=>by
   have G:Data.fields _=Data.cell v:=z;cases G⟩
 keep:=λi h V Z k=>k it (by simp) _ Z
 item:=by
  intro X T hw S R i M s σ H E I U Z Q;subst T hw S;obtain⟨f0,f1,f2,O,f4,N⟩:=U it (by simp);have W:=Walks.range (prog:=X.prog) (w:=X.w) (I.ok.hd R) it lo 1 n;refine W.item i s _ _ Q Z λv V L F J D=>?_;obtain⟨t,rfl⟩:=F
  have C:Inv X M σ H { s with heap:=V,toks:=L }:=I.turned (λb o Y e=>D b o (by simpa using Y) e) f0 f1 O f4 N
  refine⟨_,rfl,Dg (s:={ s with heap:=V,toks:=L }) (n:="range_iterator") J rfl rfl (by decide) ⟨.int (lo+i),H,C,⟨t,?_⟩,⟨rfl,rfl⟩,J,λb Y=>(U b Y).1⟩⟩
  rw[Int.mul_one]
 done:=by
  intro X T hw S R i M s σ H E I U Z Q;subst T hw S;obtain⟨f0,f1,f2,O,f4,N⟩:=U it (by simp);exact wpAny_pyNext_range_end (I.ok.hd R) Z (by have:n<=i:=Q;omega) λV B=>⟨rfl,I.turned (t':=s.toks) (λb o Y e=>B b o Y e) f0 f1 O f4 N⟩
 self:=λ_ _ _ _ _ Z h=>wpAny_pyIter_rangeiter Z h
section
variable {X:Cx} {tg:ħ}
def LC (K:ę) (tl:TE):TI:=fun σ H R=>tl σ H λx Z=>∃a,x=.ref a/\(∃Y,bC K Z a Y)/\R (EK K a) Z
def MC (K:ę) (tl:TE):TI:=fun σ H R=>tl σ H λx Z=>∃a,x=.ref a/\(∃Y,bz K Z a Y)/\R (EL K a) Z
def U3 {l:ħ} {tl:TE} (hl:PE X l tl):PI X tg l (LC X.K tl):=by
 intro W s σ H R I h;refine aI (hl W s σ H _ I h) λv Z ⟨x,V,Y,U,T⟩=>?_;obtain⟨a,e,⟨P,S⟩,q⟩:=T;subst e;cases U;obtain⟨its,O,p,N⟩:=Y.list S;refine ς p.isList ?_;refine⟨Z.heap.objs.size,[Z.heap.objs.size],_,_,V,rfl,Y.kept (t':=Z.toks) λb o e=>Á _ e,Rz a _,⟨_,Ô _ rfl,rfl,rfl⟩,λb Q=>?_,q⟩;have e:b=Z.heap.objs.size:=by simpa using Q
 subst e;exact Y.zf (acG _) (Y.aE.fresh (acG _))
def WE {l:ħ} {tl:TE} (hl:PE X l tl):PI X tg l (MC X.K tl):=by
 intro W s σ H R I h;refine aI (hl W s σ H _ I h) λv Z ⟨x,V,Y,U,T⟩=>?_;obtain⟨a,e,⟨P,S⟩,q⟩:=T;subst e;cases U;obtain⟨its,O,p,N⟩:=Y.tuple S;refine wpAny_pyIter_tuple (show Z.heap.IsTuple a its.toArray from p) ?_;refine⟨Z.heap.objs.size,[Z.heap.objs.size],_,_,V,rfl,Y.kept (t':=Z.toks) λb o e=>Á _ e,Qs a _,⟨_,Ô _ rfl,rfl,rfl⟩,λb Q=>?_,q⟩;have e:b=Z.heap.objs.size:=by simpa using Q
 subst e;exact Y.zf (acG _) (Y.aE.fresh (acG _))
def IU {π:List (Ù×Obj)} {σ:St} {H:Hp} {s:Ä} {R:It->Hp->Prop} {E:Ç->Ä->Prop} {lo hi:Int} {t u v:Tok} {tk:Nat} (I:Inv X π σ H s) (h1:-(2 ^ 62)<=lo) (h2:lo<2 ^ 62) (h3:-(2 ^ 62)<=hi) (h4:hi<2 ^ 62)
  (q:R (wc lo (hi-lo).toNat) H):Ý (â X.prog X.w) X.A (pyIter (.ref s.heap.objs.size)) (Nm X π σ tg R) E { s with heap:=s.heap.push { cls:=.type "range",data:=.fields #[.int lo t,.int hi u,.int 1 v] },toks:=tk }:=by
 refine wpAny_pyIter_range (IsRange.new ..) (small_one h1 h2 h3 h4) ?_
 have Z:Inv X π σ H { s with heap:=s.heap.push { cls:=.type "range",data:=.fields #[.int lo t,.int hi u,.int 1 v] },toks:=tk }:=I.kept λb o e=>Á _ e
 refine⟨(s.heap.push { cls:=.type "range",data:=.fields #[.int lo t,.int hi u,.int 1 v] }).objs.size,[(s.heap.push { cls:=.type "range",data:=.fields #[.int lo t,.int hi u,.int 1 v] }).objs.size],_,_,H,rfl,
  Z.kept (t':=tk) λb o e=>Á _ e,Qt _ lo (hi-lo).toNat,?_,λb Y=>?_,q⟩
 ·have e1:lo+((0:Nat):Int)*1=lo:=by simp
  have e2:(((hi-lo).toNat:Nat):Int)-((0:Nat):Int)=Builtin.Range.rangeSize lo hi 1:=by rw[rangeSize_one];split<;>omega
  show IsRangeIter _ _ (lo+((0:Nat):Int)*1) ((((hi-lo).toNat:Nat):Int)-((0:Nat):Int)) 1;rw[e1,e2];exact Ô _ rfl
 ·have e:b=(s.heap.push { cls:=.type "range",data:=.fields #[.int lo t,.int hi u,.int 1 v] }).objs.size:=by simpa using Y
  subst e;exact Z.zf (acG _) (Z.aE.fresh (acG _))
def YB (ta:TA):TI:=fun σ H R=>ta σ H λZ Y=>∃j:Int,Z=[.int j]/\-(2 ^ 62)<=j/\j<2 ^ 62/\R (wc 0 j.toNat) Y
def YC (ta:TA):TI:=fun σ H R=>ta σ H λZ Y=>∃i j:Int,Z=[.int i,.int j]/\(-(2 ^ 62)<=i/\i<2 ^ 62/\-(2 ^ 62)<=j/\j<2 ^ 62)/\R (wc i (j-i).toNat) Y
def RA {a:ħ} {ta:TA} {p pos:Pos} (hg:Gl X "range") (hm:X.mg "range"=none) (ha:PA X [a] ta) (hs:Õ [a] X.env=[(false,ō a X.env)]:=by rfl):PI X tg (.Call (.Name "range" p) [a] [] pos) (YB ta):=by
 intro Y s σ H R I h;refine Call_ (rA I hg hm boot_range (ŕ (aI (ha pos Y s σ H _ I h) λS Q ⟨P,O,W,V,Z⟩=>?_) hs rfl));obtain⟨j,e,Z,U,q⟩:=Z;subst e
 cases V with
 |cons r T =>
  cases T;obtain⟨t,rfl⟩:=r;exact call_range_1 (IU W (by omega) (by omega) Z U (by simpa using q))
def RC {a b:ħ} {ta:TA} {p pos:Pos} (hg:Gl X "range") (hm:X.mg "range"=none) (ha:PA X [a,b] ta) (hs:Õ [a,b] X.env=[(false,ō a X.env),(false,ō b X.env)]:=by rfl) (ij:Õ [b] X.env=[(false,ō b X.env)]:=by rfl) :
  PI X tg (.Call (.Name "range" p) [a,b] [] pos) (YC ta):=by
 intro W s σ H R I h;refine Call_ (rA I hg hm boot_range (ŕ (aI (ha pos W s σ H _ I h) λO N ⟨M,L,V,U,Z⟩=>?_) (by rw[hs,ij]) (by rw[ij];rfl)));obtain⟨i,j,e,⟨Z,T,S,Q⟩,q⟩:=Z;subst e
 cases U with
 |cons r Y =>
  cases Y with
  |cons P Y =>
   cases Y;obtain⟨t,rfl⟩:=r;obtain⟨K,rfl⟩:=P;exact call_range_2 (IU V Z T S Q q)
def MD (wi:TI) (g:TG) (tb:TS):TS:=λD σ H=>wi σ H λJ V=>∃W:Nat->Nat->St->Hp->Prop,(∃m,W 0 m σ V)/\∀i m σ H,W i m σ H ->
 (J.stop i H/\D.nx σ H)\/(J.go i H/\∃N:St->Hp->Prop,(∀ Y Z,N Y Z->∃X,X < m/\W (i+1) X Y Z)/\∀x Z,J.wb i H x Z->g x σ Z fun U T=>tb { D with nx:=N,ct:=N,bk:=D.nx } U T)
noncomputable def nZ (fp:List Ù) (h:Ĳ):List (Ù×Obj):=fp.filterMap λb=>(h.get? b).map λo=>(b,o)
def qY (hb:b∈fp) (e:h.get? b=some o):(b,o)∈nZ fp h:=abk.mpr ⟨b,hb,by rw[e];rfl⟩
def Ia (hp:p∈nZ fp h):p.1∈fp/\h.get? p.1=some p.2:=by
 obtain⟨b,Z,e⟩:=abk.mp hp
 cases q:h.get? b with
 |none=>rw[q] at e;cases e
 |some o =>
  rw[q] at e;have Y:(b,o)=p:=acH e;subst Y;exact⟨Z,q⟩
def Inv.pinned {π:List (Ù×Obj)} {σ:St} {H:Hp} {s:Ä} {fp:List Ù} (I:Inv X π σ H s) (hf:∀b∈fp,fU X π H b) (ho:∀b∈fp,∃o,s.heap.get? b=some o/\∀v,o.data≠.cell v):Inv X (π++nZ fp s.heap) σ H s :=
 I.mF λp W=>(è.mp W).elim (λz=>I.pin p (Ñ _ z)) λz=>by
  obtain⟨Z,e⟩:=Ia z;obtain⟨f0,f1,f2,_⟩:=hf p.1 Z;obtain⟨o,Y,d⟩:=ho p.1 Z;rw[e] at Y;cases Y;exact⟨e,f0,f1,f2,d⟩
def Inv.mC {π pl:List (Ù×Obj)} {σ:St} {H:Hp} {s:Ä} (I:Inv X (π++pl) σ H s):Inv X π σ H s:=I.mF λp Z=>I.pin p (Ñ _ (þ _ Z))
def WG {iter:ħ} {body:List acx} {wi:TI} {g:TG} {tb:TS} {pos:Pos} (hp:PassesOwn (â X.prog X.w) X.A X.env X.xe) (hc:X.calm=true) (hi:PI X tg iter wi) (hg:PG X tg g) (hb:cY X body tb)
  (hs:∀x,ÿ iter X.env x=pure x:=by intro _;rfl):PS X (.For tg iter body [] pos) (MD wi g tb):=by
 intro R s σ H D I h;refine wpAny_For (aI (hi R s σ H _ I h) λv s1 l=>aI l λgW s2 k=>?_) hs;obtain⟨it,Q,C,J,j,e,c,T,a,f2,W,⟨m0,w0⟩,turn⟩:=k;subst e;have stat:∀{U:Hp},(∀b∈Q,U b=none)->∀b∈Q,fU X R U b:=λhn b hb=>⟨hn b hb,(f2 b hb).2⟩;refine codeAny_forLoop_any (λn B=>∃i P U,Inv X R P U B/\C i B.heap/\(∀b∈Q,U b=none)/\W i n P U) ?_ m0 ⟨0,σ,j,c,a,λb hb=>(f2 b hb).1,w0⟩;rintro n z ⟨i,O,L,y,t,q,w3⟩
 rcases turn i n O L w3 with ⟨stop,qn⟩ | ⟨go,N,hN,step⟩
 ·refine abl hp (aI (T.done X rfl rfl rfl hc i R z O L X.xe y (stat q) t stop) λr s4 ⟨K,I4⟩=>?_)
  subst K;exact abi ⟨O,L,I4,qn⟩
 ·refine abl hp (aI (T.item X rfl rfl rfl hc i R z O L X.xe y (stat q) t go) λr s4 ⟨u,K,h4⟩=>?_)
  subst K;refine abl hp (aI h4 λ_ s5 ⟨x,p,I5,r5,y5,G,we⟩=>?_);have wg:=I5.pinned (stat we) (T.obj _ _ G);refine abl hp (aI (hg _ s5 O p x u _ wg r5 (step x p y5)) λ_ s6 ⟨F,H6,I6,q6⟩=>?_);refine abl hp (aI (hb _ s6 F H6 _ I6 q6) λf E S=>?_);have again:∀{Z:St} {Y:Hp},Inv X (R++nZ Q s5.heap) Z Y E->N Z Y->∃m,m<n/\∃i P U,Inv X R P U E/\C i E.heap/\(∀b∈Q,U b=none)/\W i m P U:=λ{Z Y} V M=>by
   obtain⟨m',hm,w7⟩:=hN Z Y M;refine⟨m',hm,i+1,Z,Y,V.mC,T.keep _ _ _ G λb hb o e=>(V.pin (b,o) (Ñ _ (Ñ _ (qY hb e)))).1,λb hb=>?_,w7⟩;obtain⟨o,e,d⟩:=T.obj _ _ G b hb;exact(V.pin (b,o) (Ñ _ (Ñ _ (qY hb e)))).2.1
  cases f with
  |next=>obtain⟨Z,Y,V,M⟩:=S;exact again V M
  |cont=>obtain⟨Z,Y,V,M⟩:=S;exact again V M
  |brk=>obtain⟨Z,Y,V,S⟩:=S;exact⟨Z,Y,V.mC,S⟩
  |ret v=>obtain⟨x7,Z,Y,V,r7,S⟩:=S;exact⟨x7,Z,Y,V.mC,r7,S⟩
end
abbrev R2:=V->V->Hp->VK->Prop
def bI (X:Cx) (f:Ç->Ç->Sem Ç) (r:R2):Prop :=
 ∀(Z:List (Ù×Obj)) (s:Ä) (σ:St) (H:Hp) (x y:V) (v u:Ç) (Q:VK),Inv X Z σ H s->RelV x v->RelV y u->r x y H Q ->
  Ý (â X.prog X.w) X.A (f v u) (EP X Z σ Q) X.xe s
def wj (X:Cx) (f:Ç->Sem Ç) (r:V->Hp->VK->Prop):Prop :=
 ∀(Z:List (Ù×Obj)) (s:Ä) (σ:St) (H:Hp) (x:V) (v:Ç) (Q:VK),Inv X Z σ H s->RelV x v->r x H Q ->
  Ý (â X.prog X.w) X.A (f v) (EP X Z σ Q) X.xe s
def cD (X:Cx) (f:Ç) (r:List V->Hp->VK->Prop):Prop :=
 ∀(Z:List (Ù×Obj)) (s:Ä) (σ:St) (H:Hp) (Y:List V) (W:List Ç) (Q:VK),Inv X Z σ H s->Vals Y W->r Y H Q ->
  Ý (â X.prog X.w) X.A (call f W) (EP X Z σ Q) X.xe s
def Z4 (X:Cx) (r:V->Hp->(Bool->Hp->Prop)->Prop):Prop :=
 ∀(Z:List (Ù×Obj)) (s:Ä) (σ:St) (H:Hp) (x:V) (v:Ç) (Q:Bool->Hp->Prop),Inv X Z σ H s->RelV x v->r x H Q ->
  Ý (â X.prog X.w) X.A (truthy v) (TP X Z σ Q) X.xe s
def wk (r:R2) (ta tb:TE):TE:=fun σ H Q=>ta σ H λx Z=>tb σ Z λy Y=>r x y Y Q
def tUn (r:V->Hp->VK->Prop) (ta:TE):TE:=fun σ H Q=>ta σ H λx Z=>r x Z Q
def rI (C:Int->Int->Prop) (g:Int->Int->V):R2:=λx y H Q=>∃i j,x=.int i/\y=.int j/\C i j/\Q (g i j) H
def qt (g:Int->Int->V):R2:=λx y H Q=>∃i j,x=.int i/\y=.int j/\Q (g i j) H
def rU (g:Int->V):V->Hp->VK->Prop:=λx H Q=>∃i,x=.int i/\Q (g i) H
section
variable {X:Cx} {a b c:ħ} {ta tb tc:TE} {pos:Pos}
def D7 (ha:PE X a ta) (hb:PE X b tb) {π:List (Ù×Obj)} {s:Ä} {σ:St} {H:Hp} {R:V->V->Hp->Prop} (I:Inv X π σ H s)
  (h:ta σ H λx H1=>tb σ H1 λy H2=>R x y H2) {Q:Ç->Ä->Prop} {f:Ç->Ç->Sem Ç}
  (hf:∀v u s2 x y H2,Inv X π σ H2 s2->RelV x v->RelV y u->R x y H2->Ý (â X.prog X.w) X.A (f v u) Q X.xe s2) :
  Ý (â X.prog X.w) X.A (ō a X.env) (λv bg=>Ý (â X.prog X.w) X.A (ō b X.env) (λu kF=>Ý (â X.prog X.w) X.A (f v u) Q X.xe kF) X.xe bg) X.xe s:=by
 refine aI (ha π s σ H _ I h) λv Z ⟨x,H1,Y,W,U⟩=>?_;refine aI (hb π Z σ H1 _ Y U) λu s2 ⟨y,H2,T,S,P⟩=>?_;exact hf v u s2 x y H2 T W S P
def YD (ho:bI X (Ł op) r) (ha:PE X a ta) (hb:PE X b tb):PE X (.BinOp a op b pos) (wk r ta tb):=by
 intro Z s σ H Q I h;exact wpAny_BinOp (D7 ha hb I h λv u Y x y W V U T q=>ho Z Y σ W x y v u Q V U T q)
def YE {op:UnaryOp} {r:V->Hp->VK->Prop} (ho:wj X (unaryOp op) r) (ha:PE X a ta):PE X (.UnaryOp op a pos) (tUn r ta):=by
 intro Z s σ H Q I h;exact UnaryOp_ (aI (ha Z s σ H _ I h) λv Y ⟨x,W,U,T,S⟩=>ho Z Y σ W x v Q U T S)
def zL {C:Int->Int->Prop} {g:Int->Int->Int}
 (rule:∀(i j:Int) (t u:Tok) (s:Ä) (Q:Ç->Ä->Prop) (E:Ç->Ä->Prop),C i j->Q (.int (g i j) s.toks) { s with toks:=s.toks+1 }->Ý (â X.prog X.w) X.A (f (.int i t) (.int j u)) Q E s) :
  bI X f (rI C λi j=>.int (g i j)):=by
 intro U s σ H x y v u Q I Z Y h;obtain⟨i,j,rfl,rfl,W,q⟩:=h;obtain⟨t,rfl⟩:=Z;obtain⟨V,rfl⟩:=Y;exact rule i j t V s _ _ W ⟨.int (g i j),H,I.tok _,⟨_,rfl⟩,q⟩
def ME {g:Int->Int->Int}
 (rule:∀(i j:Int) (t u:Tok) (s:Ä) (Q:Ç->Ä->Prop) (E:Ç->Ä->Prop),Q (.int (g i j) s.toks) { s with toks:=s.toks+1 }->Ý (â X.prog X.w) X.A (f (.int i t) (.int j u)) Q E s) :
  bI X f (qt λi j=>.int (g i j)):=by
 intro V s σ H x y v u Q I Z Y h;obtain⟨i,j,rfl,rfl,q⟩:=h;obtain⟨t,rfl⟩:=Z;obtain⟨W,rfl⟩:=Y;exact rule i j t W s _ _ ⟨.int (g i j),H,I.tok _,⟨_,rfl⟩,q⟩
def D8 {g:Int->Int->Bool}
 (rule:∀(i j:Int) (t u:Tok) (s:Ä) (Q:Ç->Ä->Prop) (E:Ç->Ä->Prop),Q (.bool (g i j)) s->Ý (â X.prog X.w) X.A (f (.int i t) (.int j u)) Q E s) :
  bI X f (qt λi j=>.bl (g i j)):=by
 intro V s σ H x y v u Q I Z Y h;obtain⟨i,j,rfl,rfl,q⟩:=h;obtain⟨t,rfl⟩:=Z;obtain⟨W,rfl⟩:=Y;exact rule i j t W s _ _ ⟨.bl (g i j),H,I,rfl,q⟩
def Z5 (i j:Int):Prop:=0<j/\j<1073741824
def Z6 (i j:Int):Prop:=0<=j/\j<=1000000/\i.natAbs<2 ^ 64
def zg (i j:Int):Prop:=(-(2 ^ 64)<i/\i<2 ^ 64)\/(-(2 ^ 64)<j/\j<2 ^ 64)
def zg.ok (h:zg i j):IntMulOk i j:=by
 rcases h with ⟨Z,Y⟩ | ⟨Z,Y⟩
 ·exact .of_left (intBits_le_64 Z Y)
 ·exact .of_right (intBits_le_64 Z Y)
def WH:bI X (Ł .Add) (qt λi j=>.int (i+j)):=ME λ_ _ _ _ _ _ _ q=>add_int q
def WI:bI X (Ł .Sub) (qt λi j=>.int (i-j)):=ME λ_ _ _ _ _ _ _ q=>sub_int q
def WJ:bI X (Ł .Mult) (rI zg λi j=>.int (i*j)):=zL λ_ _ _ _ _ _ _ Z q=>mul_int q Z.ok
def U4:bI X (Ł .FloorDiv) (rI Z5 λi j=>.int (i / j)):=zL λi j _ _ _ _ _ Z q=>by
 have Y:(0:Int)<j:=Z.1;have W:j<1073741824:=Z.2;exact floordiv_int (by omega) (by rw[Int.fdiv_eq_ediv_of_nonneg i (by omega)];exact q) (.inl (PyProof.noPylong_small (by omega)))
def WK:bI X (Ł .Mod) (rI (λ_ j=>0<j) λi j=>.int (i % j)):=zL λi j _ _ _ _ _ Z q=>by
 have Y:(0:Int)<j:=Z;exact mod_int' (by omega) (by rw[Int.fmod_eq_emod_of_nonneg i (by omega)];exact q)
def WL:bI X (Ł .Pow) (rI Z6 λi j=>.int (i ^ j.toNat)):=zL λ_ _ _ _ _ _ _ Z q=>pow_int_small Z.1 Z.2.1 Z.2.2 q
def unI {g:Int->Int}
 (rule:∀(i:Int) (t:Tok) (s:Ä) (Q:Ç->Ä->Prop) (E:Ç->Ä->Prop),Q (.int (g i) s.toks) { s with toks:=s.toks+1 }->Ý (â X.prog X.w) X.A (f (.int i t)) Q E s) :
  wj X f (rU λi=>.int (g i)):=by
 intro Y s σ H x v Q I Z h;obtain⟨i,rfl,q⟩:=h;obtain⟨t,rfl⟩:=Z;exact rule i t s _ _ ⟨.int (g i),H,I.tok _,⟨_,rfl⟩,q⟩
def WM:wj X (unaryOp .USub) (rU λi=>.int (-i)):=unI λ_ _ _ _ _ q=>neg_int q
end
noncomputable def D9:V->V->Bool
 | .au,.au=>true | .au,.int _=>true | .int _,.au=>true | .au,.bl _=>true | .bl _,.au=>true | .au,.str _=>true | .str _,.au=>true
 | .int _,.int _=>true | .bl _,.bl _=>true | .str _,.str _=>true | .jn _,.jn _=>true
 | .int _,.str _=>true | .str _,.int _=>true | .bl _,.str _=>true | .str _,.bl _=>true
 |_,_=>false
def rEq:R2:=λx y H Q=>D9 x y=true/\Q (.bl (decide (x=y))) H
def rNe:R2:=λx y H Q=>D9 x y=true/\Q (.bl (!decide (x=y))) H
def JH:decide (V.int i=V.int j)=(i==j):=by
 rw[ζ];simp
def Kw:decide (V.bl i=V.bl j)=(i==j):=by
 rw[ζ];simp
def BP:decide (V.str i=V.str j)=(i==j):=by
 rw[ζ];simp
def JI:decide (V.jn i=V.jn j)=(i.toList==j.toList):=by
 rw[ζ];cases i;cases j;simp
section
variable {X:Cx} {a b c:ħ} {ta tb tc:TE} {pos:Pos}
def cO {π:List (Ù×Obj)} {σ:St} {H:Hp} {s:Ä} {Q:VK} {k k':Bool} (I:Inv X π σ H s) (q:Q (.bl k) H) (e:k=k'):EP X π σ Q (.bool k') s:=by
 subst e;exact⟨.bl k,H,I,rfl,q⟩
def YF:bI X (ġ .Eq) rEq:=by
 intro U s σ H x y v u Q I V Z h;obtain⟨hs,q⟩:=h
 cases x with
 |au =>
  cases V
  cases y with
  |au=>cases Z;exact PySem.EqNone.eq_none_none (cO I q (by simp))
  |bl j=>cases Z;exact PySem.EqNone.eq_none_bool (cO I q (by simp))
  |int j=>obtain⟨Y,rfl⟩:=Z;exact PySem.EqNone.eq_none_int (cO I q (by simp))
  |str j=>obtain⟨Y,rfl⟩:=Z;exact PySem.EqNone.eq_none_str (cO I q (by simp))
  |_=>exact absurd (show false=true from hs) Û
 |bl i =>
  cases V
  cases y with
  |au=>cases Z;exact PySem.EqNone.eq_bool_none (cO I q (by simp))
  |bl j=>cases Z;exact eq_bool (cO I q Kw)
  |str j=>obtain⟨Y,rfl⟩:=Z;exact PySem.EqMixed.eq_bool_str (cO I q (by simp))
  |_=>exact absurd (show false=true from hs) Û
 |int i =>
  obtain⟨t,rfl⟩:=V
  cases y with
  |au=>cases Z;exact PySem.EqNone.eq_int_none (cO I q (by simp))
  |int j=>obtain⟨Y,rfl⟩:=Z;exact eq_int (cO I q JH)
  |str j=>obtain⟨Y,rfl⟩:=Z;exact PySem.EqMixed.eq_int_str (cO I q (by simp))
  |_=>exact absurd (show false=true from hs) Û
 |str i =>
  obtain⟨t,rfl⟩:=V
  cases y with
  |au=>cases Z;exact PySem.EqNone.eq_str_none (cO I q (by simp))
  |bl j=>cases Z;exact PySem.EqMixed.eq_str_bool (cO I q (by simp))
  |int j=>obtain⟨Y,rfl⟩:=Z;exact PySem.EqMixed.eq_str_int (cO I q (by simp))
  |str j=>obtain⟨Y,rfl⟩:=Z;exact eq_str (cO I q BP)
  |_=>exact absurd (show false=true from hs) Û
 |jn i =>
  obtain⟨t,rfl⟩:=V
  cases y with
  |jn j=>obtain⟨Y,rfl⟩:=Z;exact PySem.W.eq_bytes (cO I q JI)
  |_=>exact absurd (show false=true from hs) Û
 |_=>cases y<;>exact absurd (show false=true from hs) Û
def YG:bI X (ġ .NotEq) rNe:=by
 intro U s σ H x y v u Q I V Z h;obtain⟨hs,q⟩:=h
 cases x with
 |au =>
  cases V
  cases y with
  |au=>cases Z;exact PySem.EqNone.ne_none_none (cO I q (by simp))
  |bl j=>cases Z;exact PySem.EqNone.ne_none_bool (cO I q (by simp))
  |int j=>obtain⟨Y,rfl⟩:=Z;exact PySem.EqNone.ne_none_int (cO I q (by simp))
  |str j=>obtain⟨Y,rfl⟩:=Z;exact PySem.EqNone.ne_none_str (cO I q (by simp))
  |_=>exact absurd (show false=true from hs) Û
 |bl i =>
  cases V
  cases y with
  |au=>cases Z;exact PySem.EqNone.ne_bool_none (cO I q (by simp))
  |bl j=>cases Z;exact ne_bool (cO I q (ň not Kw))
  |str j=>obtain⟨Y,rfl⟩:=Z;exact PySem.EqMixed.ne_bool_str (cO I q (by simp))
  |_=>exact absurd (show false=true from hs) Û
 |int i =>
  obtain⟨t,rfl⟩:=V
  cases y with
  |au=>cases Z;exact PySem.EqNone.ne_int_none (cO I q (by simp))
  |int j=>obtain⟨Y,rfl⟩:=Z;exact ne_int (cO I q (ň not JH))
  |str j=>obtain⟨Y,rfl⟩:=Z;exact PySem.EqMixed.ne_int_str (cO I q (by simp))
  |_=>exact absurd (show false=true from hs) Û
 |str i =>
  obtain⟨t,rfl⟩:=V
  cases y with
  |au=>cases Z;exact PySem.EqNone.ne_str_none (cO I q (by simp))
  |bl j=>cases Z;exact PySem.EqMixed.ne_str_bool (cO I q (by simp))
  |int j=>obtain⟨Y,rfl⟩:=Z;exact PySem.EqMixed.ne_str_int (cO I q (by simp))
  |str j=>obtain⟨Y,rfl⟩:=Z;exact ne_str (cO I q (ň not BP))
  |_=>exact absurd (show false=true from hs) Û
 |jn i =>
  obtain⟨t,rfl⟩:=V
  cases y with
  |jn j=>obtain⟨Y,rfl⟩:=Z;exact PySem.W.ne_bytes (cO I q (ň not JI))
  |_=>exact absurd (show false=true from hs) Û
 |_=>cases y<;>exact absurd (show false=true from hs) Û
def YH:bI X (ġ .LtE) (qt λi j=>.bl (decide (i<=j))):=D8 λ_ _ _ _ _ _ _ q=>le_int q
def YI:bI X (ġ .Gt) (qt λi j=>.bl (decide (j<i))):=D8 λ_ _ _ _ _ _ _ q=>gt_int q
def YJ:bI X (ġ .GtE) (qt λi j=>.bl (decide (j<=i))):=D8 λ_ _ _ _ _ _ _ q=>ge_int q
def bS (b:ħ) (h:op≠.In:=by decide) (h2:op≠.NotIn:=by decide):abm op b=false:=by
 have e1:(op==CmpOp.In)=false:=by cases op<;>first|rfl|exact absurd rfl h
 have e2:(op==CmpOp.NotIn)=false:=by cases op<;>first|rfl|exact absurd rfl h2
 cases b<;>simp[abm,e1,e2]
def U5 (ho:bI X (ġ op) r) (ha:PE X a ta) (hb:PE X b tb) (hm:abm op b=false):PE X (.Compare a [op] [b] pos) (wk r ta tb):=by
 intro Z s σ H Q I h;exact wpAny_Compare1 (D7 ha hb I h λv u Y x y W V U T q=>ho Z Y σ W x y v u Q V U T q) hm
def yO (t:TE):TT:=fun σ H Q=>t σ H λx Z=>∃k,x=.bl k/\Q k Z
def U6 {op:CmpOp} {r:R2} (ho:bI X (ġ op) r) (ha:PE X a ta) (hb:PE X b tb) (hm:abm op b=false):PT X (.Compare a [op] [b] pos) (yO (wk r ta tb)):=by
 intro Z s σ H Q I h;refine wpAny_isTrue_Compare1 (aI (ha Z s σ H _ I h) λv Y ⟨x,W,V,U,T⟩=>aI (hb Z Y σ W _ V T) λu S ⟨y,R,P,O,N⟩ =>
  aI (ho Z S σ R x y v u _ P U O N) λc G ⟨z,M,L,K,k,e,J⟩=>?_) hm
 subst e;cases K;exact ő ⟨M,L,J⟩
def Kx (r r':R2) (ta tb tc:TE):TE:=fun σ H Q=>ta σ H λx Y=>tb σ Y λy X=>r x y X λz Z=>∃k,z=.bl k /\
 (if k=true then tc σ Z λW V=>r' y W V Q else Q (.bl false) Z)
def S7 {op sX:CmpOp} {r r':R2} (ho:bI X (ġ op) r) (eZ:bI X (ġ sX) r') (ha:PE X a ta) (hb:PE X b tb) (hc:PE X c tc)
  (hm:lastMarks [op,sX] [b,c]=false:=by with_unfolding_all rfl):PE X (.Compare a [op,sX] [b,c] pos) (Kx r r' ta tb tc):=by
 intro Z s σ H Q I h;refine Compare_chain (aI (ha Z s σ H _ I h) λv T ⟨x,S,R,P,O⟩=>chain_link (aI (hb Z T σ S _ R O) λu N ⟨y,M,L,Y,K⟩ =>
  aI (ho Z N σ M x y v u _ L P Y K) λd J ⟨z,W,V,G,k,e,U⟩=>?_)) hm
 subst e;cases G;refine ő ?_
 cases k with
 |false=>exact ite_ff ⟨.bl false,W,V,rfl,U⟩
 |true=>exact ite_tt (chain_last (aI (hc Z J σ W _ V U) λF E ⟨D,C,B,A,w⟩=>eZ Z E σ C y D u F Q B Y A w))
def qh (K:ę) (x:V) (H:Hp) (k:Bool):Prop :=
 match x with
 | .au=>k=false
 | .bl b=>k=b
 | .int i=>k=(i != 0)
 | .str y=>y.length<=Ø/\k=((y.length:Int) != 0)
 | .jn y=>y.size<=Ø/\k=((y.size:Int) != 0)
 | .ref p=>(∃Z,bC K H p Z/\k=!Z.isEmpty)\/(∃Z,bz K H p Z/\k=!Z.isEmpty)\/∃Y,H p=some (.dK Y)/\k=!Y.isEmpty
 |_=>False
def Qu {κ:Type} {ai:List (κ×V)} {vs:List (κ×Ç)} (r:KV ai vs):(!vs.isEmpty)=!ai.isEmpty:=by
 cases r<;>rfl
def HG (r:Vals xs its):(!its.toArray.isEmpty)=!xs.isEmpty:=by
 cases r<;>simp
def pJ:(Ø:Nat)<2 ^ 63:=by rw[Ţ];decide
def Ky:Z4 X (λx H Q=>∃k,qh X.K x H k/\Q k H):=by
 intro J s σ H x v Q I U h;obtain⟨k,e,q⟩:=h;have G:=pJ;have hs:Ø=16777216:=Ţ
 cases x with
 |au =>
  cases U;have Z:k=false:=e;subst Z;exact truthy_none ⟨H,I,q⟩
 |bl b =>
  cases U;have Z:k=b:=e;subst Z;exact ő ⟨H,I,q⟩
 |int i =>
  obtain⟨t,rfl⟩:=U;have Z:k=(i != 0):=e;subst Z;exact PySem.P.truthy_int ⟨H,I,q⟩
 |str y =>
  obtain⟨t,rfl⟩:=U;obtain⟨M,Z⟩:y.length<=Ø/\k=((y.length:Int) != 0):=e;subst Z;exact PySem.P.truthy_str (by omega) ⟨H,I.tok _,q⟩
 |jn y =>
  obtain⟨t,rfl⟩:=U;obtain⟨M,Z⟩:y.size<=Ø/\k=((y.size:Int) != 0):=e;subst Z;exact PySem.W.truthy_bytes (by omega) ⟨H,I.tok _,q⟩
 |ref p =>
  cases U;have Z:(∃V,bC X.K H p V/\k=!V.isEmpty)\/(∃V,bz X.K H p V/\k=!V.isEmpty)\/∃T,H p=some (.dK T)/\k=!T.isEmpty:=e
  rcases Z with ⟨V,S,Z⟩ | ⟨V,S,Z⟩ | ⟨T,S,Z⟩
  ·subst Z
   obtain⟨its,r,O,N⟩:=I.list S;have Y:=r.length;exact wpAny_truthy_list O.isList (by simp only[Ú];omega) ⟨H,I.tok _,by rw[HG r];exact q⟩
  ·subst Z
   obtain⟨its,r,O,N⟩:=I.tuple S;have Y:=r.length;exact truthy_tuple O (by simp only[Ú];omega) ⟨H,I.tok _,by rw[HG r];exact q⟩
  ·subst Z
   obtain⟨N,L,R,r,m⟩:T.length<=Ø/\(p==ņ)=false/\∃R,KV T R/\s.heap.DictOf (hZ X.prog X.w) p R:=I.aE p _ S;have Y:T.length=R.length:=Paired.length r;exact wpAny_truthy_dict L m (by omega) ⟨H,I.tok _,by rw[Qu r];exact q⟩
 |_=>exact(show False from e).elim
def S8 (ha:PE X a ta) (he:∀whole,isTrue a X.env whole=(do let v <- whole;acf a.pos;abj [v] (truthy v))) :
  PT X a (fun σ H Q=>ta σ H λx H'=>∃k,qh X.K x H' k/\Q k H'):=by
 intro Z s σ H Q I h;exact isTrue_plain (aI (ha Z s σ H _ I h) λv Y ⟨x,W,V,U,T⟩=>Ky Z Y σ W x v Q V U T) (he _)
def Qv:bI X (Ł .Add) (λx y H Q=>∃i j,x=.str i/\y=.str j/\i.length+j.length<=Ø/\Q (.str (i++j)) H):=by
 intro U s σ H x y v u Q I Z Y h;obtain⟨i,j,rfl,rfl,W,q⟩:=h;obtain⟨t,rfl⟩:=Z;obtain⟨V,rfl⟩:=Y;exact add_str (λV T=>⟨.str (i++j),H,I.tok _,⟨_,rfl⟩,q⟩) W
def vals1 (r:Vals [x] us):∃u,us=[u]/\RelV x u:=by
 cases r with
 |cons Z Y=>cases Y;exact⟨_,rfl,Z⟩
def vals2 (r:Vals [x,y] us):∃u w',us=[u,w']/\RelV x u/\RelV y w':=by
 cases r with
 |cons Z Y =>
  cases Y with
  |cons X W=>cases W;exact⟨_,_,rfl,Z,X⟩
def RD (hc:X.calm=true):cD X (.builtin "max") (λxs H Q=>∃i j,xs=[.int i,.int j]/\Q (.int (if j > i then j else i)) H):=by
 intro Y s σ H xs W Q I r h;obtain⟨i,j,rfl,q⟩:=h;obtain⟨u,V,rfl,⟨t,rfl⟩,⟨U,rfl⟩⟩:=vals2 r;refine max_two_ints (I.ok.hd hc) λT S k=>⟨_,H,I.kept k,?_,q⟩;by_cases Z:j > i
 ·rw[ã Z,ã Z];exact⟨_,rfl⟩
 ·rw[í Z,í Z];exact⟨_,rfl⟩
def RE (hc:X.calm=true):cD X (.builtin "min") (λxs H Q=>∃i j,xs=[.int i,.int j]/\Q (.int (if j<i then j else i)) H):=by
 intro Y s σ H xs W Q I r h;obtain⟨i,j,rfl,q⟩:=h;obtain⟨u,V,rfl,⟨t,rfl⟩,⟨U,rfl⟩⟩:=vals2 r;refine min_two_ints (I.ok.hd hc) λT S k=>⟨_,H,I.kept k,?_,q⟩;by_cases Z:j<i
 ·rw[ã Z,ã Z];exact⟨_,rfl⟩
 ·rw[í Z,í Z];exact⟨_,rfl⟩
end
structure aet (h:Ĳ) (x dx C:Ù) (mA:Str->Option Ç):Prop where
 obj:h.get? x=some (PySem.W.instObj C dx)
 ns:h.Ns1 dx mA
 ne:dx≠x
section
variable {prog:ä} {w:ù} {A:ì} {E:Ç->Ä->Prop} {s:Ä} {K:ę} {x dx C f:Ù} {mA:Str->Option Ç} {name:Str} {v:Ç}
end
def ou.some_of (r:ou (some v) o):∃u,o=some u/\RelV v u:=by
 cases o with
 |none=>exact(show False from r).elim
 |some u=>exact⟨u,rfl,r⟩
section
variable {P:ä} {w:ù} {H H':Hp} {h h':Ĳ} {a C dx:Ù} {fs fs':List (Str×V)}
end
structure Cls (K:ę) (C:Ù):Prop where
 pg:PySem.W.plainGet K C Str.empty=true
 hd:PySem.W.hasDictIn K C=true
 po:PySem.W.plainOver K C=true
 sa:abR K (.ref C) "__setattr__"=some (some (.builtin "object.__setattr__"))
structure Con (K:ę) (C:Ù) (f:Str) (v:V) (u:Ç):Prop where
 at_:abR K (.ref C) f=some (some u)
 rel:RelV v u
 get:PySem.W.specialIn K u "__get__"=some none
 cp:PySem.W.copiedNames.contains f=false
structure Meth (K:ę) (C:Ù) (m:Str) (f:Ù):Prop where
 at_:abR K (.ref C) m=some (some (.ref f))
 fn:PySem.W.isFn K (.ref f)=true
 kp:ł K (.ref f)=true
section
variable {X:Cx} {π:List (Ù×Obj)} {σ:St} {H:Hp} {s:Ä} {a C dx:Ù} {fs:List (Str×V)} {f:Str} {v:V} {A:ì} {E:Ç->Ä->Prop}
end
section
variable {X:Cx} {o e value:ħ} {f:Str} {pos pos' Ea:Pos} {ta tv:TE}
end
section
variable {X:Cx} {π:List (Ù×Obj)} {σ:St} {H:Hp} {s:Ä} {A:ì} {E:Ç->Ä->Prop} {Q:Ç->Ä->Prop} {c:Ç} {b:Bool}
inductive kG (K:ę) (H:Hp):V->Ç->Prop where
 |au:kG K H .au (.type "NoneType")
 |bl (x:Bool):kG K H (.bl x) (.type "bool")
 |int (i:Int):kG K H (.int i) (.type "int")
 |str (x:Str):kG K H (.str x) (.type "str")
 |vZ (x:UInt64):kG K H (.vZ x) (.type "float")
 |lst {a:Ù} {xs:List V} (e:H a=some (.lst xs)):kG K H (.ref a) (.type "list")
 |aR {a:Ù} {o:Obj} {xs:List V} (e:H a=some (.aR o (.lst xs))):kG K H (.ref a) (.type "list")
 |tup {a:Ù} {xs:List V} (e:H a=some (.tup xs)):kG K H (.ref a) (.type "tuple")
 |dK {a:Ù} {ai:List (Key×V)} (e:H a=some (.dK ai)):kG K H (.ref a) (.type "dict")
 |dT {a:Ù} {ai:List (List Key×V)} (e:H a=some (.dT ai)):kG K H (.ref a) (.type "dict")
 |ins {a C dx:Ù} {fs:List (Str×V)} (e:H a=some (.ins C dx fs)) (cl:Cls K C) (ha:abR K (.ref C) "__class__"=some (some (.builtin "object.__class__")))
   (hn:PySem.W.specialIn K (.builtin "object.__class__") "__get__"=some (some (.builtin "getset_descriptor.__get__"))) (Nn:PySem.W.takesIn K (.builtin "object.__class__")=some true)
   (hm:PySem.W.mroIn K C (.type "object")=some true):kG K H (.ref a) (.ref C)
end
structure bB (k:Nat) (A:ì):Prop where
 hd:A.handled=none
 dp:A.depth+3*k+5<recursionLimit
 un:A.units+16*k+200<abh
 gd:A.guards=some []
def bB.mono (r:bB k A) (h:j<=k):bB j A:=⟨r.hd,by have:=r.dp;omega,by have:=r.un;omega,r.gd⟩
theorem bB.deeper (r:bB (k+1) A) (env:Env):bB k (A.deeper env) :=
 ⟨r.hd,by have:=r.dp;show A.depth+1+3*k+5 < _;omega,by have:=r.un;show A.units+3+16*k+200 < _;omega,r.gd⟩
theorem bB.depth (r:bB k A):A.depth<recursionLimit:=by have:=r.dp;omega
def Z7:TA:=λ_ H Q=>Q [] H
def YK (ta:TE) (tr:TA):TA:=fun σ H Q=>ta σ H λx Z=>tr σ Z λY X=>Q (x::Y) X
section
variable {X:Cx} {e:ħ} {es:List ħ} {te:TE} {t:TA} {pos:Pos}
def pK:PA X [] Z7:=λ_ _ _ _ H Q I h=>Calls.spliced_nil ⟨[],H,I,.nil,h⟩
def nU (ha:PE X e te) (hr:PA X es t) (hs:Õ (e::es) X.env=(false,ō e X.env)::Õ es X.env:=by rfl):PA X (e::es) (YK te t):=by
 intro pos Z s σ H Q I h;rw[hs];show Ý _ _ (spliced ((false,ō e X.env)::Ň pos (Õ es X.env))) _ _ s;refine Calls.spliced_cons (aI (ha Z s σ H _ I h) λu Y ⟨x,W,V,U,T⟩=>?_);exact aI (hr pos Z Y σ W _ V T) λM L ⟨S,R,P,O,N⟩=>⟨x::S,R,P,.cons U O,N⟩
def Z8 (t:TA):TE:=fun σ H Q=>t σ H λZ Y=>Z.length<=Ø/\∀p,Y p=none->Q (.ref p) (upd Y p (.tup Z))
def Z9 (t:TA):TE:=fun σ H Q=>t σ H λZ Y=>Z.length<=Ø/\∀p,Y p=none->Q (.ref p) (upd Y p (.lst Z))
def WN {x1} (h:PA X es t):PE X (.Tuple es x1 pos) (Z8 t):=by
 intro V s σ H Q I U;refine wpAny_Tuple_spliced (aI (h pos V s σ H _ I U) λT Z ⟨S,Y,W,r,z,q⟩=>⟨by rw[<- r.length];exact z,?_⟩);have R:Y Z.heap.objs.size=none:=W.aE.fresh (acG _);refine⟨.ref Z.heap.objs.size,upd Y Z.heap.objs.size (.tup S),W.laid (t':=Z.toks) (λb u e=>Á _ e) (acG _) ?_,rfl,q _ R⟩;exact⟨z,T,r,⟨_,Ô _ rfl,rfl,_,rfl⟩⟩
def Kz (h:PA X es t):PE X (.List es pos) (Z9 t):=by
 intro V s σ H Q I U;refine wpAny_List_spliced (aI (h pos V s σ H _ I U) λT Z ⟨S,Y,W,r,z,q⟩=>⟨by rw[<- r.length];exact z,?_⟩);have R:Y Z.heap.objs.size=none:=W.aE.fresh (acG _);refine⟨.ref Z.heap.objs.size,upd Y Z.heap.objs.size (.lst S),W.laid (t':=Z.toks) (λb u e=>Á _ e) (acG _) ?_,rfl,q _ R⟩;exact⟨z,T,0,r,Ô _ rfl⟩
end
abbrev Sp:=List V->Hp->VK->XK->Prop
abbrev js:=List Env->Hp->Ä->XK->Ç->Ä->Prop
structure sk (P:ä) (w:ù) (K:ę) (mg:Str->Option Ç) (base:Ĳ) (A:ì) (outer:List Env) (s:Ä) (H:Hp):Prop where
 frames:A.frames=some outer
 mod:Mod K mg base
 bs:∀b o,base.get? b=some o->s.heap.get? b=some o/\H b=none
 jo:base.objs.size<=s.heap.objs.size
 jh:s.heap.FunFrames base outer
 nu:∀b∈cw outer,H b=none
 aE:cf P w H s.heap
 bare:acy s.gens
def CE (outer:List Env) (P:ä) (w:ù) (H:Hp) (s:Ä) (Q:VK) (u:Ç) (s':Ä):Prop :=
 ∃v Z,s'.os=s.os/\acy s'.gens/\Un (cw outer) [] H Z s.heap s'.heap/\cf P w Z s'.heap/\RelV v u/\Q v Z
def CR (CX:js) (outer:List Env) (P:ä) (w:ù) (H:Hp) (s:Ä) (Q:VK) (E:XK) (r:Result) (s':Ä):Prop :=
 match r with
 | .ok (.ret u)=>CE outer P w H s Q u s'
 | .ok _=>False
 | .error e=>CX outer H s E e s'
structure dB (P:ä) (w:ù) (K:ę) (mg:Str->Option Ç) (base:Ĳ) (CX:js) (k:Nat) (f:Ù) (fd:Ī) (ps:List Str) (sp:Sp):Prop where
 len:∀vs H Q E,sp vs H Q E->vs.length=ps.length
 run:∀(A:ì) (outer:List Env) (s:Ä) (H:Hp) (args:Args) (us:List Ç) (vs:List V) (Q:VK) (E:XK),bB k A->sk P w K mg base A outer s H->BindsTo s fd args (ps.zip us)->Vals vs us->sp vs H Q E ->
  η (â P w) A (.call (.ref f) args) (CR CX outer P w H s Q E) s
def dB.imp {P:ä} {w:ù} {K:ę} {mg:Str->Option Ç} {base:Ĳ} {CX:js} {k:Nat} {f:Ù} {fd:Ī} {ps:List Str} {sp Np:Sp} (F:dB P w K mg base CX k f fd ps sp)
  (h:∀vs H Q E,Np vs H Q E->sp vs H Q E):dB P w K mg base CX k f fd ps Np :=
 ⟨λvs H Q E q=>F.len vs H Q E (h _ _ _ _ q),λA outer s H args Z vs Q E Y X W V hs=>F.run A outer s H args Z vs Q E Y X W V (h _ _ _ _ hs)⟩
section
variable {X:Cx} {π:List (Ù×Obj)} {σ:St} {H:Hp} {s s':Ä}
def Inv.ox (I:Inv X π σ H s):sk X.prog X.w X.K X.mg X.base X.A X.stack s H :=
 ⟨I.ok.frames,I.ok.mod,I.bs,Þ I.ok.jo I.sz,I.stack,I.uA,I.aE,I.bare⟩
def Inv.after (I:Inv X π σ H s) (h:CE X.stack X.prog X.w H s Q u s'):EP X π σ Q u s':=by
 obtain⟨v,Z,os,bare,un,Y,r,q⟩:=h;obtain⟨W,g,d,t,V⟩:=s';obtain rfl:V=s.os:=os;exact⟨v,Z,I.call (h':=W) (g':=g) (d':=d) (t':=t) (ch:=[]) un Y bare (λb z=>absurd z (by simp)),r,q⟩
end
def u9 (sp:Sp) (aq:List V) (E:XK) (t:TA):TE:=fun σ H Q=>t σ H λZ Y=>sp (Z++aq) Y Q E
def Binds (K:ę) (fd:Ī) (ps:List Str) (ds:List Ç):Prop :=
 ∀(s:Ä) (Z:List Ç),K.In s.heap->(Z++ds).length=ps.length->BindsTo s fd ⟨Z,[]⟩ (ps.zip (Z++ds))
def Binds.all {K:ę} {fd:Ī} {ps:List Str} (h:∀us:List Ç,us.length=ps.length->bindArgs fd ⟨us,[]⟩=pure (ps.zip us)):Binds K fd ps []:=λs us _ Z=>by
 rw[İ] at Z |-;exact .of_eq (h us Z)
def Passes (CX:js) (X:Cx) (E:XK):Prop:=∀(Y:List (Ù×Obj)) (σ:St) (H:Hp) (s:Ä) (e:Ç) (Z:Ä),Inv X Y σ H s->CX X.stack H s E e Z->X.xe e Z
section
variable {X:Cx} {CX:js} {k:Nat} {f C:Ù} {fd:Ī} {ps:List Str} {sp:Sp} {aq:List V} {ds:List Ç} {E:XK} {x m:Str} {p pos apos:Pos} {e o:ħ} {es:List ħ} {ta:TE} {t:TA}
def KC {π:List (Ù×Obj)} {σ:St} {H:Hp} {s:Ä} {Q:VK} {us:List Ç} {vs:List V} (F:dB X.prog X.w X.K X.mg X.base CX k f fd ps sp) (hr:bB k X.A) (hb:Binds X.K fd ps ds) (hd:Vals aq ds) (hx:Passes CX X E)
  (I:Inv X π σ H s) (r:Vals vs us) (h:sp (vs++aq) H Q E):Ý (â X.prog X.w) X.A (call (.ref f) us) (EP X π σ Q) X.xe s:=by
 have Y:Vals (vs++aq) (us++ds):=r.append hd;have W:(us++ds).length=ps.length:=by rw[<- Y.length];exact F.len _ _ _ _ h
 refine wpAny_call (Ů (F.run X.A X.stack s H ⟨us,[]⟩ (us++ds) (vs++aq) Q E hr I.ox (hb s us I.jq W) Y h) λr U Z=>?_)
 cases r with
 |error e=>exact hx π σ H s e U I Z
 |ok T =>
  cases T with
  |ret u=>exact I.after Z
  |next=>exact Į Z
  |brk=>exact Į Z
  |cont=>exact Į Z
def JJ (F:dB X.prog X.w X.K X.mg X.base CX k f fd ps sp) (hr:bB k X.A) (hg:Gl X x) (hm:X.mg x=some (.ref f)) (hk:ł X.K (.ref f)=true) (hb:Binds X.K fd ps ds) (hd:Vals aq ds) (hx:Passes CX X E)
  (ha:PA X (e::es) t) (fY:(x==("__debug__":Str))=false:=by decide) (he:Õ (e::es) X.env=(false,ō e X.env)::Õ es X.env:=by rfl) (bX:(Ň pos (Õ es X.env)).any (·.1)=false:=by rfl) :
  PE X (.Call (.Name x p) (e::es) [] pos) (u9 sp aq E t):=by
 intro Y s σ H Q I h;refine abn (uB I hg hm ?_ fY);refine acp (h₀:=X.base) I.ok.mod.lU hk (aI (ha pos Y s σ H _ I h) λW V ⟨U,T,Z,r,q⟩=>⟨Z.jq,?_⟩) he bX;exact KC F hr hb hd hx Z r q
structure Mk (K:ę) (C f:Ù):Prop where
 makes:PySem.W.makesIn K C=true
 init:abR K (.ref C) "__init__"=some (some (.ref f))
 fn:PySem.W.isFn K (.ref f)=true
 kp:ł K (.ref C)=true
end
section
variable {X:Cx} {CX:js} {k:Nat} {f C:Ù} {fd:Ī} {ps ks:List Str} {sp:Sp} {E:XK} {x m:Str} {p pos apos aaa:Pos} {e o:ħ} {es:List ħ} {kws:List ab3} {te ta:TE} {t tk:TA} {nm:Option Str}
structure aeq (K:ę) (fd:Ī) (ps ks:List Str) (g:List Ç->List Ç->List Ç) (gV:List V->List V->List V):Prop where
 to:∀(s:Ä) (us ws:List Ç),K.In s.heap->(g us ws).length=ps.length->BindsTo s fd ⟨us,ks.zip ws⟩ (ps.zip (g us ws))
 rel:∀{vs:List V} {us:List Ç} {zs:List V} {ws:List Ç},Vals vs us->Vals zs ws->Vals (gV vs zs) (g us ws)
variable {g:List Ç->List Ç->List Ç} {gV:List V->List V->List V}
end
structure uC (N P:List Str) (sc:ο):Prop where
 kind:sc.kind=.function
 co:sc.isCoroutine=false
 gen:sc.isGenerator=false
 nd:N.Nodup
 pre:N.take P.length=P
 par:∀x∈P,sc.names.lookup x=some .local\/sc.names.lookup x=some .cell
 WO:∀y∈sc.names,y.2≠.free
theorem Ib {kindOf:Str->Option Ť} {x:Str}:∀{binds:List (Str×Ç)} {m:Str->Option Ç},(∀v,(x,v)∉binds)->bindL kindOf binds m x=m x
 | [],_,_=>rfl
 |(n,v)::r,m,h=>by
  unfold bindL;rw[Ib λw hw=>h w (Ê _ hw)];split
  ·have:x≠n:=by rintro rfl;exact h v Ð
   simp[this]
  ·rfl
theorem Ic {kindOf:Str->Option Ť} {x:Str}:∀{binds:List (Str×Ç)} {m:Str->Option Ç},(∀v,(x,v)∉binds)->bindC kindOf binds m x=m x
 | [],_,_=>rfl
 |(n,v)::r,m,h=>by
  unfold bindC;rw[Ic λw hw=>h w (Ê _ hw)];split
  ·rfl
  ·have:x≠n:=by rintro rfl;exact h v Ð
   simp[this]
theorem Ie {kindOf:Str->Option Ť} {x:Str} {v:Ç}:∀{P:List Str} {vs:List Ç} {i:Nat} {m:Str->Option Ç},P.Nodup->P[i]?=some x->vs[i]?=some v->kindOf x=some .local ->
  bindL kindOf (P.zip vs) m x=some v
 | [],_,_,_,_,h,_,_=>by simp at h
 |_::_,[],_,_,_,_,h,_=>by simp at h
 |p::P,w::vs,0,m,X,Z,Y,W=>by
  simp at Z Y;subst Z;subst Y;show bindL kindOf ((p,w)::P.zip vs) m p=_;unfold bindL;rw[Ib λv V=>(θ.mp X).1 (List.of_mem_zip V).1,ã W];simp
 |p::P,w::vs,i+1,m,X,Z,Y,W=>by
  show bindL kindOf ((p,w)::P.zip vs) m x=_;unfold bindL;exact Ie (i:=i) (θ.mp X).2 (by simpa using Z) (by simpa using Y) W
theorem Ig {kindOf:Str->Option Ť} {x:Str} {v:Ç}:∀{P:List Str} {vs:List Ç} {i:Nat} {m:Str->Option Ç},P.Nodup->P[i]?=some x->vs[i]?=some v->kindOf x≠some .local ->
  bindC kindOf (P.zip vs) m x=some v
 | [],_,_,_,_,h,_,_=>by simp at h
 |_::_,[],_,_,_,_,h,_=>by simp at h
 |p::P,w::vs,0,m,X,Z,Y,W=>by
  simp at Z Y;subst Z;subst Y;show bindC kindOf ((p,w)::P.zip vs) m p=_;unfold bindC;rw[Ic λv V=>(θ.mp X).1 (List.of_mem_zip V).1,í W];simp
 |p::P,w::vs,i+1,m,X,Z,Y,W=>by
  show bindC kindOf ((p,w)::P.zip vs) m x=_;unfold bindC;exact Ig (i:=i) (θ.mp X).2 (by simpa using Z) (by simpa using Y) W
def start (N:List Str) (vs:List V):St:=vs.map some++Å (N.length-vs.length) none
def jS (CX:js) (P:ä) (w:ù) (K:ę) (mg:Str->Option Ç) (base:Ĳ) (N:List Str) (qual:Str) (scope:ο) (f:Ù) (cd:Ç) (A:ì) (outer:List Env) (s:Ä) (H:Hp) (E:XK):Cx where
 prog:=P
 w:=w
 K:=K
 mg:=mg
 base:=base
 A:=A.deeper (envOfC qual scope s.heap.objs.size f cd)
 N:=N
 cQ:=s
 lK:=H
 env:=envOfC qual scope s.heap.objs.size f cd
 outer:=outer
 stack:=envOfC qual scope s.heap.objs.size f cd::outer
 ex:=[]
 calm:=true
 fn:=λ_=>true
 pn:=[]
 xe:=λe Y=>Ý (â P w) (A.deeper (envOfC qual scope s.heap.objs.size f cd)) (leaving (envOfC qual scope s.heap.objs.size f cd) e) (λ_ Z=>CX outer H s E e Z) (λX Z=>CX outer H s E X Z) Y
def IV {sc:ο} {n:Nat} {x:Str} (h:sc.names.lookup x=some .cell):∃c,(aaV n sc.names []).lookup x=some c:=by
 have q:=abC sc.names n [] (.inl h);exact abd.mp q
def RF {CX:js} {P:ä} {w:ù} {K:ę} {mg:Str->Option Ç} {base:Ĳ} {N ps:List Str} {qual:Str} {scope:ο} {f:Ù} {cd:Ç} {A:ì} {outer:List Env} {s s1:Ä} {H:Hp} {E:XK} {us:List Ç} {vs:List V}
  (S:uC N ps scope) (hd:A.handled=none) (e0:sk P w K mg base A outer s H) (hl:vs.length=ps.length) (r:Vals vs us)
  (x:InCallC s s.heap.objs.size (bindL (envOfC qual scope s.heap.objs.size f cd).kindOf (ps.zip us) λ_=>none) (aaV (s.heap.objs.size+1) scope.names []) (bindC (envOfC qual scope s.heap.objs.size f cd).kindOf (ps.zip us) λ_=>none) s1) :
  Inv (jS CX P w K mg base N qual scope f cd A outer s H E) [] (start N vs) H s1:=by
 have M:ps.length<=N.length:=by have:=ň List.length S.pre;rw[ab4] at this;omega
 obtain⟨X,L,rfl,U⟩:=x.done;have W:∀b:Ù,b∉(jS CX P w K mg base N qual scope f cd A outer s H E).ex:=λb z=>absurd (show b∈([]:List Ù) from z) (by simp);refine⟨⟨e0.mod,S.kind,rfl,rfl,acG _,λy z c X Z=>?_,λy hy=>?_,λy c _ h=>?_,λ_=>hd,Around.frames_deeper e0.frames,.inr ⟨rfl,rfl⟩,λb z=>absurd z (W b),e0.bs,e0.jo,λb _ _=>W b,λb z=>absurd z (W b),e0.jh,e0.nu⟩,
  rfl,e0.bare,Un.kept U,⟨_,x.toInCall.ns,λi y v X Z J=>?_⟩,λy c h=>⟨_,x.cell y c h⟩,e0.aE.fresh (acG _),λy c h=>?_,λp Y=>absurd (show p∈([]:List (Ù×Obj)) from Y) (by simp),e0.aE.kept U,?_⟩
 ·exact name_of_addr x.apart (ĳ X) (ĳ Z)
 ·have hy:scope.names.lookup y=some .cell\/scope.names.lookup y=some .free:=hy
  rcases hy with hy|hy
  ·exact IV hy
  ·exact absurd rfl (S.WO _ (ĳ hy))
 ·exact Nat.le_of_lt (x.above y c (ĳ h))
 ·have hi:i<vs.length:=by
   unfold start at Z;by_cases hi:i<vs.length
   ·exact hi
   ·rw[ð (by simpa using hi)] at Z
    rw[Ģ] at Z
    split at Z<;>cases Z
  have Q:vs[i]?=some v:=by
   unfold start at Z;rw[Ü (by simpa using hi),ç] at Z
   cases e:vs[i]? with
   |none=>rw[e] at Z;cases Z
   |some a=>rw[e] at Z;cases Z;rfl
  obtain⟨u,T,O⟩:=r.get Q;have Y:ps[i]?=some y:=by
   rw[<- S.pre,List.getElem?_take_of_lt (by omega)];exact X
  have R:ps.Nodup:=by rw[<- S.pre];exact S.nd.sublist (List.take_sublist _ _)
  refine⟨u,O,?_⟩
  rcases S.par y (ť Y) with k|k
  ·exact .inl ⟨k,Ie R Y T k⟩
  ·obtain⟨c,e⟩:=IV (n:=s.heap.objs.size+1) k
   refine .inr ⟨.inl k,c,e,?_⟩;have q:=x.cell y c e;rw[Ig R Y T (by show scope.names.lookup y≠_;rw[k];decide)] at q;exact q
 ·exact e0.aE.fresh (Nat.le_of_lt (x.above y c (ĳ h)))
 ·unfold start
  show _=N.length;rw[ó,Í,Ĉ];omega
def Dh {CX:js} {P:ä} {w:ù} {K:ę} {mg:Str->Option Ç} {base:Ĳ} {k:Nat} {f:Ù} {name qual:Str} {params:Arguments} {body:List acx} {scope:ο} {dV kV doc pm bE ct oc:Ç} {an od:Option Ù}
  {l0:Array (Option Ç)} {N ps:List Str} {sp:Sp} (lk:K.lookup f=some ⟨oc,od,.func (ů name qual params body scope dV kV doc pm an bE ct),l0⟩) (fy:abS K bE qual=true) (S:uC N ps scope)
  (len:∀vs H Q E,sp vs H Q E->vs.length=ps.length)
  (mP:∀(A:ì) (outer:List Env) (s:Ä) (H:Hp) (vs:List V) (Q:VK) (E:XK),bB k (A.deeper (envOfC qual scope s.heap.objs.size f bE))->sp vs H Q E ->
   ∃t,cY (jS CX P w K mg base N qual scope f bE A outer s H E) body t/\t { nx:=λ_ H'=>Q .au H',rt:=Q } (start N vs) H) :
  dB P w K mg base CX (k+1) f (ů name qual params body scope dV kV doc pm an bE ct) ps sp:=by
 refine⟨len,λA outer s H args L vs Q E X Z G r R=>?_⟩;have F:=len _ _ _ _ R;have O:K.In s.heap:=Z.mod.lU.keeps λb o e=>(Z.bs b o e).1;have lim:s.heap.NoLimit:=Z.mod.nolimit.keeps λb o e=>(Z.bs b o e).1;have D:∀y∈ps.zip L,scope.names.lookup y.1=some .local\/(scope.names.lookup y.1=some .cell/\((aaV (s.heap.objs.size+1) scope.names []).lookup y.1).isSome=true):=λ⟨n,v⟩ C=>by
  rcases S.par n (List.of_mem_zip C).1 with q|q
  ·exact .inl q
  ·exact .inr ⟨q,abC _ _ _ (.inl q)⟩
 refine codeAny_call_function X.depth (O _ _ lk) rfl S.co S.gen rfl (PySem.W.codeRec_of O fy) (G _ _ _ _ ?_);refine wpAny_newFunctionEnv_cells S.kind D λenv B M x=>?_;subst B;refine⟨lim.keeps x.toInCall.keep,codeAny_func ?_⟩;obtain⟨t,z,p⟩:=mP A outer s H vs Q E (X.deeper _) R;have I:Inv (jS CX P w K mg base N qual scope f bE A outer s H E) [] (start N vs) H M:=RF S X.hd Z F r x;refine Ę (z [] M (start N vs) H _ I p) (λm U hs=>?_) λe U hs=>hs;have fin:∀{Y:St} {H':Hp} {v:V} {u:Ç},Inv (jS CX P w K mg base N qual scope f bE A outer s H E) [] Y H' U->RelV v u->Q v H'->CE outer P w H s Q u U :=
  λ{Y H' v u} J T q=>⟨v,H',J.os,J.bare,J.base,J.aE,T,q⟩
 cases m with
 |ret u =>
  obtain⟨v,Y,H',J,T,q⟩:=hs;exact fin J T q
 |next =>
  obtain⟨Y,H',J,q⟩:=hs;exact fin (v:=V.au) (u:=Value.none) J rfl q
 |brk =>
  obtain⟨_,_,_,q⟩:=hs;exact Į q
 |cont =>
  obtain⟨_,_,_,q⟩:=hs;exact Į q
section
variable {X:Cx} {x:Str} {p pos:Pos} {e:ħ} {es:List ħ} {t:TA} {id T:String} {r:List V->Hp->VK->Prop}
def EN (r:List V->Hp->VK->Prop) (t:TA):TE:=fun σ H Q=>t σ H λZ Y=>r Z Y Q
def Bj (hc:cD X (.builtin id) r) (hg:Gl X x) (hm:X.mg x=none) (hv:ú x=some (.builtin id)) (ha:PA X (e::es) t) (hn:x≠"__name__":=by decide) (fY:(x==("__debug__":Str))=false:=by decide)
  (he:Õ (e::es) X.env=(false,ō e X.env)::Õ es X.env:=by rfl) (bX:(Ň pos (Õ es X.env)).any (·.1)=false:=by rfl):PE X (.Call (.Name x p) (e::es) [] pos) (EN r t):=by
 intro Z s σ H Q I h;refine abn (rA I hg hm hv ?_ hn fY);exact PyProof.Rows.callWith_builtin1 (aI (ha pos Z s σ H _ I h) λY W ⟨V,U,T,S,R⟩=>hc Z W σ U V Y Q T S R) he bX
def Ih (hc:cD X (.type T) r) (hg:Gl X x) (hm:X.mg x=none) (hv:ú x=some (.type T)) (ha:PA X (e::es) t) (hn:x≠"__name__":=by decide) (fY:(x==("__debug__":Str))=false:=by decide)
  (he:Õ (e::es) X.env=(false,ō e X.env)::Õ es X.env:=by rfl) (bX:(Ň pos (Õ es X.env)).any (·.1)=false:=by rfl):PE X (.Call (.Name x p) (e::es) [] pos) (EN r t):=by
 intro Z s σ H Q I h;refine abn (rA I hg hm hv ?_ hn fY);exact ŕ (aI (ha pos Z s σ H _ I h) λY W ⟨V,U,S,R,P⟩=>hc Z W σ U V Y Q S R P) he bX
end
end L2
namespace HT
open PySem PyProof.Rows
noncomputable def lexLt:List Int->List Int->Bool
 | [],[]=>false
 | [],_::_=>true
 |_::_,[]=>false
 |x::Z,y::Y=>if x=y then lexLt Z Y else decide (x<y)
def jy (x y:Int) (xs ys:List Int):lexLt (x::xs) (y::ys)=if x=y then lexLt xs ys else decide (x<y):=rfl
def IW (A:ì) (s:Ä) (a:Int) (t:Tok) (c:Int) (u:Tok) (prog:ä) (w:ù) (E:Ç->Ä->Prop) (Q:Ç->Ä->Prop) (h:Q (.bool (decide (a<c))) s) :
  Ý (â prog w) A (richCompare .Lt (.int a t) (.int c u)) Q E s :=
 (PyProof.Rows.lt_int h:Ý (â prog w) A (ġ .Lt (.int a t) (.int c u)) Q E s)
section
open PySem.SeqAt
open PySem.AutoSeq1 (wpAny_loadPart')
open PySem.MeetsSeq PySem.MeetsSeq2 PySem.MeetsSeq3
end
section
variable {prog:ä} {w:ù} {A:ì} {E:Ç->Ä->Prop} {s:Ä}
def U7 (ht:IsTup s.heap t vs.toArray) (hb:IsTup s.heap b ws.toArray) (hv:vs≠[])
 (h1:ws=[]->Q (.ref t) s) (h2:ws≠[]->Q (.ref s.heap.objs.size) { s with heap:=s.heap.push { cls:=.type "tuple",data:=.seq (vs++ws).toArray } })
 (hsz:vs.length+ws.length<=Ø):Ý (â prog w) A (Ł .Add (.ref t) (.ref b)) Q E s:=by
 obtain⟨⟨cls,X,data,W⟩,Z,V,n,U⟩:=id ht;obtain⟨⟨O,T,data2,S⟩,Y,R,P,hd2⟩:=id hb;simp only at V U R hd2;subst V U R hd2;have e:vs.toArray++ws.toArray=(vs++ws).toArray:=by simp
 by_cases hw:ws=[]
 ·exact concat_meets ⟨_,Z,rfl⟩ ⟨_,Y,rfl⟩ noFill_tuple_add seq_tuple_add abD abo (abe _ _)
   (tuple_addW1 t b vs.toArray ws.toArray n P X T W S (by simpa using hv) (by simp[hw])) ⟨Z,Y,h1 hw⟩
 ·refine concat_meets ⟨_,Z,rfl⟩ ⟨_,Y,rfl⟩ noFill_tuple_add seq_tuple_add abD abo (abe _ _)
   (tuple_addW2 t b vs.toArray ws.toArray n P X T W S (by simpa using hv) (by simpa using hw) (by rw[Ú,Ú];exact hsz)) ⟨Z,Y,?_⟩
  rw[e];exact h2 hw
noncomputable def aU (n d:Nat):Option Int->Nat
 |none=>d
 |some v=>if v<0 then (v+(n:Int)).toNat else min v.toNat n
def WQ (n d:Nat) (hd:d<=n) (o:Option Int):aU n d o<=n:=by
 cases o with
 |none=>exact hd
 |some v =>
  show (if v<0 then (v+(n:Int)).toNat else min v.toNat n)<=n
  by_cases Z:v<0
  ·rw[ã Z];omega
  ·rw[í Z];exact Nat.min_le_right _ _
def JK (v:Int) (n d:Nat):(if v<0 then max (v+(n:Int)) 0 else min v (n:Int))=((aU n d (some v):Nat):Int):=by
 show (if v<0 then max (v+(n:Int)) 0 else min v (n:Int))=(((if v<0 then (v+(n:Int)).toNat else min v.toNat n):Nat):Int)
 by_cases Z:v<0
 ·simp only[ã Z];omega
 ·simp only[í Z];omega
def Qw (lo hi:Option Int) (n:Nat):aaW lo hi 1 (n:Int)=(((aU n 0 lo:Nat):Int),((aU n n hi:Nat):Int)):=by
 have Z:¬ ((1:Int)<0):=by omega
 unfold aaW;simp only[Z,û];refine Prod.ext ?_ ?_
 ·cases lo with
  |none=>rfl
  |some v=>exact JK v n 0
 ·cases hi with
  |none=>rfl
  |some v=>exact JK v n n
def Qx (i j:Nat):ţ (i:Int) (j:Int) 1=j-i:=by
 unfold ţ;have Z:(1:Int) > 0:=by omega
 simp only[Z,Ā,Int.ediv_one]
 split<;>omega
def HH (p:IsPart v o) (h:Q o s):Ý (â prog w) A (Builtin.Slice.slicePartIndex v) Q E s:=by
 cases p with
 |none=>exact slicePart_none h
 |int i t=>exact slicePart_int h
def G9 {lo hi:Option Int} {n:Nat} {Q:Int×Int×Nat->Ä->Prop} (hs:s.heap.IsSliceOf sl vl vu .none) (pl:IsPart vl lo) (pu:IsPart vu hi)
 (h:Q (((aU n 0 lo:Nat):Int),1,aU n n hi-aU n 0 lo) s):Ý (â prog w) A (aco (.ref sl) (pure (n:Int))) Q E s:=by
 obtain⟨os,Z,X,Y⟩:=id hs;unfold aco Builtin.Slice.sliceFields;refine À (À (Ĺ Z Y (x:=vl) rfl (À (Ĺ Z Y (x:=vu) rfl (À (Ĺ Z Y (x:=.none) rfl (Â ?_)))))));refine À (slicePart_none ?_)
 show Ý _ _ (if ((1:Int)==0)=true then _ else _) _ _ s
 rw[í (by decide)];refine À (HH pl (À (HH pu (À (Â ?_)))))
 show Ý _ _ (match aaW lo hi 1 (n:Int) with | (lo,hi)=>pure (lo,(1:Int),ţ lo hi 1)) _ _ s
 rw[Qw lo hi n];show Ý _ _ (pure (((aU n 0 lo:Nat):Int),(1:Int),ţ ((aU n 0 lo:Nat):Int) ((aU n n hi:Nat):Int) 1)) _ _ s;rw[Qx];exact Â h
def S9 (xs:Array Ç) (i k:Nat):((Ć k).filterMap λ(m:Nat)=>xs[((i:Int)+(m:Int)*1).toNat]?).toArray=((xs.toList.drop i).take k).toArray:=by
 have e:(λ(m:Nat)=>xs[((i:Int)+(m:Int)*1).toNat]?)=λm=>xs[i+m]?:=by
  funext m;have:((i:Int)+(m:Int)*1).toNat=i+m:=by omega
  rw[this]
 rw[e];have:=pick_run xs i k;rw[List.filterMap_map] at this;have e2:((λx=>xs[x]?) ∘ λx=>i+x)=λm=>xs[i+m]?:=rfl;rw[e2] at this;rw[this]
def OK {lo hi:Option Int} {Q:Ç->Ä->Prop} (ht:IsTup s.heap t items) (hs:s.heap.IsSliceOf sl vl vu .none) (pl:IsPart vl lo) (pu:IsPart vu hi)
 (hw:¬ (aU items.size 0 lo=0/\aU items.size items.size hi=items.size))
 (h:Q (.ref s.heap.objs.size) { s with heap:=s.heap.push { cls:=.type "tuple",data:=.seq ((items.toList.drop (aU items.size 0 lo)).take (aU items.size items.size hi-aU items.size 0 lo)).toArray } })
 (hsz:items.size<=Ø):Ý (â prog w) A (acz (.ref t) (.ref sl)) Q E s:=by
 have Z:sizeOk (.seq ((items.toList.drop (aU items.size 0 lo)).take (aU items.size items.size hi-aU items.size 0 lo)).toArray):=by
  show ((items.toList.drop (aU items.size 0 lo)).take (aU items.size items.size hi-aU items.size 0 lo)).toArray.size<=Ø;rw[Ú,ab4,List.length_drop,ñ];omega
 have U:aU items.size items.size hi<=items.size:=WQ _ _ (acG _) hi;obtain⟨os,Y,X,T⟩:=id hs;have W:s.TypeIs (.ref sl) "slice":=⟨os,Y,X⟩;unfold acz
 try with_reducible refine ě ?_
 first|refine À (Â ?_)|skip
 refine À (wpAny_sequenceKey ht.typeIs (by decide) ?_);refine À (ü (name:=ĉ "__getitem__") ht.typeIs Ğ
  (ö Ğ ht.typeIs entry_tuple_getitem ?_ (args_tuple_getitem _ _)))
 show Ý _ _ (Ř (.ref t) >>= _) _ _ s;refine À (tupleItemsOf_ ht ?_);refine À (abV W ?_);rw[ã (by decide)];refine À (G9 hs pl pu ?_);have V:¬ ((((aU items.size 0 lo:Nat):Int)==0&&(1:Int)==1&&(aU items.size items.size hi-aU items.size 0 lo)==items.size)=true):=by
  intro q;rw[Æ,Æ] at q;have S:((aU items.size 0 lo:Nat):Int)=0:=eq_of_beq q.1.1;have R:aU items.size items.size hi-aU items.size 0 lo=items.size:=eq_of_beq q.2;exact hw ⟨by omega,by omega⟩
 show Ý _ _ (if (((aU items.size 0 lo:Nat):Int)==0&&(1:Int)==1&&(aU items.size items.size hi-aU items.size 0 lo)==items.size)=true then _ else _) _ _ s
 rw[í V,S9]
 first
  |exact À (m:=Ŋ _) (ï (Â ⟨_,rfl,Â h⟩) Z)
  |exact À (m:=Ŋ _) (ï (À (Â (Â ⟨_,rfl,Â h⟩))) Z)
  |exact À (À (m:=Ŋ _) (ï (Â (Â ⟨_,rfl,Â h⟩)) Z))
  |exact À (À (m:=Ŋ _) (ï (Â ⟨_,rfl,Â h⟩) Z))
end
end HT
namespace L2
open PySem PySem.Spec PyProof.Rows
abbrev TO:=St->Hp->(Option Int->Hp->Prop)->Prop
def PO (X:Cx) (e:Option ħ) (t:TO):Prop :=
 ∀(Z:List (Ù×Obj)) (s:Ä) (σ:St) (H:Hp) (Q:Option Int->Hp->Prop),Inv X Z σ H s->t σ H Q ->
  Ý (â X.prog X.w) X.A (evalPart e X.env) (λu W=>∃o Y,Inv X Z σ Y W/\IsPart u o/\Q o Y) X.xe s
def U8:TO:=λ_ H Q=>Q none H
def YM (t:TE):TO:=fun σ H Q=>t σ H λx Z=>∃i,x=.int i/\Q (some i) Z
def intsAre_of:∀{us:List Ç},Vals (ns.map V.int) us->abG us ns:=by
 induction ns with
 |nil=>intro us r;rw[Ě] at r;cases r;exact .nil
 |cons n ns ih =>
  intro us r;rw[ß] at r
  cases r with
  |cons Z Y =>
   obtain⟨t,e⟩:=Z;subst e;exact .cons n t (ih Y)
section
variable {X:Cx} {e:ħ} {te:TE} {lo hi:Option ħ} {tl th:TO} {pos p2:Pos}
def U9:PO X none U8:=by
 intro Z s σ H Q I h;rw[evalPart_none];exact Â ⟨none,H,I,.none,h⟩
def Va (h:PE X e te):PO X (some e) (YM te):=by
 intro Z s σ H Q I hw;rw[evalPart_some];refine aI (h Z s σ H _ I hw) λu T ⟨x,Y,W,V,U⟩=>?_;obtain⟨i,rfl,q⟩:=U;obtain⟨t,rfl⟩:=V;exact⟨some i,Y,W,.int i t,q⟩
def wo (X:Cx) (r:V->Option Int->Option Int->Hp->VK->Prop):Prop :=
 ∀(Z:List (Ù×Obj)) (s:Ä) (σ:St) (H:Hp) (x:V) (v Y W:Ç) (lo hi:Option Int) (U:Ù) (Q:VK),Inv X Z σ H s->RelV x v->s.heap.IsSliceOf U Y W .none->IsPart Y lo->IsPart W hi->r x lo hi H Q ->
  ∃T id,typeLookup (.type T) "__getitem__"=pure (some (.builtin id))/\s.TypeIs v T/\Ý (â X.prog X.w) X.A (acz v (.ref U)) (EP X Z σ Q) X.xe s
def tSl (r:V->Option Int->Option Int->Hp->VK->Prop) (te:TE) (tl th:TO):TE:=fun σ H Q=>te σ H λx Z=>tl σ Z λl Y=>th σ Y λu X=>r x l u X Q
def Ta (hr:wo X r) (he:PE X e te) (hl:PO X lo tl) (hu:PO X hi th):PE X (.Subscript e (.Slice lo hi none p2) pos) (tSl r te tl th):=by
 intro Y s σ H Q I h;refine Subscript_ (aI (he Y s σ H _ I h) λv S ⟨x,R,P,O,N⟩=>?_);refine wpAny_Slice (aI (hl Y S σ R _ P N) λW M ⟨l,L,K,J,G⟩=>aI (hu Y M σ L _ K G) λV Z ⟨u,U,F,pu,E⟩=>?_);rw[evalPart_none];refine Â ?_
 have D:Inv X Y σ U { Z with heap:=Z.heap.push { cls:=.type "slice",data:=.fields #[W,V,.none] } }:=F.kept (t':=Z.toks) λb y q=>Á _ q
 obtain⟨T,id,C,B,z⟩:=hr Y { Z with heap:=Z.heap.push { cls:=.type "slice",data:=.fields #[W,V,.none] } } σ U x v W V l u Z.heap.objs.size Q D O (Heap.IsSliceOf.new ..) J pu E
 show Ý (â X.prog X.w) X.A (subscriptTail e (.Slice lo hi none p2) v (.ref Z.heap.objs.size)) (EP X Y σ Q) X.xe { Z with heap:=Z.heap.push { cls:=.type "slice",data:=.fields #[W,V,.none] } }
 exact tail_any (ops:=[.ref Z.heap.objs.size,v]) B C z (by with_unfolding_all rfl)
noncomputable def kH (xs:List V) (lo hi:Option Int):List V:=(xs.drop (HT.aU xs.length 0 lo)).take (HT.aU xs.length xs.length hi-HT.aU xs.length 0 lo)
def Hs (xs:List V) (lo hi:Option Int):(kH xs lo hi).length<=xs.length:=by
 unfold kH;rw[ab4,List.length_drop];omega
def aab (K:ę):V->Option Int->Option Int->Hp->VK->Prop:=λx lo hi H Q=>∃a Z,x=.ref a/\bz K H a Z /\
 ¬ (HT.aU Z.length 0 lo=0/\HT.aU Z.length Z.length hi=Z.length)/\∀p,H p=none->Q (.ref p) (upd H p (.tup (kH Z lo hi)))
def Cy:wo X (aab X.K):=by
 intro R s σ H x v P O lo hi N Q I U hs T pu h;obtain⟨a,Y,rfl,S,hw,q⟩:=h;cases U;obtain⟨its,r,W,V⟩:=I.tuple S;have Z:its.toArray.size=Y.length:=by rw[Ú];exact r.length.symm
 refine⟨"tuple",_,Ğ.lookup,W.typeIs,?_⟩;refine HT.OK W hs T pu (by rw[Z];exact hw) ?_ (by rw[Z];exact V);rw[Z];refine⟨.ref s.heap.objs.size,_,I.laid (t':=s.toks) (o:=.tup (kH Y lo hi)) (λb M q=>Á _ q) (acG _) ?_,rfl,q _ (I.aE.fresh (acG _))⟩;exact⟨Þ (Hs Y lo hi) V,_,(r.drop (HT.aU Y.length 0 lo)).take (HT.aU Y.length Y.length hi-HT.aU Y.length 0 lo),IsTup.new _ _⟩
def YN (K:ę):R2:=λx y H Q=>∃a b Y Z,x=.ref a/\y=.ref b/\bz K H a Y/\bz K H b Z/\Y≠[]/\Y.length+Z.length<=Ø /\
 (Z=[]->Q (.ref a) H)/\(Z≠[]->∀p,H p=none->Q (.ref p) (upd H p (.tup (Y++Z))))
def Vals.BQ (r:Vals xs us):us=[]↔xs=[]:=by
 cases r with
 |nil=>simp
 |cons _ _=>simp
def Vb:bI X (Ł .Add) (YN X.K):=by
 intro J s σ H x y v u Q I V U h;obtain⟨a,b,T,S,rfl,rfl,R,P,O,W,N,M⟩:=h;cases V;cases U;obtain⟨its,Y,L,_⟩:=I.tuple R;obtain⟨G,Z,p2,_⟩:=I.tuple P;refine HT.U7 L p2 (λz=>O (Y.BQ.mp z)) (λz=>⟨.ref a,H,I,rfl,N (Z.BQ.mp z)⟩) (λz=>?_) (by rw[<- Y.length,<- Z.length];exact W);refine⟨.ref s.heap.objs.size,_,I.laid (t':=s.toks) (o:=.tup (T++S)) (λb F q=>Á _ q) (acG _) ?_,rfl,M (λw=>z (Z.BQ.mpr w)) _ (I.aE.fresh (acG _))⟩;exact⟨by rw[ó];exact W,_,Y.append Z,IsTup.new _ _⟩
end
noncomputable def gX (n:Nat) (i:Int):Option Nat:=if 0<=i then (if i<n then some i.toNat else none) else if -(n:Int)<=i then some (i+n).toNat else none
def ef {α:Type} (xs:List α) (i:Int):Option α:=(gX xs.length i).bind λj=>xs[j]?
def JL (h:gX n i=some j):seqIndex? i n=some j/\j<n/\-(n:Int)<=i/\i<n:=by
 unfold gX at h;by_cases Y:0<=i
 ·rw[ã Y] at h
  by_cases Z:i<n
  ·rw[ã Z] at h
   have e:i.toNat=j:=acH h;exact⟨by rw[seqIndex_of Y Z,e],by omega,by omega,Z⟩
  ·rw[í Z] at h;cases h
 ·rw[í Y] at h
  by_cases Z:-(n:Int)<=i
  ·rw[ã Z] at h
   have e:(i+n).toNat=j:=acH h;exact⟨by rw[seqIndex_neg (by omega) Z,e],by omega,Z,by omega⟩
  ·rw[í Z] at h;cases h
def BR {α:Type} {xs:List α} {i:Int} {v:α} (h:ef xs i=some v):∃j,seqIndex? i xs.length=some j/\xs[j]?=some v/\j<xs.length/\-(xs.length:Int)<=i/\i<xs.length:=by
 unfold ef at h
 cases e:gX xs.length i with
 |none=>rw[e] at h;cases h
 |some j =>
  rw[e] at h;obtain⟨Z,Y,X,W⟩:=JL e;exact⟨j,Z,h,Y,X,W⟩
def JM (b:ħ):Prop:=∀o i,subscripted b false o i=operate [o,i] (acz o i)
def wq (X:Cx) (r:R2):Prop :=
 ∀(value slice:ħ) (Z:List (Ù×Obj)) (s:Ä) (σ:St) (H:Hp) (x y:V) (v u:Ç) (Q:VK),Inv X Z σ H s->RelV x v->RelV y u->r x y H Q ->
  subscripted slice false v u=operate [v,u] (acz v u)->Ý (â X.prog X.w) X.A (subscriptTail value slice v u) (EP X Z σ Q) X.xe s
def ER (X:Cx) (id:String) (r:V->List V->Hp->VK->Prop):Prop :=
 ∀(Z:List (Ù×Obj)) (s:Ä) (σ:St) (H:Hp) (x:V) (Y:List V) (v:Ç) (W:List Ç) (Q:VK),Inv X Z σ H s->RelV x v->Vals Y W->r x Y H Q ->
  Ý (â X.prog X.w) X.A (call (.builtin id) (v::W)) (EP X Z σ Q) X.xe s
section
variable {X:Cx} {a b:ħ} {ta tb:TE} {pos:Pos}
def YO (hr:wq X r) (ha:PE X a ta) (hb:PE X b tb) (hs:JM b):PE X (.Subscript a b pos) (wk r ta tb):=by
 intro Z s σ H Q I h;exact Subscript_ (D7 ha hb I h λv u Y x y W V U T q=>hr a b Z Y σ W x y v u Q V U T q (hs _ _))
def aac (K:ę):R2:=λx y H Q=>∃p Z i v,x=.ref p/\y=.int i/\bC K H p Z/\ef Z i=some v/\Q v H
def aad (K:ę):R2:=λx y H Q=>∃p Z i v,x=.ref p/\y=.int i/\bz K H p Z/\ef Z i=some v/\Q v H
def aae:R2:=λx y H Q=>∃z i c,x=.str z/\y=.int i/\z.length<=Ø/\ef z.cps.toList i=some c/\Q (.str ⟨#[c]⟩) H
def JN:wq X (aac X.K):=by
 intro value slice V s σ H x y v u Q I S R h hs;obtain⟨p,E,i,z,rfl,rfl,P,O,q⟩:=h;cases S;obtain⟨t,rfl⟩:=R;obtain⟨its,r,Y,D⟩:=I.list P;obtain⟨j,Z,N,C,M,L⟩:=BR O;obtain⟨w,U,J⟩:=r.get N;have G:=r.length;have B:=pJ;have fin:EP X V σ Q w s:=⟨z,H,I,J,q⟩;by_cases T:0<=i
 ·have W:i.toNat=j:=by
   rw[seqIndex_of T L] at Z;exact acH Z
  exact item_listR Y.isList T (by omega) (by rw[W];simpa using U) fin hs
 ·have W:(i+(its.toArray.size:Int)).toNat=j:=by
   rw[seqIndex_neg (by omega) M] at Z;rw[Ú,<- G];exact acH Z
  exact subscriptTail_builtinR (x:=w) Y.isList.typeIs slot_list_getitem.lookup
   (wpAny_getItem_list_neg (Q:=λr F=>r=w/\EP X V σ Q r F) Y.isList (by omega) (by rw[Ú]<;>omega) (by omega) (by rw[W];simpa using U) ⟨rfl,fin⟩) hs
def WR:wq X (aad X.K):=by
 intro value slice Z s σ H x y v u Q I W V h hs;obtain⟨p,L,i,z,rfl,rfl,U,T,q⟩:=h;cases W;obtain⟨t,rfl⟩:=V;obtain⟨its,r,Y,J⟩:=I.tuple U;obtain⟨j,S,R,G,F,E⟩:=BR T;obtain⟨w,P,O⟩:=r.get R;have N:=r.length;have D:=pJ;have fin:EP X Z σ Q w s:=⟨z,H,I,O,q⟩;exact subscriptTail_builtinR (x:=w) Y.typeIs slot_tuple_getitem.lookup
  (getItem_tuple (j:=j) (Q:=λr M=>r=w/\EP X Z σ Q r M) Y (by omega) (by omega) (by rw[Ú,<- N];exact S) (by simpa using P) ⟨rfl,fin⟩) hs
def WS:wq X aae:=by
 intro value slice P s σ H x y v u Q I Y W h hs;obtain⟨z,i,c,rfl,rfl,O,V,q⟩:=h;obtain⟨t,rfl⟩:=Y;obtain⟨N,rfl⟩:=W;obtain⟨j,Z,U,M,T,S⟩:=BR V;have R:z.cps.toList.length=z.length:=by simp[Str.length]
 rw[R] at Z T S;have L:=pJ;exact tail_any (typeIs_str s z t) slot_str_getitem.lookup (getItem_str (c:=c) (by
  have e1:decide (i < -(2 ^ 63:Int))=false:=ć (by omega);have e2:decide (i ≥ 2 ^ 63)=false:=ć (by omega);rw[e1,e2,Bool.or_false]) (by rw[Z];simpa using U) ⟨.str ⟨#[c]⟩,H,I.tok _,⟨_,rfl⟩,q⟩) hs
def Qy (its:List Ç) (n j:Nat) (u:Ç):Œ (·.setIfInBounds j u) { cls:=.type "list",data:=.seq its.toArray n }={ cls:=.type "list",data:=.seq (its.set j u).toArray n }:=by
 simp[Œ]
theorem Inv.lst {π:List (Ù×Obj)} {σ:St} {H:Hp} {s:Ä} {p:Ù} {xs:List V} (I:Inv X π σ H s) (h:H p=some (.lst xs)) :
  ∃(its:List Ç) (n:Nat),Vals xs its/\s.heap.get? p=some { cls:=.type "list",data:=.seq its.toArray n }/\xs.length<=Ø:=by
 obtain⟨z,its,n,r,e⟩:=I.aE p _ h;exact⟨its,n,r,e,z⟩
def Inv.WT {π:List (Ù×Obj)} {σ:St} {H:Hp} {s:Ä} {p:Ù} {xs ys:List V} {its its':List Ç} {n n':Nat} {f:Obj->Obj} (I:Inv X π σ H s) (h:H p=some (.lst xs))
  (ho:s.heap.get? p=some { cls:=.type "list",data:=.seq its.toArray n }) (hf:f { cls:=.type "list",data:=.seq its.toArray n }={ cls:=.type "list",data:=.seq its'.toArray n' }) (r:Vals ys its') (hz:ys.length<=Ø) (t:Nat) :
  Inv X π σ (upd H p (.lst ys)) { s with heap:=s.heap.update p f,toks:=t }:=by
 have e:(s.heap.update p f).get? p=some { cls:=.type "list",data:=.seq its'.toArray n' }:=by
  rw[Ė f ho (by rw[hf]<;>rfl),hf]
 refine I.write (x:=p) (e:=p) (by rw[h];trivial) (.inl rfl) (λb u Z q=>(ſ _ _ (Ŀ Z)).trans q) ⟨_,e⟩ ?_;exact⟨hz,its',n',r,e⟩
def YQ:V->V->V->Hp->(Hp->Prop)->Prop:=λo i v H Q=>∃p Z k j,o=.ref p/\i=.int k/\H p=some (.lst Z)/\gX Z.length k=some j/\Q (upd H p (.lst (Z.set j v)))
def set_list:D4 X YQ:=by
 intro N s σ H o i v E D u Q I M L K h;obtain⟨p,J,k,j,rfl,rfl,T,G,q⟩:=h;cases M;obtain⟨t,rfl⟩:=L;obtain⟨its,n,r,Y,F⟩:=I.lst T;obtain⟨Z,C,S,R⟩:=JL G;have V:=r.length;have B:=pJ
 have P:Inv X N σ (upd H p (.lst (J.set j v))) { s with heap:=s.heap.update p (Œ (·.setIfInBounds j u)) } :=
  I.WT T Y (Qy its n j u) (r.set K j) (by rw[î];exact F) s.toks
 by_cases O:0<=k
 ·have U:k.toNat=j:=by
   rw[seqIndex_of O R] at Z;exact acH Z
  exact PySem.W.ki_setAt Y O (by omega) (by rw[Ú,<- V];exact R) (by rw[U];exact⟨_,P,q⟩)
 ·have U:(k+(its.toArray.size:Int)).toNat=j:=by
   rw[seqIndex_neg (by omega) S] at Z;rw[Ú,<- V];exact acH Z
  exact PySem.W.ki_setBack Y (by omega) (by rw[Ú,<- V];exact S) (by omega) (by rw[U];exact⟨_,P,q⟩)
def Ph (lo hi:Option Int) (n:Nat):(abH lo hi none n).1=((HT.aU n 0 lo:Nat):Int)/\(abH lo hi none n).2.1=((HT.aU n n hi:Nat):Int)/\(abH lo hi none n).2.2=1:=by
 refine⟨?_,?_,rfl⟩
 ·cases lo with
  |none=>simp[abH,HT.aU]
  |some i =>
   simp only[abH,HT.aU,Option.getD_none,show (1:Int) > 0 by decide,Ā];by_cases h:i<0
   ·simp only[h,Ā]<;>omega
   ·simp only[h,û]<;>omega
 ·cases hi with
  |none=>simp[abH,HT.aU]
  |some i =>
   simp only[abH,HT.aU,Option.getD_none,show (1:Int) > 0 by decide,Ā];by_cases h:i<0
   ·simp only[h,Ā]<;>omega
   ·simp only[h,û]<;>omega
def O0 (its:List Ç) (lo hi:Option Int):slicePick its.toArray lo hi none=((its.drop (HT.aU its.length 0 lo)).take (HT.aU its.length its.length hi-HT.aU its.length 0 lo)).toArray:=by
 obtain⟨Z,Y,X⟩:=Ph lo hi its.toArray.size;unfold slicePick;rw[Z,Y,X]
 simp only[sliceRange_one,pick_run,Ú]<;>rfl
def aaf (K:ę):V->Option Int->Option Int->Hp->VK->Prop:=λx lo hi H Q=>∃a Z,x=.ref a/\bC K H a Z/\∀p,H p=none->Q (.ref p) (upd H p (.lst (kH Z lo hi)))
def Vc:wo X (aaf X.K):=by
 intro R s σ H x v P O lo hi N Q I V hs U pu h;obtain⟨a,Z,rfl,T,q⟩:=h;cases V;obtain⟨its,r,W,S⟩:=I.list T;have Y:=r.length;refine⟨"list",_,slot_list_getitem.lookup,W.isList.typeIs,?_⟩
 refine wpAny_getItem_list_slice W.isList hs U pu .none (by simp) ?_ (by rw[Ú]<;>omega)
 rw[O0,<- Y];refine⟨.ref s.heap.objs.size,_,I.laid (t':=s.toks) (o:=.lst (kH Z lo hi)) (λb M q=>Á _ q) (acG _) ?_,rfl,q _ (I.aE.fresh (acG _))⟩;exact⟨Þ (Hs Z lo hi) S,_,0,(r.drop (HT.aU Z.length 0 lo)).take (HT.aU Z.length Z.length hi-HT.aU Z.length 0 lo),Ô _ rfl⟩
def AB:cD X (.builtin "len") (λxs H Q=>∃p ys,xs=[.ref p]/\(bC X.K H p ys\/bz X.K H p ys)/\Q (.int ys.length) H):=by
 intro T s σ H xs S Q I r h;obtain⟨p,ys,rfl,hq,q⟩:=h;obtain⟨u,rfl,V⟩:=vals1 r;cases V;have R:=pJ
 rcases hq with hq|hq
 ·obtain⟨its,Y,W,U⟩:=I.list hq
  have Z:=Y.length
  exact Calls.call_len_list W.isList (by simp only[Ú]<;>omega) ⟨.int ys.length,H,I.tok _,⟨s.toks+1,by rw[Ú,Z]⟩,q⟩
 ·obtain⟨its,Y,W,U⟩:=I.tuple hq
  have Z:=Y.length
  exact len_tuple W (by simp only[Ú]<;>omega) ⟨.int ys.length,H,I.tok _,⟨s.toks+1,by rw[Ú,Z]⟩,q⟩
def Pj:cD X (.builtin "len") (λxs H Q=>∃z,xs=[.str z]/\z.length<=Ø/\Q (.int z.length) H):=by
 intro Z s σ H xs Y Q I r h;obtain⟨z,rfl,W,q⟩:=h;obtain⟨u,rfl,t,rfl⟩:=vals1 r;have V:=pJ;exact len_str (by omega) ⟨.int z.length,H,I.tok _,⟨_,rfl⟩,q⟩
def xo:cD X (.type "list") (λxs H Q=>∃p ys,xs=[.ref p]/\(bC X.K H p ys\/bz X.K H p ys)/\∀l,H l=none->Q (.ref l) (upd H l (.lst ys))):=by
 intro M s σ H xs J Q I r h;obtain⟨p,ys,rfl,hq,q⟩:=h;obtain⟨u,rfl,L⟩:=vals1 r;cases L;have fin:∀(its:List Ç),Vals ys its->ys.length<=Ø->∀(Z:Ĳ) (Y:Nat),(∀b N,s.heap.get? b=some N->Z.get? b=some N) ->
   Z.get? s.heap.objs.size=some { cls:=.type "list",dict:=none,data:=.seq its.toArray Y,slots:=#[] }->EP X M σ Q (.ref s.heap.objs.size) { s with heap:=Z }:=λits W V Z Y U e =>
  ⟨.ref s.heap.objs.size,_,I.laid (t':=s.toks) U (acG _) (show cC X.prog X.w _ Z _ (.lst ys) from ⟨V,its,Y,W,e⟩),rfl,q _ (I.aE.fresh (acG _))⟩
 rcases hq with hq|hq
 ·obtain⟨its,W,S,V⟩:=I.list hq
  have T:=W.length;obtain⟨o,R,P,n,O⟩:=S.isList
  exact call_list_seq p (.inl rfl) R P O (λZ Y U e=>fin its W V Z Y U e) (by simp only[Ú]<;>omega)
 ·obtain⟨its,W,S,V⟩:=I.tuple hq
  have T:=W.length;obtain⟨o,R,P,n,O⟩:=S
  exact call_list_seq p (.inr rfl) R P O (λZ Y U e=>fin its W V Z Y U e) (by simp only[Ú]<;>omega)
def Ha:cD X (.type "tuple") (λxs H Q=>∃p ys,xs=[.ref p]/\((bC X.K H p ys/\∀l,H l=none->Q (.ref l) (upd H l (.tup ys)))\/(bz X.K H p ys/\Q (.ref p) H))):=by
 intro U s σ H xs M Q I r h;obtain⟨p,ys,rfl,h⟩:=h;obtain⟨u,rfl,P⟩:=vals1 r;cases P
 rcases h with ⟨Y,q⟩ | ⟨Y,q⟩
 ·obtain⟨its,W,V,T⟩:=I.list Y
  have S:=W.length
  refine call_tuple_list V.isList (λZ O=>?_) (by simp only[Ú]<;>omega)
  have R:Inv X U σ H { s with heap:=Z }:=I.kept (t':=s.toks) O
  have N:Inv X U σ (upd H Z.objs.size (.tup ys)) { s with heap:=Z.push { cls:=.type "tuple",data:=.seq its.toArray } } :=
   R.laid (t':=s.toks) (λb o e=>Á _ e) (acG _) (show cC X.prog X.w _ _ _ (.tup ys) from ⟨T,its,W,IsTup.new _ _⟩)
  exact⟨.ref Z.objs.size,_,N,rfl,q _ (R.aE.fresh (acG _))⟩
 ·obtain⟨its,W,V,T⟩:=I.tuple Y
  exact call_tuple_same V ⟨.ref p,H,I,rfl,q⟩
def Nr (K:ę) (T:String) (x:V) (H:Hp):Prop:=match x with
 | .str _=>T="str"
 | .int _=>T="int"
 | .ref p=>(T="list"/\∃Y,bC K H p Y)\/(T="tuple"/\∃o,K.lookup p=some o/\o.cls=.type "tuple"/\o.dict=none) \/
   (T="dict"/\((∃Z,H p=some (.dK Z))\/∃Z,H p=some (.dT Z)))\/(T="set"/\∃S n,H p=some (.set S n))
 |_=>False
def WU {π:List (Ù×Obj)} {σ:St} {H:Hp} {s:Ä} {T:String} {x:V} {v:Ç} (I:Inv X π σ H s) (r:RelV x v) (ty:Nr X.K T x H) :
  s.TypeIs v T/\∀a,v=.ref a->∃ob,s.heap.get? a=some ob/\ob.dict=none:=by
 cases x with
 |str z =>
  obtain⟨t,rfl⟩:=r;cases (show T="str" from ty)
  exact⟨typeIs_str s z t,λ_ e=>nomatch e⟩
 |int i =>
  obtain⟨t,rfl⟩:=r;cases (show T="int" from ty)
  exact⟨typeIs_int s i t,λ_ e=>nomatch e⟩
 |ref p =>
  cases r
  rcases ty with ⟨rfl,P,U⟩ | ⟨rfl,o,Z,R,Y⟩ | ⟨rfl,Z⟩ | ⟨rfl,S,n,Z⟩
  ·obtain⟨its,_,W,_⟩:=I.list U
   refine⟨W.isList.typeIs,λa e=>?_⟩;cases e;obtain⟨o,n,e,c,Y,_⟩:=W;exact⟨o,e,Y⟩
  ·refine⟨⟨o,I.jq p o Z,R⟩,λa e=>?_⟩
   cases e;exact⟨o,I.jq _ o Z,Y⟩
  ·have z:∃o,s.heap.get? p=some o/\o.ExactDict:=by
    rcases Z with ⟨Q,Z⟩ | ⟨Q,Z⟩
    ·obtain⟨_,_,_,_,o,_,_,e,ex,_⟩:=I.aE p _ Z
     exact⟨o,e,ex⟩
    ·obtain⟨_,_,_,_,o,_,_,e,ex,_⟩:=I.aE p _ Z
     exact⟨o,e,ex⟩
   obtain⟨o,e,ex⟩:=z;refine⟨⟨o,e,ex.1⟩,λa e2=>?_⟩;cases e2;exact⟨o,e,ex.2.1⟩
  ·obtain⟨o,_,_,_,e,ex,_⟩:=I.aE p _ Z
   refine⟨⟨o,e,ex.1⟩,λa e2=>?_⟩;cases e2;exact⟨o,e,ex.2.1⟩
 |_=>exact Į ty
def tBM (K:ę) (T:String) (r:V->List V->Hp->VK->Prop) (to:TE) (t:TA):TE:=fun σ H Q=>to σ H λx Z=>Nr K T x Z/\t σ Z λY X=>r x Y X Q
variable {o e:ħ} {es:List ħ} {to:TE} {t:TA} {name:Str} {apos bG:Pos} {T id:String} {r:V->List V->Hp->VK->Prop}
def Di (pa:PlainAttrs T) (slot:Slot T name id) (hty:typeOf (.builtin id)=pure (.type "method_descriptor")) (hm:ER X id r) (ho:PE X o to) (ha:PA X (e::es) t)
  (pU:abp o name X.env (ō o X.env)=ō o X.env:=by rfl)
  (qj:((Ň bG (Õ (e::es) X.env)).all (λx=>!x.1)&&(backToKw bG (acg [] X.env)).all (λx=>x.1.isSome)
   && decide ((e::es).length+([]:List ab3).length+(if ([]:List ab3).isEmpty then 0 else 1)<30))=true:=by rfl)
  (pV:(apos.endLine==bG.line)=true:=by rfl) (hs:Õ (e::es) X.env=(false,ō e X.env)::Õ es X.env:=by rfl) (kj:(Ň bG (Õ es X.env)).any (·.1)=false:=by rfl) :
  PE X (.Call (.Attribute o name apos) (e::es) [] bG) (tBM X.K T r to t):=by
 intro Z s σ H Q I h;refine wpAny_Call_method_late pU qj pV rfl (aI (ho Z s σ H _ I h) λv U ⟨x,S,Y,W,ty,R⟩=>?_);obtain⟨P,O⟩:=WU Y W ty;refine⟨T,id,pa,slot,hty,P,O,?_⟩;have V:=ha bG Z U σ S _ Y R;rw[hs] at V |-
 refine Calls.callWith_builtin (by show (false||(Ň bG (Õ es X.env)).any (·.1))=false;rw[kj]<;>rfl) (Calls.evalArgs_plain ?_)
 exact aI V λN M ⟨L,J,G,F,E⟩=>hm Z M σ J x L v N Q G W F E
end
def MtM (X:Cx) (id:String) (r:V->List V->Hp->VK->Prop):Prop :=
 ∀(Z:List (Ù×Obj)) (s:Ä) (σ:St) (H:Hp) (x:V) (Y:List V) (v:Ç) (W:List Ç) (Q:VK),Inv X Z σ H s->RelV x v->Vals Y W->r x Y H Q ->
  Ý (â X.prog X.w) X.A (call (.builtin id) (v::W)) (EP X Z σ Q) X.xe s
def Vals.one:∀{x:V} {us:List Ç},Vals [x] us->∃u,us=[u]/\RelV x u
 |_,_,.cons r .nil=>⟨_,rfl,r⟩
theorem Vals.rep (h:Vals xs us):∀k:Nat,Vals (Å k xs).flatten (Å k us).flatten
 |0=>.nil
 |k+1=>by
  rw[ŀ,ŀ,ŧ,ŧ];exact Vals.append h (Vals.rep h k)
theorem foldl_rep (its:List Ç):∀(k:Nat) (acc:List Ç),
  List.foldl (λx1 x2=>x1++x2) acc.toArray (Å k its.toArray)=(acc++(Å k its).flatten).toArray
 |0,acc=>by simp
 |k+1,acc=>by
  have e:acc.toArray++its.toArray=(acc++its).toArray:=by simp
  have e2:(acc++its)++(Å k its).flatten=acc++(Å (k+1) its).flatten:=by
   rw[ŀ,ŧ,į]
  rw[<- e2,<- foldl_rep its k (acc++its),<- e,ŀ,List.foldl_cons]
section
variable {X:Cx} {π:List (Ù×Obj)} {σ:St} {H:Hp} {s:Ä} {l b:Ù} {xs ys zs:List V}
def Inv.aag {its its':List Ç} {n:Nat} {f:Array Ç->Array Ç} {t':Nat} (I:Inv X π σ H s) (hH:H l=some (.lst xs))
  (e:s.heap.get? l=some { cls:=.type "list",data:=.seq its.toArray n }) (hf:f its.toArray=its'.toArray) (hv:Vals ys its') (hz:ys.length<=Ø) :
  Inv X π σ (upd H l (.lst ys)) { s with heap:=s.heap.update l (Œ f),toks:=t' }:=by
 have q:=PySem.IsL.update e f;rw[hf] at q;refine I.write (x:=l) (e:=l) (by rw[hH];exact trivial) (.inl rfl) (λW u Z Y=>(ſ s.heap (Œ f) (Ŀ Z)).trans Y) ⟨_,q⟩ ?_;exact⟨hz,its',_,hv,q⟩
def Inv.MF (I:Inv X π σ H s) (hv:Vals ys its) (hz:ys.length<=Ø) :
  Inv X π σ (upd H s.heap.objs.size (.lst ys)) { s with heap:=s.heap.push { cls:=.type "list",data:=.seq its.toArray },toks:=t' } :=
 I.laid (λ_ _ q=>Á _ q) (acG _) ⟨hz,its,0,hv,Ô _ rfl⟩
theorem Inv.fresh (I:Inv X π σ H s):H s.heap.objs.size=none:=I.aE.fresh (acG _)
def Inv.zh (I:Inv X π σ H s) (hH:H l=some (.lst xs)):xs.length<=Ø/\∃(its:List Ç) (n:Nat),Vals xs its/\xs.length=its.length/\s.heap.get? l=some { cls:=.type "list",data:=.seq its.toArray n }:=by
 obtain⟨z,its,n,r,e⟩:=I.aE l _ hH;exact⟨z,its,n,r,r.length,e⟩
def Tb (h:n<=Ø):abf n=false:=by
 unfold abf;exact ć (by omega)
end
section
variable {X:Cx}
def Vd:V->List V->Hp->VK->Prop:=λx Y H Q=>∃l Z y,x=.ref l/\Y=[y]/\H l=some (.lst Z)/\Z.length<Ø/\Q .au (upd H l (.lst (Z++[y])))
def RG:MtM X "list.append" Vd:=by
 intro U s σ H x T v S Q I Y W h;obtain⟨l,R,y,rfl,rfl,Z,P,q⟩:=h;cases Y;obtain⟨u,rfl,V⟩:=W.one;obtain⟨z,its,n,r,O,e⟩:=I.zh Z;refine abI F.slot_list_append ⟨_,e,rfl⟩ F.entry_list_append (F.args_list_append_2 _ _) (PySem.list_append l its.toArray n u (by rw[Ú];omega)) ⟨e,?_⟩;refine⟨.au,_,I.aag (its':=its++[u]) Z e (by simp) (r.append (.cons V .nil)) ?_,rfl,q⟩;rw[ó,abW];omega
def aah:R2:=λx y H Q=>∃l b Z zs,x=.ref l/\y=.ref b/\H l=some (.lst Z)/\H b=some (.lst zs)/\Z.length+zs.length<=Ø/\∀p,H p=none->Q (.ref p) (upd H p (.lst (Z++zs)))
def WV:bI X (Ł .Add) aah:=by
 intro R s σ H x y v u Q I Y W h;obtain⟨l,b,O,zs,rfl,rfl,V,U,N,q⟩:=h;cases Y;cases W;obtain⟨z,its,n,r,M,e⟩:=I.zh V;obtain⟨L,Z,K,T,J,e2⟩:=I.zh U;refine PySem.P.add_list e e2 ?_ (by rw[Ú,Ú];omega);have S:its.toArray++Z.toArray=(its++Z).toArray:=by simp
 rw[S];exact⟨.ref _,_,I.MF (t':=s.toks) (r.append T) (by rw[ó];omega),rfl,q _ I.fresh⟩
def aai:R2:=λx y H Q=>∃l k Z,x=.ref l/\y=.int k/\H l=some (.lst Z)/\-(2 ^ 63)<=k/\k<2 ^ 63/\Z.length*k.toNat<=Ø /\
 ∀p,H p=none->Q (.ref p) (upd H p (.lst (Å k.toNat Z).flatten))
def len_rep {α:Type} (xs:List α) (k:Nat):(Å k xs).flatten.length=k*xs.length:=by
 induction k with
 |zero=>simp
 |succ k ih=>rw[ŀ,ŧ,ó,ih,Nat.succ_mul,Nat.add_comm]
def WW:bI X (Ł .Mult) aai:=by
 intro D s σ H x y v u Q I O N h;obtain⟨l,k,C,rfl,rfl,M,L,K,P,q⟩:=h;cases O;obtain⟨t,rfl⟩:=N;obtain⟨z,its,n,r,J,e⟩:=I.zh M;have Z:its.toArray.size*k.toNat<=Ø:=by rw[Ú,<- J];exact P
 have Y:¬ its.toArray.size*k.toNat > (2 ^ 63-1) / 8:=by
  have:(Ø:Nat)<=(2 ^ 63-1) / 8:=by decide
  omega
 have W:¬ (!Builtin.List.listFitsIndex k)=true:=by
  rw[fitsIndex_both L K];exact Û
 have G:¬ abf (its.toArray.size*k.toNat)=true:=by
  rw[Tb Z];exact Û
 have V:List.foldl (λS R=>S++R) #[] (Å (if its.toArray.isEmpty=true then 0 else k.toNat) its.toArray)=(Å k.toNat its).flatten.toArray:=by
  have f0:∀m:Nat,List.foldl (λS R=>S++R) #[] (Å m its.toArray)=(Å m its).flatten.toArray:=λm=>by
   have:=foldl_rep its m [];rw[ė] at this;exact this
  rw[f0]
  cases its with
  |nil=>simp
  |cons a B=>rw[í (by simp)]
 refine wpAny_binaryOp_repeat_ref (T:="list") (U:="int") (by decide) ⟨_,e,rfl⟩ (λE=>typeIs_int E k t) noFill_list_mul F.fills_int_mul ach repeat_list F.slot_int_index.lookup
  (abI ach (typeIs_int s k t) F.entry_int_rmul (F.args_int_rmul_2 _ _) (int___rmul___int_list k t l its.toArray n)
   ⟨e,rfl,⟨_,e,rfl⟩,abI F.slot_list_mul ⟨_,e,rfl⟩ F.entry_list_mul (F.args_list_mul_2 _ _) (AutoListH.list___mul___list_int_3 l its.toArray n k t W Y G) ⟨e,?_⟩⟩)
 rw[V];exact⟨.ref _,_,I.MF (t':=s.toks) (r.rep k.toNat) (by rw[len_rep,Nat.mul_comm];exact P),rfl,q _ I.fresh⟩
end
section
variable {prog:ä} {w:ù} {A:ì} {E:Ç->Ä->Prop} {s:Ä}
set_option maxRecDepth 100000 in
end
section
variable {X:Cx}
end
end L2
namespace Nu
open PySem PySem.W PySem.Calls PyProof.Rows
def OQ:∀(ns:List Int) (vs:List Ç),WellAll P h vs (ns.map WData.int)->abG vs ns:=by
 intro ns
 induction ns with
 |nil =>
  intro vs w;rw[Ě] at w;cases w;exact .nil
 |cons n ns ih =>
  intro vs w;rw[ß] at w
  cases w with
  |cons a b =>
   cases a;exact .cons _ _ (ih _ b)
def RH {l:OpenLaw} {n:Nat} (hn:l.most=some n) {P:Params} {h:Ĳ} {args:List WData} {vals:List Ç}
  (zi:l.row.toRowW.claim.pre args=true) (ES:WellAll P h vals args) :
  ∃a vs ns,vals=[Ń a]/\args=[WData.list (ns.map WData.int)]/\h.get? a=some { cls:=.type "list",data:=.seq vs.toArray }/\abG vs ns/\ns.length<=n:=by
 have W:WShape.hasAll [] args [.list .int]=true:=(pre_splitW zi).1;have V:l.pre.holds [] { args:=args }=true:=(pre_splitW zi).2;obtain⟨d,r,rfl,U,T⟩:=hasAllW_cons W;obtain rfl:=hasAllW_nil T;obtain⟨L,rfl,S⟩:=hasW_list U;obtain⟨ns,rfl⟩:=items_int S;have Z:ns.length<=n:=by
  unfold OpenLaw.pre at V;have Y:(WTm.not (.lt (.lit (.int (n:Int))) (.len (.arg 0)))).holds [] { args:=[.list (ns.map .int)] }=true:=by
   have Y:=(holds_andW V).1;rw[hn] at Y;exact Y
  have X:=condW_of Y (w_not (w_lt w_lit (w_len_list (w_arg rfl))));rw[Í] at X;refine Ÿ λq=>?_;have R:(n:Int)<((ns.length:Nat):Int):=by omega
  first
   |(rw[æ R] at X;exact absurd X (by decide))
   |(simp at X;omega)
 cases ES with
 |cons Q O =>
  cases O
  cases Q with
  |list N M=>exact⟨_,_,ns,rfl,rfl,N,OQ ns _ M,Z⟩
def RJ (l:OpenLaw) (args:List WData):l.row.toRowW.claim.post args (.bool true) args=true :=
 postW_of (r:=l.row.toRowW) (X:=(true==true))
  (show WShape.has [] (.bool true) .bool=true by first|rfl|decide|simp[WShape.has,WShape.arms,WShape.armsAll])
  (show (WTm.eq .res (.lit (.bool true))).value [] { args:=args,res:=some (.bool true),after:=args }=some (.bool (true==true)) from w_eq_bool (w_res rfl) w_lit) rfl
def P0 {l:OpenLaw} {n:Nat} {q:ä} {loose:List Str} {XP:(Str->Option Ç)->Ĳ->Prop} {YP:ù->Ĳ->Prop} {d:DefRec}
  (hn:l.most=some n) (wu:d.params.defaults=[])
  (call:∀(w:ù) (cQ bg:Ä) (mg mb:Str->Option Ç) (fa:Ù) (o:Obj) (pm cd doc:Ç) (a:Ù) (vs:List Ç) (ns:List Int),
   Ground q loose [] XP w cQ mg mb bg.heap->YP w bg.heap ->
   bg.heap.get? fa=some o->o.data=.func (docDef d.name d.params d.body d.scope pm cd doc)->bg.heap.CodeRec cd d.name->mg d.name=some (.ref fa) ->
   bg.heap.get? a=some { cls:=.type "list",data:=.seq vs.toArray }->abG vs ns->ns.length<=n->bg.gens=#[] ->
   η (â l.prog w) callerA (.call (.ref fa) ⟨[.ref a],[]⟩) (λr s'=>r=.ok (.ret (.bool true))/\OldK bg.heap s'.heap/\s'.os=bg.os/\acy s'.gens) bg) :
  WalkO q loose XP YP l.row.toRowW d [] (λf vs=>PySem.call f vs):=by
 intro w cQ bg mg mb G Y fa o pm cd doc W kV V U T X S R args vals as Q P O N F;obtain rfl:W=.none:=Dflts.none X wu;obtain rfl:kV=.none:=Dflts.noKw X;obtain⟨a,vs,ns,rfl,rfl,M,hints,Z⟩:=RH hn Q N;refine enter_call (Ů (call w cQ bg mg mb fa o pm cd doc a vs ns G Y V (fd_plain U) T S M hints Z R) λr s' L=>?_);obtain⟨rfl,K,J,I⟩:=L
 exact⟨.inl ⟨.bool true,.bool true,[],rfl,λ_=>rfl,.bool true,RJ l _,λ_=>⟨List.Pairwise.nil,λ_ H=>(nomatch H)⟩⟩,K,J,I⟩
section
variable {prog:ä} {w:ù} {A:ì} {E:Ç->Ä->Prop} {s:Ä} {K:ę}
noncomputable def ledger (h:Ĳ) (L d:Ù):List (Ù×Obj):=(Ć h.objs.size).filterMap λa=>if a=L\/a=d then none else (h.get? a).map λo=>(a,o)
end
end Nu
namespace L2
open PySem PySem.Spec PyProof.Rows
theorem Ii:∀{vs:List Ç} {ns:List Int},abG vs ns->Vals (ns.map V.int) vs
 |_,_,.nil=>.nil
 |_,_,.cons n t h=>.cons ⟨t,rfl⟩ (Ii h)
noncomputable abbrev KOf {K:ę} {h:Ĳ} (_:K.In h):ę:=K
noncomputable def pq (s:acx):Arguments:=match s with
 | .FunctionDef _ a _ _ _ _ _ _ _ _=>a
 |_=>{ posonlyargs:=[],args:=[],vararg:=none,kwonlyargs:=[],kw_defaults:=[],kwarg:=none,defaults:=[] }
noncomputable def jc (s:acx):List acx:=match s with
 | .FunctionDef _ _ b _ _ _ _ _ _ _=>b
 |_=>[]
noncomputable def dH (s:acx):ο:=match s with
 | .FunctionDef _ _ _ _ _ _ sc _ _ _=>sc
 |_=>{ kind:=.function,names:=[],isGenerator:=false,isCoroutine:=false }
abbrev fz:js:=λ_ _ _ _ _ _=>False
abbrev E0:XK:=λ_ _ _=>False
def YS:Passes fz X E0:=λ_ _ _ _ _ _ _ h=>h.elim
structure qx (K:ę) (x qual:Str) (st:acx) (f:Ù) (fd:Ī):Prop where
 ex:∃(oc:Ç) (od:Option Ù) (kV doc pm:Ç) (an:Option Ù) (bE ct:Ç) (l0:Array (Option Ç)),
  fd=ů x qual (pq st) (jc st) (dH st) .none kV doc pm an bE ct/\K.lookup f=some ⟨oc,od,.func fd,l0⟩/\abS K bE qual=true
 kp:ł K (.ref f)=true
section
variable {P:ä} {w:ù} {K:ę} {mg:Str->Option Ç} {base:Ĳ}
def qx.ok {x qual:Str} {st:acx} {f:Ù} {fd:Ī} {N ps:List Str} {k:Nat} {sp:Sp} (F:qx K x qual st f fd) (S:uC N ps (dH st)) (len:∀vs H Q E,sp vs H Q E->vs.length=ps.length)
  (mP:∀(bE:Ç) (A:ì) (outer:List Env) (s:Ä) (H:Hp) (vs:List V) (Q:VK) (E:XK),bB k (A.deeper (envOfC qual (dH st) s.heap.objs.size f bE))->sp vs H Q E ->
   ∃t,cY (jS fz P w K mg base N qual (dH st) f bE A outer s H E).ny (jc st) t/\t { nx:=λ_ H'=>Q .au H',rt:=Q } (start N vs) H):dB P w K mg base fz (k+1) f fd ps sp:=by
 obtain⟨W,U,kV,doc,pm,an,bE,T,R,rfl,lk,Z⟩:=F.ex;refine Dh lk Z S len λA outer s H vs Q E Y X=>?_;obtain⟨t,h,q⟩:=mP bE A outer s H vs Q E Y X;exact⟨t,h.ny,q⟩
def qx.binds {x qual:Str} {st:acx} {f:Ù} {fd:Ī} {ps:List Str} (F:qx K x qual st f fd)
  (h:∀(kV doc pm:Ç) (an:Option Ù) (bE ct:Ç) (us:List Ç),us.length=ps.length->bindArgs (ů x qual (pq st) (jc st) (dH st) .none kV doc pm an bE ct) ⟨us,[]⟩=pure (ps.zip us)):Binds K fd ps []:=by
 obtain⟨Z,Y,kV,doc,pm,an,bE,ct,X,rfl,lk,W⟩:=F.ex;exact .all (h kV doc pm an bE ct)
def KD {x qual:Str} {st:acx} {f:Ù} {oc:Ç} {od an:Option Ù} {l0:Array (Option Ç)} {kV doc pm bE ct:Ç} (l:K.lookup f=some ⟨oc,od,.func (ů x qual (pq st) (jc st) (dH st) .none kV doc pm an bE ct),l0⟩)
  (c:abS K bE qual=true) (k:ł K (.ref f)=true):qx K x qual st f (ů x qual (pq st) (jc st) (dH st) .none kV doc pm an bE ct):=⟨⟨oc,od,kV,doc,pm,an,bE,ct,l0,rfl,l,c⟩,k⟩
end
section
variable {X:Cx}
end
def kI (H H':Hp):Prop:=∀b o,H b=some o->H' b=some o
def kI.refl (H:Hp):kI H H:=λ_ _ h=>h
def Qz (J:Nat->Ä->Prop)
 (turn:∀n s,J n s->Ý (â P w) A (δ gW) (λr s1=>match r with
   |none=>R (.ok .next) s1
   |some v=>Ý (â P w) A (Ŕ tg gW v) (λ_ s2=>Ý (â P w) A (ab6 tg ce v) (λ_ s3 =>
     Ý (â P w) A (forIn tests true λc r=>if r=true then do let ok <- isTrue c ce (ō c ce);pure (ĺ ok) else pure (ĺ r)) (λok s4 =>
      if ok=true then Ý (â P w) A (ō el ce) (λy s5=>Ý (â P w) A (call (.builtin "list.append") [av,y]) (λ_ s6=>∃m,m<n/\J m s6) (λ_ _=>False) s5) (λ_ _=>False) s4
      else ∃m,m<n/\J m s4) (λ_ _=>False) s3) (λ_ _=>False) s2) (λ_ _=>False) s1) (λ_ _=>False) s)
 (n:Nat) (h:J n s):η (â P w) A (.compLoop (.ListComp el [⟨tg,src,tests,0⟩] sc ps) 0 gW av ce) R s:=by
 refine codeAny_loop rfl J (λn s X=>?_) n h
 show Ý _ A ((compTurn (.ListComp el [⟨tg,src,tests,0⟩] sc ps) 0 gW av ce).onRaise (λx=>do noteFrame x ce;theTreesLotGoes x)) _ _ s
 refine wpAny_noted ?_;rw[compTurn_list];refine À (Ű (À (Ę (turn n s X) (λr s1 Z=>?_) λ_ _ z=>z.elim)))
 cases r with
 |none=>exact Â Z
 |some v =>
  refine À (Ę Z (λ_ s2 W=>?_) λ_ _ z=>z.elim);refine À (Ę W (λ_ s3 V=>À (Ę V (λok s4 Y=>?_) λ_ _ z=>z.elim)) λ_ _ z=>z.elim)
  cases ok with
  |false=>exact Â ⟨rfl,Y⟩
  |true =>
   exact À (À (Ę Y (λy s5 U=>À (Ę U (λ_ s6 T=>Â (Â ⟨rfl,T⟩)) λ_ _ z=>z.elim)) λ_ _ z=>z.elim))
theorem Bk (env:Env):∀(l:List (Str×Ť)) (acc:List (Str×Ù)),(∀n,(n,ê)∈l->∃c,env.cells.lookup n=some c) ->
  ∃cl,(forIn l acc (λ(p:Str×Ť) (cs:List (Str×Ù))=>(do
   if (p.2==ê)=true then do let c <- cellOf env p.1;pure (ĺ ((p.1,c)::cs)) else pure (ĺ cs):Sem (ForInStep (List (Str×Ù))))))=pure cl /\
   ∀n c,cl.lookup n=some c↔(((n,ê)∈l/\env.cells.lookup n=some c)\/((n,ê)∉l/\acc.lookup n=some c))
 | [],acc,_=>⟨acc,rfl,λn c=>by simp⟩
 |(x,k)::r,acc,h=>by
  rw[abq]
  cases Y:(k==ê) with
  |false =>
   have U:k≠.free:=by intro e;rw[e] at Y;cases Y
   obtain⟨cl,e,q⟩:=Bk env r acc λn X=>h n (Ê _ X);refine⟨cl,?_,λn c=>?_⟩
   ·simp only[Ì,û]
    exact e
   ·rw[q n c]
    have:(n,ê)∈(x,k)::r↔(n,ê)∈r:=by
     constructor
     ·intro Z
      rcases Ò.mp Z with z|z
      ·injection z with _ T
       exact absurd T.symm U
      ·exact z
     ·exact Ê _
    rw[this]
  |true =>
   have S:k=.free:=by cases k<;>first|rfl|cases Y
   subst S;obtain⟨R,W⟩:=h x Ð;obtain⟨cl,e,q⟩:=Bk env r ((x,R)::acc) λn X=>h n (Ê _ X);refine⟨cl,?_,λn c=>?_⟩
   ·simp only[Ā,cellOf,W]
    exact e
   ·rw[q n c]
    by_cases V:n=x
    ·subst V
     constructor
     ·rintro (⟨_,z⟩ | ⟨_,z⟩)
      ·exact .inl ⟨Ð,z⟩
      ·rw[ģ,ĝ] at z
       exact .inl ⟨Ð,W.trans z⟩
     ·rintro (⟨_,z⟩ | ⟨z,_⟩)
      ·by_cases Z:(n,ê)∈r
       ·exact .inl ⟨Z,z⟩
       ·refine .inr ⟨Z,?_⟩
        rw[ģ,ĝ];exact W.symm.trans z
      ·exact absurd Ð z
    ·have:(n,ê)∈(x,ê)::r↔(n,ê)∈r:=by
      constructor
      ·intro Z
       rcases Ò.mp Z with z|z
       ·injection z with Q _
        exact absurd Q V
       ·exact z
      ·exact Ê _
     rw[this,ģ,beq_false_of_ne V]
def KG (h:∀n,(n,ê)∈sc.names->∃c,env.cells.lookup n=some c) :
  ∃cl,closureFor sc env=pure cl/\∀n c,cl.lookup n=some c↔((n,ê)∈sc.names/\env.cells.lookup n=some c):=by
 obtain⟨cl,e,q⟩:=Bk env sc.names [] h;refine⟨cl,?_,λn c=>?_⟩
 ·unfold closureFor
  exact(ň (λz:Sem (List (Str×Ù))=>z >>= λr=>pure r) e)
 ·rw[q n c]
  simp
theorem IY (f:Str->Ť->Ť) (x:Str):∀l:List (Str×Ť),(l.map λp=>(p.1,f p.1 p.2)).lookup x=(l.lookup x).map (f x)
 | []=>rfl
 |(n,k)::r=>by
  rw[ß,ģ,ģ]
  cases h:x==n with
  |true =>
   have e:x=n:=by simpa using h
   subst e;rfl
  |false=>exact IY f x r
def xp (sc:ο) (env:Env) (x:Str):(relabel sc env).names.lookup x=(sc.names.lookup x).map λk=>if (k==ê&&env.scope.kind==.function&&env.kindOf x==some .cell)=true then NameKind.cell else k:=by
 rw[<- IY (λx k=>if (k==ê&&env.scope.kind==.function&&env.kindOf x==some .cell)=true then NameKind.cell else k)]
 show List.lookup x (sc.names.map _)=_;congr 1;apply aci;rintro ⟨n,k⟩ _;dsimp only
 split<;>rfl
abbrev eh (X:Cx) (N:List Str) (sc:ο) (cl:List (Str×Ù)) (C:Ù) (s:Ä) (H:Hp) (ex:List Ù) (pn:List (Ù×Obj)):Cx where
 prog:=X.prog
 w:=X.w
 K:=X.K
 mg:=X.mg
 base:=X.base
 A:=X.A
 N:=N
 cQ:=s
 lK:=H
 env:=compEnvC sc cl C X.env
 outer:=X.stack
 stack:=X.stack
 ex:=ex
 fn:=λ_=>false
 calm:=X.calm
 pn:=pn
 xe:=λ_ _=>False
structure uM (X:Cx) (sc:ο) (N:List Str) (nt:Nat) (cap:List Nat):Prop where
 kind:sc.kind=.function
 uN:∀x∈sc.names,x.2≠.cell
 names:∀x∈sc.names,x.2=.local->sc.names.lookup x.1=some .local
 frees:∀x∈sc.names,x.2=.free->sc.names.lookup x.1=some .free/\(X.env.scope.names.lookup x.1=some .cell\/X.env.scope.names.lookup x.1=some .free)
 len:N.length=nt+cap.length
 Ed:∀(k:Nat) j,cap[k]?=some j->∃x,X.N[j]?=some x/\N[nt+k]?=some x/\(x,ê)∈sc.names
def lC (nt:Nat) (cap:List Nat) (σ:St):St:=Å nt none++cap.map λj=>(σ[j]?).getD none
def PF (X:Cx) (tests:List ħ) (t:TT):Prop :=
 ∀(Z:List (Ù×Obj)) (s:Ä) (σ:St) (H:Hp) (Q:Bool->Hp->Prop),Inv X Z σ H s->t σ H Q ->
  Ý (â X.prog X.w) X.A (forIn tests true λc r=>if r=true then do let ok <- isTrue c X.env (ō c X.env);pure (ĺ ok) else pure (ĺ r)) (TP X Z σ Q) X.xe s
def aam:TT:=λ_ H Q=>Q true H
def WX:PF X [] aam:=λ_ _ _ H _ I h=>wpAny_tests_nil ⟨H,I,h⟩
def WY (h:PT X c t):PF X [c] t:=λZ s σ H Q I hw=>wpAny_tests_one (h Z s σ H Q I hw)
def nB (g:TG) (nt:Nat):Prop:=∀(x:V) (o Z:St) (H:Hp) (R:St->Hp->Prop),o.length=nt->g x (o++Z) H R->g x (o++Z) H fun Y W=>(∃X:St,X.length=nt/\Y=X++Z)/\R Y W
def mQ (cap:List Nat) (σ:St):St:=cap.map λj=>(σ[j]?).getD none
def Nw (mk:Ù->List V->HO) (kR:List V->Prop) (J:It) (nt:Nat) (caps:St) (g:TG) (tf:TT) (te:TE) (H:Hp) (Q:VK):Prop:=∃W:Nat->Nat->List V->Hp->Prop,(∃m,W 0 m [] H) /\
 ∀i m Z Y,W i m Z Y->(J.stop i Y/\kR Z/\∀D,Y D=none->Q (.ref D) (upd Y D (mk D Z))) \/
  (J.go i Y/\kR Z/\∃N:List V->Hp->Prop,(∀X U,N X U->∃T,T < m/\W (i+1) T X U) /\
   ∀o x S,o.length=nt->J.wb i Y x S->g x (o++caps) S fun R O=>tf R O λb P=>if b=true then te R P λv M=>N (Z++[v]) M else N Z P)
def CW (J:It) (nt:Nat) (caps:St) (g:TG) (tf:TT) (te:TE) (H:Hp) (Q:VK):Prop:=Nw (λ_ Z=>.lst Z) (λZ=>Z.length<=Ø) J nt caps g tf te H Q
def pW (wi:TI) (nt:Nat) (cap:List Nat) (g:TG) (tf:TT) (te:TE):TE:=fun σ H Q=>wi σ H λJ Z=>CW J nt (mQ cap σ) g tf te Z Q
section
variable {fs ex:List Ù} {H H':Hp} {h h1 h2:Ĳ} {P:ä} {w:ù}
def Un.adopt {D:Ù} {o:HO} (u:Un fs ex H H' h h1) (hp:h.objs.size<=D) (hn:H' D=none):Un fs ex H (upd H' D o) h h1 where
 keep:=u.keep
 slot:=u.slot
 free:=λb Y q n X=>by rw[aV (à (È (Î q) hp))];exact u.free b Y q n X
 there:=u.there
 fN:=λb Z q=>by rw[aV (dg (u.fN b Z q) hn)];exact u.fN b Z q
 eY:=λb Y Z q=>by rw[aV (dg (u.eY b Y Z q) hn)];exact u.eY b Y Z q
 fO:=λb W q=>by
  obtain⟨more,e⟩:=u.fO b W q;exact⟨more,by rw[aV (dg e hn)];exact e⟩
def Un.but {C:Ù} (u:Un fs ex H H' h h1) (hp:h.objs.size<=C) (sb:ī C h1 h2):Un fs ex H H' h h2:=by
 have ne:∀b Z,h.get? b=some Z->b≠C:=λb Z q=>à (È (Î q) hp);refine⟨λb Z q n X Y=>(sb.2 b (ne b Z q)).trans (u.keep b Z q n X Y),λb Z q n X Y=>?_,u.free,λb Z q Y=>?_,u.fN,u.eY,u.fO⟩
 ·obtain⟨W,e⟩:=u.slot b Z q n X Y
  exact⟨W,(sb.2 b (ne b Z q)).trans e⟩
 ·obtain⟨V,e⟩:=u.there b Z q Y
  exact⟨V,(sb.2 b (ne b Z q)).trans e⟩
def cf.but (x:cf P w H h1) (hn:H C=none) (sb:ī C h1 h2):cf P w H h2:=λa o e =>
 (x a o e).dY (λb u Z q=>(sb.2 b (by
  rintro rfl
  rcases Z with z|z
  ·subst z;rw[hn] at e;cases e
  ·rw[hn] at z;cases z)).trans q) (λ_ q=>q) λ_ _ q=>q
def cf.adopt (x:cf P w H h) (hn:H D=none) (new:cC P w (upd H D o) h D o):cf P w (upd H D o) h:=λb u e=>by
 by_cases Z:b=D
 ·subst Z;rw[cq] at e;cases e;exact new
 ·rw[aV Z] at e
  exact(x b u e).dY (λc v _ q=>q) (λc q=>by rw[aV (dg q hn)];exact q) λc Y q=>by rw[aV (dg q hn)];exact q
end
section
variable {X:Cx} {sc:ο} {N:List Str} {nt:Nat} {cap:List Nat} {cl:List (Str×Ù)} {s:Ä} {h1:Ĳ} {H:Hp} {σ:St} {π:List (Ù×Obj)} {fp:List Ù} {C:Ù} {t':Nat}
def Inv.block (I:Inv X π σ H s) (S:uM X sc N nt cap) (cS:∀n c,cl.lookup n=some c↔((n,ê)∈sc.names/\X.env.cells.lookup n=some c)) (hf:∀b∈fp,fU X π H b) (fZ:∀b∈fp,b<s.heap.objs.size)
  (hk:∀b o,s.heap.get? b=some o->h1.get? b=some o) (hC:s.heap.objs.size<=C) (oI:∃m,h1.Ns C m):Inv (eh X N sc cl C s H fp (X.pn++π)) [] (lC nt cap σ) H { s with heap:=h1,toks:=t' }:=by
 have Q:∀b∈cw X.stack,b∈X.env.locals::X.fs:=I.ki;have f:C∉cw X.stack:=λz=>by
  rcases Ò.mp (I.ki C z) with e|e
  ·exact absurd (È I.lt hC) (by rw[e];exact ë _)
  ·exact I.vC hC e
 have M:∀x,(relabel sc X.env).names.lookup x=some .cell\/(relabel sc X.env).names.lookup x=some .free->(x,ê)∈sc.names:=λx Z=>by
  rw[xp] at Z
  cases e:sc.names.lookup x with
  |none=>rw[e] at Z;rcases Z with z|z<;>cases z
  |some k =>
   have Y:(x,k)∈sc.names:=by
    obtain⟨a,l2,e1,_⟩:=List.lookup_eq_some_iff.mp e;rw[e1];simp
   rw[e] at Z
   cases k with
   |free=>exact Y
   |cell=>exact absurd rfl (S.uN _ Y)
   |_=>exfalso;revert Z;simp
 have L:∀x,(x,ê)∈sc.names->∃c,X.env.cells.lookup x=some c:=λx Z=>I.ok.has x (S.frees _ Z rfl).2;have ok:Cx.Ok (eh X N sc cl C s H fp (X.pn++π)):=by
  refine⟨I.ok.mod,?_,I.ok.glob,I.ok.blt,hC,?_,?_,?_,I.ok.hd,I.ok.frames,.inl rfl,?_,I.bs,Þ I.ok.jo I.sz,?_,?_,I.stack,I.uA⟩
  ·exact S.kind
  ·intro x y c Z K
   exact I.ok.inj x y c ((cS x c).mp Z).2 ((cS y c).mp K).2
  ·intro x Z
   have Y:=M x Z;obtain⟨c,e⟩:=L x Y;exact⟨c,(cS x c).mpr ⟨Y,e⟩⟩
  ·intro x c Z
   cases Z
  ·intro b W
   refine⟨à (È (fZ b W) hC),λx c e=>?_⟩;exact(hf b W).2.2.2.2.1 x c ((cS x c).mp e).2
  ·intro b o e W
   rcases(hf b W).2.2.2.1 with z|z
   ·exact I.ok.ow b o e z
   ·exact absurd (È (Î e) (Þ I.ok.jo z)) (ë _)
  ·intro b W z
   rcases Ò.mp (Q b z) with e|e
   ·exact(hf b W).2.1 e
   ·exact(hf b W).2.2.1 e
 obtain⟨m,Y⟩:=oI;obtain⟨mX,J,G⟩:=I.loc;refine⟨ok,rfl,I.bare,Un.kept hk,⟨m,Y,λi x v e1 e2 e3=>?_⟩,λx c e=>?_,I.aE.fresh hC,λx c e=>I.iU x c ((cS x c).mp e).2,λp F=>?_,I.aE.kept hk,?_⟩
 ·
  have hi:nt<=i:=by
   apply Ÿ;intro P;have:(lC nt cap σ)[i]?=some none:=by
    unfold lC;rw[Ü (by simpa using P),Ģ,ã P]
   rw[this] at e2;cases e2
  have V:(cap.map λj=>(σ[j]?).getD none)[i-nt]?=some (some v):=by
   have e:=e2;unfold lC at e;rw[ð (by simpa using hi)] at e;simpa using e
  rw[ç] at V
  cases U:cap[i-nt]? with
  |none=>rw[U] at V;cases V
  |some j =>
   rw[U] at V;have ev:(σ[j]?).getD none=some v:=acH V;have E:σ[j]?=some (some v):=by
    cases q:σ[j]? with
    |none=>rw[q] at ev;cases ev
    |some z=>rw[q] at ev;exact ň some ev
   obtain⟨y,f1,f2,O⟩:=S.Ed _ _ U;rw[Nat.add_sub_cancel' hi] at f2;have D:y=x:=acH (f2.symm.trans e1);subst D;obtain⟨g1,g2⟩:=S.frees _ O rfl;have B:oG X.env.scope y:=.inr g2;obtain⟨u,r,l⟩:=G j y v f1 E B;refine⟨u,r,.inr ⟨?_,?_⟩⟩
   ·show (relabel sc X.env).names.lookup y=some .cell\/(relabel sc X.env).names.lookup y=some .free
    rw[xp,g1];simp only[Ũ];split
    ·exact .inl rfl
    ·exact .inr rfl
   ·rcases l with ⟨k,_⟩ | ⟨_,c,A,w⟩
    ·exfalso
     have t:X.env.scope.names.lookup y=some .local:=k;dsimp only at g2;rw[t] at g2
     rcases g2 with z|z<;>cases z
    ·obtain⟨T,R,hd⟩:=w
     exact⟨c,(cS y c).mpr ⟨O,A⟩,T,hk _ _ R,hd⟩
 ·obtain⟨v,T,R,hd⟩:=I.cell x c ((cS x c).mp e).2
  exact⟨v,T,hk _ _ R,hd⟩
 ·have h:p∈X.pn++π:=by simpa using F
  obtain⟨e,n,ne,g,d⟩:=I.pin p h;refine⟨hk _ _ e,n,à (È (Î e) hC),λz=>?_,d⟩
  rcases Ò.mp (Q p.1 z) with q|q
  ·exact ne q
  ·exact g q
 ·unfold lC
  rw[ó,Ĉ,Í];exact S.len.symm
end
section
variable {X:Cx}
end
inductive Kn where
 |au|bl|int|str|tup|lst|bA
 deriving DecidableEq
def sY (K:ę) (H:Hp):V->Kn->Prop
 | .au,.au=>True
 | .bl _,.bl=>True
 | .int _,.int=>True
 | .str _,.str=>True
 | .ref a,.tup=>∃Z,bz K H a Z
 | .ref a,.lst=>∃Z,bC K H a Z
 | .ref a,.bA=>∃Y,H a=some (.dK Y)
 |_,_=>False
noncomputable def so:Kn->String->Bool
 | .int,"int"=>true
 | .bl,"int"=>true
 | .bl,"bool"=>true
 | .str,"str"=>true
 | .tup,"tuple"=>true
 | .lst,"list"=>true
 |_,_=>false
section
variable {X:Cx}
def Inv.uO {π:List (Ù×Obj)} {σ:St} {H:Hp} {s:Ä} {a:Ù} {xs:List V} (I:Inv X π σ H s) (h:bz X.K H a xs):∃o,s.heap.get? a=some o/\o.cls=.type "tuple":=by
 obtain⟨its,r,⟨o,e,c,_⟩,_⟩:=I.tuple h;exact⟨o,e,c⟩
def Inv.uP {π:List (Ù×Obj)} {σ:St} {H:Hp} {s:Ä} {a:Ù} {xs:List V} (I:Inv X π σ H s) (h:bC X.K H a xs):∃o,s.heap.get? a=some o/\o.cls=.type "list":=by
 obtain⟨its,r,⟨o,n,e,c,_⟩,_⟩:=I.list h;exact⟨o,e,c⟩
def Inv.uQ {π:List (Ù×Obj)} {σ:St} {H:Hp} {s:Ä} {a:Ù} {ai:List (Key×V)} (I:Inv X π σ H s) (h:H a=some (.dK ai)):∃o,s.heap.get? a=some o/\o.cls=.type "dict":=by
 obtain⟨_,_,W,_,p⟩:=(show cC X.prog X.w H s.heap a (.dK ai) from I.aE a _ h);obtain⟨o,U,T,Z,Y,_⟩:=p;exact⟨o,Z,Y.1⟩
def Pk:cD X (.builtin "isinstance") (λxs H Q=>∃x k,xs=[x,.ty "int"]/\sY X.K H x k/\Q (.bl (so k "int")) H):=by
 intro T s σ H xs S Q I r h;obtain⟨x,k,rfl,Z,q⟩:=h;obtain⟨u,c,rfl,Y,rc⟩:=vals2 r;cases rc
 cases k with
 |au =>
  cases x with
  |au =>
   cases Y;exact IsiPair.NoneType_int ⟨.bl false,H,I.tok _,rfl,q⟩
  |_=>exact Z.elim
 |bl =>
  cases x with
  |bl b =>
   cases Y;exact IsiPair.bool_int ⟨.bl true,H,I,rfl,q⟩
  |_=>exact Z.elim
 |int =>
  cases x with
  |int i =>
   obtain⟨t,rfl⟩:=Y;exact IsiPair.int_int ⟨.bl true,H,I,rfl,q⟩
  |_=>exact Z.elim
 |str =>
  cases x with
  |str y =>
   obtain⟨t,rfl⟩:=Y;exact IsiPair.str_int ⟨.bl false,H,I.tok _,rfl,q⟩
  |_=>exact Z.elim
 |tup =>
  cases x with
  |ref a =>
   cases Y;obtain⟨z,W⟩:=Z;obtain⟨o,V,U⟩:=I.uO W;exact IsiPair.tuple_int V U ⟨.bl false,H,I.tok _,rfl,q⟩
  |_=>exact Z.elim
 |lst =>
  cases x with
  |ref a =>
   cases Y;obtain⟨z,W⟩:=Z;obtain⟨o,V,U⟩:=I.uP W;exact IsiPair.list_int V U ⟨.bl false,H,I.tok _,rfl,q⟩
  |_=>exact Z.elim
 |bA =>
  cases x with
  |ref a =>
   cases Y;obtain⟨z,W⟩:=Z;obtain⟨o,V,U⟩:=I.uQ W;exact IsiPair.dict_int V U ⟨.bl false,H,I.tok _,rfl,q⟩
  |_=>exact Z.elim
def O1:cD X (.builtin "isinstance") (λxs H Q=>∃x k,xs=[x,.ty "bool"]/\sY X.K H x k/\Q (.bl (so k "bool")) H):=by
 intro T s σ H xs S Q I r h;obtain⟨x,k,rfl,Z,q⟩:=h;obtain⟨u,c,rfl,Y,rc⟩:=vals2 r;cases rc
 cases k with
 |au =>
  cases x with
  |au =>
   cases Y;exact IsiPair.NoneType_bool ⟨.bl false,H,I.tok _,rfl,q⟩
  |_=>exact Z.elim
 |bl =>
  cases x with
  |bl b =>
   cases Y;exact IsiPair.bool_bool ⟨.bl true,H,I,rfl,q⟩
  |_=>exact Z.elim
 |int =>
  cases x with
  |int i =>
   obtain⟨t,rfl⟩:=Y;exact IsiPair.int_bool ⟨.bl false,H,I.tok _,rfl,q⟩
  |_=>exact Z.elim
 |str =>
  cases x with
  |str y =>
   obtain⟨t,rfl⟩:=Y;exact IsiPair.str_bool ⟨.bl false,H,I.tok _,rfl,q⟩
  |_=>exact Z.elim
 |tup =>
  cases x with
  |ref a =>
   cases Y;obtain⟨z,W⟩:=Z;obtain⟨o,V,U⟩:=I.uO W;exact IsiPair.tuple_bool V U ⟨.bl false,H,I.tok _,rfl,q⟩
  |_=>exact Z.elim
 |lst =>
  cases x with
  |ref a =>
   cases Y;obtain⟨z,W⟩:=Z;obtain⟨o,V,U⟩:=I.uP W;exact IsiPair.list_bool V U ⟨.bl false,H,I.tok _,rfl,q⟩
  |_=>exact Z.elim
 |bA =>
  cases x with
  |ref a =>
   cases Y;obtain⟨z,W⟩:=Z;obtain⟨o,V,U⟩:=I.uQ W;exact IsiPair.dict_bool V U ⟨.bl false,H,I.tok _,rfl,q⟩
  |_=>exact Z.elim
def Pl:cD X (.builtin "isinstance") (λxs H Q=>∃x k,xs=[x,.ty "str"]/\sY X.K H x k/\Q (.bl (so k "str")) H):=by
 intro T s σ H xs S Q I r h;obtain⟨x,k,rfl,Z,q⟩:=h;obtain⟨u,c,rfl,Y,rc⟩:=vals2 r;cases rc
 cases k with
 |au =>
  cases x with
  |au =>
   cases Y;exact IsiPair.NoneType_str ⟨.bl false,H,I.tok _,rfl,q⟩
  |_=>exact Z.elim
 |bl =>
  cases x with
  |bl b =>
   cases Y;exact IsiPair.bool_str ⟨.bl false,H,I.tok _,rfl,q⟩
  |_=>exact Z.elim
 |int =>
  cases x with
  |int i =>
   obtain⟨t,rfl⟩:=Y;exact IsiPair.int_str ⟨.bl false,H,I.tok _,rfl,q⟩
  |_=>exact Z.elim
 |str =>
  cases x with
  |str y =>
   obtain⟨t,rfl⟩:=Y;exact IsiPair.str_str ⟨.bl true,H,I,rfl,q⟩
  |_=>exact Z.elim
 |tup =>
  cases x with
  |ref a =>
   cases Y;obtain⟨z,W⟩:=Z;obtain⟨o,V,U⟩:=I.uO W;exact IsiPair.tuple_str V U ⟨.bl false,H,I.tok _,rfl,q⟩
  |_=>exact Z.elim
 |lst =>
  cases x with
  |ref a =>
   cases Y;obtain⟨z,W⟩:=Z;obtain⟨o,V,U⟩:=I.uP W;exact IsiPair.list_str V U ⟨.bl false,H,I.tok _,rfl,q⟩
  |_=>exact Z.elim
 |bA =>
  cases x with
  |ref a =>
   cases Y;obtain⟨z,W⟩:=Z;obtain⟨o,V,U⟩:=I.uQ W;exact IsiPair.dict_str V U ⟨.bl false,H,I.tok _,rfl,q⟩
  |_=>exact Z.elim
def OR:cD X (.builtin "isinstance") (λxs H Q=>∃x k,xs=[x,.ty "tuple"]/\sY X.K H x k/\Q (.bl (so k "tuple")) H):=by
 intro T s σ H xs S Q I r h;obtain⟨x,k,rfl,Z,q⟩:=h;obtain⟨u,c,rfl,Y,rc⟩:=vals2 r;cases rc
 cases k with
 |au =>
  cases x with
  |au =>
   cases Y;exact IsiPair.NoneType_tuple ⟨.bl false,H,I.tok _,rfl,q⟩
  |_=>exact Z.elim
 |bl =>
  cases x with
  |bl b =>
   cases Y;exact IsiPair.bool_tuple ⟨.bl false,H,I.tok _,rfl,q⟩
  |_=>exact Z.elim
 |int =>
  cases x with
  |int i =>
   obtain⟨t,rfl⟩:=Y;exact IsiPair.int_tuple ⟨.bl false,H,I.tok _,rfl,q⟩
  |_=>exact Z.elim
 |str =>
  cases x with
  |str y =>
   obtain⟨t,rfl⟩:=Y;exact IsiPair.str_tuple ⟨.bl false,H,I.tok _,rfl,q⟩
  |_=>exact Z.elim
 |tup =>
  cases x with
  |ref a =>
   cases Y;obtain⟨z,W⟩:=Z;obtain⟨o,V,U⟩:=I.uO W;exact IsiPair.tuple_tuple V U ⟨.bl true,H,I,rfl,q⟩
  |_=>exact Z.elim
 |lst =>
  cases x with
  |ref a =>
   cases Y;obtain⟨z,W⟩:=Z;obtain⟨o,V,U⟩:=I.uP W;exact IsiPair.list_tuple V U ⟨.bl false,H,I.tok _,rfl,q⟩
  |_=>exact Z.elim
 |bA =>
  cases x with
  |ref a =>
   cases Y;obtain⟨z,W⟩:=Z;obtain⟨o,V,U⟩:=I.uQ W;exact IsiPair.dict_tuple V U ⟨.bl false,H,I.tok _,rfl,q⟩
  |_=>exact Z.elim
def O2:cD X (.builtin "isinstance") (λxs H Q=>∃x k,xs=[x,.ty "list"]/\sY X.K H x k/\Q (.bl (so k "list")) H):=by
 intro T s σ H xs S Q I r h;obtain⟨x,k,rfl,Z,q⟩:=h;obtain⟨u,c,rfl,Y,rc⟩:=vals2 r;cases rc
 cases k with
 |au =>
  cases x with
  |au =>
   cases Y;exact IsiPair.NoneType_list ⟨.bl false,H,I.tok _,rfl,q⟩
  |_=>exact Z.elim
 |bl =>
  cases x with
  |bl b =>
   cases Y;exact IsiPair.bool_list ⟨.bl false,H,I.tok _,rfl,q⟩
  |_=>exact Z.elim
 |int =>
  cases x with
  |int i =>
   obtain⟨t,rfl⟩:=Y;exact IsiPair.int_list ⟨.bl false,H,I.tok _,rfl,q⟩
  |_=>exact Z.elim
 |str =>
  cases x with
  |str y =>
   obtain⟨t,rfl⟩:=Y;exact IsiPair.str_list ⟨.bl false,H,I.tok _,rfl,q⟩
  |_=>exact Z.elim
 |tup =>
  cases x with
  |ref a =>
   cases Y;obtain⟨z,W⟩:=Z;obtain⟨o,V,U⟩:=I.uO W;exact IsiPair.tuple_list V U ⟨.bl false,H,I.tok _,rfl,q⟩
  |_=>exact Z.elim
 |lst =>
  cases x with
  |ref a =>
   cases Y;obtain⟨z,W⟩:=Z;obtain⟨o,V,U⟩:=I.uP W;exact IsiPair.list_list V U ⟨.bl true,H,I,rfl,q⟩
  |_=>exact Z.elim
 |bA =>
  cases x with
  |ref a =>
   cases Y;obtain⟨z,W⟩:=Z;obtain⟨o,V,U⟩:=I.uQ W;exact IsiPair.dict_list V U ⟨.bl false,H,I.tok _,rfl,q⟩
  |_=>exact Z.elim
end
section
variable {X:Cx} {es:List ħ} {t:TA} {pos:Pos}
def IZ {bs:List Bool} (r:Vals (bs.map V.bl) its):TruthOf X.prog X.w A (λi v=>its.toArray[i]?=some v) (λi=>bs.getD i false):=by
 intro i v s Q E T S;have Z:its[i]?=some v:=by simpa using T
 have hi:i<its.length:=(Ã.mp Z).1;have Y:i<bs.length:=by
  have e:=r.length;rw[Í] at e;omega
 have R:(bs.map V.bl)[i]?=some (.bl (bs[i])):=by rw[ç,Ë Y];rfl
 obtain⟨u,W,P⟩:=Vals.get r R;rw[Z] at W;cases W;cases P;have e:bs.getD i false=bs[i]:=by simp[ũ,Ë Y]
 have U:Q (bs.getD i false) s:=S;rw[e] at U;exact ő U
def range_all (bs:List Bool):(Ć bs.length).all (λi=>bs.getD i false)=bs.all id:=by
 rw[ζ,ø,ø];constructor
 ·intro h b Z
  obtain⟨i,hi,e⟩:=ų Z;have:=h i (Ġ.mpr hi);simpa [ũ,Ë hi,e] using this
 ·intro h i hi
  have hi:=Ġ.mp hi;have:=h _ (ab5 hi);simpa [ũ,Ë hi] using this
def range_any (bs:List Bool):(Ć bs.length).any (λi=>bs.getD i false)=bs.any id:=by
 rw[ζ,Ŝ,Ŝ];constructor
 ·rintro ⟨i,hi,h⟩
  have hi:=Ġ.mp hi;exact⟨bs[i],ab5 hi,by simpa [ũ,Ë hi] using h⟩
 ·rintro ⟨b,Z,h⟩
  obtain⟨i,hi,e⟩:=ų Z;exact⟨i,Ġ.mpr hi,by simpa [ũ,Ë hi,e] using h⟩
def Tc (hc:X.calm=true):cD X (.builtin "all") (λxs H Q=>∃(p:Ù) (bs:List Bool),xs=[.ref p]/\bC X.K H p (bs.map V.bl)/\Q (.bl (bs.all id)) H):=by
 intro O s σ H xs N Q I r h;obtain⟨p,bs,rfl,W,q⟩:=h;obtain⟨u,rfl,U⟩:=vals1 r;cases U;obtain⟨its,Y,Z,M⟩:=I.list W;have T:its.toArray.size=bs.length:=by
  have e:=Y.length;rw[Í] at e;simpa using e.symm
 have S:X.A.in1.handled=none:=I.ok.hd hc;refine call_all_walk (ς Z.isList ?_);have old:p≠s.heap.objs.size:=à (by obtain⟨o,n,e,_⟩:=Z;exact Î e);refine⟨s.heap.objs.size,[s.heap.objs.size,p],[s.heap.objs.size],its.toArray.size,_,_,λi=>bs.getD i false,rfl,Walks.list S s.heap.objs.size p old its.toArray,⟨⟨_,Ô _ rfl,rfl,rfl⟩,Z.isList.at λo e=>Á _ e⟩,IZ Y,λL R P=>?_⟩;rw[T,range_all];exact⟨.bl _,H,I.kept (t':=R) λb o e=>P b o (by simpa using à (Î e)) (Á _ e),rfl,q⟩
def Td (hc:X.calm=true):cD X (.builtin "any") (λxs H Q=>∃(p:Ù) (bs:List Bool),xs=[.ref p]/\bC X.K H p (bs.map V.bl)/\Q (.bl (bs.any id)) H):=by
 intro O s σ H xs N Q I r h;obtain⟨p,bs,rfl,W,q⟩:=h;obtain⟨u,rfl,U⟩:=vals1 r;cases U;obtain⟨its,Y,Z,M⟩:=I.list W;have T:its.toArray.size=bs.length:=by
  have e:=Y.length;rw[Í] at e;simpa using e.symm
 have S:X.A.in1.handled=none:=I.ok.hd hc;refine call_any_walk (ς Z.isList ?_);have old:p≠s.heap.objs.size:=à (by obtain⟨o,n,e,_⟩:=Z;exact Î e);refine⟨s.heap.objs.size,[s.heap.objs.size,p],[s.heap.objs.size],its.toArray.size,_,_,λi=>bs.getD i false,rfl,Walks.list S s.heap.objs.size p old its.toArray,⟨⟨_,Ô _ rfl,rfl,rfl⟩,Z.isList.at λo e=>Á _ e⟩,IZ Y,λL R P=>?_⟩;rw[T,range_any];exact⟨.bl _,H,I.kept (t':=R) λb o e=>P b o (by simpa using à (Î e)) (Á _ e),rfl,q⟩
end
def vE:Key->ω
 | .inl i=>.int i
 | .inr x=>.str x
mutual
def DV (K:ę) (Z:Ù->Prop) (H:Hp):ω->V->Prop
 | .none,v=>v=.au
 | .bool b,v=>v=.bl b
 | .int i,v=>v=.int i
 | .str x,v=>v=.str x
 | .tuple X,v=>∃a Y,v=.ref a/\bz K H a Y/\ar K Z H X Y
 | .list X,v=>∃a Y,v=.ref a/\¬ Z a/\H a=some (.lst Y)/\ar K Z H X Y
 | .dict U,v=>∃a W,v=.ref a/\¬ Z a/\H a=some (.dK W)/\∃l:List (Key×Int),W=l.map (λp=>(p.1,V.int p.2))/\U=l.map λp=>(vE p.1,PyData.int p.2)
def ar (K:ę) (Z:Ù->Prop) (H:Hp):List ω->List V->Prop
 | [],Y=>Y=[]
 |d::X,Y=>∃v r,Y=v::r/\DV K Z H d v/\ar K Z H X r
end
structure MG (K:ę) (Z:Ù->Prop) (H H':Hp):Prop where
 tup:∀b xs,bz K H b xs->bz K H' b xs
 lst:∀b xs,¬ Z b->H b=some (.lst xs)->H' b=some (.lst xs)
 bA:∀b es,¬ Z b->H b=some (.dK es)->H' b=some (.dK es)
mutual
theorem DV.dY {K:ę} {Z:Ù->Prop} {H H':Hp} (S:MG K Z H H'):∀{d:ω} {v:V},DV K Z H d v->DV K Z H' d v
 | .none,_,h=>h
 | .bool _,_,h=>h
 | .int _,_,h=>h
 | .str _,_,h=>h
 | .tuple T,v,h=>by
  simp only[DV] at h |-;obtain⟨a,Y,e,X,r⟩:=h;exact⟨a,Y,e,S.tup a Y X,ar.dY S r⟩
 | .list T,v,h=>by
  simp only[DV] at h |-;obtain⟨a,Y,e,W,X,r⟩:=h;exact⟨a,Y,e,W,S.lst a Y W X,ar.dY S r⟩
 | .dict R,v,h=>by
  simp only[DV] at h |-;obtain⟨a,U,e,W,X,r⟩:=h;exact⟨a,U,e,W,S.bA a U W X,r⟩
theorem ar.dY {K:ę} {Z:Ù->Prop} {H H':Hp} (S:MG K Z H H'):∀{ds:List ω} {vs:List V},ar K Z H ds vs->ar K Z H' ds vs
 | [],_,h=>h
 |d::ds,vs,h=>by
  simp only[ar] at h |-;obtain⟨v,r,e,Y,X⟩:=h;exact⟨v,r,e,DV.dY S Y,ar.dY S X⟩
end
mutual
theorem DV.more {K:ę} {Z:Ù->Prop} {H:Hp} {p:Ù} (hp:H p=none):∀{d:ω} {v:V},DV K Z H d v->DV K (λa=>Z a\/a=p) H d v
 | .none,_,h=>h
 | .bool _,_,h=>h
 | .int _,_,h=>h
 | .str _,_,h=>h
 | .tuple U,v,h=>by
  simp only[DV] at h |-;obtain⟨a,X,e,Y,r⟩:=h;exact⟨a,X,e,Y,ar.more hp r⟩
 | .list U,v,h=>by
  simp only[DV] at h |-;obtain⟨a,X,e,W,Y,r⟩:=h;exact⟨a,X,e,(λz=>z.elim W λe=>by subst e;rw[hp] at Y;cases Y),Y,ar.more hp r⟩
 | .dict S,v,h=>by
  simp only[DV] at h |-;obtain⟨a,T,e,W,Y,r⟩:=h;exact⟨a,T,e,(λz=>z.elim W λe=>by subst e;rw[hp] at Y;cases Y),Y,r⟩
theorem ar.more {K:ę} {Z:Ù->Prop} {H:Hp} {p:Ù} (hp:H p=none):∀{ds:List ω} {vs:List V},ar K Z H ds vs->ar K (λa=>Z a\/a=p) H ds vs
 | [],_,h=>h
 |d::ds,vs,h=>by
  simp only[ar] at h |-;obtain⟨v,r,e,Y,X⟩:=h;exact⟨v,r,e,DV.more hp Y,ar.more hp X⟩
end
mutual
theorem DV.less {K:ę} {Z Z':Ù->Prop} {H:Hp} (gb:∀a,Z' a->Z a):∀{d:ω} {v:V},DV K Z H d v->DV K Z' H d v
 | .none,_,h=>h
 | .bool _,_,h=>h
 | .int _,_,h=>h
 | .str _,_,h=>h
 | .tuple U,v,h=>by
  simp only[DV] at h |-;obtain⟨a,X,e,Y,r⟩:=h;exact⟨a,X,e,Y,ar.less gb r⟩
 | .list U,v,h=>by
  simp only[DV] at h |-;obtain⟨a,X,e,W,Y,r⟩:=h;exact⟨a,X,e,λz=>W (gb _ z),Y,ar.less gb r⟩
 | .dict S,v,h=>by
  simp only[DV] at h |-;obtain⟨a,T,e,W,Y,r⟩:=h;exact⟨a,T,e,λz=>W (gb _ z),Y,r⟩
theorem ar.less {K:ę} {Z Z':Ù->Prop} {H:Hp} (gb:∀a,Z' a->Z a):∀{ds:List ω} {vs:List V},ar K Z H ds vs->ar K Z' H ds vs
 | [],_,h=>h
 |d::ds,vs,h=>by
  simp only[ar] at h |-;obtain⟨v,r,e,Y,X⟩:=h;exact⟨v,r,e,DV.less gb Y,ar.less gb X⟩
end
section
variable {X:Cx} {π:List (Ù×Obj)} {σ:St} {H:Hp} {s:Ä} {Z:Ù->Prop}
theorem AK:∀{l:List (Key×Int)} {vs:List (Key×Ç)} {es:List DictEntry},KV (l.map λp=>(p.1,V.int p.2)) vs->Pairs (hZ P w) es vs ->
  ReadsAll h (es.map (·.key)) ((l.map λp=>(vE p.1,PyData.int p.2)).map (·.1)) []/\ReadsAll h (es.map (·.val)) ((l.map λp=>(vE p.1,PyData.int p.2)).map (·.2)) []
 | [],_,_,.nil,.nil=>⟨.nil,.nil⟩
 |(k,i)::l,_,_,.cons (b:=q) r t,.cons (e:=e) U T S=>by
  obtain⟨a1,a2⟩:=AK (h:=h) t S;obtain⟨Z,X,Y⟩:=r;have Z:k=q.1:=Z;have Y:q.2=acd i X:=Y;refine⟨?_,?_⟩
  ·have W:pT q.1 e.key=true:=U
   rw[<- Z] at W;have:Reads h e.key (vE k) []:=by
    rcases lr W with ⟨j,u,e1,e2⟩ | ⟨x,u,e1,e2⟩
    ·rw[e1,e2];exact .int j u
    ·rw[e1,e2];exact .str x u
   exact ReadsAll.cons (as:=[]) (bs:=[]) this a1
  ·have:Reads h e.val (.int i) []:=by rw[T,Y];exact .int i X
   exact ReadsAll.cons (as:=[]) (bs:=[]) this a2
mutual
theorem DV.reads (I:Inv X π σ H s):∀{d:ω} {v:V} {u:Ç},DV X.K Z H d v->RelV v u->∃as,Reads s.heap u d as
 | .none,v,u,h,r=>by
  have e:v=.au:=h;subst e;cases r;exact⟨[],.none⟩
 | .bool b,v,u,h,r=>by
  have e:v=.bl b:=h;subst e;cases r;exact⟨[],.bool b⟩
 | .int i,v,u,h,r=>by
  have e:v=.int i:=h;subst e;obtain⟨t,rfl⟩:=r;exact⟨[],.int i t⟩
 | .str x,v,u,h,r=>by
  have e:v=.str x:=h;subst e;obtain⟨t,rfl⟩:=r;exact⟨[],.str x t⟩
 | .tuple R,v,u,h,r=>by
  simp only[DV] at h;obtain⟨a,Q,e,Y,W⟩:=h;subst e;cases r;obtain⟨its,U,⟨o,e,c,n,T⟩,_⟩:=I.tuple Y;obtain⟨as,S⟩:=ar.reads I W U;exact⟨as,.tuple e c T (by simpa using S)⟩
 | .list R,v,u,h,r=>by
  simp only[DV] at h;obtain⟨a,Q,e,_,Y,W⟩:=h;subst e;cases r;obtain⟨its,U,⟨o,n,e,c,_,T⟩,_⟩:=I.list (bC.of Y);obtain⟨as,S⟩:=ar.reads I W U;exact⟨a::as,.list e c T (by simpa using S)⟩
 | .dict L,v,u,h,r=>by
  simp only[DV] at h;obtain⟨a,J,e,_,Y,l,e1,e2⟩:=h;subst e e1 e2;cases r;obtain⟨_,_,G,P,o,F,E,g1,g2,g3,_,O,_⟩:=(show cC X.prog X.w H s.heap a (.dK _) from I.aE a _ Y);obtain⟨N,M⟩:=AK (h:=s.heap) P O;exact⟨a::[]++[],.dict g1 g2.1 g3 N M⟩
theorem ar.reads (I:Inv X π σ H s):∀{ds:List ω} {vs:List V} {us:List Ç},ar X.K Z H ds vs->Vals vs us->∃as,ReadsAll s.heap us ds as
 | [],vs,us,h,r=>by
  have e:vs=[]:=h;subst e;cases r;exact⟨[],.nil⟩
 |d::ds,vs,us,h,r=>by
  obtain⟨v,S,e,Y,W⟩:=h;subst e
  cases r with
  |cons U T =>
   obtain⟨as,a1⟩:=DV.reads I Y U;obtain⟨bs,a2⟩:=ar.reads I W T;exact⟨as++bs,.cons a1 a2⟩
end
def MH (K:ę) (neg:Bool):R2:=λx y H Q=>∃(d e:ω) (Z:Ù->Prop),DV K Z H d x/\DV K Z H e y/\d.canLay0=true/\e.canLay0=true/\min d.depth e.depth<=100/\Q (.bl (if neg then !PyData.eqv d e else ĥ d e)) H
def WZ (hr:bB k X.A):bI X (ġ .Eq) (MH X.K false):=by
 intro O s σ H x y v u Q I Y W h;obtain⟨d,e,Z,V,U,T,S,N,q⟩:=h;obtain⟨as,R⟩:=V.reads I Y;obtain⟨bs,P⟩:=U.reads I W;exact SeqAt.eqOverData _ _ _ _ _ _ _ _ _ _ _ _ R P T S (by have:=hr.un;omega) ⟨.bl _,H,I,rfl,q⟩
def W0 (hr:bB k X.A):bI X (ġ .NotEq) (MH X.K true):=by
 intro O s σ H x y v u Q I Y W h;obtain⟨d,e,Z,V,U,T,S,N,q⟩:=h;obtain⟨as,R⟩:=V.reads I Y;obtain⟨bs,P⟩:=U.reads I W;exact SeqAt.neOverData _ _ _ _ _ _ _ _ _ _ _ _ R P T S (by have:=hr.un;omega) ⟨.bl _,H,I,rfl,q⟩
end
end L2
namespace HT
open PySem PySem.Spec PyProof.Rows
section
variable {prog:ä} {w:ù} {A:ì} {E:Ç->Ä->Prop} {s:Ä}
def Ij (ht:IsTup s.heap t items) (h:Q true s):Ý (â prog w) A (aaT (.ref t)) Q E s:=by
 unfold aaT;exact À (abV ht.typeIs (Â h))
def OS {lo hi:Option Int} {Q:Ç->Ä->Prop} (ht:IsTup s.heap t items) (hs:s.heap.IsSliceOf sl vl vu .none) (pl:IsPart vl lo) (pu:IsPart vu hi)
 (hw:aU items.size 0 lo=0/\aU items.size items.size hi=items.size) (h:Q (.ref t) s):Ý (â prog w) A (acz (.ref t) (.ref sl)) Q E s:=by
 obtain⟨os,Z,Y,U⟩:=id hs;have X:s.TypeIs (.ref sl) "slice":=⟨os,Z,Y⟩;unfold acz
 try with_reducible refine ě ?_
 first|refine À (Â ?_)|skip
 refine À (wpAny_sequenceKey ht.typeIs (by decide) ?_);refine À (ü (name:=ĉ "__getitem__") ht.typeIs Ğ
  (ö Ğ ht.typeIs entry_tuple_getitem ?_ (args_tuple_getitem _ _)))
 show Ý _ _ (Ř (.ref t) >>= _) _ _ s;refine À (tupleItemsOf_ ht ?_);refine À (abV X ?_);rw[ã (by decide)];refine À (G9 hs pl pu ?_);obtain⟨W,V⟩:=hw
 show Ý _ _ (if (((aU items.size 0 lo:Nat):Int)==0&&(1:Int)==1&&(aU items.size items.size hi-aU items.size 0 lo)==items.size)=true then _ else _) _ _ s
 rw[W,V,ã (by simp)]
 first
  |exact À (Ij ht (by simp only[Ā];exact À (ś (Â ⟨_,rfl,Â h⟩))))
  |exact À (Ij ht (by simp only[Ā];exact À (ś (À (Â (Â ⟨_,rfl,Â h⟩))))))
end
end HT
namespace L2
open PySem PySem.Spec PyProof.Rows
def kI.sqT {K:ę} {H H':Hp} {a:Ù} {xs:List V} (e:kI H H') (h:bz K H a xs):bz K H' a xs:=by
 rcases h with (h | ⟨o,h⟩)|h
 ·exact .inl (.inl (e _ _ h))
 ·exact .inl (.inr ⟨o,e _ _ h⟩)
 ·exact .inr h
theorem kI.upd (hn:H p=none):kI H (upd H p o):=λb u e=>by rw[aV (dg e hn)];exact e
def oy (K:ę) (H:Hp) (ys:List V) (Q:VK):Prop:=∀a Z,kI H Z->bz K Z a ys->Q (.ref a) Z
def oy.here {K:ę} {H:Hp} {ys:List V} {Q:VK} {a:Ù} (h:oy K H ys Q) (hs:bz K H a ys):Q (.ref a) H:=h a H (kI.refl H) hs
def oy.new {K:ę} {H:Hp} {ys:List V} {Q:VK} {p:Ù} (h:oy K H ys Q) (hn:H p=none):Q (.ref p) (L2.upd H p (.tup ys)):=h p _ (kI.upd hn) (bz.of cq)
section
variable {X:Cx} {e:ħ} {te:TE} {pos p2 p3 p4:Pos}
def Te {lo hi:Option Int} (h:HT.aU xs.length 0 lo=0/\HT.aU xs.length xs.length hi=xs.length):kH xs lo hi=xs:=by
 unfold kH;rw[h.1,h.2];simp
def aan (K:ę):V->Option Int->Option Int->Hp->VK->Prop:=λx lo hi H Q=>∃a Z,x=.ref a/\bz K H a Z/\oy K H (kH Z lo hi) Q
def Ve:wo X (aan X.K):=by
 intro S s σ H x v R P lo hi O Q I V hs U pu h;obtain⟨a,Z,rfl,W,q⟩:=h;by_cases hw:HT.aU Z.length 0 lo=0/\HT.aU Z.length Z.length hi=Z.length
 ·cases V
  obtain⟨its,r,T,M⟩:=I.tuple W;have Y:its.toArray.size=Z.length:=by rw[Ú];exact r.length.symm
  rw[Te hw] at q;exact⟨"tuple",_,Ğ.lookup,T.typeIs,HT.OS T hs U pu (by rw[Y];exact hw) ⟨.ref a,H,I,rfl,q.here W⟩⟩
 ·exact Cy S s σ H _ v R P lo hi O Q I V hs U pu ⟨a,Z,rfl,W,hw,λp N=>q.new N⟩
def YT (K:ę):R2:=λx y H Q=>∃a b Z Y,x=.ref a/\y=.ref b/\bz K H a Z/\bz K H b Y/\Z.length+Y.length<=Ø/\oy K H (Z++Y) Q
def Vf:bI X (Ł .Add) (YT X.K):=by
 intro M s σ H x y v u Q I W V h;obtain⟨a,b,U,L,rfl,rfl,Z,Y,J,q⟩:=h;by_cases T:U=[]
 ·subst T
  cases W;cases V;obtain⟨its,G,F,_⟩:=I.tuple Z;obtain⟨E,t,p2,_⟩:=I.tuple Y;cases G;obtain⟨⟨cls,D,data,C⟩,S,R,n,P⟩:=id F;obtain⟨⟨r,B,data2,A⟩,O,N,z,hd2⟩:=id p2;simp only at R P N hd2;subst R P N hd2;exact concat_meets ⟨_,S,rfl⟩ ⟨_,O,rfl⟩ noFill_tuple_add seq_tuple_add abD abo (abe _ _)
   (tuple_addW0 a b _ E.toArray n z D B C A (by simp)) ⟨S,O,⟨.ref b,H,I,rfl,q.here Y⟩⟩
 ·refine Vb M s σ H _ _ v u Q I W V ⟨a,b,U,L,rfl,rfl,Z,Y,T,J,λe=>?_,λ_ p w=>q.new w⟩
  subst e;rw[İ] at q;exact q.here Z
end
end L2
namespace HZ
open PySem PySem.Spec PyProof.Rows
structure kT (P:ä) (w:ù) (A:ì) (i l:Ù) (tn:Nat->Ĳ->Prop) (val:Nat->Option Ç):Prop where
 keep:∀k h h',tn k h->(∀o,h.get? i=some o->h'.get? i=some o)->(∀o,h.get? l=some o->h'.get? l=some o)->tn k h'
 item:∀k (s:Ä) (Q:Ç->Ä->Prop) (E:Ç->Ä->Prop) x,tn k s.heap->val k=some x->(∀h',tn (k+1) h'->ī i s.heap h'->Q x { s with heap:=h' })->Ý (â P w) A (ą (.ref i)) Q E s
 stop:∀k (s:Ä) (Q:Ç->Ä->Prop) (E:Ç->Ä->Prop),tn k s.heap->val k=none->(∀h' e,aba i s.heap h'->(∃o,h'.get? e=some o/\o.cls=.type "StopIteration")->E (.ref e) { s with heap:=h' })->Ý (â P w) A (ą (.ref i)) Q E s
 obj:∀k h,tn k h->∃o,h.get? i=some o/\∀v,o.data≠.cell v
section
variable {P:ä} {w:ù} {A:ì} {E:Ç->Ä->Prop} {s:Ä}
def QA (g:s.heap.IsTupleIter it t k) (gt:s.heap.IsTuple t its) (gx:its[k]?=some x)
 (q:∀h',h'.IsTupleIter it t (k+1)->ī it s.heap h'->Q x { s with heap:=h' }):Ý (â P w) A (ą (.ref it)) Q E s:=by
 obtain⟨o,go,Y,Z⟩:=id g;obtain⟨ol,X,_,nl,W⟩:=gt;unfold ą;refine À (ü (name:=ĉ "__next__") g.typeIs ř
  (ö ř g.typeIs F.entry_tuple_iterator_next ?_ (F.args_tuple_iterator_next_1 _)))
 show Ý _ _ (field (.ref it) 0 >>= _) _ _ _;refine À (Ĺ go Z (x:=.ref t) rfl ?_)
 show Ý _ _ (if (Ń t==Value.none)=true then _ else _) _ _ _
 rw[í (λz:(Ń t==Value.none)=true=>Û z)];show Ý _ _ (field (.ref it) 1 >>= _) _ _ _;refine À (Ĺ go Z (x:=.int k 0) rfl ?_);show Ý _ _ (seqItems? (.ref t) >>= _) _ _ _;refine À (ı X W ?_);simp only[ē,gx];refine À (Ő go Z (by simp) (Â ⟨x,rfl,Â (q _ ?_ (ď ..))⟩));exact⟨_,Ė _ go (ĵ (ă Z _)),(υ ..).trans Y,by rw[ă Z];simp[ŭ]⟩
def OT (gh:A.handled=none) (g:s.heap.IsTupleIter it t k) (gt:s.heap.IsTuple t its) (gx:its[k]?=none)
 (q:∀h' e,aba it s.heap h'->(∃o,h'.get? e=some o/\o.cls=.type "StopIteration")->E (.ref e) { s with heap:=h' }):Ý (â P w) A (ą (.ref it)) Q E s:=by
 obtain⟨o,go,W,Z⟩:=id g;obtain⟨ol,Y,_,nl,X⟩:=gt;unfold ą;refine À (ü (name:=ĉ "__next__") g.typeIs ř
  (ö ř g.typeIs F.entry_tuple_iterator_next ?_ (F.args_tuple_iterator_next_1 _)))
 show Ý _ _ (field (.ref it) 0 >>= _) _ _ _;refine À (Ĺ go Z (x:=.ref t) rfl ?_)
 show Ý _ _ (if (Ń t==Value.none)=true then _ else _) _ _ _
 rw[í (λz:(Ń t==Value.none)=true=>Û z)];show Ý _ _ (field (.ref it) 1 >>= _) _ _ _;refine À (Ĺ go Z (x:=.int k 0) rfl ?_);show Ý _ _ (seqItems? (.ref t) >>= _) _ _ _;refine À (ı Y X ?_);simp only[ē,gx];refine À (ś (À (Ő go Z (by simp) ?_)));show Ý _ _ (newExc (.type "StopIteration") [] >>= _) _ _ (_:Ä);refine À ?_;simp only[newExc,newTuple];refine À (ï ?_ (by size_fits))
 refine À (m:=aaX _ _) (wpAny_of_eq (a:=Value.none) (by first|rfl | (unfold aaX;rfl)) ?_)
 refine ï ?_ (by size_fits);simp only[raiseNew];refine À (wpAny_handled ?_)
 first|rw[gh]|rw[show A.in1.handled=none from gh]
 refine À (Â (wpAny_throw ?_));exact q _ _ (((ď ..).extBut.push _).push _) ⟨_,Ô _ rfl,rfl⟩
def Vg (gh:A.handled=none) (i l:Ù) (its:Array Ç):kT P w A i l (λk h=>h.IsTupleIter i l k/\h.IsTuple l its) (λk=>its[k]?) where
 keep:=λk h Y Z U T=>⟨Z.1.at U,by obtain⟨o,e,r⟩:=Z.2;exact⟨o,T o e,r⟩⟩
 item:=λk s Q E x Z e q=>QA Z.1 Z.2 e λY g X=>by
  by_cases W:l=i
  ·exfalso
   subst W;obtain⟨o,e1,S,_⟩:=Z.1;obtain⟨R,e2,V,_⟩:=Z.2;rw[e1] at e2;cases e2;rw[S] at V;simp at V
  ·obtain⟨o,e2,r⟩:=Z.2
   exact q Y ⟨g,o,(X.2 l W).trans e2,r⟩ X
 stop:=λk s Q E Z e q=>OT gh Z.1 Z.2 e q
 obj:=λk h Z=>by
  obtain⟨o,e,_,d⟩:=Z.1;exact⟨o,e,λv z=>by rw[d] at z;cases z⟩
def Vh (gh:A.handled=none) (i l:Ù) (its:Array Ç):kT P w A i l (λk h=>h.IsListIter i l k/\h.IsList l its) (λk=>its[k]?) where
 keep:=λk h Y Z U T=>⟨Z.1.at U,Z.2.at T⟩
 item:=λk s Q E x Z e q=>wpAny_nextOf_list_item Z.1 Z.2 e λY g X=>by
  by_cases W:l=i
  ·exfalso
   subst W;obtain⟨o,e1,S,_⟩:=Z.1;obtain⟨R,e2,V,_⟩:=Z.2;rw[e1] at e2;cases e2;rw[S] at V;simp at V
  ·exact q Y ⟨g,Z.2.at λo e2=>(X.2 l W).trans e2⟩ X
 stop:=λk s Q E Z e q=>wpAny_nextOf_list_end gh Z.1 Z.2 e q
 obj:=λk h Z=>by
  obtain⟨o,e,_,d⟩:=Z.1;exact⟨o,e,λv z=>by rw[d] at z;cases z⟩
structure Apart (z ti to j1 j2 m1 m2:Ù):Prop where
 a1:ti≠z
 a2:to≠z
 a3:j1≠z
 a4:j2≠z
 a5:ti≠to
 a6:ti≠j1
 a7:ti≠j2
 a8:to≠j1
 a9:to≠j2
 b0:j1≠j2
 b1:m1≠z
 b2:m1≠to
 b3:m1≠j1
 b4:m1≠j2
 b5:m2≠z
 b6:m2≠to
 b7:m2≠j1
 b8:m2≠j2
def Tf {t1 t2:Nat->Ĳ->Prop} {v1 v2:Nat->Option Ç} {k:Nat} {Q:Ç->Ä->Prop} (D:Apart z ti to j1 j2 m1 m2) (S1:kT P w A j1 m1 t1 v1) (S2:kT P w A j2 m2 t2 v2)
 (gz:IsZip s.heap z ti to .none) (gi:aaY s.heap ti (.ref j1) (.ref j2)) (go:aaY s.heap to a b) (h1:t1 k s.heap) (h2:t2 k s.heap) (hx:v1 k=some x) (hy:v2 k=some y)
 (q:∀h',IsZip h' z ti to (ŭ s.heap.objs.size)->aaY h' to x y->t1 (k+1) h'->t2 (k+1) h'->aaY h' s.heap.objs.size x y->h'.objs.size=s.heap.objs.size+1 ->
 (∀c o,c≠z->c≠to->c≠j1->c≠j2->s.heap.get? c=some o->h'.get? c=some o)->Q (.ref s.heap.objs.size) { s with heap:=h' }) :
  Ý (â P w) A (Ŗ.«zip.__next__» ⟨[.ref z],[]⟩) (λfin s'=>∃v,fin=.done (.ret v)/\Q v s') E s:=by
 show Ý _ _ (field (.ref z) 2 >>= _) _ _ (_:Ä);refine À (Ĺ gz rfl (x:=.bool false) rfl ?_);show Ý _ _ (field (.ref z) 3 >>= _) _ _ (_:Ä);refine À (Ĺ gz rfl (x:=.ref ti) rfl ?_);refine À (ı gi rfl ?_);show Ý _ _ (Ĵ (.ref z) >>= _) _ _ (_:Ä);refine À ?_;unfold Ĵ;refine À (Ĺ gz rfl (x:=.none) rfl (Â ?_));simp only[Ā];refine À (ś ?_);refine À (Ĺ gz rfl (x:=.ref to) rfl ?_);refine À (Š gz (by simp) λm N Y=>?_)
 replace N:IsZip m z ti to .ellipsis:=N
 refine À ?_;simp only[List.zipIdx_cons,List.zipIdx_nil,abq,List.forIn_nil];refine À (À (wpAny_onRaise ?_));show Ý _ _ (ą (.ref j1) >>= _) _ _ (_:Ä);refine À (S1.item k _ _ _ x (S1.keep k _ _ h1 (λo e=>Y.extBut _ _ D.a3 e) (λo e=>Y.extBut _ _ D.b1 e)) hx λl j V=>Â ?_);have C:aaY l to a b:=V.extBut _ _ D.a8 (Y.extBut _ _ D.a2 go);refine À (ı C rfl ?_);refine À (wpAny_updateSeq_pair C λi M X=>?_)
 replace M:aaY i to x b:=M
 refine À (wpAny_letGo (Â ?_));refine À (À (wpAny_onRaise ?_));show Ý _ _ (ą (.ref j2) >>= _) _ _ (_:Ä);refine À (S2.item k _ _ _ y (S2.keep k _ _ h2 (λo e=>X.extBut _ _ D.a9.symm (V.extBut _ _ D.b0.symm (Y.extBut _ _ D.a4 e))) (λo e=>X.extBut _ _ D.b6 (V.extBut _ _ D.b7 (Y.extBut _ _ D.b5 e)))) hy λh L U=>Â ?_);have B:aaY h to x b:=U.extBut _ _ D.a9 M;refine À (ı B rfl ?_);refine À (wpAny_updateSeq_pair B λZ S s5=>?_)
 replace S:aaY Z to x y:=S
 refine À (wpAny_letGo (Â (Â ?_)));refine À (ı S rfl ?_);refine À (wpAny_newTuple ?_);have u:Z.objs.size=s.heap.objs.size:=by rw[s5.1,U.1,X.1,V.1,Y.1]
 have t:IsZip Z z ti to .ellipsis:=s5.extBut _ _ D.a2.symm (U.extBut _ _ D.a4.symm (X.extBut _ _ D.a2.symm (V.extBut _ _ D.a3.symm N)));have g:∀c o,c≠z->c≠to->c≠j1->c≠j2->s.heap.get? c=some o->Z.get? c=some o:=λc o W R K J e=>s5.extBut _ _ R (U.extBut _ _ J (X.extBut _ _ R (V.extBut _ _ K (Y.extBut _ _ W e))));have f:t1 (k+1) Z:=S1.keep _ _ _ j (λo e=>s5.extBut _ _ D.a8.symm (U.extBut _ _ D.b0 (X.extBut _ _ D.a8.symm e))) (λo e=>s5.extBut _ _ D.b2 (U.extBut _ _ D.b4 (X.extBut _ _ D.b2 e)));have I:t2 (k+1) Z:=S2.keep _ _ _ L (λo e=>s5.extBut _ _ D.a9.symm e) (λo e=>s5.extBut _ _ D.b6 e);have r:z<Z.objs.size:=Î t;show Ý _ _ (aaZ (.ref z) (.ref Z.objs.size) >>= _) _ _ (_:Ä);refine À ?_;unfold aaZ;have d:IsZip (Z.push { cls:=.type "tuple",data:=.seq #[x,y] }) z ti to .ellipsis:=Á _ t;refine À (Š d (by simp) λp7 H G=>?_)
 replace H:IsZip p7 z ti to (ŭ Z.objs.size):=H
 refine Š H (by simp) λT O F=>?_
 replace O:IsZip T z ti to (ŭ Z.objs.size):=O
 have up:∀c o,c≠z->Z.get? c=some o->T.get? c=some o:=λc o W e=>F.extBut _ _ W (G.extBut _ _ W (Á _ e));have p:aaY T Z.objs.size x y:=F.extBut _ _ (ş r) (G.extBut _ _ (ş r) (Ô _ rfl));have n:T.objs.size=Z.objs.size+1:=by rw[F.1,G.1,Ċ]
 rw[u] at O p n;refine Â ⟨_,rfl,?_⟩;show Q (.ref Z.objs.size) _;rw[u];exact q T O (up _ _ D.a2 S) (S1.keep _ _ _ f (λo e=>up _ o D.a3 e) (λo e=>up _ o D.b1 e)) (S2.keep _ _ _ I (λo e=>up _ o D.a4 e) (λo e=>up _ o D.b5 e)) p n λc o W R K J e=>up c o W (g c o W R K J e)
def Vi (D:Apart z ti to j1 j2 m1 m2) (S1:kT P w A j1 m1 t1 v1) (S2:kT P w A j2 m2 t2 v2)
 (gz:IsZip s.heap z ti to .none) (gi:aaY s.heap ti (.ref j1) (.ref j2)) (go:aaY s.heap to a b) (h1:t1 k s.heap) (h2:t2 k s.heap) (Ee:v1 k=none\/v2 k=none)
 (q:∀h' e,(∀c o,c≠z->c≠to->c≠j1->c≠j2->s.heap.get? c=some o->h'.get? c=some o)->(∃o,h'.get? e=some o/\o.cls=.type "StopIteration")->E (.ref e) { s with heap:=h' }) :
  Ý (â P w) A (Ŗ.«zip.__next__» ⟨[.ref z],[]⟩) Q E s:=by
 show Ý _ _ (field (.ref z) 2 >>= _) _ _ (_:Ä);refine À (Ĺ gz rfl (x:=.bool false) rfl ?_);show Ý _ _ (field (.ref z) 3 >>= _) _ _ (_:Ä);refine À (Ĺ gz rfl (x:=.ref ti) rfl ?_);refine À (ı gi rfl ?_);show Ý _ _ (Ĵ (.ref z) >>= _) _ _ (_:Ä);refine À ?_;unfold Ĵ;refine À (Ĺ gz rfl (x:=.none) rfl (Â ?_));simp only[Ā];refine À (ś ?_);refine À (Ĺ gz rfl (x:=.ref to) rfl ?_);refine À (Š gz (by simp) λN V Y=>?_)
 replace V:IsZip N z ti to .ellipsis:=V
 refine À ?_;simp only[List.zipIdx_cons,List.zipIdx_nil,abq,List.forIn_nil];refine À (À (wpAny_onRaise ?_));show Ý _ _ (ą (.ref j1) >>= _) _ _ (_:Ä);have M:t1 k N:=S1.keep k _ _ h1 (λo e=>Y.extBut _ _ D.a3 e) (λo e=>Y.extBut _ _ D.b1 e)
 cases U:v1 k with
 |none =>
  refine À (S1.stop k _ _ _ M U λT e Z S=>?_);obtain⟨R,g1,g2⟩:=S;have L:IsZip T z ti to .ellipsis:=Z _ _ D.a3.symm V;have ne:e≠z:=λu=>by subst u;rw[L] at g1;cases g1;simp at g2
  refine Š L (by simp) λK _ X=>q K e (λc o W _ O _ u=>X.extBut _ _ W (Z _ _ O (Y.extBut _ _ W u))) ⟨R,X.extBut _ _ ne g1,g2⟩
 |some x =>
  have G:v2 k=none:=by
   rcases Ee with h|h
   ·rw[U] at h;cases h
   ·exact h
  refine À (S1.item k _ _ _ x M U λT v Z=>Â ?_);have J:aaY T to a b:=Z.extBut _ _ D.a8 (Y.extBut _ _ D.a2 go);refine À (ı J rfl ?_);refine À (wpAny_updateSeq_pair J λK t X=>?_);refine À (wpAny_letGo (Â ?_));refine À (À (wpAny_onRaise ?_));show Ý _ _ (ą (.ref j2) >>= _) _ _ (_:Ä);refine À (S2.stop k _ _ _ (S2.keep k _ _ h2 (λo e=>X.extBut _ _ D.a9.symm (Z.extBut _ _ D.b0.symm (Y.extBut _ _ D.a4 e))) (λo e=>X.extBut _ _ D.b6 (Z.extBut _ _ D.b7 (Y.extBut _ _ D.b5 e)))) G λF e I S=>?_);obtain⟨R,g1,g2⟩:=S;have H:IsZip F z ti to .ellipsis:=I _ _ D.a4.symm (X.extBut _ _ D.a2.symm (Z.extBut _ _ D.a3.symm V));have ne:e≠z:=λu=>by subst u;rw[H] at g1;cases g1;simp at g2
  refine Š H (by simp) λC _ s5=>q C e (λc o W B O y u=>s5.extBut _ _ W (I _ _ y (X.extBut _ _ B (Z.extBut _ _ O (Y.extBut _ _ W u))))) ⟨R,s5.extBut _ _ ne g1,g2⟩
def next_item (D:Apart z ti to j1 j2 m1 m2) (S1:kT P w A.in1 j1 m1 t1 v1) (S2:kT P w A.in1 j2 m2 t2 v2)
 (gz:IsZip s.heap z ti to .none) (gi:aaY s.heap ti (.ref j1) (.ref j2)) (go:aaY s.heap to a b) (h1:t1 k s.heap) (h2:t2 k s.heap) (hx:v1 k=some x) (hy:v2 k=some y)
 (q:∀h',IsZip h' z ti to (ŭ s.heap.objs.size)->aaY h' to x y->t1 (k+1) h'->t2 (k+1) h'->aaY h' s.heap.objs.size x y->h'.objs.size=s.heap.objs.size+1 ->
 (∀c o,c≠z->c≠to->c≠j1->c≠j2->s.heap.get? c=some o->h'.get? c=some o)->Q (some (.ref s.heap.objs.size)) { s with heap:=h' }):Ý (â P w) A (δ (.ref z)) Q E s:=by
 have Z:s.TypeIs (.ref z) "zip":=⟨_,gz,rfl⟩;unfold δ;exact À (Ŏ (ü (name:=ĉ "__next__") Z acj
  (ö acj Z F.entry_zip_next (Tf D S1 S2 gz gi go h1 h2 hx hy λh' a1 a2 Y X W V U=>Â (q h' a1 a2 Y X W V U)) (F.args_zip_next_1 _))))
def next_end (D:Apart z ti to j1 j2 m1 m2) (S1:kT P w A.in1 j1 m1 t1 v1) (S2:kT P w A.in1 j2 m2 t2 v2)
 (gz:IsZip s.heap z ti to .none) (gi:aaY s.heap ti (.ref j1) (.ref j2)) (go:aaY s.heap to a b) (h1:t1 k s.heap) (h2:t2 k s.heap) (Ee:v1 k=none\/v2 k=none)
 (q:∀h',(∀c o,c≠z->c≠to->c≠j1->c≠j2->s.heap.get? c=some o->h'.get? c=some o)->Q none { s with heap:=h' }):Ý (â P w) A (δ (.ref z)) Q E s:=by
 have Z:s.TypeIs (.ref z) "zip":=⟨_,gz,rfl⟩;unfold δ;refine À (Ŏ (ü (name:=ĉ "__next__") Z acj
  (ö acj Z F.entry_zip_next (Vi D S1 S2 gz gi go h1 h2 Ee λh' e Y X=>?_) (F.args_zip_next_1 _))))
 obtain⟨o,W,V⟩:=X;exact À (aa5 (T:="StopIteration") (b:=true) ⟨o,W,V⟩ isSubtype_stop (Â (q _ Y)))
end
end HZ
namespace L2
open PySem PySem.Spec PyProof.Rows
def W2 {X:Cx} {π:List (Ù×Obj)} {σ:St} {H:Hp} {s:Ä} {a b:Ù} {xs:List V} (I:Inv X π σ H s) (h:bz X.K H a xs) (f:fU X π H b):a≠b:=by
 rintro rfl;obtain⟨f0,_,_,Y,_⟩:=f
 rcases h with (h | ⟨o,h⟩) | ⟨o,its,n,W,_⟩
 ·rw[f0] at h;cases h
 ·rw[f0] at h;cases h
 ·have Z:=I.mod.lU a o W
  rcases Y with z|z
  ·exact I.ok.ow a o Z z
  ·exact absurd (È (Î Z) (Þ I.ok.jo z)) (ë _)
def W3 {X:Cx} {π:List (Ù×Obj)} {σ:St} {H:Hp} {s:Ä} {a b:Ù} {xs:List V} (I:Inv X π σ H s) (h:bC X.K H a xs) (f:fU X π H b):a≠b:=by
 rintro rfl;obtain⟨f0,_,_,Y,_⟩:=f
 rcases h with (h | ⟨o,h⟩) | ⟨o,its,n,W,_⟩
 ·rw[f0] at h;cases h
 ·rw[f0] at h;cases h
 ·have Z:=I.mod.lU a o W
  rcases Y with z|z
  ·exact I.ok.ow a o Z z
  ·exact absurd (È (Î Z) (Þ I.ok.jo z)) (ë _)
def Inv.Ik {X:Cx} {π:List (Ù×Obj)} {σ:St} {H:Hp} {s:Ä} {h':Ĳ} {t':Nat} {ch:List Ù} (I:Inv X π σ H s) (k:∀b o,b∉ch->s.heap.get? b=some o->h'.get? b=some o) (hf:∀b∈ch,fU X π H b) :
  Inv X π σ H { s with heap:=h',toks:=t' }:=by
 have Y:∀b u,H b=some u->b∉ch:=λb u e z=>by rw[(hf b z).1] at e;cases e
 refine I.step (g':=s.gens) (d':=s.drawn) (ch:=ch) (λb W=>?_) (λb o _ _ Z e _=>k b o Z e) (λb o _ _ Z e _=>⟨o.slots,k b o Z e⟩) (λ_ _ _ _ n=>n) (λb o Z e=>⟨o,k b o Z e⟩) (λ_ _ e=>e) (λ_ _ _ e=>e)
  (λb P e=>⟨#[],by rw[e];simp⟩) (λm V=>?_) (λb u e=>?_) I.bare
 ·obtain⟨_,f1,_,U,f4,T⟩:=hf b W
  exact⟨U,f1,f4,T⟩
 ·obtain⟨o,S,R,Q,r⟩:=V
  exact⟨o,S,R,k _ o (λz=>(hf _ z).2.1 rfl) Q,r⟩
 ·refine(I.aE b u e).dY (λc v Z q=>k c v ?_ q) (λ_ q=>q) λ_ _ q=>q
  rcases Z with z|z
  ·rw[z];exact Y b u e
  ·exact Y c _ z
def Inv.RK {X:Cx} {π:List (Ù×Obj)} {σ:St} {H:Hp} {s:Ä} {h':Ĳ} {t':Nat} {ch:List Ù} {p:Ù} {u:HO} (I:Inv X π σ H s) (k:∀b o,b∉ch->s.heap.get? b=some o->h'.get? b=some o) (hf:∀b∈ch,fU X π H b)
  (hp:s.heap.objs.size<=p) (new:cC X.prog X.w (upd H p u) h' p u):Inv X π σ (upd H p u) { s with heap:=h',toks:=t' }:=by
 have Y:H p=none:=I.aE.fresh hp;have aE:cf X.prog X.w (upd H p u) h':=(I.Ik (t':=t') k hf).aE.adopt Y new;refine I.step (g':=s.gens) (d':=s.drawn) (ch:=ch) (λb W=>?_) (λb o _ _ Z e _=>k b o Z e) (λb o _ _ Z e _=>⟨o.slots,k b o Z e⟩) (λb o _ e n=>?_) (λb o Z e=>⟨o,k b o Z e⟩) (λc P e=>by rw[aV (dg e Y)];exact e) (λc o v e=>by rw[aV (dg e Y)];exact e)
  (λc O e=>⟨#[],by rw[aV (dg e Y),e];simp⟩) (λm V=>?_) aE I.bare
 ·obtain⟨_,f1,_,U,f4,T⟩:=hf b W
  exact⟨U,f1,f4,T⟩
 ·rw[aV (à (È (Î e) hp))]
  exact n
 ·obtain⟨o,S,R,Q,r⟩:=V
  exact⟨o,S,R,k _ o (λz=>(hf _ z).2.1 rfl) Q,r⟩
@[reducible] def ju:Bool->ę->Hp->Ù->List V->Prop
 |true=>bz
 |false=>bC
@[reducible] def kU:Bool->Ĳ->Ù->Array Ç->Prop
 |true=>Heap.IsTuple
 |false=>Heap.IsList
@[reducible] def nC:Bool->Ĳ->Ù->Ù->Nat->Prop
 |true=>Heap.IsTupleIter
 |false=>Heap.IsListIter
def Inv.sr {X:Cx} {π:List (Ù×Obj)} {σ:St} {H:Hp} {s:Ä} {a:Ù} {xs:List V} (I:Inv X π σ H s):∀{k},ju k X.K H a xs->∃its,Vals xs its/\kU k s.heap a its.toArray
 |true,h=>by obtain⟨i,r,p,_⟩:=I.tuple h;exact⟨i,r,p⟩
 |false,h=>by obtain⟨i,r,p,_⟩:=I.list h;exact⟨i,r,p.isList⟩
def Inv.I0 {X:Cx} {π:List (Ù×Obj)} {σ:St} {H:Hp} {s:Ä} {a:Ù} {xs ys:List V} (I:Inv X π σ H s):∀{k},ju k X.K H a xs->ju k X.K H a ys->xs=ys
 |true,h,g=>I.H9 h g
 |false,h,g=>I.IS h g
def yk {X:Cx} {π:List (Ù×Obj)} {σ:St} {H:Hp} {s:Ä} {a b:Ù} {xs:List V} (I:Inv X π σ H s):∀{k},ju k X.K H a xs->fU X π H b->a≠b
 |true,h,f=>W2 I h f
 |false,h,f=>W3 I h f
def zj (gh:A.handled=none) (i l:Ù) (its:Array Ç):∀k,HZ.kT P w A i l (λn h=>nC k h i l n/\kU k h l its) (λn=>its[n]?)
 |true=>HZ.Vg gh i l its
 |false=>HZ.Vh gh i l its
def yl (k:∀o,h.get? i=some o->h'.get? i=some o):∀{b},nC b h i l n->nC b h' i l n
 |true,x=>x.at k
 |false,x=>x.at k
def xV:∀{b},nC b h i l n->∃o,h.get? i=some o/\∀v,o.data≠.cell v
 |true,x=>by obtain⟨o,e,_,d⟩:=x;exact⟨o,e,λv q=>by rw[d] at q;cases q⟩
 |false,x=>by obtain⟨o,e,_,d⟩:=x;exact⟨o,e,λv q=>by rw[d] at q;cases q⟩
def zk (k l:Bool) (K:ę) (a b:Ù):It :=
 ⟨λi H=>∃Z Y x y,ju k K H a Z/\ju l K H b Y/\Z[i]?=some x/\Y[i]?=some y,λi H v X=>∃p x y,H p=none/\v=.ref p/\X=upd H p (.tup [x,y])/\∀Z Y,ju k K H a Z->ju l K H b Y->Z[i]?=some x/\Y[i]?=some y,
  λi H=>∃Z Y,ju k K H a Z/\ju l K H b Y/\(Z.length<=i\/Y.length<=i)⟩
abbrev aao:=zk true true
structure YU (it:Nat->Ĳ->Prop) (jv:Nat->Ĳ->Prop) (z ti to j1 j2:Ù) (i:Nat) (h:Ĳ):Prop where
 z:IsZip h z ti to .none
 ti:aaY h ti (.ref j1) (.ref j2)
 to:∃u v,aaY h to u v
 h1:it i h
 h2:jv i h
structure MI (z ti to j1 j2:Ù):Prop where
 a1:ti≠z
 a2:to≠z
 a3:j1≠z
 a4:j2≠z
 a5:ti≠to
 a6:ti≠j1
 a7:ti≠j2
 a8:to≠j1
 a9:to≠j2
 b0:j1≠j2
def RL {k1 k2:Bool} {P:ä} {w:ù} {K:ę} {elts:List ħ} {kk:Nat} {pos:Pos} (a b z ti to j1 j2:Ù) (F:MI z ti to j1 j2) :
  Turn P w K (.Tuple elts kk pos) (zk k1 k2 K a b) [z,ti,to,j1,j2] z (YU (λi h=>nC k1 h j1 a i) (λi h=>nC k2 h j2 b i) z ti to j1 j2) where
 mem:=by simp
 obj:=λi h Z c S=>by
  have M:c=z\/c=ti\/c=to\/c=j1\/c=j2:=by simpa using S
  rcases M with rfl|rfl|rfl|rfl|rfl
  ·exact⟨_,Z.z,λv q=>nomatch q⟩
  ·exact⟨_,Z.ti,λv q=>nomatch q⟩
  ·obtain⟨u,v,q⟩:=Z.to;exact⟨_,q,λv q=>nomatch q⟩
  ·exact xV Z.h1
  ·exact xV Z.h2
 keep:=λi h j Z k=>⟨k z (by simp) _ Z.z,k ti (by simp) _ Z.ti,by obtain⟨u,v,q⟩:=Z.to;exact⟨u,v,k to (by simp) _ q⟩,yl (λo e=>k j1 (by simp) o e) Z.h1,yl (λo e=>k j2 (by simp) o e) Z.h2⟩
 item:=by
  intro X L hw J S i g s σ H E I Y Z G;subst L hw J;obtain⟨d,ys,x,y,V,U,ex,f⟩:=G;obtain⟨C,B,t⟩:=I.sr V;obtain⟨r,p,n⟩:=I.sr U;obtain⟨u,eu,ru⟩:=B.get ex;obtain⟨v,ev,rv⟩:=p.get f;have ne:∀c∈[z,ti,to,j1,j2],a≠c/\b≠c:=λc W=>⟨yk I V (Y c W),yk I U (Y c W)⟩;have D:HZ.Apart z ti to j1 j2 a b:=⟨F.a1,F.a2,F.a3,F.a4,F.a5,F.a6,F.a7,F.a8,F.a9,F.b0,(ne z (by simp)).1,(ne to (by simp)).1,(ne j1 (by simp)).1,(ne j2 (by simp)).1,(ne z (by simp)).2,(ne to (by simp)).2,(ne j1 (by simp)).2,(ne j2 (by simp)).2⟩;obtain⟨w1,w2,O⟩:=Z.to;have R:X.A.in1.handled=none:=I.ok.hd S;refine HZ.next_item D (zj R j1 a C.toArray k1) (zj R j2 b r.toArray k2) Z.z Z.ti O ⟨Z.h1,t⟩ ⟨Z.h2,n⟩ (by simpa using eu) (by simpa using ev) λj c1 c2 c3 c4 c5 c6 N=>⟨_,rfl,?_⟩;refine wpAny_letOwnedTupleGo_zip c1 λh2 d1 T=>?_;have hn:H s.heap.objs.size=none:=I.aE.fresh (acG _);have m:z<s.heap.objs.size:=Î Z.z;have vF:IsTup h2 s.heap.objs.size #[u,v]:=⟨_,T.extBut _ _ (ş m) c5,rfl,_,rfl⟩
  have I2:Inv X g σ (upd H s.heap.objs.size (.tup [x,y])) { s with heap:=h2,toks:=s.toks }:=I.RK (ch:=[z,ti,to,j1,j2]) (λc o l e=>by
   have q:c≠z/\c≠ti/\c≠to/\c≠j1/\c≠j2:=by simpa using l
   exact T.extBut c o q.1 (N c o q.1 q.2.2.1 q.2.2.2.1 q.2.2.2.2 e)) Y (acG _) ⟨by show 2<=Ø;decide,[u,v],.cons ru (.cons rv .nil),vF⟩
  refine⟨.ref s.heap.objs.size,_,I2,rfl,⟨_,x,y,hn,rfl,rfl,λxs' ys' q1 q2=>?_⟩,?_,λc W=>?_⟩
  ·rw[I.I0 q1 V,I.I0 q2 U];exact⟨ex,f⟩
  ·refine⟨d1,T.extBut _ _ F.a1 (N _ _ F.a1 F.a5 F.a6 F.a7 Z.ti),⟨_,_,T.extBut _ _ F.a2 c2⟩,yl (λo e=>T.extBut _ _ F.a3 e) c3.1,yl (λo e=>T.extBut _ _ F.a4 e) c4.1⟩
  ·rw[aV]
   ·exact(Y c W).1
   ·intro e
    obtain⟨o,eo⟩:∃o,s.heap.get? c=some o:=by
     have M:c=z\/c=ti\/c=to\/c=j1\/c=j2:=by simpa using W
     rcases M with q|q|q|q|q
     ·rw[q];exact⟨_,Z.z⟩
     ·rw[q];exact⟨_,Z.ti⟩
     ·rw[q];exact⟨_,O⟩
     ·rw[q];obtain⟨o,e,_⟩:=xV Z.h1;exact⟨o,e⟩
     ·rw[q];obtain⟨o,e,_⟩:=xV Z.h2;exact⟨o,e⟩
    exact absurd (Î eo) (by rw[e];exact ë _)
 done:=by
  intro X L hw J S i g s σ H E I Y Z G;subst L hw J;obtain⟨d,ys,V,U,hle⟩:=G;obtain⟨C,B,t⟩:=I.sr V;obtain⟨r,p,n⟩:=I.sr U;have ne:∀c∈[z,ti,to,j1,j2],a≠c/\b≠c:=λc W=>⟨yk I V (Y c W),yk I U (Y c W)⟩;have D:HZ.Apart z ti to j1 j2 a b:=⟨F.a1,F.a2,F.a3,F.a4,F.a5,F.a6,F.a7,F.a8,F.a9,F.b0,(ne z (by simp)).1,(ne to (by simp)).1,(ne j1 (by simp)).1,(ne j2 (by simp)).1,(ne z (by simp)).2,(ne to (by simp)).2,(ne j1 (by simp)).2,(ne j2 (by simp)).2⟩;obtain⟨w1,w2,O⟩:=Z.to;have R:X.A.in1.handled=none:=I.ok.hd S;have l1:=B.length;have l2:=p.length;refine HZ.next_end D (zj R j1 a C.toArray k1) (zj R j2 b r.toArray k2) Z.z Z.ti O ⟨Z.h1,t⟩ ⟨Z.h2,n⟩ ?_ λj N=>⟨rfl,I.Ik (t':=s.toks) (ch:=[z,ti,to,j1,j2]) (λc o l e=>by
   have q:c≠z/\c≠ti/\c≠to/\c≠j1/\c≠j2:=by simpa using l
   exact N c o q.1 q.2.2.1 q.2.2.2.1 q.2.2.2.2 e) Y⟩
  rcases hle with q|q
  ·left;simp;omega
  ·right;simp;omega
 self:=λA i s Q E Z h=>wpAny_pyIter_zip Z.z h
end L2
namespace HZ
open PySem PySem.Spec PyProof.Rows L2
@[reducible] noncomputable def wA:Bool->String
 |true=>"tuple_iterator"
 |false=>"list_iterator"
abbrev y1 (k:Bool) (h:Ĳ) (m1:Ù):Ĳ:=h.push { cls:=.type (wA k),data:=.fields #[.ref m1,.int 0 0] }
abbrev y2 (k l:Bool) (h:Ĳ) (m1 m2:Ù):Ĳ:=(y1 k h m1).push { cls:=.type (wA l),data:=.fields #[.ref m2,.int 0 0] }
abbrev y3 (k l:Bool) (h:Ĳ) (m1 m2:Ù):Ĳ:=(y2 k l h m1 m2).push { cls:=.type "tuple",data:=.seq #[.ref h.objs.size,.ref (y1 k h m1).objs.size] }
abbrev y4 (k l:Bool) (h:Ĳ) (m1 m2:Ù):Ĳ:=(y3 k l h m1 m2).push { cls:=.type "tuple",data:=.seq #[.none,.none] }
abbrev y5 (k l:Bool) (h:Ĳ) (m1 m2:Ù):Ĳ:=(y4 k l h m1 m2).push { cls:=.type "zip",data:=.fields #[.none,.bool false,.bool false,.ref (y2 k l h m1 m2).objs.size,.ref (y3 k l h m1 m2).objs.size] }
def LD:∀{k},kU k s.heap m xs->Q (.ref s.heap.objs.size) { s with heap:=s.heap.push { cls:=.type (wA k),data:=.fields #[.ref m,.int 0 0] } }->Ý (â P w) A (pyIter (.ref m)) Q E s
 |true,h,q=>wpAny_pyIter_tuple h q
 |false,h,q=>ς h q
def Ti (o:Obj):∀{k},kU k h m xs->kU k (h.push o) m xs
 |true,x=>Heap.IsTuple.push x o
 |false,x=>Heap.IsList.push x o
def Vj (k l:Bool) (m1 m2:Ù) (xs ys:Array Ç) :
  Meets (Ŗ.«zip.__new__» ⟨[.type "zip",.ref m1,.ref m2],[]⟩) (λ_ R s=>kU k s.heap m1 xs/\kU l s.heap m2 ys/\R (.ok (.ret (.ref (y4 k l s.heap m1 m2).objs.size))) { s with heap:=y5 k l s.heap m1 m2 }) :=
 .of_wp λprog w A R s h=>by
  obtain⟨Z,g,d,Y,os⟩:=s;obtain⟨X,W,h⟩:=h;have V:=sub_zip;have U:kU k (Shared.heap ⟨Z,g,d,Y,os⟩) m1 xs:=X;have L2:kU l (Shared.heap ⟨Z.push { cls:=.type (wA k),data:=.fields #[.ref m1,.int 0 0] },g,d,Y,os⟩) m2 ys:=Ti _ W
  wp_walk using LD U,LD L2
  exact⟨_,rfl,h⟩
section
variable {P:ä} {w:ù} {A:ì} {E:Ç->Ä->Prop} {s:Ä}
def JO:∀{k},h.get? i=some { cls:=.type (wA k),data:=.fields #[.ref m,.int 0 0] }->nC k h i m 0
 |true,e=>⟨_,e,rfl,rfl⟩
 |false,e=>⟨_,e,rfl,rfl⟩
def RM (h1:kU k s.heap m1 xs) (h2:kU l s.heap m2 ys)
 (h:∀h',IsZip h' (s.heap.objs.size+4) (s.heap.objs.size+2) (s.heap.objs.size+3) .none->aaY h' (s.heap.objs.size+2) (.ref s.heap.objs.size) (.ref (s.heap.objs.size+1)) ->
   aaY h' (s.heap.objs.size+3) .none .none->nC k h' s.heap.objs.size m1 0->nC l h' (s.heap.objs.size+1) m2 0->h'.objs.size=s.heap.objs.size+5 ->
 (∀c o,s.heap.get? c=some o->h'.get? c=some o)->Q (.ref (s.heap.objs.size+4)) { s with heap:=h' }):Ý (â P w) A (call (.type "zip") [.ref m1,.ref m2]) Q E s:=by
 refine callType_new F.called_zip (by decide) (F.typeCall_zip_2 _ _) (F.newCall_zip_2 _ _) (λobj=>F.args_object_init_3 obj _ _) F.entry_zip_new (Vj k l m1 m2 xs ys) ⟨h1,h2,?_⟩;have e1:(y1 k s.heap m1).objs.size=s.heap.objs.size+1:=Ċ ..;have e2:(y2 k l s.heap m1 m2).objs.size=s.heap.objs.size+2:=by rw[Ċ,e1]
 have Z:(y3 k l s.heap m1 m2).objs.size=s.heap.objs.size+3:=by rw[Ċ,e2]
 have Y:(y4 k l s.heap m1 m2).objs.size=s.heap.objs.size+4:=by rw[Ċ,Z]
 have V:(y5 k l s.heap m1 m2).objs.size=s.heap.objs.size+5:=by rw[Ċ,Y]
 have X:(y5 k l s.heap m1 m2).get? (y4 k l s.heap m1 m2).objs.size=some _:=Ô _ rfl;have W:(y5 k l s.heap m1 m2).get? (y3 k l s.heap m1 m2).objs.size=some _:=Á _ (Ô _ rfl);have g3:(y5 k l s.heap m1 m2).get? (y2 k l s.heap m1 m2).objs.size=some _:=Á _ (Á _ (Ô _ rfl));have g2:(y5 k l s.heap m1 m2).get? (y1 k s.heap m1).objs.size=some _:=Á _ (Á _ (Á _ (Ô _ rfl)));have g1:(y5 k l s.heap m1 m2).get? s.heap.objs.size=some _:=Á _ (Á _ (Á _ (Á _ (Ô _ rfl))));show _/\_;rw[e2,Z,Y] at X;rw[e1,e2] at g3;rw[Z] at W;rw[e1] at g2;rw[Y];exact⟨⟨_,X,rfl⟩,h _ X g3 W (JO g1) (JO g2) V λc o q=>Á _ (Á _ (Á _ (Á _ (Á _ q))))⟩
end
end HZ
namespace L2
open PySem PySem.Spec PyProof.Rows
def Tj (n:Nat):MI (n+4) (n+2) (n+3) n (n+1):=by constructor<;>(show (_:Nat)≠_)<;>omega
section
variable {X:Cx} {elts:List ħ} {kk:Nat} {tp:Pos}
def LF (k l:Bool) (K:ę) (ta:TA):TI:=fun σ H R=>ta σ H λY Z=>∃a b X W,Y=[.ref a,.ref b]/\ju k K Z a X/\ju l K Z b W/\R (zk k l K a b) Z
noncomputable abbrev YV:=LF true true
def RN:ú "zip"=some (.type "zip"):=by decide +kernel
def W4 {π:List (Ù×Obj)} {σ:St} {H:Hp} {s:Ä} (I:Inv X π σ H s):∀b∈[s.heap.objs.size+4,s.heap.objs.size+2,s.heap.objs.size+3,s.heap.objs.size,s.heap.objs.size+1],fU X π H b:=λb Y=>by
 have Z:s.heap.objs.size<=b:=by
  have q:b=s.heap.objs.size+4\/b=s.heap.objs.size+2\/b=s.heap.objs.size+3\/b=s.heap.objs.size\/b=s.heap.objs.size+1:=by simpa using Y
  omega
 exact I.zf Z (I.aE.fresh Z)
def Vk {k l:Bool} {a b:ħ} {ta:TA} {p pos:Pos} (hg:Gl X "zip") (hm:X.mg "zip"=none) (ha:PA X [a,b] ta) (hs:Õ [a,b] X.env=[(false,ō a X.env),(false,ō b X.env)]:=by rfl) (ij:Õ [b] X.env=[(false,ō b X.env)]:=by rfl) :
  PI X (.Tuple elts kk tp) (.Call (.Name "zip" p) [a,b] [] pos) (LF k l X.K ta):=by
 intro V s σ H R I h;refine Call_ (rA I hg hm RN (ŕ (aI (ha pos V s σ H _ I h) λz Z ⟨y,U,Y,T,S⟩=>?_) (by rw[hs,ij]) (by rw[ij];rfl)));obtain⟨a,b,xs,ys,e,Q,P,q⟩:=S;subst e;obtain⟨u,v,rfl,O,N⟩:=vals2 T;cases O;cases N;obtain⟨M,_,L⟩:=Y.sr Q;obtain⟨J,_,G⟩:=Y.sr P;refine HZ.RM (xs:=M.toArray) (ys:=J.toArray) L G λF W E D C B x A=>?_
 refine wpAny_pyIter_zip (s:={ Z with heap:=F }) W ?_
 exact⟨_,[Z.heap.objs.size+4,Z.heap.objs.size+2,Z.heap.objs.size+3,Z.heap.objs.size,Z.heap.objs.size+1],_,_,U,rfl,Y.kept (t':=Z.toks) A,RL a b _ _ _ _ _ (Tj _),⟨W,E,⟨_,_,D⟩,C,B⟩,W4 Y,q⟩
def Vl {a b:ħ} {ta:TA} {p pos:Pos} (hg:Gl X "zip") (hm:X.mg "zip"=none) (ha:PA X [a,b] ta) (hs:Õ [a,b] X.env=[(false,ō a X.env),(false,ō b X.env)]:=by rfl) (ij:Õ [b] X.env=[(false,ō b X.env)]:=by rfl) :
  PI X (.Tuple elts kk tp) (.Call (.Name "zip" p) [a,b] [] pos) (YV X.K ta):=Vk hg hm ha hs ij
end
end L2
namespace PySem
section
variable {P:ä} {w:ù} {A:ì} {E:Ç->Ä->Prop} {s:Ä}
end
end PySem
namespace L2
open PySem PySem.Spec PyProof.Rows
def map_getD (ns:List Int):(Ć ns.length).map (λi=>ns.getD i 0)=ns:=by
 apply œ;intro i;rw[ç];by_cases h:i<ns.length
 ·rw[Ŵ h,Ë h]
  simp[ũ,Ë h]
 ·rw[Ĭ (by simpa using h),Ĭ (by omega)]
  rfl
section
variable {X:Cx}
end
section
variable {κ:Type} [DecidableEq κ]
noncomputable def jT (ai:List (κ×V)) (k:κ):Option V:=(ai.find? λZ=>decide (Z.1=k)).map (·.2)
noncomputable def putK (ai:List (κ×V)) (k:κ) (v:V):List (κ×V) :=
 if (ai.any λZ=>decide (Z.1=k))=true then ai.map (λZ=>if Z.1=k then (Z.1,v) else Z) else ai++[(k,v)]
def Bl {p:κ×V} {r:List (κ×V)} {k:κ} (e:p.1=k):jT (p::r) k=some p.2:=by simp[jT,ι,e]
def Bm {p:κ×V} {r:List (κ×V)} {k:κ} (e:¬ p.1=k):jT (p::r) k=jT r k:=by simp[jT,ι,e]
def P1 (ai:List (κ×V)) (k:κ) (v:V):(putK ai k v).length<=ai.length+1:=by
 unfold putK;split
 ·rw[Í];omega
 ·rw[ó,á,ý];omega
def KV.val {ai:List (κ×V)} {vs:List (κ×Ç)} (r:KV ai vs) (k:κ):ou (jT ai k) (valueAt vs k):=by
 unfold KV at r
 induction r with
 |nil=>exact True.intro
 | @cons p q U Z h t ih =>
  obtain⟨X,W⟩:=h;by_cases e:p.1=k
  ·have Y:q.1=k:=X.symm.trans e
   have b:valueAt (q::Z) k=some q.2:=by simp[valueAt,ι,Y]
   rw[Bl e,b];exact W
  ·have Y:¬ q.1=k:=λz=>e (X.trans z)
   have b:valueAt (q::Z) k=valueAt Z k:=by simp[valueAt,ι,Y]
   rw[Bm e,b];exact ih
theorem KV.any (r:KV ai vs) (k:κ):(ai.any λkv=>decide (kv.1=k))=vs.any λkv=>decide (kv.1=k):=by
 unfold KV at r
 induction r with
 |nil=>rfl
 |cons h t ih=>rw[List.any_cons,List.any_cons,ih,h.1]
def KV.aap (r:KV ai vs) (k:κ) (ry:RelV y u) :
  KV (ai.map λkv=>if kv.1=k then (kv.1,y) else kv) (vs.map λkv=>if kv.1=k then (kv.1,u) else kv):=by
 unfold KV at r |-
 induction r with
 |nil=>exact .nil
 | @cons p q X W h t ih =>
  rw[ß,ß];refine .cons ?_ ih;obtain⟨Z,Y⟩:=h;by_cases e:p.1=k
  ·rw[ã e,ã (Z.symm.trans e)];exact⟨Z,ry⟩
  ·rw[í e,í (λz=>e (Z.trans z))];exact⟨Z,Y⟩
def KV.put (r:KV ai vs) (k:κ) (ry:RelV y u):KV (putK ai k y) (stored vs k u):=by
 unfold putK stored;rw[r.any k];by_cases e:(vs.any λZ=>decide (Z.1=k))=true
 ·rw[ã e,ã e];exact r.aap k ry
 ·rw[í e,í e];exact Paired.snoc r ⟨rfl,ry⟩
end
def Dl (r:RelV (kV k) u):(hZ P w).is k u=true:=by
 cases k with
 |inl i=>obtain⟨t,e⟩:=(show ∃t,u=acd i t from r);subst e;exact PY P w i t
 |inr x=>obtain⟨t,e⟩:=(show ∃t,u=Value.str x t from r);subst e;exact PZ P w x t
theorem Il:∀{ks:List Key} {us:List Ç},Vals (ks.map kV) us->ItemsAre (hZ P w) ks us
 | [],_,r=>by rw[Ě] at r;cases r;exact .nil
 |k::ks,_,r=>by
  rw[ß] at r
  cases r with
  |cons h t=>exact .cons (Dl h) (Il t)
abbrev KT (H:Hp):List (List Key×V)->List (List Key×Ù×Ç)->Prop:=Paired λp q=>p.1=q.1/\H q.2.1=some (.tup (p.1.map kV))/\RelV p.2 q.2.2
def KT.val {H:Hp} {ai:List (List Key×V)} {xs:List (List Key×Ù×Ç)} (r:KT H ai xs) (k:List Key):ou (jT ai k) ((atKey xs k).map (·.2)):=by
 induction r with
 |nil=>exact True.intro
 | @cons p q U Z h t ih =>
  obtain⟨X,_,W⟩:=h;by_cases e:p.1=k
  ·have Y:q.1=k:=X.symm.trans e
   have b:atKey (q::Z) k=some q.2:=by simp[atKey,ι,Y]
   rw[Bl e,b];exact W
  ·have Y:¬ q.1=k:=λz=>e (X.trans z)
   have b:atKey (q::Z) k=atKey Z k:=by simp[atKey,ι,Y]
   rw[Bm e,b];exact ih
section
variable {P:ä} {w:ù} {H:Hp} {h:Ĳ} {a:Ù}
def LG (ok:cf P w H h) (e:Rd H a u):cC P w H h a u:=e.ok ok
def Dp (ok:cf P w H h) (e:Rd H a (.dK ai)):ai.length<=Ø/\(a==ņ)=false/\∃vs,KV ai vs/\h.DictOf (hZ P w) a vs :=
 show cC P w H h a (.dK ai) from LG ok e
def YW (ok:cf P w H h) (e:H a=some (.dK ai)):ai.length<=Ø/\(a==ņ)=false/\∃vs,KV ai vs/\h.DictOf (hZ P w) a vs:=Dp ok (.inl e)
def ym (ok:cf P w H h) (e:H a=some (.tup (ks.map kV))):(tupleKind (hZ P w)).is h ks a:=by
 obtain⟨_,its,r,o,Z,Y,n,X⟩:=(show cC P w H h a (.tup (ks.map kV)) from ok a _ e);exact⟨o,its.toArray,n,Z,Y,X,by simpa using Il r⟩
def LH (ok:cf P w H h) (e:Rd H a (.dT ai)):ai.length<=Ø/\(a==ņ)=false /\
  ∃xs,KT H ai xs/\h.DictOfH (tupleKind (hZ P w)) a xs:=by
 obtain⟨z,y,xs,r,o,Y,X,W,U,T,S,R⟩:=(show cC P w H h a (.dT ai) from LG ok e);refine⟨z,y,xs,r,o,Y,X,W,U,T,S,λx hx=>?_,R⟩;have all:∀{l:List (List Key×V)} {m:List (List Key×Ù×Ç)},KT H l m->∀x∈m,(tupleKind (hZ P w)).is h x.1 x.2.1:=by
  intro l m q
  induction q with
  |nil=>intro x hx;exact nomatch hx
  | @cons p q Q O Z t ih =>
   intro x hx
   rcases Ò.mp hx with e|hx
   ·subst e
    exact ym ok (by rw[<- Z.1];exact Z.2.1)
   ·exact ih x hx
 exact all r x hx
end
def su (H:Hp) (a:Ù) (y:V) (r:Option V):Prop :=
 (∃Z k,Rd H a (.dK Z)/\y=kV k/\r=jT Z k)\/∃Z k b,Rd H a (.dT Z)/\y=.ref b/\H b=some (.tup (k.map kV))/\r=jT Z k
theorem su.k {H:Hp} {a:Ù} {ai:List (Key×V)} {k:Key} (e:H a=some (.dK ai)):su H a (kV k) (jT ai k):=.inl ⟨ai,k,.inl e,rfl,rfl⟩
section
variable {X:Cx} {π:List (Ù×Obj)} {σ:St} {H:Hp} {s:Ä} {a:Ù} {y v:V} {u r:Ç} {o:Option V} {A:ì} {E:Ç->Ä->Prop}
def Inv.big (I:Inv X π σ H s):ņ<s.heap.objs.size:=by
 have h:Ö<s.heap.objs.size:=(I.mod.glob.keeps I.bk).lt;exact Nat.lt_trans (by decide) h
def RO (hu:A.units+1<abh) (I:Inv X π σ H s) (g:su H a y (some v)) (ry:RelV y u) (h:∀w' s',Inv X π σ H s'->RelV v w'->Q w' s') :
  Ý (â X.prog X.w) A (acz (.ref a) u) Q E s:=by
 rcases g with ⟨U,k,e,Z,l⟩ | ⟨U,k,b,e,Z,T,l⟩
 ·subst Z
  obtain⟨z,S,R,rel,Y⟩:=Dp I.aE e;obtain⟨w',hw,W⟩:=ou.some_of (v:=v) (o:=valueAt R k) (by rw[l];exact rel.val k);exact wpAny_getItem_of (Dl ry) Y.mapOf hw (h w' _ (I.tok _) W)
 ·subst Z
  cases (show u=Ń b from ry);obtain⟨z,S,P,rel,Y⟩:=LH I.aE e;obtain⟨w',hw,W⟩:=ou.some_of (v:=v) (o:=(atKey P k).map (·.2)) (by rw[l];exact rel.val k);obtain⟨p,O,V⟩:=abE.mp hw;refine wpAny_getItem_heap (tupleKind_room_in1 hu) (ym I.aE T) Y O ?_;rw[V];exact h w' _ (I.tok _) W
def JP (I:Inv X π σ H s) (mu:v5 (H a)) (hs:ī a s.heap h') (he:∃q,h'.get? a=some q) (new:cC X.prog X.w (upd H a ob) h' a ob) :
  Inv X π σ (upd H a ob) { s with heap:=h',toks:=t' } :=
 I.write (x:=a) (e:=a) mu (.inl rfl) (λb q Z z=>(hs.2 b Z).trans z) he new
def W5 (z:ai.length<=Ø) (hd:(a==ņ)=false) (rel:KV ai vs) (dd:h'.DictOf (hZ P w) a vs) :
  cC P w H' h' a (.dK ai):=⟨z,hd,vs,rel,dd⟩
end
section
variable {X:Cx} {π:List (Ù×Obj)} {σ:St} {H:Hp} {s:Ä} {a:Ù} {ai:List (Key×V)} {k:Key} {u:Ç} {A:ì} {E:Ç->Ä->Prop}
end
def Ef (i:ħ):Prop:=∀Z Y,subscripted i false Z Y=operate [Z,Y] (acz Z Y)
def Vm {prog:ä} {w:ù} {A:ì} {E:Ç->Ä->Prop} {s:Ä} {env:Env} {value slice:ħ} {pos:Pos} {T id:String} {Q:Ç->Ä->Prop}
  (hl:typeLookup (.type T) "__getitem__"=pure (some (.builtin id))) (hs:Ef slice)
  (h:Ý (â prog w) A (ō value env) (λo bg=>Ý (â prog w) A (ō slice env) (λi kF=>kF.TypeIs o T/\Ý (â prog w) A (acz o i) Q E kF) E bg) E s) :
  Ý (â prog w) A (ō (.Subscript value slice pos) env) Q E s:=by
 refine Subscript_ (Ę h (λo bg V=>Ę V (λi kF Z=>?_) λ_ _ x=>x) λ_ _ x=>x);obtain⟨X,Z⟩:=Z;unfold subscriptTail;refine À ?_;rw[getitemInPython_of_ne X.not_modules];refine À (abr X hl ?_);have fin:Ý (â prog w) A (subscripted slice false o i) (λr W=>Ý (â prog w) A (letTemporaryGo value o r >>= λ_=>pure r) Q E W) E kF:=by
  rw[hs o i];exact wpAny_operating (Ę Z (λr W Y=>À (wpAny_letTemporaryGo (Â Y))) λ_ _ x=>x)
 first
  |exact Â (À fin)
  |exact À (Â (À fin))
  |exact À fin
def P2 {X:Cx} {π:List (Ù×Obj)} {σ:St} {H:Hp} {s:Ä} {a:Ù} {y:V} {o:Option V} (I:Inv X π σ H s) (g:su H a y o):s.TypeIs (.ref a) "dict":=by
 rcases g with ⟨Y,k,e,_,_⟩ | ⟨Y,k,b,e,_,_,_⟩
 ·obtain⟨_,_,W,_,Z⟩:=Dp I.aE e
  exact Z.typeIs
 ·obtain⟨_,_,U,_,Z⟩:=LH I.aE e
  exact Z.typeIs
def YX (td ty:TE):TE:=fun σ H Q=>td σ H λx Y=>ty σ Y λy Z=>∃a v,x=.ref a/\su Z a y (some v)/\Q v Z
section
variable {X:Cx} {o i e value:ħ} {pos pos' Ea:Pos} {td ty tv:TE}
def Vn (hu:X.A.units+1<abh) (ho:PE X o td) (hi:PE X i ty) (hs:Ef i):PE X (.Subscript o i pos) (YX td ty):=by
 intro Z s σ H Q I h;refine Vm PySem.F.slot_dict_getitem.lookup hs (aI (ho Z s σ H _ I h) λu W ⟨x,V,U,T,S⟩=>aI (hi Z W σ V _ U S) λL K ⟨y,R,Y,P,a,v,ex,g,O⟩=>?_);subst ex;obtain rfl:u=Ń a:=T;exact⟨P2 Y g,RO hu Y g P λJ G N M=>⟨v,R,N,M,O⟩⟩
end
def Ja (h:Ĳ) (hb:ņ<h.objs.size):cC P w H (h.push { cls:=.type "dict",data:=.dict #[] }) h.objs.size (.dK []) :=
 ⟨Đ _,beq_eq_false_iff_ne.mpr (Ŀ (à hb)),[],.nil,Heap.DictOf.new h⟩
def W6:TE:=λ_ H Q=>∀p,H p=none->Q (.ref p) (upd H p (.dK []))
section
variable {X:Cx} {pos:Pos}
def Tn:PE X (.Dict [] [] pos) W6:=λZ s σ H Q I h =>
 wpAny_Dict_empty ⟨.ref s.heap.objs.size,_,I.laid (a:=s.heap.objs.size) (o:=.dK []) (t':=s.toks) (λ_ _ q=>Á _ q) (acG _) (Ja s.heap I.big),rfl,h _ (I.aE.fresh (acG _))⟩
end
def Cz:List (TE×TE)->St->Hp->(List (V×V)->Hp->Prop)->Prop
 | [],_,H,Q=>Q [] H
 |(Z,Y)::r,σ,H,Q=>Z σ H λx X=>Y σ X λy W=>Cz r σ W λU T=>Q ((x,y)::U) T
abbrev VV:List (V×V)->List (Ç×Ç)->Prop:=Paired λp q=>RelV p.1 q.1/\RelV p.2 q.2
def zN (X:Cx) (pos:Pos) (keys:List (Option ħ)) (values:List ħ) (qz:List (TE×TE)):Prop :=
 ∀(Z:List (Ù×Obj)) (s:Ä) (σ:St) (H:Hp) (Q:List (V×V)->Hp->Prop),Inv X Z σ H s->Cz qz σ H Q ->
  Ý (â X.prog X.w) X.A (evalPairs (pairTrees keys values X.env pos)) (λU T=>∃Y W,Inv X Z σ W T/\VV Y U/\Q Y W) X.xe s
def JQ:zN X pos [] [] []:=λZ s σ H Q I h=>pairTrees_nil_walk ⟨[],H,I,.nil,h⟩
def Bn (hk:PE X k tk) (hv:PE X v tv) (hr:zN X pos ks vs qz) :
  zN X pos (some k::ks) (v::vs) ((tk,tv)::qz):=λZ s σ H Q I h =>
 pairTrees_cons_walk (aI (hk Z s σ H _ I h) λu Y ⟨x,W,V,U,T⟩=>aI (hv Z Y σ W _ V T) λG S ⟨y,R,P,O,N⟩ =>
  aI (hr Z S σ R _ P N) λws F ⟨M,L,K,rel,J⟩=>⟨(x,y)::M,L,K,.cons ⟨U,O⟩ rel,J⟩)
def pL (ai more:List (Key×V)):List (Key×V):=more.foldl (λZ Y=>putK Z Y.1 Y.2) ai
def KV.merge:∀{more:List (Key×V)} {rs:List (Key×Ç)} {ai:List (Key×V)} {vs:List (Key×Ç)},KV more rs->KV ai vs->KV (pL ai more) (merged vs rs):=by
 intro more rs ai vs r;unfold KV at r
 induction r generalizing ai vs with
 |nil=>intro q;exact q
 | @cons p q Y X h t ih =>
  intro Z;have e:KV (putK ai p.1 p.2) (stored vs q.1 q.2):=by
   have:=Z.put p.1 h.2;rw[<- h.1];exact this
  exact ih e
theorem Hb:∀(more ai:List (Key×V)),(pL ai more).length<=ai.length+more.length
 | [],ai=>by show ai.length<=ai.length+0;omega
 |p::r,ai=>by
  have Z:=Hb r (putK ai p.1 p.2);have Y:=P1 ai p.1 p.2;show (pL (putK ai p.1 p.2) r).length<=_;rw[á];omega
theorem HI:∀{ai:List (Key×V)} {ws:List (Ç×Ç)},VV (ai.map λkv=>(kV kv.1,kv.2)) ws->∃rs,Carries (hZ P w) ws rs/\KV ai rs
 | [],_,r=>by rw[Ě] at r;cases r;exact⟨[],True.intro,.nil⟩
 |p::ai,_,r=>by
  rw[ß] at r
  cases r with
  | @cons a b as bs h t =>
   obtain⟨rs,c,q⟩:=HI (P:=P) (w:=w) t;obtain⟨Y,Z⟩:=b;exact⟨(p.1,Z)::rs,⟨Dl h.1,rfl,c⟩,.cons ⟨rfl,h.2⟩ q⟩
def YY (qz:List (TE×TE)):TE:=fun σ H Q=>∀p,H p=none->Cz qz σ (upd H p (.dK [])) λW Y=>Y p=some (.dK [])/\∃Z:List (Key×V),W=Z.map (λX=>(kV X.1,X.2))/\Z.length<=15/\Q (.ref p) (upd Y p (.dK (pL [] Z)))
def JR (h:zN X pos keys values qz) (cx:keys.all (·.isSome)=true) (hl:keys.length=values.length) (h0:keys≠[])
 (wz:keys.length<=15):PE X (.Dict keys values pos) (YY qz):=by
 intro V s σ H Q I q;have U:=I.aE.fresh (acG s.heap.objs.size);have T:=I.laid (a:=s.heap.objs.size) (o:=.dK []) (h':=s.heap.push { cls:=.type "dict",data:=.dict #[] }) (t':=s.toks) (λ_ _ q=>Á _ q) (acG _) (Ja s.heap I.big);refine wpAny_Dict_walk (knd:=hZ X.prog X.w) cx hl h0 wz (aI (h V _ σ _ _ T (q _ U)) λws C ⟨B,A,Z,rel,e,Y,S,lk,R⟩=>?_);subst S;obtain⟨O,c,N⟩:=HI (P:=X.prog) (w:=X.w) rel;obtain⟨z,M,L,K,J⟩:=YW Z.aE e;cases K;refine⟨O,c,J,λh' W hs=>⟨.ref s.heap.objs.size,_,?_,rfl,R⟩⟩;have G:(pL [] Y).length<=Ø:=by
  have F:=Hb Y [];rw[ý] at F;rw[Ţ];omega
 have E:∃q,h'.get? s.heap.objs.size=some q:=let ⟨q,_,_,D,_⟩:=W;⟨q,D⟩
 exact JP Z (by rw[e];exact True.intro) hs E (W5 G M (N.merge .nil) W)
structure M1 (X:Cx) (o:ħ) (m:Str) (apos:Pos) (e:ħ) (bG:Pos):Prop where
 base:abp o m X.env (ō o X.env)=ō o X.env
 l9:((Ň bG (Õ [e] X.env)).all (λx=>!x.1)&&(backToKw bG (acg [] X.env)).all (λx=>x.1.isSome)
  && decide (([e]:List ħ).length+([]:List ab3).length+(if ([]:List ab3).isEmpty then 0 else 1)<30))=true
 line:(apos.endLine==bG.line)=true
 trees:Ň bG (Õ [e] X.env)=[(false,ō e X.env)]
structure M2 (X:Cx) (o:ħ) (m:Str) (apos:Pos) (e f:ħ) (bG:Pos):Prop where
 base:abp o m X.env (ō o X.env)=ō o X.env
 l9:((Ň bG (Õ [e,f] X.env)).all (λx=>!x.1)&&(backToKw bG (acg [] X.env)).all (λx=>x.1.isSome)
  && decide (([e,f]:List ħ).length+([]:List ab3).length+(if ([]:List ab3).isEmpty then 0 else 1)<30))=true
 line:(apos.endLine==bG.line)=true
 trees:Ň bG (Õ [e,f] X.env)=[(false,ō e X.env),(false,ō f X.env)]
section
variable {X:Cx} {π:List (Ù×Obj)} {σ:St} {H:Hp} {s:Ä} {a:Ù} {y d:V} {u r:Ç} {o:Option V} {A:ì} {E:Ç->Ä->Prop}
end
section
variable {X:Cx} {o e f:ħ} {apos bG:Pos} {td ty tx:TE}
end
section
variable {X:Cx} {π:List (Ù×Obj)} {σ:St} {H:Hp} {s:Ä} {a:Ù} {ai:List (Key×V)} {A:ì} {E:Ç->Ä->Prop}
end
section
variable {X:Cx} {π:List (Ù×Obj)} {σ:St} {H:Hp} {s:Ä} {a:Ù} {y:V} {u:Ç} {A:ì} {E:Ç->Ä->Prop}
end
section
variable {K:ę} {caps:St} {H:Hp} {tf:TT} {te:TE} {Q:VK}
end
noncomputable def KH (sc:ο) (on:List (Str×Ť)) (oN N:List Str) (nt:Nat) (cap:List Nat):Bool :=
 decide (sc.kind=.function)&&sc.names.all (λx=>decide (x.2≠.cell))&&sc.names.all (λx=>decide (x.2=.local->sc.names.lookup x.1=some .local)) &&
 sc.names.all (λx=>decide (x.2=.free->sc.names.lookup x.1=some .free/\(on.lookup x.1=some .cell\/on.lookup x.1=some .free)))&&decide (N.length=nt+cap.length) &&
 (Ć cap.length).all (λk=>match cap[k]? with
  |some j=>match oN[j]? with
   |some x=>decide (N[nt+k]?=some x)&&decide ((x,ê)∈sc.names)
   |none=>false
  |none=>true)
def LI (h:KH sc X.env.scope.names X.N N nt cap=true):uM X sc N nt cap:=by
 unfold KH at h;simp only[Æ,ø,É] at h;obtain⟨⟨⟨⟨⟨Z,Y⟩,W⟩,V⟩,U⟩,T⟩:=h;refine⟨Z,Y,W,λx S e=>V x S e,U,λk j e=>?_⟩;have R:k<cap.length:=(Ã.mp e).1;have:=T k (Ġ.mpr R);rw[e] at this;dsimp only at this
 cases ex:X.N[j]? with
 |none=>rw[ex] at this;cases this
 |some x =>
  rw[ex] at this;simp only[Æ,É] at this;exact⟨x,rfl,this.1,this.2⟩
end L2
namespace TS
open PySem
abbrev kJ (l:List Nat):Prop:=l.Pairwise (· < ·)
def To (xs:Array Nat) (k d:Nat):xs.getD k d=xs.toList.getD k d:=by
 cases xs with
 |mk l =>
  by_cases h:k<l.length
  ·simp[acv,ũ,h]
  ·simp[acv,ũ,h]
def xW (h:kJ l) (wB:a<b) (hb:b<l.length):l.getD a 0<l.getD b 0:=by
 have:=List.pairwise_iff_getElem.mp h a b (by omega) hb wB;simpa [ũ,Ë hb,Ë (show a<l.length by omega)] using this
def Tp (l:List Nat) (hk:k<l.length) (d e:Nat):l.getD k d=l.getD k e:=by
 simp[ũ,Ë hk]
theorem BU (xs:Array Nat) (j:Nat) (hr:kJ xs.toList):∀(fuel lo hi:Nat),hi-lo<=fuel->lo<=hi->hi<=xs.toList.length->(∀k,k<lo->xs.toList.getD k 0<j)->(∀k,hi<=k->k<xs.toList.length->j<=xs.toList.getD k 0) ->
  abJ xs j fuel lo hi<=xs.toList.length/\(∀k,k<abJ xs j fuel lo hi->xs.toList.getD k 0<j)/\(∀k,abJ xs j fuel lo hi<=k->k<xs.toList.length->j<=xs.toList.getD k 0)
 |0,lo,hi,S,R,Z,Y,X=>by
  have e:lo=hi:=by omega
  subst e;exact⟨Z,Y,X⟩
 |fuel+1,lo,hi,S,R,Z,Y,X=>by
  unfold abJ;by_cases U:lo<hi
  ·rw[ã U]
   dsimp only;have T:(lo+hi) / 2<xs.toList.length:=by omega
   rw[To,Tp _ T j 0];by_cases W:xs.toList.getD ((lo+hi) / 2) 0<j
   ·rw[ã W]
    refine BU xs j hr fuel _ _ (by omega) (by omega) Z (λk Q=>?_) X;by_cases V:k=(lo+hi) / 2
    ·rw[V];exact W
    ·exact Nat.lt_trans (xW hr (by omega) T) W
   ·rw[í W]
    refine BU xs j hr fuel _ _ (by omega) (by omega) (by omega) Y (λk Q V=>?_);by_cases P:k=(lo+hi) / 2
    ·rw[P];omega
    ·have:=xW hr (show (lo+hi) / 2<k by omega) V
     omega
  ·rw[í U]
   have e:lo=hi:=by omega
   subst e;exact⟨Z,Y,X⟩
def HJ (xs:Array Nat) (j:Nat) (hr:kJ xs.toList):Č xs j<=xs.toList.length/\(∀k,k<Č xs j->xs.toList.getD k 0<j)/\(∀k,Č xs j<=k->k<xs.toList.length->j<=xs.toList.getD k 0):=by
 unfold Č;exact BU xs j hr xs.size 0 xs.size (by omega) (Đ _) (by simp) (λk Z=>by omega) (λk Z Y=>by simp at Y;omega)
def P4 {l:List Nat} {p j:Nat} (h:∀k,k<p->l.getD k 0<j):∀x∈l.take p,x<j:=by
 intro x Y;obtain⟨k,X,e⟩:=ų Y;have Z:k<p/\k<l.length:=by rw[ab4] at X;omega
 have:=h k Z.1;rw[List.getElem_take] at e;rw[<- e];simpa [ũ,Ë Z.2] using this
def P5 {l:List Nat} {p j:Nat} (h:∀k,p<=k->k<l.length->j<=l.getD k 0):∀x∈l.drop p,j<=x:=by
 intro x Y;obtain⟨k,X,e⟩:=ų Y;have Z:p+k<l.length:=by rw[List.length_drop] at X;omega
 have:=h (p+k) (by omega) Z;rw[List.getElem_drop] at e;rw[<- e];simpa [ũ,Ë Z] using this
def Tq {xs:Array Nat} {j:Nat} (hr:kJ xs.toList) (hn:xs[Č xs j]?≠some j):kJ (SetTable.insertAt xs (Č xs j) j).toList:=by
 obtain⟨T,V,U⟩:=HJ xs j hr;rw[SetTable.toList_insertAt];have a1:=P4 V;have a2:∀x∈xs.toList.drop (Č xs j),j<x:=by
  intro x hx;have Y:=P5 U;have X:kJ (xs.toList.drop (Č xs j)):=abX (List.drop_sublist _ _) hr
  cases Z:xs.toList.drop (Č xs j) with
  |nil=>rw[Z] at hx;cases hx
  |cons y r =>
   rw[Z] at X hx Y;have hy:j≠y:=by
    intro e;apply hn;have:(xs.toList.drop (Č xs j))[0]?=some y:=by rw[Z];rfl
    rw[List.getElem?_drop] at this;have e2:xs.toList[Č xs j]?=some y:=by simpa using this
    rw[<- ĭ,e2,e]
   have W:j<y:=Nat.lt_of_le_of_ne (Y y Ð) hy
   rcases Ò.mp hx with e|hx
   ·rw[e];exact W
   ·exact Nat.lt_trans W ((ô.mp X).1 x hx)
 first
  |(refine ab7.mpr ⟨abX (List.take_sublist _ _) hr,ô.mpr ⟨a2,abX (List.drop_sublist _ _) hr⟩,λx hx y hy=>?_⟩
    rcases Ò.mp hy with e|hy
    ·rw[e];exact a1 x hx
    ·exact Nat.lt_trans (a1 x hx) (a2 y hy))
  |trace_state
theorem BV (t:SetTable) (h:Int):∀(fuel:Nat) (p:SetTable.Probe) (j:Nat) (dm:Option Nat),(∀d,p.dummy=some d->t.slot d=.dummy)->acw t (λ_=>h+1) h fuel p=some (.empty j dm)->t.slot j=.empty/\∀d,dm=some d->t.slot d=.dummy
 |0,p,j,dm,Y,e=>by simp[acw] at e
 |fuel+1,p,j,dm,Y,e=>by
  unfold acw at e
  cases hs:t.slot p.j with
  |empty =>
   rw[hs] at e;simp at e;rw[<- e.1,<- e.2];exact⟨hs,Y⟩
  |dummy =>
   rw[hs] at e;refine BV t h fuel _ j dm (λd Z=>?_) e;unfold SetTable.advance at Z;split at Z
   ·simp at Z;rw[<- Z];exact hs
   ·simp at Z;rw[<- Z];exact hs
  |live i =>
   rw[hs] at e;have X:(h+1==h)=false:=by simp;omega
   simp only[X,Ì,û] at e;refine BV t h fuel _ j dm (λd Z=>?_) e;unfold SetTable.advance at Z;split at Z
   ·exact Y d Z
   ·exact Y d Z
def Im {t:SetTable} {j:Nat} (h:t.slot j=.empty\/t.slot j=.dummy):t.place[Č t.place j]?≠some j:=by
 intro e;have:t.slot j=.live (Č t.place j):=by
  unfold SetTable.slot;simp[e]
 rw[this] at h
 rcases h with h|h<;>cases h
def RP {t:SetTable} {h:Int} {j:Nat} {b:Bool} (e:t.freeSlot h=some (j,b)):t.place[Č t.place j]?≠some j:=by
 unfold SetTable.freeSlot SetTable.probe at e;split at e
 ·rename_i Y Z X
  have k:=BV t h _ _ Y Z (λd W=>by simp[SetTable.probeStart] at W) X;simp at e;rw[<- e.1]
  cases Z with
  |none=>exact Im (.inl k.1)
  |some d=>exact Im (.inr (k.2 d rfl))
 ·cases e
structure iV (led:Bool) (t:SetTable):Prop where
 led:t.led=led
 rise:t.plain=true->kJ t.place.toList
def xt (h:iV led t) (n:Nat):iV led (t.standIn n):=⟨h.led,λz=>by simp[SetTable.standIn] at z⟩
def QC {led:Bool} {t:SetTable} (h:iV led t) (es:Array (Int×Ç)) (hs:Int) (x:Ç):iV led (layNew t es hs x).2.1:=by
 unfold layNew;split
 ·rename_i slot Y e
  dsimp only;unfold SetTable.orStandIn;have Z:iV led (t.put slot).1:=⟨h.led,λz=>Tq (h.rise z) (RP e)⟩;split
  ·exact Z
  ·exact xt Z _
 ·exact xt h _
def Tr {mask finger moves:Nat} {led plain:Bool} {hs:Array Int} {o:Array Nat} (e:SetTable.laid mask finger moves led plain hs=some (t,o)):iV led t/\t.plain=plain:=by
 unfold SetTable.laid at e
 cases X:SetTable.layClean mask hs with
 |none=>rw[X] at e;simp at e
 |some owner =>
  rw[X] at e;simp at e;obtain⟨e1,e2⟩:=e;subst e1;refine⟨⟨rfl,λ_=>?_⟩,rfl⟩;show kJ (abY _).toList;simp only[List.map_filterMap];refine List.pairwise_filterMap.mpr ?_;refine List.Pairwise.imp (R:=(· < ·)) ?_ (List.pairwise_lt_range);intro a b U x Z y Y
  cases W:(owner[a]?.getD none) with
  |none=>rw[W] at Z;simp at Z
  |some q =>
   cases V:(owner[b]?.getD none) with
   |none=>rw[V] at Y;simp at Y
   |some r =>
    rw[W] at Z;rw[V] at Y;simp at Z Y;omega
def RQ (h:iV led t) (es:Array (Int×Ç)) (n:Nat):iV led (relayAll t es n).2.1:=by
 unfold relayAll;split
 ·rename_i Z o e
  dsimp only;split
  ·unfold SetTable.relaid at e
   have k:=Tr e;exact⟨k.1.led.trans h.led,k.1.rise⟩
  ·exact xt h _
 ·exact xt h _
def RS (led:Bool):iV led (.fresh 0 0 led):=⟨rfl,λ_=>List.Pairwise.nil⟩
open PySem.Spec PyProof.Rows
section
variable {P:ä} {w:ù} {A:ì} {E:Ç->Ä->Prop} {s:Ä} {led:Bool}
def gO (P:ä) (w:ù) (led:Bool) (h:Ĳ) (a:Ù) (S:Int->Bool) (n:Nat):Prop :=
 ∃o Z Y t,h.get? a=some o/\o.ExactSet/\o.data=.set Z Y t/\ElemsOf (ŗ P w) Z.toList/\(∀k,S k=true↔∃e∈Z.toList,(ŗ P w).is k e.2=true)/\Z.size<aa0/\t.fits Z.size=true/\Z.size=n/\iV led t
def gO.at (x:gO P w led h a S n) (k:∀o,h.get? a=some o->h'.get? a=some o):gO P w led h' a S n:=by
 obtain⟨o,Z,Y,t,X,r⟩:=x;exact⟨o,Z,Y,t,k o X,r⟩
def gO.congr (x:gO P w led h a S n) (e:∀k,S k=S' k) (en:n=n'):gO P w led h a S' n':=by
 obtain rfl:S=S':=funext e;subst en;exact x
def BW {a:Ù} {u:Obj} {es gw:Array (Int×Ç)} {ep:Nat} {t t':SetTable} {h:Ĳ} (hu:h.get? a=some u) (hx:u.ExactSet) (hd:u.data=.set es ep t) {S:Int->Bool}
  (c1:ElemsOf (ŗ P w) gw.toList) (c2:∀k,S k=true↔∃e∈gw.toList,(ŗ P w).is k e.2=true) (c3:gw.size<aa0) (c4:t'.fits gw.size=true) (c5:iV led t') :
  (h.update a (Obj.putSet gw t')).get? a=some { u with data:=.set gw (ep+1) t' }/\gO P w led (h.update a (Obj.putSet gw t')) a S gw.size:=by
 have g:=(SetOf_store (knd:=ŗ P w) hu hx hd c1 c2 c3 c4).1;exact⟨g,_,gw,ep+1,t',g,hx,rfl,c1,c2,c3,c4,rfl,c5⟩
def Vo {a:Ù} {S:Int->Bool} {n:Nat} {k:Int} {tk:Tok} {Q:Bool->Ä->Prop} (hS:gO P w led s.heap a S n) (YZ:n+1<aa0)
  (h:∀h',ī a s.heap h'->gO P w led h' a (λj=>S j||decide (j=k)) (if S k then n else n+1)->Q (!S k) { s with heap:=h' }) :
  Ý (â P w) A (setAddHashed a (.int k tk) ((ŗ P w).hash k)) Q E s:=by
 obtain⟨u,W,d,t,R,H,O,G,F,m,B,y,i⟩:=hS;have ky:(ŗ P w).is k (.int k tk)=true:=intKind_is _ _ _ _;have sc:(acd k tk).scannable=true:=rfl;have wC:W.size+1<aa0:=by rw[y];exact YZ
 unfold setAddHashed setAddHashedIn;refine ě ?_;refine À (Ū R O B ?_);dsimp only;rw[byScan_of sc m G,ã rfl];unfold setAddByScan;refine À (À (ś ?_));refine À (wpAny_setScan_of ky R O B G ?_)
 cases g:W.toList.findIdx? (λe=>(ŗ P w).is k e.2) with
 |some j =>
  dsimp only;obtain⟨c,pj,_⟩:=List.findIdx?_eq_some_iff_getElem.mp g;have K:S k=true:=(F k).mpr ⟨W.toList[j],ab5 c,pj⟩;have q:=h s.heap (Heap.SameBut.refl a s.heap) ⟨u,W,d,t,R,H,O,G,λj'=>by
   rw[ack,É,<- F j'];exact⟨λz=>z.elim id λe=>by rw[e];exact K,Ź⟩,m,B,by rw[K];exact y,i⟩
  rw[K] at q;exact Â (Â q)
 |none =>
  dsimp only;have K:S k=false:=by
   rw[<- aa6,F k];rintro ⟨e,X,pe⟩;have z:=List.findIdx?_eq_none_iff.mp g e X;rw[pe] at z;cases z
  have way:∀(b:Bool) {x:Ä} {v:Unit->Ä->Prop},v () x->Ý (â P w) A (match b with|true=>rule "set.scan.the-table-gave-way"|false=>pure ()) v E x :=
   λb x v q=>by cases b<;>first|exact Â q|exact ś q
  have pm:=layNew_perm t W ((ŗ P w).hash k) (.int k tk);have r:=layNew_fits t W ((ŗ P w).hash k) (.int k tk);have D:=QC i W ((ŗ P w).hash k) (.int k tk);generalize layNew t W ((ŗ P w).hash k) (.int k tk)=L at pm r D |-;obtain⟨Z,t1,aep,aew⟩:=L;dsimp only at pm r D |-;rw[abK] at pm;have p:ElemsOf (ŗ P w) Z.toList:=(G.push ky sc).perm pm;have o:∀j,(S j||decide (j=k))=true↔∃e∈Z.toList,(ŗ P w).is j e.2=true:=mem_push_iff ky F pm;have z1:Z.size=n+1:=by
   have l:=pm.length_eq;rw[ó,ñ,ñ,y] at l;exact l
  have V:Z.size<aa0:=by omega
  refine À (way _ ?_);obtain⟨g1,f⟩:=BW (S:=λj=>S j||decide (j=k)) R H O p o V r D;have C:=ď s.heap a (Obj.putSet Z t1)
  have fin:∀h',ī a s.heap h'->gO P w led h' a (λj=>S j||decide (j=k)) Z.size->Q true { s with heap:=h' }:=λh' sb T=>by
   have q:=h h' sb;rw[K] at q;rw[z1] at T;exact q T
  have Y:=relayAll_perm t1 Z (abT Z.size);have N:=relayAll_fits t1 Z (abT Z.size);have M:=RQ D Z (abT Z.size);have hv:hashByValue 8 (acd k tk)=pure true:=rfl;split
  ·refine À ?_
   rw[hv];refine Â ?_;simp only[Ā];refine À (abL R O ?_ (χ V));split
   ·generalize relayAll t1 Z (abT Z.size)=L2 at Y N M |-
    obtain⟨J,t2,Y0⟩:=L2;dsimp only at Y N M |-;have U:J.size=Z.size:=by
     have l:=Y.length_eq;rwa [ñ,ñ] at l
    have f2:∀j,(S j||decide (j=k))=true↔∃e∈J.toList,(ŗ P w).is j e.2=true:=λj=>(o j).trans ⟨λ⟨e,X,q⟩=>⟨e,Y.mem_iff.mpr X,q⟩,λ⟨e,X,q⟩=>⟨e,Y.mem_iff.mp X,q⟩⟩;refine À (way _ ?_);refine À (abL g1 rfl ?_ (χ (by rw[U];exact V)));obtain⟨g2,I⟩:=BW (S:=λj=>S j||decide (j=k)) (led:=led) g1 H rfl (p.perm Y) f2 (by rw[U];exact V) N M;rw[U] at I;exact Â (Â (fin _ (C.trans (ď _ a _)) I))
   ·exact Â (Â (fin _ C f))
  ·refine À (Â ?_)
   simp only[Ā];refine À (abL R O ?_ (χ V));split
   ·generalize relayAll t1 Z (abT Z.size)=L2 at Y N M |-
    obtain⟨J,t2,Y0⟩:=L2;dsimp only at Y N M |-;have U:J.size=Z.size:=by
     have l:=Y.length_eq;rwa [ñ,ñ] at l
    have f2:∀j,(S j||decide (j=k))=true↔∃e∈J.toList,(ŗ P w).is j e.2=true:=λj=>(o j).trans ⟨λ⟨e,X,q⟩=>⟨e,Y.mem_iff.mpr X,q⟩,λ⟨e,X,q⟩=>⟨e,Y.mem_iff.mp X,q⟩⟩;refine À (way _ ?_);refine À (abL g1 rfl ?_ (χ (by rw[U];exact V)));obtain⟨g2,I⟩:=BW (S:=λj=>S j||decide (j=k)) (led:=led) g1 H rfl (p.perm Y) f2 (by rw[U];exact V) N M;rw[U] at I;exact Â (Â (fin _ (C.trans (ď _ a _)) I))
   ·exact Â (Â (fin _ C f))
end
def OU:entryFor table "set.__iter__"=some Ŗ.«frozenset.__iter__»:=entryFor_alias (id':="frozenset.__iter__") (by kernel_rfl) rfl (by decide +kernel) (by kernel_rfl)
def j9:Slot "set_iterator" "__next__" "set_iterator.__next__" :=
 .of (owner:="set_iterator") (n:="__next__") (by rw[typeLookup_type,builtinLookup_eq_fast];kernel_rfl) (by decide +kernel) (by decide +kernel) (by decide +kernel)
  (by first|exact .inl (by decide +kernel)|exact .inr (by decide +kernel)) (by rw[isSubtype_type];kernel_rfl)
def xn:entryFor table "set_iterator.__next__"=some Ŗ.«set_iterator.__next__»:=entryFor_of_tree (by kernel_rfl)
def xq (a:Ç):argsOk "set_iterator.__next__" ⟨[a],[]⟩:=by unfold argsOk;kernel_rfl
def Hf:Slot "set_iterator" "__iter__" "set_iterator.__iter__" :=
 .of (owner:="set_iterator") (n:="__iter__") (by rw[typeLookup_type,builtinLookup_eq_fast];kernel_rfl) (by decide +kernel) (by decide +kernel) (by decide +kernel)
  (by first|exact .inl (by decide +kernel)|exact .inr (by decide +kernel)) (by rw[isSubtype_type];kernel_rfl)
def ji (h:Ĳ) (I a:Ù) (first:Ç) (i n ep:Nat):Prop:=∃o,h.get? I=some o/\o.cls=.type "set_iterator"/\o.data=.fields #[first,.int i 0,.ref a,.int n 0,.int ep 0]
section
variable {P:ä} {w:ù} {A:ì} {E:Ç->Ä->Prop} {s:Ä}
def JS {slot i n ep nx:Nat} {es:Array (Int×Ç)} {Q:Option Ç->Ä->Prop} (hit:ji s.heap I a (.int slot 0) i n ep)
 (hu:s.heap.get? a=some u) (hd:u.data=.set es ep t) (hf:t.fits es.size=true) (hn:es.size=n)
 (hs:∀(A':ì) (Q':Option (Ç×Nat)->Ä->Prop) (E':Ç->Ä->Prop),Q' (some (x,nx)) s->Ý (â P w) A' (setNext a slot i ep) Q' E' s)
 (hQ:∀h',ji h' I a (.int nx 0) (i+1) n ep->ī I s.heap h'->Q (some x) { s with heap:=h' }):Ý (â P w) A (δ (.ref I)) Q E s:=by
 obtain⟨o,Y,X,Z⟩:=id hit;have W:s.TypeIs (.ref I) "set_iterator":=⟨o,Y,X⟩;unfold δ;refine À (Ŏ (ü (name:=ĉ "__next__") W j9
  (ö j9 W xn ?_ (xq _))))
 unfold Ŗ.«set_iterator.__next__» slotArgs;simp only[aa7,đ,Ì,↓reduceIte,bind_assoc,ý,Ĕ];refine À (Â ?_);refine À (aa1 Y Z ?_);dsimp only;refine À (ŵ hu hd hf ?_);rw[hn];simp only[Ĕ,Ì,↓reduceIte,ē];refine À (hs _ _ _ ?_);dsimp only;refine À (Ő Y Z (by simp) ?_);refine À (Ő (Ė _ Y (ĵ (ă Z _))) (ă Z _) (by simp) ?_);refine Â ⟨x,rfl,Â (hQ _ ⟨_,Ė _ (Ė _ Y (ĵ (ă Z _))) (ĵ (ă (ă Z _) _)),(υ ..).trans ((υ ..).trans X),?_⟩ ((ď ..).trans (ď ..)))⟩;rw[ă (ă Z _)];simp[ŭ]
def QD (hm:m≠0) (h:Q (w.draws src (s.drawn.get src) % m) { s with drawn:=s.drawn.bump src }):Ý (â P w) A (choose src m) Q E s:=fun Y p Z=>by
 unfold choose;rw[Sem.wp_choose];exact⟨hm,h⟩
def Io (hh:A.handled=none) (ho:s.heap.get? I=some o) (eJ:o.data=.fields vs) (h2:2<vs.size)
 (hQ:∀h',aba I s.heap h'->Q none { s with heap:=h' }) :
  Ý (â P w) A.in1 (setField (.ref I) 2 .none >>= λ_=>newExc (.type "StopIteration") [] >>= λe=>(raiseNew e:Sem Fin)) (λfin s'=>∃v,fin=Fin.done (Flow.ret v)/\Ý (â P w) A (pure (some v)) Q E s')
   (λe s'=>Ý (â P w) A (isInstance e (abF "StopIteration") >>= λb=>if b=true then pure none else throw e) Q E s') s:=by
 refine À (Ő ho eJ h2 ?_);refine À ?_;simp only[newExc,newTuple];refine À (ï ?_ (by size_fits))
 refine À (m:=aaX _ _) (wpAny_of_eq (a:=Value.none) (by first|rfl | (simp only[aaX];rfl)) ?_)
 refine ï ?_ (by size_fits);simp only[raiseNew];refine À (wpAny_handled ?_)
 first|rw[show A.in1.handled=none from hh]|rw[hh]
 refine À (Â (wpAny_throw ?_));refine À (aa5 (T:="StopIteration") (b:=true) ⟨_,Ô _ rfl,rfl⟩ isSubtype_stop ?_);exact Â (hQ _ (((ď ..).extBut.push _).push _))
def KI {slot i n ep:Nat} {es:Array (Int×Ç)} {Q:Option Ç->Ä->Prop} (hh:A.handled=none) (hit:ji s.heap I a (.int slot 0) i n ep)
 (hu:s.heap.get? a=some u) (hd:u.data=.set es ep t) (hf:t.fits es.size=true) (hn:es.size=n)
 (hs:∀(A':ì) (Q':Option (Ç×Nat)->Ä->Prop) (E':Ç->Ä->Prop),Q' none s->Ý (â P w) A' (setNext a slot i ep) Q' E' s)
 (hQ:∀h',aba I s.heap h'->Q none { s with heap:=h' }):Ý (â P w) A (δ (.ref I)) Q E s:=by
 obtain⟨o,Z,W,Y⟩:=id hit;have X:s.TypeIs (.ref I) "set_iterator":=⟨o,Z,W⟩;unfold δ;refine À (Ŏ (ü (name:=ĉ "__next__") X j9
  (ö j9 X xn ?_ (xq _))))
 unfold Ŗ.«set_iterator.__next__» slotArgs;simp only[aa7,đ,Ì,↓reduceIte,bind_assoc,ý,Ĕ];refine À (Â ?_);refine À (aa1 Z Y ?_);dsimp only;refine À (ŵ hu hd hf ?_);rw[hn];simp only[Ĕ,Ì,↓reduceIte,ē];refine À (hs _ _ _ ?_);dsimp only;exact Io hh Z Y (by simp) hQ
def Ts {i n ep pl:Nat} {es:Array (Int×Ç)} {x:Int×Ç} {Q:Option Ç->Ä->Prop} (hit:ji s.heap I a (.ref tp) i n ep)
 (hu:s.heap.get? a=some u) (hd:u.data=.set es ep t) (hf:t.fits es.size=true) (hn:es.size=n) (wF:s.heap.IsTuple tp places) (bX:places[i]?=some (.int pl tk)) (hx:es[pl]?=some x)
 (hQ:∀h',ji h' I a (.ref tp) (i+1) n ep->ī I s.heap h'->Q (some x.2) { s with heap:=h' }):Ý (â P w) A (δ (.ref I)) Q E s:=by
 obtain⟨o,Z,X,Y⟩:=id hit;obtain⟨op,V,U,np,T⟩:=wF;have W:s.TypeIs (.ref I) "set_iterator":=⟨o,Z,X⟩;unfold δ;refine À (Ŏ (ü (name:=ĉ "__next__") W j9
  (ö j9 W xn ?_ (xq _))))
 unfold Ŗ.«set_iterator.__next__» slotArgs;simp only[aa7,đ,Ì,↓reduceIte,bind_assoc,ý,Ĕ];refine À (Â ?_);refine À (aa1 Z Y ?_);dsimp only;refine À (ŵ hu hd hf ?_);rw[hn];simp only[Ĕ,Ì,↓reduceIte,ē];refine À (ı V T ?_);dsimp only;rw[bX];dsimp only;unfold setNextDrawn;refine À (À (Ū hu hd hf ?_));dsimp only;simp only[Ĕ,Ì,↓reduceIte,ē];rw[hx];dsimp only;refine Â ?_;refine À (Ő Z Y (by simp) ?_);refine Â ⟨x.2,rfl,Â (hQ _ ⟨_,Ė _ Z (ĵ (ă Y _)),(υ ..).trans X,?_⟩ (ď ..))⟩;rw[ă Y];simp[ŭ]
def Vp (hh:A.handled=none) (hit:ji s.heap I a (.ref tp) i n ep)
 (hu:s.heap.get? a=some u) (hd:u.data=.set es ep t) (hf:t.fits es.size=true) (hn:es.size=n) (wF:s.heap.IsTuple tp places) (bX:places[i]?=none)
 (hQ:∀h',aba I s.heap h'->Q none { s with heap:=h' }):Ý (â P w) A (δ (.ref I)) Q E s:=by
 obtain⟨o,Z,W,Y⟩:=id hit;obtain⟨op,V,U,np,T⟩:=wF;have X:s.TypeIs (.ref I) "set_iterator":=⟨o,Z,W⟩;unfold δ;refine À (Ŏ (ü (name:=ĉ "__next__") X j9
  (ö j9 X xn ?_ (xq _))))
 unfold Ŗ.«set_iterator.__next__» slotArgs;simp only[aa7,đ,Ì,↓reduceIte,bind_assoc,ý,Ĕ];refine À (Â ?_);refine À (aa1 Z Y ?_);dsimp only;refine À (ŵ hu hd hf ?_);rw[hn];simp only[Ĕ,Ì,↓reduceIte,ē];refine À (ı V T ?_);dsimp only;rw[bX];dsimp only;refine À (Ő Z Y (by simp) ?_)
 exact Io (s:={ s with heap:=_ }) hh (Ė _ Z (ĵ (ă Y _))) (ă Y _) (by simp) λh' e=>hQ h' (Heap.ExtBut.trans (ď ..).extBut e)
end
def O3:entryFor table "set_iterator.__iter__"=some Ŗ.«dict_keyiterator.__iter__»:=entryFor_alias (id':="dict_keyiterator.__iter__") (by kernel_rfl) rfl (by decide +kernel) (by kernel_rfl)
def Pn (a:Ç):argsOk "set_iterator.__iter__" ⟨[a],[]⟩:=by unfold argsOk;kernel_rfl
section
variable {P:ä} {w:ù} {A:ì} {E:Ç->Ä->Prop} {s:Ä}
def BX (hit:ji s.heap I a f i n ep) (h:Q (.ref I) s):Ý (â P w) A (pyIter (.ref I)) Q E s:=by
 obtain⟨o,Y,X,W⟩:=id hit;have Z:s.TypeIs (.ref I) "set_iterator":=⟨o,Y,X⟩;refine wpAny_pyIter_slot Z Hf (ö Hf Z O3 ?_ (Pn _));show Ý _ _ (ret (.ref I)) _ _ s;exact Â ⟨_,rfl,"set_iterator",_,Z,j9.lookup,h⟩
def ji.at (x:ji h I a f i n ep) (k:∀o,h.get? I=some o->h'.get? I=some o):ji h' I a f i n ep:=by
 obtain⟨o,Z,r⟩:=x;exact⟨o,k o Z,r⟩
def Ip (iK:w.params.followText "set-order"=true) (hu:s.heap.get? a=some u) (hd:u.data=.set es ep t) (hf:t.fits es.size=true)
 (h:Q' (((ź (w.params.setOrder a ep) es)[i]?).map λe=>(e.2,slot)) s):Ý (â P w) A (setNext a slot i ep) Q' E s:=by
 unfold setNext;refine À (Ū hu hd hf ?_);dsimp only;unfold setsByText;refine À (À (ŝ (Â ?_)))
 show Ý _ _ (if w.params.followText "set-order"=true then _ else _) _ _ _
 rw[ã iK];simp only[Ĕ,Ì,↓reduceIte];unfold setWalk;refine À (À (Ū hu hd hf ?_));dsimp only;unfold setsByText;refine À (À (ŝ (Â ?_)))
 show Ý _ _ (if w.params.followText "set-order"=true then _ else _) _ _ _
 rw[ã iK];refine À (ŝ (Â ?_));exact Â h
def rb (hr:kJ xs.toList) (hi:i<=xs.toList.length) (h1:∀k,k<i->xs.toList.getD k 0<slot) (h2:∀k,i<=k->k<xs.toList.length->slot<=xs.toList.getD k 0):Č xs slot=i:=by
 obtain⟨V,a1,a2⟩:=HJ xs slot hr;by_cases Y:Č xs slot<i
 ·have X:=a2 _ (acG _) (by omega)
  have W:=h1 _ Y;omega
 ·by_cases Z:i<Č xs slot
  ·have X:=a1 i Z
   have W:=h2 i (acG _) (by omega);omega
  ·omega
def HK (iK:w.params.followText "set-order"=false) (hu:s.heap.get? a=some u) (hd:u.data=.set es ep t) (hf:t.fits es.size=true)
 (hl:t.led=true) (hp:t.plain=true\/es.size<=1) (hb:Č t.place slot=i)
 (h:Q' (match es[i]?,t.place[i]? with|some (_,x),some j=>some (x,j+1) | _,_=>none) s):Ý (â P w) A (setNext a slot i ep) Q' E s:=by
 unfold setNext;refine À (Ū hu hd hf ?_);dsimp only;unfold setsByText;refine À (À (ŝ (Â ?_)))
 show Ý _ _ (if w.params.followText "set-order"=true then _ else _) _ _ _
 rw[í (by rw[iK];decide)];split
 ·rename_i Z
  have Y:(!t.plain&&decide (es.size > 1))=true:=Z
  rcases hp with hp|hp
  ·rw[hp] at Y;cases Y
  ·simp at Y;omega
 ·refine À ?_
  show Ý _ _ (if (!t.led&&!es.isEmpty)=true then _ else _) _ _ _
  rw[hl];simp only[đ,Bool.false_and,Ì,↓reduceIte];refine Â ?_;rw[hb];exact Â h
def AX (sb:ī I s.heap h'):Moved [I] (λa b=>b=a) s { s with heap:=h' }:=⟨λb o Z e=>by rw[sb.2 b (λz=>Z (by simp[z]))];exact e,rfl,rfl,rfl,acG _⟩
def A2 (sb:aba I s.heap h'):Moved [I] (λa b=>b=a) s { s with heap:=h' }:=⟨λb o Z e=>sb b o (λz=>Z (by simp[z])) e,rfl,rfl,rfl,acG _⟩
end
def QE (hh:A.handled=none) (dF:a≠I) (iK:w.params.followText "set-order"=true) (hd:u.data=.set es ep t) (hf:t.fits es.size=true) (hsz:(ź (w.params.setOrder a ep) es).size=es.size) :
  WalksS P w A I [I,a] [I] (λa b=>b=a) es.size (λi v=>((ź (w.params.setOrder a ep) es).map (·.2))[i]?=some v) (λi s=>ji s.heap I a (.int 0 0) i es.size ep/\s.heap.get? a=some u) where
 sub:=λb W=>by simp at W;simp[W]
 grefl:=λ_=>rfl
 gtrans:=λ_ _ _ T S=>S.trans T
 frame:=λi s V L Z _ U=>⟨Z.1.at λo e=>U I (by simp) o e,U a (by simp) _ Z.2⟩
 item:=λi s Q E hi Z Y=>by
  have R:i<(ź (w.params.setOrder a ep) es).size:=by rw[hsz];exact hi
  have ex:(ź (w.params.setOrder a ep) es)[i]?=some (ź (w.params.setOrder a ep) es)[i]:=by simp[R]
  refine JS (nx:=0) (x:=(ź (w.params.setOrder a ep) es)[i].2) (slot:=0) Z.1 Z.2 hd hf rfl (λO N M q=>Ip iK Z.2 hd hf (by rw[ex];exact q)) λV it X=>?_;exact Y _ _ (by simp[ex]) ⟨it,by rw[X.2 a dF];exact Z.2⟩ (AX X)
 done:=λs Q E Z Y=>by
  refine KI (slot:=0) hh Z.1 Z.2 hd hf rfl (λO N M q=>Ip iK Z.2 hd hf (by
   rw[show (ź (w.params.setOrder a ep) es)[es.size]?=none by simp[hsz]];exact q)) λV X=>Y _ (A2 X)
 self:=λi s Q E Z Y=>BX Z.1 Y
def P6 (hh:A.handled=none) (dF:a≠I) (iK:w.params.followText "set-order"=false) (hd:u.data=.set es ep t) (hf:t.fits es.size=true) (hl:t.led=true) (hp:t.plain=true\/es.size<=1) (hr:kJ t.place.toList) :
  WalksS P w A I [I,a] [I] (λa b=>b=a) es.size (λi v=>(es.map (·.2))[i]?=some v) (λi s=>∃slot:Nat,ji s.heap I a (.int slot 0) i es.size ep/\s.heap.get? a=some u/\i<=es.size/\(∀k,k<i->t.place.toList.getD k 0<slot)/\∀k,i<=k->k<t.place.toList.length->slot<=t.place.toList.getD k 0) where
 sub:=λb M=>by simp at M;simp[M]
 grefl:=λ_=>rfl
 gtrans:=λ_ _ _ K J=>J.trans K
 frame:=λi s L B Y _ V=>by
  obtain⟨slot,X,Z,T⟩:=Y;exact⟨slot,X.at λo e=>V I (by simp) o e,V a (by simp) _ Z,T⟩
 item:=λi s Q E hi Y W=>by
  obtain⟨slot,X,Z,T,S,R⟩:=Y;have H:t.place.toList.length=es.size:=by
   simp only[SetTable.fits,Æ,beq_iff_eq,É] at hf;simpa using hf.1
  have O:i<t.place.toList.length:=by omega
  have e1:es[i]?=some es[i]:=by simp[hi]
  have e2:t.place[i]?=some (t.place.toList.getD i 0):=by
   rw[<- ĭ,Ë O];simp[ũ,Ë O]
  refine JS (nx:=t.place.toList.getD i 0+1) (x:=es[i].2) (slot:=slot) X Z hd hf rfl (λG F D q=>HK iK Z hd hf hl hp (rb hr (by omega) S R) (by rw[e1,e2];exact q)) λL it U=>?_;refine W _ _ (by simp[e1]) ⟨_,it,by rw[U.2 a dF];exact Z,hi,λk V=>?_,λk V C=>?_⟩ (AX U)
  ·by_cases N:k=i
   ·rw[N];omega
   ·have:=xW hr (show k<i by omega) O
    omega
  ·have:=xW hr (show i<k by omega) C
   omega
 done:=λs Q E Y W=>by
  obtain⟨slot,X,Z,T,S,R⟩:=Y;have H:t.place.toList.length=es.size:=by
   simp only[SetTable.fits,Æ,beq_iff_eq,É] at hf;simpa using hf.1
  refine KI (slot:=slot) hh X Z hd hf rfl (λG F D q=>HK iK Z hd hf hl hp (rb hr (by omega) S R) (by
   rw[show es[es.size]?=none by simp];exact q)) λL U=>W _ (A2 U)
 self:=λi s Q E Y W=>by
  obtain⟨slot,X,_⟩:=Y;exact BX X W
def P7 (hh:A.handled=none) (dF:a≠I) (hnt:tp≠I) (hd:u.data=.set es ep t) (hf:t.fits es.size=true) (pl:List Nat) (bX:pl.length=es.size) (nD:∀x∈pl,x<es.size) :
  WalksS P w A I [I,a,tp] [I] (λa b=>b=a) es.size (λi v=>(pl.map λk=>(es.getD k (0,Value.none)).2)[i]?=some v) (λi s=>ji s.heap I a (.ref tp) i es.size ep/\s.heap.get? a=some u/\s.heap.IsTuple tp (pl.map λ(k:Nat)=>ŭ k).toArray) where
 sub:=λb U=>by simp at U;simp[U]
 grefl:=λ_=>rfl
 gtrans:=λ_ _ _ R O=>O.trans R
 frame:=λi s T tk Z _ Y=>⟨Z.1.at λo e=>Y I (by simp) o e,Y a (by simp) _ Z.2.1,let ⟨o,V,r⟩:=Z.2.2;⟨o,Y tp (by simp) o V,r⟩⟩
 item:=λi s Q E hi Z X=>by
  have S:i<pl.length:=by omega
  have e1:pl[i]?=some pl[i]:=Ë S;have Y:=nD _ (ab5 S);refine Ts (pl:=pl[i]) (x:=es.getD pl[i] (0,Value.none)) (tk:=0) Z.1 Z.2.1 hd hf rfl Z.2.2 (by simp[e1,ŭ]) (by simp[Y,acv]) λT it W=>?_
  refine X _ _ (by simp[e1]) ⟨it,by rw[W.2 a dF];exact Z.2.1,let ⟨o,V,r⟩:=Z.2.2;⟨o,by rw[W.2 tp hnt];exact V,r⟩⟩ (AX W)
 done:=λs Q E Z X=>Vp hh Z.1 Z.2.1 hd hf rfl Z.2.2 (by simp[bX]) λT W=>X _ (A2 W)
 self:=λi s Q E Z X=>BX Z.1 X
noncomputable def fv (w:ù):Bool:=!(w.params.followText "set-order")
section
variable {P:ä} {w:ù} {A:ì} {E:Ç->Ä->Prop} {s:Ä}
def Tt (a:Ç)
 (hq:Q₁ (.ref s.heap.objs.size) { s with heap:=s.heap.push { cls:=.type "set",dict:=none,data:=.set #[] 0 (.fresh 0 0 (fv w)) } }) :
  η (â P w) A (.call (.builtin "set.__new__") ⟨[.type "set",a],[]⟩) (wants Q₁ E) s:=by
 refine codeAny_of_tree ?_;show Ý _ A.in1 (checkBuiltinCall "set.__new__" ⟨[.type "set",a],[]⟩ >>= λ_=>again (.builtin "set.__new__" ⟨[.type "set",a],[]⟩)) _ _ s;refine À ?_;refine wpAny_of_eq (F.newCall_set_1 a) ?_;refine Â ⟨plainId_quiet F.plain_set_new _,ū F.entry_set_new ?_⟩;rw[Ŧ F.plain_set_new _];unfold Ŗ.«set.__new__» Builtin.Frozenset.newClass;have ss:=sub_set_self;obtain⟨Z,Y,X,W,V⟩:=s;dsimp only
 wp_walk
 refine ŝ (Â ?_);dsimp only;simp only[newObj];refine À (wpAny_alloc ?_);exact Â (Â hq)
end
section
variable {P:ä} {w:ù} {A:ì} {R:Result->Ä->Prop} {I:Ù} {fp wr:List Ù} {G:Array GenState->Array GenState->Prop} {n:Nat} {Pv:Nat->Ç->Prop} {St:Nat->Ä->Prop} {led:Bool}
def Tu (val:Nat->Int) {i n:Nat} (h:i<=n):(ŏ val i).length<=(ŏ val n).length:=by
 induction h with
 |refl=>exact acG _
 |step _ ih =>
  refine Þ ih ?_;rw[firstMet_succ,step_length]
  split<;>omega
def Tv (W:WalksS P w A.in1 I fp wr G n Pv St) (S:Ù) (wG:S∉fp)
  (val:Nat->Int) (aar:∀i v,Pv i v->∃t,v=.int (val i) t) (hb:(ŏ val n).length+1<aa0) :
  ∀(k i:Nat) (s:Ä),n-i=k->i<=n->St i s ->
   gO P w led s.heap S (λj=>(ŏ val i).any (·==j)) (ŏ val i).length ->
   (∀s',Moved (S::wr) G s s'->gO P w led s'.heap S (λj=>(ŏ val n).any (·==j)) (ŏ val n).length->R (.ok (.ret .none)) s') ->
   η (â P w) A (.builtin "set.update.loop" ⟨[.ref S,.ref I],[]⟩) R s:=by
 have nw:S∉wr:=λz=>wG (W.sub _ z);have sw:∀b∈wr,b∈S::wr:=λb z=>Ê _ z;intro k
 induction k with
 |zero =>
  intro i s O hi Z T Y;obtain rfl:i=n:=by omega
  refine ū F.entry_set_update_loop ?_;rw[Ŧ abt _];show Ý _ A.in1 (δ (.ref I) >>= _) _ _ s;refine À (W.done s _ _ Z λs' m=>?_);show Ý _ A.in1 (ret Value.none) _ _ s';exact Â (Y s' (m.mono sw) (T.at λo e=>m.heap S o nw e))
 |succ k ih =>
  intro i s O hi Z T Y;have lt:i<n:=by omega
  refine ū F.entry_set_update_loop ?_;rw[Ŧ abt _];show Ý _ A.in1 (δ (.ref I) >>= _) _ _ s;refine À (W.item i s _ _ lt Z λv s' pv N m=>?_);obtain⟨t,rfl⟩:=aar i v pv;have M:=T.at (h':=s'.heap) λo e=>m.heap S o nw e;show Ý _ A.in1 (abj [acd (val i) t] (setAdd S (.int (val i) t)) >>= _) _ _ s';refine À (ě ?_);unfold setAdd;refine ě ?_;refine À ((ŗ P w).pyHash (k:=val i) (intKind_is _ _ _ _) ?_);have room:(ŏ val i).length+1<aa0:=by have:=Tu val hi;omega
  refine Vo (s:={ s' with toks:=s'.toks+1 }) M room λh' Q L=>?_
  have K:gO P w led h' S (λj=>(ŏ val (i+1)).any (·==j)) (ŏ val (i+1)).length:=L.congr (λj=>by rw[firstMet_succ,step_any]) (by rw[firstMet_succ,step_length]);refine Â ⟨plainId_quiet abt _,ih (i+1) _ (by omega) lt (W.frame _ s' _ _ N (abb _) λb X o e=>?_) K λJ V U=>?_⟩
  ·rw[Q.2 b λz:b=S=>wG (z ▸ X)];exact e
  ·refine Y J (Moved.trans W.gtrans ((m.mono sw).then_heap (abb _) λb o X e=>?_) V) U
   rw[Q.2 b λz:b=S=>X (by rw[z];exact Ð)];exact e
end
section
variable {P:ä} {w:ù} {A:ì} {E:Ç->Ä->Prop} {s:Ä}
def QG   
 (hh:A.handled=none) (hl:s.heap.IsList l its) (hi:abG its.toList ns) (hb:(ŏ (λi=>ns.getD i 0) its.size).length+1<aa0)
 (h:∀(h':Ĳ) (tk:Nat),gO P w (fv w) h' s.heap.objs.size (λk'=>(ŏ (λi=>ns.getD i 0) its.size).any (·==k')) (ŏ (λi=>ns.getD i 0) its.size).length ->
 (∀b o,b<s.heap.objs.size->s.heap.get? b=some o->h'.get? b=some o)->Q (.ref s.heap.objs.size) { s with heap:=h',toks:=tk }) :
  Ý (â P w) A (call (.type "set") [.ref l]) Q E s:=by
 obtain⟨c,tl,ur⟩:=μ.mro;have um:=μ.made;have ub:=μ.sub;refine wpAny_call (codeAny_of_tree ?_);show Ý _ _ (callAny (.type "set") _) _ _ _;refine Â ⟨Code.quiet_builtin _ (by decide +kernel),ū F.entry_type_call ?_⟩;rw[Around.under_plain (weight_type_call_type "set" [.ref l] []) rfl];have h1:=μ.notType;have h2:=μ.canCreate;have J:=F.typeCall_set_1 (.ref l)
 repeat (any_goals (first|assumption|wp_step))
 refine Ů (Tt (.ref l) (E:=E) (Q₁:=λobj S=>obj=.ref s.heap.objs.size/\S={ s with heap:=s.heap.push { cls:=.type "set",dict:=none,data:=.set #[] 0 (.fresh 0 0 (fv w)) } }) ⟨rfl,rfl⟩) λr S Y=>?_
 cases r with
 |error e=>exact Y
 |ok I =>
  cases I with
  |ret obj =>
   obtain⟨rfl,rfl⟩:=Y;have v:(s.heap.push { cls:=.type "set",dict:=none,data:=.set #[] 0 (.fresh 0 0 (fv w)) }).get? s.heap.objs.size=some { cls:=.type "set",dict:=none,data:=.set #[] 0 (.fresh 0 0 (fv w)) }:=Ô _ rfl
   have H:Shared.TypeIs { s with heap:=s.heap.push { cls:=.type "set",dict:=none,data:=.set #[] 0 (.fresh 0 0 (fv w)) } } (.ref s.heap.objs.size) "set":=⟨_,v,rfl⟩
   have vl:=μ.init.lookup;have vb:=μ.init.bind (.ref s.heap.objs.size)
   repeat (any_goals (first|assumption|wp_step))
   refine Ů (codeAny_call_builtin (R:=wants (λr O=>r=.none/\∃h' tk,O={ s with heap:=h',toks:=tk } /\
     gO P w (fv w) h' s.heap.objs.size (λk'=>(ŏ (λi=>ns.getD i 0) its.size).any (·==k')) (ŏ (λi=>ns.getD i 0) its.size).length /\
     (∀b o,b<s.heap.objs.size->s.heap.get? b=some o->h'.get? b=some o)) E) μ.init.plain F.entry_set_init (check_set_init_1 H ?_)) λX O W=>?_
   ·obtain⟨ol,N,M,nn,L⟩:=hl
    obtain⟨oc,G,oa,V⟩:=ol;simp only at M L;subst M;subst L;have U:(s.heap.push { cls:=.type "set",dict:=none,data:=.set #[] 0 (.fresh 0 0 (fv w)) }).get? l=some { cls:=.type "list",dict:=G,data:=.seq its nn,slots:=V }:=Á _ N;have u1:=F.sub_list_set;have u2:=F.sub_list_frozenset;have dF:(abF "list"==abF "dict")=false:=by decide
    have ul:(s.heap.push { cls:=.type "set",dict:=none,data:=.set #[] 0 (.fresh 0 0 (fv w)) }).IsList l its:=⟨_,U,rfl,nn,rfl⟩;unfold Ŗ.«set.__init__» noKeywords Builtin.Frozenset.updateFrom;generalize D:pyIter=PI
    wp_walk
    subst D;refine ς ul ?_;refine À (wpAny_runValue ?_);have K:l<s.heap.objs.size:=Î N;have C:A.in1.in1.in1.handled=none:=by simp[hh]
    have B:l≠(s.heap.push { cls:=.type "set",dict:=none,data:=.set #[] 0 (.fresh 0 0 (fv w)) }).objs.size:=by
     rw[Ċ];exact à (Ħ K)
    have z:s.heap.objs.size∉[(s.heap.push { cls:=.type "set",dict:=none,data:=.set #[] 0 (.fresh 0 0 (fv w)) }).objs.size,l]:=by
     rw[Ċ];simp only[Ò,õ,é,or_false,not_or];exact⟨à (Ż _),ş K⟩
    have y:∀(i:Nat) (v:Ç),its[i]?=some v->∃t,v=.int ((λi=>ns.getD i 0) i) t:=λi v x =>
     IntsAre.int_at hi i v (by rw[ĭ];exact x)
    refine Tv (led:=fv w) ((Walks.list C _ l B its).toS) s.heap.objs.size
     z (λi=>ns.getD i 0) y hb (its.size-0) 0 _ (by omega) (Đ _)
     ⟨⟨_,Ô _ rfl,rfl,rfl⟩,(ul.push _)⟩ ?v0 ?vR
    case v0 =>
     have u:((s.heap.push { cls:=.type "set",dict:=none,data:=.set #[] 0 (.fresh 0 0 (fv w)) }).push { cls:=.type "list_iterator",data:=.fields #[.ref l,.int 0 0] }).get? s.heap.objs.size
       = some { cls:=.type "set",dict:=none,data:=.set #[] 0 (.fresh 0 0 (fv w)) }:=Á _ v
     exact⟨_,#[],0,_,u,⟨rfl,rfl,rfl⟩,rfl,λe q=>by simp at q,λk=>by simp[firstMet_zero],by unfold aa0;simp,by rfl,rfl,RS _⟩
    case vR =>
     intro p Z T;obtain⟨h',n,m,j,g⟩:=p;have f:n=s.gens:=Z.gens;have d:m=s.drawn:=Z.drawn;have a:g=s.os:=Z.os;subst f;subst d;subst a;show Ý _ _ _ _ _ _;refine Â ?_;show Ý _ _ (ret Value.none) _ _ _;refine Â ⟨rfl,h',j,rfl,T,λb o hb e=>?_⟩;have v1:b≠s.heap.objs.size:=à hb;have v2:b≠(s.heap.push { cls:=.type "set",dict:=none,data:=.set #[] 0 (.fresh 0 0 (fv w)) }).objs.size:=by
      rw[Ċ];exact à (Ħ hb)
     exact Z.heap b o (by simp only[Ò,õ,é,or_false,not_or];exact⟨v1,v2⟩) (Á _ (Á _ e))
   ·cases X with
    |error e=>exact W
    |ok Y1 =>
     cases Y1 with
     |ret r =>
      obtain⟨rfl,h',tk,rfl,T,vk⟩:=W
      repeat (any_goals (first|assumption|wp_step))
      exact h _ _ T vk
     |_=>exact W.elim
  |_=>exact Y.elim
end
theorem AY {α:Type}:∀{l:List α} {i:Nat} {x:α},l[i]?=some x->(x::l.eraseIdx i).Perm l
 | [],i,x,h=>by simp at h
 |y::l,0,x,h=>by
  have:y=x:=by simpa using h
  subst this;exact List.Perm.refl _
 |y::l,i+1,x,h=>by
  have ih:=AY (l:=l) (i:=i) (x:=x) (by simpa using h);rw[List.eraseIdx_cons_succ];exact(List.Perm.swap y x _).trans (List.Perm.cons y ih)
theorem JT {α:Type} (next:Nat->Nat):∀(fuel k:Nat) (left:List α) (out:Array α),left.length=fuel->(pickOrder.go next fuel k left out).toList.Perm (out.toList++left)
 |0,k,left,out,h=>by
  have:left=[]:=abu.mp h;subst this;unfold pickOrder.go;simp
 |fuel+1,k,left,out,h=>by
  unfold pickOrder.go
  have Z:next k % left.length<left.length:=Nat.mod_lt _ (by omega)
  rw[Ë Z];dsimp only;have Y:=AY (Ë Z)
  have ih:=JT next fuel (k+1) (left.eraseIdx (next k % left.length)) (out.push left[next k % left.length]) (by rw[List.length_eraseIdx_of_lt Z];omega)
  refine ih.trans ?_;rw[abK,į];exact List.Perm.append_left _ Y
def Iq {α:Type} (next:Nat->Nat) (xs:Array α):(ź next xs).toList.Perm xs.toList:=by
 unfold ź
 have:=JT next xs.size 0 xs.toList #[] (by simp)
 simpa using this
section
variable {P:ä} {w:ù} {A:ì} {E:Ç->Ä->Prop}
def QH {α:Type} (n:Nat):∀(xs:List α) (s:Ä) (Q:List α->Ä->Prop),xs.length=n->(∀ys d,ys.Perm xs->Q ys { s with drawn:=d })->Ý (â P w) A (drawOrder n xs) Q E s:=by
 induction n with
 |zero =>
  intro xs s Q h Z;have:xs=[]:=abu.mp h;subst this;unfold drawOrder;exact Â (Z [] s.drawn (List.Perm.refl _))
 |succ n ih =>
  intro xs s Q h Z
  cases xs with
  |nil=>simp at h
  |cons x xs =>
   unfold drawOrder;refine À (QD (by simp) ?_);have Y:w.draws .order (s.drawn.get .order) % (x::xs).length<(x::xs).length:=Nat.mod_lt _ (by simp);rw[Ë Y];dsimp only;refine À (ih _ _ _ (by rw[List.length_eraseIdx_of_lt Y];omega) λys d X=>?_);refine Â (Z _ d ?_);exact(List.Perm.cons _ X).trans (AY (Ë Y))
def Tw {s:Ä} {a:Ù} {u:Obj} {es:Array (Int×Ç)} {ep:Nat} {t:SetTable} {Q:Ç->Ä->Prop} (hu:s.heap.get? a=some u) (hx:u.ExactSet) (hd:u.data=.set es ep t) (hf:t.fits es.size=true) (ht:iV (fv w) t)
  (hsz:es.size<=Ø)
  (hQ:∀(h':Ĳ) (d':Drawn) (I:Ù) (fp:List Ù) (St:Nat->Ä->Prop) (order:List Ç),(∀b o,s.heap.get? b=some o->h'.get? b=some o)->(∀b∈fp,b<h'.objs.size)->(∀b∈fp,b=a\/s.heap.objs.size<=b)->I∈fp->s.heap.objs.size<=I->order.Perm (es.toList.map (·.2)) ->
   (∀A':ì,A'.handled=none->WalksS P w A' I fp [I] (λa b=>b=a) es.size (λi v=>order[i]?=some v) St)->St 0 { s with heap:=h',drawn:=d' }->Q (.ref I) { s with heap:=h',drawn:=d' }) :
  Ý (â P w) A (pyIter (.ref a)) Q E s:=by
 have N:s.TypeIs (.ref a) "set":=⟨u,hu,hx.1⟩;have X:a<s.heap.objs.size:=Î hu;refine wpAny_pyIter_slot N F.slot_set_iter (ö F.slot_set_iter N OU ?_ (F.args_set_iter_1 _));unfold Ŗ.«frozenset.__iter__» Builtin.Frozenset.slot0 slotArgs;simp only[aa7,đ,Ì,↓reduceIte,bind_assoc,ý,Ĕ];unfold Builtin.Frozenset.addrOf Builtin.Frozenset.sizeOf;refine À (Â ?_)
 try dsimp only
 refine À (Â ?_);refine À (À (ŵ hu hd hf (Â ?_)));unfold setDrawn;refine À (À (Ū hu hd hf ?_));dsimp only;unfold setsByText;refine À (À (ŝ (Â ?_)));refine Â ?_
 show Ý _ _ (if (!(w.params.followText "set-order")&&(!t.plain&&decide (es.size > 1)))=true then _ else _) _ _ _
 have H:∀(W:Obj) b o,s.heap.get? b=some o->(s.heap.push W).get? b=some o:=λW b o e=>Á _ e;by_cases V:(!w.params.followText "set-order"&&(!t.plain&&decide (es.size > 1)))=true
 ·rw[ã V]
  refine À (QH _ _ _ _ (by simp) λU d hp=>?_);refine À ?_;simp only[newTuple];refine ï ?_ (by have:=hp.length_eq;rw[List.length_range] at this;show (abY _).size<=Ø;rw[Ú,Í,this];exact hsz);have L:∀x∈U,x<es.size:=λx hx=>by simpa using hp.mem_iff.mp hx
  have R:U.length=es.size:=by simpa using hp.length_eq
  refine À (wpAny_setEpoch_of (Á _ hu) hd hf ?_);refine À (ï ?_);refine Â ⟨_,rfl,"set_iterator",_,⟨_,Ô _ rfl,rfl⟩,j9.lookup,?_⟩;have Y:(s.heap.push { cls:=.type "tuple",data:=.seq (U.map λ(i:Nat)=>ŭ i).toArray }).objs.size=s.heap.objs.size+1:=by simp[Ċ]
  refine hQ _ d _ [_,a,s.heap.objs.size] _ (U.map λk=>(es.getD k (0,Value.none)).2) (λb o e=>Á _ (Á _ e)) ?_ ?_ (by simp) (by rw[Y];exact abb _) ?_ (λA' T=>P7 (u:=u) (t:=t) (ep:=ep) T (I:=_) (a:=a) (tp:=s.heap.objs.size) (by rw[Y];exact à (Ħ X)) (by rw[Y];exact à (Ż _)) hd hf U R L) ⟨⟨_,Ô _ rfl,rfl,rfl⟩,Á _ (Á _ hu),⟨_,Á _ (Ô _ rfl),rfl,_,rfl⟩⟩
  ·intro b Z
   simp only[Ò,é,or_false] at Z;rw[Ċ]
   rcases Z with e|e|e
   ·rw[e];exact Ż _
   ·rw[e,Y];exact Ħ (Ħ X)
   ·rw[e,Y];exact Ħ (Ż _)
  ·intro b Z
   simp only[Ò,é,or_false] at Z
   rcases Z with e|e|e
   ·right;rw[e,Y];exact abb _
   ·exact .inl e
   ·right;rw[e];exact acG _
  ·refine(List.Perm.map _ hp).trans ?_
   have:(Ć es.size).map (λk=>(es.getD k (0,Value.none)).2)=es.toList.map (·.2):=by
    apply œ;intro i;rw[ç,ç];by_cases hi:i<es.size
    ·rw[Ŵ hi,ĭ]
     simp[acv,hi]
    ·rw[Ĭ (by simpa using hi),Ĭ (by simpa using hi)]
     rfl
   rw[this]
 ·rw[í V]
  refine À (Â ?_);refine À (wpAny_setEpoch_of hu hd hf ?_);refine À (ï ?_);refine Â ⟨_,rfl,"set_iterator",_,⟨_,Ô _ rfl,rfl⟩,j9.lookup,?_⟩;have ak:∀(W:Obj),∀b∈[s.heap.objs.size,a],b<(s.heap.push W).objs.size:=λW b Z=>by
   simp only[Ò,é,or_false] at Z;rw[Ċ]
   rcases Z with e|e
   ·rw[e];exact Ż _
   ·rw[e];exact Ħ X
  have M:∀b∈[s.heap.objs.size,a],b=a\/s.heap.objs.size<=b:=λb Z=>by
   simp only[Ò,é,or_false] at Z
   rcases Z with e|e
   ·right;rw[e];exact acG _
   ·exact .inl e
  cases S:w.params.followText "set-order" with
  |true =>
   have O:(ź (w.params.setOrder a ep) es).size=es.size:=by
    have:=(Iq (w.params.setOrder a ep) es).length_eq;simpa using this
   have hw:∀A':ì,A'.handled=none->WalksS P w A' s.heap.objs.size [s.heap.objs.size,a] [s.heap.objs.size] (λa b=>b=a) es.size (λi v=>((ź (w.params.setOrder a ep) es).toList.map (·.2))[i]?=some v) _:=λA' T=>by
    have:=QE (P:=P) (u:=u) (t:=t) T (I:=s.heap.objs.size) (a:=a) (à X) S hd hf O;simpa using this
   exact hQ _ s.drawn _ [_,a] _ ((ź (w.params.setOrder a ep) es).toList.map (·.2)) (λb o e=>Á _ e) (ak _) M (by simp) (acG _) (List.Perm.map _ (Iq _ _)) hw ⟨⟨_,Ô _ rfl,rfl,rfl⟩,Á _ hu⟩
  |false =>
   have hp:t.plain=true\/es.size<=1:=by
    rw[S] at V;simp at V
    cases K:t.plain with
    |true=>exact .inl rfl
    |false=>exact .inr (V K)
   have R:t.led=true:=by rw[ht.led];unfold fv;rw[S];rfl
   have J:kJ t.place.toList:=by
    rcases hp with hp|hp
    ·exact ht.rise hp
    ·simp only[SetTable.fits,Æ,beq_iff_eq,É] at hf
     have hle:t.place.toList.length<=1:=by simp[hf.1];exact hp
     match t.place.toList,hle with
     | [],_=>exact List.Pairwise.nil
     | [x],_=>exact abv _ _
   have hw:∀A':ì,A'.handled=none->WalksS P w A' s.heap.objs.size [s.heap.objs.size,a] [s.heap.objs.size] (λa b=>b=a) es.size (λi v=>(es.toList.map (·.2))[i]?=some v) _:=λA' T=>by
    have:=P6 (P:=P) (u:=u) (t:=t) (ep:=ep) T (I:=s.heap.objs.size) (a:=a) (à X) S hd hf R hp J;simpa using this
   exact hQ _ s.drawn _ [_,a] _ (es.toList.map (·.2)) (λb o e=>Á _ e) (ak _) M (by simp) (acG _) (List.Perm.refl _) hw ⟨0,⟨_,Ô _ rfl,rfl,rfl⟩,Á _ hu,Đ _,λk G=>by omega,λk _ _=>Đ _⟩
end
section
variable {P:ä} {w:ù} {A:ì} {E:Ç->Ä->Prop} {s:Ä}
def split_len:splitId "set.__len__"=some ("set","__len__"):=by decide +kernel
def ints_of (h:ElemsOf (ŗ P w) es) (hp:vs.Perm (es.map (·.2))):∃ns,abG vs ns:=by
 have Z:∀v∈vs,∃k t,v=.int k t:=λv Z=>by
  obtain⟨e,W,rfl⟩:=ċ.mp (hp.mem_iff.mp Z);obtain⟨⟨k,X,_⟩,_⟩:=h e W
  cases Y:e.2 with
  |int i t=>exact⟨i,t,rfl⟩
  |_=>rw[Y] at X;simp[ŗ,Value.isInt] at X
 clear hp
 induction vs with
 |nil=>exact⟨[],.nil⟩
 |cons v vs ih =>
  obtain⟨k,t,rfl⟩:=Z v Ð;obtain⟨ns,V⟩:=ih λx Y=>Z x (Ê _ Y);exact⟨k::ns,.cons k t V⟩
def KJ {α:Type} {c:Bool} {x y:Sem α} {Q:α->Ä->Prop} (hc:c=true) (h:Ý (â P w) A x Q E s):Ý (â P w) A (if c=true then x else y) Q E s:=by
 rw[ã hc];exact h
def P8 {a:Ù} {u:Obj} {es:Array (Int×Ç)} {ep:Nat} {t:SetTable} {Q:List Ç->Ä->Prop} (hh:A.handled=none) (hu:s.heap.get? a=some u) (hx:u.ExactSet) (hd:u.data=.set es ep t) (hf:t.fits es.size=true) (ht:iV (fv w) t) (hsz:es.size<aa0)
  (hQ:∀(h':Ĳ) (d':Drawn) (tk:Nat) (vs:List Ç),s.heap.objs.size<=h'.objs.size->(∀b o,s.heap.get? b=some o->h'.get? b=some o)->vs.Perm (es.toList.map (·.2))->Q vs { s with heap:=h',drawn:=d',toks:=tk }):Ý (â P w) A (collect (.ref a)) Q E s:=by
 have L:es.size<=Ø:=χ hsz;have K:a<s.heap.objs.size:=Î hu;unfold collect;refine À (wpAny_runValue (ū F.entry_proto_collect ?_));rw[Ŧ F.plain_proto_collect _];show Ý _ A.in1 (newList [] >>= λl=>again (.builtin "list.__iadd__" ⟨[l,.ref a],[]⟩)) _ _ s;refine À (ï ?_);refine Â ⟨plainId_quiet F.plain_list_iadd _,ū F.entry_list_iadd ?_⟩;rw[Ŧ F.plain_list_iadd _];show Ý _ A.in1 (acm (.ref s.heap.objs.size) (.ref a) (.ref s.heap.objs.size)) _ _ _
 generalize U:({ s with heap:=s.heap.push { cls:=.type "list",data:=.seq ([]:List Ç).toArray } }:Ä)=Y
 have J:Y.heap.objs.size=s.heap.objs.size+1:=by rw[<- U];simp[Ċ]
 have k:∀b o,s.heap.get? b=some o->Y.heap.get? b=some o:=λb o e=>by rw[<- U];exact Á _ e
 have T:Y.heap.get? a=some u:=by rw[<- U];exact Á _ hu
 have i:Y.TypeIs (.ref a) "set":=⟨u,T,hx.1⟩;have h:Y.heap.get? s.heap.objs.size=some { cls:=.type "list",data:=.seq ([]:List Ç).toArray }:=by rw[<- U];exact Ô _ rfl
 unfold acm;refine À (abV i ?_);have g:Builtin.List.listSameRef (.ref s.heap.objs.size) (.ref a)=false:=by
  simp[Builtin.List.listSameRef];exact ş K
 have f:(abF "set"==abF "list")=false:=by decide
 have d:(abF "set"==abF "tuple")=false:=by decide
 simp only[g,f,d,Bool.or_false,Ì,û];refine À (Tw T hx hd hf ht L λh' d' I fp St order S k2 k6 k3 H G W st=>?_)
 have R:Shared.TypeIs { Y with heap:=h',drawn:=d' } (.ref a) "set":=⟨u,S _ _ T,hx.1⟩
 have D:=S _ _ h;refine À (ě ?_);unfold Builtin.List.listLengthHint;refine À (abr R F.slot_set_len.lookup ?_);dsimp only;rw[split_len];dsimp only;refine À (aa5 R sub_set_self ?_);rw[í (by decide)];refine KJ (by decide +kernel) ?_;refine À (abV R ?_);dsimp only;refine Â ?_;refine KJ (by decide +kernel) ?_
 ··refine À (ś ?_)
   refine À ?_;show Ý _ A.in1 (updateSeq s.heap.objs.size (·.push .none) >>= λ_=>updateSeq s.heap.objs.size (·.pop)) _ _ _;refine À (wpAny_updateSeq D rfl ?_);have C:=Ė (Œ (·.push Value.none)) D rfl;refine wpAny_updateSeq C rfl ?_;have O:=Ė (Œ (·.pop)) C rfl;have B:s.heap.objs.size∉fp:=λhm=>by
    rcases k6 _ hm with e|e
    ·exact ş K e
    ·rw[J] at e;exact Nat.not_succ_le_self _ e
   have y:∀b o,b≠s.heap.objs.size->h'.get? b=some o->((h'.update s.heap.objs.size (Œ (·.push Value.none))).update s.heap.objs.size (Œ (·.pop))).get? b=some o :=
    λb o X e=>(ſ _ _ (Ŀ X)).trans ((ſ _ _ (Ŀ X)).trans e)
   refine Â ⟨plainId_quiet F.plain_extend_loop _,codeAny_extend_loopS (W A.in1 (by simp[hh])) L _ B _ es.size 0 _ _ _ rfl (Đ _) ((W A.in1 (by simp[hh])).frame 0 ({ Y with heap:=h',drawn:=d' }:Ä) _ Y.toks st (acG _) λb X o e=>y b o (λz=>B (z ▸ X)) e) O (ItemsOf.nil _) λx Z c m v r=>?_⟩
   show Ý _ A (load s.heap.objs.size >>= _) _ _ x;refine À (wpAny_load v ?_);refine Â ?_;have N:order.length=es.size:=by simpa using G.length_eq
   have M:Z.toList=order:=by
    apply œ;intro j;by_cases p:j<Z.size
    ·have e1:Z[j]?=some Z[j]:=by simp[p]
     rw[ĭ,e1,r.2 j _ e1]
    ·rw[Ĭ (by simpa using p),Ĭ (by rw[N,<- r.1];omega)]
   obtain⟨h2,g2,n,t2,o2⟩:=x;have eg:g2=Y.gens:=m.gens;have ed:n=d':=m.drawn;have eo:o2=Y.os:=m.os;subst eg ed eo;have q:=hQ h2 n t2 Z.toList (Nat.le_of_lt (Î v)) (λb o e=>m.heap b o (λX=>by
    simp only[Ò,é,or_false] at X;have V:=Î e
    rcases X with z|z
    ·rw[z] at V;exact ë _ V
    ·rw[J] at H;rw[z] at V;exact ë _ (È V (Nat.le_of_succ_le H))) (y b o (λz=>by
     have V:=Î e;rw[z] at V;exact ë _ V) (S b o (k b o e)))) (by rw[M];exact G)
   rw[<- U];exact q
end
section
variable {P:ä} {w:ù} {A:ì} {E:Ç->Ä->Prop} {s:Ä}
def QI (hh:A.handled=none) (hu:s.heap.get? a=some u) (hx:u.ExactSet) (hd:u.data=.set es ep t) (hf:t.fits es.size=true) (ht:iV (fv w) t) (E4:ElemsOf (ŗ P w) es.toList) (h64:es.size<64)
 (h:∀(h':Ĳ) (d':Drawn) (tk:Nat) (p:Ù) (vs:List Ç) (ns:List Int) (out:List Ç) (ms:List Int) (e:Nat),(∀b o,s.heap.get? b=some o->h'.get? b=some o)->s.heap.objs.size<=p->vs.Perm (es.toList.map (·.2))->abG vs ns->h'.get? p=some { cls:=.type "list",data:=.seq out.toArray e }->abG out ms->ms.Perm ns->ms.Pairwise (·<=·)->Q (.ref p) { s with heap:=h',drawn:=d',toks:=tk }) :
  Ý (â P w) A (call (.builtin "sorted") [.ref a]) Q E s:=by
 refine Calls.call_function_entry kind_sorted plain_sorted entry_sorted (args_sorted1 _) ?_;unfold Ŗ.«sorted»;refine À (m:=checkCount "sorted" 1 1 _) (Â ?_);refine À (P8 (by simp[hh]) hu hx hd hf ht (by unfold aa0;omega) λh' d' tk vs U T Z=>?_);obtain⟨ns,X⟩:=ints_of E4 Z;have S:vs.length<64:=by have:=Z.length_eq;simp at this;omega
 refine À (wpAny_newList ?_);have Y:(h'.push (acq "list" vs.toArray 0)).get? h'.objs.size=some (acq "list" vs.toArray 0):=Ô _ rfl;refine À (ě (ö slot_list_sort ⟨_,Y,rfl⟩ entry_list_sort (list_sort_tree Y X S λout ms a1 a2 R=>⟨_,rfl,?_⟩) (args_list_sort _)));obtain⟨e,O⟩:=sortedHeap_at (out:=out) Y;refine Â ⟨_,rfl,h _ d' tk h'.objs.size vs ns out.toList ms e (λb o N=>?_) ?_ Z X (by simpa [acq] using O) a1 a2 R⟩
 ·have W:=T b o N
  have V:=Î W;rw[sortedHeap_old (à V) (by rw[size_push'];exact Ħ V)];exact Á _ W
 ·exact U
end
end TS
namespace L2
open PySem PySem.Spec PyProof.Rows
def lM (P:ä) (w:ù) (p:Ù) (ns:List Int):Ĳ->Prop:=λh=>∃(S:Int->Bool) (n:Nat),TS.gO P w (TS.fv w) h p S n/\(∀k,S k=true↔k∈ns)/\n<=ns.length/\n=(ns.foldl step_dedup []).length
section
variable {X:Cx}
def nV (l:List Int) (k:Int):(l.any (·==k))=true↔k∈l:=by
 rw[Ŝ];exact⟨λ⟨x,Z,Y⟩=>by rw[<- beq_iff_eq.mp Y];exact Z,λh=>⟨k,h,by simp⟩⟩
def Vq (hm:m=ns.length) (hS:TS.gO X.prog X.w (TS.fv X.w) h p (λk'=>(ŏ (λi=>ns.getD i 0) m).any (·==k')) (ŏ (λi=>ns.getD i 0) m).length):lM X.prog X.w p ns h:=by
 subst hm;refine⟨_,_,hS,λk=>?_,firstMet_length_le _ _,?_⟩
 ·rw[firstMet_any,map_getD]
  exact nV ns k
 ·unfold ŏ
  rw[map_getD]
def Vr (hx:lM X.prog X.w p ns h):cC X.prog X.w (upd H p (.ext (lM X.prog X.w p ns))) h p (.ext (lM X.prog X.w p ns)):=by
 refine⟨hx,?_,λY W q k=>?_⟩
 ·obtain⟨_,_,⟨o,_,_,_,Z,_⟩,_⟩:=hx
  exact⟨o,Z⟩
 ·obtain⟨S,n,T,r⟩:=q
  exact⟨S,n,T.at k,r⟩
def QJ (hc:X.calm=true):cD X (.type "set") (λxs H Q=>∃(a:Ù) (ns:List Int),xs=[.ref a]/\bC X.K H a (ns.map V.int)/\(ns.foldl step_dedup []).length<4000/\∀p,H p=none->Q (.ref p) (upd H p (.ext (lM X.prog X.w p ns)))):=by
 intro P s σ H xs O Q I r h;obtain⟨a,ns,rfl,W,N,q⟩:=h;obtain⟨u,rfl,U⟩:=vals1 r;cases U;obtain⟨its,Z,p,_⟩:=I.list W;have Y:its.toArray.size=ns.length:=by
  have e:=Z.length;rw[Í] at e;simpa using e.symm
 refine TS.QG (its:=its.toArray) (ns:=ns) (I.ok.hd hc) p.isList (by simpa using intsAre_of Z) (by rw[Y];unfold ŏ;rw[map_getD];show _ + 1<4096;omega) λM T S R=>?_;exact⟨.ref _,_,I.laid (t':=T) (λb o e=>R b o (Î e) e) (acG _) (Vr (Vq Y S)),rfl,q _ (I.aE.fresh (acG _))⟩
theorem Hg:∀{out:List Ç} {ms:List Int},abG out ms->Vals (ms.map V.int) out
 |_,_,.nil=>.nil
 |_,_,.cons n t h=>.cons ⟨t,rfl⟩ (Hg h)
theorem AL:∀(ns acc:List Int),acc.Nodup->(ns.foldl step_dedup acc).Nodup
 | [],acc,h=>h
 |n::ns,acc,h=>by
  refine AL ns _ ?_;unfold step_dedup;split
  ·exact h
  ·rename_i Z
   rw[aa6] at Z;refine ψ.mpr ⟨h,by simp,λa Y b X=>?_⟩;have:b=n:=by simpa using X
   subst this;intro e;subst e;rw[(nV acc a).mpr Y] at Z;cases Z
theorem Jb:∀{vs:List Ç} {ns:List Int},abG vs ns->∀k,k∈ns↔∃t,acd k t∈vs
 |_,_,.nil,k=>by simp
 |_,_,.cons n t h,k=>by
  rw[Ò,Jb h k];constructor
  ·rintro (e | ⟨Z,h'⟩)
   ·subst e;exact⟨t,Ð⟩
   ·exact⟨Z,Ê _ h'⟩
  ·rintro ⟨Z,h'⟩
   rcases Ò.mp h' with e|h'
   ·injection e with e _;exact .inl e
   ·exact .inr ⟨Z,h'⟩
theorem sub_len:∀{m l:List Int},m.Nodup->(∀k,k∈m->k∈l)->m.length<=l.length
 | [],l,_,_=>Đ _
 |x::m,l,h,Z=>by
  obtain⟨W,V⟩:=θ.mp h;have Y:=Z x Ð;have ih:=sub_len (m:=m) (l:=l.erase x) V λk X=>(List.mem_erase_of_ne (λ(e:k=x)=>W (by rw[<- e];exact X))).mpr (Z k (Ê _ X));rw[List.length_erase_of_mem Y] at ih;have:=List.length_pos_of_mem Y;rw[á];omega
theorem Hh:∀{l m:List Int},m.Nodup->(∀k,k∈m↔k∈l)->l.length<=m.length->l.Nodup
 | [],m,_,_,_=>acs
 |a::r,m,Z,Y,W=>by
  have V:a∉r:=λh=>by
   have:=sub_len Z λk U=>(Ò.mp ((Y k).mp U)).elim (λe=>e ▸ h) id;rw[á] at W;omega
  have X:a∈m:=(Y a).mpr Ð;refine θ.mpr ⟨V,Hh (m:=m.erase a) (Z.erase a) (λk=>?_) ?_⟩
  ·rw[Z.mem_erase_iff,Y k,Ò]
   constructor
   ·rintro ⟨T,h2|h2⟩
    ·exact absurd h2 T
    ·exact h2
   ·intro h
    exact⟨λe=>V (e ▸ h),.inr h⟩
  ·rw[List.length_erase_of_mem X]
   rw[á] at W;omega
def Ir (ns:List Int) (k:Int):k∈ns.foldl step_dedup []↔k∈ns:=by
 have:=firstMet_any (λi=>ns.getD i 0) ns.length k;unfold ŏ at this;rw[map_getD] at this;rw[<- nV,<- nV,this]
def Po (hc:X.calm=true):cD X (.builtin "sorted") (λxs H Q=>∃(p:Ù) (ns:List Int),xs=[.ref p]/\H p=some (.ext (lM X.prog X.w p ns))/\(ns.foldl step_dedup []).length<64 /\
  ∀(l:Ù) (ms:List Int),H l=none->ms.Pairwise (· < ·)->(∀k,k∈ms↔k∈ns)->Q (.ref l) (upd H l (.lst (ms.map V.int)))):=by
 intro π s σ H xs us Q I r h;obtain⟨p,ns,rfl,G,hl,q⟩:=h;obtain⟨v,rfl,F⟩:=vals1 r;cases F;obtain⟨⟨S,n,⟨u,es,ep,t,E,D,hd,C,B,O,A,z,y⟩,m,E5,j⟩,_⟩:=I.aE p _ G;refine TS.QI (I.ok.hd hc) E D hd A y C (by omega) λg f N l vs ks out ms e d M Y W c k6 U k8=>?_;have L:∀k,k∈ms↔k∈ns:=λk=>by
  rw[U.mem_iff,Jb W k,<- m k,B k];constructor
  ·rintro ⟨t',qA⟩
   obtain⟨x,T,Z⟩:=ċ.mp (Y.mem_iff.mp qA);exact⟨x,T,by rw[Z];exact intKind_is _ _ _ _⟩
  ·rintro ⟨x,T,Z⟩
   obtain⟨i,t',K⟩:∃i t',x.2=.int i t':=by
    cases hv:x.2 with
    |int i t'=>exact⟨i,t',rfl⟩
    |_=>rw[hv] at Z;simp[ŗ,Value.isInt] at Z
   have qB:k=i:=(ŗ X.prog X.w).inj (.int i t') k i (by rw[<- K];exact Z) (intKind_is _ _ _ _);subst qB;exact⟨t',Y.mem_iff.mpr (ċ.mpr ⟨x,T,K⟩)⟩
 have R:ms.Nodup:=by
  have oQ:=AL ns [] acs;refine Hh oQ (λk=>?_) ?_
  ·rw[L k,Ir]
  ·rw[<- j,<- z]
   have e1:=U.length_eq;have e2:=W.length;have P:=Y.length_eq;simp at P;omega
 have bj:ms.Pairwise (· < ·):=by
  have:=List.pairwise_and_iff.mpr ⟨k8,R⟩;exact this.imp λ⟨a,b⟩=>by omega
 have J:=I.laid (t':=N) (a:=l) (o:=.lst (ms.map V.int)) d M ⟨by
  rw[Í,Ţ];have e1:=U.length_eq;have e2:=W.length;have P:=Y.length_eq;simp at P;omega,out,e,Hg k6,c⟩
 exact⟨.ref l,_,J.u7 (s':={ s with heap:=g,drawn:=f,toks:=N }) (ch:=[]) rfl Un.refl J.aE J.bare (λb O=>by cases O),rfl,q l ms (I.aE.fresh M) bj L⟩
end
section
variable {X:Cx}
end
mutual
noncomputable def zR:ω->Bool
 | .tuple Z=>zo Z
 | .list _=>false
 |_=>true
noncomputable def zo:List ω->Bool
 | []=>true
 |d::Z=>zR d&&zo Z
end
section
variable {X:Cx} {π:List (Ù×Obj)} {σ:St} {H:Hp} {s:Ä} {Z:Ù->Prop}
mutual
theorem DV.uR (I:Inv X π σ H s):∀{d:ω} {v:V} {u:Ç},DV X.K Z H d v->RelV v u->zR d=true->∃as,Reads s.heap u d as/\ņ∉as
 | .none,v,u,h,r,_=>by
  have e:v=.au:=h;subst e;cases r;exact⟨[],.none,by simp⟩
 | .bool b,v,u,h,r,_=>by
  have e:v=.bl b:=h;subst e;cases r;exact⟨[],.bool b,by simp⟩
 | .int i,v,u,h,r,_=>by
  have e:v=.int i:=h;subst e;obtain⟨t,rfl⟩:=r;exact⟨[],.int i t,by simp⟩
 | .str x,v,u,h,r,_=>by
  have e:v=.str x:=h;subst e;obtain⟨t,rfl⟩:=r;exact⟨[],.str x t,by simp⟩
 | .tuple U,v,u,h,r,Y=>by
  simp only[DV] at h;obtain⟨a,G,e,W,T⟩:=h;subst e;cases r;obtain⟨its,S,⟨o,e,c,n,R⟩,_⟩:=I.tuple W;obtain⟨as,Q,hs⟩:=ar.uR I T S (by simpa only [zR] using Y);exact⟨as,.tuple e c R (by simpa using Q),hs⟩
 | .list U,v,u,h,r,Y=>by
  simp only[zR] at Y;cases Y
 | .dict F,v,u,h,r,_=>by
  simp only[DV] at h;obtain⟨a,E,e,_,W,l,e1,e2⟩:=h;subst e e1 e2;cases r;obtain⟨_,P,D,O,o,C,B,g1,g2,g3,_,N,_⟩:=(show cC X.prog X.w H s.heap a (.dK _) from I.aE a _ W);obtain⟨M,L⟩:=AK (h:=s.heap) O N;refine⟨a::[]++[],.dict g1 g2.1 g3 M L,λJ=>?_⟩;have e:ņ=a:=by simpa using J
  subst e;simp at P
theorem ar.uR (I:Inv X π σ H s):∀{ds:List ω} {vs:List V} {us:List Ç},ar X.K Z H ds vs->Vals vs us->zo ds=true->∃as,ReadsAll s.heap us ds as/\ņ∉as
 | [],vs,us,h,r,_=>by
  have e:vs=[]:=h;subst e;cases r;exact⟨[],.nil,by simp⟩
 |d::ds,vs,us,h,r,Y=>by
  obtain⟨v,O,e,W,U⟩:=h;subst e;simp only[zo,Æ] at Y
  cases r with
  |cons T S =>
   obtain⟨as,a1,R⟩:=DV.uR I W T Y.1;obtain⟨bs,a2,Q⟩:=ar.uR I U S Y.2;refine⟨as++bs,.cons a1 a2,λP=>?_⟩
   rcases è.mp P with z|z
   ·exact R z
   ·exact Q z
end
end
section
variable {X:Cx}
end
end L2
namespace HZ
open PySem PySem.Spec PyProof.Rows
open AutoSeq1 (wpAny_loadPart')
section
variable {P:ä} {w:ù} {A:ì} {E:Ç->Ä->Prop} {s:Ä}
end
end HZ
namespace L2
open PySem PySem.Spec PyProof.Rows
section
variable {X:Cx} {elts:List ħ} {kk:Nat} {tp:Pos}
end
section
variable {K:ę} {caps:St} {H:Hp} {tf:TT} {te:TE} {Q:VK}
end
end L2
namespace HZ
open PySem PySem.Spec PyProof.Rows
def ON:fillsNumberSlot (.type "tuple") "mul"=pure false:=by
 first|rfl | (unfold fillsNumberSlot;kernel_rfl)|kernel_rfl
def Pp:seqRepeat? (.type "tuple")=pure (some (.builtin "tuple.__mul__")):=by
 first|rfl|kernel_rfl
def QK (a:Int) (t:Tok) (l:Ù) (items:Array Ç) (n:Nat) (d:Option Ù) (sl:Array (Option Ç)) :
  Meets (Ŗ.«int.__rmul__» ⟨[.int a t,.ref l],[]⟩) (λ_ R s=>s.heap.get? l=some { cls:=.type "tuple",dict:=d,data:=.seq items n,slots:=sl }/\R (.ok (.ret Value.notImplemented)) s) :=
 .of_wp λprog w A R s h=>by
  obtain⟨Z,Y,X,W,V⟩:=s;obtain⟨U,h⟩:=h;wp_walk;exact⟨_,rfl,h⟩
section
variable {P:ä} {w:ù} {A:ì} {E:Ç->Ä->Prop} {s:Ä}
def Vs (ht:IsTup s.heap t vs.toArray) (hv:vs≠[]) (hk:1<=k) (hz:vs.length*k.toNat<=Ø)
 (h1:k=1->Q (.ref t) s) (h2:k≠1->Q (.ref s.heap.objs.size) { s with heap:=s.heap.push { cls:=.type "tuple",data:=.seq (Å k.toNat vs).flatten.toArray } }) :
  Ý (â P w) A (Ł .Mult (.ref t) (.int k tk)) Q E s:=by
 obtain⟨⟨cls,V,data,S⟩,Z,Y,n,X⟩:=id ht;simp only at Y X;subst Y X;have K:k<=16777216:=by
  have R:1<=vs.length:=by
   cases vs with
   |nil=>exact absurd rfl hv
   |cons a r=>simp
  have J:vs.length*k.toNat<=16777216:=by rw[<- Ţ];exact hz
  have:1*k.toNat<=vs.length*k.toNat:=aaU _ R;omega
 refine wpAny_binaryOp_repeat_ref (T:="tuple") (U:="int") (by decide) ⟨_,Z,rfl⟩ (λO=>typeIs_int O k tk) ON F.fills_int_mul ach Pp F.slot_int_index.lookup
  (abI ach (typeIs_int s k tk) F.entry_int_rmul (F.args_int_rmul_2 _ _) (QK k tk t vs.toArray n V S) ⟨Z,rfl,⟨_,Z,rfl⟩,?_⟩)
 refine ö F.slot_tuple_mul ⟨_,Z,rfl⟩ F.entry_tuple_mul ?_ (F.args_tuple_mul_2 _ _);show Ý _ _ (asIndex (.int k tk) >>= _) _ _ _;refine À ?_
 refine wpAny_of_eq (a:=k) (by first|rfl | (unfold asIndex;rfl)) ?_
 dsimp only;rw[í (by simp;omega)];unfold Ř;refine À (À (ı Z rfl ?_));refine Â ?_;have ne:vs.toArray.isEmpty=false:=by
  cases vs with
  |nil=>exact absurd rfl hv
  |cons a r=>simp
 by_cases h:k=1
 ·rw[ã (by rw[h];simp)]
  unfold aaT;refine À (À (abV (T:="tuple") ⟨_,Z,rfl⟩ (Â ?_)));rw[ã (by decide)];exact À (ś (Â ⟨_,rfl,h1 h⟩))
 ·rw[í (by rw[ne];simp[h])]
  rw[í (by rw[ne];simp;omega)];have W:(vs.toArray.size:Int)*k=((vs.length*k.toNat:Nat):Int):=by
   rw[Ú,Int.natCast_mul];congr 1;omega
  have N:vs.length*k.toNat<=16777216:=by rw[<- Ţ];exact hz
  rw[í (by rw[W];omega)];rw[í (by
   unfold Builtin.Tuple.tupleTooMany;rw[W,Ţ,É];generalize vs.length*k.toNat=q at N;omega)]
  unfold Ŋ;have e:List.foldl (λM L=>M++L) #[] (Å k.toNat vs.toArray)=(Å k.toNat vs).flatten.toArray:=by
   have:=L2.foldl_rep vs k.toNat [];rw[ė] at this;exact this
  rw[e];refine À (ï ?_ (by
   show (abY _).size<=Ø;rw[Ú,L2.len_rep,Nat.mul_comm];exact hz))
  exact Â ⟨_,rfl,h2 h⟩
end
end HZ
namespace L2
open PySem PySem.Spec PyProof.Rows
section
variable {X:Cx}
def Y2 (K:ę):R2:=λx y H Q=>∃a Z k,x=.ref a/\y=.int k/\bz K H a Z/\Z≠[]/\1<=k/\Z.length*k.toNat<=Ø/\oy K H (Å k.toNat Z).flatten Q
def Vt:bI X (Ł .Mult) (Y2 X.K):=by
 intro P s σ H x y v u Q I V U h;obtain⟨a,Z,k,rfl,rfl,hs,T,S,W,q⟩:=h;cases V;obtain⟨t,rfl⟩:=U;obtain⟨its,r,p,z⟩:=I.tuple hs;have Y:=r.length;refine HZ.Vs p (λe=>T (by rw[e] at Y;exact abu.mp Y)) S (by rw[<- Y];exact W) (λe=>?_) (λ_=>?_)
 ·have e1:(Å k.toNat Z).flatten=Z:=by rw[e];simp
  rw[e1] at q;exact⟨.ref a,H,I,rfl,q.here hs⟩
 ·have R:(Å k.toNat Z).flatten.length<=Ø:=by rw[len_rep,Nat.mul_comm];exact W
  exact⟨.ref _,_,I.laid (t':=s.toks) (o:=.tup (Å k.toNat Z).flatten) (λb o e=>Á _ e) (acG _) ⟨R,_,r.rep k.toNat,⟨_,Ô _ rfl,rfl,_,rfl⟩⟩,rfl,q.new (I.aE.fresh (acG _))⟩
end
end L2
namespace HZ
open PySem PySem.Spec PyProof.Rows
section
variable {P:ä} {w:ù} {A:ì} {E:Ç->Ä->Prop} {s:Ä}
end
end HZ
namespace L2
open PySem PySem.Spec PyProof.Rows
section
variable {X:Cx} {tg:ħ}
end
end L2
namespace HZ
open PySem PySem.Spec PyProof.Rows
section
variable {P:ä} {w:ù} {A:ì} {R:Result->Ä->Prop} {I:Ù} {fp wr:List Ù} {n:Nat} {Pv:Nat->Ç->Prop} {St:Nat->Ĳ->Prop} {kw:List (Str×Ç)}
end
section
variable {P:ä} {w:ù} {A:ì} {E:Ç->Ä->Prop} {s:Ä}
end
end HZ
namespace L2
open PySem PySem.Spec PyProof.Rows
section
variable {X:Cx} {p pos kp:Pos} {e d:ħ} {ta tk:TA}
end
end L2
namespace DI
open PySem L2
set_option genInjectivity true in
inductive D where
 |au|bl (b:Bool)|int (i:Int)|str (x:Str)|tup (ds:List D)|lst (ds:List D)|bA (ai:List (Key×Int))|aj (k:Nat)|ty (n:String)|bK (ns:List Int)|exc (c:Str) (m:Option Int)|cG (a:Ù) (vs:List V) (ds:List D)
set_option genInjectivity true in
inductive Cell where
 |dead|lst (ds:List D)|dK (ai:List (Key×D))|dT (ai:List (D×Int))|tb (x:Str)|ins (c:Str) (fs:List (Str×D))
noncomputable abbrev af:=List Cell
noncomputable abbrev Env:=List (Option D)
structure aY where
 c:Str
 many:Option Int
abbrev Res (α:Type):=Option (Except aY α×af)
abbrev acC (α:Type):=Env->af->Res α
abbrev ok {α:Type} (a:α) (s:af):Res α:=some (.ok a,s)
def ak {α β:Type} (r:Res α) (k:α->af->Res β):Res β:=match r with
 |some (.ok a,s)=>k a s
 |some (.error x,s)=>some (.error x,s)
 |none=>none
@[simp] theorem fR {α β:Type} {a:α} {s:af} {k:α->af->Res β}:ak (some (.ok a,s)) k=k a s:=rfl
structure Wd where
 ρ:List Ù
 aB:af
 H:Hp
def Wd.Z (w:Wd) (a:Ù):Prop:=∃(k:Nat) (c:Cell),w.ρ[k]?=some a/\w.aB[k]?=some c/\c≠.dead
def LstAt (w:Wd) (a:Ù) (xs:List V):Prop:=¬ w.Z a/\w.H a=some (.lst xs)
def LstAt.sq (h:LstAt w a xs):bC K w.H a xs:=bC.of h.2
def vc (K:ę) (w:Wd) (a:Ù) (xs:List V):Prop:=(¬ w.Z a/\Rd w.H a (.lst xs)) \/
 ∃(o:Obj) (its:Array Ç) (n:Nat),K.lookup a=some o/\o.cls=.type "list"/\o.dict=none/\o.data=.seq its n/\its.size<=Ø/\Vals xs its.toList
def vc.sq (h:vc K w a xs):bC K w.H a xs:=by
 rcases h with ⟨_,h⟩|h
 ·exact .inl h
 ·exact .inr h
mutual
def DV (K:ę) (w:Wd):D->V->Prop
 | .au,v=>v=.au
 | .bl b,v=>v=.bl b
 | .int i,v=>v=.int i
 | .str x,v=>v=.str x
 | .tup Y,v=>∃a X,v=.ref a/\bz K w.H a X/\ar K w Y X
 | .lst Y,v=>∃a X,v=.ref a/\LstAt w a X/\ar K w Y X
 | .bA S,v=>∃a,v=.ref a/\¬ w.Z a/\w.H a=some (.dK (S.map λp=>(p.1,V.int p.2)))
 | .aj k,v=>∃a,w.ρ[k]?=some a/\v=.ref a
 | .ty n,v=>v=.ty n
 | .bK R,v=>∃a,v=.ref a/\vc K w a (R.map V.int)
 | .exc c m,v=>∃a o C,v=.ref a/\(¬ w.Z a/\w.H a=some (.aR o (.own a)))/\(o.cls=.ref C/\å K Ö c=some (some (.ref C)))/\∀i,m=some i->PySem.W.notCls o=true/\∃U T t,o.dict=some U/\(¬ w.Z U/\w.H U=some (.aR T (.own U)))/\PySem.W.lookIn "many" T=some (some (.int i t))
 | .cG a Q Y,v=>v=.ref a/\ar K w Y Q
def ar (K:ę) (w:Wd):List D->List V->Prop
 | [],Z=>Z=[]
 |d::Y,Z=>∃v r,Z=v::r/\DV K w d v/\ar K w Y r
end
structure Fw (K:ę) (w w':Wd):Prop where
 E9:∀(k:Nat) a,w.ρ[k]?=some a->w'.ρ[k]?=some a
 tup:∀a xs,bz K w.H a xs->bz K w'.H a xs
 lst:∀a xs,¬ w.Z a->w.H a=some (.lst xs)->¬ w'.Z a/\w'.H a=some (.lst xs)
 aR:∀a o u,¬ w.Z a->w.H a=some (.aR o u)->¬ w'.Z a/\w'.H a=some (.aR o u)
 bA:∀a es,¬ w.Z a->w.H a=some (.dK es)->¬ w'.Z a/\w'.H a=some (.dK es)
def Fw.LK (S:Fw K w w') (h:LstAt w a xs):LstAt w' a xs:=S.lst a xs h.1 h.2
def Fw.Y3 (S:Fw K w w') (h:vc K w a xs):vc K w' a xs:=by
 rcases h with ⟨Y,Z | ⟨o,Z⟩⟩|h
 ·have q:=S.lst a xs Y Z
  exact .inl ⟨q.1,.inl q.2⟩
 ·have q:=S.aR a o _ Y Z
  exact .inl ⟨q.1,.inr ⟨o,q.2⟩⟩
 ·exact .inr h
mutual
theorem DV.fw (S:Fw K w w'):∀{d:D} {v:V},DV K w d v->DV K w' d v
 | .au,_,h=>h
 | .bl _,_,h=>h
 | .int _,_,h=>h
 | .str _,_,h=>h
 | .tup X,v,h=>by
  simp only[DV] at h |-;obtain⟨a,Y,e,Z,r⟩:=h;exact⟨a,Y,e,S.tup a Y Z,ar.fw S r⟩
 | .lst X,v,h=>by
  simp only[DV] at h |-;obtain⟨a,Y,e,Z,r⟩:=h;exact⟨a,Y,e,S.LK Z,ar.fw S r⟩
 | .bA L,v,h=>by
  simp only[DV] at h |-;obtain⟨a,e,R,Z⟩:=h;obtain⟨Q,P⟩:=S.bA a _ R Z;exact⟨a,e,Q,P⟩
 | .aj k,v,h=>by
  simp only[DV] at h |-;obtain⟨a,e,e2⟩:=h;exact⟨a,S.E9 k a e,e2⟩
 | .ty _,_,h=>h
 | .bK J,v,h=>by
  simp only[DV] at h |-;obtain⟨a,e,Z⟩:=h;exact⟨a,e,S.Y3 Z⟩
 | .exc c m,v,h=>by
  simp only[DV] at h |-;obtain⟨a,o,C,e,Z,r,k⟩:=h;refine⟨a,o,C,e,S.aR a o _ Z.1 Z.2,r,λi hi=>?_⟩;obtain⟨O,W,U,t,N,T,M⟩:=k i hi;exact⟨O,W,U,t,N,S.aR W U _ T.1 T.2,M⟩
 | .cG a I X,v,h=>by
  simp only[DV] at h |-;exact⟨h.1,ar.fw S h.2⟩
theorem ar.fw (S:Fw K w w'):∀{ds:List D} {vs:List V},ar K w ds vs->ar K w' ds vs
 | [],_,h=>h
 |d::ds,vs,h=>by
  simp only[ar] at h |-;obtain⟨v,r,e,Z,Y⟩:=h;exact⟨v,r,e,DV.fw S Z,ar.fw S Y⟩
end
structure Le (K:ę) (w w':Wd):Prop where
 dv:∀d v,DV K w d v->DV K w' d v
 lst:∀a xs,LstAt w a xs->LstAt w' a xs
 tup:∀a xs,bz K w.H a xs->bz K w'.H a xs
 aR:∀a o u,¬ w.Z a->w.H a=some (.aR o u)->¬ w'.Z a/\w'.H a=some (.aR o u)
noncomputable instance {K:ę} {w w':Wd}:CoeFun (Le K w w') (λ_=>∀d v,DV K w d v->DV K w' d v):=⟨Le.dv⟩
def Le.refl (w:Wd):Le K w w:=⟨λ_ _ h=>h,λ_ _ h=>h,λ_ _ h=>h,λ_ _ _ h g=>⟨h,g⟩⟩
def Le.trans (h:Le K a b) (g:Le K b c):Le K a c:=⟨λd v x=>g.dv d v (h.dv d v x),λp Z x=>g.lst p Z (h.lst p Z x),λp Z x=>g.tup p Z (h.tup p Z x),λp o u z x=>let q:=h.aR p o u z x;g.aR p o u q.1 q.2⟩
def Fw.le (S:Fw K w w'):Le K w w':=⟨λ_ _ h=>h.fw S,λ_ _ h=>S.LK h,S.tup,S.aR⟩
theorem Le.all (h:Le K w w'):∀{ds:List D} {vs:List V},ar K w ds vs->ar K w' ds vs
 | [],_,x=>x
 |d::ds,vs,x=>by
  simp only[ar] at x |-;obtain⟨v,r,e,Z,Y⟩:=x;exact⟨v,r,e,h d v Z,Le.all h Y⟩
theorem ar.length:∀{ds:List D} {vs:List V},ar K w ds vs->ds.length=vs.length
 | [],vs,h=>by
  have e:vs=[]:=h;subst e;rfl
 |d::ds,vs,h=>by
  obtain⟨v,r,e,_,Z⟩:=h;subst e;simp[ar.length Z]
theorem ar.get:∀{ds:List D} {vs:List V},ar K w ds vs->∀(i:Nat) v,vs[i]?=some v->∃d,ds[i]?=some d/\DV K w d v
 | [],vs,h,i,v,e=>by
  have Z:vs=[]:=h;subst Z;simp at e
 |d::ds,vs,h,i,v,e=>by
  obtain⟨u,r,Z,Y,X⟩:=h;subst Z
  cases i with
  |zero =>
   have:u=v:=by simpa using e
   subst this;exact⟨d,rfl,Y⟩
  |succ i=>exact ar.get X i v (by simpa using e)
theorem ar.get':∀{ds:List D} {vs:List V},ar K w ds vs->∀(i:Nat) d,ds[i]?=some d->∃v,vs[i]?=some v/\DV K w d v
 | [],vs,h,i,d,e=>by simp at e
 |d::ds,vs,h,i,Z,e=>by
  obtain⟨u,r,Y,X,W⟩:=h;subst Y
  cases i with
  |zero =>
   have:d=Z:=by simpa using e
   subst this;exact⟨u,rfl,X⟩
  |succ i=>exact ar.get' W i Z (by simpa using e)
theorem ar.append:∀{ds es:List D} {vs ws:List V},ar K w ds vs->ar K w es ws->ar K w (ds++es) (vs++ws)
 | [],es,vs,ws,h,Z=>by
  have e:vs=[]:=h;subst e;exact Z
 |d::ds,es,vs,ws,h,Z=>by
  obtain⟨v,r,e,Y,X⟩:=h;subst e;exact⟨v,r++ws,rfl,Y,ar.append X Z⟩
theorem ar.take:∀{ds:List D} {vs:List V} (n:Nat),ar K w ds vs->ar K w (ds.take n) (vs.take n)
 | [],vs,n,h=>by
  have e:vs=[]:=h;subst e;simp[ar]
 |d::ds,vs,0,h=>by simp[ar]
 |d::ds,vs,n+1,h=>by
  obtain⟨v,r,e,Z,Y⟩:=h;subst e;exact⟨v,r.take n,rfl,Z,ar.take n Y⟩
theorem ar.drop:∀{ds:List D} {vs:List V} (n:Nat),ar K w ds vs->ar K w (ds.drop n) (vs.drop n)
 | [],vs,n,h=>by
  have e:vs=[]:=h;subst e;simp[ar]
 |d::ds,vs,0,h=>h
 |d::ds,vs,n+1,h=>by
  obtain⟨v,r,e,Y,Z⟩:=h;subst e;exact ar.drop n Z
theorem ar.reverse:∀{ds:List D} {vs:List V},ar K w ds vs->ar K w ds.reverse vs.reverse
 | [],vs,h=>by
  have e:vs=[]:=h;subst e;simp[ar]
 |d::ds,vs,h=>by
  obtain⟨v,r,e,Z,Y⟩:=h;subst e;rw[List.reverse_cons,List.reverse_cons];exact ar.append (ar.reverse Y) ⟨v,[],rfl,Z,rfl⟩
theorem ar.set (hd:DV K w d v):∀{ds:List D} {vs:List V} (i:Nat),ar K w ds vs->ar K w (ds.set i d) (vs.set i v)
 | [],vs,i,h=>by
  have e:vs=[]:=h;subst e;simp[ar]
 |d'::ds,vs,0,h=>by
  obtain⟨u,r,e,Y,Z⟩:=h;subst e;exact⟨v,r,rfl,hd,Z⟩
 |d'::ds,vs,i+1,h=>by
  obtain⟨u,r,e,Y,Z⟩:=h;subst e;exact⟨u,r.set i v,rfl,Y,ar.set hd i Z⟩
def ar.one (h:DV K w d v):ar K w [d] [v]:=⟨v,[],rfl,h,rfl⟩
def ar.two (h:DV K w d v) (h':DV K w d' v'):ar K w [d,d'] [v,v']:=⟨v,_,rfl,h,ar.one h'⟩
theorem ar.ints:∀(ns:List Int),ar K w (ns.map D.int) (ns.map V.int)
 | []=>rfl
 |n::ns=>⟨.int n,_,rfl,rfl,ar.ints ns⟩
theorem ar.Jc:∀{ns:List Int} {vs:List V},ar K w (ns.map D.int) vs->vs=ns.map V.int
 | [],_,h=>h
 |n::ns,vs,h=>by
  obtain⟨v,r,e,Z,Y⟩:=h;have e1:v=.int n:=Z;rw[e,e1,ar.Jc Y];rfl
theorem ar.uD:∀{bs:List Bool} {vs:List V},ar K w (bs.map D.bl) vs->vs=bs.map V.bl
 | [],_,h=>h
 |n::X,vs,h=>by
  obtain⟨v,r,e,Z,Y⟩:=h;have e1:v=.bl n:=Z;rw[e,e1,ar.uD Y];rfl
def DX (a:Ù) (es:List (Int×Ù)) (h:Ĳ):Prop:=(a==ņ)=false/\∃(o:Obj) (Z:Array DictEntry) (Y:Nat),h.get? a=some o/\o.ExactDict/\o.data=.dict Z Y/\Z.toList=es.map λp=>(⟨p.1,.ref p.2,.bool true⟩:DictEntry)
def Y4 (w:Wd) (q:Str) (cv:Ç):Prop:=∃Y X W t,cv=.ref Y/\(¬ w.Z Y/\w.H Y=some (.aR X (.own Y)))/\X.data=.fields W/\W[1]?=some (.str q t)
def aav (K:ę) (w:Wd) (a:Ù) (x:Str):Prop:=∃c Z,Ŷ K x=some (c,a)/\w.H a=some (.cN Z)/\PySem.TriplesOk Z.toList/\∀pos Y,PySem.codeAmong pos Z.toList=some Y->Y4 w (x++".<locals>."++"<lambda>") Y
def rB (K:ę) (w:Wd) (a:Ù):Cell->Prop
 | .dead=>True
 | .lst U=>∃W,w.H a=some (.lst W)/\ar K w U W
 | .dK Z=>∃Y:List (Key×V),w.H a=some (.dK Y)/\Y.map (·.1)=Z.map (·.1)/\ar K w (Z.map (·.2)) (Y.map (·.2))
 | .dT Z=>∃as:List Ù,w.H a=some (.ext (DX a ((Z.map (·.2)).zip as)))/\ar K w (Z.map (·.1)) (as.map V.ref)/\(Z.map (·.1)).Nodup
 | .tb x=>aav K w a x
 | .ins c fs=>∃(C T:Ù) (X:List (Str×V)),å K Ö c=some (some (.ref C))/\w.H a=some (.ins C T X)/\X.map (·.1)=fs.map (·.1)/\ar K w (fs.map (·.2)) (X.map (·.2))
structure aM (K:ę) (w:Wd):Prop where
 len:w.ρ.length=w.aB.length
 nd:w.ρ.Nodup
 there:∀(k:Nat) a,w.ρ[k]?=some a->w.H a≠none
 cell:∀(k:Nat) a c,w.ρ[k]?=some a->w.aB[k]?=some c->rB K w a c
theorem rB.le (h:rB K w a c) (le:Le K w w') (e:c≠.dead->w'.H a=w.H a):rB K w' a c:=by
 cases c with
 |dead=>trivial
 |lst I =>
  obtain⟨R,Z,Y⟩:=h;exact⟨R,(e (by intro z;cases z)).trans Z,le.all Y⟩
 |dK Q =>
  obtain⟨P,Z,Y,X⟩:=h;exact⟨P,(e (by intro z;cases z)).trans Z,Y,le.all X⟩
 |dT Q =>
  obtain⟨as,Z,Y,X⟩:=h;exact⟨as,(e (by intro z;cases z)).trans Z,le.all Y,X⟩
 |tb x =>
  obtain⟨c,O,Z,Y,X,W⟩:=h
  exact⟨c,O,Z,(e (by intro z;cases z)).trans Y,X,λpos N q=>let ⟨U,T,V,t,M,S,L⟩:=W pos N q;⟨U,T,V,t,M,le.aR U T _ S.1 S.2,L⟩⟩
 |ins c fs =>
  obtain⟨C,J,V,Z,Y,X,W⟩:=h;exact⟨C,J,V,Z,(e (by intro z;cases z)).trans Y,X,le.all W⟩
section
variable {K:ę} {w:Wd}
def Wd.grow (w:Wd) (p:Ù) (o:HO):Wd:={ w with H:=upd w.H p o }
def Rd.grow (hp:H p=none) (h:Rd H a u):Rd (upd H p o) a u:=by
 rcases h with h | ⟨Z,h⟩
 ·exact .inl (by rw[aV (dg h hp)];exact h)
 ·exact .inr ⟨Z,by rw[aV (dg h hp)];exact h⟩
theorem bz.grow (hp:H p=none) (h:bz K H a xs):bz K (upd H p o) a xs:=by
 rcases h with h|h
 ·exact .inl (Rd.grow hp h)
 ·exact .inr h
theorem Fw.grow (hp:w.H p=none):Fw K w (w.grow p o) where
 E9:=λ_ _ e=>e
 tup:=λa Y h=>bz.grow hp h
 lst:=λa Y Z h=>⟨Z,by show upd w.H p o a=_;rw[aV (dg h hp)];exact h⟩
 aR:=λa X Y Z h=>⟨Z,by show upd w.H p o a=_;rw[aV (dg h hp)];exact h⟩
 bA:=λa W Z h=>⟨Z,by show upd w.H p o a=_;rw[aV (dg h hp)];exact h⟩
theorem aM.grow (S:aM K w) (hp:w.H p=none):aM K (w.grow p o) where
 len:=S.len
 nd:=S.nd
 there:=λk a e=>by
  have h:=S.there k a e;show upd w.H p o a≠none;unfold upd;split
  ·intro z;cases z
  ·exact h
 cell:=λk a c e1 e2=>(S.cell k a c e1 e2).le (Fw.grow hp).le λ_=>by
  have h:=S.there k a e1;show upd w.H p o a=w.H a;rw[aV];intro z;rw[z] at h;exact h hp
def Wd.cell (w:Wd) (p:Ù) (o:HO) (c:Cell):Wd:=⟨w.ρ++[p],w.aB++[c],upd w.H p o⟩
def Wd.CB (S:aM K w) (h:(w.cell p o c).Z a):w.Z a\/a=p:=by
 obtain⟨k,Y,e1,e2,V⟩:=h;have e1:(w.ρ++[p])[k]?=some a:=e1;have e2:(w.aB++[c])[k]?=some Y:=e2;by_cases X:k<w.ρ.length
 ·rw[Ü X] at e1
  rw[Ü (by rw[<- S.len];exact X)] at e2;exact .inl ⟨k,Y,e1,e2,V⟩
 ·rw[ð (by omega)] at e1
  right
  cases W:k-w.ρ.length with
  |zero=>rw[W] at e1;exact(acH e1).symm
  |succ j=>rw[W] at e1;cases e1
theorem Fw.cell (S:aM K w) (hp:w.H p=none):Fw K w (w.cell p o c) where
 E9:=λk a e=>by
  show (w.ρ++[p])[k]?=some a;rw[Ü (Ã.mp e).1];exact e
 tup:=λa Y h=>bz.grow hp h
 lst:=λa Y Z h=>⟨λz=>(Wd.CB S z).elim Z (λe=>by (subst e;rw[hp] at h;cases h)),by show upd w.H p o a=_;rw[aV (dg h hp)];exact h⟩
 aR:=λa X Y Z h=>⟨λz=>(Wd.CB S z).elim Z (λe=>by (subst e;rw[hp] at h;cases h)),by show upd w.H p o a=_;rw[aV (dg h hp)];exact h⟩
 bA:=λa W Z h=>⟨λz=>(Wd.CB S z).elim Z (λe=>by (subst e;rw[hp] at h;cases h)),by show upd w.H p o a=_;rw[aV (dg h hp)];exact h⟩
def aM.yQ (S:aM K w) (hp:w.H p=none) (hc:rB K (w.cell p o c) p c):aM K (w.cell p o c) where
 len:=by show (w.ρ++[p]).length=(w.aB++[c]).length;simp[S.len]
 nd:=by
  show (w.ρ++[p]).Nodup;rw[ψ];refine⟨S.nd,by simp,λa W b V=>?_⟩;obtain⟨k,e⟩:=List.getElem?_of_mem W;have h:=S.there k a e;have U:b=p:=by simpa using V
  rw[U];intro z;rw[z] at h;exact h hp
 there:=λk a e=>by
  have e:(w.ρ++[p])[k]?=some a:=e;show upd w.H p o a≠none;unfold upd;split
  ·intro z;cases z
  ·rename_i T
   by_cases Y:k<w.ρ.length
   ·rw[Ü Y] at e
    exact S.there k a e
   ·rw[ð (by omega)] at e
    cases Z:k-w.ρ.length with
    |zero=>rw[Z] at e;exact absurd (acH e).symm T
    |succ j=>rw[Z] at e;cases e
 cell:=λk a X e1 e2=>by
  have e1:(w.ρ++[p])[k]?=some a:=e1;have e2:(w.aB++[c])[k]?=some X:=e2;by_cases Y:k<w.ρ.length
  ·rw[Ü Y] at e1
   rw[Ü (by rw[<- S.len];exact Y)] at e2;refine(S.cell k a X e1 e2).le (Fw.cell S hp).le λ_=>?_;have h:=S.there k a e1;show upd w.H p o a=w.H a;rw[aV];intro z;rw[z] at h;exact h hp
  ·rw[ð (by omega)] at e1
   rw[ð (by rw[<- S.len];omega)] at e2;rw[<- S.len] at e2
   cases Z:k-w.ρ.length with
   |zero =>
    rw[Z] at e1 e2;have e1:p=a:=acH e1;have e2:c=X:=acH e2;subst e1 e2;exact hc
   |succ j=>rw[Z] at e1;cases e1
def Wd.same (w:Wd) (H':Hp):Wd:={ w with H:=H' }
theorem Fw.same (e:kI w.H H'):Fw K w (w.same H') :=
 ⟨λ_ _ e=>e,λa Y h=>e.sqT h,λa Y Z h=>⟨Z,e _ _ h⟩,λa o Y Z h=>⟨Z,e _ _ h⟩,λa X Z h=>⟨Z,e _ _ h⟩⟩
theorem aM.same (S:aM K w) (e:kI w.H H'):aM K (w.same H') where
 len:=S.len
 nd:=S.nd
 there:=λk a q=>by
  have h:=S.there k a q;show H' a≠none
  cases Z:w.H a with
  |none=>exact absurd Z h
  |some o=>rw[e _ _ Z];intro z;cases z
 cell:=λk a c e1 e2=>(S.cell k a c e1 e2).le (Fw.same e).le λ_=>by
  have h:=S.there k a e1;show H' a=w.H a
  cases Z:w.H a with
  |none=>exact absurd Z h
  |some o=>exact e _ _ Z
def Wd.put (w:Wd) (k:Nat) (a:Ù) (o:HO) (c:Cell):Wd:=⟨w.ρ,w.aB.set k c,upd w.H a o⟩
def Hi {α:Type} {l:List α} (nd:l.Nodup) {i j:Nat} {a:α} (h1:l[i]?=some a) (h2:l[j]?=some a):i=j:=by
 exact(List.getElem?_inj (Ã.mp h1).1 nd).mp (h1.trans h2.symm)
def Wd.Dq (h0:w.ρ[k]?=some a) (h1:w.aB[k]?=some c0) (h2:c0≠.dead) (h:(w.put k a o c).Z b):w.Z b:=by
 obtain⟨j,Y,e1,e2,W⟩:=h;have e1:w.ρ[j]?=some b:=e1;have e2:(w.aB.set k c)[j]?=some Y:=e2;by_cases X:k=j
 ·subst X
  exact⟨k,c0,e1,h1,h2⟩
 ·rw[Ï X] at e2
  exact⟨j,Y,e1,e2,W⟩
theorem Fw.put (S:aM K w) (h0:w.ρ[k]?=some a) (h1:w.aB[k]?=some c0) (h2:c0≠.dead):Fw K w (w.put k a o c):=by
 have W:w.Z a:=⟨k,c0,h0,h1,h2⟩;have T:∀X,¬ Rd w.H a (.tup X):=λX h=>by
  have q:=S.cell k a c0 h0 h1
  cases c0 with
  |dead=>exact h2 rfl
  |lst Q=>obtain⟨V,e,_⟩:=q;rcases h with h | ⟨_,h⟩<;>(rw[e] at h;cases h)
  |dK R=>obtain⟨V,e,_⟩:=q;rcases h with h | ⟨_,h⟩<;>(rw[e] at h;cases h)
  |dT R=>obtain⟨V,e,_⟩:=q;rcases h with h | ⟨_,h⟩<;>(rw[e] at h;cases h)
  |tb x=>obtain⟨_,V,_,e,_⟩:=q;rcases h with h | ⟨_,h⟩<;>(rw[e] at h;cases h)
  |ins c fs=>obtain⟨_,_,_,_,e,_⟩:=q;rcases h with h | ⟨_,h⟩<;>(rw[e] at h;cases h)
 refine⟨λ_ _ e=>e,λb X h=>?_,λb X Y h=>⟨λz=>Y (Wd.Dq h0 h1 h2 z),?_⟩,λb U X Y h=>⟨λz=>Y (Wd.Dq h0 h1 h2 z),?_⟩,λb P Y h=>⟨λz=>Y (Wd.Dq h0 h1 h2 z),?_⟩⟩
 ·rcases h with h|h
  ·have ne:b≠a:=λe=>by subst e;exact T X h
   refine .inl ?_
   rcases h with h | ⟨U,h⟩
   ·exact .inl (by show upd w.H a o b=_;rw[aV ne];exact h)
   ·exact .inr ⟨U,by show upd w.H a o b=_;rw[aV ne];exact h⟩
  ·exact .inr h
 ·have ne:b≠a:=λe=>by subst e;exact Y W
  show upd w.H a o b=_;rw[aV ne];exact h
 ·have ne:b≠a:=λe=>by subst e;exact Y W
  show upd w.H a o b=_;rw[aV ne];exact h
 ·have ne:b≠a:=λe=>by subst e;exact Y W
  show upd w.H a o b=_;rw[aV ne];exact h
def aM.vG {k:Nat} {a:Ù} {o:HO} {c c0:Cell} (S:aM K w) (h0:w.ρ[k]?=some a) (h1:w.aB[k]?=some c0) (h2:c0≠.dead) (hc:rB K (w.put k a o c) a c):aM K (w.put k a o c) where
 len:=by show w.ρ.length=(w.aB.set k c).length;rw[î];exact S.len
 nd:=S.nd
 there:=λj b e=>by
  show upd w.H a o b≠none;unfold upd;split
  ·intro z;cases z
  ·exact S.there j b e
 cell:=λj b Z e1 e2=>by
  have e1:w.ρ[j]?=some b:=e1;have e2:(w.aB.set k c)[j]?=some Z:=e2;by_cases Y:k=j
  ·subst Y
   rw[h0] at e1;have e1:a=b:=acH e1;rw[Ó (Ã.mp h1).1] at e2;have e2:c=Z:=acH e2;subst e1 e2;exact hc
  ·rw[Ï Y] at e2
   refine(S.cell j b Z e1 e2).le (Fw.put S h0 h1 h2).le λ_=>?_;show upd w.H a o b=w.H b;rw[aV];intro z;subst z;exact Y (Hi S.nd h0 e1)
noncomputable def Wd.freeze (w:Wd) (k:Nat):Wd:={ w with aB:=w.aB.set k .dead }
def Wd.Bo (h:(w.freeze k).Z b):w.Z b:=by
 obtain⟨j,Y,e1,e2,X⟩:=h;have e2:(w.aB.set k .dead)[j]?=some Y:=e2;by_cases W:k=j
 ·subst W
  have V:=(Ã.mp e2).1;rw[î] at V;rw[Ó V] at e2;exact absurd (acH e2).symm X
 ·rw[Ï W] at e2
  exact⟨j,Y,e1,e2,X⟩
theorem Fw.freeze:Fw K w (w.freeze k) :=
 ⟨λ_ _ e=>e,λ_ _ h=>h,λ_ _ Z h=>⟨λz=>Z (Wd.Bo z),h⟩,λ_ _ _ Z h=>⟨λz=>Z (Wd.Bo z),h⟩,λ_ _ Z h=>⟨λz=>Z (Wd.Bo z),h⟩⟩
theorem aM.freeze (S:aM K w):aM K (w.freeze k) where
 len:=by show w.ρ.length=(w.aB.set k .dead).length;rw[î];exact S.len
 nd:=S.nd
 there:=S.there
 cell:=λj b Z e1 e2=>by
  have e2:(w.aB.set k .dead)[j]?=some Z:=e2;by_cases Y:k=j
  ·subst Y
   have X:=(Ã.mp e2).1;rw[î] at X;rw[Ó X] at e2;rw[<- acH e2];trivial
  ·rw[Ï Y] at e2
   exact(S.cell j b Z e1 e2).le Fw.freeze.le λ_=>rfl
def Wd.RT {k:Nat} {a:Ù} (S:aM K w) (h:w.ρ[k]?=some a):¬ (w.freeze k).Z a:=by
 rintro ⟨j,X,e1,e2,W⟩;have e1:w.ρ[j]?=some a:=e1;have e2:(w.aB.set k .dead)[j]?=some X:=e2;have V:=Hi S.nd h e1;subst V;have Y:=(Ã.mp e2).1;rw[î] at Y;rw[Ó Y] at e2;exact W (acH e2).symm
end
structure bL (K:ę) (w:Wd) (env:Env) (σ:St):Prop where
 len:env.length=σ.length
 val:∀(i:Nat) d,env[i]?=some (some d)->∃v,σ[i]?=some (some v)/\DV K w d v
theorem bL.le (h:bL K w env σ) (le:Le K w w'):bL K w' env σ :=
 ⟨h.len,λi d e=>by obtain⟨v,e1,e2⟩:=h.val i d e;exact⟨v,e1,le d v e2⟩⟩
theorem bL.set (h:bL K w env σ) (hd:DV K w d v) (i:Nat):bL K w (env.set i (some d)) (σ.set i (some v)):=by
 refine⟨by rw[î,î];exact h.len,λj X e=>?_⟩;by_cases Z:i=j
 ·subst Z
  have Y:=(Ã.mp e).1;rw[î] at Y;rw[Ó Y] at e;have e:d=X:=acH (acH e);subst e;exact⟨v,by rw[Ó (by rw[<- h.len];exact Y)],hd⟩
 ·rw[Ï Z] at e
  rw[Ï Z];exact h.val j X e
def Out (K:ę) (Ξ:Wd->aY->Prop) (w:Wd) {α:Type} (r:Res α) (k:Wd->α->Prop):Prop:=match r with
 |none=>False
 |some (.ok a,s)=>∀Z,Le K w Z->aM K Z->Z.aB=s->k Z a
 |some (.error x,s)=>∀Z,Le K w Z->aM K Z->Z.aB=s->Ξ Z x
section
variable {K:ę} {Ξ:Wd->aY->Prop} {w w':Wd} {α β:Type} {r:Res α} {k k':Wd->α->Prop}
def Out.from (h:Out K Ξ w r k) (le:Le K w w'):Out K Ξ w' r k:=by
 unfold Out at h |-
 split<;>simp only at h
 ·exact λZ Y X e2=>h Z (le.trans Y) X e2
 ·exact λZ Y X e2=>h Z (le.trans Y) X e2
def Out.mono (h:Out K Ξ w r k) (hk:∀w2 a,Le K w w2->aM K w2->k w2 a->k' w2 a):Out K Ξ w r k':=by
 unfold Out at h |-
 split<;>simp only at h
 ·exact λw2 Z Y e2=>hk w2 _ Z Y (h w2 Z Y e2)
 ·exact h
theorem Out.ak {q:Wd->β->Prop} (h:Out K Ξ w (DI.ak r g) q):Out K Ξ w r (λw2 a=>Out K Ξ w2 (g a w2.aB) q):=by
 match r,h with
 |some (.ok a,s),h =>
  intro w2 Z Y e2;rw[e2];exact Out.from h Z
 |some (.error x,s),h=>exact h
def Out.done (h:Out K Ξ w (some (.ok a,w.aB)) k) (S:aM K w):k w a:=h w (Le.refl w) S rfl
end
end DI
namespace DI
open PySem L2
def tE (K:ę) (Ξ:Wd->aY->Prop) (f:acC D):TE:=fun σ H Q=>∃w env,w.H=H/\aM K w/\bL K w env σ/\Out K Ξ w (f env w.aB) λZ d=>∀v,DV K Z d v->Q v Z.H
def tT (K:ę) (Ξ:Wd->aY->Prop) (f:acC Bool):TT:=fun σ H Q=>∃w env,w.H=H/\aM K w/\bL K w env σ/\Out K Ξ w (f env w.aB) λZ b=>Q b Z.H
def tA (K:ę) (Ξ:Wd->aY->Prop) (f:acC (List D)):TA:=fun σ H Q=>∃w env,w.H=H/\aM K w/\bL K w env σ/\Out K Ξ w (f env w.aB) λZ X=>∀Y,ar K Z X Y->Q Y Z.H
def rO (K:ę) (Ξ:Wd->aY->Prop) (o:D->D->af->Res D):R2:=λx y H Q=>∃w Z Y,w.H=H/\aM K w/\DV K w Z x/\DV K w Y y/\Out K Ξ w (o Z Y w.aB) λX d=>∀v,DV K X d v->Q v X.H
def rU (K:ę) (Ξ:Wd->aY->Prop) (o:D->af->Res D):V->Hp->VK->Prop:=λx H Q=>∃w Z,w.H=H/\aM K w/\DV K w Z x/\Out K Ξ w (o Z w.aB) λY d=>∀v,DV K Y d v->Q v Y.H
def rC (K:ę) (Ξ:Wd->aY->Prop) (o:List D->af->Res D):List V->Hp->VK->Prop:=λX H Q=>∃w Z,w.H=H/\aM K w/\ar K w Z X/\Out K Ξ w (o Z w.aB) λY d=>∀v,DV K Y d v->Q v Y.H
def ae (i:Nat):acC D:=λenv s=>match env[i]? with
 |some (some d)=>ok d s
 |_=>none
def eC (d:D):acC D:=λ_ s=>ok d s
def e1 (o:D->af->Res D) (f:acC D):acC D:=λenv s=>ak (f env s) λx s=>o x s
def e2 (o:D->D->af->Res D) (f g:acC D):acC D:=λenv s=>ak (f env s) λx s=>ak (g env s) λy s=>o x y s
def ah:acC (List D):=λ_ s=>ok [] s
def aa (f:acC D) (g:acC (List D)):acC (List D):=λenv s=>ak (f env s) λx s=>ak (g env s) λZ s=>ok (x::Z) s
def eB (o:List D->af->Res D) (f:acC (List D)):acC D:=λenv s=>ak (f env s) λZ s=>o Z s
def iw {α:Type} (ds:List D) (r:Res α):Res α:=if ds.length<=Ø then r else none
def ba (f:acC (List D)):acC D:=λenv s=>ak (f env s) λZ s=>iw Z (ok (.tup Z) s)
def bH (f:acC (List D)):acC D:=λenv s=>ak (f env s) λZ s=>iw Z (ok (.lst Z) s)
def eNew (f:acC (List D)):acC D:=λenv s=>ak (f env s) λZ s=>iw Z (ok (.aj s.length) (s++[.lst Z]))
def aR:D->af->Res D:=λd s=>match d with
 | .aj k=>match s[k]? with
  |some (.lst Z)=>ok (.lst Z) (s.set k .dead)
  |_=>none
 |_=>none
def oz (f:acC D):acC D:=λenv s=>ak (f env s) aR
def fW (d:D) (s:af):Res Bool:=match d with
 | .bl b=>ok b s
 |_=>none
def aQ (f:acC D):acC Bool:=λenv s=>ak (f env s) fW
def truth (d:D) (s:af):Res Bool:=match d with
 | .au=>ok false s
 | .bl b=>ok b s
 | .int i=>ok (i != 0) s
 | .str x=>if x.length<=Ø then ok ((x.length:Int) != 0) s else none
 | .tup Z=>ok (!Z.isEmpty) s
 | .lst Z=>ok (!Z.isEmpty) s
 | .bA Y=>ok (!Y.isEmpty) s
 | .aj k=>match s[k]? with
  |some (.lst Z)=>ok (!Z.isEmpty) s
  |some (.dK Y)=>ok (!Y.isEmpty) s
  |_=>none
 | .ty _=>none
 | .bK _=>none
 | .exc _ _=>none
 | .cG _ _ _=>none
def dj (f:acC D):acC Bool:=λenv s=>ak (f env s) truth
def kE (f g:acC Bool):acC Bool:=λenv s=>ak (f env s) λb s=>if b=true then g env s else ok false s
def i7 (f g:acC Bool):acC Bool:=λenv s=>ak (f env s) λb s=>if b=true then ok true s else g env s
def dJ (f:acC Bool):acC Bool:=λenv s=>ak (f env s) λb s=>ok (!b) s
def dZ (f g:acC D):acC D:=λenv s=>ak (f env s) λx s=>ak (fW x s) λb s=>if b=true then g env s else ok (.bl false) s
def tu (f g:acC D):acC D:=λenv s=>ak (f env s) λx s=>ak (fW x s) λb s=>if b=true then ok (.bl true) s else g env s
def vH (f:acC D):acC D:=λenv s=>ak (f env s) λx s=>ak (fW x s) λb s=>ok (.bl (!b)) s
def iL (c:acC Bool) (f g:acC D):acC D:=λenv s=>ak (c env s) λb s=>if b=true then f env s else g env s
def qD (o o':D->D->af->Res D) (f g h:acC D):acC D:=λenv s=>ak (f env s) λx s=>ak (g env s) λy s=>ak (o x y s) λz s=>ak (fW z s) λb s =>
 if b=true then ak (h env s) λu s=>o' y u s else ok (.bl false) s
section
variable {X:Cx} {Ξ:Wd->aY->Prop} {e a b c:ħ} {es rest:List ħ} {pos:Pos} {f g h:acC D} {fa:acC (List D)} {ft gt:acC Bool}
def cA {t t':TE} (h:PE X e t) (i:∀ σ H Q,t' σ H Q->t σ H Q):PE X e t':=λZ s σ H Q I Y=>h Z s σ H Q I (i σ H Q Y)
def CC {t t':TT} (h:PT X e t) (i:∀ σ H Q,t' σ H Q->t σ H Q):PT X e t':=λZ s σ H Q I Y=>h Z s σ H Q I (i σ H Q Y)
def KL {t t':TT} (h:PW X e t) (i:∀ σ H Q,t' σ H Q->t σ H Q):PW X e t':=λZ Y s σ H Q I W=>h Z Y s σ H Q I (i σ H Q W)
def KN {t t':TA} (h:PA X es t) (i:∀ σ H Q,t' σ H Q->t σ H Q):PA X es t':=λp Z s σ H Q I Y=>h p Z s σ H Q I (i σ H Q Y)
def jG (h:PS X st t) (i:∀D σ H,t' D σ H->t D σ H):PS X st t':=λZ s σ H D I Y=>h Z s σ H D I (i D σ H Y)
def BY (h:cY X st t) (i:∀D σ H,t' D σ H->t D σ H):cY X st t':=λZ s σ H D I Y=>h Z s σ H D I (i D σ H Y)
def aG {α:Type} {K:ę} {w:Wd} {a:α} {k:Wd->α->Prop} (S:aM K w) (h:Out K Ξ w (ok a w.aB) k):k w a:=h w (Le.refl w) S rfl
def ag (i:Nat) {x:Str} (hN:X.N[i]?=some x:=by rfl) (hv:oG X.env.scope x:=by first|exact Ź rfl|exact acB (Ź rfl)|exact acB (acB rfl)) (hd:(x==("__debug__":Str))=false:=by decide)
  (fy:(x==("__classdict__":Str))=false:=by decide):PE X (.Name x pos) (tE X.K Ξ (ae i)):=cA (Cv hN hv hd fy) fun σ H Q Z=>by
 obtain⟨w,env,Y,S,W,h⟩:=Z;unfold ae at h;split at h
 ·rename_i d V
  obtain⟨v,e1,e2⟩:=W.val i d V;subst Y;exact⟨v,e1,aG S h v e2⟩
 ·exact h.elim
def rS {d:D} {v:V} (h:PE X e (tC v)) (hd:∀w,DV X.K w d v):PE X e (tE X.K Ξ (eC d)):=cA h fun σ H Q Z=>by
 obtain⟨w,env,Y,S,W,h⟩:=Z;subst Y;exact aG S h v (hd w)
def aw {i j}:PE X (.Constant (.int i) j pos) (tE X.K Ξ (eC (.int i))):=rS Ks λ_=>rfl
def iB {b j}:PE X (.Constant (.bool b) j pos) (tE X.K Ξ (eC (.bl b))):=rS Dd λ_=>rfl
def mR {j}:PE X (.Constant .none j pos) (tE X.K Ξ (eC .au)):=rS Ww λ_=>rfl
def aP {x j}:PE X (.Constant (.str x) j pos) (tE X.K Ξ (eC (.str x))):=rS yj λ_=>rfl
def xX (σ:St) (H:Hp) (Q:VK):tE K Ξ (e2 o f g) σ H Q->wk (rO K Ξ o) (tE K Ξ f) (tE K Ξ g) σ H Q:=by
 rintro ⟨w,env,rfl,S,Z,h⟩;exact⟨w,env,rfl,S,Z,(Out.ak h).mono λY x X W V v1 U=>⟨Y,env,rfl,W,Z.le X,(Out.ak V).mono λT y R P O v2 N=>⟨T,x,y,rfl,P,R _ _ U,N,O⟩⟩⟩
def bQ (ho:bI X (Ł op) (rO X.K Ξ o)) (ha:PE X a (tE X.K Ξ f)) (hb:PE X b (tE X.K Ξ g)):PE X (.BinOp a op b pos) (tE X.K Ξ (e2 o f g)):=cA (YD ho ha hb) xX
def kz (ho:bI X (ġ op) (rO X.K Ξ o)) (ha:PE X a (tE X.K Ξ f)) (hb:PE X b (tE X.K Ξ g)) (hm:abm op b=false):PE X (.Compare a [op] [b] pos) (tE X.K Ξ (e2 o f g)):=cA (U5 ho ha hb hm) xX
def W7 {K:ę} (σ:St) (H:Hp) (Q:Bool->Hp->Prop):tT K Ξ (aQ f) σ H Q->yO (tE K Ξ f) σ H Q:=by
 rintro ⟨w,env,rfl,S,Y,h⟩;refine⟨w,env,rfl,S,Y,(Out.ak h).mono λV x U X Z v1 W=>?_⟩
 cases x with
 |bl b =>
  have e:v1=.bl b:=W;exact⟨b,e,aG X Z⟩
 |_=>exact Z.elim
def QM (i:∀ σ H Q,t' σ H Q->t σ H Q) (σ:St) (H:Hp) (Q:Bool->Hp->Prop):yO t' σ H Q->yO t σ H Q:=λh=>i _ _ _ h
def bN (ho:bI X (ġ op) (rO X.K Ξ o)) (ha:PE X a (tE X.K Ξ f)) (hb:PE X b (tE X.K Ξ g)) (hm:abm op b=false):PT X (.Compare a [op] [b] pos) (tT X.K Ξ (aQ (e2 o f g))) :=
 CC (U6 ho ha hb hm) fun σ H Q h=>QM xX σ H Q (W7 σ H Q h)
def W8 {K:ę} {o o':D->D->af->Res D} (σ:St) (H:Hp) (Q:VK):tE K Ξ (qD o o' f g h) σ H Q->Kx (rO K Ξ o) (rO K Ξ o') (tE K Ξ f) (tE K Ξ g) (tE K Ξ h) σ H Q:=by
 rintro ⟨w,env,rfl,S,Y,h⟩;refine⟨w,env,rfl,S,Y,(Out.ak h).mono λO x V N M v1 L=>⟨O,env,rfl,N,Y.le V,(Out.ak M).mono λJ y U I G v2 T=>⟨J,x,y,rfl,I,U _ _ L,T,(Out.ak G).mono λF z R X E C W=>?_⟩⟩⟩;have P:=Out.ak E
 cases z with
 |bl b =>
  have e:C=.bl b:=W;have Z:=aG X P;refine⟨b,e,?_⟩
  cases b with
  |true =>
   rw[ã rfl] at Z |-;exact⟨F,env,rfl,X,Y.le (V.trans (U.trans R)),(Out.ak Z).mono λB u A v t v4 s=>⟨B,y,u,rfl,v,(R.trans A) _ _ T,s,t⟩⟩
  |false =>
   rw[í Û] at Z |-;exact aG X Z _ rfl
 |_=>exact P.elim
def BZ (ho:bI X (ġ op) (rO X.K Ξ o)) (eZ:bI X (ġ sX) (rO X.K Ξ o')) (ha:PE X a (tE X.K Ξ f)) (hb:PE X b (tE X.K Ξ g)) (hc:PE X c (tE X.K Ξ h))
 (hm:lastMarks [op,sX] [b,c]=false:=by with_unfolding_all rfl):PE X (.Compare a [op,sX] [b,c] pos) (tE X.K Ξ (qD o o' f g h)):=cA (S7 ho eZ ha hb hc hm) W8
def Ej (ho:wj X (unaryOp op) (rU X.K Ξ o)) (ha:PE X a (tE X.K Ξ f)):PE X (.UnaryOp op a pos) (tE X.K Ξ (e1 o f)):=cA (YE ho ha) fun σ H Q Z=>by
 obtain⟨w,env,Y,S,W,h⟩:=Z;subst Y;exact⟨w,env,rfl,S,W,(Out.ak h).mono λV x P U T v1 R=>⟨V,x,rfl,U,R,T⟩⟩
def cV:PA X [] (tA X.K Ξ ah):=KN pK fun σ H Q Z=>by
 obtain⟨w,env,Y,S,W,h⟩:=Z;subst Y;exact aG S h _ rfl
def aS (ha:PE X e (tE X.K Ξ f)) (hr:PA X es (tA X.K Ξ fa)) (hs:Õ (e::es) X.env=(false,ō e X.env)::Õ es X.env:=by rfl):PA X (e::es) (tA X.K Ξ (aa f fa)):=KN (nU ha hr hs) fun σ H Q Y=>by
 obtain⟨w,env,W,S,Z,h⟩:=Y;subst W;exact⟨w,env,rfl,S,Z,(Out.ak h).mono λV x U T R v1 P=>⟨V,env,rfl,T,Z.le U,(Out.ak R).mono λI G O N M L J=>aG N M _ ⟨v1,L,rfl,O _ _ P,J⟩⟩⟩
def uk {α:Type} {K:ę} {w:Wd} {ds:List D} {r:Res α} {k:Wd->α->Prop} (h:Out K Ξ w (iw ds r) k):ds.length<=Ø/\Out K Ξ w r k:=by
 unfold iw at h;split at h
 ·exact⟨by assumption,h⟩
 ·exact h.elim
def bR {x1} (ha:PA X es (tA X.K Ξ fa)):PE X (.Tuple es x1 pos) (tE X.K Ξ (ba fa)):=cA (WN ha) fun σ H Q V=>by
 obtain⟨w,env,U,S,T,h⟩:=V;subst U;refine⟨w,env,rfl,S,T,(Out.ak h).mono λR L J P O Y W=>?_⟩;obtain⟨N,M⟩:=uk O;refine⟨by rw[<- W.length];exact N,λp Z=>?_⟩;exact M (R.grow p (.tup Y)) (Fw.grow Z).le (P.grow Z) rfl (.ref p) ⟨p,Y,rfl,bz.of cq,(Fw.grow Z).le.all W⟩
def km {K:ę} {w:Wd} {p:Ù} (S:aM K w) (hp:w.H p=none):¬ w.Z p:=λ⟨k,c,e1,_,_⟩=>S.there k p e1 hp
def cE (ha:PA X es (tA X.K Ξ fa)):PE X (.List es pos) (tE X.K Ξ (bH fa)):=cA (Kz ha) fun σ H Q R=>by
 obtain⟨w,env,P,S,O,h⟩:=R;subst P;refine⟨w,env,rfl,S,O,(Out.ak h).mono λW J I V N U T=>?_⟩;obtain⟨M,L⟩:=uk N;refine⟨by rw[<- T.length];exact M,λp Y=>?_⟩;exact L (W.grow p (.lst U)) (Fw.grow Y).le (V.grow Y) rfl (.ref p) ⟨p,U,rfl,⟨(show ¬ W.Z p from km V Y),cq⟩,(Fw.grow Y).le.all T⟩
def vd (ha:PA X es (tA X.K Ξ fa)):PE X (.List es pos) (tE X.K Ξ (eNew fa)):=cA (Kz ha) fun σ H Q R=>by
 obtain⟨w,env,P,S,O,h⟩:=R;subst P;refine⟨w,env,rfl,S,O,(Out.ak h).mono λZ V J Y N W U=>?_⟩;obtain⟨M,L⟩:=uk N;refine⟨by rw[<- U.length];exact M,λp T=>?_⟩;have le:=(Fw.cell (o:=.lst W) (c:=.lst V) Y T).le;refine L (Z.cell p (.lst W) (.lst V)) le (Y.yQ T ⟨W,cq,le.all U⟩) rfl (.ref p) ⟨p,?_,rfl⟩;show (Z.ρ++[p])[Z.aB.length]?=some p;rw[<- Y.len];simp
def LM (ha:PE X a (tE X.K Ξ f)):PE X a (tE X.K Ξ (oz f)):=cA ha fun σ H Q W=>by
 obtain⟨w,env,V,S,U,h⟩:=W;subst V;refine⟨w,env,rfl,S,U,(Out.ak h).mono λT x L Y Z v1 R=>?_⟩;unfold aR at Z;split at Z
 ·rename_i k
  split at Z
  ·rename_i J P
   obtain⟨p,e1,e2⟩:=R;obtain⟨O,N,M⟩:=Y.cell k p _ e1 P;exact Z (T.freeze k) Fw.freeze.le Y.freeze rfl v1 ⟨p,O,e2,⟨Wd.RT Y e1,N⟩,Fw.freeze.le.all M⟩
  ·exact Z.elim
 ·exact Z.elim
theorem qh.of {K:ę} {w:Wd} {d:D} {v:V} {k:Wd->Bool->Prop} (S:aM K w) (hd:DV K w d v) (h:Out K Ξ w (truth d w.aB) k):∃b,qh K v w.H b/\k w b:=by
 cases d with
 |au=>have e:v=.au:=hd;subst e;exact⟨_,rfl,aG S h⟩
 |bl b=>have e:v=.bl b:=hd;subst e;exact⟨_,rfl,aG S h⟩
 |int i=>have e:v=.int i:=hd;subst e;exact⟨_,rfl,aG S h⟩
 |str x =>
  have e:v=.str x:=hd;subst e;unfold truth at h
  split at h<;>first|contradiction|skip
  all_goals (rename_i e;cases e)
  split at h
  ·exact⟨_,⟨by assumption,rfl⟩,aG S h⟩
  ·exact h.elim
 |tup Y =>
  simp only[DV] at hd;obtain⟨a,Z,rfl,X,r⟩:=hd;refine⟨_,.inr (.inl ⟨Z,X,?_⟩),aG S h⟩;have e:=r.length
  cases Y<;>cases Z<;>first|rfl|cases e
 |lst Y =>
  simp only[DV] at hd;obtain⟨a,Z,rfl,X,r⟩:=hd;refine⟨_,.inl ⟨Z,X.sq,?_⟩,aG S h⟩;have e:=r.length
  cases Y<;>cases Z<;>first|rfl|cases e
 |bA W =>
  simp only[DV] at hd;obtain⟨a,rfl,_,X⟩:=hd;refine⟨_,.inr (.inr ⟨_,X,?_⟩),aG S h⟩
  cases W<;>rfl
 |aj j =>
  simp only[DV] at hd;obtain⟨a,e1,rfl⟩:=hd;simp only[truth] at h;split at h
  ·rename_i Y U
   obtain⟨Z,T,R⟩:=S.cell j a _ e1 U;refine⟨_,.inl ⟨Z,bC.of T,?_⟩,aG S h⟩;have e:=R.length
   cases Y<;>cases Z<;>first|rfl|cases e
  ·rename_i W U
   obtain⟨es,T,R,Q⟩:=S.cell j a _ e1 U;refine⟨_,.inr (.inr ⟨es,T,?_⟩),aG S h⟩;have e:=ň List.length R
   cases W<;>cases es<;>first|rfl|simp at e
  ·exact h.elim
 |ty n=>exact h.elim
 |bK P=>exact h.elim
 |exc o _=>exact h.elim
 |cG o _ _=>exact h.elim
def ib (ha:PE X a (tE X.K Ξ f)) (he:∀whole,isTrue a X.env whole=(do let v <- whole;acf a.pos;abj [v] (truthy v)):=by intro _;rfl):PT X a (tT X.K Ξ (dj f)):=CC (S8 ha he) fun σ H Q Z=>by
 obtain⟨w,env,Y,S,W,h⟩:=Z;subst Y;exact⟨w,env,rfl,S,W,(Out.ak h).mono λR x P V U v1 T=>qh.of V T U⟩
def ix (ha:PT X a (tT X.K Ξ ft)):PT X (.UnaryOp .Not a pos) (tT X.K Ξ (dJ ft)):=CC (Wz ha) fun σ H Q Z=>by
 obtain⟨w,env,Y,S,W,h⟩:=Z;subst Y;exact⟨w,env,rfl,S,W,(Out.ak h).mono λT b R V U=>aG V U⟩
def yn (ha:PT X a (tT X.K Ξ ft)):PW X (.BoolOp .And [a] pos) (tT X.K Ξ ft):=U0 ha
def pX (ha:PT X a (tT X.K Ξ ft)):PW X (.BoolOp .Or [a] pos) (tT X.K Ξ ft):=Wx ha
def w_and (ha:PT X a (tT X.K Ξ ft)) (hb:PW X (.BoolOp .And (b::rest) pos) (tT X.K Ξ gt)):PW X (.BoolOp .And (a::b::rest) pos) (tT X.K Ξ (kE ft gt)):=KL (Wy ha hb) fun σ H Q V=>by
 obtain⟨w,env,U,S,Z,h⟩:=V;subst U;refine⟨w,env,rfl,S,Z,(Out.ak h).mono λT b R Y W=>?_⟩
 cases b with
 |true=>exact⟨T,env,rfl,Y,Z.le R,W⟩
 |false=>exact aG Y W
def w_or (ha:PT X a (tT X.K Ξ ft)) (hb:PW X (.BoolOp .Or (b::rest) pos) (tT X.K Ξ gt)):PW X (.BoolOp .Or (a::b::rest) pos) (tT X.K Ξ (i7 ft gt)):=KL (Yu ha hb) fun σ H Q V=>by
 obtain⟨w,env,U,S,Z,h⟩:=V;subst U;refine⟨w,env,rfl,S,Z,(Out.ak h).mono λT b R Y W=>?_⟩
 cases b with
 |false=>exact⟨T,env,rfl,Y,Z.le R,W⟩
 |true=>exact aG Y W
def jN {op} (ha:PE X a (tE X.K Ξ f)):PE X (.BoolOp op [a] pos) (tE X.K Ξ f):=WA ha
def B0 {K:ę} {w:Wd} {d:D} {v:V} {k:Wd->Bool->Prop} (S:aM K w) (hd:DV K w d v) (h:Out K Ξ w (fW d w.aB) k):∃b,v=.bl b/\k w b:=by
 cases d with
 |bl b=>exact⟨b,hd,aG S h⟩
 |_=>exact h.elim
def fT (ha:PE X a (tE X.K Ξ f)) (hb:PE X (.BoolOp .And (b::rest) pos) (tE X.K Ξ g)):PE X (.BoolOp .And (a::b::rest) pos) (tE X.K Ξ (dZ f g)):=cA (WB ha hb) fun σ H Q V=>by
 obtain⟨w,env,U,S,Y,h⟩:=V;subst U;refine⟨w,env,rfl,S,Y,(Out.ak h).mono λT x R Z P v1 O=>?_⟩;obtain⟨b,e,W⟩:=B0 Z O (Out.ak P);refine⟨b,e,?_⟩
 cases b with
 |true=>exact⟨T,env,rfl,Z,Y.le R,W⟩
 |false=>exact aG Z W _ rfl
def aaw (ha:PE X a (tE X.K Ξ f)) (hb:PE X (.BoolOp .Or (b::rest) pos) (tE X.K Ξ g)):PE X (.BoolOp .Or (a::b::rest) pos) (tE X.K Ξ (tu f g)):=cA (Yx ha hb) fun σ H Q V=>by
 obtain⟨w,env,U,S,Y,h⟩:=V;subst U;refine⟨w,env,rfl,S,Y,(Out.ak h).mono λT x R Z P v1 O=>?_⟩;obtain⟨b,e,W⟩:=B0 Z O (Out.ak P);refine⟨b,e,?_⟩
 cases b with
 |false=>exact⟨T,env,rfl,Z,Y.le R,W⟩
 |true=>exact aG Z W _ rfl
def LN (ha:PE X a (tE X.K Ξ f)):PE X (.UnaryOp .Not a pos) (tE X.K Ξ (vH f)):=cA (WC ha) fun σ H Q Y=>by
 obtain⟨w,env,W,S,V,h⟩:=Y;subst W;refine⟨w,env,rfl,S,V,(Out.ak h).mono λP x O Z U v1 T=>?_⟩;obtain⟨b,e,R⟩:=B0 Z T (Out.ak U);exact⟨b,e,aG Z R _ rfl⟩
def vI (hc:PT X c (tT X.K Ξ ft)) (ha:PE X a (tE X.K Ξ f)) (hb:PE X b (tE X.K Ξ g)):PE X (.IfExp c a b pos) (tE X.K Ξ (iL ft f g)):=cA (IQ hc ha hb) fun σ H Q T=>by
 obtain⟨w,env,R,S,Z,h⟩:=T;subst R;refine⟨w,env,rfl,S,Z,(Out.ak h).mono λY b W V U=>?_⟩
 cases b with
 |true=>exact⟨Y,env,rfl,V,Z.le W,U⟩
 |false=>exact⟨Y,env,rfl,V,Z.le W,U⟩
def KO (σ:St) (H:Hp) (Q:VK):tE K Ξ (eB o fa) σ H Q->EN (rC K Ξ o) (tA K Ξ fa) σ H Q:=by
 rintro ⟨w,env,rfl,S,Z,h⟩;exact⟨w,env,rfl,S,Z,(Out.ak h).mono λY X T W V R U=>⟨Y,X,rfl,W,U,V⟩⟩
def bP {x:Str} {p:Pos} {id:String} {o:List D->af->Res D} (hc:cD X (.builtin id) (rC X.K Ξ o)) (hg:Gl X x) (hm:X.mg x=none) (hv:ú x=some (.builtin id)) (ha:PA X (e::es) (tA X.K Ξ fa)) (hn:x≠"__name__":=by decide) (fY:(x==("__debug__":Str))=false:=by decide)
  (he:Õ (e::es) X.env=(false,ō e X.env)::Õ es X.env:=by rfl) (bX:(Ň pos (Õ es X.env)).any (·.1)=false:=by rfl):PE X (.Call (.Name x p) (e::es) [] pos) (tE X.K Ξ (eB o fa)):=cA (Bj hc hg hm hv ha hn fY he bX) KO
def nR {x:Str} {p:Pos} {T:String} {o:List D->af->Res D} (hc:cD X (.type T) (rC X.K Ξ o)) (hg:Gl X x) (hm:X.mg x=none) (hv:ú x=some (.type T)) (ha:PA X (e::es) (tA X.K Ξ fa)) (hn:x≠"__name__":=by decide) (fY:(x==("__debug__":Str))=false:=by decide)
  (he:Õ (e::es) X.env=(false,ō e X.env)::Õ es X.env:=by rfl) (bX:(Ň pos (Õ es X.env)).any (·.1)=false:=by rfl):PE X (.Call (.Name x p) (e::es) [] pos) (tE X.K Ξ (eB o fa)):=cA (Ih hc hg hm hv ha hn fY he bX) KO
end
set_option genInjectivity true in
inductive Fl where
 |nx (env:Env)|rt (d:D)|bk (env:Env)|ct (env:Env)
def vJ (K:ę) (D:Ends) (w:Wd):Fl->Prop
 | .nx env=>∀ σ,bL K w env σ->D.nx σ w.H
 | .rt d=>∀v,DV K w d v->D.rt v w.H
 | .bk env=>∀ σ,bL K w env σ->D.bk σ w.H
 | .ct env=>∀ σ,bL K w env σ->D.ct σ w.H
def tS (K:ę) (Ξ:Wd->aY->Prop) (f:acC Fl):TS:=λD σ H=>∃w env,w.H=H/\aM K w/\bL K w env σ/\Out K Ξ w (f env w.aB) (vJ K D)
def bq:acC Fl:=λenv s=>ok (.nx env) s
def ao (f g:acC Fl):acC Fl:=λenv s=>ak (f env s) λfl s=>match fl with
 | .nx env=>g env s
 |fl=>ok fl s
def aL (f:acC D):acC Fl:=λenv s=>ak (f env s) λd s=>ok (.rt d) s
def bh (f:acC D):acC Fl:=λenv s=>ak (f env s) λ_ s=>ok (.nx env) s
def aZ (c:acC Bool) (f g:acC Fl):acC Fl:=λenv s=>ak (c env s) λb s=>if b=true then f env s else g env s
def LO:acC Fl:=λenv s=>ok (.ct env) s
def aN (f:acC D) (g:D->Env->Option Env):acC Fl:=λenv s=>ak (f env s) λd s=>match g d env with
 |some Z=>ok (.nx Z) s
 |none=>none
def gN (i:Nat):D->Env->Option Env:=λd env=>some (env.set i (some d))
def ie:List (D->Env->Option Env)->List D->Env->Option Env
 | [],[],env=>some env
 |g::Y,d::X,env=>match g d env with
  |some Z=>ie Y X Z
  |none=>none
 |_,_,_=>none
def gT (gs:List (D->Env->Option Env)):D->Env->Option Env:=λd env=>match d with
 | .tup Z=>ie gs Z env
 |_=>none
def iW (g:D->Env->Option Env) (b:acC Fl):List D->acC Fl
 | [],env,s=>ok (.nx env) s
 |d::Y,env,s=>match g d env with
  |none=>none
  |some Z=>ak (b Z s) λX s=>match X with
   | .nx e=>iW g b Y e s
   | .ct e=>iW g b Y e s
   | .bk e=>ok (.nx e) s
   | .rt d=>ok (.rt d) s
def dQ (it:acC (List D)) (g:D->Env->Option Env) (b:acC Fl):acC Fl:=λenv s=>ak (it env s) λZ s=>iW g b Z env s
def ne {α:Type} (r:Res α):Res α:=match r with
 |some (.ok a,s)=>some (.ok a,s)
 |_=>none
@[simp] theorem oh {α:Type} {a:α} {s:af}:ne (some (.ok a,s))=some (.ok a,s):=rfl
def iX (cap:List Nat) (env:Env):Env:=cap.map λj=>(env[j]?).getD none
def gI (nt:Nat) (caps:Env) (g:D->Env->Option Env) (t:acC Bool) (f:acC D):List D->af->Res (List D)
 | [],s=>ok [] s
 |d::Z,s=>match g d (Å nt none++caps) with
  |none=>none
  |some env=>ak (ne (t env s)) λb s=>if b=true then ak (ne (f env s)) λx s=>ak (gI nt caps g t f Z s) λY s=>ok (x::Y) s
   else gI nt caps g t f Z s
def cj (nt:Nat) (cap:List Nat) (it:acC (List D)) (g:D->Env->Option Env) (t:acC Bool) (f:acC D):acC D:=λenv s =>
 ak (it env s) λZ s=>iw Z (ak (gI nt (iX cap env) g t f Z s) λY s=>ok (.lst Y) s)
def eR:acC Bool:=λ_ s=>ok true s
def aF (np ns:Nat) (b:acC Fl):List D->af->Res D:=λZ s=>if Z.length=np then ak (b (Z.map some++Å (ns-np) none) s) λY s=>match Y with
 | .rt d=>ok d s
 | .nx _=>ok .au s
 |_=>none else none
abbrev cm:Wd->aY->Prop:=λ_ _=>False
def oR (K:ę) (f:List D->af->Res D):Sp:=λX H Q _=>∃w Z,w.H=H/\aM K w/\ar K w Z X/\Out K cm w (f Z w.aB) λY d=>∀v,DV K Y d v->Q v Y.H
section
variable {X:Cx} {Ξ:Wd->aY->Prop} {e a b c tg:ħ} {es rest:List ħ} {pos:Pos} {f g h:acC D} {fa:acC (List D)} {ft gt:acC Bool} {st:acx} {oS Ek:List acx} {fs gs:acC Fl}
def cL:cY X [] (tS X.K Ξ bq):=BY U1 λD σ H Z=>by
 obtain⟨w,env,Y,S,W,h⟩:=Z;subst Y;exact aG S h σ W
def aD (h1:PS X st (tS X.K Ξ fs)) (h2:cY X oS (tS X.K Ξ gs)):cY X (st::oS) (tS X.K Ξ (ao fs gs)):=BY (IT h1 h2) λD σ H W=>by
 obtain⟨w,env,V,S,U,h⟩:=W;subst V;refine⟨w,env,rfl,S,U,(Out.ak h).mono λT R P Y h1=>?_⟩
 cases R with
 |nx Z=>exact fun O Q=>⟨T,Z,rfl,Y,Q,h1⟩
 |rt d=>have q:=aG Y h1;exact q
 |bk Z=>have q:=aG Y h1;exact q
 |ct Z=>have q:=aG Y h1;exact q
def aJ (h1:PS X st (tS X.K Ξ fs)):cY X [st] (tS X.K Ξ fs):=JG h1
def bc (he:PE X e (tE X.K Ξ f)):PS X (.Return (some e) pos) (tS X.K Ξ (aL f)):=jG (Kt he) λD σ H Z=>by
 obtain⟨w,env,Y,S,W,h⟩:=Z;subst Y;exact⟨w,env,rfl,S,W,(Out.ak h).mono λT d R V U=>aG V U⟩
def cB (he:PE X e (tE X.K Ξ f)) (hs:ace e none pos.line X.env=pure false:=by rfl):PS X (.Expr e pos) (tS X.K Ξ (bh f)):=jG (U2 he hs) λD σ H Y=>by
 obtain⟨w,env,W,S,Z,h⟩:=Y;subst W;exact⟨w,env,rfl,S,Z,(Out.ak h).mono λR d V U T _ _=>aG U T σ (Z.le V)⟩
def cM (hc:PT X c (tT X.K Ξ ft)) (ha:cY X oS (tS X.K Ξ fs)) (hb:cY X Ek (tS X.K Ξ gs)):PS X (.If c oS Ek pos) (tS X.K Ξ (aZ ft fs gs)):=jG (YA hc ha hb) λD σ H T=>by
 obtain⟨w,env,R,S,Z,h⟩:=T;subst R;refine⟨w,env,rfl,S,Z,(Out.ak h).mono λY b W V U=>?_⟩
 cases b with
 |true=>exact⟨Y,env,rfl,V,Z.le W,U⟩
 |false=>exact⟨Y,env,rfl,V,Z.le W,U⟩
def gg:acC Fl:=λ_ _=>none
def iR:cY X oS (tS X.K Ξ gg):=λ_ _ _ _ _ _ h=>by obtain⟨w,env,_,_,_,h⟩:=h;exact h.elim
def gD (K:ę) (g:D->Env->Option Env):TG:=λv σ H Q=>∃w env d Z,w.H=H/\aM K w/\bL K w env σ/\DV K w d v/\g d env=some Z/\∀ Y,bL K w Z Y->Q Y H
def wJ (K:ę) (g:List D->Env->Option Env):kP:=λW σ H Q=>∃w env Y Z,w.H=H/\aM K w/\bL K w env σ/\ar K w Y W/\g Y env=some Z/\∀ X,bL K w Z X->Q X H
def KP {t t':TG} (h:PG X e t) (i:∀v σ H Q,t' v σ H Q->t v σ H Q):PG X e t':=λZ s σ H v u Q I r Y=>h Z s σ H v u Q I r (i v σ H Q Y)
def JU {t t':kP} (h:lY X es t) (i:∀v σ H Q,t' v σ H Q->t v σ H Q):lY X es t':=λZ s σ H v u Q I r Y=>h Z s σ H v u Q I r (i v σ H Q Y)
def cH (i:Nat) {x:Str} (hN:X.N.Nodup) (hi:X.N[i]?=some x:=by rfl) (hx:Loc X.env.scope x:=by first|exact Ź rfl|exact acB rfl) (hf:X.fn x=true\/X.env.scope.names.lookup x=some .local:=by first|exact .inl rfl|exact .inr rfl):PG X (.Name x pos) (gD X.K (gN i)) :=
 KP (ke hN hi hx hf) λv σ H Q Y=>by
  obtain⟨w,env,d,Z,T,S,W,V,U,k⟩:=Y;have e:env.set i (some d)=Z:=acH U;subst e;exact k _ (W.set V i)
def n0:lY X [] (wJ X.K (ie [])):=JU BO λR σ H Q V=>by
 obtain⟨w,env,Y,Z,P,S,U,T,W,k⟩:=V
 cases Y with
 |nil =>
  have e:env=Z:=acH W;subst e;exact⟨T,k _ U⟩
 |cons d Y=>cases W
def fJ {g:D->Env->Option Env} {gl:List (D->Env->Option Env)} (h1:PG X e (gD X.K g)) (h2:lY X es (wJ X.K (ie gl)))
  (hs:(Ś (e::es) X.env).map (·.2)=ab6 e X.env::(Ś es X.env).map (·.2):=by rfl):lY X (e::es) (wJ X.K (ie (g::gl))):=JU (uj h1 h2 hs) λL σ H Q P=>by
 obtain⟨w,env,W,Y,T,S,O,N,Z,k⟩:=P
 cases W with
 |nil=>cases Z
 |cons d W =>
  obtain⟨v,r,rfl,M,dr⟩:=N;simp only[ie] at Z
  cases V:g d env with
  |none=>rw[V] at Z;cases Z
  |some R =>
   rw[V] at Z;refine⟨v,r,rfl,w,env,d,R,T,S,O,M,V,fun J U=>⟨w,R,W,Y,T,S,U,dr,Z,k⟩⟩
theorem Bp:∀{gl:List (D->Env->Option Env)} {ds:List D} {env env':Env},ie gl ds env=some env'->ds.length=gl.length
 | [],[],_,_,_=>rfl
 |g::gl,d::ds,env,env',h=>by
  simp only[ie] at h
  cases Z:g d env with
  |none=>rw[Z] at h;cases h
  |some e1=>rw[Z] at h;simp[Bp h]
 | [],_::_,_,_,h=>by cases h
 |_::_,[],_,_,h=>by cases h
def oj {gl:List (D->Env->Option Env)} {k:Nat} (hc:X.calm=true) (h:lY X es (wJ X.K (ie gl))) (hn:(Ś es X.env).length=gl.length:=by rfl) (wa:(Ś es X.env).findIdx? (·.1)=none:=by rfl):PG X (.Tuple es k pos) (gD X.K (gT gl)) :=
 KP (pI hc h hn wa) λv σ H Q U=>by
  obtain⟨w,env,d,Z,T,S,R,W,Y,k⟩:=U
  cases d with
  |tup P =>
   simp only[DV] at W;obtain⟨p,O,e1,N,V⟩:=W;subst T;exact⟨p,O,e1,N,by rw[<- V.length];exact Bp Y,w,env,P,Z,rfl,S,R,V,Y,k⟩
  |_=>cases Y
def B7 {K:ę} {g:D->Env->Option Env} (D:Ends) (σ:St) (H:Hp):tS K Ξ (aN f g) D σ H->sj (tE K Ξ f) (gD K g) D σ H:=by
 rintro ⟨w,env,rfl,S,W,h⟩;refine⟨w,env,rfl,S,W,(Out.ak h).mono λU d T V Y v R=>?_⟩
 cases X:g d env with
 |none=>rw[X] at Y;exact Y.elim
 |some Z =>
  rw[X] at Y;exact⟨U,env,d,Z,rfl,V,W.le T,R,X,aG V Y⟩
def pY {g:D->Env->Option Env} (he:PE X e (tE X.K Ξ f)) (hg:PG X tg (gD X.K g)) (hs:ű [tg] e pos.line X.env=pure false:=by rfl) (hw:Ų [tg] e X.env=pure none:=by rfl)
  (h1:(Ś [tg] X.env).map (·.2)=[ab6 tg X.env]:=by rfl):PS X (.Assign [tg] e pos) (tS X.K Ξ (aN f g)):=jG (Cw he hg hs hw h1) B7
def Iu {K:ę} {te:TE} {i:Nat} (D:Ends) (σ:St) (H:Hp):sj (tE K Ξ f) (gD K (gN i)) D σ H->sj (tE K Ξ f) (mO i) D σ H:=by
 rintro ⟨w,env,rfl,S,Y,h⟩;refine⟨w,env,rfl,S,Y,h.mono λP d O N X v W=>?_⟩;obtain⟨M,V,U,Z,L,J,T,R,Q,k⟩:=X v W;have e:V.set i (some U)=Z:=acH Q;subst e;exact k _ (T.set R i)
def cW (i:Nat) {x:Str} {pos':Pos} (hN:X.N.Nodup) (he:PE X e (tE X.K Ξ f)) (hi:X.N[i]?=some x:=by rfl) (hx:Loc X.env.scope x:=by first|exact Ź rfl|exact acB rfl) (hs:ace e (some (.Name x pos')) pos.line X.env=pure false:=by rfl) (hf:X.fn x=true\/X.env.scope.names.lookup x=some .local:=by first|exact .inl rfl|exact .inr rfl) :
  PS X (.Assign [.Name x pos'] e pos) (tS X.K Ξ (aN f (gN i))):=jG (Kv hN hi hx he hs hf) λD σ H h=>Iu (te:=tE X.K Ξ f) D σ H (B7 D σ H h)
def qE (K:ę) (w:Wd) (J:It) (ds:List D):Prop:=∀Z,Le K w Z->aM K Z->∀i,
 (∀d,ds[i]?=some d->J.go i Z.H/\∀x X,J.wb i Z.H x X->∃Y,Y.H=X/\Le K Z Y/\aM K Y/\Y.aB=Z.aB/\DV K Y d x)/\(ds.length<=i->J.stop i Z.H)
def fP (K:ę) (Ξ:Wd->aY->Prop) (f:acC (List D)):TI:=fun σ H R=>∃w env,w.H=H/\aM K w/\bL K w env σ/\Out K Ξ w (f env w.aB) λZ Y=>∀J,qE K Z J Y->R J Z.H
def yo {t t':TI} (h:PI X tg e t) (i:∀ σ H R,t' σ H R->t σ H R):PI X tg e t':=λZ s σ H R I Y=>h Z s σ H R I (i σ H R Y)
def Vu {K:ę} {it:acC (List D)} {g:D->Env->Option Env} (D0:Ends) (σ:St) (H:Hp):tS K Ξ (dQ it g fs) D0 σ H->MD (fP K Ξ it) (gD K g) (tS K Ξ fs) D0 σ H:=by
 rintro ⟨w,env,rfl,S,B,h⟩;refine⟨w,env,rfl,S,B,(Out.ak h).mono λM X p o n J A=>?_⟩;refine⟨λi m L z=>m=X.length-i/\i<=X.length/\∃W Z,W.H=z/\Le K M W/\aM K W/\bL K W Z L/\Out K Ξ W (iW g fs (X.drop i) Z W.aB) (vJ K D0),
  ⟨X.length,rfl,Đ _,M,env,rfl,Le.refl _,o,B.le p,n⟩,?_⟩
 rintro i m L z ⟨rfl,hi,W,Z,rfl,U,I,v,V⟩;by_cases G:i<X.length
 ·right
  obtain⟨l,k⟩:=(A W U I i).1 _ (Ë G);rw[aa2 G] at V;simp only[iW] at V
  cases F:g X[i] Z with
  |none=>rw[F] at V;exact V.elim
  |some u =>
   rw[F] at V;refine⟨l,fun E T=>∃Y R,Y.H=T/\Le K M Y/\aM K Y/\bL K Y R E/\Out K Ξ Y (iW g fs (X.drop (i+1)) R Y.aB) (vJ K D0),fun E T ⟨Y,R,q⟩=>⟨X.length-(i+1),by omega,rfl,G,Y,R,q⟩,λx T y=>?_⟩;obtain⟨Y,rfl,Q,t,es,j⟩:=k x T y;refine⟨Y,Z,X[i],u,rfl,t,v.le Q,j,F,fun E f=>⟨Y,u,rfl,t,f,?_⟩⟩;rw[<- es] at V;refine(Out.ak (V.from Q)).mono λs c r P O=>?_
   cases c with
   |nx N=>exact fun b C=>⟨s,N,rfl,U.trans (Q.trans r),P,C,O⟩
   |ct N=>exact fun b C=>⟨s,N,rfl,U.trans (Q.trans r),P,C,O⟩
   |bk N=>have q:=aG P O;exact q
   |rt d=>have q:=aG P O;exact q
 ·left
  have e:i=X.length:=by omega
  subst e;rw[List.drop_length] at V;exact⟨(A W U I _).2 (acG _),aG I V L v⟩
def jf {iter:ħ} {it:acC (List D)} {g:D->Env->Option Env} (hp:PassesOwn (â X.prog X.w) X.A X.env X.xe) (hc:X.calm=true) (hi:PI X tg iter (fP X.K Ξ it)) (hg:PG X tg (gD X.K g)) (hb:cY X oS (tS X.K Ξ fs))
  (hs:∀x,ÿ iter X.env x=pure x:=by intro _;rfl):PS X (.For tg iter oS [] pos) (tS X.K Ξ (dQ it g fs)):=jG (WG hp hc hi hg hb hs) Vu
theorem Out.ne {α:Type} {K:ę} {w:Wd} {r:Res α} {k:Wd->α->Prop} (h:Out K Ξ w (DI.ne r) k):Out K cm w r k:=by
 match r,h with
 |some (.ok a,s),h=>exact h
def bL.block {K:ę} {w:Wd} {env:Env} {σ:St} (h:bL K w env σ) (nt:Nat) (cap:List Nat) (o:St) (ho:o.length=nt):bL K w (Å nt none++iX cap env) (o++mQ cap σ):=by
 refine⟨by simp[iX,mQ,ho],λi d e=>?_⟩;by_cases hi:i<nt
 ·rw[Ü (by simpa using hi),Ģ,ã hi] at e
  cases e
 ·rw[ð (by simpa using Ÿ hi)] at e
  rw[ð (by omega),ho];simp only[Ĉ] at e;unfold iX at e;unfold mQ;rw[ç] at e |-
  cases Z:cap[i-nt]? with
  |none=>rw[Z] at e;cases e
  |some j =>
   rw[Z] at e;have ev:(env[j]?).getD none=some d:=acH e;have Y:env[j]?=some (some d):=by
    cases q:env[j]? with
    |none=>rw[q] at ev;cases ev
    |some z=>rw[q] at ev;exact ň some ev
   obtain⟨v,e1,e2⟩:=h.val j d Y;exact⟨v,by rw[Ũ,e1];rfl,e2⟩
def RU {K:ę} {nt:Nat} {cap:List Nat} {it:acC (List D)} {g:D->Env->Option Env} {fin:List D->af->Res D} (σ:St) (H:Hp) (Q:VK)
  (El:∀(w2:Wd) (xs:List D) (vs:List V),aM K w2->ar K w2 xs vs->Out K Ξ w2 (fin xs w2.aB) (λw' d=>∀v,DV K w' d v->Q v w'.H)->∀p,w2.H p=none->Q (.ref p) (upd w2.H p (.lst vs))) :
  tE K Ξ (λenv s=>ak (it env s) λds s=>iw ds (ak (gI nt (iX cap env) g ft f ds s) fin)) σ H Q->pW (fP K Ξ it) nt cap (gD K g) (tT K cm ft) (tE K cm f) σ H Q:=by
 rintro ⟨w,env,rfl,S,A,h⟩;refine⟨w,env,rfl,S,A,(Out.ak h).mono λN ds c a M J z=>?_⟩;obtain⟨hz,M⟩:=uk M;refine⟨λi m Y u=>m=ds.length-i/\i<=ds.length/\Y.length<=i/\∃w' Z,w'.H=u/\Le K N w'/\aM K w'/\ar K w' Z Y/\Out K Ξ w' (gI nt (iX cap env) g ft f (ds.drop i) w'.aB) λw2 xs=>∀vs,ar K w2 (Z++xs) vs->∀p,w2.H p=none->Q (.ref p) (upd w2.H p (.lst vs)),
  ⟨ds.length,rfl,Đ _,Đ _,N,[],rfl,Le.refl _,a,rfl,(Out.ak M).mono λw2 xs W P h2 vs O p U=>?_⟩,?_⟩
 ·exact El w2 xs vs P O h2 p U
 rintro i m Y u ⟨rfl,hi,ha,w',Z,rfl,T,L,I,X⟩;by_cases G:i<ds.length
 ·right
  obtain⟨gY,hy⟩:=(z w' T L i).1 _ (Ë G);rw[aa2 G] at X;simp only[gI] at X
  cases F:g ds[i] (Å nt none++iX cap env) with
  |none=>rw[F] at X;exact X.elim
  |some E =>
   rw[F] at X;refine⟨gY,by omega,λC t=>C.length<=i+1/\∃w' Z,w'.H=t/\Le K N w'/\aM K w'/\ar K w' Z C/\Out K Ξ w' (gI nt (iX cap env) g ft f (ds.drop (i+1)) w'.aB) λw2 xs=>∀vs,ar K w2 (Z++xs) vs->∀p,w2.H p=none->Q (.ref p) (upd w2.H p (.lst vs)),
    λC t ⟨B,q⟩=>⟨ds.length-(i+1),by omega,rfl,G,B,q⟩,λo x H3 ho y=>?_⟩
   obtain⟨w2,rfl,W,P,es,dv⟩:=hy x H3 y;refine⟨w2,_,ds[i],E,rfl,P,(A.le (c.trans (T.trans W))).block nt cap o ho,dv,F,fun nA r=>?_⟩;rw[<- es] at X;refine⟨w2,E,rfl,P,r,(Out.ak (X.from W)).ne.mono λn b R l k=>?_⟩
   cases b with
   |true =>
    refine⟨n,E,rfl,l,r.le R,(Out.ak k).ne.mono λw4 d j S4 h4 v Fb=>⟨by rw[ó];simp;omega,w4,Z++[d],rfl,T.trans (W.trans (R.trans j)),S4,ar.append ((W.trans (R.trans j)).all I) (ar.one Fb),(Out.ak h4).mono λw5 xs l5 S5 h5 vs O p U=>?_⟩⟩;exact aG S5 h5 vs (by rw[į] at O;exact O) p U
   |false =>
    exact⟨by omega,n,Z,rfl,T.trans (W.trans R),l,(W.trans R).all I,k⟩
 ·left
  have e:i=ds.length:=by omega
  subst e;rw[List.drop_length] at X;refine⟨(z w' T L _).2 (acG _),by omega,λp U=>aG L X Y (by rw[İ];exact I) p U⟩
def Jd {K:ę} {nt:Nat} {cap:List Nat} {it:acC (List D)} {g:D->Env->Option Env} (σ:St) (H:Hp) (Q:VK) :
  tE K Ξ (cj nt cap it g ft f) σ H Q->pW (fP K Ξ it) nt cap (gD K g) (tT K cm ft) (tE K cm f) σ H Q :=
 RU σ H Q λX S W V U T p Y=>T (X.grow p (.lst W)) (Fw.grow Y).le (V.grow Y) rfl (.ref p) ⟨p,W,rfl,⟨(show ¬ X.Z p from km V Y),cq⟩,(Fw.grow Y).le.all U⟩
end
def JV {o caps:St} {v:V} {i nt:Nat} (ho:o.length=nt) (hi:i<nt):(o++caps).set i (some v)=o.set i (some v)++caps:=by
 rw[List.set_append_left _ _ (by omega)]
def RV {i nt:Nat} (hi:i<nt):nB (mO i) nt:=by
 intro x o Z H R Y h;exact⟨⟨o.set i (some x),by rw[î];exact Y,JV Y hi⟩,h⟩
def vK (g:kP) (nt:Nat):Prop:=∀(Y:List V) (o Z:St) (H:Hp) (R:St->Hp->Prop),o.length=nt->g Y (o++Z) H R->g Y (o++Z) H fun X U=>(∃W:St,W.length=nt/\X=W++Z)/\R X U
def Tx:vK D5 nt:=λX o Z H R Y h=>⟨h.1,⟨o,Y,rfl⟩,h.2⟩
def RX {i nt:Nat} {g:kP} (hi:i<nt) (hg:vK g nt):vK (De (mO i) g) nt:=by
 rintro X o Z H R Y ⟨v,r,e,h⟩;refine⟨v,r,e,?_⟩;have h:g r ((o++Z).set i (some v)) H R:=h;show g r ((o++Z).set i (some v)) H _;rw[JV Y hi] at h |-;exact hg r _ Z H R (by rw[î];exact Y) h
def Tz (hg:vK g nt):nB (D6 K n g) nt:=by
 rintro x o Z H R X ⟨a,Y,e,W,V,h⟩;exact⟨a,Y,e,W,V,hg Y o Z H R X h⟩
structure Tg (K:ę) (g0:TG) (g:D->Env->Option Env) (nt:Nat):Prop where
 mj:nB g0 nt
 imp:∀v σ H Q,gD K g v σ H Q->g0 v σ H Q
structure zS (K:ę) (g0:kP) (g:List (D->Env->Option Env)) (nt:Nat):Prop where
 mj:vK g0 nt
 imp:∀v σ H Q,wJ K (ie g) v σ H Q->g0 v σ H Q
def rn (i:Nat) (hi:i<nt:=by decide):Tg K (mO i) (gN i) nt:=⟨RV hi,λv σ H Q Y=>by
 obtain⟨w,env,d,Z,U,S,X,W,V,k⟩:=Y;have e:env.set i (some d)=Z:=acH V;subst e;exact k _ (X.set W i)⟩
def JW:zS K D5 [] nt:=⟨Tx,λT σ H Q W=>by
 obtain⟨w,env,Y,Z,R,S,V,U,X,k⟩:=W
 cases Y with
 |nil =>
  have e:env=Z:=acH X;subst e;exact⟨U,k _ V⟩
 |cons d Y=>cases X⟩
def xH (i:Nat) (h:zS K g0 gl nt) (hi:i<nt:=by decide):zS K (De (mO i) g0) (gN i::gl) nt:=⟨RX hi h.mj,λP σ H Q W=>by
 obtain⟨w,env,Y,Z,V,S,U,T,X,k⟩:=W
 cases Y with
 |nil=>cases X
 |cons d Y =>
  obtain⟨v,r,rfl,R,dr⟩:=T;exact⟨v,r,rfl,h.imp _ _ _ _ ⟨w,_,Y,Z,V,S,U.set R i,dr,X,k⟩⟩⟩
def KQ (h:zS K g0 gl nt) (hn:gl.length=n:=by rfl):Tg K (D6 K n g0) (gT gl) nt:=⟨Tz h.mj,λv σ H Q V=>by
 obtain⟨w,env,d,Z,U,S,T,X,Y,k⟩:=V
 cases d with
 |tup R =>
  simp only[DV] at X;obtain⟨p,P,e1,O,W⟩:=X;subst U;exact⟨p,P,e1,O,by rw[<- W.length,Bp Y];exact hn,h.imp _ _ _ _ ⟨w,env,R,Z,rfl,S,T,W,Y,k⟩⟩
 |_=>cases Y⟩
section
variable {X:Cx} {Ξ:Wd->aY->Prop} {e a b c tg el src:ħ} {es rest tests:List ħ} {pos:Pos} {f g h:acC D} {fa:acC (List D)} {ft gt:acC Bool} {st:acx} {oS Ek:List acx} {fs gs:acC Fl}
def W9 (h:PF X tests t) (i:∀ σ H Q,t' σ H Q->t σ H Q):PF X tests t':=λZ s σ H Q I Y=>h Z s σ H Q I (i σ H Q Y)
def iy:PF X [] (tT K Ξ eR):=W9 WX fun σ H Q Z=>by
 obtain⟨w,env,Y,S,W,h⟩:=Z;subst Y;exact aG S h
def mS (h:PT X c (tT K Ξ ft)):PF X [c] (tT K Ξ ft):=WY h
def HL (i_:∀v σ H Q,g1 v σ H Q->g0 v σ H Q) (wm:∀R R':It->Hp->Prop,(∀J H',R J H'->R' J H')->wi σ H R->wi σ H R') (h:pW wi nt cap g1 tf te σ H Q):pW wi nt cap g0 tf te σ H Q:=by
 refine wm _ _ (λJ H' Y=>?_) h;obtain⟨W,X,step⟩:=Y;refine⟨W,X,λi m Z V hw=>?_⟩
 rcases step i m Z V hw with q | ⟨U,T,N,S,P⟩
 ·exact .inl q
 ·exact .inr ⟨U,T,N,S,λo x O M y=>i_ _ _ _ _ (P o x O M y)⟩
def Je (R R':It->Hp->Prop) (i:∀J H',R J H'->R' J H') (h:fP K Ξ it σ H R):fP K Ξ it σ H R':=by
 obtain⟨w,env,Z,S,Y,h⟩:=h;exact⟨w,env,Z,S,Y,h.mono λV U _ _ X J W=>i J _ (X J W)⟩
def ck (f:acC D):acC (List D):=λenv s=>ak (f env s) λd s=>match d with
 | .lst Z=>ok Z s
 | .tup Z=>ok Z s
 |_=>none
def TC {K:ę} {w:Wd} {a:Ù} {ds:List D} (h:DV K w (.lst ds) (.ref a)):qE K w (EK K a) ds:=λV U T i=>by
 have X:=U _ _ h;simp only[DV] at X;obtain⟨p,Z,e,Y,W⟩:=X;cases e;refine⟨λd S=>?_,λR=>⟨Z,Y.sq,by rw[<- W.length];exact R⟩⟩;obtain⟨v,ev,Q⟩:=W.get' i d S;exact⟨⟨Z,v,Y.sq,ev⟩,λx P ⟨e1,e2⟩=>⟨V,e1.symm,Le.refl _,T,rfl,by
  have q:=e2 Z Y.sq;rw[ev] at q;cases q;exact Q⟩⟩
def Vv {K:ę} {w:Wd} {a:Ù} {ds:List D} (h:DV K w (.tup ds) (.ref a)):qE K w (EL K a) ds:=λV U T i=>by
 have X:=U _ _ h;simp only[DV] at X;obtain⟨p,Z,e,Y,W⟩:=X;cases e;refine⟨λd S=>?_,λR=>⟨Z,Y,by rw[<- W.length];exact R⟩⟩;obtain⟨v,ev,Q⟩:=W.get' i d S;exact⟨⟨Z,v,Y,ev⟩,λx P ⟨e1,e2⟩=>⟨V,e1.symm,Le.refl _,T,rfl,by
  have q:=e2 Z Y;rw[ev] at q;cases q;exact Q⟩⟩
def fm (hl:PE X a (tE X.K Ξ f)):PI X tg a (fP X.K Ξ (ck f)):=by
 have both:PI X tg a (fun σ H R=>LC X.K (tE X.K Ξ f) σ H R\/MC X.K (tE X.K Ξ f) σ H R):=λN s σ H R I h=>h.elim (U3 hl N s σ H R I) (WE hl N s σ H R I);refine yo both fun σ H R ⟨w,env,M,S,W,h⟩=>?_;subst M;simp only[ck] at h
 cases Y:f env w.aB with
 |none=>rw[Y] at h;exact h.elim
 |some r =>
  obtain⟨r,s⟩:=r;rw[Y] at h
  cases r with
  |error x=>exact .inl ⟨w,env,rfl,S,W,by rw[Y];exact h⟩
  |ok d =>
   rw[fR] at h
   cases d with
   |lst L =>
    refine .inl ⟨w,env,rfl,S,W,?_⟩;rw[Y];intro V U T e1 v Z;have Q:=Z;simp only[DV] at Z;obtain⟨p,P,rfl,O,J⟩:=Z;exact⟨p,rfl,⟨P,O.sq⟩,h V U T e1 _ (TC Q)⟩
   |tup L =>
    refine .inr ⟨w,env,rfl,S,W,?_⟩;rw[Y];intro V U T e1 v Z;have Q:=Z;simp only[DV] at Z;obtain⟨p,P,rfl,O,J⟩:=Z;exact⟨p,rfl,⟨P,O⟩,h V U T e1 _ (Vv Q)⟩
   |_=>exact h.elim
noncomputable def dE (lo:Int) (n:Nat):List D:=(Ć n).map λ(i:Nat)=>D.int (lo+(i:Int))
def kg:(dE lo n)[i]?=if i<n then some (.int (lo+i)) else none:=by
 unfold dE;rw[ç];by_cases h:i<n
 ·rw[Ŵ h,ã h];rfl
 ·rw[Ĭ (by simp;omega),í h];rfl
def jA:(dE lo n).length=n:=by simp[dE]
def JX:qE K w (wc lo n) (dE lo n):=λX V W i=>by
 refine⟨λd Z=>?_,λY=>by rw[jA] at Y;exact Y⟩;rw[kg] at Z;split at Z
 ·cases Z
  exact⟨by assumption,λx U ⟨e1,e2⟩=>⟨X,e1.symm,Le.refl _,W,rfl,e2⟩⟩
 ·cases Z
noncomputable def kA (j:Int):Bool:=decide (-(2 ^ 62)<=j)&&decide (j<2 ^ 62)
def cJ (fa:acC (List D)):acC (List D):=λenv s=>ak (fa env s) λZ s=>match Z with
 | [.int j]=>if kA j=true then ok (dE 0 j.toNat) s else none
 |_=>none
def tB (fa:acC (List D)):acC (List D):=λenv s=>ak (fa env s) λZ s=>match Z with
 | [.int i,.int j]=>if (kA i&&kA j)=true then ok (dE i (j-i).toNat) s else none
 |_=>none
def iS (hg:Gl X "range") (hm:X.mg "range"=none) (ha:PA X [a] (tA X.K Ξ fa)) (hs:Õ [a] X.env=[(false,ō a X.env)]:=by rfl):PI X tg (.Call (.Name "range" p) [a] [] pos) (fP X.K Ξ (cJ fa)) :=
 yo (RA hg hm ha hs) fun σ H R W=>by
  obtain⟨w,env,V,S,U,h⟩:=W;subst V;refine⟨w,env,rfl,S,U,(Out.ak h).mono λO N M T Z L Q=>?_⟩;split at Z
  ·rename_i j
   split at Z
   ·rename_i Y
    simp only[kA,Æ,É] at Y;obtain⟨v,r,rfl,P,dr⟩:=Q;have e1:v=.int j:=P;have e2:r=[]:=dr;subst e1 e2;exact⟨j,rfl,Y.1,Y.2,aG T Z _ JX⟩
   ·exact Z.elim
  ·exact Z.elim
def Xa {p:Pos} (hg:Gl X "range") (hm:X.mg "range"=none) (ha:PA X [a,b] (tA X.K Ξ fa)) (hs:Õ [a,b] X.env=[(false,ō a X.env),(false,ō b X.env)]:=by rfl) (ij:Õ [b] X.env=[(false,ō b X.env)]:=by rfl):PI X tg (.Call (.Name "range" p) [a,b] [] pos) (fP X.K Ξ (tB fa)) :=
 yo (RC hg hm ha hs ij) fun σ H R W=>by
  obtain⟨w,env,V,S,U,h⟩:=W;subst V;refine⟨w,env,rfl,S,U,(Out.ak h).mono λL J I T Z G Q=>?_⟩;split at Z
  ·rename_i i j
   split at Z
   ·rename_i Y
    simp only[kA,Æ,É] at Y;obtain⟨v,r,rfl,P,v2,O,rfl,N,dr⟩:=Q;have e1:v=.int i:=P;have e2:v2=.int j:=N;have M:O=[]:=dr;subst e1 e2 M;exact⟨i,j,rfl,⟨Y.1.1,Y.1.2,Y.2.1,Y.2.2⟩,aG T Z _ JX⟩
   ·exact Z.elim
  ·exact Z.elim
noncomputable def iY (xs ys:List D):List D:=(xs.zip ys).map λp=>.tup [p.1,p.2]
def TF {i:Nat} (h:(iY xs ys)[i]?=some d):∃x y,xs[i]?=some x/\ys[i]?=some y/\d=.tup [x,y]:=by
 unfold iY at h;rw[ç] at h
 cases Z:(xs.zip ys)[i]? with
 |none=>rw[Z] at h;cases h
 |some p =>
  rw[Z] at h;obtain⟨Y,X⟩:=List.getElem?_zip_eq_some.mp Z;exact⟨p.1,p.2,Y,X,(acH h).symm⟩
def Bq:(iY xs ys).length=min xs.length ys.length:=by simp[iY]
def RY (S':aM K w') (hp:w'.H p=none) (h1:DV K w' d x) (h2:DV K w' d2 y) :
  ∃w2,w2.H=upd w'.H p (.tup [x,y])/\Le K w' w2/\aM K w2/\w2.aB=w'.aB/\DV K w2 (.tup [d,d2]) (.ref p) :=
 ⟨w'.grow p (.tup [x,y]),rfl,(Fw.grow hp).le,S'.grow hp,rfl,p,[x,y],rfl,bz.of cq,(Fw.grow hp).le.all (ar.two h1 h2)⟩
@[reducible] noncomputable def Fd:Bool->List D->D
 |true=>.tup
 |false=>.lst
def LP {K:ę} {w:Wd} {a:Ù} {ds:List D}:∀{k},DV K w (Fd k ds) (.ref a)->∃xs,ju k K w.H a xs/\ar K w ds xs
 |true,h=>by
  simp only[DV] at h;obtain⟨p,xs,e,Z,Y⟩:=h;cases e;exact⟨xs,Z,Y⟩
 |false,h=>by
  simp only[DV] at h;obtain⟨p,xs,e,Z,Y⟩:=h;cases e;exact⟨xs,Z.sq,Y⟩
def TH {k l:Bool} {K:ę} {w:Wd} {a b:Ù} {ds es:List D} (h:DV K w (Fd k ds) (.ref a)) (g:DV K w (Fd l es) (.ref b)):qE K w (zk k l K a b) (iY ds es):=λF U O i=>by
 obtain⟨Z,Y,T⟩:=LP (U _ _ h);obtain⟨X,W,S⟩:=LP (U _ _ g);refine⟨λd N=>?_,λM=>⟨Z,X,Y,W,?_⟩⟩
 ·obtain⟨x,y,e1,e2,rfl⟩:=TF N
  obtain⟨v,ev,L⟩:=T.get' i x e1;obtain⟨u,R,J⟩:=S.get' i y e2;refine⟨⟨Z,X,v,u,Y,W,ev,R⟩,λz E ⟨r,C,y1,I,H,G,V⟩=>?_⟩;obtain⟨Q,P⟩:=V Z X Y W;rw[ev] at Q;rw[R] at P;cases Q;cases P;subst H G;exact RY O I L J
 ·rw[Bq] at M
  have:=T.length;have:=S.length;omega
def TJ {K:ę} {w:Wd} {a b:Ù} {ds es:List D} (h:DV K w (.tup ds) (.ref a)) (g:DV K w (.tup es) (.ref b)):qE K w (aao K a b) (iY ds es):=TH (k:=true) (l:=true) h g
def sy (fa:acC (List D)):acC (List D):=λenv s=>ak (fa env s) λZ s=>match Z with
 | [.tup Y,.tup X]=>ok (iY Y X) s
 |_=>none
def Y5 {p:Pos} {elts:List ħ} {kk:Nat} {Ea:Pos} (hg:Gl X "zip") (hm:X.mg "zip"=none) (ha:PA X [a,b] (tA X.K Ξ fa)) (hs:Õ [a,b] X.env=[(false,ō a X.env),(false,ō b X.env)]:=by rfl) (ij:Õ [b] X.env=[(false,ō b X.env)]:=by rfl) :
  PI X (.Tuple elts kk Ea) (.Call (.Name "zip" p) [a,b] [] pos) (fP X.K Ξ (sy fa)):=by
 refine yo (Vl hg hm ha hs ij) fun σ H R U=>?_;obtain⟨w,env,T,S,Q,h⟩:=U;subst T;refine⟨w,env,rfl,S,Q,(Out.ak h).mono λF E D P h C O=>?_⟩;split at h
 ·obtain⟨v,r,rfl,Z,v2,N,rfl,Y,dr⟩:=O
  have M:N=[]:=dr;subst M;have W:=Z;have V:=Y;simp only[DV] at W V;obtain⟨p,L,rfl,J,_⟩:=W;obtain⟨q,I,rfl,G,_⟩:=V;exact⟨p,q,L,I,rfl,J,G,aG P h _ (TJ Z Y)⟩
 ·exact h.elim
def az (fn:List D->af->Res D) (fa:acC (List D)):acC D:=λenv s=>ak (fa env s) λZ s=>ne (fn Z s)
def Xb {k:Nat} {fA:Ù} {fd:Ī} {wK:List Str} {fn:List D->af->Res D} {x:Str} {p:Pos} (F:dB X.prog X.w X.K X.mg X.base fz k fA fd wK (oR X.K fn)) (hr:bB k X.A) (hg:Gl X x) (hm:X.mg x=some (.ref fA)) (hk:ł X.K (.ref fA)=true) (hb:Binds X.K fd wK [])
  (ha:PA X (e::es) (tA X.K Ξ fa)) (fY:(x==("__debug__":Str))=false:=by decide) (he:Õ (e::es) X.env=(false,ō e X.env)::Õ es X.env:=by rfl) (bX:(Ň pos (Õ es X.env)).any (·.1)=false:=by rfl) :
  PE X (.Call (.Name x p) (e::es) [] pos) (tE X.K Ξ (az fn fa)):=cA (JJ F hr hg hm hk hb .nil YS ha fY he bX) fun σ H Q Y=>by
 obtain⟨w,env,W,S,V,h⟩:=Y;subst W;refine⟨w,env,rfl,S,V,(Out.ak h).mono λZ U N T R P O=>?_⟩;show oR X.K fn (P++[]) Z.H Q E0;rw[İ];exact⟨Z,U,rfl,T,O,R.ne⟩
def ar.env (h:ar K w ds vs) (n:Nat):bL K w (ds.map some++Å (n-ds.length) none) (vs.map some++Å (n-vs.length) none):=by
 have Y:=h.length;refine⟨by simp[Y],λi d e=>?_⟩;by_cases hi:i<ds.length
 ·rw[Ü (by simpa using hi),ç] at e
  rw[Ü (by simp;omega),ç]
  cases Z:ds[i]? with
  |none=>rw[Z] at e;cases e
  |some W =>
   rw[Z] at e;cases e;obtain⟨v,ev,X⟩:=h.get' i d Z;exact⟨v,by rw[ev];rfl,X⟩
 ·rw[ð (by simpa using Ÿ hi),Ģ] at e
  split at e<;>cases e
end
def Y6 (F:qx K x qual st f fd) (S:uC N ps (dH st))
 (hb:∀(bE:Ç) (A:ì) (outer:List PySem.Env) (s:Ä) (H:Hp) (E:XK),bB k (A.deeper (ŷ qual (dH st) s.heap.objs.size f bE))->cY (jS fz P w K mg base N qual (dH st) f bE A outer s H E).ny (jc st) (tS K cm b)) :
  dB P w K mg base fz (k+1) f fd ps (oR K (aF ps.length N.length b)):=by
 refine F.ok S (λW H Q E h=>?_) (λbE A outer s H W Q E V h=>?_)
 ·obtain⟨w,U,rfl,S,Y,h⟩:=h
  rw[<- Y.length];unfold aF at h;split at h
  ·assumption
  ·exact h.elim
 ·obtain⟨w,U,rfl,S,Y,h⟩:=h
  refine⟨_,hb bE A outer s w.H E V,?_⟩;unfold aF at h;split at h
  ·rename_i T
   rw[<- T] at h;refine⟨w,_,rfl,S,Y.env N.length,(Out.ak h).mono λO R M X Z=>?_⟩
   cases R with
   |nx env=>intro L _;exact aG X Z _ rfl
   |rt d=>have q:=aG X Z;exact q
   |bk env=>exact Z.elim
   |ct env=>exact Z.elim
  ·exact h.elim
mutual
noncomputable def py:D->ω
 | .au=>.none
 | .bl b=>.bool b
 | .int i=>.int i
 | .str x=>.str x
 | .tup Z=>.tuple (bJ Z)
 | .lst Z=>.list (bJ Z)
 | .bA Y=>.dict (Y.map λp=>(vE p.1,PyData.int p.2))
 | .aj _=>.none
 | .ty _=>.none
 | .bK _=>.none
 | .exc _ _=>.none
 | .cG _ _ _=>.none
noncomputable def bJ:List D->List ω
 | []=>[]
 |d::Z=>py d::bJ Z
end
mutual
noncomputable def plain:D->Bool
 | .au=>true
 | .bl _=>true
 | .int _=>true
 | .str _=>true
 | .tup Z=>jH Z
 | .lst Z=>jH Z
 | .bA _=>true
 | .aj _=>false
 | .ty _=>false
 | .bK _=>false
 | .exc _ _=>false
 | .cG _ _ _=>false
noncomputable def jH:List D->Bool
 | []=>true
 |d::Z=>plain d&&jH Z
end
mutual
noncomputable def lay:D->Bool
 | .au=>true
 | .bl _=>true
 | .int _=>true
 | .str x=>PyData.strOk x
 | .tup Z=>fx Z
 | .lst Z=>fx Z
 | .bA _=>false
 | .aj _=>false
 | .ty _=>false
 | .bK _=>false
 | .exc _ _=>false
 | .cG _ _ _=>false
noncomputable def fx:List D->Bool
 | []=>true
 |d::Z=>lay d&&fx Z
end
mutual
noncomputable def dep:D->Nat
 | .tup Z=>dC Z+1
 | .lst Z=>dC Z+1
 | .bA Y=>1
 | .au=>0
 | .bl _=>0
 | .int _=>0
 | .str _=>0
 | .aj _=>0
 | .ty _=>0
 | .bK _=>0
 | .exc _ _=>0
 | .cG _ _ _=>0
noncomputable def dC:List D->Nat
 | []=>0
 |d::Z=>max (dep d) (dC Z)
end
mutual
noncomputable def beq:D->D->Bool
 | .au,.au=>true
 | .bl a,.bl b=>a==b
 | .bl a,.int j=>(if a then 1 else 0)==j
 | .int i,.bl b=>i==(if b then 1 else 0)
 | .int i,.int j=>i==j
 | .str x,.str y=>x==y
 | .tup Z,.tup Y=>iZ Z Y
 | .lst Z,.lst Y=>iZ Z Y
 |_,_=>false
noncomputable def iZ:List D->List D->Bool
 | [],[]=>true
 |x::Z,y::Y=>beq x y&&iZ Z Y
 |_,_=>false
end
mutual
theorem pf:∀(d:D),lay d=true->plain d=true
 | .au,_=>rfl
 | .bl _,_=>rfl
 | .int _,_=>rfl
 | .str _,_=>rfl
 | .tup Z,h=>by simp only[lay,plain] at h |-;exact o9 Z h
 | .lst Z,h=>by simp only[lay,plain] at h |-;exact o9 Z h
 | .bA _,h=>by simp[lay] at h
 | .aj _,h=>by simp[lay] at h
 | .ty _,h=>by simp[lay] at h
 | .bK _,h=>by simp[lay] at h
 | .exc _ _,h=>by simp[lay] at h
 | .cG _ _ _,h=>by simp[lay] at h
theorem o9:∀(ds:List D),fx ds=true->jH ds=true
 | [],_=>rfl
 |d::ds,h=>by
  simp only[fx,jH,Æ] at h |-;exact⟨pf d h.1,o9 ds h.2⟩
end
mutual
theorem ko:∀(d:D),lay d=true->(py d).canLay0=true/\(py d).depth=dep d
 | .au,_=>⟨rfl,by simp[py,dep,PyData.depth]⟩
 | .bl _,_=>⟨rfl,by simp[py,dep,PyData.depth]⟩
 | .int _,_=>⟨rfl,by simp[py,dep,PyData.depth]⟩
 | .str _,h=>⟨h,by simp[py,dep,PyData.depth]⟩
 | .tup Z,h=>by
  obtain⟨Y,X⟩:=uq Z (by simpa [lay] using h);simp only[py,dep,PyData.depth,PyData.canLay0];exact⟨Y,by rw[X]⟩
 | .lst Z,h=>by
  obtain⟨Y,X⟩:=uq Z (by simpa [lay] using h);simp only[py,dep,PyData.depth,PyData.canLay0];exact⟨Y,by rw[X]⟩
 | .bA _,h=>by simp[lay] at h
 | .aj _,h=>by simp[lay] at h
 | .ty _,h=>by simp[lay] at h
 | .bK _,h=>by simp[lay] at h
 | .exc _ _,h=>by simp[lay] at h
 | .cG _ _ _,h=>by simp[lay] at h
theorem uq:∀(ds:List D),fx ds=true->PyData.canLayAll0 (bJ ds)=true/\ğ (bJ ds)=dC ds
 | [],_=>⟨rfl,rfl⟩
 |d::ds,h=>by
  simp only[fx,Æ] at h;obtain⟨a1,a2⟩:=ko d h.1;obtain⟨Z,Y⟩:=uq ds h.2;simp only[bJ,dC,PyData.canLayAll0,ğ,a1,Z,a2,Y,Ĝ,ŋ]
end
mutual
theorem rE:∀(d e:D),lay d=true->lay e=true->ĥ (py d) (py e)=beq d e
 | .tup Z,.tup Y,h,g=>by
  simp only[py,beq,ĥ];exact Br Z Y (by simpa [lay] using h) (by simpa [lay] using g)
 | .lst Z,.lst Y,h,g=>by
  simp only[py,beq,ĥ];exact Br Z Y (by simpa [lay] using h) (by simpa [lay] using g)
 | .au,e,_,g=>by cases e<;>simp_all [py,beq,ĥ,lay]
 | .bl _,e,_,g=>by cases e<;>simp_all [py,beq,ĥ,lay]
 | .int _,e,_,g=>by cases e<;>simp_all [py,beq,ĥ,lay]
 | .str _,e,_,g=>by cases e<;>simp_all [py,beq,ĥ,lay]
 | .tup _,.au,_,_=>by simp[py,beq,ĥ]
 | .tup _,.bl _,_,_=>by simp[py,beq,ĥ]
 | .tup _,.int _,_,_=>by simp[py,beq,ĥ]
 | .tup _,.str _,_,_=>by simp[py,beq,ĥ]
 | .tup _,.lst _,_,_=>by simp[py,beq,ĥ]
 | .lst _,.au,_,_=>by simp[py,beq,ĥ]
 | .lst _,.bl _,_,_=>by simp[py,beq,ĥ]
 | .lst _,.int _,_,_=>by simp[py,beq,ĥ]
 | .lst _,.str _,_,_=>by simp[py,beq,ĥ]
 | .lst _,.tup _,_,_=>by simp[py,beq,ĥ]
 | .bA _,_,h,_=>by simp[lay] at h
 | .aj _,_,h,_=>by simp[lay] at h
 | .ty _,_,h,_=>by simp[lay] at h
 | .bK _,_,h,_=>by simp[lay] at h
 | .exc _ _,_,h,_=>by simp[lay] at h
 | .cG _ _ _,_,h,_=>by simp[lay] at h
 |_,.bA _,_,h=>by simp[lay] at h
 |_,.aj _,_,h=>by simp[lay] at h
 |_,.ty _,_,h=>by simp[lay] at h
 |_,.bK _,_,h=>by simp[lay] at h
 |_,.exc _ _,_,h=>by simp[lay] at h
 |_,.cG _ _ _,_,h=>by simp[lay] at h
theorem Br:∀(ds es:List D),fx ds=true->fx es=true->PyData.eqvAll (bJ ds) (bJ es)=iZ ds es
 | [],[],_,_=>rfl
 | [],_::_,_,_=>rfl
 |_::_,[],_,_=>rfl
 |d::ds,e::es,h,g=>by
  simp only[fx,Æ] at h g;simp only[bJ,iZ,PyData.eqvAll,rE d e h.1 g.1,Br ds es h.2 g.2]
end
mutual
theorem DV.py:∀{d:D} {v:V},DV K w d v->plain d=true->L2.DV K (λ_=>False) w.H (DI.py d) v
 | .au,_,h,_=>h
 | .bl _,_,h,_=>h
 | .int _,_,h,_=>h
 | .str _,_,h,_=>h
 | .tup X,v,h,p=>by
  simp only[DV] at h;obtain⟨a,Y,e,Z,r⟩:=h;simp only[DI.py,L2.DV];exact⟨a,Y,e,Z,ar.py r (by simpa [plain] using p)⟩
 | .lst X,v,h,p=>by
  simp only[DV] at h;obtain⟨a,Y,e,Z,r⟩:=h;simp only[DI.py,L2.DV];exact⟨a,Y,e,not_false,Z.2,ar.py r (by simpa [plain] using p)⟩
 | .bA W,v,h,p=>by
  simp only[DV] at h;obtain⟨a,e,U,Z⟩:=h;simp only[DI.py,L2.DV];exact⟨a,_,e,not_false,Z,W,rfl,rfl⟩
 | .aj _,_,_,p=>by simp[plain] at p
 | .ty _,_,_,p=>by simp[plain] at p
 | .bK _,_,_,p=>by simp[plain] at p
 | .exc _ _,_,_,p=>by simp[plain] at p
 | .cG _ _ _,_,_,p=>by simp[plain] at p
theorem ar.py:∀{ds:List D} {vs:List V},ar K w ds vs->jH ds=true->L2.ar K (λ_=>False) w.H (DI.bJ ds) vs
 | [],_,h,_=>h
 |d::ds,vs,h,p=>by
  simp only[ar] at h;obtain⟨v,r,e,Z,Y⟩:=h;simp only[jH,Æ] at p;exact⟨v,r,e,DV.py Z p.1,ar.py Y p.2⟩
end
def res (d:D) (s:af):D:=match d with
 | .aj k=>match s[k]? with
  |some (.lst Z)=>.lst Z
  |_=>d
 |_=>d
theorem DV.res (S:aM K w) (h:DV K w d v) (p:plain (DI.res d w.aB)=true):L2.DV K (λ_=>False) w.H (DI.py (DI.res d w.aB)) v:=by
 cases d with
 |aj k =>
  unfold DI.res at p |-;simp only at p |-
  split at p<;>rename_i Z
  ·rename_i V
   obtain⟨a,e1,rfl⟩:=h;obtain⟨Y,X,W⟩:=S.cell k a _ e1 Z;simp only[DI.py,L2.DV];exact⟨a,Y,rfl,not_false,X,W.py (by simpa [plain] using p)⟩
  ·simp[plain] at p
 |_=>exact h.py p
noncomputable def tD:D->Bool
 | .str _=>true
 |_=>false
def Xc (h:tD d=true):∃x,d=.str x:=by cases d<;>first|exact⟨_,rfl⟩|cases h
def pZ (x y:D):Option Bool:=if (tD x&&tD y)=true then some (beq x y) else if (lay x&&lay y&&decide (min (dep x) (dep y)<=100))=true then some (beq x y) else none
def cb (x y:D) (s:af):Res D:=match pZ (res x s) (res y s) with
 |some b=>ok (.bl b) s
 |none=>none
def i6 (x y:D) (s:af):Res D:=match pZ (res x s) (res y s) with
 |some b=>ok (.bl (!b)) s
 |none=>none
def JY (S:aM K w) (hx:DV K w x v) (hy:DV K w y u) (h:pZ (res x w.aB) (res y w.aB)=some b) :
  (D9 v u=true/\decide (v=u)=b)\/∃(d e:ω),L2.DV K (λ_=>False) w.H d v/\L2.DV K (λ_=>False) w.H e u/\d.canLay0=true/\e.canLay0=true/\min d.depth e.depth<=100/\ĥ d e=b:=by
 have str:∀{d:D} {v:V},tD (res d w.aB)=true->DV K w d v->∃x,res d w.aB=.str x/\v=.str x:=λ{d v} hs W=>by
  obtain⟨x,e⟩:=Xc hs
  cases d with
  |str y=>cases e;exact⟨x,rfl,W⟩
  |aj k =>
   unfold res at e;simp only at e
   split at e<;>cases e
  |_=>cases e
 unfold pZ at h;split at h
 ·rename_i hs
  rw[Æ] at hs;obtain⟨a,U,rfl⟩:=str hs.1 hx;obtain⟨c,T,rfl⟩:=str hs.2 hy;rw[U,T] at h;exact .inl ⟨rfl,by rw[<- acH h];exact BP⟩
 split at h
 ·rename_i X
  right;simp only[Æ,É] at X;obtain⟨⟨Z,Y⟩,R⟩:=X;obtain⟨Q,P⟩:=ko _ Z;obtain⟨O,N⟩:=ko _ Y;exact⟨_,_,hx.res S (pf _ Z),hy.res S (pf _ Y),Q,O,by rw[P,N];exact R,by rw[rE _ _ Z Y];exact acH h⟩
 ·cases h
section
variable {X:Cx} {Ξ:Wd->aY->Prop}
def dD (hr:bB k X.A):bI X (ġ .Eq) (rO X.K Ξ cb):=by
 rintro W s σ H x y v u Q I V U ⟨w,J,G,rfl,S,T,R,h⟩;unfold cb at h;split at h
 ·rename_i b P
  rcases JY S T R P with ⟨Z,Y⟩ | ⟨d,e,Z,Y,O,N,M,L⟩
  ·exact YF W s σ w.H x y v u Q I V U ⟨Z,by rw[Y];exact aG S h _ rfl⟩
  exact WZ hr W s σ w.H x y v u Q I V U ⟨d,e,_,Z,Y,O,N,M,by simp only[Ì,û];rw[L];exact aG S h _ rfl⟩
 ·exact h.elim
def oA (hr:bB k X.A):bI X (ġ .NotEq) (rO X.K Ξ i6):=by
 rintro W s σ H x y v u Q I V U ⟨w,J,G,rfl,S,T,R,h⟩;unfold i6 at h;split at h
 ·rename_i b P
  rcases JY S T R P with ⟨Z,Y⟩ | ⟨d,e,Z,Y,O,N,M,L⟩
  ·exact YG W s σ w.H x y v u Q I V U ⟨Z,by rw[Y];exact aG S h _ rfl⟩
  exact W0 hr W s σ w.H x y v u Q I V U ⟨d,e,_,Z,Y,O,N,M,by simp only[Ā];rw[L];exact aG S h _ rfl⟩
 ·exact h.elim
end
end DI
namespace DI
open PySem L2
def bY (r:Option D) (s:af):Res D:=match r with
 |some d=>ok d s
 |none=>none
def fK (h:Out K Ξ w (bY r w.aB) k):∃d,r=some d/\Out K Ξ w (ok d w.aB) k:=by
 unfold bY at h;split at h
 ·exact⟨_,rfl,h⟩
 ·exact h.elim
noncomputable def vL (xs ys:List D):Bool:=decide (xs.length+ys.length<=Ø)
def zt:D->D->Option D
 | .int i,.int j=>some (.int (i+j))
 | .tup Z,.tup Y=>if vL Z Y=true then some (.tup (Z++Y)) else none
 | .lst Z,.lst Y=>if vL Z Y=true then some (.lst (Z++Y)) else none
 | .str x,.str y=>if decide (x.length+y.length<=Ø)=true then some (.str (x++y)) else none
 |_,_=>none
def cP (x y:D) (s:af):Res D:=bY (zt (res x s) (res y s)) s
noncomputable def ML:D->D->Option D
 | .int i,.int j=>some (.int (i-j))
 |_,_=>none
def ve (x y:D) (s:af):Res D:=bY (ML x y) s
noncomputable def vf (i j:Int):Bool:=(decide (-(2 ^ 64)<i)&&decide (i<2 ^ 64))||(decide (-(2 ^ 64)<j)&&decide (j<2 ^ 64))
def Em:D->D->Option D
 | .int i,.int j=>if vf i j=true then some (.int (i*j)) else none
 | .tup Z,.int k=>if (!Z.isEmpty&&decide (1<=k)&&decide (Z.length*k.toNat<=Ø))=true then some (.tup (Å k.toNat Z).flatten) else none
 | .lst Z,.int k=>if (decide (-(2 ^ 63)<=k)&&decide (k<2 ^ 63)&&decide (Z.length*k.toNat<=Ø))=true then some (.lst (Å k.toNat Z).flatten) else none
 |_,_=>none
def fq (x y:D) (s:af):Res D:=bY (Em x y) s
noncomputable def En:D->D->Option D
 | .int i,.int j=>if decide (0<j)=true then some (.int (i % j)) else none
 |_,_=>none
def mT (x y:D) (s:af):Res D:=bY (En x y) s
noncomputable def Eo:D->D->Option D
 | .int i,.int j=>if (decide (0<j)&&decide (j<1073741824))=true then some (.int (i / j)) else none
 |_,_=>none
def vh (x y:D) (s:af):Res D:=bY (Eo x y) s
noncomputable def Ep:D->D->Option D
 | .int i,.int j=>if (decide (0<=j)&&decide (j<=1000000)&&decide (i.natAbs<2 ^ 64))=true then some (.int (i ^ j.toNat)) else none
 |_,_=>none
def rT (x y:D) (s:af):Res D:=bY (Ep x y) s
noncomputable def MN:D->Option D
 | .int i=>some (.int (-i))
 |_=>none
def Dr (x:D) (s:af):Res D:=bY (MN x) s
theorem ar.flat (h:ar K w ds vs):∀n:Nat,ar K w (Å n ds).flatten (Å n vs).flatten
 |0=>rfl
 |n+1=>by
  rw[ŀ,ŀ,ŧ,ŧ];exact ar.append h (ar.flat h n)
def jd (S:aM K w) (h:DV K w d v) (e:res d w.aB=.lst ds):∃a xs,v=.ref a/\w.H a=some (.lst xs)/\ar K w ds xs:=by
 unfold res at e;split at e
 ·rename_i k
  split at e
  ·rename_i V Z
   cases e;obtain⟨a,e1,rfl⟩:=h;obtain⟨xs,Y,X⟩:=S.cell k a _ e1 Z;exact⟨a,xs,rfl,Y,X⟩
  ·cases e
 ·subst e
  simp only[DV] at h;obtain⟨a,xs,e,W,r⟩:=h;exact⟨a,xs,e,W.2,r⟩
def eD (h:res d s=e) (hl:∀ds,e≠.lst ds):d=e:=by
 unfold res at h;split at h
 ·split at h
  ·exact absurd h.symm (hl _)
  ·exact h
 ·exact h
section
variable {X:Cx} {Ξ:Wd->aY->Prop}
def vF (S:aM K w) (aq:ar K w ds vs) (h:Out K Ξ w (ok (D.tup ds) w.aB) λw' d=>∀v,DV K w' d v->Q v w'.H):oy K w.H vs Q:=λa Z e Y =>
 h (w.same Z) (Fw.same e).le (S.same e) rfl (.ref a) ⟨a,vs,rfl,Y,(Fw.same e).le.all aq⟩
def sA {K:ę} {w:Wd} {ds:List D} {vs:List V} {Q:VK} (S:aM K w) (aq:ar K w ds vs) (h:Out K Ξ w (ok (D.lst ds) w.aB) λw' d=>∀v,DV K w' d v->Q v w'.H):∀p,w.H p=none->Q (.ref p) (upd w.H p (.lst vs)):=λp Y =>
 h (w.grow p (.lst vs)) (Fw.grow Y).le (S.grow Y) rfl (.ref p) ⟨p,vs,rfl,⟨(show ¬ w.Z p from km S Y),cq⟩,(Fw.grow Y).le.all aq⟩
def Xd {K:ę} {w:Wd} {ds:List D} {vs:List V} {Q:VK} (S:aM K w) (aq:ar K w ds vs) (h:Out K Ξ w (ok (D.tup ds) w.aB) λw' d=>∀v,DV K w' d v->Q v w'.H):∀p,w.H p=none->Q (.ref p) (upd w.H p (.tup vs)):=λp Z =>
 h (w.grow p (.tup vs)) (Fw.grow Z).le (S.grow Z) rfl (.ref p) ⟨p,vs,rfl,bz.of cq,(Fw.grow Z).le.all aq⟩
def fL:bI X (Ł .Add) (rO X.K Ξ cP):=by
 rintro T s σ H x y v u Q I R P ⟨w,J,G,rfl,S,Z,Y,h⟩;obtain⟨d,e,h⟩:=fK h;unfold zt at e;split at e
 ·rename_i i j e1 e2
  rw[eD e1 (by intro _ z;cases z)] at Z;rw[eD e2 (by intro _ z;cases z)] at Y;cases e;cases Z;cases Y;exact WH T s σ w.H _ _ v u Q I R P ⟨i,j,rfl,rfl,aG S h _ rfl⟩
 ·rename_i M L e1 e2
  rw[eD e1 (by intro _ z;cases z)] at Z;rw[eD e2 (by intro _ z;cases z)] at Y;split at e
  ·rename_i W
   cases e;simp only[DV] at Z Y;obtain⟨a,as,rfl,O,V⟩:=Z;obtain⟨b,bs,rfl,N,U⟩:=Y;exact Vf T s σ w.H _ _ v u Q I R P ⟨a,b,as,bs,rfl,rfl,O,N,by rw[<- V.length,<- U.length];exact Ą W,vF S (V.append U) h⟩
  ·cases e
 ·rename_i M L e1 e2
  split at e
  ·rename_i W
   cases e;obtain⟨a,as,rfl,O,V⟩:=jd S Z e1;obtain⟨b,bs,rfl,N,U⟩:=jd S Y e2;exact WV T s σ w.H _ _ v u Q I R P ⟨a,b,as,bs,rfl,rfl,O,N,by rw[<- V.length,<- U.length];exact Ą W,sA S (V.append U) h⟩
  ·cases e
 ·rename_i i j e1 e2
  rw[eD e1 (by intro _ z;cases z)] at Z;rw[eD e2 (by intro _ z;cases z)] at Y;split at e
  ·rename_i W
   cases e;cases Z;cases Y;exact Qv T s σ w.H _ _ v u Q I R P ⟨i,j,rfl,rfl,Ą W,aG S h _ rfl⟩
  ·cases e
 ·cases e
def Y7:bI X (Ł .Sub) (rO X.K Ξ ve):=by
 rintro Z s σ H x y v u Q I Y W ⟨w,T,R,rfl,S,V,U,h⟩;obtain⟨d,e,h⟩:=fK h;unfold ML at e;split at e
 ·rename_i i j
  cases e;cases V;cases U;exact WI Z s σ w.H _ _ v u Q I Y W ⟨i,j,rfl,rfl,aG S h _ rfl⟩
 ·cases e
def lG:bI X (Ł .Mult) (rO X.K Ξ fq):=by
 rintro V s σ H x y v u Q I U T ⟨w,M,L,rfl,S,Y,R,h⟩;obtain⟨d,e,h⟩:=fK h;unfold Em at e;split at e
 ·rename_i i j
  split at e
  ·rename_i Z
   cases e;cases Y;cases R;refine WJ V s σ w.H _ _ v u Q I U T ⟨i,j,rfl,rfl,?_,aG S h _ rfl⟩;unfold zg;simpa [vf] using Z
  ·cases e
 ·rename_i O k
  split at e
  ·rename_i Z
   cases e;cases R;simp only[Æ,É] at Z;simp only[DV] at Y;obtain⟨a,as,rfl,P,W⟩:=Y;have N:=W.length;refine Vt V s σ w.H _ _ v u Q I U T ⟨a,as,k,rfl,rfl,P,?_,Z.1.2,by rw[<- N];exact Z.2,vF S (W.flat _) h⟩;intro z;subst z
   cases O with
   |nil=>simp at Z
   |cons _ _=>cases N
  ·cases e
 ·rename_i O k
  split at e
  ·rename_i Z
   cases e;cases R;simp only[Æ,É] at Z;simp only[DV] at Y;obtain⟨a,as,rfl,P,W⟩:=Y;exact WW V s σ w.H _ _ v u Q I U T ⟨a,k,as,rfl,rfl,P.2,Z.1.1,Z.1.2,by rw[<- W.length];exact Z.2,sA S (W.flat _) h⟩
  ·cases e
 ·cases e
def rV:bI X (Ł .Mod) (rO X.K Ξ mT):=by
 rintro Z s σ H x y v u Q I Y W ⟨w,R,P,rfl,S,V,U,h⟩;obtain⟨d,e,h⟩:=fK h;unfold En at e;split at e
 ·rename_i i j
  split at e
  ·rename_i T
   cases e;cases V;cases U;exact WK Z s σ w.H _ _ v u Q I Y W ⟨i,j,rfl,rfl,Ą T,aG S h _ rfl⟩
  ·cases e
 ·cases e
def LQ:bI X (Ł .FloorDiv) (rO X.K Ξ vh):=by
 rintro Y s σ H x y v u Q I W V ⟨w,R,P,rfl,S,U,T,h⟩;obtain⟨d,e,h⟩:=fK h;unfold Eo at e;split at e
 ·rename_i i j
  split at e
  ·rename_i Z
   simp only[Æ,É] at Z;cases e;cases U;cases T;exact U4 Y s σ w.H _ _ v u Q I W V ⟨i,j,rfl,rfl,Z,aG S h _ rfl⟩
  ·cases e
 ·cases e
def Ds:bI X (Ł .Pow) (rO X.K Ξ rT):=by
 rintro Y s σ H x y v u Q I W V ⟨w,R,P,rfl,S,U,T,h⟩;obtain⟨d,e,h⟩:=fK h;unfold Ep at e;split at e
 ·rename_i i j
  split at e
  ·rename_i Z
   simp only[Æ,É] at Z;cases e;cases U;cases T;exact WL Y s σ w.H _ _ v u Q I W V ⟨i,j,rfl,rfl,⟨Z.1.1,Z.1.2,Z.2⟩,aG S h _ rfl⟩
  ·cases e
 ·cases e
def Dt:wj X (unaryOp .USub) (rU X.K Ξ Dr):=by
 rintro Z s σ H x v Q I Y ⟨w,V,rfl,S,W,h⟩;obtain⟨d,e,h⟩:=fK h;unfold MN at e;split at e
 ·rename_i i
  cases e;cases W;exact WM Z s σ w.H _ v Q I Y ⟨i,rfl,aG S h _ rfl⟩
 ·cases e
noncomputable def sC (p:Int->Int->Bool):D->D->Option D
 | .int i,.int j=>some (.bl (p i j))
 |_,_=>none
def ng (x y:D) (s:af):Res D:=bY (sC (λi j=>decide (i<=j)) x y) s
def zu (x y:D) (s:af):Res D:=bY (sC (λi j=>decide (j<i)) x y) s
def zv (x y:D) (s:af):Res D:=bY (sC (λi j=>decide (j<=i)) x y) s
def sE:bI X (ġ .LtE) (rO X.K Ξ ng):=by
 rintro Z s σ H x y v u Q I Y W ⟨w,T,R,rfl,S,V,U,h⟩;obtain⟨d,e,h⟩:=fK h;unfold sC at e;split at e
 ·rename_i i j
  cases e;cases V;cases U;exact YH Z s σ w.H _ _ v u Q I Y W ⟨i,j,rfl,rfl,aG S h _ rfl⟩
 ·cases e
def aax:bI X (ġ .Gt) (rO X.K Ξ zu):=by
 rintro Z s σ H x y v u Q I Y W ⟨w,T,R,rfl,S,V,U,h⟩;obtain⟨d,e,h⟩:=fK h;unfold sC at e;split at e
 ·rename_i i j
  cases e;cases V;cases U;exact YI Z s σ w.H _ _ v u Q I Y W ⟨i,j,rfl,rfl,aG S h _ rfl⟩
 ·cases e
def aay:bI X (ġ .GtE) (rO X.K Ξ zv):=by
 rintro Z s σ H x y v u Q I Y W ⟨w,T,R,rfl,S,V,U,h⟩;obtain⟨d,e,h⟩:=fK h;unfold sC at e;split at e
 ·rename_i i j
  cases e;cases V;cases U;exact YJ Z s σ w.H _ _ v u Q I Y W ⟨i,j,rfl,rfl,aG S h _ rfl⟩
 ·cases e
def k9 (d i:D) (s:af):Option D:=match res d s,i with
 | .lst Z,.int i=>ef Z i
 | .tup Z,.int i=>ef Z i
 | .bK Y,.int i=>(ef Y i).map D.int
 | .str x,.int i=>if decide (x.length<=Ø)=true then (ef x.cps.toList i).map λc=>.str ⟨#[c]⟩ else none
 |_,_=>none
def aA (x y:D) (s:af):Res D:=bY (k9 x y s) s
theorem ar.at (h:ar K w ds vs) (e:ef ds i=some d):∃v,ef vs i=some v/\DV K w d v:=by
 unfold ef at e |-;rw[h.length] at e
 cases hi:gX vs.length i with
 |none=>rw[hi] at e;cases e
 |some j =>
  rw[hi] at e;exact h.get' j d e
def aaz:wq X (rO X.K Ξ aA):=by
 rintro value slice T s σ H x y v u Q I R P ⟨w,B,A,rfl,S,Z,O,h⟩ hs;obtain⟨d,e,N⟩:=fK h;clear h;unfold k9 at e;split at e
 ·rename_i D i e1
  cases O;obtain⟨a,M,rfl,W,L⟩:=jd S Z e1;obtain⟨z,J,G⟩:=L.at e;exact JN value slice T s σ w.H _ _ v u Q I R P ⟨a,M,i,z,rfl,rfl,bC.of W,J,aG S N _ G⟩ hs
 ·rename_i D i e1
  cases O;rw[eD e1 (by intro _ z;cases z)] at Z;simp only[DV] at Z;obtain⟨a,M,rfl,W,L⟩:=Z;obtain⟨z,J,G⟩:=L.at e;exact WR value slice T s σ w.H _ _ v u Q I R P ⟨a,M,i,z,rfl,rfl,W,J,aG S N _ G⟩ hs
 ·rename_i U i e1
  cases O;rw[eD e1 (by intro _ z;cases z)] at Z;simp only[DV] at Z;obtain⟨a,rfl,W⟩:=Z
  cases Y:ef U i with
  |none=>rw[Y] at e;cases e
  |some n =>
   rw[Y] at e;cases e;refine JN value slice T s σ w.H _ _ v u Q I R P ⟨a,U.map V.int,i,.int n,rfl,rfl,W.sq,?_,aG S N _ rfl⟩ hs;unfold ef at Y |-;rw[Í]
   cases E:gX U.length i with
   |none=>rw[E] at Y;cases Y
   |some j =>
    rw[E] at Y;show (U.map V.int)[j]?=some (.int n);rw[ç,show U[j]?=some n from Y];rfl
 ·rename_i z i e1
  cases O;rw[eD e1 (by intro _ z;cases z)] at Z;cases Z;split at e
  ·rename_i C
   cases F:ef z.cps.toList i with
   |none=>rw[F] at e;cases e
   |some c =>
    rw[F] at e;cases e;exact WS value slice T s σ w.H _ _ v u Q I R P ⟨z,i,c,rfl,rfl,Ą C,F,aG S N _ rfl⟩ hs
  ·cases e
 ·cases e
def aW (ha:PE X a (tE X.K Ξ f)) (hb:PE X b (tE X.K Ξ g)) (hs:JM b:=by intro _ _;rfl):PE X (.Subscript a b pos) (tE X.K Ξ (e2 aA f g)):=cA (YO aaz ha hb hs) xX
def zw (d:D) (s:af):Option D:=match res d s with
 | .lst Z=>some (.int Z.length)
 | .tup Z=>some (.int Z.length)
 | .bK Y=>some (.int Y.length)
 | .str x=>if decide (x.length<=Ø)=true then some (.int x.length) else none
 |_=>none
def cy (ds:List D) (s:af):Res D:=match ds with
 | [d]=>bY (zw d s) s
 |_=>none
def mH (h:ar K w [d] vs):∃v,vs=[v]/\DV K w d v:=by
 obtain⟨v,r,rfl,Z,dr⟩:=h;have e:r=[]:=dr;subst e;exact⟨v,rfl,Z⟩
def uT (h:ar K w [d,e] vs):∃v u,vs=[v,u]/\DV K w d v/\DV K w e u:=by
 obtain⟨v,r,rfl,Z,h⟩:=h;obtain⟨u,rfl,Y⟩:=mH h;exact⟨v,u,rfl,Z,Y⟩
def iz:cD X (.builtin "len") (rC X.K Ξ cy):=by
 rintro U s σ H T R Q I r ⟨w,M,rfl,S,Y,h⟩;unfold cy at h;split at h
 ·obtain⟨v,rfl,Z⟩:=mH Y
  obtain⟨d,e,h⟩:=fK h;unfold zw at e;split at e
  ·rename_i P e1
   cases e;obtain⟨a,T,rfl,W,Y⟩:=jd S Z e1;exact AB U s σ w.H _ R Q I r ⟨a,T,rfl,.inl (bC.of W),by rw[<- Y.length];exact aG S h _ rfl⟩
  ·rename_i P e1
   cases e;rw[eD e1 (by intro _ z;cases z)] at Z;simp only[DV] at Z;obtain⟨a,T,rfl,W,Y⟩:=Z;exact AB U s σ w.H _ R Q I r ⟨a,T,rfl,.inr W,by rw[<- Y.length];exact aG S h _ rfl⟩
  ·rename_i O e1
   cases e;rw[eD e1 (by intro _ z;cases z)] at Z;simp only[DV] at Z;obtain⟨a,rfl,W⟩:=Z;exact AB U s σ w.H _ R Q I r ⟨a,O.map V.int,rfl,.inl W.sq,by rw[Í];exact aG S h _ rfl⟩
  ·rename_i z e1
   rw[eD e1 (by intro _ z;cases z)] at Z;cases Z;split at e
   ·rename_i N
    cases e;exact Pj U s σ w.H _ R Q I r ⟨z,rfl,Ą N,aG S h _ rfl⟩
   ·cases e
  ·cases e
 ·exact h.elim
noncomputable def gZ:List D->Option (List Bool)
 | []=>some []
 | .bl b::Z=>(gZ Z).map λr=>b::r
 |_::_=>none
theorem uU:∀{ds:List D} {bs:List Bool},gZ ds=some bs->ds=bs.map D.bl
 | [],bs,h=>by cases h;rfl
 | .bl b::ds,bs,h=>by
  simp only[gZ] at h
  cases Z:gZ ds with
  |none=>rw[Z] at h;cases h
  |some r=>rw[Z] at h;cases h;rw[uU Z];rfl
 | .au::_,_,h=>by cases h
 | .int _::_,_,h=>by cases h
 | .str _::_,_,h=>by cases h
 | .tup _::_,_,h=>by cases h
 | .lst _::_,_,h=>by cases h
 | .bA _::_,_,h=>by cases h
 | .aj _::_,_,h=>by cases h
 | .ty _::_,_,h=>by cases h
 | .bK _::_,_,h=>by cases h
 | .exc _ _::_,_,h=>by cases h
 | .cG _ _ _::_,_,h=>by cases h
def Vw:gZ (bs.map D.bl)=some bs:=by
 induction bs with
 |nil=>rfl
 |cons b bs ih=>simp only[ß,gZ,ih,Ũ]
def jV (ds:List D) (s:af):Res D:=match ds with
 | [d]=>match res d s with
  | .lst Z=>bY ((gZ Z).map λbs=>.bl (bs.all id)) s
  |_=>none
 |_=>none
def sF (ds:List D) (s:af):Res D:=match ds with
 | [d]=>match res d s with
  | .lst Z=>bY ((gZ Z).map λbs=>.bl (bs.any id)) s
  |_=>none
 |_=>none
def mU (hc:X.calm=true):cD X (.builtin "all") (rC X.K Ξ jV):=by
 rintro V s σ H U T Q I r ⟨w,O,rfl,S,Z,h⟩;unfold jV at h;split at h
 ·obtain⟨v,rfl,R⟩:=mH Z
  split at h
  ·rename_i P e1
   obtain⟨d,e,h⟩:=fK h
   cases Y:gZ P with
   |none=>rw[Y] at e;cases e
   |some bs =>
    rw[Y] at e;cases e;obtain⟨a,U,rfl,W,Z⟩:=jd S R e1;rw[uU Y] at Z;rw[Z.uD] at W;exact Tc hc V s σ w.H _ T Q I r ⟨a,bs,rfl,bC.of W,aG S h _ rfl⟩
  ·exact h.elim
 ·exact h.elim
def LR (hc:X.calm=true):cD X (.builtin "any") (rC X.K Ξ sF):=by
 rintro V s σ H U T Q I r ⟨w,O,rfl,S,Z,h⟩;unfold sF at h;split at h
 ·obtain⟨v,rfl,R⟩:=mH Z
  split at h
  ·rename_i P e1
   obtain⟨d,e,h⟩:=fK h
   cases Y:gZ P with
   |none=>rw[Y] at e;cases e
   |some bs =>
    rw[Y] at e;cases e;obtain⟨a,U,rfl,W,Z⟩:=jd S R e1;rw[uU Y] at Z;rw[Z.uD] at W;exact Td hc V s σ w.H _ T Q I r ⟨a,bs,rfl,bC.of W,aG S h _ rfl⟩
  ·exact h.elim
 ·exact h.elim
def p9 (ds:List D) (s:af):Res D:=match ds with
 | [.int i,.int j]=>ok (.int (if j > i then j else i)) s
 |_=>none
def qa (ds:List D) (s:af):Res D:=match ds with
 | [.int i,.int j]=>ok (.int (if j<i then j else i)) s
 |_=>none
def KR (hc:X.calm=true):cD X (.builtin "max") (rC X.K Ξ p9):=by
 rintro Z s σ H T Y Q I r ⟨w,R,rfl,S,W,h⟩;unfold p9 at h;split at h
 ·rename_i i j
  obtain⟨v,u,rfl,V,U⟩:=uT W;cases V;cases U;exact RD hc Z s σ w.H _ Y Q I r ⟨i,j,rfl,aG S h _ rfl⟩
 ·exact h.elim
def KS (hc:X.calm=true):cD X (.builtin "min") (rC X.K Ξ qa):=by
 rintro Z s σ H T Y Q I r ⟨w,R,rfl,S,W,h⟩;unfold qa at h;split at h
 ·rename_i i j
  obtain⟨v,u,rfl,V,U⟩:=uT W;cases V;cases U;exact RE hc Z s σ w.H _ Y Q I r ⟨i,j,rfl,aG S h _ rfl⟩
 ·exact h.elim
def gJ (ds:List D) (s:af):Res D:=match ds with
 | [d]=>match res d s with
  | .lst Z=>ok (.tup Z) s
  | .tup Z=>ok (.tup Z) s
  |_=>none
 |_=>none
def uE:cD X (.type "tuple") (rC X.K Ξ gJ):=by
 rintro U s σ H Y T Q I r ⟨w,O,rfl,S,W,h⟩;unfold gJ at h;split at h
 ·obtain⟨v,rfl,Z⟩:=mH W
  split at h
  ·rename_i R e1
   obtain⟨a,Y,rfl,V,W⟩:=jd S Z e1;exact Ha U s σ w.H _ T Q I r ⟨a,Y,rfl,.inl ⟨bC.of V,Xd S W h⟩⟩
  ·rename_i R e1
   rw[eD e1 (by intro _ z;cases z)] at Z;have P:=Z;simp only[DV] at Z;obtain⟨a,Y,rfl,V,W⟩:=Z;exact Ha U s σ w.H _ T Q I r ⟨a,Y,rfl,.inr ⟨V,aG S h _ P⟩⟩
  ·exact h.elim
 ·exact h.elim
def yR (ds:List D) (s:af):Res D:=match ds with
 | [d]=>match res d s with
  | .lst Z=>ok (.lst Z) s
  | .tup Z=>ok (.lst Z) s
  |_=>none
 |_=>none
def Xe:cD X (.type "list") (rC X.K Ξ yR):=by
 rintro U s σ H Y T Q I r ⟨w,P,rfl,S,Z,h⟩;unfold yR at h;split at h
 ·obtain⟨v,rfl,W⟩:=mH Z
  split at h
  ·rename_i R e1
   obtain⟨a,Y,rfl,V,Z⟩:=jd S W e1;exact xo U s σ w.H _ T Q I r ⟨a,Y,rfl,.inl (bC.of V),sA S Z h⟩
  ·rename_i R e1
   rw[eD e1 (by intro _ z;cases z)] at W;simp only[DV] at W;obtain⟨a,Y,rfl,V,Z⟩:=W;exact xo U s σ w.H _ T Q I r ⟨a,Y,rfl,.inr V,sA S Z h⟩
  ·exact h.elim
 ·exact h.elim
end
def rW (n:Nat) (x:D) (ds:List D):Bool:=lay x&&fx ds&&decide (dep x<=n)
def inD (x:D) (ds:List D):Option Bool:=if rW 100 x ds=true then some (ds.any λy=>beq y x) else none
def qb (d:D) (s:af):Option (List D):=match res d s with
 | .lst Z=>some Z
 | .tup Z=>some Z
 |_=>none
def eI (x y:D) (s:af):Res D:=match qb y s with
 |some Z=>bY ((inD x Z).map D.bl) s
 |none=>none
def gF (x y:D) (s:af):Res D:=match qb y s with
 |some Z=>bY ((inD x Z).map λb=>D.bl (!b)) s
 |none=>none
def Jf (S:aM K w) (h:DV K w d v) (e:qb d w.aB=some ds):∃a xs,v=.ref a/\(w.H a=some (.lst xs)\/bz K w.H a xs)/\ar K w ds xs:=by
 unfold qb at e;split at e
 ·rename_i X e1
  cases e;obtain⟨a,xs,rfl,Z,Y⟩:=jd S h e1;exact⟨a,xs,rfl,.inl Z,Y⟩
 ·rename_i X e1
  cases e;rw[eD e1 (by intro _ z;cases z)] at h;simp only[DV] at h;obtain⟨a,xs,rfl,Z,Y⟩:=h;exact⟨a,xs,rfl,.inr Z,Y⟩
 ·cases e
section
variable {X:Cx} {Ξ:Wd->aY->Prop} {π:List (Ù×Obj)} {σ:St} {s:Ä}
theorem CD (lx:lay x=true):∀{ds:List D},fx ds=true->((bJ ds).any λy=>ĥ y (py x))=ds.any λy=>beq y x
 | [],_=>rfl
 |d::ds,h=>by
  simp only[fx,Æ] at h;simp only[bJ,List.any_cons,rE d x h.1 lx,CD lx h.2]
def KU (h:inD x ds=some b):lay x=true/\fx ds=true/\dep x<=100/\(ds.any λy=>beq y x)=b:=by
 unfold inD rW at h;split at h
 ·rename_i Z
  simp only[Æ,É] at Z;exact⟨Z.1.1,Z.1.2,Z.2,acH h⟩
 ·cases h
def lO (hr:bB k X.A):bI X (ġ .In) (rO X.K Ξ eI):=by
 rintro π s σ H x y v u Q I J T ⟨w,W,B,rfl,S,G,F,h⟩;unfold eI at h;split at h
 ·rename_i Z E
  obtain⟨d,e,h⟩:=fK h
  cases V:inD W Z with
  |none=>rw[V] at e;cases e
  |some b =>
   rw[V] at e;cases e;obtain⟨U,Y,z,D⟩:=KU V;obtain⟨R,C⟩:=ko _ U;obtain⟨P,t⟩:=uq _ Y;obtain⟨bs,O⟩:=(G.py (pf _ U)).reads I J;have N:X.A.units+1+min (ğ (bJ Z)) (py W).depth<abh:=by
    have:=hr.un;rw[C];omega
   obtain⟨a,M,rfl,ha,L⟩:=Jf S F E;have fin:EP X π σ Q (.bool ((bJ Z).any λy=>ĥ y (py W))) s:=⟨.bl b,w.H,I,by rw[CD U Y,D];rfl,aG S h _ rfl⟩
   rcases ha with ha|ha
   ·obtain⟨cs,rc⟩:=(show L2.DV X.K (λ_=>False) w.H (.list (bJ Z)) (.ref a) by simp only[L2.DV];exact⟨a,M,rfl,not_false,ha,L.py (o9 _ Y)⟩).reads I T
    exact SeqAt.in_list_reads rc O P R N fin
   ·obtain⟨cs,rc⟩:=(show L2.DV X.K (λ_=>False) w.H (.tuple (bJ Z)) (.ref a) by simp only[L2.DV];exact⟨a,M,rfl,ha,L.py (o9 _ Y)⟩).reads I T
    exact SeqAt.in_tuple_reads rc O P R N fin
 ·exact h.elim
def B9 (hr:bB k X.A):bI X (ġ .NotIn) (rO X.K Ξ gF):=by
 rintro π s σ H x y v u Q I J T ⟨w,W,B,rfl,S,G,F,h⟩;unfold gF at h;split at h
 ·rename_i Z E
  obtain⟨d,e,h⟩:=fK h
  cases V:inD W Z with
  |none=>rw[V] at e;cases e
  |some b =>
   rw[V] at e;cases e;obtain⟨U,Y,z,D⟩:=KU V;obtain⟨R,C⟩:=ko _ U;obtain⟨P,t⟩:=uq _ Y;obtain⟨bs,O⟩:=(G.py (pf _ U)).reads I J;have N:X.A.units+1+min (ğ (bJ Z)) (py W).depth<abh:=by
    have:=hr.un;rw[C];omega
   obtain⟨a,M,rfl,ha,L⟩:=Jf S F E;have fin:EP X π σ Q (.bool (!(bJ Z).any λy=>ĥ y (py W))) s:=⟨.bl (!b),w.H,I,by rw[CD U Y,D];rfl,aG S h _ rfl⟩
   rcases ha with ha|ha
   ·obtain⟨cs,rc⟩:=(show L2.DV X.K (λ_=>False) w.H (.list (bJ Z)) (.ref a) by simp only[L2.DV];exact⟨a,M,rfl,not_false,ha,L.py (o9 _ Y)⟩).reads I T
    exact SeqAt.notIn_list_reads rc O P R N fin
   ·obtain⟨cs,rc⟩:=(show L2.DV X.K (λ_=>False) w.H (.tuple (bJ Z)) (.ref a) by simp only[L2.DV];exact⟨a,M,rfl,ha,L.py (o9 _ Y)⟩).reads I T
    exact SeqAt.notIn_tuple_reads rc O P R N fin
 ·exact h.elim
def tP (K:ę) (Ξ:Wd->aY->Prop) (f:acC (Option Int)):TO:=fun σ H Q=>∃w env,w.H=H/\aM K w/\bL K w env σ/\Out K Ξ w (f env w.aB) λZ i=>Q i Z.H
def qF:acC (Option Int):=λ_ s=>ok none s
def qk (f:acC D):acC (Option Int):=λenv s=>ak (f env s) λd s=>match d with
 | .int i=>ok (some i) s
 |_=>none
variable {e a b:ħ} {lo hi:Option ħ} {pos p2 p3 p4:Pos} {f g:acC D}
def KW (h:PO X lo t) (i:∀ σ H Q,t' σ H Q->t σ H Q):PO X lo t':=λπ s σ H Q I Z=>h π s σ H Q I (i σ H Q Z)
def MO:PO X none (tP X.K Ξ qF):=KW U9 fun σ H Q Z=>by
 obtain⟨w,env,Y,S,W,h⟩:=Z;subst Y;exact aG S h
def LS (he:PE X e (tE X.K Ξ f)):PO X (some e) (tP X.K Ξ (qk f)):=KW (Va he) fun σ H Q Y=>by
 obtain⟨w,env,W,S,V,h⟩:=Y;subst W;refine⟨w,env,rfl,S,V,(Out.ak h).mono λR d P U Z v T=>?_⟩
 cases d with
 |int i=>exact⟨i,T,aG U Z⟩
 |_=>exact Z.elim
noncomputable def cutD (xs:List D) (lo hi:Option Int):List D:=(xs.drop (HT.aU xs.length 0 lo)).take (HT.aU xs.length xs.length hi-HT.aU xs.length 0 lo)
def rF (d:D) (lo hi:Option Int) (s:af):Res D:=match res d s with
 | .tup Z=>ok (.tup (cutD Z lo hi)) s
 | .lst Z=>ok (.lst (cutD Z lo hi)) s
 |_=>none
def qG (f:acC D) (l h:acC (Option Int)):acC D:=λenv s=>ak (f env s) λd s=>ak (l env s) λlo s=>ak (h env s) λhi s=>rF d lo hi s
def rSl (K:ę) (Ξ:Wd->aY->Prop):V->Option Int->Option Int->Hp->VK->Prop:=λx lo hi H Q=>∃w Z,w.H=H/\aM K w/\DV K w Z x/\Out K Ξ w (rF Z lo hi w.aB) λY d=>∀v,DV K Y d v->Q v Y.H
def Xf:wo X (rSl X.K Ξ):=by
 rintro π s σ H x v U T lo hi R Q I P hs O pu ⟨w,M,rfl,S,Y,h⟩;unfold rF at h;split at h
 ·rename_i N e1
  rw[eD e1 (by intro _ z;cases z)] at Y;simp only[DV] at Y;obtain⟨a,W,rfl,V,Z⟩:=Y;refine Ve π s σ w.H _ v U T lo hi R Q I P hs O pu ⟨a,W,rfl,V,vF S ?_ h⟩;unfold cutD kH;rw[Z.length];exact(Z.drop _).take _
 ·rename_i N e1
  obtain⟨a,W,rfl,V,Z⟩:=jd S Y e1;refine Vc π s σ w.H _ v U T lo hi R Q I P hs O pu ⟨a,W,rfl,bC.of V,sA S ?_ h⟩;unfold cutD kH;rw[Z.length];exact(Z.drop _).take _
 ·exact h.elim
def MP (he:PE X e (tE X.K Ξ f)) (hl:PO X lo (tP X.K Ξ fl)) (hu:PO X hi (tP X.K Ξ fh)):PE X (.Subscript e (.Slice lo hi none p2) pos) (tE X.K Ξ (qG f fl fh)) :=
 cA (Ta Xf he hl hu) fun σ H Q V=>by
  obtain⟨w,env,U,S,Z,h⟩:=V;subst U;exact⟨w,env,rfl,S,Z,(Out.ak h).mono λT d Y R P v O=>⟨T,env,rfl,R,Z.le Y,(Out.ak P).mono λN i W M L=>⟨N,env,rfl,M,Z.le (Y.trans W),(Out.ak L).mono λJ j I G F=>⟨J,d,rfl,G,(W.trans I) _ _ O,F⟩⟩⟩⟩
def lP (d x:D) (s:af):Res D:=match d with
 | .aj k=>match s[k]? with
  |some (.lst Z)=>if decide (Z.length<Ø)=true then ok .au (s.set k (.lst (Z++[x]))) else none
  |_=>none
 |_=>none
def lQ (d:D) (s:af):Bool:=match d with
 | .aj k=>match s[k]? with
  |some (.lst _)=>true
  |_=>false
 |_=>false
def gp (f g:acC D):acC D:=λenv s=>ak (f env s) λd s=>if lQ d s=true then ak (g env s) λx s=>lP d x s else none
def Vx (S:aM K w) (dv:DV K w d v) (h:lQ d w.aB=true):∃k a ds xs,d=.aj k/\v=.ref a/\w.ρ[k]?=some a/\w.aB[k]?=some (.lst ds)/\w.H a=some (.lst xs)/\ar K w ds xs:=by
 unfold lQ at h;split at h
 ·rename_i k
  split at h
  ·rename_i ds Z
   obtain⟨a,e1,rfl⟩:=dv;obtain⟨xs,Y,X⟩:=S.cell k a _ e1 Z;exact⟨k,a,ds,xs,rfl,rfl,e1,Z,Y,X⟩
  ·cases h
 ·cases h
def Xg (S:aM K w) (dv:DV K w d v) (du:DV K w y u) (h:Out K Ξ w (lP d y w.aB) q):∃a xs,v=.ref a/\w.H a=some (.lst xs)/\xs.length<Ø/\∃w',w'.H=upd w.H a (.lst (xs++[u]))/\q w' .au:=by
 unfold lP at h;split at h
 ·rename_i k
  split at h
  ·rename_i Z Y
   split at h
   ·rename_i V
    obtain⟨a,e1,rfl⟩:=dv;obtain⟨xs,U,X⟩:=S.cell k a _ e1 Y;have W:(Cell.lst Z)≠.dead:=by intro z;cases z
    have le:=(Fw.put (K:=K) (o:=.lst (xs++[u])) (c:=.lst (Z++[y])) S e1 Y W).le;refine⟨a,xs,rfl,U,by rw[<- X.length];exact Ą V,w.put k a (.lst (xs++[u])) (.lst (Z++[y])),rfl,?_⟩;exact h _ le (S.vG e1 Y W ⟨_,cq,le.all (X.append (ar.one du))⟩) rfl
   ·exact h.elim
  ·exact h.elim
 ·exact h.elim
def om {o:ħ} {apos bG:Pos} (ho:PE X o (tE X.K Ξ f)) (ha:PE X a (tE X.K Ξ g))
  (pU:abp o "append" X.env (ō o X.env)=ō o X.env:=by rfl)
  (qj:((Ň bG (Õ [a] X.env)).all (λx=>!x.1)&&(backToKw bG (acg [] X.env)).all (λx=>x.1.isSome)
   && decide (([a]:List ħ).length+([]:List ab3).length+(if ([]:List ab3).isEmpty then 0 else 1)<30))=true:=by rfl)
  (pV:(apos.endLine==bG.line)=true:=by rfl) (hs:Õ [a] X.env=(false,ō a X.env)::Õ [] X.env:=by rfl) (kj:(Ň bG (Õ [] X.env)).any (·.1)=false:=by rfl) :
  PE X (.Call (.Attribute o "append" apos) [a] [] bG) (tE X.K Ξ (gp f g)) :=
 cA (Di abw PySem.F.slot_list_append PySem.F.type_list_append RG ho (nU ha pK hs) pU qj pV hs kj) fun σ H Q T=>by
  obtain⟨w,env,Z,S,W,h⟩:=T;subst Z;refine⟨w,env,rfl,S,W,(Out.ak h).mono λR d P V Y v U=>?_⟩;split at Y
  ·rename_i O
   obtain⟨k,p,t,N,rfl,rfl,e1,e2,M,s⟩:=Vx V U O;refine⟨.inl ⟨rfl,N,bC.of M⟩,R,env,rfl,V,W.le P,(Out.ak Y).mono λr y L J I u G=>?_⟩;obtain⟨E,D,C,B,A,q,Z,z⟩:=Xg J (L _ _ U) G I;refine⟨E,D,u,C,rfl,B,A,?_⟩;rw[<- Z];exact z _ rfl
  ·exact Y.elim
def jW (d i x:D) (s:af):Option af:=match d,i with
 | .aj k,.int n=>match s[k]? with
  |some (.lst Z)=>(gX Z.length n).map λj=>s.set k (.lst (Z.set j x))
  |_=>none
 |_,_=>none
def oB (f o i:acC D):acC Fl:=λenv s=>ak (f env s) λx s=>ak (o env s) λd s=>ak (i env s) λn s=>match jW d n x s with
 |some Z=>ok (.nx env) Z
 |none=>none
def Xh (S:aM K w) (dv:DV K w d v) (dn:DV K w i n) (du:DV K w x u) (h:jW d i x w.aB=some s'):∃a xs k j,v=.ref a/\n=.int k/\w.H a=some (.lst xs)/\gX xs.length k=some j/\∃w',w'.H=upd w.H a (.lst (xs.set j u))/\w'.aB=s'/\Le K w w'/\aM K w':=by
 unfold jW at h;split at h
 ·rename_i k m
  split at h
  ·rename_i Z Y
   cases X:gX Z.length m with
   |none=>rw[X] at h;cases h
   |some j =>
    rw[X] at h;cases h;obtain⟨a,e1,rfl⟩:=dv;obtain⟨xs,U,W⟩:=S.cell k a _ e1 Y;have V:(Cell.lst Z)≠.dead:=by intro z;cases z
    have le:=(Fw.put (K:=K) (o:=.lst (xs.set j u)) (c:=.lst (Z.set j x)) S e1 Y V).le;exact⟨a,xs,m,j,rfl,dn,U,by rw[<- W.length];exact X,w.put k a (.lst (xs.set j u)) (.lst (Z.set j x)),rfl,rfl,le,S.vG e1 Y V ⟨_,cq,le.all (W.set du j)⟩⟩
  ·cases h
 ·cases h
def Du (he:PE X e (tE X.K Ξ f)) (ho:PE X o (tE X.K Ξ fo)) (hi:PE X i (tE X.K Ξ fi))
 (ha:∀v,ab6 (.Subscript o i iC) X.env v=(do
   let ov <- abj [v] (ō o X.env)
   let iv <- abj [v,ov] (ō i X.env)
   acf iC
   abj [v,ov,iv] (setItem ov iv v)
   release [v,ov,iv] []):=by intro _;rfl)
 (hs:ű [.Subscript o i iC] e pos.line X.env=pure false:=by rfl) (hw:Ų [.Subscript o i iC] e X.env=pure none:=by rfl)
 (h1:(Ś [.Subscript o i iC] X.env).map (·.2)=[ab6 (.Subscript o i iC) X.env]:=by rfl):PS X (.Assign [.Subscript o i iC] e pos) (tS X.K Ξ (oB f fo fi)) :=
 jG (Cw he (Ku ho hi set_list ha) hs hw h1) λt σ H Q=>by
  obtain⟨w,env,W,S,Z,h⟩:=Q;subst W;refine⟨w,env,rfl,S,Z,(Out.ak h).mono λP x V O h1 u N=>?_⟩;refine⟨P,env,rfl,O,Z.le V,(Out.ak h1).mono λM d U L J v I=>?_⟩;refine⟨M,env,rfl,L,Z.le (V.trans U),(Out.ak J).mono λG n T F Y m E=>?_⟩
  cases R:jW d n x G.aB with
  |none=>rw[R] at Y;exact Y.elim
  |some s =>
   rw[R] at Y;obtain⟨a,D,k,j,e1,e2,C,B,A,W,z,le,y⟩:=Xh F (T _ _ I) E ((U.trans T) _ _ N) R;refine⟨a,D,k,j,e1,e2,C,B,?_⟩;rw[<- W];exact Y A le y z σ (Z.le (V.trans (U.trans (T.trans le))))
end
def kd (d:D) (s:af):Option Kn:=match res d s with
 | .au=>some .au
 | .bl _=>some .bl
 | .int _=>some .int
 | .str _=>some .str
 | .tup _=>some .tup
 | .lst _=>some .lst
 | .bA _=>some .bA
 |_=>none
def Y8 (S:aM K w) (h:DV K w d v) (e:kd d w.aB=some k):sY K w.H v k:=by
 unfold kd at e
 split at e<;>rename_i e1<;>first | (cases e;done) | (try cases e)
 ·rw[eD e1 (by intro _ z;cases z)] at h;cases h;trivial
 ·rw[eD e1 (by intro _ z;cases z)] at h;cases h;trivial
 ·rw[eD e1 (by intro _ z;cases z)] at h;cases h;trivial
 ·rw[eD e1 (by intro _ z;cases z)] at h;cases h;trivial
 ·rw[eD e1 (by intro _ z;cases z)] at h
  simp only[DV] at h;obtain⟨a,Y,rfl,Z,_⟩:=h;exact⟨Y,Z⟩
 ·obtain⟨a,Y,rfl,Z,_⟩:=jd S h e1
  exact⟨Y,bC.of Z⟩
 ·rw[eD e1 (by intro _ z;cases z)] at h
  simp only[DV] at h;obtain⟨a,rfl,_,Z⟩:=h;exact⟨_,Z⟩
noncomputable def LU (T:String):Bool:=T=="int"||T=="bool"||T=="str"||T=="tuple"||T=="list"
def gr (ds:List D) (s:af):Res D:=match ds with
 | [d,.ty T]=>if LU T=true then bY ((kd d s).map λk=>.bl (so k T)) s else none
 |_=>none
section
variable {X:Cx} {Ξ:Wd->aY->Prop} {e a b:ħ} {es:List ħ} {pos:Pos} {f g:acC D} {fa:acC (List D)}
def mV:cD X (.builtin "isinstance") (rC X.K Ξ gr):=by
 rintro Z s σ H M Y Q I r ⟨w,L,rfl,S,R,h⟩;unfold gr at h;split at h
 ·rename_i d T
  obtain⟨v,u,rfl,P,O⟩:=uT R;have N:u=.ty T:=O;subst N;split at h
  ·rename_i U
   obtain⟨J,e,h⟩:=fK h
   cases V:kd d w.aB with
   |none=>rw[V] at e;cases e
   |some k =>
    rw[V] at e;cases e;have W:=Y8 S P V;simp only[LU,ack,beq_iff_eq] at U
    rcases U with (((rfl|rfl)|rfl)|rfl)|rfl
    ·exact Pk Z s σ w.H _ Y Q I r ⟨v,k,rfl,W,aG S h _ rfl⟩
    ·exact O1 Z s σ w.H _ Y Q I r ⟨v,k,rfl,W,aG S h _ rfl⟩
    ·exact Pl Z s σ w.H _ Y Q I r ⟨v,k,rfl,W,aG S h _ rfl⟩
    ·exact OR Z s σ w.H _ Y Q I r ⟨v,k,rfl,W,aG S h _ rfl⟩
    ·exact O2 Z s σ w.H _ Y Q I r ⟨v,k,rfl,W,aG S h _ rfl⟩
  ·exact h.elim
 ·exact h.elim
def nh (hv:ú x=some (.type T)) (hg:Gl X x) (hm:X.mg x=none) (hn:x≠"__name__":=by decide) (hd:(x==("__debug__":Str))=false:=by decide):PE X (.Name x pos) (tE X.K Ξ (eC (.ty T))):=rS (v:=.ty T) (JF hg hm hv rfl hn hd) λ_=>rfl
def jX (g:∃t,X.mg x=some (.int i t)) (hg:Gl X x) (hd:(x==("__debug__":Str))=false:=by decide):PE X (.Name x pos) (tE X.K Ξ (eC (.int i))):=by
 obtain⟨t,e⟩:=g;exact rS (v:=.int i) (xU hg e ⟨t,rfl⟩ hd) λ_=>rfl
noncomputable def qc:List D->Option (List Int)
 | []=>some []
 | .int i::Z=>(qc Z).map λr=>i::r
 |_::_=>none
theorem Jg:∀{ds:List D} {ns:List Int},qc ds=some ns->ds=ns.map D.int
 | [],ns,h=>by cases h;rfl
 | .int b::ds,ns,h=>by
  simp only[qc] at h
  cases Z:qc ds with
  |none=>rw[Z] at h;cases h
  |some r=>rw[Z] at h;cases h;rw[Jg Z];rfl
 | .au::_,_,h=>by cases h
 | .bl _::_,_,h=>by cases h
 | .str _::_,_,h=>by cases h
 | .tup _::_,_,h=>by cases h
 | .lst _::_,_,h=>by cases h
 | .bA _::_,_,h=>by cases h
 | .aj _::_,_,h=>by cases h
 | .ty _::_,_,h=>by cases h
 | .bK _::_,_,h=>by cases h
 | .exc _ _::_,_,h=>by cases h
 | .cG _ _ _::_,_,h=>by cases h
def Iv:qc (ns.map D.int)=some ns:=by
 induction ns with
 |nil=>rfl
 |cons b bs ih=>simp only[ß,qc,ih,Ũ]
noncomputable def lR (i:Int):List Int->List Int
 | []=>[i]
 |j::r=>if i<j then i::j::r else if i=j then j::r else j::lR i r
def dI:List Int->List Int
 | []=>[]
 |i::r=>lR i (dI r)
theorem Bs:∀{l:List Int},k∈lR i l↔k=i\/k∈l
 | []=>by simp[lR]
 |j::r=>by
  unfold lR;split
  ·simp
  ·split
   ·rename_i h;subst h;simp
   ·rw[Ò,Bs,Ò]
    constructor
    ·rintro (h|h|h)
     ·exact .inr (.inl h)
     ·exact .inl h
     ·exact .inr (.inr h)
    ·rintro (h|h|h)
     ·exact .inr (.inl h)
     ·exact .inl h
     ·exact .inr (.inr h)
theorem Ht:∀{l:List Int},l.Pairwise (· < ·)->(lR i l).Pairwise (· < ·)
 | [],_=>by simp[lR]
 |j::r,h=>by
  obtain⟨Z,Y⟩:=ô.mp h;unfold lR;split
  ·rename_i X
   refine ô.mpr ⟨λk hk=>?_,h⟩
   rcases Ò.mp hk with rfl|hk
   ·exact X
   ·have:=Z k hk;omega
  ·split
   ·exact h
   ·refine ô.mpr ⟨λk hk=>?_,Ht Y⟩
    rcases Bs.mp hk with rfl|hk
    ·omega
    ·exact Z k hk
theorem ra:∀{l:List Int},k∈dI l↔k∈l
 | []=>by simp[dI]
 |i::r=>by simp[dI,Bs,ra]
theorem Hj:∀(l:List Int),(dI l).Pairwise (· < ·)
 | []=>List.Pairwise.nil
 |i::r=>Ht (Hj r)
theorem Hc:∀{l m:List Int},l.Pairwise (· < ·)->m.Pairwise (· < ·)->(∀k,k∈l↔k∈m)->l=m
 | [],[],_,_,_=>rfl
 | [],j::m,_,_,h=>by have:=(h j).mpr Ð;cases this
 |i::l,[],_,_,h=>by have:=(h i).mp Ð;cases this
 |i::l,j::m,W,V,h=>by
  obtain⟨Y,U⟩:=ô.mp W;obtain⟨X,T⟩:=ô.mp V;have e:i=j:=by
   rcases Ò.mp ((h i).mp Ð) with e|e
   ·exact e
   ·rcases Ò.mp ((h j).mpr Ð) with e'|e'
    ·exact e'.symm
    ·have:=X i e;have:=Y j e';omega
  subst e;congr 1;refine Hc U T λk=>?_;constructor
  ·intro Z
   rcases Ò.mp ((h k).mp (Ê _ Z)) with e|e
   ·subst e;have:=Y k Z;omega
   ·exact e
  ·intro Z
   rcases Ò.mp ((h k).mpr (Ê _ Z)) with e|e
   ·subst e;have:=X k Z;omega
   ·exact e
def xD (l:List Int):(dI l).length<=l.length:=by
 induction l with
 |nil=>exact acG _
 |cons x l ih =>
  have:(dI (x::l)).length<=(dI l).length+1:=by
   show (lR x (dI l)).length<=_;generalize dI l=m
   induction m with
   |nil=>exact acG _
   |cons y m Z =>
    unfold lR;split
    ·simp
    ·split
     ·simp
     ·simp only[á];omega
  simp only[á];omega
def TL (ns:List Int):(ns.foldl PyProof.Rows.step_dedup []).length<=(dI ns).length:=sub_len (AL ns [] acs) λk Z=>ra.mpr ((Ir ns k).mp Z)
def mE (d:D) (s:af):Res D:=match d with
 | .lst Y=>match qc Y with
  |some Z=>if decide ((dI Z).length<64)=true then ok (.lst ((dI Z).map D.int)) s else none
  |none=>none
 |_=>none
def HM {p p2 zx:Pos} (ha:PE X a (tE X.K Ξ f)) (hc:X.calm=true) (hg:Gl X "sorted") (hm:X.mg "sorted"=none) (hv:ú "sorted"=some (.builtin "sorted")) (Fe:Gl X "set") (hm2:X.mg "set"=none) (hv2:ú "set"=some (.type "set"))
  (he:Õ [a] X.env=(false,ō a X.env)::Õ [] X.env:=by rfl) (bX:(Ň zx (Õ [] X.env)).any (·.1)=false:=by rfl)
  (NI:Õ [.Call (.Name "set" p2) [a] [] zx] X.env=(false,ō (.Call (.Name "set" p2) [a] [] zx) X.env)::Õ [] X.env:=by rfl) (aaA:(Ň pos (Õ [] X.env)).any (·.1)=false:=by rfl) :
  PE X (.Call (.Name "sorted" p) [.Call (.Name "set" p2) [a] [] zx] [] pos) (tE X.K Ξ (e1 mE f)) :=
 cA (Bj (Po hc) hg hm hv (nU (Ih (QJ hc) Fe hm2 hv2 (nU ha pK he) (by decide) (by decide) he bX) pK NI) (by decide) (by decide) NI aaA) fun σ H Q J=>by
  obtain⟨w,env,I,S,G,h⟩:=J;subst I;refine⟨w,env,rfl,S,G,(Out.ak h).mono λU d A F W v P=>?_⟩;unfold mE at W;split at W
  ·rename_i z
   split at W
   ·rename_i Y E
    split at W
    ·rename_i T
     have T:=Ą T;simp only[DV] at P;obtain⟨p,y,rfl,O,N⟩:=P;rw[Jg E] at N;rw[N.Jc] at O;have D:=Nat.lt_of_le_of_lt (TL Y) T;refine⟨p,Y,rfl,O.sq,by omega,λq M=>?_⟩;refine⟨q,Y,rfl,cq,D,λl x C hs B=>?_⟩;have e:=Hc hs (Hj Y) λk=>(B k).trans ra.symm;subst e;have R:(U.grow q (.ext (lM X.prog X.w q Y))).H l=none:=C;have L:=F.grow (o:=.ext (lM X.prog X.w q Y)) M;exact W ((U.grow q (.ext (lM X.prog X.w q Y))).grow l (.lst ((dI Y).map V.int))) ((Fw.grow M).le.trans (Fw.grow R).le) (L.grow R) rfl (.ref l) ⟨l,_,rfl,⟨(show ¬ (U.grow q (.ext (lM X.prog X.w q Y))).Z l from km L R),cq⟩,ar.ints _⟩
    ·exact W.elim
   ·exact W.elim
  ·exact W.elim
def ql (i j:Nat) (fa:acC (List D)):acC Fl:=λenv s=>ak (fa env s) λZ s=>match Z with
 | [x,y]=>ok (.nx ((env.set i (some x)).set j (some y))) s
 |_=>none
def yp (i j:Nat) {x y:Str} {px py pt:Pos} {kt k2 iG} (hc:X.calm=true) (hN:X.N.Nodup) (ha:PA X [a,b] (tA X.K Ξ fa)) (hi:X.N[i]?=some x:=by rfl) (hj:X.N[j]?=some y:=by rfl) (fe:i≠j:=by decide)
  (hx:X.env.scope.names.lookup x=some .local:=by rfl) (hy:X.env.scope.names.lookup y=some .local:=by rfl)
  (hw:Ų [.Tuple [.Name x px,.Name y py] kt pt] (.Tuple [a,b] k2 iG) X.env=pure (some [x,y]):=by rfl)
  (hs:ű [.Tuple [.Name x px,.Name y py] kt pt] (.Tuple [a,b] k2 iG) pos.line X.env=pure false:=by rfl) :
  PS X (.Assign [.Tuple [.Name x px,.Name y py] kt pt] (.Tuple [a,b] k2 iG) pos) (tS X.K Ξ (ql i j fa)):=jG (WD hc hN hi hj fe hx hy ha hw hs) λO σ H W=>by
 obtain⟨w,env,V,S,Y,h⟩:=W;subst V;refine⟨w,env,rfl,S,Y,(Out.ak h).mono λM L U T Z J R=>?_⟩;split at Z
 ·obtain⟨v,u,rfl,Q,P⟩:=uT R
  exact⟨v,u,rfl,aG T Z _ (((Y.le U).set Q i).set P j)⟩
 ·exact Z.elim
end
end DI
namespace L2
open PySem PySem.Spec PyProof.Rows
structure DS (Y:Cx) (D:Ù) (π:List (Ù×Obj)):Prop where
 loc:D≠Y.env.locals
 fs:D∉Y.fs
 new:Y.cQ.heap.objs.size<=D
 cell:∀x c,Y.env.cells.lookup x=some c->c≠D
 pin:∀p∈Y.pn++π,p.1≠D
structure qH (Y:Cx) (D:Ù) (nt:Nat) (caps:St) (π:List (Ù×Obj)) (o:St) (H:Hp) (s:Ä) (acc:List V):Prop where
 inv:Inv Y π (o++caps) H s
 len:o.length=nt
 lst:∃ys,s.heap.PlainList D ys/\Vals acc ys.toList
 free:H D=none
 l9:acc.length<=Ø
abbrev kK:=St->Hp->List V->(St->List V->Hp->Prop)->Prop
def vM (Y:Cx) (D:Ù) (nt:Nat) (caps:St) (c:Code) (m:Sem PySem.Fin) (ta:kK):Prop :=
 ∀(X:List (Ù×Obj)) (o:St) (H:Hp) (s:Ä) (Z:List V) (Q:St->List V->Hp->Prop),DS Y D X->qH Y D nt caps X o H s Z->ta (o++caps) H Z Q ->
  Ý (â Y.prog Y.w) Y.A m (λfn S=>fn=.again c/\∃W U T,qH Y D nt caps X W U S T/\Q (W++caps) T U) (λ_ _=>False) s
def CA (J:It) (g:TG) (tf:TT) (ta:kK) (τ:St) (acc:List V) (H:Hp) (Q:St->List V->Hp->Prop):Prop:=∃W:Nat->Nat->St->List V->Hp->Prop,(∃m,W 0 m τ acc H) /\
 ∀i m τ acc Z,W i m τ acc Z->(J.stop i Z/\Q τ acc Z) \/
  (J.go i Z/\∃N:St->List V->Hp->Prop,(∀ X U T,N X U T->∃S,S < m/\W (i+1) S X U T) /\
   ∀x R,J.wb i Z x R->g x τ R fun Y O=>tf Y O λb P=>if b=true then ta Y P acc N else N Y acc P)
def LV (te:TE):kK:=fun Y H Z Q=>Z.length+1<=Ø/\te Y H λv X=>Q Y (Z++[v]) X
def LW (wi:TI) (g:TG) (tf:TT) (ta:kK):kK:=fun Y H Z Q=>wi Y H λJ X=>CA J g tf ta Y Z X Q
section
variable {Y:Cx} {D:Ù} {nt:Nat} {caps:St}
def DS.obj (ds:DS Y D π) (B:qH Y D nt caps π o H s acc):∃oD ys nn,s.heap.get? D=some oD/\oD={ cls:=.type "list",data:=.seq ys nn }/\Vals acc ys.toList/\Inv Y (π++[(D,oD)]) (o++caps) H s:=by
 obtain⟨ys,⟨nn,Z⟩,X⟩:=B.lst;refine⟨_,ys,nn,Z,rfl,X,B.inv.mF λp W=>?_⟩
 rcases è.mp W with z|z
 ·exact B.inv.pin p (Ñ _ z)
 ·have e:p=(D,{ cls:=.type "list",data:=.seq ys nn }):=by simpa using z
  subst e;exact⟨Z,B.free,ds.loc,ds.fs,λv z=>by cases z⟩
def Jh (hx:Y.xe=λ_ _=>False) (hE:PE Y el te):vM Y D nt caps c ((do let _ <- call (.builtin "list.append") [.ref D,<- ō el Y.env]:Sem Unit) >>= λ_=>again c) (LV te):=by
 intro R o H s W Q Z B h;obtain⟨N,h⟩:=h;obtain⟨M,V,nn,u,L,P,I⟩:=Z.obj B;have q:=hE _ s _ H _ I h;rw[hx] at q;refine À (À (aI q λy X K=>?_));obtain⟨v,U,O,J,G⟩:=K;have T:=O.pin (D,M) (Ñ _ (Ñ _ (by simp)));have F:X.heap.PlainList D V:=⟨nn,by rw[<- L];exact T.1⟩;have S:V.size<=Ø:=by
  have e:=P.length;simp only[ñ] at e;omega
 refine À (wpAny_list_append_plain (hsz:=S) F λE C A=>Â (Â ⟨rfl,?_⟩));have z:Inv Y R (o++caps) U X:=O.mC
 have x:Inv Y R (o++caps) U { X with heap:=E,toks:=X.toks }:=z.turned (it:=D) (λb o w e=>(A.2 b w).trans e) T.2.1 Z.loc (.inr Z.new) Z.cell Z.pin
 refine⟨o,U,W++[v],⟨x,B.len,⟨V.push y,C,?_⟩,T.2.1,by rw[ó];simpa using N⟩,G⟩;rw[abK];exact Vals.append P (.cons J .nil)
def HN (hx:Y.xe=λ_ _=>False) (hc:Y.calm=true)
 (T:Turn Y.prog Y.w Y.K tg J fp it tn) (st0:tn 0 s.heap) (hf:∀b∈fp,fU Y π H b) (nF:D∉fp) (hG:PG Y tg g) (gY:nB g nt) (hF:PF Y tests tf) (hA:vM Y D nt caps (.compLoop e d (.ref it) (.ref D) Y.env) act ta) (ds:DS Y D π) (B:qH Y D nt caps π o H s acc) (hq:(Code.compLoop e d (.ref it) (.ref D) Y.env).quiet=true)
 (aaB:∀(M:Model) (A:ì) (Q':Fin->Ä->Prop) (E':Ç->Ä->Prop) (s':Ä),Ý (â Y.prog Y.w) A (compTurn e d (.ref it) (.ref D) Y.env) Q' (λ_ _=>False) s'->Ý (â Y.prog Y.w) (A.under (.compLoop e d (.ref it) (.ref D) Y.env)) ((â Y.prog Y.w).den (.compLoop e d (.ref it) (.ref D) Y.env)) Q' E' s')
 (ht:compTurn e d (.ref it) (.ref D) Y.env=(do
   acf p0
   match <- δ (.ref it) with
   |none=>pure (.done .next)
   |some v =>
    Ŕ tg (.ref it) v
    ab6 tg Y.env v
    let mut ok:=true
    for c in tests do
     if ok then ok <- isTrue c Y.env (ō c Y.env)
    if ok then act else again (.compLoop e d (.ref it) (.ref D) Y.env)))
 (h:CA J g tf ta (o++caps) acc H Q) :
  η (â Y.prog Y.w) Y.A (.compLoop e d (.ref it) (.ref D) Y.env) (λr s'=>r=.ok .next/\∃o' H' fV,qH Y D nt caps π o' H' s' fV/\Q (o'++caps) fV H') s:=by
 obtain⟨W,⟨m0,w0⟩,turn⟩:=h;have F:∀{H':Hp} {pl:List (Ù×Obj)},(∀b∈fp,H' b=none)->(∀p∈pl,p.1∉fp)->∀b∈fp,fU Y (π++pl) H' b:=λ{H' pl} hn X b Z=>by
  obtain⟨_,f1,qI,f3,f4,f5⟩:=hf b Z;refine⟨hn b Z,f1,qI,f3,f4,λp wN=>?_⟩
  rcases è.mp wN with z|z
  ·exact f5 p (þ _ z)
  ·rcases è.mp z with z|z
   ·exact f5 p (Ñ _ z)
   ·exact λe=>X p z (e ▸ Z)
 refine codeAny_loop hq (λn s'=>∃i acc o H',qH Y D nt caps π o H' s' acc/\tn i s'.heap/\(∀b∈fp,H' b=none)/\W i n (o++caps) acc H') (λn s3 hJ=>?_) m0 ⟨0,acc,o,H,B,st0,λb Z=>(hf b Z).1,w0⟩;obtain⟨i,acc,o3,O,U,iH,oH,w3⟩:=hJ;refine aaB (â Y.prog Y.w) _ _ _ _ ?_;rw[ht];obtain⟨N,L,nn,ho,eo,E,wO⟩:=ds.obj U;have C:∀p∈[(D,N)],p.1∉fp:=λp X=>by
  have e:p=(D,N):=by simpa using X
  subst e;exact nF
 have tF:∀{pl:List (Ù×Obj)} {R:St} {H':Hp} {s':Ä},Inv Y (π++[(D,N)]++pl) R H' s'->s'.heap.PlainList D L/\H' D=none:=λ{pl R H' s'} I=>by
  have q:=I.pin (D,N) (Ñ _ (þ _ (Ñ _ (by simp))));exact⟨⟨nn,by rw[<- eo];exact q.1⟩,q.2.1⟩
 refine À (Ű (À ?_))
 rcases turn i n _ acc O w3 with ⟨stop,q⟩ | ⟨go,N',hN,step⟩
 ·have y:=T.done Y rfl rfl rfl hc i _ s3 _ O (λ_ _=>False) wO (F oH C) iH stop
  refine aI y λr s4 P=>?_;obtain⟨t,I4⟩:=P;subst t;obtain⟨Fm,n4⟩:=tF (pl:=[]) (by simpa using I4);exact Â ⟨rfl,o3,O,acc,⟨I4.mC,U.len,⟨L,Fm,E⟩,n4,U.l9⟩,q⟩
 ·have y:=T.item Y rfl rfl rfl hc i _ s3 _ O (λ_ _=>False) wO (F oH C) iH go
  refine aI y λr s4 P=>?_;obtain⟨u,t,P⟩:=P;subst t;refine À (aI P λ_ s5 h5=>?_);obtain⟨x,m,I5,r5,y5,l,we⟩:=h5;have wg:=I5.pinned (F we C) (T.obj _ _ l);have q5:=hG _ s5 _ m x u _ wg r5 (gY x o3 _ m _ U.len (step x m y5));rw[hx] at q5;refine À (aI q5 λ_ s6 h6=>?_);obtain⟨tG,H6,I6,⟨k,wQ,zy⟩,q6⟩:=h6;have V:=hF _ s6 tG H6 _ I6 q6;rw[hx] at V;refine À (aI V λb s7 h7=>?_);obtain⟨j,G,V⟩:=h7;subst zy;obtain⟨zU,n7⟩:=tF G;have f:Inv Y (π++nZ fp s5.heap) (k++caps) j s7:=G.mF λp X=>by
   rcases è.mp X with z|z
   ·exact G.pin p (Ñ _ (þ _ (þ _ z)))
   ·exact G.pin p (Ñ _ (Ñ _ z))
  have vN:∀{R:St} {H':Hp} {s':Ä},Inv Y (π++nZ fp s5.heap) R H' s'->tn (i+1) s'.heap/\∀b∈fp,H' b=none:=λ{R H' s'} I=>by
   refine⟨T.keep _ _ _ l λb Z o e=>(I.pin (b,o) (Ñ _ (Ñ _ (qY Z e)))).1,λb Z=>?_⟩;obtain⟨o,e,_⟩:=T.obj _ _ l b Z;exact(I.pin (b,o) (Ñ _ (Ñ _ (qY Z e)))).2.1
  cases b with
  |false =>
   rw[í Û] at V;obtain⟨a,hm,w7⟩:=hN _ _ _ V;obtain⟨t7,f7⟩:=vN f;exact Â ⟨rfl,a,hm,i+1,acc,k,j,⟨f.mC,wQ,⟨L,zU,E⟩,n7,U.l9⟩,t7,f7,w7⟩
  |true =>
   rw[ã rfl] at V;have tH:DS Y D (π++nZ fp s5.heap):=⟨ds.loc,ds.fs,ds.new,ds.cell,λp X=>by
    rcases è.mp X with z|z
    ·exact ds.pin p (þ _ z)
    ·rcases è.mp z with z|z
     ·exact ds.pin p (Ñ _ z)
     ·exact λe=>nF (e ▸ (Ia z).1)⟩
   refine aI (hA _ k j s7 acc N' tH ⟨f,wQ,⟨L,zU,E⟩,n7,U.l9⟩ V) λfn s8 h8=>?_;obtain⟨efn,o8,H8,aaC,S,q8⟩:=h8;subst efn;obtain⟨a,hm,w8⟩:=hN _ _ _ q8;obtain⟨t8,f8⟩:=vN S.inv;exact⟨rfl,a,hm,i+1,aaC,o8,H8,⟨S.inv.mC,S.len,S.lst,S.free,S.l9⟩,t8,f8,w8⟩
end
def KY (A:ì) (Q':Fin->Ä->Prop) (E':Ç->Ä->Prop) (s':Ä)
 (h:Ý (â P w) A (compTurn (.ListComp el gens sc ps) d gW av ce) Q' (λ_ _=>False) s'):Ý (â P w) (A.under (.compLoop (.ListComp el gens sc ps) d gW av ce)) ((â P w).den (.compLoop (.ListComp el gens sc ps) d gW av ce)) Q' E' s':=by
 show Ý _ A ((compTurn (.ListComp el gens sc ps) d gW av ce).onRaise (λx=>do noteFrame x ce;theTreesLotGoes x)) _ _ s'
 exact wpAny_noted (Ę h (λ_ _ q=>q) λ_ _ z=>z.elim)
def TM (hd:gens[d]?=some ⟨target,iter,ifs,0⟩)
 (h0:η (â P w) A (.compLoop (.ListComp el gens sc ps) d it acc env) R s)
 (h:Ý (â P w) A (pyIter it) (λmq s'=>η (â P w) A (.compLoop (.ListComp el gens sc ps) d mq acc env) R s') (λ_ _=>False) s) :
  η (â P w) A (.compStart (.ListComp el gens sc ps) d it acc env) R s:=by
 refine codeAny_of_tree ?_
 show Ý _ _ ((compStart (.ListComp el gens sc ps) d it acc env).onRaise (λx=>do noteFrame x env;acf theWindowsPlace)) _ _ s
 refine wpAny_notedAt ?_;have Z:(clausesOf (.ListComp el gens sc ps))[d]?=some ⟨target,iter,ifs,0⟩:=hd;unfold compStart;rw[Z];show Ý _ _ (ask >>= _) _ _ s;refine À (ŝ (wpAny_ite ?_));split
 ·first
   |exact À (Â (Â (And.intro rfl h0)))
   |exact Â (And.intro rfl h0)
 ·refine À (ś ?_)
  show Ý _ _ (acf iter.pos >>= _) _ _ s;exact À (Ű (À (Ę h (λmq s' Y=>Â (And.intro rfl Y)) λ_ _ x=>x.elim)))
section
variable {Y:Cx} {D:Ù} {nt:Nat} {caps:St}
def Bt {el tg src:ħ} {gens:List Comprehension} {sc:ο} {ps:Pos} {tests:List ħ} {d:Nat} {wi:TI} {g:TG} {tf:TT} {ta:kK} {act:Ù->Sem PySem.Fin} {c:Code} (hx:Y.xe=λ_ _=>False) (hc:Y.calm=true) (hd:gens[d]?=some ⟨tg,src,tests,0⟩)
  (hi:PI Y tg src wi) (hG:PG Y tg g) (gY:nB g nt) (hF:PF Y tests tf) (hA:∀it:Ù,vM Y D nt caps (.compLoop (.ListComp el gens sc ps) d (.ref it) (.ref D) Y.env) (act it) ta)
  (ht:∀it:Ù,compTurn (.ListComp el gens sc ps) d (.ref it) (.ref D) Y.env=(do
   acf src.pos
   match <- δ (.ref it) with
   |none=>pure (.done .next)
   |some v =>
    Ŕ tg (.ref it) v
    ab6 tg Y.env v
    let mut ok:=true
    for c in tests do
     if ok then ok <- isTrue c Y.env (ō c Y.env)
    if ok then act it else again (.compLoop (.ListComp el gens sc ps) d (.ref it) (.ref D) Y.env)))
  (hs:∀x,ÿ src Y.env x=pure x) :
  vM Y D nt caps c (do
   let x <- ō src Y.env
   acf src.pos
   let x <- ÿ src Y.env x
   let _ <- runOwn (.compStart (.ListComp el gens sc ps) d (<- abj [x] (pyIter x)) (.ref D) Y.env) Y.env
   again c) (LW wi g tf ta):=by
 intro X o H s Z Q W B h;obtain⟨V,M,nn,a,L,K,I⟩:=W.obj B;have q:=hi _ s _ H _ I h;rw[hx] at q;refine À (aI q λv s1 G=>À (Ű ?_));rw[hs];refine À (Â (À (ě (aI G λgW F E=>?_))));obtain⟨it,U,tn,J,S,e,R,T,P,f2,ca⟩:=E;subst e;have O:=R.pin (D,V) (Ñ _ (Ñ _ (by simp)));have C:D∉U:=λz=>(f2 D z).2.2.2.2.2 (D,V) (Ñ _ (Ñ _ (by simp))) rfl;have y:∀b∈U,fU Y X S b:=λb w=>by
  obtain⟨a1,a2,u,t,n,m⟩:=f2 b w;refine⟨a1,a2,u,t,n,λp l=>m p ?_⟩
  rcases è.mp l with z|z
  ·exact þ _ z
  ·exact Ñ _ (þ _ z)
 have k:qH Y D nt caps X o S F Z:=⟨R.mC,B.len,⟨M,⟨nn,by rw[<- L];exact O.1⟩,K⟩,O.2.1,B.l9⟩;have loop:=HN (e:=.ListComp el gens sc ps) (d:=d) hx hc T P y C hG gY hF (hA it) W k rfl (λ_ A j i N h=>KY A j i N h) (ht it) ca;refine À (wpAny_runOwn ?_);refine Ů (TM hd loop (T.self _ _ _ _ _ P loop)) λr N f=>?_;obtain⟨e,q⟩:=f;subst e;exact Â ⟨rfl,q⟩
end
def KZ (wi:TI) (nt:Nat) (cap:List Nat) (g:TG) (tf:TT) (ta:kK):TE:=fun σ H Q=>wi σ H λJ X=>CA J g tf ta (Å nt none++mQ cap σ) [] X λ_ Z Y=>∀D,Y D=none->Q (.ref D) (upd Y D (.lst Z))
section
variable {X:Cx}
def Ji {el tg src:ħ} {tests:List ħ} {rest:List Comprehension} {sc:ο} {ps:Pos} {N:List Str} {nt:Nat} {cap:List Nat} {wi:TI} {g:TG} {tf:TT} {ta:kK} {act:Env->Ù->Ù->Sem PySem.Fin} (hc:X.calm=true) (S:uM X sc N nt cap) (gY:nB g nt) (hi:PI X tg src wi)
  (hY:∀(cl:List (Str×Ù)) (C:Ù) (s:Ä) (H:Hp) (ex:List Ù) (pn:List (Ù×Obj)),PG (eh X N sc cl C s H ex pn) tg g/\PF (eh X N sc cl C s H ex pn) tests tf/\∀D caps it,vM (eh X N sc cl C s H ex pn) D nt caps (.compLoop (.ListComp el (⟨tg,src,tests,0⟩::rest) sc ps) 0 (.ref it) (.ref D) (compEnvC sc cl C X.env)) (act (compEnvC sc cl C X.env) D it) ta)
  (ht:∀(it D:Ù) (ce:Env),compTurn (.ListComp el (⟨tg,src,tests,0⟩::rest) sc ps) 0 (.ref it) (.ref D) ce=(do
   acf src.pos
   match <- δ (.ref it) with
   |none=>pure (.done .next)
   |some v =>
    Ŕ tg (.ref it) v
    ab6 tg ce v
    let mut ok:=true
    for c in tests do
     if ok then ok <- isTrue c ce (ō c ce)
    if ok then act ce D it else again (.compLoop (.ListComp el (⟨tg,src,tests,0⟩::rest) sc ps) 0 (.ref it) (.ref D) ce)))
  (hs:∀x,ÿ src X.env x=pure x:=by intro _;rfl):PE X (.ListComp el (⟨tg,src,tests,0⟩::rest) sc ps) (KZ wi nt cap g tf ta):=by
 intro π s σ H Q I h;obtain⟨cl,Dv,j⟩:=KG (env:=X.env) (sc:=sc) λn F=>I.ok.has n (S.frees _ F rfl).2;rw[eval_ListComp];refine wpAny_comprehension_free (use:=none) rfl hs Dv S.kind S.names (aI (hi π s σ H _ I h) λxv s1 h1=>aI h1 λgW Z h2=>?_);obtain⟨it,R,tn,J,E,e,U,T,i,f2,ca⟩:=h2;subst e;refine ï (wpAny_newFunctionEnv S.uN (by intro y hy;simp at hy) (λh3 B L=>?_) S.kind);dsimp only at B L |-;generalize f:Z.heap.objs.size=D at B L |-;generalize a:Z.heap.push { cls:=.type "list",dict:=none,data:=.seq ([]:List Ç).toArray }=G at B L |-;generalize Fo:G.objs.size=C at B L |-;have hC:C=D+1:=by rw[<- Fo,<- a,Ċ,f]
 have qK:D≠C:=by omega
 have P:Z.heap.objs.size<=D:=Nat.le_of_eq f;have t:Z.heap.objs.size<=C:=by omega
 have old:∀b o,Z.heap.get? b=some o->h3.get? b=some o:=λb o e=>L.extBut b o (à (È (Î e) t)) (Á _ (a ▸ Á _ e));have lL:h3.PlainList D #[]:=⟨_,L.extBut _ _ qK (Á _ (a ▸ f ▸ Ô _ rfl))⟩;have fZ:∀b∈R,b<Z.heap.objs.size:=λb O=>by
  obtain⟨o,e,_⟩:=T.obj _ _ i b O;exact Î e
 have IB:=U.block (t':=Z.toks+([]:List (Str×Ç)).length) S j f2 fZ old t ⟨_,B⟩;have Fp:D∉cw X.stack:=λz=>by
  rcases Ò.mp (U.ki D z) with e|e
  ·exact absurd (È U.lt P) (by rw[e];exact ë _)
  ·exact U.vC P e
 have nF:D∉R:=λz=>absurd (È (fZ D z) P) (ë _);have CF:∀x c,cl.lookup x=some c->c≠D:=λx c e z=>by
  obtain⟨v,o,ho,_⟩:=U.cell x c ((j x c).mp e).2;exact absurd (È (Î ho) (by rw[z];exact P)) (ë _)
 have Dw:∀p∈X.pn++π,p.1≠D:=λp hp z=>absurd (È (Î (U.pin p hp).1) (by rw[z];exact P)) (ë _);have fin:∀(s':Ä) (τ:St) (W:Hp) (acc:List V) (M:Array Ç),Inv (eh X N sc cl C Z E R (X.pn++π)) [] τ W s'->s'.heap.PlainList D M->Vals acc M.toList->W D=none->acc.length<=Ø->(∀D,W D=none->Q (.ref D) (upd W D (.lst acc))) ->
   compPost (â X.prog X.w) X.A X.xe none (EP X π σ Q) (.ref D) C (.ok .next) s':=by
  intro s' τ W acc M K pl rv F hz q;obtain⟨m,hm,_⟩:=id K.loc;refine⟨m,hm,λl sb=>?_⟩;have Er:cf X.prog X.w W l:=K.aE.but K.free sb;obtain⟨n,ho⟩:=pl;have eZ:l.get? D=some { cls:=.type "list",data:=.seq M n }:=(sb.2 D qK).trans ho;have new:cC X.prog X.w (upd W D (.lst acc)) l D (.lst acc):=⟨hz,M.toList,n,rv,by simpa using eZ⟩;have u:=(K.base.but t sb).adopt (o:=.lst acc) P F
  refine⟨.ref D,upd W D (.lst acc),U.u7 (s':={ s' with heap:=l }) (ch:=R) K.os u (Er.adopt F new) K.bare (λb O=>?_),rfl,q D F⟩
  obtain⟨_,f1,_,f3,f4,f5⟩:=f2 b O;exact⟨f3,f1,f4,f5⟩
 have nG:∀b∈R,fU (eh X N sc cl C Z E R (X.pn++π)) [] E b:=λb O=>by
  obtain⟨f0,f1,qI,f3,f4,f5⟩:=f2 b O;refine⟨f0,à (È (fZ b O) t),λz=>?_,.inl O,λx c e=>f4 x c ((j x c).mp e).2,λp wN=>?_⟩
  ·rcases Ò.mp (U.ki b z) with e|e
   ·exact f1 e
   ·exact qI e
  ·exact f5 p (by simpa using wN)
 obtain⟨Fq,Fs,hA1⟩:=hY cl C Z E R (X.pn++π);have loop:=HN (Y:=eh X N sc cl C Z E R (X.pn++π)) (D:=D) (nt:=nt) (caps:=mQ cap σ) (e:=.ListComp el (⟨tg,src,tests,0⟩::rest) sc ps) (d:=0) (π:=[]) (o:=Å nt none) (acc:=[]) rfl hc T
  (T.keep _ _ _ i λb _ o e=>old b o e) nG nF Fq gY Fs (hA1 D _ it) ⟨qK,Fp,P,CF,λp hp=>Dw p (by simpa using hp)⟩ ⟨IB,by simp,⟨#[],lL,.nil⟩,U.aE.fresh P,Đ _⟩ rfl (λ_ A Q' E' s' h=>KY A Q' E' s' h) (ht it D _) ca
 have LX:=Ů loop (R':=compPost (â X.prog X.w) X.A X.xe none (EP X π σ Q) (.ref D) C) λr s' hr=>by
  obtain⟨e,o',W,fV,k,q'⟩:=hr;subst e;obtain⟨M,pl,rv⟩:=k.lst;exact fin s' _ W fV M k.inv pl rv k.free k.l9 q'
 exact codeAny_compStart_list LX (T.self _ _ _ _ _ (T.keep _ _ _ i λb _ o e=>old b o e) LX)
end
end L2
namespace DI
open PySem L2
def ka:ú "isinstance"=some (.builtin "isinstance"):=by decide +kernel
def Y9:ú "int"=some (.type "int"):=by decide +kernel
def Xi:ú "bool"=some (.type "bool"):=by decide +kernel
def jB:ú "tuple"=some (.type "tuple"):=by decide +kernel
def CG:ú "list"=some (.type "list"):=by decide +kernel
def LY:ú "set"=some (.type "set"):=by decide +kernel
def mW:ú "all"=some (.builtin "all"):=by decide +kernel
def LZ:ú "any"=some (.builtin "any"):=by decide +kernel
def iA:ú "len"=some (.builtin "len"):=by decide +kernel
def K0:ú "repr"=some (.builtin "repr"):=by decide +kernel
def L0:ú "max"=some (.builtin "max"):=by decide +kernel
def L7:ú "min"=some (.builtin "min"):=by decide +kernel
def Bu:ú "sorted"=some (.builtin "sorted"):=by decide +kernel
structure Gd (K:ę) (mg:Str->Option Ç) (x:Str) (st:acx) (ps:List Str) (f:Ù) (fd:Ī):Prop where
 mg:mg x=some (.ref f)
 fn:qx K x x st f fd
 b:Binds K fd ps []
def jY (g:D->Env->Option Env) (t:acC Bool) (act:acC (List D)) (ox:Env):List D->af->Res (List D)
 | [],s=>ok [] s
 |d::Z,s=>match g d ox with
  |none=>none
  |some env=>ak (ne (t env s)) λb s=>if b=true then ak (ne (act env s)) λY s=>ak (jY g t act ox Z s) λX s=>ok (Y++X) s
   else jY g t act ox Z s
def emit (f:acC D):acC (List D):=λenv s=>ak (f env s) λx s=>ok [x] s
def more (it:acC (List D)) (g:D->Env->Option Env) (t:acC Bool) (act:acC (List D)):acC (List D):=λenv s=>ak (it env s) λZ s=>jY g t act env Z s
def uV (nt:Nat) (cap:List Nat) (it:acC (List D)) (g:D->Env->Option Env) (t:acC Bool) (act:acC (List D)):acC D:=λenv s =>
 ak (it env s) λY s=>ak (ne (jY g t act (Å nt none++iX cap env) Y s)) λZ s=>iw Z (ok (.lst Z) s)
def Sl (g:D->Env->Option Env) (sl:List Nat):Prop:=∀d env Z,g d env=some Z->Z.length=env.length/\∀i,i∉sl->Z[i]?=env[i]?
def xY (i:Nat):Sl (gN i) [i]:=λd env Z h=>by
 have e:env.set i (some d)=Z:=acH h;subst e;refine⟨î ..,λj Y=>?_⟩;rw[Ï (λz=>Y (by simp[z]))]
theorem L8:∀(is:List Nat) (ds:List D) (env env':Env),ie (is.map gN) ds env=some env'->env'.length=env.length/\∀i,i∉is->env'[i]?=env[i]?
 | [],[],env,env',h=>by
  have e:env=env':=acH h;rw[e];exact⟨rfl,λ_ _=>rfl⟩
 | [],_::_,_,_,h=>by cases h
 |_::_,[],_,_,h=>by cases h
 |j::is,d::ds,env,env',h=>by
  have Z:ie (is.map gN) ds (env.set j (some d))=some env':=h;obtain⟨Y,X⟩:=L8 is ds _ env' Z;refine⟨by rw[Y,î],λi hi=>?_⟩;rw[X i (λz=>hi (Ê _ z)),Ï (λz=>hi (by rw[z];exact Ð ..))]
def Cy (is:List Nat):Sl (gT (is.map gN)) is:=λd env Z h=>by
 cases d with
 |tup Y=>exact L8 is Y env Z h
 |_=>cases h
def len_same {g:D->Env->Option Env} {sl:List Nat} {d:D} {env env':Env} (hs:Sl g sl) (hg:g d env=some env'):env'.length=env.length:=(hs d env env' hg).1
def il (sl:List Nat) (env:Env):Prop:=∀i∈sl,∀d,env[i]?≠some (some d)
def bL.back {K:ę} {w:Wd} {env env':Env} {σ:St} {g:D->Env->Option Env} {sl:List Nat} {d:D} (hs:Sl g sl) (hf:il sl env) (hg:g d env=some env') (hl:env.length=σ.length) (h:bL K w env' σ):bL K w env σ :=
 ⟨hl,λi x e=>by
  by_cases hi:i∈sl
  ·exact absurd e (hf i hi x)
  ·exact h.val i x (by rw[(hs d env env' hg).2 i hi];exact e)⟩
def vi (K:ę) (Pre:Env->Prop) (ta:kK) (act:acC (List D)):Prop:=∀(w:Wd) (env:Env) (U:St) (Y:List V) (Z W:List D) (T:af) (Q:St->List V->Hp->Prop),Pre env->aM K w->bL K w env U->ar K w Z Y ->
 act env w.aB=some (.ok W,T)->Y.length+W.length<=Ø->(∀X S R,Le K w X->aM K X->X.aB=T->bL K X env S->ar K X (Z++W) R->Q S R X.H)->ta U w.H Y Q
def rf {α β:Type} {r:Res α} {k:α->af->Res β} {b:β} {s':af} (h:ak r k=some (.ok b,s')):∃a s,r=some (.ok a,s)/\k a s=some (.ok b,s'):=by
 match r,h with
 |some (.ok a,s),h=>exact⟨a,s,rfl,h⟩
def Ca {α:Type} {r:Res α} {a:α} {s:af} (h:ne r=some (.ok a,s)):r=some (.ok a,s):=by
 match r,h with
 |some (.ok b,Z),h=>exact h
def Hu {K:ę} {f:acC D}:vi K (λ_=>True) (LV (tE K cm f)) (emit f):=by
 intro w env W Z Y J I Q _ S X V h U T;obtain⟨x,H,R,P⟩:=rf h;cases P;refine⟨by simpa using U,w,env,rfl,S,X,?_⟩;rw[R];intro O le N M v L;exact T O W (Z++[v]) le N M (X.le le) (ar.append (le.all V) (ar.one L))
def Iw {K:ę} {Pre:Env->Prop} {g0:TG} {g:D->Env->Option Env} {nt:Nat} {sl:List Nat} {t:acC Bool} {act:acC (List D)} {ta:kK} {env:Env} {w1:Wd} {J:It} {ds xs accD:List D} {s':af} {τ:St} {acc:List V} {Q:St->List V->Hp->Prop}
  (T:Tg K g0 g nt) (hs:Sl g sl) (hf:il sl env) (hp:∀d env',g d env=some env'->Pre env') (hA:vi K Pre ta act) (hJ:qE K w1 J ds) (S1:aM K w1) (eo:bL K w1 env τ) (da:ar K w1 accD acc)
  (h:jY g t act env ds w1.aB=some (.ok xs,s')) (hl:acc.length+xs.length<=Ø) (hQ:∀w' cZ vs,Le K w1 w'->aM K w'->w'.aB=s'->bL K w' env cZ->ar K w' (accD++xs) vs->Q cZ vs w'.H) :
  CA J g0 (tT K cm t) ta τ acc w1.H Q:=by
 refine⟨λi m τ acc r=>m=ds.length-i/\i<=ds.length/\∃w' accD xs,w'.H=r/\Le K w1 w'/\aM K w'/\bL K w' env τ/\ar K w' accD acc/\jY g t act env (ds.drop i) w'.aB=some (.ok xs,s')/\acc.length+xs.length<=Ø /\
   (∀Z cZ vs,Le K w' Z->aM K Z->Z.aB=s'->bL K Z env cZ->ar K Z (accD++xs) vs->Q cZ vs Z.H),
  ⟨ds.length,rfl,Đ _,w1,accD,xs,rfl,Le.refl _,S1,eo,da,h,hl,hQ⟩,?_⟩
 rintro i m τ acc r ⟨rfl,hi,w',accD,xs,rfl,P,L,p,O,Y,I,G⟩;by_cases F:i<ds.length
 ·right
  obtain⟨gY,hy⟩:=(hJ w' P L i).1 _ (Ë F);rw[aa2 F] at Y;simp only[jY] at Y
  cases X:g ds[i] env with
  |none=>rw[X] at Y;cases Y
  |some S =>
   rw[X] at Y;obtain⟨b,s2,E,N⟩:=rf Y;have E:=Ca E;refine⟨gY,fun τ acc o=>∃w' accD xs,w'.H=o/\Le K w1 w'/\aM K w'/\bL K w' env τ/\ar K w' accD acc/\jY g t act env (ds.drop (i+1)) w'.aB=some (.ok xs,s')/\acc.length+xs.length<=Ø /\
    (∀Z cZ vs,Le K w' Z->aM K Z->Z.aB=s'->bL K Z env cZ->ar K Z (accD++xs) vs->Q cZ vs Z.H),fun qy zr o q=>⟨ds.length-(i+1),by omega,rfl,F,q⟩,λx H3 y=>?_⟩
   obtain⟨Z,rfl,U,n,es,dv⟩:=hy x H3 y;refine T.imp _ _ _ _ ⟨Z,env,ds[i],S,rfl,n,p.le U,dv,X,fun l R=>⟨Z,S,rfl,n,R,?_⟩⟩;have k:∀{j:St},j.length=l.length->S.length=j.length:=λe=>by rw[R.len,e]
   have el:env.length=S.length\/True:=.inr trivial;rw[es,E];intro f W c a
   cases b with
   |true =>
    rw[ã rfl] at N |-;obtain⟨ys,s3,M,h3⟩:=rf N;have M:=Ca M;obtain⟨zs,s4,hz,h4⟩:=rf h3;cases h4;rw[<- a] at M;refine hA f S l acc accD ys s3 _ (hp _ _ X) c (R.le W) ((U.trans W).all O) M (by rw[ó] at I;omega) λw4 τ4 vs l4 S4 e4 NJ MQ=>?_;have lv:=MQ.length;refine⟨w4,accD++ys,zs,rfl,P.trans (U.trans (W.trans l4)),S4,NJ.back hs hf X ?_,MQ,by rw[e4];exact hz,?_,λC B A z w v u s=>G C B A (U.trans (W.trans (l4.trans z))) w v u (by rw[<- į];exact s)⟩
    ·rw[<- NJ.len]
     exact(len_same hs X).symm
    ·rw[ó] at I lv
     have:=O.length;omega
   |false =>
    rw[í Û] at N |-;exact⟨f,accD,xs,rfl,P.trans (U.trans W),c,(R.le W).back hs hf X (by rw[<- R.len];exact(len_same hs X).symm),(U.trans W).all O,by rw[a];exact N,I,λC B A z w v u s=>G C B A (U.trans (W.trans z)) w v u s⟩
 ·left
  have e:i=ds.length:=by omega
  subst e;rw[List.drop_length] at Y;cases Y;exact⟨(hJ w' P L _).2 (acG _),G w' τ acc (Le.refl _) L rfl p (by rw[İ];exact O)⟩
def AM {K:ę} {Pre Pre':Env->Prop} {g0:TG} {g:D->Env->Option Env} {nt:Nat} {sl:List Nat} {it:acC (List D)} {t:acC Bool} {act:acC (List D)} {ta:kK} (T:Tg K g0 g nt) (hs:Sl g sl) (hA:vi K Pre ta act)
  (h1:∀env,Pre' env->il sl env) (h2:∀d env env',Pre' env->g d env=some env'->Pre env'):vi K Pre' (LW (fP K cm it) g0 (tT K cm t) ta) (more it g t act):=by
 intro w env y V Y x v Q X S W U h R P;obtain⟨u,s,O,N⟩:=rf h;refine⟨w,env,rfl,S,W,?_⟩;rw[O];intro r Z M e1 J L;exact Iw T hs (h1 env X) (λd env' I=>h2 d env env' X I) hA L M (W.le Z) (Z.all U) (by rw[e1];exact N) R λH G F E C B A z=>P H G F (Z.trans E) C B A z
def Iy (T:Tg K g0 g nt) (hs:Sl g sl) (wR:∀i∈sl,i<nt) (hA:vi K Pre ta act)
 (hp:∀d caps env',g d (Å nt none++caps)=some env'->Pre env') (σ:St) (H:Hp) (Q:VK) :
  tE K Ξ (uV nt cap it g t act) σ H Q->KZ (fP K Ξ it) nt cap g0 (tT K cm t) ta σ H Q:=by
 rintro ⟨w,env,rfl,S,U,h⟩;refine⟨w,env,rfl,S,U,(Out.ak h).mono λR M L I Y J G=>?_⟩
 cases V:jY g t act (Å nt none++iX cap env) M R.aB with
 |none=>rw[V] at Y;exact Y.elim
 |some r =>
  obtain⟨r,F⟩:=r;rw[V] at Y
  cases r with
  |error x=>exact Y.elim
  |ok P =>
   have Y:Out K Ξ R (iw P (ok (D.lst P) F)) (λX d=>∀v,DV K X d v->Q v X.H):=Y;obtain⟨E,Y⟩:=uk Y;have C:=(U.le L).block nt cap (Å nt none) (by simp);refine Iw T hs (λi hi d e=>?_) (λd env' B=>hp d _ env' B) hA G I C (accD:=[]) rfl V (by simpa using E) λX u O A N z s y p W=>?_
   ·rw[Ü (by simpa using wR i hi),Ģ,ã (wR i hi)] at e
    cases e
   ·exact Y (X.grow p (.lst O)) (A.trans (Fw.grow W).le) (N.grow W) z (.ref p) ⟨p,O,rfl,⟨(show ¬ X.Z p from km N W),cq⟩,(Fw.grow W).le.all y⟩
def il.of {nt:Nat} {g:D->Env->Option Env} {sl cg:List Nat} (hs:Sl g sl) (hd:∀i∈cg,i<nt/\i∉sl) {d:D} {caps env':Env} (hg:g d (Å nt none++caps)=some env'):il cg env':=λi hi x e=>by
 obtain⟨Z,Y⟩:=hd i hi;rw[(hs _ _ _ hg).2 i Y,Ü (by simpa using Z),Ģ,ã Z] at e;cases e
def il.on (hs:Sl g sl) (hd:∀i∈cg,i∉sl) (hf:il cg env) (hg:g d env=some env'):il cg env':=λi hi x e=>by
 rw[(hs _ _ _ hg).2 i (hd i hi)] at e;exact hf i hi x e
section
variable {X:Cx} {Ξ:Wd->aY->Prop} {el tg src lg jj tI qm:ħ} {tests mI uW:List ħ} {sc:ο} {ps pos:Pos} {N:List Str} {nt:Nat} {cap:List Nat} {it jv zY:acC (List D)} {gd tJ Fy:D->Env->Option Env} {g0 zZ NK:TG} {sl cg nH:List Nat} {ft kY NL:acC Bool} {f:acC D}
abbrev CH (nt:Nat) (cap:List Nat) (it:acC (List D)) (g:D->Env->Option Env) (t:acC Bool) (jv:acC (List D)) (g2:D->Env->Option Env) (t2:acC Bool) (f:acC D):acC D:=uV nt cap it g t (more jv g2 t2 (emit f))
abbrev K1 (nt:Nat) (cap:List Nat) (it:acC (List D)) (g:D->Env->Option Env) (t:acC Bool) (jv:acC (List D)) (g2:D->Env->Option Env) (t2:acC Bool) (zY:acC (List D)) (g3:D->Env->Option Env) (t3:acC Bool) (f:acC D):acC D:=uV nt cap it g t (more jv g2 t2 (more zY g3 t3 (emit f)))
noncomputable def apart (nt:Nat) (sl cg:List Nat):Bool:=cg.all (λi=>decide (i<nt)&&!sl.contains i)
def rg (h:apart nt sl cg=true):∀i∈cg,i<nt/\i∉sl:=λi hi=>by
 have:=ø.mp h i hi;simp only[Æ,É,Ķ,List.contains_eq_mem,decide_eq_false_iff_not] at this;exact this
noncomputable abbrev MR (e el:ħ) (d:Nat):PySem.Env->Ù->Ù->Sem PySem.Fin:=λce D it=>(do let _ <- call (.builtin "list.append") [.ref D,<- ō el ce]:Sem Unit) >>= λ_=>again (.compLoop e d (.ref it) (.ref D) ce)
noncomputable abbrev Et (e src:ħ) (d:Nat):PySem.Env->Ù->Ù->Sem PySem.Fin:=λce D it=>do
 let x <- ō src ce
 acf src.pos
 let x <- ÿ src ce x
 let _ <- runOwn (.compStart e (d+1) (<- abj [x] (pyIter x)) (.ref D) ce) ce
 again (.compLoop e d (.ref it) (.ref D) ce)
def Vy (hc:X.calm=true) (S:uM X sc N nt cap) (T:Tg X.K g0 gd nt) (eO:Sl gd sl) (T2:Tg X.K zZ tJ nt) (ij:Sl tJ cg) (hi:PI X tg src (fP X.K Ξ it))
  (hY:∀(cl:List (Str×Ù)) (C:Ù) (s:Ä) (H:Hp) (ex:List Ù) (pn:List (Ù×Obj)),PG (eh X N sc cl C s H ex pn) tg g0/\PF (eh X N sc cl C s H ex pn) tests (tT X.K cm ft)/\PI (eh X N sc cl C s H ex pn) lg jj (fP X.K cm jv)/\PG (eh X N sc cl C s H ex pn) lg zZ/\PF (eh X N sc cl C s H ex pn) mI (tT X.K cm kY)/\PE (eh X N sc cl C s H ex pn) el (tE X.K cm f))
  (oK:apart nt sl cg=true:=by rfl) (oM:apart nt [] sl=true:=by rfl)
  (hs:∀x,ÿ src X.env x=pure x:=by intro _;rfl) (Fz:∀ce x,ÿ jj ce x=pure x:=by intro _ _;rfl):PE X (.ListComp el [⟨tg,src,tests,0⟩,⟨lg,jj,mI,0⟩] sc ps) (tE X.K Ξ (CH nt cap it gd ft jv tJ kY f)) :=
 cA (Ji (act:=Et (.ListComp el [⟨tg,src,tests,0⟩,⟨lg,jj,mI,0⟩] sc ps) jj 0) hc S T.mj hi (λcl C s H ex pn=>by
   obtain⟨y1,y2,y3,y4,y5,V⟩:=hY cl C s H ex pn;exact⟨y1,y2,λD Z it=>Bt (d:=1) (act:=λY=>MR (.ListComp el [⟨tg,src,tests,0⟩,⟨lg,jj,mI,0⟩] sc ps) el 1 _ D Y) rfl hc rfl y3 y4 T2.mj y5 (λY=>Jh rfl V) (λ_=>rfl) (Fz _)⟩) (λ_ _ _=>rfl) hs)
  (Iy (Pre:=il cg) T eO (λi hi=>(rg oM i hi).1) (AM T2 ij Hu (λ_ h=>h) (λ_ _ _ _ _=>trivial)) λd Z W U=>il.of eO (rg oK) U)
def Vz (hc:X.calm=true) (S:uM X sc N nt cap) (T:Tg X.K g0 gd nt) (eO:Sl gd sl) (T2:Tg X.K zZ tJ nt) (ij:Sl tJ cg) (T3:Tg X.K NK Fy nt) (hs3:Sl Fy nH) (hi:PI X tg src (fP X.K Ξ it))
  (hY:∀(cl:List (Str×Ù)) (C:Ù) (s:Ä) (H:Hp) (ex:List Ù) (pn:List (Ù×Obj)),PG (eh X N sc cl C s H ex pn) tg g0/\PF (eh X N sc cl C s H ex pn) tests (tT X.K cm ft)/\PI (eh X N sc cl C s H ex pn) lg jj (fP X.K cm jv)/\PG (eh X N sc cl C s H ex pn) lg zZ/\PF (eh X N sc cl C s H ex pn) mI (tT X.K cm kY) /\
   PI (eh X N sc cl C s H ex pn) tI qm (fP X.K cm zY)/\PG (eh X N sc cl C s H ex pn) tI NK/\PF (eh X N sc cl C s H ex pn) uW (tT X.K cm NL)/\PE (eh X N sc cl C s H ex pn) el (tE X.K cm f))
  (oK:apart nt sl cg=true:=by rfl) (FA:apart nt sl nH=true:=by rfl) (h23:apart nt cg nH=true:=by rfl) (oM:apart nt [] sl=true:=by rfl)
  (hs:∀x,ÿ src X.env x=pure x:=by intro _;rfl) (Fz:∀ce x,ÿ jj ce x=pure x:=by intro _ _;rfl) (hf3:∀ce x,ÿ qm ce x=pure x:=by intro _ _;rfl):PE X (.ListComp el [⟨tg,src,tests,0⟩,⟨lg,jj,mI,0⟩,⟨tI,qm,uW,0⟩] sc ps) (tE X.K Ξ (K1 nt cap it gd ft jv tJ kY zY Fy NL f)) :=
 cA (Ji (act:=Et (.ListComp el [⟨tg,src,tests,0⟩,⟨lg,jj,mI,0⟩,⟨tI,qm,uW,0⟩] sc ps) jj 0) hc S T.mj hi (λcl C s H ex pn=>by
   obtain⟨y1,y2,y3,y4,y5,U,R,Q,P⟩:=hY cl C s H ex pn;exact⟨y1,y2,λD Z it=>Bt (d:=1) (act:=λV=>Et (.ListComp el [⟨tg,src,tests,0⟩,⟨lg,jj,mI,0⟩,⟨tI,qm,uW,0⟩] sc ps) qm 1 _ D V) rfl hc rfl y3 y4 T2.mj y5 (λV=>Bt (d:=2) (act:=λjv=>MR (.ListComp el [⟨tg,src,tests,0⟩,⟨lg,jj,mI,0⟩,⟨tI,qm,uW,0⟩] sc ps) el 2 _ D jv) rfl hc rfl U R T3.mj Q (λjv=>Jh rfl P) (λ_=>rfl) (hf3 _)) (λ_=>rfl) (Fz _)⟩) (λ_ _ _=>rfl) hs)
  (Iy (Pre:=λenv=>il cg env/\il nH env) T eO (λi hi=>(rg oM i hi).1) (AM T2 ij (AM (Pre':=il nH) T3 hs3 Hu (λ_ h=>h) (λ_ _ _ _ _=>trivial)) (λ_ h=>h.1) (λd env Y h W=>il.on ij (λi hi=>(rg h23 i hi).2) h.2 W)) λd Z Y W=>⟨il.of eO (rg oK) W,il.of eO (rg FA) W⟩)
end
end DI
namespace L2
open PySem PySem.Spec PyProof.Rows
end L2
namespace HT
open PySem PyProof.Rows
def Eu (A:ì) (s:Ä) (y x:Ç) (b:Bool):Prop:=∀(prog:ä) (w:ù) (E:Ç->Ä->Prop) (Q:Ç->Ä->Prop),Q (.bool b) s->Ý (â prog w) A (richCompare .Lt y x) Q E s
inductive je (A:ì) (s:Ä):List Ç->List Ç->Bool->Prop where
 |nn:je A s [] [] false
 |nc (y:Ç) (ys:List Ç):je A s [] (y::ys) true
 |cn (x:Ç) (xs:List Ç):je A s (x::xs) [] false
 |eq {x y:Ç} {xs ys:List Ç} {b:Bool}:SeqAt.EqAt A s x y true->je A s xs ys b->je A s (x::xs) (y::ys) b
 |lt {x y:Ç} {xs ys:List Ç} {b:Bool}:SeqAt.EqAt A s x y false->Eu A s x y b->je A s (x::xs) (y::ys) b
section
open PySem.SeqAt
open PySem.AutoSeq1 (wpAny_loadPart')
open PySem.MeetsSeq PySem.MeetsSeq2 PySem.MeetsSeq3
def QN (l b:Ù) (items ia:Array Ç) (n n2:Nat) (dd iI:Option Ù) (sl cg:Array (Option Ç)) (nI:Bool) :
  Meets (Ŗ.«tuple.__lt__» ⟨[.ref l,.ref b],[]⟩)
   (λA R s=>s.heap.get? l=some { cls:=.type "tuple",dict:=dd,data:=.seq items n,slots:=sl }/\s.heap.get? b=some { cls:=.type "tuple",dict:=iI,data:=.seq ia n2,slots:=cg } /\
    je A.in1 s items.toList ia.toList nI/\R (.ok (.ret (.bool nI))) s) :=
 .of_wp λprog w A R s h=>by
  obtain⟨M,g,d,L,os⟩:=s;obtain⟨J,I,H,h⟩:=h;have f2:=AutoSeq1.sub_tuple_tuple
  wp_walk using ν J,ν I,wpAny_forIn_list _ (λrest b W=>b.1=none/\W=⟨M,g,d,L,os⟩/\∃(X ws:List Ç),rest=X.zip ws /\
   je A.in1 ⟨M,g,d,L,os⟩ X ws nI/\X.length+ia.size=ws.length+items.size) _
  case turn =>
   rintro ⟨y,x⟩ rest b W ⟨V,rfl,X,ws,Y,U,Z⟩
   cases U with
   |nn=>cases Y
   |nc _ _=>cases Y
   |cn _ _=>cases Y
   |eq T S =>
    rw[Ĩ] at Y
    injection Y with Q K
    injection Q with P O
    subst P O;simp only[á] at Z;refine À (T prog w _ _ ?_)
    wp_walk
    exact⟨rfl,rfl,_,_,K,S,by omega⟩
   |lt T S =>
    rw[Ĩ] at Y
    injection Y with Q K
    injection Q with P O
    subst P O;refine À (T prog w _ _ ?_);have N:=S prog w
    wp_walk using N
    exact⟨_,rfl,by simpa using h⟩
  case fin =>
   rintro ⟨F,E⟩ W ⟨V,rfl,X,ws,Y,U,Z⟩;simp only at V;subst V;have G:nI=decide (items.size<ia.size):=by
    cases U with
    |nn=>simp only[ý] at Z;exact(ć (by omega)).symm
    |nc _ _=>simp only[ý,á] at Z;exact(æ (by omega)).symm
    |cn _ _=>simp only[ý,á] at Z;exact(ć (by omega)).symm
    |eq _ _=>rw[Ĩ] at Y;cases Y
    |lt _ _=>rw[Ĩ] at Y;cases Y
   rw[G] at h
   wp_walk
   exact⟨_,rfl,by simpa [Builtin.Tuple.tupleCompareSizes] using h⟩
  case h =>
   exact⟨rfl,rfl,items.toList,ia.toList,rfl,H,by simp only[ñ];omega⟩
end
open PySem.SeqAt PySem.MeetsSeq
section
variable {prog:ä} {w:ù} {A:ì} {E:Ç->Ä->Prop} {s:Ä}
def JZ (hl:IsTup s.heap l items) (hb:IsTup s.heap b ia) (hA:∀A':ì,A'.units<=A.units+4->je A' s items.toList ia.toList nI)
 (hu:A.units<abh) (h:Q (.bool nI) s):Ý (â prog w) A (richCompare .Lt (.ref l) (.ref b)) Q E s:=by
 obtain⟨⟨cls,U,data,T⟩,Z,Y,n,X⟩:=id hl;obtain⟨⟨O,S,data2,R⟩,W,V,P,hd2⟩:=id hb;simp only at Y X V hd2;subst Y X V hd2;refine richCompare_meets_room (op:=.Lt) ⟨_,Z,rfl⟩ ⟨_,W,rfl⟩ PySem.F.slot_tuple_lt PySem.F.entry_tuple_lt (PySem.F.args_tuple_lt_2 _ _) (QN l b items ia n P U S T R nI)
  ⟨Z,W,hA _ ?_,show Ņ nI≠Value.notImplemented/\Q (.bool nI) s from ⟨(λx=>nomatch x),h⟩⟩ hu
 show A.units+1<=A.units+4;omega
end
end HT
namespace DI
open PySem L2 HT
mutual
noncomputable def jb:D->D->Option Bool
 | .int i,.int j=>some (decide (i<j))
 | .str x,.str y=>some (decide (x.cps.toList<y.cps.toList))
 | .tup Z,.tup Y=>jk Z Y
 |_,_=>none
noncomputable def jk:List D->List D->Option Bool
 | [],[]=>some false
 | [],_::_=>some true
 |_::_,[]=>some false
 |x::Z,y::Y=>if beq x y=true then jk Z Y else jb x y
end
section
variable {X:Cx} {Ξ:Wd->aY->Prop} {π:List (Ù×Obj)} {σ:St} {s:Ä} {w:Wd}
def Za (I:Inv X π σ w.H s) (A:ì) (lx:lay x=true) (ly:lay y=true) (hu:A.units+dep x<abh) (hx:DV X.K w x v) (hy:DV X.K w y u) (rx:RelV v vx) (ry:RelV u vy):SeqAt.EqAt A s vx vy (beq x y):=by
 obtain⟨as,Z⟩:=(hx.py (pf _ lx)).reads I rx;obtain⟨bs,Y⟩:=(hy.py (pf _ ly)).reads I ry;obtain⟨W,V⟩:=ko _ lx;obtain⟨U,T⟩:=ko _ ly;have:=SeqAt.eqAt_reads _ _ A s vx vy as bs Z Y W U (by rw[V];omega);rw[rE _ _ lx ly] at this;exact this
mutual
theorem Ma (I:Inv X π σ w.H s):∀(A:ì) (x y:D) (b:Bool) (v u:V) (vx vy:Ç),jb x y=some b->lay x=true->lay y=true->A.units+5*dep x+5<abh->DV X.K w x v->DV X.K w y u->RelV v vx->RelV u vy->Eu A s vx vy b
 |A,.int i,.int j,b,v,u,vx,vy,h,_,_,_,Z,Y,W,U=>by
  cases h;cases Z;cases Y;obtain⟨t,rfl⟩:=W;obtain⟨T,rfl⟩:=U;intro prog w E Q q;exact IW A s i t j T prog w E Q q
 |A,.str i,.str j,b,v,u,vx,vy,h,_,_,R,Z,Y,W,U=>by
  cases h;cases Z;cases Y;obtain⟨t,rfl⟩:=W;obtain⟨T,rfl⟩:=U;intro prog w E Q q;exact(PyProof.Rows.lt_str q:Ý (â prog w) A (ġ .Lt (.str i t) (.str j T)) Q E s)
 |A,.tup P,.tup O,b,v,u,vx,vy,h,N,M,R,Z,Y,W,U=>by
  simp only[jb] at h;simp only[DV] at Z Y;obtain⟨a,as,rfl,L,J⟩:=Z;obtain⟨c,cs,rfl,G,S⟩:=Y;cases W;cases U;obtain⟨its,F,C,_⟩:=I.tuple L;obtain⟨B,z,r,_⟩:=I.tuple G;intro prog n E Q q;simp only[dep] at R;exact JZ C r (λp o=>by
   have:=K2 I p P O b as cs its B h (by simpa [lay] using N) (by simpa [lay] using M) (by omega) J S F z;simpa using this) (by omega) q
 |_,.au,_,_,_,_,_,_,h,_,_,_,_,_,_,_=>by cases h
 |_,.bl _,_,_,_,_,_,_,h,_,_,_,_,_,_,_=>by cases h
 |_,.lst _,_,_,_,_,_,_,h,_,_,_,_,_,_,_=>by cases h
 |_,.bA _,_,_,_,_,_,_,h,_,_,_,_,_,_,_=>by cases h
 |_,.aj _,_,_,_,_,_,_,h,_,_,_,_,_,_,_=>by cases h
 |_,.ty _,_,_,_,_,_,_,h,_,_,_,_,_,_,_=>by cases h
 |_,.bK _,_,_,_,_,_,_,h,_,_,_,_,_,_,_=>by cases h
 |_,.exc _ _,_,_,_,_,_,_,h,_,_,_,_,_,_,_=>by cases h
 |_,.cG _ _ _,_,_,_,_,_,_,h,_,_,_,_,_,_,_=>by cases h
 |_,.int _,.au,_,_,_,_,_,h,_,_,_,_,_,_,_=>by cases h
 |_,.int _,.bl _,_,_,_,_,_,h,_,_,_,_,_,_,_=>by cases h
 |_,.int _,.str _,_,_,_,_,_,h,_,_,_,_,_,_,_=>by cases h
 |_,.int _,.tup _,_,_,_,_,_,h,_,_,_,_,_,_,_=>by cases h
 |_,.int _,.lst _,_,_,_,_,_,h,_,_,_,_,_,_,_=>by cases h
 |_,.int _,.bA _,_,_,_,_,_,h,_,_,_,_,_,_,_=>by cases h
 |_,.int _,.aj _,_,_,_,_,_,h,_,_,_,_,_,_,_=>by cases h
 |_,.int _,.ty _,_,_,_,_,_,h,_,_,_,_,_,_,_=>by cases h
 |_,.int _,.bK _,_,_,_,_,_,h,_,_,_,_,_,_,_=>by cases h
 |_,.int _,.exc _ _,_,_,_,_,_,h,_,_,_,_,_,_,_=>by cases h
 |_,.int _,.cG _ _ _,_,_,_,_,_,h,_,_,_,_,_,_,_=>by cases h
 |_,.str _,.au,_,_,_,_,_,h,_,_,_,_,_,_,_=>by cases h
 |_,.str _,.bl _,_,_,_,_,_,h,_,_,_,_,_,_,_=>by cases h
 |_,.str _,.int _,_,_,_,_,_,h,_,_,_,_,_,_,_=>by cases h
 |_,.str _,.tup _,_,_,_,_,_,h,_,_,_,_,_,_,_=>by cases h
 |_,.str _,.lst _,_,_,_,_,_,h,_,_,_,_,_,_,_=>by cases h
 |_,.str _,.bA _,_,_,_,_,_,h,_,_,_,_,_,_,_=>by cases h
 |_,.str _,.aj _,_,_,_,_,_,h,_,_,_,_,_,_,_=>by cases h
 |_,.str _,.ty _,_,_,_,_,_,h,_,_,_,_,_,_,_=>by cases h
 |_,.str _,.bK _,_,_,_,_,_,h,_,_,_,_,_,_,_=>by cases h
 |_,.str _,.exc _ _,_,_,_,_,_,h,_,_,_,_,_,_,_=>by cases h
 |_,.str _,.cG _ _ _,_,_,_,_,_,h,_,_,_,_,_,_,_=>by cases h
 |_,.tup _,.au,_,_,_,_,_,h,_,_,_,_,_,_,_=>by cases h
 |_,.tup _,.bl _,_,_,_,_,_,h,_,_,_,_,_,_,_=>by cases h
 |_,.tup _,.int _,_,_,_,_,_,h,_,_,_,_,_,_,_=>by cases h
 |_,.tup _,.str _,_,_,_,_,_,h,_,_,_,_,_,_,_=>by cases h
 |_,.tup _,.lst _,_,_,_,_,_,h,_,_,_,_,_,_,_=>by cases h
 |_,.tup _,.bA _,_,_,_,_,_,h,_,_,_,_,_,_,_=>by cases h
 |_,.tup _,.aj _,_,_,_,_,_,h,_,_,_,_,_,_,_=>by cases h
 |_,.tup _,.ty _,_,_,_,_,_,h,_,_,_,_,_,_,_=>by cases h
 |_,.tup _,.bK _,_,_,_,_,_,h,_,_,_,_,_,_,_=>by cases h
 |_,.tup _,.exc _ _,_,_,_,_,_,h,_,_,_,_,_,_,_=>by cases h
 |_,.tup _,.cG _ _ _,_,_,_,_,_,h,_,_,_,_,_,_,_=>by cases h
theorem K2 (I:Inv X π σ w.H s):∀(A:ì) (xs ys:List D) (b:Bool) (vs us:List V) (ps qs:List Ç),jk xs ys=some b->fx xs=true->fx ys=true->A.units+5*dC xs+5<abh->ar X.K w xs vs->ar X.K w ys us->Vals vs ps->Vals us qs->je A s ps qs b
 |A,[],[],b,vs,us,ps,qs,h,_,_,_,W,U,Z,Y=>by
  cases h;cases W;cases U;cases Z;cases Y;exact .nn
 |A,[],y::ys,b,vs,us,ps,qs,h,_,_,_,W,U,Z,Y=>by
  cases h;cases W;cases Z;obtain⟨u,r,rfl,_,_⟩:=U;cases Y;exact .nc _ _
 |A,x::xs,[],b,vs,us,ps,qs,h,_,_,_,W,U,Z,Y=>by
  cases h;cases U;cases Y;obtain⟨u,r,rfl,_,_⟩:=W;cases Z;exact .cn _ _
 |A,x::xs,y::ys,b,vs,us,ps,qs,h,T,S,J,W,U,Z,Y=>by
  obtain⟨v,r,rfl,M,dr⟩:=W;obtain⟨u,G,rfl,L,P⟩:=U;simp only[fx,Æ] at T S;simp only[dC] at J;have F:=abx (dep x) (dC xs);have E:=ż (dep x) (dC xs)
  cases Z with
  |cons Z O =>
   cases Y with
   |cons Y N =>
    have R:=Za I A T.1 S.1 (by omega) M L Z Y;simp only[jk] at h;split at h
    ·rename_i Q
     rw[Q] at R;exact .eq R (K2 I A xs ys b _ _ _ _ h T.2 S.2 (by omega) dr P O N)
    ·rename_i Q
     rw[aa6] at Q;rw[Q] at R;exact .lt R (Ma I A x y b _ _ _ _ h T.1 S.1 (by omega) M L Z Y)
end
def kM (x y:D) (s:af):Res D:=if (lay x&&lay y&&decide (dep x<=30))=true then bY ((jb x y).map D.bl) s else none
def zz (hr:bB k X.A):bI X (ġ .Lt) (rO X.K Ξ kM):=by
 rintro O s σ H x y v u Q I U T ⟨w,W,V,rfl,S,R,P,h⟩;unfold kM at h;split at h
 ·rename_i Z
  simp only[Æ,É] at Z;obtain⟨d,e,h⟩:=fK h
  cases Y:jb W V with
  |none=>rw[Y] at e;cases e
  |some b =>
   rw[Y] at e;cases e;exact Ma I X.A W V b x y v u Y Z.1.1 Z.1.2 (by have:=hr.un;have:=Z.2;have:abh=9900:=rfl;omega) R P U T _ _ _ _ ⟨.bl b,w.H,I,rfl,aG S h _ rfl⟩
 ·exact h.elim
end
end DI
namespace DI
open PySem L2
def Ew (kf:D->af->Res D) (o:D->D->af->Res D):D->D->List D->af->Res D
 |b,_,[],s=>ok b s
 |b,k,d::Z,s=>ak (ne (kf d s)) λY s=>ak (ne (o Y k s)) λc s=>match c with
  | .bl true=>Ew kf o d Y Z s
  | .bl false=>Ew kf o b k Z s
  |_=>none
def Zb (kf:D->af->Res D) (o:D->D->af->Res D) (dflt:Option D):List D->af->Res D
 | [],s=>match dflt with
  |some d=>ok d s
  |none=>none
 |d::Z,s=>ak (ne (kf d s)) λk s=>Ew kf o d k Z s
def Xj (kf:D->af->Res D) (o:D->D->af->Res D) (dflt:Option D) (d:D) (s:af):Res D:=match d with
 | .lst Z=>Zb kf o dflt Z s
 |_=>none
abbrev Zc (fn:List D->af->Res D):D->af->Res D:=Xj (λd s=>fn [d] s) kM (some .au)
section
variable {X:Cx} {Ξ:Wd->aY->Prop} {e:ħ} {p pos kp1 kp2 aaa aex:Pos} {f:acC D}
end
def t9:List D->af->Res D:=aF 2 2 (ao (aZ (aQ (e2 kM (ae 1) (eB cy (aa (ae 0) ah)))) (aL (e2 aA (ae 0) (ae 1))) bq) (aL (eC (.int 0))))
def xI:List D->af->Res D:=aF 2 3 (ao (aN (az t9 (aa (ae 0) (aa (ae 1) ah))) (gN 2)) (aL (eNew (aa (eB p9 (aa (eC (.int 0)) (aa (e2 ve (ae 2) (e2 rT (eC (.int 10)) (eC (.int 18)))) ah))) (aa (e2 mT (ae 2) (eC (.int 2147483647))) ah)))))
def bT:List D->af->Res D:=aF 2 4 (ao (aZ (aQ (e2 zu (e2 aA (ae 0) (eC (.int 0))) (eC (.int 0)))) (ao (aN (e2 mT (e2 aA (ae 0) (eC (.int 0))) (ae 1)) (gN 2)) (ao (oB (e2 vh (e2 aA (ae 0) (eC (.int 0))) (ae 1)) (ae 0) (eC (.int 0))) (aL (ae 2)))) bq) (ao (oB (e2 mT (e2 cP (e2 fq (e2 aA (ae 0) (eC (.int 1))) (eC (.int 48271))) (eC (.int 29))) (eC (.int 2147483647))) (ae 0) (eC (.int 1))) (ao (aN (e2 mT (e2 cP (e2 cP (e2 fq (e2 aA (ae 0) (eC (.int 1))) (e2 aA (ae 0) (eC (.int 1)))) (e2 fq (eC (.int 39373)) (e2 aA (ae 0) (eC (.int 1))))) (eC (.int 7))) (eC (.int 2147483629))) (gN 3)) (ao (aN (e2 mT (e2 cP (e2 fq (ae 3) (ae 3)) (e2 fq (eC (.int 16807)) (ae 3))) (eC (.int 2147483587))) (gN 3)) (aL (e2 mT (e2 vh (ae 3) (eC (.int 8))) (ae 1)))))))
def uu:List D->af->Res D:=aF 2 3 (ao (aN (e2 cP (eC (.int 1)) (az bT (aa (ae 0) (aa (eC (.int 4)) ah)))) (gN 2)) (aL (eB gJ (aa (cj 1 [0,2] (cJ (aa (ae 1) ah)) (gN 0) (aQ (e2 cb (az bT (aa (ae 1) (aa (e2 cP (ae 2) (eC (.int 1))) ah))) (eC (.int 0)))) (ae 0)) ah))))
def P9:List D->af->Res D:=aF 1 1 (aL (cj 1 [0] (tB (aa (eC (.int 1)) (aa (eB cy (aa (ae 0) ah)) ah))) (gN 0) (aQ (e2 cb (e2 aA (ae 1) (ae 0)) (e2 aA (ae 1) (e2 ve (ae 0) (eC (.int 1)))))) (ae 0)))
def Qa:List D->af->Res D:=aF 1 1 (aL (ba (aa (eB cy (aa (az P9 (aa (ae 0) ah)) ah)) (aa (ae 0) ah))))
def pb:List D->af->Res D:=aF 1 1 (aL (eB jV (aa (cj 2 [] (sy (aa (ae 0) (aa (qG (ae 0) (qk (eC (.int 1))) qF) ah))) (gT [gN 0,gN 1]) eR (e2 kM (ae 0) (ae 1))) ah)))
def AN:List D->af->Res D:=aF 1 1 (aL (dZ (eB gr (aa (ae 0) (aa (eC (.ty "int")) ah))) (dZ (vH (eB gr (aa (ae 0) (aa (eC (.ty "bool")) ah)))) (e2 zv (ae 0) (eC (.int 0))))))
def pd:List D->af->Res D:=aF 2 2 (aL (dZ (az AN (aa (ae 0) ah)) (e2 kM (ae 0) (ae 1))))
def ug:List D->af->Res D:=aF 1 1 (aL (az pd (aa (ae 0) (aa (eC (.int (8))) ah))))
def nO:List D->af->Res D:=aF 1 1 (aL (dZ (eB gr (aa (ae 0) (aa (eC (.ty "tuple")) ah))) (dZ (eB jV (aa (cj 1 [] (ck (ae 0)) (gN 0) eR (az ug (aa (ae 0) ah))) ah)) (az pb (aa (ae 0) ah)))))
def qT:List D->af->Res D:=aF 2 2 (aL (dZ (eB gr (aa (ae 0) (aa (eC (.ty "tuple")) ah))) (dZ (qD ng ng (eC (.int 1)) (eB cy (aa (ae 0) ah)) (ae 1)) (eB jV (aa (cj 1 [] (ck (ae 0)) (gN 0) eR (az nO (aa (ae 0) ah))) ah)))))
def mz:List D->af->Res D:=aF 1 1 (aZ (dJ (dj (az qT (aa (ae 0) (aa (eC (.int (10))) ah))))) gg bq)
def Iz:List D->af->Res D:=aF 2 2 (aL (eB jV (aa (cj 1 [0] (ck (ae 1)) (gN 0) eR (e2 eI (ae 0) (ae 1))) ah)))
def A3:List D->af->Res D:=aF 3 4 (ao (aN (e2 aA (ae 0) (eB cy (aa (ae 1) ah))) (gN 3)) (aL (eB jV (aa (cj 1 [3,0,2,1] (cJ (aa (eB cy (aa (ae 1) ah)) ah)) (gN 0) (aQ (e2 cb (e2 aA (ae 4) (ae 0)) (ae 3))) (az Iz (aa (ae 1) (aa (e2 aA (ae 2) (ae 0)) ah)))) ah))))
def RZ:List D->af->Res D:=aF 1 3 (ao (aN (bH (aa (ba (aa (eC (.int 0)) ah)) ah)) (gN 1)) (ao (dQ (tB (aa (eC (.int 1)) (aa (eB cy (aa (ae 0) ah)) ah))) (gN 2) (aN (CH 2 [0] (ck (ae 1)) (gN 0) eR (cJ (aa (eC (.int (2))) ah)) (gN 1) (dj (az A3 (aa (ae 2) (aa (ae 0) (aa (ae 1) ah))))) (e2 cP (ae 0) (ba (aa (ae 1) ah)))) (gN 1))) (aL (ae 1))))
def Ay:List D->af->Res D:=aF 1 1 (ao (bh (az mz (aa (ae 0) ah))) (aL (e1 (Zc Qa) (az RZ (aa (ae 0) ah)))))
end DI
namespace ST
open PySem PySem.W PyProof.Rows
structure Ord (α:Type) where
 lt:α->α->Bool
 FC:∀a,lt a a=false
 tr:∀a b c,lt a b=true->lt b c=true->lt a c=true
 wU:∀a b,lt a b=false->lt b a=false->a=b
section
variable {α:Type} (O:Ord α)
def Ord.le (a b:α):Prop:=O.lt b a=false
variable {O}
def Ord.le_refl (a:α):O.le a a:=O.FC a
def Ord.le_of_lt (h:O.lt a b=true):O.le a b:=by
 unfold Ord.le
 cases Z:O.lt b a with
 |false=>rfl
 |true=>have:=O.tr _ _ _ h Z;rw[O.FC] at this;cases this
def Ord.rX (h:O.le a b) (g:O.le b c):O.le a c:=by
 unfold Ord.le at *
 cases Z:O.lt c a with
 |false=>rfl
 |true =>
  cases Y:O.lt a b with
  |true=>have:=O.tr _ _ _ Z Y;rw[g] at this;cases this
  |false =>
   have e:=O.wU a b Y h;subst e;rw[g] at Z;cases Z
def Ord.Mb (h:O.le a b) (g:O.le b a):a=b:=O.wU _ _ g h
end
def ok {β:Type} (c:Nat->Nat->Bool) (n:Nat):KasT β->(β->Prop)->Prop
 | .ret a,Q=>Q a
 | .ask i j k,Q=>i<n/\j<n/\ok c n (k (c i j)) Q
theorem kh {β:Type} {c:Nat->Nat->Bool} {n:Nat} {Q R:β->Prop}:∀{t:KasT β},ok c n t Q->(∀a,Q a->R a)->ok c n t R
 | .ret a,h,i=>i a h
 | .ask _ _ k,h,i=>⟨h.1,h.2.1,kh (t:=k _) h.2.2 i⟩
theorem rp {β γ:Type} {c:Nat->Nat->Bool} {n:Nat} {f:β->KasT γ} {Q:γ->Prop}:∀{t:KasT β},ok c n t (λa=>ok c n (f a) Q)->ok c n (t.bind f) Q
 | .ret _,h=>h
 | .ask _ _ k,h=>⟨h.1,h.2.1,rp (t:=k _) h.2.2⟩
theorem Mc {β:Type} {c:Nat->Nat->Bool} {n:Nat} {cmp:Nat->Nat->(Bool->Ä->Prop)->Ä->Prop} (hc:∀i j C,i<n->j<n->C (c i j) s->cmp i j C s) {Q:β->Ä->Prop}:∀{t:KasT β},ok c n t (λa=>Q a s)->t.kasWp cmp Q s
 | .ret _,h=>h
 | .ask _ _ k,h=>hc _ _ _ h.1 h.2.1 (Mc hc (t:=k _) h.2.2)
section
variable {α:Type} {O:Ord α} {x:Nat->α} {n:Nat}
noncomputable def ky (x:Nat->α) (p:Array Nat) (i:Nat):α:=x (p.getD i 0)
def Pm (n:Nat) (p:Array Nat):Prop:=p.size=n/\p.toList.Perm (Ć n)
def Up (O:Ord α) (f:Nat->α) (k:Nat):Prop:=∀i j,i<j->j<k->O.le (f i) (f j)
def Dn (O:Ord α) (f:Nat->α) (k:Nat):Prop:=∀i j,i<j->j<k->O.le (f j) (f i)
def Up.more (h:Up O f k) (hk:1<=k) (h1:O.le (f (k-1)) (f k)):Up O f (k+1):=λi j Z X=>by
 by_cases e:j=k
 ·subst e
  by_cases Y:i=j-1
  ·subst Y;exact h1
  ·exact Ord.rX (h i (j-1) (by omega) (by omega)) h1
 ·exact h i j Z (by omega)
def Dn.more (h:Dn O f k) (hk:1<=k) (h1:O.le (f k) (f (k-1))):Dn O f (k+1):=λi j Z X=>by
 by_cases e:j=k
 ·subst e
  by_cases Y:i=j-1
  ·subst Y;exact h1
  ·exact Ord.rX h1 (h i (j-1) (by omega) (by omega))
 ·exact h i j Z (by omega)
def Pm.lt (h:Pm n p) (hi:i<n):p.getD i 0<n:=by
 have hs:i<p.size:=by rw[h.1];exact hi
 have:p[i]∈p.toList:=by simp
 have e:p.getD i 0=p[i]:=by simp[acv,hs]
 rw[e];exact Ġ.mp (h.2.mem_iff.mp this)
def Pm.rev (h:Pm n p) (i j:Nat):Pm n (kas_rev p i j):=⟨by rw[kas_rev_size];exact h.1,(Array.perm_iff_toList_perm.mp (mirror_perm p i j _)).trans h.2⟩
def Pm.bub (h:Pm n p) (i j:Nat):Pm n (bubble p i j):=⟨by rw[bubble_size];exact h.1,(Array.perm_iff_toList_perm.mp (bubble_perm p i j)).trans h.2⟩
def uF {p q:Array Nat} {i j:Nat} (h:p[i]?=q[j]?):p.getD i 0=q.getD j 0:=by
 rw[Array.getD_eq_getD_getElem?,Array.getD_eq_getD_getElem?,h]
def CI {p:Array Nat} {i j:Nat} (hj:j<=p.size) (k:Nat):ky x (kas_rev p i j) k=if i<=k/\k<j then ky x p (i+j-1-k) else ky x p k:=by
 have e:=getElem?_mirror_all (i:=i) hj k;unfold ky kas_rev
 split<;>rename_i h
 ·rw[ã h] at e;rw[uF e]
 ·rw[í h] at e;rw[uF e]
def K3 {p:Array Nat} {k d:Nat} (hk:k<p.size) (hd:d<=k) (i:Nat):ky x (bubble p k d) i=if i=k-d then ky x p k else if k-d<i/\i<=k then ky x p (i-1) else ky x p i:=by
 have e:=getElem?_bubble hk d hd i;by_cases h:i=k-d
 ·rw[ã h] at e |-;exact ň x (uF e)
 ·rw[í h] at e |-
  by_cases Z:k-d<i/\i<=k
  ·rw[ã Z] at e |-;exact ň x (uF e)
  ·rw[í Z] at e |-;exact ň x (uF e)
def J0 (hj:j<=p.size) (he:∀k,i<=k->k<j->ky x p k=ky x p (j-1)):ky x (kas_rev p i j)=ky x p:=funext λk=>by
 rw[CI hj];split
 ·rw[he _ (by omega) (by omega),he k (by omega) (by omega)]
 ·rfl
noncomputable abbrev asks (O:Ord α) (x:Nat->α) (i j:Nat):Bool:=O.lt (x i) (x j)
theorem CJ {p:Array Nat} (hp:Pm n p):∀(f m:Nat),1<=m->m+f<=n->Up O (ky x p) m->ok (asks O x) n (kas_asc p f m) λr=>m<=r/\r<=m+f/\Up O (ky x p) r/\(r<m+f->O.lt (ky x p r) (ky x p (r-1))=true)
 |0,m,Y,V,Z=>⟨acG _,acG _,Z,λz=>absurd z (ë _)⟩
 |f+1,m,Y,V,Z=>by
  refine⟨hp.lt (by omega),hp.lt (by omega),?_⟩
  show ok _ _ (if O.lt (ky x p m) (ky x p (m-1))=true then _ else _) _
  cases X:O.lt (ky x p m) (ky x p (m-1)) with
  |true =>
   rw[ã rfl];exact⟨acG _,by omega,Z,λ_=>X⟩
  |false =>
   rw[í Û];refine kh (CJ hp f (m+1) (by omega) (by omega) (Z.more Y X)) λr W=>⟨by omega,by omega,W.2.2.1,λz=>W.2.2.2 (by omega)⟩
structure DS (O:Ord α) (x:Nat->α) (n:Nat) (p:Array Nat) (m q:Nat):Prop where
 pm:Pm n p
 q1:q+1<=m
 mn:m<=n
 dn:Dn O (ky x p) m
 bl:∀k,m-(q+1)<=k->k<m->ky x p k=ky x p (m-1)
def DS.turn (D:DS O x n p m q):Pm n (kas_rev p (m-(q+1)) m)/\ky x (kas_rev p (m-(q+1)) m)=ky x p :=
 ⟨D.pm.rev _ _,J0 (by rw[D.pm.1];exact D.mn) D.bl⟩
theorem xZ:∀(f:Nat) (p:Array Nat) (m q:Nat),m+f<=n->DS O x n p m q->ok (asks O x) n (kas_desc f p m q) λr=>m<=r.2.1/\DS O x n r.1 r.2.1 r.2.2
 |0,p,m,q,_,D=>⟨acG _,D⟩
 |f+1,p,m,q,P,D=>by
  have q1:=D.q1;refine⟨D.pm.lt (by omega),D.pm.lt (by omega),?_⟩
  show ok _ _ (if O.lt (ky x p m) (ky x p (m-1))=true then _ else _) _
  cases X:O.lt (ky x p m) (ky x p (m-1)) with
  |true =>
   rw[ã rfl];have one:∀Y,Pm n Y->ky x Y=ky x p->DS O x n Y (m+1) 0:=λY V U=>⟨V,by omega,by omega,by rw[U];exact D.dn.more (by omega) (Ord.le_of_lt X),λk T S=>by rw[show k=m+1-1 by omega]⟩;by_cases W:q > 0
   ·rw[ã W]
    exact kh (xZ f _ (m+1) 0 (by omega) (one _ D.turn.1 D.turn.2)) λr Z=>⟨by omega,Z.2⟩
   ·rw[í W]
    exact kh (xZ f _ (m+1) 0 (by omega) (one _ D.pm rfl)) λr Z=>⟨by omega,Z.2⟩
  |false =>
   rw[í Û];refine⟨D.pm.lt (by omega),D.pm.lt (by omega),?_⟩
   show ok _ _ (if O.lt (ky x p (m-1)) (ky x p m)=true then _ else _) _
   cases R:O.lt (ky x p (m-1)) (ky x p m) with
   |true =>
    rw[ã rfl];exact⟨acG _,D⟩
   |false =>
    rw[í Û];have e:ky x p m=ky x p (m-1):=O.wU _ _ X R;refine kh (xZ f p (m+1) (q+1) (by omega) ⟨D.pm,by omega,by omega,D.dn.more (by omega) (by rw[e];exact Ord.le_refl _),λk T S=>?_⟩) λr Z=>⟨by omega,Z.2⟩;show _=ky x p m;by_cases Q:k=m
    ·rw[Q]
    ·rw[D.bl k (by omega) (by omega),e]
def J1 {p:Array Nat} {m:Nat} (hp:Pm n p) (h1:1<=m) (hm:m<=n) (hd:Dn O (ky x p) m):ok (asks O x) n (kas_tail3 m n p) λr=>1<=r.1/\r.1<=n/\Pm n r.2/\Up O (ky x r.2) r.1:=by
 refine rp ?_;have Z:Up O (ky x (kas_rev p 0 m)) m:=λi j W Y=>by
  rw[CI (by rw[hp.1];exact hm),CI (by rw[hp.1];exact hm),ã ⟨by omega,by omega⟩,ã ⟨by omega,Y⟩];exact hd _ _ (by omega) (by omega)
 exact kh (CJ (hp.rev 0 m) (n-m) m h1 (by omega) Z) λr X=>⟨by show 1<=r;omega,by show r<=n;omega,hp.rev 0 m,X.2.2.1⟩
def Hv {p:Array Nat} {m:Nat} (hp:Pm n p) (h1:1<=m) (hm:m+1<=n) (hd:Dn O (ky x p) (m+1)):ok (asks O x) n (kas_descPart m n p) λr=>1<=r.1/\r.1<=n/\Pm n r.2/\Up O (ky x r.2) r.1:=by
 refine rp (kh (xZ (n-(m+1)) p (m+1) 0 (by omega) ⟨hp,by omega,hm,hd,λk Y X=>by rw[show k=m+1-1 by omega]⟩) λr Z=>?_);obtain⟨W,D⟩:=Z;split
 ·exact J1 D.turn.1 (by have:=D.q1;omega) D.mn (by rw[D.turn.2];exact D.dn)
 ·exact J1 D.pm (by have:=D.q1;omega) D.mn D.dn
def TN {p:Array Nat} (hp:Pm n p) (hn:1<=n):ok (asks O x) n (kas_count n p) λr=>1<=r.1/\r.1<=n/\Pm n r.2/\Up O (ky x r.2) r.1:=by
 refine rp (kh (CJ hp (n-1) 1 (acG _) (by omega) λi j U X=>by omega) λm S=>?_);obtain⟨Z,Q,Y,R⟩:=S;split
 ·rename_i e
  rw[beq_iff_eq] at e;exact⟨Z,by omega,hp,Y⟩
 ·rename_i e
  have P:m≠n:=λz=>e (by rw[z];exact ĝ n);have hs:=R (by omega);split
  ·refine⟨hp.lt (by omega),hp.lt (by omega),?_⟩
   show ok _ _ (if O.lt (ky x p 0) (ky x p (m-1))=true then _ else _) _
   cases T:O.lt (ky x p 0) (ky x p (m-1)) with
   |true =>
    rw[ã rfl];exact⟨Z,by omega,hp,Y⟩
   |false =>
    rw[í Û];have W:∀k,0<=k->k<m->ky x p k=ky x p (m-1):=λk _ V=>by
     have a1:O.le (ky x p k) (ky x p (m-1)):=by
      by_cases e:k=m-1
      ·rw[e];exact Ord.le_refl _
      ·exact Y k (m-1) (by omega) (by omega)
     have a2:O.le (ky x p (m-1)) (ky x p k):=by
      by_cases e:k=0
      ·rw[e];exact T
      ·exact Ord.rX T (Y 0 k (by omega) V)
     exact Ord.Mb a1 a2
    have V:=J0 (x:=x) (p:=p) (i:=0) (j:=m) (by rw[hp.1];omega) W;refine Hv (hp.rev 0 m) Z (by omega) ?_;rw[V];refine Dn.more (λi j U X=>?_) Z (Ord.le_of_lt hs);rw[W i (by omega) (by omega),W j (by omega) X];exact Ord.le_refl _
  ·refine Hv hp Z (by omega) (Dn.more (λi j U X=>by omega) Z (Ord.le_of_lt hs))
theorem Bv (hp:Pm n p) (hk:k<n) (hu:Up O (ky x p) k):∀(f l r:Nat),r-l<=f->l<=r->r<=k->(∀i,i<l->O.le (ky x p i) (ky x p k))->(∀i,r<=i->i<k->O.le (ky x p k) (ky x p i)) ->
  ok (asks O x) n (kas_place p k f l r) λm=>m<=k/\(∀i,i<m->O.le (ky x p i) (ky x p k))/\(∀i,m<=i->i<k->O.le (ky x p k) (ky x p i))
 |0,l,r,X,W,Y,a,b=>⟨by omega,a,λi hi=>b i (by omega)⟩
 |f+1,l,r,X,W,Y,a,b=>by
  unfold kas_place;by_cases h:l ≥ r
  ·rw[ã h]
   exact⟨by omega,a,λi hi=>b i (by omega)⟩
  ·rw[í h]
   refine⟨hp.lt hk,hp.lt (by omega),?_⟩
   show ok _ _ (if O.lt (ky x p k) (ky x p ((l+r) / 2))=true then _ else _) _
   cases Z:O.lt (ky x p k) (ky x p ((l+r) / 2)) with
   |true =>
    rw[ã rfl];refine Bv hp hk hu f l ((l+r) / 2) (by omega) (by omega) (by omega) a λi hi V=>?_;by_cases e:i=(l+r) / 2
    ·rw[e];exact Ord.le_of_lt Z
    ·exact Ord.rX (Ord.le_of_lt Z) (hu _ _ (by omega) V)
   |false =>
    rw[í Û];refine Bv hp hk hu f ((l+r) / 2+1) r (by omega) (by omega) Y (λi hi=>?_) b;by_cases e:i=(l+r) / 2
    ·rw[e];exact Z
    ·exact Ord.rX (hu _ _ (by omega) (by omega)) Z
theorem K4:∀(f:Nat) (p:Array Nat) (k:Nat),Pm n p->k+f=n->Up O (ky x p) k->ok (asks O x) n (kas_bin f p k) λq=>Pm n q/\Up O (ky x q) n
 |0,p,k,Y,X,Z=>⟨Y,by rw[<- X];exact Z⟩
 |f+1,p,k,Y,X,Z=>by
  refine rp (kh (Bv Y (by omega) Z k 0 k (by omega) (Đ _) (acG _) (λi hi=>by omega) λi Q W=>by omega) λm P=>?_);obtain⟨Q,W,N⟩:=P;refine K4 f _ (k+1) (Y.bub _ _) (by omega) λi j M K=>?_;have V:k<p.size:=by rw[Y.1];omega
  have L:k-(k-m)=m:=by omega
  rw[K3 V (by omega),K3 V (by omega),L];by_cases U:i=m
  ·rw[ã U,í (by omega),ã (by omega)]
   exact N _ (by omega) (by omega)
  ·rw[í U]
   by_cases T:m<i/\i<=k
   ·rw[ã T,í (by omega),ã (by omega)]
    exact Z _ _ (by omega) (by omega)
   ·rw[í T]
    by_cases S:j=m
    ·rw[ã S];exact W _ (by omega)
    ·rw[í S]
     by_cases R:m<j/\j<=k
     ·rw[ã R]
      by_cases e:i=j-1
      ·rw[e];exact Ord.le_refl _
      ·exact Z _ _ (by omega) (by omega)
     ·rw[í R];exact Z _ _ M (by omega)
def VA (hn:1<=n):ok (asks O x) n (kas_sort n) λq=>Pm n q/\Up O (ky x q) n:=by
 refine rp (kh (TN (p:=abY (Ć n)) ⟨by simp,by simp⟩ hn) λr X=>?_);obtain⟨W,V,Y,Z⟩:=X;split
 ·rw[Nat.max_eq_left W]
  exact K4 _ _ _ Y (by omega) Z
 ·rw[show r.1=n by omega] at Z
  exact⟨Y,Z⟩
end
section
variable {α:Type} {O:Ord α} {x:Nat->α} {prog:ä} {w:ù} {A:ì} {E:Ç->Ä->Prop} {s:Ä}
def jl (prog:ä) (w:ù) (A:ì) (O:Ord α) (x:Nat->α) (us:List Ç) (t:Ä):Prop :=
 Ý (â prog w) A (keyKind' us.toArray) (fun Z Y=>Y=t/\∀i j (C:Bool->Ä->Prop),i<us.length->j<us.length->C (O.lt (x i) (x j)) t->Ý (â prog w) A (keyLt' Z (us.getD i Value.none) (us.getD j Value.none)) C (λ_ _=>False) t) (λ_ _=>False) t
def l9 (us:List Ç) (h:us.length<2):(us.toArray.zip us.toArray).map (·.2)=((abY (Ć us.length)).toList.map λi=>us.getD i Value.none).toArray:=by
 rcases us with _ | ⟨u,_ | ⟨v,r⟩⟩
 ·exact Array.toList_inj.mp (by simp)
 ·exact Array.toList_inj.mp (by simp)
 ·(simp at h;omega)
def Pq (hb:s.heap.get? b=some (acq "list" us.toArray m)) (hz:us.length<64)
 (hk:2<=us.length->∀h1,(∀c o,c≠b->s.heap.get? c=some o->h1.get? c=some o)->jl prog w A O x us { s with heap:=h1 })
 (hR:∀(q:Array Nat) h' e,Pm us.length q->Up O (ky x q) us.length->(∀c o,c≠b->s.heap.get? c=some o->h'.get? c=some o)->h'.get? b=some (acq "list" (q.toList.map λi=>us.getD i Value.none).toArray e)->R (.done (.ret .none)) { s with heap:=h' }) :
  Ý (â prog w) A (Ŗ.«list.sort» ⟨[.ref b],[]⟩) R E s:=by
 have B:b<s.heap.objs.size:=Î hb;have line:us.length<=Ø:=by rw[Ţ];omega
 obtain⟨e1,M⟩:∃e1,(s.heap.update b (Œ λ_=>(#[]:Array Ç))).get? b=some (acq "list" #[] e1):=⟨_,get?_update_seq hb λ_=>#[]⟩;generalize U:((s.heap.update b (Œ λ_=>(#[]:Array Ç))).push (acq "tuple" us.toArray 0)).push (acq "list" #[] 0)=Z;have X:Z.get? b=some (acq "list" #[] e1):=by rw[<- U];exact Á _ (Á _ M)
 have old:∀c o,c≠b->s.heap.get? c=some o->Z.get? c=some o:=λc o W e=>by
  rw[<- U];exact Á _ (Á _ (by rw[abc _ _ _ _ W];exact e))
 have last:∀(q:Array Nat),Pm us.length q->Up O (ky x q) us.length->R (.done (.ret .none)) { s with heap:=Z.update b (Œ λ_=>(q.toList.map λi=>us.getD i Value.none).toArray) }:=λq h1 T =>
  hR q _ _ h1 T (λc o W e=>by rw[abc _ _ _ _ W];exact old c o W e) (get?_update_seq X λ_=>(q.toList.map λi=>us.getD i Value.none).toArray)
 rw[list_sort_plain];refine À (listItems_at hb rfl (À (listUpdate_at hb rfl ?_ (by rw[Ú];exact line) (Đ _))));refine À (seqEpoch_at M rfl (À (wpAny_newTuple (À (wpAny_newList (ě ?_) (Đ _))) (by show us.length<=_;exact line))))
 show Ý (â prog w) A _ R E { s with heap:=_ }
 rw[U];dsimp only;by_cases Y:us.toArray.size<2
 ·rw[ã Y,ã Y]
  refine À (Â ?_);rw[StateT.run_pure];refine À (Â ?_);dsimp only;have K:(us.toArray.zip us.toArray).map (·.2)=((abY (Ć us.length)).toList.map λi=>us.getD i Value.none).toArray:=by
   exact l9 us (by rw[<- Ú];exact Y)
  refine À (seqEpoch_at X rfl (À (listUpdate_at X rfl ?_ (Đ _) ?_)))
  ·simp only[Ĕ,Ì,û]
   show Ý _ _ _ _ _ { s with heap:=Z.update b (Œ λ_=>(us.toArray.zip us.toArray).map (·.2)) }
   rw[K];refine Â (last _ ⟨by simp,by simp⟩ λi j y L=>?_);rw[Ú] at Y;omega
  ·show ((us.toArray.zip us.toArray).map (·.2)).size<=Ø+1
   simp;omega
 ·rw[í Y,í Y]
  rw[Ú] at Y;refine À (Ę (hk (by omega) Z old) (fun J t S=>?_) λ_ _ z=>z.elim);obtain⟨rfl,S⟩:=S
  have tree:(kas_sort us.length).kasWp (kas_ask prog w A J us) (λq t=>t={ s with heap:=Z }/\Pm us.length q/\Up O (ky x q) us.length) { s with heap:=Z } :=
   Mc (c:=asks O x) (n:=us.length) (λi j C hi L I=>S i j C hi L I) (kh (VA (by omega)) λq P=>⟨rfl,P⟩)
  refine À (Ę (kat_run (Q:=λV t=>∃q:Array Nat,q.size=us.length/\arrOf V=q.map (kas_item (us.toArray.zip us.toArray))/\failedOf V=none/\t={ s with heap:=Z }/\Pm us.length q/\Up O (ky x q) us.length)
   rfl (by omega) hz (λq V t a1 a2 H G=>⟨q,a1,a2,H,G⟩) tree) ?_ λ_ _ z=>z)
  rintro ⟨⟨⟩,V⟩ t ⟨q,P,N,F,rfl,T,D⟩;dsimp only;rw[kat_snds rfl N];refine À (seqEpoch_at X rfl (À (listUpdate_at X rfl ?_ (Đ _) ?_)))
  ·rw[F]
   simp only[Ĕ,Ì,û];exact Â (last q T D)
  ·show ((q.toList.map λi=>us.getD i Value.none).toArray).size<=Ø+1
   rw[Ú,Í,ñ,P];omega
def R1 (hl:s.heap.IsList l us.toArray) (hz:us.length<64)
 (hk:2<=us.length->∀h1,(∀c o,s.heap.get? c=some o->h1.get? c=some o)->jl prog w A.in1.in1 O x us { s with heap:=h1 })
 (hQ:∀(q:Array Nat) h' b e,Pm us.length q->Up O (ky x q) us.length->(∀c o,s.heap.get? c=some o->h'.get? c=some o)->s.heap.objs.size<=b->h'.get? b=some (acq "list" (q.toList.map λi=>us.getD i Value.none).toArray e)->Q (.ref b) { s with heap:=h' }) :
  Ý (â prog w) A (call (.builtin "sorted") [.ref l]) Q E s:=by
 have line:us.length<=Ø:=by rw[Ţ];omega
 refine Calls.call_function_entry kind_sorted plain_sorted entry_sorted (args_sorted1 _) ?_;unfold Ŗ.«sorted»;refine À (m:=checkCount "sorted" 1 1 _) (Â (À (collect_list hl (À (wpAny_newList ?_ line)) line)));generalize X:((s.heap.push (acq "list" #[] 0)).update s.heap.objs.size (Œ (·++us.toArray)))=h1;have W:h1.objs.size=s.heap.objs.size+1:=by rw[<- X,Heap.size_update,size_push']
 have U:∀c o,s.heap.get? c=some o->h1.get? c=some o:=λc o e=>by
  have Z:c<s.heap.objs.size:=Î e;rw[<- X,abc _ _ _ _ (à Z)];exact Á _ e
 show Ý _ _ _ _ _ { s with heap:=h1.push (acq "list" us.toArray 0) }
 have V:(h1.push (acq "list" us.toArray 0)).get? h1.objs.size=some (acq "list" us.toArray 0):=Ô _ rfl;have old:∀c o,s.heap.get? c=some o->c≠h1.objs.size/\(h1.push (acq "list" us.toArray 0)).get? c=some o:=λc o e=>by
  have Z:c<s.heap.objs.size:=Î e;exact⟨à (by rw[W];exact Ħ Z),Á _ (U c o e)⟩
 refine À (ě (ö slot_list_sort ⟨_,V,rfl⟩ entry_list_sort (Pq V hz (λz h' Y=>hk z h' λc o e=>Y c o (old c o e).1 (old c o e).2) λq h' e T S Y R=>⟨_,rfl,?_⟩) (args_list_sort _)));exact Â ⟨_,rfl,hQ q h' _ e T S (λc o e=>Y c o (old c o e).1 (old c o e).2) (by show _<=h1.objs.size;rw[W];exact abb _) R⟩
end
open HT
def Cb:∀a:List Int,lexLt a a=false:=λa=>by
 induction a with
 |nil=>rfl
 |cons i r ih=>rw[jy,ã rfl];exact ih
def Xk:∀a b c:List Int,lexLt a b=true->lexLt b c=true->lexLt a c=true:=λa=>by
 induction a with
 |nil =>
  intro b c h g
  cases b with
  |nil=>cases h
  |cons j s=>cases c with
   |nil=>cases g
   |cons k t=>rfl
 |cons i r ih =>
  intro b c h g
  cases b with
  |nil=>cases h
  |cons j s =>
   cases c with
   |nil=>cases g
   |cons k t =>
    rw[jy] at h g |-;by_cases e1:i=j
    ·subst e1
     rw[ã rfl] at h;by_cases e2:i=k
     ·rw[ã e2] at g |-;exact ih s t h g
     ·rw[í e2] at g |-;exact g
    ·rw[í e1] at h
     have h:=Ą h;by_cases e2:j=k
     ·subst e2
      rw[í e1];exact æ h
     ·rw[í e2] at g
      have g:=Ą g;rw[í (by omega)];exact æ (by omega)
def VB:∀a b:List Int,lexLt a b=false->lexLt b a=false->a=b:=λa=>by
 induction a with
 |nil =>
  intro b h g
  cases b with
  |nil=>rfl
  |cons j s=>cases h
 |cons i r ih =>
  intro b h g
  cases b with
  |nil=>cases g
  |cons j s =>
   rw[jy] at h g;by_cases e:i=j
   ·subst e
    rw[ã rfl] at h g;rw[ih s h g]
   ·rw[í e] at h
    rw[í (Ŀ e)] at g;have h:=of_decide_eq_false h;have g:=of_decide_eq_false g;omega
section
variable {prog:ä} {w:ù} {A:ì} {E:Ç->Ä->Prop} {s:Ä}
inductive oE (h:Ĳ):List Ç->List (List Int)->Prop where
 |nil:oE h [] []
 |cons {a:Ù} {its:Array Ç} {ns:List Int} {us:List Ç} {j7:List (List Int)}:IsTup h a its->abG its.toList ns->oE h us j7->oE h (.ref a::us) (ns::j7)
def oE.keep (k:∀c o,h.get? c=some o->h'.get? c=some o) (t:oE h us j7):oE h' us j7:=by
 induction t with
 |nil=>exact .nil
 |cons a b _ ih =>
  obtain⟨o,Z,r⟩:=a;exact .cons ⟨o,k _ _ Z,r⟩ b ih
theorem oE.at (t:oE h us j7):∀i,i<us.length->∃a its,us.getD i Value.none=.ref a/\IsTup h a its/\abG its.toList (j7.getD i []):=by
 induction t with
 |nil=>intro i hi;simp at hi
 |cons a b _ ih =>
  intro i hi
  cases i with
  |zero=>exact⟨_,_,rfl,a,b⟩
  |succ i =>
   obtain⟨c,its,e,r⟩:=ih i (by simpa using hi);exact⟨c,its,by simpa using e,r⟩
inductive wV:List (Option Ç)->List (List Int)->Prop where
 |nil:wV [] []
 |au {fs:List (Option Ç)} {j7:List (List Int)}:wV fs j7->wV (none::fs) ([]::j7)
 |one {fs:List (Option Ç)} {j7:List (List Int)} {n:Int} {t:Tok} {r:List Int}:wV fs j7->wV (some (.int n t)::fs) ((n::r)::j7)
noncomputable def ins {α:Type} (O:Ord α) (a:α):List α->List α
 | []=>[a]
 |b::r=>if O.lt b a=true then b::ins O a r else a::b::r
def jO {α:Type} (O:Ord α):List α->List α
 | []=>[]
 |a::r=>ins O a (jO O r)
end
section
variable {α:Type} {O:Ord α}
def Jj (a:α) (l:List α):(ins O a l).Perm (a::l):=by
 induction l with
 |nil=>exact .refl _
 |cons b r ih =>
  unfold ins;split
  ·exact(List.Perm.cons b ih).trans (List.Perm.swap a b r)
  ·exact .refl _
def ua (l:List α):(jO O l).Perm l:=by
 induction l with
 |nil=>exact .refl _
 |cons a r ih=>exact(Jj a _).trans (ih.cons a)
def Xl (a:α) (l:List α) (h:l.Pairwise O.le):(ins O a l).Pairwise O.le:=by
 induction l with
 |nil=>exact abv _ _
 |cons b r ih =>
  obtain⟨X,W⟩:=ô.mp h;unfold ins
  split<;>rename_i Z
  ·refine ô.mpr ⟨λc Y=>?_,ih W⟩
   rcases Ò.mp ((Jj a r).mem_iff.mp Y) with e|e
   ·rw[e];exact Ord.le_of_lt Z
   ·exact X c e
  ·have Z:O.le a b:=by rw[aa6] at Z;exact Z
   refine ô.mpr ⟨λc Y=>?_,h⟩
   rcases Ò.mp Y with e|e
   ·rw[e];exact Z
   ·exact Ord.rX Z (X c e)
def Jk (l:List α):(jO O l).Pairwise O.le:=by
 induction l with
 |nil=>exact .nil
 |cons a r ih=>exact Xl a _ ih
def R3:∀{l m:List α},l.Perm m->l.Pairwise O.le->m.Pairwise O.le->l=m:=by
 intro l
 induction l with
 |nil=>intro m h _ _;exact h.nil_eq
 |cons a r ih =>
  intro m h Z Y
  cases m with
  |nil=>exact absurd h.length_eq (by simp)
  |cons b t =>
   obtain⟨a1,a2⟩:=ô.mp Z;obtain⟨X,W⟩:=ô.mp Y;have e:a=b:=by
    rcases Ò.mp (h.mem_iff.mp Ð) with e|e
    ·exact e
    ·rcases Ò.mp (h.mem_iff.mpr Ð) with e'|e'
     ·exact e'.symm
     ·exact Ord.Mb (a1 b e') (X a e)
   subst e;rw[ih h.cons_inv a2 W]
def R4 (hp:Pm xs.length q) (hu:Up O (ky (λi=>xs.getD i d) q) xs.length):q.toList.map (λi=>xs.getD i d)=jO O xs:=by
 refine R3 ?_ ?_ (Jk xs)
 ·refine(hp.2.map _).trans ?_
  have:(Ć xs.length).map (λi=>xs.getD i d)=xs:=by
   apply œ;intro i;by_cases hi:i<xs.length
   ·simp[hi]
   ·simp[hi,Ÿ hi]
  rw[this];exact(ua xs).symm
 ·rw[List.pairwise_iff_getElem]
  intro i j hi W Y;have V:(q.toList.map λi=>xs.getD i d).length=xs.length:=by rw[Í,ñ,hp.1]
  have Z:j<q.size:=by rw[hp.1];omega
  have X:i<q.size:=by omega
  have:=hu i j Y (by omega);unfold ky at this;simpa [acv,X,Z] using this
end
end ST
namespace DI
open PySem L2
section
variable {X:Cx} {Ξ:Wd->aY->Prop} {a e tg:ħ} {p pos:Pos} {f:acC D} {fa:acC (List D)}
noncomputable def Zd (n:Nat):List D:=(Ć n).map λi:Nat=>D.int ((n:Int)-1-i)
def iRv (fa:acC (List D)):acC (List D):=λenv s=>ak (fa env s) λZ s=>match Z with
 | [.int j]=>if (kA j&&decide (0<=j))=true then ok (Zd j.toNat) s else none
 |_=>none
end
end DI
namespace L2
open PySem PySem.Spec PyProof.Rows
structure K5 (sc:ο) (cl hU:List (Str×Ù)) (C:Nat) (h:Ĳ):Prop where
 old:∀n c,hU.lookup n=some c->(C<c/\(n,NameKind.cell)∈sc.names/\∃v,h.IsCell c v)\/cl.lookup n=some c
 own:∀n,sc.names.lookup n=some .cell\/(cl.lookup n).isSome=true->∃c,hU.lookup n=some c
 inj:(∀x y c,cl.lookup x=some c->cl.lookup y=some c->x=y)->(∀x c,cl.lookup x=some c->c<C)->∀x y c,hU.lookup x=some c->hU.lookup y=some c->x=y
theorem A4:∀(names:List (Str×Ť)) (n:Nat) (acc:List (Str×Ù)),(aaV n names acc).lookup x=some c->((x,NameKind.cell)∈names/\n<=c)\/acc.lookup x=some c
 | [],n,acc,h=>.inr h
 |(y,k)::r,n,acc,h=>by
  unfold aaV at h;split at h
  ·rename_i Z
   have Z:k=.cell:=by simpa using Z
   subst Z
   rcases A4 r (n+1) _ h with ⟨h1,Y⟩|h1
   ·exact .inl ⟨Ê _ h1,by omega⟩
   ·rw[ģ] at h1
    split at h1
    ·rename_i e
     have e:x=y:=by simpa using e
     subst e;cases h1;exact .inl ⟨Ð,acG _⟩
    ·exact .inr h1
  ·rcases A4 r n acc h with ⟨h1,Y⟩|h1
   ·exact .inl ⟨Ê _ h1,Y⟩
   ·exact .inr h1
theorem A5:∀(names:List (Str×Ť)) (n:Nat) (acc:List (Str×Ù)),(∀x y c,acc.lookup x=some c->acc.lookup y=some c->x=y)->(∀x c,acc.lookup x=some c->c<n)->∀x y c,(aaV n names acc).lookup x=some c->(aaV n names acc).lookup y=some c->x=y
 | [],n,acc,hi,X=>hi
 |(z,k)::r,n,acc,hi,X=>by
  unfold aaV;split
  ·refine A5 r (n+1) _ (λx y c Z Y=>?_) λx c Z=>?_
   ·rw[ģ] at Z Y
    split at Z
    ·rename_i e1
     split at Y
     ·rename_i e2
      exact(by simpa using e1:x=z).trans (by simpa using e2:y=z).symm
     ·cases Z
      exact absurd (X y _ Y) (ë _)
    ·split at Y
     ·cases Y
      exact absurd (X x _ Z) (ë _)
     ·exact hi x y c Z Y
   ·rw[ģ] at Z
    split at Z
    ·cases Z;exact Ż _
    ·exact Ħ (X x c Z)
  ·exact A5 r n acc hi X
theorem Bw {lo:Nat}:∀(names:List (Str×Ť)) (h:Ĳ) (acc:List (Str×Ù)),lo<=h.objs.size->(∀x c,acc.lookup x=some c->lo<=c->h.IsCell c none)->(aaV h.objs.size names acc).lookup x=some c->lo<=c->(pushCells h names).IsCell c none
 | [],h,acc,_,Z,e,Y=>Z x c e Y
 |(z,k)::r,h,acc,V,Z,e,Y=>by
  unfold aaV at e;unfold pushCells;split at e
  ·rename_i W
   rw[ã W];have U:(h.push { cls:=.type "cell",data:=.cell none }).objs.size=h.objs.size+1:=Ċ ..;refine Bw (lo:=lo) r _ ((z,h.objs.size)::acc) (by omega) (λy d X T=>?_) (by rw[U];exact e) Y;rw[ģ] at X;split at X
   ·cases X
    exact⟨_,Ô _ rfl,rfl⟩
   ·exact(Z y d X T).keeps λb o q=>Á _ q
  ·rename_i W
   rw[í W];exact Bw r h acc V Z e Y
def O4 {E:Ç->Ä->Prop} {Q:Env->Ä->Prop}
 (hQ:∀hU h3,((∀x c,cl.lookup x=some c->c<s.heap.objs.size)->K5 scope cl hU s.heap.objs.size h3)->h3.Ns s.heap.objs.size (λ_=>none)->(∀b o,s.heap.get? b=some o->h3.get? b=some o)->Q (newEnv scope s.heap.objs.size globals hU qual none .none (some env) bi) { s with heap:=h3 }) :
  Ý M A (newFunctionEnv scope globals cl [] qual none .none (some env) bi) Q E s:=by
 simp only[newFunctionEnv,Option.isSome_some,Ā];refine À (wpAny_alloc ?_)
 refine À (wpAny_layCells _ (λname kind cells=>by cases Z:kind==NameKind.cell<;>simp[Z]) _ _ _ _ ?_)
 rw[show ({ s with heap:=s.heap.push { cls:=.type "dict",data:=.dict #[] } }:Ä).heap.objs.size=s.heap.objs.size+1 from Ċ ..]
 simp only[List.forIn_nil];refine À (Â (Â ?_));have Y:(s.heap.push { cls:=.type "dict",data:=.dict #[] }).objs.size=s.heap.objs.size+1:=Ċ ..;refine hQ (aaV (s.heap.objs.size+1) scope.names cl) _ (λX=>⟨λn c e=>?_,λn W=>?_,λhi V=>A5 _ _ _ hi λx c e=>Ħ (V x c e)⟩) ((Heap.Ns.new s.heap (.type "dict")).keeps (pushCells_keeps _ _)) λb o e=>pushCells_keeps _ _ b o (Á _ e)
 ·rcases A4 _ _ _ e with ⟨h1,U⟩|h1
  ·exact .inl ⟨by omega,h1,none,Bw (lo:=s.heap.objs.size+1) scope.names _ cl (by omega) (λx d q T=>absurd (X x d q) (Nat.not_lt.mpr (Nat.le_of_succ_le T))) (by rw[Y];exact e) U⟩
  ·exact .inr h1
 ·exact abd.mp (abC scope.names _ cl W)
abbrev fB (X:Cx) (N:List Str) (sc:ο) (cl:List (Str×Ù)) (C:Ù) (s:Ä) (H:Hp) (ex:List Ù) (pn:List (Ù×Obj)):Cx:={ eh X N sc cl C s H ex pn with fn:=λx=>sc.names.lookup x==some .cell }
structure pM (X:Cx) (sc:ο) (N:List Str) (nt:Nat) (cap:List Nat):Prop where
 kind:sc.kind=.function
 names:∀x∈sc.names,x.2=.local->sc.names.lookup x.1=some .local
 cells:∀x∈sc.names,x.2=.cell->sc.names.lookup x.1=some .cell
 frees:∀x∈sc.names,x.2=.free->sc.names.lookup x.1=some .free/\(X.env.scope.names.lookup x.1=some .cell\/X.env.scope.names.lookup x.1=some .free)
 len:N.length=nt+cap.length
 Ed:∀(k:Nat) j,cap[k]?=some j->∃x,X.N[j]?=some x/\N[nt+k]?=some x/\(x,ê)∈sc.names
section
variable {X:Cx} {sc:ο} {N:List Str} {nt:Nat} {cap:List Nat} {cl hU:List (Str×Ù)} {s:Ä} {h1:Ĳ} {H:Hp} {σ:St} {π:List (Ù×Obj)} {fp:List Ù} {C:Ù} {t':Nat}
def Inv.Xm (I:Inv X π σ H s) (S:pM X sc N nt cap) (cS:∀n c,cl.lookup n=some c↔((n,ê)∈sc.names/\X.env.cells.lookup n=some c)) (ik:K5 sc cl hU C h1) (hf:∀b∈fp,fU X π H b) (fZ:∀b∈fp,b<s.heap.objs.size)
  (hk:∀b o,s.heap.get? b=some o->h1.get? b=some o) (hC:s.heap.objs.size<=C) (oI:∃m,h1.Ns C m):Inv (fB X N sc hU C s H fp (X.pn++π)) [] (lC nt cap σ) H { s with heap:=h1,toks:=t' }:=by
 have M:∀b∈cw X.stack,b∈X.env.locals::X.fs:=I.ki;have R:∀x c,cl.lookup x=some c->c<s.heap.objs.size:=λx c e=>by
  obtain⟨v,o,V,_⟩:=I.cell x c ((cS x c).mp e).2;exact Î V
 have G:∀x,(relabel sc X.env).names.lookup x=some .cell\/(relabel sc X.env).names.lookup x=some .free->(x,ê)∈sc.names\/sc.names.lookup x=some .cell:=λx Z=>by
  rw[xp] at Z
  cases e:sc.names.lookup x with
  |none=>rw[e] at Z;rcases Z with z|z<;>cases z
  |some k =>
   have hm:(x,k)∈sc.names:=by
    obtain⟨l1,l2,e1,_⟩:=List.lookup_eq_some_iff.mp e;rw[e1];simp
   rw[e] at Z
   cases k with
   |free=>exact .inl hm
   |cell=>exact .inr rfl
   |_=>exfalso;revert Z;simp
 have F:∀x,(x,ê)∈sc.names->∃c,X.env.cells.lookup x=some c:=λx Z=>I.ok.has x (S.frees _ Z rfl).2;have L:∀x c,(x,ê)∈sc.names->X.env.cells.lookup x=some c->hU.lookup x=some c:=λx c Z Q=>by
  have e:=(cS x c).mpr ⟨Z,Q⟩;obtain⟨d,hd⟩:=ik.own x (.inr (by rw[e];rfl))
  rcases ik.old x d hd with ⟨_,q,_⟩|q
  ·have T:=S.cells _ q rfl
   have W:=(S.frees _ Z rfl).1;dsimp only at T W;rw[T] at W;cases W
  ·rw[e] at q
   cases q;exact hd
 have ok:Cx.Ok (fB X N sc hU C s H fp (X.pn++π)):=by
  refine⟨I.ok.mod,?_,I.ok.glob,I.ok.blt,hC,?_,?_,?_,I.ok.hd,I.ok.frames,.inl rfl,?_,I.bs,Þ I.ok.jo I.sz,?_,?_,I.stack,I.uA⟩
  ·exact S.kind
  ·exact ik.inj (λx y c Z E=>I.ok.inj x y c ((cS x c).mp Z).2 ((cS y c).mp E).2) λx c e=>È (R x c e) hC
  ·intro x Z
   rcases G x Z with hm|hm
   ·obtain⟨c,e⟩:=F x hm
    exact⟨c,L x c hm e⟩
   ·exact ik.own x (.inl hm)
  ·intro x c Z e
   rcases ik.old x c e with ⟨q,_,_⟩|q
   ·exact Þ hC (Nat.le_of_lt q)
   ·have W:=(S.frees _ ((cS x c).mp q).1 rfl).1
    have T:sc.names.lookup x=some .cell:=by simpa using Z
    dsimp only at W;rw[T] at W;cases W
  ·intro b Y
   refine⟨à (È (fZ b Y) hC),λx c e=>?_⟩
   rcases ik.old x c e with ⟨q,_,_⟩|q
   ·exact ş (È (fZ b Y) (Þ hC (Nat.le_of_lt q)))
   ·exact(hf b Y).2.2.2.2.1 x c ((cS x c).mp q).2
  ·intro b o e Y
   rcases(hf b Y).2.2.2.1 with z|z
   ·exact I.ok.ow b o e z
   ·exact absurd (È (Î e) (Þ I.ok.jo z)) (ë _)
  ·intro b Y z
   rcases Ò.mp (M b z) with e|e
   ·exact(hf b Y).2.1 e
   ·exact(hf b Y).2.2.1 e
 obtain⟨m,hm⟩:=oI;obtain⟨mX,D,B⟩:=I.loc;refine⟨ok,rfl,I.bare,Un.kept hk,⟨m,hm,λi x v e1 e2 e3=>?_⟩,λx c e=>?_,I.aE.fresh hC,λx c e=>?_,λp A=>?_,I.aE.kept hk,?_⟩
 ·
  have hi:nt<=i:=by
   apply Ÿ;intro K;have:(lC nt cap σ)[i]?=some none:=by
    unfold lC;rw[Ü (by simpa using K),Ģ,ã K]
   rw[this] at e2;cases e2
  have U:(cap.map λj=>(σ[j]?).getD none)[i-nt]?=some (some v):=by
   have e:=e2;unfold lC at e;rw[ð (by simpa using hi)] at e;simpa using e
  rw[ç] at U
  cases P:cap[i-nt]? with
  |none=>rw[P] at U;cases U
  |some j =>
   rw[P] at U;have ev:(σ[j]?).getD none=some v:=acH U;have w:σ[j]?=some (some v):=by
    cases q:σ[j]? with
    |none=>rw[q] at ev;cases ev
    |some z=>rw[q] at ev;exact ň some ev
   obtain⟨y,f1,f2,J⟩:=S.Ed _ _ P;rw[Nat.add_sub_cancel' hi] at f2;have t:y=x:=acH (f2.symm.trans e1);subst t;obtain⟨g1,g2⟩:=S.frees _ J rfl;have h:oG X.env.scope y:=.inr g2;obtain⟨u,r,l⟩:=B j y v f1 w h;refine⟨u,r,.inr ⟨?_,?_⟩⟩
   ·show (relabel sc X.env).names.lookup y=some .cell\/(relabel sc X.env).names.lookup y=some .free
    rw[xp,g1];simp only[Ũ];split
    ·exact .inl rfl
    ·exact .inr rfl
   ·rcases l with ⟨k,_⟩ | ⟨_,c,Q,g⟩
    ·exfalso
     have f:X.env.scope.names.lookup y=some .local:=k;dsimp only at g2;rw[f] at g2
     rcases g2 with z|z<;>cases z
    ·obtain⟨O,V,hd⟩:=g
     exact⟨c,L y c J Q,O,hk _ _ V,hd⟩
 ·rcases ik.old x c e with ⟨_,_,q⟩|q
  ·exact q
  ·obtain⟨v,O,V,hd⟩:=I.cell x c ((cS x c).mp q).2
   exact⟨v,O,hk _ _ V,hd⟩
 ·rcases ik.old x c e with ⟨q,_,_⟩|q
  ·exact I.aE.fresh (by omega)
  ·exact I.iU x c ((cS x c).mp q).2
 ·have a:p∈X.pn++π:=by simpa using A
  obtain⟨e,n,ne,nf,d⟩:=I.pin p a;refine⟨hk _ _ e,n,à (È (Î e) hC),λz=>?_,d⟩
  rcases Ò.mp (M p.1 z) with q|q
  ·exact ne q
  ·exact nf q
 ·unfold lC
  rw[ó,Ĉ,Í];exact S.len.symm
end
structure Md (P:ä) (w:ù) (E el tg src:ħ) (tests:List ħ) (new:Sem Ç) (ap:String) (mk:Ù->List V->HO) (kR:List V->Prop) where
 o0:Obj
 live:o0.isFreed=false
 Ac:Ù->List V->Ĳ->Prop
 clauses:clausesOf E=[⟨tg,src,tests,0⟩]
 turns:∀{A:ì} {R:Result->Ä->Prop} {s:Ä} {gW av:Ç} {ce:Env} (J:Nat->Ä->Prop)
  (turn:∀n s,J n s->Ý (â P w) A (δ gW) (λr s1=>match r with
   |none=>R (.ok .next) s1
   |some v=>Ý (â P w) A (Ŕ tg gW v) (λ_ s2=>Ý (â P w) A (ab6 tg ce v) (λ_ s3 =>
     Ý (â P w) A (forIn tests true λc r=>if r=true then do let ok <- isTrue c ce (ō c ce);pure (ĺ ok) else pure (ĺ r)) (λok s4 =>
      if ok=true then Ý (â P w) A (ō el ce) (λy s5=>Ý (â P w) A (call (.builtin ap) [av,y]) (λ_ s6=>∃m,m<n/\J m s6) (λ_ _=>False) s5) (λ_ _=>False) s4
      else ∃m,m<n/\J m s4) (λ_ _=>False) s3) (λ_ _=>False) s2) (λ_ _=>False) s1) (λ_ _=>False) s)
  (n:Nat) (_:J n s),η (â P w) A (.compLoop E 0 gW av ce) R s
 new:∀{A:ì} {X:Ç->Ä->Prop} {s:Ä} {Q:Ç->Ä->Prop},Q (.ref s.heap.objs.size) { s with heap:=s.heap.push o0 }->Ý (â P w) A new Q X s
 start:∀{A:ì} {R:Result->Ä->Prop} {s:Ä} {it acc:Ç} {env:Env},η (â P w) A (.compLoop E 0 it acc env) R s->Ý (â P w) A (pyIter it) (λmq s'=>η (â P w) A (.compLoop E 0 mq acc env) R s') (notedBy (â P w) A env λx s'=>R (.error x) s') s->η (â P w) A (.compStart E 0 it acc env) R s
 init:∀{D:Ù} {h:Ĳ},h.get? D=some o0->Ac D [] h
 obj:∀{D:Ù} {acc:List V} {h:Ĳ},Ac D acc h->∃o,h.get? D=some o/\∀v,o.data≠.cell v
 dY:∀{D:Ù} {acc:List V} {h h':Ĳ},Ac D acc h->(∀o,h.get? D=some o->h'.get? D=some o)->Ac D acc h'
 K6:∀{D:Ù} {acc:List V} {h:Ĳ} {H:Hp},kR acc->Ac D acc h->cC P w (upd H D (mk D acc)) h D (mk D acc)
 add:∀{A:ì} {s:Ä} {D:Ù} {acc:List V} {v:V} {y:Ç} {Q:Ç->Ä->Prop},Ac D acc s.heap->RelV v y->kR acc->kR (acc++[v])->(∀h' tk,ī D s.heap h'->Ac D (acc++[v]) h'->Q .none { s with heap:=h',toks:=tk })->Ý (â P w) A (call (.builtin ap) [.ref D,y]) Q (λ_ _=>False) s
section
variable {X:Cx}
def HP {E el tg src:ħ} {tests:List ħ} {sc:ο} {N:List Str} {nt:Nat} {cap:List Nat} {wi:TI} {g:TG} {tf:TT} {te:TE} {p1:Pos} {use:Option (Ç->Sem Unit)} {R:Ç->Ä->Prop} {π:List (Ù×Obj)} {s:Ä} {σ:St} {H:Hp} {Q:VK} {new:Sem Ç} {ap:String} {mk:Ù->List V->HO} {kR:List V->Prop} (B:Md X.prog X.w E el tg src tests new ap mk kR) (hc:X.calm=true) (S:pM X sc N nt cap) (gY:nB g nt) (hi:PI X tg src wi)
  (hY:∀(cl:List (Str×Ù)) (C:Ù) (s:Ä) (H:Hp) (ex:List Ù) (pn:List (Ù×Obj)),PG (fB X N sc cl C s H ex pn) tg g/\PF (fB X N sc cl C s H ex pn) tests tf/\PE (fB X N sc cl C s H ex pn) el te)
  (hs:∀x,ÿ src X.env x=pure x) (I:Inv X π σ H s) (h:wi σ H λJ H1=>Nw mk kR J nt (mQ cap σ) g tf te H1 Q)
  (El:∀(s':Ä) (H1:Hp) (D C:Ù) (m:Str->Option Ç),(∀h',ī C s'.heap h'->Inv X π σ H1 { s' with heap:=h' })->s'.heap.Ns C m->H1 C=none->C≠X.env.locals->C∉X.fs->X.cQ.heap.objs.size<=C->(∀x c,X.env.cells.lookup x=some c->c≠C)->(∀p∈X.pn++π,p.1≠C)->Q (.ref D) H1->compPost (â X.prog X.w) X.A X.xe use R (.ref D) C (.ok .next) s') :
  Ý (â X.prog X.w) X.A (comprehension E sc X.env p1 new false (ō src X.env) use) R X.xe s:=by
 obtain⟨cl,Dv,cS⟩:=KG (env:=X.env) (sc:=sc) λn hn=>I.ok.has n (S.frees _ hn rfl).2;refine wpAny_comprehension_free (use:=use) B.clauses hs Dv S.kind S.names (aI (hi π s σ H _ I h) λxv s1 h1=>aI h1 λgW k h2=>?_);obtain⟨it,t,tn,J,H2,e,M,T,cF,f2,W,⟨m0,w0⟩,turn⟩:=h2;subst e;refine B.new (O4 λhU h3 j kL oO=>?_);dsimp only at j kL oO |-;generalize hD:k.heap.objs.size=D at j kL oO |-;generalize hG:k.heap.push B.o0=G at j kL oO |-;generalize Fo:G.objs.size=C at j kL oO |-;have hC:C=D+1:=by rw[<- Fo,<- hG,Ċ,hD]
 have qK:D≠C:=by omega
 have d:k.heap.objs.size<=D:=Nat.le_of_eq hD;have l:k.heap.objs.size<=C:=by omega
 have old:∀b o,k.heap.get? b=some o->h3.get? b=some o:=λb o e=>oO b o (hG ▸ Á _ e);have lL:B.Ac D [] h3:=B.init (oO _ _ (hG ▸ hD ▸ Ô _ B.live));have fZ:∀b∈t,b<k.heap.objs.size:=λb P=>by
  obtain⟨o,e,_⟩:=T.obj _ _ cF b P;exact Î e
 have j:=j λx c e=>by
  obtain⟨v,o,ho,_⟩:=M.cell x c ((cS x c).mp e).2;exact È (Î ho) l
 have IB:=M.Xm (t':=k.toks) S cS j f2 fZ old l ⟨_,kL⟩;have Fp:D∉cw X.stack:=λz=>by
  rcases Ò.mp (M.ki D z) with e|e
  ·exact absurd (È M.lt d) (by rw[e];exact ë _)
  ·exact M.vC d e
 have nF:D∉t:=λz=>absurd (È (fZ D z) d) (ë _);have CF:∀x c,hU.lookup x=some c->c≠D:=λx c e z=>by
  rcases j.old x c e with ⟨q,_,_⟩|e
  ·rw[z] at q
   exact absurd q (by rw[hC];exact Nat.not_lt.mpr (abb D))
  ·obtain⟨v,o,ho,_⟩:=M.cell x c ((cS x c).mp e).2
   exact absurd (È (Î ho) (by rw[z];exact d)) (ë _)
 have Dw:∀p∈X.pn++π,p.1≠D:=λp L z=>absurd (È (Î (M.pin p L).1) (by rw[z];exact d)) (ë _);generalize O:fB X N sc hU C k H2 t (X.pn++π)=Y at IB;have nG:∀{U:Hp} {pl:List (Ù×Obj)},(∀b∈t,U b=none)->(∀p∈pl,p.1∉t)->∀b∈t,fU Y pl U b:=λ{U pl} hn L b P=>by
  subst O;obtain⟨_,f1,qI,f3,f4,f5⟩:=f2 b P;refine⟨hn b P,à (È (fZ b P) l),λz=>?_,.inl P,λx c e=>(j.old x c e).elim (λq z=>ş (È (fZ b P) (Þ l (Nat.le_of_lt q.1))) z) λe=>f4 x c ((cS x c).mp e).2,λp wN=>?_⟩
  ·rcases Ò.mp (M.ki b z) with e|e
   ·exact f1 e
   ·exact qI e
  ·rcases è.mp wN with z|z
   ·exact f5 p z
   ·exact λe=>L p z (e ▸ P)
 have Fq:PG Y tg g:=by subst O;exact(hY _ _ _ _ _ _).1
 have Fs:PF Y tests tf:=by subst O;exact(hY _ _ _ _ _ _).2.1
 have hE1:PE Y el te:=by subst O;exact(hY _ _ _ _ _ _).2.2
 have eP:Y.prog=X.prog:=by subst O;rfl
 have eW:Y.w=X.w:=by subst O;rfl
 have eA:Y.A=X.A:=by subst O;rfl
 have eK:Y.K=X.K:=by subst O;rfl
 have eE:Y.env=compEnvC sc hU C X.env:=by subst O;rfl
 have eX:Y.xe=λ_ _=>False:=by subst O;rfl
 have eC:Y.calm=true:=by subst O;exact hc
 have eS:Y.cQ.heap.objs.size<=D:=by subst O;exact d
 have eF:D∉Y.fs:=by subst O;exact Fp
 have eL:D≠Y.env.locals:=by subst O;exact qK
 have eCl:∀x c,Y.env.cells.lookup x=some c->c≠D:=by subst O;exact CF
 have eN:∀p∈Y.pn,p.1≠D:=by subst O;exact Dw
 have fin:∀(s':Ä) (a:St) (U:Hp) (Z:List V),Inv Y [] a U s'->B.Ac D Z s'.heap->U D=none->kR Z->(∀D,U D=none->Q (.ref D) (upd U D (mk D Z))) ->
   compPost (â X.prog X.w) X.A X.xe use R (.ref D) C (.ok .next) s':=by
  intro s' a U Z F pl hn hz q;subst O;obtain⟨m,hm,_⟩:=id F.loc;refine El s' (upd U D (mk D Z)) D C m (λh' sb=>?_) hm ?_ (λz=>absurd (È M.lt l) (by rw[z];exact ë _)) (M.vC l) (Þ M.sz l) (λx c e z=>?_) (λp L z=>absurd (È (Î (M.pin p L).1) (by rw[z];exact l)) (ë _)) (q D hn)
  ·have Er:cf X.prog X.w U h':=F.aE.but F.free sb
   have u:=(F.base.but l sb).adopt (o:=mk D Z) d hn
   refine M.u7 (s':={ s' with heap:=h' }) (ch:=t) F.os u (Er.adopt hn (B.K6 hz (B.dY pl λo e=>(sb.2 D qK).trans e))) F.bare (λb P=>?_)
   obtain⟨_,f1,_,f3,f4,f5⟩:=f2 b P;exact⟨f3,f1,f4,f5⟩
  ·rw[aV (Ŀ qK)]
   exact F.free
  ·obtain⟨v,o,dS,_⟩:=M.cell x c e
   exact absurd (È (Î dS) (by rw[z];exact l)) (ë _)
 have loop:η (â X.prog X.w) X.A (.compLoop E 0 (.ref it) (.ref D) (compEnvC sc hU C X.env)) (compPost (â X.prog X.w) X.A X.xe use R (.ref D) C)
   { k with heap:=h3 }:=by
  refine B.turns (λn s'=>∃i Z o U,Inv Y [] (o++mQ cap σ) U s'/\o.length=nt/\tn i s'.heap/\(∀b∈t,U b=none)/\B.Ac D Z s'.heap/\U D=none/\W i n Z U) ?_ m0
   ⟨0,[],Å nt none,H2,IB,by simp,T.keep _ _ _ cF λb _ o e=>old b o e,λb P=>(f2 b P).1,lL,M.aE.fresh d,w0⟩
  rintro n s3 ⟨i,Z,o3,H3,I3,NM,iH,oH,NN,nD3,w3⟩;generalize hτ:o3++mQ cap σ=a at I3;obtain⟨f,ho,Ze⟩:=B.obj NN;have wO:Inv Y [(D,f)] a H3 s3:=I3.mF λp L=>by
   have e:p=(D,f):=by simpa using L
   subst e;exact⟨ho,nD3,eL,eF,Ze⟩
  have qJ:∀p∈[(D,f)],p.1∉t:=λp L=>by
   have e:p=(D,f):=by simpa using L
   subst e;exact nF
  have tF:∀{pl:List (Ù×Obj)} {cZ:St} {U:Hp} {s':Ä},Inv Y ([(D,f)]++pl) cZ U s'->B.Ac D Z s'.heap/\U D=none:=λ{pl cZ U s'} F=>by
   have q:=F.pin (D,f) (Ñ _ (þ _ (by simp)));exact⟨B.dY NN λo e=>by rw[ho] at e;cases e;exact q.1,q.2.1⟩
  rcases turn i n Z H3 w3 with ⟨stop,hz,q⟩ | ⟨go,hz,N',hN,step⟩
  ·have hd:=T.done Y eP eW eK eC i [(D,f)] s3 a H3 (λ_ _=>False) wO (nG oH qJ) iH stop
   rw[eA] at hd;refine aI hd λr s4 h4=>?_;obtain⟨hr,I4⟩:=h4;subst hr;obtain⟨Fm,n4⟩:=tF (pl:=[]) (by simpa using I4);exact fin s4 a H3 Z (Inv.mC (π:=[]) I4) Fm n4 hz q
  ·have hd:=T.item Y eP eW eK eC i [(D,f)] s3 a H3 (λ_ _=>False) wO (nG oH qJ) iH go
   rw[eA] at hd;refine aI hd λr s4 h4=>?_;obtain⟨u,hr,h4⟩:=h4;subst hr;refine aI h4 λ_ s5 h5=>?_;obtain⟨x,H5,I5,r5,y5,i8,we⟩:=h5;have wg:=I5.pinned (nG we qJ) (T.obj _ _ i8);have q5:=Fq _ s5 a H5 x u _ wg r5 (hτ ▸ gY x o3 _ H5 _ NM (step o3 x H5 NM y5));rw[eP,eW,eA,eE,eX] at q5;refine aI q5 λ_ s6 h6=>?_;obtain⟨tG,H6,I6,⟨o6,wQ,zy⟩,q6⟩:=h6;have q7:=Fs _ s6 tG H6 _ I6 q6;rw[eP,eW,eA,eE,eX] at q7;refine aI q7 λb s7 h7=>?_;obtain⟨H7,I7,q7⟩:=h7;have vN:∀{cZ:St} {U:Hp} {s':Ä},Inv Y ([(D,f)]++nZ t s5.heap) cZ U s'->tn (i+1) s'.heap/\∀b∈t,U b=none:=λ{cZ U s'} F=>by
    refine⟨T.keep _ _ _ i8 λb P o e=>(F.pin (b,o) (Ñ _ (Ñ _ (qY P e)))).1,λb P=>?_⟩;obtain⟨o,e,_⟩:=T.obj _ _ i8 b P;exact(F.pin (b,o) (Ñ _ (Ñ _ (qY P e)))).2.1
   cases b with
   |false =>
    rw[í Û] at q7 |-;obtain⟨m',hm,w7⟩:=hN _ _ q7;obtain⟨zU,n7⟩:=tF I7;obtain⟨t7,f7⟩:=vN I7;exact⟨m',hm,i+1,Z,o6,H7,zy ▸ I7.mF (λp L=>by simp at L),wQ,t7,f7,zU,n7,w7⟩
   |true =>
    rw[ã rfl] at q7 |-;have q8:=hE1 _ s7 tG H7 _ I7 q7;rw[eP,eW,eA,eE,eX] at q8;refine aI q8 λy s8 h8=>?_;obtain⟨v,H8,I8,r8,q9⟩:=h8;obtain⟨m',hm,w8⟩:=hN _ _ q9;obtain⟨Fg,n8⟩:=tF I8;obtain⟨t8,f8⟩:=vN I8;have gb:kR (Z++[v]):=by
     rcases turn (i+1) m' (Z++[v]) H8 w8 with q|q
     ·exact q.2.1
     ·exact q.2.1
    refine B.add Fg r8 hz gb λh9 tk9 zT Fh=>?_;have Fi:Inv Y [] tG H8 s8:=I8.mF (λp L=>by simp at L)
    have I9:Inv Y [] tG H8 { s8 with heap:=h9,toks:=tk9 }:=Fi.turned (it:=D) (λb o P e=>(zT.2 b P).trans e) n8 eL (.inr eS) eCl (λp L=>eN p (by simpa using L))
    exact⟨m',hm,i+1,Z++[v],o6,H8,zy ▸ I9,wQ,T.keep _ _ _ t8 λb P o e=>(zT.2 b (λz=>nF (z ▸ P))).trans e,f8,Fh,n8,w8⟩
 exact B.start loop (T.self _ _ _ _ _ (T.keep _ _ _ cF λb _ o e=>old b o e) loop)
def MT {P:ä} {w:ù} {el tg src:ħ} {tests:List ħ} {sc:ο} {ps:Pos}:Md P w (.ListComp el [⟨tg,src,tests,0⟩] sc ps) el tg src tests (newList []) "list.append" (λ_ acc=>.lst acc) (λacc=>acc.length<=Ø) where
 o0:={ cls:=.type "list",dict:=none,data:=.seq ([]:List Ç).toArray }
 live:=rfl
 Ac:=λD acc h=>∃Z,h.PlainList D Z/\Vals acc Z.toList
 clauses:=rfl
 turns:=Qz
 new:=λh=>ï h
 start:=codeAny_compStart_list
 init:=λe=>⟨#[],⟨_,e⟩,.nil⟩
 obj:=λ⟨_,⟨_,e⟩,_⟩=>⟨_,e,λ_ z=>by cases z⟩
 dY:=λ⟨Z,⟨n,e⟩,r⟩ k=>⟨Z,⟨n,k _ e⟩,r⟩
 K6:=λX ⟨Z,⟨n,e⟩,r⟩=>⟨X,Z.toList,n,r,by simpa using e⟩
 add:=λ{A s D acc v y Q} ⟨Z,W,r⟩ V X _ q=>wpAny_list_append_plain (hsz:=by have e:=r.length;simp only[ñ] at e;omega) W λU Y T=>q U s.toks T ⟨Z.push y,Y,by rw[abK];exact Vals.append r (.cons V .nil)⟩
def TQ (hc:X.calm=true) (S:pM X sc N nt cap) (gY:nB g nt) (hi:PI X tg src wi)
 (hY:∀(cl:List (Str×Ù)) (C:Ù) (s:Ä) (H:Hp) (ex:List Ù) (pn:List (Ù×Obj)),PG (fB X N sc cl C s H ex pn) tg g/\PF (fB X N sc cl C s H ex pn) tests tf/\PE (fB X N sc cl C s H ex pn) el te)
 (hs:∀x,ÿ src X.env x=pure x:=by intro _;rfl):PE X (.ListComp el [⟨tg,src,tests,0⟩] sc ps) (pW wi nt cap g tf te):=by
 intro T s σ H Q I h;rw[eval_ListComp];exact HP MT (use:=none) hc S gY hi hY hs I h λR Z D C m Y W _ _ _ _ _ _ q=>⟨m,W,λV U=>⟨.ref D,Z,Y V U,rfl,q⟩⟩
def TR {el tg src:ħ} {tests:List ħ} {sc:ο} {ps pos pos':Pos} {N:List Str} {nt:Nat} {cap:List Nat} {wi:TI} {g:TG} {tf:TT} {te:TE} {i0:Nat} {x0:Str} (FD:X.N.Nodup) (FE:X.N[i0]?=some x0) (FF:Loc X.env.scope x0) (hc:X.calm=true) (S:pM X sc N nt cap) (gY:nB g nt) (hi:PI X tg src wi)
  (hY:∀(cl:List (Str×Ù)) (C:Ù) (s:Ä) (H:Hp) (ex:List Ù) (pn:List (Ù×Obj)),PG (fB X N sc cl C s H ex pn) tg g/\PF (fB X N sc cl C s H ex pn) tests tf/\PE (fB X N sc cl C s H ex pn) el te)
  (hs:∀x,ÿ src X.env x=pure x:=by intro _;rfl)
  (wW:ace (.ListComp el [⟨tg,src,tests,0⟩] sc ps) (some (.Name x0 pos')) pos.line X.env=pure true:=by rfl)
  (FG:X.fn x0=true\/X.env.scope.names.lookup x0=some .local:=by first|exact .inl rfl|exact .inr rfl|assumption):PS X (.Assign [.Name x0 pos'] (.ListComp el [⟨tg,src,tests,0⟩] sc ps) pos) (sj (pW wi nt cap g tf te) (mO i0)):=by
 intro W s σ H V I h;rw[exec_Assign_Name_used _ _ _ _ wW];refine À (Ű (À ?_));obtain⟨Q,L⟩:∃Q:VK,Q=λv Z=>mO i0 v σ Z V.nx:=⟨_,rfl⟩;have h:pW wi nt cap g tf te σ H Q:=by rw[L];exact h
 have B:∀v Z,Q v Z->V.nx (σ.set i0 (some v)) Z:=λv Z q=>by rw[L] at q;exact q
 unfold evalThenUse
 refine À (Ę (Q:=λ_ Y=>SP X W V .next Y) ?_ (λ_ Y q=>Â (Â q)) (λ_ _ z=>z))
 refine HP MT (use:=some (ab6 (.Name x0 pos') X.env)) hc S gY hi hY hs I h λY Z D C m A y K J U w u T q=>?_;have G:Inv X W σ Z Y:=A Y.heap (Heap.SameBut.refl _ _);obtain⟨R,t,r,P,F,n⟩:=id y;have l:Inv X ((C,R)::W) σ Z Y:=G.mF λp O=>by
  rcases Ò.mp O with e|e
  ·subst e
   exact⟨P,K,J,U,λv z=>by rw[F] at z;cases z⟩
  ·exact G.pin p (Ñ _ e)
 show Ý _ _ (ab6 (.Name x0 pos') X.env (.ref D)) _ _ Y;refine wpAny_assign_Name (mB l FD FE FF (show RelV (.ref D) (.ref D) from rfl) (λE M=>?_) FG);have k:=(M.pin (C,R) (Ñ _ (Ð ..))).1;refine⟨m,⟨R,t,r,k,F,n⟩,λd j=>⟨_,Z,?_,B _ _ q⟩⟩;have i:Inv X W (σ.set i0 (some (.ref D))) Z E:=M.mF λp O=>M.pin p (Ñ _ (Ê _ O));exact i.turned (it:=C) (t':=E.toks) (λb o f e=>(j.2 b f).trans e) K J (.inr w) u T
end
noncomputable def CK (sc:ο) (on:List (Str×Ť)) (oN N:List Str) (nt:Nat) (cap:List Nat):Bool :=
 decide (sc.kind=.function)&&sc.names.all (λx=>decide (x.2=.local->sc.names.lookup x.1=some .local))&&sc.names.all (λx=>decide (x.2=.cell->sc.names.lookup x.1=some .cell)) &&
 sc.names.all (λx=>decide (x.2=.free->sc.names.lookup x.1=some .free/\(on.lookup x.1=some .cell\/on.lookup x.1=some .free)))&&decide (N.length=nt+cap.length) &&
 (Ć cap.length).all (λk=>match cap[k]? with
  |some j=>match oN[j]? with
   |some x=>decide (N[nt+k]?=some x)&&decide ((x,ê)∈sc.names)
   |none=>false
  |none=>true)
def Dx (h:CK sc X.env.scope.names X.N N nt cap=true):pM X sc N nt cap:=by
 unfold CK at h;simp only[Æ,ø,É] at h;obtain⟨⟨⟨⟨⟨Z,Y⟩,W⟩,V⟩,U⟩,T⟩:=h;refine⟨Z,Y,W,λx S e=>V x S e,U,λk j e=>?_⟩;have R:k<cap.length:=(Ã.mp e).1;have:=T k (Ġ.mpr R);rw[e] at this;dsimp only at this
 cases ex:X.N[j]? with
 |none=>rw[ex] at this;cases this
 |some x =>
  rw[ex] at this;simp only[Æ,É] at this;exact⟨x,rfl,this.1,this.2⟩
end L2
namespace DI
open PySem L2
section
variable {X:Cx} {Ξ:Wd->aY->Prop} {e a b c tg el src:ħ} {es rest tests:List ħ} {pos:Pos} {f g h:acC D} {fa:acC (List D)} {ft gt:acC Bool}
def J2 (hc:X.calm=true) (S:pM X sc N nt cap) (T:Tg X.K g0 gd nt) (hi:PI X tg src (fP X.K Ξ it))
 (hY:∀(cl:List (Str×Ù)) (C:Ù) (s:Ä) (H:Hp) (ex:List Ù) (pn:List (Ù×Obj)),PG (fB X N sc cl C s H ex pn) tg g0/\PF (fB X N sc cl C s H ex pn) tests (tT X.K cm ft)/\PE (fB X N sc cl C s H ex pn) el (tE X.K cm f))
 (hs:∀x,ÿ src X.env x=pure x:=by intro _;rfl):PE X (.ListComp el [⟨tg,src,tests,0⟩] sc ps) (tE X.K Ξ (cj nt cap it gd ft f)) :=
 cA (TQ hc S T.mj hi hY hs) fun σ H Q h=>HL T.imp (λR Z i h=>Je R Z i h) (Jd σ H Q h)
def VD {sc:ο} {ps pos':Pos} {N:List Str} {nt:Nat} {cap:List Nat} {it:acC (List D)} {gd:D->Env->Option Env} {g0:TG} (i0:Nat) {x0:Str} (FD:X.N.Nodup) (hc:X.calm=true) (S:pM X sc N nt cap) (T:Tg X.K g0 gd nt) (hi:PI X tg src (fP X.K Ξ it))
  (hY:∀(cl:List (Str×Ù)) (C:Ù) (s:Ä) (H:Hp) (ex:List Ù) (pn:List (Ù×Obj)),PG (fB X N sc cl C s H ex pn) tg g0/\PF (fB X N sc cl C s H ex pn) tests (tT X.K cm ft)/\PE (fB X N sc cl C s H ex pn) el (tE X.K cm f))
  (FE:X.N[i0]?=some x0:=by rfl) (FF:Loc X.env.scope x0:=by first|exact Ź rfl|exact acB rfl)
  (hs:∀x,ÿ src X.env x=pure x:=by intro _;rfl)
  (wW:ace (.ListComp el [⟨tg,src,tests,0⟩] sc ps) (some (.Name x0 pos')) pos.line X.env=pure true:=by rfl)
  (FG:X.fn x0=true\/X.env.scope.names.lookup x0=some .local:=by first|exact .inl rfl|exact .inr rfl):PS X (.Assign [.Name x0 pos'] (.ListComp el [⟨tg,src,tests,0⟩] sc ps) pos) (tS X.K Ξ (aN (cj nt cap it gd ft f) (gN i0))) :=
 jG (TR FD FE FF hc S T.mj hi hY hs wW FG) λD σ H h=>by
  have Z:=Iu (te:=tE X.K Ξ f) D σ H (B7 D σ H h);exact HL T.imp (λR Y i h=>Je R Y i h) (Jd σ H _ Z)
end
end DI
namespace L2
open PySem PySem.Spec PyProof.Rows
section
variable {X:Cx} {tg:ħ}
end
end L2
namespace DI
open PySem L2
section
variable {X:Cx} {Ξ:Wd->aY->Prop} {a b c tg:ħ} {pos:Pos} {fa:acC (List D)}
end
end DI
namespace L2
open PySem PySem.Spec PyProof.Rows
section
variable {X:Cx}
end
end L2
namespace DI
open PySem L2
section
variable {X:Cx} {Ξ:Wd->aY->Prop} {a:ħ} {p pos:Pos} {fa:acC (List D)}
end
section
variable {X:Cx} {Ξ:Wd->aY->Prop} {a:ħ} {p pos:Pos} {f g:acC D} {fa:acC (List D)}
theorem ar.erase:∀{ds:List D} {xs:List V} (j:Nat),ar K w ds xs->ar K w (ds.eraseIdx j) (xs.eraseIdx j)
 | [],xs,j,h=>by
  have e:xs=[]:=h;subst e;exact h
 |d::ds,xs,0,h=>by
  obtain⟨v,r,rfl,_,dr⟩:=h;exact dr
 |d::ds,xs,j+1,h=>by
  obtain⟨v,r,rfl,Z,dr⟩:=h;exact⟨v,r.eraseIdx j,rfl,Z,ar.erase j dr⟩
end
open HT PyProof.Rows
section
variable {X:Cx} {Ξ:Wd->aY->Prop}
def R5 (h:Vals xs us):∀{q:List Nat},(∀i∈q,i<us.length)->Vals (q.map λi=>xs.getD i .au) (q.map λi=>us.getD i Value.none):=by
 intro q
 induction q with
 |nil=>intro _;exact .nil
 |cons i q ih =>
  intro Z;refine .cons ?_ (ih λj Y=>Z j (Ê _ Y));have hi:=Z i Ð;clear ih Z
  induction h generalizing i with
  |nil=>simp at hi
  |cons a _ ih =>
   cases i with
   |zero=>exact a
   |succ i=>simpa using ih i (by simpa using hi)
def TU {K:ę} {w:Wd} {ds:List D} {xs:List V} (h:ar K w ds xs):∀{q:List Nat},(∀i∈q,i<ds.length)->ar K w (q.map λi=>ds.getD i .au) (q.map λi=>xs.getD i .au):=by
 intro q
 induction q with
 |nil=>intro _;exact rfl
 |cons i q ih =>
  intro Z;have hi:=Z i Ð;obtain⟨v,e,Y⟩:=h.get' i _ (Ë hi);refine⟨_,_,rfl,?_,ih λj X=>Z j (Ê _ X)⟩;have e1:ds.getD i .au=ds[i]:=by simp[hi]
  have e2:xs.getD i .au=v:=by simp[e]
  show DV K w (ds.getD i .au) (xs.getD i .au);rw[e1,e2];exact Y
def TV {α:Type} {O:ST.Ord α} {ks:List α} {f:α->D} {d:α} {q:Array Nat} (hp:ST.Pm ks.length q) (hu:ST.Up O (ST.ky (λi=>ks.getD i d) q) ks.length):q.toList.map (λi=>(ks.map f).getD i .au)=(ST.jO O ks).map f:=by
 rw[<- ST.R4 hp hu,ķ];refine aci λi hi=>?_;have:i<ks.length:=Ġ.mp (hp.2.mem_iff.mp hi);simp[this]
end
end DI
namespace TK
open PySem PySem.W PyProof.Rows DI
mutual
noncomputable def kd:D->Bool
 | .int _=>true
 | .str x=>PyData.strOk x
 | .tup Z=>de Z
 |_=>false
noncomputable def de:List D->Bool
 | []=>true
 |k::Z=>kd k&&de Z
end
mutual
def KA (h:Ĳ):D->Ç->Prop
 | .int i,v=>∃t,v=.int i t
 | .str x,v=>∃t,v=.str x t
 | .tup Z,v=>∃a o its n,v=.ref a/\h.get? a=some o/\o.cls=.type "tuple"/\o.data=.seq its n/\df h Z its.toList
 |_,_=>False
def df (h:Ĳ):List D->List Ç->Prop
 | [],Z=>Z=[]
 |k::Y,Z=>∃v r,Z=v::r/\KA h k v/\df h Y r
end
mutual
theorem pN:∀k:D,kd k=true->lay k=true
 | .int _,_=>rfl
 | .str _,h=>h
 | .tup Z,h=>by simp only[kd] at h;simp only[lay];exact xJ Z h
 | .au,h=>by cases h
 | .bl _,h=>by cases h
 | .lst _,h=>by cases h
 | .bA _,h=>by cases h
 | .aj _,h=>by cases h
 | .ty _,h=>by cases h
 | .bK _,h=>by cases h
 | .exc _ _,h=>by cases h
 | .cG _ _ _,h=>by cases h
theorem xJ:∀ks:List D,de ks=true->fx ks=true
 | [],_=>rfl
 |k::ks,h=>by
  simp only[de,fx,Æ] at h |-;exact⟨pN k h.1,xJ ks h.2⟩
end
mutual
theorem rG:∀x y:D,kd x=true->kd y=true->(beq x y=true↔x=y)
 | .int i,.int j,_,_=>by simp[beq]
 | .str i,.str j,_,_=>by simp[beq]
 | .tup Z,.tup Y,h,g=>by
  simp only[kd] at h g;simp only[beq,Bx Z Y h g];exact⟨λe=>by rw[e],λe=>by injection e⟩
 | .int _,.str _,_,_=>by simp[beq]
 | .int _,.tup _,_,_=>by simp[beq]
 | .str _,.int _,_,_=>by simp[beq]
 | .str _,.tup _,_,_=>by simp[beq]
 | .tup _,.int _,_,_=>by simp[beq]
 | .tup _,.str _,_,_=>by simp[beq]
 | .au,_,h,_=>by cases h
 | .bl _,_,h,_=>by cases h
 | .lst _,_,h,_=>by cases h
 | .bA _,_,h,_=>by cases h
 | .aj _,_,h,_=>by cases h
 | .ty _,_,h,_=>by cases h
 | .bK _,_,h,_=>by cases h
 | .exc _ _,_,h,_=>by cases h
 | .cG _ _ _,_,h,_=>by cases h
 |_,.au,_,h=>by cases h
 |_,.bl _,_,h=>by cases h
 |_,.lst _,_,h=>by cases h
 |_,.bA _,_,h=>by cases h
 |_,.aj _,_,h=>by cases h
 |_,.ty _,_,h=>by cases h
 |_,.bK _,_,h=>by cases h
 |_,.exc _ _,_,h=>by cases h
 |_,.cG _ _ _,_,h=>by cases h
theorem Bx:∀xs ys:List D,de xs=true->de ys=true->(iZ xs ys=true↔xs=ys)
 | [],[],_,_=>by simp[iZ]
 | [],_::_,_,_=>by simp[iZ]
 |_::_,[],_,_=>by simp[iZ]
 |x::xs,y::ys,h,g=>by
  simp only[de,Æ] at h g;simp only[iZ,Æ,rG x y h.1 g.1,Bx xs ys h.2 g.2,aby]
end
mutual
theorem KA.reads:∀(k:D) (v:Ç),KA h k v->∃as,Reads h v (py k) as
 | .int i,v,q=>by obtain⟨t,rfl⟩:=q;exact⟨_,.int i t⟩
 | .str x,v,q=>by obtain⟨t,rfl⟩:=q;exact⟨_,.str x t⟩
 | .tup Z,v,q=>by
  simp only[KA] at q;obtain⟨a,o,its,n,rfl,Y,X,W,r⟩:=q;obtain⟨as,r⟩:=df.reads Z _ r;exact⟨as,.tuple Y X W r⟩
 | .au,_,q=>by cases q
 | .bl _,_,q=>by cases q
 | .lst _,_,q=>by cases q
 | .bA _,_,q=>by cases q
 | .aj _,_,q=>by cases q
 | .ty _,_,q=>by cases q
 | .bK _,_,q=>by cases q
 | .exc _ _,_,q=>by cases q
 | .cG _ _ _,_,q=>by cases q
theorem df.reads:∀(ks:List D) (vs:List Ç),df h ks vs->∃as,ReadsAll h vs (bJ ks) as
 | [],vs,q=>by cases q;exact⟨_,.nil⟩
 |k::ks,vs,q=>by
  obtain⟨v,r,rfl,Z,Y⟩:=q;obtain⟨as,Z⟩:=KA.reads k v Z;obtain⟨bs,Y⟩:=df.reads ks r Y;exact⟨_,.cons Z Y⟩
end
def Xn (q:KA h y (.int i t)):y=.int i:=by
 cases y with
 |int j=>obtain⟨_,e⟩:=q;cases e;rfl
 |str j=>obtain⟨_,e⟩:=q;cases e
 |tup Z=>simp only[KA] at q;obtain⟨_,_,_,_,e,_⟩:=q;cases e
 |_=>cases q
def Xo (q:KA h y (.str i t)):y=.str i:=by
 cases y with
 |str j=>obtain⟨_,e⟩:=q;cases e;rfl
 |int j=>obtain⟨_,e⟩:=q;cases e
 |tup Z=>simp only[KA] at q;obtain⟨_,_,_,_,e,_⟩:=q;cases e
 |_=>cases q
def Xp (q:KA h y (.ref a)):∃ks o its n,y=.tup ks/\h.get? a=some o/\o.cls=.type "tuple"/\o.data=.seq its n/\df h ks its.toList:=by
 cases y with
 |str j=>obtain⟨_,e⟩:=q;cases e
 |int j=>obtain⟨_,e⟩:=q;cases e
 |tup ks =>
  simp only[KA] at q;obtain⟨_,o,its,n,e,r⟩:=q;cases e;exact⟨ks,o,its,n,rfl,r⟩
 |_=>cases q
mutual
theorem KA.inj:∀(x y:D) (v:Ç),KA h x v->KA h y v->x=y
 | .int i,y,v,p,q=>by
  obtain⟨t,rfl⟩:=p;exact(Xn q).symm
 | .str i,y,v,p,q=>by
  obtain⟨t,rfl⟩:=p;exact(Xo q).symm
 | .tup Y,y,v,p,q=>by
  simp only[KA] at p;obtain⟨a,o,its,n,rfl,X,S,W,r⟩:=p;obtain⟨R,Q,Z,P,rfl,V,O,U,T⟩:=Xp q;cases X.symm.trans V;cases W.symm.trans U;rw[df.inj Y _ _ r T]
 | .au,_,_,q,_=>by cases q
 | .bl _,_,_,q,_=>by cases q
 | .lst _,_,_,q,_=>by cases q
 | .bA _,_,_,q,_=>by cases q
 | .aj _,_,_,q,_=>by cases q
 | .ty _,_,_,q,_=>by cases q
 | .bK _,_,_,q,_=>by cases q
 | .exc _ _,_,_,q,_=>by cases q
 | .cG _ _ _,_,_,q,_=>by cases q
theorem df.inj:∀(xs ys:List D) (vs:List Ç),df h xs vs->df h ys vs->xs=ys
 | [],ys,vs,p,q=>by
  cases p
  cases ys with
  |nil=>rfl
  |cons y ys=>obtain⟨_,_,e,_⟩:=q;cases e
 |x::xs,ys,vs,p,q=>by
  obtain⟨v,r,rfl,Z,Y⟩:=p
  cases ys with
  |nil=>cases q
  |cons y ys =>
   obtain⟨X,W,e,g1,g2⟩:=q;cases e;rw[KA.inj x y v Z g1,df.inj xs ys r Y g2]
end
mutual
theorem KA.keep (hk:∀a o,h.get? a=some o->o.cls=.type "tuple"->(∃its n,o.data=.seq its n)->h'.get? a=some o):∀(x:D) (v:Ç),KA h x v->KA h' x v
 | .int i,v,p=>p
 | .str i,v,p=>p
 | .tup X,v,p=>by
  simp only[KA] at p |-;obtain⟨a,o,its,n,e,W,Z,Y,r⟩:=p;exact⟨a,o,its,n,e,hk a o W Z ⟨its,n,Y⟩,Z,Y,df.keep hk X _ r⟩
 | .au,_,q=>by cases q
 | .bl _,_,q=>by cases q
 | .lst _,_,q=>by cases q
 | .bA _,_,q=>by cases q
 | .aj _,_,q=>by cases q
 | .ty _,_,q=>by cases q
 | .bK _,_,q=>by cases q
 | .exc _ _,_,q=>by cases q
 | .cG _ _ _,_,q=>by cases q
theorem df.keep (hk:∀a o,h.get? a=some o->o.cls=.type "tuple"->(∃its n,o.data=.seq its n)->h'.get? a=some o):∀(xs:List D) (vs:List Ç),df h xs vs->df h' xs vs
 | [],vs,p=>p
 |x::xs,vs,p=>by
  obtain⟨v,r,e,Z,Y⟩:=p;exact⟨v,r,e,KA.keep hk x v Z,df.keep hk xs r Y⟩
end
def J3 (h:k∈ks):dep k<=dC ks:=by
 induction ks with
 |nil=>cases h
 |cons x Z ih =>
  simp only[dC]
  rcases Ò.mp h with rfl|h
  ·exact abx _ _
  ·exact Þ (ih h) (ż _ _)
mutual
noncomputable def hs (w:ù):D->Int
 | .int i=>hashInt i
 | .str x=>hashStr w x
 | .tup Z=>reduceHash (aa3 (mr w Z))
 |_=>0
noncomputable def mr (w:ù):List D->List Int
 | []=>[]
 |k::Z=>hs w k::mr w Z
end
mutual
noncomputable def dr:D->Nat
 | .int _=>1
 | .str _=>1
 | .tup Z=>lh Z+1
 |_=>0
noncomputable def lh:List D->Nat
 | []=>0
 |k::Z=>dr k+lh Z
end
def J4 (w:ù) (xs ys:List D):mr w (xs++ys)=mr w xs++mr w ys:=by
 induction xs with
 |nil=>rfl
 |cons x xs ih=>simp only[ā,mr,ih]
def J5 (xs ys:List D):lh (xs++ys)=lh xs+lh ys:=by
 induction xs with
 |nil=>simp[lh]
 |cons x xs ih=>simp only[ā,lh,ih,ab9]
section
variable {prog:ä} {w:ù}
def TX (hu:A.units<abh) (ho:s.heap.get? a=some o) (hc:o.cls=.type "tuple") (hd:o.data=.seq items m) (hi:df s.heap ks items.toList)
 (ih:∀k∈ks,∀(A':ì) (s':Ä) (v:Ç) (E':Ç->Ä->Prop) (Q':Int->Ä->Prop),A'.units<=A.units+1->KA s'.heap k v->Q' (hs w k) { s' with toks:=s'.toks+dr k }->Ý (â prog w) A' (pyHash v) Q' E' s')
 (h:Q (hs w (.tup ks)) { s with toks:=s.toks+dr (.tup ks) }):Ý (â prog w) A (pyHash (.ref a)) Q E s:=by
 have Z:s.TypeIs (.ref a) "tuple":=⟨o,ho,hc⟩;unfold pyHash
 first|unfold pyHashByItsType|skip
 first|refine À (wpAny_cRoomFor_or (.inr hu) ?_)|skip
 refine À (abr Z abM.lookup ?_)
 show Ý _ _ (if (some (Value.builtin "tuple.__hash__")==some Value.none)=true then _ else _) Q E s
 rw[í (by rw[beq_builtin_none];exact Û)];refine À (abr Z abM.lookup ?_);show Ý _ _ (callSpecialIfBoundUnlessNone? (.ref a) "__hash__" _ >>= _) Q E s;refine À (wpAny_callSpecialIfBoundUnlessNone?_slot Z abM (ö abM Z F.entry_tuple_hash ?_ (F.args_tuple_hash_1 _)));show Ý _ _ (Ř (.ref a) >>= _) _ _ s;refine À (wpAny_tupleItemsOf ho hd ?_);refine À ?_;rw[<- Array.forIn_toList];refine wpAny_forIn_list _
  (λrest (b:Array Int) s'=>∃done left,ks=done++left/\df s.heap left rest/\b.toList=mr w done/\s'={ s with toks:=s.toks+lh done })
  _ ?_ ?_ _ _ ⟨[],ks,rfl,hi,rfl,rfl⟩
 ·rintro x rest b s' ⟨done,left,e,Y,X,rfl⟩
  cases left with
  |nil=>cases Y
  |cons k left =>
   obtain⟨T,S,ex,U,V⟩:=Y;cases ex
   refine À (ih k (by rw[e];simp) _ { s with toks:=s.toks+lh done } _ _ _ ?_ U ?_)
   ·exact acG _
   ·first
     |exact Â ⟨done++[k],left,by simp[e],V,by simp[X,J4,mr],by simp[ab9,J5,lh]⟩
     |exact À (Â (Â ⟨done++[k],left,by simp[e],V,by simp[X,J4,mr],by simp[ab9,J5,lh]⟩))
 ·rintro b s' ⟨done,left,e,Y,X,rfl⟩
  cases left with
  |cons k left=>obtain⟨_,_,ex,_⟩:=Y;cases ex
  |nil =>
  rw[İ] at e;subst e;simp only[hs,dr] at h;show Ý _ _ (retInt (aa3 b.toList)) _ _ _;rw[X];generalize aa3 (mr w ks)=z at h |-;refine wpAny_ret_mkInt ?_
  show Ý _ _ (if (decide (-(2:Int) ^ 63<=z)&&decide (z<2 ^ 63))=true then _ else _) Q E _
  unfold reduceHash at h;by_cases W:(decide (-(2:Int) ^ 63<=z)&&decide (z<2 ^ 63))=true
  ·rw[ã W]
   rw[ã W] at h;exact Â (by simpa [ab9] using h)
  ·rw[í W]
   rw[í W] at h;exact À (ś (Â (by simpa [ab9] using h)))
def VE:∀(n:Nat) (k:D),dep k<=n->∀(A:ì) (s:Ä) (v:Ç) (E:Ç->Ä->Prop) (Q:Int->Ä->Prop),KA s.heap k v->A.units+n<abh->Q (hs w k) { s with toks:=s.toks+dr k }->Ý (â prog w) A (pyHash v) Q E s:=by
 intro n
 induction n with
 |zero =>
  intro k Z A s v E Q q Y h
  cases k with
  |int i=>obtain⟨t,rfl⟩:=q;exact wpAny_pyHash_int h
  |str i=>obtain⟨t,rfl⟩:=q;exact wpAny_pyHash_str h
  |tup X=>simp[dep] at Z
  |_=>cases q
 |succ n ih =>
  intro k Z A s v E Q q Y h
  cases k with
  |int i=>obtain⟨t,rfl⟩:=q;exact wpAny_pyHash_int h
  |str i=>obtain⟨t,rfl⟩:=q;exact wpAny_pyHash_str h
  |tup X =>
   simp only[dep] at Z;simp only[KA] at q;obtain⟨a,o,items,m,rfl,W,V,U,hi⟩:=q;exact TX (by omega) W V U hi (λk T S R v P O L N M=>ih k (by have:=J3 T;omega) S R v P O N (by omega) M) h
  |_=>cases q
def TY:∀(n:Nat) (k:D),dep k<=n->∀{A:ì} {s:Ä} {v:Ç} {E:Ç->Ä->Prop} {Q:Bool->Ä->Prop},KA s.heap k v->Q true s->Ý (â prog w) A (eqIsQuiet n v) Q E s:=by
 intro n
 induction n with
 |zero =>
  intro k Z A s v E Q q h
  cases k with
  |int i=>obtain⟨t,rfl⟩:=q;rw[abN _ rfl];exact Â h
  |str i=>obtain⟨t,rfl⟩:=q;rw[abN _ rfl];exact Â h
  |tup V=>simp[dep] at Z
  |_=>cases q
 |succ n ih =>
  intro k Z A s v E Q q h
  cases k with
  |int i=>obtain⟨t,rfl⟩:=q;rw[abN _ rfl];exact Â h
  |str i=>obtain⟨t,rfl⟩:=q;rw[abN _ rfl];exact Â h
  |tup V =>
   simp only[dep] at Z;simp only[KA] at q;obtain⟨a,o,items,m,rfl,U,P,O,hi⟩:=q;have T:s.TypeIs (.ref a) "tuple":=⟨o,U,P⟩;unfold eqIsQuiet;refine À (abr T F.slot_tuple_eq.lookup ?_);show Ý _ _ (isInstance (.ref a) (.type "tuple") >>= _) _ _ s;refine À (aa5 T isSubtype_tuple_tuple ?_);simp only[đ,Ì,û];refine À (ı U O ?_);refine À ?_;show Ý _ _ (forIn items _ _) _ _ s;rw[<- Array.forIn_toList];refine wpAny_forIn_list _ (λrest r Y=>r.1=none/\Y=s/\∃left,df s.heap left rest/\∀k∈left,dep k<=n) _ ?_ ?_ _ _ ⟨rfl,rfl,V,hi,λk N=>by have:=J3 N;omega⟩
   ·rintro v rest r Y ⟨X,rfl,left,S,R⟩
    cases left with
    |nil=>cases S
    |cons k left =>
     obtain⟨K,J,ex,M,L⟩:=S;cases ex;refine À (ih k (R k Ð) M ?_);simp only[đ,Ì,û];exact Â ⟨rfl,rfl,left,L,λu W=>R u (Ê _ W)⟩
   ·rintro ⟨I,H⟩ Y ⟨X,rfl,_⟩
    simp only at X;subst X;exact Â h
  |_=>cases q
def z0 (h:Ĳ) (ks:List D) (a:Ù):Prop:=de ks=true/\dC ks<=6/\KA h (.tup ks) (.ref a)
noncomputable instance aey:DecidableEq (List D):=λa b=>Classical.propDecidable (a=b)
def Xq (hu:A.units+10<abh) (hx:z0 s.heap x a) (hy:z0 s.heap y b) (h:Q (decide (x=y)) s):Ý (â prog w) A (PySem.eqBool (.ref a) (.ref b)) Q E s:=by
 obtain⟨W,N,Z⟩:=hx;obtain⟨V,M,Y⟩:=hy;obtain⟨as,Z⟩:=KA.reads _ _ Z;obtain⟨bs,Y⟩:=KA.reads _ _ Y;have U:lay (.tup x)=true:=by simp only[lay];exact xJ x W
 have T:lay (.tup y)=true:=by simp only[lay];exact xJ y V
 obtain⟨S,R⟩:=ko _ U;obtain⟨P,O⟩:=ko _ T;have e:=SeqAt.eqAt_reads _ _ A s _ _ as bs Z Y S P (by rw[R,O];simp only[dep];omega);rw[rE _ _ U T] at e;refine e prog w E Q ?_;have:beq (.tup x) (.tup y)=decide (x=y):=by
  have:=Bx x y W V;simp only[beq]
  cases X:iZ x y with
  |true=>exact(æ (this.mp X)).symm
  |false=>exact(ć λz=>by rw[this.mpr z] at X;cases X).symm
 rw[this];exact h
def kind (prog:ä) (w:ù):HeapKind prog w (List D) where
 is:=z0
 hash:=λX=>hs w (.tup X)
 draws:=λX=>dr (.tup X)
 room:=λA=>A.units+10<abh
 inj:=λW V=>by have:=KA.inj _ _ _ W.2.2 V.2.2;injection this
 keeps:=λ{h Q k a d o P O} x S R hs=>⟨x.1,x.2.1,KA.keep (λb u U N Y=>(hs.2 b (λe=>by
  subst e;rw[S] at U;cases U;obtain⟨_,_,Y⟩:=Y;rw[R] at Y;cases Y)).trans U) _ _ x.2.2⟩
 pyHash:=λT Z h=>VE 7 _ (by simp only[dep];have:=Z.2.1;omega) _ _ _ _ _ Z.2.2 (by omega) h
 eqBool:=λT W V h=>Xq T W V h
 quiet:=λZ h=>TY 8 _ (by simp only[dep];have:=Z.2.1;omega) Z.2.2 h
end
end TK
namespace TK
open PySem PySem.W PyProof.Rows DI L2
def DX.dY (h1 h2:Ĳ) (h:DX a es h1) (k:∀o,h1.get? a=some o->h2.get? a=some o):DX a es h2:=by
 obtain⟨z,o,Z,Y,X,r⟩:=h;exact⟨z,o,Z,Y,k o X,r⟩
def Me (x:DX a es h):cC P w H h a (.ext (DX a es)):=by
 obtain⟨z,o,Y,X,Z,r⟩:=id x;exact⟨x,⟨o,Z⟩,DX.dY⟩
def AllK (w:ù) (ai:List (D×Int)):Prop:=∀p∈ai,∃Z,p.1=.tup Z/\de Z=true/\dC Z<=6/\p.2=hs w p.1
noncomputable def its:D->List D
 | .tup Z=>Z
 |_=>[]
def XS:List (D×Int)->List Ù->List (List D×Ù×Ç)
 |p::r,a::as=>(its p.1,a,.bool true)::XS r as
 |_,_=>[]
def Xr:∀{as:List Ù},ai.length=as.length->∀(p:D×Int) (a:Ù),XS (ai++[p]) (as++[a])=XS ai as++[(its p.1,a,.bool true)]:=by
 induction ai with
 |nil =>
  intro as e p a
  cases as with
  |nil=>rfl
  |cons _ _=>simp at e
 |cons q r ih =>
  intro as e p a
  cases as with
  |nil=>simp at e
  |cons b as =>
   simp only[ā,XS];rw[ih (by simpa using e)]
def Xs:∀{as:List Ù},ai.length=as.length->(XS ai as).length=ai.length:=by
 induction ai with
 |nil=>intro as e;cases as<;>rfl
 |cons q r ih =>
  intro as e
  cases as with
  |nil=>simp at e
  |cons b as=>simp only[XS,á,ih (by simpa using e)]
def J6:∀{as:List Ù},AllK w ai->ai.length=as.length->(XS ai as).map (λx=>D.tup x.1)=ai.map (·.1):=by
 induction ai with
 |nil=>intro as _ e;cases as<;>rfl
 |cons q r ih =>
  intro as k e
  cases as with
  |nil=>simp at e
  |cons b as =>
   obtain⟨Y,e1,_⟩:=k q Ð;simp only[XS,ß,ih (λp Z=>k p (Ê _ Z)) (by simpa using e),e1,its]
def Jl:∀{as:List Ù},AllK w ai->ai.length=as.length ->
  (((ai.map (·.2)).zip as).map λp=>(⟨p.1,.ref p.2,.bool true⟩:DictEntry))=(XS ai as).map (entryOfKey (kind P w)):=by
 induction ai with
 |nil=>intro as _ e;cases as<;>rfl
 |cons q r ih =>
  intro as k e
  cases as with
  |nil=>simp at e
  |cons b as =>
   obtain⟨Y,e1,_,_,e2⟩:=k q Ð;simp only[XS,ß,Ĩ,ih (λp Z=>k p (Ê _ Z)) (by simpa using e)];rw[e2,e1];rfl
section
variable {X:Cx} {π:List (Ù×Obj)} {σ:L2.St} {s:Ä} {w:Wd}
mutual
theorem Dy (I:Inv X π σ w.H s):∀(d:D) (v:V) (u:Ç),kd d=true->DI.DV X.K w d v->RelV v u->KA s.heap d u
 | .int i,v,u,_,h,r=>by cases h;exact r
 | .str x,v,u,_,h,r=>by cases h;exact r
 | .tup Z,v,u,k,h,r=>by
  simp only[DI.DV] at h;obtain⟨a,Y,rfl,W,U⟩:=h;cases r;obtain⟨its,T,⟨o,S,R,n,Q⟩,_⟩:=I.tuple W;simp only[kd] at k;simp only[KA];exact⟨a,o,_,n,rfl,S,R,Q,CL I Z Y _ k U (by simpa using T)⟩
 | .au,_,_,k,_,_=>by cases k
 | .bl _,_,_,k,_,_=>by cases k
 | .lst _,_,_,k,_,_=>by cases k
 | .bA _,_,_,k,_,_=>by cases k
 | .aj _,_,_,k,_,_=>by cases k
 | .ty _,_,_,k,_,_=>by cases k
 | .bK _,_,_,k,_,_=>by cases k
 | .exc _ _,_,_,k,_,_=>by cases k
 | .cG _ _ _,_,_,k,_,_=>by cases k
theorem CL (I:Inv X π σ w.H s):∀(ds:List D) (vs:List V) (us:List Ç),de ds=true->DI.ar X.K w ds vs->Vals vs us->df s.heap ds us
 | [],vs,us,_,h,r=>by cases h;cases r;rfl
 |d::ds,vs,us,k,h,r=>by
  obtain⟨v,Z,rfl,Y,W⟩:=h;simp only[de,Æ] at k
  cases r with
  |cons r U=>exact⟨_,_,rfl,Dy I d v _ k.1 Y r,CL I ds Z _ k.2 W U⟩
end
def Zf (I:Inv X π σ w.H s):∀{ai:List (D×Int)} {as:List Ù},AllK W ai->DI.ar X.K w (ai.map (·.1)) (as.map V.ref)->∀x∈XS ai as,z0 s.heap x.1 x.2.1:=by
 intro ai
 induction ai with
 |nil =>
  intro as _ _ x hx
  cases as<;>cases hx
 |cons q r ih =>
  intro as k U x hx
  cases as with
  |nil=>cases hx
  |cons b as =>
   obtain⟨v,P,e,Z,T⟩:=U
   injection e with e1 e2
   subst e1 e2;obtain⟨S,e1,Y,R,_⟩:=k q Ð
   rcases Ò.mp hx with rfl|hx
   ·refine⟨by simpa only [e1,its] using Y,by simpa only [e1,its] using R,?_⟩
    have Z:DI.DV X.K w q.1 (V.ref b):=Z;rw[e1] at Z;simpa only [e1,its] using Dy I (.tup S) (.ref b) (.ref b) (by simpa only [kd] using Y) Z rfl
   ·exact ih (λp Q=>k p (Ê _ Q)) T x hx
end
def gu (w:ù) (ai:List (D×Int)) (k:D):List (D×Int):=if (ai.any λp=>beq p.1 k)=true then ai else ai++[(k,hs w k)]
def keyOk (w:ù) (p:D×Int):Bool:=match p.1 with
 | .tup Z=>de Z&&decide (dC Z<=6)&&decide (p.2=hs w p.1)
 |_=>false
def R6 (h:ai.all (keyOk w)=true):AllK w ai:=λp Z=>by
 have:=ø.mp h p Z;unfold keyOk at this;split at this
 ·rename_i Y e
  simp only[Æ,É] at this;exact⟨Y,e,this.1.1,this.1.2,this.2⟩
 ·cases this
def nV (k:AllK w ai) (hk:de ks=true):(ai.any λp=>beq p.1 (.tup ks))=true↔D.tup ks∈ai.map (·.1):=by
 rw[Ŝ,ċ];constructor
 ·rintro ⟨p,Z,Y⟩
  obtain⟨ls,e,X,_⟩:=k p Z;refine⟨p,Z,?_⟩;exact(rG p.1 (.tup ks) (by rw[e];simpa only [kd] using X) (by simpa only [kd] using hk)).mp Y
 ·rintro ⟨p,Z,e⟩
  exact⟨p,Z,by rw[e];exact(rG _ _ (by simpa only [kd] using hk) (by simpa only [kd] using hk)).mpr rfl⟩
def K7 (k:AllK w ai) (e:ai.length=as.length) (ks:List D):ks∈(XS ai as).map (·.1)↔D.tup ks∈ai.map (·.1):=by
 rw[<- J6 k e,ċ,ċ];exact⟨λ⟨x,Z,e⟩=>⟨x,Z,by rw[e]⟩,λ⟨x,Z,e⟩=>⟨x,Z,by injection e⟩⟩
def Pt {xs:List (List D×Ù×Ç)} (h:∀x∈xs,x.2.2=Ņ true) (k:List D):xs.map (putAt k (.bool true))=xs:=by
 induction xs with
 |nil=>rfl
 |cons x xs ih =>
  rw[ß,ih λy Z=>h y (Ê _ Z)];congr 1;unfold putAt;split
  ·obtain⟨a,b,c⟩:=x
   have:=h (a,b,c) Ð;simp only at this;rw[this]
  ·rfl
theorem J8:∀(ai:List (D×Int)) (as:List Ù),∀x∈XS ai as,x.2.2=Ņ true
 | [],as,x,h=>by cases as<;>cases h
 |p::r,[],x,h=>by cases h
 |p::r,a::as,x,h=>by
  rcases Ò.mp h with rfl|h
  ·rfl
  ·exact J8 r as x h
def R7 {w:ù} {ai:List (D×Int)} {as:List Ù} (k:AllK w ai) (e:ai.length=as.length) {ks:List D} (hk:de ks=true) (a:Ù) :
  storedH (XS ai as) ks a (.bool true)=XS (gu w ai (.tup ks)) (if (ai.any λp=>beq p.1 (.tup ks))=true then as else as++[a]):=by
 unfold gu;by_cases Z:(ai.any λp=>beq p.1 (.tup ks))=true
 ·rw[ã Z,ã Z]
  have Y:=(K7 k e ks).mpr ((nV k hk).mp Z)
  cases h:atKey (XS ai as) ks with
  |none =>
   exfalso;obtain⟨x,X,W⟩:=ċ.mp Y;unfold atKey at h;rw[Option.map_eq_none_iff,List.find?_eq_none] at h;exact h x X (æ W)
  |some p=>rw[storedH_old h,Pt (J8 ai as)]
 ·rw[í Z,í Z]
  have Y:ks∉(XS ai as).map (·.1):=λz=>Z ((nV k hk).mpr ((K7 k e ks).mp z));have h:atKey (XS ai as) ks=none:=by
   unfold atKey;rw[Option.map_eq_none_iff,List.find?_eq_none];intro x X z;exact Y (ċ.mpr ⟨x,X,Ą z⟩)
  rw[storedH_new h,Xr e];rfl
def TZ (k:AllK w ai) (hk:de ks=true) (hd:dC ks<=6):AllK w (gu w ai (.tup ks)):=by
 unfold gu;split
 ·exact k
 ·intro p hp
  rcases è.mp hp with hp|hp
  ·exact k p hp
  ·rw[õ.mp hp]
   exact⟨ks,rfl,hk,hd,rfl⟩
def QP (k:AllK w ai) (hk:de ks=true) (h:(ai.map (·.1)).Nodup):((gu w ai (.tup ks)).map (·.1)).Nodup:=by
 unfold gu;split
 ·exact h
 ·rename_i Y
  rw[ń,ψ];refine⟨h,by simp,λa Z b X=>?_⟩;have:b=.tup ks:=by simpa using X
  rw[this];intro z;rw[z] at Z;exact Y ((nV k hk).mpr Z)
def kN (w:ù) (d k x:D) (s:af):Option af:=match d,k,x with
 | .aj j,.tup Z,.bl true=>match s[j]? with
  |some (.dT Y)=>if (de Z&&decide (dC Z<=6)&&Y.all (keyOk w)&&decide (Y.length<Ø))=true then some (s.set j (.dT (gu w Y (.tup Z)))) else none
  |_=>none
 |_,_,_=>none
def mY (w:ù) (f o i:DI.acC D):DI.acC Fl:=λenv s=>ak (f env s) λx s=>ak (o env s) λd s=>ak (i env s) λn s=>match kN w d n x s with
 |some Z=>ok (.nx env) Z
 |none=>none
def yS:DI.acC D:=λ_ s=>ok (.aj s.length) (s++[.dT []])
section
variable {X:Cx} {Ξ:Wd->aY->Prop} {e o i:ħ} {pos iC:Pos} {f fo fi:DI.acC D}
def VF:PE X (.Dict [] [] pos) (λ_ H Q=>∀p,H p=none->Q (.ref p) (upd H p (.ext (DX p [])))):=λY s σ H Q I h=>by
 refine wpAny_Dict_empty ⟨.ref s.heap.objs.size,_,I.laid (a:=s.heap.objs.size) (o:=.ext (DX s.heap.objs.size [])) (t':=s.toks) (λ_ _ q=>Á _ q) (acG _) (Me ?_),rfl,h _ (I.aE.fresh (acG _))⟩;have Z:=I.big;exact⟨by simp only[beq_eq_false_iff_ne,ne_eq];intro z;rw[z] at Z;exact ë _ Z,_,#[],0,Ô _ rfl,⟨rfl,rfl,rfl⟩,rfl,rfl⟩
def Xt:PE X (.Dict [] [] pos) (tE X.K Ξ yS):=cA VF fun σ H Q Y=>by
 obtain⟨w,env,W,S,V,h⟩:=Y;subst W;intro p Z;have le:=(Fw.cell (o:=.ext (DX p [])) (c:=.dT []) S Z).le (K:=X.K);refine h (w.cell p (.ext (DX p [])) (.dT [])) le (S.yQ Z ⟨[],cq,rfl,acs⟩) rfl (.ref p) ⟨p,?_,rfl⟩;show (w.ρ++[p])[w.aB.length]?=some p;rw[<- S.len];simp
def Zg (K:ę) (W:ù):ze:=λo i v H Q=>∃(w:Wd) (d b:Ù) (Z:List (D×Int)) (as:List Ù) (Y:List D),w.H=H/\o=.ref d/\i=.ref b/\v=.bl true/\H d=some (.ext (DX d ((Z.map (·.2)).zip as))) /\
 AllK W Z/\Z.length<Ø/\DI.ar K w (Z.map (·.1)) (as.map V.ref)/\(Z.map (·.1)).Nodup/\de Y=true/\dC Y<=6/\DI.DV K w (.tup Y) (.ref b) /\
 Q (upd H d (.ext (DX d (((gu W Z (.tup Y)).map (·.2)).zip (if (Z.any λp=>beq p.1 (.tup Y))=true then as else as++[b])))))
def T4 {w:ù} {ai:List (D×Int)} {as:List Ù} {ks:List D} {b:Ù} (e:ai.length=as.length):(gu w ai (.tup ks)).length=(if (ai.any λp=>beq p.1 (.tup ks))=true then as else as++[b]).length:=by
 unfold gu
 split<;>simp[e]
def Zh (hr:bB k X.A):D4 X (Zg X.K X.w):=by
 rintro f s σ H o i v c iv u Q I L J G ⟨w,d,b,Y,as,F,rfl,rfl,rfl,rfl,S,Z,E,R,V,W,P,C,q⟩;cases L;cases J;cases G;have len:Y.length=as.length:=by have:=R.length;simpa using this
 obtain⟨⟨B,z,y,t,r,hex,p,n⟩,_,_⟩:=I.aE _ _ S;have m:s.heap.DictOfH (kind X.prog X.w) d (XS Y as):=⟨z,y,t,r,hex,p,by rw[n,Jl Z len],Zf I Z R,by
  have:=J6 Z len;rw[<- this] at V;have e:(XS Y as).map (λx=>D.tup x.1)=((XS Y as).map (·.1)).map D.tup:=by rw[ķ];rfl
  rw[e] at V;exact List.Pairwise.of_map D.tup (λa b h e=>h (by rw[e])) V⟩
 have hu:X.A.units+100<abh:=by have:=hr.un;have:abh=9900:=rfl;omega
 refine wpAny_setItem_heap (hsz:=by rw[Xs len];exact Nat.le_of_lt E) (knd:=kind X.prog X.w) (show X.A.in1.units+10<abh from ?_) ⟨W,P,Dy I (.tup F) (.ref b) (.ref b) (by simpa only [kd] using W) C rfl⟩ m λh' O hs=>⟨_,?_,q⟩
 ·have:X.A.in1.units<=X.A.units+1:=by first|exact acG _|exact abb _
  omega
 ·rw[R7 Z len W] at O
  obtain⟨N,l,j,M,U,g,T,_⟩:=O;refine JP I (by rw[S];exact True.intro) hs ⟨N,M⟩ (Me ⟨B,N,l,j,M,U,g,?_⟩);rw[T];exact(Jl (TZ Z W P) (T4 len)).symm
def K8 (hW:X.w=W) (hr:bB k X.A) (he:PE X e (tE X.K Ξ f)) (ho:PE X o (tE X.K Ξ fo)) (hi:PE X i (tE X.K Ξ fi))
 (ha:∀v,ab6 (.Subscript o i iC) X.env v=(do
   let ov <- abj [v] (ō o X.env)
   let iv <- abj [v,ov] (ō i X.env)
   acf iC
   abj [v,ov,iv] (setItem ov iv v)
   release [v,ov,iv] []):=by intro _;rfl)
 (hs:ű [.Subscript o i iC] e pos.line X.env=pure false:=by rfl) (hw:Ų [.Subscript o i iC] e X.env=pure none:=by rfl)
 (h1:(Ś [.Subscript o i iC] X.env).map (·.2)=[ab6 (.Subscript o i iC) X.env]:=by rfl):PS X (.Assign [.Subscript o i iC] e pos) (tS X.K Ξ (mY W f fo fi)) :=
 jG (Cw he (Ku ho hi (Zh hr) ha) hs hw h1) λD0 σ H C=>by
  subst hW;obtain⟨w,env,B,S,V,h⟩:=C;subst B;refine⟨w,env,rfl,S,V,(Out.ak h).mono λy x Q t h1 u s=>?_⟩;refine⟨y,env,rfl,t,V.le Q,(Out.ak h1).mono λr d P q l v g=>?_⟩;refine⟨r,env,rfl,q,V.le (Q.trans P),(Out.ak l).mono λO n N M U m L=>?_⟩
  cases Z:kN X.w d n x O.aB with
  |none=>rw[Z] at U;exact U.elim
  |some s' =>
   rw[Z] at U;unfold kN at Z;split at Z
   ·rename_i j T
    split at Z
    ·rename_i Y J
     split at Z
     ·rename_i I
      simp only[Æ,É] at I;obtain⟨⟨⟨G,k2⟩,k3⟩,k4⟩:=I;cases Z;obtain⟨a,e1,rfl⟩:=(N _ _ g);obtain⟨as,q1,R,F⟩:=M.cell j a _ e1 J;have E:=R6 k3;have eu:u=.bl true:=((P.trans N) _ _ s);have D:=L;simp only[DI.DV] at D;obtain⟨b,_,rfl,_⟩:=D;have len:Y.length=as.length:=by have:=R.length;simpa using this
      have le:=(Fw.put (o:=.ext (DX a (((gu X.w Y (.tup T)).map (·.2)).zip (if (Y.any λp=>beq p.1 (.tup T))=true then as else as++[b])))) (c:=.dT (gu X.w Y (.tup T))) M e1 J (by intro z;cases z)).le
      refine⟨O,a,b,Y,as,T,rfl,rfl,rfl,eu,q1,E,k4,R,F,G,k2,L,?_⟩;refine U (O.put j a _ _) le (M.vG e1 J (by intro z;cases z) ⟨_,cq,?_,QP E G F⟩) rfl σ (V.le (Q.trans (P.trans (N.trans le))));refine le.all ?_;unfold gu;split
      ·exact R
      ·rw[ń,ń]
       exact R.append (ar.one L)
     ·cases Z
    ·cases Z
   ·cases Z
end
end TK
namespace TK
open PySem PySem.W PyProof.Rows DI L2
def jm (h:Ĳ) (d:Ù) (es:Array DictEntry) (ep:Nat):Prop:=∃o,h.get? d=some o/\o.ExactDict/\o.data=.dict es ep
section
variable {prog:ä} {w:ù} {A:ì} {E:Ç->Ä->Prop} {s:Ä} {d it:Ù} {es:Array DictEntry} {ep i:Nat}
def jm.ty (r:jm s.heap d es ep):s.TypeIs (.ref d) "dict":=by obtain⟨o,Z,x,_⟩:=r;exact⟨o,Z,x.1⟩
def jm.lt (r:jm h d es ep):d<h.objs.size:=by obtain⟨o,Z,_⟩:=r;exact Î Z
def T5 (hd:(d==ņ)=false) (r:jm s.heap d es ep)
 (hQ:Q (.ref s.heap.objs.size) { s with heap:=s.heap.push { cls:=.type "dict_keyiterator",data:=.fields #[.ref d,.int 0 0,.int es.size 0,.int ep 0] } }):Ý (â prog w) A (pyIter (.ref d)) Q E s:=by
 have ty:=r.ty;obtain⟨o,Z,x,Y⟩:=r;refine wpAny_pyIter_slot ty F.slot_dict_iter (ö F.slot_dict_iter ty F.entry_dict_iter ?_ (F.args_dict_iter_1 _));unfold Ŗ.«dict.__iter__» Builtin.Dict.dictSlotNone;refine À (À (wpAny_notOrdered_dict ty ?_));refine(Â ?_:Ý _ _ (pure (Ń d)) _ _ s);show Ý _ _ (Builtin.Dict.showsAll d >>= _) _ _ s;unfold Builtin.Dict.showsAll;rw[í (by rw[hd];decide)];refine À (Â (À (wpAny_dictEntries Z Y (À (wpAny_dictEpoch Z Y ?_)))));refine À (ï (Â ⟨_,rfl,"dict_keyiterator",_,⟨_,Ô _ rfl,rfl⟩,ĸ.lookup,?_⟩));simpa [ŭ] using hQ
def T6 (hit:s.heap.IsKeyIter it d i es.size ep) (r:jm s.heap d es ep) (he:es[i]?=some e)
 (hQ:∀h',h'.IsKeyIter it d (i+1) es.size ep->ī it s.heap h'->Q (some e.key) { s with heap:=h' }):Ý (â prog w) A (δ (.ref it)) Q E s:=by
 obtain⟨S,Y,ci,Z⟩:=id hit;obtain⟨R,X,_,W⟩:=r;have own:aca "dict_keyiterator"=false:=by decide
 unfold δ;refine À (Ŏ (ü (name:=ĉ "__next__") hit.typeIs ĸ (ö ĸ hit.typeIs F.entry_dict_keyiterator_next ?_ (F.args_dict_keyiterator_next_1 _))));refine À (Â (À (À (À (Ō hit.typeIs (Â (À (aa1 Y Z ?_))))))));simp only[own,Ì,û]
 refine(show Ý _ _ (if (Ń d==Value.none)=true then _ else _) _ _ s from ?_)
 rw[í (show ¬ ((Ń d==Value.none)=true) by intro z;cases z)];refine À (Â (À (wpAny_dictEntries X W ?_)));rw[í (by simp)];refine À (Â (À (wpAny_dictEpoch X W ?_)));rw[í (by simp)];refine Â ?_;simp only[show ¬ ((i:Int)<0) by omega,û,ē,he];refine À (À (Ō hit.typeIs (Â (À (wpAny_isOneOf_keyiter hit.typeIs ?_)))));show Ý _ _ (setField (.ref it) 1 (ŭ ((i:Int)+1)) >>= _) _ _ s;refine À (Ő Y Z (by simp) ?_);generalize V:s.heap.update it (Obj.mapFields (·.setIfInBounds 1 (ŭ ((i:Int)+1))))=h';have T:ī it s.heap h':=by rw[<- V];exact ď ..
 have U:h'.IsKeyIter it d (i+1) es.size ep:=by
  rw[<- V];exact⟨_,Ė _ Y (ĵ (ă Z _)),(υ ..).trans ci,by rw[ă Z];simp[ŭ]⟩
 refine À (ě (À (wpAny_isOneOf_keyiter (s:={ s with heap:=h' }) U.typeIs ?_)))
 show Ý _ _ (pure e.key) _ _ _;exact Â (Â ⟨_,rfl,Â (hQ _ U T)⟩)
def VG (hh:A.handled=none) (hit:s.heap.IsKeyIter it d i es.size ep) (r:jm s.heap d es ep) (oP:es.size<=i)
 (hQ:∀h',aba it s.heap h'->Q none { s with heap:=h' }):Ý (â prog w) A (δ (.ref it)) Q E s:=by
 obtain⟨V,Z,ci,Y⟩:=id hit;obtain⟨U,X,_,W⟩:=r;have own:aca "dict_keyiterator"=false:=by decide
 unfold δ;refine À (Ŏ (ü (name:=ĉ "__next__") hit.typeIs ĸ (ö ĸ hit.typeIs F.entry_dict_keyiterator_next ?_ (F.args_dict_keyiterator_next_1 _))));refine À (Â (À (À (À (Ō hit.typeIs (Â (À (aa1 Z Y ?_))))))));simp only[own,Ì,û]
 refine(show Ý _ _ (if (Ń d==Value.none)=true then _ else _) _ _ s from ?_)
 rw[í (show ¬ ((Ń d==Value.none)=true) by intro z;cases z)];refine À (Â (À (wpAny_dictEntries X W ?_)));rw[í (by simp)];refine À (Â (À (wpAny_dictEpoch X W ?_)));rw[í (by simp)];refine Â ?_;simp only[show ¬ ((i:Int)<0) by omega,û,ē,Array.getElem?_eq_none oP];refine À (À (Ō hit.typeIs (Â ?_)));refine(À (Ő Z Y (by simp) ?_):Ý _ _ (setField (.ref it) 0 .none >>= _) _ _ s);show Ý _ _ (newExc (.type "StopIteration") [] >>= _) _ _ _;simp only[newExc,newTuple];refine À (À (ï ?_ (by size_fits)))
 refine À (m:=aaX _ _) (wpAny_of_eq (a:=Value.none) (by first|rfl | (simp only[aaX];rfl)) (ï ?_ (by size_fits)))
 simp only[raiseNew];refine À (wpAny_handled ?_);rw[show A.in1.handled=none from hh];refine À (Â (wpAny_throw ?_));refine À (aa5 (T:="StopIteration") (b:=true) ⟨_,Ô _ rfl,rfl⟩ isSubtype_stop ?_);exact Â (hQ _ (((ď ..).extBut.push _).push _))
def jm.at (r:jm h d es ep) (k:∀o,h.get? d=some o->h'.get? d=some o):jm h' d es ep:=by obtain⟨o,Z,x⟩:=r;exact⟨o,k o Z,x⟩
def R8 (hh:A.handled=none) (I:Ù) (dF:d≠I) :
  Walks prog w A I [I,d] [I] es.size (λi v=>∃e,es[i]?=some e/\v=e.key) (λi h=>h.IsKeyIter I d i es.size ep/\jm h d es ep) where
 sub:=λb Y=>by simp at Y;simp[Y]
 frame:=λ_ _ _ Z U=>⟨Z.1.at λo e=>U I (by simp) o e,Z.2.at λo e=>U d (by simp) o e⟩
 item:=λi s Q E hi Z X=>by
  have T:es[i]?=some es[i]:=by simp[hi]
  exact T6 Z.1 Z.2 T λW R S=>X _ W s.toks ⟨_,T,rfl⟩ ⟨R,Z.2.at λo e=>S.extBut d o dF e⟩ λb o Y e=>S.extBut b o (λh=>Y (by simp[h])) e
 done:=λs Q E Z X=>VG hh Z.1 Z.2 (acG _) λW V=>X W s.toks λb o Y e=>V b o (λh=>Y (by simp[h])) e
 self:=λ_ _ _ _ Z X=>wpAny_pyIter_keyiter Z.1 X
def VH (lo:(d==ņ)=false):KdlSrc prog w "dict" d d es.size (λi v=>∃e,es[i]?=some e/\v=e.key) (λh=>jm h d es ep) where
 type:=λ_ Z=>Z.ty
 there:=λ_ Z=>⟨Z.lt,Z.lt⟩
 keep:=λ_ _ Z X=>Z.at λo e=>X d (.inl rfl) o e
 notList:=by decide
 notTuple:=by decide
 hint:=λ_ _ _ _ Z Y=>kdl_hint_dict Z.ty Y
 iter:=λ_ _ W Z=>⟨_,_,(λ_ _ Y=>T5 lo Z Y),R8 W _ (à Z.lt),⟨⟨_,Ô _ rfl,rfl,rfl⟩,Z.at λo e=>Á _ e⟩⟩
end
def rH (ds:List D) (s:af):Res D:=match ds with
 | [.aj j]=>match s[j]? with
  |some (.dT Z)=>if Z.length<=Ø then ok (.lst (Z.map (·.1))) s else none
  |_=>none
 |_=>none
theorem Jm:∀as:List Ù,Vals (as.map V.ref) (as.map Ń)
 | []=>.nil
 |_::as=>.cons rfl (Jm as)
section
variable {X:Cx} {Ξ:Wd->aY->Prop}
def VI (hc:X.calm=true):cD X (.type "list") (rC X.K Ξ rH):=by
 rintro l s σ H k g Q I r ⟨w,f,rfl,S,F,h⟩;unfold rH at h;split at h
 ·rename_i j
  split at h
  ·rename_i O E
   split at h
   ·rename_i N
    obtain⟨v,d,rfl,D,C⟩:=F;cases C;obtain⟨a,e1,rfl⟩:=D
    cases r with
    |cons r B =>
    cases B;cases r;obtain⟨as,A,M,c⟩:=S.cell j a _ e1 E;have len:O.length=as.length:=by have:=M.length;simpa using this
    obtain⟨⟨z,y,L,x,u,hex,t,J⟩,_,_⟩:=I.aE _ _ A;have U:L.size=as.length:=by rw[<- ñ,J];simp[len]
    refine kdl_call (VH z) (I.ok.hd hc) (⟨y,u,hex,t⟩:jm s.heap a L x) (by rw[U,<- len];exact N) λb q Y p o n T=>?_;have W:w.H s.heap.objs.size=none:=I.aE.fresh (acG _);have ev:Y.toList=as.map Ń:=by
     apply œ;intro i;rw[ĭ];by_cases hi:i<as.length
     ·have m:i<Y.size:=by rw[T.1,U];exact hi
      have G:Y[i]?=some Y[i]:=Array.getElem?_eq_getElem m;obtain⟨e,R,ev⟩:=T.2 i _ G;rw[G,ev];rw[<- ĭ,J] at R;have P:i<O.length:=by omega
      simp only[ç,List.zip,List.getElem?_zipWith,Ë P,Ë hi,Ũ] at R |-;rw[<- acH R]
     ·rw[Array.getElem?_eq_none (by rw[T.1,U];omega),Ĭ (by rw[Í];omega)]
    refine⟨.ref s.heap.objs.size,upd w.H s.heap.objs.size (.lst (as.map V.ref)),I.laid (t':=q) o (acG _) ?_,rfl,?_⟩
    ·refine⟨by rw[Í,<- len];exact N,Y.toList,p,?_,by simpa using n⟩
     rw[ev];exact Jm as
    ·exact h (w.grow _ (.lst (as.map V.ref))) (Fw.grow W).le (S.grow W) rfl (.ref s.heap.objs.size) ⟨_,_,rfl,⟨(show ¬ w.Z _ from km S W),cq⟩,(Fw.grow W).le.all M⟩
   ·exact h.elim
  ·exact h.elim
 ·exact h.elim
end
open HT
section
variable {s:Ä}
def Zj (kx:kd x=true) (ky:kd y=true) (hu:A.units+dep x<abh) (hx:KA s.heap x vx) (hy:KA s.heap y vy):SeqAt.EqAt A s vx vy (beq x y):=by
 obtain⟨as,Z⟩:=KA.reads _ _ hx;obtain⟨bs,Y⟩:=KA.reads _ _ hy;obtain⟨X,W⟩:=ko _ (pN _ kx);obtain⟨V,U⟩:=ko _ (pN _ ky);have:=SeqAt.eqAt_reads _ _ A s vx vy as bs Z Y X V (by rw[W];omega);rw[rE _ _ (pN _ kx) (pN _ ky)] at this;exact this
mutual
theorem Zk:∀(A:ì) (x y:D) (b:Bool) (vx vy:Ç),jb x y=some b->kd x=true->kd y=true->A.units+5*dep x+5<abh->KA s.heap x vx->KA s.heap y vy->Eu A s vx vy b
 |A,.int i,y,b,vx,vy,h,_,_,_,Z,Y=>by
  cases y with
  |int j =>
   cases h;obtain⟨t,rfl⟩:=Z;obtain⟨X,rfl⟩:=Y;exact λprog w E Q q=>IW A s i t j X prog w E Q q
  |_=>cases h
 |A,.str i,y,b,vx,vy,h,_,_,_,Z,Y=>by
  cases y with
  |str j =>
   cases h;obtain⟨t,rfl⟩:=Z;obtain⟨X,rfl⟩:=Y;exact λprog w E Q q=>(PyProof.Rows.lt_str q:Ý (â prog w) A (ġ .Lt (.str i t) (.str j X)) Q E s)
  |_=>cases h
 |A,.tup U,y,b,vx,vy,h,W,ky,T,Z,Y=>by
  cases y with
  |tup S =>
   simp only[jb] at h;simp only[KA] at Z Y;obtain⟨a,o,its,n,rfl,R,P,O,r⟩:=Z;obtain⟨G,N,V,M,rfl,L,K,J,I⟩:=Y;simp only[dep] at T;simp only[kd] at W ky;exact λprog w E Q q=>JZ ⟨o,R,P,n,O⟩ ⟨N,L,K,M,J⟩ (λH F=>CN H U S b _ _ h W ky (by omega) r I) (by omega) q
  |_=>cases h
 |_,.au,_,_,_,_,_,k,_,_,_,_=>by cases k
 |_,.bl _,_,_,_,_,_,k,_,_,_,_=>by cases k
 |_,.lst _,_,_,_,_,_,k,_,_,_,_=>by cases k
 |_,.bA _,_,_,_,_,_,k,_,_,_,_=>by cases k
 |_,.aj _,_,_,_,_,_,k,_,_,_,_=>by cases k
 |_,.ty _,_,_,_,_,_,k,_,_,_,_=>by cases k
 |_,.bK _,_,_,_,_,_,k,_,_,_,_=>by cases k
 |_,.exc _ _,_,_,_,_,_,k,_,_,_,_=>by cases k
 |_,.cG _ _ _,_,_,_,_,_,k,_,_,_,_=>by cases k
theorem CN:∀(A:ì) (xs ys:List D) (b:Bool) (ps qs:List Ç),jk xs ys=some b->de xs=true->de ys=true->A.units+5*dC xs+5<abh->df s.heap xs ps->df s.heap ys qs->je A s ps qs b
 |A,[],ys,b,ps,qs,h,_,_,_,V,Z=>by
  cases V
  cases ys with
  |nil=>cases h;cases Z;exact .nn
  |cons y ys=>cases h;obtain⟨v,r,rfl,_⟩:=Z;exact .nc _ _
 |A,x::xs,ys,b,ps,qs,h,Y,ky,T,V,Z=>by
  obtain⟨v,r,rfl,U,S⟩:=V
  cases ys with
  |nil=>cases h;cases Z;exact .cn _ _
  |cons y ys =>
   obtain⟨u,R,rfl,g1,g2⟩:=Z;simp only[de,Æ] at Y ky;simp only[dC] at T;have Q:=abx (dep x) (dC xs);have P:=ż (dep x) (dC xs);have X:=Zj (A:=A) Y.1 ky.1 (by omega) U g1;simp only[jk] at h;split at h
   ·rename_i W
    rw[W] at X;exact .eq X (CN A xs ys b _ _ h Y.2 ky.2 (by omega) S g2)
   ·rename_i W
    rw[aa6] at W;rw[W] at X;exact .lt X (Zk A x y b _ _ h Y.1 ky.1 (by omega) U g1)
end
end
section
variable {prog:ä} {w:ù} {A:ì} {E:Ç->Ä->Prop} {s:Ä}
def R9 (h:je A s xs ys b):∀(i:Nat),fin=decide (xs.length<ys.length)->Q b s->KatLex prog w A t fin Q (xs.zip ys) (i+1) s:=by
 induction h with
 |nn=>intro i Z q;rw[Z];exact q
 |nc y ys=>intro i Z q;rw[Z];exact q
 |cn x xs=>intro i Z q;rw[Z];exact q
 |eq Y _ ih =>
  intro i Z q;rw[Ĩ];exact kat_cons (Y prog w _ _ (kat_yes (ih (i+1) (by rw[Z];simp) q)))
 |lt Y X =>
  intro i Z q;rw[Ĩ];refine kat_cons (Y prog w _ _ (kat_no ?_));rw[show (t&&(i+1==0))=false by simp];exact kat_one _ _ (X prog w _ _ q)
def Sa (hs:x=y->je A s xs ys b) (hf:fin=decide (xs.length<ys.length)) (q:Q (if x=y then b else decide (x.cps.toList<y.cps.toList)) s) :
  KatLex prog w A true fin Q ((.str x t::xs).zip (.str y u::ys)) 0 s:=by
 rw[Ĩ];refine kat_cons (wpAny_eqBool_str ?_);by_cases e:x=y
 ·rw[ã e] at q
  rw[æ e];exact kat_yes (R9 (hs e) 0 hf q)
 ·rw[í e] at q
  rw[ć e];exact kat_no (oneLt_str q)
end
inductive Pg where
 |made (m d:Int) (h l:List Int)
 |bu (m d k:Int)
noncomputable def ti (l:List Int):D:=.tup (l.map D.int)
def Pg.d:Pg->D
 | .made m d h l=>.tup [.str "made",.int m,.int d,.tup [ti h,ti l]]
 | .bu m d k=>.tup [.str "mended",.int m,.int d,.int k]
def K9 (h:ti a=ti b):a=b:=by
 injection h with h
 exact List.map_inj_right (λx y e=>by injection e) |>.mp h
def Pg.Mf {p q:Pg} (h:p.d=q.d):p=q:=by
 cases p<;>cases q<;>simp only[Pg.d,D.tup.injEq,aby,D.int.injEq,and_true,reduceCtorEq,and_false,false_and] at h
 ·obtain⟨_,Z,Y,X,W⟩:=h
  rw[Z,Y,K9 X,K9 W]
 ·obtain⟨_,Z,Y,X⟩:=h
  rw[Z,Y,X]
noncomputable def encL:List Int->List Int
 | []=>[0]
 |x::Z=>1::x::encL Z
def Pg.enc:Pg->List Int
 | .made m d h l=>0::m::d::(encL h++encL l)
 | .bu m d k=>[1,m,d,k]
theorem By:∀{a b u v:List Int},encL a++u=encL b++v->a=b/\u=v
 | [],[],u,v,h=>by simpa [encL] using h
 | [],y::b,u,v,h=>by simp[encL] at h
 |x::a,[],u,v,h=>by simp[encL] at h
 |x::a,y::b,u,v,h=>by
  simp only[encL,ā,aby,acb] at h;obtain⟨Z,Y⟩:=By h.2;exact⟨by rw[h.1,Z],Y⟩
def Pg.VJ {p q:Pg} (h:p.enc=q.enc):p=q:=by
 cases p<;>cases q<;>simp only[Pg.enc,aby,and_true,acb,reduceCtorEq,false_and,Int.reduceEq] at h
 ·obtain⟨Y,X,W⟩:=h
  have Z:=By (u:=encL _++[]) (v:=encL _++[]) (by simpa using W);have V:=By Z.2;rw[Y,X,Z.1,V.1]
 ·rw[h.1,h.2.1,h.2.2]
def ff:ST.Ord Pg where
 lt p q:=lexLt p.enc q.enc
 FC p:=ST.Cb _
 tr _ _ _ h g:=ST.Xk _ _ _ h g
 wU _ _ h g:=Pg.VJ (ST.VB _ _ h g)
theorem IA:∀a b:List Int,iZ (a.map D.int) (b.map D.int)=decide (a=b)
 | [],[]=>rfl
 | [],_::_=>rfl
 |_::_,[]=>rfl
 |x::a,y::b=>by
  simp only[ß,iZ,beq,IA a b]
  by_cases e:x=y<;>simp[e]
theorem IC:∀a b:List Int,jk (a.map D.int) (b.map D.int)=some (lexLt a b)
 | [],[]=>rfl
 | [],_::_=>rfl
 |_::_,[]=>rfl
 |x::a,y::b=>by
  simp only[ß,jk,beq,jb,jy,IC a b]
  by_cases e:x=y<;>simp[e]
theorem Cc:∀a b u v:List Int,lexLt (encL a++u) (encL b++v)=if a=b then lexLt u v else lexLt a b
 | [],[],u,v=>by simp[encL,jy]
 | [],y::b,u,v=>by simp[encL,jy];rfl
 |x::a,[],u,v=>by simp[encL,jy];rfl
 |x::a,y::b,u,v=>by
  simp only[encL,ā,jy,Ā,Cc a b u v,aby]
  by_cases e:x=y<;>simp[e]
def Mg (p q:Pg):jb p.d q.d=some (ff.lt p q):=by
 have T:¬ ((ĉ "made")=ĉ "mended"):=by decide +kernel
 have S:¬ ((ĉ "mended")=ĉ "made"):=by decide +kernel
 have R:decide ((ĉ "made").cps.toList<(ĉ "mended").cps.toList)=true:=by decide +kernel
 have Q:decide ((ĉ "mended").cps.toList<(ĉ "made").cps.toList)=false:=by decide +kernel
 show _=some (lexLt p.enc q.enc)
 cases p with
 |made m d h l =>
  cases q with
  |made Z Y V X =>
   simp only[Pg.d,Pg.enc,jb,jk,beq,iZ,ti,jy,IA,IC,Cc,ĝ,Ā,Bool.and_true];have:=Cc l X [] [];simp only[İ] at this;rw[this]
   by_cases e1:m=Z<;>by_cases e2:d=Y<;>by_cases W:h=V<;>by_cases P:l=X<;>simp[e1,e2,W,P,ST.Cb]
  |bu Z Y U=>simp only[Pg.d,Pg.enc,jb,jk,beq,jy,beq_iff_eq,T,R,û];simp
 |bu m d k =>
  cases q with
  |made Z Y V X=>simp only[Pg.d,Pg.enc,jb,jk,beq,jy,beq_iff_eq,S,Q,û];simp
  |bu Z Y U =>
   simp only[Pg.d,Pg.enc,jb,jk,beq,jy,ĝ,Ā]
   by_cases e1:m=Z<;>by_cases e2:d=Y<;>by_cases W:k=U<;>simp[e1,e2,W,ST.Cb]
def VL (l:List Int):de (l.map D.int)=true:=by
 induction l with
 |nil=>rfl
 |cons x l ih=>simpa only [ß,de,kd,Ē] using ih
def T7 (l:List Int):dC (l.map D.int)=0:=by
 induction l with
 |nil=>rfl
 |cons x l ih=>simp only[ß,dC,dep,ih];rfl
def kB (p:Pg):kd p.d=true:=by
 have Z:PyData.strOk "made"=true:=by decide +kernel
 have Y:PyData.strOk "mended"=true:=by decide +kernel
 cases p<;>simp only[Pg.d,kd,de,ti,VL,Z,Y,Ĝ]
def CO (p:Pg):dep p.d<=3:=by
 cases p<;>simp only[Pg.d,dep,dC,ti,T7]<;>decide
def Jn (p:Pg):∃(x:Str) (r:List D),p.d=.tup (.str x::r):=by
 cases p<;>exact⟨_,_,rfl⟩
def Dz {h:Ĳ} {p:Pg} {v:Ç} (q:KA h p.d v):∃(x:Str) (r:List D) (a:Ù) (o:Obj) (its:Array Ç) (n:Nat) (t:Tok) (us:List Ç),p.d=.tup (.str x::r)/\v=.ref a/\h.get? a=some o/\o.cls=.type "tuple"/\o.data=.seq its n/\its.toList=.str x t::us/\df h r us/\de r=true:=by
 obtain⟨x,r,e⟩:=Jn p;have k:=kB p;rw[e] at q k;simp only[KA] at q;obtain⟨a,o,its,n,e1,Z,Y,X,u,us,e2,⟨t,W⟩,V⟩:=q;simp only[kd,de,Æ] at k;exact⟨x,r,a,o,its,n,t,us,e,e1,Z,Y,X,by rw[e2,W],V,k.2⟩
section
variable {prog:ä} {w:ù} {A:ì} {E:Ç->Ä->Prop} {s:Ä}
def Sb:∀{ps:List Pg} {us:List Ç},df s.heap (ps.map Pg.d) us->∃fs,KatTups s.heap us fs/\(∀v∈fs,∃x t,v=Value.str x t)/\fs.length=us.length:=by
 intro ps
 induction ps with
 |nil=>intro us h;cases h;exact⟨[],KatTups.nil,λv (hv:v∈[])=>(é hv).elim,rfl⟩
 |cons p ps ih =>
  intro us h;obtain⟨v,r,rfl,Z,Y⟩:=h;obtain⟨fs,X,W,V⟩:=ih Y;obtain⟨x,_,a,o,its,n,t,R,_,rfl,U,T,S,hi,_⟩:=Dz Z;refine⟨.str x t::fs,.cons U T S (by rw[<- ĭ,hi];rfl) X,λv hv=>?_,by simp[V]⟩
  rcases Ò.mp hv with rfl|hv
  ·exact⟨x,t,rfl⟩
  ·exact W v hv
def kas_get:∀{ds:List D} {us:List Ç},df h ds us->∀i,i<us.length->KA h (ds.getD i .au) (us.getD i Value.none):=by
 intro ds
 induction ds with
 |nil=>intro us h i hi;cases h;cases hi
 |cons d ds ih =>
  intro us h i hi;obtain⟨v,r,rfl,Z,Y⟩:=h
  cases i with
  |zero=>exact Z
  |succ i=>exact ih Y i (by simpa using hi)
def VM:∀{ds:List D} {us:List Ç},df h ds us->ds.length=us.length:=by
 intro ds
 induction ds with
 |nil=>intro us h;cases h;rfl
 |cons d ds ih=>intro us h;obtain⟨v,r,rfl,Y,Z⟩:=h;simp[ih Z]
def Xu (hu:A.units+100<abh) (h1:KA s.heap p.d v) (h2:KA s.heap q.d u) (hC:C (ff.lt p q) s):Ý (â prog w) A (keyLt' (tuples' true) v u) C E s:=by
 obtain⟨x,r,a,o,its,n,t,M,e,rfl,V,L,U,hi,T,k⟩:=Dz h1;obtain⟨Z,S,K,J,X,I,H,R,Q,rfl,P,G,O,W,Y,N⟩:=Dz h2;have dl:=CO p;rw[e] at dl;simp only[dep,dC] at dl;have lt:=Mg p q;rw[e,Q] at lt;simp only[jb,jk] at lt;have be:beq (.str x) (.str Z)=true↔x=Z:=by simp[beq]
 refine kat_lt V U P O ?_;rw[hi,W];refine Sa (b:=ff.lt p q) (λex=>?_) ?_ ?_
 ·rw[ã (be.mpr ex)] at lt
  exact CN A r S _ _ _ lt k N (by have:=ż (0:Nat) (dC r);omega) T Y
 ·simp[<- ñ,hi,W]
 ·by_cases ex:x=Z
  ·rw[ã ex];exact hC
  ·rw[í λz=>ex (be.mp z)] at lt
   rw[í ex,acH lt];exact hC
def T8 {us:List Ç} {ps:List Pg} (t:df s.heap (ps.map Pg.d) us) (h2:2<=us.length) (hu:A.units+100<abh) (d:Pg):ST.jl prog w A ff (λi=>ps.getD i d) us s:=by
 obtain⟨fs,Z,Y,S⟩:=Sb t;have X:=VM t;rw[Í] at X;have at_:∀i,i<us.length->KA s.heap (ps.getD i d).d (us.getD i Value.none):=λi hi=>by
  have:=kas_get t i hi;rwa [show (ps.map Pg.d).getD i .au=(ps.getD i d).d by simp[ũ,ç,Ë (show i<ps.length by omega)]] at this
 unfold ST.jl;refine kat_kind (T:=.type "str") Z (by omega) (λv W=>?_) (by decide) ⟨rfl,λi j C hi V U=>?_⟩
 ·obtain⟨x,R,rfl⟩:=Y v W
  exact .of_pure rfl
 ·exact Xu hu (at_ i hi) (at_ j V) U
end
end TK
namespace TK
open PySem PySem.W PyProof.Rows DI L2
open Classical in
def yT (xs:List D):Option D:=if h:∃Z:List Pg,xs=Z.map Pg.d then some (.lst ((ST.jO ff (Classical.choose h)).map Pg.d)) else none
def QQ:∀{a b:List Pg},a.map Pg.d=b.map Pg.d->a=b:=λh=>List.map_inj_right (λ_ _ e=>Pg.Mf e) |>.mp h
def Jo (ps:List Pg):yT (ps.map Pg.d)=some (.lst ((ST.jO ff ps).map Pg.d)):=by
 unfold yT;have h:∃Z:List Pg,ps.map Pg.d=Z.map Pg.d:=⟨ps,rfl⟩;rw[dif_pos h];have:=QQ (Classical.choose_spec h);rw[<- this]
def rJ (ds:List D) (s:af):Res D:=match ds with
 | [d]=>match res d s with
  | .lst Z=>if Z.length<64 then bY (yT Z) s else none
  |_=>none
 |_=>none
section
variable {X:Cx} {Ξ:Wd->aY->Prop}
def VN (ps:List Pg):de (ps.map Pg.d)=true:=by
 induction ps with
 |nil=>rfl
 |cons p ps ih=>simp only[ß,de,kB,ih,Ĝ]
def VO (hr:bB k X.A):cD X (.builtin "sorted") (rC X.K Ξ rJ):=by
 rintro n s σ H N m Q I r ⟨w,l,rfl,S,Y,h⟩;unfold rJ at h;split at h
 ·obtain⟨v,rfl,G⟩:=mH Y
  split at h
  ·rename_i F e1
   obtain⟨a,N,rfl,E,Y⟩:=jd S G e1;split at h
   ·rename_i j
    obtain⟨g,e2,h⟩:=fK h;obtain⟨u,rfl,D⟩:=vals1 r;cases D;obtain⟨its,W,C,B⟩:=I.list (bC.of E);have R:its.length=F.length:=W.length.symm.trans Y.length.symm;have V:=e2;unfold yT at V;split at V
    ·rename_i Z
     obtain⟨U,z⟩:=Z;clear V;subst z;rw[Jo] at e2;cases e2;have M:U.length=its.length:=by rw[R,Í]
     refine ST.R1 (O:=ff) (x:=λi=>U.getD i (.bu 0 0 0)) C.isList (by omega) (λy f P=>T8 (df.keep (λb o T _ _=>P b o T) _ _ (CL I _ _ _ (VN U) Y W)) y (by have:=hr.un;show X.A.units+1+1+100<abh;have:abh=9900:=rfl;omega) _) λq c b e Z L P T t=>?_;have J:∀i∈q.toList,i<(U.map Pg.d).length:=λi hi=>by rw[<- R];exact Ġ.mp (Z.2.mem_iff.mp hi)
     rw[<- M] at Z L;have p:=I.aE.fresh T;refine⟨.ref b,_,I.laid (o:=.lst (q.toList.map λi=>N.getD i .au)) (t':=s.toks) P T ⟨?_,_,e,R5 W (by rw[R];exact J),t⟩,rfl,?_⟩
     ·rw[Í,ñ,Z.1,M,W.length.symm];exact B
     ·refine sA S ?_ h b p
      rw[<- TV Z L];exact TU Y J
    ·cases V
   ·exact h.elim
  ·exact h.elim
 ·exact h.elim
end
section
variable {prog:ä} {w:ù} {A:ì} {E:Ç->Ä->Prop} {s:Ä}
end
section
variable {X:Cx} {Ξ:Wd->aY->Prop} {e:ħ} {te:TE} {pos p2 p4:Pos} {f:DI.acC D}
end
def DA (f:DI.acC D):DI.acC D:=λenv s=>ak (f env s) λx s=>ak (truth x s) λb s=>ok (.bl (!b)) s
def Xv (ha:PE X a (tE X.K Ξ f)):PE X (.UnaryOp .Not a pos) (tE X.K Ξ (DA f)):=by
 rintro Y s σ H Q I ⟨w,env,rfl,S,U,h⟩;refine UnaryOp_ (aI (ha Y s σ w.H (λv W=>∃b,qh X.K v W b/\Q (.bl (!b)) W) I ⟨w,env,rfl,S,U,(Out.ak h).mono λE x D V T v R=>?_⟩) λv P ⟨x,O,N,M,b,L,J⟩=>?_)
 ·obtain⟨b,t,G⟩:=qh.of V R (Out.ak T)
  exact⟨b,t,aG V G _ rfl⟩
 ·refine not_of (Ę (Ky Y P σ O x v (λc Z=>Q (.bl (!c)) Z) N M ⟨b,L,J⟩) (λc C ⟨Z,F,q⟩=>⟨.bl (!c),Z,F,rfl,q⟩) λ_ _ z=>z)
end TK
namespace ST
open PySem PySem.Spec PyProof.Rows
section
variable {prog:ä} {w:ù} {A:ì} {E:Ç->Ä->Prop} {s:Ä}
end
end ST
namespace DI
open PySem L2
section
variable {X:Cx} {Ξ:Wd->aY->Prop}
end
def keyOf:D->Option Key
 | .int i=>some (.inl i)
 | .str x=>some (.inr x)
 |_=>none
def qo (ai:List (Key×D)) (k:Key):Option D:=match ai with
 | []=>none
 |p::r=>if p.1=k then some p.2 else qo r k
def vO (d:D) (s:af):Option (List (Key×D)):=match d with
 | .aj k=>match s[k]? with
  |some (.dK Z)=>some Z
  |_=>none
 |_=>none
def z9 (K:ę) (w:Wd) (ai:List (Key×D)) (es:List (Key×V)):Prop:=es.map (·.1)=ai.map (·.1)/\ar K w (ai.map (·.2)) (es.map (·.2))
def T9 (h:z9 K w (p::ai) es):∃v r,es=(p.1,v)::r/\DV K w p.2 v/\z9 K w ai r:=by
 obtain⟨Z,Y⟩:=h
 cases es with
 |nil=>cases Z
 |cons e r =>
  obtain⟨v,W,e1,X,dr⟩:=Y;rw[ß] at e1
  injection e1 with a b
  rw[ß,ß] at Z
  injection Z with c d
  exact⟨v,r,by rw[<- c,<- a],X,d,b ▸ dr⟩
def VP:∀{es:List (Key×V)},z9 K w ai es->(∀d,qo ai k=some d->∃v,jT es k=some v/\DV K w d v)/\(jT es k).isSome=(qo ai k).isSome:=by
 induction ai with
 |nil =>
  intro es h;have e:es=[]:=by have:=h.1;simpa using this
  subst e;exact⟨λd z=>(by cases z),rfl⟩
 |cons p r ih =>
  intro es h;obtain⟨v,t,rfl,Z,Y⟩:=T9 h;unfold qo;by_cases e:p.1=k
  ·rw[ã e,Bl e]
   exact⟨λd z=>⟨v,rfl,by cases z;exact Z⟩,rfl⟩
  ·rw[í e,Bm e]
   exact ih Y
def ym (h:DV K w d v) (e:keyOf d=some k):v=kV k:=by
 cases d<;>first | (cases e;done) | (cases e;exact h)
def Xw (S:aM K w) (h:DV K w d v) (e:vO d w.aB=some ai):∃k a es,d=.aj k/\v=.ref a/\w.ρ[k]?=some a/\w.aB[k]?=some (.dK ai)/\w.H a=some (.dK es)/\z9 K w ai es:=by
 unfold vO at e;split at e
 ·rename_i k
  split at e
  ·rename_i Y Z
   cases e;obtain⟨a,e1,rfl⟩:=h;obtain⟨es,X,W,V⟩:=S.cell k a _ e1 Z;exact⟨k,a,es,rfl,rfl,e1,Z,X,W,V⟩
  ·cases e
 ·cases e
def qd (d i:D) (s:af):Res D:=match vO d s,keyOf i with
 |some Z,some k=>bY (qo Z k) s
 |_,_=>none
section
variable {X:Cx} {Ξ:Wd->aY->Prop} {e o i:ħ} {pos iC:Pos} {f fo fi:acC D}
def Xx (hr:bB k X.A):X.A.units+1<abh:=by have:=hr.un;have:abh=9900:=rfl;omega
def Zl (hr:bB k X.A) (ho:PE X o (tE X.K Ξ fo)) (hi:PE X i (tE X.K Ξ fi)) (hs:Ef i:=by intro _ _;rfl):PE X (.Subscript o i pos) (tE X.K Ξ (e2 qd fo fi)) :=
 cA (Vn (Xx hr) ho hi hs) fun σ H Q V=>by
  obtain⟨w,env,U,S,Y,h⟩:=V;subst U;refine⟨w,env,rfl,S,Y,(Out.ak h).mono λT d R P O v N=>⟨T,env,rfl,P,Y.le R,(Out.ak O).mono λD n M W Z u L=>?_⟩⟩;unfold qd at Z;split at Z
  ·rename_i C k e1 e2
   obtain⟨B,a,z,rfl,rfl,_,_,J,I⟩:=Xw W (M _ _ N) e1;have G:=ym L e2;subst G;obtain⟨x,ex,F⟩:=fK Z;obtain⟨v,ev,E⟩:=(VP I).1 x ex;exact⟨a,v,rfl,ev ▸ su.k J,aG W F _ E⟩
  ·exact Z.elim
end
end DI
namespace L2
open PySem PySem.Spec PyProof.Rows
section
variable {X:Cx}
end
end L2
namespace DI
open PySem L2
section
variable {X:Cx} {Ξ:Wd->aY->Prop}
end
end DI
namespace L2
open PySem PySem.Spec PyProof.Rows
section
variable {X:Cx}
end
end L2
namespace DI
open PySem L2
section
variable {X:Cx} {Ξ:Wd->aY->Prop} {a:ħ} {pos:Pos} {f:acC D}
end
end DI
namespace L2
open PySem PySem.Spec PyProof.Rows
section
variable {X:Cx}
end
end L2
namespace DI
open PySem L2
section
variable {X:Cx} {Ξ:Wd->aY->Prop} {pos:Pos}
def MU {K:ę} {w:Wd} {ds:List D} {vs:List V} {Q:VK} (S:aM K w) (aq:ar K w ds vs) (h:Out K Ξ w (ok (D.aj w.aB.length) (w.aB++[.lst ds])) λw' d=>∀v,DV K w' d v->Q v w'.H):∀p,w.H p=none->Q (.ref p) (upd w.H p (.lst vs)):=λp Z=>by
 have le:=(Fw.cell (K:=K) (o:=.lst vs) (c:=.lst ds) S Z).le;refine h (w.cell p (.lst vs) (.lst ds)) le (S.yQ Z ⟨_,cq,le.all aq⟩) rfl (.ref p) ⟨p,?_,rfl⟩;show (w.ρ++[p])[w.aB.length]?=some p;rw[<- S.len];simp
def Xy:PE X (.Dict [] [] pos) (tE X.K Ξ (eC (.bA []))):=cA Tn fun σ H Q W=>by
 obtain⟨w,env,V,S,U,h⟩:=W;subst V;intro p Y;exact h (w.grow p (.dK [])) (Fw.grow Y).le (S.grow Y) rfl (.ref p) ⟨p,rfl,(show ¬ w.Z p from km S Y),cq⟩
end
end DI
namespace L2
open PySem PySem.Spec PyProof.Rows
end L2
namespace DI
open PySem L2
section
variable {X:Cx} {Ξ:Wd->aY->Prop}
end
end DI
namespace L2
open PySem PySem.Spec PyProof.Rows
open AutoSeq1 (wpAny_loadPart')
section
variable {prog:ä} {w:ù} {A:ì} {E:Ç->Ä->Prop} {s:Ä}
end
section
variable {X:Cx}
end
end L2
namespace DI
open PySem L2
section
variable {X:Cx} {Ξ:Wd->aY->Prop} {a:ħ} {p pos:Pos} {fa:acC (List D)}
end
end DI
namespace L2
open PySem PySem.Spec PyProof.Rows
section
variable {X:Cx} {pos:Pos}
def Zm (i j k:Nat) (ta:TA):TS:=λD σ H=>ta σ H λZ Y=>∃v w u,Z=[v,w,u]/\D.nx (((σ.set i (some v)).set j (some w)).set k (some u)) Y
def vals3 (r:Vals [v,w,u] us):∃a b c,us=[a,b,c]/\RelV v a/\RelV w b/\RelV u c:=by
 cases r with
 |cons p q =>
  obtain⟨b,c,rfl,Z,Y⟩:=vals2 q;exact⟨_,b,c,rfl,p,Z,Y⟩
def VQ {kt k2 iG} (hc:X.calm=true) (hN:X.N.Nodup) (hi:X.N[i]?=some x) (hj:X.N[j]?=some y) (hk:X.N[k]?=some z) (fe:i≠j) (qB:i≠k) (tL:j≠k)
 (hx:X.env.scope.names.lookup x=some .local) (hy:X.env.scope.names.lookup y=some .local) (hz:X.env.scope.names.lookup z=some .local) (ha:PA X [a,b,c] ta)
 (hw:Ų [.Tuple [.Name x px,.Name y py,.Name z pz] kt pt] (.Tuple [a,b,c] k2 iG) X.env=pure (some [x,y,z]))
 (hs:ű [.Tuple [.Name x px,.Name y py,.Name z pz] kt pt] (.Tuple [a,b,c] k2 iG) pos.line X.env=pure false) :
  PS X (.Assign [.Tuple [.Name x px,.Name y py,.Name z pz] kt pt] (.Tuple [a,b,c] k2 iG) pos) (Zm i j k ta):=by
 intro U s σ H D I h;rw[exec_Assign_arm];refine À (Ű ?_);rw[hs];refine À (Â ?_);rw[í (by decide)];refine À (Tuple_ (aI (ha _ U s σ H _ I h) λB Z R=>?_));obtain⟨t,T,Q,P,v,w,u,e1,O⟩:=R;subst e1;obtain⟨Y,W,V,rfl,M,L,K⟩:=vals3 P;refine ï ?_ (by show 3<=Ø;decide)
 have J:Inv X U σ T { Z with heap:=Z.heap.push { cls:=.type "tuple",data:=.seq [Y,W,V].toArray } }:=Q.kept (t':=Z.toks) λb o e=>Á _ e
 rw[hw];refine À (Â ?_)
 show Ý (â X.prog X.w) X.A (do rule "assign.swapped-stores";let items <- unpackItems (.ref Z.heap.objs.size) 3 none;ab8 [λv=>abP X.env z v,λv=>abP X.env y v,λv=>abP X.env x v] items.reverse;pure Flow.next) _ _ _
 refine À (ś (À (unpackItems_tuple (items:=#[Y,W,V]) (I.ok.hd hc) (IsTup.new Z.heap _) λh' G=>?_)));have F:=J.kept (h':=h') (t':=Z.toks) λb o e=>G b o (à (Î e)) e
 show Ý _ _ (ab8 [λv=>abP X.env z v,λv=>abP X.env y v,λv=>abP X.env x v] [V,W,Y] >>= λ_=>pure Flow.next) _ _ _
 refine À (Ş (abQ (mB F hN hk (.inl hz) K (λr E=>?_) (.inr hz))));refine Ş (abQ (mB E hN hj (.inl hy) L (λq C=>?_) (.inr hy)));refine Ş (abQ (mB C hN hi (.inl hx) M (λp S=>assignInOrder_nil (Â ?_)) (.inr hx)));rw[List.set_comm _ _ (Ŀ tL),List.set_comm _ _ (Ŀ qB),List.set_comm _ _ (Ŀ fe)] at S;exact⟨_,T,S,O⟩
end
end L2
namespace DI
open PySem L2
section
variable {X:Cx} {Ξ:Wd->aY->Prop} {a b c:ħ} {pos:Pos} {fa:acC (List D)}
def zA (i j k:Nat) (fa:acC (List D)):acC Fl:=λenv s=>ak (fa env s) λZ s=>match Z with
 | [x,y,z]=>ok (.nx (((env.set i (some x)).set j (some y)).set k (some z))) s
 |_=>none
def Xz (i j k:Nat) {x y z:Str} {px py pz pt:Pos} {kt k2 iG} (hc:X.calm=true) (hN:X.N.Nodup) (ha:PA X [a,b,c] (tA X.K Ξ fa)) (hi:X.N[i]?=some x:=by rfl) (hj:X.N[j]?=some y:=by rfl) (hk:X.N[k]?=some z:=by rfl) (fe:i≠j:=by decide) (qB:i≠k:=by decide) (tL:j≠k:=by decide)
  (hx:X.env.scope.names.lookup x=some .local:=by rfl) (hy:X.env.scope.names.lookup y=some .local:=by rfl) (hz:X.env.scope.names.lookup z=some .local:=by rfl)
  (hw:Ų [.Tuple [.Name x px,.Name y py,.Name z pz] kt pt] (.Tuple [a,b,c] k2 iG) X.env=pure (some [x,y,z]):=by rfl)
  (hs:ű [.Tuple [.Name x px,.Name y py,.Name z pz] kt pt] (.Tuple [a,b,c] k2 iG) pos.line X.env=pure false:=by rfl) :
  PS X (.Assign [.Tuple [.Name x px,.Name y py,.Name z pz] kt pt] (.Tuple [a,b,c] k2 iG) pos) (tS X.K Ξ (zA i j k fa)):=jG (VQ hc hN hi hj hk fe qB tL hx hy hz ha hw hs) λM σ H W=>by
 obtain⟨w,env,V,S,Y,h⟩:=W;subst V;refine⟨w,env,rfl,S,Y,(Out.ak h).mono λL J U T Z I R=>?_⟩;split at Z
 ·obtain⟨v,r,rfl,Q,dr⟩:=R
  obtain⟨u,t,rfl,P,O⟩:=uT dr;exact⟨v,u,t,rfl,aG T Z _ ((((Y.le U).set Q i).set P j).set O k)⟩
 ·exact Z.elim
end
def rj:List D->af->Res D:=aF 2 6 (ao (zA 2 3 4 (aa (e2 cb (az bT (aa (ae 0) (aa (eC (.int 3)) ah))) (eC (.int 0))) (aa (eNew ah) (aa (e2 cP (eC (.int 2)) (az bT (aa (ae 0) (aa (eC (.int 9)) ah)))) ah)))) (ao (dQ (cJ (aa (eC (.int 31)) ah)) (gN 5) (ao (aN (dZ (tu (ae 2) (e2 cb (az bT (aa (ae 0) (aa (ae 4) ah))) (eC (.int 0)))) (e2 gF (ae 5) (ae 1))) (gN 2)) (aZ (dj (ae 2)) (bh (gp (ae 3) (ae 5))) bq))) (aL (oz (ae 3)))))
def ya (W:ù):List D->af->Res D:=aF 1 12 (ao (aN (ba (aa TK.yS (aa (e2 cP (eC (.int 1)) (az bT (aa (ae 0) (aa (eC (.int 3)) ah)))) (aa (e2 cP (eC (.int 1)) (az bT (aa (ae 0) (aa (eC (.int 3)) ah)))) ah)))) (gT [(gN 1),(gN 2),(gN 3)])) (ao (dQ (cJ (aa (ae 2) ah)) (gN 4) (ao (aN (ba (aa (cj 1 [] (cJ (aa (eC (.int 8)) ah)) (gN 0) eR (eNew ah)) (aa (eNew ah) ah))) (gT [(gN 5),(gN 6)])) (ao (dQ (cJ (aa (az bT (aa (ae 0) (aa (eC (.int 4)) ah))) ah)) (gN 7) (ao (aN (ba (aa (az bT (aa (ae 0) (aa (eC (.int 8)) ah))) (aa (az bT (aa (ae 0) (aa (eC (.int 31)) ah))) ah))) (gT [(gN 8),(gN 9)])) (ao (bh (gp (e2 aA (ae 5) (ae 8)) (ae 9))) (TK.mY W (eC (.bl true)) (ae 1) (ba (aa (eC (.str "mended")) (aa (ae 4) (aa (ae 9) (aa (ae 8) ah))))))))) (ao (dQ (cJ (aa (eC (.int 8)) ah)) (gN 8) (bh (gp (ae 6) (az rj (aa (ae 0) (aa (e2 aA (ae 5) (ae 8)) ah)))))) (dQ (cJ (aa (az bT (aa (ae 0) (aa (eC (.int 5)) ah))) ah)) (gN 7) (ao (aN (az bT (aa (ae 0) (aa (eC (.int 31)) ah))) (gN 9)) (ao (aN (cj 1 [0,3] (cJ (aa (eC (.int 8)) ah)) (gN 0) (aQ (e2 cb (az bT (aa (ae 1) (aa (ae 2) ah))) (eC (.int 0)))) (ae 0)) (gN 10)) (ao (aN (eB gJ (aa (cj 1 [9,6] (ck (ae 10)) (gN 0) (aQ (e2 eI (ae 1) (e2 aA (ae 2) (ae 0)))) (ae 0)) ah)) (gN 11)) (TK.mY W (eC (.bl true)) (ae 1) (ba (aa (eC (.str "made")) (aa (ae 4) (aa (ae 9) (aa (ba (aa (ae 11) (aa (eB gJ (aa (cj 1 [9,6] (ck (ae 10)) (gN 0) (aQ (e2 gF (ae 1) (e2 aA (ae 2) (ae 0)))) (ae 0)) ah)) ah))) ah)))))))))))))) (aL (eB gJ (aa (eB TK.rJ (aa (eB TK.rH (aa (ae 1) ah)) ah)) ah)))))
def xu:List D->af->Res D:=aF 2 2 (aL (vH (eB sF (aa (cj 1 [1] (ck (ae 0)) (gN 0) eR (e2 eI (ae 0) (ae 1))) ah))))
def nP:List D->af->Res D:=aF 1 3 (ao (aZ (i7 (dJ (dj (eB gr (aa (ae 0) (aa (eC (.ty "tuple")) ah))))) (aQ (e2 i6 (eB cy (aa (ae 0) ah)) (eC (.int 2))))) (aL (eC (.bl false))) bq) (ao (aN (ae 0) (gT [(gN 1),(gN 2)])) (aL (dZ (az nO (aa (ae 1) ah)) (dZ (az nO (aa (ae 2) ah)) (az xu (aa (ae 1) (aa (ae 2) ah))))))))
def nQ:List D->af->Res D:=aF 1 1 (aL (az pd (aa (ae 0) (aa (eC (.int (4))) ah))))
def nS:List D->af->Res D:=aF 1 1 (aL (az pd (aa (ae 0) (aa (eC (.int (31))) ah))))
def xE:List D->af->Res D:=aF 1 5 (ao (aZ (i7 (dJ (dj (eB gr (aa (ae 0) (aa (eC (.ty "tuple")) ah))))) (aQ (e2 i6 (eB cy (aa (ae 0) ah)) (eC (.int 4))))) (aL (eC (.bl false))) bq) (ao (aN (ae 0) (gT [(gN 1),(gN 2),(gN 3),(gN 4)])) (ao (aZ (i7 (dJ (dj (az nQ (aa (ae 2) ah)))) (dJ (dj (az nS (aa (ae 3) ah))))) (aL (eC (.bl false))) bq) (ao (aZ (aQ (e2 cb (ae 1) (eC (.str "made")))) (aL (az nP (aa (ae 4) ah))) bq) (aL (dZ (e2 cb (ae 1) (eC (.str "mended"))) (az ug (aa (ae 4) ah))))))))
def xA:List D->af->Res D:=aF 1 1 (aL (dZ (eB gr (aa (ae 0) (aa (eC (.ty "tuple")) ah))) (dZ (e2 ng (eB cy (aa (ae 0) ah)) (eC (.int (24)))) (dZ (eB jV (aa (cj 1 [] (ck (ae 0)) (gN 0) eR (az xE (aa (ae 0) ah))) ah)) (az pb (aa (ae 0) ah))))))
def lu:List D->af->Res D:=aF 4 4 (aL (cj 1 [1,2,3] (ck (ae 0)) (gN 0) (kE (aQ (e2 cb (e2 aA (ae 0) (eC (.int 0))) (eC (.str "made")))) (kE (aQ (e2 cb (e2 aA (ae 0) (eC (.int 1))) (ae 1))) (aQ (e2 eI (ae 2) (e2 aA (e2 aA (ae 0) (eC (.int 3))) (ae 3)))))) (e2 aA (ae 0) (eC (.int 2)))))
def qU:List D->af->Res D:=aF 3 3 (aL (cj 1 [1,2] (ck (ae 0)) (gN 0) (kE (aQ (e2 cb (e2 aA (ae 0) (eC (.int 0))) (eC (.str "mended")))) (kE (aQ (e2 cb (e2 aA (ae 0) (eC (.int 1))) (ae 1))) (aQ (e2 cb (e2 aA (ae 0) (eC (.int 3))) (ae 2))))) (e2 aA (ae 0) (eC (.int 2)))))
def xm:List D->af->Res D:=aF 3 3 (aL (eB sF (aa (cj 1 [1,2] (ck (ae 0)) (gN 0) eR (qD kM ng (ae 1) (ae 0) (ae 2))) ah)))
def uh:List D->af->Res D:=aF 3 5 (ao (aN (az lu (aa (ae 0) (aa (ae 1) (aa (ae 2) (aa (eC (.int (1))) ah))))) (gN 3)) (ao (aN (az qU (aa (ae 0) (aa (ae 1) (aa (ae 2) ah)))) (gN 4)) (aL (CH 2 [3,4] (ck (e1 mE (az lu (aa (ae 0) (aa (ae 1) (aa (ae 2) (aa (eC (.int (0))) ah))))))) (gN 0) eR (tB (aa (ae 0) (aa (eC (.int (31))) ah))) (gN 1) (kE (i7 (aQ (e2 eI (ae 1) (ae 2))) (kE (aQ (e2 cb (ae 1) (ae 0))) (aQ (e2 eI (ae 0) (ae 3))))) (dJ (dj (az xm (aa (ae 3) (aa (ae 0) (aa (ae 1) ah))))))) (ba (aa (ae 0) (aa (ae 1) ah)))))))
def xw:List D->af->Res D:=aF 1 1 (aL (K1 4 [0] (cJ (aa (eC (.int (4))) ah)) (gN 0) eR (cJ (aa (eC (.int (8))) ah)) (gN 1) eR (ck (az uh (aa (ae 4) (aa (ae 0) (aa (ae 1) ah))))) (gT [gN 2,gN 3]) eR (ba (aa (ae 0) (aa (ae 1) (aa (ae 2) (aa (ae 3) ah)))))))
def ph:List D->af->Res D:=aF 1 1 (aL (dZ (az xA (aa (ae 0) ah)) (TK.DA (az xw (aa (ae 0) ah)))))
def kc:List D->af->Res D:=aF 1 1 (aZ (dJ (dj (az ph (aa (ae 0) ah)))) gg bq)
def lq:List D->af->Res D:=aF 1 1 (aZ (dJ (dj (az nQ (aa (ae 0) ah)))) gg bq)
def qZ:List D->af->Res D:=aF 1 1 (aZ (dJ (dj (az nS (aa (ae 0) ah)))) gg bq)
def OV:List D->af->Res D:=aF 3 8 (ao (aN (az lu (aa (ae 0) (aa (ae 1) (aa (ae 2) (aa (eC (.int (0))) ah))))) (gN 3)) (ao (aN (az qU (aa (ae 0) (aa (ae 1) (aa (ae 2) ah)))) (gN 4)) (ao (aN (eNew ah) (gN 5)) (ao (aN (eC (.bl false)) (gN 6)) (ao (dQ (cJ (aa (eC (.int (31))) ah)) (gN 7) (ao (aN (tu (e2 eI (ae 7) (ae 3)) (dZ (ae 6) (e2 gF (ae 7) (ae 4)))) (gN 6)) (aZ (dj (ae 6)) (bh (gp (ae 5) (ae 7))) bq))) (aL (oz (ae 5))))))))
def O5:List D->af->Res D:=aF 3 8 (ao (aN (az lu (aa (ae 0) (aa (ae 1) (aa (ae 2) (aa (eC (.int (1))) ah))))) (gN 3)) (ao (aN (az qU (aa (ae 0) (aa (ae 1) (aa (ae 2) ah)))) (gN 4)) (ao (aN (eNew ah) (gN 5)) (ao (aN (eC (.bl false)) (gN 6)) (ao (dQ (iRv (aa (eC (.int (31))) ah)) (gN 7) (ao (aZ (i7 (dj (ae 6)) (i7 (aQ (e2 eI (ae 7) (ae 3))) (aQ (e2 eI (ae 7) (ae 4))))) (bh (gp (ae 5) (ae 7))) bq) (aN (dZ (tu (ae 6) (e2 eI (ae 7) (ae 3))) (e2 gF (ae 7) (ae 4))) (gN 6)))) (aL (oz (ae 5))))))))
def HQ:List D->af->Res D:=aF 2 2 (aL (eB gJ (aa (cj 1 [1,0] (cJ (aa (eC (.int (8))) ah)) (gN 0) (aQ (e2 eI (ae 1) (e2 aA (ae 2) (ae 0)))) (ae 0)) ah)))
def O6:List D->af->Res D:=aF 2 4 (ao (aN (cj 1 [0,1] (cJ (aa (eC (.int (8))) ah)) (gN 0) eR (az OV (aa (ae 1) (aa (ae 2) (aa (ae 0) ah))))) (gN 2)) (ao (aN (cj 1 [0,1] (cJ (aa (eC (.int (8))) ah)) (gN 0) eR (az O5 (aa (ae 1) (aa (ae 2) (aa (ae 0) ah))))) (gN 3)) (aL (cj 1 [2,3] (cJ (aa (eC (.int (31))) ah)) (gN 0) eR (ba (aa (az HQ (aa (ae 1) (aa (ae 0) ah))) (aa (az HQ (aa (ae 2) (aa (ae 0) ah))) ah)))))))
def xK:List D->af->Res D:=aF 3 3 (ao (bh (az kc (aa (ae 0) ah))) (ao (bh (az lq (aa (ae 1) ah))) (ao (bh (az qZ (aa (ae 2) ah))) (aL (e2 aA (az O6 (aa (ae 0) (aa (ae 1) ah))) (ae 2))))))
section
variable {X:Cx} {Ξ:Wd->aY->Prop} {a b:ħ} {pos:Pos} {fa:acC (List D)}
def XA {j1 j2}:PE X (.Dict [some (.Constant (.str i) j1 p1)] [.Constant (.int v) j2 p2] pos) (tE X.K Ξ (eC (.bA [(Ă i,v)]))) :=
 cA (JR (Bn yj Ks JQ) rfl rfl (by simp) (by simp)) fun σ H Q V=>by
  obtain⟨w,env,U,S,T,h⟩:=V;subst U;intro p W;refine⟨cq,[(Ă i,.int v)],rfl,by simp,?_⟩;have e:upd (upd w.H p (.dK [])) p (.dK (pL [] [(Ă i,.int v)]))=upd w.H p (.dK [(Ă i,.int v)]):=by
   funext b;by_cases Y:b=p
   ·subst Y;rw[cq,cq];rfl
   ·rw[aV Y,aV Y,aV Y]
  rw[e];exact h (w.grow p (.dK [(Ă i,.int v)])) (Fw.grow W).le (S.grow W) rfl (.ref p) ⟨p,rfl,(show ¬ w.Z p from km S W),cq⟩
def CP (ds:List D) (s:af):Res D:=match ds with
 | [d]=>match res d s with
  | .lst Z=>ok (.aj s.length) (s++[.lst Z])
  | .tup Z=>ok (.aj s.length) (s++[.lst Z])
  |_=>none
 |_=>none
def VR:cD X (.type "list") (rC X.K Ξ CP):=by
 rintro U s σ H Y T Q I r ⟨w,P,rfl,S,Z,h⟩;unfold CP at h;split at h
 ·obtain⟨v,rfl,W⟩:=mH Z
  split at h
  ·rename_i R e1
   obtain⟨a,Y,rfl,V,Z⟩:=jd S W e1;exact xo U s σ w.H _ T Q I r ⟨a,Y,rfl,.inl (bC.of V),MU S Z h⟩
  ·rename_i R e1
   rw[eD e1 (by intro _ z;cases z)] at W;simp only[DV] at W;obtain⟨a,Y,rfl,V,Z⟩:=W;exact xo U s σ w.H _ T Q I r ⟨a,Y,rfl,.inr V,MU S Z h⟩
  ·exact h.elim
 ·exact h.elim
end
noncomputable def notStar:ħ->Bool
 | .Starred ..=>false
 |_=>true
def VS (h:notStar e=true):Õ (e::es) env=(false,ō e env)::Õ es env:=by
 cases e<;>first|rfl|cases h
section
variable {X:Cx} {Ξ:Wd->aY->Prop} {e:ħ} {es:List ħ} {f:acC D} {fa:acC (List D)} {pos:Pos}
def dA (ha:PE X e (tE X.K Ξ f)) (hr:PA X es (tA X.K Ξ fa)) (h:notStar e=true):PA X (e::es) (tA X.K Ξ (aa f fa)):=aS ha hr (VS h)
def XB {e1 e2 e3 e4 e5 e6 e7 e8:ħ} {f1 f2 f3 f4 f5 f6 f7 f8:acC D} (h1:PE X e1 (tE X.K Ξ f1)) (h2:PE X e2 (tE X.K Ξ f2)) (h3:PE X e3 (tE X.K Ξ f3)) (h4:PE X e4 (tE X.K Ξ f4)) (h5:PE X e5 (tE X.K Ξ f5)) (h6:PE X e6 (tE X.K Ξ f6)) (h7:PE X e7 (tE X.K Ξ f7)) (h8:PE X e8 (tE X.K Ξ f8)) (s1:notStar e1=true:=by rfl) (s2:notStar e2=true:=by rfl) (s3:notStar e3=true:=by rfl) (s4:notStar e4=true:=by rfl) (s5:notStar e5=true:=by rfl) (s6:notStar e6=true:=by rfl) (s7:notStar e7=true:=by rfl) (s8:notStar e8=true:=by rfl):PE X (.List [e1,e2,e3,e4,e5,e6,e7,e8] pos) (tE X.K Ξ (bH (aa f1 (aa f2 (aa f3 (aa f4 (aa f5 (aa f6 (aa f7 (aa f8 ah)))))))))):=cE (dA h1 (dA h2 (dA h3 (dA h4 (dA h5 (dA h6 (dA h7 (dA h8 cV s8) s7) s6) s5) s4) s3) s2) s1)
def VT {e1 e2 e3 e4 e5 e6 e7 e8 e9 eT dU dW FH FI FJ FK FL FN:ħ} {f1 f2 f3 f4 f5 f6 f7 f8 f9 NU NV NW NX NY NZ N0 N1 N2:acC D} (h1:PE X e1 (tE X.K Ξ f1)) (h2:PE X e2 (tE X.K Ξ f2)) (h3:PE X e3 (tE X.K Ξ f3)) (h4:PE X e4 (tE X.K Ξ f4)) (h5:PE X e5 (tE X.K Ξ f5)) (h6:PE X e6 (tE X.K Ξ f6)) (h7:PE X e7 (tE X.K Ξ f7)) (h8:PE X e8 (tE X.K Ξ f8)) (h9:PE X e9 (tE X.K Ξ f9)) (h10:PE X eT (tE X.K Ξ NU)) (oM:PE X dU (tE X.K Ξ NV)) (oK:PE X dW (tE X.K Ξ NW)) (FA:PE X FH (tE X.K Ξ NX)) (h14:PE X FI (tE X.K Ξ NY)) (wz:PE X FJ (tE X.K Ξ NZ)) (h16:PE X FK (tE X.K Ξ N0)) (h17:PE X FL (tE X.K Ξ N1)) (h18:PE X FN (tE X.K Ξ N2)) (s1:notStar e1=true:=by rfl) (s2:notStar e2=true:=by rfl) (s3:notStar e3=true:=by rfl) (s4:notStar e4=true:=by rfl) (s5:notStar e5=true:=by rfl) (s6:notStar e6=true:=by rfl) (s7:notStar e7=true:=by rfl) (s8:notStar e8=true:=by rfl) (s9:notStar e9=true:=by rfl) (s10:notStar eT=true:=by rfl) (s11:notStar dU=true:=by rfl) (s12:notStar dW=true:=by rfl) (s13:notStar FH=true:=by rfl) (s14:notStar FI=true:=by rfl) (s15:notStar FJ=true:=by rfl) (s16:notStar FK=true:=by rfl) (s17:notStar FL=true:=by rfl) (s18:notStar FN=true:=by rfl):PE X (.List [e1,e2,e3,e4,e5,e6,e7,e8,e9,eT,dU,dW,FH,FI,FJ,FK,FL,FN] pos) (tE X.K Ξ (bH (aa f1 (aa f2 (aa f3 (aa f4 (aa f5 (aa f6 (aa f7 (aa f8 (aa f9 (aa NU (aa NV (aa NW (aa NX (aa NY (aa NZ (aa N0 (aa N1 (aa N2 ah)))))))))))))))))))):=cE (dA h1 (dA h2 (dA h3 (dA h4 (dA h5 (dA h6 (dA h7 (dA h8 (dA h9 (dA h10 (dA oM (dA oK (dA FA (dA h14 (dA wz (dA h16 (dA h17 (dA h18 cV s18) s17) s16) s15) s14) s13) s12) s11) s10) s9) s8) s7) s6) s5) s4) s3) s2) s1)
end
section
variable {X:Cx} {Ξ:Wd->aY->Prop} {pos:Pos}
end
section
variable {X:Cx} {Ξ:Wd->aY->Prop} {a b:ħ} {fa:acC (List D)} {pos:Pos}
end
end DI
namespace L2
open PySem
def cu {α:Type}:Sem α->Prop
 | .pure _=>True
 | .raise _=>True
 | .unsupported _=>True
 | .finish _=>True
 | .rule _ k=>cu (k ())
 | .at _ k=>cu (k ())
 | .load _ _ k=>∀o,cu (k o)
 | .update _ _ f k=>(∀o,(f o).dict=o.dict)/\cu (k ())
 | .loadIfAlive _ k=>∀o,cu (k o)
 | .point _ k=>cu (k ())
 | .register _ _=>True
 | .alloc _ k=>∀a,cu (k a)
 | .fresh k=>∀t,cu (k t)
 | .ask k=>∀t,cu (k t)
 | .choose _ _ k=>∀n,cu (k n)
 | .os _ _ k=>∀r,cu (k r)
 | .call ..=>False
 | .handled _ k=>∀v,cu (k v)
 | .genState _ k=>∀v,cu (k v)
 | .newGen _ k=>∀v,cu (k v)
 | .resume ..=>False
 | .yield ..=>True
 | .stack k=>∀v,cu (k v)
 | .fork ..=>True
 | .thread k=>∀v,cu (k v)
 | .await ..=>True
def Dk (h0 h:Ĳ):Prop:=h0.objs.size<=h.objs.size/\∀b o,h0.get? b=some o->∀Z,h.get? b=some Z->Z.dict=o.dict
def Dk.refl (h:Ĳ):Dk h h:=⟨acG _,λb o e Y Z=>by rw[e] at Z;cases Z;rfl⟩
theorem Dk.push {h0 h:Ĳ} (k:Dk h0 h) (o:Obj):Dk h0 (h.push o):=by
 refine⟨Þ k.1 (by rw[Ċ];exact abb _),λb p e X W=>k.2 b p e X ?_⟩;have Z:=È (Î e) k.1;obtain⟨Y,V⟩:=abz.mp W;refine abz.mpr ⟨?_,V⟩;have:(h.push o).objs[b]?=h.objs[b]?:=by
  show (h.objs.push o)[b]?=_;rw[Array.getElem?_push_lt Z,Array.getElem?_eq_getElem Z]
 rw[this] at Y;exact Y
def Dk.upd {h0 h:Ĳ} (k:Dk h0 h) {a:Ù} {f:Obj->Obj} (hf:∀o,(f o).dict=o.dict) (ha:(h.get? a).isSome):Dk h0 (h.update a f):=by
 refine⟨by rw[Heap.size_update];exact k.1,λb p e Y X=>?_⟩;by_cases U:b=a
 ·subst U
  obtain⟨W,e1⟩:=abd.mp ha;have T:=k.2 b p e W e1;obtain⟨Z,S⟩:=abz.mp X;obtain⟨V,R⟩:=abz.mp e1;have:Y=f W:=by
   obtain⟨objs,l⟩:=h;have Z:(objs.modify b f)[b]?=some Y:=Z;have V:objs[b]?=some W:=V;rw[Array.getElem?_modify,ã rfl,V] at Z;exact(acH Z).symm
  rw[this,hf,T]
 ·rw[abc _ _ _ _ U] at X
  exact k.2 b p e Y X
def Ua {α:Type} (M:Model) (Γ:Ctx) (t:Sem α):∀{Q:α->Pos->Ä->Prop} {E:Ç->Pos->Ä->Prop} {p:Pos} {s:Ä},cu t->Ž M Γ t Q E p s->∀{h0:Ĳ},Dk h0 s.heap ->
  Ž M Γ t (λa p' s'=>Q a p' s'/\Dk h0 s'.heap) (λe p' s'=>E e p' s'/\Dk h0 s'.heap) p s:=by
 induction t with
 |pure a=>intro Q E p s d h h0 k;rw[Ž] at h |-;exact⟨h,k⟩
 |raise e=>intro Q E p s d h h0 k;rw[Ž] at h |-;exact⟨h,k⟩
 |unsupported w=>intro Q E p s d h h0 k;rw[Ž] at h;exact h.elim
 |finish w=>intro Q E p s d h h0 k;rw[Ž] at h;exact h.elim
 |rule t Z ih=>intro Q E p s d h h0 k;rw[Ž] at h |-;exact ih () d h k
 | «at» t Z ih=>intro Q E p s d h h0 k;rw[Ž] at h |-;exact ih () d h k
 |load a pt Z ih=>intro Q E p s d h h0 k;rw[Ž] at h |-;obtain⟨o,e,h⟩:=h;exact⟨o,e,ih o (d o) h k⟩
 |loadIfAlive a Z ih=>intro Q E p s d h h0 k;rw[Ž] at h |-;exact ih _ (d _) h k
 |point a Z ih=>intro Q E p s d h h0 k;rw[Ž] at h |-;exact ih () d h k
 |register a Z ih=>intro Q E p s d h h0 k;rw[Ž] at h;exact h.elim
 |fresh Z ih=>intro Q E p s d h h0 k;rw[Ž] at h |-;exact ih _ (d _) h k
 |ask Z ih=>intro Q E p s d h h0 k;rw[Ž] at h |-;exact ih _ (d _) h k
 |choose a n Z ih=>intro Q E p s d h h0 k;rw[Ž] at h |-;exact⟨h.1,ih _ (d _) h.2 k⟩
 |os a n Z ih=>intro Q E p s d h h0 k;rw[Ž] at h |-;exact ih _ (d _) h k
 |call a b c n Z ih=>intro Q E p s d h h0 k;exact Į d
 |handled a Z ih=>intro Q E p s d h h0 k;rw[Ž] at h |-;exact ih _ (d _) h k
 |genState a Z ih=>intro Q E p s d h h0 k;rw[Ž] at h |-;obtain⟨o,e,h⟩:=h;exact⟨o,e,ih _ (d _) h k⟩
 |newGen a Z ih=>intro Q E p s d h h0 k;rw[Ž] at h |-;exact ih _ (d _) h k
 |resume a b c Z ih=>intro Q E p s d h h0 k;exact Į d
 |yield a b c Z ih=>intro Q E p s d h h0 k;rw[Ž] at h;exact h.elim
 |stack Z ih=>intro Q E p s d h h0 k;rw[Ž] at h |-;exact ih _ (d _) h k
 |fork a Z ih=>intro Q E p s d h h0 k;rw[Ž] at h;exact h.elim
 |thread Z ih=>intro Q E p s d h h0 k;rw[Ž] at h |-;exact ih _ (d _) h k
 |await a b c e Z ih=>intro Q E p s d h h0 k;rw[Ž] at h;exact h.elim
 |alloc o Z ih=>intro Q E p s d h h0 k;rw[Ž] at h |-;exact ih _ (d _) h (k.push o)
 |update a pt f Z ih=>intro Q E p s d h h0 k;rw[Ž] at h |-;exact⟨h.1,ih () d.2 h.2 (k.upd d.1 h.1)⟩
def xM {α:Type} {M:Model} {A:ì} {t:Sem α} {Q:α->Ä->Prop} {E:Ç->Ä->Prop} {s:Ä} (d:cu t) (h:Ý M A t Q E s):Ý M A t (λa s'=>Q a s'/\Dk s.heap s'.heap) (λe s'=>E e s'/\Dk s.heap s'.heap) s :=
 fun Z p i=>Ua M Z t d (h Z p i) (Dk.refl _)
def fG {α β:Type} {t:Sem α} {f:α->Sem β} (h:cu t) (g:∀a,cu (f a)):cu (t >>= f):=by
 show cu (t.bind f)
 induction t with
 |pure a=>exact g a
 |raise e=>trivial
 |unsupported w=>trivial
 |finish w=>trivial
 |rule t k ih=>exact ih () h
 | «at» t k ih=>exact ih () h
 |load a p k ih=>exact λo=>ih o (h o)
 |loadIfAlive a k ih=>exact λo=>ih o (h o)
 |point a k ih=>exact ih () h
 |register a k ih=>trivial
 |fresh k ih=>exact λo=>ih o (h o)
 |ask k ih=>exact λo=>ih o (h o)
 |choose a n k ih=>exact λo=>ih o (h o)
 |os a n k ih=>exact λo=>ih o (h o)
 |call a b c n k ih=>exact h.elim
 |handled a k ih=>exact λo=>ih o (h o)
 |genState a k ih=>exact λo=>ih o (h o)
 |newGen a k ih=>exact λo=>ih o (h o)
 |resume a b c k ih=>exact h.elim
 |yield a b c k ih=>trivial
 |stack k ih=>exact λo=>ih o (h o)
 |fork a k ih=>trivial
 |thread k ih=>exact λo=>ih o (h o)
 |await a b c e k ih=>trivial
 |alloc o k ih=>exact λo=>ih o (h o)
 |update a p f k ih=>exact⟨h.1,ih () h.2⟩
def xN (v:Ç) (i:Nat):cu (field v i):=by
 unfold field fieldsOf;refine fG ?_ λa=>?_
 ·cases v with
  |ref a =>
   refine fG (λo=>trivial) λo=>?_
   split<;>trivial
  |_=>trivial
 ·split<;>trivial
def Ub (g:Array Ç->Array Ç) (o:Obj):(Obj.mapFields g o).dict=o.dict:=by
 unfold Obj.mapFields
 split<;>rfl
def CQ (v:Ç) (i:Nat) (x:Ç):cu (setField v i x):=by
 unfold setField
 cases v with
 |ref a =>
  show cu (updateField a i x);unfold updateField;refine fG (λo=>trivial) λo=>?_;split
  ·split
   ·exact⟨Ub _,trivial⟩
   ·trivial
  ·trivial
 |_=>trivial
def XC (ty:String) (vs:List Ç):cu (newFields ty vs):=by
 show cu (if vs.toArray.size > Ø+2 then _ else newObjAsIs (.type ty) (.fields vs.toArray))
 split
 ·trivial
 ·exact λ_=>trivial
def A6 (e:Ç) (f:Option Ù):cu (setFlight e f):=by
 unfold setFlight;refine fG (xN _ _) λa=>?_;split
 ·exact CQ _ _ _
 ·trivial
theorem Jp:∀l:List PySem.Env,cu (readyFrames l)
 | []=>trivial
 |env::outer=>by
  unfold readyFrames;split
  ·refine fG (λo=>trivial) λo=>?_
   split
   ·trivial
   ·refine fG ?_ λb=>fG ?_ λv=>fG ⟨λ_=>rfl,trivial⟩ λ_=>Jp outer
    ·unfold behindIsImport
     split
     ·trivial
     ·split
      ·trivial
      ·exact fG (xN _ _) λ_=>trivial
    ·cases outer with
     |nil =>
      show cu (if (env.scope.isGenerator||env.scope.isCoroutine)=true then pure Value.none else _)
      split
      ·trivial
      ·exact λ_=>trivial
     |cons _ _=>trivial
  ·trivial
def Uc (env:PySem.Env):cu (frameOf env):=by
 unfold frameOf frameEnvs;refine fG (λ_=>trivial) λl=>fG ?_ λr=>?_
 ·generalize l.dropWhile _=Z
  cases Z with
  |nil=>trivial
  |cons a r=>exact fG (Jp _) λ_=>trivial
 ·split<;>trivial
def Ud (f:Ù) (b:Bool):cu (entryPlaceOf f b):=by
 unfold entryPlaceOf;refine fG (λ_=>trivial) λa=>?_
 split<;>trivial
def J9 (e:Ç) (env:PySem.Env):cu (noteFrame e env):=by
 unfold noteFrame;split
 ·refine fG (xN _ _) λZ=>?_
  rename_i L _;have jp:cu (frameOf env >>= λf=>entryPlaceOf L (Z != Value.none) >>= λY=>EntryCells.newEntry Z f Value.none (ŭ L) Value.none Y >>= λb=>setField e 1 b) :=
   fG (Uc env) λf=>fG (Ud _ _) λY=>fG (XC _ _) λb=>CQ _ _ _
  show cu (if (Z != Value.none)=true then _ else _)
  split
  ·refine fG (xN _ _) λx=>?_
   split
   ·trivial
   ·exact fG (CQ _ _ _) λ_=>jp
  ·exact jp
 ·trivial
def Ue (env:PySem.Env) (e:Ç):cu (leaving env e):=by
 unfold leaving;exact fG (J9 e env) λ_=>A6 _ _
open PySem.Spec PyProof.Rows
structure mv (P:ä) (w:ù) (outer:List Env) (H:Hp) (s:Ä) (H':Hp) (B:Ĳ) (a:Ù) (cls a0:Ç) (h:Ĳ):Prop where
 fl:abZ B outer a cls a0 h
 old:∀b o,s.heap.get? b=some o->H b=none->b∉cw outer->B.get? b=some o
 there:∀b o,s.heap.get? b=some o->b∉cw outer->∃o',B.get? b=some o'
 slot:∀b o,s.heap.get? b=some o->b∈cw outer->∃sl,h.get? b=some { o with slots:=sl }
 aE:cf P w H' B
 free:∀b o,s.heap.get? b=some o->H b=none->H' b=none
 fN:∀b xs,H b=some (.tup xs)->H' b=some (.tup xs)
 eY:∀b o u,H b=some (.aR o u)->H' b=some (.aR o u)
 fO:∀b ps,H b=some (.cN ps)->∃more,H' b=some (.cN (ps++more))
def Dm (h:Ĳ) (a:Ù) (m:Option Ù):Prop:=∀Z,m=some Z->∃o,h.get? a=some o/\o.dict=some Z
def Dm.au (h:Ĳ) (a:Ù):Dm h a none:=λ_ z=>by cases z
def Dm.on {h h':Ĳ} {a:Ù} {m:Option Ù} (x:Dm h a m) (k:Dk h h') (t:∃o,h'.get? a=some o):Dm h' a m:=λX e=>by
 obtain⟨o,e1,e2⟩:=x X e;obtain⟨Z,Y⟩:=t;exact⟨Z,Y,(k.2 a o e1 Z Y).trans e2⟩
def hX (P:ä) (w:ù):js:=λouter H s E e Z=>∃a cls X Y B m,e=.ref a/\Z.os=s.os/\acy Z.gens/\mv P w outer H s Y B a cls X Z.heap/\Dm Z.heap a m/\E cls m Y
section
variable {P:ä} {w:ù} {outer:List Env} {H H':Hp} {s:Ä} {B h h':Ĳ} {a:Ù} {cls a0:Ç}
def mv.un (F:mv P w outer H s H' B a cls a0 h):Un (cw outer) [] H H' s.heap h where
 keep:=λb o e n Z _=>F.fl.1 b o (F.old b o e n Z)
 slot:=λb o e n Z _=>F.slot b o e Z
 free:=λb o e n _=>F.free b o e n
 there:=λb o e _=>by
  by_cases Z:b∈cw outer
  ·obtain⟨X,q⟩:=F.slot b o e Z
   exact⟨_,q⟩
  ·obtain⟨Y,q⟩:=F.there b o e Z
   exact⟨Y,F.fl.1 b Y q⟩
 fN:=F.fN
 eY:=F.eY
 fO:=F.fO
def mv.held (F:mv P w outer H s H' B a cls a0 h):cf P w H' h:=F.aE.kept λb o e=>F.fl.1 b o e
def mv.on (F:mv P w outer H s H' B a cls a0 h) (hf:abZ B outer a cls a0 h') (hs:h.UpToSlots h'):mv P w outer H s H' B a cls a0 h' :=
 { F with
  fl:=hf
  slot:=λb o e Z=>by
   obtain⟨U,q⟩:=F.slot b o e Z;obtain⟨_,T,Y,X⟩:=F.fl.2.2.1.mem Z;rw[q] at Y;cases Y;obtain⟨W,V⟩:=hs b _ q X;exact⟨W,V⟩ }
def cC.Zn {o:HO} (x:cC P w H h a o):∃ob,h.get? a=some ob:=by
 cases o with
 |lst Z=>obtain⟨_,_,_,_,e⟩:=x;exact⟨_,e⟩
 |tup Z=>obtain⟨_,_,_,ob,e,_⟩:=x;exact⟨ob,e⟩
 |dK Y=>obtain⟨_,_,_,_,o,_,_,e,_⟩:=x;exact⟨_,e⟩
 |dT Y=>obtain⟨_,_,_,_,o,_,_,e,_⟩:=x;exact⟨_,e⟩
 |set S n=>obtain⟨o,_,_,_,e,_⟩:=x;exact⟨_,e⟩
 |ins C X fs=>obtain⟨_,_,_,e,_⟩:=x;exact⟨_,e⟩
 |own y=>exact x
 |xd fs=>obtain⟨_,⟨_,_,_,e,_⟩,_⟩:=x;exact⟨_,e⟩
 |dE lo hi=>obtain⟨_,_,_,e⟩:=x;exact⟨_,e⟩
 |aR ob u=>obtain⟨e,_⟩:=x;exact⟨_,e⟩
 |cN W=>exact⟨_,x⟩
 |met f y=>exact⟨_,x⟩
 |ext V=>obtain⟨_,e,_⟩:=x;exact e
def mv.new (F:mv P w outer H s H' B a cls a0 h):H' a=none:=by
 cases e:H' a with
 |none=>rfl
 |some o =>
  obtain⟨Y,Z⟩:=(F.aE a o e).Zn;rw[F.fl.2.1] at Z;cases Z
end
structure Lv (X:Cx) (E:XK):Prop where
 xe:X.xe=λe s'=>Ý (â X.prog X.w) X.A (leaving X.env e) (λ_ jt=>hX X.prog X.w X.outer X.lK X.cQ E e jt) (λe' jt=>hX X.prog X.w X.outer X.lK X.cQ E e' jt) s'
 lV:X.stack=X.env::X.outer
 fr:X.env.frame=some X.env.locals
 ex:X.ex=[]
section
variable {X:Cx} {E:XK} {π:List (Ù×Obj)} {σ:St} {H:Hp} {s:Ä}
def Inv.yq (I:Inv X π σ H s) (L:Lv X E) {b:Ù} {o:Obj} (e:X.cQ.heap.get? b=some o) (hb:b∉cw X.outer):b∉cw X.stack:=λz=>by
 rcases Ò.mp (I.ki b z) with q|q
 ·exact absurd (Î e) (by rw[q];exact Nat.not_lt.mpr I.ok.above)
 ·exact hb q
def Bz (L:Lv X E) {b:Ù} (hb:b∈cw X.outer):b∈cw X.stack:=by
 rw[L.lV];unfold cw;rw[aa9,L.fr];exact Ê _ hb
def bU (L:Lv X E):Passes (hX X.prog X.w) X E:=by
 intro π σ H s e S I h;obtain⟨a,cls,R,M,B,m,rfl,os,bare,F,K,q⟩:=h;rw[L.xe];have fl:=F.fl;rw[L.lV] at fl
 refine Ę (xM (Ue _ _) (wpAny_leaves_onW (E:=λ_ _=>False) (Q:=λ_ P=>∃Y,P={ S with heap:=Y }/\abZ B X.outer a cls R Y/\S.heap.UpToSlots Y) (by rw[I.ok.frames,L.lV]) L.fr fl λY V U=>⟨Y,rfl,V,U⟩)) (λ_ P z=>?_) λ_ _ z=>z.1.elim
 obtain⟨⟨Y,rfl,V,U⟩,J⟩:=z
 refine⟨a,cls,R,M,B,m,rfl,os.trans I.os,bare,⟨V,λb o e n Z=>?_,λb o e Z=>?_,λb o e Z=>?_,F.aE,λb o e n=>?_,λb O e=>F.fN b O (I.base.fN b O e),λb o u e=>F.eY b o u (I.base.eY b o u e),λb G e=>?_⟩,K.on J (let ⟨o,e,_⟩:=V.there;⟨o,e⟩),q⟩
 ·exact F.old b o (I.base.keep b o e n Z (by rw[L.ex];simp)) (I.base.free b o e n (by rw[L.ex];simp)) (I.yq L e Z)
 ·obtain⟨T,W⟩:=I.base.there b o e (by rw[L.ex];simp)
  exact F.there b T W (I.yq L e Z)
 ·obtain⟨v,W⟩:=I.base.slot b o e (I.ok.nu b Z) Z (by rw[L.ex];simp)
  obtain⟨t,e2⟩:=F.slot b _ W (Bz L Z);obtain⟨_,r,N,D⟩:=F.fl.2.2.1.mem (Bz L Z);rw[e2] at N;cases N;obtain⟨C,A⟩:=U b _ e2 D;exact⟨C,A⟩
 ·obtain⟨T,W⟩:=I.base.there b o e (by rw[L.ex];simp)
  exact F.free b T W (I.base.free b o e n (by rw[L.ex];simp))
 ·obtain⟨y,e1⟩:=I.base.fO b G e
  obtain⟨x,e2⟩:=F.fO b _ e1;exact⟨y++x,by rw[e2,Array.append_assoc]⟩
def QR (L:Lv X E) (I:Inv X π σ H s) {h1:Ĳ} {e:Ù} {cls:Ç} {us:List Ç} (hm:Heap.MadeExcOf s.heap h1 e cls us) (q:E cls none H):X.xe (.ref e) { s with heap:=h1 }:=by
 rw[L.xe];have V:=I.stack;have U:∀b u,H b=some u->b∉cw X.stack:=λb u e z=>by rw[I.uA b z] at e;cases e
 refine wpAny_leaves_madeW (base:=PySem.W.hideAll s.heap (cw X.stack)) (h:=s.heap) (env:=X.env) (outer:=X.outer) (by rw[I.ok.frames,L.lV]) L.fr (λb o e=>PySem.W.of_hideAll _ e) ?_ hm λJ t S _ _ R=>⟨e,cls,_,H,PySem.W.hideAll s.heap (cw X.stack),none,rfl,I.os,I.bare,⟨S,λb o e n Z=>?_,λb o e Z=>?_,λb o e Z=>?_,λb u e=>?_,λb o e n=>I.base.free b o e n (by rw[L.ex];simp),I.base.fN,I.base.eY,I.base.fO⟩,Dm.au _ _,q⟩
 ·rw[<- L.lV]
  refine PySem.W.funFrames_hide V λenv Q a P=>?_;unfold cw;exact abk.mpr ⟨env,Q,P⟩
 ·exact aa8 _ (I.base.keep b o e n Z (by rw[L.ex];simp)) (I.yq L e Z)
 ·obtain⟨O,Y⟩:=I.base.there b o e (by rw[L.ex];simp)
  exact⟨O,aa8 _ Y (I.yq L e Z)⟩
 ·obtain⟨G,Y⟩:=I.base.slot b o e (I.ok.nu b Z) Z (by rw[L.ex];simp)
  obtain⟨_,F,T,N⟩:=V.mem (Bz L Z);rw[Y] at T;cases T;obtain⟨M,K⟩:=R b _ (hm.keeps b _ Y) N;exact⟨M,K⟩
 ·refine(I.aE b u e).dY (λc v hc z=>aa8 _ z ?_) (λ_ z=>z) λ_ _ z=>z
  rcases hc with rfl|hc
  ·exact U c _ e
  ·exact U c _ hc
def XD (X:Cx) (M:Mod X.K X.mg X.base) {x:Str} {C:Ù} {tN:List Ç} {newId:String} (eC:å X.K Ö x=some (some (.ref C))) (qC:acA X.K C tN newId=true):OwnCls x C tN newId X.mg X.base:=by
 have KB:=M.lU;refine⟨ĩ KB M.glob eC,?_⟩;unfold acA at qC;split at qC
 case h_2=>cases qC
 rename_i P cd Y O;split at qC
 case h_2=>cases qC
 rename_i H bm V a1 a2 U nw T S hs;simp only[Æ,beq_iff_eq,Ķ] at qC;obtain⟨⟨⟨⟨⟨N,L⟩,R⟩,J⟩,Z⟩,Q⟩:=qC;subst N L;cases cd;dsimp only at S R Z Q;subst S R;have I:Y=#[V,a1,a2,U,some (.builtin nw),T]:=by cases Y;simp only at hs;rw[hs]
 subst I;exact⟨bm,_,_,_,_,_,_,_,_,_,P,V,a1,a2,U,T,_,KB _ _ O,.of_isNs (PySem.W.isNs_of_in KB Z),PySem.W.nsMap_none_of_in KB Z Q,PySem.W.tail_of_in KB J⟩
def Ug {x:Str} {C:Ù} {tN:List Ç} {B newId XE:String} {np bG pos:Pos} {nj:ħ} {rest:List ħ} {t:TA} (L:Lv X E) (eC:å X.K Ö x=some (some (.ref C))) (qC:acA X.K C tN newId=true) (FB:ExcBaseFacts B newId XE tN) (hc:X.calm=true) (hg:Gl X x) (ha:PA X (nj::rest) t) (hd:(x==("__debug__":Str))=false:=by decide)
  (he:Õ (nj::rest) X.env=(false,ō nj X.env)::Õ rest X.env:=by rfl) (kj:(Ň bG (Õ rest X.env)).any (·.1)=false:=by rfl) :
  PS X (.Raise (some (.Call (.Name x np) (nj::rest) [] bG)) none pos) (λ_ σ H=>t σ H λvs H1=>vs.length<=Ø/\E (.ref C) none H1):=by
 intro π s σ H D I h;have O:OwnCls x C tN newId X.mg X.base:=XD X I.ok.mod eC qC;obtain⟨V,N,nm,q,bs,hdct,sn,sub,ab,col,dd,k0,k1,k2,k3,k5,mN,U,S,Y,T⟩:=O.obj;refine wpAny_Raise_call_subT (C:=C) (nm:=nm) (q:=q) (N:=N) (bs:=bs) (bm:=V) (hdct:=hdct) (sn:=sn) (sub:=sub) (ab:=ab) (col:=col) (dd:=dd) (k0:=k0) (k1:=k1) (k2:=k2) (k3:=k3) (k5:=k5)
  FB (mN:=mN) (T.hasType FB.hasBase) (I.ok.hd hc) (by rw[he];show (false||(Ň bG (Õ rest X.env)).any (·.1))=false;rw[kj];rfl) Y (uB I hg O.bound ⟨rfl,?_⟩ hd)
 have W:=ha bG π s σ H _ I h;rw[he] at W |-;refine Calls.evalArgs_plain (aI W λP M ⟨vs,H1,Z,r,z,R⟩=>⟨rfl,by rw[<- r.length];exact z,Z.bk _ _ U,S.keeps Z.bk,T.keeps Z.bk,λJ e Q=>?_⟩);exact QR L Z Q R
end
end L2
namespace DI
open PySem L2
abbrev GG (K:ę) (mg:Str->Option Ç) (x:Str) (st:acx) (ps:List Str):Prop:=∃f fd,Gd K mg x st ps f fd
abbrev cz (P:ä) (w:ù) (K:ę) (mg:Str->Option Ç) (base:Ĳ) (x:Str) (st:acx) (ps:List Str) (k:Nat) (fn:List D->af->Res D):Prop:=∀{f:Ù} {fd:Ī},Gd K mg x st ps f fd->dB P w K mg base fz k f fd ps (oR K fn)
noncomputable def sI (N ps:List Str) (sc:ο):Bool:=decide (sc.kind=.function)&&!sc.isCoroutine&&!sc.isGenerator&&decide N.Nodup&&decide (N.take ps.length=ps)&&ps.all (λx=>decide (sc.names.lookup x=some .local\/sc.names.lookup x=some .cell))&&sc.names.all (λy=>decide (y.2≠.free))
def n5 (h:sI N ps sc=true):uC N ps sc:=by
 unfold sI at h;simp only[Æ,Ķ,É,ø] at h;obtain⟨⟨⟨⟨⟨⟨Z,Y⟩,X⟩,W⟩,V⟩,U⟩,T⟩:=h;exact⟨Z,Y,X,W,V,U,T⟩
def cI (G:Gd K mg x st ps f fd) (N:List Str) (S:sI N ps (dH st)=true)
 (hb:N.Nodup->∀(bE:Ç) (A:ì) (outer:List PySem.Env) (s:Ä) (H:Hp) (E:XK),bB k (A.deeper (ŷ x (dH st) s.heap.objs.size f bE))->cY (jS fz P w K mg base N x (dH st) f bE A outer s H E).ny (jc st) (tS K cm b)) :
  dB P w K mg base fz (k+1) f fd ps (oR K (aF ps.length N.length b)):=Y6 G.fn (n5 S) (hb (n5 S).nd)
section
variable {X:Cx} {Ξ:Wd->aY->Prop} {e a b c tg el src:ħ} {es rest tests:List ħ} {pos:Pos} {f g h:acC D} {fa:acC (List D)} {ft gt:acC Bool}
def aT {k n:Nat} {x:Str} {st:acx} {ps:List Str} {fn:List D->af->Res D} {p:Pos} (G:GG X.K X.mg x st ps) (F:cz X.prog X.w X.K X.mg X.base x st ps k fn) (hr:bB n X.A) (ha:PA X (e::es) (tA X.K Ξ fa)) (hk:k<=n:=by decide) (hg:Gl X x:=by rfl) (fY:(x==("__debug__":Str))=false:=by decide)
  (he:Õ (e::es) X.env=(false,ō e X.env)::Õ es X.env:=by rfl) (bX:(Ň pos (Õ es X.env)).any (·.1)=false:=by rfl):PE X (.Call (.Name x p) (e::es) [] pos) (tE X.K Ξ (az fn fa)):=by
 obtain⟨f,fd,G⟩:=G;exact Xb (F G) (hr.mono hk) hg G.mg G.fn.kp G.b ha fY he bX
def ax (ha:PE X a (tE X.K Ξ f)) (hs:Õ [a] X.env=(false,ō a X.env)::Õ [] X.env:=by rfl):PA X [a] (tA X.K Ξ (aa f ah)):=aS ha cV hs
def aK (ha:PE X a (tE X.K Ξ f)) (hb:PE X b (tE X.K Ξ g)) (h1:Õ [a,b] X.env=(false,ō a X.env)::Õ [b] X.env:=by rfl) (h2:Õ [b] X.env=(false,ō b X.env)::Õ [] X.env:=by rfl):PA X [a,b] (tA X.K Ξ (aa f (aa g ah))):=aS ha (aS hb cV h2) h1
def cK (ha:PE X a (tE X.K Ξ f)) (hb:PE X b (tE X.K Ξ g)) (hc:PE X c (tE X.K Ξ h)) (h1:Õ [a,b,c] X.env=(false,ō a X.env)::Õ [b,c] X.env:=by rfl) (h2:Õ [b,c] X.env=(false,ō b X.env)::Õ [c] X.env:=by rfl) (h3:Õ [c] X.env=(false,ō c X.env)::Õ [] X.env:=by rfl):PA X [a,b,c] (tA X.K Ξ (aa f (aa g (aa h ah)))):=aS ha (aS hb (aS hc cV h3) h2) h1
def gQ {x:Str} {px:Pos} {sc:ο} {ps:Pos} (N:List Str) {cap:List Nat} {it:acC (List D)} (hi:PI X (.Name x px) src (fP X.K Ξ it))
  (hY:∀(cl:List (Str×Ù)) (C:Ù) (s:Ä) (H:Hp) (ex:List Ù) (pn:List (Ù×Obj)),PF (fB X N sc cl C s H ex pn) tests (tT X.K cm ft)/\PE (fB X N sc cl C s H ex pn) el (tE X.K cm f))
  (hc:X.calm=true:=by rfl) (S:CK sc X.env.scope.names X.N N 1 cap=true:=by kernel_rfl) (nd:N.Nodup:=by decide +kernel) (h0:N[0]?=some x:=by rfl) (hx:∀cl C s H ex pn,(fB X N sc cl C s H ex pn).env.scope.names.lookup x=some .local:=by intros;rfl) (hs:∀x,ÿ src X.env x=pure x:=by intro _;rfl) :
  PE X (.ListComp el [⟨.Name x px,src,tests,0⟩] sc ps) (tE X.K Ξ (cj 1 cap it (gN 0) ft f)) :=
 J2 hc (Dx S) (rn 0) hi (λcl C s H ex pn=>⟨ke nd h0 (.inl (hx cl C s H ex pn)) (.inr (hx cl C s H ex pn)),hY cl C s H ex pn⟩) hs
end
def fC (mg:Str->Option Ç) (E:XK):Wd->aY->Prop:=λw x=>∃C,mg x.c=some (.ref C)/\match x.many with
 |none=>E (.ref C) none w.H
 |some i=>∀Z Y t,w.H Z=none->PySem.W.lookIn "many" Y=some (some (.int i t))->E (.ref C) (some Z) (upd w.H Z (.aR Y (.own Z)))
def mw (mg:Str->Option Ç) (K:ę) (f:List D->af->Res D):Sp:=λX H Q E=>∃w Z,w.H=H/\aM K w/\ar K w Z X/\Out K (fC mg E) w (f Z w.aB) λY d=>∀v,DV K Y d v->Q v Y.H
def mJ (c:Str) (fa:acC (List D)):acC Fl:=λenv s=>ak (fa env s) λZ s=>if decide (Z.length<=10)=true then some (.error ⟨c,none⟩,s) else none
def nq (K:ę) (mg:Str->Option Ç) (x:Str):Prop:=∃C,å K Ö x=some (some (.ref C))/\mg x=some (.ref C)/\acA K C [.type "ValueError",.type "Exception",.type "BaseException",.type "object"] "ValueError.__new__"=true
def bt (fn:List D->af->Res D) (fa:acC (List D)):acC D:=λenv s=>ak (fa env s) fn
section
variable {X:Cx} {E:XK} {Ξ:Wd->aY->Prop} {e a b c:ħ} {es rest:List ħ} {pos:Pos} {f g h:acC D} {fa:acC (List D)}
def pw {x:Str} {np bG:Pos} {nj:ħ} (L:Lv X E) (hO:nq X.K X.mg x) (ha:PA X (nj::rest) (tA X.K (fC X.mg E) fa)) (hc:X.calm=true:=by rfl) (hg:Gl X x:=by rfl) (hd:(x==("__debug__":Str))=false:=by decide)
  (he:Õ (nj::rest) X.env=(false,ō nj X.env)::Õ rest X.env:=by rfl) (kj:(Ň bG (Õ rest X.env)).any (·.1)=false:=by rfl) :
  PS X (.Raise (some (.Call (.Name x np) (nj::rest) [] bG)) none pos) (tS X.K (fC X.mg E) (mJ x fa)) :=
 let ⟨C,eC,V,U⟩:=hO
 jG (Ug L eC U PySem.F.excBase_ValueError hc hg ha hd he kj) λN σ H T=>by
  obtain⟨w,env,R,S,Q,h⟩:=T;subst R;refine⟨w,env,rfl,S,Q,(Out.ak h).mono λW M J P Z I O=>?_⟩;split at Z
  ·rename_i Y
   have Y:=Ą Y;obtain⟨G,e1,q⟩:=Z W (Le.refl W) P rfl;rw[V] at e1;cases e1;exact⟨Þ (by rw[<- O.length];exact Y) (by decide),q⟩
  ·exact Z.elim
def VU {k:Nat} {fA:Ù} {fd:Ī} {wK:List Str} {fn:List D->af->Res D} {x:Str} {p:Pos} (L:Passes (hX X.prog X.w) X E) (F:dB X.prog X.w X.K X.mg X.base (hX X.prog X.w) k fA fd wK (mw X.mg X.K fn)) (hr:bB k X.A) (hg:Gl X x) (hm:X.mg x=some (.ref fA)) (hk:ł X.K (.ref fA)=true) (hb:Binds X.K fd wK [])
  (ha:PA X (e::es) (tA X.K (fC X.mg E) fa)) (fY:(x==("__debug__":Str))=false:=by decide) (he:Õ (e::es) X.env=(false,ō e X.env)::Õ es X.env:=by rfl) (bX:(Ň pos (Õ es X.env)).any (·.1)=false:=by rfl) :
  PE X (.Call (.Name x p) (e::es) [] pos) (tE X.K (fC X.mg E) (bt fn fa)):=cA (JJ F hr hg hm hk hb .nil L ha fY he bX) fun σ H Q Y=>by
 obtain⟨w,env,W,S,V,h⟩:=Y;subst W;refine⟨w,env,rfl,S,V,(Out.ak h).mono λZ U N T R P O=>?_⟩;show mw X.mg X.K fn (P++[]) Z.H Q E;rw[İ];exact⟨Z,U,rfl,T,O,R⟩
end
def fj {P:ä} {w:ù} {K:ę} {mg:Str->Option Ç} {base:Ĳ} {x:Str} {st:acx} {f:Ù} {fd:Ī} {ps:List Str} {k:Nat} {b:acC Fl} (G:Gd K mg x st ps f fd) (N:List Str) (S:sI N ps (dH st)=true)
  (hb:N.Nodup->∀(bE:Ç) (A:ì) (outer:List PySem.Env) (s:Ä) (H:Hp) (E:XK),bB k (A.deeper (ŷ x (dH st) s.heap.objs.size f bE))->Lv (jS (hX P w) P w K mg base N x (dH st) f bE A outer s H E) E->cY (jS (hX P w) P w K mg base N x (dH st) f bE A outer s H E) (jc st) (tS K (fC mg E) b)) :
  dB P w K mg base (hX P w) (k+1) f fd ps (mw mg K (aF ps.length N.length b)):=by
 obtain⟨J,I,kV,doc,pm,an,bE,ct,F,rfl,lk,V⟩:=G.fn.ex;refine Dh lk V (n5 S) (λU H Q E h=>?_) λA outer s H U Q E T h=>?_
 ·obtain⟨w,R,rfl,S,Y,h⟩:=h
  rw[<- Y.length];unfold aF at h;split at h
  ·assumption
  ·exact h.elim
 ·obtain⟨X,R,rfl,O,Y,h⟩:=h
  refine⟨_,hb (n5 S).nd bE A outer s X.H E T ⟨rfl,rfl,rfl,rfl⟩,?_⟩;unfold aF at h;split at h
  ·rename_i M
   rw[<- M] at h;refine⟨X,_,rfl,O,Y.env N.length,(Out.ak h).mono λD L C W Z=>?_⟩
   cases L with
   |nx env=>intro B _;exact aG W Z _ rfl
   |rt d=>have q:=aG W Z;exact q
   |bk env=>exact Z.elim
   |ct env=>exact Z.elim
  ·exact h.elim
end DI
namespace L2
open PySem PySem.Spec PyProof.Rows PySem.W
structure Zo (env:Env) (names:List (Str×Ť)) (cl:List (Str×Ù)):Prop where
 vj:∀x c,cl.lookup x=some c->env.cells.lookup x=some c
 all:∀x,(x,ê)∈names->∃c,cl.lookup x=some c
theorem BA {env:Env}:∀(names:List (Str×Ť)) (acc:List (Str×Ù)),(∀x,(x,ê)∈names->∃c,env.cells.lookup x=some c)->(∀x c,acc.lookup x=some c->env.cells.lookup x=some c) ->
  ∃cl,(forIn names acc λ(p:Str×Ť) (r:List (Str×Ù))=>(match p with | (name,kind)=>if kind==.free then (do let c <- cellOf env name;pure (ĺ ((name,c)::r))) else pure (ĺ r):Sem (ForInStep (List (Str×Ù)))))=pure cl /\
   (∀x c,cl.lookup x=some c->env.cells.lookup x=some c)/\(∀x,(x,ê)∈names->∃c,cl.lookup x=some c)/\∀x c,acc.lookup x=some c->∃c,cl.lookup x=some c
 | [],acc,_,Y=>⟨acc,by simp,Y,λ_ h=>(é h).elim,λx c h=>⟨c,h⟩⟩
 |(y,k)::r,acc,W,Y=>by
  by_cases V:k=.free
  ·subst V
   obtain⟨c,e⟩:=W y Ð;have U:∀x Z,((y,c)::acc).lookup x=some Z->env.cells.lookup x=some Z:=λx Z h=>by
    rw[ģ] at h;split at h
    ·rename_i q
     have q:x=y:=by simpa using q
     cases h;rw[q];exact e
    ·exact Y x Z h
   obtain⟨cl,T,S,R,X⟩:=BA r ((y,c)::acc) (λx h=>W x (Ê _ h)) U;have Q:∃c,cl.lookup y=some c:=X y c (by rw[ģ];simp);refine⟨cl,?_,S,λx h=>?_,λx Z h=>?_⟩
   ·rw[abq]
    simp only[ĝ,Ā,cellOf,e,pure_bind];exact T
   ·rcases Ò.mp h with q|q
    ·cases q;exact Q
    ·exact R x q
   ·by_cases q:x=y
    ·rw[q];exact Q
    ·exact X x Z (by rw[ģ,show (x==y)=false by simpa using q];exact h)
  ·obtain⟨cl,T,S,R,X⟩:=BA r acc (λx h=>W x (Ê _ h)) Y
   refine⟨cl,?_,S,λx h=>?_,X⟩
   ·rw[abq]
    have P:(k==ê)=false:=by simpa using V
    simp only[P,Ì,û,pure_bind];exact T
   ·rcases Ò.mp h with q|q
    ·cases q;exact absurd rfl V
    ·exact R x q
def Uh {env:Env} {scope:ο} (hc:∀x,(x,ê)∈scope.names->∃c,env.cells.lookup x=some c):∃cl,closureFor scope env=pure cl/\Zo env scope.names cl:=by
 obtain⟨cl,Z,Y,X,_⟩:=BA scope.names [] hc (λx c h=>by cases h);refine⟨cl,?_,Y,X⟩;unfold closureFor;simp only[pure_bind,bind_pure];exact Z
noncomputable abbrev yr (q:Str) (params:Arguments) (body:ħ) (scope:ο) (cl:List (Str×Ù)) (pm:Ç) (c':Ù) (iN:Ç):Obj:=kla_obj "<lambda>" q params body scope cl pm c' iN
section
variable {X:Cx} {π:List (Ù×Obj)} {σ:St} {H:Hp} {s:Ä}
def Inv.table {P c':Ù} {ps Aa:Array Ç} {oc:Obj} {h':Ĳ} {t':Nat} (I:Inv X π σ H s) (hP:H P=some (.cN ps)) (hx:aba P s.heap h') (hc:s.heap.objs.size<=c') (nv:h'.get? c'=some oc) (ht:h'.get? P=some (tabObj (ps++Aa))) :
  Inv X π σ (upd (upd H c' (.aR oc (.own c'))) P (.cN (ps++Aa))) { s with heap:=h',toks:=t' }:=by
 have Y:H c'=none:=I.aE.fresh hc;have U:c'≠P:=λz=>by rw[z,hP] at Y;cases Y
 have ne:∀b u,H b=u->u≠some (.cN ps)->b≠P:=λb u e d z=>by rw[z,hP] at e;exact d e.symm
 have at_:∀b u,H b=some u->b≠P->upd (upd H c' (.aR oc (.own c'))) P (.cN (ps++Aa)) b=some u:=λb u e n=>by rw[aV n,aV (dg e Y)];exact e
 refine I.un ⟨λb o e n _ _=>hx b o (ne b _ n (by intro z;cases z)) e,λb o e n _ _=>⟨o.slots,hx b o (ne b _ n (by intro z;cases z)) e⟩,λb o e n _=>?_,λb o e _=>?_,λb V e=>at_ b _ e (ne b _ e (by intro z;cases z)),λb o u e=>at_ b _ e (ne b _ e (by intro z;cases z)),λb T e=>?_⟩ λb u e=>?_
 ·rw[aV (ne b _ n (by intro z;cases z)),aV (à (È (Î e) hc))];exact n
 ·by_cases Z:b=P
  ·exact⟨_,Z ▸ ht⟩
  ·exact⟨o,hx b o Z e⟩
 ·by_cases Z:b=P
  ·subst Z
   rw[hP] at e;cases e;exact⟨Aa,cq⟩
  ·exact⟨#[],by rw[at_ b _ e Z];simp⟩
 ·by_cases Z:b=P
  ·subst Z
   rw[cq] at e;cases e;exact ht
  ·rw[aV Z] at e
   by_cases W:b=c'
   ·subst W
    rw[cq] at e;cases e;exact⟨nv,oc,nv⟩
   ·rw[aV W] at e
    refine(I.aE b u e).dY (λc v hc q=>hx c v ?_ q) (λc q=>at_ c _ q (ne c _ q (by intro z;cases z))) λc V q=>at_ c _ q (ne c _ q (by intro z;cases z))
    rcases hc with z|z
    ·rw[z];exact Z
    ·exact ne c _ z (by intro z;cases z)
def Ui {params:Arguments} {body:ħ} {scope:ο} {gU:Pos} {cl:List (Str×Ù)} {c P:Ù} {ps:Array Ç} {E:Ç->Ä->Prop} {A:ì} {Q:Ç->Ä->Prop} (I:Inv X π σ H s) (cS:closureFor scope X.env=pure cl) (yU:X.env.code=.ref c) (C:CodeHd X.base c P) (hb:X.base.BuiltinsAt X.mg P)
  (hP:H P=some (.cN ps)) (ht:TriplesOk ps.toList) (Ey:defaultsOf params X.env=([],[]))
  (aaH:∀cv,codeAmong gU ps.toList=some cv->∃c' oc vs t,cv=.ref c'/\H c'=some (.aR oc (.own c'))/\oc.data=.fields vs/\vs[1]?=some (.str (X.env.qual++"<lambda>") t))
  (h:∀(f c':Ù) (iN:Ç) (oc:Obj) (vs:Array Ç) (t:Tok) (H1:Hp) (s1:Ä),Inv X π σ H1 s1->s.heap.objs.size<=f->H1 f=none->s1.heap.get? f=some (yr (X.env.qual++"<lambda>") params body scope cl ((X.mg "__name__").getD .none) c' iN)->H1 c'=some (.aR oc (.own c'))->oc.data=.fields vs->vs[1]?=some (.str (X.env.qual++"<lambda>") t) ->
   (H1=H\/(H c'=none/\c'≠P/\H1=upd (upd H c' (.aR oc (.own c'))) P (.cN (ps++#[ŭ gU.line,ŭ gU.col,.ref c']))/\TriplesOk (ps++#[ŭ gU.line,ŭ gU.col,.ref c']).toList))->Q (.ref f) s1) :
  Ý (â X.prog X.w) A (ō (.Lambda params body scope gU) X.env) Q E s:=by
 have Y:s.heap.get? P=some (tabObj ps):=I.aE P _ hP;have J:CodeHd s.heap c P:=C.keeps I.bk
 have G:s.heap.BuiltinsAt X.mg P:=let ⟨bm,o,a1,a2,B,y,x,r⟩:=hb;⟨bm,o,a1,a2,B,y,I.bk _ _ x,r⟩
 have W:s.heap.Ns Ö X.mg:=I.ok.mod.glob.keeps I.bk;have V:Ö≠P:=λq=>by
  obtain⟨o,g,d,e,U,_⟩:=W;rw[q,Y] at e;cases e;cases U
 refine kla_eval Ey ?_
 cases T:codeAmong gU ps.toList with
 |some cv =>
  obtain⟨c',oc,vs,t,rfl,v,u,p⟩:=aaH cv T;refine kla_makeFunctionHit cS I.ok.glob W yU J Y ht T G λiN h' S m Z=>?_
  have R:Inv X π σ H { s with heap:=h'.push (yr (X.env.qual++"<lambda>") params body scope cl ((X.mg "__name__").getD .none) c' iN),toks:=S }:=I.kept λb o e=>Á _ (m b o e)
  exact h _ c' iN oc vs t H _ R Z (I.aE.fresh Z) (Ô _ rfl) v u p (.inl rfl)
 |none =>
  refine kla_makeFunction cS I.ok.glob W yU J Y ht T V G λc' iN h' S l O F N k=>?_;obtain⟨c₂,oc,vs,t,e2,j,U,i⟩:=N;cases e2;have M:H c'=none:=I.aE.fresh O;have D:c'≠P:=λz=>by rw[z,hP] at M;cases M
  have R:=I.table (t':=S) hP (h':=h'.push (yr (X.env.qual++"<lambda>") params body scope cl ((X.mg "__name__").getD .none) c' iN)) (λb o n e=>Á _ (l b o n e)) O (Á _ j) (Á _ k);have L:s.heap.objs.size<=h'.objs.size:=Þ O (Nat.le_of_lt F);have K:h'.objs.size≠P:=λz=>by have:=Î Y;rw[<- z] at this;exact absurd (È this L) (ë _)
  refine h _ c' iN oc vs t _ _ R L ?_ (Ô _ rfl) ?_ U i (.inr ⟨M,D,rfl,?_⟩)
  ·rw[aV K,aV (ş F)];exact I.aE.fresh L
  ·rw[aV D,cq]
  ·rw[Array.toList_append]
   exact TriplesOk_snoc _ _ _ _ ht
end
def Sd {pos:Pos} {c cv:Ç} {a b:Int} (l:List Ç) (h:TriplesOk l) (e:codeAmong pos (l++[ŭ a,ŭ b,c])=some cv):codeAmong pos l=some cv\/cv=c:=by
 fun_induction TriplesOk l with
 |case1 =>
  simp only[ė,codeAmong,ŭ] at e;split at e
  ·cases e;exact .inr rfl
  ·cases e
 |case2 a t b u x rest ih =>
  simp only[ā,codeAmong] at e |-;split
  ·rename_i q;rw[ã q] at e;exact .inl e
  ·rename_i q;rw[í q] at e;exact ih h e
 |case3 l Z Y=>exact h.elim
def tO (P:ä) (w:ù) (K:ę) (mg:Str->Option Ç) (base:Ĳ) (N:List Str) (qual:Str) (scope:ο) (f:Ù) (cd:Ç) (cl:List (Str×Ù)) (A:ì) (outer:List Env) (s:Ä) (H:Hp) (E:XK):Cx where
 prog:=P
 w:=w
 K:=K
 mg:=mg
 base:=base
 A:=A.deeper (envX qual scope s.heap.objs.size f cd cl)
 N:=N
 cQ:=s
 lK:=H
 env:=envX qual scope s.heap.objs.size f cd cl
 outer:=outer
 stack:=envX qual scope s.heap.objs.size f cd cl::outer
 ex:=[]
 calm:=true
 fn:=λ_=>false
 pn:=[]
 xe:=λe Y=>Ý (â P w) (A.deeper (envX qual scope s.heap.objs.size f cd cl)) (leaving (envX qual scope s.heap.objs.size f cd cl) e) (λ_ Z=>hX P w outer H s E e Z) (λX Z=>hX P w outer H s E X Z) Y
structure Uj (N:List Str) (scope:ο):Prop where
 co:scope.isCoroutine=false
 gen:scope.isGenerator=false
 kind:scope.kind=.function
 uN:∀x∈scope.names,x.2≠.cell
def XF {P:ä} {w:ù} {K:ę} {mg:Str->Option Ç} {base:Ĳ} {k:Nat} {f c':Ù} {N:List Str} {q:Str} {params:Arguments} {body:ħ} {scope:ο} {cl:List (Str×Ù)} {pm iN:Ç} {vs:List V} {t:XK->TE} {oc:Obj} {fs:Array Ç} {tq:Tok}
  (S:Uj N scope) (ho:base.get? f=some (yr q params body scope cl pm c' iN)) (hl:N.length=vs.length)
  (inj:∀x y c,cl.lookup x=some c->cl.lookup y=some c->x=y) (has:∀x,scope.names.lookup x=some .free->∃c,cl.lookup x=some c) (ku:∀x c,cl.lookup x=some c->∃v,base.IsCell c v)
  (hv:∀(i:Nat) x v,N[i]?=some x->vs[i]?=some v->scope.names.lookup x=some .free/\∃c u,cl.lookup x=some c/\base.IsCell c (some u)/\RelV v u)
  (iM:oc.data=.fields fs) (fZ:fs[1]?=some (.str q tq))
  (mP:∀(A:ì) (outer:List Env) (s:Ä) (H:Hp) (E:XK),bB k (A.deeper (envX q scope s.heap.objs.size f (.ref c') cl))->Lv (tO P w K mg base N q scope f (.ref c') cl A outer s H E) E->PE (tO P w K mg base N q scope f (.ref c') cl A outer s H E) body (t E)) :
  dB P w K mg base (hX P w) (k+1) f (kla_fn "<lambda>" q params body scope cl pm (.ref c') iN) [] (λus H Q E=>us=[]/\H c'=some (.aR oc (.own c'))/\t E (vs.map some) H Q):=by
 refine⟨λus H Q E h=>by rw[h.1];rfl,λA outer s H args us M Q E W Z L r G=>?_⟩;obtain⟨_,F,D⟩:=G;have lim:s.heap.NoLimit:=Z.mod.nolimit.keeps λb o e=>(Z.bs b o e).1;have bk:∀b o,base.get? b=some o->s.heap.get? b=some o:=λb o e=>(Z.bs b o e).1;have U:s.heap.CodeRec (.ref c') q:=⟨c',oc,fs,tq,rfl,(Z.aE c' _ F).1,iM,fZ⟩;refine kla_callFunE W.depth (bk _ _ ho) rfl S.co S.gen rfl U (L _ _ _ _ ?_);refine wpAny_newFunctionEnv S.uN (λx C=>absurd C (by simp)) (λO B T=>?_) S.kind;have Y:∀b o,s.heap.get? b=some o->O.get? b=some o:=λb o e=>T.extBut b o (à (Î e)) (Á _ e);refine⟨lim.keeps Y,?_⟩;show η _ _ (.expr body (envX q scope s.heap.objs.size f (.ref c') cl)) _ _;have n:bB k (A.deeper (envX q scope s.heap.objs.size f (.ref c') cl)):=W.deeper _;have m:∀c v,base.IsCell c v->H c=none:=λc v ⟨o,e,_⟩=>(Z.bs c o e).2;have R:∀b:Ù,b∉(tO P w K mg base N q scope f (.ref c') cl A outer s H E).ex:=λb z=>absurd (show b∈([]:List Ù) from z) (by simp)
 have I:Inv (tO P w K mg base N q scope f (.ref c') cl A outer s H E) [] (vs.map some) H { s with heap:=O,toks:=s.toks+([]:List (Str×Ç)).length }:=by
  refine⟨⟨Z.mod,S.kind,rfl,rfl,acG _,inj,λy hy=>?_,λy c h=>absurd h Û,λ_=>W.hd,Around.frames_deeper Z.frames,.inr ⟨rfl,rfl⟩,λb z=>absurd z (R b),Z.bs,Z.jo,λb _ _=>R b,λb z=>absurd z (R b),Z.jh,Z.nu⟩,
   rfl,Z.bare,Un.kept Y,⟨_,B,λi y v l X h3=>?_⟩,λy c h=>?_,Z.aE.fresh (acG _),λy c h=>?_,λp j=>absurd (show p∈([]:List (Ù×Obj)) from j) (by simp),Z.aE.kept Y,?_⟩
  ·have hy:scope.names.lookup y=some .cell\/scope.names.lookup y=some .free:=hy
   rcases hy with hy|hy
   ·exact absurd rfl (S.uN _ (ĳ hy))
   ·exact has y hy
  ·have g:vs[i]?=some v:=by
    rw[ç] at X
    cases e:vs[i]? with
    |none=>rw[e] at X;cases X
    |some a=>rw[e] at X;cases X;rfl
   obtain⟨d,c,u,e1,e2,r2⟩:=hv i y v l g;exact⟨u,r2,.inr ⟨.inr d,c,e1,(e2.keeps bk).keeps Y⟩⟩
  ·obtain⟨v,e⟩:=ku y c h
   exact⟨v,(e.keeps bk).keeps Y⟩
  ·obtain⟨v,e⟩:=ku y c h
   exact m c v e
  ·rw[Í];exact hl.symm
 refine kla_codeExpr (Ę (mP A outer s H E n ⟨rfl,rfl,rfl,rfl⟩ [] _ (vs.map some) H Q I D) (λu s' h=>?_) λe s' h=>h);obtain⟨v,H',J,rv,z⟩:=h;exact⟨v,H',J.os,J.bare,J.base,J.aE,rv,z⟩
end L2
namespace DI
open PySem L2 PySem.W
def Zq (pre:Hp->Prop):Prop:=∀H Z:Hp,(∀b o u,H b=some (.aR o u)->Z b=some (.aR o u))->pre H->pre Z
def Ae (P:ä) (w:ù) (K:ę) (mg:Str->Option Ç) (base:Ĳ) (k:Nat) (pre:Hp->Prop) (f:Ù) (vs:List V) (ds:List D) (th:af->Res D):Prop :=
 Zq pre/\∃fd,(∃o,base.get? f=some o/\o.data=.func fd)/\Binds K fd [] [] /\
  dB P w K mg base (hX P w) k f fd [] (λX H Q E=>X=[]/\pre H/\∃Z:Wd,Z.H=H/\aM K Z/\ar K Z ds vs/\Out K (fC mg E) Z (th Z.aB) λY d=>∀v,DV K Y d v->Q v Y.H)
def qN (cl:D) (th:af->Res D) (i:Nat):acC D:=λenv s=>open Classical in if env[i]?=some (some cl) then th s else none
section
variable {X:Cx} {E:XK} {Ξ:Wd->aY->Prop} {pos:Pos}
end
def spT (K:ę) (pre:Hp->Prop) (cl:D) (fn:List D->af->Res D):Sp:=λY H Q _=>pre H/\∃w:Wd,w.H=H/\aM K w/\ar K w [cl] Y/\Out K cm w (fn [cl] w.aB) λZ d=>∀v,DV K Z d v->Q v Z.H
def Zr {P:ä} {w:ù} {K:ę} {mg:Str->Option Ç} {base:Ĳ} {x:Str} {st:acx} {f:Ù} {fd:Ī} {ps:List Str} {k:Nat} {b:acC Fl} {pre:Hp->Prop} {cl:D} (G:Gd K mg x st ps f fd) (N:List Str) (S:sI N ps (dH st)=true)
  (hb:N.Nodup->∀(bE:Ç) (A:ì) (outer:List PySem.Env) (s:Ä) (H:Hp) (E:XK),pre H->bB k (A.deeper (ŷ x (dH st) s.heap.objs.size f bE))->cY (jS fz P w K mg base N x (dH st) f bE A outer s H E).ny (jc st) (tS K cm b)) :
  dB P w K mg base fz (k+1) f fd ps (spT K pre cl (aF ps.length N.length b)):=by
 refine G.fn.ok (n5 S) (λW H Q E h=>?_) (λbE A outer s H W Q E V h=>?_)
 ·obtain⟨_,w,rfl,S,Y,h⟩:=h
  rw[<- Y.length];unfold aF at h;split at h
  ·assumption
  ·exact h.elim
 ·obtain⟨U,w,rfl,T,Y,h⟩:=h
  refine⟨_,hb (n5 S).nd bE A outer s w.H E U V,?_⟩;unfold aF at h;split at h
  ·rename_i R
   rw[<- R] at h;refine⟨w,_,rfl,T,Y.env N.length,(Out.ak h).mono λM O L X Z=>?_⟩
   cases O with
   |nx env=>intro J _;exact aG X Z _ rfl
   |rt d=>have q:=aG X Z;exact q
   |bk env=>exact Z.elim
   |ct env=>exact Z.elim
  ·exact h.elim
def mZ (env:Env):List Nat->Option (List D)
 | []=>some []
 |i::r=>match env[i]?,mZ env r with
  |some (some d),some Z=>some (d::Z)
  |_,_=>none
theorem Jq {K:ę} {w:Wd} {env:Env} {σ:St} (eo:bL K w env σ):∀{caps:List Nat} {ds:List D},mZ env caps=some ds->∃vs,ar K w ds vs/\∀(i:Nat) j v,caps[i]?=some j->vs[i]?=some v->σ[j]?=some (some v)
 | [],ds,h=>by cases h;exact⟨[],rfl,λi j v h=>by simp at h⟩
 |j::r,ds,h=>by
  unfold mZ at h;split at h
  ·rename_i d R e1 e2
   cases h;obtain⟨v,X,W⟩:=eo.val j d e1;obtain⟨vs,V,U⟩:=Jq eo e2;refine⟨v::vs,⟨v,vs,rfl,W,V⟩,λi T S Z Y=>?_⟩
   cases i with
   |zero=>cases Z;cases Y;exact X
   |succ i=>exact U i T S (by simpa using Z) (by simpa using Y)
  ·cases h
noncomputable def La (dN N:List Str) (caps:List Nat) (N6 sc:ο):Bool:=decide (sc.kind=.function)&&!sc.isCoroutine&&!sc.isGenerator&&sc.names.all (λy=>decide (y.2≠.cell))&&decide (N.length=caps.length) &&
 (N.zip caps).all (λp=>decide (dN[p.2]?=some p.1)&&decide (N6.names.lookup p.1=some .cell)&&decide (sc.names.lookup p.1=some .free))&&sc.names.all (λy=>decide (y.2≠.free)||decide (N6.names.lookup y.1=some .cell))
abbrev N7 (P:ä) (w:ù) (K:ę) (mg:Str->Option Ç) (x:Str) (st:acx) (ps:List Str) (k kt:Nat) (g:D->(af->Res D)->List D->af->Res D):Prop :=
 ∀{base:Ĳ} {pre:Hp->Prop} {f:Ù} {vs:List V} {ds:List D} {th:af->Res D},Ae P w K mg base kt pre f vs ds th->∀{gA:Ù} {fd:Ī},Gd K mg x st ps gA fd->dB P w K mg base fz k gA fd ps (spT K pre (.cG f vs ds) (g (.cG f vs ds) th))
section
variable {X:Cx} {Ξ:Wd->aY->Prop} {pos:Pos}
def oo (X:Cx) (H:Hp) (s:Ä):Ĳ:=hideAll s.heap (cw X.stack++sU s.heap H)
def xF {H:Hp} {s:Ä} {b:Ù} {o:Obj} (e:s.heap.get? b=some o) (n:H b=none) (hf:b∉cw X.stack):(oo X H s).get? b=some o:=hideAll_get _ e λz=>by
 rcases è.mp z with z|z
 ·exact hf z
 ·unfold sU at z
  have:=(ĕ.mp z).2;rw[n] at this;cases this
def Jr {H:Hp} {s:Ä} {b:Ù} {o:Obj} (e:(oo X H s).get? b=some o):s.heap.get? b=some o/\H b=none/\b∉cw X.stack:=by
 have e1:=of_hideAll _ e;refine⟨e1,?_,λz=>?_⟩
 ·cases q:H b with
  |none=>rfl
  |some u =>
   have:(oo X H s).get? b=none:=hideAll_none _ (Ñ _ (ĕ.mpr ⟨Ġ.mpr (Î e1),by rw[q];rfl⟩));rw[e] at this;cases this
 ·have:(oo X H s).get? b=none:=hideAll_none _ (þ _ z)
  rw[e] at this;cases this
def _root_.L2.Inv.XG {π:List (Ù×Obj)} {σ:St} {H:Hp} {s:Ä} (I:Inv X π σ H s):∀b o,X.base.get? b=some o->(oo X H s).get? b=some o:=λb o e=>xF (I.bs b o e).1 (I.bs b o e).2 λz=>by
 have:=(I.stack.mem z).1;rw[e] at this;cases this
def _root_.L2.Inv.Zs {π:List (Ù×Obj)} {σ:St} {H:Hp} {s:Ä} (I:Inv X π σ H s):sk X.prog X.w X.K X.mg (oo X H s) X.A X.stack s H:=by
 have k:=I.XG;refine⟨I.ok.frames,⟨I.ok.mod.lU.keeps k,I.ok.mod.glob.keeps k,?_,I.ok.mod.nolimit.keeps k⟩,λb o e=>⟨(Jr e).1,(Jr e).2.1⟩,Nat.le_of_eq (hideAll_size _ _),?_,I.uA,I.aE,I.bare⟩
 ·obtain⟨Z,Y,W⟩:=I.ok.mod.blt
  exact⟨Z,Y.keeps k,W⟩
 ·refine funFrames_hide I.stack λenv V a U=>þ _ ?_
  unfold cw;exact abk.mpr ⟨env,V,U⟩
end
end DI
namespace L2
open PySem PySem.Spec PyProof.Rows PySem.W
section
variable {X:Cx} {π:List (Ù×Obj)} {σ:St} {H:Hp} {s:Ä}
def yb {M:Model} {A:ì} {E:Ç->Ä->Prop} {i:Nat} {x:Str} {pos:Pos} {Q:Unit->Ä->Prop} (I:Inv X π σ H s) (hN:X.N.Nodup) (hi:X.N[i]?=some x) (hk:X.env.scope.names.lookup x=some .local) (h:∀s',Inv X π (σ.set i none) H s'->Q () s') :
  Ý M A (do abP X.env x .none;unbindBehindTheSuite X.env x pos) Q E s:=by
 obtain⟨m,V,S⟩:=id I.loc;have R:(X.env.scope.kind==.class||(X.env.scope.kind==.module&&X.env.locals != X.env.globals))=false:=by rw[I.ok.kind];rfl
 have j3:=I.j3;refine wpAny_nameGoes_keeps hk V R λu v P hs=>?_;obtain⟨t,_,_,r,_⟩:=id V;refine h _ ⟨I.ok,I.os,I.bare,⟨λb o e n Y Z=>?_,λb o e n Y Z=>?_,I.base.free,λb o e Z=>?_,I.base.fN,I.base.eY,I.base.fO⟩,⟨_,P,λj y O e1 e2 L=>?_⟩,λy c e=>?_,I.free,I.iU,λp K=>?_,λb J e=>?_,by rw[î];exact I.len⟩
 ·exact(hs.2 b (à (È (Î e) I.ok.above))).trans (I.base.keep b o e n Y Z)
 ·obtain⟨G,e1⟩:=I.base.slot b o e n Y Z
  exact⟨G,(hs.2 b (à (È (Î e) I.ok.above))).trans e1⟩
 ·obtain⟨F,e1⟩:=I.base.there b o e Z
  exact⟨F,(hs.2 b (à (È (Î e) I.ok.above))).trans e1⟩
 ·by_cases W:j=i
  ·subst W
   have U:=(Ã.mp e2).1;rw[î] at U;rw[Ó U] at e2;cases e2
  ·rw[Ï (Ŀ W)] at e2
   obtain⟨D,C,q⟩:=S j y O e1 e2 L;refine⟨D,C,?_⟩
   rcases q with ⟨k,e⟩ | ⟨k,c,e,z⟩
   ·refine .inl ⟨k,?_⟩
    have:y≠x:=λe=>W (Bi hN e1 (e ▸ hi));simp[this,e]
   ·exact .inr ⟨k,c,e,z.sameBut hs (j3 y c e)⟩
 ·obtain⟨T,z⟩:=I.cell y c e
  exact⟨T,z.sameBut hs (j3 y c e)⟩
 ·obtain⟨e,n,ne,B,d⟩:=I.pin p K
  exact⟨(hs.2 p.1 ne).trans e,n,ne,B,d⟩
 ·refine(I.aE b J e).dY (λc T w q=>(hs.2 c ?_).trans q) (λ_ q=>q) λ_ _ q=>q
  rintro rfl
  rcases w with z|z
  ·have:=I.free;rw[z,e] at this;cases this
  ·have:=I.free;rw[z] at this;cases this
noncomputable abbrev Cx.held (X:Cx) (a:Ù):Cx:={ X with A:=X.A.mark (some (.ref a)),calm:=false,xe:=λ_ _=>False }
theorem Inv.held (I:Inv X π σ H s) (a:Ù):Inv (X.held a) π σ H s:=by
 obtain⟨⟨a1,a2,R,Q,P,O,N,M,w,L,K,Z,Y,W,V,U,T,S⟩,J,G,F,E,D,C,B,A,y,x⟩:=I;exact⟨⟨a1,a2,R,Q,P,O,N,M,λz=>absurd z Û,L,K,Z,Y,W,V,U,T,S⟩,J,G,F,E,D,C,B,A,y,x⟩
def Inv.yt {a:Ù} (ok:X.Ok) (I:Inv (X.held a) π σ H s):Inv X π σ H s:=by
 obtain⟨_,Z,Y,W,V,U,T,S,R,Q,P⟩:=I;exact⟨ok,Z,Y,W,V,U,T,S,R,Q,P⟩
def CS (X:Cx) (π:List (Ù×Obj)) (σ:St) (E:XK) (e:Ç) (s':Ä):Prop:=∃Z Y,Inv X π σ Z Y/\hX X.prog X.w X.stack Z Y E e s'
def jI {E:XK} {E':Ç->Ä->Prop} {e:Ç} {s':Ä} {cn n:Str} {np Ez:Pos} {vQ:acx} {vn:List acx} {j:Nat} {CM:Ù} {D:Ends} (Th:CS X π σ E e s') (L:X.stack=X.env::X.outer) (hf:X.env.frame=some X.env.locals)
  (hN:X.N.Nodup) (hj:X.N[j]?=some n) (gj:X.env.scope.names.lookup n=some .local) (hg:Gl X cn) (hm:X.mg cn=some (.ref CM)) (hd:(cn==("__debug__":Str))=false)
  (h:∀cls m H' ,E cls m H'->exmOne X.K cls (.ref CM)=some true/\∀(a:Ù) (o:Obj),H' a=none->o.cls=cls->(notCls o=true/\∀dx,m=some dx->o.dict=some dx)->∀s5,Inv (X.held a) π (σ.set j (some (.ref a))) (upd H' a (.aR o (.own a))) s5 ->
   Ý (â X.prog X.w) (X.held a).A (execs (vQ::vn) X.env) (SP (X.held a) π { nx:=fun aO H'=>D.nx (aO.set j none) H',rt:=D.rt,bk:=fun aO H'=>D.bk (aO.set j none) H',ct:=fun aO H'=>D.ct (aO.set j none) H' }) (λ_ _=>False) s5) :
  Ý (â X.prog X.w) X.A (noteFrame e X.env) (λ_ kF=>Ý (â X.prog X.w) X.A (setFlight e none) (λ_ zm=>Ý (â X.prog X.w) X.A (handleBy e X.env [.ExceptHandler (some (.Name cn np)) (some n) (vQ::vn) Ez]) (SP X π D) E' zm) E' kF) E' s':=by
 obtain⟨H1,t,W,a,cls,O,H',B,m,rfl,os,bare,F,dm,hE⟩:=Th;obtain⟨p,hh⟩:=h cls m H' hE
 refine Ę (xM (J9 _ _) (wpAny_looks_onW (E:=λ_ _=>False) (Q:=λ_ s2=>∃V,s2={ s' with heap:=V }/\Heap.HeldW B (X.env::X.outer) a cls O X.env.locals V/\s'.heap.UpToSlots V) (by rw[W.ok.frames,L]) hf (by have:=F.fl;rw[L] at this;exact this) λV x y=>⟨V,rfl,x,y⟩)) (λ_ s2 z=>?_) λ_ _ z=>z.1.elim
 obtain⟨⟨V,rfl,Mh,l⟩,k⟩:=z
 refine Ę (xM (A6 _ _) (wpAny_landsW (E:=λ_ _=>False) (Q:=λ_ s3=>∃Z,s3={ s' with heap:=Z }/\abZ B (X.env::X.outer) a cls O Z/\V.UpToSlots Z) Mh λZ x y=>⟨Z,rfl,x,y⟩)) (λ_ s3 z=>?_) λ_ _ z=>z.1.elim
 obtain⟨⟨Z,rfl,MV,i⟩,g⟩:=z
 have d:Dm Z a m:=(dm.on k (let ⟨o,e,_⟩:=Mh.there;⟨o,e⟩)).on g (let ⟨o,e,_⟩:=MV.there;⟨o,e⟩)
 have P:abZ B X.stack a cls O Z:=by rw[L];exact MV
 have I:=F.on P (l.trans i);have aaK:t.heap.get? a=none:=by
  cases q:t.heap.get? a with
  |none=>rfl
  |some o =>
   by_cases S:a∈cw X.stack
   ·obtain⟨sl,e1⟩:=I.slot a o q S
    obtain⟨_,o2,e2,hd2⟩:=P.2.2.1.mem S
    obtain⟨H,ws,e3,_,e4,_⟩:=P.first
    rw[e3] at e2;cases e2;exact absurd e4 (hd2 _)
   ·obtain⟨o',e1⟩:=F.there a o q S
    rw[F.fl.2.1] at e1;cases e1
 have I3:Inv X π σ H' { s' with heap:=Z }:=W.u7 (s':={ s' with heap:=Z }) (ch:=[]) os I.un I.held bare (λb z=>absurd z (by simp))
 refine wpAny_handleBy_cons (codeAny_handlers_test ?_) (by intro q;cases q);refine(show Ý (â X.prog X.w) (X.held a).A (ō (.Name cn np) (X.held a).env) _ _ _ from uB (I3.held a) hg hm ?_ hd);obtain⟨ob,hob,vD⟩:=P.there;have LT:Looks (â X.prog X.w) Z (typeOf (.ref a)) cls:=by subst vD;exact(Looks.ld hob).andThen .now
 refine(exm_one (M:=â X.prog X.w) (K:=X.K) (h:=Z) I3.jq LT p).here ?_;refine codeAny_handlers_suite_as ?_
 refine Ę (xM (A6 _ _) (lands_againW (s:={ s' with heap:=Z }) (E:=λ_ _=>False) (Q:=λ_ s4=>∃Y,s4={ s' with heap:=Y }/\abZ B X.stack a cls O Y/\Z.UpToSlots Y) P λY x y=>⟨Y,rfl,x,y⟩)) (λ_ s4 z=>?_) λ_ _ z=>z.1.elim
 obtain⟨⟨Y,rfl,G,up4⟩,dk4⟩:=z
 have dm4:Dm Y a m:=d.on dk4 (let ⟨o,e,_⟩:=G.there;⟨o,e⟩)
 have F4:=I.on G up4;obtain⟨H,C,aaL⟩:=G.there;have R:H' a=none:=F4.new
 have I4:Inv X π σ (upd H' a (.aR H (.own a))) { s' with heap:=Y }:=by
  have u:=F4.un;have dF:∀b o,t.heap.get? b=some o->b≠a:=λb o e z=>by rw[z,aaK] at e;cases e
  refine W.u7 (s':={ s' with heap:=Y }) (ch:=[]) os ⟨u.keep,u.slot,λb o e n p=>?_,u.there,λb xs e=>?_,λb o v e=>?_,λb ps e=>?_⟩ (λb v e=>?_) bare (λb z=>absurd z (by simp))
  ·rw[aV (dF b o e)];exact u.free b o e n p
  ·have:=u.fN b xs e;rw[aV (dg this R)];exact this
  ·have:=u.eY b o v e;rw[aV (dg this R)];exact this
  ·obtain⟨more,this⟩:=u.fO b ps e;exact⟨more,by rw[aV (dg this R)];exact this⟩
  ·by_cases S:b=a
   ·subst S
    rw[cq] at e;cases e;exact⟨C,H,C⟩
   ·rw[aV S] at e
    refine(F4.held b v e).dY (λ_ _ _ q=>q) (λc q=>?_) λc xs q=>?_
    ·rw[aV (dg q R)];exact q
    ·rw[aV (dg q R)];exact q
 refine mB I4 hN hj (.inl gj) (v:=.ref a) (u:=.ref a) rfl (λs5 I5=>?_) (.inr gj)
 refine Ę (hh a H R aaL ⟨by obtain⟨o2,vs,e1,_,e2,_⟩:=G.first;rw[C] at e1;cases e1;unfold notCls;rw[e2],λdx e=>by obtain⟨o,e1,e2⟩:=dm4 dx e;rw[C] at e1;cases e1;exact e2⟩ s5 (I5.held a)) (λf s6 q=>?_) λ_ _ z=>z.elim
 cases f with
 |next =>
  obtain⟨aO,U,J,q⟩:=q;exact yb (J.yt W.ok) hN hj gj λs7 T=>⟨_,U,T,q⟩
 |brk =>
  obtain⟨aO,U,J,q⟩:=q;exact yb (J.yt W.ok) hN hj gj λs7 T=>⟨_,U,T,q⟩
 |cont =>
  obtain⟨aO,U,J,q⟩:=q;exact yb (J.yt W.ok) hN hj gj λs7 T=>⟨_,U,T,q⟩
 |ret u =>
  obtain⟨v,aO,U,J,r,q⟩:=q;exact yb (J.yt W.ok) hN hj gj λs7 T=>⟨v,_,U,T,r,q⟩
end
end L2
namespace DI
open PySem L2 PySem.W
def lS (cs:List Str) (f:acC D) (j:Nat) (b:acC Fl):acC Fl:=λenv s=>match f env s with
 |none=>none
 |some (.ok _,s)=>ok (.nx env) s
 |some (.error x,s)=>if decide (x.c∈cs)=true then ak (b (env.set j (some (.exc x.c x.many))) s) λZ s=>match Z with
   | .nx env=>ok (.nx (env.set j none)) s
   |_=>none else none
def bL.unset {K:ę} {w:Wd} {env:Env} {σ:St} (h:bL K w env σ) (i:Nat):bL K w (env.set i none) (σ.set i none):=by
 refine⟨by rw[î,î];exact h.len,λj X e=>?_⟩;by_cases Z:i=j
 ·subst Z
  have Y:=(Ã.mp e).1;rw[î] at Y;rw[Ó Y] at e;cases e
 ·rw[Ï Z] at e
  rw[Ï Z];exact h.val j X e
section
variable {X:Cx} {E:XK} {pos:Pos}
def XH {π:List (Ù×Obj)} {σ:St} {s:Ä} {w:Wd} {env:Env} {Q:VK} {k i:Nat} {x:Str} {p:Pos} {pre:Hp->Prop} {f:Ù} {vs:List V} {ds:List D} {th:af->Res D} (T:Ae X.prog X.w X.K X.mg X.base k pre f vs ds th) (h0:pre X.lK) (hr:bB k X.A)
  (hN:X.N[i]?=some x) (hv:oG X.env.scope x) (hd:(x==("__debug__":Str))=false) (fy:(x==("__classdict__":Str))=false)
  (I:Inv X π σ w.H s) (S:aM X.K w) (eo:bL X.K w env σ) (he:env[i]?=some (some (.cG f vs ds))) (h:Out X.K (fC X.mg E) w (th w.aB) λw' d=>∀v,DV X.K w' d v->Q v w'.H) :
  Ý (â X.prog X.w) X.A (ō (.Call (.Name x p) [] [] pos) X.env) (EP X π σ Q) (CS X π σ E) s:=by
 obtain⟨M,fd,⟨o,L,J⟩,G,F⟩:=T;obtain⟨v,e1,e2⟩:=eo.val i _ he;obtain⟨rfl,C⟩:=e2;refine PySem.wpAny_Call_Name_kw ?_;have U:=(Cv (X:=X.jR λe O=>CS X π σ E e O) (pos:=p) hN hv hd fy π s σ w.H (λv B=>v=.ref f/\B=w.H) (I.jR _) ⟨_,e1,rfl,rfl⟩);refine aI U λu R U=>?_;obtain⟨v,q,Z,r,rfl,rfl⟩:=U;have Z:=Z.mG;have r:u=.ref f:=r;subst r;have z:∀h:Ĳ,h.get? f=some o->∃k,(k=Keeper.frame\/k=Keeper.machine\/k=Keeper.boundFrame)/\Looks (â X.prog X.w) h (keeperOf (.ref f)) k:=λh e=>by
  obtain⟨n,m,y,os⟩:=o;cases J;exact⟨.frame,.inl rfl,(Looks.ld (part:=none) e).andThen .now⟩
 refine PySem.W.callWith_of (P:=λh=>h.get? f=some o) rfl z (PyProof.Rows.evalArgs_nil3 ⟨Z.bk _ _ L,?_⟩);refine wpAny_call (Ů (F.run X.A X.stack R w.H ⟨[],[]⟩ [] [] Q E hr Z.ox (G R [] Z.jq rfl) .nil ⟨rfl,M _ _ (λb o u e=>Z.base.eY b o u e) h0,w,rfl,S,C,h⟩) λr O Y=>?_)
 cases r with
 |error e=>exact⟨w.H,R,Z,Y⟩
 |ok t =>
  cases t with
  |ret u=>exact Z.after Y
  |next=>exact Į Y
  |brk=>exact Į Y
  |cont=>exact Į Y
def Zt {k i j:Nat} {x cn n:Str} {p bG MW np Ez:Pos} {pre:Hp->Prop} {f:Ù} {vs:List V} {ds:List D} {th:af->Res D} {vQ:acx} {vn:List acx} {b:acC Fl} {cs:List Str} (T:Ae X.prog X.w X.K X.mg X.base k pre f vs ds th) (h0:pre X.lK) (hr:bB k X.A)
  (hc:∃CM,X.mg cn=some (.ref CM)/\∀c∈cs,∃C,nsIn X.K Ö c=some (some (.ref C))/\X.mg c=some (.ref C)/\exmOne X.K (.ref C) (.ref CM)=some true)
  (hs:∀a,cY (X.held a) (vQ::vn) (tS X.K cm b)) (E6:X.N.Nodup)
  (L:X.stack=X.env::X.outer:=by rfl) (hf:X.env.frame=some X.env.locals:=by rfl) (hj:X.N[j]?=some n:=by rfl) (gj:X.env.scope.names.lookup n=some .local:=by rfl) (hg:Gl X cn:=by rfl) (hdc:(cn==("__debug__":Str))=false:=by decide)
  (hN:X.N[i]?=some x:=by rfl) (hv:oG X.env.scope x:=by first|exact Ź rfl|exact acB (Ź rfl)|exact acB (acB rfl)) (hd:(x==("__debug__":Str))=false:=by decide) (fy:(x==("__classdict__":Str))=false:=by decide)
  (wW:ace (.Call (.Name x p) [] [] bG) none MW.line X.env=pure false:=by rfl) :
  PS X (.Try [.Expr (.Call (.Name x p) [] [] bG) MW] [.ExceptHandler (some (.Name cn np)) (some n) (vQ::vn) Ez] [] [] pos) (tS X.K cm (lS cs (qN (.cG f vs ds) th i) j b)):=by
 intro π s σ H D I ay;obtain⟨w,env,eH,S,B,h⟩:=ay;subst eH;obtain⟨CM,l8,ik⟩:=hc;unfold lS qN at h;by_cases u:env[i]?=some (some (.cG f vs ds))
 case neg=>rw[í u] at h;exact h.elim
 rw[ã u] at h;refine wpAny_Try_except ?_
 let E:XK:=λcls m U=>∃(Y:Wd) (c:Str) (C:Ù) (J:Option Int),Y.H=U/\aM X.K Y/\bL X.K Y env σ/\cls=.ref C/\c∈cs/\X.mg c=some (.ref C)/\(∀i,J=some i->∃W R t,m=some W/\(¬ Y.Z W/\Y.H W=some (.aR R (.own W)))/\lookIn "many" R=some (some (.int i t)))/\Out X.K cm Y (ak (b (env.set j (some (.exc c J))) Y.aB) λG s=>match G with
   | .nx env=>ok (.nx (env.set j none)) s
   |_=>none) (vJ X.K D)
 have r:Out X.K (fC X.mg E) w (th w.aB) λY d=>∀v,DV X.K Y d v->D.nx σ Y.H:=by
  cases hr:th w.aB with
  |none=>rw[hr] at h;exact h.elim
  |some q =>
   obtain⟨q,s2⟩:=q;rw[hr] at h
   cases q with
   |ok d=>exact λY l P e v _=>h Y l P e σ (B.le l)
   |error y =>
    intro Y l P e;dsimp only at h;split at h
    ·rename_i F
     have F:=Ą F;obtain⟨C,_,g,_⟩:=ik _ F;refine⟨C,g,?_⟩
     cases hm:y.many with
     |none =>
      refine⟨Y,y.c,C,none,rfl,P,B.le l,rfl,F,g,(λi z=>by cases z),?_⟩;rw[hm] at h;rw[e];exact h.from l
     |some i =>
      intro W R t O hl;have le:=(Fw.grow (K:=X.K) (o:=.aR R (.own W)) O).le;refine⟨Y.grow W (.aR R (.own W)),y.c,C,some i,rfl,P.grow O,(B.le l).le le,rfl,F,g,λi' z=>?_,?_⟩
      ·cases z
       exact⟨W,R,t,rfl,⟨λz=>km P O z,cq⟩,hl⟩
      ·rw[hm] at h
       show Out X.K cm _ (ak (b (env.set j (some (.exc y.c (some i)))) Y.aB) _) _;rw[e];exact(h.from l).from le
    ·exact h.elim
 have mP:=XH (pos:=bG) (p:=p) T h0 hr hN hv hd fy I S B u r
 refine wpAny_execs_cons (Ę (wpAny_Expr_any (aI mP λv s1 hq=>(show SP X π { nx:=fun Q U=>D.nx Q U,rt:=D.rt } .next s1 from by
  obtain⟨v',H1,I1,_,q1⟩:=hq;exact⟨σ,H1,I1,q1⟩)) I.quiet wW) (λG s1 q=>?_) λe s1 q=>?_)
 ·cases G with
  |next=>exact abi (abi q)
  |ret v=>exact q
  |brk=>obtain⟨_,_,_,z⟩:=q;exact Į z
  |cont=>obtain⟨_,_,_,z⟩:=q;exact Į z
 ·refine jI (D:=D) q L hf E6 hj gj hg l8 hdc λcls m U hE=>?_
  obtain⟨Y,c,C,J,rfl,P,ja,rfl,zJ,hmc,hmm,ho⟩:=hE;obtain⟨C2,k1,k2,k3⟩:=ik c zJ;rw[hmc] at k2;cases k2;refine⟨k3,λa o O nv iM s5 I5=>?_⟩;have le:=(Fw.grow (K:=X.K) (o:=.aR o (.own a)) O).le;have S5:=P.grow (o:=.aR o (.own a)) O;have dv:DV X.K (Y.grow a (.aR o (.own a))) (.exc c J) (.ref a):=by
   simp only[DV];refine⟨a,o,C,rfl,⟨λz=>km P O z,cq⟩,⟨nv,k1⟩,λi hi=>?_⟩;obtain⟨W,R,t,q1,q2,q3⟩:=hmm i hi;exact⟨iM.1,W,R,t,iM.2 W q1,(Fw.grow (K:=X.K) (o:=.aR o (.own a)) O).aR W R _ q2.1 q2.2,q3⟩
  have hd:=hs a π s5 (σ.set j (some (.ref a))) _ { nx:=fun Q U=>D.nx (Q.set j none) U,rt:=D.rt,bk:=fun Q U=>D.bk (Q.set j none) U,ct:=fun Q U=>D.ct (Q.set j none) U } I5
   ⟨Y.grow a (.aR o (.own a)),env.set j (some (.exc c J)),rfl,S5,(ja.le le).set dv j,(Out.ak (ho.from le)).mono λw6 G l6 S6 q=>?_⟩
  ·exact hd
  ·cases G with
   |nx M=>exact fun Q e'=>aG S6 q (Q.set j none) (e'.unset j)
   |rt d=>exact q.elim
   |bk M=>exact q.elim
   |ct M=>exact q.elim
end
end DI
namespace L2
open PySem PySem.Spec PySem.Calls PyProof.Rows PySem.W PySem.Builtin PySem.Builtin.ObjectAttr PySem.Builtin.Getset_descriptor
section
variable {prog:ä} {w:ù} {A:ì} {E:Ç->Ä->Prop} {s:Ä} {K:ę} {x C:Ù}
noncomputable def oq (K:ę) (C:Ù):Bool:=(findIn K (.ref C) "__getattribute__"==some (some (.builtin "BaseException.__getattribute__")))&&(findIn K (.ref C) "__getattr__"==some none)&&(clsIn K C).isSome&&(findIn K (.ref C) "__class__"==some (some (.builtin "object.__class__")))&&(specialIn K (.builtin "object.__class__") "__get__"==some (some (.builtin "getset_descriptor.__get__")))&&(takesIn K (.builtin "object.__class__")==some true)&&(mroIn K C (.type "object")==some true)&&(mroIn K C (.type "BaseException")==some true)
def XI {M:Model} {Mi:Ç} {Q:Unit->Ä->Prop} (LT:Looks M s.heap (typeOf (.ref x)) (.ref C)) (M5:Looks M s.heap (isSubtype (.ref C) (.type "BaseException")) true) (hq:Q () s):Ý M A (checkBuiltinCall "BaseException.__getattribute__" ⟨[.ref x,Mi],[]⟩) Q E s:=by
 have Z:builtinKind "BaseException.__getattribute__"=some .slot:=by decide +kernel
 have Y:splitId "BaseException.__getattribute__"=some ("BaseException","__getattribute__"):=by decide +kernel
 have X:=F.args_bexc_ga (.ref x) Mi;simp only[checkBuiltinCall,Z,Y];refine À ?_;unfold isInstance
 repeat (first|with_reducible refine LT.at ?_|with_reducible refine M5.at ?_|wp_step)
 exact hq
def cls_read {Q:Option Ç->Ä->Prop} (X:K.In s.heap) (LT:Looks (â prog w) s.heap (typeOf (.ref x)) (.ref C)) (hc:oq K C=true) (h:Q (some (.ref C)) { s with toks:=s.toks+1 }) :
  Ý (â prog w) A (getAttr? (.ref x) "__class__") Q E s:=by
 unfold oq at hc;simp only[Æ,beq_iff_eq] at hc;obtain⟨⟨⟨⟨⟨⟨⟨Y,W⟩,_⟩,V⟩,U⟩,T⟩,S⟩,R⟩:=hc;obtain⟨Z,g,d,t,os⟩:=s;have M1:=looks_findIn (M:=â prog w) X Y;have M2:=looks_findIn (M:=â prog w) X W;have P:Looks (â prog w) Z (find (.ref x) (.ref C) "__class__") (.bind (.builtin "getset_descriptor.__get__") (.builtin "object.__class__")) :=
  (looks_findIn X V).andThen ((looks_specialIn X U).andThen ((show Looks (â prog w) Z (dataDescriptor? (some (.builtin "object.__class__")) (some (.builtin "getset_descriptor.__get__"))) (some (.builtin "getset_descriptor.__get__",.builtin "object.__class__")) from (looks_takesIn X T).andThen .now).andThen (Looks.tag .now)))
 have L:=looks_mroIn (M:=â prog w) X S;have O:=looks_mroIn (M:=â prog w) X R;have N:=F.attr_ValueError.ga.bind (.ref x);unfold getAttr? getAttrBy? getAttrBy;refine À (wpAny_mkText (À (Ŏ (ě (À (LT.at (À (M1.at ?_))))))));show Ý _ _ (getAttrByItsOwn (.ref x) _ (.ref C) (.builtin "BaseException.__getattribute__") false false) _ _ _;unfold getAttrByItsOwn;refine À (M2.at (À (Ŏ (ě ?_))));show Ý _ _ (boundAndCalled (.builtin "BaseException.__getattribute__") (.ref x) _) _ _ _;unfold boundAndCalled;rw[N];refine À (Â (wpAny_call (codeAny_call_builtin F.attr_ValueError.ga.plain F.entry_bexc_ga ?_)));refine XI LT O ?_;unfold Ŗ.«object.__getattribute__»;rw[show slotArgs "__getattribute__" 1 ⟨[.ref x]++[.str "__class__" t],[]⟩=pure (.ref x,[.str "__class__" t]) from rfl];refine À (Â ?_);dsimp only;rw[show attrName (.str "__class__" t)=pure ("__class__":Str) from rfl];refine À (Â (À (LT.at (À (P.at ?_)))));show Ý _ _ (abj [Value.builtin "object.__class__"] (call (.builtin "getset_descriptor.__get__") [.builtin "object.__class__",.ref x,.ref C]) >>= ret) _ _ _;refine À (ě (wpAny_call ?_));refine codeAny_call_builtin KF.slot_gs.plain KF.entry_gs (KF.slot_gs.check _ _ _ _ _ _ _ _ KF.type_class (KF.args_gs _ _ _) ?_);unfold Ŗ.«getset_descriptor.__get__» descrGet;rw[dga_obj];refine À (Â ?_);unfold descrGetter descrCheckInstance descrNameAndClass isInstance;simp only[KF.owner_class]
 repeat lk
 refine⟨Code.quiet_builtin _ (by decide +kernel),ū KF.entry_class ?_⟩;unfold Ŗ.«object.__class__» shownTypeOf
 repeat lk
 exact h
def Uk {o:Obj} (ho:o.cls=.ref C) (hc:oq K C=true):KitX K (.ref x) (.ref C) (λh=>h.get? x=some o) where
 ty:=λM h _ e=>ho ▸ (Looks.ld e).andThen .now
 it:=λM h X _=>by
  unfold oq at hc;simp only[Æ] at hc;have z:=hc.1.1.1.1.1.2;unfold clsIn at z;split at z
  ·rename_i q
   intro W V U T k r;unfold isType loadHead;exact À (wpAny_loadPart (k _ _ (X _ _ q)) (Â r))
  ·cases z
 ne:=λh Z S its n R X Y=>by
  unfold oq at hc;simp only[Æ] at hc;have z:=hc.1.1.1.1.1.2;refine Bool.eq_false_iff.mpr λq=>?_;have e:C=Z:=Value.ref.inj (beq_iff_eq.mp q);subst e;unfold clsIn at z;split at z
  ·rename_i r
   have z:=(X _ _ r).symm.trans Y;cases z
  ·cases z
 ca:=λX e k=>cls_read X (ho ▸ (Looks.ld e).andThen .now) hc k
end
end L2
namespace DI
open PySem L2 PySem.W
def dR (cs:List Str) (yes:Str->Bool) (d:D) (s:af):Res D:=match d with
 | .au=>ok (.bl false) s
 | .exc c _=>if decide (c∈cs)=true then ok (.bl (yes c)) s else none
 |_=>none
def rq (K:ę) (cs:List Str) (T:Ç) (yes:Str->Bool):Prop:=kitOne K (.type "NoneType") T=some false/\∀c∈cs,∃C,nsIn K Ö c=some (some (.ref C))/\oq K C=true/\kitOne K (.ref C) T=some (yes c)
section
variable {X:Cx} {Ξ:Wd->aY->Prop} {a:ħ} {pos:Pos} {f:acC D}
def XM {cs:List Str} {T:Ç} {yes:Str->Bool} (hc:rq X.K cs T yes) {vT:V} (hT:∀u,RelV vT u->u=T):cD X (.builtin "isinstance") (λxs H Q=>∃(w:Wd) (d:D) (x:V),w.H=H/\aM X.K w/\DV X.K w d x/\xs=[x,vT]/\Out X.K Ξ w (dR cs yes d w.aB) λw' d=>∀v,DV X.K w' d v->Q v w'.H):=by
 rintro A s σ H y N Q I r ⟨w,d,x,rfl,S,U,rfl,h⟩;obtain⟨Y,W,R,Z⟩:∃Y,RelV x Y/\∃R,N=[Y,R]/\RelV vT R:=by
  cases r with
  |cons W Z=>cases Z with|cons Z M=>cases M;exact⟨_,W,_,rfl,Z⟩
 obtain⟨rfl,Z⟩:=Z;cases hT _ Z
 cases d with
 |au =>
  have e:x=.au:=U;subst e;have e:Y=Value.none:=W;subst e;exact kia_one kitx_none I.jq trivial hc.1 (by intro z;cases z) λP=>⟨.bl false,w.H,I.tok P,rfl,aG S h _ rfl⟩
 |exc c _ =>
  simp only[DV] at U;obtain⟨b,o,C,rfl,L,⟨J,G⟩,_⟩:=U;have e:Y=Ń b:=W;subst e;unfold dR at h;dsimp only at h;split at h
  ·rename_i F
   obtain⟨t,O,E,B⟩:=hc.2 c (Ą F);rw[G] at O;cases O;exact kia_one (Uk J E) I.jq (I.aE b _ L.2).1 B (by intro z;cases z) λP=>⟨.bl (yes c),w.H,I.tok P,rfl,aG S h _ rfl⟩
  ·exact h.elim
 |_=>exact h.elim
def Lb {cs:List Str} {T:Ç} {yes:Str->Bool} {vT:V} {cn:Str} {p np:Pos} (hc:rq X.K cs T yes) (hT:∀u,RelV vT u->u=T) (h1:PE X (.Name cn np) (tC vT)) (ha:PE X a (tE X.K Ξ f)) (hm:X.mg "isinstance"=none) (hv:ú "isinstance"=some (.builtin "isinstance")) (hg:Gl X "isinstance":=by rfl)
  (hs:Õ [a,.Name cn np] X.env=(false,ō a X.env)::Õ [.Name cn np] X.env:=by rfl) (eO:Õ [.Name cn np] X.env=(false,ō (.Name cn np) X.env)::Õ [] X.env:=by rfl) (bX:(Ň pos (Õ [.Name cn np] X.env)).any (·.1)=false:=by rfl) :
  PE X (.Call (.Name "isinstance" p) [a,.Name cn np] [] pos) (tE X.K Ξ (e1 (dR cs yes) f)) :=
 cA (Bj (XM (Ξ:=Ξ) hc hT) hg hm hv (nU ha (nU h1 pK eO) hs) (by decide) (by decide) hs bX) fun σ H Q Z=>by
  obtain⟨w,env,Y,S,W,h⟩:=Z;subst Y;exact⟨w,env,rfl,S,W,(Out.ak h).mono λU x O R h1 v1 P=>⟨U,x,v1,rfl,R,P,rfl,h1⟩⟩
end
open PyProof.Rows PySem.SeqAt
def EA (d:D) (s:af):Res D:=match d with
 | .lst Z=>match gZ Z with
  |some bs=>ok (.int (bs.count true:Nat)) s
  |none=>none
 |_=>none
def FQ (d:D) (s:af):Res D:=match d with
 | .lst Z=>match gZ Z with
  |some bs=>if (decide (bs.idxOf true<bs.length)&&decide (bs.length<=100))=true then ok (.int (bs.idxOf true:Nat)) s else none
  |none=>none
 |_=>none
theorem Mj:∀(bs:List Bool) (m:Nat) (h:m<bs.length),m<bs.idxOf true->bs[m]=false
 | [],m,h,_=>absurd h (acn _)
 |true::r,m,h,g=>by simp at g
 |false::r,0,h,g=>rfl
 |false::r,m+1,h,g=>by
  have e:(false::r).idxOf true=r.idxOf true+1:=by rw[List.idxOf_cons];rfl
  rw[e] at g;exact Mj r m (by simpa using h) (by omega)
noncomputable def sJ:Ç->Bool
 | .bool b=>b
 |_=>false
theorem A7:∀{bs:List Bool} {its:List Ç},Vals (bs.map V.bl) its->its=bs.map Ņ
 | [],_,.nil=>rfl
 |b::r,_,.cons e t=>by
  have e:_=Ņ b:=e;rw[e,A7 t];rfl
theorem Ka:∀bs:List Bool,(bs.map Ņ).countP sJ=bs.count true
 | []=>rfl
 |b::r=>by
  rw[ß,List.countP_cons,List.count_cons,Ka r]
  cases b<;>rfl
def Lc {A:ì} {s:Ä} {bs:List Bool} (y:Ç) (hy:y∈(bs.map Ņ).toArray):EqAt A s y (.bool true) (sJ y):=by
 have hy:y∈bs.map Ņ:=by simpa using hy
 obtain⟨b,_,rfl⟩:=ċ.mp hy;have h:=EqAt.bool_bool (A:=A) (s:=s) b true
 cases b<;>exact h
section
variable {X:Cx} {Ξ:Wd->aY->Prop} {o:ħ} {f:acC D} {p apos bG:Pos} {j:Nat}
def Ul:ER X "list.count" (λx xs H Q=>∃(a:Ù) (bs:List Bool),x=.ref a/\xs=[.bl true]/\bC X.K H a (bs.map V.bl)/\Q (.int (bs.count true:Nat)) H):=by
 rintro E s σ H x xs v U Q I T S ⟨a,bs,rfl,rfl,R,h⟩;have e:v=Ń a:=T;subst e;obtain⟨u,rfl,rfl⟩:∃u,U=[u]/\u=Ņ true:=by
  cases S with|cons P O=>cases O;exact⟨_,rfl,P⟩
 obtain⟨its,N,M,_⟩:=I.list R;cases A7 N;obtain⟨⟨cls,L,data,J⟩,n,Z,Y,_,W⟩:=M;simp only at Y W;subst Y W;refine abI PySem.F.slot_list_count ⟨_,Z,rfl⟩ PySem.F.entry_list_count (PySem.F.args_list_count_2 _ _) (list_countAt a _ n L J (.bool true) sJ) ⟨Z,λy G=>Lc y G,?_⟩;rw[show (bs.map Ņ).toArray.toList=bs.map Ņ from rfl,Ka];exact⟨.int _,H,I.tok _,⟨_,rfl⟩,h⟩
def Um:ER X "list.index" (λx xs H Q=>∃(a:Ù) (bs:List Bool),x=.ref a/\xs=[.bl true]/\bC X.K H a (bs.map V.bl)/\bs.idxOf true<bs.length/\bs.length<=100/\Q (.int (bs.idxOf true:Nat)) H):=by
 rintro A s σ H x xs v T Q I S R ⟨a,bs,rfl,rfl,P,O,z,h⟩;have e:v=Ń a:=S;subst e;obtain⟨u,rfl,rfl⟩:∃u,T=[u]/\u=Ņ true:=by
  cases R with|cons N M=>cases M;exact⟨_,rfl,N⟩
 obtain⟨its,L,J,_⟩:=I.list P;cases A7 L;obtain⟨⟨cls,G,data,E⟩,n,Z,Y,_,W⟩:=J;simp only at Y W;subst Y W;have sz:(bs.map Ņ).toArray.size=bs.length:=by simp
 refine abI PySem.F.slot_list_index ⟨_,Z,rfl⟩ PySem.F.entry_list_index (PySem.F.args_list_index_2 _ _) (list_indexAt a _ n G E (.bool true) sJ (bs.idxOf true) (by rw[sz];exact O) (by omega) ?_ ?_) ⟨Z,λy D=>Lc y D,?_⟩
 ·simp[sJ,List.getElem_idxOf]
 ·intro m U C
  have B:=Mj bs m (by rw[sz] at U;exact U) C;simp[sJ,B]
 ·exact⟨.int _,H,I.tok _,⟨_,rfl⟩,h⟩
def XN (ho:PE X o (tE X.K Ξ f))
  (pU:abp o "count" X.env (ō o X.env)=ō o X.env:=by rfl)
  (qj:((Ň bG (Õ [.Constant (.bool true) j p] X.env)).all (λx=>!x.1)&&(backToKw bG (acg [] X.env)).all (λx=>x.1.isSome)
   && decide (([.Constant (.bool true) j p]:List ħ).length+([]:List ab3).length+(if ([]:List ab3).isEmpty then 0 else 1)<30))=true:=by rfl)
  (pV:(apos.endLine==bG.line)=true:=by rfl) (hs:Õ [.Constant (.bool true) j p] X.env=(false,ō (.Constant (.bool true) j p) X.env)::Õ [] X.env:=by rfl) (kj:(Ň bG (Õ [] X.env)).any (·.1)=false:=by rfl) :
  PE X (.Call (.Attribute o "count" apos) [.Constant (.bool true) j p] [] bG) (tE X.K Ξ (e1 EA f)) :=
 cA (Di abw PySem.F.slot_list_count PySem.F.type_list_count Ul ho (nU Dd pK hs) pU qj pV hs kj) fun σ H Q V=>by
  obtain⟨w,env,U,S,T,h⟩:=V;subst U;refine⟨w,env,rfl,S,T,(Out.ak h).mono λO d N R Z v Y=>?_⟩
  cases d with
  |lst M =>
   unfold EA at Z;dsimp only at Z;split at Z
   ·rename_i bs P
    simp only[DV] at Y;obtain⟨a,L,rfl,W,r⟩:=Y;cases uU P;cases r.uD;exact⟨.inl ⟨rfl,_,W.sq⟩,a,bs,rfl,rfl,W.sq,aG R Z _ rfl⟩
   ·exact Z.elim
  |_=>exact Z.elim
def Zu (ho:PE X o (tE X.K Ξ f))
  (pU:abp o "index" X.env (ō o X.env)=ō o X.env:=by rfl)
  (qj:((Ň bG (Õ [.Constant (.bool true) j p] X.env)).all (λx=>!x.1)&&(backToKw bG (acg [] X.env)).all (λx=>x.1.isSome)
   && decide (([.Constant (.bool true) j p]:List ħ).length+([]:List ab3).length+(if ([]:List ab3).isEmpty then 0 else 1)<30))=true:=by rfl)
  (pV:(apos.endLine==bG.line)=true:=by rfl) (hs:Õ [.Constant (.bool true) j p] X.env=(false,ō (.Constant (.bool true) j p) X.env)::Õ [] X.env:=by rfl) (kj:(Ň bG (Õ [] X.env)).any (·.1)=false:=by rfl) :
  PE X (.Call (.Attribute o "index" apos) [.Constant (.bool true) j p] [] bG) (tE X.K Ξ (e1 FQ f)) :=
 cA (Di abw PySem.F.slot_list_index PySem.F.type_list_index Um ho (nU Dd pK hs) pU qj pV hs kj) fun σ H Q U=>by
  obtain⟨w,env,T,S,R,h⟩:=U;subst T;refine⟨w,env,rfl,S,R,(Out.ak h).mono λN d M P Z v W=>?_⟩
  cases d with
  |lst L =>
   unfold FQ at Z;dsimp only at Z;split at Z
   ·rename_i bs O
    split at Z
    ·rename_i Y
     rw[Æ,É,É] at Y;simp only[DV] at W;obtain⟨a,J,rfl,V,r⟩:=W;cases uU O;cases r.uD;exact⟨.inl ⟨rfl,_,V.sq⟩,a,bs,rfl,rfl,V.sq,Y.1,Y.2,aG P Z _ rfl⟩
    ·exact Z.elim
   ·exact Z.elim
  |_=>exact Z.elim
end
end DI
namespace L2
open PySem PySem.Spec PyProof.Rows PySem.W
end L2
namespace DI
open PySem L2 PySem.W
def Ml {P:ä} {w:ù} {K:ę} {mg:Str->Option Ç} {base:Ĳ} {x:Str} {st:acx} {f c T:Ù} {fd:Ī} {ps:List Str} {k:Nat} {b:acC Fl} (G:Gd K mg x st ps f fd) (hx:nsIn K Ö x=some (some (.ref f))) (ht:tabIn K x=some (c,T)) (N:List Str) (S:sI N ps (dH st)=true)
  (hb:N.Nodup->∀(A:ì) (outer:List PySem.Env) (s:Ä) (H:Hp) (E:XK),bB k (A.deeper (ŷ x (dH st) s.heap.objs.size f (.ref c)))->cY (jS fz P w K mg base N x (dH st) f (.ref c) A outer s H E).ny (jc st) (tS K cm b)) :
  dB P w K mg base fz (k+1) f fd ps (oR K (aF ps.length N.length b)):=by
 obtain⟨D,C,kV,doc,pm,an,X,ct,B,rfl,lk,U⟩:=G.fn.ex;have R:X=.ref c:=by
  unfold tabIn at ht;rw[hx] at ht;dsimp only at ht;rw[lk] at ht;dsimp only at ht
  cases X with
  |ref z =>
   dsimp only at ht;split at ht
   ·split at ht
    ·cases ht;rfl
    ·cases ht
   ·cases ht
  |_=>cases ht
 subst R;refine Dh lk U (n5 S) (λO H Q E h=>?_) λA outer s H O Q E M h=>?_
 ·obtain⟨w,L,rfl,S,Y,h⟩:=h
  rw[<- Y.length];unfold aF at h;split at h
  ·assumption
  ·exact h.elim
 ·obtain⟨W,L,rfl,J,Y,h⟩:=h
  refine⟨_,(hb (n5 S).nd A outer s W.H E M).ny,?_⟩;unfold aF at h;split at h
  ·rename_i I
   rw[<- I] at h;refine⟨W,_,rfl,J,Y.env N.length,(Out.ak h).mono λy F v V Z=>?_⟩
   cases F with
   |nx env=>intro u _;exact aG V Z _ rfl
   |rt d=>have q:=aG V Z;exact q
   |bk env=>exact Z.elim
   |ct env=>exact Z.elim
  ·exact h.elim
def Pu:ú "ValueError"=some (.type "ValueError"):=by decide +kernel
noncomputable def isNm (n c:Str):Bool:=decide (c=n)
noncomputable def anyS (_:Str):Bool:=true
abbrev ei (P:ä) (w:ù) (K:ę) (mg:Str->Option Ç) (base:Ĳ) (x:Str) (st:acx) (ps:List Str) (k:Nat) (fn:List D->af->Res D):Prop:=∀{f:Ù} {fd:Ī},Gd K mg x st ps f fd->dB P w K mg base (hX P w) k f fd ps (mw mg K fn)
def fE (K:ę) (mg:Str->Option Ç) (cs:List Str) (n:Str):Prop:=∃C,mg n=some (.ref C)/\rq K cs (.ref C) (isNm n)
def N8 (K:ę) (mg:Str->Option Ç) (cs:List Str) (n:Str):Prop:=∃Z,mg n=some (.ref Z)/\∀c∈cs,∃C,nsIn K Ö c=some (some (.ref C))/\mg c=some (.ref C)/\exmOne K (.ref C) (.ref Z)=some true
section
variable {X:Cx} {E:XK} {Ξ:Wd->aY->Prop} {e a b c:ħ} {es rest:List ħ} {pos:Pos} {f g h:acC D} {fa:acC (List D)}
def bZ {k n:Nat} {x:Str} {st:acx} {ps:List Str} {fn:List D->af->Res D} {p:Pos} (G:GG X.K X.mg x st ps) (F:ei X.prog X.w X.K X.mg X.base x st ps k fn) (L:Passes (hX X.prog X.w) X E) (hr:bB n X.A) (ha:PA X (e::es) (tA X.K (fC X.mg E) fa)) (hk:k<=n:=by decide) (hg:Gl X x:=by rfl) (fY:(x==("__debug__":Str))=false:=by decide)
  (he:Õ (e::es) X.env=(false,ō e X.env)::Õ es X.env:=by rfl) (bX:(Ň pos (Õ es X.env)).any (·.1)=false:=by rfl):PE X (.Call (.Name x p) (e::es) [] pos) (tE X.K (fC X.mg E) (bt fn fa)):=by
 obtain⟨f,fd,G⟩:=G;exact VU L (F G) (hr.mono hk) hg G.mg G.fn.kp G.b ha fY he bX
def fS {cs:List Str} {cn:Str} {p np:Pos} (hc:fE X.K X.mg cs cn) (ha:PE X a (tE X.K Ξ f)) (hm:X.mg "isinstance"=none) (hg:Gl X "isinstance":=by rfl) (FR:Gl X cn:=by rfl) (hd:(cn==("__debug__":Str))=false:=by decide)
  (hs:Õ [a,.Name cn np] X.env=(false,ō a X.env)::Õ [.Name cn np] X.env:=by rfl) (eO:Õ [.Name cn np] X.env=(false,ō (.Name cn np) X.env)::Õ [] X.env:=by rfl) (bX:(Ň pos (Õ [.Name cn np] X.env)).any (·.1)=false:=by rfl) :
  PE X (.Call (.Name "isinstance" p) [a,.Name cn np] [] pos) (tE X.K Ξ (e1 (dR cs (isNm cn)) f)):=by
 obtain⟨C,Z,h⟩:=hc;exact Lb (vT:=.ref C) h (λu r=>r) (xU FR Z rfl hd) ha hm ka hg hs eO bX
def XO {cs:List Str} {p np:Pos} (hc:rq X.K cs (.type "ValueError") anyS) (ha:PE X a (tE X.K Ξ f)) (hm:X.mg "isinstance"=none) (hmV:X.mg "ValueError"=none) (hg:Gl X "isinstance":=by rfl) (FR:Gl X "ValueError":=by rfl)
  (hs:Õ [a,.Name "ValueError" np] X.env=(false,ō a X.env)::Õ [.Name "ValueError" np] X.env:=by rfl) (eO:Õ [.Name "ValueError" np] X.env=(false,ō (.Name "ValueError" np) X.env)::Õ [] X.env:=by rfl) (bX:(Ň pos (Õ [.Name "ValueError" np] X.env)).any (·.1)=false:=by rfl) :
  PE X (.Call (.Name "isinstance" p) [a,.Name "ValueError" np] [] pos) (tE X.K Ξ (e1 (dR cs anyS) f)) :=
 Lb (vT:=.ty "ValueError") hc (λu r=>r) (JF FR hmV Pu rfl) ha hm ka hg hs eO bX
end
def lD (K:ę) (cs asked:List Str) (jI:Str):Bool :=
 cs.all (λc=>match nsIn K Ö c with
  |some (some (.ref C))=>excIn K C [.type "ValueError",.type "Exception",.type "BaseException",.type "object"] "ValueError.__new__"&&oq K C&&(kitOne K (.ref C) (.type "ValueError")==some true) &&
   (match nsIn K Ö jI with|some (some (.ref Z))=>exmOne K (.ref C) (.ref Z)==some true | _=>false) &&
   asked.all (λn=>match nsIn K Ö n with|some (some (.ref A))=>kitOne K (.ref C) (.ref A)==some (isNm n c) | _=>false)
  |_=>false) &&
 asked.all (λn=>match nsIn K Ö n with|some (some (.ref A))=>kitOne K (.type "NoneType") (.ref A)==some false | _=>false)&&(kitOne K (.type "NoneType") (.type "ValueError")==some false) &&
 (match nsIn K Ö jI with|some (some (.ref _))=>true | _=>false)
noncomputable def yu (K:ę) (x:Str):Bool:=match tabIn K x with
 |some (c,P)=>codeHdIn K c P&&(K.lookup P).isNone
 |none=>false
def Kb {K:ę} {x:Str} (h:yu K x=true):∃c P,tabIn K x=some (c,P)/\codeHdIn K c P=true/\K.lookup P=none:=by
 unfold yu at h;split at h
 ·rename_i c P e
  rw[Æ] at h;exact⟨c,P,e,h.1,Option.isNone_iff_eq_none.mp h.2⟩
 ·cases h
def uX {K:ę} {x:Str} {p:Ù->Bool} (h:(match nsIn K Ö x with|some (some (.ref C))=>p C | _=>false)=true):∃C,nsIn K Ö x=some (some (.ref C))/\p C=true:=by
 split at h
 ·rename_i C e
  exact⟨C,e,h⟩
 ·cases h
section
variable {K:ę} {cs asked:List Str} {jI:Str} {h:Ĳ} {mg:Str->Option Ç}
def x_at (f:lD K cs asked jI=true) {c:Str} (hc:c∈cs):∃C,nsIn K Ö c=some (some (.ref C))/\excIn K C [.type "ValueError",.type "Exception",.type "BaseException",.type "object"] "ValueError.__new__"=true/\oq K C=true/\kitOne K (.ref C) (.type "ValueError")=some true /\
  (∃CM,nsIn K Ö jI=some (some (.ref CM))/\exmOne K (.ref C) (.ref CM)=some true)/\∀n∈asked,∃A,nsIn K Ö n=some (some (.ref A))/\kitOne K (.ref C) (.ref A)=some (isNm n c):=by
 unfold lD at f;simp only[Æ] at f;obtain⟨C,e,q⟩:=uX (ø.mp f.1.1.1 c hc);simp only[Æ,beq_iff_eq] at q;obtain⟨⟨⟨⟨X,W⟩,V⟩,Z⟩,Y⟩:=q;obtain⟨CM,U,Z⟩:=uX Z;refine⟨C,e,X,W,V,⟨CM,U,beq_iff_eq.mp Z⟩,λn T=>?_⟩;obtain⟨A,S,Y⟩:=uX (ø.mp Y n T);exact⟨A,S,beq_iff_eq.mp Y⟩
def qp (X:K.In h) (G:h.Ns Ö mg) (f:lD K cs asked jI=true) {c:Str} (hc:c∈cs):nq K mg c:=by
 obtain⟨C,e,q,_⟩:=x_at f hc;exact⟨C,e,mg_of X G e,q⟩
def aaM (X:K.In h) (G:h.Ns Ö mg) (f:lD K cs asked jI=true):N8 K mg cs jI:=by
 have Z:=f;unfold lD at Z;simp only[Æ] at Z;obtain⟨Y,e,_⟩:=uX Z.2;refine⟨Y,mg_of X G e,λc W=>?_⟩;obtain⟨C,e1,_,_,_,⟨V,e2,q⟩,_⟩:=x_at f W;rw[e] at e2;cases e2;exact⟨C,e1,mg_of X G e1,q⟩
def fX (X:K.In h) (G:h.Ns Ö mg) (f:lD K cs asked jI=true) {n:Str} (hn:n∈asked):fE K mg cs n:=by
 have Z:=f;unfold lD at Z;simp only[Æ] at Z;obtain⟨A,e,q⟩:=uX (ø.mp Z.1.1.2 n hn);refine⟨A,mg_of X G e,beq_iff_eq.mp q,λc Y=>?_⟩;obtain⟨C,e1,_,W,_,_,V⟩:=x_at f Y;obtain⟨T,e2,U⟩:=V n hn;rw[e] at e2;cases e2;exact⟨C,e1,W,U⟩
def Zv (f:lD K cs asked jI=true):rq K cs (.type "ValueError") anyS:=by
 have Z:=f;unfold lD at Z;simp only[Æ,beq_iff_eq] at Z;refine⟨Z.1.2,λc Y=>?_⟩;obtain⟨C,e1,_,X,W,_⟩:=x_at f Y;exact⟨C,e1,X,W⟩
end
def vU (f:ħ->Option D):List ħ->Option (List D)
 | []=>some []
 |e::Z=>match f e,vU f Z with
  |some d,some Y=>if notStar e=true then some (d::Y) else none
  |_,_=>none
def cst:Nat->ħ->Option D
 |0,_=>none
 |n+1,e=>match e with
  | .Constant (.str x) _ _=>some (.str x)
  | .Constant (.int i) _ _=>some (.int i)
  | .Constant (.bool b) _ _=>some (.bl b)
  | .Constant .none _ _=>some .au
  | .UnaryOp .USub (.Constant (.int i) _ _) _=>some (.int (-i))
  | .Tuple Y _ _=>match vU (cst n) Y with
   |some Z=>if Z.length<=100 then some (.tup Z) else none
   |none=>none
  | .List Y _=>match vU (cst n) Y with
   |some Z=>if Z.length<=100 then some (.lst Z) else none
   |none=>none
  |_=>none
def aC (ds:List D):acC (List D):=λ_ s=>ok ds s
def Zw {ds:List D} (h:ds.length<=100):ba (aC ds)=eC (.tup ds):=by
 funext env s;show iw ds (ok (D.tup ds) s)=_;exact ã (Þ h (by decide))
def Zx {ds:List D} (h:ds.length<=100):bH (aC ds)=eC (.lst ds):=by
 funext env s;show iw ds (ok (D.lst ds) s)=_;exact ã (Þ h (by decide))
section
variable {X:Cx} {Ξ:Wd->aY->Prop}
theorem DB {f:ħ->Option D} (hf:∀e d,f e=some d->PE X e (tE X.K Ξ (eC d))):∀{es:List ħ} {ds:List D},vU f es=some ds->PA X es (tA X.K Ξ (aC ds))
 | [],ds,h=>by cases h;exact cV
 |e::es,ds,h=>by
  unfold vU at h;split at h
  ·rename_i d Z e1 e2
   split at h
   ·rename_i hs
    cases h;exact dA (hf e d e1) (DB hf e2) hs
   ·cases h
  ·cases h
theorem fu:∀(n:Nat) {e:ħ} {d:D},cst n e=some d->PE X e (tE X.K Ξ (eC d))
 |0,e,d,h=>by cases h
 |n+1,e,d,h=>by
  unfold cst at h;split at h
  ·cases h;exact aP
  ·cases h;exact aw
  ·cases h;exact iB
  ·cases h;exact mR
  ·cases h;exact Ej Dt aw
  ·split at h
   ·rename_i W Z
    split at h
    ·rename_i Y
     cases h;rw[<- Zw Y];exact bR (DB (λe d=>fu n) Z)
    ·cases h
   ·cases h
  ·split at h
   ·rename_i W Z
    split at h
    ·rename_i Y
     cases h;rw[<- Zx Y];exact cE (DB (λe d=>fu n) Z)
    ·cases h
   ·cases h
  ·cases h
end
end DI
namespace L2
open PySem PySem.Spec PyProof.Rows PySem.W
structure jg (k:Nat) (A:ì):Prop where
 dp:A.depth+3*k+5<recursionLimit
 un:A.units+16*k+200<abh
def bB.h {k:Nat} {A:ì} (r:bB k A):jg k A:=⟨r.dp,r.un⟩
def jg.mono {j k:Nat} {A:ì} (r:jg k A) (h:j<=k):jg j A:=⟨by have:=r.dp;omega,by have:=r.un;omega⟩
theorem jg.deeper {k:Nat} {A:ì} (r:jg (k+1) A) (env:Env):jg k (A.deeper env) :=
 ⟨by have:=r.dp;show A.depth+1+3*k+5 < _;omega,by have:=r.un;show A.units+3+16*k+200 < _;omega⟩
theorem jg.depth {k:Nat} {A:ì} (r:jg k A):A.depth<recursionLimit:=by have:=r.dp;omega
def jg.held {k:Nat} {A:ì} (r:jg k A) (v:Option Ç):jg k (A.mark v):=⟨r.dp,r.un⟩
structure aer (P:ä) (w:ù) (K:ę) (mg:Str->Option Ç) (base:Ĳ) (k:Nat) (f:Ù) (fd:Ī) (ps:List Str) (sp:Sp):Prop where
 len:∀vs H Q E,sp vs H Q E->vs.length=ps.length
 run:∀(A:ì) (outer:List Env) (s:Ä) (H:Hp) (args:Args) (us:List Ç) (vs:List V) (Q:VK) (E:XK),jg k A->sk P w K mg base A outer s H->BindsTo s fd args (ps.zip us)->Vals vs us->sp vs H Q E ->
  η (â P w) A (.call (.ref f) args) (CR fz outer P w H s Q E) s
noncomputable abbrev _root_.PySem.Around.aes (A:ì):ì:={ A with handled:=none }
section
variable {X:Cx} {k:Nat} {f:Ù} {fd:Ī} {ps:List Str} {sp:Sp} {E:XK} {x:Str} {p pos:Pos} {e:ħ} {es:List ħ} {t:TA}
end
end L2
namespace DI
open PySem L2 PySem.W
section
variable {X:Cx} {E:XK} {Ξ:Wd->aY->Prop} {e a b c:ħ} {es rest:List ħ} {pos:Pos} {f g h:acC D} {fa:acC (List D)}
end
end DI
namespace L2
open PySem PySem.Spec PyProof.Rows
end L2
namespace DI
open PySem L2
end DI
namespace L2
open PySem PySem.Spec PyProof.Rows
section
variable {X:Cx} {π:List (Ù×Obj)} {σ:St} {H:Hp} {s:Ä} {Z:Ù->Prop}
mutual
theorem DV.rY (I:Inv X π σ H s):∀{d:ω} {v:V} {u:Ç},DV X.K Z H d v->RelV v u->d.showable=true->d.shown.length<=Ø->∃bs,ReadAtMost s.heap d.depth bs/\ReprK X.prog X.w bs s.heap d.depth u d.shown
 | .none,v,u,h,r,hs,W=>by
  obtain⟨as,Y⟩:=h.reads I r;exact abU Y hs (λz=>by simp[aa4] at z) W
 | .bool b,v,u,h,r,hs,W=>by
  obtain⟨as,Y⟩:=h.reads I r;exact abU Y hs (λz=>by simp[aa4] at z) W
 | .int i,v,u,h,r,hs,W=>by
  obtain⟨as,Y⟩:=h.reads I r;exact abU Y hs (λz=>by simp[aa4] at z) W
 | .str x,v,u,h,r,hs,W=>by
  obtain⟨as,Y⟩:=h.reads I r;exact abU Y hs (λz=>by simp[aa4] at z) W
 | .dict F,v,u,h,r,hs,W=>by
  obtain⟨as,Y,G⟩:=h.uR I r rfl;exact abU Y hs (λ_=>G) W
 | .tuple U,v,u,h,r,hs,W=>by
  have O:(tupleText (Ļ U)).length<=Ø:=by simpa only [PyData.shown] using W
  obtain⟨as,Y⟩:=h.reads I r;simp only[DV] at h;obtain⟨a,J,e,N,S⟩:=h;subst e;cases r;obtain⟨its,R,⟨o,e,c,n,Q⟩,_⟩:=I.tuple N;obtain⟨bs,T,P⟩:=ar.rY I S R (by simpa [ξ] using hs) (λt M=>Þ (tupleText_mem_le M) O);have L:a∉bs:=not_mem_of_deeper Y (by simp only[PyData.depth];omega) T;refine⟨a::bs,ReadAtMost.cons Y (by simp only[PyData.depth];omega) T,?_⟩;simp only[PyData.depth,PyData.shown];exact ReprK.tuple e c Q L P
 | .list U,v,u,h,r,hs,W=>by
  have O:(listText (Ļ U)).length<=Ø:=by simpa only [PyData.shown] using W
  obtain⟨as,Y⟩:=h.reads I r;simp only[DV] at h;obtain⟨a,J,e,_,N,S⟩:=h;subst e;cases r;obtain⟨its,R,⟨o,n,e,c,_,Q⟩,_⟩:=I.list (bC.of N);obtain⟨bs,T,P⟩:=ar.rY I S R (by simpa [ξ] using hs) (λt M=>Þ (listText_mem_le M) O);have L:a∉bs:=not_mem_of_deeper Y (by simp only[PyData.depth];omega) T;refine⟨a::bs,ReadAtMost.cons Y (by simp only[PyData.depth];omega) T,?_⟩;simp only[PyData.depth,PyData.shown]
  cases its with
  |nil =>
   have:J=[]:=by cases R;rfl
   subst this
   have:U=[]:=by cases U with
    |nil=>rfl
    |cons d U=>obtain⟨_,_,z,_⟩:=S;cases z
   subst this;simp only[Ļ,listText_nil];exact ReprK.listEmpty e c Q
  |cons x l=>exact ReprK.list e c Q L (by simpa using P.length_eq) (λi y e=>P.item i y (by simpa using e))
theorem ar.rY (I:Inv X π σ H s):∀{ds:List ω} {vs:List V} {us:List Ç},ar X.K Z H ds vs->Vals vs us->ļ ds=true->(∀t∈Ļ ds,t.length<=Ø) ->
  ∃bs,ReadAtMost s.heap (ğ ds) bs/\ReprAllK X.prog X.w bs s.heap (ğ ds) us (Ļ ds)
 | [],vs,us,h,r,_,_=>by
  have e:vs=[]:=h;subst e;cases r
  exact⟨[],(λ_ h=>nomatch h),by simp only[Ļ];exact .nil⟩
 |d::ds,vs,us,h,r,hs,W=>by
  obtain⟨v,F,e,T,S⟩:=h;subst e;have U:d.showable=true/\ļ ds=true:=by simpa [ļ] using hs
  cases r with
  |cons R Q =>
   obtain⟨P,O,N⟩:=DV.rY I T R U.1 (W _ (by simp only[Ļ];exact Ð ..));obtain⟨M,L,J⟩:=ar.rY I S Q U.2 (λt G=>W t (by simp only[Ļ];exact Ê _ G));refine⟨P++M,(O.mono (by simp only[ğ];exact abx _ _)).append (L.mono (by simp only[ğ];exact ż _ _)),?_⟩;simp only[ğ,Ļ];exact .cons ((N.more λb Y=>þ _ Y).level_le (abx _ _)) (J.more_le (λb Y=>Ñ _ Y) (ż _ _))
end
end
end L2
namespace DI
open PySem L2
def EB (d:D):Bool:=plain d&&(py d).showable&&decide ((py d).depth<=100)&&decide ((py d).shown.length<=Ø)
end DI
namespace L2
open PySem PySem.Spec PyProof.Rows SeqAt
def OI (l b:Ù) (dt:Data) (ia:Array Ç) (n2:Nat) (dd iI:Option Ù) (sl cg:Array (Option Ç)) :
  Meets (Ŗ.«dict.__ne__» ⟨[.ref l,.ref b],[]⟩) (λ_ R s=>s.heap.get? l=some { cls:=.type "dict",dict:=dd,data:=dt,slots:=sl }/\s.heap.get? b=some { cls:=.type "tuple",dict:=iI,data:=.seq ia n2,slots:=cg }/\R (.ok (.ret .notImplemented)) s) :=
 .of_wp λprog w A R s h=>by obtain⟨X,g,d,W,os⟩:=s;obtain⟨Z,Y,h⟩:=h;have f1:=F.sub_tuple_dict;wp_walk using ν Z,ν Y;exact⟨_,rfl,h⟩
def OJ (l b:Ù) (dt:Data) (ia:Array Ç) (n2:Nat) (dd iI:Option Ù) (sl cg:Array (Option Ç)) :
  Meets (Ŗ.«tuple.__ne__» ⟨[.ref b,.ref l],[]⟩) (λ_ R s=>s.heap.get? b=some { cls:=.type "tuple",dict:=iI,data:=.seq ia n2,slots:=cg }/\s.heap.get? l=some { cls:=.type "dict",dict:=dd,data:=dt,slots:=sl }/\R (.ok (.ret .notImplemented)) s) :=
 .of_wp λprog w A R s h=>by obtain⟨X,g,d,W,os⟩:=s;obtain⟨Z,Y,h⟩:=h;have f1:=F.sub_dict_tuple;wp_walk using ν Y,ν Z;exact⟨_,rfl,h⟩
def O7 {A:ì} {s:Ä} {l b:Ù} {o:Obj} {ia:Array Ç} (ho:s.heap.get? l=some o) (hc:o.cls=.type "dict") (hb:s.heap.IsTuple b ia) (hu:A.units<abh):SeqAt.RcNeAt A s (.ref l) (.ref b) true:=λprog w E Q h=>by
 have R:l≠b:=λe=>by
  subst e;obtain⟨P,Z,Y,_⟩:=hb;rw[ho] at Z;cases Z;rw[hc] at Y;exact absurd Y (by decide)
 obtain⟨cls,W,data,V⟩:=o;obtain⟨⟨O,U,data2,T⟩,Z,Y,S,hd2⟩:=id hb;simp only at hc Y hd2;subst hc Y hd2;exact(rc_ne_decline_or (k:=false) ⟨_,ho,rfl⟩ ⟨_,Z,rfl⟩ (by decide) F.sub_tuple_dict F.slot_dict_ne F.slot_tuple_ne_refl
  (λ_ X=>abI F.slot_dict_ne ⟨_,ho,rfl⟩ F.entry_dict_ne (F.args_dict_ne_2 _ _) (OI l b data ia S W U V T) ⟨ho,Z,X⟩)
  (λ_ X=>abI F.slot_tuple_ne_refl ⟨_,Z,rfl⟩ F.entry_tuple_ne (F.args_tuple_ne_2 _ _) (OJ l b data ia S W U V T) ⟨Z,ho,X⟩)
  (λ_ X=>wpAny_isSame_ref_other R ho Z (by simp) X) (.inr hu) h)
def QS {X:Cx} {k:Nat} (hr:bB k X.A):cD X (.builtin "repr") (λxs H Q=>∃(x:V) (d:ω) (ds:List ω) (Z:Ù->Prop),xs=[x]/\DV X.K Z H (.list (d::ds)) x/\(PyData.list (d::ds)).showable=true/\(PyData.list (d::ds)).depth<=100/\(PyData.list (d::ds)).shown.length<=Ø/\Q (.str (PyData.list (d::ds)).shown) H):=by
 intro v s σ H xs p Q I r h;obtain⟨x,M,W,Z,rfl,U,hs,m,L,q⟩:=h;generalize J:M::W=ds at *;obtain⟨u,rfl,P⟩:=vals1 r;have O:(listText (Ļ ds)).length<=Ø:=by simpa only [PyData.shown] using L
 have T:X.A.units+((PyData.list ds).depth+1)<abh:=by have:=hr.un;omega
 obtain⟨as,G⟩:=U.reads I P;simp only[DV] at U;obtain⟨a,xs,e,_,E,S⟩:=U;subst e;cases P;obtain⟨its,N,⟨o,n,e,c,_,R⟩,_⟩:=I.list (bC.of E);obtain⟨bs,D,Y⟩:=ar.rY I S N (by simpa [ξ] using hs) (λt C=>Þ (listText_mem_le C) O);have B:a∉bs:=not_mem_of_deeper G (by simp only[PyData.depth];omega) D;simp only[PyData.depth] at T
 cases its with
 |nil =>
  have:xs=[]:=by cases N;rfl
  subst this;rw[<- J] at S;obtain⟨_,_,z,_⟩:=S;cases z
 |cons y l =>
 refine call_repr_slot (by omega) ⟨o,e,c⟩ F.slot_list_repr.toG (call_list_reprK e c R B (by simpa using Y.length_eq) (λi y e=>Y.item i y (by simpa using e)) hr.gd (λb _=>Clear.nil b) (by show X.A.units+1 + _ < abh;omega) (λ_ _ z=>z) (λj t w Y=>⟨_,_,rfl,?_⟩) O);refine⟨.str _,H,I.kept (t':=w) Y,⟨t,rfl⟩,?_⟩;simpa only [PyData.shown] using q
end L2
namespace DI
open PySem L2
def rK (ds:List D) (s:af):Res D:=match ds with
 | [d]=>match res d s with
  | .lst (x::Z)=>if EB (.lst (x::Z))=true then ok (.str (py (.lst (x::Z))).shown) s else none
  |_=>none
 |_=>none
def Kc {X:Cx} {Ξ:Wd->aY->Prop} {k:Nat} (hr:bB k X.A):cD X (.builtin "repr") (rC X.K Ξ rK):=by
 rintro V s σ H L U Q I r ⟨w,J,rfl,S,T,h⟩;unfold rK at h;split at h
 ·rename_i d
  obtain⟨v,rfl,R⟩:=mH T;split at h
  ·rename_i y G Z
   split at h
   ·rename_i Y
    simp only[EB,Æ,É] at Y;obtain⟨⟨⟨P,O⟩,N⟩,M⟩:=Y;have W:=R.res S (by rw[Z];exact P);rw[Z] at W;exact QS hr V s σ w.H _ U Q I r ⟨v,_,_,_,rfl,W,O,N,M,aG S h _ rfl⟩
   ·exact h.elim
  ·exact h.elim
 ·exact h.elim
def qe (x y:D) (s:af):Res D:=match x,y with
 | .bA _,.tup _=>ok (.bl true) s
 |_,_=>i6 x y s
def Zy {X:Cx} {Ξ:Wd->aY->Prop} {k:Nat} (hr:bB k X.A):bI X (ġ .NotEq) (rO X.K Ξ qe):=by
 rintro T s σ H x y v u Q I Y W ⟨w,R,P,rfl,S,V,U,h⟩;unfold qe at h;split at h
 ·obtain⟨a,rfl,M,O⟩:=V
  obtain⟨b,L,rfl,Z,_⟩:=U;cases Y;cases W;obtain⟨_,J,G,F,o,E,D,g1,g2,g3,_,C,_⟩:=(show cC X.prog X.w w.H s.heap a (.dK _) from I.aE a _ O);obtain⟨its,B,N,_⟩:=I.tuple Z;exact O7 g1 g2.1 N (by have:=hr.un;have:abh=9900:=rfl;omega) _ _ _ _ ⟨.bl _,w.H,I,rfl,aG S h _ rfl⟩
 ·exact oA hr T s σ w.H x y v u Q I Y W ⟨w,R,P,rfl,S,V,U,h⟩
def vp (k1 k2:Str) (f g:acC D):acC D:=λenv s=>ak (f env (s++[.dK []])) λY X=>ak (g env X) λW Z=>match (Z[s.length]?:Option Cell) with
 |some (.dK [])=>ok (.aj s.length) (Z.set s.length (.dK [(Ă k1,Y),(Ă k2,W)]))
 |_=>none
section
variable {X:Cx} {Ξ:Wd->aY->Prop} {pos:Pos} {f g:acC D}
def XQ {k1 k2:Str} {e1 e2:ħ} {j1 j2} {p1 p2:Pos} (h1:PE X e1 (tE X.K Ξ f)) (h2:PE X e2 (tE X.K Ξ g)) (dF:k1≠k2:=by decide):PE X (.Dict [some (.Constant (.str k1) j1 p1),some (.Constant (.str k2) j2 p2)] [e1,e2] pos) (tE X.K Ξ (vp k1 k2 f g)) :=
 cA (JR (Bn yj h1 (Bn yj h2 JQ)) rfl rfl (by simp) (by simp)) fun σ H Q G=>by
  obtain⟨w,env,F,S,T,h⟩:=G;subst F;intro p R;have le:=(Fw.cell (K:=X.K) (o:=.dK []) (c:=.dK []) S R).le;have E:aM X.K (w.cell p (.dK []) (.dK [])):=S.yQ R ⟨[],cq,rfl,rfl⟩;have Y:(w.cell p (.dK []) (.dK [])).ρ[w.aB.length]?=some p:=by
   show (w.ρ++[p])[w.aB.length]?=some p;rw[<- S.len];simp
  have P:Out X.K Ξ (w.cell p (.dK []) (.dK [])) (vp k1 k2 f g env w.aB) λO d=>∀v,DV X.K O d v->Q v O.H:=h.from le;unfold vp at P;refine⟨_,env,rfl,E,T.le le,(Out.ak P).mono λD N M C h1 v1 B=>?_⟩;refine⟨D,env,rfl,C,T.le (le.trans M),(Out.ak h1).mono λA L J W h2 v2 y=>?_⟩;have Z:A.ρ[w.aB.length]?=some p:=by
   have q:DV X.K (w.cell p (.dK []) (.dK [])) (.aj w.aB.length) (.ref p):=⟨p,Y,rfl⟩;obtain⟨a,e,e2⟩:=(M.trans J) _ _ q;cases e2;exact e
  split at h2
  ·rename_i V
   obtain⟨x,u,t,n⟩:=W.cell _ p _ Z V;have s:x=[]:=by simpa using t
   subst s;refine⟨u,[(Ă k1,v1),(Ă k2,v2)],rfl,by simp,?_⟩;have em:pL [] [(Ă k1,v1),(Ă k2,v2)]=[(Ă k1,v1),(Ă k2,v2)]:=by
    show putK (putK [] (Ă k1) v1) (Ă k2) v2=_;have:(Ă k1:Key)≠Ă k2:=λz=>dF (Sum.inr.inj z);simp[putK,this]
   rw[em];have I:(Cell.dK [])≠.dead:=by intro z;cases z
   have U:=(Fw.put (K:=X.K) (o:=.dK [(Ă k1,v1),(Ă k2,v2)]) (c:=.dK [(Ă k1,N),(Ă k2,L)]) W Z V I).le;have r:=W.vG (o:=.dK [(Ă k1,v1),(Ă k2,v2)]) (c:=.dK [(Ă k1,N),(Ă k2,L)]) Z V I ⟨_,cq,rfl,v1,[v2],rfl,U _ _ (J _ _ B),v2,[],rfl,U _ _ y,rfl⟩;exact h2 _ U r rfl (.ref p) ⟨p,Z,rfl⟩
  ·exact h2.elim
end
def vq (i:Nat) (ft:acC Bool) (nL nM:List D->af->Res D) (fa:acC (List D)):acC Fl:=λenv s=>if i<env.length then ak (ft env s) λb s=>ak (fa (env.set i none) s) λZ s=>ak (if b then nL Z s else nM Z s) (λd s=>ok (.rt d) s) else none
section
variable {X:Cx} {E:XK} {pos:Pos} {fa:acC (List D)}
def bL.hide {K:ę} {w:Wd} {env:Env} {σ:St} {v:V} (h:bL K w env σ) (i:Nat):bL K w (env.set i none) (σ.set i (some v)):=by
 refine⟨by rw[î,î];exact h.len,λj Y e=>?_⟩;by_cases Z:j=i
 ·subst Z
  rw[List.getElem?_set] at e;simp at e
 ·rw[Ï (Ŀ Z)] at e |-
  exact h.val j Y e
def XR (i:Nat) {x g1 g2:Str} {c e:ħ} {es:List ħ} {p1 p2 p3 p4 p5 p6 p7:Pos} {gE cF:acx} {Oa Ob:List Str} {k1 k2 n:Nat} {nL nM:List D->af->Res D} {ft:acC Bool}
  (hN:X.N.Nodup) (hc:PT X c (tT X.K (fC X.mg E) ft)) (G1:GG X.K X.mg g1 gE Oa) (F1:ei X.prog X.w X.K X.mg X.base g1 gE Oa k1 nL) (G2:GG X.K X.mg g2 cF Ob) (F2:ei X.prog X.w X.K X.mg X.base g2 cF Ob k2 nM)
  (L:Passes (hX X.prog X.w) X E) (hr:bB n X.A) (ha:PA X (e::es) (tA X.K (fC X.mg E) fa)) (hk1:k1<=n:=by decide) (ma:k2<=n:=by decide)
  (hi:X.N[i]?=some x:=by rfl) (hx:Loc X.env.scope x:=by first|exact Ź rfl|exact acB rfl) (hv:oG X.env.scope x:=by first|exact Ź rfl|exact acB (Ź rfl)|exact acB (acB rfl))
  (hs:ace (.IfExp c (.Name g1 p2) (.Name g2 p3) p4) (some (.Name x p1)) p5.line X.env=pure false:=by rfl) (hf:X.fn x=true\/X.env.scope.names.lookup x=some .local:=by first|exact .inl rfl|exact .inr rfl)
  (hg1:Gl X g1:=by rfl) (Fe:Gl X g2:=by rfl) (lj:(g1==("__debug__":Str))=false:=by decide) (hd2:(g2==("__debug__":Str))=false:=by decide) (hd:(x==("__debug__":Str))=false:=by decide) (fy:(x==("__classdict__":Str))=false:=by decide)
  (he:Õ (e::es) X.env=(false,ō e X.env)::Õ es X.env:=by rfl) (bX:(Ň pos (Õ es X.env)).any (·.1)=false:=by rfl) :
  cY X [.Assign [.Name x p1] (.IfExp c (.Name g1 p2) (.Name g2 p3) p4) p5,.Return (some (.Call (.Name x p6) (e::es) [] pos)) p7] (tS X.K (fC X.mg E) (vq i ft nL nM fa)):=by
 obtain⟨f1,t,G1⟩:=G1;obtain⟨f2,p,G2⟩:=G2;have call:PE X (.Call (.Name x p6) (e::es) [] pos) (fun σ H Q=>(σ[i]?=some (some (.ref f1))/\u9 (mw X.mg X.K nL) [] E (tA X.K (fC X.mg E) fa) σ H Q)\/(σ[i]?=some (some (.ref f2))/\u9 (mw X.mg X.K nM) [] E (tA X.K (fC X.mg E) fa) σ H Q)):=by
  intro U s σ H Q I h;have go:∀(b:Bool) {Z:Ù} {fd:Ī} {T:List Str} {k:Nat} {fn:List D->af->Res D},dB X.prog X.w X.K X.mg X.base (hX X.prog X.w) k Z fd T (mw X.mg X.K fn)->k<=n->ł X.K (.ref Z)=true->Binds X.K fd T []->σ[i]?=some (some (.ref Z))->u9 (mw X.mg X.K fn) [] E (tA X.K (fC X.mg E) fa) σ H Q->Ý (â X.prog X.w) X.A (ō (.Call (.Name x p6) (e::es) [] pos) X.env) (EP X U σ Q) X.xe s:=by
   intro _ Z fd T k fn F o R m e1 h;refine PySem.wpAny_Call_Name_kw (aI (Cv hi hv hd fy U s σ H (λv l=>v=.ref Z/\l=H) I ⟨_,e1,rfl,rfl⟩) λu j g=>?_);obtain⟨v,f,J,r,rfl,rfl⟩:=g;have r:u=.ref Z:=r;subst r;refine acp (h₀:=X.base) J.ok.mod.lU R (aI (ha pos U j σ f _ J h) λus s2 ⟨G,H2,C,r,q⟩=>⟨C.jq,?_⟩) he bX;exact KC F (hr.mono o) m .nil L C r q
  rcases h with ⟨e1,h⟩ | ⟨e1,h⟩
  ·exact go true (F1 G1) hk1 G1.fn.kp G1.b e1 h
  ·exact go true (F2 G2) ma G2.fn.kp G2.b e1 h
 refine BY (IT (Kv hN hi hx (IQ hc (xU (v:=.ref f1) hg1 G1.mg rfl lj) (xU (v:=.ref f2) Fe G2.mg rfl hd2)) hs hf) (JG (Kt call))) λP σ H a=>?_;obtain⟨w,env,eH,S,O,h⟩:=a;subst eH;unfold vq at h;split at h
 case isFalse=>exact h.elim
 rename_i B;rw[O.len] at B;refine⟨w,env,rfl,S,O,(Out.ak h).mono λY b l1 S1 W=>?_⟩;have z:∀v:V,(σ.set i (some v))[i]?=some (some v):=λv=>Ó B;have fin:∀{fn:List D->af->Res D} {v:V},Out X.K (fC X.mg E) Y (ak (fa (env.set i none) Y.aB) λM s=>ak (fn M s) λd s=>ok (.rt d) s) (vJ X.K P)->u9 (mw X.mg X.K fn) [] E (tA X.K (fC X.mg E) fa) (σ.set i (some v)) Y.H P.rt:=λ{fn v} W=>by
  refine⟨Y,env.set i none,rfl,S1,(O.le l1).hide i,(Out.ak W).mono λy M l2 S2 h2 G aq=>?_⟩;show mw X.mg X.K fn (G++[]) y.H P.rt E;rw[İ];exact⟨y,M,rfl,S2,aq,(Out.ak h2).mono λw3 d l3 S3 h3=>aG S3 h3⟩
 cases b with
 |true=>exact .inl ⟨z _,fin W⟩
 |false=>exact .inr ⟨z _,fin W⟩
end
open PySem.W
def qf (n:Nat) (x:Str) (caps:List Nat) (fb:acC D) (g:D->(af->Res D)->List D->af->Res D):acC D:=λenv s=>match (mZ env caps:Option (List D)) with
 |some Z=>match (s[n]?:Option Cell) with
  |some (.tb y)=>if decide (y=x)=true then ne (g .au (fb (Z.map some)) [.au] s) else none
  |_=>none
 |none=>none
section
variable {X:Cx} {Ξ:Wd->aY->Prop} {pos:Pos}
def Ld (j0:Nat) {x g:Str} {p gU:Pos} {params:Arguments} {body:ħ} {sc:ο} {c P:Ù} {Od:acx} {Oe:List Str} {k n kb:Nat} {gf:D->(af->Res D)->List D->af->Res D} {fb:acC D} (N:List Str) {caps:List Nat}
  (yU:X.env.code=.ref c) (Mm:X.env.qual=x++".<locals>.") (ht:tabIn X.K x=some (c,P)) (hC:codeHdIn X.K c P=true) (hb:X.base.BuiltinsAt X.mg P)
  (G:GG X.K X.mg g Od Oe) (F:N7 X.prog X.w X.K X.mg g Od Oe k (kb+1) gf) (aaN:∀cl th s,gf cl th [cl] s=gf .au th [.au] s) (hr:bB n X.A)
  (mP:∀(base:Ĳ) (q:Str) (f:Ù) (cd:Ç) (cl:List (Str×Ù)) (A:ì) (outer:List PySem.Env) (s:Ä) (H:Hp) (E:XK),bB kb (A.deeper (envX q sc s.heap.objs.size f cd cl))->Lv (tO X.prog X.w X.K X.mg base N q sc f cd cl A outer s H E) E->PE (tO X.prog X.w X.K X.mg base N q sc f cd cl A outer s H E) body (tE X.K (fC X.mg E) fb))
  (hk:k<=n:=by decide) (EC:La X.N N caps X.env.scope sc=true:=by kernel_rfl) (v9:∀x,X.fn x=true:=by intro _;rfl) (DC:∀(cl:List (Str×Ù)) (pm:Ç) (c':Ù) (iN:Ç),bindArgs (kla_fn "<lambda>" (x++".<locals>."++"<lambda>") params body sc cl pm (.ref c') iN) ⟨[],[]⟩=pure []:=by intros;rfl)
  (Ey:defaultsOf params X.env=([],[]):=by rfl) (hg:Gl X g:=by rfl) (fY:(g==("__debug__":Str))=false:=by decide)
  (he:Õ [.Lambda params body sc gU] X.env=(false,ō (.Lambda params body sc gU) X.env)::Õ [] X.env:=by rfl) (bX:(Ň pos (Õ [] X.env)).any (·.1)=false:=by rfl) :
  PE X (.Call (.Name g p) [.Lambda params body sc gU] [] pos) (tE X.K Ξ (qf j0 x caps fb gf)):=by
 intro π s σ H Q I ay;have C:=codeHd_of_K I.ok.mod.lU hC;obtain⟨w,env,eH,S,eo,h⟩:=ay;subst eH;unfold qf at h
 cases j4:mZ env caps with
 |none=>rw[j4] at h;exact h.elim
 |some W =>
 rw[j4] at h
 cases U:w.aB[j0]? with
 |none=>simp only[U] at h;exact h.elim
 |some c0 =>
 simp only[U] at h
 cases c0 with
 |dead=>exact h.elim
 |lst _=>exact h.elim
 |dK _=>exact h.elim
 |dT _=>exact h.elim
 |ins _ _=>exact h.elim
 |tb y =>
 dsimp only at h;by_cases hy:y=x
 case neg=>rw[í (by simpa using hy)] at h;exact h.elim
 rw[ã (by simpa using hy)] at h;subst hy;obtain⟨vs,aq,hvs⟩:=Jq eo j4;obtain⟨a,ha⟩:∃a,w.ρ[j0]?=some a:=by
  have h0:=(Ã.mp U).1;rw[<- S.len] at h0;exact⟨_,Ë h0⟩
 have aaO:=S.cell j0 a _ ha U;obtain⟨c2,ps,t1,t2,t3,t4⟩:=aaO;rw[ht] at t1;cases t1;unfold La at EC;simp only[Æ,ack,Ķ,É,ø] at EC;obtain⟨⟨⟨⟨⟨⟨k1,k2⟩,k3⟩,k4⟩,k5⟩,k6⟩,k7⟩:=EC;obtain⟨cl,cS,R⟩:=Uh (env:=X.env) (scope:=sc) λz hz=>by
  rcases k7 _ hz with q|q
  ·exact absurd rfl q
  ·exact I.ok.has z (.inl q)
 obtain⟨gA,fdg,G⟩:=G;refine abn (uB I hg G.mg ?_ fY);refine acp (h₀:=X.base) I.ok.mod.lU G.fn.kp ?_ he bX;rw[he];show Ý _ _ (spliced ((false,ō (.Lambda params body sc gU) X.env)::Ň pos (Õ [] X.env))) _ _ s;refine Calls.spliced_cons (Ui I cS yU C hb t2 t3 Ey (λcv q=>?_) λf c' iN oc fs tq H1 J Y hf MX FV iF iM fZ hH=>?_)
 ·rw[Mm]
  obtain⟨c',oc,fs,t,r1,r2,r3,r4⟩:=t4 gU cv q;exact⟨c',oc,fs,t,r1,r2.2,r3,r4⟩
 rw[Mm] at FV fZ;refine Calls.spliced_nil ⟨Y.jq,?_⟩;have W1:∃V:Wd,V.H=H1/\aM X.K V/\Le X.K w V/\V.aB=w.aB:=by
  rcases hH with rfl | ⟨hn,Ab,rfl,qA⟩
  ·exact⟨w,rfl,S,Le.refl w,rfl⟩
  ·have S2:=S.grow (o:=.aR oc (.own c')) hn
   have O:=(Fw.grow (K:=X.K) (o:=.aR oc (.own c')) hn).le;have l2:=(Fw.put (o:=.cN (ps++#[ŭ gU.line,ŭ gU.col,.ref c'])) (c:=.tb y) S2 ha U (by intro z;cases z)).le;refine⟨(w.grow c' (.aR oc (.own c'))).put j0 P (.cN (ps++#[ŭ gU.line,ŭ gU.col,.ref c'])) (.tb y),rfl,S2.vG ha U (by intro z;cases z) ⟨c,_,ht,cq,qA,λpos cv e=>?_⟩,O.trans l2,?_⟩
   ·rw[Array.toList_append] at e
    rcases Sd _ t3 e with e|e
    ·obtain⟨c3,o3,v3,t3',r1,r2,r3⟩:=t4 pos cv e
     exact⟨c3,o3,v3,t3',r1,(O.trans l2).aR c3 o3 _ r2.1 r2.2,r3⟩
    ·refine⟨c',oc,fs,tq,e,?_,iM,fZ⟩
     exact l2.aR c' oc _ (λz=>km S hn z) cq
   ·exact œ λi=>by
     show (w.aB.set j0 (.tb y))[i]?=w.aB[i]?;by_cases hi:i=j0
     ·subst hi;rw[Ó (Ã.mp U).1,U]
     ·rw[Ï (Ŀ hi)]
 obtain⟨V,rfl,S1,O,es⟩:=W1;have cells:∀z Z,cl.lookup z=some Z->∀v,J.heap.IsCell Z v->(oo X V.H J).IsCell Z v:=λz Z e v ⟨o,ho,hd⟩=>by
  have e2:=R.vj z Z e;refine⟨o,xF ho (Y.iU z Z e2) λq=>?_,hd⟩
  rcases Ò.mp (Y.ki _ q) with q|q
  ·exact Y.j3 z Z e2 q
  ·obtain⟨_,o2,dS,_⟩:=Y.ok.jh.mem q
   exact absurd (Î dS) (Nat.not_lt.mpr (Y.ok.sV z Z (v9 z) e2))
 have MY:f∉cw X.stack:=λq=>by
  obtain⟨_,o2,dS,_⟩:=I.stack.mem q;exact absurd (Î dS) (Nat.not_lt.mpr hf)
 have nl:N.length=vs.length:=by
  have e1:=aq.length;have e2:∀(cs:List Nat) (W:List D),mZ env cs=some W->W.length=cs.length:=λcs=>by
   induction cs with
   |nil=>intro W h;cases h;rfl
   |cons i r ih =>
    intro W h;unfold mZ at h;split at h
    ·cases h;rename_i e;simp[ih _ e]
    ·cases h
  rw[k5,<- e2 caps W j4,e1]
 have T:Ae X.prog X.w X.K X.mg (oo X V.H J) (kb+1) (λH=>H c'=some (.aR oc (.own c'))) f vs W (fb (W.map some)):=by
  refine⟨λH H' st q=>st _ _ _ q,_,⟨_,xF FV MX MY,rfl⟩,Binds.all λus hl=>?_,(XF (t:=λE=>tE X.K (fC X.mg E) fb) (vs:=vs) (oc:=oc) ⟨k2,k3,k1,k4⟩ (xF FV MX MY) nl (λz1 z2 Z M B=>Y.ok.inj z1 z2 Z (R.vj _ _ M) (R.vj _ _ B)) (λz hz=>R.all z (ĳ hz)) (λz Z e=>?_) (λi z v M B=>?_) iM fZ
   (λA outer s H E hr L=>mP _ _ f (.ref c') cl A outer s H E hr L)).imp λus H Q E h=>?_⟩
  ·have:us=[]:=List.eq_nil_of_length_eq_zero (by simpa using hl)
   subst this;exact DC _ _ _ _
  ·obtain⟨v,q⟩:=Y.cell z Z (R.vj z Z e)
   exact⟨v,cells z Z e v q⟩
  ·have hi:i<caps.length:=by
    have:=(Ã.mp M).1;rw[k5] at this;exact this
   obtain⟨j,hj⟩:∃j,caps[i]?=some j:=⟨caps[i],Ë hi⟩;have hm:(z,j)∈N.zip caps:=by
    refine ť (i:=i) ?_;rw[List.getElem?_zip_eq_some];exact⟨M,hj⟩
   obtain⟨⟨q1,q2⟩,q3⟩:=k6 _ hm;obtain⟨m,hn,hl⟩:=Y.loc;obtain⟨u,r,lk⟩:=hl j z v q1 (hvs i j v hj B) (.inr (.inl q2));refine⟨q3,?_⟩
   rcases lk with ⟨lk,_⟩ | ⟨_,Z,e1,e2⟩
   ·rw[show X.env.kindOf z=X.env.scope.names.lookup z from rfl,q2] at lk;cases lk
   ·obtain⟨c3,e3⟩:=R.all z (ĳ q3)
    have e4:=R.vj z c3 e3;rw[e1] at e4;cases e4;exact⟨Z,u,e3,cells z Z e3 _ e2,r⟩
  ·obtain⟨M,B,w',rfl,S',mf,hh⟩:=h
   refine⟨M,B,w',W.map some,rfl,S',⟨?_,λi d e=>?_⟩,hh⟩
   ·rw[Í,Í];exact mf.length
   ·rw[ç] at e
    cases q:W[i]? with
    |none=>rw[q] at e;cases e
    |some d' =>
     rw[q] at e;cases e;obtain⟨v,e1,e2⟩:=mf.get' i d q;exact⟨v,by rw[ç,e1];rfl,e2⟩
 have hq:=(h.from O).ne;rw[<- es,<- aaN (.cG f vs W)] at hq;refine wpAny_call (Ů ((F T G).run X.A X.stack J V.H ⟨[.ref f],[]⟩ [.ref f] [.ref f] Q (λ_ _ _=>False) (hr.mono hk) Y.Zs (G.b J [.ref f] Y.jq ?_) (.cons rfl .nil) ⟨iF,V,rfl,S1,⟨.ref f,[],rfl,⟨rfl,O.all aq⟩,rfl⟩,hq⟩) λr s' l=>?_)
 ·have:=(F T G).len [.ref f] V.H Q (λ_ _ _=>False) ⟨iF,V,rfl,S1,⟨.ref f,[],rfl,⟨rfl,O.all aq⟩,rfl⟩,hq⟩
  simpa using this
 ·cases r with
  |error e=>exact l.elim
  |ok fl =>
   cases fl with
   |ret u=>exact Y.after l
   |next=>exact Į l
   |brk=>exact Į l
   |cont=>exact Į l
end
end DI
namespace L2
open PySem PySem.Spec PyProof.Rows PySem.W
end L2
namespace DI
open PySem L2 PySem.W
def FW (K:ę) (mg:Str->Option Ç) (x:Str):Prop:=∃f,nsIn K Ö x=some (some (.ref f))/\mg x=some (.ref f)
def Zz {K:ę} {mg:Str->Option Ç} {x:Str} {st:acx} {ps:List Str} {f:Ù} {fd:Ī} (h:FW K mg x) (G:Gd K mg x st ps f fd):nsIn K Ö x=some (some (.ref f)):=by
 obtain⟨X,Z,Y⟩:=h;have e:=G.mg;rw[Y] at e;cases e;exact Z
end DI
namespace L2
open PySem PySem.Spec PyProof.Rows PySem.W
def Se {Pr:ä} {w:ù} {K:ę} {mg mb:Str->Option Ç} {CX:js} {k:Nat} {fa a c P c' P':Ù} {fd:Ī} {x:Str} {sp:Sp} {bg:Ä} {vs:List Ç} {ns:List Int}
  (KX:K.In bg.heap) (oI:bg.heap.Ns Ö mg) (hb:bg.heap.Ns builtinsNs mb) (hbb:∀x:Str,x≠"__name__"->mb x=ú x) (aaP:bg.heap.NoLimit) (hg:bg.gens=#[])
  (ha:bg.heap.get? a=some { cls:=.type "list",data:=.seq vs.toArray }) (hi:abG vs ns) (hl:ns.length<=Ø) (hr:bB k callerA)
  (CT:CodeHd bg.heap c P) (hP:bg.heap.get? P=some (tabObj #[])) (FX:K.lookup P=none) (Ah:bg.heap.BuiltinsAt mg P)
  (Ai:CodeHd bg.heap c' P') (oX:bg.heap.get? P'=some (tabObj #[])) (ED:K.lookup P'=none) (aaQ:bg.heap.BuiltinsAt mg P')
  (F:∀base:Ĳ,K.In base->base.Ns Ö mg->base.BuiltinsAt mg P->base.BuiltinsAt mg P'->dB Pr w K mg base CX k fa fd [x] sp) (DC:∀(s:Ä) (u:Ç),BindsTo s fd ⟨[u],[]⟩ [(x,u)])
  (l7:∀H:Hp,H P=some (.cN #[])->H P'=some (.cN #[])->bC K H a (ns.map V.int)->sp [.ref a] H (λv _=>v=.bl true) λ_ _ _=>False)
  (FY:∀H e s',CX [] H bg (λ_ _ _=>False) e s'->False) :
  η (â Pr w) callerA (.call (.ref fa) ⟨[.ref a],[]⟩) (λr s'=>r=.ok (.ret (.bool true))/\OldK bg.heap s'.heap/\s'.os=bg.os/\acy s'.gens) bg:=by
 have D:=Ii hi;have J:=hi.length;have g:a≠P:=λz=>by rw[z,hP] at ha;cases ha
 have f:a≠P':=λz=>by rw[z,oX] at ha;cases ha
 have core:∀H:Hp,H P=some (.cN #[])->H P'=some (.cN #[])->(∀b,H b=none\/(b=P\/b=P')\/(b=a/\∃o U,H b=some (.aR o (.lst U))))->bC K H a (ns.map V.int)->cf Pr w H bg.heap->(H a≠none->K.lookup a=none) ->
   η (â Pr w) callerA (.call (.ref fa) ⟨[.ref a],[]⟩) (λr s'=>r=.ok (.ret (.bool true))/\OldK bg.heap s'.heap/\s'.os=bg.os/\acy s'.gens) bg:=by
  intro H C B I hS A hK;have tabs:∀b,b=P\/b=P'->bg.heap.get? b=some (tabObj #[])/\K.lookup b=none/\H b=some (.cN #[]):=λb hb=>by
   rcases hb with rfl|rfl
   ·exact⟨hP,FX,C⟩
   ·exact⟨oX,ED,B⟩
  have free:∀{b:Ù} {o:Obj},bg.heap.get? b=some o->o≠tabObj #[]->o≠{ cls:=.type "list",data:=.seq vs.toArray }->H b=none:=λ{b o} e n1 n2=>by
   rcases I b with z|z | ⟨z,_⟩
   ·exact z
   ·rw[(tabs b z).1] at e;exact absurd (acH e).symm n1
   ·rw[z,ha] at e;exact absurd (acH e).symm n2
  have N:∀{b:Ù} {m:Str->Option Ç},bg.heap.Ns b m->(m9 bg.heap H).Ns b m:=λ{b m} ⟨o,es,ep,e,d,r⟩=>⟨o,es,ep,Bh e (free e (λz=>by rw[z] at d;cases d) λz=>by rw[z] at d;cases d),d,r⟩;have y:K.In (m9 bg.heap H):=λb o e=>Bh (KX b o e) (by
   rcases I b with z|z | ⟨z,t,U,M⟩
   ·exact z
   ·rw[(tabs b z).2.1] at e;cases e
   ·subst z;rw[hK (by rw[M];intro z;cases z)] at e;cases e)
  have hM:Mod K mg (m9 bg.heap H):=⟨y,N oI,⟨mb,N hb,hbb⟩,let ⟨mc,Z,Y⟩:=aaP;⟨mc,N Z,Y⟩⟩
  have p:∀{T:Ù},bg.heap.BuiltinsAt mg T->(m9 bg.heap H).BuiltinsAt mg T:=λ{T} h=>let ⟨bm,o,b1,b2,b3,b4,l,G,r⟩:=h;⟨bm,o,b1,b2,b3,b4,Bh l (free l (λz=>by rw[z] at G;cases G) λz=>by rw[z] at r;cases r.2),G,r⟩
  have e0:sk Pr w K mg (m9 bg.heap H) callerA [] bg H:=⟨rfl,hM,λb o e=>UY e,Nat.le_of_eq (Rx _ _),trivial,λb hb=>absurd (show b∈([]:List Ù) from hb) (by simp),A,.of_eq hg⟩;refine Ů ((F _ y (N oI) (p Ah) (p aaQ)).run callerA [] bg H ⟨[.ref a],[]⟩ [.ref a] [.ref a] _ _ hr e0 (DC bg (.ref a)) (.cons rfl .nil) (l7 H C B hS)) λr s' h=>?_
  cases r with
  |error e=>exact(FY H e s' h).elim
  |ok fl =>
   cases fl with
   |next=>exact Į h
   |brk=>exact Į h
   |cont=>exact Į h
   |ret u =>
    obtain⟨v,H',os,bare,un,j,r',q⟩:=h;have q':v=.bl true:=q;subst q';obtain rfl:u=Ņ true:=r';have keep:∀b o,bg.heap.get? b=some o->¬ (b=P\/b=P')->s'.heap.get? b=some o:=λb o e n=>by
     rcases I b with z|z | ⟨z,t,U,M⟩
     ·exact un.keep b o e z (by intro z;exact absurd (show b∈([]:List Ù) from z) (by simp)) (by simp)
     ·exact absurd z n
     ·obtain⟨e1,_⟩:=A b _ M
      obtain⟨e2,_⟩:=j b _ (un.eY b t _ M);rw[e] at e1;cases e1;exact e2
    have i:∀b,b=P\/b=P'->∃more,s'.heap.get? b=some (tabObj (#[]++more)):=λb hb=>by
     obtain⟨more,X⟩:=un.fO b _ (tabs b hb).2.2;exact⟨more,j b _ X⟩
    have isT:∀b,b=P\/b=P'->bg.heap.get? b=some (tabObj #[])->_:=λb hb L=>hb.elim (λz=>by subst z;exact(CT.tab L).isCodeTable) λz=>by subst z;exact(Ai.tab L).isCodeTable
    refine⟨rfl,⟨λb o e=>?_,λb o e=>?_⟩,os,bare⟩
    ·by_cases hb:b=P\/b=P'
     ·obtain⟨more,X⟩:=i b hb
      have L:=(tabs b hb).1;rw[L] at e;cases e
      rcases hb with z|z
      ·subst z;exact .inr (.inl ⟨(CT.tab hP).isCodeTable,rfl,#[],more,rfl,X⟩)
      ·subst z;exact .inr (.inl ⟨(Ai.tab oX).isCodeTable,rfl,#[],more,rfl,X⟩)
     ·exact .inl (keep b o e hb)
    ·by_cases hb:b=P\/b=P'
     ·obtain⟨more,X⟩:=i b hb
      exact⟨_,X⟩
     ·exact⟨o,keep b o e hb⟩
 have mk:∀(u:Option HO),(u=none\/∃o U,u=some (.aR o (.lst U)))->∃H:Hp,H P=some (.cN #[])/\H P'=some (.cN #[])/\(∀b,b≠P->b≠P'->b≠a->H b=none)/\H a=u:=λu _=>by
  refine⟨λb=>if b=P\/b=P' then some (.cN #[]) else if b=a then u else none,ã (.inl rfl),ã (.inr rfl),λb Z Y S=>?_,?_⟩
  ·show (if _ then _ else _)=_
   rw[í (by rintro (z|z)<;>contradiction),í S]
  ·show (if _ then _ else _)=_
   rw[í (by rintro (z|z)<;>contradiction),ã rfl]
 cases E:K.lookup a with
 |some o =>
  have e:=KX a o E;rw[ha] at e;cases e;obtain⟨H,Z,Y,S,W⟩:=mk none (.inl rfl);have all:∀b,H b=none\/(b=P\/b=P'):=λb=>by
   by_cases R:b=P
   ·exact .inr (.inl R)
   ·by_cases Q:b=P'
    ·exact .inr (.inr Q)
    ·by_cases O:b=a
     ·subst O;exact .inl W
     ·exact .inl (S b R Q O)
  refine core H Z Y (λb=>(all b).elim .inl λz=>.inr (.inl z)) (.inr ⟨_,vs.toArray,_,E,rfl,rfl,rfl,by rw[Ú,J];exact hl,by simpa using D⟩) (λb u z=>?_) (λz=>absurd W z)
  rcases all b with q|q
  ·rw[q] at z;cases z
  ·rcases q with rfl|rfl
   ·rw[Z] at z;cases z;exact hP
   ·rw[Y] at z;cases z;exact oX
 |none =>
  obtain⟨H,Z,Y,S,W⟩:=mk (some (.aR { cls:=.type "list",data:=.seq vs.toArray } (.lst (ns.map V.int)))) (.inr ⟨_,_,rfl⟩);have all:∀b,H b=none\/(b=P\/b=P')\/b=a:=λb=>by
   by_cases R:b=P
   ·exact .inr (.inl (.inl R))
   ·by_cases Q:b=P'
    ·exact .inr (.inl (.inr Q))
    ·by_cases O:b=a
     ·exact .inr (.inr O)
     ·exact .inl (S b R Q O)
  refine core H Z Y (λb=>?_) (.inl (.inr ⟨_,W⟩)) (λb u z=>?_) (λ_=>E)
  ·rcases all b with q|q|q
   ·exact .inl q
   ·exact .inr (.inl q)
   ·subst q;exact .inr (.inr ⟨rfl,_,_,W⟩)
  ·rcases all b with q | (rfl|rfl)|rfl
   ·rw[q] at z;cases z
   ·rw[Z] at z;cases z;exact hP
   ·rw[Y] at z;cases z;exact oX
   ·rw[W] at z;cases z
    exact⟨ha,by rw[Í];exact hl,vs,_,D,ha⟩
def XT {l:OpenLaw} {n k:Nat} {q:ä} {loose:List Str} {XP:(Str->Option Ç)->Ĳ->Prop} {YP:ù->Ĳ->Prop} {d dy dz:DefRec} {K:Params->ę} {CX:ù->js} {sp:ù->Ù->Ù->Sp} {x:Str} (y z:Str)
  (hn:l.most=some n) (hn2:n<=Ø) (wu:d.params.defaults=[]) (hr:bB k callerA)
  (hY:∀(w:ù) (h:Ĳ),YP w h->(K w.params).In h) (hd:(recsOf q).find? (λe=>e.name==y)=some dy) (fc:(recsOf q).find? (λe=>e.name==z)=some dz)
  (F:∀(w:ù) (mg:Str->Option Ç) (fa:Ù) (h:Ĳ),(K w.params).In h->h.Ns Ö mg->mg d.name=some (.ref fa) ->
   ∃(c P c' P':Ù) (fd:Ī),(tabIn (K w.params) y=some (c,P)/\(K w.params).lookup P=none)/\(tabIn (K w.params) z=some (c',P')/\(K w.params).lookup P'=none)/\(∀(s:Ä) (u:Ç),BindsTo s fd ⟨[u],[]⟩ [(x,u)]) /\
    ∀base:Ĳ,(K w.params).In base->base.Ns Ö mg->base.BuiltinsAt mg P->base.BuiltinsAt mg P'->dB l.prog w (K w.params) mg base (CX w) k fa fd [x] (sp w P P'))
  (l7:∀(w:ù) (P P':Ù) (H:Hp) (a:Ù) (ns:List Int),ns.length<=n->H P=some (.cN #[])->H P'=some (.cN #[])->bC (K w.params) H a (ns.map V.int)->sp w P P' [.ref a] H (λv _=>v=.bl true) λ_ _ _=>False)
  (FY:∀(w:ù) (H:Hp) (s:Ä) (e:Ç) (s':Ä),CX w [] H s (λ_ _ _=>False) e s'->False) :
  WalkO q loose XP YP l.row.toRowW d [] (λf vs=>PySem.call f vs):=by
 refine Nu.P0 hn wu λw cQ U mg mb fa o pm cd doc a vs ns G Y ho oQ fy I E hints Z D=>?_;have W:=hY w _ Y;obtain⟨c,P,c',P',fd,⟨C,B⟩,⟨A,t⟩,r,p⟩:=F w mg fa _ W G.T.g I;have S:dy.name=y:=by simpa using List.find?_some hd
 have R:dz.name=z:=by simpa using List.find?_some fc
 subst S R;obtain⟨m,N⟩:=tab_of G.T W hd C;obtain⟨j,M⟩:=tab_of G.T W fc A;have L:∀{T:Ù},U.heap.get? T=some (tabObj #[])->U.heap.BuiltinsAt mg T:=λ{T} i=>by
  obtain⟨bm,ob,b1,b2,X,J,b5,Q⟩:=G.T.bmain;refine⟨bm,ob,b1,b2,λz=>?_,λz=>?_,X,J,b5,Q⟩
  ·obtain⟨o,es,ep,e,hd,_⟩:=G.T.g
   rw[z,e] at X;cases X;rw[hd] at Q;cases Q
  ·rw[z,i] at X;cases X;cases J
 exact Se W G.T.g G.T.b G.T.builtins G.T.nolimit D E hints (Þ Z hn2) hr m N B (L N) j M t (L M) p r (λH hO O hS=>l7 w P P' H a ns Z hO O hS) λH e s'=>FY w H U e s'
end L2
namespace DI.cT
open PySem L2 DI
noncomputable section
noncomputable def bF:List Str:=["NoMould","NoDay","NoSheet","NoBook","NoSheets","NoRun","NoLaying"]
def xO:List D->af->Res D:=aF 1 3 (ao (aN (ba (aa (az uu (aa (ae 0) (aa (eC (.int 8)) ah))) (aa (az uu (aa (ae 0) (aa (eC (.int 8)) ah))) ah))) (gT [(gN 1),(gN 2)])) (aL (ba (aa (ae 1) (aa (eB gJ (aa (cj 1 [1] (ck (ae 2)) (gN 0) (aQ (e2 gF (ae 0) (ae 1))) (ae 0)) ah)) ah)))))
def Js:List D->af->Res D:=aF 1 2 (ao (aN (bH (aa (e1 (dR bF (isNm "NoMarks")) (ae 0)) (aa (e1 (dR bF (isNm "NoSheet")) (ae 0)) (aa (e1 (dR bF (isNm "NoPage")) (ae 0)) ah)))) (gN 1)) (ao (aN (e2 cP (ae 1) (bH (aa (e1 (dR bF (isNm "NoBook")) (ae 0)) (aa (e1 (dR bF (isNm "NoMould")) (ae 0)) (aa (e1 (dR bF (isNm "NoDay")) (ae 0)) ah))))) (gN 1)) (ao (aN (e2 cP (ae 1) (bH (aa (e1 (dR bF (isNm "NoSort")) (ae 0)) (aa (e1 (dR bF (isNm "NoNumber")) (ae 0)) (aa (e1 (dR bF (isNm "NoSheets")) (ae 0)) ah))))) (gN 1)) (ao (aN (e2 cP (ae 1) (bH (aa (e1 (dR bF (isNm "NoRun")) (ae 0)) (aa (e1 (dR bF (isNm "NoLaying")) (ae 0)) (aa (e1 (dR bF (isNm "NoHeap")) (ae 0)) ah))))) (gN 1)) (ao (aN (e2 cP (ae 1) (bH (aa (e1 (dR bF (isNm "NoCount")) (ae 0)) (aa (e1 (dR bF (isNm "Clash")) (ae 0)) (aa (e1 (dR bF (isNm "NoDeed")) (ae 0)) ah))))) (gN 1)) (ao (aN (e2 cP (ae 1) (bH (aa (e1 (dR bF (isNm "NoText")) (ae 0)) (aa (e1 (dR bF (isNm "NoRow")) (ae 0)) ah)))) (gN 1)) (aL (e2 cP (ae 1) (bH (aa (e1 (dR bF (isNm "TooMany")) (ae 0)) (aa (e1 (dR bF (isNm "Lacking")) (ae 0)) ah)))))))))))
def kc:List D->af->Res D:=aF 1 1 (aZ (dJ (dj (az ph (aa (ae 0) ah)))) (mJ "NoBook" (aa (eC (.str "a book is laid pages without faults")) ah)) bq)
def xr:List D->af->Res D:=aF 1 1 (aZ (dJ (dj (az nP (aa (ae 0) ah)))) (mJ "NoSheet" (aa (eC (.str "a sheet is a tuple of two marks, no mark in both")) ah)) bq)
def AO:List D->af->Res D:=aF 2 2 (ao (bh (bt kc (aa (ae 0) ah))) (ao (bh (bt xr (aa (ae 1) ah))) gg))
def lq:List D->af->Res D:=aF 1 1 (aZ (dJ (dj (az nQ (aa (ae 0) ah)))) (mJ "NoMould" (aa (eC (.str "a mould is a whole number from 0 to 3")) ah)) bq)
def tX:List D->af->Res D:=aF 1 1 (aL (dZ (eB gr (aa (ae 0) (aa (eC (.ty "tuple")) ah))) (dZ (qD ng ng (eC (.int 1)) (eB cy (aa (ae 0) ah)) (eC (.int (3)))) (eB jV (aa (cj 1 [] (ck (ae 0)) (gN 0) eR (az nP (aa (ae 0) ah))) ah)))))
def qX:List D->af->Res D:=aF 3 3 (ao (bh (bt kc (aa (ae 0) ah))) (ao (bh (bt lq (aa (ae 1) ah))) (aZ (dJ (dj (az tX (aa (ae 2) ah)))) (mJ "NoSheets" (aa (eC (.str "sheets are a tuple of one to three sheets")) ah)) bq)))
def Hw:List D->af->Res D:=aF 4 5 (ao (bh (bt qX (aa (ae 0) (aa (ae 1) (aa (ae 2) ah))))) gg)
def mz:List D->af->Res D:=aF 1 1 (aZ (dJ (dj (az qT (aa (ae 0) (aa (eC (.int (10))) ah))))) (mJ "NoRun" (aa (eC (.str "a run is a tuple of one to ten marks")) ah)) bq)
def A8:List D->af->Res D:=aF 2 2 (ao (aZ (i7 (dJ (dj (eB gr (aa (ae 1) (aa (eC (.ty "tuple")) ah))))) (aQ (e2 i6 (eB cy (aa (ae 1) ah)) (eB cy (aa (ae 0) ah))))) (aL (eC (.bl false))) bq) (aL (dZ (eB jV (aa (cj 1 [] (ck (ae 1)) (gN 0) eR (az pd (aa (ae 0) (aa (eC (.int (2))) ah)))) ah)) (dZ (e2 cb (e2 aA (ae 1) (eC (.int 0))) (eC (.int 0))) (eB jV (aa (cj 1 [0,1] (cJ (aa (eB cy (aa (ae 0) ah)) ah)) (gN 0) eR (az A3 (aa (ae 1) (aa (qG (ae 2) qF (qk (ae 0))) (aa (e2 aA (ae 2) (ae 0)) ah))))) ah))))))
def tY:List D->af->Res D:=aF 2 2 (ao (bh (bt mz (aa (ae 0) ah))) (ao (aZ (dJ (dj (az A8 (aa (ae 0) (aa (ae 1) ah))))) (mJ "NoLaying" (aa (eC (.str "a laying tells of each sheet of the run the mould, 0 or 1, by which it can be")) ah)) bq) gg))
def Ay:List D->af->Res D:=aF 1 1 (ao (bh (bt mz (aa (ae 0) ah))) gg)
def HR:List D->af->Res D:=aF 1 4 (ao (bh (bt mz (aa (ae 0) ah))) gg)
def qZ:List D->af->Res D:=aF 1 1 (aZ (dJ (dj (az nS (aa (ae 0) ah)))) (mJ "NoDay" (aa (eC (.str "a day is a whole number from 0 to 30")) ah)) bq)
def xK:List D->af->Res D:=aF 3 3 (ao (bh (bt kc (aa (ae 0) ah))) (ao (bh (bt lq (aa (ae 1) ah))) (ao (bh (bt qZ (aa (ae 2) ah))) gg)))
def BB:List D->af->Res D:=aF 4 4 (ao (bh (bt kc (aa (ae 0) ah))) (ao (bh (bt lq (aa (ae 1) ah))) (ao (bh (bt qZ (aa (ae 2) ah))) (ao (bh (bt xr (aa (ae 3) ah))) gg))))
def A9:List D->af->Res D:=aF 3 3 (ao (bh (bt kc (aa (ae 0) ah))) (ao (bh (bt lq (aa (ae 1) ah))) gg))
def AD:List D->af->Res D:=aF 2 2 (ao (bh (bt kc (aa (ae 0) ah))) (ao (bh (bt lq (aa (ae 1) ah))) gg))
def AQ:List D->af->Res D:=aF 2 2 (ao (bh (bt kc (aa (ae 0) ah))) (ao (bh (bt lq (aa (ae 1) ah))) gg))
def Hx:List D->af->Res D:=aF 2 2 (ao (bh (bt mz (aa (ae 0) ah))) gg)
def HS:List D->af->Res D:=aF 2 2 (ao (bh (bt mz (aa (ae 0) ah))) gg)
def ID:List D->af->Res D:=aF 3 4 (ao (bh (bt qX (aa (ae 0) (aa (ae 1) (aa (ae 2) ah))))) gg)
def Hy:List D->af->Res D:=aF 3 3 (ao (bh (bt qX (aa (ae 0) (aa (ae 1) (aa (ae 2) ah))))) gg)
def eU:List D->af->Res D:=aF 2 3 (ao (aZ (aQ (e2 eI (ae 0) (ba (aa (eC (.str "surely")) (aa (eC (.str "may")) ah))))) (aL (iL (aQ (e2 cb (ae 0) (eC (.str "surely")))) (bt xK (aa (e2 aA (ae 1) (eC (.int 0))) (aa (e2 aA (ae 1) (eC (.int 1))) (aa (e2 aA (ae 1) (eC (.int 2))) ah)))) (bt BB (aa (e2 aA (ae 1) (eC (.int 0))) (aa (e2 aA (ae 1) (eC (.int 1))) (aa (e2 aA (ae 1) (eC (.int 2))) (aa (e2 aA (ae 1) (eC (.int 3))) ah))))))) bq) (ao (aZ (aQ (e2 eI (ae 0) (ba (aa (eC (.str "least")) (aa (eC (.str "most")) (aa (eC (.str "life")) ah)))))) (ao (aZ (aQ (e2 cb (ae 0) (eC (.str "life")))) (aL (bt A9 (aa (e2 aA (ae 1) (eC (.int 0))) (aa (e2 aA (ae 1) (eC (.int 1))) (aa (eC .au) ah))))) bq) (aL (iL (aQ (e2 cb (ae 0) (eC (.str "least")))) (bt AD (aa (e2 aA (ae 1) (eC (.int 0))) (aa (e2 aA (ae 1) (eC (.int 1))) ah))) (bt AQ (aa (e2 aA (ae 1) (eC (.int 0))) (aa (e2 aA (ae 1) (eC (.int 1))) ah)))))) bq) (ao (aZ (aQ (e2 cb (ae 0) (eC (.str "places")))) (aL (bt AO (aa (e2 aA (ae 1) (eC (.int 0))) (aa (e2 aA (ae 1) (eC (.int 1))) ah)))) bq) (ao (aZ (aQ (e2 eI (ae 0) (ba (aa (eC (.str "days")) (aa (eC (.str "narrowest")) ah))))) (vq 2 (aQ (e2 cb (ae 0) (eC (.str "days")))) ID Hy (aa (e2 aA (ae 1) (eC (.int 0))) (aa (e2 aA (ae 1) (eC (.int 1))) (aa (e2 aA (ae 1) (eC (.int 2))) ah)))) bq) (ao (aZ (aQ (e2 cb (ae 0) (eC (.str "dating")))) (aL (bt Hw (aa (e2 aA (ae 1) (eC (.int 0))) (aa (e2 aA (ae 1) (eC (.int 1))) (aa (e2 aA (ae 1) (eC (.int 2))) (aa (eC .au) ah)))))) bq) (ao (aZ (aQ (e2 eI (ae 0) (ba (aa (eC (.str "laying")) (aa (eC (.str "paper")) ah))))) (aL (iL (aQ (e2 cb (ae 0) (eC (.str "laying")))) (bt Hx (aa (e2 aA (ae 1) (eC (.int 0))) (aa (eC .au) ah))) (bt HS (aa (e2 aA (ae 1) (eC (.int 0))) (aa (eC .au) ah))))) bq) (ao (aZ (aQ (e2 cb (ae 0) (eC (.str "breaks")))) (aL (bt tY (aa (e2 aA (ae 1) (eC (.int 0))) (aa (eC .au) ah)))) bq) (aL (iL (aQ (e2 cb (ae 0) (eC (.str "best")))) (bt Ay (aa (e2 aA (ae 1) (eC (.int 0))) ah)) (bt HR (aa (e2 aA (ae 1) (eC (.int 0))) ah)))))))))))
def dw (cl:D) (th:af->Res D):List D->af->Res D:=aF 1 5 (ao (aN (eC .au) (gN 1)) (ao (lS bF (qN cl th 0) 2 (aN (ae 2) (gN 1))) (ao (aN (az Js (aa (ae 1) ah)) (gN 3)) (ao (aZ (i7 (dJ (dj (e1 (dR bF anyS) (ae 1)))) (aQ (e2 i6 (e1 EA (ae 3)) (eC (.int 1))))) (aL (eC (.str "none"))) bq) (ao (aN (eC (.lst [.str "marks",.str "sheet",.str "page",.str "book",.str "mould",.str "day",.str "sort",.str "number",.str "sheets",.str "run",.str "laying",.str "heap"])) (gN 4)) (aL (e2 aA (e2 cP (ae 4) (eC (.lst [.str "count",.str "clash",.str "deed",.str "text",.str "row",.str "many",.str "lacking"]))) (e1 FQ (ae 3)))))))))
def yv:List D->af->Res D:=aF 1 2 (ao (aN (bH (aa (eC .au) (aa (eC (.bl true)) (aa (eC (.bl false)) (aa (e1 Dr (eC (.int 1))) (aa (eC (.int 8)) (aa (eC (.int 31)) (aa (eC (.int 4)) (aa (eC (.str "")) (aa (eC (.str "0")) (aa (eC (.str "made")) (aa (ba ah) (aa (bH ah) (aa (eC (.bA [])) (aa (ba (aa (eC (.int 0)) ah)) (aa (bH (aa (eC (.int 0)) ah)) (aa (e2 rT (eC (.int 10)) (eC (.int 29))) (aa (e1 Dr (e2 rT (eC (.int 10)) (eC (.int 20)))) (aa (ba (aa (eC (.int 8)) ah)) ah))))))))))))))))))) (gN 1)) (ao (aN (e2 cP (ae 1) (bH (aa (ba (aa (eC (.str "made")) ah)) (aa (ba (aa (eC (.int 0)) (aa (eC (.int 0)) ah))) (aa (ba (aa (ba (aa (eC (.int 0)) ah)) (aa (ba (aa (eC (.int 0)) ah)) ah))) (aa (eC (.bA [(Ă "made",0)])) (aa (ba (aa (ba ah) (aa (ba ah) ah))) (aa (ba (aa (ba (aa (eC (.bl true)) ah)) (aa (ba ah) ah))) (aa (ba (aa (ba (aa (eC (.int 1)) (aa (eC (.int 0)) ah))) (aa (ba ah) ah))) (aa (eC (.str "made 0 0 -/-")) ah)))))))))) (gN 1)) (aL (e2 aA (ae 1) (az bT (aa (ae 0) (aa (eC (.int 26)) ah)))))))
def yw:List D->af->Res D:=aF 3 8 (ao (ql 3 4 (aa (az bT (aa (ae 0) (aa (eC (.int 5)) ah))) (aa (az yv (aa (ae 0) ah)) ah))) (ao (aZ (aQ (e2 cb (ae 1) (eC (.str "book")))) (ao (aN (eC (.tup [.tup [.str "made",.int 0,.int 3,.tup [.tup [.int 1],.tup []]],.tup [.str "made",.int 0,.int 4,.tup [.tup [],.tup [.int 1]]]])) (gN 5)) (ao (aN (bH (aa (eB yR (aa (ae 2) ah)) (aa (ae 5) (aa (eC (.tup [.tup [.str "made",.int 0,.int 3,.tup [.tup [.int 1],.tup []]],.tup [.str "mended",.int 0,.int 3,.int 1]])) (aa (eC (.tup [.tup [.str "mended",.int 0,.int 31,.int 1]])) ah))))) (gN 6)) (aL (e2 aA (e2 cP (ae 6) (bH (aa (iL (aQ (e2 qe (ae 4) (eC (.tup [])))) (ae 4) (eC .au)) ah))) (ae 3))))) bq) (ao (aZ (aQ (e2 cb (ae 1) (eC (.str "sheet")))) (aL (e2 aA (eC (.lst [.tup [.tup [.int 1],.tup [.int 1]],.tup [.tup [.int 8],.tup []],.lst [.tup [],.tup []],.tup [.tup []],.tup [.tup [.int 2,.int 1],.tup []]])) (ae 3))) bq) (ao (aZ (aQ (e2 cb (ae 1) (eC (.str "sheets")))) (aL (e2 aA (bH (aa (eC (.tup [])) (aa (e2 fq (eC (.tup [.tup [.tup [],.tup []]])) (eC (.int 4))) (aa (eC (.lst [.tup [.tup [],.tup []]])) (aa (eC (.tup [.tup [.tup [.int 1],.tup [.int 1]]])) (aa (eC (.tup [.tup [],.tup []])) ah)))))) (ae 3))) bq) (ao (aZ (aQ (e2 cb (ae 1) (eC (.str "run")))) (aL (e2 aA (bH (aa (eC (.tup [])) (aa (e2 fq (eC (.tup [.tup []])) (eC (.int 11))) (aa (eC (.lst [.tup []])) (aa (eC (.tup [.tup [.int 1,.int 0]])) (aa (eC (.tup [.tup [.int 8]])) ah)))))) (ae 3))) bq) (ao (aN (vp "mould" "day" (eC (.lst [.int 4,.int (-1),.bl true,.au,.str "0"])) (eC (.lst [.int 31,.int (-1),.bl false,.au,.tup [.int 0]]))) (gN 7)) (aL (e2 aA (e2 qd (ae 7) (ae 1)) (ae 3)))))))))
def Ba:acC Fl:=(oB (az yw (aa (ae 0) (aa (e2 aA (ae 2) (ae 7)) (aa (e2 aA (ae 3) (eC (.int 0))) ah)))) (ae 6) (ae 7))
def Bb:acC Fl:=(ao (aN (eB CP (aa (ae 3) ah)) (gN 6)) (ao (dQ (ck (e1 mE (bH (aa (ae 4) (aa (ae 5) ah))))) (gN 7) Ba) (ao (ql 8 9 (aa (eB rK (aa (ae 6) ah)) (aa (e2 aA (ae 2) (eB qa (aa (ae 4) (aa (ae 5) ah)))) ah))) (aZ (i7 (aQ (e2 i6 (qf 0  acI [1,6] (bt eU (aa (ae 0) (aa (ae 1) ah))) dw) (ae 9))) (aQ (e2 i6 (eB rK (aa (ae 6) ah)) (ae 8)))) (aL (eC (.bl false))) bq))))
def IE:acC Fl:=(dQ (ck (bH (aa (ae 4) (aa (az bT (aa (ae 0) (aa (eB cy (aa (ae 2) ah)) ah))) ah)))) (gN 5) Bb)
def xP:List D->af->Res D:=aF 4 10 (ao (dQ (cJ (aa (eB cy (aa (ae 2) ah)) ah)) (gN 4) IE) (aL (eC (.bl true))))
def Lg:acC Fl:=(bh (gp (ae 9) (ba (aa (ae 10) (aa (bH (aa (eC (.str "book")) (aa (eC (.str "mould")) ah))) (aa (bH (aa (ae 3) (aa (ae 5) ah))) ah))))))
def Lh:acC Fl:=(bh (gp (ae 9) (ba (aa (ae 10) (aa (bH (aa (eC (.str "book")) (aa (eC (.str "mould")) (aa (eC (.str "sheets")) ah)))) (aa (bH (aa (ae 3) (aa (ae 5) (aa (ae 7) ah)))) ah))))))
def Li:acC Fl:=(bh (gp (ae 9) (ba (aa (ae 10) (aa (bH (aa (eC (.str "run")) ah)) (aa (bH (aa (ae 8) ah)) ah))))))
def CU:acC Fl:=(aZ (dJ (dj (az xP (aa (ae 2) (aa (ae 10) (aa (ae 11) (aa (ae 12) ah))))))) (aL (eC (.bl false))) bq)
def CV (W:ù):acC Fl:=(ao (aN (az xI (aa (ae 0) (aa (ae 1) ah))) (gN 2)) (ao (ql 3 4 (aa (az (ya W) (aa (ae 2) ah)) (aa (az xO (aa (ae 2) ah)) ah))) (ao (ql 5 6 (aa (az bT (aa (ae 2) (aa (eC (.int 4)) ah))) (aa (az bT (aa (ae 2) (aa (eC (.int 31)) ah))) ah))) (ao (aN (ba (aa (e2 fq (ba (aa (ae 4) ah)) (e2 cP (eC (.int 1)) (az bT (aa (ae 2) (aa (eC (.int 3)) ah))))) (aa (e2 fq (ba (aa (e2 aA (ae 4) (eC (.int 0))) ah)) (e2 cP (eC (.int 1)) (az bT (aa (ae 2) (aa (eC (.int 10)) ah))))) ah))) (gT [(gN 7),(gN 8)])) (ao (aN (eNew (aa (ba (aa (eC (.str "surely")) (aa (bH (aa (eC (.str "book")) (aa (eC (.str "mould")) (aa (eC (.str "day")) ah)))) (aa (bH (aa (ae 3) (aa (ae 5) (aa (ae 6) ah)))) ah)))) ah)) (gN 9)) (ao (bh (gp (ae 9) (ba (aa (eC (.str "may")) (aa (bH (aa (eC (.str "book")) (aa (eC (.str "mould")) (aa (eC (.str "day")) (aa (eC (.str "sheet")) ah))))) (aa (bH (aa (ae 3) (aa (ae 5) (aa (ae 6) (aa (ae 4) ah))))) ah)))))) (ao (dQ (ck (bH (aa (eC (.str "least")) (aa (eC (.str "most")) (aa (eC (.str "life")) ah))))) (gN 10) Lg) (ao (bh (gp (ae 9) (ba (aa (eC (.str "places")) (aa (bH (aa (eC (.str "book")) (aa (eC (.str "sheet")) ah))) (aa (bH (aa (ae 3) (aa (ae 4) ah))) ah)))))) (ao (dQ (ck (bH (aa (eC (.str "days")) (aa (eC (.str "narrowest")) (aa (eC (.str "dating")) ah))))) (gN 10) Lh) (ao (dQ (ck (bH (aa (eC (.str "laying")) (aa (eC (.str "paper")) (aa (eC (.str "best")) (aa (eC (.str "told")) (aa (eC (.str "breaks")) ah))))))) (gN 10) Li) (ao (dQ (ck (oz (ae 9))) (gT [(gN 10),(gN 11),(gN 12)]) CU) (aZ (aQ (e2 i6 (qf 1 "law" [8] (bt tY (aa (ae 0) (aa (e2 fq (ba (aa (eC (.int 1)) ah)) (eB cy (aa (ae 0) ah))) ah))) dw) (eC (.str "laying")))) (aL (eC (.bl false))) bq))))))))))))
def yV (W:ù):List D->af->Res D:=aF 1 13 (ao (dQ (cJ (aa (eB p9 (aa (eC (.int 1)) (aa (eB qa (aa (eB cy (aa (ae 0) ah)) (aa (eC (.int 3)) ah))) ah))) ah)) (gN 1) (CV W)) (aL (eC (.bl true))))
end
end DI.cT
namespace DI
open PySem L2
def Wp {α:Type} (r:Res α) (Q:α->af->Prop):Prop:=∃a s,r=some (.ok a,s)/\Q a s
section
variable {α β:Type} {r:Res α} {k:α->af->Res β} {Q Q':α->af->Prop} {R:β->af->Prop} {env:Env} {s:af}
theorem Wp.ok {a:α} (h:Q a s):Wp (DI.ok a s) Q:=⟨a,s,rfl,h⟩
def Wp.mono (h:Wp r Q) (i:∀a s,Q a s->Q' a s):Wp r Q':=by
 obtain⟨a,s,e,q⟩:=h;exact⟨a,s,e,i a s q⟩
theorem Wp.ak (h:Wp r λa s=>Wp (k a s) R):Wp (DI.ak r k) R:=by
 obtain⟨a,s,e,b,Z,Y,q⟩:=h;exact⟨b,Z,by rw[e];exact Y,q⟩
theorem Wp.ne (h:Wp r Q):Wp (DI.ne r) Q:=by
 obtain⟨a,s,e,q⟩:=h;exact⟨a,s,by rw[e];rfl,q⟩
def acD (e:r=some (.ok a,s)) (h:Q a s):Wp r Q:=⟨a,s,e,h⟩
def Wp.seq {f g:acC Fl} {Q:Fl->af->Prop} (h:Wp (f env s) λfl s=>match fl with
  | .nx env=>Wp (g env s) Q
  |fl=>Q fl s):Wp (ao f g env s) Q:=by
 obtain⟨fl,Z,e,h⟩:=h;unfold ao;rw[e]
 cases fl with
 |nx env=>exact h
 |rt d=>exact⟨_,_,rfl,h⟩
 |bk e=>exact⟨_,_,rfl,h⟩
 |ct e=>exact⟨_,_,rfl,h⟩
def Wp.lT {Q:Fl->af->Prop} (I:Nat->Env->af->Prop) (all:List D) (h0:I 0 env s)
 (step:∀i d env s,all[i]?=some d->I i env s->∃env',g d env=some env'/\Wp (b env' s) λfl s=>match fl with
   | .nx e=>I (i+1) e s
   | .ct e=>I (i+1) e s
   | .bk e=>Q (.nx e) s
   | .rt d=>Q (.rt d) s) (fin:∀env s,I all.length env s->Q (.nx env) s):Wp (iW g b all env s) Q:=by
 have key:∀(Z:List D) (i:Nat) (env:Env) (s:af),all.drop i=Z->i<=all.length->I i env s->Wp (iW g b Z env s) Q:=by
  intro Z
  induction Z with
  |nil =>
   intro i env s Y hi h;have e:i=all.length:=by
    have:=ň List.length Y;simp at this;omega
   subst e;exact Wp.ok (fin _ _ h)
  |cons d Z ih =>
   intro i env s Y hi h;have X:all[i]?=some d:=by
    have:=ň (λl=>l[0]?) Y;simpa using this
   have W:all.drop (i+1)=Z:=by
    have:=ň (List.drop 1) Y;simpa [List.drop_drop] using this
   obtain⟨env',U,T⟩:=step i d env s X h;have V:=(Ã.mp X).1;unfold iW;rw[U];refine Wp.ak (T.mono λfl s q=>?_)
   cases fl with
   |nx e=>exact ih (i+1) e s W V q
   |ct e=>exact ih (i+1) e s W V q
   |bk e=>exact Wp.ok q
   |rt d=>exact Wp.ok q
 exact key all 0 env s rfl (Đ _) h0
def Cd {nt:Nat} {t:acC Bool} {Q:List D->af->Prop} (I:Nat->List D->af->Prop) (all:List D) (h0:I 0 [] s)
 (step:∀i d acc s,all[i]?=some d->I i acc s->∃env,g d (Å nt none++caps)=some env/\Wp (t env s) λb s=>if b=true then Wp (f env s) λx s=>I (i+1) (acc++[x]) s else I (i+1) acc s)
 (fin:∀acc s,I all.length acc s->Q acc s):Wp (gI nt caps g t f all s) Q:=by
 have key:∀(Z:List D) (i:Nat) (acc:List D) (s:af),all.drop i=Z->i<=all.length->I i acc s->Wp (gI nt caps g t f Z s) λX s=>Q (acc++X) s:=by
  intro Z
  induction Z with
  |nil =>
   intro i acc s Y hi h;have e:i=all.length:=by
    have:=ň List.length Y;simp at this;omega
   subst e;exact Wp.ok (by rw[İ];exact fin _ _ h)
  |cons d Z ih =>
   intro i acc s Y hi h;have W:all[i]?=some d:=by
    have:=ň (λl=>l[0]?) Y;simpa using this
   have V:all.drop (i+1)=Z:=by
    have:=ň (List.drop 1) Y;simpa [List.drop_drop] using this
   obtain⟨U,S,R⟩:=step i d acc s W h;have T:=(Ã.mp W).1;unfold gI;rw[S];refine Wp.ak (Wp.ne (R.mono λb s q=>?_))
   cases b with
   |true =>
    rw[ã rfl] at q |-;refine Wp.ak (Wp.ne (q.mono λx s q=>?_));refine Wp.ak ((ih (i+1) (acc++[x]) s V T q).mono λX s q=>Wp.ok ?_);rw[į] at q;exact q
   |false =>
    rw[í Û] at q |-;exact ih (i+1) acc s V T q
 have:=key all 0 [] s rfl (Đ _) h0;simpa using this
end
section
variable {α β:Type} {Q:D->af->Prop} {QL:List D->af->Prop} {QB:Bool->af->Prop} {QF:Fl->af->Prop} {QO:Option Int->af->Prop} {env:Env} {s:af} {f g h:acC D} {fa:acC (List D)} {c c':acC Bool} {st dq:acC Fl} {o o':D->D->af->Res D} {u:D->af->Res D} {bf:List D->af->Res D}
def bw {a:α} {Q:α->af->Prop}:Wp (ok a s) Q=Q a s:=propext ⟨λ⟨b,Z,e,q⟩=>by cases e;exact q,λq=>⟨a,s,rfl,q⟩⟩
def yx {Q:α->af->Prop}:Wp (some (Except.ok a,s)) Q=Q a s:=bw
def bV {r:Res α} {k:α->af->Res β} {R:β->af->Prop}:Wp (ak r k) R=Wp r λa s=>Wp (k a s) R:=propext ⟨λ⟨b,Z,e,q⟩=>by
 obtain⟨a,s,e1,e2⟩:=rf e;exact⟨a,s,e1,b,Z,e2,q⟩,λh=>Wp.ak h⟩
def rZ {Q:α->af->Prop}:Wp (ne r) Q=Wp r Q:=propext ⟨λ⟨b,Z,e,q⟩=>⟨b,Z,Ca e,q⟩,λh=>h.ne⟩
def gG {a:D} {r:Env}:Wp (ae 0 (some a::r) s) Q=Q a s:=by rw[show ae 0 (some a::r) s=ok a s from rfl,bw]
def gH {i:Nat} {a:Option D} {r:Env}:Wp (ae (i+1) (a::r) s) Q=Wp (ae i r s) Q:=by rw[show ae (i+1) (a::r) s=ae i r s from rfl]
def iE:Wp (eC d env s) Q=Q d s:=by rw[show eC d env s=ok d s from rfl,bw]
def yW:Wp (e1 u f env s) Q=Wp (f env s) λx s=>Wp (u x s) Q:=by unfold e1;rw[bV]
def jP:Wp (e2 o f g env s) Q=Wp (f env s) λx s=>Wp (g env s) λy s=>Wp (o x y s) Q:=by unfold e2;simp only[bV]
def eV:Wp (ah env s) QL=QL [] s:=by unfold ah;rw[bw]
def fg:Wp (aa f fa env s) QL=Wp (f env s) λx s=>Wp (fa env s) λxs s=>QL (x::xs) s:=by unfold aa;simp only[bV,bw]
def m6:Wp (eB bf fa env s) Q=Wp (fa env s) λds s=>Wp (bf ds s) Q:=by unfold eB;rw[bV]
def wp_call:Wp (az fn fa env s) Q=Wp (fa env s) λds s=>Wp (fn ds s) Q:=by unfold az;simp only[bV,rZ]
def uw {Q:α->af->Prop}:Wp (iw ds r) Q=(ds.length<=Ø/\Wp r Q):=propext ⟨λ⟨b,Z,e,q⟩=>by
 unfold iw at e;split at e
 ·exact⟨by assumption,b,Z,e,q⟩
 ·(cases e),λ⟨Y,b,Z,e,q⟩=>⟨b,Z,by unfold iw;rw[ã Y];exact e,q⟩⟩
def pO:Wp (ba fa env s) Q=Wp (fa env s) λds s=>ds.length<=Ø/\Q (.tup ds) s:=by unfold ba;simp only[bV,uw,bw]
def rL:Wp (bH fa env s) Q=Wp (fa env s) λds s=>ds.length<=Ø/\Q (.lst ds) s:=by unfold bH;simp only[bV,uw,bw]
def rM:Wp (eNew fa env s) Q=Wp (fa env s) λds s=>ds.length<=Ø/\Q (.aj s.length) (s++[.lst ds]):=by unfold eNew;simp only[bV,uw,bw]
def yy:Wp (oz f env s) Q=Wp (f env s) λd s=>Wp (aR d s) Q:=by unfold oz;rw[bV]
def pP:Wp (aQ f env s) QB=Wp (f env s) λd s=>Wp (fW d s) QB:=by unfold aQ;rw[bV]
def nW {b:Bool}:Wp (fW (.bl b) s) QB=QB b s:=by rw[show fW (.bl b) s=ok b s from rfl,bw]
def uY:Wp (dj f env s) QB=Wp (f env s) λd s=>Wp (truth d s) QB:=by unfold dj;rw[bV]
def pF {b:Bool}:Wp (truth (.bl b) s) QB=QB b s:=by rw[show truth (.bl b) s=ok b s from rfl,bw]
def yc:Wp (kE c c' env s) QB=Wp (c env s) λb s=>if b=true then Wp (c' env s) QB else QB false s:=by
 unfold kE;rw[bV];congr 1;funext b s
 cases b<;>simp[bw]
def uZ:Wp (i7 c c' env s) QB=Wp (c env s) λb s=>if b=true then QB true s else Wp (c' env s) QB:=by
 unfold i7;rw[bV];congr 1;funext b s
 cases b<;>simp[bw]
def uG:Wp (dJ c env s) QB=Wp (c env s) λb s=>QB (!b) s:=by unfold dJ;simp only[bV,bw]
def yd:Wp (dZ f g env s) Q=Wp (f env s) λx s=>Wp (fW x s) λb s=>if b=true then Wp (g env s) Q else Q (.bl false) s:=by
 unfold dZ;rw[bV];congr 1;funext x s;rw[bV];congr 1;funext b s
 cases b<;>simp[bw]
def yz:Wp (tu f g env s) Q=Wp (f env s) λx s=>Wp (fW x s) λb s=>if b=true then Q (.bl true) s else Wp (g env s) Q:=by
 unfold tu;rw[bV];congr 1;funext x s;rw[bV];congr 1;funext b s
 cases b<;>simp[bw]
def ye:Wp (vH f env s) Q=Wp (f env s) λx s=>Wp (fW x s) λb s=>Q (.bl (!b)) s:=by unfold vH;simp only[bV,bw]
def yA:Wp (iL c f g env s) Q=Wp (c env s) λb s=>if b=true then Wp (f env s) Q else Wp (g env s) Q:=by
 unfold iL;rw[bV];congr 1;funext b s
 cases b<;>simp
def yB:Wp (qD o o' f g h env s) Q=Wp (f env s) λx s=>Wp (g env s) λy s=>Wp (o x y s) λz s=>Wp (fW z s) λb s=>if b=true then Wp (h env s) λu s=>Wp (o' y u s) Q else Q (.bl false) s:=by
 unfold qD;simp only[bV];congr 1;funext x s;congr 1;funext y s;congr 1;funext z s;congr 1;funext b s
 cases b<;>simp[bw,bV]
def pG:Wp (bq env s) QF=QF (.nx env) s:=by unfold bq;rw[bw]
def jC:Wp (aL f env s) QF=Wp (f env s) λd s=>QF (.rt d) s:=by unfold aL;simp only[bV,bw]
def ux:Wp (bh f env s) QF=Wp (f env s) λ_ s=>QF (.nx env) s:=by unfold bh;simp only[bV,bw]
def xQ:Wp (LO env s) QF=QF (.ct env) s:=by unfold LO;rw[bw]
def wY (st:acC Fl) (Q:Fl->af->Prop):Fl->af->Prop:=λfl s=>match fl with
 | .nx env=>Wp (st env s) Q
 |fl=>Q fl s
def jD:Wp (ao st dq env s) QF=Wp (st env s) (wY dq QF):=propext ⟨λh=>by
 unfold ao at h;rw[bV] at h;refine h.mono λZ s q=>?_
 cases Z with
 |nx e=>exact q
 |rt d=>have q:Wp (ok (Fl.rt d) s) QF:=q;rw[bw] at q;exact q
 |bk d=>have q:Wp (ok (Fl.bk d) s) QF:=q;rw[bw] at q;exact q
 |ct d=>have q:Wp (ok (Fl.ct d) s) QF:=q;rw[bw] at q;exact q,λh=>Wp.seq (h.mono λZ s q=>by cases Z<;>exact q)⟩
def acF (h:∀R,R=dq->Wp (st env s) (wY R QF)):Wp (ao st dq env s) QF:=by rw[jD];exact h _ rfl
def dM {env':Env} {s':af} (h:st env s=ok (.nx env') s') (k:Wp (dq env' s') QF):Wp (ao st dq env s) QF:=by
 rw[jD,h,bw];exact k
def gK:wY st QF (.nx env) s=Wp (st env s) QF:=rfl
def n6:wY st QF (.rt d) s=QF (.rt d) s:=rfl
def yC:wY st QF (.ct env) s=QF (.ct env) s:=rfl
def pQ:Wp (aZ c st dq env s) QF=Wp (c env s) λb s=>if b=true then Wp (st env s) QF else Wp (dq env s) QF:=by
 unfold aZ;rw[bV];congr 1;funext b s
 cases b<;>simp
def nX {gd:D->Env->Option Env}:Wp (aN f gd env s) QF=Wp (f env s) λd s=>∃e,gd d env=some e/\QF (.nx e) s:=by
 unfold aN;rw[bV];congr 1;funext d s
 cases h:gd d env with
 |none=>exact propext ⟨λ⟨_,_,e,_⟩=>(by cases e),λ⟨_,e,_⟩=>(by cases e)⟩
 |some e=>rw[bw];exact propext ⟨λq=>⟨e,rfl,q⟩,λ⟨Z,z,q⟩=>by cases z;exact q⟩
def se {i:Nat} {P:Env->Prop}:(∃e,gN i d env=some e/\P e)=P (env.set i (some d)):=propext ⟨λ⟨e,z,q⟩=>by cases z;exact q,λq=>⟨_,rfl,q⟩⟩
def sf {P:Env->Prop}:(∃e,gT gs (.tup ds) env=some e/\P e)=∃e,ie gs ds env=some e/\P e:=rfl
def rz {P:Env->Prop}:(∃e,ie [] [] env=some e/\P e)=P env:=propext ⟨λ⟨e,z,q⟩=>by cases z;exact q,λq=>⟨_,rfl,q⟩⟩
def rl {i:Nat} {P:Env->Prop}:(∃e,ie (gN i::gs) (d::ds) env=some e/\P e)=∃e,ie gs ds (env.set i (some d))=some e/\P e:=rfl
def nY {i j:Nat}:Wp (ql i j fa env s) QF=Wp (fa env s) λds s=>∃x y,ds=[x,y]/\QF (.nx ((env.set i (some x)).set j (some y))) s:=by
 unfold ql;rw[bV];congr 1;funext ds s
 match ds with
 | [x,y] =>
  show Wp (ok (Fl.nx ((env.set i (some x)).set j (some y))) s) QF=_;rw[bw];exact propext ⟨λq=>⟨x,y,rfl,q⟩,λ⟨Z,Y,e,q⟩=>by cases e;exact q⟩
 | []=>exact propext ⟨λ⟨_,_,e,_⟩=>(by cases e),λ⟨_,_,e,_⟩=>(by cases e)⟩
 | [_]=>exact propext ⟨λ⟨_,_,e,_⟩=>(by cases e),λ⟨_,_,e,_⟩=>(by cases e)⟩
 |_::_::_::_=>exact propext ⟨λ⟨_,_,e,_⟩=>(by cases e),λ⟨_,_,e,_⟩=>(by cases e)⟩
def yD {P:D->D->Prop}:(∃x' y',[x,y]=[x',y']/\P x' y')=P x y:=propext ⟨λ⟨_,_,e,q⟩=>by cases e;exact q,λq=>⟨x,y,rfl,q⟩⟩
def jE:Wp (dQ it gd st env s) QF=Wp (it env s) λds s=>Wp (iW gd st ds env s) QF:=by unfold dQ;rw[bV]
def uH {fo fi:acC D}:Wp (oB f fo fi env s) QF=Wp (f env s) λx s=>Wp (fo env s) λd s=>Wp (fi env s) λn s=>∃s',jW d n x s=some s'/\QF (.nx env) s':=by
 unfold oB;simp only[bV];congr 1;funext x s;congr 1;funext d s;congr 1;funext n s
 cases h:jW d n x s with
 |none=>exact propext ⟨λ⟨_,_,e,_⟩=>(by cases e),λ⟨_,e,_⟩=>(by cases e)⟩
 |some e=>simp only[bw];exact propext ⟨λq=>⟨e,rfl,q⟩,λ⟨Z,z,q⟩=>by cases z;exact q⟩
def u0:Wp (gp f g env s) Q=Wp (f env s) λd s=>lQ d s=true/\Wp (g env s) λx s=>Wp (lP d x s) Q:=by
 unfold gp;rw[bV];congr 1;funext d s
 cases h:lQ d s with
 |true=>rw[ã rfl,bV];simp
 |false=>rw[í Û];exact propext ⟨λ⟨_,_,e,_⟩=>(by cases e),λ⟨e,_⟩=>(by cases e)⟩
def sL (Q:D->af->Prop):Fl->af->Prop:=λZ s=>match Z with
 | .rt d=>Q d s
 | .nx _=>Q .au s
 |_=>False
def kC:Wp (aF np ns st ds s) Q=(ds.length=np/\Wp (st (ds.map some++Å (ns-np) none) s) (sL Q)):=by
 unfold aF;by_cases h:ds.length=np
 ·rw[ã h,bV]
  refine propext ⟨λq=>⟨h,q.mono λZ s q=>?_⟩,λ⟨_,q⟩=>q.mono λZ s q=>?_⟩
  ·cases Z with
   |rt d=>exact(show Wp (ok d s) Q from q) |> λz=>by rw[bw] at z;exact z
   |nx e=>exact(show Wp (ok D.au s) Q from q) |> λz=>by rw[bw] at z;exact z
   |bk e=>obtain⟨_,_,e,_⟩:=q;cases e
   |ct e=>obtain⟨_,_,e,_⟩:=q;cases e
  ·cases Z with
   |rt d=>exact Wp.ok q
   |nx e=>exact Wp.ok q
   |bk e=>exact q.elim
   |ct e=>exact q.elim
 ·rw[í h]
  exact propext ⟨λ⟨_,_,e,_⟩=>(by cases e),λ⟨e,_⟩=>absurd e h⟩
def jJ:sL Q (.rt d) s=Q d s:=rfl
def yE:sL Q (.nx env) s=Q .au s:=rfl
def uJ:Wp (cj nt cap it gd c f env s) Q=Wp (it env s) λds s=>ds.length<=Ø/\Wp (gI nt (iX cap env) gd c f ds s) λxs s=>Q (.lst xs) s:=by
 unfold cj;simp only[bV,uw,bw]
def yX:Wp (qG f l' h' env s) Q=Wp (f env s) λd s=>Wp (l' env s) λlo s=>Wp (h' env s) λhi s=>Wp (rF d lo hi s) Q:=by unfold qG;simp only[bV]
def yF:Wp (qF env s) QO=QO none s:=by unfold qF;rw[bw]
def Kd {i:Int} (hi:f env s=ok (.int i) s):Wp (qk f env s) QO=QO (some i) s:=by unfold qk;rw[hi,fR,bw]
end
open DI.cT
def VW {cl:D} {th:af->Res D} {r:Env} {s:af}:qN cl th 0 (some cl::r) s=th s:=ã rfl
def Uo {cl:D} {th:af->Res D} {r:Env} {s:af} {cs:List Str} {j:Nat} {b:acC Fl}:lS cs (qN cl th 0) j b (some cl::r) s=lS cs (λ_=>th) j b (some cl::r) s:=by
 unfold lS;rw[VW]
def XU {f g f':acC Fl} {env:Env} {s:af} (h:f env s=f' env s):ao f g env s=ao f' g env s:=by unfold ao;rw[h]
def XW {d:D} {i:Nat} {g:acC Fl} {env:Env} {s:af} {env':Env} (h:gN i d env=some env'):ao (aN (eC d) (gN i)) g env s=g env' s:=by
 unfold ao aN eC;simp[ak,h]
def Mn (b rest:acC Fl) (cl:D) (r:Res D) (s:af):Res D:=ak (ao (lS bF (λ_ _=>r) 2 b) rest [some cl,some .au,none,none,none] s) λZ s=>match Z with
 | .rt d=>ok d s
 | .nx _=>ok .au s
 |_=>none
def jF {cl:D} {th:af->Res D} {s:af} {b rest:acC Fl}:aF 1 5 (ao (aN (eC .au) (gN 1)) (ao (lS bF (qN cl th 0) 2 b) rest)) [cl] s=Mn b rest cl (th s) s:=by
 show ak (ao (aN (eC .au) (gN 1)) (ao (lS bF (qN cl th 0) 2 b) rest) [some cl,none,none,none,none] s) _=_;rw[XW (env':=[some cl,some .au,none,none,none]) rfl,XU Uo];rfl
def Lj {cl d:D} {th:af->Res D} {s s':af} (h:th s=some (.ok d,s')):dw cl th [cl] s=ok (.str "none") s':=by
 unfold dw;rw[jF,h]
 kernel_rfl
def AR {cl:D} {th:af->Res D} {s s':af} {m:Option Int} (h:th s=some (.error ⟨"NoMould",m⟩,s')):dw cl th [cl] s=ok (.str "mould") s':=by
 unfold dw;rw[jF,h]
 kernel_rfl
def Bc {cl:D} {th:af->Res D} {s s':af} {m:Option Int} (h:th s=some (.error ⟨"NoDay",m⟩,s')):dw cl th [cl] s=ok (.str "day") s':=by
 unfold dw;rw[jF,h]
 kernel_rfl
def AS {cl:D} {th:af->Res D} {s s':af} {m:Option Int} (h:th s=some (.error ⟨"NoSheet",m⟩,s')):dw cl th [cl] s=ok (.str "sheet") s':=by
 unfold dw;rw[jF,h]
 kernel_rfl
def AZ {cl:D} {th:af->Res D} {s s':af} {m:Option Int} (h:th s=some (.error ⟨"NoBook",m⟩,s')):dw cl th [cl] s=ok (.str "book") s':=by
 unfold dw;rw[jF,h]
 kernel_rfl
def AE {cl:D} {th:af->Res D} {s s':af} {m:Option Int} (h:th s=some (.error ⟨"NoSheets",m⟩,s')):dw cl th [cl] s=ok (.str "sheets") s':=by
 unfold dw;rw[jF,h]
 kernel_rfl
def Bd {cl:D} {th:af->Res D} {s s':af} {m:Option Int} (h:th s=some (.error ⟨"NoRun",m⟩,s')):dw cl th [cl] s=ok (.str "run") s':=by
 unfold dw;rw[jF,h]
 kernel_rfl
def AF {cl:D} {th:af->Res D} {s s':af} {m:Option Int} (h:th s=some (.error ⟨"NoLaying",m⟩,s')):dw cl th [cl] s=ok (.str "laying") s':=by
 unfold dw;rw[jF,h]
 kernel_rfl
def Hk (cl:D) (th:af->Res D) (s:af):dw cl th [cl] s=dw .au th [.au] s:=by
 cases h:th s with
 |none=>unfold dw;rw[jF,jF,h];rfl
 |some q =>
  obtain⟨q,Y⟩:=q
  cases q with
  |ok d=>rw[Lj h,Lj h]
  |error x =>
   obtain⟨c,m⟩:=x;by_cases Z:decide (c∈bF)=true
   ·rw[É] at Z
    have e1:c="NoMould"\/c="NoDay"\/c="NoSheet"\/c="NoBook"\/c="NoSheets"\/c="NoRun"\/c="NoLaying":=by simpa [bF] using Z
    rcases e1 with rfl|rfl|rfl|rfl|rfl|rfl|rfl
    ·rw[AR h,AR h]
    ·rw[Bc h,Bc h]
    ·rw[AS h,AS h]
    ·rw[AZ h,AZ h]
    ·rw[AE h,AE h]
    ·rw[Bd h,Bd h]
    ·rw[AF h,AF h]
   ·unfold dw
    rw[jF,jF,h];unfold Mn ao lS;dsimp only;rw[í Z,í Z]
end DI
namespace DI.cT
open PySem L2 DI
noncomputable def top (i:Nat):acx:=PySem.Challenge.pw_twinmoulds_k14_refusals_of_the_first_sta.main.body.getD i (.Pass ⟨0,0,0,0⟩)
noncomputable abbrev vV:List Str:=[acK,"_law_k"]
noncomputable abbrev M7:List Str:=[acJ,"_law_many"]
noncomputable abbrev M8:List Str:=[acJ,acQ]
noncomputable abbrev sM:List Str:=[acJ]
noncomputable abbrev M9:List Str:=[acJ,"_law_most"]
noncomputable abbrev Na:List Str:=[acR]
noncomputable abbrev EE:List Str:=["things"]
noncomputable abbrev bO:List Str:=["thing"]
noncomputable abbrev EF:List Str:=["thing","many"]
noncomputable abbrev sO:List Str:=["marks","others"]
noncomputable abbrev DD:List Str:=["pages","mould","mark","half"]
noncomputable abbrev vt:List Str:=["pages","mould","mark"]
noncomputable abbrev DE:List Str:=["days","day","later"]
noncomputable abbrev DF:List Str:=["pages"]
noncomputable abbrev DG:List Str:=["book","sheet"]
noncomputable abbrev ot:List Str:=["book","mould","sheets"]
noncomputable abbrev Mo:List Str:=["book","mould","sheets","thing"]
noncomputable abbrev DH:List Str:=["thing","most"]
noncomputable abbrev Mp:List Str:=["run","laid","mould"]
noncomputable abbrev m7:List Str:=["run","thing"]
noncomputable abbrev DJ:List Str:=["run","laying"]
noncomputable abbrev vv:List Str:=["run"]
noncomputable abbrev DK:List Str:=["book","mould","day"]
noncomputable abbrev DL:List Str:=["book","mould","day","sheet"]
noncomputable abbrev DM:List Str:=["book","mould","thing"]
noncomputable abbrev sg:List Str:=["book","mould"]
noncomputable abbrev Mq:List Str:=[acL,acN]
noncomputable abbrev Mr:List Str:=[acS]
noncomputable abbrev Ms:List Str:=[acJ,"_law_kind",acT]
noncomputable abbrev Mt:List Str:=[acJ,acL,acU,"_law_good"]
noncomputable abbrev Mu:List Str:=[acK]
structure bo (K:ę) (mg:Str->Option Ç):Prop where
 O8:mg "ValueError"=none
 mK:mg "all"=none
 Lk:mg "any"=none
 VX:mg "bool"=none
 aen:mg "enumerate"=none
 XX:mg "int"=none
 cU:mg "isinstance"=none
 iq:mg "len"=none
 Ce:mg "list"=none
 Ll:mg "max"=none
 Lm:mg "min"=none
 ip:mg "range"=none
 Ke:mg "repr"=none
 aeo:mg "reversed"=none
 Ln:mg "set"=none
 Be:mg "sorted"=none
 jz:mg "tuple"=none
 XY:mg "zip"=none
 QT:fE K mg bF "NoMarks"
 QU:fE K mg bF "NoSheet"
 Sf:fE K mg bF "NoPage"
 Sg:fE K mg bF "NoBook"
 QV:fE K mg bF "NoMould"
 Uq:fE K mg bF "NoDay"
 Si:fE K mg bF "NoSort"
 Qb:fE K mg bF "NoNumber"
 Qc:fE K mg bF "NoSheets"
 Ur:fE K mg bF "NoRun"
 Qd:fE K mg bF "NoLaying"
 Sj:fE K mg bF "NoHeap"
 QW:fE K mg bF "NoCount"
 Us:fE K mg bF "Clash"
 Sm:fE K mg bF "NoDeed"
 Sn:fE K mg bF "NoText"
 Ut:fE K mg bF "NoRow"
 QX:fE K mg bF "TooMany"
 QY:fE K mg bF "Lacking"
 O9:rq K bF (.type "ValueError") anyS
 lx:FW K mg  acI
 QZ:nq K mg "NoMould"
 Uu:nq K mg "NoDay"
 Q0:nq K mg "NoSheet"
 So:nq K mg "NoBook"
 Qe:nq K mg "NoSheets"
 Uv:nq K mg "NoRun"
 Qf:nq K mg "NoLaying"
 Pa:N8 K mg bF "MouldError"
 xR:∃t,mg "MARKS"=some (.int (8) t)
 xG:∃t,mg "MOULDS"=some (.int (4) t)
 yf:∃t,mg "DAYS"=some (.int (31) t)
 BC:∃t,mg "PAGES"=some (.int (24) t)
 CY:∃t,mg "HAS"=some (.int (0) t)
 BD:∃t,mg "LACKS"=some (.int (1) t)
 Bf:∃t,mg "SHEETS"=some (.int (3) t)
 CZ:∃t,mg "RUN"=some (.int (10) t)
 BE:∃t,mg "TWINS"=some (.int (2) t)
 Hz:∃t,mg "NO_OTHER"=some (.int (-1) t)
 Qg:GG K mg "_law_cell_at" (top 103) vV
 Sq:GG K mg "_law_state" (top 104) vV
 fH:GG K mg "_law_take" (top 105) M7
 Sr:GG K mg "_law_lived" (top 111) M8
 Uw:GG K mg "_law_book" (top 112) sM
 IF:GG K mg "_law_marks" (top 109) M9
 Ss:GG K mg "_law_sheet" (top 110) sM
 Su:GG K mg "_law_kinds" (top 106) Na
 Hl:GG K mg "is_rising" (top 30) EE
 Pw:GG K mg "is_number" (top 25) bO
 xx:GG K mg "is_below" (top 26) EF
 HU:GG K mg "is_mark" (top 27) bO
 AG:GG K mg "are_marks" (top 37) bO
 Px:GG K mg "are_apart" (top 39) sO
 AU:GG K mg "is_sheet" (top 38) bO
 HA:GG K mg "is_mould" (top 28) bO
 IG:GG K mg "is_day" (top 29) bO
 Q2:GG K mg "is_page" (top 42) bO
 Qh:GG K mg "are_laid" (top 43) bO
 Hm:GG K mg "days_seen" (top 48) DD
 OW:GG K mg "days_mended" (top 49) vt
 OO:GG K mg "is_any_behind" (top 47) DE
 Q3:GG K mg "clashes" (top 46) vt
 Py:GG K mg "faults_of" (top 45) DF
 Q4:GG K mg "is_book" (top 44) bO
 oZ:GG K mg "need_book" (top 51) bO
 Hd:GG K mg "need_sheet" (top 50) bO
 Pz:GG K mg "places_of" (top 58) DG
 qV:GG K mg "need_mould" (top 31) bO
 Pb:GG K mg "are_sheets" (top 74) bO
 Az:GG K mg "need_asked" (top 75) ot
 PB:GG K mg "is_dating" (top 69) Mo
 OL:GG K mg "are_laid_marks" (top 41) DH
 tZ:GG K mg "need_run" (top 90) bO
 Q5:GG K mg "has_all" (top 40) sO
 Q6:GG K mg "may_lay" (top 92) Mp
 Q7:GG K mg "is_laid" (top 91) m7
 Hn:GG K mg "breaks_of" (top 86) DJ
 OX:GG K mg "best_laying" (top 87) vv
 Qi:GG K mg "paper_of" (top 89) vv
 HB:GG K mg "need_day" (top 32) bO
 Sv:GG K mg "surely" (top 53) DK
 Sx:GG K mg "may_be" (top 57) DL
 Q8:GG K mg "is_life" (top 54) DM
 Pc:GG K mg "least_life" (top 55) sg
 PC:GG K mg "most_life" (top 56) sg
 PD:GG K mg "is_laying" (top 85) m7
 Qj:GG K mg "is_paper" (top 88) m7
 Q9:GG K mg "days_of" (top 70) ot
 PH:GG K mg "narrowest" (top 71) ot
 Ux:GG K mg "_law_call" (top 114) Mq
 HC:GG K mg "_law_refused" (top 107) Mr
 VY:GG K mg "_law_odd" (top 108) sM
 VZ:GG K mg "_law_bad" (top 113) Ms
 Sy:GG K mg  acI (top 115) Mt
section
variable {P:ä} {w:ù} {K:ę} {mg:Str->Option Ç} {base:Ĳ}
def Qk (F:bo K mg):cz P w K mg base "_law_cell_at" (top 103) vV 1 t9:=λ{_ _} G =>
 cI G vV (by kernel_rfl) λY _ _ _ _ _ _ Z=>(aD (cM (bN (zz Z) (ag 1) (bP iz rfl F.iq iA (ax (ag 0))) (bS _)) (aJ (bc (aW (ag 0) (ag 1)))) cL) (aJ (bc aw)))
def Sz (F:bo K mg):cz P w K mg base "_law_state" (top 104) vV 2 xI:=λ{_ _} G =>
 cI G [acK,"_law_k","_law_cell"] (by kernel_rfl) λZ _ _ _ _ _ _ Y=>(aD (cW 2 Z (aT F.Qg (Qk F) Y (aK (ag 0) (ag 1)))) (aJ (bc (vd (aK (bP (KR rfl) rfl F.Ll L0 (aK aw (bQ Y7 (ag 2) (bQ Ds aw aw)))) (bQ rV (ag 2) aw))))))
def fI (F:bo K mg):cz P w K mg base "_law_take" (top 105) M7 1 bT:=λ{_ _} G =>
 cI G [acJ,"_law_many",acO,"_law_stirred"] (by kernel_rfl) λZ _ _ _ _ _ _ Y=>(aD (cM (bN aax (aW (ag 0) aw) aw (bS _)) (aD (cW 2 Z (bQ rV (aW (ag 0) aw) (ag 1))) (aD (Du (bQ LQ (aW (ag 0) aw) (ag 1)) (ag 0) aw) (aJ (bc (ag 2))))) cL) (aD (Du (bQ rV (bQ fL (bQ lG (aW (ag 0) aw) aw) aw) aw) (ag 0) aw) (aD (cW 3 Z (bQ rV (bQ fL (bQ fL (bQ lG (aW (ag 0) aw) (aW (ag 0) aw)) (bQ lG aw (aW (ag 0) aw))) aw) aw)) (aD (cW 3 Z (bQ rV (bQ fL (bQ lG (ag 3) (ag 3)) (bQ lG aw (ag 3))) aw)) (aJ (bc (bQ rV (bQ LQ (ag 3) aw) (ag 1))))))))
def SA (F:bo K mg):cz P w K mg base "_law_lived" (top 111) M8 2 rj:=λ{_ _} G =>
 cI G [acJ,acQ,"_law_there",acO,"_law_way",acP] (by kernel_rfl) λY _ _ _ _ _ _ Z=>(aD (Xz 2 3 4 rfl Y (cK (kz (dD Z) (aT F.fH (fI F) Z (aK (ag 0) aw)) aw (bS _)) (vd cV) (bQ fL aw (aT F.fH (fI F) Z (aK (ag 0) aw))))) (aD (jf Ĥ rfl (iS rfl F.ip (ax aw)) (cH 5 Y) (aD (cW 2 Y (fT (aaw (ag 2) (jN (kz (dD Z) (aT F.fH (fI F) Z (aK (ag 0) (ag 4))) aw (bS _)))) (jN (kz (B9 Z) (ag 5) (ag 1) rfl)))) (aJ (cM (ib (ag 2)) (aJ (cB (om (ag 3) (ag 5)))) cL)))) (aJ (bc (LM (ag 3))))))
def Uy (F:bo K mg):cz P w K mg base "_law_book" (top 112) sM 3 (ya w):=λ{_ _} G=>by
 have X:([acM,acJ,"_law_often"]:List Str).Nodup:=by decide +kernel
 exact cI G [acJ,acO,"_law_moulds","_law_often","_law_mould",acQ,"_law_lives","_law_turn",acM,acP,"_law_seen","_law_has"] (by kernel_rfl) λY _ _ _ _ _ _ Z=>(aD (pY (bR (cK TK.Xt (bQ fL aw (aT F.fH (fI F) Z (aK (ag 0) aw))) (bQ fL aw (aT F.fH (fI F) Z (aK (ag 0) aw))))) (oj rfl (fJ (cH 1 Y) (fJ (cH 2 Y) (fJ (cH 3 Y) n0))))) (aD (jf Ĥ rfl (iS rfl F.ip (ax (ag 2))) (cH 4 Y) (aD (pY (bR (aK (gQ [acM] (iS rfl F.ip (ax aw)) (λ_ _ _ _ _ _=>⟨iy,(vd cV)⟩)) (vd cV))) (oj rfl (fJ (cH 5 Y) (fJ (cH 6 Y) n0)))) (aD (jf Ĥ rfl (iS rfl F.ip (ax (aT F.fH (fI F) Z (aK (ag 0) aw)))) (cH 7 Y) (aD (pY (bR (aK (aT F.fH (fI F) Z (aK (ag 0) aw)) (aT F.fH (fI F) Z (aK (ag 0) aw)))) (oj rfl (fJ (cH 8 Y) (fJ (cH 9 Y) n0)))) (aD (cB (om (aW (ag 5) (ag 8)) (ag 9))) (aJ (TK.K8 rfl Z iB (ag 1) (bR (aS aP (aS (ag 4) (aS (ag 9) (aS (ag 8) cV)))))))))) (aD (jf Ĥ rfl (iS rfl F.ip (ax aw)) (cH 8 Y) (aJ (cB (om (ag 6) (aT F.Sr (SA F) Z (aK (ag 0) (aW (ag 5) (ag 8)))))))) (aJ (jf Ĥ rfl (iS rfl F.ip (ax (aT F.fH (fI F) Z (aK (ag 0) aw)))) (cH 7 Y) (aD (cW 9 Y (aT F.fH (fI F) Z (aK (ag 0) aw))) (aD (VD 10 (N:=[acM,acJ,"_law_often"]) (nt:=1) (cap:=[0,3]) Y rfl (Dx (by kernel_rfl)) (rn 0) (iS rfl F.ip (ax aw)) (λcl C s H ex W=>⟨(ke (i:=0) X rfl (Ź rfl)),(mS (bN (dD Z) (aT F.fH (fI F) Z (aK (ag 1) (ag 2))) aw (bS _))),(ag 0)⟩)) (aD (cW 11 Y (nR uE rfl F.jz jB (ax (gQ [acM,acP,"_law_lives"] (fm (ag 10)) (λ_ _ _ _ _ _=>⟨(mS (bN (lO Z) (ag 1) (aW (ag 2) (ag 0)) rfl)),(ag 0)⟩))))) (aJ (TK.K8 rfl Z iB (ag 1) (bR (aS aP (aS (ag 4) (aS (ag 9) (aS (bR (aK (ag 11) (nR uE rfl F.jz jB (ax (gQ [acM,acP,"_law_lives"] (fm (ag 10)) (λ_ _ _ _ _ _=>⟨(mS (bN (B9 Z) (ag 1) (aW (ag 2) (ag 0)) rfl)),(ag 0)⟩)))))) cV)))))))))))))))) (aJ (bc (nR uE rfl F.jz jB (ax (bP (TK.VO Z) rfl F.Be Bu (ax (nR (TK.VI rfl) rfl F.Ce CG (ax (ag 1)))))))))))
def IH (F:bo K mg):cz P w K mg base "_law_marks" (top 109) M9 2 uu:=λ{_ _} G =>
 cI G [acJ,"_law_most","_law_way"] (by kernel_rfl) λY _ _ _ _ _ _ Z=>(aD (cW 2 Y (bQ fL aw (aT F.fH (fI F) Z (aK (ag 0) aw)))) (aJ (bc (nR uE rfl F.jz jB (ax (gQ [acM,acJ,"_law_way"] (iS rfl F.ip (ax (ag 1))) (λ_ _ _ _ _ _=>⟨(mS (bN (dD Z) (aT F.fH (fI F) Z (aK (ag 1) (bQ fL (ag 2) aw))) aw (bS _))),(ag 0)⟩)))))))
def SD (F:bo K mg):cz P w K mg base "_law_sheet" (top 110) sM 3 xO:=λ{_ _} G =>
 cI G [acJ,"_law_has","_law_lacks"] (by kernel_rfl) λY _ _ _ _ _ _ Z=>(aD (pY (bR (aK (aT F.IF (IH F) Z (aK (ag 0) aw)) (aT F.IF (IH F) Z (aK (ag 0) aw)))) (oj rfl (fJ (cH 1 Y) (fJ (cH 2 Y) n0)))) (aJ (bc (bR (aK (ag 1) (nR uE rfl F.jz jB (ax (gQ [acM,"_law_has"] (fm (ag 2)) (λ_ _ _ _ _ _=>⟨(mS (bN (B9 Z) (ag 0) (ag 1) rfl)),(ag 0)⟩)))))))))
def SE (F:bo K mg):cz P w K mg base "_law_kinds" (top 106) Na 1 Js:=λ{_ _} G =>
 cI G [acR,acO] (by kernel_rfl) λZ _ _ _ _ _ _ Y=>(aD (cW 1 Z (cE (cK (fS F.QT (ag 0) F.cU) (fS F.QU (ag 0) F.cU) (fS F.Sf (ag 0) F.cU)))) (aD (cW 1 Z (bQ fL (ag 1) (cE (cK (fS F.Sg (ag 0) F.cU) (fS F.QV (ag 0) F.cU) (fS F.Uq (ag 0) F.cU))))) (aD (cW 1 Z (bQ fL (ag 1) (cE (cK (fS F.Si (ag 0) F.cU) (fS F.Qb (ag 0) F.cU) (fS F.Qc (ag 0) F.cU))))) (aD (cW 1 Z (bQ fL (ag 1) (cE (cK (fS F.Ur (ag 0) F.cU) (fS F.Qd (ag 0) F.cU) (fS F.Sj (ag 0) F.cU))))) (aD (cW 1 Z (bQ fL (ag 1) (cE (cK (fS F.QW (ag 0) F.cU) (fS F.Us (ag 0) F.cU) (fS F.Sm (ag 0) F.cU))))) (aD (cW 1 Z (bQ fL (ag 1) (cE (aK (fS F.Sn (ag 0) F.cU) (fS F.Ut (ag 0) F.cU))))) (aJ (bc (bQ fL (ag 1) (cE (aK (fS F.QX (ag 0) F.cU) (fS F.QY (ag 0) F.cU))))))))))))
def Ho (F:bo K mg):cz P w K mg base "is_rising" (top 30) EE 1 pb:=λ{_ _} G=>by
 have Z:(["ahead","behind"]:List Str).Nodup:=by decide +kernel
 exact cI G EE (by kernel_rfl) λX _ _ _ _ _ _ Y=>(aJ (bc (bP (mU rfl) rfl F.mK mW (ax (J2 (N:=["ahead","behind"]) (nt:=2) (cap:=[]) rfl (Dx (by kernel_rfl)) (KQ (xH 0 (xH 1 JW))) (Y5 rfl F.XY (aK (ag 0) (MP (ag 0) (LS aw) MO))) (λcl C s H ex W=>⟨(pI rfl (uj (ke (i:=0) Z rfl (Ź rfl)) (uj (ke (i:=1) Z rfl (Ź rfl)) BO))),iy,(kz (zz Y) (ag 0) (ag 1) (bS _))⟩))))))
def PJ (F:bo K mg):cz P w K mg base "is_number" (top 25) bO 1 AN:=λ{_ _} G =>
 cI G bO (by kernel_rfl) λZ _ _ _ _ _ _ Y=>(aJ (bc (fT (bP mV rfl F.cU ka (aK (ag 0) (nh Y9 rfl F.XX))) (fT (LN (bP mV rfl F.cU ka (aK (ag 0) (nh Xi rfl F.VX)))) (jN (kz aay (ag 0) aw (bS _)))))))
def xy (F:bo K mg):cz P w K mg base "is_below" (top 26) EF 2 pd:=λ{_ _} G =>
 cI G EF (by kernel_rfl) λY _ _ _ _ _ _ Z=>(aJ (bc (fT (aT F.Pw (PJ F) Z (ax (ag 0))) (jN (kz (zz Z) (ag 0) (ag 1) (bS _))))))
def HV (F:bo K mg):cz P w K mg base "is_mark" (top 27) bO 3 ug:=λ{_ _} G =>
 cI G bO (by kernel_rfl) λY _ _ _ _ _ _ Z=>(aJ (bc (aT F.xx (xy F) Z (aK (ag 0) (jX F.xR rfl)))))
def AH (F:bo K mg):cz P w K mg base "are_marks" (top 37) bO 4 nO:=λ{_ _} G =>
 cI G bO (by kernel_rfl) λY _ _ _ _ _ _ Z=>(aJ (bc (fT (bP mV rfl F.cU ka (aK (ag 0) (nh jB rfl F.jz))) (fT (bP (mU rfl) rfl F.mK mW (ax (gQ ["mark"] (fm (ag 0)) (λ_ _ _ _ _ _=>⟨iy,(aT F.HU (HV F) Z (ax (ag 0)))⟩)))) (jN (aT F.Hl (Ho F) Z (ax (ag 0))))))))
def PK (F:bo K mg):cz P w K mg base "are_apart" (top 39) sO 1 xu:=λ{_ _} G =>
 cI G sO (by kernel_rfl) λY _ _ _ _ _ _ Z=>(aJ (bc (LN (bP (LR rfl) rfl F.Lk LZ (ax (gQ ["mark","others"] (fm (ag 0)) (λ_ _ _ _ _ _=>⟨iy,(kz (lO Z) (ag 0) (ag 1) rfl)⟩)))))))
def AV (F:bo K mg):cz P w K mg base "is_sheet" (top 38) bO 5 nP:=λ{_ _} G =>
 cI G ["thing","has","lacks"] (by kernel_rfl) λY _ _ _ _ _ _ Z=>(aD (cM (PW.pt (w_or (ix (ib (bP mV rfl F.cU ka (aK (ag 0) (nh jB rfl F.jz))))) (pX (bN (oA Z) (bP iz rfl F.iq iA (ax (ag 0))) aw (bS _))))) (aJ (bc iB)) cL) (aD (pY (ag 0) (oj rfl (fJ (cH 1 Y) (fJ (cH 2 Y) n0)))) (aJ (bc (fT (aT F.AG (AH F) Z (ax (ag 1))) (fT (aT F.AG (AH F) Z (ax (ag 2))) (jN (aT F.Px (PK F) Z (aK (ag 1) (ag 2))))))))))
def HD (F:bo K mg):cz P w K mg base "is_mould" (top 28) bO 3 nQ:=λ{_ _} G =>
 cI G bO (by kernel_rfl) λY _ _ _ _ _ _ Z=>(aJ (bc (aT F.xx (xy F) Z (aK (ag 0) (jX F.xG rfl)))))
def II (F:bo K mg):cz P w K mg base "is_day" (top 29) bO 3 nS:=λ{_ _} G =>
 cI G bO (by kernel_rfl) λY _ _ _ _ _ _ Z=>(aJ (bc (aT F.xx (xy F) Z (aK (ag 0) (jX F.yf rfl)))))
def Ra (F:bo K mg):cz P w K mg base "is_page" (top 42) bO 6 xE:=λ{_ _} G =>
 cI G ["thing","word","mould","day","what"] (by kernel_rfl) λY _ _ _ _ _ _ Z=>(aD (cM (PW.pt (w_or (ix (ib (bP mV rfl F.cU ka (aK (ag 0) (nh jB rfl F.jz))))) (pX (bN (oA Z) (bP iz rfl F.iq iA (ax (ag 0))) aw (bS _))))) (aJ (bc iB)) cL) (aD (pY (ag 0) (oj rfl (fJ (cH 1 Y) (fJ (cH 2 Y) (fJ (cH 3 Y) (fJ (cH 4 Y) n0)))))) (aD (cM (PW.pt (w_or (ix (ib (aT F.HA (HD F) Z (ax (ag 2))))) (pX (ix (ib (aT F.IG (II F) Z (ax (ag 3)))))))) (aJ (bc iB)) cL) (aD (cM (bN (dD Z) (ag 1) aP (bS _)) (aJ (bc (aT F.AU (AV F) Z (ax (ag 4))))) cL) (aJ (bc (fT (kz (dD Z) (ag 1) aP (bS _)) (jN (aT F.HU (HV F) Z (ax (ag 4)))))))))))
def Ql (F:bo K mg):cz P w K mg base "are_laid" (top 43) bO 7 xA:=λ{_ _} G =>
 cI G bO (by kernel_rfl) λY _ _ _ _ _ _ Z=>(aJ (bc (fT (bP mV rfl F.cU ka (aK (ag 0) (nh jB rfl F.jz))) (fT (kz sE (bP iz rfl F.iq iA (ax (ag 0))) (jX F.BC rfl) (bS _)) (fT (bP (mU rfl) rfl F.mK mW (ax (gQ ["page"] (fm (ag 0)) (λ_ _ _ _ _ _=>⟨iy,(aT F.Q2 (Ra F) Z (ax (ag 0)))⟩)))) (jN (aT F.Hl (Ho F) Z (ax (ag 0)))))))))
def Hq (F:bo K mg):cz P w K mg base "days_seen" (top 48) DD 1 lu:=λ{_ _} G =>
 cI G DD (by kernel_rfl) λY _ _ _ _ _ _ Z=>(aJ (bc (gQ ["page","mould","mark","half"] (fm (ag 0)) (λ_ _ _ _ _ _=>⟨(mS (PW.pt (w_and (bN (dD Z) (aW (ag 0) aw) aP (bS _)) (w_and (bN (dD Z) (aW (ag 0) aw) (ag 1) (bS _)) (yn (bN (lO Z) (ag 2) (aW (aW (ag 0) aw) (ag 3)) rfl)))))),(aW (ag 0) aw)⟩))))
def OY (F:bo K mg):cz P w K mg base "days_mended" (top 49) vt 1 qU:=λ{_ _} G =>
 cI G vt (by kernel_rfl) λY _ _ _ _ _ _ Z=>(aJ (bc (gQ ["page","mould","mark"] (fm (ag 0)) (λ_ _ _ _ _ _=>⟨(mS (PW.pt (w_and (bN (dD Z) (aW (ag 0) aw) aP (bS _)) (w_and (bN (dD Z) (aW (ag 0) aw) (ag 1) (bS _)) (yn (bN (dD Z) (aW (ag 0) aw) (ag 2) (bS _))))))),(aW (ag 0) aw)⟩))))
def OP (F:bo K mg):cz P w K mg base "is_any_behind" (top 47) DE 1 xm:=λ{_ _} G =>
 cI G DE (by kernel_rfl) λY _ _ _ _ _ _ Z=>(aJ (bc (bP (LR rfl) rfl F.Lk LZ (ax (gQ ["other","day","later"] (fm (ag 0)) (λ_ _ _ _ _ _=>⟨iy,(BZ (zz Z) sE (ag 1) (ag 0) (ag 2))⟩))))))
def Rb (F:bo K mg):cz P w K mg base "clashes" (top 46) vt 2 uh:=λ{_ _} G=>by
 have Y:(["day","later","lacked","mended"]:List Str).Nodup:=by decide +kernel
 exact cI G ["pages","mould","mark","lacked","mended"] (by kernel_rfl) λX _ _ _ _ _ _ Z=>(aD (cW 3 X (aT F.Hm (Hq F) Z (aS (ag 0) (aS (ag 1) (aS (ag 2) (aS (jX F.BD rfl) cV)))))) (aD (cW 4 X (aT F.OW (OY F) Z (cK (ag 0) (ag 1) (ag 2)))) (aJ (bc (Vy (N:=["day","later","lacked","mended"]) (nt:=2) (cap:=[3,4]) rfl (LI (by kernel_rfl)) (rn 0) (xY 0) (rn 1) (xY 1) (fm (HM (aT F.Hm (Hq F) Z (aS (ag 0) (aS (ag 1) (aS (ag 2) (aS (jX F.CY rfl) cV))))) rfl rfl F.Be Bu rfl F.Ln LY)) (λcl C s H ex W=>⟨(ke (i:=0) Y rfl (Ź rfl)),iy,(Xa rfl F.ip (aK (ag 0) (jX F.yf rfl))),(ke (i:=1) Y rfl (Ź rfl)),(mS (PW.pt (w_and (PW.pt (w_or (bN (lO Z) (ag 1) (ag 2) rfl) (pX (PW.pt (w_and (bN (dD Z) (ag 1) (ag 0) (bS _)) (yn (bN (lO Z) (ag 0) (ag 3) rfl))))))) (yn (ix (ib (aT F.OO (OP F) Z (cK (ag 3) (ag 0) (ag 1))))))))),(bR (aK (ag 0) (ag 1)))⟩))))))
def PL (F:bo K mg):cz P w K mg base "faults_of" (top 45) DF 3 xw:=λ{_ _} G=>by
 have Z:(["mould","mark","day","later","pages"]:List Str).Nodup:=by decide +kernel
 exact cI G DF (by kernel_rfl) λX _ _ _ _ _ _ Y=>(aJ (bc (Vz (N:=["mould","mark","day","later","pages"]) (nt:=4) (cap:=[0]) rfl (LI (by kernel_rfl)) (rn 0) (xY 0) (rn 1) (xY 1) (KQ (xH 2 (xH 3 JW))) (Cy [2,3]) (iS rfl F.ip (ax (jX F.xG rfl))) (λcl C s H ex W=>⟨(ke (i:=0) Z rfl (Ź rfl)),iy,(iS rfl F.ip (ax (jX F.xR rfl))),(ke (i:=1) Z rfl (Ź rfl)),iy,(fm (aT F.Q3 (Rb F) Y (cK (ag 4) (ag 0) (ag 1)))),(pI rfl (uj (ke (i:=2) Z rfl (Ź rfl)) (uj (ke (i:=3) Z rfl (Ź rfl)) BO))),iy,(bR (aS (ag 0) (aS (ag 1) (aS (ag 2) (aS (ag 3) cV)))))⟩))))
def Rc (F:bo K mg):cz P w K mg base "is_book" (top 44) bO 8 ph:=λ{_ _} G =>
 cI G bO (by kernel_rfl) λY _ _ _ _ _ _ Z=>(aJ (bc (fT (aT F.Qh (Ql F) Z (ax (ag 0))) (jN (TK.Xv (aT F.Py (PL F) Z (ax (ag 0))))))))
def o7 (F:bo K mg):ei P w K mg base "need_book" (top 51) bO 9 kc:=λ{_ _} G =>
 fj G bO (by kernel_rfl) λY _ _ _ _ _ _ Z L=>(aJ (cM (ix (ib (aT F.Q4 (Rc F) Z (ax (ag 0))))) (aJ (pw L F.So (ax aP))) cL))
def He (F:bo K mg):ei P w K mg base "need_sheet" (top 50) bO 6 xr:=λ{_ _} G =>
 fj G bO (by kernel_rfl) λY _ _ _ _ _ _ Z L=>(aJ (cM (ix (ib (aT F.AU (AV F) Z (ax (ag 0))))) (aJ (pw L F.Q0 (ax aP))) cL))
def PM (F:bo K mg):ei P w K mg base "places_of" (top 58) DG 10 AO:=λ{_ _} G =>
 fj G DG (by kernel_rfl) λY _ _ _ _ _ _ Z L=>(aD (cB (bZ F.oZ (o7 F) (bU L) Z (ax (ag 0)))) (aD (cB (bZ F.Hd (He F) (bU L) Z (ax (ag 1)))) iR))
def qW (F:bo K mg):ei P w K mg base "need_mould" (top 31) bO 4 lq:=λ{_ _} G =>
 fj G bO (by kernel_rfl) λY _ _ _ _ _ _ Z L=>(aJ (cM (ix (ib (aT F.HA (HD F) Z (ax (ag 0))))) (aJ (pw L F.QZ (ax aP))) cL))
def Pd (F:bo K mg):cz P w K mg base "are_sheets" (top 74) bO 6 tX:=λ{_ _} G =>
 cI G bO (by kernel_rfl) λY _ _ _ _ _ _ Z=>(aJ (bc (fT (bP mV rfl F.cU ka (aK (ag 0) (nh jB rfl F.jz))) (fT (BZ sE sE aw (bP iz rfl F.iq iA (ax (ag 0))) (jX F.Bf rfl)) (jN (bP (mU rfl) rfl F.mK mW (ax (gQ ["sheet"] (fm (ag 0)) (λ_ _ _ _ _ _=>⟨iy,(aT F.AU (AV F) Z (ax (ag 0)))⟩)))))))))
def AA (F:bo K mg):ei P w K mg base "need_asked" (top 75) ot 10 qX:=λ{_ _} G =>
 fj G ot (by kernel_rfl) λY _ _ _ _ _ _ Z L=>(aD (cB (bZ F.oZ (o7 F) (bU L) Z (ax (ag 0)))) (aD (cB (bZ F.qV (qW F) (bU L) Z (ax (ag 1)))) (aJ (cM (ix (ib (aT F.Pb (Pd F) Z (ax (ag 2))))) (aJ (pw L F.Qe (ax aP))) cL))))
def PN (F:bo K mg):ei P w K mg base "is_dating" (top 69) Mo 11 Hw:=λ{_ _} G =>
 fj G ["book","mould","sheets","thing","pages"] (by kernel_rfl) λY _ _ _ _ _ _ Z L=>(aD (cB (bZ F.Az (AA F) (bU L) Z (cK (ag 0) (ag 1) (ag 2)))) iR)
def OM (F:bo K mg):cz P w K mg base "are_laid_marks" (top 41) DH 5 qT:=λ{_ _} G =>
 cI G DH (by kernel_rfl) λY _ _ _ _ _ _ Z=>(aJ (bc (fT (bP mV rfl F.cU ka (aK (ag 0) (nh jB rfl F.jz))) (fT (BZ sE sE aw (bP iz rfl F.iq iA (ax (ag 0))) (ag 1)) (jN (bP (mU rfl) rfl F.mK mW (ax (gQ ["marks"] (fm (ag 0)) (λ_ _ _ _ _ _=>⟨iy,(aT F.AG (AH F) Z (ax (ag 0)))⟩)))))))))
def t6 (F:bo K mg):ei P w K mg base "need_run" (top 90) bO 6 mz:=λ{_ _} G =>
 fj G bO (by kernel_rfl) λY _ _ _ _ _ _ Z L=>(aJ (cM (ix (ib (aT F.OL (OM F) Z (aK (ag 0) (jX F.CZ rfl))))) (aJ (pw L F.Uv (ax aP))) cL))
def Rf (F:bo K mg):cz P w K mg base "has_all" (top 40) sO 1 Iz:=λ{_ _} G =>
 cI G sO (by kernel_rfl) λY _ _ _ _ _ _ Z=>(aJ (bc (bP (mU rfl) rfl F.mK mW (ax (gQ ["mark","marks"] (fm (ag 1)) (λ_ _ _ _ _ _=>⟨iy,(kz (lO Z) (ag 0) (ag 1) rfl)⟩))))))
def Rg (F:bo K mg):cz P w K mg base "may_lay" (top 92) Mp 2 A3:=λ{_ _} G =>
 cI G ["run","laid","mould","marks"] (by kernel_rfl) λY _ _ _ _ _ _ Z=>(aD (cW 3 Y (aW (ag 0) (bP iz rfl F.iq iA (ax (ag 1))))) (aJ (bc (bP (mU rfl) rfl F.mK mW (ax (gQ ["at","marks","run","mould","laid"] (iS rfl F.ip (ax (bP iz rfl F.iq iA (ax (ag 1))))) (λ_ _ _ _ _ _=>⟨(mS (bN (dD Z) (aW (ag 4) (ag 0)) (ag 3) (bS _))),(aT F.Q5 (Rf F) Z (aK (ag 1) (aW (ag 2) (ag 0))))⟩)))))))
def Rh (F:bo K mg):cz P w K mg base "is_laid" (top 91) m7 3 A8:=λ{_ _} G =>
 cI G m7 (by kernel_rfl) λY _ _ _ _ _ _ Z=>(aD (cM (PW.pt (w_or (ix (ib (bP mV rfl F.cU ka (aK (ag 1) (nh jB rfl F.jz))))) (pX (bN (oA Z) (bP iz rfl F.iq iA (ax (ag 1))) (bP iz rfl F.iq iA (ax (ag 0))) (bS _))))) (aJ (bc iB)) cL) (aJ (bc (fT (bP (mU rfl) rfl F.mK mW (ax (gQ ["mould"] (fm (ag 1)) (λ_ _ _ _ _ _=>⟨iy,(aT F.xx (xy F) Z (aK (ag 0) (jX F.BE rfl)))⟩)))) (fT (kz (dD Z) (aW (ag 1) aw) aw (bS _)) (jN (bP (mU rfl) rfl F.mK mW (ax (gQ ["at","run","thing"] (iS rfl F.ip (ax (bP iz rfl F.iq iA (ax (ag 0))))) (λ_ _ _ _ _ _=>⟨iy,(aT F.Q6 (Rg F) Z (cK (ag 1) (MP (ag 2) MO (LS (ag 0))) (aW (ag 2) (ag 0))))⟩))))))))))
def Hr (F:bo K mg):ei P w K mg base "breaks_of" (top 86) DJ 7 tY:=λ{_ _} G =>
 fj G DJ (by kernel_rfl) λY _ _ _ _ _ _ Z L=>(aD (cB (bZ F.tZ (t6 F) (bU L) Z (ax (ag 0)))) (aD (cM (ix (ib (aT F.Q7 (Rh F) Z (aK (ag 0) (ag 1))))) (aJ (pw L F.Qf (ax aP))) cL) iR))
def OZ (F:bo K mg):ei P w K mg base "best_laying" (top 87) vv 8 Ay:=λ{_ _} G =>
 fj G vv (by kernel_rfl) λY _ _ _ _ _ _ Z L=>(aD (cB (bZ F.tZ (t6 F) (bU L) Z (ax (ag 0)))) iR)
def Qm (F:bo K mg):ei P w K mg base "paper_of" (top 89) vv 7 HR:=λ{_ _} G =>
 fj G ["run","paper","place","bounds"] (by kernel_rfl) λY _ _ _ _ _ _ Z L=>(aD (cB (bZ F.tZ (t6 F) (bU L) Z (ax (ag 0)))) iR)
def HE (F:bo K mg):ei P w K mg base "need_day" (top 32) bO 4 qZ:=λ{_ _} G =>
 fj G bO (by kernel_rfl) λY _ _ _ _ _ _ Z L=>(aJ (cM (ix (ib (aT F.IG (II F) Z (ax (ag 0))))) (aJ (pw L F.Uu (ax aP))) cL))
def SF (F:bo K mg):ei P w K mg base "surely" (top 53) DK 10 xK:=λ{_ _} G =>
 fj G DK (by kernel_rfl) λY _ _ _ _ _ _ Z L=>(aD (cB (bZ F.oZ (o7 F) (bU L) Z (ax (ag 0)))) (aD (cB (bZ F.qV (qW F) (bU L) Z (ax (ag 1)))) (aD (cB (bZ F.HB (HE F) (bU L) Z (ax (ag 2)))) iR)))
def SG (F:bo K mg):ei P w K mg base "may_be" (top 57) DL 10 BB:=λ{_ _} G =>
 fj G DL (by kernel_rfl) λY _ _ _ _ _ _ Z L=>(aD (cB (bZ F.oZ (o7 F) (bU L) Z (ax (ag 0)))) (aD (cB (bZ F.qV (qW F) (bU L) Z (ax (ag 1)))) (aD (cB (bZ F.HB (HE F) (bU L) Z (ax (ag 2)))) (aD (cB (bZ F.Hd (He F) (bU L) Z (ax (ag 3)))) iR))))
def Ri (F:bo K mg):ei P w K mg base "is_life" (top 54) DM 10 A9:=λ{_ _} G =>
 fj G DM (by kernel_rfl) λY _ _ _ _ _ _ Z L=>(aD (cB (bZ F.oZ (o7 F) (bU L) Z (ax (ag 0)))) (aD (cB (bZ F.qV (qW F) (bU L) Z (ax (ag 1)))) iR))
def Pe (F:bo K mg):ei P w K mg base "least_life" (top 55) sg 10 AD:=λ{_ _} G =>
 fj G sg (by kernel_rfl) λY _ _ _ _ _ _ Z L=>(aD (cB (bZ F.oZ (o7 F) (bU L) Z (ax (ag 0)))) (aD (cB (bZ F.qV (qW F) (bU L) Z (ax (ag 1)))) iR))
def PQ (F:bo K mg):ei P w K mg base "most_life" (top 56) sg 10 AQ:=λ{_ _} G =>
 fj G sg (by kernel_rfl) λY _ _ _ _ _ _ Z L=>(aD (cB (bZ F.oZ (o7 F) (bU L) Z (ax (ag 0)))) (aD (cB (bZ F.qV (qW F) (bU L) Z (ax (ag 1)))) iR))
def PR (F:bo K mg):ei P w K mg base "is_laying" (top 85) m7 7 Hx:=λ{_ _} G =>
 fj G m7 (by kernel_rfl) λY _ _ _ _ _ _ Z L=>(aD (cB (bZ F.tZ (t6 F) (bU L) Z (ax (ag 0)))) iR)
def Qn (F:bo K mg):ei P w K mg base "is_paper" (top 88) m7 7 HS:=λ{_ _} G =>
 fj G m7 (by kernel_rfl) λY _ _ _ _ _ _ Z L=>(aD (cB (bZ F.tZ (t6 F) (bU L) Z (ax (ag 0)))) iR)
def Rj (F:bo K mg):ei P w K mg base "days_of" (top 70) ot 11 ID:=λ{_ _} G =>
 fj G ["book","mould","sheets","told"] (by kernel_rfl) λY _ _ _ _ _ _ Z L=>(aD (cB (bZ F.Az (AA F) (bU L) Z (cK (ag 0) (ag 1) (ag 2)))) iR)
def PU (F:bo K mg):ei P w K mg base "narrowest" (top 71) ot 12 Hy:=λ{_ _} G =>
 fj G ot (by kernel_rfl) λY _ _ _ _ _ _ Z L=>(aD (cB (bZ F.Az (AA F) (bU L) Z (cK (ag 0) (ag 1) (ag 2)))) iR)
def Uz (F:bo K mg):ei P w K mg base "_law_call" (top 114) Mq 13 eU:=λ{_ _} G =>
 fj G [acL,acN,acS] (by kernel_rfl) λY _ _ _ _ _ _ Z L=>(aD (cM (bN (lO Z) (ag 0) (bR (aK aP aP)) rfl) (aJ (bc (vI (bN (dD Z) (ag 0) aP (bS _)) (bZ F.Sv (SF F) (bU L) Z (cK (aW (ag 1) aw) (aW (ag 1) aw) (aW (ag 1) aw))) (bZ F.Sx (SG F) (bU L) Z (aS (aW (ag 1) aw) (aS (aW (ag 1) aw) (aS (aW (ag 1) aw) (aS (aW (ag 1) aw) cV)))))))) cL) (aD (cM (bN (lO Z) (ag 0) (bR (cK aP aP aP)) rfl) (aD (cM (bN (dD Z) (ag 0) aP (bS _)) (aJ (bc (bZ F.Q8 (Ri F) (bU L) Z (cK (aW (ag 1) aw) (aW (ag 1) aw) mR)))) cL) (aJ (bc (vI (bN (dD Z) (ag 0) aP (bS _)) (bZ F.Pc (Pe F) (bU L) Z (aK (aW (ag 1) aw) (aW (ag 1) aw))) (bZ F.PC (PQ F) (bU L) Z (aK (aW (ag 1) aw) (aW (ag 1) aw))))))) cL) (aD (cM (bN (dD Z) (ag 0) aP (bS _)) (aJ (bc (bZ F.Pz (PM F) (bU L) Z (aK (aW (ag 1) aw) (aW (ag 1) aw))))) cL) (aD (cM (bN (lO Z) (ag 0) (bR (aK aP aP)) rfl) (XR 2 Y (bN (dD Z) (ag 0) aP (bS _)) F.Q9 (Rj F) F.PH (PU F) (bU L) Z (cK (aW (ag 1) aw) (aW (ag 1) aw) (aW (ag 1) aw))) cL) (aD (cM (bN (dD Z) (ag 0) aP (bS _)) (aJ (bc (bZ F.PB (PN F) (bU L) Z (aS (aW (ag 1) aw) (aS (aW (ag 1) aw) (aS (aW (ag 1) aw) (aS mR cV))))))) cL) (aD (cM (bN (lO Z) (ag 0) (bR (aK aP aP)) rfl) (aJ (bc (vI (bN (dD Z) (ag 0) aP (bS _)) (bZ F.PD (PR F) (bU L) Z (aK (aW (ag 1) aw) mR)) (bZ F.Qj (Qn F) (bU L) Z (aK (aW (ag 1) aw) mR))))) cL) (aD (cM (bN (dD Z) (ag 0) aP (bS _)) (aJ (bc (bZ F.Hn (Hr F) (bU L) Z (aK (aW (ag 1) aw) mR)))) cL) (aJ (bc (vI (bN (dD Z) (ag 0) aP (bS _)) (bZ F.OX (OZ F) (bU L) Z (ax (aW (ag 1) aw))) (bZ F.Qi (Qm F) (bU L) Z (ax (aW (ag 1) aw)))))))))))))
def HF (F:bo K mg):N7 P w K mg "_law_refused" (top 107) Mr 15 14 dw:=λ{_ _ _ _ _ _} T {_ _} G =>
 Zr G [acS,acR,"e",acO,"_law_names"] (by kernel_rfl) λZ _ _ _ _ _ _ X Y=>(aD (cW 1 Z mR) (aD (Zt T X (Y.mono (by decide)) F.Pa (λ_=>(aJ (cW 1 Z (ag 2)))) Z) (aD (cW 3 Z (aT F.Su (SE F) Y (ax (ag 1)))) (aD (cM (PW.pt (w_or (ix (ib (XO F.O9 (ag 1) F.cU F.O8))) (pX (bN (oA Y) (XN (ag 3)) aw (bS _))))) (aJ (bc aP)) cL) (@aD _ _ _ _ _ _ (@cW _ _ _ _ _ 4 _ _ Z (@fu _ _ 2 _ _ rfl) rfl (Ź rfl) rfl (Ź rfl)) (aJ (bc (aW (bQ fL (ag 4) (@fu _ _ 2 _ _ rfl)) (Zu (ag 3))))))))))
def V0 (F:bo K mg):cz P w K mg base "_law_odd" (top 108) sM 2 yv:=λ{_ _} G =>
 cI G [acJ,acN] (by kernel_rfl) λZ _ _ _ _ _ _ Y=>(aD (cW 1 Z (by refine' VT ?_ ?_ ?_ ?_ ?_ ?_ ?_ ?_ ?_ ?_ ?_ ?_ ?_ ?_ ?_ ?_ ?_ ?_;exact mR;exact iB;exact iB;exact(Ej Dt aw);exact aw;exact aw;exact aw;exact aP;exact aP;exact aP;exact(bR cV);exact(cE cV);exact Xy;exact(bR (ax aw));exact(cE (ax aw));exact(bQ Ds aw aw);exact(Ej Dt (bQ Ds aw aw));exact(bR (ax aw)))) (aD (cW 1 Z (bQ fL (ag 1) (by refine' XB ?_ ?_ ?_ ?_ ?_ ?_ ?_ ?_;exact(bR (ax aP));exact(bR (aK aw aw));exact(bR (aK (bR (ax aw)) (bR (ax aw))));exact XA;exact(bR (aK (bR cV) (bR cV)));exact(bR (aK (bR (ax iB)) (bR cV)));exact(bR (aK (bR (aK aw aw)) (bR cV)));exact aP))) (aJ (bc (aW (ag 1) (aT F.fH (fI F) Y (aK (ag 0) aw)))))))
def V1 (F:bo K mg):cz P w K mg base "_law_bad" (top 113) Ms 3 yw:=λ{_ _} G =>
 cI G [acJ,"_law_kind",acT,"_law_way","_law_odd_here","_law_clash",acN,"_law_bad_here"] (by kernel_rfl) λY _ _ _ _ _ _ Z=>(aD (yp 3 4 rfl Y (aK (aT F.fH (fI F) Z (aK (ag 0) aw)) (aT F.VY (V0 F) Z (ax (ag 0))))) (aD (cM (bN (dD Z) (ag 1) aP (bS _)) (@aD _ _ _ _ _ _ (@cW _ _ _ _ _ 5 _ _ Y (@fu _ _ 5 _ _ rfl) rfl (Ź rfl) rfl (Ź rfl)) (aD (cW 6 Y (cE (aS (nR Xe rfl F.Ce CG (ax (ag 2))) (aS (ag 5) (aS (@fu _ _ 5 _ _ rfl) (aS (@fu _ _ 3 _ _ rfl) cV)))))) (aJ (bc (aW (bQ fL (ag 6) (cE (ax (vI (bN (Zy Z) (ag 4) (@fu _ _ 1 _ _ rfl) (bS _)) (ag 4) mR)))) (ag 3)))))) cL) (aD (cM (bN (dD Z) (ag 1) aP (bS _)) (@aJ _ _ _ _ (@bc _ _ _ _ _ (@aW _ _ _ _ _ _ _ (@fu _ _ 4 _ _ rfl) (ag 3) (by intro _ _;rfl)))) cL) (aD (cM (bN (dD Z) (ag 1) aP (bS _)) (@aJ _ _ _ _ (@bc _ _ _ _ _ (@aW _ _ _ _ _ _ _ (@cE _ _ _ _ _ (@aS _ _ _ _ _ _ (@fu _ _ 1 _ _ rfl) (@aS _ _ _ _ _ _ (@bQ _ _ _ _ _ _ _ _ _ lG (@fu _ _ 3 _ _ rfl) aw) (@aS _ _ _ _ _ _ (@fu _ _ 3 _ _ rfl) (@aS _ _ _ _ _ _ (@fu _ _ 4 _ _ rfl) (@aS _ _ _ _ _ _ (@fu _ _ 2 _ _ rfl) cV rfl) rfl) rfl) rfl) rfl)) (ag 3) (by intro _ _;rfl)))) cL) (aD (cM (bN (dD Z) (ag 1) aP (bS _)) (@aJ _ _ _ _ (@bc _ _ _ _ _ (@aW _ _ _ _ _ _ _ (@cE _ _ _ _ _ (@aS _ _ _ _ _ _ (@fu _ _ 1 _ _ rfl) (@aS _ _ _ _ _ _ (@bQ _ _ _ _ _ _ _ _ _ lG (@fu _ _ 2 _ _ rfl) aw) (@aS _ _ _ _ _ _ (@fu _ _ 2 _ _ rfl) (@aS _ _ _ _ _ _ (@fu _ _ 3 _ _ rfl) (@aS _ _ _ _ _ _ (@fu _ _ 3 _ _ rfl) cV rfl) rfl) rfl) rfl) rfl)) (ag 3) (by intro _ _;rfl)))) cL) (@aD _ _ _ _ _ _ (@cW _ _ _ _ _ 7 _ _ Y (@XQ _ _ _ _ _ _ _ _ _ _ _ _ _ (@fu _ _ 2 _ _ rfl) (@fu _ _ 3 _ _ rfl) (by decide)) rfl (Ź rfl) rfl (Ź rfl)) (aJ (bc (aW (Zl Z (ag 7) (ag 1)) (ag 3))))))))))
def SH (F:bo K mg) {c T:Ù} (ht:Ŷ K  acI=some (c,T)) (hC:PySem.W.codeHdIn K c T=true) (hB:base.BuiltinsAt mg T):cz P w K mg base  acI (top 115) Mt 16 xP:=λ{_ _} G=>by
 exact Ml G (Zz F.lx G) ht [acJ,acL,acU,"_law_good","_law_at","_law_other",acN,"_law_spot","_law_kept","_law_due"] (by kernel_rfl) λY _ _ _ _ _ Z=>(aD (jf Ĥ rfl (iS rfl F.ip (ax (bP iz rfl F.iq iA (ax (ag 2))))) (cH 4 Y) (aJ (jf Ĥ rfl (fm (cE (aK (ag 4) (aT F.fH (fI F) Z (aK (ag 0) (bP iz rfl F.iq iA (ax (ag 2)))))))) (cH 5 Y) (aD (cW 6 Y (nR VR rfl F.Ce CG (ax (ag 3)))) (aD (jf Ĥ rfl (fm (HM (cE (aK (ag 4) (ag 5))) rfl rfl F.Be Bu rfl F.Ln LY)) (cH 7 Y) (aJ (Du (aT F.VZ (V1 F) Z (cK (ag 0) (aW (ag 2) (ag 7)) (aW (ag 3) aw))) (ag 6) (ag 7)))) (aD (yp 8 9 rfl Y (aK (bP (Kc Z) rfl F.Ke K0 (ax (ag 6))) (aW (ag 2) (bP (KS rfl) rfl F.Lm L7 (aK (ag 4) (ag 5)))))) (aJ (cM (PW.pt (w_or (bN (oA Z) (Ld 0 [acL,acN] rfl rfl ht hC hB F.HC (HF F) Hk Z (λ_ _ _ _ _ _ _ _ _ _ Z L=>(bZ F.Ux (Uz F) (bU L) Z (aK (ag 0) (ag 1))))) (ag 9) (bS _)) (pX (bN (oA Z) (bP (Kc Z) rfl F.Ke K0 (ax (ag 6))) (ag 8) (bS _))))) (aJ (bc iB)) cL)))))))) (aJ (bc iB)))
def XZ (F:bo K mg) {c T:Ù} (ht:Ŷ K "law"=some (c,T)) (hC:PySem.W.codeHdIn K c T=true) (hB:base.BuiltinsAt mg T) {c1 T1:Ù} (wZ:Ŷ K  acI=some (c1,T1)) (FZ:PySem.W.codeHdIn K c1 T1=true) (F0:base.BuiltinsAt mg T1) {f:Ù} {fd:Ī} (G:Gd K mg "law" (top 116) Mu f fd) (hx:å K Ö "law"=some (some (.ref f))):dB P w K mg base fz 17 f fd Mu (oR K (yV w)):=by
 exact Ml G hx ht [acK,"_law_k",acJ,acT,"_law_sheet_here","_law_mould",acP,"_law_sheets","_law_run","_law_rows",acL,acU,"_law_good"] (by kernel_rfl) λZ _ _ _ _ _ Y=>(aD (jf Ĥ rfl (iS rfl F.ip (ax (bP (KR rfl) rfl F.Ll L0 (aK aw (bP (KS rfl) rfl F.Lm L7 (aK (bP iz rfl F.iq iA (ax (ag 0))) aw)))))) (cH 1 Z) (aD (cW 2 Z (aT F.Sq (Sz F) Y (aK (ag 0) (ag 1)))) (aD (yp 3 4 rfl Z (aK (aT F.Uw (Uy F) Y (ax (ag 2))) (aT F.Ss (SD F) Y (ax (ag 2))))) (aD (yp 5 6 rfl Z (aK (aT F.fH (fI F) Y (aK (ag 2) aw)) (aT F.fH (fI F) Y (aK (ag 2) aw)))) (aD (pY (bR (aK (bQ lG (bR (ax (ag 4))) (bQ fL aw (aT F.fH (fI F) Y (aK (ag 2) aw)))) (bQ lG (bR (ax (aW (ag 4) aw))) (bQ fL aw (aT F.fH (fI F) Y (aK (ag 2) aw)))))) (oj rfl (fJ (cH 7 Z) (fJ (cH 8 Z) n0)))) (aD (cW 9 Z (vd (ax (bR (cK aP (cE (cK aP aP aP)) (cE (cK (ag 3) (ag 5) (ag 6)))))))) (aD (cB (om (ag 9) (bR (cK aP (cE (aS aP (aS aP (aS aP (aS aP cV))))) (cE (aS (ag 3) (aS (ag 5) (aS (ag 6) (aS (ag 4) cV))))))))) (aD (jf Ĥ rfl (fm (cE (cK aP aP aP))) (cH 10 Z) (aJ (cB (om (ag 9) (bR (cK (ag 10) (cE (aK aP aP)) (cE (aK (ag 3) (ag 5))))))))) (aD (cB (om (ag 9) (bR (cK aP (cE (aK aP aP)) (cE (aK (ag 3) (ag 4))))))) (aD (jf Ĥ rfl (fm (cE (cK aP aP aP))) (cH 10 Z) (aJ (cB (om (ag 9) (bR (cK (ag 10) (cE (cK aP aP aP)) (cE (cK (ag 3) (ag 5) (ag 7))))))))) (aD (jf Ĥ rfl (fm (cE (aS aP (aS aP (aS aP (aS aP (aS aP cV))))))) (cH 10 Z) (aJ (cB (om (ag 9) (bR (cK (ag 10) (cE (ax aP)) (cE (ax (ag 8))))))))) (aD (jf Ĥ rfl (fm (LM (ag 9))) (oj rfl (fJ (cH 10 Z) (fJ (cH 11 Z) (fJ (cH 12 Z) n0)))) (aJ (cM (ix (ib (aT F.Sy (SH F wZ FZ F0) Y (aS (ag 2) (aS (ag 10) (aS (ag 11) (aS (ag 12) cV))))))) (aJ (bc iB)) cL))) (aJ (cM (bN (oA Y) (Ld 1 ["_law_run"] rfl rfl ht hC hB F.HC (HF F) Hk Y (λ_ _ _ _ _ _ _ _ _ _ Y L=>(bZ F.Hn (Hr F) (bU L) Y (aK (ag 0) (bQ lG (bR (ax aw)) (bP iz rfl F.iq iA (ax (ag 0)))))))) aP (bS _)) (aJ (bc iB)) cL)))))))))))))) (aJ (bc iB)))
end
end DI.cT
namespace DI
open PySem L2
def bb (s:af) (k:Nat):Prop:=∃a b:Int,s[k]?=some (.lst [.int a,.int b])/\0<=a/\0<=b/\b<2147483647
structure Ex (k:Nat) (s s':af):Prop where
 len:s.length<=s'.length
 val:∀j,j<s.length->j≠k->s'[j]?=s[j]?
def Ex.refl (k:Nat) (s:af):Ex k s s:=⟨acG _,λ_ _ _=>rfl⟩
theorem Ex.trans (h:Ex k a b) (g:Ex k b c):Ex k a c:=⟨Þ h.len g.len,λj Z Y=>(g.val j (È Z h.len) Y).trans (h.val j Z Y)⟩
theorem Ex.set (k:Nat) (s:af) (c:Cell):Ex k s (s.set k c):=⟨by simp,λj _ Z=>Ï (Ŀ Z)⟩
def Ex.app (k:Nat) (s:af) (c:List Cell):Ex k s (s++c):=⟨by simp,λj Z _=>Ü Z⟩
def bb.lt (h:bb s k):k<s.length:=by
 obtain⟨a,b,e,_⟩:=h;exact(Ã.mp e).1
def bb.app (h:bb s k) (c:List Cell):bb (s++c) k:=by
 obtain⟨a,b,e,r⟩:=h;exact⟨a,b,by rw[Ü (Ã.mp e).1];exact e,r⟩
theorem bb.set (h:bb s k) (hj:j≠k) (c:Cell):bb (s.set j c) k:=by
 obtain⟨a,b,e,r⟩:=h;exact⟨a,b,by rw[Ï hj];exact e,r⟩
def F5 (x y:D) (k:Nat) (s:af) (h:s[k]?=some (.lst [x,y])):aA (.aj k) (.int 0) s=ok x s:=by
 simp[aA,k9,res,h,ef,gX,bY]
def F6 (x y:D) (k:Nat) (s:af) (h:s[k]?=some (.lst [x,y])):aA (.aj k) (.int 1) s=ok y s:=by
 simp[aA,k9,res,h,ef,gX,bY]
def Nb (x y z:D) (k:Nat) (s:af) (h:s[k]?=some (.lst [x,y])):jW (.aj k) (.int 0) z s=some (s.set k (.lst [z,y])):=by
 simp[jW,h,gX]
def Nc (x y z:D) (k:Nat) (s:af) (h:s[k]?=some (.lst [x,y])):jW (.aj k) (.int 1) z s=some (s.set k (.lst [x,z])):=by
 simp[jW,h,gX]
@[simp] theorem rN {a:D} {r:Env} {s:af}:ae 0 (some a::r) s=ok a s:=rfl
@[simp] theorem rP {i:Nat} {a:Option D} {r:Env} {s:af}:ae (i+1) (a::r) s=ae i r s:=rfl
def ltI (i j:Int) (s:af):kM (.int i) (.int j) s=ok (.bl (decide (i<j))) s:=rfl
def F7 (i j:Int) (s:af):zu (.int i) (.int j) s=ok (.bl (decide (j<i))) s:=rfl
def geI (i j:Int) (s:af):zv (.int i) (.int j) s=ok (.bl (decide (j<=i))) s:=rfl
def leI (i j:Int) (s:af):ng (.int i) (.int j) s=ok (.bl (decide (i<=j))) s:=rfl
def zD (i j:Int) (s:af):cP (.int i) (.int j) s=ok (.int (i+j)) s:=rfl
def Nd (i j:Int) (s:af):ve (.int i) (.int j) s=ok (.int (i-j)) s:=rfl
def Oi (i j:Int) (s:af):cb (.int i) (.int j) s=ok (.bl (i==j)) s:=rfl
def neI (i j:Int) (s:af):i6 (.int i) (.int j) s=ok (.bl (!(i==j))) s:=rfl
def sP {i j:Int} (s:af) (h:0<j):mT (.int i) (.int j) s=ok (.int (i % j)) s:=by
 simp[mT,En,h,bY]
def Nf (s:af) (h:0<j) (h2:j<1073741824):vh (.int i) (.int j) s=ok (.int (i / j)) s:=by
 simp[vh,Eo,h,h2,bY]
def vW (s:af) (h:vf i j=true):fq (.int i) (.int j) s=ok (.int (i*j)) s:=by
 simp[fq,Em,h,bY]
def mulOk_of (h1:-(2 ^ 64)<i) (h2:i<2 ^ 64):vf i j=true:=by
 unfold vf;rw[æ h1,æ h2];rfl
def fQ (h:bb s k) (h1:0<m) (h2:m<1073741824):Wp (bT [.aj k,.int m] s) λd s'=>∃r:Int,d=.int r/\0<=r/\r<m/\bb s' k/\Ex k s s':=by
 obtain⟨a,b,e,Y,U,T⟩:=h;have X:=(Ã.mp e).1;by_cases W:0<a
 ·have Z:(s.set k (.lst [.int (a / m),.int b]))[k]?=some (.lst [.int (a / m),.int b]):=Ó X
  refine⟨.int (a % m),s.set k (.lst [.int (a / m),.int b]),?_,a % m,rfl,abA _ (by omega),ε _ h1,⟨a / m,b,Z,Int.ediv_nonneg Y (by omega),U,T⟩,Ex.set _ _ _⟩;simp only[bT,aF,ao,aZ,aQ,e2,rN,rP,eC,fR,ß,Ě,ā,ė,F5 _ _ k s e,F7,fW,á,ý,æ W,Ā,aN,gN,sP s h1,oB,Nf s h1 h2,Nb _ _ _ k s e,aL,č,Ď,Å]
 ·have S:decide (0<a)=false:=ć W
  have ex:0<=(b*48271+29) % 2147483647/\(b*48271+29) % 2147483647<2147483647:=⟨abA _ (by decide),ε _ (by decide)⟩;generalize R:(b*48271+29) % 2147483647=x at ex;have Z:(s.set k (.lst [.int a,.int x]))[k]?=some (.lst [.int a,.int x]):=Ó X;generalize V:(x*x+39373*x+7) % 2147483629=y;have L:0<=y/\y<2147483629:=by rw[<- V];exact⟨abA _ (by decide),ε _ (by decide)⟩
  generalize Q:(y*y+16807*y) % 2147483587=z;refine⟨.int (z / 8 % m),s.set k (.lst [.int a,.int x]),?_,_,rfl,abA _ (by omega),ε _ h1,⟨a,x,Z,Y,ex.1,ex.2⟩,Ex.set _ _ _⟩;have P:fq (.int b) (.int 48271) s=ok (.int (b*48271)) s:=vW s (mulOk_of (by omega) (by omega));have O:∀s',fq (.int x) (.int x) s'=ok (.int (x*x)) s':=λs'=>vW s' (mulOk_of (by omega) (by omega));have N:∀s',fq (.int 39373) (.int x) s'=ok (.int (39373*x)) s':=λs'=>vW s' (mulOk_of (by decide) (by decide));have m4:∀s',fq (.int y) (.int y) s'=ok (.int (y*y)) s':=λs'=>vW s' (mulOk_of (by omega) (by omega));have M:∀s',fq (.int 16807) (.int y) s'=ok (.int (16807*y)) s':=λs'=>vW s' (mulOk_of (by decide) (by decide));simp only[bT,aF,ao,aZ,aQ,e2,rN,rP,eC,fR,ß,Ě,ā,ė,F5 _ _ k s e,F6 _ _ k s e,F7,fW,á,ý,S,Ì,û,Ā,bq,oB,P,zD,sP _ (show (0:Int)<2147483647 by decide),R,Nc _ _ _ k s e,aN,gN,F6 _ _ k _ Z,O,N,
   sP _ (show (0:Int)<2147483629 by decide),V,č,Ď,Å,m4,M,sP _ (show (0:Int)<2147483587 by decide),Q,aL,Nf _ (show (0:Int)<8 by decide) (by decide),sP _ h1]
def le_size (h:n<=1000000):n<=Ø:=Þ h (by decide)
def BF (h1:-1000000<=j) (h2:j<=1000000):kA j=true:=by
 unfold kA;rw[æ (show -(2 ^ 62)<=j by omega),æ (show j<2 ^ 62 by omega)];rfl
def UA {α:Type} {ds:List D} {r:Res α} (h:ds.length<=1000000):iw ds r=r:=ã (le_size h)
def yG {α:Type} {xs:List α} {i:Int} (h0:0<=i) (h1:i<xs.length):∃x,ef xs i=some x/\xs[i.toNat]?=some x:=by
 have Z:i.toNat<xs.length:=by omega
 refine⟨xs[i.toNat],?_,Ë Z⟩;unfold ef gX;rw[ã h0,ã h1];exact Ë Z
def V2 {ns:List Int} {i:Int} {s:af} (h0:0<=i):∃c:Int,t9 [.bK ns,.int i] s=ok (.int c) s:=by
 by_cases h:i<(ns.length:Int)
 ·obtain⟨x,Z,_⟩:=yG h0 h
  refine⟨x,?_⟩;have Y:aA (.bK ns) (.int i) s=ok (.int x) s:=by simp[aA,k9,res,Z,bY]
  simp only[t9,aF,ao,aZ,aQ,e2,eB,aa,ah,cy,zw,res,bY,rN,rP,eC,fR,ß,Ě,ā,ė,á,ý,Ā,ltI,fW,æ h,aL,Y,Å]
 ·refine⟨0,?_⟩
  simp only[t9,aF,ao,aZ,aQ,e2,eB,aa,ah,cy,zw,res,bY,rN,rP,eC,fR,ß,Ě,ā,ė,á,ý,Ā,ltI,fW,ć h,Ì,û,bq,aL,Å]
def UB {ns:List Int} {i:Int} {s:af} (h0:0<=i):Wp (xI [.bK ns,.int i] s) λd s'=>d=.aj s.length/\bb s' s.length/\∃c,s'=s++[c]:=by
 obtain⟨c,Z⟩:=V2 (ns:=ns) (s:=s) h0;have Y:∀s,rT (.int 10) (.int 18) s=ok (.int (10 ^ 18)) s:=λs=>by
  have e:Ep (.int 10) (.int 18)=some (.int (10 ^ 18)):=by
   show (if (decide ((0:Int)<=18)&&decide ((18:Int)<=1000000)&&decide ((10:Int).natAbs<2 ^ 64))=true then some (D.int (10 ^ (18:Int).toNat)) else none)=_
   rw[ã (by decide)];rfl
  simp only[rT,e,bY]
 refine⟨.aj s.length,s++[.lst [.int (if c-10 ^ 18 > 0 then c-10 ^ 18 else 0),.int (c % 2147483647)]],?_,rfl,⟨_,_,by simp;exact⟨rfl,rfl⟩,?_,abA _ (by decide),ε _ (by decide)⟩,_,rfl⟩
 ·simp only[xI,aF,ao,aN,az,aa,ah,rN,rP,eC,fR,ß,Ě,ā,ė,á,ý,Ā,Z,oh,gN,č,Ď,Å,aL,eNew,eB,p9,e2,Y,Nd,sP _ (show (0:Int)<2147483647 by decide)]
  rw[UA (by simp)];rfl
 ·split<;>omega
structure dG (m:Nat) (ns:List Int):Prop where
 lo:∀x∈ns,0<=x/\x<m
 up:ns.Pairwise (· < ·)
noncomputable abbrev mD (ns:List Int):D:=.tup (ns.map D.int)
def dG.len (h:dG m ns):ns.length<=m:=by
 have key:∀(l:List Int) (b:Int),l.Pairwise (· < ·)->(∀x∈l,b<=x/\x<m)->(l.length:Int)<=m-b\/l=[]:=by
  intro l
  induction l with
  |nil=>intro b _ _;exact .inr rfl
  |cons x l ih =>
   intro b X Z;obtain⟨W,V⟩:=ô.mp X;have U:=Z x Ð;left
   rcases ih (x+1) V (λy Y=>⟨by have:=W y Y;omega,(Z y (Ê _ Y)).2⟩) with h|h
   ·rw[á];omega
   ·subst h
    simp;omega
 rcases key ns 0 h.up h.lo with h'|h'
 ·omega
 ·subst h';simp
def SI {k n:Nat} {w:Int} (h1:bb s1 k) (w0:0<=w) (w1:w<4):Wp (gI 1 (iX [0,2] [some (.aj k),some (.int n),some (.int (1+w))]) (gN 0) (aQ (e2 cb (az bT (aa (ae 1) (aa (e2 cP (ae 2) (eC (.int 1))) ah))) (eC (.int 0)))) (ae 0) (dE 0 n) s1)
   λxs s'=>∃ns,xs=ns.map D.int/\dG n ns/\bb s' k/\Ex k s1 s':=by
 refine Cd (λi Z s'=>∃ns:List Int,Z=ns.map D.int/\dG i ns/\bb s' k/\Ex k s1 s') (dE 0 n) ⟨[],rfl,⟨by simp,.nil⟩,h1,Ex.refl _ _⟩ (λi d Z s' X W=>?_) λZ s' W=>?_
 ·obtain⟨ns,rfl,Y,S,V⟩:=W
  rw[kg] at X;split at X
  ·cases X
   refine⟨[some (.int (0+i)),some (.aj k),some (.int (1+w))],rfl,?_⟩;have R:=fQ S (m:=1+w+1) (by omega) (by omega);obtain⟨d,Q,P,r,rfl,M,L,U,T⟩:=R;have O:aQ (e2 cb (az bT (aa (ae 1) (aa (e2 cP (ae 2) (eC (.int 1))) ah))) (eC (.int 0))) [some (.int (0+(i:Int))),some (.aj k),some (.int (1+w))] s'=ok (r==0) Q:=by
    simp only[aQ,e2,az,aa,ah,rN,rP,eC,fR,zD,P,oh,Oi,fW]
   refine acD O ?_;split
   ·refine Wp.ok ⟨ns++[0+(i:Int)],by simp,⟨λx hx=>?_,?_⟩,U,V.trans T⟩
    ·rcases è.mp hx with hx|hx
     ·have:=Y.lo x hx;omega
     ·rw[õ.mp hx];omega
    ·refine ab7.mpr ⟨Y.up,by simp,λx hx y N=>?_⟩
     rw[õ.mp N];have:=Y.lo x hx;omega
   ·exact⟨ns,rfl,⟨λx hx=>by have:=Y.lo x hx;omega,Y.up⟩,U,V.trans T⟩
  ·cases X
 ·rw[jA] at W
  exact W
def lE (h:fa env s=ok [.int n] s1) (hn:n<=1000000):cJ fa env s=ok (dE 0 n) s1:=by
 unfold cJ;rw[h,fR]
 show (if kA (n:Int)=true then ok (dE 0 (n:Int).toNat) s1 else none)=_
 rw[ã (BF (by omega) (by omega)),ē]
def Cf {n:Nat} {i:Int} (h:fa env s=ok [.int i] s1) (hi:i=n) (hn:n<=1000000):cJ fa env s=ok (dE 0 n) s1:=by
 subst hi;exact lE h hn
def X0 (h:fa env s=ok [.int i,.int j] s1) (h1:-1000000<=i) (h2:i<=1000000) (h3:-1000000<=j) (h4:j<=1000000):tB fa env s=ok (dE i (j-i).toNat) s1:=by
 unfold tB;rw[h,fR]
 show (if (kA i&&kA j)=true then ok (dE i (j-i).toNat) s1 else none)=_
 rw[ã (by rw[BF h1 h2,BF h3 h4];rfl)]
def yH:Wp (kM (.int i) (.int j) s) Q=Q (.bl (decide (i<j))) s:=by rw[ltI,bw]
def yI:Wp (zu (.int i) (.int j) s) Q=Q (.bl (decide (j<i))) s:=by rw[F7,bw]
def yJ:Wp (zv (.int i) (.int j) s) Q=Q (.bl (decide (j<=i))) s:=by rw[geI,bw]
def u4:Wp (ng (.int i) (.int j) s) Q=Q (.bl (decide (i<=j))) s:=by rw[leI,bw]
def yg:Wp (cP (.int i) (.int j) s) Q=Q (.int (i+j)) s:=by rw[zD,bw]
def yh:Wp (ve (.int i) (.int j) s) Q=Q (.int (i-j)) s:=by rw[Nd,bw]
def u5:Wp (cb (.int i) (.int j) s) Q=Q (.bl (i==j)) s:=by rw[Oi,bw]
def yK:Wp (i6 (.int i) (.int j) s) Q=Q (.bl (!(i==j))) s:=by rw[neI,bw]
def Jt {k n:Nat} (h:bb s k) (hn:n<=8):Wp (uu [.aj k,.int n] s) λd s'=>∃ns,d=mD ns/\dG n ns/\bb s' k/\Ex k s s':=by
 unfold uu;simp only[bw,yx,rZ,gG,gH,iE,yW,jP,eV,fg,m6,wp_call,pO,rL,rM,yy,pP,nW,uY,pF,yc,uZ,uG,yd,yz,ye,yA,yB,pG,jC,ux,xQ,jD,gK,n6,yC,pQ,nX,se,sf,rz,rl,nY,yD,jE,uH,u0,kC,jJ,yE,uJ,yX,yF,ß,Ě,ā,ė,á,ý,č,Ď,Å,acb,Nat.reduceSub,Nat.reduceAdd,yH,yI,yJ,u4,yg,yh,u5,yK];refine(fQ h (by decide) (by decide)).mono λd Q Z=>?_;obtain⟨w,rfl,Y,X,W,V⟩:=Z;simp only[bw,yx,rZ,gG,gH,iE,yW,jP,eV,fg,m6,wp_call,pO,rL,rM,yy,pP,nW,uY,pF,yc,uZ,uG,yd,yz,ye,yA,yB,pG,jC,ux,xQ,jD,gK,n6,yC,pQ,nX,se,sf,rz,rl,nY,yD,jE,uH,u0,kC,jJ,yE,uJ,yX,yF,ß,Ě,ā,ė,á,ý,č,Ď,Å,acb,Nat.reduceSub,Nat.reduceAdd,yH,yI,yJ,u4,yg,yh,u5,yK];refine acD (lE rfl (by omega)) ⟨by rw[jA];exact le_size (by omega),(SI W Y X).mono λP O U=>?_⟩;obtain⟨ns,rfl,T,S,R⟩:=U;exact acD rfl ⟨ns,rfl,T,S,V.trans R⟩
end DI
local macro_rules | `(tactic| simp only[VC])=>`(tactic| simp only[DI.bw,DI.yx,DI.rZ,DI.gG,DI.gH,DI.iE,DI.yW,DI.jP,DI.eV,DI.fg,DI.m6,DI.wp_call,DI.pO,DI.rL,DI.rM,DI.yy,DI.pP,DI.nW,DI.uY,DI.pF,DI.yc,DI.uZ,DI.uG,DI.yd,DI.yz,DI.ye,DI.yA,DI.yB,DI.pG,DI.jC,DI.ux,DI.xQ,DI.jD,DI.gK,DI.n6,DI.yC,DI.pQ,DI.nX,DI.se,DI.sf,DI.rz,DI.rl,DI.nY,DI.yD,DI.jE,DI.uH,DI.u0,DI.kC,DI.jJ,DI.yE,DI.uJ,DI.yX,DI.yF,List.map_cons,List.map_nil,List.cons_append,List.nil_append,List.length_cons,List.length_nil,List.set_cons_succ,List.set_cons_zero,List.replicate,true_and,Nat.reduceSub,Nat.reduceAdd,DI.yH,DI.yI,DI.yJ,DI.u4,DI.yg,DI.yh,DI.u5,DI.yK])
local macro_rules | `(tactic| simp only[VC,$xs,*])=>`(tactic| simp only[DI.bw,DI.yx,DI.rZ,DI.gG,DI.gH,DI.iE,DI.yW,DI.jP,DI.eV,DI.fg,DI.m6,DI.wp_call,DI.pO,DI.rL,DI.rM,DI.yy,DI.pP,DI.nW,DI.uY,DI.pF,DI.yc,DI.uZ,DI.uG,DI.yd,DI.yz,DI.ye,DI.yA,DI.yB,DI.pG,DI.jC,DI.ux,DI.xQ,DI.jD,DI.gK,DI.n6,DI.yC,DI.pQ,DI.nX,DI.se,DI.sf,DI.rz,DI.rl,DI.nY,DI.yD,DI.jE,DI.uH,DI.u0,DI.kC,DI.jJ,DI.yE,DI.uJ,DI.yX,DI.yF,List.map_cons,List.map_nil,List.cons_append,List.nil_append,List.length_cons,List.length_nil,List.set_cons_succ,List.set_cons_zero,List.replicate,true_and,Nat.reduceSub,Nat.reduceAdd,DI.yH,DI.yI,DI.yJ,DI.u4,DI.yg,DI.yh,DI.u5,DI.yK,$xs,*])
namespace DI
open PySem L2
def acE {α:Type} {r:Res α} {d:α} {s:af} (h:Wp r λa s'=>a=d/\s'=s):r=DI.ok d s:=by
 obtain⟨a,s',e,rfl,rfl⟩:=h;exact e
def lB {f:acC D} {env:Env} {s s1:af} {ds:List D} (h:f env s=ok (.tup ds) s1):ck f env s=ok ds s1:=by
 unfold ck;rw[h];rfl
def nT (h:f env s=ok (.lst ds) s1):ck f env s=ok ds s1:=by
 unfold ck;rw[h];rfl
theorem Bg:∀(ns:List Int),fx (ns.map D.int)=true
 | []=>rfl
 |n::ns=>by simp only[ß,fx,lay,Bg ns,Ĝ]
def Kf (x:Int) (ns:List Int):((ns.map D.int).any λy=>beq y (.int x))=decide (x∈ns):=by
 induction ns with
 |nil=>simp
 |cons n ns ih =>
  simp only[ß,List.any_cons,ih,beq];by_cases h:n=x
  ·subst h;simp
  ·have Z:¬ x=n:=λe=>h e.symm
   simp[h,Z]
def yi {x:Int} {ns:List Int} {s:af}:eI (.int x) (mD ns) s=ok (.bl (decide (x∈ns))) s:=by
 have Z:rW 100 (.int x) (ns.map D.int)=true:=by simp only[rW,lay,Bg,dep,Ĝ,Đ,Ľ]
 have e:inD (.int x) (ns.map D.int)=some (decide (x∈ns)):=by unfold inD;rw[ã Z,Kf]
 unfold eI;rw[show qb (mD ns) s=some (ns.map D.int) from rfl];simp only[e];rfl
def HW:gF (.int x) (mD ns) s=ok (.bl (!decide (x∈ns))) s:=by
 have Z:rW 100 (.int x) (ns.map D.int)=true:=by simp only[rW,lay,Bg,dep,Ĝ,Đ,Ľ]
 have e:inD (.int x) (ns.map D.int)=some (decide (x∈ns)):=by unfold inD;rw[ã Z,Kf]
 unfold gF;rw[show qb (mD ns) s=some (ns.map D.int) from rfl];simp only[e];rfl
noncomputable def sub (a b:List Int):Bool:=a.all λx=>decide (x∈b)
def pH {α:Type} (p:α->Bool) (xs:List α) (s:af):jV [.lst (xs.map λx=>D.bl (p x))] s=ok (.bl (xs.all p)) s:=by
 have e:gZ (xs.map λx=>D.bl (p x))=some (xs.map p):=by
  have:=Vw (bs:=xs.map p);rw[ķ] at this;exact this
 show bY ((gZ (xs.map λx=>D.bl (p x))).map λ(bs:List Bool)=>D.bl (bs.all id)) s=_;rw[e];show ok (D.bl ((xs.map p).all id)) s=_;rw[List.all_map];rfl
def filter_tt {α:Type} (xs:List α):xs.filter (λ_=>true)=xs:=by simp
def pk {nt:Nat} {caps:Env} {g:D->Env->Option Env} {t:acC Bool} {f:acC D} {s:af} (p:Int->Bool) (h:Int->D) (ns:List Int) (hh:∀n∈ns,∃env,g (.int n) (Å nt none++caps)=some env/\t env s=ok (p n) s/\(p n=true->f env s=ok (h n) s)) :
  gI nt caps g t f (ns.map D.int) s=ok ((ns.filter p).map h) s:=by
 induction ns with
 |nil=>rfl
 |cons n ns ih =>
  obtain⟨env,Y,X,W⟩:=hh n Ð;have ih:=ih λV U=>hh V (Ê _ U);rw[ß];unfold gI;rw[Y];simp only[X,oh,fR]
  cases Z:p n with
  |true=>simp only[Ā,W Z,oh,fR,ih,ž,Z,ß]
  |false=>simp only[Ì,û,ih,ž,Z]
def comp_map {α:Type} (d:α->D) (p:α->Bool) (h:α->D) (xs:List α) (hh:∀x∈xs,∃env,g (d x) (Å nt none++caps)=some env/\t env s=ok (p x) s/\(p x=true->f env s=ok (h x) s)) :
  gI nt caps g t f (xs.map d) s=ok ((xs.filter p).map h) s:=by
 induction xs with
 |nil=>rfl
 |cons n T ih =>
  obtain⟨env,Y,X,W⟩:=hh n Ð;have ih:=ih λV U=>hh V (Ê _ U);rw[ß];unfold gI;rw[Y];simp only[X,oh,fR]
  cases Z:p n with
  |true=>simp only[Ā,W Z,oh,fR,ih,ž,Z,ß]
  |false=>simp only[Ì,û,ih,ž,Z]
def SJ:AN [.int i] s=ok (.bl (decide (0<=i))) s:=by
 rfl
def rb:pd [.int i,.int m] s=ok (.bl (decide (0<=i)&&decide (i<m))) s:=by
 refine acE ?_;unfold pd;simp only[VC,SJ];by_cases h:0<=i
 ·simp[h]
 ·simp[h]
def Cg:ug [.int i] s=ok (.bl (decide (0<=i)&&decide (i<8))) s:=by
 refine acE ?_;unfold ug;simp only[VC,rb,acb]
def Ju (xs:List D):cutD xs (some 1) none=xs.drop 1:=by
 unfold cutD HT.aU
 cases xs with
 |nil=>simp
 |cons x xs =>
  simp only[á]
  have e:(if (1:Int)<0 then (1+((xs.length+1:Nat):Int)).toNat else min (1:Int).toNat (xs.length+1))=1:=by simp
  simp
noncomputable def rise:List Int->Bool
 | []=>true
 | [_]=>true
 |a::b::r=>decide (a<b)&&rise (b::r)
def Kg (h:ns.Pairwise (· < ·)):rise ns=true:=by
 induction ns with
 |nil=>rfl
 |cons a ns ih =>
  cases ns with
  |nil=>rfl
  |cons b r =>
   obtain⟨Z,Y⟩:=ô.mp h;simp only[rise,ih Y,Bool.and_true];exact æ (Z b Ð)
theorem Jv:∀(ns:List Int),((ns.zip (ns.drop 1)).all λp=>decide (p.1<p.2))=rise ns
 | []=>rfl
 | [_]=>rfl
 |a::b::r=>by
  have ih:=Jv (b::r);simp only[List.drop_succ_cons,List.drop_zero,Ĩ,List.all_cons,rise] at ih |-;rw[ih]
def SK (xs ys:List Int):iY (xs.map D.int) (ys.map D.int)=(xs.zip ys).map λp=>D.tup [.int p.1,.int p.2]:=by
 unfold iY;rw[List.zip_map,ķ];rfl
def Jw (h:fa env s=ok [.tup xs,.tup ys] s1):sy fa env s=ok (iY xs ys) s1:=by
 unfold sy;rw[h];rfl
def IJ (hl:ns.length<=1000000):pb [mD ns] s=ok (.bl (rise ns)) s:=by
 refine acE ?_;unfold pb;simp only[VC];have Z:sy (aa (ae 0) (aa (qG (ae 0) (qk (eC (.int 1))) qF) ah)) [some (mD ns)] s=ok (iY (ns.map D.int) ((ns.drop 1).map D.int)) s:=by
  refine Jw (acE ?_);simp only[VC];rw[Kd (i:=1) rfl]
  try simp only[VC]
  refine acD (show rF (mD ns) (some 1) none s=ok (.tup (cutD (ns.map D.int) (some 1) none)) s from rfl) ⟨?_,rfl⟩;rw[Ju,List.map_drop]
 refine acD Z ⟨le_size (by rw[Bq];simp only[Í];omega),?_⟩;rw[SK];refine acD (comp_map (λp:Int×Int=>D.tup [.int p.1,.int p.2]) (λ_=>true) (λp=>.bl (decide (p.1<p.2))) _ λp _=>⟨[some (.int p.1),some (.int p.2)],rfl,rfl,λ_=>rfl⟩) ?_;rw[filter_tt];exact acD (pH _ _ _) ⟨by rw[Jv],rfl⟩
def Rk (h:dG 8 ns):nO [mD ns] s=ok (.bl true) s:=by
 have Y:=h.len;refine acE ?_;unfold nO;simp only[VC];refine acD (show gr [mD ns,.ty "tuple"] s=ok (.bl true) s from rfl) ?_;simp only[VC,Ā];refine acD (lB rfl) ⟨le_size (by rw[Í];omega),?_⟩;refine acD (pk (λ_=>true) (λx=>.bl (decide (0<=x)&&decide (x<8))) ns λn _=>⟨[some (.int n)],rfl,rfl,λ_=>?_⟩) ?_
 ·refine acE ?_
  simp only[VC,Cg,acb]
 ·rw[filter_tt]
  refine acD (pH _ _ _) ?_;have e:(ns.all λx=>decide (0<=x)&&decide (x<8))=true:=by
   rw[ø];intro x Z;have:=h.lo x Z;simp only[Æ,É];omega
  rw[e];simp only[VC,Ā];exact acD (IJ (by omega)) ⟨by rw[Kg h.up],rfl⟩
structure zE (rs:List (List Int)):Prop where
 lo:1<=rs.length
 hi:rs.length<=10
 tQ:∀r∈rs,dG 8 r
abbrev rD (rs:List (List Int)):D:=.tup (rs.map mD)
def V3 (lo:Int) (n:Nat):dE lo n=(Ć n).map λi:Nat=>D.int (lo+i):=rfl
def X1 (rs:List (List Int)) (laid:List Int) (m:Int):Bool:=((Ć laid.length).filter λi=>laid.getD i 0==m).all λi=>sub (rs.getD i []) (rs.getD laid.length [])
def u6 {α:Type} (d:α->D) (p:α->Bool) (h:α->List D) (xs:List α) (hh:∀x∈xs,∃env,g (d x) ox=some env/\t env s=ok (p x) s/\(p x=true->act env s=ok (h x) s)) :
  jY g t act ox (xs.map d) s=ok ((xs.filter p).flatMap h) s:=by
 induction xs with
 |nil=>rfl
 |cons n T ih =>
  obtain⟨env,Y,X,W⟩:=hh n Ð;have ih:=ih λV U=>hh V (Ê _ U);rw[ß];unfold jY;rw[Y];simp only[X,oh,fR]
  cases Z:p n with
  |true=>simp only[Ā,W Z,oh,fR,ih,ž,Z,List.flatMap_cons]
  |false=>simp only[Ì,û,ih,ž,Z]
def Jx :
  Wp (uV nt cap it gd c act env s) Q=Wp (it env s) λds s=>Wp (jY gd c act (Å nt none++iX cap env) ds s) λxs s=>xs.length<=Ø/\Q (.lst xs) s:=by
 unfold uV;simp only[bV,rZ,uw,bw]
def step (rs:List (List Int)) (told:List (List Int)):List (List Int):=told.flatMap λlaid=>([0,1].filter λm=>X1 rs laid m).map λm=>laid++[m]
def gu (h:a.length+b.length<=1000000):cP (mD a) (mD b) s=ok (mD (a++b)) s:=by
 have e:zt (mD a) (mD b)=some (mD (a++b)):=by
  show (if vL (a.map D.int) (b.map D.int)=true then some (D.tup (a.map D.int++b.map D.int)) else none)=_
  have Z:vL (a.map D.int) (b.map D.int)=true:=by
   unfold vL;rw[Í,Í];exact æ (le_size h)
  rw[ã Z];show some (D.tup (a.map D.int++b.map D.int))=some (D.tup ((a++b).map D.int));rw[ń]
 show bY (zt (mD a) (mD b)) s=_;rw[e];rfl
open TK
noncomputable def markB (i:Int):Bool:=decide (0<=i)&&decide (i<8)
noncomputable def kq (i:Int):Bool:=decide (0<=i)&&decide (i<4)
noncomputable def jZ (i:Int):Bool:=decide (0<=i)&&decide (i<31)
def jK (ns:List Int):Bool:=ns.all markB&&rise ns
noncomputable def pR (a b:List Int):Bool:=!(a.any λx=>decide (x∈b))
def fM:Pg->Bool
 | .made m d h l=>kq m&&jZ d&&(jK h&&(jK l&&pR h l))
 | .bu m d k=>kq m&&jZ d&&markB k
def sQ:Pg->Prop
 | .made _ _ h l=>h.length<=1000/\l.length<=1000
 | .bu _ _ _=>True
def UC:gZ (bs.map D.bl)=some bs:=by
 induction bs with
 |nil=>rfl
 |cons b bs ih=>simp only[ß,gZ,ih];rfl
def Jy {α:Type} (p:α->Bool) (xs:List α) (s:af):sF [.lst (xs.map λx=>D.bl (p x))] s=ok (.bl (xs.any p)) s:=by
 have e:gZ (xs.map λx=>D.bl (p x))=some (xs.map p):=by
  have:=UC (bs:=xs.map p);rw[ķ] at this;exact this
 simp only[sF,res,e,bY,Ũ,List.any_map,Ŭ,id]
def Jz (hl:ns.length<=1000):nO [mD ns] s=ok (.bl (jK ns)) s:=by
 refine acE ?_;unfold nO;simp only[VC];refine acD (show gr [mD ns,.ty "tuple"] s=ok (.bl true) s from rfl) ?_;simp only[VC,Ā];refine acD (lB rfl) ⟨le_size (by rw[Í];omega),?_⟩;refine acD (pk (λ_=>true) (λx=>.bl (markB x)) ns λn _=>⟨[some (.int n)],rfl,rfl,λ_=>?_⟩) ?_
 ·refine acE ?_
  simp only[VC,Cg,markB,acb]
 ·rw[filter_tt]
  refine acD (pH _ _ _) ?_;simp only[VC];unfold jK
  cases e:ns.all markB with
  |true =>
   simp only[Ā,Ē];exact acD (IJ (by omega)) ⟨rfl,rfl⟩
  |false=>simp
def UD (ha:a.length<=1000):xu [mD a,mD b] s=ok (.bl (pR a b)) s:=by
 refine acE ?_;unfold xu;simp only[VC];refine acD (lB rfl) ⟨le_size (by rw[Í];omega),?_⟩;refine acD (pk (λ_=>true) (λx=>.bl (decide (x∈b))) a λn _=>⟨[some (.int n),some (mD b)],rfl,rfl,λ_=>?_⟩) ?_
 ·refine acE ?_
  simp only[VC,yi,acb]
 ·rw[filter_tt]
  refine acD (Jy _ _ _) ?_;simp only[VC];exact⟨rfl,trivial⟩
def JA (h1:h.length<=1000) (h2:l.length<=1000):nP [.tup [mD h,mD l]] s=ok (.bl (jK h&&(jK l&&pR h l))) s:=by
 refine acE ?_;unfold nP;simp only[VC];refine acD (show gr [.tup [mD h,mD l],.ty "tuple"] s=ok (.bl true) s from rfl) ?_;simp only[VC,đ,Ì,û];refine acD (show cy [.tup [mD h,mD l]] s=ok (.int 2) s from rfl) ?_;simp only[VC];simp only[VC,ĝ,đ,Ì,û];refine acD (Jz h1) ?_;simp only[VC]
 cases jK h with
 |false=>simp
 |true =>
  simp only[Ā,Ē];refine acD (Jz h2) ?_;simp only[VC]
  cases jK l with
  |false=>simp
  |true =>
   simp only[Ā,Ē];exact acD (UD h1) ⟨rfl,rfl⟩
def BG:nQ [.int i] s=ok (.bl (kq i)) s:=by
 refine acE ?_;unfold nQ;simp only[VC,rb,kq,ŋ]
def C0:nS [.int i] s=ok (.bl (jZ i)) s:=by
 refine acE ?_;unfold nS;simp only[VC,rb,jZ,ŋ]
def nN:cb (.str x) (.str y) s=ok (.bl (decide (x=y))) s:=by
 show ok (D.bl (x==y)) s=_
 by_cases e:x=y<;>simp[e]
def V4:¬ (ĉ "made"=ĉ "mended"):=by decide +kernel
def Ci:¬ (ĉ "mended"=ĉ "made"):=by decide +kernel
def V5 (hf:sQ p):xE [p.d] s=ok (.bl (fM p)) s:=by
 refine acE ?_;unfold xE;have key:∀(a b c d:D),p.d=.tup [a,b,c,d]->gr [p.d,.ty "tuple"] s=ok (.bl true) s/\cy [p.d] s=ok (.int 4) s:=λa b c d e=>by rw[e];exact⟨rfl,rfl⟩
 cases p with
 |made m d h l =>
  obtain⟨Z,Y⟩:=key _ _ _ _ rfl;simp only[VC];refine acD Z ?_;simp only[VC,đ,Ì,û];refine acD Y ?_;simp only[VC];simp only[VC,ĝ,đ,Ì,û,Pg.d];refine acD BG ?_;simp only[VC,fM]
  cases kq m with
  |false=>simp[n6,jJ,jC,iE]
  |true =>
   simp only[đ,Ì,û,Ē];refine acD C0 ?_;simp only[VC]
   cases jZ d with
   |false=>simp[n6,jJ,jC,iE]
   |true =>
    simp only[VC,đ,Ì,û,Ē];refine acD nN ?_;simp only[VC,Ľ,Ā];exact acD (JA hf.1 hf.2) ⟨rfl,rfl⟩
 |bu m d k =>
  obtain⟨Z,Y⟩:=key _ _ _ _ rfl;simp only[VC];refine acD Z ?_;simp only[VC,đ,Ì,û];refine acD Y ?_;simp only[VC];simp only[VC,ĝ,đ,Ì,û,Pg.d];refine acD BG ?_;simp only[VC,fM]
  cases kq m with
  |false=>simp[n6,jJ,jC,iE]
  |true =>
   simp only[đ,Ì,û,Ē];refine acD C0 ?_;simp only[VC]
   cases jZ d with
   |false=>simp[n6,jJ,jC,iE]
   |true =>
    simp only[VC,đ,Ì,û,Ē];refine acD nN ?_;simp only[VC,ć Ci,Ì,û];refine acD nN ?_;simp only[VC,Ľ,Ā];exact acD Cg ⟨rfl,rfl⟩
abbrev bD (ps:List Pg):D:=.tup (ps.map Pg.d)
def X2:kM p.d q.d s=ok (.bl (ff.lt p q)) s:=by
 unfold kM;rw[ã (by rw[pN _ (kB p),pN _ (kB q)];simp only[Ĝ,Ē,É];have:=CO p;omega),Mg];rfl
noncomputable def yY (ps:List Pg):Bool:=(ps.zip (ps.drop 1)).all λp=>ff.lt p.1 p.2
def UE (xs ys:List Pg):iY (xs.map Pg.d) (ys.map Pg.d)=(xs.zip ys).map λp=>D.tup [p.1.d,p.2.d]:=by
 unfold iY;rw[List.zip_map,ķ];rfl
def Rl (hl:ps.length<=1000):pb [bD ps] s=ok (.bl (yY ps)) s:=by
 refine acE ?_;unfold pb;simp only[VC];have Z:sy (aa (ae 0) (aa (qG (ae 0) (qk (eC (.int 1))) qF) ah)) [some (bD ps)] s=ok (iY (ps.map Pg.d) ((ps.drop 1).map Pg.d)) s:=by
  refine Jw (acE ?_);simp only[VC];rw[Kd (i:=1) rfl]
  try simp only[VC]
  refine acD (show rF (bD ps) (some 1) none s=ok (.tup (cutD (ps.map Pg.d) (some 1) none)) s from rfl) ⟨?_,rfl⟩;rw[Ju,List.map_drop]
 refine acD Z ⟨le_size (by rw[Bq];simp only[Í];omega),?_⟩;rw[UE];refine acD (comp_map (λp:Pg×Pg=>D.tup [p.1.d,p.2.d]) (λ_=>true) (λp=>.bl (ff.lt p.1 p.2)) _ λp _=>⟨[some p.1.d,some p.2.d],rfl,rfl,λ_=>?_⟩) ?_
 ·refine acE ?_
  simp only[VC,X2,ŋ]
 rw[filter_tt];exact acD (pH _ _ _) ⟨rfl,rfl⟩
def kD (ps:List Pg):Bool:=decide (ps.length<=24)&&(ps.all fM&&yY ps)
def V6 (hl:ps.length<=1000) (hf:∀p∈ps,sQ p):xA [bD ps] s=ok (.bl (kD ps)) s:=by
 refine acE ?_;unfold xA kD;simp only[VC];refine acD (show gr [bD ps,.ty "tuple"] s=ok (.bl true) s from rfl) ?_;simp only[VC,Ā];refine acD (show cy [bD ps] s=ok (.int ps.length) s from by show ok (D.int (ps.map Pg.d).length) s=_;rw[Í]) ?_;simp only[VC];by_cases h:ps.length<=24
 ·have Z:(ps.length:Int)<=24:=by omega
  simp only[h,Z,Ľ,Ā,Ē];refine acD (lB rfl) ⟨le_size (by rw[Í];omega),?_⟩;refine acD (comp_map Pg.d (λ_=>true) (λp=>.bl (fM p)) ps λp Y=>⟨[some p.d],rfl,rfl,λ_=>?_⟩) ?_
  ·refine acE ?_
   simp only[VC,V5 (hf p Y),ŋ]
  ·rw[filter_tt]
   refine acD (pH _ _ _) ?_;simp only[VC]
   cases ps.all fM with
   |false=>simp
   |true =>
    simp only[Ā,Ē];exact acD (Rl hl) ⟨rfl,rfl⟩
 ·have Z:¬ (ps.length:Int)<=24:=by omega
  simp[h,Z]
noncomputable def _root_.TK.Pg.day:Pg->Int
 | .made _ d _ _=>d
 | .bu _ d _=>d
noncomputable def w9 (m k:Int):Pg->Bool
 | .made Z _ h _=>decide (Z=m)&&decide (k∈h)
 |_=>false
noncomputable def xa (m k:Int):Pg->Bool
 | .made Z _ _ l=>decide (Z=m)&&decide (k∈l)
 |_=>false
noncomputable def tR (m k:Int):Pg->Bool
 | .bu Z _ Y=>decide (Z=m)&&decide (Y=k)
 |_=>false
def shown (ps:List Pg) (m k:Int):List Int:=(ps.filter (w9 m k)).map Pg.day
def lF (ps:List Pg) (m k:Int):List Int:=(ps.filter (xa m k)).map Pg.day
def jL (ps:List Pg) (m k:Int):List Int:=(ps.filter (tR m k)).map Pg.day
noncomputable abbrev lI (ns:List Int):D:=.lst (ns.map D.int)
def j8 (a b c d:D) (s:af):aA (.tup [a,b,c,d]) (.int 0) s=ok a s/\aA (.tup [a,b,c,d]) (.int 1) s=ok b s/\aA (.tup [a,b,c,d]) (.int 2) s=ok c s/\aA (.tup [a,b,c,d]) (.int 3) s=ok d s:=⟨rfl,rfl,rfl,rfl⟩
def Oj (a b:D) (s:af):aA (.tup [a,b]) (.int 0) s=ok a s/\aA (.tup [a,b]) (.int 1) s=ok b s:=⟨rfl,rfl⟩
def F8 (p:Pg) (s:af):aA p.d (.int 1) s=ok (.int (match p with | .made m _ _ _=>m | .bu m _ _=>m)) s/\aA p.d (.int 2) s=ok (.int p.day) s:=by cases p<;>exact⟨rfl,rfl⟩
def Kh (hl:ps.length<=1000):lu [bD ps,.int m,.int k,.int 0] s=ok (lI (shown ps m k)) s/\lu [bD ps,.int m,.int k,.int 1] s=ok (lI (lF ps m k)) s:=by
 constructor
 ·refine acE ?_
  unfold lu;simp only[VC];refine acD (lB rfl) ⟨le_size (by rw[Í];omega),?_⟩;refine acD (comp_map Pg.d (w9 m k) (λp=>.int p.day) ps λp Y=>⟨[some p.d,some (.int m),some (.int k),some (.int 0)],rfl,?_,λ_=>?_⟩) ?_
  ·refine acE ?_
   cases p with
   |made Z d h l =>
    simp only[VC,Pg.d];rw[(j8 _ _ _ _ s).1];simp only[VC,nN,Ľ,Ā];rw[(j8 _ _ _ _ s).2.1];simp only[VC,w9];by_cases e:Z=m
    ·simp only[e,ĝ,Ā,Ľ,Ē]
     rw[(j8 _ _ _ _ s).2.2.2];simp only[VC];rw[(Oj _ _ s).1];simp only[VC];refine acD (yi (ns:=h)) ?_;simp only[VC,ŋ]
    ·simp[e]
   |bu Z d X =>
    simp only[VC,Pg.d];rw[(j8 _ _ _ _ s).1];simp only[VC,nN,ć Ci,Ì,û,w9,ŋ]
  ·refine acE ?_
   simp only[VC,(F8 p s).2,ŋ]
  ·simp only[shown,lI,ķ,Ŭ,ŋ]
 ·refine acE ?_
  unfold lu;simp only[VC];refine acD (lB rfl) ⟨le_size (by rw[Í];omega),?_⟩;refine acD (comp_map Pg.d (xa m k) (λp=>.int p.day) ps λp Y=>⟨[some p.d,some (.int m),some (.int k),some (.int 1)],rfl,?_,λ_=>?_⟩) ?_
  ·refine acE ?_
   cases p with
   |made Z d h l =>
    simp only[VC,Pg.d];rw[(j8 _ _ _ _ s).1];simp only[VC,nN,Ľ,Ā];rw[(j8 _ _ _ _ s).2.1];simp only[VC,xa];by_cases e:Z=m
    ·simp only[e,ĝ,Ā,Ľ,Ē]
     rw[(j8 _ _ _ _ s).2.2.2];simp only[VC];rw[(Oj _ _ s).2];simp only[VC];refine acD (yi (ns:=l)) ?_;simp only[VC,ŋ]
    ·simp[e]
   |bu Z d X =>
    simp only[VC,Pg.d];rw[(j8 _ _ _ _ s).1];simp only[VC,nN,ć Ci,Ì,û,xa,ŋ]
  ·refine acE ?_
   simp only[VC,(F8 p s).2,ŋ]
  ·simp only[lF,lI,ķ,Ŭ,ŋ]
def V7 (hl:ps.length<=1000):qU [bD ps,.int m,.int k] s=ok (lI (jL ps m k)) s:=by
 refine acE ?_;unfold qU;simp only[VC];refine acD (lB rfl) ⟨le_size (by rw[Í];omega),?_⟩;refine acD (comp_map Pg.d (tR m k) (λp=>.int p.day) ps λp X=>⟨[some p.d,some (.int m),some (.int k)],rfl,?_,λ_=>?_⟩) ?_
 ·refine acE ?_
  cases p with
  |bu Z d Y =>
   simp only[VC,Pg.d];rw[(j8 _ _ _ _ s).1];simp only[VC,nN,Ľ,Ā];rw[(j8 _ _ _ _ s).2.1];simp only[VC,tR];by_cases e:Z=m
   ·simp only[e,ĝ,Ā,Ľ,Ē]
    rw[(j8 _ _ _ _ s).2.2.2];simp only[VC]
    by_cases e:Y=k<;>simp[e]
   ·simp[e]
  |made Z d h l =>
   simp only[VC,Pg.d];rw[(j8 _ _ _ _ s).1];simp only[VC,nN,ć V4,Ì,û,tR,ŋ]
 ·refine acE ?_
  simp only[VC,(F8 p s).2,ŋ]
 ·simp only[jL,lI,ķ,Ŭ,ŋ]
def rQ (h:n<=1000):n<=Ø:=le_size (by omega)
def Mv:eI (.int x) (lI ns) s=ok (.bl (decide (x∈ns))) s:=by
 show eI (.int x) (mD ns) s=_;exact yi
def JB:gF (.int x) (lI ns) s=ok (.bl (!decide (x∈ns))) s:=by
 show gF (.int x) (mD ns) s=_;exact HW
noncomputable def EG (ds:List Int) (a b:Int):Bool:=ds.any λx=>decide (a<x)&&decide (x<=b)
def SM (hl:ds.length<=1000):xm [lI ds,.int a,.int b] s=ok (.bl (EG ds a b)) s:=by
 refine acE ?_;unfold xm;simp only[VC];refine acD (nT rfl) ⟨rQ (by rw[Í];omega),?_⟩;refine acD (pk (λ_=>true) (λx=>.bl (decide (a<x)&&decide (x<=b))) ds λn _=>⟨[some (.int n),some (.int a),some (.int b)],rfl,rfl,λ_=>?_⟩) ?_
 ·refine acE ?_
  simp only[VC]
  by_cases e:a<n<;>simp[e,bw,u4,gH,gG]
 ·rw[filter_tt]
  exact acD (Jy _ _ _) ⟨rfl,rfl⟩
def xb (ps:List Pg) (m k d l:Int):Bool:=(decide (l∈lF ps m k)||(decide (l=d)&&decide (d∈jL ps m k)))&&!EG (jL ps m k) d l
noncomputable def pS (d:Int):List Int:=(Ć (31-d).toNat).map λi:Nat=>d+(i:Int)
def mL (ps:List Pg) (m k:Int):List (Int×Int):=(dI (shown ps m k)).flatMap λd=>((pS d).filter (xb ps m k d)).map λl=>(d,l)
def xS {ps:List Pg} {f:Pg->Bool}:((ps.filter f).map Pg.day).length<=ps.length:=by rw[Í];exact ab0 _ _
theorem uy {α β:Type} {f:α->List β} {b:Nat}:∀{l:List α},(∀x∈l,(f x).length<=b)->(l.flatMap f).length<=l.length*b
 | [],_=>by simp
 |x::l,h=>by
  rw[List.flatMap_cons,ó,á,Nat.succ_mul];have Y:=h x Ð;have X:=uy (l:=l) λy Z=>h y (Ê _ Z);omega
def HX (d:Int) (h:0<=d):(pS d).length<=31:=by unfold pS;rw[Í,List.length_range];omega
structure qq (ps:List Pg):Prop where
 len:ps.length<=24
 lo:∀p∈ps,0<=p.day/\p.day<31
def qq.of (h:qq ps) (hx:x∈(ps.filter f).map Pg.day):0<=x/\x<31:=by
 obtain⟨p,Z,rfl⟩:=ċ.mp hx;exact h.lo p (ĕ.mp Z).1
def Rm {ps:List Pg} {m k:Int} {s:af} (h:qq ps):uh [bD ps,.int m,.int k] s=ok (.lst ((mL ps m k).map λp=>D.tup [.int p.1,.int p.2])) s:=by
 have Y:=h.len;have S:(shown ps m k).length<=24:=Þ xS Y;have R:(lF ps m k).length<=24:=Þ xS Y;have Q:(jL ps m k).length<=24:=Þ xS Y;refine acE ?_;unfold uh;simp only[VC];refine acD (Kh (by omega)).2 ?_;refine acD (V7 (by omega)) ?_;rw[Jx];have hs:ck (e1 mE (az lu (aa (ae 0) (aa (ae 1) (aa (ae 2) (aa (eC (.int (0))) ah)))))) [some (bD ps),some (.int m),some (.int k),some (lI (lF ps m k)),some (lI (jL ps m k))] s=ok ((dI (shown ps m k)).map D.int) s:=by
  refine nT (acE ?_);simp only[VC];refine acD (Kh (by omega)).1 ?_;refine acD (show mE (lI (shown ps m k)) s=ok (lI (dI (shown ps m k))) s from ?_) ⟨rfl,rfl⟩;unfold mE;simp only[Iv];rw[ã (by have:=xD (shown ps m k);rw[É];omega)]
 refine acD hs ?_;have day:∀d∈dI (shown ps m k),0<=d/\d<31:=λd Z=>h.of (ra.mp Z);refine acD (u6 D.int (λ_=>true) (λd=>((pS d).filter (xb ps m k d)).map λl=>D.tup [.int d,.int l]) _ λd Z=>⟨[some (.int d),none,some (lI (lF ps m k)),some (lI (jL ps m k))],rfl,rfl,λ_=>?_⟩) ?_
 ·have Z:=day d Z
  unfold more;rw[X0 (i:=d) (j:=31) rfl (by omega) (by omega) (by omega) (by omega),fR];have T:dE d (31-d).toNat=(pS d).map D.int:=by unfold pS;rw[V3,ķ];rfl
  rw[T];rw[u6 D.int (xb ps m k d) (λl=>[D.tup [.int d,.int l]]) (pS d) λl Y=>⟨[some (.int d),some (.int l),some (lI (lF ps m k)),some (lI (jL ps m k))],rfl,?_,λ_=>?_⟩]
  ·rw[<- List.map_eq_flatMap]
  ·refine acE ?_
   simp only[VC,Mv];unfold xb;have X:=SM (ds:=jL ps m k) (a:=d) (b:=l) (s:=s) (by omega);by_cases W:l∈lF ps m k
   ·simp only[VC,W,Ľ,Ā,Bool.true_or,Ē]
    exact acD X (by simp only[VC,ŋ])
   ·simp only[W,decide_false,Ì,û,Bool.false_or]
    by_cases V:l=d
    ·subst V
     simp only[VC,ĝ,Ā,Ľ,Ē];by_cases U:l∈jL ps m k
     ·simp only[U,Ľ,Ā,Ē]
      exact acD X (by simp only[VC,ŋ])
     ·simp[U]
    ·simp[V]
  ·refine acE ?_
   unfold emit;rw[bV];simp only[VC];exact⟨by decide,trivial⟩
 ·rw[filter_tt]
  refine⟨?_,?_,rfl⟩
  ·refine rQ (Þ (uy (b:=31) λd Z=>?_) ?_)
   ·rw[Í]
    exact Þ (ab0 _ _) (HX d (day d Z).1)
   ·have:=xD (shown ps m k)
    have:(dI (shown ps m k)).length<=24:=by omega
    omega
  ·unfold mL
   simp only[List.map_flatMap,ķ,Ŭ]
noncomputable def m4:List Int:=(Ć 4).map λi:Nat=>(i:Int)
noncomputable def k8:List Int:=(Ć 8).map λi:Nat=>(i:Int)
def n9 (ps:List Pg):List (Int×Int×Int×Int):=m4.flatMap λm=>k8.flatMap λk=>(mL ps m k).map λp=>(m,k,p.1,p.2)
noncomputable def fD (p:Int×Int×Int×Int):D:=.tup [.int p.1,.int p.2.1,.int p.2.2.1,.int p.2.2.2]
def SN {ps:List Pg} (h:qq ps) (m k:Int):(mL ps m k).length<=744:=by
 have Y:(shown ps m k).length<=24:=Þ xS h.len;have:=xD (shown ps m k);refine Þ (uy (b:=31) λd Z=>?_) (by omega);rw[Í];exact Þ (ab0 _ _) (HX d (h.of (ra.mp Z)).1)
def SO {ps:List Pg} {s:af} (h:qq ps):xw [bD ps] s=ok (.lst ((n9 ps).map fD)) s:=by
 refine acE ?_;unfold xw;simp only[kC,jC,jJ,ß,Ě,ā,ė,á,ý,Å,acb,Nat.reduceSub,Nat.reduceAdd];rw[Jx];refine acD (lE (n:=4) rfl (by decide)) ?_;have Z:dE 0 4=m4.map D.int:=rfl;have Y:dE 0 8=k8.map D.int:=rfl;rw[Z];refine acD (u6 D.int (λ_=>true) (λm=>k8.flatMap λk=>(mL ps m k).map λp=>fD (m,k,p.1,p.2)) m4 λm X=>⟨[some (.int m),none,none,none,some (bD ps)],rfl,rfl,λ_=>?_⟩) ?_
 ·unfold more
  rw[lE (n:=8) rfl (by decide),fR,Y];rw[u6 D.int (λ_=>true) (λk=>(mL ps m k).map λp=>fD (m,k,p.1,p.2)) k8 λk W=>⟨[some (.int m),some (.int k),none,none,some (bD ps)],rfl,rfl,λ_=>?_⟩]
  ·rw[filter_tt]
  ·have hi:ck (az uh (aa (ae 4) (aa (ae 0) (aa (ae 1) ah)))) [some (.int m),some (.int k),none,none,some (bD ps)] s=ok ((mL ps m k).map λp=>D.tup [.int p.1,.int p.2]) s:=by
    refine nT (acE ?_);simp only[VC];exact acD (Rm h) ⟨rfl,rfl⟩
   rw[hi,fR];rw[u6 (λp:Int×Int=>D.tup [.int p.1,.int p.2]) (λ_=>true) (λp=>[fD (m,k,p.1,p.2)]) (mL ps m k) λp V=>⟨[some (.int m),some (.int k),some (.int p.1),some (.int p.2),some (bD ps)],rfl,rfl,λ_=>?_⟩]
   ·rw[filter_tt,<- List.map_eq_flatMap]
   ·refine acE ?_
    unfold emit;rw[bV];simp only[VC];exact⟨by decide,rfl,trivial⟩
 ·rw[filter_tt]
  refine⟨?_,?_,rfl⟩
  ·refine le_size (Þ (uy (b:=8*744) λm X=>?_) (by decide))
   refine Þ (uy (b:=744) λk W=>?_) (by decide);rw[Í];exact SN h m k
  ·unfold n9
   simp only[List.map_flatMap,ķ,Ŭ]
def gL (ps:List Pg):Bool:=kD ps&&(n9 ps).isEmpty
def IK (h:kD ps=true):qq ps:=by
 unfold kD at h;simp only[Æ,É,ø] at h;refine⟨h.1,λp Z=>?_⟩;have:=h.2.1 p Z
 cases p<;>simp only[fM,jZ,Æ,É] at this<;>exact this.1.2
def V8 (hl:ps.length<=1000) (hf:∀p∈ps,sQ p):ph [bD ps] s=ok (.bl (gL ps)) s:=by
 refine acE ?_;unfold ph;simp only[VC];refine acD (V6 hl hf) ?_;simp only[VC];unfold gL
 cases h:kD ps with
 |false=>simp
 |true =>
  simp only[Ā,Ē];unfold DA;simp only[VC,bV];refine acD (SO (IK h)) ?_;refine acD (show truth (.lst ((n9 ps).map fD)) s=ok (!((n9 ps).map fD).isEmpty) s from rfl) ?_;simp only[bw];refine⟨?_,trivial⟩
  cases n9 ps<;>rfl
def X3:m∈k8↔0<=m/\m<8:=by
 unfold k8;rw[ċ];constructor
 ·rintro ⟨i,hi,rfl⟩
  have:=Ġ.mp hi;omega
 ·rintro ⟨Z,Y⟩
  exact⟨m.toNat,Ġ.mpr (by omega),by omega⟩
theorem Ki:∀{ns:List Int},rise ns=true->ns.Pairwise (· < ·)
 | [],_=>.nil
 | [a],_=>by simp
 |a::b::r,h=>by
  simp only[rise,Æ,É] at h;have ih:=Ki h.2;refine ô.mpr ⟨λx hx=>?_,ih⟩
  rcases Ò.mp hx with rfl|hx
  ·exact h.1
  ·have:=(ô.mp ih).1 x hx
   omega
def HY (h:jK ns=true):dG 8 ns:=by
 unfold jK at h;rw[Æ,ø] at h;refine⟨λx Z=>?_,Ki h.2⟩;have:=h.1 x Z;unfold markB at this;simp only[Æ,É] at this;exact this
def xB (h:dG n ns) (hn:n<=8):jK ns=true:=by
 unfold jK;rw[Æ,ø];refine⟨λx Z=>?_,Kg h.up⟩;have:=h.lo x Z;unfold markB;simp only[Æ,É];omega
theorem dG.filter (h:dG n ns) (p:Int->Bool):dG n (ns.filter p):=⟨λx Z=>h.lo x (ĕ.mp Z).1,h.up.filter p⟩
def SQ (hm:0<=m/\m<4) (hd:0<=d/\d<31) (hk:0<=k/\k<8):fM (.bu m d k)=true:=by
 simp only[fM,kq,jZ,markB,Æ,É];omega
def SR (hm:0<=m/\m<4) (hd:0<=d/\d<31) (h1:dG n h) (h2:dG n l) (hn:n<=8) (ha:∀x∈h,x∉l):fM (.made m d h l)=true:=by
 simp only[fM,kq,jZ,Æ,É,pR,Ķ,abO];exact⟨⟨hm,hd⟩,xB h1 hn,xB h2 hn,ha⟩
def fF (W:ù) (R:Pg->Prop) (s:af) (j n:Nat):Prop:=∃Z:List Pg,s[j]?=some (.dT (Z.map λp=>(p.d,hs W p.d)))/\(Z.Nodup/\∀p∈Z,R p)/\Z.length<=n
def fF.lt (h:fF W R s j n):j<s.length:=by
 obtain⟨Z,e,_⟩:=h;exact(Ã.mp e).1
def fF.ex (h:fF W R s j n) (x:Ex k s s') (hj:j≠k):fF W R s' j n:=by
 have Z:=h.lt;obtain⟨Y,e,r⟩:=h;exact⟨Y,(x.val j Z hj).trans e,r⟩
def fF.more (h:fF W R s j n) (hm:n<=m):fF W R s j m:=by
 obtain⟨Z,e,r,l⟩:=h;exact⟨Z,e,r,by omega⟩
def fF.app (h:fF W R s j n) (c:List Cell):fF W R (s++c) j n:=by
 have Z:=h.lt;obtain⟨Y,e,r⟩:=h;exact⟨Y,by rw[Ü Z];exact e,r⟩
theorem fF.set (h:fF W R s j n) (hi:i≠j) (c:Cell):fF W R (s.set i c) j n:=by
 obtain⟨Z,e,r⟩:=h;exact⟨Z,by rw[Ï hi];exact e,r⟩
def fF.mono (h:fF W R s j n) (hR:∀p,R p->R' p):fF W R' s j n:=by
 obtain⟨Z,e,r,l⟩:=h;exact⟨Z,e,⟨r.1,λp Y=>hR p (r.2 p Y)⟩,l⟩
def Ex.qO (h:Ex k s s') (hj:s.length<=j) (c:Cell):Ex k s (s'.set j c) :=
 ⟨by rw[î];exact h.len,λi hi Z=>by rw[Ï (by omega)];exact h.val i hi Z⟩
def pI (p:Pg):∃ks,p.d=.tup ks/\de ks=true/\dC ks<=6:=by
 have Z:=kB p;have Y:=CO p;obtain⟨x,r,e⟩:=Jn p;rw[e] at Z Y;simp only[kd,dep] at Z Y;exact⟨_,e,Z,by omega⟩
def Lo (W:ù) (ps:List Pg):(ps.map λp=>(p.d,hs W p.d)).all (keyOk W)=true:=by
 rw[List.all_map,ø];intro p _;obtain⟨X,e,Z,Y⟩:=pI p;simp only[Function.comp,keyOk];rw[e];simp only[Z,æ Y,Ľ,Ĝ]
def X4 (h:fF W R s j n) (hf:R p) (hn:n<1000):∃c,kN W (.aj j) p.d (.bl true) s=some (s.set j c)/\fF W R (s.set j c) j (n+1):=by
 have T:=h.lt;obtain⟨Z,e,X,len⟩:=h;obtain⟨Q,V,P,O⟩:=pI p;have S:=Lo W Z;generalize Y:(Z.map λp=>(p.d,hs W p.d))=U at e S;have K:U.length=Z.length:=by rw[<- Y,Í]
 refine⟨.dT (TK.gu W U (.tup Q)),?_,?_⟩
 ·rw[V]
  unfold kN;simp only[e];rw[ã];rw[P,æ O,S,æ (È (show U.length<1000 by omega) (le_size (by decide)))];rfl
 ·unfold TK.gu
  split
  ·exact⟨Z,by rw[Y];exact Ó T,X,by omega⟩
  ·rename_i N
   refine⟨Z++[p],?_,⟨ψ.mpr ⟨X.1,by simp,λa M b L=>?_⟩,λq hq=>?_⟩,by simp;omega⟩
   ·rw[Ó T,ń,Y]
    simp only[ß,Ě,V]
   ·rw[õ.mp L]
    rintro rfl;refine N (Ŝ.mpr ⟨(a.d,hs W a.d),?_,?_⟩)
    ·rw[<- Y];exact ċ.mpr ⟨a,M,rfl⟩
    ·rw[<- V];exact(rG _ _ (kB a) (kB a)).mpr rfl
   ·rcases è.mp hq with hq|hq
    ·exact X.2 q hq
    ·rw[õ.mp hq];exact hf
def Kj:Wp (mY W f fo fi env s) QF=Wp (f env s) λx s=>Wp (fo env s) λd s=>Wp (fi env s) λn s=>∃s',kN W d n x s=some s'/\QF (.nx env) s':=by
 unfold mY;simp only[bV];congr 1;funext x s;congr 1;funext d s;congr 1;funext n s
 cases kN W d n x s with
 |none=>exact propext ⟨λ⟨_,_,e,_⟩=>(by cases e),λ⟨_,e,_⟩=>(by cases e)⟩
 |some s'=>exact propext ⟨λh=>⟨s',rfl,by simpa only [bw] using h⟩,λ⟨t,e,h⟩=>by cases e;simpa only [bw] using h⟩
def V9:Wp (yS env s) Q=Q (.aj s.length) (s++[.dT []]):=by unfold yS;rw[bw]
theorem Kk:∀{ps:List Pg},ps.Pairwise (λa b=>ff.lt a b=true)->yY ps=true
 | [],_=>rfl
 | [a],_=>rfl
 |a::b::r,h=>by
  obtain⟨Z,Y⟩:=ô.mp h;have ih:=Kk Y;unfold yY at ih |-;simp only[List.drop_succ_cons,List.drop_zero,Ĩ,List.all_cons,Æ] at ih |-;exact⟨Z b Ð,ih⟩
def UG (h:ps.Nodup):(ST.jO ff ps).Pairwise λa b=>ff.lt a b=true:=by
 have Y:=ST.Jk (O:=ff) ps;have X:(ST.jO ff ps).Nodup:=(ST.ua ps).nodup_iff.mpr h;refine(Y.and X).imp λ{a b} Z=>?_
 cases W:ff.lt a b with
 |true=>rfl
 |false=>exact(Z.2 (ff.wU a b W Z.1)).elim
def Wp.ZA (h:Wp (fa env s) λds s=>∃x y z,ds=[x,y,z]/\QF (.nx (((env.set i (some x)).set j (some y)).set k (some z))) s):Wp (zA i j k fa env s) QF:=by
 unfold zA;refine Wp.ak (h.mono λds s ⟨x,y,z,e,q⟩=>?_);subst e;exact Wp.ok q
abbrev PGB (p:Pg):Prop:=fM p=true
structure Laid (ps:List Pg):Prop where
 pg:∀p∈ps,fM p=true
 up:ps.Pairwise λa b=>ff.lt a b=true
theorem Laid.kD (h:Laid ps) (hl:ps.length<=24):kD ps=true:=by
 unfold DI.kD;rw[æ hl,ø.mpr h.pg,Kk h.up];rfl
def Laid.sub (h:Laid ps) (hs:qs.Sublist ps):Laid qs:=⟨λp Z=>h.pg p (hs.subset Z),h.up.sublist hs⟩
def iO (s:af) (j n:Nat):Prop:=∃Z:List Int,s[j]?=some (.lst (Z.map D.int))/\Z.length<=n
def iO.lt (h:iO s j n):j<s.length:=by
 obtain⟨Z,e,_⟩:=h;exact(Ã.mp e).1
def iO.ex (h:iO s j n) (x:Ex k s s') (hj:j≠k):iO s' j n:=by
 have Z:=h.lt;obtain⟨Y,e,r⟩:=h;exact⟨Y,(x.val j Z hj).trans e,r⟩
theorem iO.set (h:iO s j n) (hi:i≠j) (c:Cell):iO (s.set i c) j n:=by
 obtain⟨Z,e,r⟩:=h;exact⟨Z,by rw[Ï hi];exact e,r⟩
def iO.app (h:iO s j n) (c:List Cell):iO (s++c) j n:=by
 have Z:=h.lt;obtain⟨Y,e,r⟩:=h;exact⟨Y,by rw[Ü Z];exact e,r⟩
structure Lf (md:List Int) (b:Bool) (n:Nat) (ns:List Int):Prop where
 len:ns.length<=n
 lo:∀d∈ns,0<=d/\d<n/\d∉md
 on:∀d∈ns,d+1<n->d+1∉md->d+1∈ns
 la:0<n->(n:Int)-1∈ns->b=true
def Lf.put (h:Lf md b n ns) (hn:(n:Int)∉md):Lf md true (n+1) (ns++[(n:Int)]):=by
 refine⟨by rw[ó,abW];have:=h.len;omega,λd hd=>?_,λd hd Z Y=>?_,λ_ _=>rfl⟩
 ·rcases è.mp hd with hd|hd
  ·have:=h.lo d hd
   exact⟨this.1,by omega,this.2.2⟩
  ·rw[õ.mp hd]
   exact⟨by omega,by omega,hn⟩
 ·rcases è.mp hd with hd|hd
  ·by_cases e:d+1=n
   ·exact è.mpr (.inr (õ.mpr e))
   ·exact è.mpr (.inl (h.on d hd (by omega) Y))
  ·rw[õ.mp hd] at Z
   omega
def Lf.pass (h:Lf md b n ns) (hn:b=true->(n:Int)∈md):Lf md false (n+1) ns:=by
 refine⟨by have:=h.len;omega,λd Z=>?_,λd Z X Y=>?_,λ_ Z=>?_⟩
 ·have:=h.lo d Z
  exact⟨this.1,by omega,this.2.2⟩
 ·by_cases e:d+1=n
  ·exfalso
   have W:=(h.lo d Z).1;have:=h.la (by omega) (by rw[show (n:Int)-1=d by omega];exact Z);exact Y (by rw[e];exact hn this)
  ·exact h.on d Z (by omega) Y
 ·have:=h.lo _ Z
  omega
def IL {j:Nat} {x:Int} {ns:List Int} (e:s[j]?=some (.lst (ns.map D.int))):gF (.int x) (.aj j) s=ok (.bl (!decide (x∈ns))) s:=by
 have Z:gF (.int x) (.aj j) s=gF (.int x) (lI ns) s:=by simp only[gF,qb,res,e]
 exact Z.trans JB
def Kl (e:s[j]?=some (.lst (ns.map D.int))) (hn:ns.length<1000):lQ (.aj j) s=true/\lP (.aj j) (.int x) s=ok .au (s.set j (.lst ((ns++[x]).map D.int))):=by
 refine⟨by simp only[lQ,e],?_⟩;unfold lP;simp only[e];rw[ã (by rw[É,Í];exact È hn (le_size (by decide)))];simp
def SU {k m:Nat} {md:List Int} (h:bb s k) (hm:s[m]?=some (.lst (md.map D.int))) (Om:m≠k):Wp (rj [.aj k,.aj m] s) λd s'=>∃(ds:List Int) (b:Bool),d=lI ds/\Lf md b 31 ds/\bb s' k/\Ex k s s':=by
 unfold rj;rw[kC];refine⟨rfl,?_⟩;rw[jD];refine Wp.ZA ?_
 try simp only[VC]
 refine(fQ h (by decide) (by decide)).mono λd t1 F=>?_;obtain⟨t,rfl,r,q,I,e1⟩:=F
 try simp only[VC]
 refine⟨by decide,?_⟩;have Q:t1.length≠k:=by have:=I.lt;omega
 refine(fQ (I.app _) (by decide) (by decide)).mono λd H hd2=>?_;obtain⟨T,rfl,p,o,E,e2⟩:=hd2
 try simp only[VC]
 refine⟨_,_,_,rfl,?_⟩
 try simp only[VC]
 have G:Ex k s H:=e1.trans ((Ex.app k t1 _).trans e2);have C:H[t1.length]?=some (.lst (([]:List Int).map D.int)):=(e2.val t1.length (by simp) Q).trans (by simp);have X:s.length<=t1.length:=e1.len;refine acD (lE (n:=31) rfl (by decide)) ?_;have L:=(Ã.mp hm).1;have K:m≠t1.length:=by omega
 refine Wp.lT (λi env s'=>i<=31->∃b W Y,env=[some (.aj k),some (.aj m),some (.bl b),some (.aj t1.length),some (.int (2+T)),W]/\bb s' k/\s'[t1.length]?=some (.lst (Y.map D.int))/\Lf md b i Y/\s'[m]?=some (.lst (md.map D.int))/\Ex k s s') _ (λ_=>⟨_,_,[],rfl,E,C,⟨acG _,by simp,by simp,by simp⟩,(G.val m L Om).trans hm,G⟩) (λi d env s' P O=>?_) (λenv s' O=>?_)
 ·rw[kg] at P
  split at P
  ·rename_i hi
   cases P;obtain⟨b,W,Y,rfl,g1,g2,gl,g3,N⟩:=O (by omega);refine⟨_,rfl,?_⟩;simp only[VC,ab1];have fin:∀(c:Bool) (Z:af),(c=true->(i:Int)∉md)->(c=false->b=true->(i:Int)∈md)->bb Z k->Z[t1.length]?=some (.lst (Y.map D.int))->Z[m]?=some (.lst (md.map D.int))->Ex k s Z ->
     if c=true then lQ (.aj t1.length) Z=true/\Wp (lP (.aj t1.length) (.int (i:Int)) Z) λx M=>i+1<=31->∃b W Y,([some (.aj k),some (.aj m),some (.bl c),some (.aj t1.length),some (.int (2+T)),some (.int (i:Int))]:Env)=[some (.aj k),some (.aj m),some (.bl b),some (.aj t1.length),some (.int (2+T)),W]/\bb M k/\M[t1.length]?=some (.lst (Y.map D.int))/\Lf md b (i+1) Y/\M[m]?=some (.lst (md.map D.int))/\Ex k s M
     else i+1<=31->∃b W Y,([some (.aj k),some (.aj m),some (.bl c),some (.aj t1.length),some (.int (2+T)),some (.int (i:Int))]:Env)=[some (.aj k),some (.aj m),some (.bl b),some (.aj t1.length),some (.int (2+T)),W]/\bb Z k/\Z[t1.length]?=some (.lst (Y.map D.int))/\Lf md b (i+1) Y/\Z[m]?=some (.lst (md.map D.int))/\Ex k s Z:=λc Z B A S V U R=>by
    cases c with
    |true =>
     obtain⟨y,w⟩:=Kl (x:=(i:Int)) V (by have:=gl.len;omega);rw[ã rfl];exact⟨y,acD w λ_=>⟨_,_,_,rfl,S.set Q _,Ó (Ã.mp V).1,gl.put (B rfl),(Ï (Ŀ K)).trans U,R.qO X _⟩⟩
    |false =>
     rw[í Û];exact λ_=>⟨_,_,_,rfl,S,V,gl.pass (A rfl),U,R⟩
   cases b with
   |true =>
    simp only[Ā];refine acD (IL (x:=(i:Int)) g3) ?_;simp only[pF];exact fin _ s' (by simp) (by simp) g1 g2 g3 N
   |false =>
    simp only[Ì,û];refine(fQ g1 (by omega) (by omega)).mono λd Z hd2=>?_;obtain⟨v,rfl,_,_,S,J⟩:=hd2;have V:=(J.val _ (Ã.mp g2).1 Q).trans g2;have U:=(J.val _ (Ã.mp g3).1 Om).trans g3;have R:=N.trans J;simp only[u5,nW]
    cases (v==0) with
    |true =>
     simp only[Ā];refine acD (IL (x:=(i:Int)) U) ?_;simp only[pF];exact fin _ Z (by simp) (λ_ z=>by cases z) S V U R
    |false =>
     simp only[Ì,û,pF];exact fin false Z (λz=>by cases z) (λ_ z=>by cases z) S V U R
  ·cases P
 ·rw[jA] at O
  obtain⟨b,W,Y,rfl,g1,u,gl,g3,N⟩:=O (acG _);simp only[VC];refine acD (show aR (.aj t1.length) s'=ok (lI Y) (s'.set t1.length .dead) from by simp only[aR,u]) ?_;exact⟨Y,b,rfl,gl,g1.set Q _,N.qO X _⟩
def iO.more (h:iO s j n) (hm:n<=m):iO s j m:=by
 obtain⟨Z,e,l⟩:=h;exact⟨Z,e,by omega⟩
def oY (s:af) (j n:Nat):Prop:=∃ls:List (List Int),s[j]?=some (.lst (ls.map lI))/\ls.length=n
def oY.lt (h:oY s j n):j<s.length:=by
 obtain⟨Z,e,_⟩:=h;exact(Ã.mp e).1
def oY.ex (h:oY s j n) (x:Ex k s s') (hj:j≠k):oY s' j n:=by
 have Z:=h.lt;obtain⟨Y,e,r⟩:=h;exact⟨Y,(x.val j Z hj).trans e,r⟩
theorem oY.set (h:oY s j n) (hi:i≠j) (c:Cell):oY (s.set i c) j n:=by
 obtain⟨Z,e,r⟩:=h;exact⟨Z,by rw[Ï hi];exact e,r⟩
structure BI (W:ù) (k j b n q:Nat) (s0 s:af):Prop where
 st:bb s k
 dict:fF W PGB s j n
 bu:∀i,i<8->iO s (b+i) q
 ext:Ex k s0 s
section
variable {W:ù} {k j b n q:Nat} {s0 s:af}
def BI.draw (h:BI W k j b n q s0 s) (hj:j≠k) (hb:∀i,i<8->b+i≠k) (x:Ex k s s') (hs:bb s' k):BI W k j b n q s0 s' :=
 ⟨hs,h.dict.ex x hj,λi hi=>(h.bu i hi).ex x (hb i hi),h.ext.trans x⟩
def BI.put (h:BI W k j b n q s0 s) (hj:j≠k) (ll:∀i,i<8->b+i≠j) (hl:s0.length<=j) (hf:fM p=true) (hn:n<1000):∃s',kN W (.aj j) p.d (.bl true) s=some s'/\BI W k j b (n+1) q s0 s'/\Ex j s s':=by
 obtain⟨c,e,d⟩:=X4 h.dict hf hn;exact⟨_,e,⟨h.st.set hj c,d,λi hi=>(h.bu i hi).set (Ŀ (ll i hi)) c,h.ext.qO hl c⟩,Ex.set j s c⟩
end
noncomputable def memD (b:Nat):D:=.lst ((Ć 8).map λi:Nat=>D.aj (b+i))
def Lp (h0:0<=i) (h1:i<8):aA (memD b) (.int i) s=ok (.aj (b+i.toNat)) s:=by
 obtain⟨x,e1,e2⟩:=yG (xs:=(Ć 8).map λi:Nat=>D.aj (b+i)) h0 (by simpa using h1);have:x=.aj (b+i.toNat):=by
  rw[ç,Ŵ (by omega)] at e2;exact(acH e2).symm
 subst this;simp only[aA,k9,res,memD,e1,bY]
def Wa (q:Q (memD s.length) (s++Å 8 (.lst []))):Wp (cj 1 [] (cJ (aa (eC (.int 8)) ah)) (gN 0) eR (eNew ah) env s) Q:=by
 rw[uJ];refine acD (lE (n:=8) rfl (by decide)) ⟨by rw[jA];exact le_size (by decide),?_⟩;refine Cd (λi Z W=>Z=(Ć i).map (λx:Nat=>D.aj (s.length+x))/\W=s++Å i (.lst [])) (dE 0 8) ⟨rfl,by simp⟩ (λi d Z W Y X=>?_) λZ W X=>?_
 ·obtain⟨rfl,rfl⟩:=X
  rw[kg] at Y;split at Y
  ·cases Y
   refine⟨[some (.int (0+i))],rfl,?_⟩;refine acD (show eR _ _=ok true _ from rfl) ?_;rw[ã rfl];simp only[rM,eV];refine⟨by decide,?_,?_⟩
   ·rw[List.range_succ,ń]
    simp
   ·rw[List.replicate_succ',į]
  ·cases Y
 ·rw[jA] at X
  obtain⟨rfl,rfl⟩:=X;exact q
def ee (W:ù) (R T:Pg->Prop) (s:af) (j n:Nat):Prop:=∃Z:List Pg,s[j]?=some (.dT (Z.map λp=>(p.d,hs W p.d)))/\(Z.Nodup/\(∀p∈Z,R p)/\∀p,T p->p∈Z)/\Z.length<=n
section
variable {W:ù} {R T:Pg->Prop} {s s':af} {j n k:Nat}
def ee.lt (h:ee W R T s j n):j<s.length:=by
 obtain⟨Z,e,_⟩:=h;exact(Ã.mp e).1
def ee.ex (h:ee W R T s j n) (x:Ex k s s') (hj:j≠k):ee W R T s' j n:=by
 have Z:=h.lt;obtain⟨Y,e,r⟩:=h;exact⟨Y,(x.val j Z hj).trans e,r⟩
def ee.more (h:ee W R T s j n) (hm:n<=m):ee W R T s j m:=by
 obtain⟨Z,e,r,l⟩:=h;exact⟨Z,e,r,by omega⟩
theorem ee.set (h:ee W R T s j n) (hi:i≠j) (c:Cell):ee W R T (s.set i c) j n:=by
 obtain⟨Z,e,r⟩:=h;exact⟨Z,by rw[Ï hi];exact e,r⟩
def ee.mono (h:ee W R T s j n) (hR:∀p,R p->R' p) (hT:∀p,T' p->T p):ee W R' T' s j n:=by
 obtain⟨Y,e,r,l⟩:=h;exact⟨Y,e,⟨r.1,λp Z=>hR p (r.2.1 p Z),λp Z=>r.2.2 p (hT p Z)⟩,l⟩
def Cj (h:ee W R T s j n) (hf:R p) (hn:n<1000):∃c,kN W (.aj j) p.d (.bl true) s=some (s.set j c)/\ee W R (λq=>T q\/q=p) (s.set j c) j (n+1):=by
 have Q:=h.lt;obtain⟨Y,e,Z,len⟩:=h;obtain⟨N,V,M,L⟩:=pI p;have P:=Lo W Y;generalize X:(Y.map λp=>(p.d,hs W p.d))=U at e P;have E:U.length=Y.length:=by rw[<- X,Í]
 refine⟨.dT (TK.gu W U (.tup N)),?_,?_⟩
 ·rw[V]
  unfold kN;simp only[e];rw[ã];rw[M,æ L,P,æ (È (show U.length<1000 by omega) (le_size (by decide)))];rfl
 ·unfold TK.gu
  split
  ·rename_i K
   obtain⟨D,O,J⟩:=Ŝ.mp K;rw[<- X] at O;obtain⟨q,hq,rfl⟩:=ċ.mp O;have eq:q=p:=Pg.Mf ((rG _ _ (kB q) (kB p)).mp (by rw[V];exact J));subst eq;exact⟨Y,by rw[X];exact Ó Q,⟨Z.1,Z.2.1,λI S=>by
    rcases S with S|rfl
    ·exact Z.2.2 I S
    ·exact hq⟩,by omega⟩
  ·rename_i H
   refine⟨Y++[p],?_,⟨ψ.mpr ⟨Z.1,by simp,λa G b F=>?_⟩,λq hq=>?_,λq hq=>?_⟩,by simp;omega⟩
   ·rw[Ó Q,ń,X]
    simp only[ß,Ě,V]
   ·rw[õ.mp F]
    rintro rfl;refine H (Ŝ.mpr ⟨(a.d,hs W a.d),?_,?_⟩)
    ·rw[<- X];exact ċ.mpr ⟨a,G,rfl⟩
    ·rw[<- V];exact(rG _ _ (kB a) (kB a)).mpr rfl
   ·rcases è.mp hq with hq|hq
    ·exact Z.2.1 q hq
    ·rw[õ.mp hq];exact hf
   ·rcases hq with hq|rfl
    ·exact è.mpr (.inl (Z.2.2 q hq))
    ·exact è.mpr (.inr (õ.mpr rfl))
def ee.plain (h:ee W R T s j n):fF W R s j n:=by
 obtain⟨Z,e,r,l⟩:=h;exact⟨Z,e,⟨r.1,r.2.1⟩,l⟩
end
structure BJ (W:ù) (k j b n:Nat) (s0 s:af) (M:Nat->List Int) (R T:Pg->Prop):Prop where
 st:bb s k
 dict:ee W R T s j n
 bu:∀i,i<8->s[b+i]?=some (.lst ((M i).map D.int))
 ext:Ex k s0 s
section
variable {W:ù} {k j b n:Nat} {s0 s:af} {M:Nat->List Int} {R T:Pg->Prop}
def BJ.draw (h:BJ W k j b n s0 s M R T) (hj:j≠k) (hb:∀i,i<8->b+i≠k) (x:Ex k s s') (hs:bb s' k):BJ W k j b n s0 s' M R T :=
 ⟨hs,h.dict.ex x hj,λi hi=>(x.val _ (Ã.mp (h.bu i hi)).1 (hb i hi)).trans (h.bu i hi),h.ext.trans x⟩
def BJ.put (h:BJ W k j b n s0 s M R T) (hj:j≠k) (ll:∀i,i<8->b+i≠j) (hl:s0.length<=j) (hf:R p) (hn:n<1000):∃s',kN W (.aj j) p.d (.bl true) s=some s'/\BJ W k j b (n+1) s0 s' M R (λq=>T q\/q=p)/\Ex j s s':=by
 obtain⟨c,e,d⟩:=Cj h.dict hf hn;exact⟨_,e,⟨h.st.set hj c,d,λi hi=>(Ï (Ŀ (ll i hi))).trans (h.bu i hi),h.ext.qO hl c⟩,Ex.set j s c⟩
def Rn (h:BJ W k j b n s0 s M R T) (hj:j≠k) (hb:∀i,i<8->b+i≠k) (ll:∀i,i<8->b+i≠j) (hl:s0.length<=j) (hlb:s0.length<=b) (hn:n<1000) (hq:∀i,i<8->(M i).length<1000)
 (g:∀(x:Nat) (d:Int) (b8 b9:Option D) (s':af),x<8->0<=d/\d<31->(∀{R':Pg->Prop},(∀p,R p->R' p)->R' (.bu mu d x)->BJ W k j b (n+1) s0 s' (λi=>if i=x then M i++[d] else M i) R' (λq=>T q\/q=.bu mu d x))->(∀t,t<s.length->t≠k->t≠j->(∀i,i<8->b+i≠t)->s'[t]?=s[t]?)->Q (.nx [some (.aj k),some (.aj j),some (.int mo),some (.int of),some (.int mu),some (memD b),a6,a7,b8,b9,oU,oV]) s') :
  Wp ((ao (aN (ba (aa (az bT (aa (ae 0) (aa (eC (.int 8)) ah))) (aa (az bT (aa (ae 0) (aa (eC (.int 31)) ah))) ah))) (gT [(gN 8),(gN 9)])) (ao (bh (gp (e2 aA (ae 5) (ae 8)) (ae 9))) (TK.mY W (eC (.bl true)) (ae 1) (ba (aa (eC (.str "mended")) (aa (ae 4) (aa (ae 9) (aa (ae 8) ah)))))))) [some (.aj k),some (.aj j),some (.int mo),some (.int of),some (.int mu),some (memD b),a6,a7,a8,a9,oU,oV] s) Q:=by
 simp only[VC];refine(fQ h.st (by decide) (by decide)).mono λd t1 H=>?_;obtain⟨N,rfl,G,F,E,e1⟩:=H;refine(fQ E (by decide) (by decide)).mono λd L hd2=>?_;obtain⟨Z,rfl,C,B,A,e2⟩:=hd2;refine⟨by decide,?_⟩
 try simp only[VC]
 refine acD (Lp G F) ?_;obtain⟨y,rfl⟩:∃y:Nat,N=y:=⟨N.toNat,by omega⟩;rw[ē];have Y:y<8:=by omega
 have X:=h.draw hj hb (e1.trans e2) A;obtain⟨z,w⟩:=Kl (x:=Z) (X.bu y Y) (hq y Y);refine⟨z,acD w ?_⟩;have v:=hb y Y;have U:=ll y Y
 have V:BJ W k j b n s0 (L.set (b+y) (.lst ((M y++[Z]).map D.int))) (λi=>if i=y then M i++[Z] else M i) R T:=⟨X.st.set v _,X.dict.set U _,λi hi=>by
  by_cases K:i=y
  ·subst K
   rw[ã rfl];exact Ó (Ã.mp (X.bu i hi)).1
  ·rw[í K,Ï (by omega)]
   exact X.bu i hi,X.ext.qO (by omega) _⟩
 rw[Kj];simp only[VC];refine⟨by decide,?_⟩;obtain⟨c,J,f⟩:=Cj (p:=.bu mu Z y) (R:=λ_=>True) (T:=T) (V.dict.mono (λ_ _=>trivial) λ_ h=>h) trivial hn;refine⟨_,J,g y Z _ _ _ Y ⟨C,B⟩ (λ{R'} u r=>?_) λt o m S l=>?_⟩
 ·obtain⟨I,P,O⟩:=Cj (p:=.bu mu Z y) (R:=R') (T:=T) (V.dict.mono u λ_ h=>h) r hn
  have eq:=acH (J.symm.trans P);rw[eq];exact⟨V.st.set hj I,O,λi hi=>(Ï (Ŀ (ll i hi))).trans (V.bu i hi),V.ext.qO hl I⟩
 ·have e:s.length<=L.length:=(e1.trans e2).len
  rw[Ï (Ŀ S),Ï (l _ Y),(e1.trans e2).val t o m]
end
section
variable (s l m:Nat->Bool)
noncomputable def pr:Nat->Bool
 |0=>s 0
 |d+1=>s (d+1)||(pr d&&!m (d+1))
noncomputable def Oq:Nat->Bool
 |0=>false
 |n+1=>(Oq n||l (30-n))&&!m (30-n)
def br (d:Nat):Bool:=Oq l m (31-d)
def ab (d:Nat):Bool:=br l m (d+1)||(l d||m d)
noncomputable def f0 (d:Nat):Bool:=!s d
noncomputable def t0 (d:Nat):Bool:=!m d&&!l d
def fw:Nat->Bool×Bool
 |0=>(f0 s 0,t0 l m 0)
 |d+1=>(f0 s (d+1)&&((fw d).1||(m (d+1)&&((fw d).1||(fw d).2))),t0 l m (d+1)&&((fw d).1||(fw d).2))
def Ck:Prop:=∀d e,s d=true->d<=e->e<=30->(l e=true\/(e=d/\m d=true))->∃x,d<x/\x<=e/\m x=true
variable {s l m}
section
variable (N:Ck s l m)
include N
end
end
section
variable (ps:List Pg) (m k:Int)
def sN (d:Nat):Bool:=decide ((d:Int)∈shown ps m k)
def lN (d:Nat):Bool:=decide ((d:Int)∈lF ps m k)
def mN (d:Nat):Bool:=decide ((d:Int)∈jL ps m k)
end
def pv (s m:Nat->Bool):Nat->Bool
 |0=>false
 |i+1=>pr s m i
noncomputable def Ak:List Int:=(Ć 31).map λi:Nat=>(i:Int)
noncomputable abbrev iU (F:Nat->Bool):Cell:=.lst ((Ć 32).map λd=>D.bl (F d))
def Wb {α:Type} {n:Nat} {f:Nat->α} {d:Int} (h0:0<=d) (h1:d<n):ef ((Ć n).map f) d=some (f d.toNat):=by
 obtain⟨x,e1,e2⟩:=yG (xs:=(Ć n).map f) h0 (by simpa using h1);rw[ç,Ŵ (by omega)] at e2;rw[e1];exact e2.symm
def Lq {n:Nat} {d:Int} (h0:0<=d) (h1:d<n):gX n d=some d.toNat:=by
 unfold gX;rw[ã h0,ã h1]
abbrev iP (L:Nat->List Int) (n:Nat):List D:=(Ć n).map λx=>lI (L x)
section
variable {W:ù} {k j b n:Nat} {s0 s:af} {M L:Nat->List Int} {R T:Pg->Prop}
def Ro (h:BJ W k j b n s0 s M R T) (hL:s[b+8]?=some (.lst (iP L i))) (hi:i<8) (hj:j≠k) (hb:∀i,i<8->b+i≠k) (lp:b+8≠k) (qQ:b+8≠j) (hlb:s0.length<=b)
 (g:∀(ds:List Int) (c:Bool) s',Lf (M i) c 31 ds->BJ W k j b n s0 s' M R T->s'[b+8]?=some (.lst (iP (λx=>if x=i then ds else L x) (i+1)))->Q (.nx [some (.aj k),some (.aj j),some (.int mo),some (.int of),some (.int mu),some (memD b),some (.aj (b+8)),a7,some (.int i),a9,oU,oV]) s') :
  Wp ((bh (gp (ae 6) (az rj (aa (ae 0) (aa (e2 aA (ae 5) (ae 8)) ah))))) [some (.aj k),some (.aj j),some (.int mo),some (.int of),some (.int mu),some (memD b),some (.aj (b+8)),a7,some (.int i),a9,oU,oV] s) Q:=by
 simp only[VC];refine⟨by simp only[lQ,hL],?_⟩;refine acD (Lp (i:=(i:Int)) (by omega) (by omega)) ?_;rw[ē];refine(SU h.st (h.bu i hi) (hb i hi)).mono λd t1 X=>?_;obtain⟨ds,c,rfl,lf,V,e1⟩:=X;have Z:=h.draw hj hb e1 V;have Y:t1[b+8]?=some (.lst (iP L i)):=(e1.val _ (Ã.mp hL).1 lp).trans hL
 have ap:lP (.aj (b+8)) (lI ds) t1=ok .au (t1.set (b+8) (.lst (iP (λx=>if x=i then ds else L x) (i+1)))):=by
  unfold lP;simp only[Y];rw[ã (by rw[É,Í,List.length_range];exact È (show i<1000 by omega) (le_size (by decide)))];congr 4;unfold iP;rw[List.range_succ,ń];congr 1
  ·refine aci λx U=>?_
   rw[Ġ] at U
   show lI (L x)=lI (if x=i then ds else L x)
   rw[í (by omega)]
  ·simp
 refine acD ap (g ds c _ lf ⟨Z.st.set lp _,Z.dict.set qQ _,λi hi=>(Ï (by omega)).trans (Z.bu i hi),Z.ext.qO (by omega) _⟩ (Ó (Ã.mp Y).1))
def Rp (h:BJ W k j b n s0 s M R T) (hL:s[b+8]?=some (.lst (iP L 8))) (hj:j≠k) (hb:∀i,i<8->b+i≠k) (lp:b+8≠k) (ll:∀i,i<8->b+i≠j) (qQ:b+8≠j) (hl:s0.length<=j) (hn:n<1000) (o1:0<of) (o2:of<=3) (Al:0<=mu/\mu<4)
 (hR:∀(d:Int) (u v:List Int),fM (.made mu d u v)=true->(∀x∈u,d∈L x.toNat)->(∀x∈v,d∉L x.toNat)->R (.made mu d u v))
 (g:∀(b9 gk gn:Option D) (s':af),BJ W k j b (n+1) s0 s' M R T->s'[b+8]?=some (.lst (iP L 8))->Q (.nx [some (.aj k),some (.aj j),some (.int mo),some (.int of),some (.int mu),a5,some (.aj (b+8)),a7,a8,b9,gk,gn]) s') :
  Wp ((ao (aN (az bT (aa (ae 0) (aa (eC (.int 31)) ah))) (gN 9)) (ao (aN (cj 1 [0,3] (cJ (aa (eC (.int 8)) ah)) (gN 0) (aQ (e2 cb (az bT (aa (ae 1) (aa (ae 2) ah))) (eC (.int 0)))) (ae 0)) (gN 10)) (ao (aN (eB gJ (aa (cj 1 [9,6] (ck (ae 10)) (gN 0) (aQ (e2 eI (ae 1) (e2 aA (ae 2) (ae 0)))) (ae 0)) ah)) (gN 11)) (TK.mY W (eC (.bl true)) (ae 1) (ba (aa (eC (.str "made")) (aa (ae 4) (aa (ae 9) (aa (ba (aa (ae 11) (aa (eB gJ (aa (cj 1 [9,6] (ck (ae 10)) (gN 0) (aQ (e2 gF (ae 1) (e2 aA (ae 2) (ae 0)))) (ae 0)) ah)) ah))) ah))))))))) [some (.aj k),some (.aj j),some (.int mo),some (.int of),some (.int mu),a5,some (.aj (b+8)),a7,a8,a9,oU,oV] s) Q:=by
 rw[jD];simp only[VC];refine(fQ h.st (by decide) (by decide)).mono λd t1 G=>?_;obtain⟨Y,rfl,F,E,C,e1⟩:=G;have A:=h.draw hj hb e1 C;have z:t1[b+8]?=some (.lst (iP L 8)):=(e1.val _ (Ã.mp hL).1 lp).trans hL
 try simp only[VC]
 refine acD (lE (n:=8) rfl (by decide)) ⟨by rw[jA];exact le_size (by decide),?_⟩;have seen:Wp (gI 1 (iX [0,3] [some (.aj k),some (.aj j),some (.int mo),some (.int of),some (.int mu),a5,some (.aj (b+8)),a7,a8,some (.int Y),oU,oV]) (gN 0) (aQ (e2 cb (az bT (aa (ae 1) (aa (ae 2) ah))) (eC (.int 0)))) (ae 0) (dE 0 8) t1)
   λK s'=>∃Z:List Int,K=Z.map D.int/\(∀x∈Z,0<=x/\x<8)/\(Z.Pairwise (· < ·)/\Z.length<=8)/\BJ W k j b n s0 s' M R T/\s'[b+8]?=some (.lst (iP L 8)):=by
  refine Cd (λi U s'=>i<=8->∃Z:List Int,U=Z.map D.int/\(∀x∈Z,0<=x/\x<8/\x<i)/\(Z.Pairwise (· < ·)/\Z.length<=i)/\BJ W k j b n s0 s' M R T/\s'[b+8]?=some (.lst (iP L 8))) (dE 0 8) (λ_=>⟨[],rfl,by simp,⟨.nil,acG _⟩,A,z⟩) (λi d U s' S P=>?_) λU s' P=>?_
  ·rw[kg] at S
   split at S
   ·rename_i hi
    cases S;obtain⟨Z,rfl,X,⟨O,y⟩,B,J⟩:=P (by omega);refine⟨[some (.int (0+i)),some (.aj k),some (.int of)],rfl,?_⟩;simp only[VC];refine(fQ B.st o1 (by omega)).mono λd V hd2=>?_;obtain⟨m,rfl,_,_,w,e2⟩:=hd2
    try simp only[VC]
    have I:=B.draw hj hb e2 w;have L2:V[b+8]?=some (.lst (iP L 8)):=(e2.val _ (Ã.mp J).1 lp).trans J;split
    ·exact λ_=>⟨Z++[0+(i:Int)],by simp,λx hx=>by
      rcases è.mp hx with hx|hx
      ·have:=X x hx;omega
      ·rw[õ.mp hx];omega,⟨ab7.mpr ⟨O,abv _ _,λa t b hb=>by rw[õ.mp hb];have:=X a t;omega⟩,by simp;omega⟩,I,L2⟩
    ·exact λ_=>⟨Z,rfl,λx hx=>by have:=X x hx;omega,⟨O,by omega⟩,I,L2⟩
   ·cases S
  ·rw[jA] at P
   obtain⟨Z,e,X,r⟩:=P (acG _);exact⟨Z,e,λx hx=>⟨(X x hx).1,(X x hx).2.1⟩,r⟩
 refine seen.mono λK V hx=>?_;obtain⟨Z,rfl,X,⟨O,y⟩,q,le⟩:=hx;have mk:dG 8 Z:=⟨X,O⟩
 try simp only[VC]
 have H:∀x∈Z,aA (.aj (b+8)) (.int x) V=ok (lI (L x.toNat)) V:=λx hx=>by
  have:=X x hx;simp only[aA,k9,res,le,iP,Wb (n:=8) this.1 (by omega),bY]
 refine acD (nT (ds:=Z.map D.int) rfl) ⟨rQ (by rw[Í];omega),?_⟩;refine acD (pk (λx=>decide (Y∈L x.toNat)) (λx=>.int x) Z λx hx=>⟨[some (.int x),some (.int Y),some (.aj (b+8))],rfl,?_,λ_=>rfl⟩) ?_
 ·refine acE ?_
  simp only[VC];refine acD (H x hx) ?_;simp only[VC,Mv,ŋ]
 refine acD (show gJ [.lst ((Z.filter λx=>decide (Y∈L x.toNat)).map λx=>.int x)] V=ok (mD (Z.filter λx=>decide (Y∈L x.toNat))) V from rfl) ?_;rw[Kj];simp only[VC];refine acD (nT (ds:=Z.map D.int) rfl) ⟨rQ (by rw[Í];omega),?_⟩;refine acD (pk (λx=>!decide (Y∈L x.toNat)) (λx=>.int x) Z λx hx=>⟨[some (.int x),some (.int Y),some (.aj (b+8))],rfl,?_,λ_=>rfl⟩) ?_
 ·refine acE ?_
  simp only[VC];refine acD (H x hx) ?_;simp only[VC,JB,ŋ]
 refine acD (show gJ [.lst ((Z.filter λx=>!decide (Y∈L x.toNat)).map λx=>.int x)] V=ok (mD (Z.filter λx=>!decide (Y∈L x.toNat))) V from rfl) ?_;refine⟨by decide,by decide,?_⟩;obtain⟨s',e,N,o⟩:=q.put hj ll hl (p:=.made mu Y (Z.filter λx=>decide (Y∈L x.toNat)) (Z.filter λx=>!decide (Y∈L x.toNat))) (hR Y _ _ (SR Al ⟨F,E⟩ (mk.filter _) (mk.filter _) (acG _) λx hx hl=>by simpa [(ĕ.mp hx).2] using (ĕ.mp hl).2) (λx hx=>by simpa using (ĕ.mp hx).2) (λx hx=>by simpa using (ĕ.mp hx).2)) hn;exact⟨s',e,g _ _ _ _ ⟨N.st,N.dict.mono (λ_ h=>h) (λ_ h=>.inl h),N.bu,N.ext⟩ ((o.val _ (Ã.mp le).1 qQ).trans le)⟩
end
def An (mu:Int) (M:Nat->List Int) (p:Pg):Prop:=fM p=true/\∃(d:Int) (x:Nat),x<8/\p=.bu mu d x/\d∈M x
def AgB (mu:Int) (M L:Nat->List Int):Pg->Prop
 | .bu m d k=>m=mu/\d∈M k.toNat
 | .made m d u v=>m=mu/\(∀x∈u,d∈L x.toNat)/\∀x∈v,d∉L x.toNat
def Ag (mu:Int) (M L:Nat->List Int) (p:Pg):Prop:=fM p=true/\AgB mu M L p
def Qo (h:bb s k) (hd:ee W R0 T0 s j n) (x0:Ex k s0 s) (hj:j≠k) (hl:s0.length<=j) (hn:n<900) (o1:0<of) (o2:of<=3) (Al:0<=mu/\mu<4)
 (g:∀(b5 b6 b7 b8 b9 gk gn:Option D) (s':af) (M L:Nat->List Int),(∀x,x<8->∃c,Lf (M x) c 31 (L x))->bb s' k->ee W (λp=>R0 p\/Ag mu M L p) (λq=>T0 q\/∃(x:Nat) (d:Int),x<8/\d∈M x/\q=.bu mu d x) s' j (n+7)->Ex k s0 s'->Q (.nx [some (.aj k),some (.aj j),some (.int mo),some (.int of),some (.int mu),b5,b6,b7,b8,b9,gk,gn]) s') :
  Wp ((ao (aN (ba (aa (cj 1 [] (cJ (aa (eC (.int 8)) ah)) (gN 0) eR (eNew ah)) (aa (eNew ah) ah))) (gT [(gN 5),(gN 6)])) (ao (dQ (cJ (aa (az bT (aa (ae 0) (aa (eC (.int 4)) ah))) ah)) (gN 7) (ao (aN (ba (aa (az bT (aa (ae 0) (aa (eC (.int 8)) ah))) (aa (az bT (aa (ae 0) (aa (eC (.int 31)) ah))) ah))) (gT [(gN 8),(gN 9)])) (ao (bh (gp (e2 aA (ae 5) (ae 8)) (ae 9))) (TK.mY W (eC (.bl true)) (ae 1) (ba (aa (eC (.str "mended")) (aa (ae 4) (aa (ae 9) (aa (ae 8) ah))))))))) (ao (dQ (cJ (aa (eC (.int 8)) ah)) (gN 8) (bh (gp (ae 6) (az rj (aa (ae 0) (aa (e2 aA (ae 5) (ae 8)) ah)))))) (dQ (cJ (aa (az bT (aa (ae 0) (aa (eC (.int 5)) ah))) ah)) (gN 7) (ao (aN (az bT (aa (ae 0) (aa (eC (.int 31)) ah))) (gN 9)) (ao (aN (cj 1 [0,3] (cJ (aa (eC (.int 8)) ah)) (gN 0) (aQ (e2 cb (az bT (aa (ae 1) (aa (ae 2) ah))) (eC (.int 0)))) (ae 0)) (gN 10)) (ao (aN (eB gJ (aa (cj 1 [9,6] (ck (ae 10)) (gN 0) (aQ (e2 eI (ae 1) (e2 aA (ae 2) (ae 0)))) (ae 0)) ah)) (gN 11)) (TK.mY W (eC (.bl true)) (ae 1) (ba (aa (eC (.str "made")) (aa (ae 4) (aa (ae 9) (aa (ba (aa (ae 11) (aa (eB gJ (aa (cj 1 [9,6] (ck (ae 10)) (gN 0) (aQ (e2 gF (ae 1) (e2 aA (ae 2) (ae 0)))) (ae 0)) ah)) ah))) ah))))))))))))) [some (.aj k),some (.aj j),some (.int mo),some (.int of),some (.int mu),a5,a6,a7,a8,a9,oU,oV] s) Q:=by
 have hk:=h.lt;have gj:=hd.lt;have wR:s0.length<=s.length:=x0.len;rw[jD];simp only[nX,pO,fg,eV];refine Wa ?_;simp only[rM,eV];refine⟨by decide,le_size (by simp only[á,ý];decide),?_⟩;simp only[sf,rl,rz,č,Ď,gK];generalize J:s++Å 8 (Cell.lst [])++[Cell.lst []]=s1;have F:(s++Å 8 (Cell.lst [])).length=s.length+8:=by simp
 rw[F];have e1:Ex k s s1:=by rw[<- J,į];exact Ex.app k s _
 have B1:BJ W k j s.length n s0 s1 (λ_=>[]) R0 T0:=by
  refine⟨by rw[<- J,į];exact h.app _,hd.ex e1 hj,λi hi=>?_,x0.trans e1⟩;rw[<- J,į,ð (by omega),Ü (by simp;omega),show s.length+i-s.length=i by omega,Ģ,ã hi];rfl
 have L1:s1[s.length+8]?=some (.lst []):=by rw[<- J,ð (by simp)];simp
 have O:∀i,i<8->s.length+i≠k:=λi _=>by omega
 have ll:∀i,i<8->s.length+i≠j:=λi _=>by omega
 have N:s.length+8≠k:=by omega
 have E:s.length+8≠j:=by omega
 rw[jD,jE];obtain⟨_,t1,et,U,rfl,tU,tV,Y,Ou⟩:=fQ (m:=4) B1.st (by decide) (by decide);refine acD (Cf (s1:=t1) (n:=U.toNat) (i:=U) (acE (by simp only[VC];exact acD et ⟨rfl,rfl⟩)) (by omega) (by omega)) ?_;have I:=B1.draw hj O Ou Y;have L2:t1[s.length+8]?=some (.lst []):=(Ou.val _ (Ã.mp L1).1 N).trans L1;have C:BJ W k j s.length n s0 t1 (λ_=>[]) (λp=>R0 p\/An mu (λ_=>[]) p) (λq=>T0 q\/∃(x:Nat) (d:Int),x<8/\d∈(λ_=>([]:List Int)) x/\q=.bu mu d x) :=
  ⟨I.st,I.dict.mono (λ_ h=>.inl h) (λq V=>by rcases V with V | ⟨x,d,_,hd,_⟩;exact V;exact(é hd).elim),I.bu,I.ext⟩
 refine Wp.lT (λi env s'=>i<=U.toNat->∃b7 b8 b9 gk gn M,env=[some (.aj k),some (.aj j),some (.int mo),some (.int of),some (.int mu),some (memD s.length),some (.aj (s.length+8)),b7,b8,b9,gk,gn]/\(∀x,x<8->(M x).length<=i)/\BJ W k j s.length (n+i) s0 s' M (λp=>R0 p\/An mu M p) (λq=>T0 q\/∃(x:Nat) (d:Int),x<8/\d∈M x/\q=.bu mu d x)/\s'[s.length+8]?=some (.lst [])) _ (λ_=>⟨_,_,_,_,_,_,rfl,λ_ _=>acG _,C,L2⟩) (λi d env s' hd Z=>?_) (λenv s' Z=>?_)
 ·rw[kg] at hd
  split at hd
  ·cases hd
   obtain⟨b7,b8,b9,gk,gn,M,rfl,A,B,L⟩:=Z (by omega);refine⟨_,rfl,?_⟩
   refine Rn B hj O ll hl wR (by omega) (λx T=>by have:=A x T;omega) λx d c8 c9 s2 T hd K keep=>(λ_=>⟨_,_,_,_,_,λi=>if i=x then M i++[d] else M i,rfl,λy hy=>?_,?_,(keep _ (Ã.mp L).1 N E λi hi=>by omega).trans L⟩)
   ·have:=A y hy
    show (if y=x then M y++[d] else M y).length<=i+1
    split
    ·rw[ó,abW];omega
    ·omega
   ·have sub:∀y e,e∈M y->e∈(if y=x then M y++[d] else M y):=λy e he=>by
     split
     ·exact è.mpr (.inl he)
     ·exact he
    have H:=K (R':=λp=>R0 p\/An mu (λi=>if i=x then M i++[d] else M i) p) (λp X=>by
     rcases X with X | ⟨Y,e,y,S,R,z⟩
     ·exact .inl X
     ·exact .inr ⟨Y,e,y,S,R,sub y e z⟩) (.inr ⟨SQ Al hd (by omega),d,x,T,rfl,by show d∈(if x=x then M x++[d] else M x);rw[ã rfl];simp⟩)
    exact⟨H.st,H.dict.mono (λ_ h=>h) (λq V=>by
     rcases V with V | ⟨y,e,Y,S,R⟩
     ·exact .inl (.inl V)
     ·have P:e∈(if y=x then M y++[d] else M y):=S
      by_cases w:y=x
      ·rw[ã w] at P
       rcases è.mp P with h6|h6
       ·exact .inl (.inr ⟨y,e,Y,h6,R⟩)
       ·rw[õ.mp h6,w] at R
        exact .inr R
      ·rw[í w] at P
       exact .inl (.inr ⟨y,e,Y,P,R⟩)),H.bu,H.ext⟩
  ·cases hd
 rw[jA] at Z;obtain⟨b7,b8,b9,gk,gn,M,rfl,A,B3,L3⟩:=Z (acG _);rw[gK,jD,jE];refine acD (lE (n:=8) rfl (by decide)) ?_;refine Wp.lT (λi env s'=>i<=8->∃b7 b8 b9 gk gn L,env=[some (.aj k),some (.aj j),some (.int mo),some (.int of),some (.int mu),some (memD s.length),some (.aj (s.length+8)),b7,b8,b9,gk,gn]/\(∀x,x<i->∃c,Lf (M x) c 31 (L x))/\BJ W k j s.length (n+U.toNat) s0 s' M (λp=>R0 p\/An mu M p) (λq=>T0 q\/∃(x:Nat) (d:Int),x<8/\d∈M x/\q=.bu mu d x)/\s'[s.length+8]?=some (.lst (iP L i))) _ (λ_=>⟨_,_,_,_,_,λ_=>[],rfl,λx T=>(acn x T).elim,B3,L3⟩) (λi d env s' hd Z=>?_) (λenv s' Z=>?_)
 ·rw[kg] at hd
  split at hd
  ·rename_i hi
   cases hd;obtain⟨b7,b8,b9,gk,gn,L,rfl,lf,B,t⟩:=Z (by omega);refine⟨_,rfl,?_⟩;simp only[ab1,č,Ď]
   refine Ro B t hi hj O N E wR λr c s2 l2 K o=>(λ_=>⟨_,_,_,_,_,λx=>if x=i then r else L x,rfl,λx T=>?_,K,o⟩)
   by_cases Ov:x=i
   ·subst Ov
    exact⟨c,by show Lf (M x) c 31 (if x=x then r else L x);rw[ã rfl];exact l2⟩
   ·obtain⟨c,l⟩:=lf x (by omega)
    exact⟨c,by show Lf (M x) c 31 (if x=i then r else L x);rw[í Ov];exact l⟩
  ·cases hd
 rw[jA] at Z;obtain⟨b7,b8,b9,gk,gn,L,rfl,lf,G,L4⟩:=Z (acG _);have B4:BJ W k j s.length (n+U.toNat) s0 s' M (λp=>R0 p\/Ag mu M L p) (λq=>T0 q\/∃(x:Nat) (d:Int),x<8/\d∈M x/\q=.bu mu d x):=⟨G.st,G.dict.mono (λp X=>by
  rcases X with X | ⟨Y,e,y,S,rfl,z⟩
  ·exact .inl X
  ·exact .inr ⟨Y,rfl,by rw[ē];exact z⟩) (λ_ h=>h),G.bu,G.ext⟩
 rw[gK,jE];obtain⟨_,t5,f,b,rfl,x50,x51,P,Ow⟩:=fQ (m:=5) B4.st (by decide) (by decide);refine acD (Cf (s1:=t5) (n:=b.toNat) (i:=b) (acE (by simp only[VC];exact acD f ⟨rfl,rfl⟩)) (by omega) (by omega)) ?_;have B5:=B4.draw hj O Ow P;have L5:t5[s.length+8]?=some (.lst (iP L 8)):=(Ow.val _ (Ã.mp L4).1 N).trans L4;refine Wp.lT (λi env s'=>i<=b.toNat->∃b7 b8 b9 gk gn,env=[some (.aj k),some (.aj j),some (.int mo),some (.int of),some (.int mu),some (memD s.length),some (.aj (s.length+8)),b7,b8,b9,gk,gn]/\BJ W k j s.length (n+U.toNat+i) s0 s' M (λp=>R0 p\/Ag mu M L p) (λq=>T0 q\/∃(x:Nat) (d:Int),x<8/\d∈M x/\q=.bu mu d x)/\s'[s.length+8]?=some (.lst (iP L 8))) _ (λ_=>⟨_,_,_,_,_,rfl,B5,L5⟩) (λi d env s' hd Z=>?_) (λenv s' Z=>?_)
 ·rw[kg] at hd
  split at hd
  ·rename_i hi
   cases hd;obtain⟨b7,b8,b9,gk,gn,rfl,B,t⟩:=Z (by omega);refine⟨_,rfl,?_⟩;exact Rp B t hj O N ll E hl (by omega) o1 o2 Al (λd u v X Y S=>.inr ⟨X,rfl,Y,S⟩) λc9 c10 c11 s2 K o=>(λ_=>⟨_,_,_,_,_,rfl,K,o⟩)
  ·cases hd
 rw[jA] at Z;obtain⟨b7,b8,b9,gk,gn,rfl,a,L6⟩:=Z (acG _);exact g _ _ _ _ _ _ _ _ M L lf a.st (a.dict.more (by omega)) a.ext
def X6:Pg->Prop
 | .made _ _ h l=>∀x∈h,x∉l
 | .bu _ _ _=>True
def Qp (hd:qq ps) (h:∀m∈m4,∀k∈k8,Ck (sN ps m k) (lN ps m k) (mN ps m k)):n9 ps=[]:=by
 unfold n9;rw[abB];intro m W;rw[abB];intro k V;rw[List.map_eq_nil_iff];unfold mL;rw[abB];intro d U;rw[List.map_eq_nil_iff,List.filter_eq_nil_iff];intro e T Z;have hs:d∈shown ps m k:=ra.mp U;obtain⟨i,hi,rfl⟩:=ċ.mp T;rw[Ġ] at hi;have R:=hd.of hs;unfold xb at Z;simp only[Æ,ack,É,Ķ] at Z;have e1:((d.toNat:Nat):Int)=d:=by omega
 have e2:(((d+(i:Int)).toNat:Nat):Int)=d+(i:Int):=by omega
 obtain⟨x,Q,P,X⟩:=h m W k V d.toNat (d+(i:Int)).toNat (by simp only[sN,e1,É];exact hs) (by omega) (by omega) (by
  rcases Z.1 with z | ⟨O,S⟩
  ·exact .inl (by simp only[lN,e2,É];exact z)
  ·exact .inr ⟨by omega,by simp only[mN,e1,É];exact S⟩)
 have Y:=Z.2;unfold EG at Y;rw[abO] at Y;simp only[mN,É] at X;refine Y _ X ?_;simp only[Æ,É];omega
abbrev RB (n:Nat) (MM LL:Nat->Nat->List Int) (p:Pg):Prop:=∃m:Nat,m<n/\Ag m (MM m) (LL m) p
abbrev TB (n:Nat) (MM:Nat->Nat->List Int) (q:Pg):Prop:=∃m:Nat,m<n/\∃(x:Nat) (d:Int),x<8/\d∈MM m x/\q=.bu m d x
def UH (h:ee W R T s j n) (hn:n<64) (hj:env[1]?=some (some (.aj j)))
 (q:∀ps:List Pg,(∀p∈ps,R p)->(∀p,T p->p∈ps)->ps.length<=n->(ps.Pairwise λa b=>ff.lt a b=true)->Q (bD ps) s):Wp (eB gJ (aa (eB rJ (aa (eB rH (aa (ae 1) ah)) ah)) ah) env s) Q:=by
 obtain⟨ps,e,Z,len⟩:=h;have e1:ae 1 env s=ok (.aj j) s:=by unfold ae;rw[hj]
 have e2:rH [.aj j] s=ok (.lst (ps.map Pg.d)) s:=by
  unfold rH;simp only[e];rw[ã (by rw[Í];exact rQ (by omega)),ķ];rfl
 have X:rJ [.lst (ps.map Pg.d)] s=ok (.lst ((ST.jO ff ps).map Pg.d)) s:=by
  unfold rJ;simp only[res];rw[ã (by rw[Í];omega),Jo];rfl
 simp only[m6,fg,eV];refine acD e1 (acD e2 (acD X ?_));refine acD (show gJ [.lst ((ST.jO ff ps).map Pg.d)] s=ok (bD (ST.jO ff ps)) s from rfl) (q _ (λp Y=>Z.2.1 p ((ST.ua ps).mem_iff.mp Y)) (λp Y=>(ST.ua ps).mem_iff.mpr (Z.2.2 p Y)) (by rw[(ST.ua ps).length_eq];exact len) (UG Z.1))
def Pf (lf:∀m x,m<n->x<8->∃c,Lf (MM m x) c 31 (LL m x)) (hp:∀p∈ps,RB n MM LL p) (ht:∀p,TB n MM p->p∈ps) (hk:0<=k/\k<8):Ck (sN ps m k) (lN ps m k) (mN ps m k):=by
 have O:∀{d:Int},d∈shown ps m k->∃m0:Nat,m0<n/\m=m0/\d∈LL m0 k.toNat:=λ{d} h=>by
  obtain⟨p,Z,rfl⟩:=ċ.mp h;rw[ĕ] at Z;obtain⟨m0,X,V⟩:=hp p Z.1
  cases p with
  |made U T u v =>
   have Y:=Z.2;simp only[w9,Æ,É] at Y;obtain⟨_,S,N,_⟩:=V;exact⟨m0,X,by rw[<- Y.1];exact S,N k Y.2⟩
  |bu U T P=>cases Z.2
 have M:∀{d:Int} {m0:Nat},m=m0->d∈lF ps m k->d∉LL m0 k.toNat:=λ{d m0} e h=>by
  obtain⟨p,Z,rfl⟩:=ċ.mp h;rw[ĕ] at Z;obtain⟨Q,X,V⟩:=hp p Z.1
  cases p with
  |made U T u v =>
   have Y:=Z.2;simp only[xa,Æ,É] at Y;obtain⟨_,S,_,L⟩:=V;have:Q=m0:=by have:=Y.1;omega
   rw[<- this];exact L k Y.2
  |bu U T P=>cases Z.2
 have K:∀{d:Int} {m0:Nat},m=m0->d∈jL ps m k->d∈MM m0 k.toNat:=λ{d m0} e h=>by
  obtain⟨p,Z,rfl⟩:=ċ.mp h;rw[ĕ] at Z;obtain⟨Q,X,V⟩:=hp p Z.1
  cases p with
  |made U T u v=>cases Z.2
  |bu U T P =>
   have Y:=Z.2;simp only[tR,Æ,É] at Y;obtain⟨_,S,R⟩:=V;have:Q=m0:=by have:=Y.1;omega
   rw[<- this,<- Y.2];exact R
 intro d e hs J D W;simp only[sN,lN,mN,É] at hs W;obtain⟨m0,X,em,R⟩:=O hs;obtain⟨c,F⟩:=lf m0 k.toNat X (by omega)
 rcases W with W | ⟨rfl,W⟩
 ·apply Classical.byContradiction
  intro I;have S:∀x:Nat,d<x->x<=e->(x:Int)∉MM m0 k.toNat:=λx H Y G=>by
   refine I ⟨x,H,Y,?_⟩;simp only[mN,É];have E:=ht (.bu m0 x (k.toNat:Int)) ⟨m0,X,k.toNat,x,by omega,G,rfl⟩;refine ċ.mpr ⟨_,ĕ.mpr ⟨E,?_⟩,rfl⟩;simp only[tR,Æ,É];exact⟨em.symm,by omega⟩
  have all:∀i:Nat,d+i<=e->((d+i:Nat):Int)∈LL m0 k.toNat:=by
   intro i
   induction i with
   |zero=>intro _;exact R
   |succ i ih =>
    intro hi;have:=F.on _ (ih (by omega)) (by omega) (by
     have:=S (d+i+1) (by omega) (by omega);rwa [show ((d+i+1:Nat):Int)=((d+i:Nat):Int)+1 by omega] at this)
    rwa [show ((d+(i+1):Nat):Int)=((d+i:Nat):Int)+1 by omega]
  have:=all (e-d) (by omega);rw[show d+(e-d)=e by omega] at this;exact M em W this
 ·exact((F.lo _ R).2.2 (K em W)).elim
def UI (h:bb s k):Wp (ya W [.aj k] s) λd s'=>∃ps,d=bD ps/\ps.length<=21/\bb s' k/\Ex k s s'/\gL ps=true:=by
 have hk:=h.lt;have C:s.length≠k:=by omega
 unfold ya;rw[kC];refine⟨rfl,?_⟩;rw[jD];simp only[nX,pO,fg,eV,V9];have z:ee W (RB 0 (λ_ _=>[]) (λ_ _=>[])) (TB 0 (λ_ _=>[])) (s++[.dT []]) s.length 0:=⟨[],by simp,⟨.nil,λ_ h=>(é h).elim,λp ⟨m,Z,_⟩=>(acn m Z).elim⟩,acG _⟩;have y:bb (s++[.dT []]) k:=h.app _
 try simp only[VC]
 refine(fQ y (by decide) (by decide)).mono λd t1 w=>?_;obtain⟨T,rfl,tU,tV,S,e1⟩:=w
 try simp only[VC]
 refine(fQ S (by decide) (by decide)).mono λd B hd2=>?_;obtain⟨v,rfl,F9,Ga,Y,e2⟩:=hd2
 try simp only[VC]
 refine⟨by decide,?_⟩;have u:=z.ex (e1.trans e2) C;have ext:Ex k s B:=(Ex.app k s _).trans (e1.trans e2)
 try simp only[VC]
 refine acD (Cf (s1:=B) (n:=(1+T).toNat) (i:=1+T) rfl (by omega) (by omega)) ?_;refine Wp.lT (λi env s'=>i<=(1+T).toNat->∃N K J I H G F E X V,env=[some (.aj k),some (.aj s.length),some (.int (1+T)),some (.int (1+v)),N,K,J,I,H,G,F,E]/\(∀m x,m<i->x<8->∃c,Lf (X m x) c 31 (V m x))/\bb s' k/\ee W (RB i X V) (TB i X) s' s.length (7*i)/\Ex k s s') _ (λ_=>⟨_,_,_,_,_,_,_,_,_,_,rfl,λm x Z=>(acn m Z).elim,Y,u,ext⟩) (λi d env s' R Q=>?_) (λenv s' Q=>?_)
 ·rw[kg] at R
  split at R
  ·rename_i hi
   cases R;obtain⟨N,K,J,I,H,G,F,E,X,V,rfl,lf,g1,g2,g3⟩:=Q (by omega);refine⟨_,rfl,?_⟩
   refine Qo g1 g2 g3 C (acG _) (by omega) (by omega) (by omega) (by omega) λc5 c6 c7 c8 c9 t r s2 M L D o j g=>(λ_=>⟨_,_,_,_,_,_,_,_,λm=>if m=i then M else X m,λm=>if m=i then L else V m,rfl,λm x Z P=>?_,o,(j.more (by omega)).mono (λp O=>?_) (λq f=>?_),g⟩)
   ·by_cases U:m=i
    ·obtain⟨c,l⟩:=D x P
     exact⟨c,by simp only[U,Ā];exact l⟩
    ·obtain⟨c,l⟩:=lf m x (by omega) P
     exact⟨c,by simp only[U,û];exact l⟩
   ·rcases O with ⟨m,Z,ha⟩|ha
    ·exact⟨m,by omega,by simp only[show m≠i by omega,û];exact ha⟩
    ·exact⟨i,by omega,by simp only[Ā];rw[ab1] at ha;exact ha⟩
   ·obtain⟨m,Z,x,d,S,Y,rfl⟩:=f
    by_cases U:m=i
    ·subst U
     simp only[Ā] at Y;exact .inr ⟨x,d,S,Y,by rw[ab1]⟩
    ·simp only[U,û] at Y
     exact .inl ⟨m,by omega,x,d,S,Y,rfl⟩
  ·cases R
 ·rw[jA] at Q
  obtain⟨N,K,J,I,H,G,F,E,X,V,rfl,lf,g1,g2,g3⟩:=Q (acG _);simp only[jC,gK,jJ];refine UH (g2.more (m:=21) (by omega)) (by decide) rfl λps O e b a=>⟨ps,rfl,b,g1,g3,?_⟩;have laid:Laid ps:=⟨λp h=>by obtain⟨m,_,ha⟩:=O p h;exact ha.1,a⟩;have A:=laid.kD (by omega);unfold gL;rw[A,Ē,List.isEmpty_iff];exact Qp (IK A) λm _ x P=>Pf lf O e (X3.mp P)
noncomputable def brk (l:List Int):List Int:=((Ć (l.length-1)).filter λi=>l.getD (i+1) 0==l.getD i 0).map λi:Nat=>1+(i:Int)
def Ex.get (h:Ex k s s') (e:s[j]?=some c) (hj:j≠k):s'[j]?=some c:=by
 rw[h.val j (Ã.mp e).1 hj];exact e
theorem Ex.hi (h:Ex k s s') (hj:s.length<=j) (c:Cell):Ex k s (s'.set j c):=⟨by rw[î];exact h.len,λi hi Z=>by rw[Ï (by omega)];exact h.val i hi Z⟩
def Rq (h:ns.length<64):mE (.lst (ns.map D.int)) s=ok (.lst ((dI ns).map D.int)) s:=by
 unfold mE;simp only[Iv,æ (Nat.lt_of_le_of_lt (xD ns) h),Ā]
structure RI (s0:af) (k rh mh:Nat) (rs:List (List Int)) (s:af):Prop where
 st:bb s k
 ex:Ex k s0 s
 run:s[rh]?=some (.lst (rs.map mD))
 mo:∃a b,s[mh]?=some (.lst [mD a,mD b])/\dG 8 a/\dG 8 b
 tQ:∀r∈rs,dG 8 r
 k1:k<s0.length
 r1:s0.length<=rh
 m1:s0.length<=mh
 ne:rh≠mh
def RI.draw (h:RI s0 k rh mh rs s) (g:bb s' k) (x:Ex k s s'):RI s0 k rh mh rs s':=by
 have:=h.k1;have:=h.r1;have:=h.m1;obtain⟨a,b,e,Z,Y⟩:=h.mo;exact⟨g,h.ex.trans x,x.get h.run (by omega),⟨a,b,x.get e (by omega),Z,Y⟩,h.tQ,h.k1,h.r1,h.m1,h.ne⟩
def RI.push (h:RI s0 k rh mh rs s) (hr:dG 8 r):RI s0 k rh mh (rs++[r]) (s.set rh (.lst (rs.map mD++[mD r]))):=by
 have:=h.k1;have:=h.r1;have:=h.m1;have:=h.ne;obtain⟨a,b,e,Z,Y⟩:=h.mo;refine⟨h.st.set (by omega) _,h.ex.hi (by omega) _,?_,⟨a,b,by rw[Ï (by omega)];exact e,Z,Y⟩,λx hx=>?_,h.k1,h.r1,h.m1,h.ne⟩
 ·rw[Ó (Ã.mp h.run).1,ń]
  rfl
 ·rcases è.mp hx with hx|hx
  ·exact h.tQ x hx
  ·rw[õ.mp hx];exact hr
def RI.put (h:RI s0 k rh mh rs s) (h0:at_=0\/at_=1):(∃a,aA (.aj mh) (.int at_) s=ok (mD a) s/\dG 8 a)/\∀c,dG 8 c->∃s',jW (.aj mh) (.int at_) (mD c) s=some s'/\RI s0 k rh mh rs s':=by
 have:=h.k1;have:=h.r1;have:=h.m1;have:=h.ne;obtain⟨a,b,e,Z,Y⟩:=h.mo;have key:∀a b,dG 8 a->dG 8 b->RI s0 k rh mh rs (s.set mh (.lst [mD a,mD b])):=λa b Z Y=>⟨h.st.set (by omega) _,h.ex.hi (by omega) _,by rw[Ï (by omega)];exact h.run,⟨a,b,Ó (Ã.mp e).1,Z,Y⟩,h.tQ,h.k1,h.r1,h.m1,h.ne⟩
 rcases h0 with rfl|rfl
 ·exact⟨⟨a,F5 _ _ _ _ e,Z⟩,λc X=>⟨_,Nb _ _ _ _ _ e,key _ _ X Y⟩⟩
 ·exact⟨⟨b,F6 _ _ _ _ e,Y⟩,λc X=>⟨_,Nc _ _ _ _ _ e,key _ _ Z X⟩⟩
structure Ft (n W:Nat) (d:D):Prop where
 pl:plain d=true
 sh:(py d).showable=true
 nd:(py d).hasDict=false
 dp:(py d).depth<=n
 wt:(py d).weight<=W
 lv:(py d).leavesShort 40=true
def EH (d:D):Bool:=plain d&&(py d).showable&&!(py d).hasDict&&decide ((py d).depth<=0)&&decide ((py d).weight<=110)&&(py d).leavesShort 40
def DN (h:EH d=true):Ft 0 110 d:=by
 unfold EH at h;simp only[Æ,É,Ķ] at h;obtain⟨⟨⟨⟨⟨Z,Y⟩,X⟩,W⟩,V⟩,U⟩:=h;exact⟨Z,Y,X,W,V,U⟩
def X8:∀n:Fin 62,EH (.int ((n.val:Int)-1))=true:=by decide +kernel
def og (h1:-1<=n) (h2:n<=60):Ft 0 110 (.int n):=by
 refine DN ?_;have:=X8 ⟨(n+1).toNat,by omega⟩;have e2:(((n+1).toNat:Nat):Int)-1=n:=by omega
 rw[e2] at this;exact this
theorem C3:∀{ds:List D},(∀x∈ds,Ft n W x)->jH ds=true/\ļ (bJ ds)=true/\PyData.hasDictAll (bJ ds)=false/\ğ (bJ ds)<=n/\ľ (bJ ds)<=ds.length*(W+1)/\š 40 (bJ ds)=true
 | [],_=>⟨rfl,rfl,rfl,Đ _,by simp[bJ,ľ],rfl⟩
 |x::Z,h=>by
  obtain⟨z,a,b,c,d,e⟩:=C3 (ds:=Z) λy Y=>h y (Ê _ Y);have k:=h x Ð;refine⟨?_,?_,?_,?_,?_,?_⟩
  ·simp only[jH,k.pl,z,Ĝ]
  ·simp only[bJ,ļ,k.sh,a,Ĝ]
  ·simp only[bJ,PyData.hasDictAll,k.nd,b,Bool.or_self]
  ·simp only[bJ,ğ];have:=k.dp;omega
  ·simp only[bJ,ľ,á]
   have:=k.wt;rw[Nat.add_mul];omega
  ·simp only[bJ,š,k.lv,e,Ĝ]
def mM (hl:ds.length<=c) (h:∀x∈ds,Ft n W x):Ft (n+1) (c*(W+1)) (.tup ds):=by
 obtain⟨z,a,b,X,Z,Y⟩:=C3 h;have hw:ľ (bJ ds)<=c*(W+1):=Þ Z (aaU _ hl);exact⟨by simp only[plain];exact z,by simp only[py,ξ];exact a,by simp only[py,aa4];exact b,by simp only[py,PyData.depth];omega,by simp only[py,PyData.weight];exact hw,by simp only[py,acr];exact Y⟩
def X9 (hl:ds.length<=c) (h:∀x∈ds,Ft n W x):Ft (n+1) (c*(W+1)) (.lst ds):=by
 obtain⟨z,a,b,X,Z,Y⟩:=C3 h;have hw:ľ (bJ ds)<=c*(W+1):=Þ Z (aaU _ hl);exact⟨by simp only[plain];exact z,by simp only[py,ξ];exact a,by simp only[py,aa4];exact b,by simp only[py,PyData.depth];omega,by simp only[py,PyData.weight];exact hw,by simp only[py,acr];exact Y⟩
def Ya (h:zE rs):Ft 2 (10*(8*(110+1)+1)) (rD rs):=by
 refine mM (by rw[Í];exact h.hi) λr Z=>?_;obtain⟨Y,X,rfl⟩:=ċ.mp Z;have g:=h.tQ Y X;refine mM (by rw[Í];exact g.len) λx W=>?_;obtain⟨V,U,rfl⟩:=ċ.mp W;have:=g.lo V U;exact og (by omega) (by omega)
def ne_str:i6 (.str x) (.str x) s=ok (.bl false) s:=by
 show (match pZ (.str x) (.str x) with|some b=>ok (D.bl (!b)) s|none=>none)=_
 have e:pZ (.str x) (.str x)=some true:=by
  unfold pZ;rw[ã (show (tD (.str x)&&tD (.str x))=true from rfl)];simp[beq]
 rw[e];rfl
open DI.cT
abbrev bM (c:Str) (s:af) {α:Type}:Res α:=some (.error ⟨c,none⟩,s)
section
variable {s:af} {c:Str} {env:Env} {f g a b:acC Fl} {t:acC Bool} {e e':acC D} {fa:acC (List D)} {fn:List D->af->Res D} {ds:List D} {d:D} {n m:Nat}
def cR (hl:ds.length=n) (h:b (ds.map some++Å (m-n) none) s=bM c s):aF n m b ds s=bM c s:=by
 unfold aF;rw[ã hl,h];rfl
def ic (h:f env s=bM c s):ao f g env s=bM c s:=by unfold ao;rw[h];rfl
def Mw (h:f env s=ok (.nx env) s):ao f g env s=g env s:=by unfold ao;rw[h];rfl
def gv (h:t env s=ok true s):aZ t a b env s=a env s:=by unfold aZ;rw[h];rfl
def ig (h:t env s=ok false s):aZ t a b env s=b env s:=by unfold aZ;rw[h];rfl
def skip (h:t env s=ok false s):ao (aZ t a bq) g env s=g env s:=Mw (ig h)
def jQ (h:e env s=bM c s):aL e env s=bM c s:=by unfold aL;rw[h];rfl
def Lr (h:e env s=bM c s):bh e env s=bM c s:=by unfold bh;rw[h];rfl
def Yb (h:e env s=ok d s):bh e env s=ok (.nx env) s:=by unfold bh;rw[h];rfl
def yZ (h:t env s=ok true s):iL t e e' env s=e env s:=by unfold iL;rw[h];rfl
def y0 (h:t env s=ok false s):iL t e e' env s=e' env s:=by unfold iL;rw[h];rfl
def iu (ha:fa env s=ok ds s) (h:fn ds s=bM c s):bt fn fa env s=bM c s:=by unfold bt;rw[ha];exact h
def Yc (ha:fa env s=ok ds s) (h:fn ds s=ok d s):bt fn fa env s=ok d s:=by unfold bt;rw[ha];exact h
def kO (i:Nat) (h:env[i]?=some (some d)):aa (ae i) ah env s=ok [d] s:=by
 unfold aa ae;simp only[h];rfl
def iT (i:Nat) (h:env[i]?=some (some d)) (hf:fn [d] s=ok .au s):ao (bh (bt fn (aa (ae i) ah))) g env s=g env s:=Mw (Yb (Yc (kO i h) hf))
def jM (i:Nat) (h:env[i]?=some (some d)) (hf:fn [d] s=bM c s):ao (bh (bt fn (aa (ae i) ah))) g env s=bM c s:=ic (Lr (iu (kO i h) hf))
end
inductive Kn where
 |book|bx|day|eG|fk|run
def Kn.ask:Kn->D->af->Res D
 | .book,d=>ph [d]
 | .bx,d=>nQ [d]
 | .day,d=>nS [d]
 | .eG,d=>nP [d]
 | .fk,d=>tX [d]
 | .run,d=>qT [d,.int 10]
noncomputable def Kn.cls:Kn->Str
 | .book=>"NoBook"
 | .bx=>"NoMould"
 | .day=>"NoDay"
 | .eG=>"NoSheet"
 | .fk=>"NoSheets"
 | .run=>"NoRun"
noncomputable def Kn.word:Kn->Str
 | .book=>"book"
 | .bx=>"mould"
 | .day=>"day"
 | .eG=>"sheet"
 | .fk=>"sheets"
 | .run=>"run"
abbrev Goes (k:Kn) (d:D):Prop:=∀s,k.ask d s=ok (.bl true) s
abbrev za (k:Kn) (d:D):Prop:=∀s,k.ask d s=ok (.bl false) s
section
variable {s:af} {env:Env} {fa:acC (List D)} {fn:List D->af->Res D} {ds:List D} {d:D} {b:Bool}
def not_of (ha:fa env s=ok ds s) (h:fn ds s=ok (.bl b) s):dJ (dj (az fn fa)) env s=ok (!b) s:=by
 unfold dJ dj az;rw[ha];show ak (ak (ne (fn ds s)) truth) _=_;rw[h];rfl
def ui {q:acC Bool} {b:acC Fl} (h:q [some d] s=ok (!true) s):aF 1 1 (aZ q b bq) [d] s=ok .au s:=by
 unfold aF;rw[ã (show [d].length=1 from rfl)];show ak (aZ q b bq [some d] s) _=_;rw[ig h];rfl
def ue {q:acC Bool} {c m:Str} (h:q [some d] s=ok (!false) s):aF 1 1 (aZ q (mJ c (aa (eC (.str m)) ah)) bq) [d] s=bM c s:=cR rfl ((gv h).trans rfl)
def Km {i:Nat} (h:env[i]?=some (some d)):aa (ae i) (aa (eC (.int 10)) ah) env s=ok [d,.int 10] s:=by
 unfold aa ae;simp only[h];rfl
end
structure jl (k:Kn) (fn:List D->af->Res D):Prop where
 n:∀{d s},Goes k d->fn [d] s=ok .au s
 x:∀{d s},za k d->fn [d] s=bM k.cls s
def iQ:jl .book cT.kc:=⟨λg=>ui (not_of (kO 0 rfl) (g _)),λg=>ue (not_of (kO 0 rfl) (g _))⟩
def lA:jl .bx cT.lq:=⟨λg=>ui (not_of (kO 0 rfl) (g _)),λg=>ue (not_of (kO 0 rfl) (g _))⟩
def BH:jl .day cT.qZ:=⟨λg=>ui (not_of (kO 0 rfl) (g _)),λg=>ue (not_of (kO 0 rfl) (g _))⟩
def H0:jl .eG xr:=⟨λg=>ui (not_of (kO 0 rfl) (g _)),λg=>ue (not_of (kO 0 rfl) (g _))⟩
def rm:jl .run cT.mz:=⟨λg=>ui (not_of (Km rfl) (g _)),λg=>ue (not_of (Km rfl) (g _))⟩
def dh:List Kn->List D->Kn->Prop
 |k::Z,d::Y,x=>(k=x/\za k d)\/(Goes k d/\dh Z Y x)
 |_,_,_=>False
section
variable {s:af} {x:Kn} {d0 d1 d2 d3:D} {f0 f1 f2 f3:List D->af->Res D} {k0 k1 k2 k3:Kn} {n m:Nat} {r:List D}
def vw (a0:jl k0 f0) (h:dh [k0] [d0] x) (hl:(d0::r).length=n) {g:acC Fl}:aF n m (ao (bh (bt f0 (aa (ae 0) ah))) g) (d0::r) s=bM x.cls s:=by
 rcases h with ⟨rfl,h⟩ | ⟨_,h⟩
 ·exact cR hl (jM 0 rfl (a0.x h))
 ·exact h.elim
def zb (a0:jl k0 f0) (a1:jl k1 f1) (h:dh [k0,k1] [d0,d1] x) (hl:(d0::d1::r).length=n) {g:acC Fl}:aF n m (ao (bh (bt f0 (aa (ae 0) ah))) (ao (bh (bt f1 (aa (ae 1) ah))) g)) (d0::d1::r) s=bM x.cls s:=by
 rcases h with ⟨rfl,h⟩ | ⟨g,⟨rfl,h⟩ | ⟨_,h⟩⟩
 ·exact cR hl (jM 0 rfl (a0.x h))
 ·exact cR hl ((iT 0 rfl (a0.n g)).trans (jM 1 rfl (a1.x h)))
 ·exact h.elim
def UJ (h:dh [.book,.bx,.day] [d0,d1,d2] x):cT.xK [d0,d1,d2] s=bM x.cls s:=by
 rcases h with ⟨rfl,h⟩ | ⟨g,⟨rfl,h⟩ | ⟨g1,⟨rfl,h⟩ | ⟨_,h⟩⟩⟩
 ·exact cR rfl (jM 0 rfl (iQ.x h))
 ·exact cR rfl ((iT 0 rfl (iQ.n g)).trans (jM 1 rfl (lA.x h)))
 ·exact cR rfl ((iT 0 rfl (iQ.n g)).trans ((iT 1 rfl (lA.n g1)).trans (jM 2 rfl (BH.x h))))
 ·exact h.elim
def ZC (h:dh [.book,.bx,.day,.eG] [d0,d1,d2,d3] x):BB [d0,d1,d2,d3] s=bM x.cls s:=by
 rcases h with ⟨rfl,h⟩ | ⟨g,⟨rfl,h⟩ | ⟨g1,⟨rfl,h⟩ | ⟨g2,⟨rfl,h⟩ | ⟨_,h⟩⟩⟩⟩
 ·exact cR rfl (jM 0 rfl (iQ.x h))
 ·exact cR rfl ((iT 0 rfl (iQ.n g)).trans (jM 1 rfl (lA.x h)))
 ·exact cR rfl ((iT 0 rfl (iQ.n g)).trans ((iT 1 rfl (lA.n g1)).trans (jM 2 rfl (BH.x h))))
 ·exact cR rfl ((iT 0 rfl (iQ.n g)).trans ((iT 1 rfl (lA.n g1)).trans ((iT 2 rfl (BH.n g2)).trans (jM 3 rfl (H0.x h)))))
 ·exact h.elim
def Wc (h:dh [.book,.bx,.fk] [d0,d1,d2] x):qX [d0,d1,d2] s=bM x.cls s:=by
 rcases h with ⟨rfl,h⟩ | ⟨g,⟨rfl,h⟩ | ⟨g1,⟨rfl,h⟩ | ⟨_,h⟩⟩⟩
 ·exact cR rfl (jM 0 rfl (iQ.x h))
 ·exact cR rfl ((iT 0 rfl (iQ.n g)).trans (jM 1 rfl (lA.x h)))
 ·exact cR rfl ((iT 0 rfl (iQ.n g)).trans ((iT 1 rfl (lA.n g1)).trans ((gv (not_of (b:=false) (kO 2 rfl) (h s))).trans rfl)))
 ·exact h.elim
def uK {m:Nat} {g:acC Fl} (h:dh [.book,.bx,.fk] [d0,d1,d2] x) (hl:(d0::d1::d2::r).length=n):aF n m (ao (bh (bt qX (aa (ae 0) (aa (ae 1) (aa (ae 2) ah))))) g) (d0::d1::d2::r) s=bM x.cls s :=
 cR hl (ic (Lr (iu rfl (Wc h))))
end
section
variable {s:af} {x:Kn} {j:Nat} {ds:List D}
def ZD {i:Int} {d:D} (hj:s[j]?=some (.lst ds)) (h:ef ds i=some d):aA (.aj j) (.int i) s=ok d s:=by
 have e:k9 (.aj j) (.int i) s=some d:=by
  unfold k9 res;simp only[hj];exact h
 unfold aA;rw[e];rfl
def my {env:Env} {i:Int} {d:D} (he:env[1]?=some (some (.aj j))) (hj:s[j]?=some (.lst ds)) (h:ef ds i=some d):e2 aA (ae 1) (eC (.int i)) env s=ok d s:=by
 unfold e2 ae eC;simp only[he];exact ZD hj h
def cX {env:Env} {e:acC D} {fa:acC (List D)} {d:D} {r:List D} (h:e env s=ok d s) (g:fa env s=ok r s):aa e fa env s=ok (d::r) s:=by
 unfold aa;rw[h];show ak (fa env s) _=_;rw[g];rfl
variable {d0 d1 d2 d3:D}
def xT {fn:List D->af->Res D} {env:Env} (he:env[1]?=some (some (.aj j))) (hj:s[j]?=some (.lst [d0,d1])) {r:acC (List D)} {rs:List D} (hr:r env s=ok rs s):aa (e2 aA (ae 1) (eC (.int 0))) (aa (e2 aA (ae 1) (eC (.int 1))) r) env s=ok (d0::d1::rs) s :=
 cX (my he hj rfl) (cX (my he hj rfl) hr)
def xC {env:Env} (he:env[1]?=some (some (.aj j))) (hj:s[j]?=some (.lst [d0,d1,d2])) {r:acC (List D)} {rs:List D} (hr:r env s=ok rs s):aa (e2 aA (ae 1) (eC (.int 0))) (aa (e2 aA (ae 1) (eC (.int 1))) (aa (e2 aA (ae 1) (eC (.int 2))) r)) env s=ok (d0::d1::d2::rs) s :=
 cX (my he hj rfl) (cX (my he hj rfl) (cX (my he hj rfl) hr))
def uz {env:Env} (he:env[1]?=some (some (.aj j))) (hj:s[j]?=some (.lst [d0])) {r:acC (List D)} {rs:List D} (hr:r env s=ok rs s):aa (e2 aA (ae 1) (eC (.int 0))) r env s=ok (d0::rs) s:=cX (my he hj rfl) hr
def UK (hj:s[j]?=some (.lst [d0,d1,d2])) (h:dh [.book,.bx,.day] [d0,d1,d2] x):eU [.str "surely",.aj j] s=bM x.cls s :=
 cR rfl (ic ((gv (by kernel_rfl)).trans (jQ ((yZ (by kernel_rfl)).trans (iu (xC rfl hj rfl) (UJ h))))))
def ZE (hj:s[j]?=some (.lst [d0,d1,d2,d3])) (h:dh [.book,.bx,.day,.eG] [d0,d1,d2,d3] x):eU [.str "may",.aj j] s=bM x.cls s :=
 cR rfl (ic ((gv (by kernel_rfl)).trans (jQ ((y0 (by kernel_rfl)).trans (iu (cX (my rfl hj rfl) (cX (my rfl hj rfl) (cX (my rfl hj rfl) (cX (my rfl hj rfl) rfl)))) (ZC h))))))
def Yd (hj:s[j]?=some (.lst [d0,d1])) (h:dh [.book,.bx] [d0,d1] x):eU [.str "life",.aj j] s=bM x.cls s :=
 cR rfl ((skip (by kernel_rfl)).trans (ic ((gv (by kernel_rfl)).trans (ic ((gv (by kernel_rfl)).trans (jQ (iu (xT (fn:=A9) rfl hj rfl) (zb iQ lA h rfl))))))))
def We (hj:s[j]?=some (.lst [d0,d1])) (h:dh [.book,.bx] [d0,d1] x):eU [.str "least",.aj j] s=bM x.cls s :=
 cR rfl ((skip (by kernel_rfl)).trans (ic ((gv (by kernel_rfl)).trans ((skip (by kernel_rfl)).trans (jQ ((yZ (by kernel_rfl)).trans (iu (xT (fn:=AD) rfl hj rfl) (zb iQ lA h rfl))))))))
def Ye (hj:s[j]?=some (.lst [d0,d1])) (h:dh [.book,.bx] [d0,d1] x):eU [.str "most",.aj j] s=bM x.cls s :=
 cR rfl ((skip (by kernel_rfl)).trans (ic ((gv (by kernel_rfl)).trans ((skip (by kernel_rfl)).trans (jQ ((y0 (by kernel_rfl)).trans (iu (xT (fn:=AQ) rfl hj rfl) (zb iQ lA h rfl))))))))
def UL (hj:s[j]?=some (.lst [d0,d1])) (h:dh [.book,.eG] [d0,d1] x):eU [.str "places",.aj j] s=bM x.cls s :=
 cR rfl ((skip (by kernel_rfl)).trans ((skip (by kernel_rfl)).trans (ic ((gv (by kernel_rfl)).trans (jQ (iu (xT (fn:=AO) rfl hj rfl) (zb iQ H0 h rfl)))))))
def Ls {i:Nat} {ft:acC Bool} {nL nM:List D->af->Res D} {fa:acC (List D)} {env:Env} {b:Bool} {ds:List D} {c:Str} (hi:i<env.length) (ht:ft env s=ok b s) (ha:fa (env.set i none) s=ok ds s) (h1:nL ds s=bM c s) (h2:nM ds s=bM c s):vq i ft nL nM fa env s=bM c s:=by
 unfold vq;rw[ã hi,ht];show ak (fa (env.set i none) s) _=_;rw[ha]
 show ak (if b then nL ds s else nM ds s) _=_
 rw[h1,h2]
 cases b<;>rfl
def Yf (hj:s[j]?=some (.lst [d0,d1,d2])) (h:dh [.book,.bx,.fk] [d0,d1,d2] x):eU [.str "days",.aj j] s=bM x.cls s :=
 cR rfl ((skip (by kernel_rfl)).trans ((skip (by kernel_rfl)).trans ((skip (by kernel_rfl)).trans (ic ((gv (by kernel_rfl)).trans (Ls (b:=true) (show 2<3 by decide) (by kernel_rfl) (xC rfl hj rfl) (uK h rfl) (uK h rfl)))))))
def Qq (hj:s[j]?=some (.lst [d0,d1,d2])) (h:dh [.book,.bx,.fk] [d0,d1,d2] x):eU [.str "narrowest",.aj j] s=bM x.cls s :=
 cR rfl ((skip (by kernel_rfl)).trans ((skip (by kernel_rfl)).trans ((skip (by kernel_rfl)).trans (ic ((gv (by kernel_rfl)).trans (Ls (b:=false) (show 2<3 by decide) (by kernel_rfl) (xC rfl hj rfl) (uK h rfl) (uK h rfl)))))))
def UM (hj:s[j]?=some (.lst [d0,d1,d2])) (h:dh [.book,.bx,.fk] [d0,d1,d2] x):eU [.str "dating",.aj j] s=bM x.cls s :=
 cR rfl ((skip (by kernel_rfl)).trans ((skip (by kernel_rfl)).trans ((skip (by kernel_rfl)).trans ((skip (by kernel_rfl)).trans (ic ((gv (by kernel_rfl)).trans (jQ (iu (xC rfl hj rfl) (uK h rfl)))))))))
def vz {nm:Str} {g:acC Fl} {t1 t2 t3 t4 t5:acC Bool} {a1 a2 a3 a4 a5:acC Fl} {env:Env} (h1:t1 env s=ok false s) (h2:t2 env s=ok false s) (h3:t3 env s=ok false s) (h4:t4 env s=ok false s) (h5:t5 env s=ok false s) :
  ao (aZ t1 a1 bq) (ao (aZ t2 a2 bq) (ao (aZ t3 a3 bq) (ao (aZ t4 a4 bq) (ao (aZ t5 a5 bq) g)))) env s=g env s:=(skip h1).trans ((skip h2).trans ((skip h3).trans ((skip h4).trans (skip h5))))
def UN (hj:s[j]?=some (.lst [d0])) (h:dh [.run] [d0] x):eU [.str "laying",.aj j] s=bM x.cls s :=
 cR rfl ((vz (nm:="") (by kernel_rfl) (by kernel_rfl) (by kernel_rfl) (by kernel_rfl) (by kernel_rfl)).trans (ic ((gv (by kernel_rfl)).trans (jQ ((yZ (by kernel_rfl)).trans (iu (uz rfl hj rfl) (vw rm h rfl)))))))
def Wf (hj:s[j]?=some (.lst [d0])) (h:dh [.run] [d0] x):eU [.str "paper",.aj j] s=bM x.cls s :=
 cR rfl ((vz (nm:="") (by kernel_rfl) (by kernel_rfl) (by kernel_rfl) (by kernel_rfl) (by kernel_rfl)).trans (ic ((gv (by kernel_rfl)).trans (jQ ((y0 (by kernel_rfl)).trans (iu (uz rfl hj rfl) (vw rm h rfl)))))))
def UO (hj:s[j]?=some (.lst [d0])) (h:dh [.run] [d0] x):eU [.str "breaks",.aj j] s=bM x.cls s :=
 cR rfl ((vz (nm:="") (by kernel_rfl) (by kernel_rfl) (by kernel_rfl) (by kernel_rfl) (by kernel_rfl)).trans ((skip (by kernel_rfl)).trans (ic ((gv (by kernel_rfl)).trans (jQ (iu (uz rfl hj rfl) (vw rm h rfl)))))))
def Yg (hj:s[j]?=some (.lst [d0])) (h:dh [.run] [d0] x):eU [.str "best",.aj j] s=bM x.cls s :=
 cR rfl ((vz (nm:="") (by kernel_rfl) (by kernel_rfl) (by kernel_rfl) (by kernel_rfl) (by kernel_rfl)).trans ((skip (by kernel_rfl)).trans ((skip (by kernel_rfl)).trans (jQ ((yZ (by kernel_rfl)).trans (iu (uz rfl hj rfl) (vw rm h rfl)))))))
def Yh (hj:s[j]?=some (.lst [d0])) (h:dh [.run] [d0] x):eU [.str "told",.aj j] s=bM x.cls s :=
 cR rfl ((vz (nm:="") (by kernel_rfl) (by kernel_rfl) (by kernel_rfl) (by kernel_rfl) (by kernel_rfl)).trans ((skip (by kernel_rfl)).trans ((skip (by kernel_rfl)).trans (jQ ((y0 (by kernel_rfl)).trans (iu (uz rfl hj rfl) (vw rm h rfl)))))))
end
structure Ox (p:Pg):Prop where
 day:0<=p.day/\p.day<31
 sQ:sQ p
 apart:X6 p
 ft:Ft 3 7116 p.d
def Ft.mono (h:Ft n W d) (h1:n<=n') (h2:W<=W'):Ft n' W' d:=⟨h.pl,h.sh,h.nd,Þ h.dp h1,Þ h.wt h2,h.lv⟩
def Lu:Ft 0 110 (.str "made")/\Ft 0 110 (.str "mended"):=⟨DN (by decide +kernel),DN (by decide +kernel)⟩
def yL (h:dG 8 ns):Ft 1 888 (mD ns):=by
 refine mM (c:=8) (W:=110) (by rw[Í];exact h.len) λx Z=>?_;obtain⟨y,Y,rfl⟩:=ċ.mp Z;have:=h.lo y Y;exact og (by omega) (by omega)
def Wg (h:fM p=true):Ox p:=by
 cases p with
 |made m d P l =>
  simp only[fM,kq,jZ,Æ,É] at h;obtain⟨⟨T,Y⟩,S,R,X⟩:=h;have V:=HY S;have U:=HY R;refine⟨Y,⟨by have:=V.len;omega,by have:=U.len;omega⟩,λx Z Q=>?_,?_⟩
  ·unfold pR at X
   rw[Ķ,abO] at X;exact X x Z (æ Q)
  ·refine mM (c:=4) (n:=2) (W:=1778) (by simp) λx Z=>?_
   simp only[Ò,é,or_false] at Z
   rcases Z with rfl|rfl|rfl|rfl
   ·exact Lu.1.mono (by omega) (by omega)
   ·exact(og (by omega) (by omega)).mono (by omega) (by omega)
   ·exact(og (by omega) (by omega)).mono (by omega) (by omega)
   ·refine mM (c:=2) (n:=1) (W:=888) (by simp) λx Z=>?_
    simp only[Ò,é,or_false] at Z
    rcases Z with rfl|rfl
    ·exact yL V
    ·exact yL U
 |bu m d k =>
  simp only[fM,kq,jZ,markB,Æ,É] at h;obtain⟨⟨T,Y⟩,O⟩:=h;refine⟨Y,trivial,trivial,(mM (c:=4) (n:=0) (W:=110) (by simp) λx Z=>?_).mono (by omega) (by omega)⟩;simp only[Ò,é,or_false] at Z
  rcases Z with rfl|rfl|rfl|rfl
  ·exact Lu.2
  ·exact og (by omega) (by omega)
  ·exact og (by omega) (by omega)
  ·exact og (by omega) (by omega)
def IM (h:gL ps=true):ps.length<=24/\∀p∈ps,Ox p:=by
 unfold gL kD at h;simp only[Æ,É,ø] at h;exact⟨h.1.1,λp Z=>Wg (h.1.2.1 p Z)⟩
noncomputable def nr:List D:=[.au,.bl true,.bl false,.int (-1),.int 8,.int 31,.int 4,.str "",.str "0",.str "made",.tup [],.lst [],.bA [],.tup [.int 0],.lst [.int 0],.int (10 ^ 29),.int (-(10 ^ 20)),.tup [.int 8]]
noncomputable def oF:List D:=[.tup [.str "made"],.tup [.int 0,.int 0],.tup [.tup [.int 0],.tup [.int 0]],.bA [(Ă "made",0)],.tup [.tup [],.tup []],.tup [.tup [.bl true],.tup []],.tup [.tup [.int 1,.int 0],.tup []],.str "made 0 0 -/-"]
noncomputable def Aq:D->D
 | .tup []=>.au
 |d=>d
def EI:List D:=(nr++oF).map Aq
noncomputable def pA:D:=.tup [.str "made",.int 0,.int 3,.tup [.tup [.int 1],.tup []]]
noncomputable def pB:D:=.tup [.str "made",.int 0,.int 4,.tup [.tup [],.tup [.int 1]]]
def pC:D:=.tup [.str "mended",.int 0,.int 3,.int 1]
def pE:D:=.tup [.str "mended",.int 0,.int 31,.int 1]
noncomputable def xg:D:=.tup [.tup [],.tup []]
def dO (ps:List Pg):Kn->List D
 | .book=>.lst (ps.map Pg.d)::.tup [pA,pB]::.tup [pA,pC]::.tup [pE]::EI
 | .bx=>[.int 4,.int (-1),.bl true,.au,.str "0"]
 | .day=>[.int 31,.int (-1),.bl false,.au,.tup [.int 0]]
 | .eG=>[.tup [.tup [.int 1],.tup [.int 1]],.tup [.tup [.int 8],.tup []],.lst [.tup [],.tup []],.tup [.tup []],.tup [.tup [.int 2,.int 1],.tup []]]
 | .fk=>[.tup [],.tup [xg,xg,xg,xg],.lst [xg],.tup [.tup [.tup [.int 1],.tup [.int 1]]],.tup [.tup [],.tup []]]
 | .run=>[.tup [],.tup (Å 11 (.tup [])),.lst [.tup []],.tup [.tup [.int 1,.int 0]],.tup [.tup [.int 8]]]
def SV {ps:List Pg} {k:Kn} {d:D} (h:d∈dO ps k):za k d:=by
 intro s
 cases k with
 |book =>
  simp only[dO,EI,nr,oF,Aq,ß,Ě,ā,ė,Ò,é,or_false] at h
  rcases h with rfl|h
  ·kernel_rfl
  ·rcases h with rfl|rfl|rfl|rfl|rfl|rfl|rfl|rfl|rfl|rfl|rfl|rfl|rfl|rfl|rfl|rfl|rfl|rfl|rfl|rfl|rfl|rfl|rfl|rfl|rfl|rfl|rfl|rfl|rfl<;>kernel_rfl
 |bx =>
  simp only[dO,Ò,é,or_false] at h
  rcases h with rfl|rfl|rfl|rfl|rfl<;>kernel_rfl
 |day =>
  simp only[dO,Ò,é,or_false] at h
  rcases h with rfl|rfl|rfl|rfl|rfl<;>kernel_rfl
 |eG =>
  simp only[dO,Ò,é,or_false] at h
  rcases h with rfl|rfl|rfl|rfl|rfl<;>kernel_rfl
 |fk =>
  simp only[dO,Ò,é,or_false] at h
  rcases h with rfl|rfl|rfl|rfl|rfl<;>kernel_rfl
 |run =>
  simp only[dO,Ò,é,or_false] at h
  rcases h with rfl|rfl|rfl|rfl|rfl<;>kernel_rfl
abbrev sD (a b:List Int):D:=.tup [mD a,mD b]
structure Sh (h l:List Int):Prop where
 a:dG 8 h
 b:dG 8 l
 ap:∀x∈h,x∉l
def Wh {ps:List Pg} (h:gL ps=true):Goes .book (bD ps):=λs=>by
 obtain⟨X,Z⟩:=IM h;show ph [bD ps] s=_;rw[V8 (by omega) (λp Y=>(Z p Y).sQ),h]
def UP {m:Int} (h0:0<=m) (h1:m<4):Goes .bx (.int m):=λs=>by
 show nQ [.int m] s=_;rw[BG];simp[kq,h0,h1]
def Yi {m:Int} (h0:0<=m) (h1:m<31):Goes .day (.int m):=λs=>by
 show nS [.int m] s=_;rw[C0];simp[jZ,h0,h1]
def JC {a b:List Int} (h:Sh a b):Goes .eG (sD a b):=λs=>by
 have X:=h.a.len;have W:=h.b.len;show nP [sD a b] s=_;have ap:pR a b=true:=by
  unfold pR;rw[Ķ,abO];intro x Z Y;exact h.ap x Z (Ą Y)
 rw[JA (by omega) (by omega),xB h.a (acG 8),xB h.b (acG 8),ap];rfl
def SW {a b:List Int} {n:Nat} (h:Sh a b) (h1:1<=n) (h3:n<=3):Goes .fk (.tup (Å n (sD a b))):=λs=>by
 show tX [.tup (Å n (sD a b))] s=_;refine acE ?_;unfold tX;simp only[VC];refine acD (show gr [.tup (Å n (sD a b)),.ty "tuple"] s=ok (.bl true) s from rfl) ?_;simp only[VC,Ā];refine acD (show cy [.tup (Å n (sD a b))] s=ok (.int (Å n (sD a b)).length) s from rfl) ?_;rw[Ĉ];simp only[VC];rw[æ (show (1:Int)<=n by omega),æ (show (n:Int)<=3 by omega)];simp only[VC,Ā];refine acD (lB rfl) ⟨le_size (by rw[Ĉ];omega),?_⟩;have e:Å n (sD a b)=(Å n ()).map λ_=>sD a b:=by rw[List.map_replicate]
 rw[e];refine acD (comp_map (λ_:Unit=>sD a b) (λ_=>true) (λ_=>.bl true) (Å n ()) λr Z=>⟨[some (sD a b)],rfl,rfl,λ_=>?_⟩) ?_
 ·refine acE ?_
  simp only[VC];exact acD (JC h s) ⟨rfl,rfl⟩
 ·rw[filter_tt]
  exact acD (pH (λ_=>true) _ _) ⟨by simp,rfl⟩
def Lw {rs:List (List Int)} (h:zE rs):Goes .run (rD rs):=λs=>by
 have Y:=h.lo;have X:=h.hi;show qT [rD rs,.int 10] s=ok (.bl true) s;refine acE ?_;unfold qT;simp only[VC];refine acD (show gr [rD rs,.ty "tuple"] s=ok (.bl true) s from rfl) ?_;simp only[VC,Ā];refine acD (show cy [rD rs] s=ok (.int (rs.map mD).length) s from rfl) ?_;rw[Í];simp only[VC];rw[æ (show (1:Int)<=rs.length by omega),æ (show (rs.length:Int)<=10 by omega)];simp only[VC,Ā];refine acD (lB rfl) ⟨le_size (by rw[Í];omega),?_⟩;refine acD (comp_map mD (λ_=>true) (λ_=>.bl true) rs λr Z=>⟨[some (mD r)],rfl,rfl,λ_=>?_⟩) ?_
 ·refine acE ?_
  simp only[VC,Rk (h.tQ r Z),acb]
 ·rw[filter_tt]
  exact acD (pH (λ_=>true) _ _) ⟨by simp,rfl⟩
structure Sw (W:Nat) (d:D):Prop where
 pl:plain d=true
 sh:(py d).showable=true
 dp:(py d).depth<=50
 wt:(py d).weight<=W
 lv:(py d).leavesShort 40=true
def Ge (d:D):Bool:=plain d&&(py d).showable&&decide ((py d).depth<=50)&&decide ((py d).weight<=20000)&&(py d).leavesShort 40
def ZF {d:D} (h:Ge d=true):Sw 20000 d:=by
 simp only[Ge,Æ,É] at h;exact⟨h.1.1.1.1,h.1.1.1.2,h.1.1.2,h.1.2,h.2⟩
def Sw.big {d:D} (h:Sw 20000 d):Sw 180000 d:=⟨h.pl,h.sh,h.dp,Þ h.wt (by decide),h.lv⟩
def si {n W V:Nat} {d:D} (h:Ft n W d) (hn:n<=50) (hw:W<=V):Sw V d:=⟨h.pl,h.sh,Þ h.dp hn,Þ h.wt hw,h.lv⟩
def Ko {ps:List Pg} (h:gL ps=true):Sw 180000 (bD ps)/\Sw 180000 (.lst (ps.map Pg.d)):=by
 obtain⟨Z,Y⟩:=IM h;have row:∀x∈ps.map Pg.d,Ft 3 7116 x:=λx X=>by
  obtain⟨p,W,rfl⟩:=ċ.mp X;exact(Y p W).ft
 exact⟨si (mM (c:=24) (by rw[Í];exact Z) row) (by decide) (by decide),si (X9 (c:=24) (by rw[Í];exact Z) row) (by decide) (by decide)⟩
def JD {a b:List Int} (h:Sh a b):Ft 2 (2*(888+1)) (sD a b):=mM (n:=1) (W:=888) (c:=2) (ds:=[mD a,mD b]) (acG 2) λx Z=>by
 simp only[Ò,é,or_false] at Z
 rcases Z with rfl|rfl
 ·exact yL h.a
 ·exact yL h.b
def rR {l:List D} {d:D} (hl:l.all Ge=true) (hd:d∈l):Sw 20000 d:=ZF (ø.mp hl d hd)
def Lx {ps:List Pg} {k:Kn} {d:D} (hk:k≠.book) (h:d∈dO ps k):Sw 20000 d:=by
 cases k with
 |book=>exact absurd rfl hk
 |bx=>exact rR (l:=[.int 4,.int (-1),.bl true,.au,.str "0"]) (by decide +kernel) h
 |day=>exact rR (l:=[.int 31,.int (-1),.bl false,.au,.tup [.int 0]]) (by decide +kernel) h
 |eG=>exact rR (l:=dO [] .eG) (by decide +kernel) h
 |fk=>exact rR (l:=dO [] .fk) (by decide +kernel) h
 |run=>exact rR (l:=dO [] .run) (by decide +kernel) h
def Wi {ps:List Pg} (hb:gL ps=true) {d:D} (h:d∈dO ps .book):Sw 180000 d:=by
 rcases Ò.mp h with rfl|h
 ·exact(Ko hb).2
 ·exact(rR (l:=.tup [pA,pB]::.tup [pA,pC]::.tup [pE]::EI) (by decide +kernel) h).big
def sws {W:Nat} {ds:List D} (h:∀d∈ds,Sw W d):jH ds=true/\ļ (bJ ds)=true/\ğ (bJ ds)<=50/\ľ (bJ ds)<=ds.length*(W+1)/\š 40 (bJ ds)=true:=by
 induction ds with
 |nil=>exact⟨rfl,rfl,Đ _,Đ _,rfl⟩
 |cons d r ih =>
  obtain⟨Z,Y,U,T,X⟩:=ih λx V=>h x (Ê _ V);have k:=h d Ð;have w:=k.wt;have p:=k.dp;refine⟨by simp only[jH,k.pl,Z,Ĝ],by simp only[bJ,ļ,k.sh,Y,Ĝ],by simp only[bJ,ğ];omega,?_,by simp only[bJ,š,k.lv,X,Ĝ]⟩;simp only[bJ,ľ,á];rw[Nat.succ_mul];omega
def Wj {x:D} {xs:List D} {j:Nat} {s:af} (hj:s[j]?=some (.lst (x::xs))) (hl:xs.length<=3) (h0:Sw 180000 x) (h:∀d∈xs,Sw 20000 d):rK [.aj j] s=ok (.str (py (.lst (x::xs))).shown) s:=by
 obtain⟨Z,Y,T,X,W⟩:=sws h;have S:=h0.wt;have R:=h0.dp;have e:res (.aj j) s=.lst (x::xs):=by unfold res;simp only[hj]
 have lv:(py (.lst (x::xs))).leavesShort 40=true:=by rw[py.eq_6];simp only[bJ,acr,š,h0.lv,W,Ĝ]
 have l:=PyData.shown_le 40 (by decide) _ lv;have z:Ø=16777216:=Ţ;have V:ľ (bJ xs)<=3*20001:=Þ X (aaU _ hl);have wt:(py (.lst (x::xs))).weight<=300000:=by rw[py.eq_6];simp only[bJ,PyData.weight,ľ];omega
 have dp:(py (.lst (x::xs))).depth<=100:=by rw[py.eq_6];simp only[bJ,PyData.depth,ğ];omega
 have U:(py (.lst (x::xs))).shown.length<=Ø:=by rw[z];omega
 unfold rK;simp only[e];rw[ã];unfold EB;rw[æ dp,æ U];have e1:plain (.lst (x::xs))=true:=by simp only[plain,jH,h0.pl,Z,Ĝ]
 have e2:(py (.lst (x::xs))).showable=true:=by rw[py.eq_6];simp only[bJ,ξ,ļ,h0.sh,Y,Ĝ]
 rw[e1,e2];rfl
section
variable {s:af} {k:Nat}
def vA {ds:List D} {r:Int} {s:af} (h0:0<=r) (h1:r<ds.length):∃d∈ds,aA (.lst ds) (.int r) s=ok d s:=by
 obtain⟨x,e,e2⟩:=yG h0 h1;exact⟨x,ť e2,by simp only[aA,k9,res,e,bY]⟩
def Yj (h:bb s k):Wp (yv [.aj k] s) λd s'=>bb s' k/\Ex k s s'/\d∈nr++oF:=by
 unfold yv;refine kC.symm ▸ ⟨rfl,?_⟩;refine dM (env':=[some (.aj k),some (.lst nr)]) (s':=s) rfl ?_;refine dM (env':=[some (.aj k),some (.lst (nr++oF))]) (s':=s) rfl ?_;simp only[jC,jP,wp_call,fg,eV,gG,gH,iE,jJ];refine(fQ h (by decide) (by decide)).mono λx Z Y=>?_;obtain⟨r,rfl,X,W,V,ex⟩:=Y;obtain⟨d,U,e⟩:=vA (ds:=nr++oF) (s:=Z) X W;exact acD e ⟨V,ex,U⟩
def Yk {d:D} {env:Env} (he:env[4]?=some (some d)) (hd:d∈nr++oF):iL (aQ (e2 qe (ae 4) (eC (.tup [])))) (ae 4) (eC .au) env s=ok (Aq d) s:=by
 have Z:∀s,ae 4 env s=ok d s:=λs=>by unfold ae;simp only[he]
 have e:=Z s;have e2:aQ (e2 qe (ae 4) (eC (.tup []))) env s=ak (qe d (.tup []) s) fW:=by
  unfold aQ DI.e2 eC;rw[e];rfl
 unfold iL;rw[e2,show ae 4 env=ok d from funext Z];clear e e2 he Z;simp only[nr,oF,ā,ė,Ò,é,or_false] at hd
 rcases hd with rfl|rfl|rfl|rfl|rfl|rfl|rfl|rfl|rfl|rfl|rfl|rfl|rfl|rfl|rfl|rfl|rfl|rfl|rfl|rfl|rfl|rfl|rfl|rfl|rfl|rfl<;>kernel_rfl
def Kp {k1 k2:Str} {a b:D} {env:Env}:vp k1 k2 (eC a) (eC b) env s=ok (.aj s.length) (s++[.dK [(Ă k1,a),(Ă k2,b)]]):=by
 show (match ((s++[Cell.dK []])[s.length]?:Option Cell) with
  |some (.dK [])=>ok (D.aj s.length) ((s++[Cell.dK []]).set s.length (.dK [(Ă k1,a),(Ă k2,b)]))
  |_=>none)=_
 have e:((s++[Cell.dK []])[s.length]?:Option Cell)=some (.dK []):=by simp
 rw[e];show ok (D.aj s.length) ((s++[Cell.dK []]).set s.length (.dK [(Ă k1,a),(Ă k2,b)]))=_;rw[List.set_append_right _ _ (acG _),Nat.sub_self];rfl
def get_eq {k1 k2:Str} {a b:D}:qd (.aj s.length) (.str k1) (s++[.dK [(Ă k1,a),(Ă k2,b)]])=ok a (s++[.dK [(Ă k1,a),(Ă k2,b)]])/\(k1≠k2->qd (.aj s.length) (.str k2) (s++[.dK [(Ă k1,a),(Ă k2,b)]])=ok b (s++[.dK [(Ă k1,a),(Ă k2,b)]])):=by
 have e:((s++[Cell.dK [(Ă k1,a),(Ă k2,b)]])[s.length]?:Option Cell)=some (.dK [(Ă k1,a),(Ă k2,b)]):=by simp
 refine⟨?_,λZ=>?_⟩
 ·unfold qd vO
  simp only[e,keyOf,qo,Ā,bY]
 ·unfold qd vO
  have:(Ă k1:Key)≠Ă k2:=λz=>Z (Sum.inr.inj z);simp only[e,keyOf,qo,this,û,Ā,bY]
end
section
variable {s:af} {k:Nat} {env:Env} {Q:D->af->Prop}
def Wk {e:acC D} {t:acC Bool} {g:acC Fl} (ht:t env s=ok true s) (h:Wp (e env s) Q):Wp (ao (aZ t (aL e) bq) g env s) (sL Q):=by
 obtain⟨d,Z,e1,q⟩:=h;refine acD (a:=.rt d) (s:=Z) ?_ q;unfold ao;rw[gv ht];unfold aL;rw[e1];rfl
def Yl {l:acC D} {ds:List D} {r:Int} (hl:l env s=ok (.lst ds) s) (hr:env[3]?=some (some (.int r))) (h0:0<=r) (h1:r<ds.length) (hQ:∀d∈ds,Q d s):Wp (e2 aA l (ae 3) env s) Q:=by
 obtain⟨d,Z,e⟩:=vA (ds:=ds) (s:=s) h0 h1;refine acD (a:=d) (s:=s) ?_ (hQ d Z);unfold e2;rw[hl];show ak (ae 3 env s) _=_;unfold ae;simp only[hr];exact e
def Ym {f g:acC Fl} {d:D} {s':af} (h:f env s=ok (.rt d) s'):ao f g env s=ok (.rt d) s':=by unfold ao;rw[h];rfl
def Ly {f g:acC Fl} {env':Env} {s':af} (h:f env s=ok (.nx env') s'):ao f g env s=g env' s':=by unfold ao;rw[h];rfl
def vB {e:acC D} {i:Nat} {d:D} {env':Env} {s':af} (h:e env s=ok d s') (g:gN i d env=some env'):aN e (gN i) env s=ok (.nx env') s':=by
 unfold aN;rw[h]
 show (match gN i d env with
  |some env=>ok (Fl.nx env) s'
  |none=>none)=_
 rw[g]
def C4 {e:acC D} {d:D} {s':af} (h:e env s=ok d s'):aL e env s=ok (.rt d) s':=by unfold aL;rw[h];rfl
def qg {o:D->D->af->Res D} {a b:acC D} {x y z:D} {s':af} (ha:a env s=ok x s) (hb:b env s=ok y s) (h:o x y s=ok z s'):e2 o a b env s=ok z s':=by
 unfold e2;rw[ha];show ak (b env s) _=_;rw[hb];exact h
def yM {fa:acC (List D)} {ds:List D} (h:fa env s=ok ds s) (hl:ds.length<=1000):bH fa env s=ok (.lst ds) s:=by
 refine acE ?_;rw[rL];exact acD h ⟨le_size (by omega),rfl,rfl⟩
def UQ {ps:List Pg} {r:Int} {od:D} {a:D} (h0:0<=r) (h1:r<5) (ho:od∈nr++oF) (hl:ps.length<=1000) (hQ:∀d∈dO ps .book,Q d s) {g:acC Fl} :
  Wp (ao (aZ (aQ (e2 cb (ae 1) (eC (.str "book")))) (ao (aN (eC (.tup [.tup [.str "made",.int 0,.int 3,.tup [.tup [.int 1],.tup []]],.tup [.str "made",.int 0,.int 4,.tup [.tup [],.tup [.int 1]]]])) (gN 5)) (ao (aN (bH (aa (eB yR (aa (ae 2) ah)) (aa (ae 5) (aa (eC (.tup [.tup [.str "made",.int 0,.int 3,.tup [.tup [.int 1],.tup []]],.tup [.str "mended",.int 0,.int 3,.int 1]])) (aa (eC (.tup [.tup [.str "mended",.int 0,.int 31,.int 1]])) ah))))) (gN 6)) (aL (e2 aA (e2 cP (ae 6) (bH (aa (iL (aQ (e2 qe (ae 4) (eC (.tup [])))) (ae 4) (eC .au)) ah))) (ae 3))))) bq) g [some a,some (.str "book"),some (bD ps),some (.int r),some od,none,none,none] s) (sL Q):=by
 obtain⟨d,Z,e⟩:=vA (ds:=[.lst (ps.map Pg.d),.tup [pA,pB],.tup [pA,pC],.tup [pE],Aq od]) (s:=s) h0 (by show r<5;exact h1);refine acD (a:=.rt d) (s:=s) ?_ (hQ d ?_)
 ·refine Ym ((gv (by kernel_rfl)).trans ((Ly (vB rfl rfl)).trans ((Ly (vB (d:=.lst [.lst (ps.map Pg.d),.tup [pA,pB],.tup [pA,pC],.tup [pE]]) (yM (cX rfl (cX rfl (cX rfl (cX rfl rfl)))) (show 4<=1000 by decide)) rfl)).trans (C4 (qg (qg rfl (yM (cX (Yk rfl ho) rfl) (show 1<=1000 by decide)) rfl) rfl e)))))
 ·simp only[Ò,é,or_false] at Z
  unfold dO
  rcases Z with rfl|rfl|rfl|rfl|rfl
  ·exact Ð
  ·exact Ê _ Ð
  ·exact Ê _ (Ê _ Ð)
  ·exact Ê _ (Ê _ (Ê _ Ð))
  ·exact Ê _ (Ê _ (Ê _ (Ê _ (List.mem_map_of_mem ho))))
def C5 {l:acC D} {ds:List D} {r:Int} {g:acC Fl} {t:acC Bool} (ht:t env s=ok true s) (hl:l env s=ok (.lst ds) s) (hr:env[3]?=some (some (.int r))) (h0:0<=r) (h1:r<ds.length) (hQ:∀d∈ds,Q d s):Wp (ao (aZ t (aL (e2 aA l (ae 3))) bq) g env s) (sL Q):=Wk ht (Yl hl hr h0 h1 hQ)
def Wl {ps:List Pg} {kn:Kn} {b:D} (h:bb s k) (hl:ps.length<=1000) (hb:kn=.book->b=bD ps):Wp (yw [.aj k,.str kn.word,b] s) λd s'=>d∈dO ps kn/\bb s' k/\Ex k s s':=by
 unfold yw;rw[kC];refine⟨rfl,?_⟩;refine acF λR S=>?_;simp only[ß,Ě,Å,Nat.reduceSub,ā,ė,nY,fg,eV,wp_call,gG,gH,iE];refine(fQ h (by decide) (by decide)).mono λx M T=>?_;obtain⟨r,rfl,Y,X,Q,P⟩:=T;refine(Yj Q).mono λL U T=>?_;obtain⟨W,O,N⟩:=T;have V:=P.trans O;refine⟨_,_,rfl,?_⟩;rw[gK];subst S;simp only[č,Ď]
 cases kn with
 |book =>
  rw[hb rfl];exact UQ Y X N hl λd Z=>⟨Z,W,V⟩
 |eG =>
  refine dM (ig (by kernel_rfl)) ?_;exact C5 (by kernel_rfl) rfl rfl Y (show r<5 from X) λd Z=>⟨Z,W,V⟩
 |fk =>
  refine dM (ig (by kernel_rfl)) (dM (ig (by kernel_rfl)) ?_);exact C5 (ds:=dO ps .fk) (by kernel_rfl) (yM (cX rfl (cX rfl (cX rfl (cX rfl (cX rfl rfl))))) (show 5<=1000 by decide)) rfl Y (show r<5 from X) λd Z=>⟨Z,W,V⟩
 |run =>
  refine dM (ig (by kernel_rfl)) (dM (ig (by kernel_rfl)) (dM (ig (by kernel_rfl)) ?_));exact C5 (ds:=dO ps .run) (by kernel_rfl) (yM (cX rfl (cX rfl (cX rfl (cX rfl (cX rfl rfl))))) (show 5<=1000 by decide)) rfl Y (show r<5 from X) λd Z=>⟨Z,W,V⟩
 |bx =>
  refine dM (ig (by kernel_rfl)) (dM (ig (by kernel_rfl)) (dM (ig (by kernel_rfl)) (dM (ig (by kernel_rfl)) ?_)));refine dM (vB Kp rfl) ?_;obtain⟨d,Z,e⟩:=vA (ds:=dO ps .bx) (s:=U++[.dK [(Ă "mould",.lst (dO ps .bx)),(Ă "day",.lst (dO ps .day))]]) Y (show r<5 from X);exact acD (a:=.rt d) (C4 (qg (qg rfl rfl get_eq.1) rfl e)) ⟨Z,W.app _,V.trans (Ex.app k U _)⟩
 |day =>
  refine dM (ig (by kernel_rfl)) (dM (ig (by kernel_rfl)) (dM (ig (by kernel_rfl)) (dM (ig (by kernel_rfl)) ?_)));refine dM (vB Kp rfl) ?_;obtain⟨d,Z,e⟩:=vA (ds:=dO ps .day) (s:=U++[.dK [(Ă "mould",.lst (dO ps .bx)),(Ă "day",.lst (dO ps .day))]]) Y (show r<5 from X);exact acD (a:=.rt d) (C4 (qg (qg rfl rfl (get_eq.2 (by decide))) rfl e)) ⟨Z,W.app _,V.trans (Ex.app k U _)⟩
def SX (h:bb s k):Wp (cT.xO [.aj k] s) λd s'=>∃a b,d=sD a b/\Sh a b/\bb s' k/\Ex k s s':=by
 unfold cT.xO;simp only[VC];refine(Jt (n:=8) h (by omega)).mono λd t1 V=>?_;obtain⟨Z,rfl,U,T,e1⟩:=V;refine(Jt (n:=8) T (by omega)).mono λd X hd2=>?_;obtain⟨Y,rfl,W,S,e2⟩:=hd2;refine⟨by decide,?_⟩
 try simp only[VC]
 refine acD (lB (ds:=Y.map D.int) rfl) ⟨rQ (by rw[Í];have:=W.len;omega),?_⟩;refine acD (pk (λx=>!decide (x∈Z)) (λx=>.int x) Y λx _=>⟨[some (.int x),some (mD Z)],rfl,?_,λ_=>rfl⟩) ?_
 ·refine acE ?_
  simp only[VC,HW,ŋ]
 ·refine acD (show gJ [.lst ((Y.filter λx=>!decide (x∈Z)).map λx=>.int x)] X=ok (mD (Y.filter λx=>!decide (x∈Z))) X from rfl) ?_
  exact⟨by decide,Z,_,rfl,⟨U,W.filter _,λx R Q=>by simpa [R] using (ĕ.mp Q).2⟩,S,e1.trans e2⟩
end
section
variable {s:af} {k:Nat} {env:Env}
def Yn {cl:D} {th:af->Res D} (x:Kn) (h:th s=bM x.cls s):dw cl th [cl] s=ok (.str x.word) s:=by
 cases x with
 |book=>exact AZ h
 |bx=>exact AR h
 |day=>exact Bc h
 |eG=>exact AS h
 |fk=>exact AE h
 |run=>exact Bd h
def Lz {j0:Nat} {x:Str} {caps:List Nat} {ds:List D} {fb:acC D} {r:D} (h0:s[j0]?=some (.tb x)) (ht:mZ env caps=some ds) (h:dw .au (fb (ds.map some)) [.au] s=ok r s):qf j0 x caps fb dw env s=ok r s:=by
 unfold qf;rw[ht];dsimp only;rw[h0];dsimp only;rw[ã (æ rfl),h];rfl
def m8 (nm:Str) (aX:List Kn):Prop:=∀{s:af} {j:Nat} {Z:List D} {x:Kn},s[j]?=some (.lst Z)->Z.length=aX.length->dh aX Z x->eU [.str nm,.aj j] s=bM x.cls s
def xh {nm:Str} {k0:Kn} (h:∀{s:af} {j:Nat} {d0:D} {x:Kn},s[j]?=some (.lst [d0])->dh [k0] [d0] x->eU [.str nm,.aj j] s=bM x.cls s):m8 nm [k0]:=λ{s j Z x} Y X W=>by
 match Z,X with
 | [d0],_=>exact h Y W
def of2 {nm:Str} {k0 k1:Kn} (h:∀{s:af} {j:Nat} {d0 d1:D} {x:Kn},s[j]?=some (.lst [d0,d1])->dh [k0,k1] [d0,d1] x->eU [.str nm,.aj j] s=bM x.cls s):m8 nm [k0,k1]:=λ{s j Z x} Y X W=>by
 match Z,X with
 | [d0,d1],_=>exact h Y W
def Ar {nm:Str} {k0 k1 k2:Kn} (h:∀{s:af} {j:Nat} {d0 d1 d2:D} {x:Kn},s[j]?=some (.lst [d0,d1,d2])->dh [k0,k1,k2] [d0,d1,d2] x->eU [.str nm,.aj j] s=bM x.cls s):m8 nm [k0,k1,k2]:=λ{s j Z x} Y X W=>by
 match Z,X with
 | [d0,d1,d2],_=>exact h Y W
def of4 {nm:Str} {k0 k1 k2 k3:Kn} (h:∀{s:af} {j:Nat} {d0 d1 d2 d3:D} {x:Kn},s[j]?=some (.lst [d0,d1,d2,d3])->dh [k0,k1,k2,k3] [d0,d1,d2,d3] x->eU [.str nm,.aj j] s=bM x.cls s):m8 nm [k0,k1,k2,k3]:=λ{s j Z x} Y X W=>by
 match Z,X with
 | [d0,d1,d2,d3],_=>exact h Y W
theorem JE:∀{aX:List Kn} {ds:List D} {m:Nat} {kn:Kn} {d:D},aX[m]?=some kn->ds[m]?=some d->za kn d->(∀i k d,i<m->aX[i]?=some k->ds[i]?=some d->Goes k d)->dh aX ds kn
 | [],_,_,_,_,h,_,_,_=>by simp at h
 |_::_,[],_,_,_,_,h,_,_=>by simp at h
 |k0::aX,Z::ds,0,kn,d,h,g,f,_=>by
  cases h;cases g;exact .inl ⟨rfl,f⟩
 |k0::aX,Z::ds,m+1,kn,d,h,g,f,a=>.inr ⟨a 0 k0 Z (Nat.succ_pos m) rfl rfl,JE (m:=m) h g f λi k d hi Y X=>a (i+1) k d (Nat.succ_lt_succ hi) Y X⟩
structure Row (nm:Str) (aX:List Kn) (bW:List D) (ps:List Pg):Prop where
 ce:m8 nm aX
 len:bW.length=aX.length
 lo:1<=aX.length
 hi:aX.length<=4
 go:∀(i:Nat) (k:Kn) (d:D),aX[i]?=some k->bW[i]?=some d->Goes k d
 xi:∀d,bW[0]?=some d->Sw 180000 d
 xj:∀(i:Nat) (d:D),bW[i+1]?=some d->Sw 20000 d
 nb:∀i:Nat,aX[i+1]?≠some .book
 hb:aX[0]?=some .book->bW[0]?=some (bD ps)/\gL ps=true
 hl:ps.length<=1000
structure qR (aX:List Kn) (bW:List D) (ps:List Pg) (L:List Nat) (ds:List D):Prop where
 len:ds.length=bW.length
 bad:∀i d kn,i∈L->ds[i]?=some d->aX[i]?=some kn->d∈dO ps kn
 good:∀i,i∉L->ds[i]?=bW[i]?
theorem qR.set {aX:List Kn} {bW:List D} {ps:List Pg} {L:List Nat} {ds:List D} (h:qR aX bW ps L ds) {i:Nat} {kn:Kn} {x:D} (hi:i<ds.length) (hk:aX[i]?=some kn) (hx:x∈dO ps kn):qR aX bW ps (L++[i]) (ds.set i x):=by
 refine⟨by rw[î];exact h.len,λj d X Z Y W=>?_,λj Z=>?_⟩
 ·by_cases e:j=i
  ·subst e
   rw[Ó hi] at Y;cases Y;rw[hk] at W;cases W;exact hx
  ·rw[Ï (Ŀ e)] at Y
   refine h.bad j d X ?_ Y W
   rcases è.mp Z with z|z
   ·exact z
   ·exact absurd (by simpa using z) e
 ·have e:j≠i:=λe=>Z (Ñ _ (by simp[e]))
  rw[Ï (Ŀ e)];exact h.good j λz=>Z (þ _ z)
def ZG:∀a b:Fin 4,dI [(a.val:Int),(b.val:Int)]=((dI [(a.val:Int),(b.val:Int)]).map Int.toNat).map (λi:Nat=>(i:Int))/\(∀i∈(dI [(a.val:Int),(b.val:Int)]).map Int.toNat,i=a.val\/i=b.val)/\a.val∈(dI [(a.val:Int),(b.val:Int)]).map Int.toNat/\b.val∈(dI [(a.val:Int),(b.val:Int)]).map Int.toNat:=by decide +kernel
def UR {a b:Nat} (ha:a<4) (hb:b<4):∃L:List Nat,dI [(a:Int),(b:Int)]=L.map (λi:Nat=>(i:Int))/\(∀i∈L,i=a\/i=b)/\a∈L/\b∈L:=⟨_,ZG ⟨a,ha⟩ ⟨b,hb⟩⟩
def C6 {ds:List D} {i:Nat} {d:D} (h:ds[i]?=some d):aA (.lst ds) (.int i) s=ok d s:=by
 have hi:=(Ã.mp h).1;have e:ef ds (i:Int)=some d:=by
  unfold ef;rw[Lq (by omega) (by omega)];exact h
 unfold aA k9 res;simp only[e,bY]
def Rr {nm:Str} {aX:List Kn} {bW ds:List D} {ps:List Pg} {L:List Nat} {i j:Nat} {Q:Fl->af->Prop} {e1 e4 e5 e8 e9:Option D} (R:Row nm aX bW ps) (hi:i<aX.length) (st:bb s k) (hj:s[j]?=some (.lst ds)) (tL:j≠k) (sp:qR aX bW ps L ds)
  (hQ:∀s' tH,bb s' k->s'[j]?=some (.lst tH)->qR aX bW ps (L++[i]) tH->(∀n,n<s.length->n≠k->n≠j->s'[n]?=s[n]?)->s.length<=s'.length->Q (.nx [some (.aj k),e1,some (.lst (aX.map λk=>.str k.word)),some (.lst bW),e4,e5,some (.aj j),some (.int i),e8,e9]) s') :
  Wp (Ba [some (.aj k),e1,some (.lst (aX.map λk=>.str k.word)),some (.lst bW),e4,e5,some (.aj j),some (.int i),e8,e9] s) Q:=by
 unfold Ba;obtain⟨kn,Z⟩:∃kn,aX[i]?=some kn:=⟨_,Ë hi⟩;obtain⟨S,Y⟩:∃g,bW[0]?=some g:=⟨_,Ë (by rw[R.len];exact R.lo)⟩;simp only[uH,wp_call,fg,eV,jP,iE,gG,gH];refine acD (C6 (d:=.str kn.word) (by rw[ç,Z];rfl)) ?_;refine acD (show aA (.lst bW) (.int 0) s=ok S s from C6 (i:=0) Y) ?_;refine(Wl (ps:=ps) (kn:=kn) st R.hl (λz=>?_)).mono λx P X=>?_
 ·subst z
  cases i with
  |zero=>obtain⟨q,_⟩:=R.hb Z;rw[q] at Y;cases Y;rfl
  |succ i=>exact absurd Z (R.nb i)
 obtain⟨X,O,W⟩:=X;have T:=W.get hj tL;have V:i<ds.length:=by rw[sp.len,R.len];exact hi
 refine⟨P.set j (.lst (ds.set i x)),?_,?_⟩
 ·unfold jW
  simp only[T];rw[Lq (by omega) (by omega)];rfl
 ·have N:=(Ã.mp T).1
  refine hQ _ (ds.set i x) ?_ (Ó N) (sp.set V Z X) (λn M K U=>?_) (by rw[î];exact W.len)
  ·obtain⟨p,q,e,r⟩:=O
   exact⟨p,q,by rw[Ï tL];exact e,r⟩
  ·rw[Ï (Ŀ U)]
   exact W.val n M K
end
section
variable {s:af} {k:Nat} {env:Env}
def ZH {nm:Str} {aX:List Kn} {bW ds:List D} {ps:List Pg} {L:List Nat} (R:Row nm aX bW ps) (sp:qR aX bW ps L ds):∃x xs,ds=x::xs/\xs.length<=3/\Sw 180000 x/\∀d∈xs,Sw 20000 d:=by
 have Y:=sp.len;have T:=R.len;have S:=R.lo;have Q:=R.hi;have W:∀i,i<ds.length->∃Z,aX[i]?=some Z:=λi hi=>⟨_,Ë (by omega)⟩
 match ds,Y,sp,W with
 | [],Y,_,_=>simp at Y;omega
 |x::xs,Y,sp,W =>
  rw[á] at Y;refine⟨x,xs,rfl,by omega,?_,λd U=>?_⟩
  ·obtain⟨Z,X⟩:=W 0 (by simp)
   by_cases h:0∈L
   ·have hb:=sp.bad 0 x Z h rfl X
    by_cases e:Z=.book
    ·subst e
     exact Wi (R.hb X).2 hb
    ·exact(Lx e hb).big
   ·exact R.xi x ((sp.good 0 h).symm.trans rfl)
  ·obtain⟨i,hi,e⟩:=ų U
   have V:(x::xs)[i+1]?=some d:=by rw[List.getElem?_cons_succ,Ë hi,e]
   obtain⟨Z,X⟩:=W (i+1) (by simp;omega);by_cases h:i+1∈L
   ·exact Lx (λz=>R.nb i (by rw[X,z])) (sp.bad (i+1) d Z h V X)
   ·exact R.xj i d ((sp.good (i+1) h).symm.trans V)
def Cm (x:Str):i6 (.str x) (.str x) s=ok (.bl false) s:=ne_str
def Rt {nm:Str} {aX:List Kn} {bW:List D} {ps:List Pg} {a b:Nat} {Q:Fl->af->Prop} {e6 e7 e8 e9:Option D} (R:Row nm aX bW ps) (ha:a<aX.length) (hb:b<aX.length) (st:bb s k) (k0:(0:Nat)≠k) (h0:s[0]?=some (.tb  acI))
  (hQ:∀e6 e7 e8 e9 s',bb s' k->Ex k s s'->Q (.nx [some (.aj k),some (.str nm),some (.lst (aX.map λk=>.str k.word)),some (.lst bW),some (.int a),some (.int b),e6,e7,e8,e9]) s') :
  Wp (Bb [some (.aj k),some (.str nm),some (.lst (aX.map λk=>.str k.word)),some (.lst bW),some (.int a),some (.int b),e6,e7,e8,e9] s) Q:=by
 have kl:k<s.length:=by obtain⟨p,q,e,_⟩:=st;exact(Ã.mp e).1
 have l4:=R.hi;unfold Bb;refine dM (env':=[some (.aj k),some (.str nm),some (.lst (aX.map λk=>.str k.word)),some (.lst bW),some (.int a),some (.int b),some (.aj s.length),e7,e8,e9]) (s':=s++[.lst bW]) (vB rfl rfl) ?_;obtain⟨L,t,V,T,S⟩:=UR (a:=a) (b:=b) (by omega) (by omega);refine acF λW P=>?_;rw[jE];refine acD (nT (ds:=L.map λi:Nat=>D.int i) (s1:=s++[.lst bW]) ?_) ?_
 ·have e:=Rq (ns:=[(a:Int),(b:Int)]) (s:=s++[.lst bW]) (show 2<64 by decide)
  rw[t,ķ] at e;exact e
 refine Wp.lT (λi env s'=>∃ds e7,env=[some (.aj k),some (.str nm),some (.lst (aX.map λk=>.str k.word)),some (.lst bW),some (.int a),some (.int b),some (.aj s.length),e7,e8,e9]/\bb s' k/\s'[s.length]?=some (.lst ds)/\qR aX bW ps (L.take i) ds/\Ex k s s') _
  ⟨bW,e7,rfl,st.app _,by simp,⟨rfl,λi d Z hi=>by simp at hi,λi _=>rfl⟩,Ex.app k s _⟩ (λi d env s' X O=>?_) (λenv s' O=>?_)
 ·obtain⟨ds,e7,rfl,N,U,sp,Y⟩:=O
  rw[ç] at X;obtain⟨q,A,rfl⟩:=abE.mp X
  have M:q<aX.length:=by rcases V q (ť A) with z|z<;>omega
  refine⟨_,rfl,?_⟩;refine Rr (j:=s.length) R M N U (by omega) sp λs2 K r J I keep len=>?_;refine⟨K,_,rfl,r,J,?_,⟨Þ Y.len len,λn y w=>(keep n (È y Y.len) w (by omega)).trans (Y.val n y w)⟩⟩;rw[List.take_succ,A];exact I
 obtain⟨ds,o,rfl,N,U,sp,Y⟩:=O;rw[Í,List.take_length] at sp;rw[gK];subst P;obtain⟨x,H,rfl,l,g,G⟩:=ZH R sp;have v:=Wj U l g G;obtain⟨m,f,u,c⟩:∃m:Nat,qa [.int a,.int b] s'=ok (.int m) s'/\m∈L/\∀i,i<m->i∉L:=by
  by_cases h:b<a
  ·refine⟨b,?_,S,λi hi z=>by rcases V i z with z|z<;>omega⟩
   show ok (D.int (if (b:Int)<a then (b:Int) else a)) s'=_
   rw[ã (by omega)]
  ·refine⟨a,?_,T,λi hi z=>by rcases V i z with z|z<;>omega⟩
   show ok (D.int (if (b:Int)<a then (b:Int) else a)) s'=_
   rw[í (by omega)]
 have F:m<aX.length:=by rcases V m u with z|z<;>omega
 obtain⟨Z,E⟩:∃Z,aX[m]?=some Z:=⟨_,Ë F⟩;have C:(x::H).length=aX.length:=sp.len.trans R.len;obtain⟨d,X⟩:∃d,(x::H)[m]?=some d:=⟨_,Ë (by omega)⟩
 have first:dh aX (x::H) Z:=JE E X (SV (sp.bad m d Z u X E)) λi k' d' hi h1 h2=>R.go i k' d' h1 ((sp.good i (c i hi)).symm.trans h2)
 have call:=R.ce U C first
 have B:=Y.get h0 k0;refine acF λW P=>?_;simp only[nY,fg,eV,m6,jP,gG,gH];refine acD v ?_;refine acD f ?_;refine acD (C6 (d:=.str Z.word) (by rw[ç,E];rfl)) ?_;refine⟨_,_,rfl,?_⟩;rw[gK];subst P;simp only[č,Ď];rw[pQ,uZ,pP,jP];refine acD (Lz B (ds:=[.str nm,.aj s.length]) rfl (Yn Z (show (bt eU (aa (ae 0) (aa (ae 1) ah))) [some (.str nm),some (.aj s.length)] s'=_ from call))) ?_;simp only[gH,gG];refine acD (Cm _) ?_;simp only[nW,Ì,û,pP,jP,m6,fg,eV,gH,gG];refine acD v ?_;refine acD (Cm _) ?_;simp only[nW,Ì,û,pG];exact hQ _ _ _ _ _ N Y
def US {nm:Str} {aX:List Kn} {bW:List D} {ps:List Pg} (R:Row nm aX bW ps) (st:bb s k) (k0:(0:Nat)≠k) (h0:s[0]?=some (.tb  acI)) :
  Wp (xP [.aj k,.str nm,.lst (aX.map λk=>.str k.word),.lst bW] s) λd s'=>d=.bl true/\bb s' k/\Ex k s s':=by
 have v:=R.lo;have u:=R.hi;have G:∀s:af,cy [.lst (aX.map λk=>D.str k.word)] s=ok (.int aX.length) s:=λs=>by
  have e:cy [.lst (aX.map λk=>D.str k.word)] s=ok (.int (aX.map λk=>D.str k.word).length) s:=rfl;rw[e,Í]
 unfold xP;rw[kC];refine⟨rfl,?_⟩;simp only[ß,Ě,Å,Nat.reduceSub,ā,ė];refine acF λW E=>?_;rw[jE];refine acD (lE (n:=aX.length) (s:=s) (s1:=s) ?_ (by omega)) ?_
 ·refine acE ?_
  simp only[fg,eV,m6,gG,gH];exact acD (G s) ⟨rfl,rfl⟩
 refine Wp.lT (λi env s'=>∃N T Z Y X V,env=[some (.aj k),some (.str nm),some (.lst (aX.map λk=>.str k.word)),some (.lst bW),N,T,Z,Y,X,V]/\bb s' k/\Ex k s s') _ ⟨_,_,_,_,_,_,rfl,st,Ex.refl k s⟩ (λi d env s' U Q=>?_) (λenv s' Q=>?_)
 ·obtain⟨N,T,Z,Y,X,V,rfl,M,L⟩:=Q
  rw[kg] at U;split at U
  ·rename_i hi
   cases U;refine⟨_,rfl,?_⟩;rw[ab1];unfold IE;rw[jE];have it:Wp (ck (bH (aa (ae 4) (aa (az bT (aa (ae 0) (aa (eB cy (aa (ae 2) ah)) ah))) ah))) [some (.aj k),some (.str nm),some (.lst (aX.map λk=>.str k.word)),some (.lst bW),some (.int i),T,Z,Y,X,V] s') λF S=>∃b:Nat,F=[.int i,.int b]/\b<aX.length/\bb S k/\Ex k s' S:=by
    have q:Wp (bH (aa (ae 4) (aa (az bT (aa (ae 0) (aa (eB cy (aa (ae 2) ah)) ah))) ah)) [some (.aj k),some (.str nm),some (.lst (aX.map λk=>.str k.word)),some (.lst bW),some (.int i),T,Z,Y,X,V] s') λd S=>∃b:Nat,d=.lst [.int i,.int b]/\b<aX.length/\bb S k/\Ex k s' S:=by
     simp only[rL,fg,eV,wp_call,m6,gG,gH];refine acD (G s') ?_;refine(fQ M (by omega) (by omega)).mono λy S C=>?_;obtain⟨r,rfl,B,t,K,J⟩:=C;exact⟨le_size (n:=2) (by decide),r.toNat,by rw[Int.toNat_of_nonneg B],by omega,K,J⟩
    obtain⟨d,S,e,b,rfl,r⟩:=q;exact acD (nT e) ⟨b,rfl,r⟩
   refine it.mono λF S A=>?_;obtain⟨b,rfl,z,K,J⟩:=A;refine Wp.lT (λ_ env P=>∃T Z Y X V,env=[some (.aj k),some (.str nm),some (.lst (aX.map λk=>.str k.word)),some (.lst bW),some (.int i),T,Z,Y,X,V]/\bb P k/\Ex k s P) _ ⟨_,_,_,_,_,rfl,K,L.trans J⟩ (λn d env P U Q=>?_) (λenv P Q=>?_)
   ·obtain⟨T,Z,Y,X,V,rfl,I,O⟩:=Q
    have H:∃q:Nat,d=.int q/\q<aX.length:=by
     match n,U with
     |0,U=>cases U;exact⟨i,rfl,hi⟩
     |1,U=>cases U;exact⟨b,rfl,z⟩
    obtain⟨q,rfl,H⟩:=H;refine⟨_,rfl,?_⟩;exact Rt R hi H I k0 (O.get h0 k0) λZ Y X V p x w=>⟨_,_,_,_,_,rfl,x,O.trans w⟩
   ·obtain⟨T,Z,Y,X,V,rfl,I,O⟩:=Q
    exact⟨_,_,_,_,_,_,rfl,I,O⟩
  ·cases U
 obtain⟨N,T,Z,Y,X,V,rfl,M,L⟩:=Q;rw[gK];subst E;simp only[jC,iE,jJ];exact⟨trivial,M,L⟩
end
section
variable {nm:Str} {k0 k1 k2 k3:Kn} {d0 d1 d2 d3:D} {ps:List Pg}
def vY (ce:m8 nm [k0]) (g0:Goes k0 d0) (s0:Sw 180000 d0) (hb:k0=.book->d0=bD ps/\gL ps=true) (hl:ps.length<=1000):Row nm [k0] [d0] ps where
 ce:=ce
 len:=rfl
 lo:=by simp
 hi:=by simp
 go:=λi k d Y Z=>by
  match i,Y,Z with
  |0,Y,Z=>cases Y;cases Z;exact g0
 xi:=λd Z=>by cases Z;exact s0
 xj:=λi d Z=>by cases Z
 nb:=λi h=>by cases h
 hb:=λh=>by cases h;obtain⟨rfl,q⟩:=hb rfl;exact⟨rfl,q⟩
 hl:=hl
def zF (ce:m8 nm [k0,k1]) (g0:Goes k0 d0) (g1:Goes k1 d1) (s0:Sw 180000 d0) (s1:Sw 20000 d1) (n1:k1≠.book) (hb:k0=.book->d0=bD ps/\gL ps=true) (hl:ps.length<=1000):Row nm [k0,k1] [d0,d1] ps where
 ce:=ce
 len:=rfl
 lo:=by simp
 hi:=by simp
 go:=λi k d Y Z=>by
  match i,Y,Z with
  |0,Y,Z=>cases Y;cases Z;exact g0
  |1,Y,Z=>cases Y;cases Z;exact g1
 xi:=λd Z=>by cases Z;exact s0
 xj:=λi d Z=>by
  match i,Z with
  |0,Z=>cases Z;exact s1
 nb:=λi h=>by
  match i,h with
  |0,h=>cases h;exact n1 rfl
 hb:=λh=>by cases h;obtain⟨rfl,q⟩:=hb rfl;exact⟨rfl,q⟩
 hl:=hl
def zG (ce:m8 nm [k0,k1,k2]) (g0:Goes k0 d0) (g1:Goes k1 d1) (g2:Goes k2 d2) (s0:Sw 180000 d0) (s1:Sw 20000 d1) (s2:Sw 20000 d2) (n1:k1≠.book) (n2:k2≠.book) (hb:k0=.book->d0=bD ps/\gL ps=true) (hl:ps.length<=1000):Row nm [k0,k1,k2] [d0,d1,d2] ps where
 ce:=ce
 len:=rfl
 lo:=by simp
 hi:=by simp
 go:=λi k d Y Z=>by
  match i,Y,Z with
  |0,Y,Z=>cases Y;cases Z;exact g0
  |1,Y,Z=>cases Y;cases Z;exact g1
  |2,Y,Z=>cases Y;cases Z;exact g2
 xi:=λd Z=>by cases Z;exact s0
 xj:=λi d Z=>by
  match i,Z with
  |0,Z=>cases Z;exact s1
  |1,Z=>cases Z;exact s2
 nb:=λi h=>by
  match i,h with
  |0,h=>cases h;exact n1 rfl
  |1,h=>cases h;exact n2 rfl
 hb:=λh=>by cases h;obtain⟨rfl,q⟩:=hb rfl;exact⟨rfl,q⟩
 hl:=hl
def aaS (ce:m8 nm [k0,k1,k2,k3]) (g0:Goes k0 d0) (g1:Goes k1 d1) (g2:Goes k2 d2) (g3:Goes k3 d3) (s0:Sw 180000 d0) (s1:Sw 20000 d1) (s2:Sw 20000 d2) (s3:Sw 20000 d3) (n1:k1≠.book) (n2:k2≠.book) (n3:k3≠.book) (hb:k0=.book->d0=bD ps/\gL ps=true) (hl:ps.length<=1000):Row nm [k0,k1,k2,k3] [d0,d1,d2,d3] ps where
 ce:=ce
 len:=rfl
 lo:=by simp
 hi:=by simp
 go:=λi k d Y Z=>by
  match i,Y,Z with
  |0,Y,Z=>cases Y;cases Z;exact g0
  |1,Y,Z=>cases Y;cases Z;exact g1
  |2,Y,Z=>cases Y;cases Z;exact g2
  |3,Y,Z=>cases Y;cases Z;exact g3
 xi:=λd Z=>by cases Z;exact s0
 xj:=λi d Z=>by
  match i,Z with
  |0,Z=>cases Z;exact s1
  |1,Z=>cases Z;exact s2
  |2,Z=>cases Z;exact s3
 nb:=λi h=>by
  match i,h with
  |0,h=>cases h;exact n1 rfl
  |1,h=>cases h;exact n2 rfl
  |2,h=>cases h;exact n3 rfl
 hb:=λh=>by cases h;obtain⟨rfl,q⟩:=hb rfl;exact⟨rfl,q⟩
 hl:=hl
end
noncomputable abbrev Gf:=Str×List Kn×List D
def dX (r:Gf):D:=.tup [.str r.1,.lst (r.2.1.map λk=>.str k.word),.lst r.2.2]
def DO (B m d S SS R:D):List Gf:=[("surely",[.book,.bx,.day],[B,m,d]),("may",[.book,.bx,.day,.eG],[B,m,d,S]),("least",[.book,.bx],[B,m]),("most",[.book,.bx],[B,m]),("life",[.book,.bx],[B,m]),("places",[.book,.eG],[B,S]),
 ("days",[.book,.bx,.fk],[B,m,SS]),("narrowest",[.book,.bx,.fk],[B,m,SS]),("dating",[.book,.bx,.fk],[B,m,SS]),("laying",[.run],[R]),("paper",[.run],[R]),("best",[.run],[R]),("told",[.run],[R]),("breaks",[.run],[R])]
def LA {m:Int} (h0:0<=m) (h1:m<31):Sw 20000 (.int m):=si (og (by omega) (by omega)) (by decide) (by decide)
def Wm {ps:List Pg} {m d:Int} {a b:List Int} {n r:Nat} (hb:gL ps=true) (hl:ps.length<=1000) (m0:0<=m) (m1:m<4) (d0:0<=d) (d1:d<31) (h:Sh a b) (n1:1<=n) (n3:n<=3) (r1:1<=r) (nK:r<=10) :
  ∀x∈DO (bD ps) (.int m) (.int d) (sD a b) (.tup (Å n (sD a b))) (.tup (Å r (mD a))),Row x.1 x.2.1 x.2.2 ps:=by
 have Z:=Wh hb;have Y:=UP m0 m1;have P:=Yi d0 d1;have O:=JC h;have R:=SW h n1 n3;have G:zE (Å r a):=⟨by rw[Ĉ];exact r1,by rw[Ĉ];exact nK,λx V=>by rw[abg V];exact h.a⟩;have e:(.tup (Å r (mD a)):D)=rD (Å r a):=by rw[rD,List.map_replicate]
 have U:Goes .run (.tup (Å r (mD a))):=by rw[e];exact Lw G
 have sB:=(Ko hb).1;have X:=LA m0 (show m<31 by omega);have N:=LA d0 d1;have ss:Sw 20000 (sD a b):=si (JD h) (by decide) (by decide);have Q:Sw 20000 (.tup (Å n (sD a b))):=si (mM (n:=2) (W:=2*(888+1)) (c:=3) (by rw[Ĉ];exact n3) λx V=>by rw[abg V];exact JD h) (by decide) (by decide);have T:Sw 180000 (.tup (Å r (mD a))):=by rw[e];exact si (Ya G) (by decide) (by decide)
 have bk:Kn.book=.book->bD ps=bD ps/\gL ps=true:=λ_=>⟨rfl,hb⟩;have S:∀{M:D},Kn.run=.book->M=bD ps/\gL ps=true:=λz=>by cases z
 intro x V;simp only[DO,Ò,é,or_false] at V
 rcases V with rfl|rfl|rfl|rfl|rfl|rfl|rfl|rfl|rfl|rfl|rfl|rfl|rfl|rfl
 ·exact zG (Ar UK) Z Y P sB X N (by intro z;cases z) (by intro z;cases z) bk hl
 ·exact aaS (of4 ZE) Z Y P O sB X N ss (by intro z;cases z) (by intro z;cases z) (by intro z;cases z) bk hl
 ·exact zF (of2 We) Z Y sB X (by intro z;cases z) bk hl
 ·exact zF (of2 Ye) Z Y sB X (by intro z;cases z) bk hl
 ·exact zF (of2 Yd) Z Y sB X (by intro z;cases z) bk hl
 ·exact zF (of2 UL) Z O sB ss (by intro z;cases z) bk hl
 ·exact zG (Ar Yf) Z Y R sB X Q (by intro z;cases z) (by intro z;cases z) bk hl
 ·exact zG (Ar Qq) Z Y R sB X Q (by intro z;cases z) (by intro z;cases z) bk hl
 ·exact zG (Ar UM) Z Y R sB X Q (by intro z;cases z) (by intro z;cases z) bk hl
 ·exact vY (xh UN) U T S hl
 ·exact vY (xh Wf) U T S hl
 ·exact vY (xh Yg) U T S hl
 ·exact vY (xh Yh) U T S hl
 ·exact vY (xh UO) U T S hl
def Wn {s:af} {a:List Int}:∀{r:Nat},1<=r->r<=10->A8 [.tup (Å r (mD a)),.tup (Å r (.int 1))] s=ok (.bl false) s
 |1,_,_=>by kernel_rfl
 |2,_,_=>by kernel_rfl
 |3,_,_=>by kernel_rfl
 |4,_,_=>by kernel_rfl
 |5,_,_=>by kernel_rfl
 |6,_,_=>by kernel_rfl
 |7,_,_=>by kernel_rfl
 |8,_,_=>by kernel_rfl
 |9,_,_=>by kernel_rfl
 |10,_,_=>by kernel_rfl
def UT {s:af} {a:List Int} {r:Nat} (h:dG 8 a) (r1:1<=r) (nK:r<=10):tY [.tup (Å r (mD a)),.tup (Å r (.int 1))] s=bM "NoLaying" s:=by
 have G:zE (Å r a):=⟨by rw[Ĉ];exact r1,by rw[Ĉ];exact nK,λx Z=>by rw[abg Z];exact h⟩;have e:(.tup (Å r (mD a)):D)=rD (Å r a):=by rw[rD,List.map_replicate]
 have Y:Goes .run (.tup (Å r (mD a))):=by rw[e];exact Lw G
 exact cR rfl ((iT 0 rfl (rm.n Y)).trans (ic ((gv (not_of (b:=false) (cX rfl (cX rfl rfl)) (Wn r1 nK))).trans rfl)))
section
variable {s:af} {k j:Nat}
def mul_one {x:D}:∀{n:Nat},1<=n->n<=10->fq (.tup [x]) (.int n) s=ok (.tup (Å n x)) s
 |1,_,_=>rfl
 |2,_,_=>rfl
 |3,_,_=>rfl
 |4,_,_=>rfl
 |5,_,_=>rfl
 |6,_,_=>rfl
 |7,_,_=>rfl
 |8,_,_=>rfl
 |9,_,_=>rfl
 |10,_,_=>rfl
def Kq {env:Env} {x:D} {m:Int} {e:acC D} {Q:D->af->Prop} (h:bb s k) (he:∀s,e env s=ok (.tup [x]) s) (hk:ae 2 env=ok (.aj k)) (h0:0<m) (h1:m<=10) (hQ:∀(n:Nat) s',1<=n->(n:Int)<=m->bb s' k->Ex k s s'->Q (.tup (Å n x)) s') :
  Wp (e2 fq e (e2 cP (eC (.int 1)) (az bT (aa (ae 2) (aa (eC (.int m)) ah)))) env s) Q:=by
 rw[jP];refine acD (he s) ?_;simp only[jP,iE,wp_call,fg,eV];refine acD (congrFun hk s) ?_;refine(fQ h h0 (by omega)).mono λd Z Y=>?_;obtain⟨r,rfl,W,V,X,ex⟩:=Y;have e:cP (.int 1) (.int r) Z=ok (.int ((1+r.toNat:Nat):Int)) Z:=by
  rw[zD,show ((1+r.toNat:Nat):Int)=1+r by omega]
 refine acD e ?_;exact acD (mul_one (n:=1+r.toNat) (by omega) (by omega)) (hQ _ _ (by omega) (by omega) X ex)
def set_same {c:Cell} (h:s[j]?=some c):s.set j c=s:=by
 refine œ λi=>?_;by_cases e:i=j
 ·subst e
  rw[Ó (Ã.mp h).1,h]
 ·rw[Ï (Ŀ e)]
def uL {env:Env} {e:acC D} {ds:List D} {d:D} (h9:ae 9 env s=ok (.aj j) s) (hj:s[j]?=some (.lst ds)) (hl:ds.length<=1000) (he:e env s=ok d s):bh (gp (ae 9) e) env s=ok (.nx env) (s.set j (.lst (ds++[d]))):=by
 refine acE ?_;rw[ux,u0];refine acD h9 ⟨by unfold lQ;simp only[hj],?_⟩;refine acD he ?_;refine acD (a:=.au) (s:=s.set j (.lst (ds++[d]))) ?_ ⟨rfl,rfl⟩;unfold lP;simp only[hj];rw[ã];exact æ (by rw[Ţ];omega)
theorem Kr {E:Option D->Env} {b:acC Fl} {f:Str->D} (hg:∀x nm,gN 10 (.str nm) (E x)=some (E (some (.str nm))))
  (hb:∀nm s ds,s[j]?=some (.lst ds)->ds.length<=1000->b (E (some (.str nm))) s=ok (.nx (E (some (.str nm)))) (s.set j (.lst (ds++[f nm])))) :
  ∀(nms:List Str) (s:af) (ds:List D) (x:Option D),s[j]?=some (.lst ds)->ds.length+nms.length<=1000->∃x',iW (gN 10) b (nms.map D.str) (E x) s=ok (.nx (E x')) (s.set j (.lst (ds++nms.map f)))
 | [],s,ds,x,Z,_=>⟨x,by
  rw[Ě,Ě,İ,set_same Z];rfl⟩
 |nm::nms,s,ds,x,Z,Y=>by
  have X:=(Ã.mp Z).1;rw[á] at Y;obtain⟨x',e⟩:=Kr hg hb nms (s.set j (.lst (ds++[f nm]))) (ds++[f nm]) (some (.str nm)) (Ó X) (by rw[ó,á,ý];omega);refine⟨x',?_⟩;rw[ß];unfold iW;simp only[hg];rw[hb nm s ds Z (by omega)];show iW (gN 10) b (nms.map D.str) (E (some (.str nm))) (s.set j (.lst (ds++[f nm])))=_;rw[e,ab2,į,ß];rfl
def SY {ps:List Pg} {rs:List Gf} {e0 e1 e3 e4 e5 e6 e7 e8 e9 eT dU dW:Option D} {Q:Fl->af->Prop} (hr:∀x∈rs,Row x.1 x.2.1 x.2.2 ps) (st:bb s k) (k0:(0:Nat)≠k) (h0:s[0]?=some (.tb  acI))
  (hQ:∀eT dU dW s',bb s' k->Ex k s s'->Q (.nx [e0,e1,some (.aj k),e3,e4,e5,e6,e7,e8,e9,eT,dU,dW]) s') :
  Wp (iW (gT [(gN 10),(gN 11),(gN 12)]) CU (rs.map dX) [e0,e1,some (.aj k),e3,e4,e5,e6,e7,e8,e9,eT,dU,dW] s) Q:=by
 refine Wp.lT (λi env s'=>∃eT dU dW,env=[e0,e1,some (.aj k),e3,e4,e5,e6,e7,e8,e9,eT,dU,dW]/\bb s' k/\Ex k s s') _ ⟨_,_,_,rfl,st,Ex.refl k s⟩ (λi d env s' Z X=>?_) (λenv s' X=>?_)
 ·obtain⟨eT,dU,dW,rfl,W,Y⟩:=X
  rw[ç] at Z;obtain⟨r,U,rfl⟩:=abE.mp Z;refine⟨[e0,e1,some (.aj k),e3,e4,e5,e6,e7,e8,e9,some (.str r.1),some (.lst (r.2.1.map λk=>.str k.word)),some (.lst r.2.2)],rfl,?_⟩;unfold CU;rw[pQ,uG,uY,wp_call];simp only[fg,eV,gG,gH];refine(US (hr r (ť U)) W k0 (Y.get h0 k0)).mono λd V Z=>?_;obtain⟨rfl,T,S⟩:=Z;refine acD (show truth (.bl true) V=ok true V from rfl) ?_;simp only[đ,Ì,û,pG];exact⟨_,_,_,rfl,T,Y.trans S⟩
 ·obtain⟨eT,dU,dW,rfl,W,Y⟩:=X
  exact hQ _ _ _ _ W Y
def BK {E:Option D->Env} {b:acC Fl} {f:Str->D} {it:acC (List D)} {nms:List Str} {ds:List D} {x:Option D} (hit:it (E x) s=ok (nms.map D.str) s) (hg:∀x nm,gN 10 (.str nm) (E x)=some (E (some (.str nm))))
  (hb:∀nm s ds,s[j]?=some (.lst ds)->ds.length<=1000->b (E (some (.str nm))) s=ok (.nx (E (some (.str nm)))) (s.set j (.lst (ds++[f nm])))) (hj:s[j]?=some (.lst ds)) (hl:ds.length+nms.length<=1000):∃x',dQ it (gN 10) b (E x) s=ok (.nx (E x')) (s.set j (.lst (ds++nms.map f))):=by
 obtain⟨x',e⟩:=Kr hg hb nms s ds x hj hl;refine⟨x',?_⟩;unfold dQ;rw[hit];exact e
def Yo {c:Cell} (h:bb s k) (hj:j≠k):bb (s.set j c) k:=by
 obtain⟨p,q,e,r⟩:=h;exact⟨p,q,by rw[Ï hj];exact e,r⟩
def Yp {W:ù} {ns:List Int} {i:Int} {e2 e3 e4 e5 e6 e7 e8 e9 eT dU dW:Option D} {Q:Fl->af->Prop} (hi:0<=i) (h0:s[0]?=some (.tb  acI)) (h1:s[1]?=some (.tb "law"))
  (hQ:∀e2 e3 e4 e5 e6 e7 e8 e9 eT dU dW s',s'[0]?=some (.tb  acI)->s'[1]?=some (.tb "law")->Q (.nx [some (.bK ns),some (.int i),e2,e3,e4,e5,e6,e7,e8,e9,eT,dU,dW]) s') :
  Wp (CV W [some (.bK ns),some (.int i),e2,e3,e4,e5,e6,e7,e8,e9,eT,dU,dW] s) Q:=by
 unfold CV;refine acF λR V=>?_;simp only[nX,se,wp_call,fg,eV,gG,gH,č,Ď];refine(UB hi).mono λd s1 X=>?_;obtain⟨rfl,G,F,rfl⟩:=X;have l1:=(Ã.mp h1).1;have L:(0:Nat)≠s.length:=by omega
 have I:(1:Nat)≠s.length:=by omega
 have u:(s++[F])[0]?=some (.tb  acI):=by rw[Ü (by omega)];exact h0
 have g1:(s++[F])[1]?=some (.tb "law"):=by rw[Ü (by omega)];exact h1
 generalize s.length=k at G L I |-;generalize s++[F]=s1 at G u g1 |-;rw[gK];subst V;refine acF λR V=>?_;simp only[nY,wp_call,fg,eV,gG,gH,č,Ď];refine(UI G).mono λd s2 X=>?_;obtain⟨ps,rfl,U,t,o,l⟩:=X;refine(SX t).mono λd s3 X=>?_;obtain⟨a,b,rfl,C,h,g⟩:=X;refine⟨_,_,rfl,?_⟩;rw[gK];subst V;refine acF λR V=>?_;simp only[nY,wp_call,fg,eV,gG,gH,iE,č,Ď];refine(fQ h (by decide) (by decide)).mono λd s4 X=>?_;obtain⟨m,rfl,m0,c,Av,x4⟩:=X;refine(fQ Av (by decide) (by decide)).mono λd s5 X=>?_;obtain⟨dy,rfl,d0,d1,i8,x5⟩:=X;refine⟨_,_,rfl,?_⟩;rw[gK];subst V;have X5:=((o.trans g).trans x4).trans x5;refine acF λR V=>?_;rw[nX,pO,fg];refine Kq i8 (λ_=>rfl) rfl (by decide) (by decide) λn s6 n1 n3 OB x6=>?_;rw[fg];refine Kq (x:=mD a) OB (λ_=>rfl) rfl (by decide) (by decide) λr Y A nK OC x7=>?_;rw[eV];refine⟨le_size (n:=2) (by decide),?_⟩;simp only[sf,rl,se,rz,č,Ď,gK];subst V;have X7:=(X5.trans x6).trans x7;have z:=X7.get u L;have w:=X7.get g1 I;have kl:k<Y.length:=by obtain⟨p,q,e,_⟩:=OC;exact(Ã.mp e).1
 have T:=Wm (ps:=ps) (m:=m) (d:=dy) (n:=n) (r:=r) l (by omega) m0 c d0 d1 C n1 (by omega) A (by omega);have Nh:r<=10:=by omega
 have lam:∀{env:Env} {s':af},s'[1]?=some (.tb "law")->mZ env [8]=some [.tup (Å r (mD a))]->qf 1 "law" [8] (bt tY (aa (ae 0) (aa (DI.e2 fq (ba (aa (eC (.int 1)) ah)) (eB cy (aa (ae 0) ah))) ah))) dw env s'=ok (.str "laying") s':=λ{env s'} h1 ht=>by
  refine Lz h1 ht (AF (m:=none) (iu (ds:=[.tup (Å r (mD a)),.tup (Å r (.int 1))]) (cX rfl (cX (qg rfl (y:=.int r) ?_ (mul_one A Nh)) rfl)) (UT C.a A Nh)));show ok (D.int ((Å r (mD a)).length:Nat)) s'=_;rw[Ĉ]
 clear l U C X5 o g x4 x5 x6 x7 t h Av i8 OB m0 c d0 d1 n1 n3;generalize bD ps=B at T |-;generalize sD a b=S at T |-;generalize D.tup (Å n S)=P at T |-;generalize D.tup (Å r (mD a))=O at T lam |-;generalize D.int m=M at T |-;generalize D.int dy=Z at T |-;have H:(Y++[Cell.lst [dX ("surely",[.book,.bx,.day],[B,M,Z])]])[Y.length]?=some (.lst [dX ("surely",[.book,.bx,.day],[B,M,Z])]):=by simp
 refine dM (env':=[some (.bK ns),some (.int i),some (.aj k),some B,some S,some M,some Z,some P,some O,some (.aj Y.length),eT,dU,dW]) (s':=Y++[Cell.lst [dX ("surely",[.book,.bx,.day],[B,M,Z])]]) rfl ?_;have OD:bb (Y++[Cell.lst [dX ("surely",[.book,.bx,.day],[B,M,Z])]]) k:=OC.app _;have x8:Ex k Y (Y++[Cell.lst [dX ("surely",[.book,.bx,.day],[B,M,Z])]]):=Ex.app k Y _;have q0:=x8.get z L;have q1:=x8.get w I;have j0:Y.length≠k:=by omega
 have j1:Y.length≠0:=by have:=(Ã.mp w).1;omega
 have j2:Y.length≠1:=by have:=(Ã.mp w).1;omega
 generalize Y.length=j at H j0 j1 j2 |-;generalize Y++[Cell.lst [dX ("surely",[.book,.bx,.day],[B,M,Z])]]=N at H OD q0 q1 |-;have K:=(Ã.mp H).1;refine dM (uL (j:=j) (d:=dX ("may",[.book,.bx,.day,.eG],[B,M,Z,S])) rfl H (show 1<=1000 by decide) rfl) ?_;obtain⟨y1,OE⟩:=BK (j:=j) (s:=N.set j (.lst ([dX ("surely",[.book,.bx,.day],[B,M,Z])]++[dX ("may",[.book,.bx,.day,.eG],[B,M,Z,S])]))) (E:=λx=>[some (.bK ns),some (.int i),some (.aj k),some B,some S,some M,some Z,some P,some O,some (.aj j),x,dU,dW]) (b:=Lg) (f:=λnm=>dX (nm,[.book,.bx],[B,M])) (it:=ck (bH (aa (eC (.str "least")) (aa (eC (.str "most")) (aa (eC (.str "life")) ah))))) (nms:=["least","most","life"]) (x:=eT)
  rfl (λ_ _=>rfl) (λnm s ds J U=>uL rfl J U rfl) (Ó K) (show 2+3<=1000 by decide)
 rw[ab2] at OE;refine dM OE ?_;refine dM (uL (j:=j) (d:=dX ("places",[.book,.eG],[B,S])) rfl (Ó K) (show 5<=1000 by decide) rfl) ?_;rw[ab2];obtain⟨y2,OF⟩:=BK (j:=j) (s:=N.set j (.lst (([dX ("surely",[.book,.bx,.day],[B,M,Z])]++[dX ("may",[.book,.bx,.day,.eG],[B,M,Z,S])])++(["least","most","life"]:List Str).map (λnm=>dX (nm,[.book,.bx],[B,M]))++[dX ("places",[.book,.eG],[B,S])]))) (E:=λx=>[some (.bK ns),some (.int i),some (.aj k),some B,some S,some M,some Z,some P,some O,some (.aj j),x,dU,dW]) (b:=Lh) (f:=λnm=>dX (nm,[.book,.bx,.fk],[B,M,P])) (it:=ck (bH (aa (eC (.str "days")) (aa (eC (.str "narrowest")) (aa (eC (.str "dating")) ah))))) (nms:=["days","narrowest","dating"]) (x:=y1)
  rfl (λ_ _=>rfl) (λnm s ds J U=>uL rfl J U rfl) (Ó K) (show 6+3<=1000 by decide)
 rw[ab2] at OF;refine dM OF ?_;obtain⟨y3,OG⟩:=BK (j:=j) (s:=N.set j (.lst ((([dX ("surely",[.book,.bx,.day],[B,M,Z])]++[dX ("may",[.book,.bx,.day,.eG],[B,M,Z,S])])++(["least","most","life"]:List Str).map (λnm=>dX (nm,[.book,.bx],[B,M]))++[dX ("places",[.book,.eG],[B,S])])++(["days","narrowest","dating"]:List Str).map (λnm=>dX (nm,[.book,.bx,.fk],[B,M,P]))))) (E:=λx=>[some (.bK ns),some (.int i),some (.aj k),some B,some S,some M,some Z,some P,some O,some (.aj j),x,dU,dW]) (b:=Li) (f:=λnm=>dX (nm,[.run],[O])) (it:=ck (bH (aa (eC (.str "laying")) (aa (eC (.str "paper")) (aa (eC (.str "best")) (aa (eC (.str "told")) (aa (eC (.str "breaks")) ah))))))) (nms:=["laying","paper","best","told","breaks"]) (x:=y2)
  rfl (λ_ _=>rfl) (λnm s ds J U=>uL rfl J U rfl) (Ó K) (show 9+5<=1000 by decide)
 rw[ab2] at OG;refine dM OG ?_;refine acF λW hW=>?_;rw[jE];refine acD (a:=(DO B M Z S P O).map dX) (s:=N.set j .dead) ?_ ?_
 ·refine nT ?_
  unfold oz;show ak (ok (D.aj j) _) aR=_;show aR (.aj j) _=_;unfold aR;simp only[Ó K,ab2];rfl
 have OH:(N.set j .dead)[0]?=some (.tb  acI):=by rw[Ï j1];exact q0
 have v:(N.set j .dead)[1]?=some (.tb "law"):=by rw[Ï j2];exact q1
 refine SY T (Yo OD j0) L OH λeT dU dW s9 st9 x9=>?_;rw[gK];subst hW;have p1:=x9.get v I;rw[pQ,pP,jP];refine acD (lam p1 rfl) ?_;rw[iE];refine acD (Cm _) ?_;simp only[nW,Ì,û,pG];exact hQ _ _ _ _ _ _ _ _ _ _ _ _ (x9.get OH L) p1
end
def UU (W:ù) (ns:List Int) (hn:ns.length<=63):∃s,cT.yV W [.bK ns] [.tb  acI,.tb "law"]=some (.ok (.bl true),s):=by
 suffices h:Wp (cT.yV W [.bK ns] [.tb  acI,.tb "law"]) λd _=>d=.bl true by
  obtain⟨d,s,e,rfl⟩:=h;exact⟨s,e⟩
 unfold cT.yV;refine kC.symm ▸ ⟨rfl,acF λR J=>?_⟩;rw[jE];have L:∃n:Nat,cJ (aa (eB p9 (aa (eC (.int 1)) (aa (eB qa (aa (eB cy (aa (ae 0) ah)) (aa (eC (.int 3)) ah))) ah))) ah) [some (.bK ns),none,none,none,none,none,none,none,none,none,none,none,none] [.tb  acI,.tb "law"]=ok (dE 0 n) [.tb  acI,.tb "law"]:=by
  have e:∃n:Nat,n<=1000/\(aa (eB p9 (aa (eC (.int 1)) (aa (eB qa (aa (eB cy (aa (ae 0) ah)) (aa (eC (.int 3)) ah))) ah))) ah) [some (.bK ns),none,none,none,none,none,none,none,none,none,none,none,none] [.tb  acI,.tb "law"]=ok [.int n] [.tb  acI,.tb "law"]:=by
   refine⟨(if (if (3:Int)<ns.length then (3:Int) else ns.length) > 1 then (if (3:Int)<ns.length then (3:Int) else ns.length) else 1).toNat,by split<;>split<;>omega,?_⟩
   rw[Int.toNat_of_nonneg (by split<;>split<;>omega)]
   rfl
  obtain⟨n,H,I⟩:=e;exact⟨n,lE I (by omega)⟩
 obtain⟨n,L⟩:=L;refine acD L ?_;refine Wp.lT (λi env s=>s[0]?=some (.tb  acI)/\s[1]?=some (.tb "law")/\∃e1 e2 Z Y X V U T S Q P O,env=[some (.bK ns),e1,e2,Z,Y,X,V,U,T,S,Q,P,O]) _ ⟨rfl,rfl,_,_,_,_,_,_,_,_,_,_,_,_,rfl⟩ (λi d env s N K=>?_) (λenv s K=>?_)
 ·obtain⟨g,M,e1,e2,Z,Y,X,V,U,T,S,Q,P,O,rfl⟩:=K
  rw[kg] at N;split at N
  ·cases N
   refine⟨_,rfl,?_⟩;rw[ab1];exact Yp (by omega) g M λe2 Z Y X V U T S Q P O G g M=>⟨g,M,_,_,_,_,_,_,_,_,_,_,_,_,rfl⟩
  ·cases N
 ·obtain⟨g,M,e1,e2,Z,Y,X,V,U,T,S,Q,P,O,rfl⟩:=K
  subst J;simp only[VC]
open PySem.W
def Cn (K:ę) (x y:Str):Bool:=yu K x&&yu K y&&match tabIn K x,tabIn K y with
 |some (_,P),some (_,Z)=>decide (P≠Z)
 |_,_=>false
def UW {K:ę} {x y:Str} (h:Cn K x y=true):∃c P c' P',(tabIn K x=some (c,P)/\codeHdIn K c P=true/\K.lookup P=none)/\(tabIn K y=some (c',P')/\codeHdIn K c' P'=true/\K.lookup P'=none)/\P≠P':=by
 unfold Cn at h;rw[Æ,Æ] at h;obtain⟨⟨X,W⟩,Z⟩:=h;obtain⟨c,P,a1,a2,V⟩:=Kb X;obtain⟨c',P',Y,U,T⟩:=Kb W;rw[a1,Y] at Z;exact⟨c,P,c',P',⟨a1,a2,V⟩,⟨Y,U,T⟩,Ą Z⟩
def yN (K:ę) (T T':Ù):Sp:=λY H Q _=>∃(a:Ù) (Z:List Int),Y=[.ref a]/\bC K H a (Z.map V.int)/\Z.length<=63/\H T=some (.cN #[])/\H T'=some (.cN #[])/\∀X,Q (.bl true) X
def Wo {P:ä} {w:ù} {K:ę} {mg:Str->Option Ç} {base:Ĳ} {k:Nat} {f c T c' T':Ù} {fd:Ī} {x y z:Str} {g:List D->af->Res D} (F:dB P w K mg base fz k f fd [x] (oR K g)) (ht:tabIn K y=some (c,T)) (qA:tabIn K z=some (c',T')) (dF:T≠T')
  (h:∀ns:List Int,ns.length<=63->∃s,g [.bK ns] [.tb y,.tb z]=some (.ok (.bl true),s)):dB P w K mg base fz k f fd [x] (yN K T T'):=F.imp λO H Q E ⟨a,ns,e,hS,W,Y,X,q⟩=>by
 subst e;obtain⟨s,hs⟩:=h ns W;have V:∀b,(⟨[T,T'],[.tb y,.tb z],H⟩:Wd).Z b->b=T\/b=T':=λb ⟨k,c,e1,_,_⟩=>by
  match k,e1 with
  |0,e1=>exact .inl (acH e1).symm
  |1,e1=>exact .inr (acH e1).symm
 have S:aM K ⟨[T,T'],[.tb y,.tb z],H⟩:=by
  refine⟨rfl,by simp[dF],λk a e=>?_,λk a c' e1 e2=>?_⟩
  ·match k,e with
   |0,e=>cases e;show H T≠none;rw[Y];intro z;cases z
   |1,e=>cases e;show H T'≠none;rw[X];intro z;cases z
  ·match k,e1,e2 with
   |0,e1,e2=>cases e1;cases e2;exact⟨c,#[],ht,Y,trivial,λpos U z=>by cases z⟩
   |1,e1,e2=>cases e1;cases e2;exact⟨_,#[],qA,X,trivial,λpos U z=>by cases z⟩
 refine⟨⟨[T,T'],[.tb y,.tb z],H⟩,[.bK ns],rfl,S,ar.one ⟨a,rfl,?_⟩,?_⟩
 ·rcases hS with hS|hS
  ·refine .inl ⟨λz=>?_,hS⟩
   rcases V a z with e|e
   ·rw[e] at hS;rcases hS with hS | ⟨_,hS⟩<;>(rw[Y] at hS;cases hS)
   ·rw[e] at hS;rcases hS with hS | ⟨_,hS⟩<;>(rw[X] at hS;cases hS)
  ·exact .inr hS
 ·show Out K cm _ (g [.bK ns] [.tb y,.tb z]) _
  rw[hs];intro N _ _ _ v R;have e:v=.bl true:=R;subst e;exact q _
end DI
end
namespace DI.cT
open PySem L2 DI
noncomputable def ZI:List Str:=["NoMarks","NoSheet","NoPage","NoBook","NoMould","NoDay","NoSort","NoNumber","NoSheets","NoRun","NoLaying","NoHeap","NoCount","Clash","NoDeed","NoText","NoRow","TooMany","Lacking"]
def Df (K:ę) (x:Str) (st:acx):Prop:=∃(f:Ù) (Z:Ç) (Y:Option Ù) (X:Array (Option Ç)) (kV W pm:Ç) (an:Option Ù) (cd V:Ç),å K Ö x=some (some (.ref f))/\K.lookup f=some ⟨Z,Y,.func (ů x x (pq st) (jc st) (dH st) .none kV W pm an cd V),X⟩/\abS K cd x=true/\ł K (.ref f)=true
def ZJ {K:ę} {x:Str} {st:acx} {f:Ù} {oc:Ç} {od:Option Ù} {sl:Array (Option Ç)} {kV dc pm:Ç} {an:Option Ù} {cd ct:Ç} (a:å K Ö x=some (some (.ref f))) (l:K.lookup f=some ⟨oc,od,.func (ů x x (pq st) (jc st) (dH st) .none kV dc pm an cd ct),sl⟩) (c:abS K cd x=true) (k:ł K (.ref f)=true):Df K x st:=⟨f,oc,od,sl,kV,dc,pm,an,cd,ct,a,l,c,k⟩
def lH {K:ę} {x:Str} {i:Int} {t:Tok} (e:å K Ö x=some (some (.int i t))):∃t,å K Ö x=some (some (.int i t)):=⟨t,e⟩
def bp {K:ę} {h:Ĳ} {mg:Str->Option Ç} {x:Str} {st:acx} {ps:List Str} (X:K.In h) (G:h.Ns Ö mg) (D:Df K x st) (hb:∀(kV doc pm:Ç) (an:Option Ù) (bE ct:Ç) (us:List Ç),us.length=ps.length->bindArgs (ů x x (pq st) (jc st) (dH st) .none kV doc pm an bE ct) ⟨us,[]⟩=pure (ps.zip us)):∃f fd,Gd K mg x st ps f fd:=by
 obtain⟨f,Z,Y,W,kV,V,pm,an,cd,ct,a,l,c,k⟩:=D;have F:=KD (st:=st) l c k;exact⟨f,_,ĩ X G a,F,F.binds hb⟩
def dP {P:List Ç->Prop} (h:∀a0:Ç,P [a0]) (us:List Ç) (hl:us.length=1):P us:=by
 cases us with
 |nil=>simp at hl
 |cons a0 Z =>
 cases Z with
 |cons _ _=>simp at hl
 |nil =>
 exact h a0
def gM {P:List Ç->Prop} (h:∀a0 a1:Ç,P [a0,a1]) (us:List Ç) (hl:us.length=2):P us:=by
 cases us with
 |nil=>simp at hl
 |cons a0 Z =>
 cases Z with
 |nil=>simp at hl
 |cons a1 Y =>
 cases Y with
 |cons _ _=>simp at hl
 |nil =>
 exact h a0 a1
def lJ {P:List Ç->Prop} (h:∀a0 a1 a2:Ç,P [a0,a1,a2]) (us:List Ç) (hl:us.length=3):P us:=by
 cases us with
 |nil=>simp at hl
 |cons a0 Z =>
 cases Z with
 |nil=>simp at hl
 |cons a1 Y =>
 cases Y with
 |nil=>simp at hl
 |cons a2 X =>
 cases X with
 |cons _ _=>simp at hl
 |nil =>
 exact h a0 a1 a2
def zc {P:List Ç->Prop} (h:∀a0 a1 a2 a3:Ç,P [a0,a1,a2,a3]) (us:List Ç) (hl:us.length=4):P us:=by
 cases us with
 |nil=>simp at hl
 |cons a0 Y =>
 cases Y with
 |nil=>simp at hl
 |cons a1 X =>
 cases X with
 |nil=>simp at hl
 |cons a2 W =>
 cases W with
 |nil=>simp at hl
 |cons a3 Z =>
 cases Z with
 |cons _ _=>simp at hl
 |nil =>
 exact h a0 a1 a2 a3
def all_mk {P:ä} {w:ù} {K:ę} {h:Ĳ} {mg:Str->Option Ç} {fa:Ù} (X:K.In h) (G:h.Ns Ö mg) (hfa:mg "law"=some (.ref fa))
  (d0:Df K "_law_cell_at" (top 103))
  (d1:Df K "_law_state" (top 104))
  (d2:Df K "_law_take" (top 105))
  (d3:Df K "_law_lived" (top 111))
  (d4:Df K "_law_book" (top 112))
  (d5:Df K "_law_marks" (top 109))
  (d6:Df K "_law_sheet" (top 110))
  (d7:Df K "_law_kinds" (top 106))
  (d8:Df K "is_rising" (top 30))
  (d9:Df K "is_number" (top 25))
  (Gi:Df K "is_below" (top 26))
  (Gj:Df K "is_mark" (top 27))
  (Gk:Df K "are_marks" (top 37))
  (Gm:Df K "are_apart" (top 39))
  (Gn:Df K "is_sheet" (top 38))
  (Gp:Df K "is_mould" (top 28))
  (Gq:Df K "is_day" (top 29))
  (Gr:Df K "is_page" (top 42))
  (Gs:Df K "are_laid" (top 43))
  (Gu:Df K "days_seen" (top 48))
  (Gv:Df K "days_mended" (top 49))
  (Gw:Df K "is_any_behind" (top 47))
  (Gx:Df K "clashes" (top 46))
  (Gy:Df K "faults_of" (top 45))
  (Gz:Df K "is_book" (top 44))
  (GA:Df K "need_book" (top 51))
  (GB:Df K "need_sheet" (top 50))
  (GC:Df K "places_of" (top 58))
  (GD:Df K "need_mould" (top 31))
  (GF:Df K "are_sheets" (top 74))
  (GH:Df K "need_asked" (top 75))
  (Ak:Df K "is_dating" (top 69))
  (GI:Df K "are_laid_marks" (top 41))
  (GJ:Df K "need_run" (top 90))
  (GK:Df K "has_all" (top 40))
  (GN:Df K "may_lay" (top 92))
  (GO:Df K "is_laid" (top 91))
  (GP:Df K "breaks_of" (top 86))
  (GQ:Df K "best_laying" (top 87))
  (GR:Df K "paper_of" (top 89))
  (GS:Df K "need_day" (top 32))
  (GU:Df K "surely" (top 53))
  (GV:Df K "may_be" (top 57))
  (GW:Df K "is_life" (top 54))
  (GX:Df K "least_life" (top 55))
  (GY:Df K "most_life" (top 56))
  (GZ:Df K "is_laying" (top 85))
  (G0:Df K "is_paper" (top 88))
  (G3:Df K "days_of" (top 70))
  (G4:Df K "narrowest" (top 71))
  (G5:Df K "_law_call" (top 114))
  (G6:Df K "_law_refused" (top 107))
  (G7:Df K "_law_odd" (top 108))
  (G8:Df K "_law_bad" (top 113))
  (Ax:Df K  acI (top 115))
  (dl:Df K "law" (top 116))
  (Co:∃t,å K Ö "MARKS"=some (some (.int (8) t)))
  (BL:∃t,å K Ö "MOULDS"=some (some (.int (4) t)))
  (C7:∃t,å K Ö "DAYS"=some (some (.int (31) t)))
  (Cp:∃t,å K Ö "PAGES"=some (some (.int (24) t)))
  (DP:∃t,å K Ö "HAS"=some (some (.int (0) t)))
  (Cq:∃t,å K Ö "LACKS"=some (some (.int (1) t)))
  (BM:∃t,å K Ö "SHEETS"=some (some (.int (3) t)))
  (DQ:∃t,å K Ö "RUN"=some (some (.int (10) t)))
  (Cr:∃t,å K Ö "TWINS"=some (some (.int (2) t)))
  (A0:∃t,å K Ö "NO_OTHER"=some (some (.int (-1) t)))
  (AI:å K Ö "ValueError"=some none)
  (DR:å K Ö "all"=some none)
  (DT:å K Ö "any"=some none)
  (C8:å K Ö "bool"=some none)
  (AW:å K Ö "enumerate"=some none)
  (DU:å K Ö "int"=some none)
  (AJ:å K Ö "isinstance"=some none)
  (DW:å K Ö "len"=some none)
  (C9:å K Ö "list"=some none)
  (DZ:å K Ö "max"=some none)
  (D1:å K Ö "min"=some none)
  (Ct:å K Ö "range"=some none)
  (Dc:å K Ö "repr"=some none)
  (A1:å K Ö "reversed"=some none)
  (D2:å K Ö "set"=some none)
  (BN:å K Ö "sorted"=some none)
  (Cu:å K Ö "tuple"=some none)
  (D3:å K Ö "zip"=some none)
  (xf:lD K bF ZI "MouldError"=true) (tf:Cn K  acI "law"=true)
  : ∃(c T c' T':Ù) (fd:Ī),(Ŷ K  acI=some (c,T)/\K.lookup T=none)/\(Ŷ K "law"=some (c',T')/\K.lookup T'=none)/\(∀(s:Ä) (v:Ç),BindsTo s fd ⟨[v],[]⟩ [(acK,v)])/\∀base:Ĳ,K.In base->base.Ns Ö mg->base.BuiltinsAt mg T->base.BuiltinsAt mg T'->dB P w K mg base fz 17 fa fd [acK] (yN K T T'):=by
 have g0:=bp (ps:=[acK,"_law_k"]) X G d0 λ_ _ _ _ _ _=>gM λ_ _=>rfl;have g1:=bp (ps:=[acK,"_law_k"]) X G d1 λ_ _ _ _ _ _=>gM λ_ _=>rfl;have g2:=bp (ps:=[acJ,"_law_many"]) X G d2 λ_ _ _ _ _ _=>gM λ_ _=>rfl;have g3:=bp (ps:=[acJ,acQ]) X G d3 λ_ _ _ _ _ _=>gM λ_ _=>rfl;have g4:=bp (ps:=[acJ]) X G d4 λ_ _ _ _ _ _=>dP λ_=>rfl;have g5:=bp (ps:=[acJ,"_law_most"]) X G d5 λ_ _ _ _ _ _=>gM λ_ _=>rfl;have g6:=bp (ps:=[acJ]) X G d6 λ_ _ _ _ _ _=>dP λ_=>rfl;have g7:=bp (ps:=[acR]) X G d7 λ_ _ _ _ _ _=>dP λ_=>rfl;have g8:=bp (ps:=["things"]) X G d8 λ_ _ _ _ _ _=>dP λ_=>rfl;have g9:=bp (ps:=["thing"]) X G d9 λ_ _ _ _ _ _=>dP λ_=>rfl;have Z:=bp (ps:=["thing","many"]) X G Gi λ_ _ _ _ _ _=>gM λ_ _=>rfl;have Y:=bp (ps:=["thing"]) X G Gj λ_ _ _ _ _ _=>dP λ_=>rfl;have W:=bp (ps:=["thing"]) X G Gk λ_ _ _ _ _ _=>dP λ_=>rfl;have V:=bp (ps:=["marks","others"]) X G Gm λ_ _ _ _ _ _=>gM λ_ _=>rfl;have U:=bp (ps:=["thing"]) X G Gn λ_ _ _ _ _ _=>dP λ_=>rfl;have S:=bp (ps:=["thing"]) X G Gp λ_ _ _ _ _ _=>dP λ_=>rfl;have R:=bp (ps:=["thing"]) X G Gq λ_ _ _ _ _ _=>dP λ_=>rfl;have Q:=bp (ps:=["thing"]) X G Gr λ_ _ _ _ _ _=>dP λ_=>rfl;have O:=bp (ps:=["thing"]) X G Gs λ_ _ _ _ _ _=>dP λ_=>rfl;have N:=bp (ps:=["pages","mould","mark","half"]) X G Gu λ_ _ _ _ _ _=>zc λ_ _ _ _=>rfl;have M:=bp (ps:=["pages","mould","mark"]) X G Gv λ_ _ _ _ _ _=>lJ λ_ _ _=>rfl;have L:=bp (ps:=["days","day","later"]) X G Gw λ_ _ _ _ _ _=>lJ λ_ _ _=>rfl;have J:=bp (ps:=["pages","mould","mark"]) X G Gx λ_ _ _ _ _ _=>lJ λ_ _ _=>rfl;have I:=bp (ps:=["pages"]) X G Gy λ_ _ _ _ _ _=>dP λ_=>rfl;have H:=bp (ps:=["thing"]) X G Gz λ_ _ _ _ _ _=>dP λ_=>rfl;have E:=bp (ps:=["thing"]) X G GA λ_ _ _ _ _ _=>dP λ_=>rfl;have D:=bp (ps:=["thing"]) X G GB λ_ _ _ _ _ _=>dP λ_=>rfl;have C:=bp (ps:=["book","sheet"]) X G GC λ_ _ _ _ _ _=>gM λ_ _=>rfl;have B:=bp (ps:=["thing"]) X G GD λ_ _ _ _ _ _=>dP λ_=>rfl;have A:=bp (ps:=["thing"]) X G GF λ_ _ _ _ _ _=>dP λ_=>rfl;have z:=bp (ps:=["book","mould","sheets"]) X G GH λ_ _ _ _ _ _=>lJ λ_ _ _=>rfl;have y:=bp (ps:=["book","mould","sheets","thing"]) X G Ak λ_ _ _ _ _ _=>zc λ_ _ _ _=>rfl;have x:=bp (ps:=["thing","most"]) X G GI λ_ _ _ _ _ _=>gM λ_ _=>rfl;have u:=bp (ps:=["thing"]) X G GJ λ_ _ _ _ _ _=>dP λ_=>rfl;have r:=bp (ps:=["marks","others"]) X G GK λ_ _ _ _ _ _=>gM λ_ _=>rfl;have q:=bp (ps:=["run","laid","mould"]) X G GN λ_ _ _ _ _ _=>lJ λ_ _ _=>rfl;have p:=bp (ps:=["run","thing"]) X G GO λ_ _ _ _ _ _=>gM λ_ _=>rfl;have o:=bp (ps:=["run","laying"]) X G GP λ_ _ _ _ _ _=>gM λ_ _=>rfl;have n:=bp (ps:=["run"]) X G GQ λ_ _ _ _ _ _=>dP λ_=>rfl;have m:=bp (ps:=["run"]) X G GR λ_ _ _ _ _ _=>dP λ_=>rfl;have j:=bp (ps:=["thing"]) X G GS λ_ _ _ _ _ _=>dP λ_=>rfl;have i:=bp (ps:=["book","mould","day"]) X G GU λ_ _ _ _ _ _=>lJ λ_ _ _=>rfl;have g:=bp (ps:=["book","mould","day","sheet"]) X G GV λ_ _ _ _ _ _=>zc λ_ _ _ _=>rfl;have d:=bp (ps:=["book","mould","thing"]) X G GW λ_ _ _ _ _ _=>lJ λ_ _ _=>rfl;have b:=bp (ps:=["book","mould"]) X G GX λ_ _ _ _ _ _=>gM λ_ _=>rfl;have g45:=bp (ps:=["book","mould"]) X G GY λ_ _ _ _ _ _=>gM λ_ _=>rfl;have g46:=bp (ps:=["run","thing"]) X G GZ λ_ _ _ _ _ _=>gM λ_ _=>rfl;have g47:=bp (ps:=["run","thing"]) X G G0 λ_ _ _ _ _ _=>gM λ_ _=>rfl;have g48:=bp (ps:=["book","mould","sheets"]) X G G3 λ_ _ _ _ _ _=>lJ λ_ _ _=>rfl;have g49:=bp (ps:=["book","mould","sheets"]) X G G4 λ_ _ _ _ _ _=>lJ λ_ _ _=>rfl;have g50:=bp (ps:=[acL,acN]) X G G5 λ_ _ _ _ _ _=>gM λ_ _=>rfl;have g51:=bp (ps:=[acS]) X G G6 λ_ _ _ _ _ _=>dP λ_=>rfl;have g52:=bp (ps:=[acJ]) X G G7 λ_ _ _ _ _ _=>dP λ_=>rfl;have g53:=bp (ps:=[acJ,"_law_kind",acT]) X G G8 λ_ _ _ _ _ _=>lJ λ_ _ _=>rfl;have g54:=bp (ps:=[acJ,acL,acU,"_law_good"]) X G Ax λ_ _ _ _ _ _=>zc λ_ _ _ _=>rfl;have xR:∃t,mg "MARKS"=some (.int (8) t):=by obtain⟨t,e⟩:=Co;exact⟨t,ĩ X G e⟩
 have xG:∃t,mg "MOULDS"=some (.int (4) t):=by obtain⟨t,e⟩:=BL;exact⟨t,ĩ X G e⟩
 have yf:∃t,mg "DAYS"=some (.int (31) t):=by obtain⟨t,e⟩:=C7;exact⟨t,ĩ X G e⟩
 have BC:∃t,mg "PAGES"=some (.int (24) t):=by obtain⟨t,e⟩:=Cp;exact⟨t,ĩ X G e⟩
 have CY:∃t,mg "HAS"=some (.int (0) t):=by obtain⟨t,e⟩:=DP;exact⟨t,ĩ X G e⟩
 have BD:∃t,mg "LACKS"=some (.int (1) t):=by obtain⟨t,e⟩:=Cq;exact⟨t,ĩ X G e⟩
 have Bf:∃t,mg "SHEETS"=some (.int (3) t):=by obtain⟨t,e⟩:=BM;exact⟨t,ĩ X G e⟩
 have CZ:∃t,mg "RUN"=some (.int (10) t):=by obtain⟨t,e⟩:=DQ;exact⟨t,ĩ X G e⟩
 have BE:∃t,mg "TWINS"=some (.int (2) t):=by obtain⟨t,e⟩:=Cr;exact⟨t,ĩ X G e⟩
 have Hz:∃t,mg "NO_OTHER"=some (.int (-1) t):=by obtain⟨t,e⟩:=A0;exact⟨t,ĩ X G e⟩
 have PV:=ò X G AI;have ZK:=ò X G DR;have ZL:=ò X G DT;have Yq:=ò X G C8;have Qr:=ò X G AW;have ZM:=ò X G DU;have PX:=ò X G AJ;have ZN:=ò X G DW;have Yr:=ò X G C9;have ZO:=ò X G DZ;have ZP:=ò X G D1;have Wq:=ò X G Ct;have Ys:=ò X G Dc;have Ru:=ò X G A1;have ZQ:=ò X G D2;have UX:=ò X G BN;have Wr:=ò X G Cu;have ZR:=ò X G D3;obtain⟨f,oc,od,sl,kV,dc,pm,an,cd,ct,a,l,c,k⟩:=dl;have e:=hfa.symm.trans (ĩ X G a);cases e;have F:=KD (st:=(top 116)) l c k;have GL:Gd K mg "law" (top 116) [acK] _ _:=⟨ĩ X G a,F,F.binds λ_ _ _ _ _ _=>dP λ_=>rfl⟩;have lx0:FW K mg  acI:=by
  obtain⟨f',_,_,_,_,_,_,_,_,_,a',_⟩:=Ax;exact⟨f',a',ĩ X G a'⟩
 obtain⟨c1,T1,c0,T0,⟨wZ,FZ,hT1⟩,⟨ht,hC,hT⟩,dF⟩:=UW tf;exact⟨c1,T1,c0,T0,_,⟨wZ,hT1⟩,⟨ht,hT⟩,λs v=>.of_eq rfl,λbase _ _ F0 hB=>Wo (XZ ⟨PV,ZK,ZL,Yq,Qr,ZM,PX,ZN,Yr,ZO,ZP,Wq,Ys,Ru,ZQ,UX,Wr,ZR,fX X G xf (by decide +kernel),fX X G xf (by decide +kernel),fX X G xf (by decide +kernel),fX X G xf (by decide +kernel),fX X G xf (by decide +kernel),fX X G xf (by decide +kernel),fX X G xf (by decide +kernel),fX X G xf (by decide +kernel),fX X G xf (by decide +kernel),fX X G xf (by decide +kernel),fX X G xf (by decide +kernel),fX X G xf (by decide +kernel),fX X G xf (by decide +kernel),fX X G xf (by decide +kernel),fX X G xf (by decide +kernel),fX X G xf (by decide +kernel),fX X G xf (by decide +kernel),fX X G xf (by decide +kernel),fX X G xf (by decide +kernel),Zv xf,lx0,qp X G xf (by decide +kernel),qp X G xf (by decide +kernel),qp X G xf (by decide +kernel),qp X G xf (by decide +kernel),qp X G xf (by decide +kernel),qp X G xf (by decide +kernel),qp X G xf (by decide +kernel),aaM X G xf,xR,xG,yf,BC,CY,BD,Bf,CZ,BE,Hz,g0,g1,g2,g3,g4,g5,g6,g7,g8,g9,Z,Y,W,V,U,S,R,Q,O,N,M,L,J,I,H,E,D,C,B,A,z,y,x,u,r,q,p,o,n,m,j,i,g,d,b,g45,g46,g47,g48,g49,g50,g51,g52,g53,g54⟩ ht hC hB wZ FZ F0 GL a) wZ ht dF (UU w)⟩
def walk {l:PySem.W.OpenLaw} {q:ä} {loose:List Str} {XP:(Str->Option Ç)->Ĳ->Prop} {YP:ù->Ĳ->Prop} {d:DefRec} {K:Params->ę} (hn:l.most=some 63) (wu:d.params.defaults=[]) {dy dz:DefRec} (hd:(PyProof.Rows.recsOf q).find? (λe=>e.name==(acI:Str))=some dy) (fc:(PyProof.Rows.recsOf q).find? (λe=>e.name==("law":Str))=some dz)
  (hY:∀(w:ù) (h:Ĳ),YP w h->(K w.params).In h)
  (F:∀(w:ù) (mg:Str->Option Ç) (fa:Ù) (h:Ĳ),(K w.params).In h->h.Ns Ö mg->mg d.name=some (.ref fa) ->
   ∃(c T c' T':Ù) (fd:Ī),(Ŷ (K w.params)  acI=some (c,T)/\(K w.params).lookup T=none)/\(Ŷ (K w.params) "law"=some (c',T')/\(K w.params).lookup T'=none)/\(∀(s:Ä) (u:Ç),BindsTo s fd ⟨[u],[]⟩ [(acK,u)])/\∀base:Ĳ,(K w.params).In base->base.Ns Ö mg->base.BuiltinsAt mg T->base.BuiltinsAt mg T'->dB l.prog w (K w.params) mg base fz 17 fa fd [acK] (yN (K w.params) T T')) :
  PySem.W.WalkO q loose XP YP l.row.toRowW d [] (λf vs=>PySem.call f vs) :=
 L2.XT (n:=63) (k:=17) (x:= acK) (CX:=λ_=>fz) (sp:=λw=>yN (K w.params))  acI "law" hn (by decide) wu ⟨rfl,by decide,by decide,rfl⟩ hY hd fc F (λ_ _ _ _ a Z Y X V U=>⟨a,Z,rfl,U,Y,X,V,λ_=>rfl⟩) λ_ _ _ _ _ z=>z
end DI.cT
open PySem PySem.W PyProof.Rows
namespace PySem.W.Fast
def te10193675444227800855:=trivial
def te11545708484254655764:=trivial
def te2088423251004108748:=trivial
def te8403559534865787773:=trivial
def te15500001179271910561:=trivial
def te4678103353419205127:=trivial
def te14928705386952295220:=trivial
def te18314035048990932914:=trivial
def te9621736973086976969:=trivial
end PySem.W.Fast
set_option maxRecDepth 100000 in
set_option maxHeartbeats 0 in
theorem PySem.Challenge.cw_twinmoulds_k14_refusals_of_the_first_sta_holds : PySem.Challenge.rw_twinmoulds_k14_refusals_of_the_first_sta.Holds := by
 w_on;o_law;k_head;(case hw=>w_witness2)
 k_fill
 refine DI.cT.walk (l:=PySem.Challenge.rw_twinmoulds_k14_refusals_of_the_first_sta) rfl rfl rfl rfl (λw h Y=>PySem.W.km_in_of Y) ?F
 case F =>
  intro w V U h Z G X;refine' DI.cT.all_mk Z G X ?d0 ?d1 ?d2 ?d3 ?d4 ?d5 ?d6 ?d7 ?d8 ?d9 ?Gi ?Gj ?Gk ?Gm ?Gn ?Gp ?Gq ?Gr ?Gs ?Gu ?Gv ?Gw ?Gx ?Gy ?Gz ?GA ?GB ?GC ?GD ?GF ?GH ?Ak ?GI ?GJ ?GK ?GN ?GO ?GP ?GQ ?GR ?GS ?GU ?GV ?GW ?GX ?GY ?GZ ?G0 ?G3 ?G4 ?G5 ?G6 ?G7 ?G8 ?Ax ?dl ?Co ?BL ?C7 ?Cp ?DP ?Cq ?BM ?DQ ?Cr ?A0 ?AI ?DR ?DT ?C8 ?AW ?DU ?AJ ?DW ?C9 ?DZ ?D1 ?Ct ?Dc ?A1 ?D2 ?BN ?Cu ?D3 ?xf ?tf
  (case d0|d1|d2|d3|d4|d5|d6|d7|d8|d9|Gi|Gj|Gk|Gm|Gn|Gp|Gq|Gr|Gs|Gu|Gv|Gw|Gx|Gy|Gz|GA|GB|GC|GD|GF|GH|Ak|GI|GJ|GK|GN|GO|GP|GQ|GR|GS|GU|GV|GW|GX|GY|GZ|G0|G3|G4|G5|G6|G7|G8|Ax|dl=>refine' DI.cT.ZJ ?a ?l ?c ?k;(case a=>k_is);(case l=>k_is);(case c=>k_is);(case k=>k_is))
  (case Co=>refine' DI.cT.lH ?e;(case e=>k_is))
  (case BL=>refine' DI.cT.lH ?e;(case e=>k_is))
  (case C7=>refine' DI.cT.lH ?e;(case e=>k_is))
  (case Cp=>refine' DI.cT.lH ?e;(case e=>k_is))
  (case DP=>refine' DI.cT.lH ?e;(case e=>k_is))
  (case Cq=>refine' DI.cT.lH ?e;(case e=>k_is))
  (case BM=>refine' DI.cT.lH ?e;(case e=>k_is))
  (case DQ=>refine' DI.cT.lH ?e;(case e=>k_is))
  (case Cr=>refine' DI.cT.lH ?e;(case e=>k_is))
  (case A0=>refine' DI.cT.lH ?e;(case e=>k_is))
  (case AI|DR|DT|C8|AW|DU|AJ|DW|C9|DZ|D1|Ct|Dc|A1|D2|BN|Cu|D3=>k_is)
  (case xf=>kernel_rfl)
  (case tf=>kernel_rfl)
