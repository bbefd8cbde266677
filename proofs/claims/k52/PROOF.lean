import PyProof.Rows.All
import Wide.All
import OpenK.AllK
import Wide.FinOn
import Lean
import PyProof.EqAt
import PyProof.EqKinds
import PyProof.TupleCall
import PyProof.NeData
import PyProof.P3In
import PyProof.FactsAll.set
import PyProof.CollectWalk
import PyProof.FactsAll.range
import PyProof.MinMaxWalk
import KE.KMinKey
import PyProof.WalkInts
import PyProof.Rows.CallKwBuiltin
import KE.KLam
import KE.KSortTup
import PyProof.Rows.Range3
import PyProof.ListRange
import PyProof.DictRoadsH
import KE.KDictList
import PyProof.Rows.SortKeyStr
import PyProof.DictCompW
import PyProof.DictWalks
import PyProof.Rows.CompDC
import PyProof.SumAny
import PyProof.TupleOfGen
import PyProof.CollectIter
import KE.KTryMore
import OpenK.KOwn
import PyProof.ExcBaseAll.ValueError
import KE.KNestM
import PyProof.NsDelKeeps
import PyProof.ExcAttrAll.ValueError
import PyProof.Conv_int_bool
import PyProof.InstStoreFacts
import KE.KIntText
import PyProof.StrLawsTight
import PyProof.StrLawsChain
import PyProof.StrLawsIn
import PySem.Challenge.RW_twinmoulds_k52_rows_of_a_desk_refused
set_option compiler.extract_closed false
set_option bootstrap.genMatcherCode false
set_option genInjectivity false
set_option genSizeOfSpec false
set_option Elab.async false
set_option linter.all false
set_option maxRecDepth 100000
set_option maxHeartbeats 4000000
open Decidable renaming decide→ώ
open Option renaming some→ϊ,none→ϋ
open Bool renaming true→ό,false→ύ
open PySem renaming wpAny_bind→À,Shared→Â,wpAny_pure→Ã,Value→Ç,starEach→Í,mainGlobals→Ò,sizeLine→Õ,Addr→Þ,wpAny→á,Program→å,model→é,Around→í,wpAny_newObj_type→û,bootBuiltins→ü,World→ā,wpAny_holding→ą,foldedSetIterable→Ć,wpAny_callSpecial?_slot→Ċ,wpAny_call_entry→Ď,compareOp→ĕ,wpAny_mono→ė,Expr→ě,FuncData→Ģ,backTo→ī,wpAny_field→Į,attributeBase→İ,eval→ķ,rawInt→ĸ,Heap→ĺ,mem_of_lookup→Ľ,wpAny_seqItems→Ņ,binaryOp→Ň,codeAny_builtin→Ŋ,codeAny_mono→ŋ,assignEach→Ŏ,letOwnedTupleGo→œ,keywordEach→ŗ,Builtin→Ř,wpAny_truthy_bool→Ŝ,intKind→Ţ,wpAny_askSetting→ť,wpAny_Call_Name_kw→ũ,wpAny_setField_rec→Ū,sizeLine_eq→ŭ,NameKind→Ű,codeAny_call_builtin→ų,wpAny_rule→Ŵ,wpAny_pyIter_list→ŵ,wpAny_setState_of→ŷ,wpAny_standAt→Ż,codeAny→ż,wpAny_attempt→Ž,wpAny_setEntries_of→ž,pickOrder→ε,call_meets→η,wpAny_setField→θ,wpAny_of_eq→abL,Scope→ac5,swapsWithSole→ac6,swappedStores→ac7,fits_of_scanBound→ac9,holding→ade,Keyword→adf,pyNext→adg,cellsFrom→adi,IsPair→adl,scanBound→adn,intText?→adp,backToKw→adq,standAt→adw,wpAny_call→adC,wpAny_typeOf→adF,assignInOrder→adH,wpAny_passesOwn→adJ,behindInMarks→adK,wpAny_pyIter_rangeiter→adU,typeIs_str→adZ,sliceBounds→ad0,wpAny_storeSet_of→ad4,bindName→ad7,wpAny_bindName→ad8,builtinLookup_eq_fast→aed,Stmt→aeg,checkBuiltinCall→aem,codeAny_of_tree→aev,getMethod→aeF,Arguments→aeG,assign→aeM
open PySem.Heap renaming get?_push_of_some→Á,get?_push_size→Î,lt_size→Ð,size_push→Ā,get?_update_self→Ğ,SameBut→Ĭ,get?_update_other→ν,ExtBut→adA,get?_update_ne→adB,get?_some_iff→adS,FlyingW→aee
open Bool renaming false_ne_true→Ä,and_eq_true→Å,false_eq_true→Æ,true_and→ú,not_true→ý,eq_iff_iff→ĭ,and_self→ĵ,not_eq_true'→ł,false_and→Ŭ,not_false→ι,not_eq_true→ads,and_true→aeo,or_eq_true→aeu
open List renaming length_map→É,mem_cons_of_mem→Ï,getElem?_eq_some_iff→Ô,replicate→Ö,getElem?_eq_getElem→Ø,mem_append_right→Ù,mem_cons→Û,size_toArray→Ü,mem_cons_self→ß,map_cons→à,length_cons→â,length_append→ä,getElem?_append_left→ç,range→è,getElem?_map→ê,getElem?_append_right→ð,mem_append→ó,all_eq_true→ô,getElem?_set_ne→õ,pairwise_cons→ø,getElem?_set_self→ù,mem_append_left→ÿ,length_set→ă,length_nil→Ą,not_mem_nil→ć,mem_map→ĉ,mem_range→ċ,mem_singleton→Đ,lookup_cons→ē,set_cons_succ→Ĝ,set_cons_zero→ĝ,getElem?_eq_none→ğ,map_map→Ġ,mem_filter→ĥ,append_nil→Ħ,cons_append→ħ,map_append→Ĩ,getElem?_replicate→ı,append_assoc→Ĳ,zip_cons_cons→Ĺ,nil_append→Ļ,getElem?_range→Ŀ,map_nil→Ō,replicate_succ→ŏ,flatten_cons→Ő,filter_eq_self→ő,filter_cons→Ŧ,length_filter_le→ū,drop_eq_getElem_cons→ů,mem_of_getElem?→ű,getD→Ŷ,mem_filterMap→ξ,nodup_cons→ψ,length_replicate→ω,set_append_right→ac4,ext_getElem?→ac8,isEmpty_nil→adt,filterMap_cons→adv,lookup→adx,getElem_of_mem→adz,forIn_cons→adO,length_eq_zero_iff→adR,nodup_append→ad5,length_singleton→aea,toArray→aec,length_take→aei,getElem_mem→aek,any_eq_true→ael,of_mem_zip→aer,map_eq_flatMap→aey
open Nat renaming lt_of_lt_of_le→Ê,le_trans→Ý,ne_of_lt→ã,lt_irrefl→ñ,zero_le→Ē,lt_succ_of_lt→Ĵ,lt_succ_self→Ŗ,ne_of_gt→Ũ,le_of_not_lt→δ,lt_of_le_of_lt→ς,le_succ→ady,mul_le_mul_right→aen,le_of_eq→aeA
open PySem.PyData renaming strOk→Ó,eqv→ĩ,depthAll→aew
open And renaming intro→ë
open PySem.W renaming nsIn→ì,mg_none_of→þ,Frag→đ,mg_of→ļ,emptyDict→Ł,findIn→ń,keepIn→Œ,fnOf→Ś,instObj→ş,cellsFrom_some→μ,lookIn→adh,codeIn→adj,hideAll_get→adu,callWith_K→adM,plainGet→aeh,plainGet_of→aeq,methodObj→aeD,hasDictIn→aeE,tabIn→aeK,excIn→aeL
open PySem.NameKind renaming free→î
open Array renaming length_toList→ö,getElem?_toList→į,toList_push→ad3,getD→aeH
open PySem.Builtin.SmallTypes renaming nextOf→Ă,ownedTupleIsFree→ľ,ownedTupleHandOut→adm
open PySem.Str renaming ofString→Ĉ,join→š,empty→χ
open PySem.SetTable renaming below→Č,grown→ad9
open False renaming elim→č
open PySem.Obj renaming data_mapFields→ď,isFreed_of_fields→Ŕ,mapSeq→ŝ,cls_mapFields→ad1
open PyProof.Rows renaming slot_tuple_getitem→Ę,envOfC→ŀ,callWith_type1→ņ,firstMet→ř,assignInOrder_cons→ŧ,seqObj→adW,split_le→aef,IntsAre→aej,AllBare→aeJ,envOfC→aeN
open PySem.Builtin.Range renaming rangeFitsLong→ę,rangeSize→adI,rangeFields→aeC
open PySem.Builtin.Str renaming strSliceIndices→Ě,occurrences→ġ
open PySem.Heap.SameBut renaming update→ģ
open PySem.Txt renaming split→Ī,mul→ad6,upper→aex
open Int renaming toNat_natCast→ĳ,emod_lt_of_pos→υ,emod_nonneg→adT
open ForInStep renaming yield→ň
open PySem.Value renaming ref→ō,bool→ś,type→Ť,int→aep
open PySem.Builtin.Tuple renaming tupleExact→ŕ,tupleItemsOf→ada,tupleIsExact→adb
open Function renaming comp_def→Ş
open PySem.Builtin.List renaming listExtendWith→Š,listTooLong→adG
open PySem.F renaming slot_tuple_iterator_next→ţ,plainAttrs_list→ſ,called_set→ac2,slot_range_reversed→ac3,args_tuple_add_2→adE,entry_tuple_add→adN,slot_tuple_add→adV,plainAttrs_str→adY,slot_int_rmul→aes,slot_zip_next→aet
open PySem.Builtin.Slice renaming slicePlaces→Ů,sliceAdjust→adk,sliceApplied→aez
open PySem.Around renaming under_plainId→Ų
open List.cons renaming injEq→Ÿ
open PySem.PassesOwn renaming never→Ź
open Ne renaming symm→ź
open PySem.Sem renaming wp→ζ
open Or renaming inl→ο
open Option renaming map_some→abI,isNone_iff_eq_none→ado,isSome_iff_exists→adD,map_eq_some_iff→adX
open PySem.Calls renaming spliced_cons→adL
open PyProof.Rows.F renaming plain_set_update_loop→adP
open PySem.Code renaming quiet_builtin→adQ
open PySem.SetTable.below renaming go→ad2
open List.Pairwise renaming sublist→aeb
open PySem.StrLaws renaming join_split→aeB
open PySem.SetTable.probe renaming go→aeI
def È:=@decide_eq_true
def Ë:=@decide_eq_true_eq
def Ì:=@decide_eq_false
def Ñ:=@if_pos
def Ú:=@if_neg
def æ:=@of_decide_eq_true
def ï:=@if_false
def ò:=@if_true
def Ĕ:=@bne_self_eq_false
def Ė:=@beq_self_eq_true
def Ĥ:=@and_self
def Ķ:=@decide_true
def Ń:=@congrArg
def aeS:=@Nat.le_refl
def aeT:=@Option.some.inj
abbrev aeU:PySem.Str:="_law_script"
abbrev aeV:PySem.Str:="_law_state_here"
abbrev aeW:PySem.Str:="_law_row"
abbrev aeX:PySem.Str:="_law_word"
noncomputable section
def hold{G:Prop}(h:∀P:Prop,(G->P)->P):G:=h G id
local macro_rules | `(tactic| obtain ⟨$a,$b,$c,$d,$xs,*⟩ := $h)=>`(tactic| (refine hold λP k=>?_;rcases $h:term with ⟨$a,$b,$c,$d,$xs,*⟩<;>(refine k ?_;clear k P)))
local macro_rules | `(tactic| obtain ⟨$a,$b,$c,$d⟩ := $h)=>`(tactic| (refine hold λP k=>?_;rcases $h:term with ⟨$a,$b,$c,$d⟩<;>(refine k ?_;clear k P)))
local macro_rules | `(tactic| rcases $h:term with ⟨$a,$b,$c,$xs,*⟩ | $q)=>`(tactic| (refine hold λP k=>?_;obtain ⟨$a,$b,$c,$xs,*⟩ | $q := $h<;>(refine k ?_;clear k P)))
local macro_rules | `(⋯)=>`(by omega)
local macro_rules | `(∅)=>`(by simp)
local macro_rules | `(nofun)=>`(by decide +kernel)
local macro_rules | `(tactic| delta $x* $[$l]?)=>`(tactic| unfold $x* $[$l]?)
local macro_rules | `(tactic| erw[$[$x:term],*] $[$l:location]?)=>`(tactic| simp only[$[$x:term],*] $[$l:location]?)
local macro_rules | `(tactic| omega) => `(tactic| lia)
open PySem.W (Frag)
namespace L2
open PySem PySem.Spec PyProof.Rows
abbrev Key:=Sum Int Str
def D4:Key->Ç->Bool
 | .inl k,v=>Value.isInt k v
 | .inr x,v=>Value.isStrOf x v
def abH (w:ā):Key->Int
 | .inl k=>hashInt k
 | .inr x=>hashStr w x
def l7:∀{k:Key} {v:Ç},D4 k v=ό->(∃i t,k=Sum.inl i/\v=aep i t)\/(∃x t,k=Sum.inr x/\v=Value.str x t)
 | .inl i,v,h=>by
  obtain⟨t,e⟩:=Value.isInt_shape (k:=i) (v:=v) h;exact .inl ⟨i,t,rfl,e⟩
 | .inr x,v,h=>by
  obtain⟨t,e⟩:=Value.isStrOf_shape (x:=x) (v:=v) h;exact .inr ⟨x,t,rfl,e⟩
def Yg (a b:Int):ώ ((Sum.inl a:Key)=Sum.inl b)=(a==b):=by
 by_cases e:a=b
 ·subst e;simp
 ·have h:¬ (Sum.inl a:Key)=Sum.inl b:=λq=>e (Sum.inl.inj q)
  rw[Ì h];exact(beq_eq_false_iff_ne.mpr e).symm
def Yh (a b:Str):ώ ((Sum.inr a:Key)=Sum.inr b)=ώ (a=b):=by
 by_cases e:a=b
 ·subst e;simp
 ·have h:¬ (Sum.inr a:Key)=Sum.inr b:=λq=>e (Sum.inr.inj q)
  rw[Ì h,Ì e]
def Yi (a:Int) (b:Str):ώ ((Sum.inl a:Key)=Sum.inr b)=ύ:=Ì (λq=>nomatch q)
def Yj (a:Str) (b:Int):ώ ((Sum.inr a:Key)=Sum.inl b)=ύ:=Ì (λq=>nomatch q)
def zo (prog:å) (w:ā):PySem.KeyKind prog w Key where
 is:=D4
 hash:=abH w
 inj:=λv a b X Y=>by
  rcases l7 X with ⟨i,t,rfl,rfl⟩ | ⟨x,t,rfl,rfl⟩
  ·rcases l7 Y with ⟨j,u,rfl,e⟩ | ⟨y,u,rfl,e⟩
   ·injection e with e1 _;rw[e1]
   ·exact nomatch e
  ·rcases l7 Y with ⟨j,u,rfl,e⟩ | ⟨y,u,rfl,e⟩
   ·exact nomatch e
   ·injection e with e1 _;rw[e1]
 byValue:=λk v h=>by
  rcases l7 h with ⟨i,t,rfl,rfl⟩ | ⟨x,t,rfl,rfl⟩<;>rfl
 pyHash:=λZ h=>by
  rcases l7 Z with ⟨i,t,rfl,rfl⟩ | ⟨x,t,rfl,rfl⟩
  ·exact wpAny_pyHash_int h
  ·exact wpAny_pyHash_str h
 eqBool:=λW Z h=>by
  rcases l7 W with ⟨i,t,rfl,rfl⟩ | ⟨x,t,rfl,rfl⟩
  ·rcases l7 Z with ⟨j,u,rfl,rfl⟩ | ⟨y,u,rfl,rfl⟩
   ·rw[Yg] at h;exact wpAny_eqBool_int h
   ·rw[Yi] at h;exact SeqAt.EqAt.int_str i t y u _ _ _ _ h
  ·rcases l7 Z with ⟨j,u,rfl,rfl⟩ | ⟨y,u,rfl,rfl⟩
   ·rw[Yj] at h;exact SeqAt.EqAt.str_int x t j u _ _ _ _ h
   ·rw[Yh] at h;exact wpAny_eqBool_str h
 «strs»:=λk x t v h=>by
  rcases l7 h with ⟨i,u,rfl,e⟩ | ⟨y,u,rfl,e⟩
  ·exact nomatch e
  ·injection e with e1 _
   subst e1
   cases v<;>rfl
set_option genInjectivity true in
inductive V where
 |ar|bl (b:Bool)|int (i:Int)|str (x:Str)|jq (b:Array UInt8)|uF (b:UInt64)|ref (a:Þ)|ty (n:String)
 deriving DecidableEq
def RelV:V->Ç->Prop
 | .ar,u=>u=Value.none
 | .bl b,u=>u=ś b
 | .int i,u=>∃t,u=aep i t
 | .str x,u=>∃t,u=Value.str x t
 | .jq b,u=>∃t,u=Value.bytes b t
 | .uF b,u=>∃t,u=Value.float b t
 | .ref a,u=>u=ō a
 | .ty n,u=>u=Ť n
abbrev Vals:List V->List Ç->Prop:=Paired RelV
theorem Vals.length (r:Vals xs us):xs.length=us.length:=Paired.length r
theorem Vals.get:∀{xs:List V} {us:List Ç} {i:Nat} {x:V},Vals xs us->xs[i]?=ϊ x->∃u,us[i]?=ϊ u/\RelV x u
 |_,_,_,_,.nil,e=>by simp at e
 |_,_,0,_,.cons r _,e=>by simp at e;subst e;exact⟨_,rfl,r⟩
 |_,_,i+1,x,.cons _ t,e=>by
  obtain⟨u,Z,Y⟩:=Vals.get (i:=i) (x:=x) t (by simpa using e);exact⟨u,by simpa using Z,Y⟩
theorem Vals.set (r:RelV x u):∀{xs:List V} {us:List Ç} (i:Nat),Vals xs us->Vals (xs.set i x) (us.set i u)
 |_,_,_,.nil=>.nil
 |_,_,0,.cons _ t=>.cons r t
 |_,_,i+1,.cons q t=>.cons q (Vals.set r i t)
theorem Vals.append:∀{xs ys:List V} {us ws:List Ç},Vals xs us->Vals ys ws->Vals (xs++ys) (us++ws)
 |_,_,_,_,.nil,s=>s
 |_,_,_,_,.cons r t,s=>.cons r (Vals.append t s)
theorem Vals.take:∀{xs:List V} {us:List Ç} (n:Nat),Vals xs us->Vals (xs.take n) (us.take n)
 |_,_,0,_=>.nil
 |_,_,_ + 1,.nil=>.nil
 |_,_,n+1,.cons r t=>.cons r (Vals.take n t)
theorem Vals.drop:∀{xs:List V} {us:List Ç} (n:Nat),Vals xs us->Vals (xs.drop n) (us.drop n)
 |_,_,0,r=>r
 |_,_,_ + 1,.nil=>.nil
 |_,_,n+1,.cons _ t=>Vals.drop n t
def mw:Option V->Option Ç->Prop
 |some v,ϊ u=>RelV v u
 |none,ϋ=>True
 |_,_=>False
def KV {κ:Type}:List (κ×V)->List (κ×Ç)->Prop:=Paired λ(p:κ×V) (q:κ×Ç)=>p.1=q.1/\RelV p.2 q.2
def kV:Key->V
 | .inl i=>.int i
 | .inr x=>.str x
inductive HO where
 |lst (xs:List V)
 |tup (xs:List V)
 |dK (aT:List (Key×V))|dT (aT:List (List Key×V))
 |set (S:Int->Bool) (n:Nat)
 |ins (C dx:Þ) (fs:List (Str×V))
 |own (x:Þ)
 |xd (fs:List (Str×V))
 |met (f x:Þ)
 |dg (lo hi:Int)
 |bo (o:Obj) (u:HO)
 |eh (ps:Array Ç)
 |ext (φ:ĺ->Prop)
abbrev Hp:=Þ->Option HO
def upd (H:Hp) (a:Þ) (o:HO):Hp:=λb=>if b=a then ϊ o else H b
def cP:upd H a o a=ϊ o:=by delta upd;rw[Ñ rfl]
def bt (h:b≠a):upd H a o b=H b:=by delta upd;rw[Ú h]
def dD {H:Hp} {a b:Þ} {o:HO} (h:H a=ϊ o) (h':H b=ϋ):a≠b:=by
 intro e;subst e;rw[h] at h';cases h'
section
variable (P:å) (w:ā)
def eQ (H:Hp) (h:ĺ) (a:Þ):HO->Prop
 | .lst Z=>Z.length<=Õ/\∃(its:List Ç) (n:Nat),Vals Z its/\h.get? a=ϊ { cls:=.type "list",data:=.seq its.toArray n }
 | .tup Z=>Z.length<=Õ/\∃its:List Ç,Vals Z its/\IsTup h a its.toArray
 | .dK X=>X.length<=Õ/\(a==sysModules)=ύ/\∃T,KV X T/\h.DictOf (zo P w) a T
 | .dT X=>X.length<=Õ/\(a==sysModules)=ύ/\∃Z:List (List Key×Þ×Ç),
   Paired (λ(p:List Key×V) (q:List Key×Þ×Ç)=>p.1=q.1/\H q.2.1=ϊ (.tup (p.1.map kV))/\RelV p.2 q.2.2) X Z /\
   ∃o R N,h.get? a=ϊ o/\o.ExactDict/\o.data=.dict R N/\R.toList=Z.map (entryOfKey (tupleKind (zo P w)))/\(Z.map (·.1)).Nodup
 | .set S n=>h.SetOf (Ţ P w) a S n
 | .ins C W fs=>H W=ϊ (.own a)/\fs.length<=1000/\W≠a/\h.get? a=ϊ (ş C W) /\
   ∃Y,h.Ns1 W Y/\(∀f,mw (fs.lookup f) (Y f))/\PySem.Within Y (fs.map (·.1))
 | .own _=>∃o,h.get? a=ϊ o
 | .xd fs=>∃Y,h.Ns1 a Y/\∀f,mw (fs.lookup f) (Y f)
 | .dg lo M=>∃t u v,h.get? a=ϊ { cls:=.type "range",data:=.fields #[.int lo t,.int M u,.int 1 v] }
 | .bo o u=>h.get? a=ϊ o/\eQ H h a u
 | .eh L=>h.get? a=ϊ { cls:=.none,data:=.fields L }
 | .met f x=>h.get? a=ϊ (aeD (.ref f) (.ref x))
 | .ext U=>U h/\(∃o,h.get? a=ϊ o)/\∀Q O:ĺ,U Q->(∀o,Q.get? a=ϊ o->O.get? a=ϊ o)->U O
def cN (H:Hp) (h:ĺ):Prop:=∀a o,H a=ϊ o->eQ P w H h a o
end
section
variable {P:å} {w:ā} {H H':Hp} {h h':ĺ} {a:Þ} {o:HO}
theorem eQ.lt (x:eQ P w H h a o):a<h.objs.size:=by
 cases o with
 |lst Z=>obtain⟨_,_,_,_,e⟩:=x;exact Ð e
 |tup Z=>obtain⟨_,_,_,p⟩:=x;exact p.lt
 |dK Y=>obtain⟨_,_,_,_,o,_,_,e,_⟩:=x;exact Ð e
 |dT Y=>obtain⟨_,_,_,_,o,_,_,e,_⟩:=x;exact Ð e
 |set S n=>obtain⟨o,_,_,_,e,_⟩:=x;exact Ð e
 |ins C X fs=>obtain⟨_,_,_,e,_⟩:=x;exact Ð e
 |own y=>obtain⟨_,e⟩:=x;exact Ð e
 |xd fs=>obtain⟨_,⟨_,_,_,e,_⟩,_⟩:=x;exact Ð e
 |dg lo W=>obtain⟨_,_,_,e⟩:=x;exact Ð e
 |bo V u=>obtain⟨e,_⟩:=x;exact Ð e
 |eh U=>exact Ð (show h.get? a=ϊ _ from x)
 |met f y=>exact Ð (show h.get? a=ϊ _ from x)
 |ext T=>obtain⟨_,⟨_,e⟩,_⟩:=x;exact Ð e
theorem Paired.OG {α β:Type} {F G:α->β->Prop}:∀{OH:List α} {l₂:List β},Paired F OH l₂->(∀a b,F a b->G a b)->Paired G OH l₂
 |_,_,.nil,_=>.nil
 |_,_,.cons r t,f=>.cons (f _ _ r) (Paired.OG t f)
def eQ.iG (x:eQ P w H h a o) (k:∀b u,(b=a\/H b=ϊ (.own a))->h.get? b=ϊ u->h'.get? b=ϊ u)
  (ho:∀b,H b=ϊ (.own a)->H' b=ϊ (.own a)) (ht:∀b xs,H b=ϊ (.tup xs)->H' b=ϊ (.tup xs)):eQ P w H' h' a o:=by
 induction o with
 |lst xs=>obtain⟨z,its,n,r,e⟩:=x;exact⟨z,its,n,r,k _ _ (.inl rfl) e⟩
 |tup xs=>obtain⟨z,its,r,Z,e,c⟩:=x;exact⟨z,its,r,Z,k _ _ (.inl rfl) e,c⟩
 |dK R=>obtain⟨z,y,Q,r,Z,Y,X,e,c⟩:=x;exact⟨z,y,Q,r,Z,Y,X,k _ _ (.inl rfl) e,c⟩
 |dT R =>
  obtain⟨z,y,xs,r,Z,Y,X,e,c⟩:=x;exact⟨z,y,xs,Paired.OG r λp q z=>⟨z.1,ht _ _ z.2.1,z.2.2⟩,Z,Y,X,k _ _ (.inl rfl) e,c⟩
 |set S n=>obtain⟨Z,Y,X,t,e,c⟩:=x;exact⟨Z,Y,X,t,k _ _ (.inl rfl) e,c⟩
 |ins C O fs =>
  obtain⟨d,z,ne,e,W,⟨V,Y,X,e2,c⟩,r⟩:=x;exact⟨ho _ d,z,ne,k _ _ (.inl rfl) e,W,⟨V,Y,X,k _ _ (.inr d) e2,c⟩,r⟩
 |own y=>obtain⟨Z,e⟩:=x;exact⟨Z,k _ _ (.inl rfl) e⟩
 |xd fs=>obtain⟨W,⟨V,Y,X,e,c⟩,r⟩:=x;exact⟨W,⟨V,Y,X,k _ _ (.inl rfl) e,c⟩,r⟩
 |dg lo N=>obtain⟨t,u,v,e⟩:=x;exact⟨t,u,v,k _ _ (.inl rfl) e⟩
 |bo Z u ih=>obtain⟨e,q⟩:=x;exact⟨k _ _ (.inl rfl) e,ih q⟩
 |eh U =>
  have e:h.get? a=ϊ { cls:=.none,data:=.fields U }:=x;show h'.get? a=ϊ { cls:=.none,data:=.fields U };exact k a _ (.inl rfl) e
 |met f y =>
  have e:h.get? a=ϊ (aeD (.ref f) (.ref y)):=x;show h'.get? a=ϊ (aeD (.ref f) (.ref y));exact k a _ (.inl rfl) e
 |ext M=>obtain⟨p,⟨o,e⟩,T⟩:=x;exact⟨T _ _ p λo q=>k _ _ (.inl rfl) q,⟨o,k _ _ (.inl rfl) e⟩,T⟩
theorem cN.lt (x:cN P w H h) (e:H a=ϊ o):a<h.objs.size:=(x a o e).lt
def cN.fresh (x:cN P w H h) (e:h.objs.size<=a):H a=ϋ:=by
 cases q:H a with
 |none=>rfl
 |some u=>exact absurd (Ê (x.lt q) e) (ñ _)
def cN.kept (x:cN P w H h) (k:∀b u,h.get? b=ϊ u->h'.get? b=ϊ u):cN P w H h':=λa o e =>
 (x a o e).iG (λb u _ q=>k b u q) (λ_ q=>q) λ_ _ q=>q
def cN.laid (x:cN P w H h) (k:∀b u,h.get? b=ϊ u->h'.get? b=ϊ u) (hp:h.objs.size<=a) (new:eQ P w (upd H a o) h' a o):cN P w (upd H a o) h':=λb u e=>by
 have Z:=x.fresh hp;by_cases Y:b=a
 ·subst Y;rw[cP] at e;cases e;exact new
 ·rw[bt Y] at e
  exact(x b u e).iG (λc v _ q=>k c v q) (λc q=>by rw[bt (dD q Z)];exact q) λc X q=>by rw[bt (dD q Z)];exact q
end
def Rd (H:Hp) (a:Þ) (u:HO):Prop:=H a=ϊ u\/∃o,H a=ϊ (.bo o u)
def Rd.ok (r:Rd H a u) (x:cN P w H h):eQ P w H h a u:=by
 rcases r with r | ⟨o,r⟩
 ·exact x a u r
 ·obtain⟨_,q⟩:=x a _ r
  exact q
def AO:Option HO->Prop
 |some (.lst _)=>True
 |some (.dK _)=>True
 |some (.dT _)=>True
 |some (.set _ _)=>True
 |some (.ins _ _ _)=>True
 |some (.ext _)=>True
 |_=>False
section
variable {P:å} {w:ā} {H:Hp} {h h':ĺ} {x e:Þ} {o':HO}
def cN.write (ok:cN P w H h) (mu:AO (H x)) (he:e=x\/H e=ϊ (.own x)) (k:∀b u,b≠e->h.get? b=ϊ u->h'.get? b=ϊ u) (uG:∃u,h'.get? e=ϊ u)
  (new:eQ P w (upd H x o') h' x o'):cN P w (upd H x o') h':=λb u q=>by
 have V:∀c y,H c=ϊ (.own y)->c≠x:=λc y r z=>by subst z;rw[r] at mu;exact mu
 have W:∀c Z,H c=ϊ (.tup Z)->c≠x:=λc Z r z=>by subst z;rw[r] at mu;exact mu
 by_cases Y:b=x
 ·subst Y;rw[cP] at q;cases q;exact new
 ·rw[bt Y] at q
  by_cases X:b=e
  ·have U:H b=ϊ (.own x):=by
    rcases he with z|z
    ·exact absurd (X.trans z) Y
    ·rw[X];exact z
   rw[q] at U;cases U;obtain⟨v,T⟩:=uG;exact⟨v,by rw[X];exact T⟩
  ·refine(ok b u q).iG (λc v hc r=>k c v ?_ r) (λc r=>by rw[bt (V c b r)];exact r) λc Z r=>by rw[bt (W c Z r)];exact r
   rcases hc with rfl|hc
   ·exact X
   ·rintro rfl
    rcases he with z|z
    ·exact V c b hc z
    ·rw[hc] at z;cases z;exact Y rfl
end
structure Un (fs ex:List Þ) (H H':Hp) (h h':ĺ):Prop where
 keep:∀b o,h.get? b=ϊ o->H b=ϋ->b∉fs->b∉ex->h'.get? b=ϊ o
 slot:∀b o,h.get? b=ϊ o->H b=ϋ->b∈fs->b∉ex->∃sl,h'.get? b=ϊ { o with slots:=sl }
 free:∀b o,h.get? b=ϊ o->H b=ϋ->b∉ex->H' b=ϋ
 there:∀b o,h.get? b=ϊ o->b∉ex->∃o',h'.get? b=ϊ o'
 gk:∀b xs,H b=ϊ (.tup xs)->H' b=ϊ (.tup xs)
 fy:∀b o u,H b=ϊ (.bo o u)->H' b=ϊ (.bo o u)
 gm:∀b ps,H b=ϊ (.eh ps)->∃more,H' b=ϊ (.eh (ps++more))
section
variable {fs fs' ex ex':List Þ} {H H1 H2:Hp} {h h1 h2 h':ĺ} {a x e:Þ} {o:HO}
def Un.any (u:Un fs ex H H1 h h1) (q:h.get? b=ϊ ob) (n:H b=ϋ) (hx:b∉ex):∃sl,h1.get? b=ϊ { ob with slots:=sl }:=by
 by_cases Z:b∈fs
 ·exact u.slot b ob q n Z hx
 ·exact⟨ob.slots,u.keep b ob q n Z hx⟩
def Un.kept (k:∀b u,h.get? b=ϊ u->h'.get? b=ϊ u):Un fs ex H H h h' :=
 ⟨λb Z q _ _ _=>k b Z q,λb Z q _ _ _=>⟨Z.slots,k b Z q⟩,λ_ _ _ n _=>n,λb Z q _=>⟨Z,k b Z q⟩,λ_ _ q=>q,λ_ _ _ q=>q,λ_ Y q=>⟨#[],by rw[q];simp⟩⟩
def Un.refl:Un fs ex H H h h:=Un.kept λ_ _ q=>q
def Un.laid (k:∀b u,h.get? b=ϊ u->h'.get? b=ϊ u) (hp:h.objs.size<=a) (hn:H a=ϋ):Un fs ex H (upd H a o) h h' where
 keep:=λb u q _ _ _=>k b u q
 slot:=λb u q _ _ _=>⟨u.slots,k b u q⟩
 free:=λb u q n _=>by rw[bt (ã (Ê (Ð q) hp))];exact n
 there:=λb u q _=>⟨u,k b u q⟩
 gk:=λb Z q=>by rw[bt (dD q hn)];exact q
 fy:=λb u Z q=>by rw[bt (dD q hn)];exact q
 gm:=λb Y q=>⟨#[],by rw[bt (dD q hn),q];simp⟩
def Un.write (mu:AO (H x)) (he:e=x\/H e=ϊ (.own x)) (k:∀b u,b≠e->h.get? b=ϊ u->h'.get? b=ϊ u) (uG:∃u,h'.get? e=ϊ u):Un fs ex H (upd H x o) h h':=by
 have Y:∀b,H b=ϋ->b≠x:=λb n z=>by subst z;rw[n] at mu;exact mu
 have X:∀b,H b=ϋ->b≠e:=λb n z=>by
  subst z
  rcases he with r|r
  ·exact Y b n r
  ·rw[n] at r;cases r
 have Z:∀b u,H b=ϊ u->¬ AO (ϊ u)->b≠x:=λb u q nm z=>by subst z;rw[q] at mu;exact nm mu
 refine⟨λb u q n _ _=>k b u (X b n) q,λb u q n _ _=>⟨u.slots,k b u (X b n) q⟩,λb u q n _=>by rw[bt (Y b n)];exact n,λb u q _=>?_,
  λb V q=>by rw[bt (Z b _ q λz=>z)];exact q,λb u V q=>by rw[bt (Z b _ q λz=>z)];exact q,λb U q=>⟨#[],by rw[bt (Z b _ q λz=>z),q];simp⟩⟩
 by_cases W:b=e
 ·subst W;exact uG
 ·exact⟨u,k b u W q⟩
end
def uH (h:ĺ) (H:Hp):List Þ:=(è h.objs.size).filter λa=>(H a).isSome
def nN (h:ĺ) (H:Hp):ĺ:=PySem.W.hideAll h (uH h H)
def Tc (h:ĺ) (H:Hp):(nN h H).objs.size=h.objs.size:=PySem.W.hideAll_size _ _
def B4 (e:h.get? b=ϊ o) (n:H b=ϋ):(nN h H).get? b=ϊ o :=
 adu _ e λZ=>by
  have q:(H b).isSome=ό:=(ĥ.mp Z).2;rw[n] at q;simp at q
def WA (e:(nN h H).get? b=ϊ o):h.get? b=ϊ o/\H b=ϋ:=by
 have Z:h.get? b=ϊ o:=PySem.W.of_hideAll (uH h H) e;refine⟨Z,?_⟩
 cases q:H b with
 |none=>rfl
 |some x =>
  have Y:b∈uH h H:=ĥ.mpr ⟨ċ.mpr (Ð Z),by simp[q]⟩;have z:(nN h H).get? b=ϋ:=PySem.W.hideAll_none (uH h H) Y;rw[z] at e;cases e
def WB (g h:ĺ) (L:Þ):List (Þ×Obj):=(è h.objs.size).filterMap λa=>if a=L\/(g.get? a).isSome=ό then ϋ else (h.get? a).map λo=>(a,o)
def rest (g h:ĺ) (L d:Þ):List (Þ×Obj):=(WB g h L).filter λp=>ώ (p.1≠d)
structure Mod (K:đ) (mg:Str->Option Ç) (base:ĺ):Prop where
 kE:K.In base
 glob:base.Ns Ò mg
 blt:∃mb,base.Ns builtinsNs mb/\∀x:Str,x≠"__name__"->mb x=ü x
 nolimit:base.NoLimit
structure Cx where
 prog:å
 w:ā
 K:đ
 mg:Str->Option Ç
 base:ĺ
 A:í
 N:List Str
 df:Â
 mx:Hp
 env:Env
 outer:List Env
 stack:List Env
 ex:List Þ
 fn:Str->Bool
 calm:Bool
 pn:List (Þ×Obj)
 xe:Ç->Â->Prop
def cL (l:List Env):List Þ:=l.filterMap (·.frame)
abbrev Cx.fs (X:Cx):List Þ:=cL X.outer
def qY (sc:ac5) (x:Str):Prop:=sc.names.lookup x=ϊ .local\/sc.names.lookup x=ϊ .cell\/sc.names.lookup x=ϊ .free
def Loc (sc:ac5) (x:Str):Prop:=sc.names.lookup x=ϊ .local\/sc.names.lookup x=ϊ .cell
def Look (env:Env) (h:ĺ) (m:Str->Option Ç) (x:Str) (u:Ç):Prop :=
 (env.kindOf x=ϊ .local/\m x=ϊ u)\/((env.kindOf x=ϊ .cell\/env.kindOf x=ϊ .free)/\∃c,env.cells.lookup x=ϊ c/\h.IsCell c (ϊ u))
structure Cx.Ok (X:Cx):Prop where
 mod:Mod X.K X.mg X.base
 kind:X.env.scope.kind=.function
 glob:X.env.globals=Ò
 blt:X.env.builtins=builtinsNs
 above:X.df.heap.objs.size<=X.env.locals
 inj:∀x y c,X.env.cells.lookup x=ϊ c->X.env.cells.lookup y=ϊ c->x=y
 has:∀x,(X.env.kindOf x=ϊ .cell\/X.env.kindOf x=ϊ .free)->∃c,X.env.cells.lookup x=ϊ c
 uJ:∀x c,X.fn x=ό->X.env.cells.lookup x=ϊ c->X.df.heap.objs.size<=c
 hd:X.calm=ό->X.A.handled=ϋ
 frames:X.A.frames=ϊ X.stack
 mI:X.stack=X.outer\/(X.stack=X.env::X.outer/\X.env.frame=ϊ X.env.locals)
 Pl:∀b∈X.ex,b≠X.env.locals/\∀x c,X.env.cells.lookup x=ϊ c->c≠b
 bs:∀b o,X.base.get? b=ϊ o->X.df.heap.get? b=ϊ o/\X.mx b=ϋ
 iX:X.base.objs.size<=X.df.heap.objs.size
 oT:∀b o,X.base.get? b=ϊ o->b∉X.ex
 Ar:∀b∈X.ex,b∉X.fs
 iT:X.df.heap.FunFrames X.base X.outer
 lL:∀b∈X.fs,X.mx b=ϋ
structure Inv (X:Cx) (π:List (Þ×Obj)) (σ:List (Option V)) (H:Hp) (s:Â):Prop where
 ok:X.Ok
 os:s.os=X.df.os
 bare:aeJ s.gens
 base:Un X.fs X.ex X.mx H X.df.heap s.heap
 loc:∃m,s.heap.Ns X.env.locals m/\∀(i:Nat) (x:Str) (v:V),X.N[i]?=ϊ x->σ[i]?=ϊ (ϊ v)->qY X.env.scope x->∃u,RelV v u/\Look X.env s.heap m x u
 cell:∀x c,X.env.cells.lookup x=ϊ c->∃v,s.heap.IsCell c v
 free:H X.env.locals=ϋ
 je:∀x c,X.env.cells.lookup x=ϊ c->H c=ϋ
 pin:∀p∈X.pn++π,s.heap.get? p.1=ϊ p.2/\H p.1=ϋ/\p.1≠X.env.locals/\p.1∉X.fs/\∀v,p.2.data≠.cell v
 aI:cN X.prog X.w H s.heap
 len:σ.length=X.N.length
section
variable {X:Cx} {π:List (Þ×Obj)} {σ:List (Option V)} {H H':Hp} {s:Â} {h':ĺ}
def Cx.Ok.abK (ok:X.Ok) (e:X.base.get? b=ϊ o):b∉X.fs:=λZ=>by
 have:=(ok.iT.mem Z).1;rw[e] at this;cases this
theorem Inv.bs (I:Inv X π σ H s):∀b o,X.base.get? b=ϊ o->s.heap.get? b=ϊ o/\H b=ϋ:=λb o e =>
 ⟨I.base.keep b o (I.ok.bs b o e).1 (I.ok.bs b o e).2 (I.ok.abK e) (I.ok.oT b o e),I.base.free b o (I.ok.bs b o e).1 (I.ok.bs b o e).2 (I.ok.oT b o e)⟩
def Inv.bk (I:Inv X π σ H s):∀b o,X.base.get? b=ϊ o->s.heap.get? b=ϊ o:=λb o e=>(I.bs b o e).1
theorem Inv.mod (I:Inv X π σ H s):Mod X.K X.mg X.base:=I.ok.mod
def Inv.fB (I:Inv X π σ H s):X.K.In s.heap:=I.ok.mod.kE.keeps I.bk
theorem Inv.lt (I:Inv X π σ H s):X.env.locals<s.heap.objs.size:=let ⟨_,Z,_⟩:=I.loc;Z.lt
def Inv.sz (I:Inv X π σ H s):X.df.heap.objs.size<=s.heap.objs.size:=Ý I.ok.above (Nat.le_of_lt I.lt)
def Inv.xr (I:Inv X π σ H s) {a:Þ} (h:s.heap.objs.size<=a):a∉X.fs:=λZ=>by
 obtain⟨_,o,Y,_⟩:=I.ok.iT.mem Z;exact absurd (Ê (Ð Y) (Ý I.sz h)) (ñ _)
def Inv.kF (I:Inv X π σ H s):∀x c,X.env.cells.lookup x=ϊ c->c≠X.env.locals:=λx c e z=>by
 obtain⟨v,o,Z,Y⟩:=I.cell x c e;obtain⟨m,⟨U,T,S,W,V,_⟩,_⟩:=I.loc;rw[z,W] at Z;cases Z;rw[V] at Y;cases Y
theorem Inv.iT (I:Inv X π σ H s):s.heap.FunFrames X.base X.outer:=by
 have all:∀(l:List Env),(∀b∈cL l,b∈X.fs)->X.df.heap.FunFrames X.base l->s.heap.FunFrames X.base l:=by
  intro l
  induction l with
  |nil=>intro _ _;trivial
  |cons env r ih =>
   intro V U;obtain⟨T,⟨L,o,Z,S,R,Q⟩,P⟩:=U;have Y:L∈X.fs:=V L (by delta cL;rw[adv,Z];exact ß);obtain⟨sl,e⟩:=I.base.slot L o R (I.ok.lL L Y) Y λz=>I.ok.Ar L z Y;exact⟨T,⟨L,_,Z,S,e,Q⟩,ih (λb W=>V b (by delta cL;rw[adv,Z];exact Ï _ W)) P⟩
 exact all X.outer (λ_ W=>W) I.ok.iT
theorem Inv.stack (I:Inv X π σ H s):s.heap.FunFrames X.base X.stack:=by
 rcases I.ok.mI with e | ⟨e,Z⟩
 ·rw[e];exact I.iT
 ·rw[e]
  obtain⟨m,Y,_⟩:=I.loc;refine .cons (by rw[I.ok.kind];decide) Z Y ?_ I.iT;exact Heap.get?_none_of_le (Ý I.ok.iX I.ok.above)
def Inv.kY (I:Inv X π σ H s):∀b∈cL X.stack,b∈X.env.locals::X.fs:=λb Z=>by
 rcases I.ok.mI with e | ⟨e,Y⟩
 ·rw[e] at Z;exact Ï _ Z
 ·rw[e] at Z
  delta cL at Z;rw[adv,Y] at Z;exact Z
def Inv.vY (I:Inv X π σ H s):∀b∈cL X.stack,H b=ϋ:=λb hb=>by
 rcases Û.mp (I.kY b hb) with e|hb
 ·rw[e];exact I.free
 ·obtain⟨_,o,Z,_⟩:=I.ok.iT.mem hb
  exact I.base.free b o Z (I.ok.lL b hb) λz=>I.ok.Ar b z hb
def Inv.step {g':Array GenState} {t':Nat} {d':Drawn} {ch:List Þ} (I:Inv X π σ H s)
  (mJ:∀b∈ch,(b∈X.ex\/X.df.heap.objs.size<=b)/\b≠X.env.locals/\(∀x c,X.env.cells.lookup x=ϊ c->c≠b)/\∀p∈X.pn++π,p.1≠b)
  (keep:∀b o,b≠X.env.locals->b∉X.fs->b∉ch->s.heap.get? b=ϊ o->H b=ϋ->h'.get? b=ϊ o)
  (slot:∀b o,b≠X.env.locals->b∈X.fs->b∉ch->s.heap.get? b=ϊ o->H b=ϋ->∃sl,h'.get? b=ϊ { o with slots:=sl }) (free:∀b o,b∉ch->s.heap.get? b=ϊ o->H b=ϋ->H' b=ϋ)
  (there:∀b o,b∉ch->s.heap.get? b=ϊ o->∃o',h'.get? b=ϊ o')
  (gk:∀b xs,H b=ϊ (.tup xs)->H' b=ϊ (.tup xs)) (fy:∀b o u,H b=ϊ (.bo o u)->H' b=ϊ (.bo o u)) (gm:∀b ps,H b=ϊ (.eh ps)->∃more,H' b=ϊ (.eh (ps++more)))
  (ns:∀m,s.heap.Ns X.env.locals m->h'.Ns X.env.locals m) (aI:cN X.prog X.w H' h') (hg:aeJ g') :
  Inv X π σ H' { s with heap:=h',gens:=g',drawn:=d',toks:=t' }:=by
 have S:∀b o,X.df.heap.get? b=ϊ o->b≠X.env.locals:=λb o e=>ã (Ê (Ð e) I.ok.above);have U:∀b o,X.df.heap.get? b=ϊ o->b∉X.ex->b∉ch:=λb o e Z Y=>by
  rcases(mJ b Y).1 with z|z
  ·exact Z z
  ·exact absurd (Ê (Ð e) z) (ñ _)
 have cellK:∀x c,X.env.cells.lookup x=ϊ c->∀v,s.heap.IsCell c v->h'.IsCell c v:=λx c e v ⟨o,W,T⟩=>by
  have V:c∉ch:=λz=>(mJ c z).2.2.1 x c e rfl;by_cases R:c∈X.fs
  ·obtain⟨sl,q⟩:=slot c o (I.kF x c e) R V W (I.je x c e)
   exact⟨_,q,T⟩
  ·exact⟨o,keep c o (I.kF x c e) R V W (I.je x c e),T⟩
 refine⟨I.ok,I.os,hg,⟨λb o e n Y Z=>?_,λb o e n Y Z=>?_,λb o e n Z=>?_,λb o e Z=>?_,λb xs e=>gk b xs (I.base.gk b xs e),λb o xs e=>fy b o xs (I.base.fy b o xs e),λb ps e=>?_⟩,?_,λx c e=>?_,?_,λx c e=>?_,λp Q=>?_,aI,I.len⟩
 ·exact keep b o (S b o e) Y (U b o e Z) (I.base.keep b o e n Y Z) (I.base.free b o e n Z)
 ·obtain⟨sl,e1⟩:=I.base.slot b o e n Y Z
  obtain⟨O,e2⟩:=slot b _ (S b o e) Y (U b o e Z) e1 (I.base.free b o e n Z);exact⟨O,e2⟩
 ·obtain⟨o',e1⟩:=I.base.there b o e Z
  exact free b o' (U b o e Z) e1 (I.base.free b o e n Z)
 ·obtain⟨o',e1⟩:=I.base.there b o e Z
  exact there b o' (U b o e Z) e1
 ·obtain⟨N,e1⟩:=I.base.gm b ps e
  obtain⟨M,e2⟩:=gm b _ e1;exact⟨N++M,by rw[e2,Array.append_assoc]⟩
 ·obtain⟨m,L,K⟩:=I.loc
  refine⟨m,ns m L,λi x v e1 e2 J=>?_⟩;obtain⟨u,r,l⟩:=K i x v e1 e2 J;refine⟨u,r,?_⟩
  rcases l with l | ⟨k,c,e,z⟩
  ·exact .inl l
  ·exact .inr ⟨k,c,e,cellK x c e _ z⟩
 ·obtain⟨v,z⟩:=I.cell x c e
  exact⟨v,cellK x c e v z⟩
 ·obtain⟨m,⟨o,_,_,W,_⟩,_⟩:=I.loc
  exact free _ o (λz=>(mJ _ z).2.1 rfl) W I.free
 ·obtain⟨v,o,W,T⟩:=I.cell x c e
  exact free c o (λz=>(mJ c z).2.2.1 x c e rfl) W (I.je x c e)
 ·obtain⟨e,n,ne,P,d⟩:=I.pin p Q
  have V:p.1∉ch:=λz=>(mJ p.1 z).2.2.2 p Q rfl;exact⟨keep p.1 p.2 ne P V e n,free p.1 p.2 V e n,ne,P,d⟩
def Inv.un {t':Nat} (I:Inv X π σ H s) (u:Un X.fs [] H H' s.heap h') (aI:cN X.prog X.w H' h'):Inv X π σ H' { s with heap:=h',toks:=t' }:=by
 obtain⟨m,⟨o,Q,P,Y,r⟩,_⟩:=id I.loc;obtain⟨sl,V⟩:=u.any Y I.free ∅
 exact I.step (g':=s.gens) (d':=s.drawn) (ch:=[]) (λ_ z=>nomatch z) (λb o _ Z _ e n=>u.keep b o e n Z ∅) (λb o _ Z _ e n=>u.slot b o e n Z ∅) (λb o _ e n=>u.free b o e n ∅) (λb o _ e=>u.there b o e ∅) u.gk u.fy u.gm (λO U=>by
  obtain⟨N,T,S,W,R⟩:=U;rw[Y] at W;cases W;exact⟨_,T,S,V,R⟩) aI I.bare
def Inv.call {g':Array GenState} {t':Nat} {d':Drawn} {ch:List Þ} (I:Inv X π σ H s) (u:Un (cL X.stack) ch H H' s.heap h') (aI:cN X.prog X.w H' h') (hg:aeJ g')
  (mJ:∀b∈ch,(b∈X.ex\/X.df.heap.objs.size<=b)/\b≠X.env.locals/\(∀x c,X.env.cells.lookup x=ϊ c->c≠b)/\∀p∈X.pn++π,p.1≠b) :
  Inv X π σ H' { s with heap:=h',gens:=g',drawn:=d',toks:=t' }:=by
 obtain⟨m,⟨o,P,O,W,r⟩,_⟩:=id I.loc;obtain⟨sl,Y⟩:=u.any W I.free λz=>(mJ _ z).2.1 rfl;exact I.step (ch:=ch) mJ (λb o Y U Z e n=>u.keep b o e n (λz=>(Û.mp (I.kY b z)).elim Y U) Z) (λb o _ _ Z e n=>u.any e n Z) (λb o Z e n=>u.free b o e n Z) (λb o Z e=>u.there b o e Z) u.gk u.fy u.gm (λN T=>by
  obtain⟨M,S,R,V,Q⟩:=T;rw[W] at V;cases V;exact⟨_,S,R,Y,Q⟩) aI hg
def Inv.turned {t':Nat} {it:Þ} (I:Inv X π σ H s) (k:∀b o,b≠it->s.heap.get? b=ϊ o->h'.get? b=ϊ o) (hn:H it=ϋ) (hL:it≠X.env.locals)
  (h1:it∈X.ex\/X.df.heap.objs.size<=it) (h2:∀x c,X.env.cells.lookup x=ϊ c->c≠it) (h3:∀p∈X.pn++π,p.1≠it):Inv X π σ H { s with heap:=h',toks:=t' }:=by
 have Y:∀b u,H b=ϊ u->b≠it:=λb u e z=>by rw[z,hn] at e;cases e
 refine I.step (g':=s.gens) (d':=s.drawn) (ch:=[it]) (λb W=>?_) (λb o _ _ Z e _=>k b o (λz=>Z (by simp[z])) e) (λb o _ _ Z e _=>⟨o.slots,k b o (λz=>Z (by simp[z])) e⟩) (λ_ _ _ _ n=>n)
  (λb o Z e=>⟨o,k b o (λz=>Z (by simp[z])) e⟩) (λ_ _ e=>e) (λ_ _ _ e=>e) (λb R e=>⟨#[],by rw[e];simp⟩) (λm V=>?_) (λb u e=>?_) I.bare
 ·have e:b=it:=by simpa using W
  subst e;exact⟨h1,hL,h2,h3⟩
 ·obtain⟨o,U,T,S,r⟩:=V
  exact⟨o,U,T,k _ o (ź hL) S,r⟩
 ·refine(I.aI b u e).iG (λc v Z q=>k c v ?_ q) (λ_ q=>q) λ_ _ q=>q
  rcases Z with z|z
  ·rw[z];exact Y b u e
  ·exact Y c _ z
def Inv.tok (I:Inv X π σ H s) (t:Nat):Inv X π σ H { s with toks:=t }:=I.un (h':=s.heap) (t':=t) Un.refl I.aI
theorem Inv.kept (I:Inv X π σ H s) (k:∀b u,s.heap.get? b=ϊ u->h'.get? b=ϊ u):Inv X π σ H { s with heap:=h',toks:=t' }:=I.un (Un.kept k) (I.aI.kept k)
theorem Inv.laid {a:Þ} {o:HO} {t':Nat} (I:Inv X π σ H s) (k:∀b u,s.heap.get? b=ϊ u->h'.get? b=ϊ u) (hp:s.heap.objs.size<=a) (new:eQ X.prog X.w (upd H a o) h' a o) :
  Inv X π σ (upd H a o) { s with heap:=h',toks:=t' }:=I.un (Un.laid k hp (I.aI.fresh hp)) (I.aI.laid k hp new)
theorem Inv.write (I:Inv X π σ H s) (mu:AO (H x)) (he:e=x\/H e=ϊ (.own x)) (k:∀b u,b≠e->s.heap.get? b=ϊ u->h'.get? b=ϊ u) (uG:∃u,h'.get? e=ϊ u)
 (new:eQ X.prog X.w (upd H x o) h' x o):Inv X π σ (upd H x o) { s with heap:=h',toks:=t' }:=I.un (Un.write mu he k uG) (I.aI.write mu he k uG new)
def Inv.qe (I:Inv X π σ H s) (h:∀p∈aae,s.heap.get? p.1=ϊ p.2/\H p.1=ϋ/\p.1≠X.env.locals/\p.1∉X.fs/\∀v,p.2.data≠.cell v):Inv X aae σ H s :=
 ⟨I.ok,I.os,I.bare,I.base,I.loc,I.cell,I.free,I.je,λp Z=>(ó.mp Z).elim (λz=>I.pin p (ÿ _ z)) (h p),I.aI,I.len⟩
def B5 {N:List Str} (hN:N.Nodup) {i j:Nat} {x:Str} (a:N[i]?=ϊ x) (b:N[j]?=ϊ x):i=j:=by
 obtain⟨Z,e1⟩:=Ô.mp a;obtain⟨Y,e2⟩:=Ô.mp b;exact(List.getElem_inj hN).mp (e1.trans e2.symm)
def Td {M:Model} {A:í} {E:Ç->Â->Prop} {i:Nat} {x:Str} {v:V} {u:Ç} {Q:Unit->Â->Prop} (I:Inv X π σ H s) (hN:X.N.Nodup) (hi:X.N[i]?=ϊ x) (hx:Loc X.env.scope x) (r:RelV v u)
  (h:∀s',Inv X π (σ.set i (ϊ v)) H s'->(∃a,Ĭ a s.heap s'.heap/\(a=X.env.locals\/X.env.cells.lookup x=ϊ a))->Q () s') (hf:X.fn x=ό\/X.env.scope.names.lookup x=ϊ .local:=by first|exact .inl rfl|exact .inr rfl|assumption):á M A (storeName X.env x u) Q E s:=by
 obtain⟨m,S,C⟩:=id I.loc;have xt:(X.env.scope.kind==.class||(X.env.scope.kind==.module&&X.env.locals != X.env.globals))=ύ:=by rw[I.ok.kind];rfl
 have B:i < σ.length:=by rw[I.len];exact(Ô.mp hi).1
 have kF:=I.kF;have tracked:∀{a:Þ} {h':ĺ},(∃o,s.heap.get? a=ϊ o/\H a=ϋ)->Ĭ a s.heap h'->cN X.prog X.w H h':=λ{a h'} ha Z b ob e=>by
  obtain⟨_,_,t⟩:=ha;refine(I.aI b ob e).iG (λc U hc q=>(Z.2 c ?_).trans q) (λ_ q=>q) λ_ _ q=>q;rintro rfl
  rcases hc with rfl|hc
  ·rw[t] at e;cases e
  ·rw[t] at hc;cases hc
 rcases hx with hk|hk
 ·refine wpAny_storeName_local hk S (λh' jR Z=>?_) xt
  obtain⟨oL,_,_,uK,_⟩:=id S;refine h _ ⟨I.ok,I.os,I.bare,⟨λb o e n Y hx=>?_,λb o e n Y hx=>?_,I.base.free,λb o e hx=>?_,I.base.gk,I.base.fy,I.base.gm⟩,⟨_,jR,λj y R e1 e2 P=>?_⟩,λy c e=>?_,I.free,I.je,λp O=>?_,tracked ⟨oL,uK,I.free⟩ Z,by simpa using I.len⟩ ⟨_,Z,.inl rfl⟩
  ·exact(Z.2 b (ã (Ê (Ð e) I.ok.above))).trans (I.base.keep b o e n Y hx)
  ·obtain⟨sl,e1⟩:=I.base.slot b o e n Y hx
   exact⟨sl,(Z.2 b (ã (Ê (Ð e) I.ok.above))).trans e1⟩
  ·obtain⟨L,e1⟩:=I.base.there b o e hx
   exact⟨L,(Z.2 b (ã (Ê (Ð e) I.ok.above))).trans e1⟩
  ·by_cases W:j=i
   ·subst W
    rw[hi] at e1;cases e1;rw[ù B] at e2;cases e2;exact⟨u,r,.inl ⟨hk,by simp⟩⟩
   ·rw[õ (ź W)] at e2
    obtain⟨K,J,q⟩:=C j y R e1 e2 P;refine⟨K,J,?_⟩
    rcases q with ⟨k,e⟩ | ⟨k,c,e,z⟩
    ·refine .inl ⟨k,?_⟩
     have:y≠x:=λe=>W (B5 hN e1 (e ▸ hi));simp[this,e]
    ·exact .inr ⟨k,c,e,z.sameBut Z (kF y c e)⟩
  ·obtain⟨U,z⟩:=I.cell y c e
   exact⟨U,z.sameBut Z (kF y c e)⟩
  ·obtain⟨e,n,ne,G,d⟩:=I.pin p O
   exact⟨(Z.2 p.1 ne).trans e,n,ne,G,d⟩
 ·have F:X.fn x=ό:=by
   rcases hf with z|z
   ·exact z
   ·rw[z] at hk;cases hk
  obtain⟨c,hc⟩:=I.ok.has x (.inl hk);obtain⟨U,z⟩:=I.cell x c hc;refine wpAny_storeName_cell I.ok.kind hk hc z (λh' l Z=>?_);obtain⟨g,f,D⟩:=id z
  refine h { s with heap:=h' } ⟨I.ok,I.os,I.bare,⟨λb o e n Y hx=>?_,λb o e n Y hx=>?_,I.base.free,λb o e hx=>?_,I.base.gk,I.base.fy,I.base.gm⟩,⟨m,S.sameBut Z (ź (kF x c hc)),λj y R e1 e2 P=>?_⟩,λy T e=>?_,I.free,I.je,λp O=>?_,tracked ⟨g,f,I.je x c hc⟩ Z,by simpa using I.len⟩ ⟨c,Z,.inr hc⟩
  ·exact(Z.2 b (ã (Ê (Ð e) (I.ok.uJ x c F hc)))).trans (I.base.keep b o e n Y hx)
  ·obtain⟨sl,e1⟩:=I.base.slot b o e n Y hx
   exact⟨sl,(Z.2 b (ã (Ê (Ð e) (I.ok.uJ x c F hc)))).trans e1⟩
  ·obtain⟨L,e1⟩:=I.base.there b o e hx
   exact⟨L,(Z.2 b (ã (Ê (Ð e) (I.ok.uJ x c F hc)))).trans e1⟩
  ·by_cases W:j=i
   ·subst W
    rw[hi] at e1;cases e1;rw[ù B] at e2;cases e2;exact⟨u,r,.inr ⟨.inl hk,c,hc,l⟩⟩
   ·rw[õ (ź W)] at e2
    obtain⟨K,J,q⟩:=C j y R e1 e2 P;refine⟨K,J,?_⟩
    rcases q with q | ⟨k,T,e,z'⟩
    ·exact .inl q
    ·refine .inr ⟨k,T,e,z'.sameBut Z ?_⟩
     rintro rfl;exact W (B5 hN e1 (I.ok.inj _ _ _ e hc ▸ hi))
  ·by_cases AS:T=c
   ·subst AS;exact⟨_,l⟩
   ·obtain⟨w2,z2⟩:=I.cell y T e
    exact⟨w2,z2.sameBut Z AS⟩
  ·obtain⟨e,n,ne,G,d⟩:=I.pin p O
   refine⟨(Z.2 p.1 ?_).trans e,n,ne,G,d⟩;intro q;rw[q,f] at e;have q':g=p.2:=aeT e;exact d U (by rw[<- q'];exact D)
def oq (I:Inv X π σ H s) (hN:X.N.Nodup) (hi:X.N[i]?=ϊ x) (hx:Loc X.env.scope x) (r:RelV v u)
 (h:∀s',Inv X π (σ.set i (ϊ v)) H s'->Q () s') (hf:X.fn x=ό\/X.env.scope.names.lookup x=ϊ .local:=by first|exact .inl rfl|exact .inr rfl|assumption):á M A (storeName X.env x u) Q E s :=
 Td I hN hi hx r (λs' Z _=>h s' Z) hf
def Inv.wL (I:Inv X π σ H s) (ho:s'.os=s.os) (u:Un (cL X.stack) ch H H' s.heap s'.heap) (aI:cN X.prog X.w H' s'.heap) (hg:aeJ s'.gens)
 (mJ:∀b∈ch,(b∈X.ex\/X.df.heap.objs.size<=b)/\b≠X.env.locals/\(∀x c,X.env.cells.lookup x=ϊ c->c≠b)/\∀p∈X.pn++π,p.1≠b):Inv X π σ H' s':=by
 obtain⟨h',g',d',t',Z⟩:=s';have e:Z=s.os:=ho;subst e;exact I.call (g':=g') (t':=t') (d':=d') u aI hg mJ
end
abbrev XK:=Ç->Option Þ->Hp->Prop
abbrev St:=List (Option V)
abbrev VK:=V->Hp->Prop
abbrev TE:=St->Hp->VK->Prop
abbrev TT:=St->Hp->(Bool->Hp->Prop)->Prop
abbrev TA:=St->Hp->(List V->Hp->Prop)->Prop
structure Ends where
 nx:St->Hp->Prop
 rt:VK
 bk:St->Hp->Prop:=λ_ _=>False
 ct:St->Hp->Prop:=λ_ _=>False
abbrev TS:=Ends->St->Hp->Prop
def EP (X:Cx) (π:List (Þ×Obj)) (σ:St) (Q:VK) (u:Ç) (s':Â):Prop:=∃v Z,Inv X π σ Z s'/\RelV v u/\Q v Z
def TP (X:Cx) (π:List (Þ×Obj)) (σ:St) (Q:Bool->Hp->Prop) (b:Bool) (s':Â):Prop:=∃Z,Inv X π σ Z s'/\Q b Z
def AP (X:Cx) (π:List (Þ×Obj)) (σ:St) (Q:List V->Hp->Prop) (us:List Ç) (s':Â):Prop:=∃Z Y,Inv X π σ Y s'/\Vals Z us/\Q Z Y
def SP (X:Cx) (π:List (Þ×Obj)) (D:Ends) (f:Flow) (s':Â):Prop :=
 match f with
 | .next=>∃ Y Z,Inv X π Y Z s'/\D.nx Y Z
 | .brk=>∃ Y Z,Inv X π Y Z s'/\D.bk Y Z
 | .cont=>∃ Y Z,Inv X π Y Z s'/\D.ct Y Z
 | .ret u=>∃v Y Z,Inv X π Y Z s'/\RelV v u/\D.rt v Z
def PE (X:Cx) (e:ě) (t:TE):Prop :=
 ∀(Z:List (Þ×Obj)) (s:Â) (σ:St) (H:Hp) (Q:VK),Inv X Z σ H s->t σ H Q->á (é X.prog X.w) X.A (ķ e X.env) (EP X Z σ Q) X.xe s
def PT (X:Cx) (e:ě) (t:TT):Prop :=
 ∀(Z:List (Þ×Obj)) (s:Â) (σ:St) (H:Hp) (Q:Bool->Hp->Prop),Inv X Z σ H s->t σ H Q->á (é X.prog X.w) X.A (isTrue e X.env (ķ e X.env)) (TP X Z σ Q) X.xe s
def PW (X:Cx) (e:ě) (t:TT):Prop :=
 ∀(whole:Sem Ç) (Z:List (Þ×Obj)) (s:Â) (σ:St) (H:Hp) (Q:Bool->Hp->Prop),Inv X Z σ H s->t σ H Q->á (é X.prog X.w) X.A (isTrue e X.env whole) (TP X Z σ Q) X.xe s
def PW.pt (h:PW X e t):PT X e t:=h _
def PA (X:Cx) (es:List ě) (t:TA):Prop :=
 ∀(pos:Pos) (Z:List (Þ×Obj)) (s:Â) (σ:St) (H:Hp) (Q:List V->Hp->Prop),Inv X Z σ H s->t σ H Q->á (é X.prog X.w) X.A (spliced (ī pos (Í es X.env))) (AP X Z σ Q) X.xe s
def PS (X:Cx) (st:aeg) (t:TS):Prop :=
 ∀(Z:List (Þ×Obj)) (s:Â) (σ:St) (H:Hp) (D:Ends),Inv X Z σ H s->t D σ H->á (é X.prog X.w) X.A (exec st X.env) (SP X Z D) X.xe s
def dh (X:Cx) (st:List aeg) (t:TS):Prop :=
 ∀(Z:List (Þ×Obj)) (s:Â) (σ:St) (H:Hp) (D:Ends),Inv X Z σ H s->t D σ H->á (é X.prog X.w) X.A (execs st X.env) (SP X Z D) X.xe s
def aO {α:Type} {t:Sem α} {Q Q':α->Â->Prop} {M:Model} {A:í} {E:Ç->Â->Prop} {s:Â} (h:á M A t Q E s) (hQ:∀a s,Q a s->Q' a s):á M A t Q' E s:=ė h hQ λ_ _ x=>x
section
variable {X:Cx}
def abN (i:Nat):TE:=fun σ H Q=>∃v,σ[i]?=ϊ (ϊ v)/\Q v H
def tC (v:V):TE:=λ_ H Q=>Q v H
def Mz {i:Nat} {x:Str} {pos:Pos} (hN:X.N[i]?=ϊ x) (hv:qY X.env.scope x) (hd:(x==("__debug__":Str))=ύ:=by decide) (eD:(x==("__classdict__":Str))=ύ:=by decide):PE X (.Name x pos) (abN i):=by
 intro W s σ H Q I h;obtain⟨v,e,h⟩:=h;obtain⟨m,V,U⟩:=I.loc;obtain⟨u,r,l⟩:=U i x v hN e hv;have fin:EP X W σ Q u s:=⟨v,H,I,r,h⟩
 rcases l with ⟨hk,T⟩ | ⟨hk,c,Z,Y⟩
 ·exact wpAny_Name (wpAny_loadName_local I.ok.kind hk V T fin) hd
 ·rcases hk with hk|hk
  ·exact wpAny_Name (wpAny_loadName_cell I.ok.kind hk Z Y fin) hd
  ·exact wpAny_Name (wpAny_loadName_free I.ok.kind hk Z Y fin eD) hd
def MA {i j pos}:PE X (.Constant (.int i) j pos) (tC (.int i)):=λ_ _ _ H _ I h=>wpAny_Constant_int ⟨.int i,H,I.tok _,⟨_,rfl⟩,h⟩
def D5 {b j pos}:PE X (.Constant (.bool b) j pos) (tC (.bl b)):=λ_ _ _ H _ I h=>Constant_bool ⟨.bl b,H,I,rfl,h⟩
def Yk {j pos}:PE X (.Constant .none j pos) (tC .ar):=λ_ _ _ H _ I h=>Constant_none ⟨.ar,H,I,rfl,h⟩
def Yl {x j pos}:PE X (.Constant (.str x) j pos) (tC (.str x)):=λ_ _ _ H _ I h=>Calls.Constant_str ⟨.str x,H,I.tok _,⟨_,rfl⟩,h⟩
def Gl (X:Cx) (x:Str):Prop:=X.env.kindOf x=ϊ .globalImplicit
def qf {E:Ç->Â->Prop} {π:List (Þ×Obj)} {s:Â} {σ:St} {H:Hp} {x:Str} {u:Ç} {pos:Pos} {Q:Ç->Â->Prop} (I:Inv X π σ H s) (hg:Gl X x) (hm:X.mg x=ϊ u) (h:Q u s)
  (hd:(x==("__debug__":Str))=ύ:=by decide):á (é X.prog X.w) X.A (ķ (.Name x pos) X.env) Q E s :=
 Calls.Name_function_global I.ok.kind hg (Calls.loadGlobal_global (by rw[I.ok.glob];exact I.mod.glob.keeps I.bk) hm h) hd
def ql {E:Ç->Â->Prop} {π:List (Þ×Obj)} {s:Â} {σ:St} {H:Hp} {x:Str} {u:Ç} {pos:Pos} {Q:Ç->Â->Prop} (I:Inv X π σ H s) (hg:Gl X x) (hm:X.mg x=ϋ) (hv:ü x=ϊ u) (h:Q u s)
  (hn:x≠"__name__":=by decide) (hd:(x==("__debug__":Str))=ύ:=by decide):á (é X.prog X.w) X.A (ķ (.Name x pos) X.env) Q E s:=by
 obtain⟨W,Z,Y⟩:=I.mod.blt;exact Calls.Name_function_global I.ok.kind hg (Calls.loadGlobal_builtin (by rw[I.ok.glob];exact I.mod.glob.keeps I.bk) hm (by rw[I.ok.blt];exact Z.keeps I.bk) ((Y x hn).trans hv) h) hd
def CB (hg:Gl X x) (hm:X.mg x=ϊ u) (r:RelV v u) (hd:(x==("__debug__":Str))=ύ:=by decide):PE X (.Name x pos) (tC v) :=
 λ_ _ _ H _ I h=>qf I hg hm ⟨v,H,I,r,h⟩ hd
def Lz {x:Str} {v:V} {u:Ç} {pos:Pos} (hg:Gl X x) (hm:X.mg x=ϋ) (hv:ü x=ϊ u) (r:RelV v u) (hn:x≠"__name__":=by decide) (hd:(x==("__debug__":Str))=ύ:=by decide):PE X (.Name x pos) (tC v) :=
 λ_ _ _ H _ I h=>ql I hg hm hv ⟨v,H,I,r,h⟩ hn hd
variable {a b:ě} {ta tb:TE} {pos:Pos}
variable {tA AU:TT} {rest:List ě}
def jh (t u:TT):TT:=fun σ H Q=>t σ H λc Z=>if c=ό then u σ Z Q else Q ύ Z
def eU (t u:TT):TT:=fun σ H Q=>t σ H λc Z=>if c=ό then Q ό Z else u σ Z Q
def cV (t:TT):TT:=fun σ H Q=>t σ H λc Z=>Q (!c) Z
def WC (ha:PT X a tA):PW X (.BoolOp .And [a] pos) tA:=by
 intro Y Z s σ H Q I h;refine isTrue_and (aO (ha Z s σ H Q I h) λc W e=>?_)
 cases c with
 |true=>exact isTrue_and_nil e
 |false=>exact e
def Ym (ha:PT X a tA):PW X (.BoolOp .Or [a] pos) tA:=by
 intro Y Z s σ H Q I h;refine isTrue_or (aO (ha Z s σ H Q I h) λc W e=>?_)
 cases c with
 |false=>exact isTrue_or_nil e
 |true=>exact e
def Yn (ha:PT X a tA) (hb:PW X (.BoolOp .And (b::rest) pos) AU):PW X (.BoolOp .And (a::b::rest) pos) (jh tA AU):=by
 intro U Z s σ H Q I h;refine isTrue_and (aO (ha Z s σ H _ I h) λc T ⟨Y,W,V⟩=>?_)
 cases c with
 |true=>exact hb U Z T σ Y Q W V
 |false=>exact⟨Y,W,V⟩
def aaf (ha:PT X a tA) (hb:PW X (.BoolOp .Or (b::rest) pos) AU):PW X (.BoolOp .Or (a::b::rest) pos) (eU tA AU):=by
 intro U Z s σ H Q I h;refine isTrue_or (aO (ha Z s σ H _ I h) λc T ⟨Y,W,V⟩=>?_)
 cases c with
 |true=>exact⟨Y,W,V⟩
 |false=>exact hb U Z T σ Y Q W V
def Yo (ha:PT X a tA):PT X (.UnaryOp .Not a pos) (cV tA):=by
 intro Z s σ H Q I h;exact isTrue_not (ha Z s σ H (λc Y=>Q (!c) Y) I h)
def aag (ta tb:TE):TE:=fun σ H Q=>ta σ H λx Z=>∃c,x=.bl c/\if c=ό then tb σ Z Q else Q (.bl ύ) Z
def abO (ta tb:TE):TE:=fun σ H Q=>ta σ H λx Z=>∃c,x=.bl c/\if c=ό then Q (.bl ό) Z else tb σ Z Q
def aah (ta:TE):TE:=fun σ H Q=>ta σ H λx Z=>∃c,x=.bl c/\Q (.bl (!c)) Z
def Yp {op} (h:PE X a t):PE X (.BoolOp op [a] pos) t:=λZ s σ H Q I hw=>BoolOp_one (h Z s σ H Q I hw)
def Yq (ha:PE X a ta) (hb:PE X (.BoolOp .And (b::rest) pos) tb):PE X (.BoolOp .And (a::b::rest) pos) (aag ta tb):=by
 intro Y s σ H Q I h;refine BoolOp_and (aO (ha Y s σ H _ I h) λv U ⟨x,W,V,T,Z⟩=>?_);obtain⟨c,rfl,Z⟩:=Z;cases T;refine Ŝ ?_
 cases c with
 |true=>exact hb Y U σ W Q V Z
 |false=>exact⟨.bl ύ,W,V,rfl,Z⟩
def aai (ha:PE X a ta) (hb:PE X (.BoolOp .Or (b::rest) pos) tb):PE X (.BoolOp .Or (a::b::rest) pos) (abO ta tb):=by
 intro Y s σ H Q I h;refine BoolOp_or (aO (ha Y s σ H _ I h) λv U ⟨x,W,V,T,Z⟩=>?_);obtain⟨c,rfl,Z⟩:=Z;cases T;refine Ŝ ?_
 cases c with
 |false=>exact hb Y U σ W Q V Z
 |true=>exact⟨.bl ό,W,V,rfl,Z⟩
def Yr (ha:PE X a ta):PE X (.UnaryOp .Not a pos) (aah ta):=by
 intro Y s σ H Q I h;refine UnaryOp_ (aO (ha Y s σ H _ I h) λv T ⟨x,W,V,U,Z⟩=>?_);obtain⟨c,rfl,Z⟩:=Z;cases U;exact not_of (Ŝ ⟨.bl (!c),W,V,rfl,Z⟩)
def tIf (t:TT) (ta tb:TE):TE:=fun σ H Q=>t σ H λc Z=>if c=ό then ta σ Z Q else tb σ Z Q
def UO {c:ě} (hc:PT X c tA) (ha:PE X a ta) (hb:PE X b tb):PE X (.IfExp c a b pos) (tIf tA ta tb):=by
 intro Z s σ H Q I h;refine wpAny_IfExp (aO (hc Z s σ H _ I h) λd Y ⟨W,V,U⟩=>?_)
 cases d with
 |true=>exact ha Z Y σ W Q V U
 |false=>exact hb Z Y σ W Q V U
end
def bY (K:đ) (H:Hp) (a:Þ) (xs:List V):Prop :=
 Rd H a (.lst xs) \/
  ∃(o:Obj) (its:Array Ç) (n:Nat),K.lookup a=ϊ o/\o.cls=.type "list"/\o.dict=ϋ/\o.data=.seq its n/\its.size<=Õ/\Vals xs its.toList
def bR (K:đ) (H:Hp) (a:Þ) (xs:List V):Prop :=
 Rd H a (.tup xs) \/
  ∃(o:Obj) (its:Array Ç) (n:Nat),K.lookup a=ϊ o/\o.cls=.type "tuple"/\o.data=.seq its n/\its.size<=Õ/\Vals xs its.toList
def abP:Ç->Option V
 | .none=>ϊ .ar
 | .bool b=>ϊ (.bl b)
 | .int i _=>ϊ (.int i)
 | .str x _=>ϊ (.str x)
 | .bytes b _=>ϊ (.jq b)
 | .float b _=>ϊ (.uF b)
 | .ref a=>ϊ (.ref a)
 | .type n=>ϊ (.ty n)
 |_=>ϋ
def RelV.abs (r:RelV x u):abP u=ϊ x:=by
 cases x with
 |ar=>cases r;rfl
 |bl _=>cases r;rfl
 |int _=>obtain⟨t,rfl⟩:=r;rfl
 |str _=>obtain⟨t,rfl⟩:=r;rfl
 |jq _=>obtain⟨t,rfl⟩:=r;rfl
 |uF _=>obtain⟨t,rfl⟩:=r;rfl
 |ref _=>cases r;rfl
 |ty _=>cases r;rfl
def RelV.inj (r:RelV x u) (q:RelV y u):x=y:=aeT (r.abs.symm.trans q.abs)
theorem Vals.inj:∀{xs ys:List V} {us:List Ç},Vals xs us->Vals ys us->xs=ys
 |_,_,_,.nil,.nil=>rfl
 |_,_,_,.cons r t,.cons Z Y=>by rw[r.inj Z,Vals.inj t Y]
section
variable {X:Cx} {π:List (Þ×Obj)} {σ:St} {H:Hp} {s:Â} {a:Þ} {xs ys:List V}
def bY.of {K:đ} (h:H a=ϊ (.lst xs)):bY K H a xs:=.inl (.inl h)
def bR.of {K:đ} (h:H a=ϊ (.tup xs)):bR K H a xs:=.inl (.inl h)
def Inv.list (I:Inv X π σ H s) (h:bY X.K H a xs):∃its:List Ç,Vals xs its/\PlainL s.heap a its.toArray/\xs.length<=Õ:=by
 rcases h with h | ⟨o,its,n,Z,Y,W,V,U,r⟩
 ·obtain⟨z,its,n,r,e⟩:=h.ok I.aI
  exact⟨its,r,⟨_,n,e,rfl,rfl,rfl⟩,z⟩
 ·refine⟨its.toList,r,⟨o,n,I.fB a o Z,Y,W,by simpa using V⟩,?_⟩
  have e:=r.length;erw[ö] at e;omega
def Inv.tuple (I:Inv X π σ H s) (h:bR X.K H a xs):∃its:List Ç,Vals xs its/\IsTup s.heap a its.toArray/\xs.length<=Õ:=by
 rcases h with h | ⟨o,its,n,Z,Y,W,V,r⟩
 ·obtain⟨z,its,r,p⟩:=h.ok I.aI
  exact⟨its,r,p,z⟩
 ·refine⟨its.toList,r,⟨o,I.fB a o Z,Y,n,by simpa using W⟩,?_⟩
  have e:=r.length;erw[ö] at e;omega
def Inv.KJ (I:Inv X π σ H s) (h:bY X.K H a xs) (h':bY X.K H a ys):xs=ys:=by
 obtain⟨its,r,⟨o,n,e,_,_,d⟩,_⟩:=I.list h;obtain⟨Z,V,⟨T,S,Y,_,_,W⟩,_⟩:=I.list h';rw[e] at Y;cases Y;rw[d] at W
 injection W with U _
 have:its=Z:=by simpa using Ń Array.toList U
 subst this;exact r.inj V
def Inv.J5 (I:Inv X π σ H s) (h:bR X.K H a xs) (h':bR X.K H a ys):xs=ys:=by
 obtain⟨its,r,⟨o,e,_,n,d⟩,_⟩:=I.tuple h;obtain⟨Z,V,⟨T,Y,_,S,W⟩,_⟩:=I.tuple h';rw[e] at Y;cases Y;rw[d] at W
 injection W with U _
 have:its=Z:=by simpa using Ń Array.toList U
 subst this;exact r.inj V
end
abbrev Cx.kz (X:Cx) (E:Ç->Â->Prop):Cx:={ X with xe:=E }
abbrev Cx.nV (X:Cx):Cx:=X.kz λ_ _=>False
theorem Cx.Ok.kz {X:Cx} (ok:X.Ok) (E:Ç->Â->Prop):(X.kz E).Ok :=
 ⟨ok.mod,ok.kind,ok.glob,ok.blt,ok.above,ok.inj,ok.has,ok.uJ,ok.hd,ok.frames,ok.mI,ok.Pl,ok.bs,ok.iX,ok.oT,ok.Ar,ok.iT,ok.lL⟩
def Cx.Ok.nA {X:Cx} {E:Ç->Â->Prop} (ok:(X.kz E).Ok):X.Ok :=
 ⟨ok.mod,ok.kind,ok.glob,ok.blt,ok.above,ok.inj,ok.has,ok.uJ,ok.hd,ok.frames,ok.mI,ok.Pl,ok.bs,ok.iX,ok.oT,ok.Ar,ok.iT,ok.lL⟩
section
variable {X:Cx} {π:List (Þ×Obj)} {σ:St} {H:Hp} {s:Â} {E:Ç->Â->Prop}
theorem Inv.kz (I:Inv X π σ H s) (E:Ç->Â->Prop):Inv (X.kz E) π σ H s:=⟨I.ok.kz E,I.os,I.bare,I.base,I.loc,I.cell,I.free,I.je,I.pin,I.aI,I.len⟩
theorem Inv.nA (I:Inv (X.kz E) π σ H s):Inv X π σ H s:=⟨I.ok.nA,I.os,I.bare,I.base,I.loc,I.cell,I.free,I.je,I.pin,I.aI,I.len⟩
theorem SP.nA (h:SP (X.kz E) π D f s'):SP X π D f s':=by
 cases f with
 |next=>obtain⟨Z,Y,I,q⟩:=h;exact⟨Z,Y,I.nA,q⟩
 |brk=>obtain⟨Z,Y,I,q⟩:=h;exact⟨Z,Y,I.nA,q⟩
 |cont=>obtain⟨Z,Y,I,q⟩:=h;exact⟨Z,Y,I.nA,q⟩
 |ret u=>obtain⟨v,Z,Y,I,r,q⟩:=h;exact⟨v,Z,Y,I.nA,r,q⟩
theorem dh.nV {st:List aeg} {t:TS} (h:dh X.nV st t):dh X st t:=λπ s σ H D I hw =>
 ė (h π s σ H D (I.kz _) hw) (λ_ _ q=>q.nA) λ_ _ z=>č z
end
section
variable {X:Cx} {st:aeg} {rest:List aeg} {t u:TS} {e:ě} {te:TE} {pos:Pos}
def aaj:TS:=λD σ H=>D.nx σ H
def abQ (t u:TS):TS:=λD σ H=>t { D with nx:=u D } σ H
def WD:dh X [] aaj:=λ_ _ σ H _ I h=>wpAny_execs_nil ⟨σ,H,I,h⟩
def UP (h1:PS X st t) (h2:dh X rest u):dh X (st::rest) (abQ t u):=by
 intro Z s σ H D I h
 refine wpAny_execs_cons (aO (h1 Z s σ H { D with nx:=u D } I h) λf Y q=>?_)
 cases f with
 |next =>
  obtain⟨W,V,U,q⟩:=q;exact h2 Z Y W V D U q
 |ret v=>exact q
 |brk=>exact q
 |cont=>exact q
def WE (h1:PS X st t):dh X [st] t:=by
 intro Z s σ H D I h;refine wpAny_execs_cons (aO (h1 Z s σ H D I h) λf Y q=>?_)
 cases f with
 |next=>exact wpAny_execs_nil q
 |ret v=>exact q
 |brk=>exact q
 |cont=>exact q
def Inv.quiet {π:List (Þ×Obj)} {σ:St} {H:Hp} {s:Â} (I:Inv X π σ H s):interactive X.env=ύ:=by simp[interactive,I.ok.kind]
def aak (te:TE):TS:=λD σ H=>te σ H λ_ Z=>D.nx σ Z
def WG (he:PE X e te) (hs:swapsWith e ϋ pos.line X.env=pure ύ:=by rfl):PS X (.Expr e pos) (aak te):=by
 intro Z s σ H D I h;exact wpAny_Expr_any (aO (he Z s σ H _ I h) λv U ⟨x,Y,W,T,V⟩=>⟨σ,Y,W,V⟩) I.quiet hs
def abR (te:TE):TS:=λD σ H=>te σ H D.rt
def Ys (he:PE X e te):PS X (.Return (ϊ e) pos) (abR te):=by
 intro Z s σ H D I h;exact wpAny_Return_some (aO (he Z s σ H _ I h) λv T ⟨x,Y,W,V,U⟩=>⟨x,σ,Y,W,V,U⟩)
def abS (c:TT) (t u:TS):TS:=λD σ H=>c σ H λb Z=>if b=ό then t D σ Z else u D σ Z
def aal {c:ě} {a b:List aeg} {tc:TT} (hc:PT X c tc) (ha:dh X a t) (hb:dh X b u):PS X (.If c a b pos) (abS tc t u):=by
 intro Z s σ H D I h;refine wpAny_If (aO (hc Z s σ H _ I h) λd Y ⟨W,V,U⟩=>?_)
 cases d with
 |true=>exact ha Z Y σ W D V U
 |false=>exact hb Z Y σ W D V U
end
abbrev TG:=V->St->Hp->(St->Hp->Prop)->Prop
abbrev jS:=List V->St->Hp->(St->Hp->Prop)->Prop
def PG (X:Cx) (target:ě) (t:TG):Prop :=
 ∀(Z:List (Þ×Obj)) (s:Â) (σ:St) (H:Hp) (v:V) (u:Ç) (Q:St->Hp->Prop),Inv X Z σ H s->RelV v u->t v σ H Q ->
  á (é X.prog X.w) X.A (aeM target X.env u) (λ_ U=>∃ Y W,Inv X Z Y W U/\Q Y W) X.xe s
def kG (X:Cx) (ts:List ě) (t:jS):Prop :=
 ∀(Z:List (Þ×Obj)) (s:Â) (σ:St) (H:Hp) (Y:List V) (W:List Ç) (Q:St->Hp->Prop),Inv X Z σ H s->Vals Y W->t Y σ H Q ->
  á (é X.prog X.w) X.A (adH ((Ŏ ts X.env).map (·.2)) W) (λ_ S=>∃ U T,Inv X Z U T S/\Q U T) X.xe s
abbrev EZ:=V->V->V->Hp->(Hp->Prop)->Prop
def OK (X:Cx) (t:EZ):Prop :=
 ∀(Z:List (Þ×Obj)) (s:Â) (σ:St) (H:Hp) (o i v:V) (Y W u:Ç) (Q:Hp->Prop),Inv X Z σ H s->RelV o Y->RelV i W->RelV v u->t o i v H Q ->
  á (é X.prog X.w) X.A (setItem Y W u) (λ_ T=>∃U,Inv X Z σ U T/\Q U) X.xe s
section
variable {X:Cx} {pos:Pos}
def qy (i:Nat):TG:=λv σ H Q=>Q (σ.set i (ϊ v)) H
def iD (hN:X.N.Nodup) (hi:X.N[i]?=ϊ x) (hx:Loc X.env.scope x) (hf:X.fn x=ό\/X.env.scope.names.lookup x=ϊ .local:=by first|exact .inl rfl|exact .inr rfl|assumption):PG X (.Name x pos) (qy i):=by
 intro Y s σ H v u Q I r h;exact wpAny_assign_Name (oq I hN hi hx r (λW Z=>⟨_,H,Z,h⟩) hf)
def E1:jS:=λZ σ H Q=>Z=[]/\Q σ H
def D6 (t:TG) (u:jS):jS:=λZ σ H Q=>∃v r,Z=v::r/\t v σ H fun Y X=>u r Y X Q
def vZ:kG X [] E1:=by
 intro Z s σ H Y W Q I r h;obtain⟨e,h⟩:=h;subst e;cases r;exact assignInOrder_nil ⟨σ,H,I,h⟩
def l9 {e:ě} {es:List ě} {t:TG} {u:jS} (h1:PG X e t) (h2:kG X es u)
  (hs:(Ŏ (e::es) X.env).map (·.2)=aeM e X.env::(Ŏ es X.env).map (·.2):=by rfl):kG X (e::es) (D6 t u):=by
 intro Z s σ H R P Q I r h;obtain⟨v,O,e1,h⟩:=h;subst e1
 cases r with
 |cons r Y =>
  rw[hs];refine ŧ (aO (h1 Z s σ H _ _ _ I r h) λ_ W ⟨V,U,T,S⟩=>?_);exact h2 Z W V U _ _ Q T Y S
def E2 (K:đ) (n:Nat) (t:jS):TG:=λv σ H Q=>∃a Z,v=.ref a/\bR K H a Z/\Z.length=n/\t Z σ H Q
def wk {k:Nat} {n:Nat} (hc:X.calm=ό) (h:kG X es t)
 (hn:(Ŏ es X.env).length=n:=by rfl) (jT:(Ŏ es X.env).findIdx? (·.1)=ϋ:=by rfl):PG X (.Tuple es k pos) (E2 X.K n t):=by
 intro Z s σ H v u Q I r hw;obtain⟨a,W,e1,V,U,hw⟩:=hw;subst e1;cases r;obtain⟨its,Y,T,O⟩:=I.tuple V;refine assign_Tuple_tuple (I.ok.hd hc) T (by simp[hn,<- U,Y.length]) jT λS R=>?_
 have P:Inv X Z σ H { s with heap:=S }:=I.kept (t':=s.toks) λb o e=>R b o (ã (Ð e)) e
 exact h Z _ σ H W _ Q P (by simpa using Y) hw
def abT (to ti:TE) (t:EZ):TG:=λv σ H Q=>to σ H λo Z=>ti σ Z λi Y=>t o i v Y λX=>Q σ X
def Yt {o i:ě} {to ti:TE} {t:EZ} (ho:PE X o to) (hi:PE X i ti) (hs:OK X t)
  (ha:∀v,aeM (.Subscript o i pos) X.env v=(do
   let ov <- ade [v] (ķ o X.env)
   let iv <- ade [v,ov] (ķ i X.env)
   adw pos
   ade [v,ov,iv] (setItem ov iv v)
   release [v,ov,iv] []):=by intro _;rfl):PG X (.Subscript o i pos) (abT to ti t):=by
 intro Z s σ H v u Q I r h;rw[ha];refine À (ą (aO (ho Z s σ H _ I h) λov Y ⟨x,W,V,U,T⟩=>?_));refine À (ą (aO (hi Z Y σ W _ V T) λiv S ⟨y,R,P,O,N⟩=>?_));refine À (Ż (À (ą (aO (hs Z S σ R x y v ov iv u _ P U O r N) λ_ J ⟨M,L,K⟩=>?_))));exact wpAny_release ⟨σ,M,L,K⟩
def xu (te:TE) (g:TG):TS:=λD σ H=>te σ H λx Z=>g x σ Z D.nx
def MB {tg e:ě} {te:TE} {g:TG} (he:PE X e te) (hg:PG X tg g) (hs:ac6 [tg] e pos.line X.env=pure ύ:=by rfl) (hw:ac7 [tg] e X.env=pure ϋ:=by rfl)
  (h1:(Ŏ [tg] X.env).map (·.2)=[aeM tg X.env]:=by rfl):PS X (.Assign [tg] e pos) (xu te g):=by
 intro Z s σ H D I h;refine wpAny_Assign_stores (aO (he Z s σ H _ I h) λv Y ⟨x,W,V,U,T⟩=>?_) hs hw;rw[h1];exact aO (hg Z Y σ W x v _ V U T) λ_ S q=>q
def Yu {i:Nat} {x:Str} {e:ě} {te:TE} {pos':Pos} (hN:X.N.Nodup) (hi:X.N[i]?=ϊ x) (hx:Loc X.env.scope x) (he:PE X e te) (hs:swapsWith e (ϊ (.Name x pos')) pos.line X.env=pure ύ:=by rfl) (hf:X.fn x=ό\/X.env.scope.names.lookup x=ϊ .local:=by first|exact .inl rfl|exact .inr rfl|assumption) :
  PS X (.Assign [.Name x pos'] e pos) (xu te (qy i)):=by
 intro Z s σ H D I h;refine wpAny_Assign_Name (aO (he Z s σ H _ I h) λv S ⟨y,Y,W,V,U⟩=>?_) hs;exact oq W hN hi hx V (λR T=>⟨_,Y,T,U⟩) hf
def abU (i j:Nat) (ta:TA):TS:=λD σ H=>ta σ H λZ Y=>∃v w,Z=[v,w]/\D.nx ((σ.set i (ϊ v)).set j (ϊ w)) Y
def Yv {i j:Nat} {x y:Str} {a b:ě} {ta:TA} {px py pt:Pos} {kt k2 iY} (hc:X.calm=ό) (hN:X.N.Nodup) (hi:X.N[i]?=ϊ x) (hj:X.N[j]?=ϊ y) (fC:i≠j)
  (hx:X.env.scope.names.lookup x=ϊ .local) (hy:X.env.scope.names.lookup y=ϊ .local) (ha:PA X [a,b] ta)
  (hw:ac7 [.Tuple [.Name x px,.Name y py] kt pt] (.Tuple [a,b] k2 iY) X.env=pure (ϊ [x,y]))
  (hs:ac6 [.Tuple [.Name x px,.Name y py] kt pt] (.Tuple [a,b] k2 iY) pos.line X.env=pure ύ:=by rfl) :
  PS X (.Assign [.Tuple [.Name x px,.Name y py] kt pt] (.Tuple [a,b] k2 iY) pos) (abU i j ta):=by
 intro U s σ H D I h;rw[exec_Assign_arm];refine À (Ż ?_);rw[hs];refine À (Ã ?_);rw[Ú (by decide)];refine À (Tuple_ (aO (ha _ U s σ H _ I h) λR Z ⟨C,T,Q,P,V⟩=>?_));obtain⟨v,w,e1,V⟩:=V;subst e1;obtain⟨Y,W,rfl,O,M⟩:∃Y W,R=[Y,W]/\RelV v Y/\RelV w W:=by
  cases P with
  |cons p q =>
   cases q with
   |cons L K =>
    cases K;exact⟨_,_,rfl,p,L⟩
 refine û ?_ (by show 2<=Õ;decide)
 have J:Inv X U σ T { Z with heap:=Z.heap.push { cls:=.type "tuple",data:=.seq [Y,W].toArray } }:=Q.kept (t':=Z.toks) λb o e=>Á _ e
 rw[hw];refine À (Ã ?_)
 show á (é X.prog X.w) X.A (do rule "assign.swapped-stores";let items <- unpackItems (.ref Z.heap.objs.size) 2 ϋ;adH [λv=>ad7 X.env y v,λv=>ad7 X.env x v] items.reverse;pure Flow.next) _ _ _
 refine À (Ŵ (À (unpackItems_tuple (items:=#[Y,W]) (I.ok.hd hc) (IsTup.new Z.heap _) λh' G=>?_)));have F:=J.kept (h':=h') (t':=Z.toks) λb o e=>G b o (ã (Ð e)) e
 show á _ _ (adH [λv=>ad7 X.env y v,λv=>ad7 X.env x v] [W,Y] >>= λ_=>pure Flow.next) _ _ _
 refine À (ŧ (ad8 (oq F hN hj (.inl hy) M (λB E=>?_) (.inr hy))));refine ŧ (ad8 (oq E hN hi (.inl hx) O (λz S=>assignInOrder_nil (Ã ?_)) (.inr hx)));rw[List.set_comm _ _ (ź fC)] at S;exact⟨_,T,S,V⟩
end
structure It where
 go:Nat->Hp->Prop
 uM:Nat->Hp->V->Hp->Prop
 stop:Nat->Hp->Prop
def gn (X:Cx) (π:List (Þ×Obj)) (H:Hp) (b:Þ):Prop :=
 H b=ϋ/\b≠X.env.locals/\b∉X.fs/\(b∈X.ex\/X.df.heap.objs.size<=b)/\(∀x c,X.env.cells.lookup x=ϊ c->c≠b)/\∀p∈X.pn++π,p.1≠b
def Inv.ua {X:Cx} {π:List (Þ×Obj)} {σ:St} {H H':Hp} {s:Â} {b:Þ} (I:Inv X π σ H s) (hb:s.heap.objs.size<=b) (hn:H' b=ϋ):gn X π H' b:=by
 refine⟨hn,Ũ (Ê I.lt hb),I.xr hb,.inr (Ý I.sz hb),λx c e z=>?_,λp Z z=>?_⟩
 ·obtain⟨v,q⟩:=I.cell x c e
  exact absurd (Ê q.lt (by rw[z];exact hb)) (ñ _)
 ·exact absurd (Ê (Ð (I.pin p Z).1) (by rw[z];exact hb)) (ñ _)
structure Turn (P:å) (w:ā) (K:đ) (tg:ě) (J:It) (fp:List Þ) (it:Þ) (tn:Nat->ĺ->Prop):Prop where
 mem:it∈fp
 obj:∀i h,tn i h->∀b∈fp,∃o,h.get? b=ϊ o/\∀v,o.data≠.cell v
 keep:∀i h h',tn i h->(∀b∈fp,∀o,h.get? b=ϊ o->h'.get? b=ϊ o)->tn i h'
 item:∀(X:Cx),X.prog=P->X.w=w->X.K=K->X.calm=ό->∀(i:Nat) (π:List (Þ×Obj)) (s:Â) (σ:St) (H:Hp) (E:Ç->Â->Prop),Inv X π σ H s->(∀b∈fp,gn X π H b)->tn i s.heap->J.go i H ->
  á (é P w) X.A (adg (.ref it)) (λr s1=>∃u,r=ϊ u /\
   á (é P w) X.A (œ tg (.ref it) u) (λ_ s2=>∃x H',Inv X π σ H' s2/\RelV x u/\J.uM i H x H'/\tn (i+1) s2.heap/\∀b∈fp,H' b=ϋ) E s1) E s
 done:∀(X:Cx),X.prog=P->X.w=w->X.K=K->X.calm=ό->∀(i:Nat) (π:List (Þ×Obj)) (s:Â) (σ:St) (H:Hp) (E:Ç->Â->Prop),Inv X π σ H s->(∀b∈fp,gn X π H b)->tn i s.heap->J.stop i H ->
  á (é P w) X.A (adg (.ref it)) (λr s1=>r=ϋ/\Inv X π σ H s1) E s
 self:∀(A:í) (i:Nat) (s:Â) (Q:Ç->Â->Prop) (E:Ç->Â->Prop),tn i s.heap->Q (.ref it) s->á (é P w) A (pyIter (.ref it)) Q E s
abbrev TI:=St->Hp->(It->Hp->Prop)->Prop
def Pq (X:Cx) (π:List (Þ×Obj)) (σ:St) (tg:ě) (R:It->Hp->Prop) (ix:Ç) (s2:Â):Prop :=
 ∃(it:Þ) (Y:List Þ) (W:Nat->ĺ->Prop) (J:It) (Z:Hp),ix=.ref it/\Inv X π σ Z s2/\Turn X.prog X.w X.K tg J Y it W/\W 0 s2.heap/\(∀b∈Y,gn X π Z b)/\R J Z
def PI (X:Cx) (tg iter:ě) (wi:TI):Prop :=
 ∀(Z:List (Þ×Obj)) (s:Â) (σ:St) (H:Hp) (R:It->Hp->Prop),Inv X Z σ H s->wi σ H R ->
  á (é X.prog X.w) X.A (ķ iter X.env) (λv Y=>á (é X.prog X.w) X.A (pyIter v) (Pq X Z σ tg R) X.xe Y) X.xe s
def wM (ho:s.heap.get? it=ϊ o) (hc:o.cls=.type n) (hd:o.data=.fields vs)
 (hn:["enumerate","zip","dict_itemiterator","dict_reverseitemiterator","odict_iterator","itertools.zip_longest","itertools.pairwise"].contains n=ύ) (hQ:Q () s):á M A (œ tg (.ref it) u) Q E s:=by
 delta œ
 cases tg<;>first
  |exact Ã hQ
  |(cases u<;>first
    |exact Ã hQ
    |(refine À (wpAny_load ho ?_)
      rw[hc,hd]
      show á M A (if (["enumerate","zip","dict_itemiterator","dict_reverseitemiterator","odict_iterator","itertools.zip_longest","itertools.pairwise"].contains n&&vs[0]?==ϊ (ĸ _))=ό then _ else _) Q E s
      rw[Ú (by intro h;rw[hn,Ŭ] at h;cases h)];exact Ã hQ))
def FL (K:đ) (a:Þ):It :=
 ⟨λi H=>∃Z x,bY K H a Z/\Z[i]?=ϊ x,λi H x Y=>Y=H/\∀Z,bY K H a Z->Z[i]?=ϊ x,λi H=>∃Z,bY K H a Z/\Z.length<=i⟩
def FN (K:đ) (a:Þ):It :=
 ⟨λi H=>∃Z x,bR K H a Z/\Z[i]?=ϊ x,λi H x Y=>Y=H/\∀Z,bR K H a Z->Z[i]?=ϊ x,λi H=>∃Z,bR K H a Z/\Z.length<=i⟩
def xZ (lo:Int) (n:Nat):It:=⟨λi _=>i<n,λi H x Z=>Z=H/\x=.int (lo+i),λi _=>n<=i⟩
def Te {P:å} {w:ā} {K:đ} {tg:ě} (a it:Þ):Turn P w K tg (FL K a) [it] it (λi h=>h.IsListIter it a i) where
 mem:=by simp
 obj:=λi h Z b Y=>by
  have e:b=it:=by simpa using Y
  subst e;obtain⟨o,e,c,d⟩:=Z;exact⟨o,e,λv z=>by rw[d] at z;cases z⟩
 keep:=λi h W Z k=>Z.at λo e=>k it ∅ o e
 item:=by
  intro X T hw S L i J s σ H E I V Z R;subst T hw S;obtain⟨F,x,U,Q⟩:=R;obtain⟨its,O,p,D⟩:=I.list U;obtain⟨u,C,B⟩:=O.get Q;obtain⟨f0,f1,f2,N,f4,M⟩:=V it ∅;refine wpAny_pyNext_list_item Z p.isList (x:=u) (by simpa using C) λW G A=>?_
  have y:Inv X J σ H { s with heap:=W }:=I.turned (t':=s.toks) (λb o Y e=>(A.2 b Y).trans e) f0 f1 N f4 M
  obtain⟨o,e,c,d⟩:=id G
  exact⟨u,rfl,wM (s:={ s with heap:=W }) e c d (by decide) ⟨x,H,y,B,⟨rfl,λq t=>by rw[I.KJ t U];exact Q⟩,G,λb Y=>(V b Y).1⟩⟩
 done:=by
  intro X T hw S L i J s σ H E I V Z R;subst T hw S;obtain⟨F,U,Q⟩:=R;obtain⟨its,O,p,D⟩:=I.list U;obtain⟨f0,f1,f2,N,f4,M⟩:=V it ∅;have n:=O.length;exact wpAny_pyNext_list_end (I.ok.hd L) Z p.isList (by simp;omega) λW r=>⟨rfl,I.turned (t':=s.toks) (λb o Y e=>r b o Y e) f0 f1 N f4 M⟩
 self:=λ_ _ _ _ _ Z h=>wpAny_pyIter_listiter Z h
def RY {P:å} {w:ā} {K:đ} {tg:ě} (a it:Þ):Turn P w K tg (FN K a) [it] it (λi h=>h.IsTupleIter it a i) where
 mem:=by simp
 obj:=λi h Z b Y=>by
  have e:b=it:=by simpa using Y
  subst e;obtain⟨o,e,c,d⟩:=Z;exact⟨o,e,λv z=>by rw[d] at z;cases z⟩
 keep:=λi h W Z k=>Z.at λo e=>k it ∅ o e
 item:=by
  intro X T hw S L i J s σ H E I V Z R;subst T hw S;obtain⟨F,x,U,Q⟩:=R;obtain⟨its,O,p,D⟩:=I.tuple U;obtain⟨u,C,B⟩:=O.get Q;obtain⟨f0,f1,f2,N,f4,M⟩:=V it ∅;refine wpAny_pyNext_tuple_item Z (show s.heap.IsTuple a its.toArray from p) (x:=u) (by simpa using C) λW G A=>?_
  have y:Inv X J σ H { s with heap:=W }:=I.turned (t':=s.toks) (λb o Y e=>(A.2 b Y).trans e) f0 f1 N f4 M
  obtain⟨o,e,c,d⟩:=id G
  exact⟨u,rfl,wM (s:={ s with heap:=W }) e c d (by decide) ⟨x,H,y,B,⟨rfl,λq t=>by rw[I.J5 t U];exact Q⟩,G,λb Y=>(V b Y).1⟩⟩
 done:=by
  intro X T hw S L i J s σ H E I V Z R;subst T hw S;obtain⟨F,U,Q⟩:=R;obtain⟨its,O,p,D⟩:=I.tuple U;obtain⟨f0,f1,f2,N,f4,M⟩:=V it ∅;have n:=O.length;exact wpAny_pyNext_tuple_end (I.ok.hd L) Z (show s.heap.IsTuple a its.toArray from p) (by simp;omega) λW r=>⟨rfl,I.turned (t':=s.toks) (λb o Y e=>r b o Y e) f0 f1 N f4 M⟩
 self:=λ_ _ _ _ _ Z h=>wpAny_pyIter_tupleiter Z h
def RZ {P:å} {w:ā} {K:đ} {tg:ě} (it:Þ) (lo:Int) (n:Nat):Turn P w K tg (xZ lo n) [it] it (λi h=>IsRangeIter h it (lo+(i:Nat)*1) ((n:Int)-(i:Nat)) 1) where
 mem:=by simp
 obj:=λi h Z b Y=>by
  have e:b=it:=by simpa using Y
  subst e;exact⟨_,Z,λv z=>by
   have G:Data.fields _=Data.cell v:=z;cases G⟩
 keep:=λi h V Z k=>k it ∅ _ Z
 item:=by
  intro X T hw S R i M s σ H E I U Z Q;subst T hw S;obtain⟨f0,f1,f2,O,f4,N⟩:=U it ∅;have W:=Walks.range (prog:=X.prog) (w:=X.w) (I.ok.hd R) it lo 1 n;refine W.item i s _ _ Q Z λv V L F J D=>?_;obtain⟨t,rfl⟩:=F
  have C:Inv X M σ H { s with heap:=V,toks:=L }:=I.turned (λb o Y e=>D b o (by simpa using Y) e) f0 f1 O f4 N
  refine⟨_,rfl,wM (s:={ s with heap:=V,toks:=L }) (n:="range_iterator") J rfl rfl (by decide) ⟨.int (lo+i),H,C,⟨t,?_⟩,⟨rfl,rfl⟩,J,λb Y=>(U b Y).1⟩⟩
  rw[Int.mul_one]
 done:=by
  intro X T hw S R i M s σ H E I U Z Q;subst T hw S;obtain⟨f0,f1,f2,O,f4,N⟩:=U it ∅;exact wpAny_pyNext_range_end (I.ok.hd R) Z (by have:n<=i:=Q;omega) λV B=>⟨rfl,I.turned (t':=s.toks) (λb o Y e=>B b o Y e) f0 f1 O f4 N⟩
 self:=λ_ _ _ _ _ Z h=>adU Z h
section
variable {X:Cx} {tg:ě}
def NH (K:đ) (tl:TE):TI:=fun σ H R=>tl σ H λx Z=>∃a,x=.ref a/\(∃Y,bY K Z a Y)/\R (FL K a) Z
def OL (K:đ) (tl:TE):TI:=fun σ H R=>tl σ H λx Z=>∃a,x=.ref a/\(∃Y,bR K Z a Y)/\R (FN K a) Z
def WH {l:ě} {tl:TE} (hl:PE X l tl):PI X tg l (NH X.K tl):=by
 intro W s σ H R I h;refine aO (hl W s σ H _ I h) λv Z ⟨x,V,Y,U,T⟩=>?_;obtain⟨a,e,⟨P,S⟩,q⟩:=T;subst e;cases U;obtain⟨its,O,p,N⟩:=Y.list S;refine ŵ p.isList ?_;refine⟨Z.heap.objs.size,[Z.heap.objs.size],_,_,V,rfl,Y.kept (t':=Z.toks) λb o e=>Á _ e,Te a _,⟨_,Î _ rfl,rfl,rfl⟩,λb Q=>?_,q⟩;have e:b=Z.heap.objs.size:=by simpa using Q
 subst e;exact Y.ua (aeS _) (Y.aI.fresh (aeS _))
def Yw {l:ě} {tl:TE} (hl:PE X l tl):PI X tg l (OL X.K tl):=by
 intro W s σ H R I h;refine aO (hl W s σ H _ I h) λv Z ⟨x,V,Y,U,T⟩=>?_;obtain⟨a,e,⟨P,S⟩,q⟩:=T;subst e;cases U;obtain⟨its,O,p,N⟩:=Y.tuple S;refine wpAny_pyIter_tuple (show Z.heap.IsTuple a its.toArray from p) ?_;refine⟨Z.heap.objs.size,[Z.heap.objs.size],_,_,V,rfl,Y.kept (t':=Z.toks) λb o e=>Á _ e,RY a _,⟨_,Î _ rfl,rfl,rfl⟩,λb Q=>?_,q⟩;have e:b=Z.heap.objs.size:=by simpa using Q
 subst e;exact Y.ua (aeS _) (Y.aI.fresh (aeS _))
def KL {π:List (Þ×Obj)} {σ:St} {H:Hp} {s:Â} {R:It->Hp->Prop} {E:Ç->Â->Prop} {lo hi:Int} {t u v:Tok} {tk:Nat} (I:Inv X π σ H s) (h1:-(2 ^ 62)<=lo) (h2:lo<2 ^ 62) (h3:-(2 ^ 62)<=hi) (h4:hi<2 ^ 62)
  (q:R (xZ lo (hi-lo).toNat) H):á (é X.prog X.w) X.A (pyIter (.ref s.heap.objs.size)) (Pq X π σ tg R) E { s with heap:=s.heap.push { cls:=.type "range",data:=.fields #[.int lo t,.int hi u,.int 1 v] },toks:=tk }:=by
 refine wpAny_pyIter_range (IsRange.new ..) (small_one h1 h2 h3 h4) ?_
 have Z:Inv X π σ H { s with heap:=s.heap.push { cls:=.type "range",data:=.fields #[.int lo t,.int hi u,.int 1 v] },toks:=tk }:=I.kept λb o e=>Á _ e
 refine⟨(s.heap.push { cls:=.type "range",data:=.fields #[.int lo t,.int hi u,.int 1 v] }).objs.size,[(s.heap.push { cls:=.type "range",data:=.fields #[.int lo t,.int hi u,.int 1 v] }).objs.size],_,_,H,rfl,
  Z.kept (t':=tk) λb o e=>Á _ e,RZ _ lo (hi-lo).toNat,?_,λb Y=>?_,q⟩
 ·have e1:lo+((0:Nat):Int)*1=lo:=by simp
  have e2:(((hi-lo).toNat:Nat):Int)-((0:Nat):Int)=adI lo hi 1:=by rw[rangeSize_one];split<;>omega
  show IsRangeIter _ _ (lo+((0:Nat):Int)*1) ((((hi-lo).toNat:Nat):Int)-((0:Nat):Int)) 1;rw[e1,e2];exact Î _ rfl
 ·have e:b=(s.heap.push { cls:=.type "range",data:=.fields #[.int lo t,.int hi u,.int 1 v] }).objs.size:=by simpa using Y
  subst e;exact Z.ua (aeS _) (Z.aI.fresh (aeS _))
def aam (ta:TA):TI:=fun σ H R=>ta σ H λZ Y=>∃j:Int,Z=[.int j]/\-(2 ^ 62)<=j/\j<2 ^ 62/\R (xZ 0 j.toNat) Y
def aan (ta:TA):TI:=fun σ H R=>ta σ H λZ Y=>∃i j:Int,Z=[.int i,.int j]/\(-(2 ^ 62)<=i/\i<2 ^ 62/\-(2 ^ 62)<=j/\j<2 ^ 62)/\R (xZ i (j-i).toNat) Y
def Tf {a:ě} {ta:TA} {p pos:Pos} (hg:Gl X "range") (hm:X.mg "range"=ϋ) (ha:PA X [a] ta) (hs:Í [a] X.env=[(ύ,ķ a X.env)]:=by rfl):PI X tg (.Call (.Name "range" p) [a] [] pos) (aam ta):=by
 intro Y s σ H R I h;refine Call_ (ql I hg hm boot_range (ņ (aO (ha pos Y s σ H _ I h) λS Q ⟨P,O,W,V,Z⟩=>?_) hs rfl));obtain⟨j,e,Z,U,q⟩:=Z;subst e
 cases V with
 |cons r T =>
  cases T;obtain⟨t,rfl⟩:=r;exact call_range_1 (KL W ⋯ ⋯ Z U (by simpa using q))
def Ti {a b:ě} {ta:TA} {p pos:Pos} (hg:Gl X "range") (hm:X.mg "range"=ϋ) (ha:PA X [a,b] ta) (hs:Í [a,b] X.env=[(ύ,ķ a X.env),(ύ,ķ b X.env)]:=by rfl) (fj:Í [b] X.env=[(ύ,ķ b X.env)]:=by rfl) :
  PI X tg (.Call (.Name "range" p) [a,b] [] pos) (aan ta):=by
 intro W s σ H R I h;refine Call_ (ql I hg hm boot_range (ņ (aO (ha pos W s σ H _ I h) λO N ⟨M,L,V,U,Z⟩=>?_) (by rw[hs,fj]) (by rw[fj];rfl)));obtain⟨i,j,e,⟨Z,T,S,Q⟩,q⟩:=Z;subst e
 cases U with
 |cons r Y =>
  cases Y with
  |cons P Y =>
   cases Y;obtain⟨t,rfl⟩:=r;obtain⟨K,rfl⟩:=P;exact call_range_2 (KL V Z T S Q q)
def OM (wi:TI) (g:TG) (tb:TS):TS:=λD σ H=>wi σ H λJ V=>∃W:Nat->Nat->St->Hp->Prop,(∃m,W 0 m σ V)/\∀i m σ H,W i m σ H ->
 (J.stop i H/\D.nx σ H)\/(J.go i H/\∃N:St->Hp->Prop,(∀ Y Z,N Y Z->∃X,X < m/\W (i+1) X Y Z)/\∀x Z,J.uM i H x Z->g x σ Z fun U T=>tb { D with nx:=N,ct:=N,bk:=D.nx } U T)
def ox (fp:List Þ) (h:ĺ):List (Þ×Obj):=fp.filterMap λb=>(h.get? b).map λo=>(b,o)
def rY (hb:b∈fp) (e:h.get? b=ϊ o):(b,o)∈ox fp h:=ξ.mpr ⟨b,hb,by rw[e];rfl⟩
def J6 (hp:p∈ox fp h):p.1∈fp/\h.get? p.1=ϊ p.2:=by
 obtain⟨b,Z,e⟩:=ξ.mp hp
 cases q:h.get? b with
 |none=>rw[q] at e;cases e
 |some o =>
  rw[q] at e;have Y:(b,o)=p:=aeT e;subst Y;exact⟨Z,q⟩
def Inv.pinned {π:List (Þ×Obj)} {σ:St} {H:Hp} {s:Â} {fp:List Þ} (I:Inv X π σ H s) (hf:∀b∈fp,gn X π H b) (ho:∀b∈fp,∃o,s.heap.get? b=ϊ o/\∀v,o.data≠.cell v):Inv X (π++ox fp s.heap) σ H s :=
 I.qe λp W=>(ó.mp W).elim (λz=>I.pin p (Ù _ z)) λz=>by
  obtain⟨Z,e⟩:=J6 z;obtain⟨f0,f1,f2,_⟩:=hf p.1 Z;obtain⟨o,Y,d⟩:=ho p.1 Z;rw[e] at Y;cases Y;exact⟨e,f0,f1,f2,d⟩
def Inv.ni {π pl:List (Þ×Obj)} {σ:St} {H:Hp} {s:Â} (I:Inv X (π++pl) σ H s):Inv X π σ H s:=I.qe λp Z=>I.pin p (Ù _ (ÿ _ Z))
def Yx {iter:ě} {body:List aeg} {wi:TI} {g:TG} {tb:TS} {pos:Pos} (hp:PassesOwn (é X.prog X.w) X.A X.env X.xe) (hc:X.calm=ό) (hi:PI X tg iter wi) (hg:PG X tg g) (hb:dh X body tb)
  (hs:∀x,Ć iter X.env x=pure x:=by intro _;rfl):PS X (.For tg iter body [] pos) (OM wi g tb):=by
 intro R s σ H D I h;refine wpAny_For (aO (hi R s σ H _ I h) λv s1 l=>aO l λix s2 k=>?_) hs;obtain⟨it,Q,C,J,j,e,c,T,a,f2,W,⟨m0,w0⟩,turn⟩:=k;subst e;have stat:∀{U:Hp},(∀b∈Q,U b=ϋ)->∀b∈Q,gn X R U b:=λhn b hb=>⟨hn b hb,(f2 b hb).2⟩;refine codeAny_forLoop_any (λn B=>∃i P U,Inv X R P U B/\C i B.heap/\(∀b∈Q,U b=ϋ)/\W i n P U) ?_ m0 ⟨0,σ,j,c,a,λb hb=>(f2 b hb).1,w0⟩;intro n z zzz;obtain⟨i,O,L,y,t,q,w3⟩:=zzz
 rcases turn i n O L w3 with ⟨stop,qn⟩ | ⟨go,N,hN,step⟩
 ·refine adJ hp (aO (T.done X rfl rfl rfl hc i R z O L X.xe y (stat q) t stop) λr s4 ⟨K,I4⟩=>?_)
  subst K;exact wpAny_execs_nil ⟨O,L,I4,qn⟩
 ·refine adJ hp (aO (T.item X rfl rfl rfl hc i R z O L X.xe y (stat q) t go) λr s4 ⟨u,K,h4⟩=>?_)
  subst K;refine adJ hp (aO h4 λ_ s5 ⟨x,p,I5,r5,y5,G,x6⟩=>?_);have x8:=I5.pinned (stat x6) (T.obj _ _ G);refine adJ hp (aO (hg _ s5 O p x u _ x8 r5 (step x p y5)) λ_ s6 ⟨F,H6,I6,q6⟩=>?_);refine adJ hp (aO (hb _ s6 F H6 _ I6 q6) λf E S=>?_);have again:∀{Z:St} {Y:Hp},Inv X (R++ox Q s5.heap) Z Y E->N Z Y->∃m,m<n/\∃i P U,Inv X R P U E/\C i E.heap/\(∀b∈Q,U b=ϋ)/\W i m P U:=λ{Z Y} V M=>by
   obtain⟨m',hm,w7⟩:=hN Z Y M;refine⟨m',hm,i+1,Z,Y,V.ni,T.keep _ _ _ G λb hb o e=>(V.pin (b,o) (Ù _ (Ù _ (rY hb e)))).1,λb hb=>?_,w7⟩;obtain⟨o,e,d⟩:=T.obj _ _ G b hb;exact(V.pin (b,o) (Ù _ (Ù _ (rY hb e)))).2.1
  cases f with
  |next=>obtain⟨Z,Y,V,M⟩:=S;exact again V M
  |cont=>obtain⟨Z,Y,V,M⟩:=S;exact again V M
  |brk=>obtain⟨Z,Y,V,S⟩:=S;exact⟨Z,Y,V.ni,S⟩
  |ret v=>obtain⟨x7,Z,Y,V,r7,S⟩:=S;exact⟨x7,Z,Y,V.ni,r7,S⟩
end
abbrev R2:=V->V->Hp->VK->Prop
def bM (X:Cx) (f:Ç->Ç->Sem Ç) (r:R2):Prop :=
 ∀(Z:List (Þ×Obj)) (s:Â) (σ:St) (H:Hp) (x y:V) (v u:Ç) (Q:VK),Inv X Z σ H s->RelV x v->RelV y u->r x y H Q ->
  á (é X.prog X.w) X.A (f v u) (EP X Z σ Q) X.xe s
def x9 (X:Cx) (f:Ç->Sem Ç) (r:V->Hp->VK->Prop):Prop :=
 ∀(Z:List (Þ×Obj)) (s:Â) (σ:St) (H:Hp) (x:V) (v:Ç) (Q:VK),Inv X Z σ H s->RelV x v->r x H Q ->
  á (é X.prog X.w) X.A (f v) (EP X Z σ Q) X.xe s
def cU (X:Cx) (f:Ç) (r:List V->Hp->VK->Prop):Prop :=
 ∀(Z:List (Þ×Obj)) (s:Â) (σ:St) (H:Hp) (Y:List V) (W:List Ç) (Q:VK),Inv X Z σ H s->Vals Y W->r Y H Q ->
  á (é X.prog X.w) X.A (call f W) (EP X Z σ Q) X.xe s
def abV (X:Cx) (r:V->Hp->(Bool->Hp->Prop)->Prop):Prop :=
 ∀(Z:List (Þ×Obj)) (s:Â) (σ:St) (H:Hp) (x:V) (v:Ç) (Q:Bool->Hp->Prop),Inv X Z σ H s->RelV x v->r x H Q ->
  á (é X.prog X.w) X.A (truthy v) (TP X Z σ Q) X.xe s
def ya (r:R2) (ta tb:TE):TE:=fun σ H Q=>ta σ H λx Z=>tb σ Z λy Y=>r x y Y Q
def Pt (r:V->Hp->VK->Prop) (ta:TE):TE:=fun σ H Q=>ta σ H λx Z=>r x Z Q
def rI (C:Int->Int->Prop) (g:Int->Int->V):R2:=λx y H Q=>∃i j,x=.int i/\y=.int j/\C i j/\Q (g i j) H
def ra (g:Int->Int->V):R2:=λx y H Q=>∃i j,x=.int i/\y=.int j/\Q (g i j) H
def rU (g:Int->V):V->Hp->VK->Prop:=λx H Q=>∃i,x=.int i/\Q (g i) H
section
variable {X:Cx} {a b c:ě} {ta tb tc:TE} {pos:Pos}
def E3 (ha:PE X a ta) (hb:PE X b tb) {π:List (Þ×Obj)} {s:Â} {σ:St} {H:Hp} {R:V->V->Hp->Prop} (I:Inv X π σ H s)
  (h:ta σ H λx H1=>tb σ H1 λy H2=>R x y H2) {Q:Ç->Â->Prop} {f:Ç->Ç->Sem Ç}
  (hf:∀v u s2 x y H2,Inv X π σ H2 s2->RelV x v->RelV y u->R x y H2->á (é X.prog X.w) X.A (f v u) Q X.xe s2) :
  á (é X.prog X.w) X.A (ķ a X.env) (λv bJ=>á (é X.prog X.w) X.A (ķ b X.env) (λu ue=>á (é X.prog X.w) X.A (f v u) Q X.xe ue) X.xe bJ) X.xe s:=by
 refine aO (ha π s σ H _ I h) λv Z ⟨x,H1,Y,W,U⟩=>?_;refine aO (hb π Z σ H1 _ Y U) λu s2 ⟨y,H2,T,S,P⟩=>?_;exact hf v u s2 x y H2 T W S P
def aao (ho:bM X (Ň op) r) (ha:PE X a ta) (hb:PE X b tb):PE X (.BinOp a op b pos) (ya r ta tb):=by
 intro Z s σ H Q I h;exact wpAny_BinOp (E3 ha hb I h λv u Y x y W V U T q=>ho Z Y σ W x y v u Q V U T q)
def NI {op:UnaryOp} {r:V->Hp->VK->Prop} (ho:x9 X (unaryOp op) r) (ha:PE X a ta):PE X (.UnaryOp op a pos) (Pt r ta):=by
 intro Z s σ H Q I h;exact UnaryOp_ (aO (ha Z s σ H _ I h) λv Y ⟨x,W,U,T,S⟩=>ho Z Y σ W x v Q U T S)
def AV {C:Int->Int->Prop} {g:Int->Int->Int}
 (rule:∀(i j:Int) (t u:Tok) (s:Â) (Q:Ç->Â->Prop) (E:Ç->Â->Prop),C i j->Q (.int (g i j) s.toks) { s with toks:=s.toks+1 }->á (é X.prog X.w) X.A (f (.int i t) (.int j u)) Q E s) :
  bM X f (rI C λi j=>.int (g i j)):=by
 intro U s σ H x y v u Q I Z Y h;obtain⟨i,j,rfl,rfl,W,q⟩:=h;obtain⟨t,rfl⟩:=Z;obtain⟨V,rfl⟩:=Y;exact rule i j t V s _ _ W ⟨.int (g i j),H,I.tok _,⟨_,rfl⟩,q⟩
def ON {g:Int->Int->Int}
 (rule:∀(i j:Int) (t u:Tok) (s:Â) (Q:Ç->Â->Prop) (E:Ç->Â->Prop),Q (.int (g i j) s.toks) { s with toks:=s.toks+1 }->á (é X.prog X.w) X.A (f (.int i t) (.int j u)) Q E s) :
  bM X f (ra λi j=>.int (g i j)):=by
 intro V s σ H x y v u Q I Z Y h;obtain⟨i,j,rfl,rfl,q⟩:=h;obtain⟨t,rfl⟩:=Z;obtain⟨W,rfl⟩:=Y;exact rule i j t W s _ _ ⟨.int (g i j),H,I.tok _,⟨_,rfl⟩,q⟩
def E4 {g:Int->Int->Bool}
 (rule:∀(i j:Int) (t u:Tok) (s:Â) (Q:Ç->Â->Prop) (E:Ç->Â->Prop),Q (.bool (g i j)) s->á (é X.prog X.w) X.A (f (.int i t) (.int j u)) Q E s) :
  bM X f (ra λi j=>.bl (g i j)):=by
 intro V s σ H x y v u Q I Z Y h;obtain⟨i,j,rfl,rfl,q⟩:=h;obtain⟨t,rfl⟩:=Z;obtain⟨W,rfl⟩:=Y;exact rule i j t W s _ _ ⟨.bl (g i j),H,I,rfl,q⟩
def abW (i j:Int):Prop:=0<j/\j<1073741824
def abX (i j:Int):Prop:=0<=j/\j<=1000000/\i.natAbs<2 ^ 64
def As (i j:Int):Prop:=(-(2 ^ 64)<i/\i<2 ^ 64)\/(-(2 ^ 64)<j/\j<2 ^ 64)
def As.ok (h:As i j):IntMulOk i j:=by
 rcases h with ⟨Z,Y⟩ | ⟨Z,Y⟩
 ·exact .of_left (intBits_le_64 Z Y)
 ·exact .of_right (intBits_le_64 Z Y)
def Yy:bM X (Ň .Add) (ra λi j=>.int (i+j)):=ON λ_ _ _ _ _ _ _ q=>add_int q
def Yz:bM X (Ň .Sub) (ra λi j=>.int (i-j)):=ON λ_ _ _ _ _ _ _ q=>sub_int q
def YA:bM X (Ň .Mult) (rI As λi j=>.int (i*j)):=AV λ_ _ _ _ _ _ _ Z q=>mul_int q Z.ok
def WI:bM X (Ň .FloorDiv) (rI abW λi j=>.int (i / j)):=AV λi j _ _ _ _ _ Z q=>by
 have Y:(0:Int)<j:=Z.1;have W:j<1073741824:=Z.2;exact floordiv_int ⋯ (by rw[Int.fdiv_eq_ediv_of_nonneg i ⋯];exact q) (.inl (PyProof.noPylong_small ⋯))
def YB:bM X (Ň .Mod) (rI (λ_ j=>0<j) λi j=>.int (i % j)):=AV λi j _ _ _ _ _ Z q=>by
 have Y:(0:Int)<j:=Z;exact mod_int' ⋯ (by rw[Int.fmod_eq_emod_of_nonneg i ⋯];exact q)
def YC:bM X (Ň .Pow) (rI abX λi j=>.int (i ^ j.toNat)):=AV λ_ _ _ _ _ _ _ Z q=>pow_int_small Z.1 Z.2.1 Z.2.2 q
def unI {g:Int->Int}
 (rule:∀(i:Int) (t:Tok) (s:Â) (Q:Ç->Â->Prop) (E:Ç->Â->Prop),Q (.int (g i) s.toks) { s with toks:=s.toks+1 }->á (é X.prog X.w) X.A (f (.int i t)) Q E s) :
  x9 X f (rU λi=>.int (g i)):=by
 intro Y s σ H x v Q I Z h;obtain⟨i,rfl,q⟩:=h;obtain⟨t,rfl⟩:=Z;exact rule i t s _ _ ⟨.int (g i),H,I.tok _,⟨_,rfl⟩,q⟩
def MC:x9 X (unaryOp .USub) (rU λi=>.int (-i)):=unI λ_ _ _ _ _ q=>neg_int q
end
def E5:V->V->Bool
 | .ar,.ar=>ό | .ar,.int _=>ό | .int _,.ar=>ό | .ar,.bl _=>ό | .bl _,.ar=>ό | .ar,.str _=>ό | .str _,.ar=>ό
 | .int _,.int _=>ό | .bl _,.bl _=>ό | .str _,.str _=>ό | .jq _,.jq _=>ό
 | .int _,.str _=>ό | .str _,.int _=>ό | .bl _,.str _=>ό | .str _,.bl _=>ό
 |_,_=>ύ
def rEq:R2:=λx y H Q=>E5 x y=ό/\Q (.bl (ώ (x=y))) H
def rNe:R2:=λx y H Q=>E5 x y=ό/\Q (.bl (!ώ (x=y))) H
def LA:ώ (V.int i=V.int j)=(i==j):=by
 rw[ĭ];simp
def MD:ώ (V.bl i=V.bl j)=(i==j):=by
 rw[ĭ];simp
def CC:ώ (V.str i=V.str j)=(i==j):=by
 rw[ĭ];simp
def LB:ώ (V.jq i=V.jq j)=(i.toList==j.toList):=by
 rw[ĭ];cases i;cases j;simp
section
variable {X:Cx} {a b c:ě} {ta tb tc:TE} {pos:Pos}
def cY {π:List (Þ×Obj)} {σ:St} {H:Hp} {s:Â} {Q:VK} {k k':Bool} (I:Inv X π σ H s) (q:Q (.bl k) H) (e:k=k'):EP X π σ Q (.bool k') s:=by
 subst e;exact⟨.bl k,H,I,rfl,q⟩
def aap:bM X (ĕ .Eq) rEq:=by
 intro T s σ H x y v u Q I U Z h;obtain⟨V,q⟩:=h
 cases x with
 |ar =>
  cases U
  cases y with
  |ar=>cases Z;exact PySem.EqNone.eq_none_none (cY I q ∅)
  |bl j=>cases Z;exact PySem.EqNone.eq_none_bool (cY I q ∅)
  |int j=>obtain⟨Y,rfl⟩:=Z;exact PySem.EqNone.eq_none_int (cY I q ∅)
  |str j=>obtain⟨Y,rfl⟩:=Z;exact PySem.EqNone.eq_none_str (cY I q ∅)
  |_=>exact absurd (show ύ=ό from V) Ä
 |bl i =>
  cases U
  cases y with
  |ar=>cases Z;exact PySem.EqNone.eq_bool_none (cY I q ∅)
  |bl j=>cases Z;exact eq_bool (cY I q MD)
  |str j=>obtain⟨Y,rfl⟩:=Z;exact PySem.EqMixed.eq_bool_str (cY I q ∅)
  |_=>exact absurd (show ύ=ό from V) Ä
 |int i =>
  obtain⟨t,rfl⟩:=U
  cases y with
  |ar=>cases Z;exact PySem.EqNone.eq_int_none (cY I q ∅)
  |int j=>obtain⟨Y,rfl⟩:=Z;exact eq_int (cY I q LA)
  |str j=>obtain⟨Y,rfl⟩:=Z;exact PySem.EqMixed.eq_int_str (cY I q ∅)
  |_=>exact absurd (show ύ=ό from V) Ä
 |str i =>
  obtain⟨t,rfl⟩:=U
  cases y with
  |ar=>cases Z;exact PySem.EqNone.eq_str_none (cY I q ∅)
  |bl j=>cases Z;exact PySem.EqMixed.eq_str_bool (cY I q ∅)
  |int j=>obtain⟨Y,rfl⟩:=Z;exact PySem.EqMixed.eq_str_int (cY I q ∅)
  |str j=>obtain⟨Y,rfl⟩:=Z;exact eq_str (cY I q CC)
  |_=>exact absurd (show ύ=ό from V) Ä
 |jq i =>
  obtain⟨t,rfl⟩:=U
  cases y with
  |jq j=>obtain⟨Y,rfl⟩:=Z;exact PySem.W.eq_bytes (cY I q LB)
  |_=>exact absurd (show ύ=ό from V) Ä
 |_=>cases y<;>exact absurd (show ύ=ό from V) Ä
def NJ:bM X (ĕ .NotEq) rNe:=by
 intro T s σ H x y v u Q I U Z h;obtain⟨V,q⟩:=h
 cases x with
 |ar =>
  cases U
  cases y with
  |ar=>cases Z;exact PySem.EqNone.ne_none_none (cY I q ∅)
  |bl j=>cases Z;exact PySem.EqNone.ne_none_bool (cY I q ∅)
  |int j=>obtain⟨Y,rfl⟩:=Z;exact PySem.EqNone.ne_none_int (cY I q ∅)
  |str j=>obtain⟨Y,rfl⟩:=Z;exact PySem.EqNone.ne_none_str (cY I q ∅)
  |_=>exact absurd (show ύ=ό from V) Ä
 |bl i =>
  cases U
  cases y with
  |ar=>cases Z;exact PySem.EqNone.ne_bool_none (cY I q ∅)
  |bl j=>cases Z;exact ne_bool (cY I q (Ń not MD))
  |str j=>obtain⟨Y,rfl⟩:=Z;exact PySem.EqMixed.ne_bool_str (cY I q ∅)
  |_=>exact absurd (show ύ=ό from V) Ä
 |int i =>
  obtain⟨t,rfl⟩:=U
  cases y with
  |ar=>cases Z;exact PySem.EqNone.ne_int_none (cY I q ∅)
  |int j=>obtain⟨Y,rfl⟩:=Z;exact ne_int (cY I q (Ń not LA))
  |str j=>obtain⟨Y,rfl⟩:=Z;exact PySem.EqMixed.ne_int_str (cY I q ∅)
  |_=>exact absurd (show ύ=ό from V) Ä
 |str i =>
  obtain⟨t,rfl⟩:=U
  cases y with
  |ar=>cases Z;exact PySem.EqNone.ne_str_none (cY I q ∅)
  |bl j=>cases Z;exact PySem.EqMixed.ne_str_bool (cY I q ∅)
  |int j=>obtain⟨Y,rfl⟩:=Z;exact PySem.EqMixed.ne_str_int (cY I q ∅)
  |str j=>obtain⟨Y,rfl⟩:=Z;exact ne_str (cY I q (Ń not CC))
  |_=>exact absurd (show ύ=ό from V) Ä
 |jq i =>
  obtain⟨t,rfl⟩:=U
  cases y with
  |jq j=>obtain⟨Y,rfl⟩:=Z;exact PySem.W.ne_bytes (cY I q (Ń not LB))
  |_=>exact absurd (show ύ=ό from V) Ä
 |_=>cases y<;>exact absurd (show ύ=ό from V) Ä
def aaq:bM X (ĕ .LtE) (ra λi j=>.bl (ώ (i<=j))):=E4 λ_ _ _ _ _ _ _ q=>le_int q
def aar:bM X (ĕ .Gt) (ra λi j=>.bl (ώ (j<i))):=E4 λ_ _ _ _ _ _ _ q=>gt_int q
def aas:bM X (ĕ .GtE) (ra λi j=>.bl (ώ (j<=i))):=E4 λ_ _ _ _ _ _ _ q=>ge_int q
def Tj:bM X (ĕ .In) (λx y H Q=>∃i j,x=.str i/\y=.str j/\Q (.bl (!(ġ j i 0 j.length 1).isEmpty)) H):=by
 intro W s σ H x y v u Q I Z Y h;obtain⟨i,j,rfl,rfl,q⟩:=h;obtain⟨t,rfl⟩:=Z;obtain⟨V,rfl⟩:=Y;exact in_str (cY I q rfl)
def aZ (b:ě) (h:op≠.In:=by decide) (h2:op≠.NotIn:=by decide):adK op b=ύ:=by
 have e1:(op==CmpOp.In)=ύ:=by cases op<;>first|rfl|exact absurd rfl h
 have e2:(op==CmpOp.NotIn)=ύ:=by cases op<;>first|rfl|exact absurd rfl h2
 cases b<;>simp[adK,e1,e2]
def WJ (ho:bM X (ĕ op) r) (ha:PE X a ta) (hb:PE X b tb) (hm:adK op b=ύ):PE X (.Compare a [op] [b] pos) (ya r ta tb):=by
 intro Z s σ H Q I h;exact wpAny_Compare1 (E3 ha hb I h λv u Y x y W V U T q=>ho Z Y σ W x y v u Q V U T q) hm
def z3 (t:TE):TT:=fun σ H Q=>t σ H λx Z=>∃k,x=.bl k/\Q k Z
def WK {op:CmpOp} {r:R2} (ho:bM X (ĕ op) r) (ha:PE X a ta) (hb:PE X b tb) (hm:adK op b=ύ):PT X (.Compare a [op] [b] pos) (z3 (ya r ta tb)):=by
 intro Z s σ H Q I h;refine wpAny_isTrue_Compare1 (aO (ha Z s σ H _ I h) λv Y ⟨x,W,V,U,T⟩=>aO (hb Z Y σ W _ V T) λu S ⟨y,R,P,O,N⟩ =>
  aO (ho Z S σ R x y v u _ P U O N) λc G ⟨z,M,L,K,k,e,J⟩=>?_) hm
 subst e;cases K;exact Ŝ ⟨M,L,J⟩
def ME (r r':R2) (ta tb tc:TE):TE:=fun σ H Q=>ta σ H λx Y=>tb σ Y λy X=>r x y X λz Z=>∃k,z=.bl k /\
 (if k=ό then tc σ Z λW V=>r' y W V Q else Q (.bl ύ) Z)
def UQ {op uN:CmpOp} {r r':R2} (ho:bM X (ĕ op) r) (iw:bM X (ĕ uN) r') (ha:PE X a ta) (hb:PE X b tb) (hc:PE X c tc)
  (hm:lastMarks [op,uN] [b,c]=ύ:=by with_unfolding_all rfl):PE X (.Compare a [op,uN] [b,c] pos) (ME r r' ta tb tc):=by
 intro Z s σ H Q I h;refine Compare_chain (aO (ha Z s σ H _ I h) λv T ⟨x,S,R,P,O⟩=>chain_link (aO (hb Z T σ S _ R O) λu N ⟨y,M,L,Y,K⟩ =>
  aO (ho Z N σ M x y v u _ L P Y K) λd J ⟨z,W,V,G,k,e,U⟩=>?_)) hm
 subst e;cases G;refine Ŝ ?_
 cases k with
 |false=>exact ite_ff ⟨.bl ύ,W,V,rfl,U⟩
 |true=>exact ite_tt (chain_last (aO (hc Z J σ W _ V U) λF E ⟨D,C,B,A,w⟩=>iw Z E σ C y D u F Q B Y A w))
def qO (K:đ) (x:V) (H:Hp) (k:Bool):Prop :=
 match x with
 | .ar=>k=ύ
 | .bl b=>k=b
 | .int i=>k=(i != 0)
 | .str y=>y.length<=Õ/\k=((y.length:Int) != 0)
 | .jq y=>y.size<=Õ/\k=((y.size:Int) != 0)
 | .ref p=>(∃Z,bY K H p Z/\k=!Z.isEmpty)\/(∃Z,bR K H p Z/\k=!Z.isEmpty)\/∃Y,H p=ϊ (.dK Y)/\k=!Y.isEmpty
 |_=>False
def R0 {κ:Type} {aT:List (κ×V)} {vs:List (κ×Ç)} (r:KV aT vs):(!vs.isEmpty)=!aT.isEmpty:=by
 cases r<;>rfl
def JJ (r:Vals xs its):(!its.toArray.isEmpty)=!xs.isEmpty:=by
 cases r<;>simp
def qm:(Õ:Nat)<2 ^ 63:=by rw[ŭ];decide
def Dq:abV X (λx H Q=>∃k,qO X.K x H k/\Q k H):=by
 intro J s σ H x v Q I U h;obtain⟨k,e,q⟩:=h;have G:=qm;have F:Õ=16777216:=ŭ
 cases x with
 |ar =>
  cases U;have Z:k=ύ:=e;subst Z;exact truthy_none ⟨H,I,q⟩
 |bl b =>
  cases U;have Z:k=b:=e;subst Z;exact Ŝ ⟨H,I,q⟩
 |int i =>
  obtain⟨t,rfl⟩:=U;have Z:k=(i != 0):=e;subst Z;exact PySem.P.truthy_int ⟨H,I,q⟩
 |str y =>
  obtain⟨t,rfl⟩:=U;obtain⟨M,Z⟩:y.length<=Õ/\k=((y.length:Int) != 0):=e;subst Z;exact PySem.P.truthy_str ⋯ ⟨H,I.tok _,q⟩
 |jq y =>
  obtain⟨t,rfl⟩:=U;obtain⟨M,Z⟩:y.size<=Õ/\k=((y.size:Int) != 0):=e;subst Z;exact PySem.W.truthy_bytes ⋯ ⟨H,I.tok _,q⟩
 |ref p =>
  cases U;have Z:(∃V,bY X.K H p V/\k=!V.isEmpty)\/(∃V,bR X.K H p V/\k=!V.isEmpty)\/∃T,H p=ϊ (.dK T)/\k=!T.isEmpty:=e
  rcases Z with ⟨V,S,Z⟩ | ⟨V,S,Z⟩ | ⟨T,S,Z⟩
  ·subst Z
   obtain⟨its,r,O,N⟩:=I.list S;have Y:=r.length;exact wpAny_truthy_list O.isList (by erw[Ü];omega) ⟨H,I.tok _,by rw[JJ r];exact q⟩
  ·subst Z
   obtain⟨its,r,O,N⟩:=I.tuple S;have Y:=r.length;exact truthy_tuple O (by erw[Ü];omega) ⟨H,I.tok _,by rw[JJ r];exact q⟩
  ·subst Z
   obtain⟨N,L,R,r,m⟩:T.length<=Õ/\(p==sysModules)=ύ/\∃R,KV T R/\s.heap.DictOf (zo X.prog X.w) p R:=I.aI p _ S;have Y:T.length=R.length:=Paired.length r;exact wpAny_truthy_dict L m ⋯ ⟨H,I.tok _,by rw[R0 r];exact q⟩
 |_=>exact(show False from e).elim
def UR (ha:PE X a ta) (he:∀whole,isTrue a X.env whole=(do let v <- whole;adw a.pos;ade [v] (truthy v))) :
  PT X a (fun σ H Q=>ta σ H λx H'=>∃k,qO X.K x H' k/\Q k H'):=by
 intro Z s σ H Q I h;exact isTrue_plain (aO (ha Z s σ H _ I h) λv Y ⟨x,W,V,U,T⟩=>Dq Z Y σ W x v Q V U T) (he _)
def R3:bM X (Ň .Add) (λx y H Q=>∃i j,x=.str i/\y=.str j/\i.length+j.length<=Õ/\Q (.str (i++j)) H):=by
 intro U s σ H x y v u Q I Z Y h;obtain⟨i,j,rfl,rfl,W,q⟩:=h;obtain⟨t,rfl⟩:=Z;obtain⟨V,rfl⟩:=Y;exact add_str (λV T=>⟨.str (i++j),H,I.tok _,⟨_,rfl⟩,q⟩) W
def vals1 (r:Vals [x] us):∃u,us=[u]/\RelV x u:=by
 cases r with
 |cons Z Y=>cases Y;exact⟨_,rfl,Z⟩
def vals2 (r:Vals [x,y] us):∃u w',us=[u,w']/\RelV x u/\RelV y w':=by
 cases r with
 |cons Z Y =>
  cases Y with
  |cons X W=>cases W;exact⟨_,_,rfl,Z,X⟩
def Tn (hc:X.calm=ό):cU X (.builtin "max") (λxs H Q=>∃i j,xs=[.int i,.int j]/\Q (.int (if j > i then j else i)) H):=by
 intro Y s σ H xs W Q I r h;obtain⟨i,j,rfl,q⟩:=h;obtain⟨u,V,rfl,⟨t,rfl⟩,⟨U,rfl⟩⟩:=vals2 r;refine max_two_ints (I.ok.hd hc) λT S k=>⟨_,H,I.kept k,?_,q⟩;by_cases Z:j > i
 ·rw[Ñ Z,Ñ Z];exact⟨_,rfl⟩
 ·rw[Ú Z,Ú Z];exact⟨_,rfl⟩
def To (hc:X.calm=ό):cU X (.builtin "min") (λxs H Q=>∃i j,xs=[.int i,.int j]/\Q (.int (if j<i then j else i)) H):=by
 intro Y s σ H xs W Q I r h;obtain⟨i,j,rfl,q⟩:=h;obtain⟨u,V,rfl,⟨t,rfl⟩,⟨U,rfl⟩⟩:=vals2 r;refine min_two_ints (I.ok.hd hc) λT S k=>⟨_,H,I.kept k,?_,q⟩;by_cases Z:j<i
 ·rw[Ñ Z,Ñ Z];exact⟨_,rfl⟩
 ·rw[Ú Z,Ú Z];exact⟨_,rfl⟩
def Q2:cU X (.type "str") (λxs H Q=>∃i,xs=[.int i]/\i.natAbs.log2<1920/\Q (.str (toString i)) H):=by
 intro Y s σ H xs W Q I r h;obtain⟨i,rfl,Z,q⟩:=h;obtain⟨u,rfl,t,rfl⟩:=vals1 r;exact PySem.P.str_of_int Z ⟨.str _,H,I.tok _,⟨_,rfl⟩,q⟩
end
structure qP (h:ĺ) (x dx C:Þ) (mA:Str->Option Ç):Prop where
 obj:h.get? x=ϊ (ş C dx)
 ns:h.Ns1 dx mA
 ne:dx≠x
def Tp {h:ĺ} {dx:Þ} {mA:Str->Option Ç} (n:h.Ns1 dx mA):∃od,h.get? dx=ϊ od/\∀name,adh name od=ϊ (mA name):=by
 obtain⟨o,Y,R,X,W,V,_,U⟩:=n;refine⟨o,X,λname=>?_⟩;have e:=U name;delta nsFind findBy at e;rw[<- Array.find?_toList] at e;delta adh;rw[W];dsimp only;split
 ·rename_i y q
  rw[q] at e;exact Ń ϊ e
 ·rename_i q
  rw[q] at e;have a:Y.toList.any (·.refKey)=ύ:=by
   rw[List.any_eq_false];intro y T;obtain⟨z,t,Z⟩:=V y (Array.mem_toList_iff.mp T);simp[DictEntry.refKey,Z]
  have S:¬ Y.toList.any (·.refKey)=ό:=by rw[a];exact Ä
  rw[Ú S];exact Ń ϊ e
def qP.look (I:qP h x dx C mA):∃od,PySem.W.InstAt h x (ş C dx) C (ϊ od)/\∀name,adh name od=ϊ (mA name) :=
 let ⟨od,Z,Y⟩:=Tp I.ns
 ⟨od,⟨I.obj,rfl,rfl,Z⟩,Y⟩
section
variable {prog:å} {w:ā} {A:í} {E:Ç->Â->Prop} {s:Â} {K:đ} {x dx C f:Þ} {mA:Str->Option Ç} {name:Str} {v:Ç}
def get_map (X:K.In s.heap) (I:qP s.heap x dx C mA) (hg:aeh K C name=ό) (hh:aeE K C=ό)
 (ha:ń K (.ref C) name=ϊ ϋ) (hv:mA name=ϊ v) (AW:PySem.W.handedIn v=ό) (h:Q v { s with toks:=s.toks+1 }) :
  á (é prog w) A (getAttr (.ref x) name expr) Q E s:=by
 obtain⟨Y,J,Z⟩:=I.look;exact PySem.W.get_value X J (aeq hg).1 (PySem.W.findObj_own hh ha rfl (by rw[Z,hv])) AW h
def US (X:K.In s.heap) (I:qP s.heap x dx C mA) (hg:aeh K C name=ό)
 (hf:ń K (.ref C) name=ϊ (ϊ (.ref f))) (ht:PySem.W.isFn K (.ref f)=ό) (hv:mA name=ϋ) (h:Q (.ref f,[.ref x]) s) :
  á (é prog w) A (aeF (.ref x) name pl) Q E s:=by
 obtain⟨Z,J,Y⟩:=I.look;exact PySem.W.method_fn X J (aeq hg).1 (aeq hg).2 hf (beq_iff_eq.mp ht) (by show (adh name Z).map (·.isSome)=ϊ ύ;rw[Y,hv];rfl) h
def WL (X:K.In s.heap) (I:qP s.heap x dx C mA)
 (hs:ń K (.ref C) "__setattr__"=ϊ (ϊ (.builtin "object.__setattr__"))) (hp:PySem.W.plainOver K C=ό) (ht:PySem.W.takerIn K C name=ϊ ϋ) (hh:aeE K C=ό)
 (hw:PySem.Within mA ns) (hsz:ns.length<=Õ)
 (h:∀h',qP h' x dx C (λy=>if y=name then ϊ v else mA y)->Ĭ dx s.heap h'->Q () { s with heap:=h',toks:=s.toks+2 }) :
  á (é prog w) A (setAttr (.ref x) name v) Q E s:=by
 obtain⟨M,J,L⟩:=I.look
 refine PySem.W.set_plain X J hs (PySem.W.osa_open (s:={ s with toks:=s.toks+1 }) (r:=ϋ) X J hp ht λb=>?_)
 obtain⟨cd,S,R⟩:=PySem.W.any_some hh;have P:s.heap.get? x=ϊ ⟨.ref C,ϊ dx,.plain,#[]⟩:=I.obj
 refine À (Ã (À (À (wpAny_loadPart P (À (PySem.W.Looks.here (s:={ s with toks:=s.toks+1 }) (PySem.W.looks_clsIn X S) ?_))))))
 rw[R];refine Ã (a:=ϊ dx) (À (Ã (À ?_)))
 refine wpAny_nsSet1 (s:={ s with toks:=s.toks+1 }) I.ns λh' U T=>?_
 obtain⟨H,O,N,Z,Y,V⟩:=U.count (PySem.Within.cons name v hw);refine À (wpAny_lookBehind Z (by rw[Y];exact pastItsLine_dict (Ý V (by rw[â];omega))) ?_);exact Ã (h _ ⟨(T.2 _ (ź I.ne)).trans I.obj,U,I.ne⟩ T)
def UT (X:K.In s.heap) (hm:PySem.W.makesIn K C=ό)
 (hi:ń K (.ref C) "__init__"=ϊ (ϊ (.ref f))) (hf:PySem.W.typeIn K (.ref f)=ϊ (.type "function"))
 (h:ż (é prog w) (A.under (.builtin "type.__call__" ⟨.ref C::vs,kw⟩)) (.call (.ref f) ⟨.ref (s.heap.objs.size+1)::vs,kw⟩) (PySem.W.InitBack (s.heap.objs.size+1) R)
 { s with heap:=(s.heap.push Ł).push (ş C s.heap.objs.size) }) :
  ż (é prog w) A (.call (.ref C) ⟨vs,kw⟩) R s:=by
 obtain⟨Z,g,d,t,os⟩:=s;exact PySem.W.make_core (PySem.W.makes_of X hm) (PySem.W.looks_findIn X hi) (λself=>PySem.W.bind_fn X self hf) (.inl rfl) h
end
def fL (f:Str) (v:V):List (Str×V)->List (Str×V)
 | []=>[(f,v)]
 |(g,x)::r=>if g=f then (g,v)::r else (g,x)::fL f v r
theorem Jp (f g:Str) (v:V):∀fs:List (Str×V),(fL f v fs).lookup g=if g=f then ϊ v else fs.lookup g
 | []=>by
  show adx g [(f,v)]=_;by_cases h:g=f
  ·have Z:(g==f)=ό:=beq_iff_eq.mpr h
   erw[adx,Z,Ñ h]
  ·have Z:(g==f)=ύ:=beq_eq_false_iff_ne.mpr h
   erw[adx,Z,Ú h]
 |(k,x)::r=>by
  have ih:=Jp f g v r
  rw[show fL f v ((k,x)::r)=(if k=f then (k,v)::r else (k,x)::fL f v r) from rfl]
  by_cases Y:k=f
  ·rw[Ñ Y]
   by_cases h:g=k
   ·have Z:(g==k)=ό:=beq_iff_eq.mpr h
    erw[adx,Z,Ñ (h.trans Y)]
   ·have Z:(g==k)=ύ:=beq_eq_false_iff_ne.mpr h
    erw[adx,Z,Ú (λe:g=f=>h (e.trans Y.symm))]
  ·rw[Ú Y]
   by_cases h:g=k
   ·have Z:(g==k)=ό:=beq_iff_eq.mpr h
    erw[adx,Z,Ú (λe:g=f=>Y (h.symm.trans e))]
   ·have Z:(g==k)=ύ:=beq_eq_false_iff_ne.mpr h
    erw[adx,Z];exact ih
theorem BO (f:Str) (v:V):∀fs:List (Str×V),f∈(fL f v fs).map (·.1)/\∀g,g∈fs.map (·.1)->g∈(fL f v fs).map (·.1)
 | []=>⟨by simp[fL],λg h=>by simp at h⟩
 |(k,x)::r=>by
  obtain⟨Y,X⟩:=BO f v r
  rw[show fL f v ((k,x)::r)=(if k=f then (k,v)::r else (k,x)::fL f v r) from rfl]
  by_cases Z:k=f
  ·rw[Ñ Z]
   subst Z;exact⟨by simp,λg h=>by simpa using h⟩
  ·rw[Ú Z]
   refine⟨?_,λg h=>?_⟩
   ·rw[à]
    exact Ï _ Y
   ·rw[à] at h |-
    rcases Û.mp h with e|e
    ·exact Û.mpr (.inl e)
    ·exact Ï _ (X g e)
theorem Jq (f:Str) (v:V):∀fs:List (Str×V),(fL f v fs).length<=fs.length+1
 | []=>by simp[fL]
 |(k,x)::r=>by
  have ih:=Jq f v r
  rw[show fL f v ((k,x)::r)=(if k=f then (k,v)::r else (k,x)::fL f v r) from rfl]
  by_cases Z:k=f
  ·rw[Ñ Z,â,â];omega
  ·rw[Ú Z,â,â];omega
def mw.some_of (r:mw (ϊ v) o):∃u,o=ϊ u/\RelV v u:=by
 cases o with
 |none=>exact(show False from r).elim
 |some u=>exact⟨u,rfl,r⟩
def mw.none_of (r:mw ϋ o):o=ϋ:=by
 cases o with
 |none=>rfl
 |some u=>exact(show False from r).elim
def Tq (r:RelV v u):PySem.W.handedIn u=ό:=by
 cases v with
 |ar=>cases (show u=Value.none from r);rfl
 |bl b=>cases (show u=ś b from r);rfl
 |int i=>obtain⟨t,e⟩:=(show ∃t,u=aep i t from r);cases e;rfl
 |str x=>obtain⟨t,e⟩:=(show ∃t,u=Value.str x t from r);cases e;rfl
 |jq b=>obtain⟨t,e⟩:=(show ∃t,u=Value.bytes b t from r);cases e;rfl
 |uF b=>obtain⟨t,e⟩:=(show ∃t,u=Value.float b t from r);cases e;rfl
 |ref a=>cases (show u=ō a from r);rfl
 |ty n=>cases (show u=Ť n from r);rfl
section
variable {P:å} {w:ā} {H H':Hp} {h h':ĺ} {a C dx:Þ} {fs fs':List (Str×V)}
def CD (aI:cN P w H h) (e:H a=ϊ (.ins C dx fs)):∃mA,qP h a dx C mA/\(∀f,mw (fs.lookup f) (mA f))/\PySem.Within mA (fs.map (·.1))/\fs.length<=1000/\H dx=ϊ (.own a):=by
 obtain⟨d,z,ne,Z,mA,n,r,q⟩:=(show eQ P w H h a (.ins C dx fs) from aI a _ e);exact⟨mA,⟨Z,n,ne⟩,r,q,z,d⟩
end
structure jU (K:đ) (C:Þ):Prop where
 pg:aeh K C χ=ό
 hd:aeE K C=ό
 po:PySem.W.plainOver K C=ό
 sa:ń K (.ref C) "__setattr__"=ϊ (ϊ (.builtin "object.__setattr__"))
def jU.get {K:đ} {C:Þ} (c:jU K C) (f:Str):aeh K C f=ό:=c.pg
def nB (K:đ) (C:Þ) (f:Str):Prop:=ń K (.ref C) f=ϊ ϋ
def nB.aat {K:đ} {C:Þ} {f:Str} (n:nB K C f):PySem.W.takerIn K C f=ϊ ϋ:=by
 delta PySem.W.takerIn;rw[show ń K (.ref C) f=ϊ ϋ from n];rfl
structure Con (K:đ) (C:Þ) (f:Str) (v:V) (u:Ç):Prop where
 at_:ń K (.ref C) f=ϊ (ϊ u)
 rel:RelV v u
 get:PySem.W.specialIn K u "__get__"=ϊ ϋ
 cp:PySem.W.copiedNames.contains f=ύ
structure Meth (K:đ) (C:Þ) (m:Str) (f:Þ):Prop where
 at_:ń K (.ref C) m=ϊ (ϊ (.ref f))
 fn:PySem.W.isFn K (.ref f)=ό
 kp:Œ K (.ref f)=ό
section
variable {X:Cx} {π:List (Þ×Obj)} {σ:St} {H:Hp} {s:Â} {a C dx:Þ} {fs:List (Str×V)} {f:Str} {v:V} {A:í} {E:Ç->Â->Prop}
def R4 (I:Inv X π σ H s) (e:H a=ϊ (.ins C dx fs)) (c:jU X.K C) (n:nB X.K C f) (l:fs.lookup f=ϊ v)
 (h:∀u s',Inv X π σ H s'->RelV v u->Q u s'):á (é X.prog X.w) A (getAttr (.ref a) f b) Q E s:=by
 obtain⟨Y,O,r,_,_,_⟩:=CD I.aI e;obtain⟨u,W,Z⟩:=mw.some_of (v:=v) (o:=Y f) (by rw[<- l];exact r f);exact get_map I.fB O (c.get f) c.hd n W (Tq Z) (h u _ (I.tok _) Z)
def JK (I:Inv X π σ H s) (e:H a=ϊ (.ins C dx fs)) (c:jU X.K C) (k:Meth X.K C m g) (l:fs.lookup m=ϋ)
 (h:Q (.ref g,[.ref a]) s):á (é X.prog X.w) A (aeF (.ref a) m pl) Q E s:=by
 obtain⟨Z,O,r,_,_,_⟩:=CD I.aI e;have Y:Z m=ϋ:=mw.none_of (by rw[<- l];exact r m);exact US I.fB O (c.get m) k.at_ k.fn Y h
def R5 (I:Inv X π σ H s) (e:H a=ϊ (.ins C dx fs)) (c:jU X.K C) (n:nB X.K C f) (hl:fs.length<1000) (ry:RelV y u)
 (h:∀s',Inv X π σ (upd H a (.ins C dx (fL f y fs))) s'->Q () s'):á (é X.prog X.w) A (setAttr (.ref a) f u) Q E s:=by
 obtain⟨Y,O,r,W,_,V⟩:=CD I.aI e;have U:(fs.map (·.1)).length<=Õ:=by rw[É,ŭ];omega
 refine WL I.fB O c.sa c.po n.aat c.hd W U λT Z S=>h _ ?_
 have hd:∃o,T.get? dx=ϊ o:=let ⟨o,_,_,R,_⟩:=Z.ns;⟨o,R⟩
 refine I.write (x:=a) (e:=dx) (by rw[e];exact True.intro) (.inr V) (λb q P z=>(S.2 b P).trans z) hd ?_;refine⟨by rw[bt O.ne];exact V,?_,O.ne,Z.obj,_,Z.ns,λg=>?_,λg N=>?_⟩
 ·have:=Jq f y fs;omega
 ·show mw ((fL f y fs).lookup g) (if g=f then ϊ u else Y g)
  rw[Jp];by_cases q:g=f
  ·rw[Ñ q,Ñ q];exact ry
  ·rw[Ú q,Ú q];exact r g
 ·by_cases q:g=f
  ·rw[q];exact(BO f y fs).1
  ·refine(BO f y fs).2 g (W g λz=>N ?_)
   show (if g=f then ϊ u else Y g)=ϋ
   rw[Ú q];exact z
def Inv.made (I:Inv X π σ H s):Inv X π σ (upd (upd H s.heap.objs.size (.own (s.heap.objs.size+1))) (s.heap.objs.size+1) (.ins C s.heap.objs.size []))
  { s with heap:=(s.heap.push Ł).push (ş C s.heap.objs.size) }:=by
 have e1:(s.heap.push Ł).get? s.heap.objs.size=ϊ Ł:=Î s.heap rfl;have e2:((s.heap.push Ł).push (ş C s.heap.objs.size)).get? (s.heap.objs.size+1)=ϊ (ş C s.heap.objs.size):=by
  have:=Î (s.heap.push Ł) (o:=ş C s.heap.objs.size) rfl;rwa [Ā] at this
 have Z:(s.heap.push Ł).Ns s.heap.objs.size (λ_=>ϋ):=⟨Ł,#[],_,e1,rfl,(λe Y=>absurd Y ∅),λ_=>rfl⟩;have W:=I.laid (a:=s.heap.objs.size) (o:=.own (s.heap.objs.size+1)) (h':=s.heap.push Ł) (t':=s.toks) (λb u q=>Á _ q) (aeS _) ⟨_,e1⟩;refine W.laid (a:=s.heap.objs.size+1) (o:=.ins C s.heap.objs.size []) (t':=s.toks) (λb u q=>Á _ q) (aeA (Ā _ _)) ?_;have ne:s.heap.objs.size≠s.heap.objs.size+1:=ã (Ŗ _);refine⟨by rw[bt ne,cP],Ē _,ne,e2,λ_=>ϋ,(Heap.Ns1.of_empty Z).at λo q=>Á _ q,λ_=>True.intro,λy V=>absurd rfl V⟩
def WM (hb:İ e f env (ķ e env)=ķ e env)
 (h:á (é prog w) A (ķ e env) (λo bJ=>á (é prog w) A (getAttr o f ό) Q E bJ) E s):á (é prog w) A (ķ (.Attribute e f pos) env) Q E s :=
 Attribute_any_ h (by rw[arm_eval_Attribute,hb])
end
def abZ (K:đ) (ta:TE) (f:Str):TE:=fun σ H Q=>ta σ H λx Z=>∃a C Y fs v,x=.ref a/\Z a=ϊ (.ins C Y fs)/\jU K C/\nB K C f/\fs.lookup f=ϊ v/\Q v Z
def ab0 (K:đ) (ta tv:TE) (f:Str):TS:=λD σ H=>tv σ H λy X=>ta σ X λx Z=>∃a C Y fs,x=.ref a/\Z a=ϊ (.ins C Y fs)/\jU K C/\nB K C f/\fs.length<1000 /\
 D.nx σ (upd Z a (.ins C Y (fL f y fs)))
section
variable {X:Cx} {o e value:ě} {f:Str} {pos pos' xw:Pos} {ta tv:TE}
def YD (he:PE X e ta) (hb:İ e f X.env (ķ e X.env)=ķ e X.env):PE X (.Attribute e f pos) (abZ X.K ta f):=by
 intro Z s σ H Q I h;refine WM hb (aO (he Z s σ H _ I h) λu R ⟨x,Y,W,V,a,C,P,fs,v,ex,U,c,n,l,q⟩=>?_);subst ex;obtain rfl:u=ō a:=V;exact R4 W U c n l λO N T S=>⟨v,Y,T,S,q⟩
def YE (ha:PE X o ta) (hv:PE X value tv) (hs:swapsWith value (ϊ (.Attribute o f pos')) pos.line X.env=pure ύ):PS X (.Assign [.Attribute o f pos'] value pos) (ab0 X.K ta tv f):=by
 intro Z s σ H D I h;refine plainObj_wpAny_Assign_Attribute (aO (hv Z s σ H _ I h) λu Y ⟨y,W,V,U,q⟩=>aO (ha Z Y σ W _ V q) λT N ⟨x,M,S,R,a,C,L,fs,ex,Q,c,n,l,P⟩=>?_) hs;subst ex;obtain rfl:T=ō a:=R;exact R5 S Q c n l U λJ O=>⟨σ,_,O,P⟩
end
section
variable {X:Cx} {π:List (Þ×Obj)} {σ:St} {H:Hp} {s:Â} {A:í} {E:Ç->Â->Prop} {Q:Ç->Â->Prop} {c:Ç} {b:Bool}
inductive lh (K:đ) (H:Hp):V->Ç->Prop where
 |ar:lh K H .ar (.type "NoneType")
 |bl (x:Bool):lh K H (.bl x) (.type "bool")
 |int (i:Int):lh K H (.int i) (.type "int")
 |str (x:Str):lh K H (.str x) (.type "str")
 |uF (x:UInt64):lh K H (.uF x) (.type "float")
 |lst {a:Þ} {xs:List V} (e:H a=ϊ (.lst xs)):lh K H (.ref a) (.type "list")
 |bo {a:Þ} {o:Obj} {xs:List V} (e:H a=ϊ (.bo o (.lst xs))):lh K H (.ref a) (.type "list")
 |tup {a:Þ} {xs:List V} (e:H a=ϊ (.tup xs)):lh K H (.ref a) (.type "tuple")
 |dK {a:Þ} {aT:List (Key×V)} (e:H a=ϊ (.dK aT)):lh K H (.ref a) (.type "dict")
 |dT {a:Þ} {aT:List (List Key×V)} (e:H a=ϊ (.dT aT)):lh K H (.ref a) (.type "dict")
 |ins {a C dx:Þ} {fs:List (Str×V)} (e:H a=ϊ (.ins C dx fs)) (cl:jU K C) (ha:ń K (.ref C) "__class__"=ϊ (ϊ (.builtin "object.__class__")))
   (hn:PySem.W.specialIn K (.builtin "object.__class__") "__get__"=ϊ (ϊ (.builtin "getset_descriptor.__get__"))) (htk:PySem.W.takesIn K (.builtin "object.__class__")=ϊ ό)
   (hm:PySem.W.mroIn K C (.type "object")=ϊ ό):lh K H (.ref a) (.ref C)
end
structure bK (k:Nat) (A:í):Prop where
 hd:A.handled=ϋ
 dp:A.depth+3*k+5<recursionLimit
 un:A.units+16*k+200<cLine
 gd:A.guards=ϊ []
def bK.mono (r:bK k A) (h:j<=k):bK j A:=⟨r.hd,by have:=r.dp;omega,by have:=r.un;omega,r.gd⟩
theorem bK.deeper (r:bK (k+1) A) (env:Env):bK k (A.deeper env) :=
 ⟨r.hd,by have:=r.dp;show A.depth+1+3*k+5 < _;omega,by have:=r.un;show A.units+3+16*k+200 < _;omega,r.gd⟩
def R6 {A:í} {C:Þ} {us:List Ç} {kw:List (Str×Ç)}:(A.under (.builtin "type.__call__" ⟨.ref C::us,kw⟩)).depth=A.depth+1:=by
 first|rfl|simp[Around.under,Code.weight,Code.isCreation,Code.isGuard,Code.isCaller,Code.frames,Code.isFrame,guardIds]
def R7 {A:í} {C:Þ} {us:List Ç} {kw:List (Str×Ç)}:(A.under (.builtin "type.__call__" ⟨.ref C::us,kw⟩)).units=A.units+1:=by
 first|rfl|simp[Around.under,Code.cUnits,Code.frames,Code.isFrame]
def bK.make (r:bK (k+1) A) (C:Þ) (us:List Ç) (kw:List (Str×Ç)):bK k (A.under (.builtin "type.__call__" ⟨.ref C::us,kw⟩)) :=
 ⟨r.hd,by have:=r.dp;rw[R6];omega,by have:=r.un;rw[R7];omega,by first|exact r.gd | (simp[Around.under,Code.isGuard,guardIds];exact r.gd)⟩
theorem bK.depth (r:bK k A):A.depth<recursionLimit:=by have:=r.dp;omega
def E6:TA:=λ_ H Q=>Q [] H
def aau (ta:TE) (tr:TA):TA:=fun σ H Q=>ta σ H λx Z=>tr σ Z λY X=>Q (x::Y) X
section
variable {X:Cx} {e:ě} {es:List ě} {te:TE} {t:TA} {pos:Pos}
def ma:PA X [] E6:=λ_ _ _ _ H Q I h=>Calls.spliced_nil ⟨[],H,I,.nil,h⟩
def kQ (ha:PE X e te) (hr:PA X es t) (hs:Í (e::es) X.env=(ύ,ķ e X.env)::Í es X.env:=by rfl):PA X (e::es) (aau te t):=by
 intro pos Z s σ H Q I h;rw[hs];show á _ _ (spliced ((ύ,ķ e X.env)::ī pos (Í es X.env))) _ _ s;refine adL (aO (ha Z s σ H _ I h) λu Y ⟨x,W,V,U,T⟩=>?_);exact aO (hr pos Z Y σ W _ V T) λM L ⟨S,R,P,O,N⟩=>⟨x::S,R,P,.cons U O,N⟩
def ab1 (t:TA):TE:=fun σ H Q=>t σ H λZ Y=>Z.length<=Õ/\∀p,Y p=ϋ->Q (.ref p) (upd Y p (.tup Z))
def ab2 (t:TA):TE:=fun σ H Q=>t σ H λZ Y=>Z.length<=Õ/\∀p,Y p=ϋ->Q (.ref p) (upd Y p (.lst Z))
def YF {x1} (h:PA X es t):PE X (.Tuple es x1 pos) (ab1 t):=by
 intro V s σ H Q I U;refine wpAny_Tuple_spliced (aO (h pos V s σ H _ I U) λT Z ⟨S,Y,W,r,z,q⟩=>⟨by rw[<- r.length];exact z,?_⟩);have R:Y Z.heap.objs.size=ϋ:=W.aI.fresh (aeS _);refine⟨.ref Z.heap.objs.size,upd Y Z.heap.objs.size (.tup S),W.laid (t':=Z.toks) (λb u e=>Á _ e) (aeS _) ?_,rfl,q _ R⟩;exact⟨z,T,r,⟨_,Î _ rfl,rfl,_,rfl⟩⟩
def MF (h:PA X es t):PE X (.List es pos) (ab2 t):=by
 intro V s σ H Q I U;refine wpAny_List_spliced (aO (h pos V s σ H _ I U) λT Z ⟨S,Y,W,r,z,q⟩=>⟨by rw[<- r.length];exact z,?_⟩);have R:Y Z.heap.objs.size=ϋ:=W.aI.fresh (aeS _);refine⟨.ref Z.heap.objs.size,upd Y Z.heap.objs.size (.lst S),W.laid (t':=Z.toks) (λb u e=>Á _ e) (aeS _) ?_,rfl,q _ R⟩;exact⟨z,T,0,r,Î _ rfl⟩
end
abbrev Sp:=List V->Hp->VK->XK->Prop
abbrev jV:=List Env->Hp->Â->XK->Ç->Â->Prop
structure nO (P:å) (w:ā) (K:đ) (mg:Str->Option Ç) (base:ĺ) (A:í) (outer:List Env) (s:Â) (H:Hp):Prop where
 frames:A.frames=ϊ outer
 mod:Mod K mg base
 bs:∀b o,base.get? b=ϊ o->s.heap.get? b=ϊ o/\H b=ϋ
 iX:base.objs.size<=s.heap.objs.size
 iT:s.heap.FunFrames base outer
 lL:∀b∈cL outer,H b=ϋ
 aI:cN P w H s.heap
 bare:aeJ s.gens
def CE (outer:List Env) (P:å) (w:ā) (H:Hp) (s:Â) (Q:VK) (u:Ç) (s':Â):Prop :=
 ∃v Z,s'.os=s.os/\aeJ s'.gens/\Un (cL outer) [] H Z s.heap s'.heap/\cN P w Z s'.heap/\RelV v u/\Q v Z
def CR (CX:jV) (outer:List Env) (P:å) (w:ā) (H:Hp) (s:Â) (Q:VK) (E:XK) (r:Result) (s':Â):Prop :=
 match r with
 | .ok (.ret u)=>CE outer P w H s Q u s'
 | .ok _=>False
 | .error e=>CX outer H s E e s'
structure cW (P:å) (w:ā) (K:đ) (mg:Str->Option Ç) (base:ĺ) (CX:jV) (k:Nat) (f:Þ) (fd:Ģ) (ps:List Str) (sp:Sp):Prop where
 len:∀vs H Q E,sp vs H Q E->vs.length=ps.length
 run:∀(A:í) (outer:List Env) (s:Â) (H:Hp) (args:Args) (us:List Ç) (vs:List V) (Q:VK) (E:XK),bK k A->nO P w K mg base A outer s H->BindsTo s fd args (ps.zip us)->Vals vs us->sp vs H Q E ->
  ż (é P w) A (.call (.ref f) args) (CR CX outer P w H s Q E) s
def cW.imp {P:å} {w:ā} {K:đ} {mg:Str->Option Ç} {base:ĺ} {CX:jV} {k:Nat} {f:Þ} {fd:Ģ} {ps:List Str} {sp Pu:Sp} (F:cW P w K mg base CX k f fd ps sp)
  (h:∀vs H Q E,Pu vs H Q E->sp vs H Q E):cW P w K mg base CX k f fd ps Pu :=
 ⟨λvs H Q E q=>F.len vs H Q E (h _ _ _ _ q),λA outer s H args Z vs Q E Y X W V U=>F.run A outer s H args Z vs Q E Y X W V (h _ _ _ _ U)⟩
def nO.make {P:å} {w:ā} {K:đ} {mg:Str->Option Ç} {base:ĺ} {A:í} {outer:List Env} {s:Â} {H:Hp} (e:nO P w K mg base A outer s H) (C:Þ) (us:List Ç) (kw:List (Str×Ç)) :
  nO P w K mg base (A.under (.builtin "type.__call__" ⟨.ref C::us,kw⟩)) outer s H:=⟨by first|exact e.frames | (simpa [Around.under,Code.envs,Code.isFrame,pushEnvs] using e.frames),e.mod,e.bs,e.iX,e.iT,e.lL,e.aI,e.bare⟩
section
variable {X:Cx} {π:List (Þ×Obj)} {σ:St} {H:Hp} {s s':Â}
def Inv.kA (I:Inv X π σ H s):nO X.prog X.w X.K X.mg X.base X.A X.stack s H :=
 ⟨I.ok.frames,I.ok.mod,I.bs,Ý I.ok.iX I.sz,I.stack,I.vY,I.aI,I.bare⟩
def Inv.after (I:Inv X π σ H s) (h:CE X.stack X.prog X.w H s Q u s'):EP X π σ Q u s':=by
 obtain⟨v,Z,os,bare,un,Y,r,q⟩:=h;obtain⟨W,g,d,t,V⟩:=s';obtain rfl:V=s.os:=os;exact⟨v,Z,I.call (h':=W) (g':=g) (d':=d) (t':=t) (ch:=[]) un Y bare (λb z=>absurd z ∅),r,q⟩
end
def NK (sp:Sp) (ak:List V) (E:XK) (t:TA):TE:=fun σ H Q=>t σ H λZ Y=>sp (Z++ak) Y Q E
def z9 (C:Þ) (m:Str) (sp:Sp) (ak:List V) (E:XK) (ta:TE) (t:TA):TE:=fun σ H Q=>ta σ H λx Z=>∃a Y fs,x=.ref a/\Z a=ϊ (.ins C Y fs)/\fs.lookup m=ϋ /\
 t σ Z λX W=>sp (x::(X++ak)) W Q E
def aav (C:Þ) (sp:Sp) (ak:List V) (E:XK) (t:TA):TE:=fun σ H Q=>t σ H λX Y=>∀x Z,Y x=ϋ->Y Z=ϋ->Z≠x ->
 sp (.ref x::(X++ak)) (upd (upd Y Z (.own x)) x (.ins C Z [])) (λv W=>v=.ar/\Q (.ref x) W) E
def Binds (K:đ) (fd:Ģ) (ps:List Str) (ds:List Ç):Prop :=
 ∀(s:Â) (Z:List Ç),K.In s.heap->(Z++ds).length=ps.length->BindsTo s fd ⟨Z,[]⟩ (ps.zip (Z++ds))
def Binds.all {K:đ} {fd:Ģ} {ps:List Str} (h:∀us:List Ç,us.length=ps.length->bindArgs fd ⟨us,[]⟩=pure (ps.zip us)):Binds K fd ps []:=λs us _ Z=>by
 rw[Ħ] at Z |-;exact .of_eq (h us Z)
def Passes (CX:jV) (X:Cx) (E:XK):Prop:=∀(Y:List (Þ×Obj)) (σ:St) (H:Hp) (s:Â) (e:Ç) (Z:Â),Inv X Y σ H s->CX X.stack H s E e Z->X.xe e Z
section
variable {X:Cx} {CX:jV} {k:Nat} {f C:Þ} {fd:Ģ} {ps:List Str} {sp:Sp} {ak:List V} {ds:List Ç} {E:XK} {x m:Str} {p pos apos:Pos} {e o:ě} {es:List ě} {ta:TE} {t:TA}
def Dr {π:List (Þ×Obj)} {σ:St} {H:Hp} {s:Â} {Q:VK} {us:List Ç} {vs:List V} (F:cW X.prog X.w X.K X.mg X.base CX k f fd ps sp) (hr:bK k X.A) (hb:Binds X.K fd ps ds) (hd:Vals ak ds) (hx:Passes CX X E)
  (I:Inv X π σ H s) (r:Vals vs us) (h:sp (vs++ak) H Q E):á (é X.prog X.w) X.A (call (.ref f) us) (EP X π σ Q) X.xe s:=by
 have Y:Vals (vs++ak) (us++ds):=r.append hd;have W:(us++ds).length=ps.length:=by rw[<- Y.length];exact F.len _ _ _ _ h
 refine adC (ŋ (F.run X.A X.stack s H ⟨us,[]⟩ (us++ds) (vs++ak) Q E hr I.kA (hb s us I.fB W) Y h) λr U Z=>?_)
 cases r with
 |error e=>exact hx π σ H s e U I Z
 |ok T =>
  cases T with
  |ret u=>exact I.after Z
  |next=>exact č Z
  |brk=>exact č Z
  |cont=>exact č Z
def LC (F:cW X.prog X.w X.K X.mg X.base CX k f fd ps sp) (hr:bK k X.A) (hg:Gl X x) (hm:X.mg x=ϊ (.ref f)) (hk:Œ X.K (.ref f)=ό) (hb:Binds X.K fd ps ds) (hd:Vals ak ds) (hx:Passes CX X E)
  (ha:PA X (e::es) t) (dR:(x==("__debug__":Str))=ύ:=by decide) (he:Í (e::es) X.env=(ύ,ķ e X.env)::Í es X.env:=by rfl) (bN:(ī pos (Í es X.env)).any (·.1)=ύ:=by rfl) :
  PE X (.Call (.Name x p) (e::es) [] pos) (NK sp ak E t):=by
 intro Y s σ H Q I h;refine ũ (qf I hg hm ?_ dR);refine adM (h₀:=X.base) I.ok.mod.kE hk (aO (ha pos Y s σ H _ I h) λW V ⟨U,T,Z,r,q⟩=>⟨Z.fB,?_⟩) he bN;exact Dr F hr hb hd hx Z r q
def LD {pl:Sem Bool} (he:PE X o ta) (c:jU X.K C) (hm:Meth X.K C m f) (F:cW X.prog X.w X.K X.mg X.base CX k f fd ps sp) (hr:bK k X.A) (hb:Binds X.K fd ps ds) (hd:Vals ak ds) (hx:Passes CX X E) (ha:PA X (e::es) t)
  (jT:Í (e::es) X.env=(ύ,ķ e X.env)::Í es X.env:=by rfl) (bN:(ī pos (Í es X.env)).any (·.1)=ύ:=by rfl)
  (ht:ķ (.Call (.Attribute o m apos) (e::es) [] pos) X.env=(do
   let ov <- ķ o X.env
   adw apos.atName
   let (f,first) <- ade [ov] (aeF ov m pl)
   callWith pos f first (ī pos (Í (e::es) X.env)) (adq pos (ŗ [] X.env))):=by rfl) :
  PE X (.Call (.Attribute o m apos) (e::es) [] pos) (z9 C m sp ak E ta t):=by
 intro Z s σ H Q I h;refine PySem.W.methodCall_KW (pl:=pl) (aO (he Z s σ H _ I h) λu U ⟨x,T,Y,S,a,O,fs,ex,R,l,q⟩=>?_) ht;subst ex;obtain rfl:u=ō a:=S;refine JK Y R c hm l ?_
 refine adM (first:=[.ref a]) (h₀:=X.base) I.ok.mod.kE hm.kp (aO (ha pos Z U σ T _ Y q) λus N ⟨vs,M,V,r,P⟩=>⟨V.fB,?_⟩) jT bN
 exact Dr (us:=.ref a::us) (vs:=.ref a::vs) F hr hb hd hx V (.cons rfl r) P
def UU (he:PE X o ta) (c:jU X.K C) (hm:Meth X.K C m f) (F:cW X.prog X.w X.K X.mg X.base CX k f fd ps sp) (hr:bK k X.A) (hb:Binds X.K fd ps ds) (hd:Vals ak ds) (hx:Passes CX X E)
 (ht:ķ (.Call (.Attribute o m apos) [] [] pos) X.env=(do
   let ov <- ķ o X.env
   adw apos.atName
   let (f,first) <- ade [ov] (aeF ov m pl)
   callWith pos f first (ī pos (Í [] X.env)) (adq pos (ŗ [] X.env))):=by rfl) :
  PE X (.Call (.Attribute o m apos) [] [] pos) (z9 C m sp ak E ta E6):=by
 intro Y s σ H Q I h;refine PySem.W.methodCall_KW (pl:=pl) (aO (he Y s σ H _ I h) λu T ⟨x,S,Z,V,a,R,fs,ex,U,l,q⟩=>?_) ht;subst ex;obtain rfl:u=ō a:=V;refine JK Z U c hm l ?_
 exact PySem.W.callWith_K0 (first:=[.ref a]) Z.fB hm.kp (Dr (us:=[.ref a]) (vs:=[.ref a]) F hr hb hd hx Z (.cons rfl .nil) q)
structure Mk (K:đ) (C f:Þ):Prop where
 makes:PySem.W.makesIn K C=ό
 init:ń K (.ref C) "__init__"=ϊ (ϊ (.ref f))
 fn:PySem.W.isFn K (.ref f)=ό
 kp:Œ K (.ref C)=ό
def UW {π:List (Þ×Obj)} {σ:St} {H:Hp} {s:Â} {Q:VK} {us:List Ç} {vs:List V} (M:Mk X.K C f) (F:cW X.prog X.w X.K X.mg X.base CX k f fd ps sp) (hr:bK (k+1) X.A) (hb:Binds X.K fd ps ds) (hd:Vals ak ds)
  (hx:Passes CX X E) (I:Inv X π σ H s) (r:Vals vs us)
  (h:∀x dx,H x=ϋ->H dx=ϋ->dx≠x->sp (.ref x::(vs++ak)) (upd (upd H dx (.own x)) x (.ins C dx [])) (λv H2=>v=.ar/\Q (.ref x) H2) E) :
  á (é X.prog X.w) X.A (call (.ref C) us) (EP X π σ Q) X.xe s:=by
 have W:=h (s.heap.objs.size+1) s.heap.objs.size (I.aI.fresh (ady _)) (I.aI.fresh (aeS _)) (ã (Ŗ _));have Y:=Inv.made (C:=C) I;have U:Vals (V.ref (s.heap.objs.size+1)::(vs++ak)) (ō (s.heap.objs.size+1)::(us++ds)):=.cons rfl (r.append hd);have T:(ō (s.heap.objs.size+1)::us++ds).length=ps.length:=by
  have e:=U.length;rw[F.len _ _ _ _ W] at e;exact e.symm
 refine adC (UT (f:=f) I.fB M.makes M.init (beq_iff_eq.mp M.fn) (ŋ (F.run _ X.stack _ _ ⟨ō (s.heap.objs.size+1)::us,[]⟩ (ō (s.heap.objs.size+1)::(us++ds)) _ _ E (hr.make C us [])
  (Y.kA.make C us []) (hb _ (ō (s.heap.objs.size+1)::us) Y.fB T) U W) λr S Z=>?_))
 cases r with
 |error e=>exact hx π σ _ _ e S Y Z
 |ok R =>
  cases R with
  |ret u =>
   obtain⟨v,P,O,N,ev,L⟩:=Y.after Z;subst ev;exact⟨N,⟨V.ref (s.heap.objs.size+1),P,O,rfl,L⟩⟩
  |next=>exact č Z
  |brk=>exact č Z
  |cont=>exact č Z
def UX (M:Mk X.K C f) (F:cW X.prog X.w X.K X.mg X.base CX k f fd ps sp) (hr:bK (k+1) X.A) (hg:Gl X x) (hm:X.mg x=ϊ (.ref C)) (hb:Binds X.K fd ps ds) (hd:Vals ak ds) (hx:Passes CX X E)
  (dR:(x==("__debug__":Str))=ύ:=by decide):PE X (.Call (.Name x p) [] [] pos) (aav C sp ak E E6):=by
 intro Z s σ H Q I h;refine ũ (qf I hg hm ?_ dR);exact PySem.W.callWith_K0 I.fB M.kp (UW (us:=[]) M F hr hb hd hx I .nil h)
end
section
variable {X:Cx} {CX:jV} {k:Nat} {f C:Þ} {fd:Ģ} {ps ks:List Str} {sp:Sp} {E:XK} {x m:Str} {p pos apos ab3:Pos} {e o:ě} {es:List ě} {kws:List adf} {te ta:TE} {t tk:TA} {nm:Option Str}
structure afD (K:đ) (fd:Ģ) (ps ks:List Str) (g:List Ç->List Ç->List Ç) (gV:List V->List V->List V):Prop where
 to:∀(s:Â) (us ws:List Ç),K.In s.heap->(g us ws).length=ps.length->BindsTo s fd ⟨us,ks.zip ws⟩ (ps.zip (g us ws))
 rel:∀{vs:List V} {us:List Ç} {zs:List V} {ws:List Ç},Vals vs us->Vals zs ws->Vals (gV vs zs) (g us ws)
variable {g:List Ç->List Ç->List Ç} {gV:List V->List V->List V}
end
structure sI (N P:List Str) (sc:ac5):Prop where
 kind:sc.kind=.function
 co:sc.isCoroutine=ύ
 gen:sc.isGenerator=ύ
 nd:N.Nodup
 pre:N.take P.length=P
 par:∀x∈P,sc.names.lookup x=ϊ .local\/sc.names.lookup x=ϊ .cell
 YG:∀y∈sc.names,y.2≠.free
theorem J8 {kindOf:Str->Option Ű} {x:Str}:∀{binds:List (Str×Ç)} {m:Str->Option Ç},(∀v,(x,v)∉binds)->bindL kindOf binds m x=m x
 | [],_,_=>rfl
 |(n,v)::r,m,h=>by
  delta bindL;rw[J8 λw hw=>h w (Ï _ hw)];split
  ·have:x≠n:=by rintro rfl;exact h v ß
   simp[this]
  ·rfl
theorem J9 {kindOf:Str->Option Ű} {x:Str}:∀{binds:List (Str×Ç)} {m:Str->Option Ç},(∀v,(x,v)∉binds)->bindC kindOf binds m x=m x
 | [],_,_=>rfl
 |(n,v)::r,m,h=>by
  delta bindC;rw[J9 λw hw=>h w (Ï _ hw)];split
  ·rfl
  ·have:x≠n:=by rintro rfl;exact h v ß
   simp[this]
theorem Ka {kindOf:Str->Option Ű} {x:Str} {v:Ç}:∀{P:List Str} {vs:List Ç} {i:Nat} {m:Str->Option Ç},P.Nodup->P[i]?=ϊ x->vs[i]?=ϊ v->kindOf x=ϊ .local ->
  bindL kindOf (P.zip vs) m x=ϊ v
 | [],_,_,_,_,h,_,_=>by simp at h
 |_::_,[],_,_,_,_,h,_=>by simp at h
 |p::P,w::vs,0,m,X,Z,Y,W=>by
  simp at Z Y;subst Z;subst Y;show bindL kindOf ((p,w)::P.zip vs) m p=_;delta bindL;rw[J8 λv V=>(ψ.mp X).1 (aer V).1,Ñ W];simp
 |p::P,w::vs,i+1,m,X,Z,Y,W=>by
  show bindL kindOf ((p,w)::P.zip vs) m x=_;delta bindL;exact Ka (i:=i) (ψ.mp X).2 (by simpa using Z) (by simpa using Y) W
theorem Kb {kindOf:Str->Option Ű} {x:Str} {v:Ç}:∀{P:List Str} {vs:List Ç} {i:Nat} {m:Str->Option Ç},P.Nodup->P[i]?=ϊ x->vs[i]?=ϊ v->kindOf x≠ϊ .local ->
  bindC kindOf (P.zip vs) m x=ϊ v
 | [],_,_,_,_,h,_,_=>by simp at h
 |_::_,[],_,_,_,_,h,_=>by simp at h
 |p::P,w::vs,0,m,X,Z,Y,W=>by
  simp at Z Y;subst Z;subst Y;show bindC kindOf ((p,w)::P.zip vs) m p=_;delta bindC;rw[J9 λv V=>(ψ.mp X).1 (aer V).1,Ú W];simp
 |p::P,w::vs,i+1,m,X,Z,Y,W=>by
  show bindC kindOf ((p,w)::P.zip vs) m x=_;delta bindC;exact Kb (i:=i) (ψ.mp X).2 (by simpa using Z) (by simpa using Y) W
def start (N:List Str) (vs:List V):St:=vs.map ϊ++Ö (N.length-vs.length) ϋ
def ie (CX:jV) (P:å) (w:ā) (K:đ) (mg:Str->Option Ç) (base:ĺ) (N:List Str) (qual:Str) (scope:ac5) (f:Þ) (cd:Ç) (A:í) (outer:List Env) (s:Â) (H:Hp) (E:XK):Cx where
 prog:=P
 w:=w
 K:=K
 mg:=mg
 base:=base
 A:=A.deeper (aeN qual scope s.heap.objs.size f cd)
 N:=N
 df:=s
 mx:=H
 env:=aeN qual scope s.heap.objs.size f cd
 outer:=outer
 stack:=aeN qual scope s.heap.objs.size f cd::outer
 ex:=[]
 calm:=ό
 fn:=λ_=>ό
 pn:=[]
 xe:=λe Y=>á (é P w) (A.deeper (aeN qual scope s.heap.objs.size f cd)) (leaving (aeN qual scope s.heap.objs.size f cd) e) (λ_ Z=>CX outer H s E e Z) (λX Z=>CX outer H s E X Z) Y
def KN {sc:ac5} {n:Nat} {x:Str} (h:sc.names.lookup x=ϊ .cell):∃c,(adi n sc.names []).lookup x=ϊ c:=by
 have q:=μ sc.names n [] (.inl h);exact adD.mp q
def Kc {CX:jV} {P:å} {w:ā} {K:đ} {mg:Str->Option Ç} {base:ĺ} {N ps:List Str} {qual:Str} {scope:ac5} {f:Þ} {cd:Ç} {A:í} {outer:List Env} {s s1:Â} {H:Hp} {E:XK} {us:List Ç} {vs:List V}
  (S:sI N ps scope) (hd:A.handled=ϋ) (e0:nO P w K mg base A outer s H) (hl:vs.length=ps.length) (r:Vals vs us)
  (x:InCallC s s.heap.objs.size (bindL (aeN qual scope s.heap.objs.size f cd).kindOf (ps.zip us) λ_=>ϋ) (adi (s.heap.objs.size+1) scope.names []) (bindC (aeN qual scope s.heap.objs.size f cd).kindOf (ps.zip us) λ_=>ϋ) s1) :
  Inv (ie CX P w K mg base N qual scope f cd A outer s H E) [] (start N vs) H s1:=by
 have L:ps.length<=N.length:=by have:=Ń List.length S.pre;rw[aei] at this;omega
 obtain⟨X,J,rfl,T⟩:=x.done;have U:∀b:Þ,b∉(ie CX P w K mg base N qual scope f cd A outer s H E).ex:=λb z=>absurd (show b∈([]:List Þ) from z) ∅;refine⟨⟨e0.mod,S.kind,rfl,rfl,aeS _,λy z c X Z=>?_,λy hy=>?_,λy c _ h=>?_,λ_=>hd,Around.frames_deeper e0.frames,.inr ⟨rfl,rfl⟩,λb z=>absurd z (U b),e0.bs,e0.iX,λb _ _=>U b,λb z=>absurd z (U b),e0.iT,e0.lL⟩,
  rfl,e0.bare,Un.kept T,⟨_,x.toInCall.ns,λi y v X Z I=>?_⟩,λy c h=>⟨_,x.cell y c h⟩,e0.aI.fresh (aeS _),λy c h=>?_,λp Y=>absurd (show p∈([]:List (Þ×Obj)) from Y) ∅,e0.aI.kept T,?_⟩
 ·exact name_of_addr x.apart (Ľ X) (Ľ Z)
 ·have hy:scope.names.lookup y=ϊ .cell\/scope.names.lookup y=ϊ .free:=hy
  rcases hy with hy|hy
  ·exact KN hy
  ·exact absurd rfl (S.YG _ (Ľ hy))
 ·exact Nat.le_of_lt (x.above y c (Ľ h))
 ·have W:i<vs.length:=by
   delta start at Z;by_cases W:i<vs.length
   ·exact W
   ·rw[ð (by simpa using W)] at Z
    rw[ı] at Z
    split at Z<;>cases Z
  have O:vs[i]?=ϊ v:=by
   delta start at Z;rw[ç (by simpa using W),ê] at Z
   cases e:vs[i]? with
   |none=>rw[e] at Z;cases Z
   |some a=>rw[e] at Z;cases Z;rfl
  obtain⟨u,R,M⟩:=r.get O;have Y:ps[i]?=ϊ y:=by
   rw[<- S.pre,List.getElem?_take_of_lt ⋯];exact X
  have Q:ps.Nodup:=by rw[<- S.pre];exact S.nd.sublist (List.take_sublist _ _)
  refine⟨u,M,?_⟩
  rcases S.par y (ű Y) with k|k
  ·exact .inl ⟨k,Ka Q Y R k⟩
  ·obtain⟨c,e⟩:=KN (n:=s.heap.objs.size+1) k
   refine .inr ⟨.inl k,c,e,?_⟩;have q:=x.cell y c e;rw[Kb Q Y R (by show scope.names.lookup y≠_;rw[k];decide)] at q;exact q
 ·exact e0.aI.fresh (Nat.le_of_lt (x.above y c (Ľ h)))
 ·delta start
  show _=N.length;rw[ä,É,ω];omega
def Aa {CX:jV} {P:å} {w:ā} {K:đ} {mg:Str->Option Ç} {base:ĺ} {k:Nat} {f:Þ} {name qual:Str} {params:aeG} {body:List aeg} {scope:ac5} {dV kV doc pm aY ct oc:Ç} {an od:Option Þ}
  {jt:Array (Option Ç)} {N ps:List Str} {sp:Sp} (lk:K.lookup f=ϊ ⟨oc,od,.func (Ś name qual params body scope dV kV doc pm an aY ct),jt⟩) (eD:adj K aY qual=ό) (S:sI N ps scope)
  (len:∀vs H Q E,sp vs H Q E->vs.length=ps.length)
  (lg:∀(A:í) (outer:List Env) (s:Â) (H:Hp) (vs:List V) (Q:VK) (E:XK),bK k (A.deeper (aeN qual scope s.heap.objs.size f aY))->sp vs H Q E ->
   ∃t,dh (ie CX P w K mg base N qual scope f aY A outer s H E) body t/\t { nx:=λ_ H'=>Q .ar H',rt:=Q } (start N vs) H) :
  cW P w K mg base CX (k+1) f (Ś name qual params body scope dV kV doc pm an aY ct) ps sp:=by
 refine⟨len,λA outer s H args F vs Q E U Y D r M=>?_⟩;have C:=len _ _ _ _ M;have L:K.In s.heap:=Y.mod.kE.keeps λb o e=>(Y.bs b o e).1;have lim:s.heap.NoLimit:=Y.mod.nolimit.keeps λb o e=>(Y.bs b o e).1;have T:∀y∈ps.zip F,scope.names.lookup y.1=ϊ .local\/(scope.names.lookup y.1=ϊ .cell/\((adi (s.heap.objs.size+1) scope.names []).lookup y.1).isSome=ό):=λ⟨n,v⟩ B=>by
  rcases S.par n (aer B).1 with q|q
  ·exact .inl q
  ·exact .inr ⟨q,μ _ _ _ (.inl q)⟩
 refine codeAny_call_function U.depth (L _ _ lk) rfl S.co S.gen rfl (PySem.W.codeRec_of L eD) (D _ _ _ _ ?_);refine wpAny_newFunctionEnv_cells S.kind T λenv z G x=>?_;subst z;refine⟨lim.keeps x.toInCall.keep,codeAny_func ?_⟩;obtain⟨t,p,m⟩:=lg A outer s H vs Q E (U.deeper _) M;have I:Inv (ie CX P w K mg base N qual scope f aY A outer s H E) [] (start N vs) H G:=Kc S U.hd Y C r x;refine ė (p [] G (start N vs) H _ I m) (λl R Z=>?_) λe R Z=>Z;have fin:∀{X:St} {H':Hp} {v:V} {u:Ç},Inv (ie CX P w K mg base N qual scope f aY A outer s H E) [] X H' R->RelV v u->Q v H'->CE outer P w H s Q u R :=
  λ{X H' v u} J O q=>⟨v,H',J.os,J.bare,J.base,J.aI,O,q⟩
 cases l with
 |ret u =>
  obtain⟨v,X,H',J,O,q⟩:=Z;exact fin J O q
 |next =>
  obtain⟨X,H',J,q⟩:=Z;exact fin (v:=V.ar) (u:=Value.none) J rfl q
 |brk =>
  obtain⟨_,_,_,q⟩:=Z;exact č q
 |cont =>
  obtain⟨_,_,_,q⟩:=Z;exact č q
section
variable {X:Cx} {x:Str} {p pos:Pos} {e:ě} {es:List ě} {t:TA} {id T:String} {r:List V->Hp->VK->Prop}
def FP (r:List V->Hp->VK->Prop) (t:TA):TE:=fun σ H Q=>t σ H λZ Y=>r Z Y Q
def B6 (hc:cU X (.builtin id) r) (hg:Gl X x) (hm:X.mg x=ϋ) (hv:ü x=ϊ (.builtin id)) (ha:PA X (e::es) t) (hn:x≠"__name__":=by decide) (dR:(x==("__debug__":Str))=ύ:=by decide)
  (he:Í (e::es) X.env=(ύ,ķ e X.env)::Í es X.env:=by rfl) (bN:(ī pos (Í es X.env)).any (·.1)=ύ:=by rfl):PE X (.Call (.Name x p) (e::es) [] pos) (FP r t):=by
 intro Z s σ H Q I h;refine ũ (ql I hg hm hv ?_ hn dR);exact PyProof.Rows.callWith_builtin1 (aO (ha pos Z s σ H _ I h) λY W ⟨V,U,T,S,R⟩=>hc Z W σ U V Y Q T S R) he bN
def BP (hc:cU X (.type T) r) (hg:Gl X x) (hm:X.mg x=ϋ) (hv:ü x=ϊ (.type T)) (ha:PA X (e::es) t) (hn:x≠"__name__":=by decide) (dR:(x==("__debug__":Str))=ύ:=by decide)
  (he:Í (e::es) X.env=(ύ,ķ e X.env)::Í es X.env:=by rfl) (bN:(ī pos (Í es X.env)).any (·.1)=ύ:=by rfl):PE X (.Call (.Name x p) (e::es) [] pos) (FP r t):=by
 intro Z s σ H Q I h;refine ũ (ql I hg hm hv ?_ hn dR);exact ņ (aO (ha pos Z s σ H _ I h) λY W ⟨V,U,S,R,P⟩=>hc Z W σ U V Y Q S R P) he bN
end
end L2
namespace HT
open PySem PyProof.Rows
def lexLt:List Int->List Int->Bool
 | [],[]=>ύ
 | [],_::_=>ό
 |_::_,[]=>ύ
 |x::Z,y::Y=>if x=y then lexLt Z Y else ώ (x<y)
def j4 (x y:Int) (xs ys:List Int):lexLt (x::xs) (y::ys)=if x=y then lexLt xs ys else ώ (x<y):=rfl
def KO (A:í) (s:Â) (a:Int) (t:Tok) (c:Int) (u:Tok) (prog:å) (w:ā) (E:Ç->Â->Prop) (Q:Ç->Â->Prop) (h:Q (.bool (ώ (a<c))) s) :
  á (é prog w) A (richCompare .Lt (.int a t) (.int c u)) Q E s :=
 (PyProof.Rows.lt_int h:á (é prog w) A (ĕ .Lt (.int a t) (.int c u)) Q E s)
section
variable {prog:å} {w:ā} {A:í} {E:Ç->Â->Prop} {s:Â}
def WN (ht:IsTup s.heap t vs.toArray) (hb:IsTup s.heap b ws.toArray) (hv:vs≠[])
 (h1:ws=[]->Q (.ref t) s) (h2:ws≠[]->Q (.ref s.heap.objs.size) { s with heap:=s.heap.push { cls:=.type "tuple",data:=.seq (vs++ws).toArray } })
 (hsz:vs.length+ws.length<=Õ):á (é prog w) A (Ň .Add (.ref t) (.ref b)) Q E s:=by
 obtain⟨⟨cls,X,data,sl⟩,Z,W,n,V⟩:=id ht;obtain⟨⟨P,U,data2,T⟩,Y,S,R,hd2⟩:=id hb;simp only at W V S hd2;subst W V S hd2;have e:vs.toArray++ws.toArray=(vs++ws).toArray:=by simp
 by_cases hw:ws=[]
 ·exact concat_meets ⟨_,Z,rfl⟩ ⟨_,Y,rfl⟩ noFill_tuple_add seq_tuple_add adV adN (adE _ _)
   (tuple_addW1 t b vs.toArray ws.toArray n R X U sl T (by simpa using hv) (by simp[hw])) ⟨Z,Y,h1 hw⟩
 ·refine concat_meets ⟨_,Z,rfl⟩ ⟨_,Y,rfl⟩ noFill_tuple_add seq_tuple_add adV adN (adE _ _)
   (tuple_addW2 t b vs.toArray ws.toArray n R X U sl T (by simpa using hv) (by simpa using hw) (by rw[Ü,Ü];exact hsz)) ⟨Z,Y,?_⟩
  rw[e];exact h2 hw
def bp (n d:Nat):Option Int->Nat
 |none=>d
 |some v=>if v<0 then (v+(n:Int)).toNat else min v.toNat n
def YH (n d:Nat) (hd:d<=n) (o:Option Int):bp n d o<=n:=by
 cases o with
 |none=>exact hd
 |some v =>
  show (if v<0 then (v+(n:Int)).toNat else min v.toNat n)<=n
  by_cases Z:v<0
  ·rw[Ñ Z];omega
  ·rw[Ú Z];exact Nat.min_le_right _ _
def LF (v:Int) (n d:Nat):(if v<0 then max (v+(n:Int)) 0 else min v (n:Int))=((bp n d (ϊ v):Nat):Int):=by
 show (if v<0 then max (v+(n:Int)) 0 else min v (n:Int))=(((if v<0 then (v+(n:Int)).toNat else min v.toNat n):Nat):Int)
 by_cases Z:v<0
 ·erw[Ñ Z];omega
 ·erw[Ú Z];omega
def R8 (lo hi:Option Int) (n:Nat):adk lo hi 1 (n:Int)=(((bp n 0 lo:Nat):Int),((bp n n hi:Nat):Int)):=by
 have Z:¬ ((1:Int)<0):=by omega
 delta adk;erw[Z,ï];refine Prod.ext ?_ ?_
 ·cases lo with
  |none=>rfl
  |some v=>exact LF v n 0
 ·cases hi with
  |none=>rfl
  |some v=>exact LF v n n
def R9 (i j:Nat):Ů (i:Int) (j:Int) 1=j-i:=by
 delta Ů;have Z:(1:Int) > 0:=by omega
 erw[Z,ò,Int.ediv_one]
 split<;>omega
def JL (p:IsPart v o) (h:Q o s):á (é prog w) A (Builtin.Slice.slicePartIndex v) Q E s:=by
 cases p with
 |none=>exact slicePart_none h
 |int i t=>exact slicePart_int h
def IH {lo hi:Option Int} {n:Nat} {Q:Int×Int×Nat->Â->Prop} (hs:s.heap.IsSliceOf sl vl vu .none) (pl:IsPart vl lo) (pu:IsPart vu hi)
 (h:Q (((bp n 0 lo:Nat):Int),1,bp n n hi-bp n 0 lo) s):á (é prog w) A (aez (.ref sl) (pure (n:Int))) Q E s:=by
 obtain⟨os,Z,X,Y⟩:=id hs;delta aez Builtin.Slice.sliceFields;refine À (À (Į Z Y (x:=vl) rfl (À (Į Z Y (x:=vu) rfl (À (Į Z Y (x:=.none) rfl (Ã ?_)))))));refine À (slicePart_none ?_)
 show á _ _ (if ((1:Int)==0)=ό then _ else _) _ _ s
 rw[Ú (by decide)];refine À (JL pl (À (JL pu (À (Ã ?_)))))
 show á _ _ (match adk lo hi 1 (n:Int) with | (lo,hi)=>pure (lo,(1:Int),Ů lo hi 1)) _ _ s
 rw[R8 lo hi n];show á _ _ (pure (((bp n 0 lo:Nat):Int),(1:Int),Ů ((bp n 0 lo:Nat):Int) ((bp n n hi:Nat):Int) 1)) _ _ s;rw[R9];exact Ã h
def UY (xs:Array Ç) (i k:Nat):((è k).filterMap λ(m:Nat)=>xs[((i:Int)+(m:Int)*1).toNat]?).toArray=((xs.toList.drop i).take k).toArray:=by
 have e:(λ(m:Nat)=>xs[((i:Int)+(m:Int)*1).toNat]?)=λm=>xs[i+m]?:=by
  funext m;have:((i:Int)+(m:Int)*1).toNat=i+m:=by omega
  rw[this]
 rw[e];have:=pick_run xs i k;rw[List.filterMap_map] at this;have e2:((λx=>xs[x]?) ∘ λx=>i+x)=λm=>xs[i+m]?:=rfl;rw[e2] at this;rw[this]
def Qm {lo hi:Option Int} {Q:Ç->Â->Prop} (ht:IsTup s.heap t items) (hs:s.heap.IsSliceOf sl vl vu .none) (pl:IsPart vl lo) (pu:IsPart vu hi)
 (hw:¬ (bp items.size 0 lo=0/\bp items.size items.size hi=items.size))
 (h:Q (.ref s.heap.objs.size) { s with heap:=s.heap.push { cls:=.type "tuple",data:=.seq ((items.toList.drop (bp items.size 0 lo)).take (bp items.size items.size hi-bp items.size 0 lo)).toArray } })
 (hsz:items.size<=Õ):á (é prog w) A (getItem (.ref t) (.ref sl)) Q E s:=by
 have Z:sizeOk (.seq ((items.toList.drop (bp items.size 0 lo)).take (bp items.size items.size hi-bp items.size 0 lo)).toArray):=by
  show ((items.toList.drop (bp items.size 0 lo)).take (bp items.size items.size hi-bp items.size 0 lo)).toArray.size<=Õ;rw[Ü,aei,List.length_drop,ö];omega
 have U:bp items.size items.size hi<=items.size:=YH _ _ (aeS _) hi;obtain⟨os,X,W,T⟩:=id hs;have V:s.TypeIs (.ref sl) "slice":=⟨os,X,W⟩;delta getItem
 try with_reducible refine ą ?_
 first|refine À (Ã ?_)|skip
 refine À (wpAny_sequenceKey ht.typeIs (by decide) ?_);refine À (Ċ (name:=Ĉ "__getitem__") ht.typeIs Ę
  (Ď Ę ht.typeIs entry_tuple_getitem ?_ (args_tuple_getitem _ _)))
 show á _ _ (ada (.ref t) >>= _) _ _ s;refine À (tupleItemsOf_ ht ?_);refine À (adF V ?_);rw[Ñ (by decide)];refine À (IH hs pl pu ?_);have Y:¬ ((((bp items.size 0 lo:Nat):Int)==0&&(1:Int)==1&&(bp items.size items.size hi-bp items.size 0 lo)==items.size)=ό):=by
  intro q;rw[Å,Å] at q;have S:((bp items.size 0 lo:Nat):Int)=0:=eq_of_beq q.1.1;have R:bp items.size items.size hi-bp items.size 0 lo=items.size:=eq_of_beq q.2;exact hw ⟨by omega,by omega⟩
 show á _ _ (if (((bp items.size 0 lo:Nat):Int)==0&&(1:Int)==1&&(bp items.size items.size hi-bp items.size 0 lo)==items.size)=ό then _ else _) _ _ s
 rw[Ú Y,UY]
 first
  |exact À (m:=ŕ _) (û (Ã ⟨_,rfl,Ã h⟩) Z)
  |exact À (m:=ŕ _) (û (À (Ã (Ã ⟨_,rfl,Ã h⟩))) Z)
  |exact À (À (m:=ŕ _) (û (Ã (Ã ⟨_,rfl,Ã h⟩)) Z))
  |exact À (À (m:=ŕ _) (û (Ã ⟨_,rfl,Ã h⟩) Z))
end
end HT
namespace L2
open PySem PySem.Spec PyProof.Rows
abbrev TO:=St->Hp->(Option Int->Hp->Prop)->Prop
def PO (X:Cx) (e:Option ě) (t:TO):Prop :=
 ∀(Z:List (Þ×Obj)) (s:Â) (σ:St) (H:Hp) (Q:Option Int->Hp->Prop),Inv X Z σ H s->t σ H Q ->
  á (é X.prog X.w) X.A (evalPart e X.env) (λu W=>∃o Y,Inv X Z σ Y W/\IsPart u o/\Q o Y) X.xe s
def WO:TO:=λ_ H Q=>Q ϋ H
def aax (t:TE):TO:=fun σ H Q=>t σ H λx Z=>∃i,x=.int i/\Q (ϊ i) Z
def intsAre_of:∀{us:List Ç},Vals (ns.map V.int) us->aej us ns:=by
 induction ns with
 |nil=>intro us r;rw[Ō] at r;cases r;exact .nil
 |cons n ns ih =>
  intro us r;rw[à] at r
  cases r with
  |cons Z Y =>
   obtain⟨t,e⟩:=Z;subst e;exact .cons n t (ih Y)
section
variable {X:Cx} {e:ě} {te:TE} {lo hi:Option ě} {tl th:TO} {pos p2:Pos}
def WQ:PO X ϋ WO:=by
 intro Z s σ H Q I h;rw[evalPart_none];exact Ã ⟨ϋ,H,I,.none,h⟩
def WR (h:PE X e te):PO X (ϊ e) (aax te):=by
 intro Z s σ H Q I hw;rw[evalPart_some];refine aO (h Z s σ H _ I hw) λu T ⟨x,Y,W,V,U⟩=>?_;obtain⟨i,rfl,q⟩:=U;obtain⟨t,rfl⟩:=V;exact⟨ϊ i,Y,W,.int i t,q⟩
def rg (X:Cx) (r:V->Option Int->Option Int->Hp->VK->Prop):Prop :=
 ∀(Z:List (Þ×Obj)) (s:Â) (σ:St) (H:Hp) (x:V) (v Y W:Ç) (lo hi:Option Int) (sl:Þ) (Q:VK),Inv X Z σ H s->RelV x v->s.heap.IsSliceOf sl Y W .none->IsPart Y lo->IsPart W hi->r x lo hi H Q ->
  ∃T id,typeLookup (.type T) "__getitem__"=pure (ϊ (.builtin id))/\s.TypeIs v T/\á (é X.prog X.w) X.A (getItem v (.ref sl)) (EP X Z σ Q) X.xe s
def tSl (r:V->Option Int->Option Int->Hp->VK->Prop) (te:TE) (tl th:TO):TE:=fun σ H Q=>te σ H λx Z=>tl σ Z λl Y=>th σ Y λu X=>r x l u X Q
def KP (hr:rg X r) (he:PE X e te) (hl:PO X lo tl) (hu:PO X hi th):PE X (.Subscript e (.Slice lo hi ϋ p2) pos) (tSl r te tl th):=by
 intro Y s σ H Q I h;refine Subscript_ (aO (he Y s σ H _ I h) λv S ⟨x,R,P,O,N⟩=>?_);refine wpAny_Slice (aO (hl Y S σ R _ P N) λW M ⟨l,L,K,J,G⟩=>aO (hu Y M σ L _ K G) λV Z ⟨u,U,F,pu,E⟩=>?_);rw[evalPart_none];refine Ã ?_
 have D:Inv X Y σ U { Z with heap:=Z.heap.push { cls:=.type "slice",data:=.fields #[W,V,.none] } }:=F.kept (t':=Z.toks) λb y q=>Á _ q
 obtain⟨T,id,C,B,z⟩:=hr Y { Z with heap:=Z.heap.push { cls:=.type "slice",data:=.fields #[W,V,.none] } } σ U x v W V l u Z.heap.objs.size Q D O (Heap.IsSliceOf.new ..) J pu E
 show á (é X.prog X.w) X.A (subscriptTail e (.Slice lo hi ϋ p2) v (.ref Z.heap.objs.size)) (EP X Y σ Q) X.xe { Z with heap:=Z.heap.push { cls:=.type "slice",data:=.fields #[W,V,.none] } }
 exact tail_any (ops:=[.ref Z.heap.objs.size,v]) B C z (by with_unfolding_all rfl)
def lp (xs:List V) (lo hi:Option Int):List V:=(xs.drop (HT.bp xs.length 0 lo)).take (HT.bp xs.length xs.length hi-HT.bp xs.length 0 lo)
def Jr (xs:List V) (lo hi:Option Int):(lp xs lo hi).length<=xs.length:=by
 delta lp;rw[aei,List.length_drop];omega
def ab4 (K:đ):V->Option Int->Option Int->Hp->VK->Prop:=λx lo hi H Q=>∃a Z,x=.ref a/\bR K H a Z /\
 ¬ (HT.bp Z.length 0 lo=0/\HT.bp Z.length Z.length hi=Z.length)/\∀p,H p=ϋ->Q (.ref p) (upd H p (.tup (lp Z lo hi)))
def zD:rg X (ab4 X.K):=by
 intro P s σ H x v O N lo hi sl Q I U T S pu h;obtain⟨a,Y,rfl,R,hw,q⟩:=h;cases U;obtain⟨its,r,W,V⟩:=I.tuple R;have Z:its.toArray.size=Y.length:=by rw[Ü];exact r.length.symm
 refine⟨"tuple",_,Ę.lookup,W.typeIs,?_⟩;refine HT.Qm W T S pu (by rw[Z];exact hw) ?_ (by rw[Z];exact V);rw[Z];refine⟨.ref s.heap.objs.size,_,I.laid (t':=s.toks) (o:=.tup (lp Y lo hi)) (λb M q=>Á _ q) (aeS _) ?_,rfl,q _ (I.aI.fresh (aeS _))⟩;exact⟨Ý (Jr Y lo hi) V,_,(r.drop (HT.bp Y.length 0 lo)).take (HT.bp Y.length Y.length hi-HT.bp Y.length 0 lo),IsTup.new _ _⟩
def aay (K:đ):R2:=λx y H Q=>∃a b Y Z,x=.ref a/\y=.ref b/\bR K H a Y/\bR K H b Z/\Y≠[]/\Y.length+Z.length<=Õ /\
 (Z=[]->Q (.ref a) H)/\(Z≠[]->∀p,H p=ϋ->Q (.ref p) (upd H p (.tup (Y++Z))))
def Vals.CF (r:Vals xs us):us=[]↔xs=[]:=by
 cases r with
 |nil=>simp
 |cons _ _=>simp
def WS:bM X (Ň .Add) (aay X.K):=by
 intro J s σ H x y v u Q I V U h;obtain⟨a,b,T,S,rfl,rfl,R,P,O,W,N,M⟩:=h;cases V;cases U;obtain⟨its,Y,L,_⟩:=I.tuple R;obtain⟨G,Z,p2,_⟩:=I.tuple P;refine HT.WN L p2 (λz=>O (Y.CF.mp z)) (λz=>⟨.ref a,H,I,rfl,N (Z.CF.mp z)⟩) (λz=>?_) (by rw[<- Y.length,<- Z.length];exact W);refine⟨.ref s.heap.objs.size,_,I.laid (t':=s.toks) (o:=.tup (T++S)) (λb F q=>Á _ q) (aeS _) ?_,rfl,M (λw=>z (Z.CF.mpr w)) _ (I.aI.fresh (aeS _))⟩;exact⟨by rw[ä];exact W,_,Y.append Z,IsTup.new _ _⟩
end
def gI (n:Nat) (i:Int):Option Nat:=if 0<=i then (if i<n then ϊ i.toNat else ϋ) else if -(n:Int)<=i then ϊ (i+n).toNat else ϋ
def cX {α:Type} (xs:List α) (i:Int):Option α:=(gI xs.length i).bind λj=>xs[j]?
def LG (h:gI n i=ϊ j):seqIndex? i n=ϊ j/\j<n/\-(n:Int)<=i/\i<n:=by
 delta gI at h;by_cases Y:0<=i
 ·rw[Ñ Y] at h
  by_cases Z:i<n
  ·rw[Ñ Z] at h
   have e:i.toNat=j:=aeT h;exact⟨by rw[seqIndex_of Y Z,e],by omega,by omega,Z⟩
  ·rw[Ú Z] at h;cases h
 ·rw[Ú Y] at h
  by_cases Z:-(n:Int)<=i
  ·rw[Ñ Z] at h
   have e:(i+n).toNat=j:=aeT h;exact⟨by rw[seqIndex_neg ⋯ Z,e],by omega,Z,by omega⟩
  ·rw[Ú Z] at h;cases h
def CG {α:Type} {xs:List α} {i:Int} {v:α} (h:cX xs i=ϊ v):∃j,seqIndex? i xs.length=ϊ j/\xs[j]?=ϊ v/\j<xs.length/\-(xs.length:Int)<=i/\i<xs.length:=by
 delta cX at h
 cases e:gI xs.length i with
 |none=>rw[e] at h;cases h
 |some j =>
  rw[e] at h;obtain⟨Z,Y,X,W⟩:=LG e;exact⟨j,Z,h,Y,X,W⟩
def UZ {α:Type} (xs:List α) (v:α):cX (xs++[v]) (-1)=ϊ v:=by
 have Z:(xs++[v]).length=xs.length+1:=by simp
 have e:gI (xs++[v]).length (-1)=ϊ xs.length:=by
  delta gI;rw[Z,Ú (by decide),Ñ ⋯];congr 1;omega
 delta cX;rw[e];show (xs++[v])[xs.length]?=ϊ v;simp
def LH (b:ě):Prop:=∀o i,subscripted b ύ o i=operate [o,i] (getItem o i)
def yc (X:Cx) (r:R2):Prop :=
 ∀(value slice:ě) (Z:List (Þ×Obj)) (s:Â) (σ:St) (H:Hp) (x y:V) (v u:Ç) (Q:VK),Inv X Z σ H s->RelV x v->RelV y u->r x y H Q ->
  subscripted slice ύ v u=operate [v,u] (getItem v u)->á (é X.prog X.w) X.A (subscriptTail value slice v u) (EP X Z σ Q) X.xe s
def rj (X:Cx) (id:String) (r:V->List V->Hp->VK->Prop):Prop :=
 ∀(Z:List (Þ×Obj)) (s:Â) (σ:St) (H:Hp) (x:V) (Y:List V) (v:Ç) (W:List Ç) (Q:VK),Inv X Z σ H s->RelV x v->Vals Y W->r x Y H Q ->
  á (é X.prog X.w) X.A (call (.builtin id) (v::W)) (EP X Z σ Q) X.xe s
section
variable {X:Cx} {a b:ě} {ta tb:TE} {pos:Pos}
def aaz (hr:yc X r) (ha:PE X a ta) (hb:PE X b tb) (hs:LH b):PE X (.Subscript a b pos) (ya r ta tb):=by
 intro Z s σ H Q I h;exact Subscript_ (E3 ha hb I h λv u Y x y W V U T q=>hr a b Z Y σ W x y v u Q V U T q (hs _ _))
def ab5 (K:đ):R2:=λx y H Q=>∃p Z i v,x=.ref p/\y=.int i/\bY K H p Z/\cX Z i=ϊ v/\Q v H
def ab6 (K:đ):R2:=λx y H Q=>∃p Z i v,x=.ref p/\y=.int i/\bR K H p Z/\cX Z i=ϊ v/\Q v H
def ab7:R2:=λx y H Q=>∃z i c,x=.str z/\y=.int i/\z.length<=Õ/\cX z.cps.toList i=ϊ c/\Q (.str ⟨#[c]⟩) H
def LI:yc X (ab5 X.K):=by
 intro value slice V s σ H x y v u Q I R P h U;obtain⟨p,D,i,z,rfl,rfl,O,N,q⟩:=h;cases R;obtain⟨t,rfl⟩:=P;obtain⟨its,r,Y,C⟩:=I.list O;obtain⟨j,Z,M,B,L,J⟩:=CG N;obtain⟨w,T,G⟩:=r.get M;have F:=r.length;have A:=qm;have fin:EP X V σ Q w s:=⟨z,H,I,G,q⟩;by_cases S:0<=i
 ·have W:i.toNat=j:=by
   rw[seqIndex_of S J] at Z;exact aeT Z
  exact item_listR Y.isList S ⋯ (by rw[W];simpa using T) fin U
 ·have W:(i+(its.toArray.size:Int)).toNat=j:=by
   rw[seqIndex_neg ⋯ L] at Z;rw[Ü,<- F];exact aeT Z
  exact subscriptTail_builtinR (x:=w) Y.isList.typeIs slot_list_getitem.lookup
   (wpAny_getItem_list_neg (Q:=λr E=>r=w/\EP X V σ Q r E) Y.isList ⋯ (by rw[Ü]<;>omega) ⋯ (by rw[W];simpa using T) ⟨rfl,fin⟩) U
def YI:yc X (ab6 X.K):=by
 intro value slice Z s σ H x y v u Q I W V h U;obtain⟨p,J,i,z,rfl,rfl,T,S,q⟩:=h;cases W;obtain⟨t,rfl⟩:=V;obtain⟨its,r,Y,G⟩:=I.tuple T;obtain⟨j,R,P,F,E,D⟩:=CG S;obtain⟨w,O,N⟩:=r.get P;have M:=r.length;have C:=qm;have fin:EP X Z σ Q w s:=⟨z,H,I,N,q⟩;exact subscriptTail_builtinR (x:=w) Y.typeIs slot_tuple_getitem.lookup
  (getItem_tuple (j:=j) (Q:=λr L=>r=w/\EP X Z σ Q r L) Y ⋯ ⋯ (by rw[Ü,<- M];exact R) (by simpa using O) ⟨rfl,fin⟩) U
def Dt:yc X ab7:=by
 intro value slice O s σ H x y v u Q I Y W h V;obtain⟨z,i,c,rfl,rfl,N,U,q⟩:=h;obtain⟨t,rfl⟩:=Y;obtain⟨M,rfl⟩:=W;obtain⟨j,Z,T,L,S,R⟩:=CG U;have P:z.cps.toList.length=z.length:=by simp[Str.length]
 rw[P] at Z S R;have K:=qm;exact tail_any (adZ s z t) slot_str_getitem.lookup (getItem_str (c:=c) (by
  have e1:ώ (i < -(2 ^ 63:Int))=ύ:=Ì ⋯;have e2:ώ (i ≥ 2 ^ 63)=ύ:=Ì ⋯;rw[e1,e2,Bool.or_false]) (by rw[Z];simpa using T) ⟨.str ⟨#[c]⟩,H,I.tok _,⟨_,rfl⟩,q⟩) V
def Sa (its:List Ç) (n j:Nat) (u:Ç):ŝ (·.setIfInBounds j u) { cls:=.type "list",data:=.seq its.toArray n }={ cls:=.type "list",data:=.seq (its.set j u).toArray n }:=by
 simp[ŝ]
theorem Inv.lst {π:List (Þ×Obj)} {σ:St} {H:Hp} {s:Â} {p:Þ} {xs:List V} (I:Inv X π σ H s) (h:H p=ϊ (.lst xs)) :
  ∃(its:List Ç) (n:Nat),Vals xs its/\s.heap.get? p=ϊ { cls:=.type "list",data:=.seq its.toArray n }/\xs.length<=Õ:=by
 obtain⟨z,its,n,r,e⟩:=I.aI p _ h;exact⟨its,n,r,e,z⟩
def Inv.YJ {π:List (Þ×Obj)} {σ:St} {H:Hp} {s:Â} {p:Þ} {xs ys:List V} {its its':List Ç} {n n':Nat} {f:Obj->Obj} (I:Inv X π σ H s) (h:H p=ϊ (.lst xs))
  (ho:s.heap.get? p=ϊ { cls:=.type "list",data:=.seq its.toArray n }) (hf:f { cls:=.type "list",data:=.seq its.toArray n }={ cls:=.type "list",data:=.seq its'.toArray n' }) (r:Vals ys its') (hz:ys.length<=Õ) (t:Nat) :
  Inv X π σ (upd H p (.lst ys)) { s with heap:=s.heap.update p f,toks:=t }:=by
 have e:(s.heap.update p f).get? p=ϊ { cls:=.type "list",data:=.seq its'.toArray n' }:=by
  rw[Ğ f ho (by rw[hf]<;>rfl),hf]
 refine I.write (x:=p) (e:=p) (by rw[h];trivial) (.inl rfl) (λb u Z q=>(ν _ _ (ź Z)).trans q) ⟨_,e⟩ ?_;exact⟨hz,its',n',r,e⟩
def aaA:V->V->V->Hp->(Hp->Prop)->Prop:=λo i v H Q=>∃p Z k j,o=.ref p/\i=.int k/\H p=ϊ (.lst Z)/\gI Z.length k=ϊ j/\Q (upd H p (.lst (Z.set j v)))
def set_list:OK X aaA:=by
 intro N s σ H o i v E D u Q I M L K h;obtain⟨p,J,k,j,rfl,rfl,T,G,q⟩:=h;cases M;obtain⟨t,rfl⟩:=L;obtain⟨its,n,r,Y,F⟩:=I.lst T;obtain⟨Z,C,S,R⟩:=LG G;have V:=r.length;have B:=qm
 have P:Inv X N σ (upd H p (.lst (J.set j v))) { s with heap:=s.heap.update p (ŝ (·.setIfInBounds j u)) } :=
  I.YJ T Y (Sa its n j u) (r.set K j) (by rw[ă];exact F) s.toks
 by_cases O:0<=k
 ·have U:k.toNat=j:=by
   rw[seqIndex_of O R] at Z;exact aeT Z
  exact PySem.W.ki_setAt Y O ⋯ (by rw[Ü,<- V];exact R) (by rw[U];exact⟨_,P,q⟩)
 ·have U:(k+(its.toArray.size:Int)).toNat=j:=by
   rw[seqIndex_neg ⋯ S] at Z;rw[Ü,<- V];exact aeT Z
  exact PySem.W.ki_setBack Y ⋯ (by rw[Ü,<- V];exact S) ⋯ (by rw[U];exact⟨_,P,q⟩)
def Q3 (lo hi:Option Int) (n:Nat):(ad0 lo hi ϋ n).1=((HT.bp n 0 lo:Nat):Int)/\(ad0 lo hi ϋ n).2.1=((HT.bp n n hi:Nat):Int)/\(ad0 lo hi ϋ n).2.2=1:=by
 refine⟨?_,?_,rfl⟩
 ·cases lo with
  |none=>simp[ad0,HT.bp]
  |some i =>
   erw[ad0,HT.bp,Option.getD_none,show (1:Int) > 0 by decide,ò];by_cases h:i<0
   ·erw[h,ò]<;>omega
   ·erw[h,ï]<;>omega
 ·cases hi with
  |none=>simp[ad0,HT.bp]
  |some i =>
   erw[ad0,HT.bp,Option.getD_none,show (1:Int) > 0 by decide,ò];by_cases h:i<0
   ·erw[h,ò]<;>omega
   ·erw[h,ï]<;>omega
def QG (its:List Ç) (lo hi:Option Int):slicePick its.toArray lo hi ϋ=((its.drop (HT.bp its.length 0 lo)).take (HT.bp its.length its.length hi-HT.bp its.length 0 lo)).toArray:=by
 obtain⟨Z,Y,X⟩:=Q3 lo hi its.toArray.size;delta slicePick;rw[Z,Y,X]
 erw[sliceRange_one,pick_run,Ü]<;>rfl
def ab8 (K:đ):V->Option Int->Option Int->Hp->VK->Prop:=λx lo Y H Q=>∃a Z,x=.ref a/\bY K H a Z/\∀p,H p=ϋ->Q (.ref p) (upd H p (.lst (lp Z lo Y)))
def WT:rg X (ab8 X.K):=by
 intro O s σ H x v N M lo W sl Q I U T S pu h;obtain⟨a,Z,rfl,R,q⟩:=h;cases U;obtain⟨its,r,V,P⟩:=I.list R;have Y:=r.length;refine⟨"list",_,slot_list_getitem.lookup,V.isList.typeIs,?_⟩
 refine wpAny_getItem_list_slice V.isList T S pu .none ∅ ?_ (by rw[Ü]<;>omega)
 rw[QG,<- Y];refine⟨.ref s.heap.objs.size,_,I.laid (t':=s.toks) (o:=.lst (lp Z lo W)) (λb L q=>Á _ q) (aeS _) ?_,rfl,q _ (I.aI.fresh (aeS _))⟩;exact⟨Ý (Jr Z lo W) P,_,0,(r.drop (HT.bp Z.length 0 lo)).take (HT.bp Z.length Z.length W-HT.bp Z.length 0 lo),Î _ rfl⟩
def Bv:cU X (.builtin "len") (λxs H Q=>∃p ys,xs=[.ref p]/\(bY X.K H p ys\/bR X.K H p ys)/\Q (.int ys.length) H):=by
 intro T s σ H xs S Q I r h;obtain⟨p,ys,rfl,hq,q⟩:=h;obtain⟨u,rfl,V⟩:=vals1 r;cases V;have R:=qm
 rcases hq with hq|hq
 ·obtain⟨its,Y,W,U⟩:=I.list hq
  have Z:=Y.length
  exact Calls.call_len_list W.isList (by erw[Ü]<;>omega) ⟨.int ys.length,H,I.tok _,⟨s.toks+1,by rw[Ü,Z]⟩,q⟩
 ·obtain⟨its,Y,W,U⟩:=I.tuple hq
  have Z:=Y.length
  exact len_tuple W (by erw[Ü]<;>omega) ⟨.int ys.length,H,I.tok _,⟨s.toks+1,by rw[Ü,Z]⟩,q⟩
def Q4:cU X (.builtin "len") (λxs H Q=>∃z,xs=[.str z]/\z.length<=Õ/\Q (.int z.length) H):=by
 intro Z s σ H xs Y Q I r h;obtain⟨z,rfl,W,q⟩:=h;obtain⟨u,rfl,t,rfl⟩:=vals1 r;have V:=qm;exact len_str ⋯ ⟨.int z.length,H,I.tok _,⟨_,rfl⟩,q⟩
def IQ:cU X (.type "tuple") (λxs H Q=>∃p ys,xs=[.ref p]/\((bY X.K H p ys/\∀l,H l=ϋ->Q (.ref l) (upd H l (.tup ys)))\/(bR X.K H p ys/\Q (.ref p) H))):=by
 intro U s σ H xs N Q I r h;obtain⟨p,ys,rfl,h⟩:=h;obtain⟨u,rfl,P⟩:=vals1 r;cases P
 rcases h with ⟨Y,q⟩ | ⟨Y,q⟩
 ·obtain⟨its,W,V,T⟩:=I.list Y
  have S:=W.length
  refine call_tuple_list V.isList (λZ kp=>?_) (by erw[Ü]<;>omega)
  have R:Inv X U σ H { s with heap:=Z }:=I.kept (t':=s.toks) kp
  have O:Inv X U σ (upd H Z.objs.size (.tup ys)) { s with heap:=Z.push { cls:=.type "tuple",data:=.seq its.toArray } } :=
   R.laid (t':=s.toks) (λb o e=>Á _ e) (aeS _) (show eQ X.prog X.w _ _ _ (.tup ys) from ⟨T,its,W,IsTup.new _ _⟩)
  exact⟨.ref Z.objs.size,_,O,rfl,q _ (R.aI.fresh (aeS _))⟩
 ·obtain⟨its,W,V,T⟩:=I.tuple Y
  exact call_tuple_same V ⟨.ref p,H,I,rfl,q⟩
def FR (K:đ) (T:String) (x:V) (H:Hp):Prop:=match x with
 | .str _=>T="str"
 | .int _=>T="int"
 | .ref p=>(T="list"/\∃Y,bY K H p Y)\/(T="tuple"/\∃o,K.lookup p=ϊ o/\o.cls=.type "tuple"/\o.dict=ϋ) \/
   (T="dict"/\((∃Z,H p=ϊ (.dK Z))\/∃Z,H p=ϊ (.dT Z)))\/(T="set"/\∃S n,H p=ϊ (.set S n))
 |_=>False
def MG {π:List (Þ×Obj)} {σ:St} {H:Hp} {s:Â} {T:String} {x:V} {v:Ç} (I:Inv X π σ H s) (r:RelV x v) (ty:FR X.K T x H) :
  s.TypeIs v T/\∀a,v=.ref a->∃ob,s.heap.get? a=ϊ ob/\ob.dict=ϋ:=by
 cases x with
 |str z =>
  obtain⟨t,rfl⟩:=r;cases (show T="str" from ty)
  exact⟨adZ s z t,λ_ e=>nomatch e⟩
 |int i =>
  obtain⟨t,rfl⟩:=r;cases (show T="int" from ty)
  exact⟨typeIs_int s i t,λ_ e=>nomatch e⟩
 |ref p =>
  cases r
  rcases ty with ⟨rfl,P,U⟩ | ⟨rfl,o,Z,R,Y⟩ | ⟨rfl,Z⟩ | ⟨rfl,S,n,Z⟩
  ·obtain⟨its,_,W,_⟩:=I.list U
   refine⟨W.isList.typeIs,λa e=>?_⟩;cases e;obtain⟨o,n,e,c,Y,_⟩:=W;exact⟨o,e,Y⟩
  ·refine⟨⟨o,I.fB p o Z,R⟩,λa e=>?_⟩
   cases e;exact⟨o,I.fB _ o Z,Y⟩
  ·have z:∃o,s.heap.get? p=ϊ o/\o.ExactDict:=by
    rcases Z with ⟨Q,Z⟩ | ⟨Q,Z⟩
    ·obtain⟨_,_,_,_,o,_,_,e,ex,_⟩:=I.aI p _ Z
     exact⟨o,e,ex⟩
    ·obtain⟨_,_,_,_,o,_,_,e,ex,_⟩:=I.aI p _ Z
     exact⟨o,e,ex⟩
   obtain⟨o,e,ex⟩:=z;refine⟨⟨o,e,ex.1⟩,λa e2=>?_⟩;cases e2;exact⟨o,e,ex.2.1⟩
  ·obtain⟨o,_,_,_,e,ex,_⟩:=I.aI p _ Z
   refine⟨⟨o,e,ex.1⟩,λa e2=>?_⟩;cases e2;exact⟨o,e,ex.2.1⟩
 |_=>exact č ty
def ab9 (K:đ) (T:String) (r:V->List V->Hp->VK->Prop) (to:TE):TE:=fun σ H Q=>to σ H λx Z=>FR K T x Z/\r x [] Z Q
def tBM (K:đ) (T:String) (r:V->List V->Hp->VK->Prop) (to:TE) (t:TA):TE:=fun σ H Q=>to σ H λx Z=>FR K T x Z/\t σ Z λY X=>r x Y X Q
variable {o e:ě} {es:List ě} {to:TE} {t:TA} {name:Str} {apos ba:Pos} {T id:String} {r:V->List V->Hp->VK->Prop}
def MH (pa:PlainAttrs T) (slot:Slot T name id) (FT:typeOf (.builtin id)=pure (.type "method_descriptor")) (hm:rj X id r) (ho:PE X o to)
  (hZ:İ o name X.env (ķ o X.env)=ķ o X.env:=by rfl) (ia:(apos.endLine==ba.line)=ό:=by rfl):PE X (.Call (.Attribute o name apos) [] [] ba) (ab9 X.K T r to):=by
 intro Z s σ H Q I h;refine wpAny_Call_method0_late hZ ia (aO (ho Z s σ H _ I h) λv V ⟨x,U,Y,W,ty,S⟩=>?_);obtain⟨R,P⟩:=MG Y W ty;exact⟨T,id,pa,slot,FT,R,P,Calls.callWith_builtin rfl (PySem.evalArgs_none (hm Z V σ U x [] v [] Q Y W .nil S))⟩
def wN (pa:PlainAttrs T) (slot:Slot T name id) (FT:typeOf (.builtin id)=pure (.type "method_descriptor")) (hm:rj X id r) (ho:PE X o to) (ha:PA X (e::es) t)
  (hZ:İ o name X.env (ķ o X.env)=ķ o X.env:=by rfl)
  (lq:((ī ba (Í (e::es) X.env)).all (λx=>!x.1)&&(adq ba (ŗ [] X.env)).all (λx=>x.1.isSome)
   && ώ ((e::es).length+([]:List adf).length+(if ([]:List adf).isEmpty then 0 else 1)<30))=ό:=by rfl)
  (ia:(apos.endLine==ba.line)=ό:=by rfl) (hs:Í (e::es) X.env=(ύ,ķ e X.env)::Í es X.env:=by rfl) (iO:(ī ba (Í es X.env)).any (·.1)=ύ:=by rfl) :
  PE X (.Call (.Attribute o name apos) (e::es) [] ba) (tBM X.K T r to t):=by
 intro Z s σ H Q I h;refine wpAny_Call_method_late hZ lq ia rfl (aO (ho Z s σ H _ I h) λv U ⟨x,S,Y,W,ty,R⟩=>?_);obtain⟨P,O⟩:=MG Y W ty;refine⟨T,id,pa,slot,FT,P,O,?_⟩;have V:=ha ba Z U σ S _ Y R;rw[hs] at V |-
 refine Calls.callWith_builtin (by show (ύ||(ī ba (Í es X.env)).any (·.1))=ύ;rw[iO]<;>rfl) (Calls.evalArgs_plain ?_)
 exact aO V λN M ⟨L,J,G,F,E⟩=>hm Z M σ J x L v N Q G W F E
end
def Px (X:Cx) (id:String) (r:V->List V->Hp->VK->Prop):Prop :=
 ∀(Z:List (Þ×Obj)) (s:Â) (σ:St) (H:Hp) (x:V) (Y:List V) (v:Ç) (W:List Ç) (Q:VK),Inv X Z σ H s->RelV x v->Vals Y W->r x Y H Q ->
  á (é X.prog X.w) X.A (call (.builtin id) (v::W)) (EP X Z σ Q) X.xe s
def Vals.one:∀{x:V} {us:List Ç},Vals [x] us->∃u,us=[u]/\RelV x u
 |_,_,.cons r .nil=>⟨_,rfl,r⟩
def Vals.zero:∀{us:List Ç},Vals [] us->us=[]
 |_,.nil=>rfl
theorem Vals.dropLast (h:Vals xs us):Vals xs.dropLast us.dropLast:=by
 induction h with
 |nil=>exact .nil
 |cons r t ih =>
  cases t with
  |nil=>exact .nil
  |cons q Z=>exact .cons r ih
theorem Vals.rep (h:Vals xs us):∀k:Nat,Vals (Ö k xs).flatten (Ö k us).flatten
 |0=>.nil
 |k+1=>by
  rw[ŏ,ŏ,Ő,Ő];exact Vals.append h (Vals.rep h k)
def Sb {α:Type} (l:List α):l.eraseIdx (l.length-1)=l.dropLast:=by
 induction l with
 |nil=>rfl
 |cons a r ih =>
  cases r with
  |nil=>rfl
  |cons b r =>
   have e:(a::b::r).length-1=((b::r).length-1)+1:=by
    have Z:(a::b::r).length=r.length+2:=rfl;have Y:(b::r).length=r.length+1:=rfl;omega
   rw[e,List.eraseIdx_cons_succ,ih]
   all_goals rfl
theorem foldl_rep (its:List Ç):∀(k:Nat) (acc:List Ç),
  List.foldl (λx1 x2=>x1++x2) acc.toArray (Ö k its.toArray)=(acc++(Ö k its).flatten).toArray
 |0,acc=>by simp
 |k+1,acc=>by
  have e:acc.toArray++its.toArray=(acc++its).toArray:=by simp
  have e2:(acc++its)++(Ö k its).flatten=acc++(Ö (k+1) its).flatten:=by
   rw[ŏ,Ő,Ĳ]
  rw[<- e2,<- foldl_rep its k (acc++its),<- e,ŏ,List.foldl_cons]
section
variable {X:Cx} {π:List (Þ×Obj)} {σ:St} {H:Hp} {s:Â} {l b:Þ} {xs ys zs:List V}
def Inv.OP {its its':List Ç} {n:Nat} {f:Array Ç->Array Ç} {t':Nat} (I:Inv X π σ H s) (hH:H l=ϊ (.lst xs))
  (e:s.heap.get? l=ϊ { cls:=.type "list",data:=.seq its.toArray n }) (hf:f its.toArray=its'.toArray) (hv:Vals ys its') (hz:ys.length<=Õ) :
  Inv X π σ (upd H l (.lst ys)) { s with heap:=s.heap.update l (ŝ f),toks:=t' }:=by
 have q:=PySem.IsL.update e f;rw[hf] at q;refine I.write (x:=l) (e:=l) (by rw[hH];exact trivial) (.inl rfl) (λW u Z Y=>(ν s.heap (ŝ f) (ź Z)).trans Y) ⟨_,q⟩ ?_;exact⟨hz,its',_,hv,q⟩
def Inv.OQ (I:Inv X π σ H s) (hv:Vals ys its) (hz:ys.length<=Õ) :
  Inv X π σ (upd H s.heap.objs.size (.lst ys)) { s with heap:=s.heap.push { cls:=.type "list",data:=.seq its.toArray },toks:=t' } :=
 I.laid (λ_ _ q=>Á _ q) (aeS _) ⟨hz,its,0,hv,Î _ rfl⟩
theorem Inv.fresh (I:Inv X π σ H s):H s.heap.objs.size=ϋ:=I.aI.fresh (aeS _)
def Inv.xx (I:Inv X π σ H s) (hH:H l=ϊ (.lst xs)):xs.length<=Õ/\∃(its:List Ç) (n:Nat),Vals xs its/\xs.length=its.length/\s.heap.get? l=ϊ { cls:=.type "list",data:=.seq its.toArray n }:=by
 obtain⟨z,its,n,r,e⟩:=I.aI l _ hH;exact⟨z,its,n,r,r.length,e⟩
def U0 (h:n<=Õ):adG n=ύ:=by
 delta adG;exact Ì ⋯
end
section
variable {X:Cx}
def WU:V->List V->Hp->VK->Prop:=λx Y H Q=>∃l Z y,x=.ref l/\Y=[y]/\H l=ϊ (.lst Z)/\Z.length<Õ/\Q .ar (upd H l (.lst (Z++[y])))
def Tr:Px X "list.append" WU:=by
 intro U s σ H x T v S Q I Y W h;obtain⟨l,R,y,rfl,rfl,Z,P,q⟩:=h;cases Y;obtain⟨u,rfl,V⟩:=W.one;obtain⟨z,its,n,r,O,e⟩:=I.xx Z;refine η F.slot_list_append ⟨_,e,rfl⟩ F.entry_list_append (F.args_list_append_2 _ _) (PySem.list_append l its.toArray n u (by rw[Ü];omega)) ⟨e,?_⟩;refine⟨.ar,_,I.OP (its':=its++[u]) Z e ∅ (r.append (.cons V .nil)) ?_,rfl,q⟩;rw[ä,aea];omega
def aca:V->List V->Hp->VK->Prop:=λx Y H Q=>∃l Z y,x=.ref l/\Y=[]/\H l=ϊ (.lst Z)/\Z[Z.length-1]?=ϊ y/\Q y (upd H l (.lst Z.dropLast))
def YK:Px X "list.pop" aca:=by
 intro O s σ H x N v M Q I W V h;obtain⟨l,L,y,rfl,rfl,Y,U,q⟩:=h;cases W;have Z:=V.zero;subst Z;obtain⟨z,its,n,r,T,e⟩:=I.xx Y;obtain⟨u,S,R⟩:=r.get U;have P:its.toArray[its.toArray.size-1]?=ϊ u:=by
  show its.toArray[its.length-1]?=ϊ u;rw[<- į,<- T];exact S
 refine η F.slot_list_pop ⟨_,e,rfl⟩ F.entry_list_pop (F.args_list_pop_1 _) (MeetsSeq.list_pop_last l its.toArray n u P (by rw[Ü];omega)) ⟨e,?_⟩;refine⟨y,_,I.OP (its':=its.dropLast) Y e ?_ r.dropLast ?_,R,q⟩
 ·show its.toArray.eraseIdxIfInBounds (its.toArray.size-1)=its.dropLast.toArray
  rw[Ü,List.eraseIdxIfInBounds_toArray,Sb]
 ·rw[List.length_dropLast]
  omega
def acb:R2:=λx y H Q=>∃l b Z zs,x=.ref l/\y=.ref b/\H l=ϊ (.lst Z)/\H b=ϊ (.lst zs)/\Z.length+zs.length<=Õ/\∀p,H p=ϋ->Q (.ref p) (upd H p (.lst (Z++zs)))
def YL:bM X (Ň .Add) acb:=by
 intro R s σ H x y v u Q I Y W h;obtain⟨l,b,O,zs,rfl,rfl,V,U,N,q⟩:=h;cases Y;cases W;obtain⟨z,its,n,r,M,e⟩:=I.xx V;obtain⟨L,Z,K,T,J,e2⟩:=I.xx U;refine PySem.P.add_list e e2 ?_ (by rw[Ü,Ü];omega);have S:its.toArray++Z.toArray=(its++Z).toArray:=by simp
 rw[S];exact⟨.ref _,_,I.OQ (t':=s.toks) (r.append T) (by rw[ä];omega),rfl,q _ I.fresh⟩
def acd:R2:=λx y H Q=>∃l k Z,x=.ref l/\y=.int k/\H l=ϊ (.lst Z)/\-(2 ^ 63)<=k/\k<2 ^ 63/\Z.length*k.toNat<=Õ /\
 ∀p,H p=ϋ->Q (.ref p) (upd H p (.lst (Ö k.toNat Z).flatten))
def len_rep {α:Type} (xs:List α) (k:Nat):(Ö k xs).flatten.length=k*xs.length:=by
 induction k with
 |zero=>simp
 |succ k ih=>rw[ŏ,Ő,ä,ih,Nat.succ_mul,Nat.add_comm]
def YM:bM X (Ň .Mult) acd:=by
 intro D s σ H x y v u Q I N M h;obtain⟨l,k,C,rfl,rfl,L,K,J,O,q⟩:=h;cases N;obtain⟨t,rfl⟩:=M;obtain⟨z,its,n,r,G,e⟩:=I.xx L;have Z:its.toArray.size*k.toNat<=Õ:=by rw[Ü,<- G];exact O
 have Y:¬ its.toArray.size*k.toNat > (2 ^ 63-1) / 8:=by
  have:(Õ:Nat)<=(2 ^ 63-1) / 8:=by decide
  omega
 have W:¬ (!Builtin.List.listFitsIndex k)=ό:=by
  rw[fitsIndex_both K J];exact Ä
 have V:¬ adG (its.toArray.size*k.toNat)=ό:=by
  rw[U0 Z];exact Ä
 have S:List.foldl (λR P=>R++P) #[] (Ö (if its.toArray.isEmpty=ό then 0 else k.toNat) its.toArray)=(Ö k.toNat its).flatten.toArray:=by
  have f0:∀m:Nat,List.foldl (λR P=>R++P) #[] (Ö m its.toArray)=(Ö m its).flatten.toArray:=λm=>by
   have:=foldl_rep its m [];rw[Ļ] at this;exact this
  rw[f0]
  cases its with
  |nil=>simp
  |cons a B=>rw[Ú ∅]
 refine wpAny_binaryOp_repeat_ref (T:="list") (U:="int") (by decide) ⟨_,e,rfl⟩ (λE=>typeIs_int E k t) noFill_list_mul F.fills_int_mul aes repeat_list F.slot_int_index.lookup
  (η aes (typeIs_int s k t) F.entry_int_rmul (F.args_int_rmul_2 _ _) (int___rmul___int_list k t l its.toArray n)
   ⟨e,rfl,⟨_,e,rfl⟩,η F.slot_list_mul ⟨_,e,rfl⟩ F.entry_list_mul (F.args_list_mul_2 _ _) (AutoListH.list___mul___list_int_3 l its.toArray n k t W Y V) ⟨e,?_⟩⟩)
 rw[S];exact⟨.ref _,_,I.OQ (t':=s.toks) (r.rep k.toNat) (by rw[len_rep,Nat.mul_comm];exact O),rfl,q _ I.fresh⟩
end
section
variable {prog:å} {w:ā} {A:í} {E:Ç->Â->Prop} {s:Â}
set_option maxRecDepth 100000 in
end
end L2
namespace Py
open PySem PySem.W PySem.Calls PyProof.Rows
def Qq:∀(ns:List Int) (vs:List Ç),WellAll P h vs (ns.map WData.int)->aej vs ns:=by
 intro ns
 induction ns with
 |nil =>
  intro vs w;rw[Ō] at w;cases w;exact .nil
 |cons n ns ih =>
  intro vs w;rw[à] at w
  cases w with
  |cons a b =>
   cases a;exact .cons _ _ (ih _ b)
def Ts {l:OpenLaw} {n:Nat} (hn:l.most=ϊ n) {P:Params} {h:ĺ} {args:List WData} {vals:List Ç}
  (Au:l.row.toRowW.claim.pre args=ό) (FV:WellAll P h vals args) :
  ∃a vs ns,vals=[ō a]/\args=[WData.list (ns.map WData.int)]/\h.get? a=ϊ { cls:=.type "list",data:=.seq vs.toArray }/\aej vs ns/\ns.length<=n:=by
 have W:WShape.hasAll [] args [.list .int]=ό:=(pre_splitW Au).1;have V:l.pre.holds [] { args:=args }=ό:=(pre_splitW Au).2;obtain⟨d,r,rfl,U,T⟩:=hasAllW_cons W;obtain rfl:=hasAllW_nil T;obtain⟨L,rfl,S⟩:=hasW_list U;obtain⟨ns,rfl⟩:=items_int S;have Z:ns.length<=n:=by
  delta OpenLaw.pre at V;have Y:(WTm.not (.lt (.lit (.int (n:Int))) (.len (.arg 0)))).holds [] { args:=[.list (ns.map .int)] }=ό:=by
   have Y:=(holds_andW V).1;rw[hn] at Y;exact Y
  have X:=condW_of Y (w_not (w_lt w_lit (w_len_list (w_arg rfl))));rw[É] at X;refine δ λq=>?_;have R:(n:Int)<((ns.length:Nat):Int):=by omega
  first
   |(rw[È R] at X;exact absurd X (by decide))
   |(simp at X;omega)
 cases FV with
 |cons Q O =>
  cases O
  cases Q with
  |list N M=>exact⟨_,_,ns,rfl,rfl,N,Qq ns _ M,Z⟩
def Tt (l:OpenLaw) (args:List WData):l.row.toRowW.claim.post args (.bool ό) args=ό :=
 postW_of (r:=l.row.toRowW) (X:=(ό==ό))
  (show WShape.has [] (.bool ό) .bool=ό by first|rfl|decide|simp[WShape.has,WShape.arms,WShape.armsAll])
  (show (WTm.eq .res (.lit (.bool ό))).value [] { args:=args,res:=ϊ (.bool ό),after:=args }=ϊ (.bool (ό==ό)) from w_eq_bool (w_res rfl) w_lit) rfl
def Rz {l:OpenLaw} {n:Nat} {q:å} {loose:List Str} {XP:(Str->Option Ç)->ĺ->Prop} {YP:ā->ĺ->Prop} {d:DefRec}
  (hn:l.most=ϊ n) (yd:d.params.defaults=[])
  (call:∀(w:ā) (df bJ:Â) (mg mb:Str->Option Ç) (fa:Þ) (o:Obj) (pm cd doc:Ç) (a:Þ) (vs:List Ç) (ns:List Int),
   Ground q loose [] XP w df mg mb bJ.heap->YP w bJ.heap ->
   bJ.heap.get? fa=ϊ o->o.data=.func (docDef d.name d.params d.body d.scope pm cd doc)->bJ.heap.CodeRec cd d.name->mg d.name=ϊ (.ref fa) ->
   bJ.heap.get? a=ϊ { cls:=.type "list",data:=.seq vs.toArray }->aej vs ns->ns.length<=n->bJ.gens=#[] ->
   ż (é l.prog w) callerA (.call (.ref fa) ⟨[.ref a],[]⟩) (λr s'=>r=.ok (.ret (.bool ό))/\OldK bJ.heap s'.heap/\s'.os=bJ.os/\aeJ s'.gens) bJ) :
  WalkO q loose XP YP l.row.toRowW d [] (λf vs=>PySem.call f vs):=by
 intro w df bJ mg mb G Y fa o pm cd doc W kV V U T X S R args vals as Q P O N F;obtain rfl:W=.none:=Dflts.none X yd;obtain rfl:kV=.none:=Dflts.noKw X;obtain⟨a,vs,ns,rfl,rfl,M,hints,Z⟩:=Ts hn Q N;refine enter_call (ŋ (call w df bJ mg mb fa o pm cd doc a vs ns G Y V (fd_plain U) T S M hints Z R) λr s' L=>?_);obtain⟨rfl,K,J,I⟩:=L
 exact⟨.inl ⟨.bool ό,.bool ό,[],rfl,λ_=>rfl,.bool ό,Tt l _,λ_=>⟨List.Pairwise.nil,λ_ H=>(nomatch H)⟩⟩,K,J,I⟩
section
variable {prog:å} {w:ā} {A:í} {E:Ç->Â->Prop} {s:Â} {K:đ}
def ledger (h:ĺ) (L d:Þ):List (Þ×Obj):=(è h.objs.size).filterMap λa=>if a=L\/a=d then ϋ else (h.get? a).map λo=>(a,o)
end
end Py
namespace L2
open PySem PySem.Spec PyProof.Rows
theorem Kd:∀{vs:List Ç} {ns:List Int},aej vs ns->Vals (ns.map V.int) vs
 |_,_,.nil=>.nil
 |_,_,.cons n t h=>.cons ⟨t,rfl⟩ (Kd h)
abbrev KOf {K:đ} {h:ĺ} (_:K.In h):đ:=K
def kR (s:aeg):aeG:=match s with
 | .FunctionDef _ a _ _ _ _ _ _ _ _=>a
 |_=>{ posonlyargs:=[],args:=[],vararg:=ϋ,kwonlyargs:=[],kw_defaults:=[],kwarg:=ϋ,defaults:=[] }
def gv (s:aeg):List aeg:=match s with
 | .FunctionDef _ _ b _ _ _ _ _ _ _=>b
 |_=>[]
def cA (s:aeg):ac5:=match s with
 | .FunctionDef _ _ _ _ _ _ sc _ _ _=>sc
 |_=>{ kind:=.function,names:=[],isGenerator:=ύ,isCoroutine:=ύ }
abbrev eG:jV:=λ_ _ _ _ _ _=>False
abbrev E0:XK:=λ_ _ _=>False
def aaC:Passes eG X E0:=λ_ _ _ _ _ _ _ h=>h.elim
structure pB (K:đ) (x qual:Str) (st:aeg) (f:Þ) (fd:Ģ):Prop where
 ex:∃(oc:Ç) (od:Option Þ) (kV doc pm:Ç) (an:Option Þ) (aY ct:Ç) (jt:Array (Option Ç)),
  fd=Ś x qual (kR st) (gv st) (cA st) .none kV doc pm an aY ct/\K.lookup f=ϊ ⟨oc,od,.func fd,jt⟩/\adj K aY qual=ό
 kp:Œ K (.ref f)=ό
section
variable {P:å} {w:ā} {K:đ} {mg:Str->Option Ç} {base:ĺ}
def pB.ok {x qual:Str} {st:aeg} {f:Þ} {fd:Ģ} {N ps:List Str} {k:Nat} {sp:Sp} (F:pB K x qual st f fd) (S:sI N ps (cA st)) (len:∀vs H Q E,sp vs H Q E->vs.length=ps.length)
  (lg:∀(aY:Ç) (A:í) (outer:List Env) (s:Â) (H:Hp) (vs:List V) (Q:VK) (E:XK),bK k (A.deeper (aeN qual (cA st) s.heap.objs.size f aY))->sp vs H Q E ->
   ∃t,dh (ie eG P w K mg base N qual (cA st) f aY A outer s H E).nV (gv st) t/\t { nx:=λ_ H'=>Q .ar H',rt:=Q } (start N vs) H):cW P w K mg base eG (k+1) f fd ps sp:=by
 obtain⟨W,U,kV,doc,pm,an,aY,T,R,rfl,lk,Z⟩:=F.ex;refine Aa lk Z S len λA outer s H vs Q E Y X=>?_;obtain⟨t,h,q⟩:=lg aY A outer s H vs Q E Y X;exact⟨t,h.nV,q⟩
def pB.binds {x qual:Str} {st:aeg} {f:Þ} {fd:Ģ} {ps:List Str} (F:pB K x qual st f fd)
  (h:∀(kV doc pm:Ç) (an:Option Þ) (aY ct:Ç) (us:List Ç),us.length=ps.length->bindArgs (Ś x qual (kR st) (gv st) (cA st) .none kV doc pm an aY ct) ⟨us,[]⟩=pure (ps.zip us)):Binds K fd ps []:=by
 obtain⟨Z,Y,kV,doc,pm,an,aY,ct,X,rfl,lk,W⟩:=F.ex;exact .all (h kV doc pm an aY ct)
def zE {x qual:Str} {st:aeg} {f:Þ} {oc:Ç} {od an:Option Þ} {jt:Array (Option Ç)} {kV doc pm aY ct:Ç} (l:K.lookup f=ϊ ⟨oc,od,.func (Ś x qual (kR st) (gv st) (cA st) .none kV doc pm an aY ct),jt⟩)
  (c:adj K aY qual=ό) (k:Œ K (.ref f)=ό):pB K x qual st f (Ś x qual (kR st) (gv st) (cA st) .none kV doc pm an aY ct):=⟨⟨oc,od,kV,doc,pm,an,aY,ct,jt,rfl,l,c⟩,k⟩
end
def lr (H H':Hp):Prop:=∀b o,H b=ϊ o->H' b=ϊ o
def lr.refl (H:Hp):lr H H:=λ_ _ h=>h
def Sd (J:Nat->Â->Prop)
 (turn:∀n s,J n s->á (é P w) A (adg ix) (λr s1=>match r with
   |none=>R (.ok .next) s1
   |some v=>á (é P w) A (œ tg ix v) (λ_ s2=>á (é P w) A (aeM tg ce v) (λ_ s3 =>
     á (é P w) A (forIn tests ό λc r=>if r=ό then do let ok <- isTrue c ce (ķ c ce);pure (ň ok) else pure (ň r)) (λok s4 =>
      if ok=ό then á (é P w) A (ķ el ce) (λy s5=>á (é P w) A (call (.builtin "list.append") [av,y]) (λ_ s6=>∃m,m<n/\J m s6) (λ_ _=>False) s5) (λ_ _=>False) s4
      else ∃m,m<n/\J m s4) (λ_ _=>False) s3) (λ_ _=>False) s2) (λ_ _=>False) s1) (λ_ _=>False) s)
 (n:Nat) (h:J n s):ż (é P w) A (.compLoop (.ListComp el [⟨tg,src,tests,0⟩] sc ps) 0 ix av ce) R s:=by
 refine codeAny_loop rfl J (λn s X=>?_) n h
 show á _ A ((compTurn (.ListComp el [⟨tg,src,tests,0⟩] sc ps) 0 ix av ce).onRaise (λx=>do noteFrame x ce;theTreesLotGoes x)) _ _ s
 refine wpAny_noted ?_;rw[compTurn_list];refine À (Ż (À (ė (turn n s X) (λr s1 Z=>?_) λ_ _ z=>z.elim)))
 cases r with
 |none=>exact Ã Z
 |some v =>
  refine À (ė Z (λ_ s2 W=>?_) λ_ _ z=>z.elim);refine À (ė W (λ_ s3 V=>À (ė V (λok s4 Y=>?_) λ_ _ z=>z.elim)) λ_ _ z=>z.elim)
  cases ok with
  |false=>exact Ã ⟨rfl,Y⟩
  |true =>
   exact À (À (ė Y (λy s5 U=>À (ė U (λ_ s6 T=>Ã (Ã ⟨rfl,T⟩)) λ_ _ z=>z.elim)) λ_ _ z=>z.elim))
theorem B7 (env:Env):∀(l:List (Str×Ű)) (acc:List (Str×Þ)),(∀n,(n,î)∈l->∃c,env.cells.lookup n=ϊ c) ->
  ∃cl,(forIn l acc (λ(p:Str×Ű) (cs:List (Str×Þ))=>(do
   if (p.2==î)=ό then do let c <- cellOf env p.1;pure (ň ((p.1,c)::cs)) else pure (ň cs):Sem (ForInStep (List (Str×Þ))))))=pure cl /\
   ∀n c,cl.lookup n=ϊ c↔(((n,î)∈l/\env.cells.lookup n=ϊ c)\/((n,î)∉l/\acc.lookup n=ϊ c))
 | [],acc,_=>⟨acc,rfl,λn c=>by simp⟩
 |(x,k)::r,acc,h=>by
  rw[adO]
  cases Y:(k==î) with
  |false =>
   have U:k≠.free:=by intro e;rw[e] at Y;cases Y
   obtain⟨cl,e,q⟩:=B7 env r acc λn X=>h n (Ï _ X);refine⟨cl,?_,λn c=>?_⟩
   ·erw[Æ,ï]
    exact e
   ·rw[q n c]
    have:(n,î)∈(x,k)::r↔(n,î)∈r:=by
     constructor
     ·intro Z
      rcases Û.mp Z with z|z
      ·injection z with _ T
       exact absurd T.symm U
      ·exact z
     ·exact Ï _
    rw[this]
  |true =>
   have S:k=.free:=by cases k<;>first|rfl|cases Y
   subst S;obtain⟨R,W⟩:=h x ß;obtain⟨cl,e,q⟩:=B7 env r ((x,R)::acc) λn X=>h n (Ï _ X);refine⟨cl,?_,λn c=>?_⟩
   ·erw[ò,cellOf,W]
    exact e
   ·rw[q n c]
    by_cases V:n=x
    ·subst V
     constructor
     ·rintro (⟨_,z⟩ | ⟨_,z⟩)
      ·exact .inl ⟨ß,z⟩
      ·rw[ē,Ė] at z
       exact .inl ⟨ß,W.trans z⟩
     ·rintro (⟨_,z⟩ | ⟨z,_⟩)
      ·by_cases Z:(n,î)∈r
       ·exact .inl ⟨Z,z⟩
       ·refine .inr ⟨Z,?_⟩
        rw[ē,Ė];exact W.symm.trans z
      ·exact absurd ß z
    ·have:(n,î)∈(x,î)::r↔(n,î)∈r:=by
      constructor
      ·intro Z
       rcases Û.mp Z with z|z
       ·injection z with Q _
        exact absurd Q V
       ·exact z
      ·exact Ï _
     rw[this,ē,beq_false_of_ne V]
def MI (h:∀n,(n,î)∈sc.names->∃c,env.cells.lookup n=ϊ c) :
  ∃cl,closureFor sc env=pure cl/\∀n c,cl.lookup n=ϊ c↔((n,î)∈sc.names/\env.cells.lookup n=ϊ c):=by
 obtain⟨cl,e,q⟩:=B7 env sc.names [] h;refine⟨cl,?_,λn c=>?_⟩
 ·delta closureFor
  exact(Ń (λz:Sem (List (Str×Þ))=>z >>= λr=>pure r) e)
 ·rw[q n c]
  simp
theorem KQ (f:Str->Ű->Ű) (x:Str):∀l:List (Str×Ű),(l.map λp=>(p.1,f p.1 p.2)).lookup x=(l.lookup x).map (f x)
 | []=>rfl
 |(n,k)::r=>by
  rw[à,ē,ē]
  cases h:x==n with
  |true =>
   have e:x=n:=by simpa using h
   subst e;rfl
  |false=>exact KQ f x r
def yL (sc:ac5) (env:Env) (x:Str):(relabel sc env).names.lookup x=(sc.names.lookup x).map λk=>if (k==î&&env.scope.kind==.function&&env.kindOf x==ϊ .cell)=ό then NameKind.cell else k:=by
 rw[<- KQ (λx k=>if (k==î&&env.scope.kind==.function&&env.kindOf x==ϊ .cell)=ό then NameKind.cell else k)]
 show adx x (sc.names.map _)=_;congr 1;apply List.map_congr_left;rintro ⟨n,k⟩ _;dsimp only
 split<;>rfl
abbrev eV (X:Cx) (N:List Str) (sc:ac5) (cl:List (Str×Þ)) (C:Þ) (s:Â) (H:Hp) (ex:List Þ) (pn:List (Þ×Obj)):Cx where
 prog:=X.prog
 w:=X.w
 K:=X.K
 mg:=X.mg
 base:=X.base
 A:=X.A
 N:=N
 df:=s
 mx:=H
 env:=compEnvC sc cl C X.env
 outer:=X.stack
 stack:=X.stack
 ex:=ex
 fn:=λ_=>ύ
 calm:=X.calm
 pn:=pn
 xe:=λ_ _=>False
structure wo (X:Cx) (sc:ac5) (N:List Str) (nt:Nat) (cap:List Nat):Prop where
 kind:sc.kind=.function
 wq:∀x∈sc.names,x.2≠.cell
 names:∀x∈sc.names,x.2=.local->sc.names.lookup x.1=ϊ .local
 frees:∀x∈sc.names,x.2=.free->sc.names.lookup x.1=ϊ .free/\(X.env.scope.names.lookup x.1=ϊ .cell\/X.env.scope.names.lookup x.1=ϊ .free)
 len:N.length=nt+cap.length
 E8:∀(k:Nat) j,cap[k]?=ϊ j->∃x,X.N[j]?=ϊ x/\N[nt+k]?=ϊ x/\(x,î)∈sc.names
def md (nt:Nat) (cap:List Nat) (σ:St):St:=Ö nt ϋ++cap.map λj=>(σ[j]?).getD ϋ
def PF (X:Cx) (tests:List ě) (t:TT):Prop :=
 ∀(Z:List (Þ×Obj)) (s:Â) (σ:St) (H:Hp) (Q:Bool->Hp->Prop),Inv X Z σ H s->t σ H Q ->
  á (é X.prog X.w) X.A (forIn tests ό λc r=>if r=ό then do let ok <- isTrue c X.env (ķ c X.env);pure (ň ok) else pure (ň r)) (TP X Z σ Q) X.xe s
def ach:TT:=λ_ H Q=>Q ό H
def YN:PF X [] ach:=λ_ _ _ H _ I h=>wpAny_tests_nil ⟨H,I,h⟩
def YO (h:PT X c t):PF X [c] t:=λZ s σ H Q I hw=>wpAny_tests_one (h Z s σ H Q I hw)
def pC (g:TG) (nt:Nat):Prop:=∀(x:V) (o Z:St) (H:Hp) (R:St->Hp->Prop),o.length=nt->g x (o++Z) H R->g x (o++Z) H fun Y W=>(∃X:St,X.length=nt/\Y=X++Z)/\R Y W
def nG (cap:List Nat) (σ:St):St:=cap.map λj=>(σ[j]?).getD ϋ
def PB (mk:Þ->List V->HO) (lP:List V->Prop) (J:It) (nt:Nat) (caps:St) (g:TG) (tf:TT) (te:TE) (H:Hp) (Q:VK):Prop:=∃W:Nat->Nat->List V->Hp->Prop,(∃m,W 0 m [] H) /\
 ∀i m Z Y,W i m Z Y->(J.stop i Y/\lP Z/\∀D,Y D=ϋ->Q (.ref D) (upd Y D (mk D Z))) \/
  (J.go i Y/\lP Z/\∃N:List V->Hp->Prop,(∀X U,N X U->∃T,T < m/\W (i+1) T X U) /\
   ∀o x S,o.length=nt->J.uM i Y x S->g x (o++caps) S fun R O=>tf R O λb P=>if b=ό then te R P λv M=>N (Z++[v]) M else N Z P)
def CW (J:It) (nt:Nat) (caps:St) (g:TG) (tf:TT) (te:TE) (H:Hp) (Q:VK):Prop:=PB (λ_ Z=>.lst Z) (λZ=>Z.length<=Õ) J nt caps g tf te H Q
def wO (wi:TI) (nt:Nat) (cap:List Nat) (g:TG) (tf:TT) (te:TE):TE:=fun σ H Q=>wi σ H λJ Z=>CW J nt (nG cap σ) g tf te Z Q
section
variable {fs ex:List Þ} {H H':Hp} {h h1 h2:ĺ} {P:å} {w:ā}
def Un.adopt {D:Þ} {o:HO} (u:Un fs ex H H' h h1) (hp:h.objs.size<=D) (hn:H' D=ϋ):Un fs ex H (upd H' D o) h h1 where
 keep:=u.keep
 slot:=u.slot
 free:=λb Y q n X=>by rw[bt (ã (Ê (Ð q) hp))];exact u.free b Y q n X
 there:=u.there
 gk:=λb Z q=>by rw[bt (dD (u.gk b Z q) hn)];exact u.gk b Z q
 fy:=λb Y Z q=>by rw[bt (dD (u.fy b Y Z q) hn)];exact u.fy b Y Z q
 gm:=λb W q=>by
  obtain⟨more,e⟩:=u.gm b W q;exact⟨more,by rw[bt (dD e hn)];exact e⟩
def Un.but {C:Þ} (u:Un fs ex H H' h h1) (hp:h.objs.size<=C) (sb:Ĭ C h1 h2):Un fs ex H H' h h2:=by
 have ne:∀b Z,h.get? b=ϊ Z->b≠C:=λb Z q=>ã (Ê (Ð q) hp);refine⟨λb Z q n X Y=>(sb.2 b (ne b Z q)).trans (u.keep b Z q n X Y),λb Z q n X Y=>?_,u.free,λb Z q Y=>?_,u.gk,u.fy,u.gm⟩
 ·obtain⟨sl,e⟩:=u.slot b Z q n X Y
  exact⟨sl,(sb.2 b (ne b Z q)).trans e⟩
 ·obtain⟨W,e⟩:=u.there b Z q Y
  exact⟨W,(sb.2 b (ne b Z q)).trans e⟩
def cN.but (x:cN P w H h1) (hn:H C=ϋ) (sb:Ĭ C h1 h2):cN P w H h2:=λa o e =>
 (x a o e).iG (λb u Z q=>(sb.2 b (by
  rintro rfl
  rcases Z with z|z
  ·subst z;rw[hn] at e;cases e
  ·rw[hn] at z;cases z)).trans q) (λ_ q=>q) λ_ _ q=>q
def cN.adopt (x:cN P w H h) (hn:H D=ϋ) (new:eQ P w (upd H D o) h D o):cN P w (upd H D o) h:=λb u e=>by
 by_cases Z:b=D
 ·subst Z;rw[cP] at e;cases e;exact new
 ·rw[bt Z] at e
  exact(x b u e).iG (λc v _ q=>q) (λc q=>by rw[bt (dD q hn)];exact q) λc Y q=>by rw[bt (dD q hn)];exact q
end
section
variable {X:Cx} {sc:ac5} {N:List Str} {nt:Nat} {cap:List Nat} {cl:List (Str×Þ)} {s:Â} {h1:ĺ} {H:Hp} {σ:St} {π:List (Þ×Obj)} {fp:List Þ} {C:Þ} {t':Nat}
def Inv.block (I:Inv X π σ H s) (S:wo X sc N nt cap) (dj:∀n c,cl.lookup n=ϊ c↔((n,î)∈sc.names/\X.env.cells.lookup n=ϊ c)) (hf:∀b∈fp,gn X π H b) (gJ:∀b∈fp,b<s.heap.objs.size)
  (hk:∀b o,s.heap.get? b=ϊ o->h1.get? b=ϊ o) (hC:s.heap.objs.size<=C) (pE:∃m,h1.Ns C m):Inv (eV X N sc cl C s H fp (X.pn++π)) [] (md nt cap σ) H { s with heap:=h1,toks:=t' }:=by
 have Q:∀b∈cL X.stack,b∈X.env.locals::X.fs:=I.kY;have L:C∉cL X.stack:=λz=>by
  rcases Û.mp (I.kY C z) with e|e
  ·exact absurd (Ê I.lt hC) (by rw[e];exact ñ _)
  ·exact I.xr hC e
 have K:∀x,(relabel sc X.env).names.lookup x=ϊ .cell\/(relabel sc X.env).names.lookup x=ϊ .free->(x,î)∈sc.names:=λx Z=>by
  rw[yL] at Z
  cases e:sc.names.lookup x with
  |none=>rw[e] at Z;rcases Z with z|z<;>cases z
  |some k =>
   have Y:(x,k)∈sc.names:=by
    obtain⟨l1,l2,e1,_⟩:=List.lookup_eq_some_iff.mp e;rw[e1];simp
   rw[e] at Z
   cases k with
   |free=>exact Y
   |cell=>exact absurd rfl (S.wq _ Y)
   |_=>exfalso;revert Z;simp
 have J:∀x,(x,î)∈sc.names->∃c,X.env.cells.lookup x=ϊ c:=λx Z=>I.ok.has x (S.frees _ Z rfl).2;have ok:Cx.Ok (eV X N sc cl C s H fp (X.pn++π)):=by
  refine⟨I.ok.mod,?_,I.ok.glob,I.ok.blt,hC,?_,?_,?_,I.ok.hd,I.ok.frames,.inl rfl,?_,I.bs,Ý I.ok.iX I.sz,?_,?_,I.stack,I.vY⟩
  ·exact S.kind
  ·intro x y c Z G
   exact I.ok.inj x y c ((dj x c).mp Z).2 ((dj y c).mp G).2
  ·intro x Z
   have Y:=K x Z;obtain⟨c,e⟩:=J x Y;exact⟨c,(dj x c).mpr ⟨Y,e⟩⟩
  ·intro x c Z
   cases Z
  ·intro b W
   refine⟨ã (Ê (gJ b W) hC),λx c e=>?_⟩;exact(hf b W).2.2.2.2.1 x c ((dj x c).mp e).2
  ·intro b o e W
   rcases(hf b W).2.2.2.1 with z|z
   ·exact I.ok.oT b o e z
   ·exact absurd (Ê (Ð e) (Ý I.ok.iX z)) (ñ _)
  ·intro b W z
   rcases Û.mp (Q b z) with e|e
   ·exact(hf b W).2.1 e
   ·exact(hf b W).2.2.1 e
 obtain⟨m,Y⟩:=pE;obtain⟨mX,F,E⟩:=I.loc;refine⟨ok,rfl,I.bare,Un.kept hk,⟨m,Y,λi x v e1 e2 e3=>?_⟩,λx c e=>?_,I.aI.fresh hC,λx c e=>I.je x c ((dj x c).mp e).2,λp D=>?_,I.aI.kept hk,?_⟩
 ·
  have P:nt<=i:=by
   apply δ;intro O;have:(md nt cap σ)[i]?=ϊ ϋ:=by
    delta md;rw[ç (by simpa using O),ı,Ñ O]
   rw[this] at e2;cases e2
  have V:(cap.map λj=>(σ[j]?).getD ϋ)[i-nt]?=ϊ (ϊ v):=by
   have e:=e2;delta md at e;rw[ð (by simpa using P)] at e;simpa using e
  rw[ê] at V
  cases U:cap[i-nt]? with
  |none=>rw[U] at V;cases V
  |some j =>
   rw[U] at V;have ev:(σ[j]?).getD ϋ=ϊ v:=aeT V;have B:σ[j]?=ϊ (ϊ v):=by
    cases q:σ[j]? with
    |none=>rw[q] at ev;cases ev
    |some z=>rw[q] at ev;exact Ń ϊ ev
   obtain⟨y,f1,f2,M⟩:=S.E8 _ _ U;rw[Nat.add_sub_cancel' P] at f2;have A:y=x:=aeT (f2.symm.trans e1);subst A;obtain⟨g1,g2⟩:=S.frees _ M rfl;have w:qY X.env.scope y:=.inr g2;obtain⟨u,r,l⟩:=E j y v f1 B w;refine⟨u,r,.inr ⟨?_,?_⟩⟩
   ·show (relabel sc X.env).names.lookup y=ϊ .cell\/(relabel sc X.env).names.lookup y=ϊ .free
    rw[yL,g1];erw[abI];split
    ·exact .inl rfl
    ·exact .inr rfl
   ·rcases l with ⟨k,_⟩ | ⟨_,c,t,h⟩
    ·exfalso
     have g:X.env.scope.names.lookup y=ϊ .local:=k;dsimp only at g2;rw[g] at g2
     rcases g2 with z|z<;>cases z
    ·obtain⟨T,R,hd⟩:=h
     exact⟨c,(dj y c).mpr ⟨M,t⟩,T,hk _ _ R,hd⟩
 ·obtain⟨v,T,R,hd⟩:=I.cell x c ((dj x c).mp e).2
  exact⟨v,T,hk _ _ R,hd⟩
 ·have f:p∈X.pn++π:=by simpa using D
  obtain⟨e,n,ne,a,d⟩:=I.pin p f;refine⟨hk _ _ e,n,ã (Ê (Ð e) hC),λz=>?_,d⟩
  rcases Û.mp (Q p.1 z) with q|q
  ·exact ne q
  ·exact a q
 ·delta md
  rw[ä,ω,É];exact S.len.symm
end
inductive Kn where
 |ar|bl|int|str|tup|lst|cx
 deriving DecidableEq
def uQ (K:đ) (H:Hp):V->Kn->Prop
 | .ar,.ar=>True
 | .bl _,.bl=>True
 | .int _,.int=>True
 | .str _,.str=>True
 | .ref a,.tup=>∃Z,bR K H a Z
 | .ref a,.lst=>∃Z,bY K H a Z
 | .ref a,.cx=>∃Y,H a=ϊ (.dK Y)
 |_,_=>False
def ug:Kn->String->Bool
 | .int,"int"=>ό
 | .bl,"int"=>ό
 | .bl,"bool"=>ό
 | .str,"str"=>ό
 | .tup,"tuple"=>ό
 | .lst,"list"=>ό
 |_,_=>ύ
section
variable {X:Cx}
def Inv.wu {π:List (Þ×Obj)} {σ:St} {H:Hp} {s:Â} {a:Þ} {xs:List V} (I:Inv X π σ H s) (h:bR X.K H a xs):∃o,s.heap.get? a=ϊ o/\o.cls=.type "tuple":=by
 obtain⟨its,r,⟨o,e,c,_⟩,_⟩:=I.tuple h;exact⟨o,e,c⟩
def Inv.wx {π:List (Þ×Obj)} {σ:St} {H:Hp} {s:Â} {a:Þ} {xs:List V} (I:Inv X π σ H s) (h:bY X.K H a xs):∃o,s.heap.get? a=ϊ o/\o.cls=.type "list":=by
 obtain⟨its,r,⟨o,n,e,c,_⟩,_⟩:=I.list h;exact⟨o,e,c⟩
def Inv.wy {π:List (Þ×Obj)} {σ:St} {H:Hp} {s:Â} {a:Þ} {aT:List (Key×V)} (I:Inv X π σ H s) (h:H a=ϊ (.dK aT)):∃o,s.heap.get? a=ϊ o/\o.cls=.type "dict":=by
 obtain⟨_,_,W,_,p⟩:=(show eQ X.prog X.w H s.heap a (.dK aT) from I.aI a _ h);obtain⟨o,U,T,Z,Y,_⟩:=p;exact⟨o,Z,Y.1⟩
def Q5:cU X (.builtin "isinstance") (λxs H Q=>∃x k,xs=[x,.ty "int"]/\uQ X.K H x k/\Q (.bl (ug k "int")) H):=by
 intro T s σ H xs S Q I r h;obtain⟨x,k,rfl,Z,q⟩:=h;obtain⟨u,c,rfl,Y,rc⟩:=vals2 r;cases rc
 cases k with
 |ar =>
  cases x with
  |ar =>
   cases Y;exact IsiPair.NoneType_int ⟨.bl ύ,H,I.tok _,rfl,q⟩
  |_=>exact Z.elim
 |bl =>
  cases x with
  |bl b =>
   cases Y;exact IsiPair.bool_int ⟨.bl ό,H,I,rfl,q⟩
  |_=>exact Z.elim
 |int =>
  cases x with
  |int i =>
   obtain⟨t,rfl⟩:=Y;exact IsiPair.int_int ⟨.bl ό,H,I,rfl,q⟩
  |_=>exact Z.elim
 |str =>
  cases x with
  |str y =>
   obtain⟨t,rfl⟩:=Y;exact IsiPair.str_int ⟨.bl ύ,H,I.tok _,rfl,q⟩
  |_=>exact Z.elim
 |tup =>
  cases x with
  |ref a =>
   cases Y;obtain⟨z,W⟩:=Z;obtain⟨o,V,U⟩:=I.wu W;exact IsiPair.tuple_int V U ⟨.bl ύ,H,I.tok _,rfl,q⟩
  |_=>exact Z.elim
 |lst =>
  cases x with
  |ref a =>
   cases Y;obtain⟨z,W⟩:=Z;obtain⟨o,V,U⟩:=I.wx W;exact IsiPair.list_int V U ⟨.bl ύ,H,I.tok _,rfl,q⟩
  |_=>exact Z.elim
 |cx =>
  cases x with
  |ref a =>
   cases Y;obtain⟨z,W⟩:=Z;obtain⟨o,V,U⟩:=I.wy W;exact IsiPair.dict_int V U ⟨.bl ύ,H,I.tok _,rfl,q⟩
  |_=>exact Z.elim
def QH:cU X (.builtin "isinstance") (λxs H Q=>∃x k,xs=[x,.ty "bool"]/\uQ X.K H x k/\Q (.bl (ug k "bool")) H):=by
 intro T s σ H xs S Q I r h;obtain⟨x,k,rfl,Z,q⟩:=h;obtain⟨u,c,rfl,Y,rc⟩:=vals2 r;cases rc
 cases k with
 |ar =>
  cases x with
  |ar =>
   cases Y;exact IsiPair.NoneType_bool ⟨.bl ύ,H,I.tok _,rfl,q⟩
  |_=>exact Z.elim
 |bl =>
  cases x with
  |bl b =>
   cases Y;exact IsiPair.bool_bool ⟨.bl ό,H,I,rfl,q⟩
  |_=>exact Z.elim
 |int =>
  cases x with
  |int i =>
   obtain⟨t,rfl⟩:=Y;exact IsiPair.int_bool ⟨.bl ύ,H,I.tok _,rfl,q⟩
  |_=>exact Z.elim
 |str =>
  cases x with
  |str y =>
   obtain⟨t,rfl⟩:=Y;exact IsiPair.str_bool ⟨.bl ύ,H,I.tok _,rfl,q⟩
  |_=>exact Z.elim
 |tup =>
  cases x with
  |ref a =>
   cases Y;obtain⟨z,W⟩:=Z;obtain⟨o,V,U⟩:=I.wu W;exact IsiPair.tuple_bool V U ⟨.bl ύ,H,I.tok _,rfl,q⟩
  |_=>exact Z.elim
 |lst =>
  cases x with
  |ref a =>
   cases Y;obtain⟨z,W⟩:=Z;obtain⟨o,V,U⟩:=I.wx W;exact IsiPair.list_bool V U ⟨.bl ύ,H,I.tok _,rfl,q⟩
  |_=>exact Z.elim
 |cx =>
  cases x with
  |ref a =>
   cases Y;obtain⟨z,W⟩:=Z;obtain⟨o,V,U⟩:=I.wy W;exact IsiPair.dict_bool V U ⟨.bl ύ,H,I.tok _,rfl,q⟩
  |_=>exact Z.elim
def Q6:cU X (.builtin "isinstance") (λxs H Q=>∃x k,xs=[x,.ty "str"]/\uQ X.K H x k/\Q (.bl (ug k "str")) H):=by
 intro T s σ H xs S Q I r h;obtain⟨x,k,rfl,Z,q⟩:=h;obtain⟨u,c,rfl,Y,rc⟩:=vals2 r;cases rc
 cases k with
 |ar =>
  cases x with
  |ar =>
   cases Y;exact IsiPair.NoneType_str ⟨.bl ύ,H,I.tok _,rfl,q⟩
  |_=>exact Z.elim
 |bl =>
  cases x with
  |bl b =>
   cases Y;exact IsiPair.bool_str ⟨.bl ύ,H,I.tok _,rfl,q⟩
  |_=>exact Z.elim
 |int =>
  cases x with
  |int i =>
   obtain⟨t,rfl⟩:=Y;exact IsiPair.int_str ⟨.bl ύ,H,I.tok _,rfl,q⟩
  |_=>exact Z.elim
 |str =>
  cases x with
  |str y =>
   obtain⟨t,rfl⟩:=Y;exact IsiPair.str_str ⟨.bl ό,H,I,rfl,q⟩
  |_=>exact Z.elim
 |tup =>
  cases x with
  |ref a =>
   cases Y;obtain⟨z,W⟩:=Z;obtain⟨o,V,U⟩:=I.wu W;exact IsiPair.tuple_str V U ⟨.bl ύ,H,I.tok _,rfl,q⟩
  |_=>exact Z.elim
 |lst =>
  cases x with
  |ref a =>
   cases Y;obtain⟨z,W⟩:=Z;obtain⟨o,V,U⟩:=I.wx W;exact IsiPair.list_str V U ⟨.bl ύ,H,I.tok _,rfl,q⟩
  |_=>exact Z.elim
 |cx =>
  cases x with
  |ref a =>
   cases Y;obtain⟨z,W⟩:=Z;obtain⟨o,V,U⟩:=I.wy W;exact IsiPair.dict_str V U ⟨.bl ύ,H,I.tok _,rfl,q⟩
  |_=>exact Z.elim
def Qv:cU X (.builtin "isinstance") (λxs H Q=>∃x k,xs=[x,.ty "tuple"]/\uQ X.K H x k/\Q (.bl (ug k "tuple")) H):=by
 intro T s σ H xs S Q I r h;obtain⟨x,k,rfl,Z,q⟩:=h;obtain⟨u,c,rfl,Y,rc⟩:=vals2 r;cases rc
 cases k with
 |ar =>
  cases x with
  |ar =>
   cases Y;exact IsiPair.NoneType_tuple ⟨.bl ύ,H,I.tok _,rfl,q⟩
  |_=>exact Z.elim
 |bl =>
  cases x with
  |bl b =>
   cases Y;exact IsiPair.bool_tuple ⟨.bl ύ,H,I.tok _,rfl,q⟩
  |_=>exact Z.elim
 |int =>
  cases x with
  |int i =>
   obtain⟨t,rfl⟩:=Y;exact IsiPair.int_tuple ⟨.bl ύ,H,I.tok _,rfl,q⟩
  |_=>exact Z.elim
 |str =>
  cases x with
  |str y =>
   obtain⟨t,rfl⟩:=Y;exact IsiPair.str_tuple ⟨.bl ύ,H,I.tok _,rfl,q⟩
  |_=>exact Z.elim
 |tup =>
  cases x with
  |ref a =>
   cases Y;obtain⟨z,W⟩:=Z;obtain⟨o,V,U⟩:=I.wu W;exact IsiPair.tuple_tuple V U ⟨.bl ό,H,I,rfl,q⟩
  |_=>exact Z.elim
 |lst =>
  cases x with
  |ref a =>
   cases Y;obtain⟨z,W⟩:=Z;obtain⟨o,V,U⟩:=I.wx W;exact IsiPair.list_tuple V U ⟨.bl ύ,H,I.tok _,rfl,q⟩
  |_=>exact Z.elim
 |cx =>
  cases x with
  |ref a =>
   cases Y;obtain⟨z,W⟩:=Z;obtain⟨o,V,U⟩:=I.wy W;exact IsiPair.dict_tuple V U ⟨.bl ύ,H,I.tok _,rfl,q⟩
  |_=>exact Z.elim
def QI:cU X (.builtin "isinstance") (λxs H Q=>∃x k,xs=[x,.ty "list"]/\uQ X.K H x k/\Q (.bl (ug k "list")) H):=by
 intro T s σ H xs S Q I r h;obtain⟨x,k,rfl,Z,q⟩:=h;obtain⟨u,c,rfl,Y,rc⟩:=vals2 r;cases rc
 cases k with
 |ar =>
  cases x with
  |ar =>
   cases Y;exact IsiPair.NoneType_list ⟨.bl ύ,H,I.tok _,rfl,q⟩
  |_=>exact Z.elim
 |bl =>
  cases x with
  |bl b =>
   cases Y;exact IsiPair.bool_list ⟨.bl ύ,H,I.tok _,rfl,q⟩
  |_=>exact Z.elim
 |int =>
  cases x with
  |int i =>
   obtain⟨t,rfl⟩:=Y;exact IsiPair.int_list ⟨.bl ύ,H,I.tok _,rfl,q⟩
  |_=>exact Z.elim
 |str =>
  cases x with
  |str y =>
   obtain⟨t,rfl⟩:=Y;exact IsiPair.str_list ⟨.bl ύ,H,I.tok _,rfl,q⟩
  |_=>exact Z.elim
 |tup =>
  cases x with
  |ref a =>
   cases Y;obtain⟨z,W⟩:=Z;obtain⟨o,V,U⟩:=I.wu W;exact IsiPair.tuple_list V U ⟨.bl ύ,H,I.tok _,rfl,q⟩
  |_=>exact Z.elim
 |lst =>
  cases x with
  |ref a =>
   cases Y;obtain⟨z,W⟩:=Z;obtain⟨o,V,U⟩:=I.wx W;exact IsiPair.list_list V U ⟨.bl ό,H,I,rfl,q⟩
  |_=>exact Z.elim
 |cx =>
  cases x with
  |ref a =>
   cases Y;obtain⟨z,W⟩:=Z;obtain⟨o,V,U⟩:=I.wy W;exact IsiPair.dict_list V U ⟨.bl ύ,H,I.tok _,rfl,q⟩
  |_=>exact Z.elim
end
section
variable {X:Cx} {es:List ě} {t:TA} {pos:Pos}
def KR {bs:List Bool} (r:Vals (bs.map V.bl) its):TruthOf X.prog X.w A (λi v=>its.toArray[i]?=ϊ v) (λi=>bs.getD i ύ):=by
 intro i v s Q E T S;have Z:its[i]?=ϊ v:=by simpa using T
 have O:i<its.length:=(Ô.mp Z).1;have Y:i<bs.length:=by
  have e:=r.length;rw[É] at e;omega
 have R:(bs.map V.bl)[i]?=ϊ (.bl (bs[i])):=by rw[ê,Ø Y];rfl
 obtain⟨u,W,P⟩:=Vals.get r R;rw[Z] at W;cases W;cases P;have e:bs.getD i ύ=bs[i]:=by simp[Ŷ,Ø Y]
 have U:Q (bs.getD i ύ) s:=S;rw[e] at U;exact Ŝ U
def range_all (bs:List Bool):(è bs.length).all (λi=>bs.getD i ύ)=bs.all id:=by
 rw[ĭ,ô,ô];constructor
 ·intro h b Y
  obtain⟨i,Z,e⟩:=adz Y;have:=h i (ċ.mpr Z);simpa [Ŷ,Ø Z,e] using this
 ·intro h i Z
  have Z:=ċ.mp Z;have:=h _ (aek Z);simpa [Ŷ,Ø Z] using this
def range_any (bs:List Bool):(è bs.length).any (λi=>bs.getD i ύ)=bs.any id:=by
 rw[ĭ,ael,ael];constructor
 ·rintro ⟨i,Z,h⟩
  have Z:=ċ.mp Z;exact⟨bs[i],aek Z,by simpa [Ŷ,Ø Z] using h⟩
 ·rintro ⟨b,Y,h⟩
  obtain⟨i,Z,e⟩:=adz Y;exact⟨i,ċ.mpr Z,by simpa [Ŷ,Ø Z,e] using h⟩
def U1 (hc:X.calm=ό):cU X (.builtin "all") (λxs H Q=>∃(p:Þ) (bs:List Bool),xs=[.ref p]/\bY X.K H p (bs.map V.bl)/\Q (.bl (bs.all id)) H):=by
 intro O s σ H xs N Q I r h;obtain⟨p,bs,rfl,W,q⟩:=h;obtain⟨u,rfl,U⟩:=vals1 r;cases U;obtain⟨its,Y,Z,M⟩:=I.list W;have T:its.toArray.size=bs.length:=by
  have e:=Y.length;rw[É] at e;simpa using e.symm
 have S:X.A.in1.handled=ϋ:=I.ok.hd hc;refine call_all_walk (ŵ Z.isList ?_);have old:p≠s.heap.objs.size:=ã (by obtain⟨o,n,e,_⟩:=Z;exact Ð e);refine⟨s.heap.objs.size,[s.heap.objs.size,p],[s.heap.objs.size],its.toArray.size,_,_,λi=>bs.getD i ύ,rfl,Walks.list S s.heap.objs.size p old its.toArray,⟨⟨_,Î _ rfl,rfl,rfl⟩,Z.isList.at λo e=>Á _ e⟩,KR Y,λL R P=>?_⟩;rw[T,range_all];exact⟨.bl _,H,I.kept (t':=R) λb o e=>P b o (by simpa using ã (Ð e)) (Á _ e),rfl,q⟩
def U2 (hc:X.calm=ό):cU X (.builtin "any") (λxs H Q=>∃(p:Þ) (bs:List Bool),xs=[.ref p]/\bY X.K H p (bs.map V.bl)/\Q (.bl (bs.any id)) H):=by
 intro O s σ H xs N Q I r h;obtain⟨p,bs,rfl,W,q⟩:=h;obtain⟨u,rfl,U⟩:=vals1 r;cases U;obtain⟨its,Y,Z,M⟩:=I.list W;have T:its.toArray.size=bs.length:=by
  have e:=Y.length;rw[É] at e;simpa using e.symm
 have S:X.A.in1.handled=ϋ:=I.ok.hd hc;refine call_any_walk (ŵ Z.isList ?_);have old:p≠s.heap.objs.size:=ã (by obtain⟨o,n,e,_⟩:=Z;exact Ð e);refine⟨s.heap.objs.size,[s.heap.objs.size,p],[s.heap.objs.size],its.toArray.size,_,_,λi=>bs.getD i ύ,rfl,Walks.list S s.heap.objs.size p old its.toArray,⟨⟨_,Î _ rfl,rfl,rfl⟩,Z.isList.at λo e=>Á _ e⟩,KR Y,λL R P=>?_⟩;rw[T,range_any];exact⟨.bl _,H,I.kept (t':=R) λb o e=>P b o (by simpa using ã (Ð e)) (Á _ e),rfl,q⟩
end
def xy:Key->PyData
 | .inl i=>.int i
 | .inr x=>.str x
mutual
def DV (K:đ) (Z:Þ->Prop) (H:Hp):PyData->V->Prop
 | .none,v=>v=.ar
 | .bool b,v=>v=.bl b
 | .int i,v=>v=.int i
 | .str x,v=>v=.str x
 | .tuple X,v=>∃a Y,v=.ref a/\bR K H a Y/\au K Z H X Y
 | .list X,v=>∃a Y,v=.ref a/\¬ Z a/\H a=ϊ (.lst Y)/\au K Z H X Y
 | .dict U,v=>∃a W,v=.ref a/\¬ Z a/\H a=ϊ (.dK W)/\∃l:List (Key×Int),W=l.map (λp=>(p.1,V.int p.2))/\U=l.map λp=>(xy p.1,PyData.int p.2)
def au (K:đ) (Z:Þ->Prop) (H:Hp):List PyData->List V->Prop
 | [],Y=>Y=[]
 |d::X,Y=>∃v r,Y=v::r/\DV K Z H d v/\au K Z H X r
end
structure afG (K:đ) (Z:Þ->Prop) (H H':Hp):Prop where
 tup:∀b xs,bR K H b xs->bR K H' b xs
 lst:∀b xs,¬ Z b->H b=ϊ (.lst xs)->H' b=ϊ (.lst xs)
 cx:∀b es,¬ Z b->H b=ϊ (.dK es)->H' b=ϊ (.dK es)
section
variable {X:Cx} {π:List (Þ×Obj)} {σ:St} {H:Hp} {s:Â} {Z:Þ->Prop}
theorem Js:∀{l:List (Key×Int)} {vs:List (Key×Ç)} {es:List DictEntry},KV (l.map λp=>(p.1,V.int p.2)) vs->Pairs (zo P w) es vs ->
  ReadsAll h (es.map (·.key)) ((l.map λp=>(xy p.1,PyData.int p.2)).map (·.1)) []/\ReadsAll h (es.map (·.val)) ((l.map λp=>(xy p.1,PyData.int p.2)).map (·.2)) []
 | [],_,_,.nil,.nil=>⟨.nil,.nil⟩
 |(k,i)::l,_,_,.cons (b:=q) r t,.cons (e:=e) U T S=>by
  obtain⟨a1,a2⟩:=Js (h:=h) t S;obtain⟨Z,X,Y⟩:=r;have Z:k=q.1:=Z;have Y:q.2=aep i X:=Y;refine⟨?_,?_⟩
  ·have W:D4 q.1 e.key=ό:=U
   rw[<- Z] at W;have:Reads h e.key (xy k) []:=by
    rcases l7 W with ⟨j,u,e1,e2⟩ | ⟨x,u,e1,e2⟩
    ·rw[e1,e2];exact .int j u
    ·rw[e1,e2];exact .str x u
   exact ReadsAll.cons (as:=[]) (bs:=[]) this a1
  ·have:Reads h e.val (.int i) []:=by rw[T,Y];exact .int i X
   exact ReadsAll.cons (as:=[]) (bs:=[]) this a2
mutual
theorem DV.reads (I:Inv X π σ H s):∀{d:PyData} {v:V} {u:Ç},DV X.K Z H d v->RelV v u->∃as,Reads s.heap u d as
 | .none,v,u,h,r=>by
  have e:v=.ar:=h;subst e;cases r;exact⟨[],.none⟩
 | .bool b,v,u,h,r=>by
  have e:v=.bl b:=h;subst e;cases r;exact⟨[],.bool b⟩
 | .int i,v,u,h,r=>by
  have e:v=.int i:=h;subst e;obtain⟨t,rfl⟩:=r;exact⟨[],.int i t⟩
 | .str x,v,u,h,r=>by
  have e:v=.str x:=h;subst e;obtain⟨t,rfl⟩:=r;exact⟨[],.str x t⟩
 | .tuple R,v,u,h,r=>by
  erw[DV] at h;obtain⟨a,Q,e,Y,W⟩:=h;subst e;cases r;obtain⟨its,U,⟨o,e,c,n,T⟩,_⟩:=I.tuple Y;obtain⟨as,S⟩:=au.reads I W U;exact⟨as,.tuple e c T (by simpa using S)⟩
 | .list R,v,u,h,r=>by
  erw[DV] at h;obtain⟨a,Q,e,_,Y,W⟩:=h;subst e;cases r;obtain⟨its,U,⟨o,n,e,c,_,T⟩,_⟩:=I.list (bY.of Y);obtain⟨as,S⟩:=au.reads I W U;exact⟨a::as,.list e c T (by simpa using S)⟩
 | .dict L,v,u,h,r=>by
  erw[DV] at h;obtain⟨a,J,e,_,Y,l,e1,e2⟩:=h;subst e e1 e2;cases r;obtain⟨_,_,G,P,o,F,E,g1,g2,g3,_,O,_⟩:=(show eQ X.prog X.w H s.heap a (.dK _) from I.aI a _ Y);obtain⟨N,M⟩:=Js (h:=s.heap) P O;exact⟨a::[]++[],.dict g1 g2.1 g3 N M⟩
theorem au.reads (I:Inv X π σ H s):∀{ds:List PyData} {vs:List V} {us:List Ç},au X.K Z H ds vs->Vals vs us->∃as,ReadsAll s.heap us ds as
 | [],vs,us,h,r=>by
  have e:vs=[]:=h;subst e;cases r;exact⟨[],.nil⟩
 |d::ds,vs,us,h,r=>by
  obtain⟨v,S,e,Y,W⟩:=h;subst e
  cases r with
  |cons U T =>
   obtain⟨as,a1⟩:=DV.reads I Y U;obtain⟨bs,a2⟩:=au.reads I W T;exact⟨as++bs,.cons a1 a2⟩
end
def OR (K:đ) (neg:Bool):R2:=λx y H Q=>∃(d e:PyData) (Z:Þ->Prop),DV K Z H d x/\DV K Z H e y/\d.canLay0=ό/\e.canLay0=ό/\min d.depth e.depth<=100/\Q (.bl (if neg then !PyData.eqv d e else ĩ d e)) H
def YQ (hr:bK k X.A):bM X (ĕ .Eq) (OR X.K ύ):=by
 intro O s σ H x y v u Q I Y W h;obtain⟨d,e,Z,V,U,T,S,N,q⟩:=h;obtain⟨as,R⟩:=V.reads I Y;obtain⟨bs,P⟩:=U.reads I W;exact SeqAt.eqOverData _ _ _ _ _ _ _ _ _ _ _ _ R P T S (by have:=hr.un;omega) ⟨.bl _,H,I,rfl,q⟩
def YR (hr:bK k X.A):bM X (ĕ .NotEq) (OR X.K ό):=by
 intro O s σ H x y v u Q I Y W h;obtain⟨d,e,Z,V,U,T,S,N,q⟩:=h;obtain⟨as,R⟩:=V.reads I Y;obtain⟨bs,P⟩:=U.reads I W;exact SeqAt.neOverData _ _ _ _ _ _ _ _ _ _ _ _ R P T S (by have:=hr.un;omega) ⟨.bl _,H,I,rfl,q⟩
end
end L2
namespace HT
open PySem PySem.Spec PyProof.Rows
section
variable {prog:å} {w:ā} {A:í} {E:Ç->Â->Prop} {s:Â}
def Ke (ht:IsTup s.heap t items) (h:Q ό s):á (é prog w) A (adb (.ref t)) Q E s:=by
 delta adb;exact À (adF ht.typeIs (Ã h))
def Qw {lo hi:Option Int} {Q:Ç->Â->Prop} (ht:IsTup s.heap t items) (hs:s.heap.IsSliceOf sl vl vu .none) (pl:IsPart vl lo) (pu:IsPart vu hi)
 (hw:bp items.size 0 lo=0/\bp items.size items.size hi=items.size) (h:Q (.ref t) s):á (é prog w) A (getItem (.ref t) (.ref sl)) Q E s:=by
 obtain⟨os,Z,Y,U⟩:=id hs;have X:s.TypeIs (.ref sl) "slice":=⟨os,Z,Y⟩;delta getItem
 try with_reducible refine ą ?_
 first|refine À (Ã ?_)|skip
 refine À (wpAny_sequenceKey ht.typeIs (by decide) ?_);refine À (Ċ (name:=Ĉ "__getitem__") ht.typeIs Ę
  (Ď Ę ht.typeIs entry_tuple_getitem ?_ (args_tuple_getitem _ _)))
 show á _ _ (ada (.ref t) >>= _) _ _ s;refine À (tupleItemsOf_ ht ?_);refine À (adF X ?_);rw[Ñ (by decide)];refine À (IH hs pl pu ?_);obtain⟨W,V⟩:=hw
 show á _ _ (if (((bp items.size 0 lo:Nat):Int)==0&&(1:Int)==1&&(bp items.size items.size hi-bp items.size 0 lo)==items.size)=ό then _ else _) _ _ s
 rw[W,V,Ñ ∅]
 first
  |exact À (Ke ht (by erw[ò];exact À (Ŵ (Ã ⟨_,rfl,Ã h⟩))))
  |exact À (Ke ht (by erw[ò];exact À (Ŵ (À (Ã (Ã ⟨_,rfl,Ã h⟩))))))
end
end HT
namespace L2
open PySem PySem.Spec PyProof.Rows
def lr.sqT {K:đ} {H H':Hp} {a:Þ} {xs:List V} (e:lr H H') (h:bR K H a xs):bR K H' a xs:=by
 rcases h with (h | ⟨o,h⟩)|h
 ·exact .inl (.inl (e _ _ h))
 ·exact .inl (.inr ⟨o,e _ _ h⟩)
 ·exact .inr h
theorem lr.upd (hn:H p=ϋ):lr H (upd H p o):=λb u e=>by rw[bt (dD e hn)];exact e
def oU (K:đ) (H:Hp) (ys:List V) (Q:VK):Prop:=∀a Z,lr H Z->bR K Z a ys->Q (.ref a) Z
def oU.here {K:đ} {H:Hp} {ys:List V} {Q:VK} {a:Þ} (h:oU K H ys Q) (hs:bR K H a ys):Q (.ref a) H:=h a H (lr.refl H) hs
def oU.new {K:đ} {H:Hp} {ys:List V} {Q:VK} {p:Þ} (h:oU K H ys Q) (hn:H p=ϋ):Q (.ref p) (L2.upd H p (.tup ys)):=h p _ (lr.upd hn) (bR.of cP)
section
variable {X:Cx} {e:ě} {te:TE} {pos p2 p3 p4:Pos}
def U3 {lo hi:Option Int} (h:HT.bp xs.length 0 lo=0/\HT.bp xs.length xs.length hi=xs.length):lp xs lo hi=xs:=by
 delta lp;rw[h.1,h.2];simp
def aci (K:đ):V->Option Int->Option Int->Hp->VK->Prop:=λx lo Y H Q=>∃a Z,x=.ref a/\bR K H a Z/\oU K H (lp Z lo Y) Q
def WV:rg X (aci X.K):=by
 intro P s σ H x v O N lo V sl Q I U T S pu h;obtain⟨a,Z,rfl,W,q⟩:=h;by_cases hw:HT.bp Z.length 0 lo=0/\HT.bp Z.length Z.length V=Z.length
 ·cases U
  obtain⟨its,r,R,L⟩:=I.tuple W;have Y:its.toArray.size=Z.length:=by rw[Ü];exact r.length.symm
  rw[U3 hw] at q;exact⟨"tuple",_,Ę.lookup,R.typeIs,HT.Qw R T S pu (by rw[Y];exact hw) ⟨.ref a,H,I,rfl,q.here W⟩⟩
 ·exact zD P s σ H _ v O N lo V sl Q I U T S pu ⟨a,Z,rfl,W,hw,λp M=>q.new M⟩
def aaD (K:đ):R2:=λx y H Q=>∃a b Z Y,x=.ref a/\y=.ref b/\bR K H a Z/\bR K H b Y/\Z.length+Y.length<=Õ/\oU K H (Z++Y) Q
def WW:bM X (Ň .Add) (aaD X.K):=by
 intro M s σ H x y v u Q I W V h;obtain⟨a,b,U,L,rfl,rfl,Z,Y,J,q⟩:=h;by_cases T:U=[]
 ·subst T
  cases W;cases V;obtain⟨its,G,F,_⟩:=I.tuple Z;obtain⟨E,w,p2,_⟩:=I.tuple Y;cases G;obtain⟨⟨cls,D,data,sl⟩,S,R,n,P⟩:=id F;obtain⟨⟨t,C,data2,B⟩,O,N,A,hd2⟩:=id p2;simp only at R P N hd2;subst R P N hd2;exact concat_meets ⟨_,S,rfl⟩ ⟨_,O,rfl⟩ noFill_tuple_add seq_tuple_add adV adN (adE _ _)
   (tuple_addW0 a b _ E.toArray n A D C sl B ∅) ⟨S,O,⟨.ref b,H,I,rfl,q.here Y⟩⟩
 ·refine WS M s σ H _ _ v u Q I W V ⟨a,b,U,L,rfl,rfl,Z,Y,T,J,λe=>?_,λ_ p z=>q.new z⟩
  subst e;rw[Ħ] at q;exact q.here Z
end
end L2
namespace HZ
open PySem PySem.Spec PyProof.Rows
structure lQ (P:å) (w:ā) (A:í) (i l:Þ) (tn:Nat->ĺ->Prop) (val:Nat->Option Ç):Prop where
 keep:∀k h h',tn k h->(∀o,h.get? i=ϊ o->h'.get? i=ϊ o)->(∀o,h.get? l=ϊ o->h'.get? l=ϊ o)->tn k h'
 item:∀k (s:Â) (Q:Ç->Â->Prop) (E:Ç->Â->Prop) x,tn k s.heap->val k=ϊ x->(∀h',tn (k+1) h'->Ĭ i s.heap h'->Q x { s with heap:=h' })->á (é P w) A (Ă (.ref i)) Q E s
 stop:∀k (s:Â) (Q:Ç->Â->Prop) (E:Ç->Â->Prop),tn k s.heap->val k=ϋ->(∀h' e,adA i s.heap h'->(∃o,h'.get? e=ϊ o/\o.cls=.type "StopIteration")->E (.ref e) { s with heap:=h' })->á (é P w) A (Ă (.ref i)) Q E s
 obj:∀k h,tn k h->∃o,h.get? i=ϊ o/\∀v,o.data≠.cell v
section
variable {P:å} {w:ā} {A:í} {E:Ç->Â->Prop} {s:Â}
def Se (g:s.heap.IsTupleIter it t k) (gt:s.heap.IsTuple t its) (gx:its[k]?=ϊ x)
 (q:∀h',h'.IsTupleIter it t (k+1)->Ĭ it s.heap h'->Q x { s with heap:=h' }):á (é P w) A (Ă (.ref it)) Q E s:=by
 obtain⟨o,go,Y,Z⟩:=id g;obtain⟨ol,X,_,nl,W⟩:=gt;delta Ă;refine À (Ċ (name:=Ĉ "__next__") g.typeIs ţ
  (Ď ţ g.typeIs F.entry_tuple_iterator_next ?_ (F.args_tuple_iterator_next_1 _)))
 show á _ _ (field (.ref it) 0 >>= _) _ _ _;refine À (Į go Z (x:=.ref t) rfl ?_)
 show á _ _ (if (ō t==Value.none)=ό then _ else _) _ _ _
 rw[Ú (λz:(ō t==Value.none)=ό=>Ä z)];show á _ _ (field (.ref it) 1 >>= _) _ _ _;refine À (Į go Z (x:=.int k 0) rfl ?_);show á _ _ (seqItems? (.ref t) >>= _) _ _ _;refine À (Ņ X W ?_);erw[ĳ,gx];refine À (θ go Z ∅ (Ã ⟨x,rfl,Ã (q _ ?_ (ģ ..))⟩));exact⟨_,Ğ _ go (Ŕ (ď Z _)),(ad1 ..).trans Y,by rw[ď Z];simp[ĸ]⟩
def Qx (gh:A.handled=ϋ) (g:s.heap.IsTupleIter it t k) (gt:s.heap.IsTuple t its) (gx:its[k]?=ϋ)
 (q:∀h' e,adA it s.heap h'->(∃o,h'.get? e=ϊ o/\o.cls=.type "StopIteration")->E (.ref e) { s with heap:=h' }):á (é P w) A (Ă (.ref it)) Q E s:=by
 obtain⟨o,go,W,Z⟩:=id g;obtain⟨ol,Y,_,nl,X⟩:=gt;delta Ă;refine À (Ċ (name:=Ĉ "__next__") g.typeIs ţ
  (Ď ţ g.typeIs F.entry_tuple_iterator_next ?_ (F.args_tuple_iterator_next_1 _)))
 show á _ _ (field (.ref it) 0 >>= _) _ _ _;refine À (Į go Z (x:=.ref t) rfl ?_)
 show á _ _ (if (ō t==Value.none)=ό then _ else _) _ _ _
 rw[Ú (λz:(ō t==Value.none)=ό=>Ä z)];show á _ _ (field (.ref it) 1 >>= _) _ _ _;refine À (Į go Z (x:=.int k 0) rfl ?_);show á _ _ (seqItems? (.ref t) >>= _) _ _ _;refine À (Ņ Y X ?_);erw[ĳ,gx];refine À (Ŵ (À (θ go Z ∅ ?_)));show á _ _ (newExc (.type "StopIteration") [] >>= _) _ _ (_:Â);refine À ?_;erw[newExc,newTuple];refine À (û ?_ (by size_fits))
 refine À (m:=firstArgMember _ _) (abL (a:=Value.none) (by first|rfl | (delta firstArgMember;rfl)) ?_)
 refine û ?_ (by size_fits);erw[raiseNew];refine À (wpAny_handled ?_)
 first|rw[gh]|rw[show A.in1.handled=ϋ from gh]
 refine À (Ã (wpAny_throw ?_));exact q _ _ (((ģ ..).extBut.push _).push _) ⟨_,Î _ rfl,rfl⟩
def WX (gh:A.handled=ϋ) (i l:Þ) (its:Array Ç):lQ P w A i l (λk h=>h.IsTupleIter i l k/\h.IsTuple l its) (λk=>its[k]?) where
 keep:=λk h Y Z U T=>⟨Z.1.at U,by obtain⟨o,e,r⟩:=Z.2;exact⟨o,T o e,r⟩⟩
 item:=λk s Q E x Z e q=>Se Z.1 Z.2 e λY g X=>by
  by_cases W:l=i
  ·exfalso
   subst W;obtain⟨o,e1,S,_⟩:=Z.1;obtain⟨R,e2,V,_⟩:=Z.2;rw[e1] at e2;cases e2;rw[S] at V;simp at V
  ·obtain⟨o,e2,r⟩:=Z.2
   exact q Y ⟨g,o,(X.2 l W).trans e2,r⟩ X
 stop:=λk s Q E Z e q=>Qx gh Z.1 Z.2 e q
 obj:=λk h Z=>by
  obtain⟨o,e,_,d⟩:=Z.1;exact⟨o,e,λv z=>by rw[d] at z;cases z⟩
def WY (gh:A.handled=ϋ) (i l:Þ) (its:Array Ç):lQ P w A i l (λk h=>h.IsListIter i l k/\h.IsList l its) (λk=>its[k]?) where
 keep:=λk h Y Z U T=>⟨Z.1.at U,Z.2.at T⟩
 item:=λk s Q E x Z e q=>wpAny_nextOf_list_item Z.1 Z.2 e λY g X=>by
  by_cases W:l=i
  ·exfalso
   subst W;obtain⟨o,e1,S,_⟩:=Z.1;obtain⟨R,e2,V,_⟩:=Z.2;rw[e1] at e2;cases e2;rw[S] at V;simp at V
  ·exact q Y ⟨g,Z.2.at λo e2=>(X.2 l W).trans e2⟩ X
 stop:=λk s Q E Z e q=>wpAny_nextOf_list_end gh Z.1 Z.2 e q
 obj:=λk h Z=>by
  obtain⟨o,e,_,d⟩:=Z.1;exact⟨o,e,λv z=>by rw[d] at z;cases z⟩
structure Apart (z ti to j1 j2 m1 m2:Þ):Prop where
 a1:ti≠z
 a2:to≠z
 a3:j1≠z
 a4:j2≠z
 a5:ti≠to
 a6:ti≠j1
 a7:ti≠j2
 a8:to≠j1
 a9:to≠j2
 b0:j1≠j2
 b1:m1≠z
 b2:m1≠to
 b3:m1≠j1
 b4:m1≠j2
 b5:m2≠z
 b6:m2≠to
 b7:m2≠j1
 b8:m2≠j2
def U4 {t1 t2:Nat->ĺ->Prop} {v1 v2:Nat->Option Ç} {k:Nat} {Q:Ç->Â->Prop} (D:Apart z ti to j1 j2 m1 m2) (S1:lQ P w A j1 m1 t1 v1) (S2:lQ P w A j2 m2 t2 v2)
 (gz:IsZip s.heap z ti to .none) (gi:adl s.heap ti (.ref j1) (.ref j2)) (go:adl s.heap to a b) (h1:t1 k s.heap) (h2:t2 k s.heap) (hx:v1 k=ϊ x) (hy:v2 k=ϊ y)
 (q:∀h',IsZip h' z ti to (ĸ s.heap.objs.size)->adl h' to x y->t1 (k+1) h'->t2 (k+1) h'->adl h' s.heap.objs.size x y->h'.objs.size=s.heap.objs.size+1 ->
 (∀c o,c≠z->c≠to->c≠j1->c≠j2->s.heap.get? c=ϊ o->h'.get? c=ϊ o)->Q (.ref s.heap.objs.size) { s with heap:=h' }) :
  á (é P w) A (Ř.«zip.__next__» ⟨[.ref z],[]⟩) (λfin s'=>∃v,fin=.done (.ret v)/\Q v s') E s:=by
 show á _ _ (field (.ref z) 2 >>= _) _ _ (_:Â);refine À (Į gz rfl (x:=.bool ύ) rfl ?_);show á _ _ (field (.ref z) 3 >>= _) _ _ (_:Â);refine À (Į gz rfl (x:=.ref ti) rfl ?_);refine À (Ņ gi rfl ?_);show á _ _ (ľ (.ref z) >>= _) _ _ (_:Â);refine À ?_;delta ľ;refine À (Į gz rfl (x:=.none) rfl (Ã ?_));erw[ò];refine À (Ŵ ?_);refine À (Į gz rfl (x:=.ref to) rfl ?_);refine À (Ū gz ∅ λl N Y=>?_)
 replace N:IsZip l z ti to .ellipsis:=N
 refine À ?_;erw[List.zipIdx_cons,List.zipIdx_nil,adO,List.forIn_nil];refine À (À (wpAny_onRaise ?_));show á _ _ (Ă (.ref j1) >>= _) _ _ (_:Â);refine À (S1.item k _ _ _ x (S1.keep k _ _ h1 (λo e=>Y.extBut _ _ D.a3 e) (λo e=>Y.extBut _ _ D.b1 e)) hx λj i V=>Ã ?_);have B:adl j to a b:=V.extBut _ _ D.a8 (Y.extBut _ _ D.a2 go);refine À (Ņ B rfl ?_);refine À (wpAny_updateSeq_pair B λh M X=>?_)
 replace M:adl h to x b:=M
 refine À (wpAny_letGo (Ã ?_));refine À (À (wpAny_onRaise ?_));show á _ _ (Ă (.ref j2) >>= _) _ _ (_:Â);refine À (S2.item k _ _ _ y (S2.keep k _ _ h2 (λo e=>X.extBut _ _ D.a9.symm (V.extBut _ _ D.b0.symm (Y.extBut _ _ D.a4 e))) (λo e=>X.extBut _ _ D.b6 (V.extBut _ _ D.b7 (Y.extBut _ _ D.b5 e)))) hy λg L U=>Ã ?_);have u:adl g to x b:=U.extBut _ _ D.a9 M;refine À (Ņ u rfl ?_);refine À (wpAny_updateSeq_pair u λZ S s5=>?_)
 replace S:adl Z to x y:=S
 refine À (wpAny_letGo (Ã (Ã ?_)));refine À (Ņ S rfl ?_);refine À (wpAny_newTuple ?_);have t:Z.objs.size=s.heap.objs.size:=by rw[s5.1,U.1,X.1,V.1,Y.1]
 have r:IsZip Z z ti to .ellipsis:=s5.extBut _ _ D.a2.symm (U.extBut _ _ D.a4.symm (X.extBut _ _ D.a2.symm (V.extBut _ _ D.a3.symm N)));have f:∀c o,c≠z->c≠to->c≠j1->c≠j2->s.heap.get? c=ϊ o->Z.get? c=ϊ o:=λc o W R K J e=>s5.extBut _ _ R (U.extBut _ _ J (X.extBut _ _ R (V.extBut _ _ K (Y.extBut _ _ W e))));have I:t1 (k+1) Z:=S1.keep _ _ _ i (λo e=>s5.extBut _ _ D.a8.symm (U.extBut _ _ D.b0 (X.extBut _ _ D.a8.symm e))) (λo e=>s5.extBut _ _ D.b2 (U.extBut _ _ D.b4 (X.extBut _ _ D.b2 e)));have H:t2 (k+1) Z:=S2.keep _ _ _ L (λo e=>s5.extBut _ _ D.a9.symm e) (λo e=>s5.extBut _ _ D.b6 e);have p:z<Z.objs.size:=Ð r;show á _ _ (adm (.ref z) (.ref Z.objs.size) >>= _) _ _ (_:Â);refine À ?_;delta adm;have d:IsZip (Z.push { cls:=.type "tuple",data:=.seq #[x,y] }) z ti to .ellipsis:=Á _ r;refine À (Ū d ∅ λp7 G F=>?_)
 replace G:IsZip p7 z ti to (ĸ Z.objs.size):=G
 refine Ū G ∅ λT O C=>?_
 replace O:IsZip T z ti to (ĸ Z.objs.size):=O
 have up:∀c o,c≠z->Z.get? c=ϊ o->T.get? c=ϊ o:=λc o W e=>C.extBut _ _ W (F.extBut _ _ W (Á _ e));have n:adl T Z.objs.size x y:=C.extBut _ _ (Ũ p) (F.extBut _ _ (Ũ p) (Î _ rfl));have m:T.objs.size=Z.objs.size+1:=by rw[C.1,F.1,Ā]
 rw[t] at O n m;refine Ã ⟨_,rfl,?_⟩;show Q (.ref Z.objs.size) _;rw[t];exact q T O (up _ _ D.a2 S) (S1.keep _ _ _ I (λo e=>up _ o D.a3 e) (λo e=>up _ o D.b1 e)) (S2.keep _ _ _ H (λo e=>up _ o D.a4 e) (λo e=>up _ o D.b5 e)) n m λc o W R K J e=>up c o W (f c o W R K J e)
def WZ (D:Apart z ti to j1 j2 m1 m2) (S1:lQ P w A j1 m1 t1 v1) (S2:lQ P w A j2 m2 t2 v2)
 (gz:IsZip s.heap z ti to .none) (gi:adl s.heap ti (.ref j1) (.ref j2)) (go:adl s.heap to a b) (h1:t1 k s.heap) (h2:t2 k s.heap) (E9:v1 k=ϋ\/v2 k=ϋ)
 (q:∀h' e,(∀c o,c≠z->c≠to->c≠j1->c≠j2->s.heap.get? c=ϊ o->h'.get? c=ϊ o)->(∃o,h'.get? e=ϊ o/\o.cls=.type "StopIteration")->E (.ref e) { s with heap:=h' }) :
  á (é P w) A (Ř.«zip.__next__» ⟨[.ref z],[]⟩) Q E s:=by
 show á _ _ (field (.ref z) 2 >>= _) _ _ (_:Â);refine À (Į gz rfl (x:=.bool ύ) rfl ?_);show á _ _ (field (.ref z) 3 >>= _) _ _ (_:Â);refine À (Į gz rfl (x:=.ref ti) rfl ?_);refine À (Ņ gi rfl ?_);show á _ _ (ľ (.ref z) >>= _) _ _ (_:Â);refine À ?_;delta ľ;refine À (Į gz rfl (x:=.none) rfl (Ã ?_));erw[ò];refine À (Ŵ ?_);refine À (Į gz rfl (x:=.ref to) rfl ?_);refine À (Ū gz ∅ λN V Y=>?_)
 replace V:IsZip N z ti to .ellipsis:=V
 refine À ?_;erw[List.zipIdx_cons,List.zipIdx_nil,adO,List.forIn_nil];refine À (À (wpAny_onRaise ?_));show á _ _ (Ă (.ref j1) >>= _) _ _ (_:Â);have M:t1 k N:=S1.keep k _ _ h1 (λo e=>Y.extBut _ _ D.a3 e) (λo e=>Y.extBut _ _ D.b1 e)
 cases U:v1 k with
 |none =>
  refine À (S1.stop k _ _ _ M U λT e Z S=>?_);obtain⟨R,g1,g2⟩:=S;have L:IsZip T z ti to .ellipsis:=Z _ _ D.a3.symm V;have ne:e≠z:=λu=>by subst u;rw[L] at g1;cases g1;simp at g2
  refine Ū L ∅ λK _ X=>q K e (λc o W _ O _ u=>X.extBut _ _ W (Z _ _ O (Y.extBut _ _ W u))) ⟨R,X.extBut _ _ ne g1,g2⟩
 |some x =>
  have G:v2 k=ϋ:=by
   rcases E9 with h|h
   ·rw[U] at h;cases h
   ·exact h
  refine À (S1.item k _ _ _ x M U λT v Z=>Ã ?_);have J:adl T to a b:=Z.extBut _ _ D.a8 (Y.extBut _ _ D.a2 go);refine À (Ņ J rfl ?_);refine À (wpAny_updateSeq_pair J λK t X=>?_);refine À (wpAny_letGo (Ã ?_));refine À (À (wpAny_onRaise ?_));show á _ _ (Ă (.ref j2) >>= _) _ _ (_:Â);refine À (S2.stop k _ _ _ (S2.keep k _ _ h2 (λo e=>X.extBut _ _ D.a9.symm (Z.extBut _ _ D.b0.symm (Y.extBut _ _ D.a4 e))) (λo e=>X.extBut _ _ D.b6 (Z.extBut _ _ D.b7 (Y.extBut _ _ D.b5 e)))) G λF e I S=>?_);obtain⟨R,g1,g2⟩:=S;have H:IsZip F z ti to .ellipsis:=I _ _ D.a4.symm (X.extBut _ _ D.a2.symm (Z.extBut _ _ D.a3.symm V));have ne:e≠z:=λu=>by subst u;rw[H] at g1;cases g1;simp at g2
  refine Ū H ∅ λC _ s5=>q C e (λc o W B O y u=>s5.extBut _ _ W (I _ _ y (X.extBut _ _ B (Z.extBut _ _ O (Y.extBut _ _ W u))))) ⟨R,s5.extBut _ _ ne g1,g2⟩
def next_item (D:Apart z ti to j1 j2 m1 m2) (S1:lQ P w A.in1 j1 m1 t1 v1) (S2:lQ P w A.in1 j2 m2 t2 v2)
 (gz:IsZip s.heap z ti to .none) (gi:adl s.heap ti (.ref j1) (.ref j2)) (go:adl s.heap to a b) (h1:t1 k s.heap) (h2:t2 k s.heap) (hx:v1 k=ϊ x) (hy:v2 k=ϊ y)
 (q:∀h',IsZip h' z ti to (ĸ s.heap.objs.size)->adl h' to x y->t1 (k+1) h'->t2 (k+1) h'->adl h' s.heap.objs.size x y->h'.objs.size=s.heap.objs.size+1 ->
 (∀c o,c≠z->c≠to->c≠j1->c≠j2->s.heap.get? c=ϊ o->h'.get? c=ϊ o)->Q (ϊ (.ref s.heap.objs.size)) { s with heap:=h' }):á (é P w) A (adg (.ref z)) Q E s:=by
 have Z:s.TypeIs (.ref z) "zip":=⟨_,gz,rfl⟩;delta adg;exact À (Ž (Ċ (name:=Ĉ "__next__") Z aet
  (Ď aet Z F.entry_zip_next (U4 D S1 S2 gz gi go h1 h2 hx hy λh' a1 a2 Y X W V U=>Ã (q h' a1 a2 Y X W V U)) (F.args_zip_next_1 _))))
def next_end (D:Apart z ti to j1 j2 m1 m2) (S1:lQ P w A.in1 j1 m1 t1 v1) (S2:lQ P w A.in1 j2 m2 t2 v2)
 (gz:IsZip s.heap z ti to .none) (gi:adl s.heap ti (.ref j1) (.ref j2)) (go:adl s.heap to a b) (h1:t1 k s.heap) (h2:t2 k s.heap) (E9:v1 k=ϋ\/v2 k=ϋ)
 (q:∀h',(∀c o,c≠z->c≠to->c≠j1->c≠j2->s.heap.get? c=ϊ o->h'.get? c=ϊ o)->Q ϋ { s with heap:=h' }):á (é P w) A (adg (.ref z)) Q E s:=by
 have Z:s.TypeIs (.ref z) "zip":=⟨_,gz,rfl⟩;delta adg;refine À (Ž (Ċ (name:=Ĉ "__next__") Z aet
  (Ď aet Z F.entry_zip_next (WZ D S1 S2 gz gi go h1 h2 E9 λh' e Y X=>?_) (F.args_zip_next_1 _))))
 obtain⟨o,W,V⟩:=X;exact À (wpAny_isInstance (T:="StopIteration") (b:=ό) ⟨o,W,V⟩ isSubtype_stop (Ã (q _ Y)))
end
end HZ
namespace L2
open PySem PySem.Spec PyProof.Rows
def YS {X:Cx} {π:List (Þ×Obj)} {σ:St} {H:Hp} {s:Â} {a b:Þ} {xs:List V} (I:Inv X π σ H s) (h:bR X.K H a xs) (f:gn X π H b):a≠b:=by
 rintro rfl;obtain⟨f0,_,_,Y,_⟩:=f
 rcases h with (h | ⟨o,h⟩) | ⟨o,its,n,W,_⟩
 ·rw[f0] at h;cases h
 ·rw[f0] at h;cases h
 ·have Z:=I.mod.kE a o W
  rcases Y with z|z
  ·exact I.ok.oT a o Z z
  ·exact absurd (Ê (Ð Z) (Ý I.ok.iX z)) (ñ _)
def YT {X:Cx} {π:List (Þ×Obj)} {σ:St} {H:Hp} {s:Â} {a b:Þ} {xs:List V} (I:Inv X π σ H s) (h:bY X.K H a xs) (f:gn X π H b):a≠b:=by
 rintro rfl;obtain⟨f0,_,_,Y,_⟩:=f
 rcases h with (h | ⟨o,h⟩) | ⟨o,its,n,W,_⟩
 ·rw[f0] at h;cases h
 ·rw[f0] at h;cases h
 ·have Z:=I.mod.kE a o W
  rcases Y with z|z
  ·exact I.ok.oT a o Z z
  ·exact absurd (Ê (Ð Z) (Ý I.ok.iX z)) (ñ _)
def Inv.Kf {X:Cx} {π:List (Þ×Obj)} {σ:St} {H:Hp} {s:Â} {h':ĺ} {t':Nat} {ch:List Þ} (I:Inv X π σ H s) (k:∀b o,b∉ch->s.heap.get? b=ϊ o->h'.get? b=ϊ o) (hf:∀b∈ch,gn X π H b) :
  Inv X π σ H { s with heap:=h',toks:=t' }:=by
 have Y:∀b u,H b=ϊ u->b∉ch:=λb u e z=>by rw[(hf b z).1] at e;cases e
 refine I.step (g':=s.gens) (d':=s.drawn) (ch:=ch) (λb W=>?_) (λb o _ _ Z e _=>k b o Z e) (λb o _ _ Z e _=>⟨o.slots,k b o Z e⟩) (λ_ _ _ _ n=>n) (λb o Z e=>⟨o,k b o Z e⟩) (λ_ _ e=>e) (λ_ _ _ e=>e)
  (λb P e=>⟨#[],by rw[e];simp⟩) (λm V=>?_) (λb u e=>?_) I.bare
 ·obtain⟨_,f1,_,U,f4,T⟩:=hf b W
  exact⟨U,f1,f4,T⟩
 ·obtain⟨o,S,R,Q,r⟩:=V
  exact⟨o,S,R,k _ o (λz=>(hf _ z).2.1 rfl) Q,r⟩
 ·refine(I.aI b u e).iG (λc v Z q=>k c v ?_ q) (λ_ q=>q) λ_ _ q=>q
  rcases Z with z|z
  ·rw[z];exact Y b u e
  ·exact Y c _ z
def Inv.Tu {X:Cx} {π:List (Þ×Obj)} {σ:St} {H:Hp} {s:Â} {h':ĺ} {t':Nat} {ch:List Þ} {p:Þ} {u:HO} (I:Inv X π σ H s) (k:∀b o,b∉ch->s.heap.get? b=ϊ o->h'.get? b=ϊ o) (hf:∀b∈ch,gn X π H b)
  (hp:s.heap.objs.size<=p) (new:eQ X.prog X.w (upd H p u) h' p u):Inv X π σ (upd H p u) { s with heap:=h',toks:=t' }:=by
 have Y:H p=ϋ:=I.aI.fresh hp;have aI:cN X.prog X.w (upd H p u) h':=(I.Kf (t':=t') k hf).aI.adopt Y new;refine I.step (g':=s.gens) (d':=s.drawn) (ch:=ch) (λb W=>?_) (λb o _ _ Z e _=>k b o Z e) (λb o _ _ Z e _=>⟨o.slots,k b o Z e⟩) (λb o _ e n=>?_) (λb o Z e=>⟨o,k b o Z e⟩) (λc P e=>by rw[bt (dD e Y)];exact e) (λc o v e=>by rw[bt (dD e Y)];exact e)
  (λc O e=>⟨#[],by rw[bt (dD e Y),e];simp⟩) (λm V=>?_) aI I.bare
 ·obtain⟨_,f1,_,U,f4,T⟩:=hf b W
  exact⟨U,f1,f4,T⟩
 ·rw[bt (ã (Ê (Ð e) hp))]
  exact n
 ·obtain⟨o,S,R,Q,r⟩:=V
  exact⟨o,S,R,k _ o (λz=>(hf _ z).2.1 rfl) Q,r⟩
@[reducible] def jX:Bool->đ->Hp->Þ->List V->Prop
 |true=>bR
 |false=>bY
@[reducible] def lR:Bool->ĺ->Þ->Array Ç->Prop
 |true=>Heap.IsTuple
 |false=>Heap.IsList
@[reducible] def nX:Bool->ĺ->Þ->Þ->Nat->Prop
 |true=>Heap.IsTupleIter
 |false=>Heap.IsListIter
def Inv.uh {X:Cx} {π:List (Þ×Obj)} {σ:St} {H:Hp} {s:Â} {a:Þ} {xs:List V} (I:Inv X π σ H s):∀{k},jX k X.K H a xs->∃its,Vals xs its/\lR k s.heap a its.toArray
 |true,h=>by obtain⟨i,r,p,_⟩:=I.tuple h;exact⟨i,r,p⟩
 |false,h=>by obtain⟨i,r,p,_⟩:=I.list h;exact⟨i,r,p.isList⟩
def Inv.KS {X:Cx} {π:List (Þ×Obj)} {σ:St} {H:Hp} {s:Â} {a:Þ} {xs ys:List V} (I:Inv X π σ H s):∀{k},jX k X.K H a xs->jX k X.K H a ys->xs=ys
 |true,h,g=>I.J5 h g
 |false,h,g=>I.KJ h g
def zF {X:Cx} {π:List (Þ×Obj)} {σ:St} {H:Hp} {s:Â} {a b:Þ} {xs:List V} (I:Inv X π σ H s):∀{k},jX k X.K H a xs->gn X π H b->a≠b
 |true,h,f=>YS I h f
 |false,h,f=>YT I h f
def Av (gh:A.handled=ϋ) (i l:Þ) (its:Array Ç):∀k,HZ.lQ P w A i l (λn h=>nX k h i l n/\lR k h l its) (λn=>its[n]?)
 |true=>HZ.WX gh i l its
 |false=>HZ.WY gh i l its
def zG (k:∀o,h.get? i=ϊ o->h'.get? i=ϊ o):∀{b},nX b h i l n->nX b h' i l n
 |true,x=>x.at k
 |false,x=>x.at k
def zp:∀{b},nX b h i l n->∃o,h.get? i=ϊ o/\∀v,o.data≠.cell v
 |true,x=>by obtain⟨o,e,_,d⟩:=x;exact⟨o,e,λv q=>by rw[d] at q;cases q⟩
 |false,x=>by obtain⟨o,e,_,d⟩:=x;exact⟨o,e,λv q=>by rw[d] at q;cases q⟩
def Aw (k l:Bool) (K:đ) (a b:Þ):It :=
 ⟨λi H=>∃Z Y x y,jX k K H a Z/\jX l K H b Y/\Z[i]?=ϊ x/\Y[i]?=ϊ y,λi H v X=>∃p x y,H p=ϋ/\v=.ref p/\X=upd H p (.tup [x,y])/\∀Z Y,jX k K H a Z->jX l K H b Y->Z[i]?=ϊ x/\Y[i]?=ϊ y,
  λi H=>∃Z Y,jX k K H a Z/\jX l K H b Y/\(Z.length<=i\/Y.length<=i)⟩
abbrev acj:=Aw ό ό
structure aaE (it:Nat->ĺ->Prop) (ju:Nat->ĺ->Prop) (z ti to j1 j2:Þ) (i:Nat) (h:ĺ):Prop where
 z:IsZip h z ti to .none
 ti:adl h ti (.ref j1) (.ref j2)
 to:∃u v,adl h to u v
 h1:it i h
 h2:ju i h
structure OS (z ti to j1 j2:Þ):Prop where
 a1:ti≠z
 a2:to≠z
 a3:j1≠z
 a4:j2≠z
 a5:ti≠to
 a6:ti≠j1
 a7:ti≠j2
 a8:to≠j1
 a9:to≠j2
 b0:j1≠j2
def Tv {k1 k2:Bool} {P:å} {w:ā} {K:đ} {elts:List ě} {kk:Nat} {pos:Pos} (a b z ti to j1 j2:Þ) (F:OS z ti to j1 j2) :
  Turn P w K (.Tuple elts kk pos) (Aw k1 k2 K a b) [z,ti,to,j1,j2] z (aaE (λi h=>nX k1 h j1 a i) (λi h=>nX k2 h j2 b i) z ti to j1 j2) where
 mem:=by simp
 obj:=λi h Z c S=>by
  have M:c=z\/c=ti\/c=to\/c=j1\/c=j2:=by simpa using S
  rcases M with rfl|rfl|rfl|rfl|rfl
  ·exact⟨_,Z.z,λv q=>nomatch q⟩
  ·exact⟨_,Z.ti,λv q=>nomatch q⟩
  ·obtain⟨u,v,q⟩:=Z.to;exact⟨_,q,λv q=>nomatch q⟩
  ·exact zp Z.h1
  ·exact zp Z.h2
 keep:=λi h j Z k=>⟨k z ∅ _ Z.z,k ti ∅ _ Z.ti,by obtain⟨u,v,q⟩:=Z.to;exact⟨u,v,k to ∅ _ q⟩,zG (λo e=>k j1 ∅ o e) Z.h1,zG (λo e=>k j2 ∅ o e) Z.h2⟩
 item:=by
  intro X L hw J S i g s σ H E I Y Z G;subst L hw J;obtain⟨d,ys,x,y,V,U,ex,f⟩:=G;obtain⟨C,B,t⟩:=I.uh V;obtain⟨r,p,n⟩:=I.uh U;obtain⟨u,eu,ru⟩:=B.get ex;obtain⟨v,ev,rv⟩:=p.get f;have ne:∀c∈[z,ti,to,j1,j2],a≠c/\b≠c:=λc W=>⟨zF I V (Y c W),zF I U (Y c W)⟩;have D:HZ.Apart z ti to j1 j2 a b:=⟨F.a1,F.a2,F.a3,F.a4,F.a5,F.a6,F.a7,F.a8,F.a9,F.b0,(ne z ∅).1,(ne to ∅).1,(ne j1 ∅).1,(ne j2 ∅).1,(ne z ∅).2,(ne to ∅).2,(ne j1 ∅).2,(ne j2 ∅).2⟩;obtain⟨w1,w2,O⟩:=Z.to;have R:X.A.in1.handled=ϋ:=I.ok.hd S;refine HZ.next_item D (Av R j1 a C.toArray k1) (Av R j2 b r.toArray k2) Z.z Z.ti O ⟨Z.h1,t⟩ ⟨Z.h2,n⟩ (by simpa using eu) (by simpa using ev) λj c1 c2 c3 c4 c5 c6 N=>⟨_,rfl,?_⟩;refine wpAny_letOwnedTupleGo_zip c1 λh2 d1 T=>?_;have hn:H s.heap.objs.size=ϋ:=I.aI.fresh (aeS _);have m:z<s.heap.objs.size:=Ð Z.z;have xA:IsTup h2 s.heap.objs.size #[u,v]:=⟨_,T.extBut _ _ (Ũ m) c5,rfl,_,rfl⟩
  have I2:Inv X g σ (upd H s.heap.objs.size (.tup [x,y])) { s with heap:=h2,toks:=s.toks }:=I.Tu (ch:=[z,ti,to,j1,j2]) (λc o l e=>by
   have q:c≠z/\c≠ti/\c≠to/\c≠j1/\c≠j2:=by simpa using l
   exact T.extBut c o q.1 (N c o q.1 q.2.2.1 q.2.2.2.1 q.2.2.2.2 e)) Y (aeS _) ⟨by show 2<=Õ;decide,[u,v],.cons ru (.cons rv .nil),xA⟩
  refine⟨.ref s.heap.objs.size,_,I2,rfl,⟨_,x,y,hn,rfl,rfl,λxs' ys' q1 q2=>?_⟩,?_,λc W=>?_⟩
  ·rw[I.KS q1 V,I.KS q2 U];exact⟨ex,f⟩
  ·refine⟨d1,T.extBut _ _ F.a1 (N _ _ F.a1 F.a5 F.a6 F.a7 Z.ti),⟨_,_,T.extBut _ _ F.a2 c2⟩,zG (λo e=>T.extBut _ _ F.a3 e) c3.1,zG (λo e=>T.extBut _ _ F.a4 e) c4.1⟩
  ·rw[bt]
   ·exact(Y c W).1
   ·intro e
    obtain⟨o,eo⟩:∃o,s.heap.get? c=ϊ o:=by
     have M:c=z\/c=ti\/c=to\/c=j1\/c=j2:=by simpa using W
     rcases M with q|q|q|q|q
     ·rw[q];exact⟨_,Z.z⟩
     ·rw[q];exact⟨_,Z.ti⟩
     ·rw[q];exact⟨_,O⟩
     ·rw[q];obtain⟨o,e,_⟩:=zp Z.h1;exact⟨o,e⟩
     ·rw[q];obtain⟨o,e,_⟩:=zp Z.h2;exact⟨o,e⟩
    exact absurd (Ð eo) (by rw[e];exact ñ _)
 done:=by
  intro X L hw J S i g s σ H E I Y Z G;subst L hw J;obtain⟨d,ys,V,U,hle⟩:=G;obtain⟨C,B,t⟩:=I.uh V;obtain⟨r,p,n⟩:=I.uh U;have ne:∀c∈[z,ti,to,j1,j2],a≠c/\b≠c:=λc W=>⟨zF I V (Y c W),zF I U (Y c W)⟩;have D:HZ.Apart z ti to j1 j2 a b:=⟨F.a1,F.a2,F.a3,F.a4,F.a5,F.a6,F.a7,F.a8,F.a9,F.b0,(ne z ∅).1,(ne to ∅).1,(ne j1 ∅).1,(ne j2 ∅).1,(ne z ∅).2,(ne to ∅).2,(ne j1 ∅).2,(ne j2 ∅).2⟩;obtain⟨w1,w2,O⟩:=Z.to;have R:X.A.in1.handled=ϋ:=I.ok.hd S;have l1:=B.length;have l2:=p.length;refine HZ.next_end D (Av R j1 a C.toArray k1) (Av R j2 b r.toArray k2) Z.z Z.ti O ⟨Z.h1,t⟩ ⟨Z.h2,n⟩ ?_ λj N=>⟨rfl,I.Kf (t':=s.toks) (ch:=[z,ti,to,j1,j2]) (λc o l e=>by
   have q:c≠z/\c≠ti/\c≠to/\c≠j1/\c≠j2:=by simpa using l
   exact N c o q.1 q.2.2.1 q.2.2.2.1 q.2.2.2.2 e) Y⟩
  rcases hle with q|q
  ·left;simp;omega
  ·right;simp;omega
 self:=λA i s Q E Z h=>wpAny_pyIter_zip Z.z h
end L2
namespace HZ
open PySem PySem.Spec PyProof.Rows L2
@[reducible] noncomputable def yh:Bool->String
 |true=>"tuple_iterator"
 |false=>"list_iterator"
abbrev y1 (k:Bool) (h:ĺ) (m1:Þ):ĺ:=h.push { cls:=.type (yh k),data:=.fields #[.ref m1,.int 0 0] }
abbrev y2 (k l:Bool) (h:ĺ) (m1 m2:Þ):ĺ:=(y1 k h m1).push { cls:=.type (yh l),data:=.fields #[.ref m2,.int 0 0] }
abbrev y3 (k l:Bool) (h:ĺ) (m1 m2:Þ):ĺ:=(y2 k l h m1 m2).push { cls:=.type "tuple",data:=.seq #[.ref h.objs.size,.ref (y1 k h m1).objs.size] }
abbrev y4 (k l:Bool) (h:ĺ) (m1 m2:Þ):ĺ:=(y3 k l h m1 m2).push { cls:=.type "tuple",data:=.seq #[.none,.none] }
abbrev y5 (k l:Bool) (h:ĺ) (m1 m2:Þ):ĺ:=(y4 k l h m1 m2).push { cls:=.type "zip",data:=.fields #[.none,.bool ύ,.bool ύ,.ref (y2 k l h m1 m2).objs.size,.ref (y3 k l h m1 m2).objs.size] }
def NL:∀{k},lR k s.heap m xs->Q (.ref s.heap.objs.size) { s with heap:=s.heap.push { cls:=.type (yh k),data:=.fields #[.ref m,.int 0 0] } }->á (é P w) A (pyIter (.ref m)) Q E s
 |true,h,q=>wpAny_pyIter_tuple h q
 |false,h,q=>ŵ h q
def U5 (o:Obj):∀{k},lR k h m xs->lR k (h.push o) m xs
 |true,x=>Heap.IsTuple.push x o
 |false,x=>Heap.IsList.push x o
def W0 (k l:Bool) (m1 m2:Þ) (xs ys:Array Ç) :
  Meets (Ř.«zip.__new__» ⟨[.type "zip",.ref m1,.ref m2],[]⟩) (λ_ R s=>lR k s.heap m1 xs/\lR l s.heap m2 ys/\R (.ok (.ret (.ref (y4 k l s.heap m1 m2).objs.size))) { s with heap:=y5 k l s.heap m1 m2 }) :=
 .of_wp λprog w A R s h=>by
  obtain⟨Z,g,d,Y,os⟩:=s;obtain⟨X,W,h⟩:=h;have V:=sub_zip;have U:lR k (Shared.heap ⟨Z,g,d,Y,os⟩) m1 xs:=X;have L2:lR l (Shared.heap ⟨Z.push { cls:=.type (yh k),data:=.fields #[.ref m1,.int 0 0] },g,d,Y,os⟩) m2 ys:=U5 _ W
  wp_walk using NL U,NL L2
  exact⟨_,rfl,h⟩
section
variable {P:å} {w:ā} {A:í} {E:Ç->Â->Prop} {s:Â}
def LJ:∀{k},h.get? i=ϊ { cls:=.type (yh k),data:=.fields #[.ref m,.int 0 0] }->nX k h i m 0
 |true,e=>⟨_,e,rfl,rfl⟩
 |false,e=>⟨_,e,rfl,rfl⟩
def Tw (h1:lR k s.heap m1 xs) (h2:lR l s.heap m2 ys)
 (h:∀h',IsZip h' (s.heap.objs.size+4) (s.heap.objs.size+2) (s.heap.objs.size+3) .none->adl h' (s.heap.objs.size+2) (.ref s.heap.objs.size) (.ref (s.heap.objs.size+1)) ->
   adl h' (s.heap.objs.size+3) .none .none->nX k h' s.heap.objs.size m1 0->nX l h' (s.heap.objs.size+1) m2 0->h'.objs.size=s.heap.objs.size+5 ->
 (∀c o,s.heap.get? c=ϊ o->h'.get? c=ϊ o)->Q (.ref (s.heap.objs.size+4)) { s with heap:=h' }):á (é P w) A (call (.type "zip") [.ref m1,.ref m2]) Q E s:=by
 refine callType_new F.called_zip (by decide) (F.typeCall_zip_2 _ _) (F.newCall_zip_2 _ _) (λobj=>F.args_object_init_3 obj _ _) F.entry_zip_new (W0 k l m1 m2 xs ys) ⟨h1,h2,?_⟩;have e1:(y1 k s.heap m1).objs.size=s.heap.objs.size+1:=Ā ..;have e2:(y2 k l s.heap m1 m2).objs.size=s.heap.objs.size+2:=by rw[Ā,e1]
 have Z:(y3 k l s.heap m1 m2).objs.size=s.heap.objs.size+3:=by rw[Ā,e2]
 have Y:(y4 k l s.heap m1 m2).objs.size=s.heap.objs.size+4:=by rw[Ā,Z]
 have V:(y5 k l s.heap m1 m2).objs.size=s.heap.objs.size+5:=by rw[Ā,Y]
 have X:(y5 k l s.heap m1 m2).get? (y4 k l s.heap m1 m2).objs.size=ϊ _:=Î _ rfl;have W:(y5 k l s.heap m1 m2).get? (y3 k l s.heap m1 m2).objs.size=ϊ _:=Á _ (Î _ rfl);have g3:(y5 k l s.heap m1 m2).get? (y2 k l s.heap m1 m2).objs.size=ϊ _:=Á _ (Á _ (Î _ rfl));have g2:(y5 k l s.heap m1 m2).get? (y1 k s.heap m1).objs.size=ϊ _:=Á _ (Á _ (Á _ (Î _ rfl)));have g1:(y5 k l s.heap m1 m2).get? s.heap.objs.size=ϊ _:=Á _ (Á _ (Á _ (Á _ (Î _ rfl))));show _/\_;rw[e2,Z,Y] at X;rw[e1,e2] at g3;rw[Z] at W;rw[e1] at g2;rw[Y];exact⟨⟨_,X,rfl⟩,h _ X g3 W (LJ g1) (LJ g2) V λc o q=>Á _ (Á _ (Á _ (Á _ (Á _ q))))⟩
end
end HZ
namespace L2
open PySem PySem.Spec PyProof.Rows
def U6 (n:Nat):OS (n+4) (n+2) (n+3) n (n+1):=by constructor<;>(show (_:Nat)≠_)<;>omega
section
variable {X:Cx} {elts:List ě} {kk:Nat} {tp:Pos}
def NM (k l:Bool) (K:đ) (ta:TA):TI:=fun σ H R=>ta σ H λY Z=>∃a b X W,Y=[.ref a,.ref b]/\jX k K Z a X/\jX l K Z b W/\R (Aw k l K a b) Z
abbrev aaF:=NM ό ό
def Tx:ü "zip"=ϊ (.type "zip"):=nofun
def YU {π:List (Þ×Obj)} {σ:St} {H:Hp} {s:Â} (I:Inv X π σ H s):∀b∈[s.heap.objs.size+4,s.heap.objs.size+2,s.heap.objs.size+3,s.heap.objs.size,s.heap.objs.size+1],gn X π H b:=λb Y=>by
 have Z:s.heap.objs.size<=b:=by
  have q:b=s.heap.objs.size+4\/b=s.heap.objs.size+2\/b=s.heap.objs.size+3\/b=s.heap.objs.size\/b=s.heap.objs.size+1:=by simpa using Y
  omega
 exact I.ua Z (I.aI.fresh Z)
def W2 {k l:Bool} {a b:ě} {ta:TA} {p pos:Pos} (hg:Gl X "zip") (hm:X.mg "zip"=ϋ) (ha:PA X [a,b] ta) (hs:Í [a,b] X.env=[(ύ,ķ a X.env),(ύ,ķ b X.env)]:=by rfl) (fj:Í [b] X.env=[(ύ,ķ b X.env)]:=by rfl) :
  PI X (.Tuple elts kk tp) (.Call (.Name "zip" p) [a,b] [] pos) (NM k l X.K ta):=by
 intro V s σ H R I h;refine Call_ (ql I hg hm Tx (ņ (aO (ha pos V s σ H _ I h) λz Z ⟨y,U,Y,T,S⟩=>?_) (by rw[hs,fj]) (by rw[fj];rfl)));obtain⟨a,b,xs,ys,e,Q,P,q⟩:=S;subst e;obtain⟨u,v,rfl,O,N⟩:=vals2 T;cases O;cases N;obtain⟨M,_,L⟩:=Y.uh Q;obtain⟨J,_,G⟩:=Y.uh P;refine HZ.Tw (xs:=M.toArray) (ys:=J.toArray) L G λF W E D C B x A=>?_
 refine wpAny_pyIter_zip (s:={ Z with heap:=F }) W ?_
 exact⟨_,[Z.heap.objs.size+4,Z.heap.objs.size+2,Z.heap.objs.size+3,Z.heap.objs.size,Z.heap.objs.size+1],_,_,U,rfl,Y.kept (t':=Z.toks) A,Tv a b _ _ _ _ _ (U6 _),⟨W,E,⟨_,_,D⟩,C,B⟩,YU Y,q⟩
def W3 {a b:ě} {ta:TA} {p pos:Pos} (hg:Gl X "zip") (hm:X.mg "zip"=ϋ) (ha:PA X [a,b] ta) (hs:Í [a,b] X.env=[(ύ,ķ a X.env),(ύ,ķ b X.env)]:=by rfl) (fj:Í [b] X.env=[(ύ,ķ b X.env)]:=by rfl) :
  PI X (.Tuple elts kk tp) (.Call (.Name "zip" p) [a,b] [] pos) (aaF X.K ta):=W2 hg hm ha hs fj
end
end L2
namespace PySem
end PySem
namespace L2
open PySem PySem.Spec PyProof.Rows
def map_getD (ns:List Int):(è ns.length).map (λi=>ns.getD i 0)=ns:=by
 apply ac8;intro i;rw[ê];by_cases h:i<ns.length
 ·rw[Ŀ h,Ø h]
  simp[Ŷ,Ø h]
 ·rw[ğ (by simpa using h),ğ ⋯]
  rfl
section
variable {κ:Type} [DecidableEq κ]
def putK (aT:List (κ×V)) (k:κ) (v:V):List (κ×V) :=
 if (aT.any λZ=>ώ (Z.1=k))=ό then aT.map (λZ=>if Z.1=k then (Z.1,v) else Z) else aT++[(k,v)]
end
section
variable {X:Cx} {π:List (Þ×Obj)} {σ:St} {H:Hp} {s:Â} {a:Þ} {y v:V} {u r:Ç} {o:Option V} {A:í} {E:Ç->Â->Prop}
def Inv.big (I:Inv X π σ H s):sysModules<s.heap.objs.size:=by
 have h:Ò<s.heap.objs.size:=(I.mod.glob.keeps I.bk).lt;exact Nat.lt_trans (by decide) h
end
def U7 (h:ĺ) (hb:sysModules<h.objs.size):eQ P w H (h.push { cls:=.type "dict",data:=.dict #[] }) h.objs.size (.dK []) :=
 ⟨Ē _,beq_eq_false_iff_ne.mpr (ź (ã hb)),[],.nil,Heap.DictOf.new h⟩
def YV:TE:=λ_ H Q=>∀p,H p=ϋ->Q (.ref p) (upd H p (.dK []))
section
variable {X:Cx} {pos:Pos}
def U8:PE X (.Dict [] [] pos) YV:=λZ s σ H Q I h =>
 wpAny_Dict_empty ⟨.ref s.heap.objs.size,_,I.laid (a:=s.heap.objs.size) (o:=.dK []) (t':=s.toks) (λ_ _ q=>Á _ q) (aeS _) (U7 s.heap I.big),rfl,h _ (I.aI.fresh (aeS _))⟩
end
structure M1 (X:Cx) (o:ě) (m:Str) (apos:Pos) (e:ě) (ba:Pos):Prop where
 base:İ o m X.env (ķ o X.env)=ķ o X.env
 mO:((ī ba (Í [e] X.env)).all (λx=>!x.1)&&(adq ba (ŗ [] X.env)).all (λx=>x.1.isSome)
  && ώ (([e]:List ě).length+([]:List adf).length+(if ([]:List adf).isEmpty then 0 else 1)<30))=ό
 line:(apos.endLine==ba.line)=ό
 trees:ī ba (Í [e] X.env)=[(ύ,ķ e X.env)]
structure M2 (X:Cx) (o:ě) (m:Str) (apos:Pos) (e f:ě) (ba:Pos):Prop where
 base:İ o m X.env (ķ o X.env)=ķ o X.env
 mO:((ī ba (Í [e,f] X.env)).all (λx=>!x.1)&&(adq ba (ŗ [] X.env)).all (λx=>x.1.isSome)
  && ώ (([e,f]:List ě).length+([]:List adf).length+(if ([]:List adf).isEmpty then 0 else 1)<30))=ό
 line:(apos.endLine==ba.line)=ό
 trees:ī ba (Í [e,f] X.env)=[(ύ,ķ e X.env),(ύ,ķ f X.env)]
def MJ (sc:ac5) (on:List (Str×Ű)) (oN N:List Str) (nt:Nat) (cap:List Nat):Bool :=
 ώ (sc.kind=.function)&&sc.names.all (λx=>ώ (x.2≠.cell))&&sc.names.all (λx=>ώ (x.2=.local->sc.names.lookup x.1=ϊ .local)) &&
 sc.names.all (λx=>ώ (x.2=.free->sc.names.lookup x.1=ϊ .free/\(on.lookup x.1=ϊ .cell\/on.lookup x.1=ϊ .free)))&&ώ (N.length=nt+cap.length) &&
 (è cap.length).all (λk=>match cap[k]? with
  |some j=>match oN[j]? with
   |some x=>ώ (N[nt+k]?=ϊ x)&&ώ ((x,î)∈sc.names)
   |none=>ύ
  |none=>ό)
def D8 (h:MJ sc X.env.scope.names X.N N nt cap=ό):wo X sc N nt cap:=by
 delta MJ at h;erw[Å,ô,Ë] at h;obtain⟨⟨⟨⟨⟨Z,Y⟩,W⟩,V⟩,U⟩,T⟩:=h;refine⟨Z,Y,W,λx S e=>V x S e,U,λk j e=>?_⟩;have R:k<cap.length:=(Ô.mp e).1;have:=T k (ċ.mpr R);rw[e] at this;dsimp only at this
 cases ex:X.N[j]? with
 |none=>rw[ex] at this;cases this
 |some x =>
  rw[ex] at this;erw[Å,Ë] at this;exact⟨x,rfl,this.1,this.2⟩
end L2
namespace TS
open PySem
abbrev lu (l:List Nat):Prop:=l.Pairwise (· < ·)
def U9 (xs:Array Nat) (k d:Nat):xs.getD k d=xs.toList.getD k d:=by
 cases xs with
 |mk l =>
  by_cases h:k<l.length
  ·simp[aeH,Ŷ,h]
  ·simp[aeH,Ŷ,h]
def zq (h:lu l) (jv:a<b) (hb:b<l.length):l.getD a 0<l.getD b 0:=by
 have:=List.pairwise_iff_getElem.mp h a b ⋯ hb jv;simpa [Ŷ,Ø hb,Ø (show a<l.length by omega)] using this
def Va (l:List Nat) (hk:k<l.length) (d e:Nat):l.getD k d=l.getD k e:=by
 simp[Ŷ,Ø hk]
theorem CI (xs:Array Nat) (j:Nat) (hr:lu xs.toList):∀(fuel lo hi:Nat),hi-lo<=fuel->lo<=hi->hi<=xs.toList.length->(∀k,k<lo->xs.toList.getD k 0<j)->(∀k,hi<=k->k<xs.toList.length->j<=xs.toList.getD k 0) ->
  ad2 xs j fuel lo hi<=xs.toList.length/\(∀k,k<ad2 xs j fuel lo hi->xs.toList.getD k 0<j)/\(∀k,ad2 xs j fuel lo hi<=k->k<xs.toList.length->j<=xs.toList.getD k 0)
 |0,lo,hi,S,R,Z,Y,X=>by
  have e:lo=hi:=by omega
  subst e;exact⟨Z,Y,X⟩
 |fuel+1,lo,hi,S,R,Z,Y,X=>by
  delta ad2;by_cases U:lo<hi
  ·rw[Ñ U]
   dsimp only;have T:(lo+hi) / 2<xs.toList.length:=by omega
   rw[U9,Va _ T j 0];by_cases W:xs.toList.getD ((lo+hi) / 2) 0<j
   ·rw[Ñ W]
    refine CI xs j hr fuel _ _ ⋯ ⋯ Z (λk Q=>?_) X;by_cases V:k=(lo+hi) / 2
    ·rw[V];exact W
    ·exact Nat.lt_trans (zq hr ⋯ T) W
   ·rw[Ú W]
    refine CI xs j hr fuel _ _ ⋯ ⋯ ⋯ Y (λk Q V=>?_);by_cases P:k=(lo+hi) / 2
    ·rw[P];omega
    ·have:=zq hr (show (lo+hi) / 2<k by omega) V
     omega
  ·rw[Ú U]
   have e:lo=hi:=by omega
   subst e;exact⟨Z,Y,X⟩
def JM (xs:Array Nat) (j:Nat) (hr:lu xs.toList):Č xs j<=xs.toList.length/\(∀k,k<Č xs j->xs.toList.getD k 0<j)/\(∀k,Č xs j<=k->k<xs.toList.length->j<=xs.toList.getD k 0):=by
 delta Č;exact CI xs j hr xs.size 0 xs.size ⋯ (Ē _) ∅ (λk Z=>by omega) (λk Z Y=>by simp at Y;omega)
def RA {l:List Nat} {p j:Nat} (h:∀k,k<p->l.getD k 0<j):∀x∈l.take p,x<j:=by
 intro x Y;obtain⟨k,X,e⟩:=adz Y;have Z:k<p/\k<l.length:=by rw[aei] at X;omega
 have:=h k Z.1;rw[List.getElem_take] at e;rw[<- e];simpa [Ŷ,Ø Z.2] using this
def RB {l:List Nat} {p j:Nat} (h:∀k,p<=k->k<l.length->j<=l.getD k 0):∀x∈l.drop p,j<=x:=by
 intro x Y;obtain⟨k,X,e⟩:=adz Y;have Z:p+k<l.length:=by rw[List.length_drop] at X;omega
 have:=h (p+k) ⋯ Z;rw[List.getElem_drop] at e;rw[<- e];simpa [Ŷ,Ø Z] using this
def Vb {xs:Array Nat} {j:Nat} (hr:lu xs.toList) (hn:xs[Č xs j]?≠ϊ j):lu (SetTable.insertAt xs (Č xs j) j).toList:=by
 obtain⟨T,V,U⟩:=JM xs j hr;rw[SetTable.toList_insertAt];have a1:=RA V;have a2:∀x∈xs.toList.drop (Č xs j),j<x:=by
  intro x hx;have Y:=RB U;have X:lu (xs.toList.drop (Č xs j)):=aeb (List.drop_sublist _ _) hr
  cases Z:xs.toList.drop (Č xs j) with
  |nil=>rw[Z] at hx;cases hx
  |cons y r =>
   rw[Z] at X hx Y;have hy:j≠y:=by
    intro e;apply hn;have:(xs.toList.drop (Č xs j))[0]?=ϊ y:=by rw[Z];rfl
    rw[List.getElem?_drop] at this;have e2:xs.toList[Č xs j]?=ϊ y:=by simpa using this
    rw[<- į,e2,e]
   have W:j<y:=Nat.lt_of_le_of_ne (Y y ß) hy
   rcases Û.mp hx with e|hx
   ·rw[e];exact W
   ·exact Nat.lt_trans W ((ø.mp X).1 x hx)
 first
  |(refine List.pairwise_append.mpr ⟨aeb (List.take_sublist _ _) hr,ø.mpr ⟨a2,aeb (List.drop_sublist _ _) hr⟩,λx hx y hy=>?_⟩
    rcases Û.mp hy with e|hy
    ·rw[e];exact a1 x hx
    ·exact Nat.lt_trans (a1 x hx) (a2 y hy))
  |trace_state
theorem CJ (t:SetTable) (h:Int):∀(fuel:Nat) (p:SetTable.Probe) (j:Nat) (dm:Option Nat),(∀d,p.dummy=ϊ d->t.slot d=.dummy)->aeI t (λ_=>h+1) h fuel p=ϊ (.empty j dm)->t.slot j=.empty/\∀d,dm=ϊ d->t.slot d=.dummy
 |0,p,j,dm,X,e=>by simp[aeI] at e
 |fuel+1,p,j,dm,X,e=>by
  delta aeI at e
  cases Y:t.slot p.j with
  |empty =>
   rw[Y] at e;simp at e;rw[<- e.1,<- e.2];exact⟨Y,X⟩
  |dummy =>
   rw[Y] at e;refine CJ t h fuel _ j dm (λd Z=>?_) e;delta SetTable.advance at Z;split at Z
   ·simp at Z;rw[<- Z];exact Y
   ·simp at Z;rw[<- Z];exact Y
  |live i =>
   rw[Y] at e;have W:(h+1==h)=ύ:=by simp;omega
   erw[W,Æ,ï] at e;refine CJ t h fuel _ j dm (λd Z=>?_) e;delta SetTable.advance at Z;split at Z
   ·exact X d Z
   ·exact X d Z
def Kg {t:SetTable} {j:Nat} (h:t.slot j=.empty\/t.slot j=.dummy):t.place[Č t.place j]?≠ϊ j:=by
 intro e;have:t.slot j=.live (Č t.place j):=by
  delta SetTable.slot;simp[e]
 rw[this] at h
 rcases h with h|h<;>cases h
def Tz {t:SetTable} {h:Int} {j:Nat} {b:Bool} (e:t.freeSlot h=ϊ (j,b)):t.place[Č t.place j]?≠ϊ j:=by
 delta SetTable.freeSlot SetTable.probe at e;split at e
 ·rename_i Y Z X
  have k:=CJ t h _ _ Y Z (λd W=>by simp[SetTable.probeStart] at W) X;simp at e;rw[<- e.1]
  cases Z with
  |none=>exact Kg (.inl k.1)
  |some d=>exact Kg (.inr (k.2 d rfl))
 ·cases e
structure jf (led:Bool) (t:SetTable):Prop where
 led:t.led=led
 rise:t.plain=ό->lu t.place.toList
def yQ (h:jf led t) (n:Nat):jf led (t.standIn n):=⟨h.led,λz=>by simp[SetTable.standIn] at z⟩
def Sg {led:Bool} {t:SetTable} (h:jf led t) (es:Array (Int×Ç)) (hs:Int) (x:Ç):jf led (layNew t es hs x).2.1:=by
 delta layNew;split
 ·rename_i slot Y e
  dsimp only;delta SetTable.orStandIn;have Z:jf led (t.put slot).1:=⟨h.led,λz=>Vb (h.rise z) (Tz e)⟩;split
  ·exact Z
  ·exact yQ Z _
 ·exact yQ h _
def Vc {mask finger moves:Nat} {led plain:Bool} {hs:Array Int} {o:Array Nat} (e:SetTable.laid mask finger moves led plain hs=ϊ (t,o)):jf led t/\t.plain=plain:=by
 delta SetTable.laid at e
 cases X:SetTable.layClean mask hs with
 |none=>rw[X] at e;simp at e
 |some owner =>
  rw[X] at e;simp at e;obtain⟨e1,e2⟩:=e;subst e1;refine⟨⟨rfl,λ_=>?_⟩,rfl⟩;show lu (aec _).toList;erw[List.map_filterMap];refine List.pairwise_filterMap.mpr ?_;refine List.Pairwise.imp (R:=(· < ·)) ?_ (List.pairwise_lt_range);intro a b U x Z y Y
  cases W:(owner[a]?.getD ϋ) with
  |none=>rw[W] at Z;simp at Z
  |some q =>
   cases V:(owner[b]?.getD ϋ) with
   |none=>rw[V] at Y;simp at Y
   |some r =>
    rw[W] at Z;rw[V] at Y;simp at Z Y;omega
def TB (h:jf led t) (es:Array (Int×Ç)) (n:Nat):jf led (relayAll t es n).2.1:=by
 delta relayAll;split
 ·rename_i Z o e
  dsimp only;split
  ·delta SetTable.relaid at e
   have k:=Vc e;exact⟨k.1.led.trans h.led,k.1.rise⟩
  ·exact yQ h _
 ·exact yQ h _
def TC (led:Bool):jf led (.fresh 0 0 led):=⟨rfl,λ_=>List.Pairwise.nil⟩
open PySem.Spec PyProof.Rows
section
variable {P:å} {w:ā} {A:í} {E:Ç->Â->Prop} {s:Â} {led:Bool}
def ig (P:å) (w:ā) (led:Bool) (h:ĺ) (a:Þ) (S:Int->Bool) (n:Nat):Prop :=
 ∃o Z Y t,h.get? a=ϊ o/\o.ExactSet/\o.data=.set Z Y t/\ElemsOf (Ţ P w) Z.toList/\(∀k,S k=ό↔∃e∈Z.toList,(Ţ P w).is k e.2=ό)/\Z.size<adn/\t.fits Z.size=ό/\Z.size=n/\jf led t
def ig.at (x:ig P w led h a S n) (k:∀o,h.get? a=ϊ o->h'.get? a=ϊ o):ig P w led h' a S n:=by
 obtain⟨o,Z,Y,t,X,r⟩:=x;exact⟨o,Z,Y,t,k o X,r⟩
def ig.congr (x:ig P w led h a S n) (e:∀k,S k=S' k) (en:n=n'):ig P w led h a S' n':=by
 obtain rfl:S=S':=funext e;subst en;exact x
def CK {a:Þ} {u:Obj} {es jr:Array (Int×Ç)} {ep:Nat} {t t':SetTable} {h:ĺ} (hu:h.get? a=ϊ u) (hx:u.ExactSet) (hd:u.data=.set es ep t) {S:Int->Bool}
  (c1:ElemsOf (Ţ P w) jr.toList) (c2:∀k,S k=ό↔∃e∈jr.toList,(Ţ P w).is k e.2=ό) (c3:jr.size<adn) (c4:t'.fits jr.size=ό) (c5:jf led t') :
  (h.update a (Obj.putSet jr t')).get? a=ϊ { u with data:=.set jr (ep+1) t' }/\ig P w led (h.update a (Obj.putSet jr t')) a S jr.size:=by
 have g:=(SetOf_store (knd:=Ţ P w) hu hx hd c1 c2 c3 c4).1;exact⟨g,_,jr,ep+1,t',g,hx,rfl,c1,c2,c3,c4,rfl,c5⟩
def W4 {a:Þ} {S:Int->Bool} {n:Nat} {k:Int} {tk:Tok} {Q:Bool->Â->Prop} (hS:ig P w led s.heap a S n) (aaG:n+1<adn)
  (h:∀h',Ĭ a s.heap h'->ig P w led h' a (λj=>S j||ώ (j=k)) (if S k then n else n+1)->Q (!S k) { s with heap:=h' }) :
  á (é P w) A (setAddHashed a (.int k tk) ((Ţ P w).hash k)) Q E s:=by
 obtain⟨u,W,c,t,R,H,O,G,F,i,B,y,g⟩:=hS;have ky:(Ţ P w).is k (.int k tk)=ό:=intKind_is _ _ _ _;have sc:(aep k tk).scannable=ό:=rfl;have F2:W.size+1<adn:=by rw[y];exact aaG
 delta setAddHashed setAddHashedIn;refine ą ?_;refine À (ŷ R O B ?_);dsimp only;rw[byScan_of sc i G,Ñ rfl];delta setAddByScan;refine À (À (Ŵ ?_));refine À (wpAny_setScan_of ky R O B G ?_)
 cases f:W.toList.findIdx? (λe=>(Ţ P w).is k e.2) with
 |some j =>
  dsimp only;obtain⟨hj,pj,_⟩:=List.findIdx?_eq_some_iff_getElem.mp f;have K:S k=ό:=(F k).mpr ⟨W.toList[j],aek hj,pj⟩;have q:=h s.heap (Heap.SameBut.refl a s.heap) ⟨u,W,c,t,R,H,O,G,λj'=>by
   rw[aeu,Ë,<- F j'];exact⟨λz=>z.elim id λe=>by rw[e];exact K,ο⟩,i,B,by rw[K];exact y,g⟩
  rw[K] at q;exact Ã (Ã q)
 |none =>
  dsimp only;have K:S k=ύ:=by
   rw[<- ads,F k];rintro ⟨e,X,pe⟩;have z:=List.findIdx?_eq_none_iff.mp f e X;rw[pe] at z;cases z
  have way:∀(b:Bool) {x:Â} {v:Unit->Â->Prop},v () x->á (é P w) A (match b with|true=>rule "set.scan.the-table-gave-way"|false=>pure ()) v E x :=
   λb x v q=>by cases b<;>first|exact Ã q|exact Ŵ q
  have pm:=layNew_perm t W ((Ţ P w).hash k) (.int k tk);have r:=layNew_fits t W ((Ţ P w).hash k) (.int k tk);have D:=Sg g W ((Ţ P w).hash k) (.int k tk);generalize layNew t W ((Ţ P w).hash k) (.int k tk)=L at pm r D |-;obtain⟨Z,t1,afC,afI⟩:=L;dsimp only at pm r D |-;rw[ad3] at pm;have p:ElemsOf (Ţ P w) Z.toList:=(G.push ky sc).perm pm;have o:∀j,(S j||ώ (j=k))=ό↔∃e∈Z.toList,(Ţ P w).is j e.2=ό:=mem_push_iff ky F pm;have z1:Z.size=n+1:=by
   have l:=pm.length_eq;rw[ä,ö,ö,y] at l;exact l
  have V:Z.size<adn:=by omega
  refine À (way _ ?_);obtain⟨g1,d⟩:=CK (S:=λj=>S j||ώ (j=k)) R H O p o V r D;have C:=ģ s.heap a (Obj.putSet Z t1)
  have fin:∀h',Ĭ a s.heap h'->ig P w led h' a (λj=>S j||ώ (j=k)) Z.size->Q ό { s with heap:=h' }:=λh' sb T=>by
   have q:=h h' sb;rw[K] at q;rw[z1] at T;exact q T
  have Y:=relayAll_perm t1 Z (ad9 Z.size);have N:=relayAll_fits t1 Z (ad9 Z.size);have M:=TB D Z (ad9 Z.size);have hv:hashByValue 8 (aep k tk)=pure ό:=rfl;split
  ·refine À ?_
   rw[hv];refine Ã ?_;erw[ò];refine À (ad4 R O ?_ (ac9 V));split
   ·generalize relayAll t1 Z (ad9 Z.size)=L2 at Y N M |-
    obtain⟨J,t2,m⟩:=L2;dsimp only at Y N M |-;have U:J.size=Z.size:=by
     have l:=Y.length_eq;rwa [ö,ö] at l
    have f2:∀j,(S j||ώ (j=k))=ό↔∃e∈J.toList,(Ţ P w).is j e.2=ό:=λj=>(o j).trans ⟨λ⟨e,X,q⟩=>⟨e,Y.mem_iff.mpr X,q⟩,λ⟨e,X,q⟩=>⟨e,Y.mem_iff.mp X,q⟩⟩;refine À (way _ ?_);refine À (ad4 g1 rfl ?_ (ac9 (by rw[U];exact V)));obtain⟨g2,I⟩:=CK (S:=λj=>S j||ώ (j=k)) (led:=led) g1 H rfl (p.perm Y) f2 (by rw[U];exact V) N M;rw[U] at I;exact Ã (Ã (fin _ (C.trans (ģ _ a _)) I))
   ·exact Ã (Ã (fin _ C d))
  ·refine À (Ã ?_)
   erw[ò];refine À (ad4 R O ?_ (ac9 V));split
   ·generalize relayAll t1 Z (ad9 Z.size)=L2 at Y N M |-
    obtain⟨J,t2,m⟩:=L2;dsimp only at Y N M |-;have U:J.size=Z.size:=by
     have l:=Y.length_eq;rwa [ö,ö] at l
    have f2:∀j,(S j||ώ (j=k))=ό↔∃e∈J.toList,(Ţ P w).is j e.2=ό:=λj=>(o j).trans ⟨λ⟨e,X,q⟩=>⟨e,Y.mem_iff.mpr X,q⟩,λ⟨e,X,q⟩=>⟨e,Y.mem_iff.mp X,q⟩⟩;refine À (way _ ?_);refine À (ad4 g1 rfl ?_ (ac9 (by rw[U];exact V)));obtain⟨g2,I⟩:=CK (S:=λj=>S j||ώ (j=k)) (led:=led) g1 H rfl (p.perm Y) f2 (by rw[U];exact V) N M;rw[U] at I;exact Ã (Ã (fin _ (C.trans (ģ _ a _)) I))
   ·exact Ã (Ã (fin _ C d))
end
def Qy:entryFor table "set.__iter__"=ϊ Ř.«frozenset.__iter__»:=entryFor_alias (id':="frozenset.__iter__") (by kernel_rfl) rfl nofun (by kernel_rfl)
def kO:Slot "set_iterator" "__next__" "set_iterator.__next__" :=
 .of (owner:="set_iterator") (n:="__next__") (by rw[typeLookup_type,aed];kernel_rfl) nofun nofun nofun
  (by first|exact .inl nofun|exact .inr nofun) (by rw[isSubtype_type];kernel_rfl)
def yI:entryFor table "set_iterator.__next__"=ϊ Ř.«set_iterator.__next__»:=entryFor_of_tree (by kernel_rfl)
def yM (a:Ç):argsOk "set_iterator.__next__" ⟨[a],[]⟩:=by delta argsOk;kernel_rfl
def Jb:Slot "set_iterator" "__iter__" "set_iterator.__iter__" :=
 .of (owner:="set_iterator") (n:="__iter__") (by rw[typeLookup_type,aed];kernel_rfl) nofun nofun nofun
  (by first|exact .inl nofun|exact .inr nofun) (by rw[isSubtype_type];kernel_rfl)
def jN (h:ĺ) (I a:Þ) (first:Ç) (i n ep:Nat):Prop:=∃o,h.get? I=ϊ o/\o.cls=.type "set_iterator"/\o.data=.fields #[first,.int i 0,.ref a,.int n 0,.int ep 0]
section
variable {P:å} {w:ā} {A:í} {E:Ç->Â->Prop} {s:Â}
def LK {slot i n ep nx:Nat} {es:Array (Int×Ç)} {Q:Option Ç->Â->Prop} (hit:jN s.heap I a (.int slot 0) i n ep)
 (hu:s.heap.get? a=ϊ u) (hd:u.data=.set es ep t) (hf:t.fits es.size=ό) (hn:es.size=n)
 (hs:∀(A':í) (Q':Option (Ç×Nat)->Â->Prop) (E':Ç->Â->Prop),Q' (ϊ (x,nx)) s->á (é P w) A' (setNext a slot i ep) Q' E' s)
 (hQ:∀h',jN h' I a (.int nx 0) (i+1) n ep->Ĭ I s.heap h'->Q (ϊ x) { s with heap:=h' }):á (é P w) A (adg (.ref I)) Q E s:=by
 obtain⟨o,Y,X,Z⟩:=id hit;have W:s.TypeIs (.ref I) "set_iterator":=⟨o,Y,X⟩;delta adg;refine À (Ž (Ċ (name:=Ĉ "__next__") W kO
  (Ď kO W yI ?_ (yM _))))
 delta Ř.«set_iterator.__next__» slotArgs;simp only[adt,ý,Æ,↓reduceIte,bind_assoc,Ą,Ĕ];refine À (Ã ?_);refine À (wpAny_fieldsOf Y Z ?_);dsimp only;refine À (ž hu hd hf ?_);rw[hn];simp only[Ĕ,Æ,↓reduceIte,ĳ];refine À (hs _ _ _ ?_);dsimp only;refine À (θ Y Z ∅ ?_);refine À (θ (Ğ _ Y (Ŕ (ď Z _))) (ď Z _) ∅ ?_);refine Ã ⟨x,rfl,Ã (hQ _ ⟨_,Ğ _ (Ğ _ Y (Ŕ (ď Z _))) (Ŕ (ď (ď Z _) _)),(ad1 ..).trans ((ad1 ..).trans X),?_⟩ ((ģ ..).trans (ģ ..)))⟩;rw[ď (ď Z _)];simp[ĸ]
def Si (hm:m≠0) (h:Q (w.draws src (s.drawn.get src) % m) { s with drawn:=s.drawn.bump src }):á (é P w) A (choose src m) Q E s:=fun Y p Z=>by
 delta choose;rw[Sem.wp_choose];exact⟨hm,h⟩
def Kh (hh:A.handled=ϋ) (ho:s.heap.get? I=ϊ o) (fk:o.data=.fields vs) (h2:2<vs.size)
 (hQ:∀h',adA I s.heap h'->Q ϋ { s with heap:=h' }) :
  á (é P w) A.in1 (setField (.ref I) 2 .none >>= λ_=>newExc (.type "StopIteration") [] >>= λe=>(raiseNew e:Sem Fin)) (λfin s'=>∃v,fin=Fin.done (Flow.ret v)/\á (é P w) A (pure (ϊ v)) Q E s')
   (λe s'=>á (é P w) A (isInstance e (Ť "StopIteration") >>= λb=>if b=ό then pure ϋ else throw e) Q E s') s:=by
 refine À (θ ho fk h2 ?_);refine À ?_;erw[newExc,newTuple];refine À (û ?_ (by size_fits))
 refine À (m:=firstArgMember _ _) (abL (a:=Value.none) (by first|rfl | (erw[firstArgMember];rfl)) ?_)
 refine û ?_ (by size_fits);erw[raiseNew];refine À (wpAny_handled ?_)
 first|rw[show A.in1.handled=ϋ from hh]|rw[hh]
 refine À (Ã (wpAny_throw ?_));refine À (wpAny_isInstance (T:="StopIteration") (b:=ό) ⟨_,Î _ rfl,rfl⟩ isSubtype_stop ?_);exact Ã (hQ _ (((ģ ..).extBut.push _).push _))
def MK {slot i n ep:Nat} {es:Array (Int×Ç)} {Q:Option Ç->Â->Prop} (hh:A.handled=ϋ) (hit:jN s.heap I a (.int slot 0) i n ep)
 (hu:s.heap.get? a=ϊ u) (hd:u.data=.set es ep t) (hf:t.fits es.size=ό) (hn:es.size=n)
 (hs:∀(A':í) (Q':Option (Ç×Nat)->Â->Prop) (E':Ç->Â->Prop),Q' ϋ s->á (é P w) A' (setNext a slot i ep) Q' E' s)
 (hQ:∀h',adA I s.heap h'->Q ϋ { s with heap:=h' }):á (é P w) A (adg (.ref I)) Q E s:=by
 obtain⟨o,Z,W,Y⟩:=id hit;have X:s.TypeIs (.ref I) "set_iterator":=⟨o,Z,W⟩;delta adg;refine À (Ž (Ċ (name:=Ĉ "__next__") X kO
  (Ď kO X yI ?_ (yM _))))
 delta Ř.«set_iterator.__next__» slotArgs;simp only[adt,ý,Æ,↓reduceIte,bind_assoc,Ą,Ĕ];refine À (Ã ?_);refine À (wpAny_fieldsOf Z Y ?_);dsimp only;refine À (ž hu hd hf ?_);rw[hn];simp only[Ĕ,Æ,↓reduceIte,ĳ];refine À (hs _ _ _ ?_);dsimp only;exact Kh hh Z Y ∅ hQ
def Vd {i n ep pl:Nat} {es:Array (Int×Ç)} {x:Int×Ç} {Q:Option Ç->Â->Prop} (hit:jN s.heap I a (.ref tp) i n ep)
 (hu:s.heap.get? a=ϊ u) (hd:u.data=.set es ep t) (hf:t.fits es.size=ό) (hn:es.size=n) (yj:s.heap.IsTuple tp places) (bN:places[i]?=ϊ (.int pl tk)) (hx:es[pl]?=ϊ x)
 (hQ:∀h',jN h' I a (.ref tp) (i+1) n ep->Ĭ I s.heap h'->Q (ϊ x.2) { s with heap:=h' }):á (é P w) A (adg (.ref I)) Q E s:=by
 obtain⟨o,Z,X,Y⟩:=id hit;obtain⟨op,V,U,np,T⟩:=yj;have W:s.TypeIs (.ref I) "set_iterator":=⟨o,Z,X⟩;delta adg;refine À (Ž (Ċ (name:=Ĉ "__next__") W kO
  (Ď kO W yI ?_ (yM _))))
 delta Ř.«set_iterator.__next__» slotArgs;simp only[adt,ý,Æ,↓reduceIte,bind_assoc,Ą,Ĕ];refine À (Ã ?_);refine À (wpAny_fieldsOf Z Y ?_);dsimp only;refine À (ž hu hd hf ?_);rw[hn];simp only[Ĕ,Æ,↓reduceIte,ĳ];refine À (Ņ V T ?_);dsimp only;rw[bN];dsimp only;delta setNextDrawn;refine À (À (ŷ hu hd hf ?_));dsimp only;simp only[Ĕ,Æ,↓reduceIte,ĳ];rw[hx];dsimp only;refine Ã ?_;refine À (θ Z Y ∅ ?_);refine Ã ⟨x.2,rfl,Ã (hQ _ ⟨_,Ğ _ Z (Ŕ (ď Y _)),(ad1 ..).trans X,?_⟩ (ģ ..))⟩;rw[ď Y];simp[ĸ]
def W5 (hh:A.handled=ϋ) (hit:jN s.heap I a (.ref tp) i n ep)
 (hu:s.heap.get? a=ϊ u) (hd:u.data=.set es ep t) (hf:t.fits es.size=ό) (hn:es.size=n) (yj:s.heap.IsTuple tp places) (bN:places[i]?=ϋ)
 (hQ:∀h',adA I s.heap h'->Q ϋ { s with heap:=h' }):á (é P w) A (adg (.ref I)) Q E s:=by
 obtain⟨o,Z,W,Y⟩:=id hit;obtain⟨op,V,U,np,T⟩:=yj;have X:s.TypeIs (.ref I) "set_iterator":=⟨o,Z,W⟩;delta adg;refine À (Ž (Ċ (name:=Ĉ "__next__") X kO
  (Ď kO X yI ?_ (yM _))))
 delta Ř.«set_iterator.__next__» slotArgs;simp only[adt,ý,Æ,↓reduceIte,bind_assoc,Ą,Ĕ];refine À (Ã ?_);refine À (wpAny_fieldsOf Z Y ?_);dsimp only;refine À (ž hu hd hf ?_);rw[hn];simp only[Ĕ,Æ,↓reduceIte,ĳ];refine À (Ņ V T ?_);dsimp only;rw[bN];dsimp only;refine À (θ Z Y ∅ ?_)
 exact Kh (s:={ s with heap:=_ }) hh (Ğ _ Z (Ŕ (ď Y _))) (ď Y _) ∅ λh' e=>hQ h' (Heap.ExtBut.trans (ģ ..).extBut e)
end
def QJ:entryFor table "set_iterator.__iter__"=ϊ Ř.«dict_keyiterator.__iter__»:=entryFor_alias (id':="dict_keyiterator.__iter__") (by kernel_rfl) rfl nofun (by kernel_rfl)
def Q7 (a:Ç):argsOk "set_iterator.__iter__" ⟨[a],[]⟩:=by delta argsOk;kernel_rfl
section
variable {P:å} {w:ā} {A:í} {E:Ç->Â->Prop} {s:Â}
def CL (hit:jN s.heap I a f i n ep) (h:Q (.ref I) s):á (é P w) A (pyIter (.ref I)) Q E s:=by
 obtain⟨o,Y,X,W⟩:=id hit;have Z:s.TypeIs (.ref I) "set_iterator":=⟨o,Y,X⟩;refine wpAny_pyIter_slot Z Jb (Ď Jb Z QJ ?_ (Q7 _));show á _ _ (ret (.ref I)) _ _ s;exact Ã ⟨_,rfl,"set_iterator",_,Z,kO.lookup,h⟩
def jN.at (x:jN h I a f i n ep) (k:∀o,h.get? I=ϊ o->h'.get? I=ϊ o):jN h' I a f i n ep:=by
 obtain⟨o,Z,r⟩:=x;exact⟨o,k o Z,r⟩
def Ki (i6:w.params.followText "set-order"=ό) (hu:s.heap.get? a=ϊ u) (hd:u.data=.set es ep t) (hf:t.fits es.size=ό)
 (h:Q' (((ε (w.params.setOrder a ep) es)[i]?).map λe=>(e.2,slot)) s):á (é P w) A (setNext a slot i ep) Q' E s:=by
 delta setNext;refine À (ŷ hu hd hf ?_);dsimp only;delta setsByText;refine À (À (ť (Ã ?_)))
 show á _ _ (if w.params.followText "set-order"=ό then _ else _) _ _ _
 rw[Ñ i6];simp only[Ĕ,Æ,↓reduceIte];delta setWalk;refine À (À (ŷ hu hd hf ?_));dsimp only;delta setsByText;refine À (À (ť (Ã ?_)))
 show á _ _ (if w.params.followText "set-order"=ό then _ else _) _ _ _
 rw[Ñ i6];refine À (ť (Ã ?_));exact Ã h
def sx (hr:lu xs.toList) (hi:i<=xs.toList.length) (h1:∀k,k<i->xs.toList.getD k 0<slot) (h2:∀k,i<=k->k<xs.toList.length->slot<=xs.toList.getD k 0):Č xs slot=i:=by
 obtain⟨V,a1,a2⟩:=JM xs slot hr;by_cases Y:Č xs slot<i
 ·have X:=a2 _ (aeS _) ⋯
  have W:=h1 _ Y;omega
 ·by_cases Z:i<Č xs slot
  ·have X:=a1 i Z
   have W:=h2 i (aeS _) ⋯;omega
  ·omega
def JN (i6:w.params.followText "set-order"=ύ) (hu:s.heap.get? a=ϊ u) (hd:u.data=.set es ep t) (hf:t.fits es.size=ό)
 (hl:t.led=ό) (hp:t.plain=ό\/es.size<=1) (hb:Č t.place slot=i)
 (h:Q' (match es[i]?,t.place[i]? with|some (_,x),ϊ j=>ϊ (x,j+1) | _,_=>ϋ) s):á (é P w) A (setNext a slot i ep) Q' E s:=by
 delta setNext;refine À (ŷ hu hd hf ?_);dsimp only;delta setsByText;refine À (À (ť (Ã ?_)))
 show á _ _ (if w.params.followText "set-order"=ό then _ else _) _ _ _
 rw[Ú (by rw[i6];decide)];split
 ·rename_i Z
  have Y:(!t.plain&&ώ (es.size > 1))=ό:=Z
  rcases hp with hp|hp
  ·rw[hp] at Y;cases Y
  ·simp at Y;omega
 ·refine À ?_
  show á _ _ (if (!t.led&&!es.isEmpty)=ό then _ else _) _ _ _
  rw[hl];simp only[ý,Ŭ,Æ,↓reduceIte];refine Ã ?_;rw[hb];exact Ã h
def BH (sb:Ĭ I s.heap h'):Moved [I] (λa b=>b=a) s { s with heap:=h' }:=⟨λb o Z e=>by rw[sb.2 b (λz=>Z (by simp[z]))];exact e,rfl,rfl,rfl,aeS _⟩
def BQ (sb:adA I s.heap h'):Moved [I] (λa b=>b=a) s { s with heap:=h' }:=⟨λb o Z e=>sb b o (λz=>Z (by simp[z])) e,rfl,rfl,rfl,aeS _⟩
end
def Sj (hh:A.handled=ϋ) (gX:a≠I) (i6:w.params.followText "set-order"=ό) (hd:u.data=.set es ep t) (hf:t.fits es.size=ό) (hsz:(ε (w.params.setOrder a ep) es).size=es.size) :
  WalksS P w A I [I,a] [I] (λa b=>b=a) es.size (λi v=>((ε (w.params.setOrder a ep) es).map (·.2))[i]?=ϊ v) (λi s=>jN s.heap I a (.int 0 0) i es.size ep/\s.heap.get? a=ϊ u) where
 sub:=λb W=>by simp at W;simp[W]
 grefl:=λ_=>rfl
 gtrans:=λ_ _ _ T S=>S.trans T
 frame:=λi s V K Z _ U=>⟨Z.1.at λo e=>U I ∅ o e,U a ∅ _ Z.2⟩
 item:=λi s Q E R Z Y=>by
  have O:i<(ε (w.params.setOrder a ep) es).size:=by rw[hsz];exact R
  have ex:(ε (w.params.setOrder a ep) es)[i]?=ϊ (ε (w.params.setOrder a ep) es)[i]:=by simp[O]
  refine LK (nx:=0) (x:=(ε (w.params.setOrder a ep) es)[i].2) (slot:=0) Z.1 Z.2 hd hf rfl (λN M L q=>Ki i6 Z.2 hd hf (by rw[ex];exact q)) λV it X=>?_;exact Y _ _ (by simp[ex]) ⟨it,by rw[X.2 a gX];exact Z.2⟩ (BH X)
 done:=λs Q E Z Y=>by
  refine MK (slot:=0) hh Z.1 Z.2 hd hf rfl (λN M L q=>Ki i6 Z.2 hd hf (by
   rw[show (ε (w.params.setOrder a ep) es)[es.size]?=ϋ by simp[hsz]];exact q)) λV X=>Y _ (BQ X)
 self:=λi s Q E Z Y=>CL Z.1 Y
def RC (hh:A.handled=ϋ) (gX:a≠I) (i6:w.params.followText "set-order"=ύ) (hd:u.data=.set es ep t) (hf:t.fits es.size=ό) (hl:t.led=ό) (hp:t.plain=ό\/es.size<=1) (hr:lu t.place.toList) :
  WalksS P w A I [I,a] [I] (λa b=>b=a) es.size (λi v=>(es.map (·.2))[i]?=ϊ v) (λi s=>∃slot:Nat,jN s.heap I a (.int slot 0) i es.size ep/\s.heap.get? a=ϊ u/\i<=es.size/\(∀k,k<i->t.place.toList.getD k 0<slot)/\∀k,i<=k->k<t.place.toList.length->slot<=t.place.toList.getD k 0) where
 sub:=λb M=>by simp at M;simp[M]
 grefl:=λ_=>rfl
 gtrans:=λ_ _ _ J H=>H.trans J
 frame:=λi s L z Y _ V=>by
  obtain⟨slot,X,Z,T⟩:=Y;exact⟨slot,X.at λo e=>V I ∅ o e,V a ∅ _ Z,T⟩
 item:=λi s Q E K Y W=>by
  obtain⟨slot,X,Z,T,S,R⟩:=Y;have G:t.place.toList.length=es.size:=by
   erw[SetTable.fits,Å,beq_iff_eq,Ë] at hf;simpa using hf.1
  have O:i<t.place.toList.length:=by omega
  have e1:es[i]?=ϊ es[i]:=by simp[K]
  have e2:t.place[i]?=ϊ (t.place.toList.getD i 0):=by
   rw[<- į,Ø O];simp[Ŷ,Ø O]
  refine LK (nx:=t.place.toList.getD i 0+1) (x:=es[i].2) (slot:=slot) X Z hd hf rfl (λF D C q=>JN i6 Z hd hf hl hp (sx hr ⋯ S R) (by rw[e1,e2];exact q)) λL it U=>?_;refine W _ _ (by simp[e1]) ⟨_,it,by rw[U.2 a gX];exact Z,K,λk V=>?_,λk V B=>?_⟩ (BH U)
  ·by_cases N:k=i
   ·rw[N];omega
   ·have:=zq hr (show k<i by omega) O
    omega
  ·have:=zq hr (show i<k by omega) B
   omega
 done:=λs Q E Y W=>by
  obtain⟨slot,X,Z,T,S,R⟩:=Y;have G:t.place.toList.length=es.size:=by
   erw[SetTable.fits,Å,beq_iff_eq,Ë] at hf;simpa using hf.1
  refine MK (slot:=slot) hh X Z hd hf rfl (λF D C q=>JN i6 Z hd hf hl hp (sx hr ⋯ S R) (by
   rw[show es[es.size]?=ϋ by simp];exact q)) λL U=>W _ (BQ U)
 self:=λi s Q E Y W=>by
  obtain⟨slot,X,_⟩:=Y;exact CL X W
def RD (hh:A.handled=ϋ) (gX:a≠I) (hnt:tp≠I) (hd:u.data=.set es ep t) (hf:t.fits es.size=ό) (pl:List Nat) (bN:pl.length=es.size) (F7:∀x∈pl,x<es.size) :
  WalksS P w A I [I,a,tp] [I] (λa b=>b=a) es.size (λi v=>(pl.map λk=>(es.getD k (0,Value.none)).2)[i]?=ϊ v) (λi s=>jN s.heap I a (.ref tp) i es.size ep/\s.heap.get? a=ϊ u/\s.heap.IsTuple tp (pl.map λ(k:Nat)=>ĸ k).toArray) where
 sub:=λb U=>by simp at U;simp[U]
 grefl:=λ_=>rfl
 gtrans:=λ_ _ _ R O=>O.trans R
 frame:=λi s T tk Z _ Y=>⟨Z.1.at λo e=>Y I ∅ o e,Y a ∅ _ Z.2.1,let ⟨o,V,r⟩:=Z.2.2;⟨o,Y tp ∅ o V,r⟩⟩
 item:=λi s Q E N Z X=>by
  have S:i<pl.length:=by omega
  have e1:pl[i]?=ϊ pl[i]:=Ø S;have Y:=F7 _ (aek S);refine Vd (pl:=pl[i]) (x:=es.getD pl[i] (0,Value.none)) (tk:=0) Z.1 Z.2.1 hd hf rfl Z.2.2 (by simp[e1,ĸ]) (by simp[Y,aeH]) λT it W=>?_
  refine X _ _ (by simp[e1]) ⟨it,by rw[W.2 a gX];exact Z.2.1,let ⟨o,V,r⟩:=Z.2.2;⟨o,by rw[W.2 tp hnt];exact V,r⟩⟩ (BH W)
 done:=λs Q E Z X=>W5 hh Z.1 Z.2.1 hd hf rfl Z.2.2 (by simp[bN]) λT W=>X _ (BQ W)
 self:=λi s Q E Z X=>CL Z.1 X
def fM (w:ā):Bool:=!(w.params.followText "set-order")
section
variable {P:å} {w:ā} {A:í} {E:Ç->Â->Prop} {s:Â}
def Ve (a:Ç)
 (hq:Q₁ (.ref s.heap.objs.size) { s with heap:=s.heap.push { cls:=.type "set",dict:=ϋ,data:=.set #[] 0 (.fresh 0 0 (fM w)) } }) :
  ż (é P w) A (.call (.builtin "set.__new__") ⟨[.type "set",a],[]⟩) (wants Q₁ E) s:=by
 refine aev ?_;show á _ A.in1 (aem "set.__new__" ⟨[.type "set",a],[]⟩ >>= λ_=>again (.builtin "set.__new__" ⟨[.type "set",a],[]⟩)) _ _ s;refine À ?_;refine abL (F.newCall_set_1 a) ?_;refine Ã ⟨plainId_quiet F.plain_set_new _,Ŋ F.entry_set_new ?_⟩;rw[Ų F.plain_set_new _];delta Ř.«set.__new__» Builtin.Frozenset.newClass;have ss:=sub_set_self;obtain⟨Z,Y,X,W,V⟩:=s;dsimp only
 wp_walk
 refine ť (Ã ?_);dsimp only;erw[newObj];refine À (wpAny_alloc ?_);exact Ã (Ã hq)
end
section
variable {P:å} {w:ā} {A:í} {R:Result->Â->Prop} {I:Þ} {fp wr:List Þ} {G:Array GenState->Array GenState->Prop} {n:Nat} {Pv:Nat->Ç->Prop} {St:Nat->Â->Prop} {led:Bool}
def Vf (val:Nat->Int) {i n:Nat} (h:i<=n):(ř val i).length<=(ř val n).length:=by
 induction h with
 |refl=>exact aeS _
 |step _ ih =>
  refine Ý ih ?_;rw[firstMet_succ,step_length]
  split<;>omega
def Vg (W:WalksS P w A.in1 I fp wr G n Pv St) (S:Þ) (yk:S∉fp)
  (val:Nat->Int) (ack:∀i v,Pv i v->∃t,v=.int (val i) t) (hb:(ř val n).length+1<adn) :
  ∀(k i:Nat) (s:Â),n-i=k->i<=n->St i s ->
   ig P w led s.heap S (λj=>(ř val i).any (·==j)) (ř val i).length ->
   (∀s',Moved (S::wr) G s s'->ig P w led s'.heap S (λj=>(ř val n).any (·==j)) (ř val n).length->R (.ok (.ret .none)) s') ->
   ż (é P w) A (.builtin "set.update.loop" ⟨[.ref S,.ref I],[]⟩) R s:=by
 have nw:S∉wr:=λz=>yk (W.sub _ z);have sw:∀b∈wr,b∈S::wr:=λb z=>Ï _ z;intro k
 induction k with
 |zero =>
  intro i s N Q Z T Y;obtain rfl:i=n:=by omega
  refine Ŋ F.entry_set_update_loop ?_;rw[Ų adP _];show á _ A.in1 (adg (.ref I) >>= _) _ _ s;refine À (W.done s _ _ Z λs' m=>?_);show á _ A.in1 (ret Value.none) _ _ s';exact Ã (Y s' (m.mono sw) (T.at λo e=>m.heap S o nw e))
 |succ k ih =>
  intro i s N Q Z T Y;have lt:i<n:=by omega
  refine Ŋ F.entry_set_update_loop ?_;rw[Ų adP _];show á _ A.in1 (adg (.ref I) >>= _) _ _ s;refine À (W.item i s _ _ lt Z λv s' pv M m=>?_);obtain⟨t,rfl⟩:=ack i v pv;have L:=T.at (h':=s'.heap) λo e=>m.heap S o nw e;show á _ A.in1 (ade [aep (val i) t] (setAdd S (.int (val i) t)) >>= _) _ _ s';refine À (ą ?_);delta setAdd;refine ą ?_;refine À ((Ţ P w).pyHash (k:=val i) (intKind_is _ _ _ _) ?_);have room:(ř val i).length+1<adn:=by have:=Vf val Q;omega
  refine W4 (s:={ s' with toks:=s'.toks+1 }) L room λh' O K=>?_
  have J:ig P w led h' S (λj=>(ř val (i+1)).any (·==j)) (ř val (i+1)).length:=K.congr (λj=>by rw[firstMet_succ,step_any]) (by rw[firstMet_succ,step_length]);refine Ã ⟨plainId_quiet adP _,ih (i+1) _ ⋯ lt (W.frame _ s' _ _ M (ady _) λb X o e=>?_) J λH V U=>?_⟩
  ·rw[O.2 b λz:b=S=>yk (z ▸ X)];exact e
  ·refine Y H (Moved.trans W.gtrans ((m.mono sw).then_heap (ady _) λb o X e=>?_) V) U
   rw[O.2 b λz:b=S=>X (by rw[z];exact ß)];exact e
end
section
variable {P:å} {w:ā} {A:í} {E:Ç->Â->Prop} {s:Â}
def Sm   
 (hh:A.handled=ϋ) (hl:s.heap.IsList l its) (hi:aej its.toList ns) (hb:(ř (λi=>ns.getD i 0) its.size).length+1<adn)
 (h:∀(h':ĺ) (tk:Nat),ig P w (fM w) h' s.heap.objs.size (λk'=>(ř (λi=>ns.getD i 0) its.size).any (·==k')) (ř (λi=>ns.getD i 0) its.size).length ->
 (∀b o,b<s.heap.objs.size->s.heap.get? b=ϊ o->h'.get? b=ϊ o)->Q (.ref s.heap.objs.size) { s with heap:=h',toks:=tk }) :
  á (é P w) A (call (.type "set") [.ref l]) Q E s:=by
 obtain⟨c,tl,ur⟩:=ac2.mro;have um:=ac2.made;have ub:=ac2.sub;refine adC (aev ?_);show á _ _ (callAny (.type "set") _) _ _ _;refine Ã ⟨adQ _ nofun,Ŋ F.entry_type_call ?_⟩;rw[Around.under_plain (weight_type_call_type "set" [.ref l] []) rfl];have h1:=ac2.notType;have h2:=ac2.canCreate;have I:=F.typeCall_set_1 (.ref l)
 repeat (any_goals (first|assumption|wp_step))
 refine ŋ (Ve (.ref l) (E:=E) (Q₁:=λobj O=>obj=.ref s.heap.objs.size/\O={ s with heap:=s.heap.push { cls:=.type "set",dict:=ϋ,data:=.set #[] 0 (.fresh 0 0 (fM w)) } }) ⟨rfl,rfl⟩) λr O Y=>?_
 cases r with
 |error e=>exact Y
 |ok H =>
  cases H with
  |ret obj =>
   obtain⟨rfl,rfl⟩:=Y;have v:(s.heap.push { cls:=.type "set",dict:=ϋ,data:=.set #[] 0 (.fresh 0 0 (fM w)) }).get? s.heap.objs.size=ϊ { cls:=.type "set",dict:=ϋ,data:=.set #[] 0 (.fresh 0 0 (fM w)) }:=Î _ rfl
   have G:Shared.TypeIs { s with heap:=s.heap.push { cls:=.type "set",dict:=ϋ,data:=.set #[] 0 (.fresh 0 0 (fM w)) } } (.ref s.heap.objs.size) "set":=⟨_,v,rfl⟩
   have vl:=ac2.init.lookup;have vb:=ac2.init.bind (.ref s.heap.objs.size)
   repeat (any_goals (first|assumption|wp_step))
   refine ŋ (ų (R:=wants (λr N=>r=.none/\∃h' tk,N={ s with heap:=h',toks:=tk } /\
     ig P w (fM w) h' s.heap.objs.size (λk'=>(ř (λi=>ns.getD i 0) its.size).any (·==k')) (ř (λi=>ns.getD i 0) its.size).length /\
     (∀b o,b<s.heap.objs.size->s.heap.get? b=ϊ o->h'.get? b=ϊ o)) E) ac2.init.plain F.entry_set_init (check_set_init_1 G ?_)) λX N W=>?_
   ·obtain⟨ol,M,L,nn,K⟩:=hl
    obtain⟨oc,D,oa,V⟩:=ol;simp only at L K;subst L;subst K;have U:(s.heap.push { cls:=.type "set",dict:=ϋ,data:=.set #[] 0 (.fresh 0 0 (fM w)) }).get? l=ϊ { cls:=.type "list",dict:=D,data:=.seq its nn,slots:=V }:=Á _ M;have u1:=F.sub_list_set;have u2:=F.sub_list_frozenset;have gX:(Ť "list"==Ť "dict")=ύ:=by decide
    have ul:(s.heap.push { cls:=.type "set",dict:=ϋ,data:=.set #[] 0 (.fresh 0 0 (fM w)) }).IsList l its:=⟨_,U,rfl,nn,rfl⟩;delta Ř.«set.__init__» noKeywords Builtin.Frozenset.updateFrom;generalize C:pyIter=PI
    wp_walk
    subst C;refine ŵ ul ?_;refine À (wpAny_runValue ?_);have J:l<s.heap.objs.size:=Ð M;have B:A.in1.in1.in1.handled=ϋ:=by simp[hh]
    have z:l≠(s.heap.push { cls:=.type "set",dict:=ϋ,data:=.set #[] 0 (.fresh 0 0 (fM w)) }).objs.size:=by
     rw[Ā];exact ã (Ĵ J)
    have y:s.heap.objs.size∉[(s.heap.push { cls:=.type "set",dict:=ϋ,data:=.set #[] 0 (.fresh 0 0 (fM w)) }).objs.size,l]:=by
     rw[Ā];erw[Û,Đ,ć,or_false,not_or];exact⟨ã (Ŗ _),Ũ J⟩
    have x:∀(i:Nat) (v:Ç),its[i]?=ϊ v->∃t,v=.int ((λi=>ns.getD i 0) i) t:=λi v u =>
     IntsAre.int_at hi i v (by rw[į];exact u)
    refine Vg (led:=fM w) ((Walks.list B _ l z its).toS) s.heap.objs.size
     y (λi=>ns.getD i 0) x hb (its.size-0) 0 _ ⋯ (Ē _)
     ⟨⟨_,Î _ rfl,rfl,rfl⟩,(ul.push _)⟩ ?v0 ?vR
    case v0 =>
     have q:((s.heap.push { cls:=.type "set",dict:=ϋ,data:=.set #[] 0 (.fresh 0 0 (fM w)) }).push { cls:=.type "list_iterator",data:=.fields #[.ref l,.int 0 0] }).get? s.heap.objs.size
       = ϊ { cls:=.type "set",dict:=ϋ,data:=.set #[] 0 (.fresh 0 0 (fM w)) }:=Á _ v
     exact⟨_,#[],0,_,q,⟨rfl,rfl,rfl⟩,rfl,λe p=>by simp at p,λk=>by simp[firstMet_zero],by delta adn;simp,by rfl,rfl,TC _⟩
    case vR =>
     intro n Z T;obtain⟨h',m,j,g,f⟩:=n;have d:m=s.gens:=Z.gens;have a:j=s.drawn:=Z.drawn;have eo:f=s.os:=Z.os;subst d;subst a;subst eo;show á _ _ _ _ _ _;refine Ã ?_;show á _ _ (ret Value.none) _ _ _;refine Ã ⟨rfl,h',g,rfl,T,λb o hb e=>?_⟩;have v1:b≠s.heap.objs.size:=ã hb;have v2:b≠(s.heap.push { cls:=.type "set",dict:=ϋ,data:=.set #[] 0 (.fresh 0 0 (fM w)) }).objs.size:=by
      rw[Ā];exact ã (Ĵ hb)
     exact Z.heap b o (by erw[Û,Đ,ć,or_false,not_or];exact⟨v1,v2⟩) (Á _ (Á _ e))
   ·cases X with
    |error e=>exact W
    |ok S =>
     cases S with
     |ret r =>
      obtain⟨rfl,h',tk,rfl,T,vk⟩:=W
      repeat (any_goals (first|assumption|wp_step))
      exact h _ _ T vk
     |_=>exact W.elim
  |_=>exact Y.elim
end
theorem BJ {α:Type}:∀{l:List α} {i:Nat} {x:α},l[i]?=ϊ x->(x::l.eraseIdx i).Perm l
 | [],i,x,h=>by simp at h
 |y::l,0,x,h=>by
  have:y=x:=by simpa using h
  subst this;exact List.Perm.refl _
 |y::l,i+1,x,h=>by
  have ih:=BJ (l:=l) (i:=i) (x:=x) (by simpa using h);rw[List.eraseIdx_cons_succ];exact(List.Perm.swap y x _).trans (List.Perm.cons y ih)
theorem LL {α:Type} (next:Nat->Nat):∀(fuel k:Nat) (left:List α) (out:Array α),left.length=fuel->(pickOrder.go next fuel k left out).toList.Perm (out.toList++left)
 |0,k,left,out,h=>by
  have:left=[]:=adR.mp h;subst this;delta pickOrder.go;simp
 |fuel+1,k,left,out,h=>by
  delta pickOrder.go
  have Z:next k % left.length<left.length:=Nat.mod_lt _ ⋯
  rw[Ø Z];dsimp only;have Y:=BJ (Ø Z)
  have ih:=LL next fuel (k+1) (left.eraseIdx (next k % left.length)) (out.push left[next k % left.length]) (by rw[List.length_eraseIdx_of_lt Z];omega)
  refine ih.trans ?_;rw[ad3,Ĳ];exact List.Perm.append_left _ Y
def Kj {α:Type} (next:Nat->Nat) (xs:Array α):(ε next xs).toList.Perm xs.toList:=by
 delta ε
 have:=LL next xs.size 0 xs.toList #[] ∅
 simpa using this
section
variable {P:å} {w:ā} {A:í} {E:Ç->Â->Prop}
def Sn {α:Type} (n:Nat):∀(xs:List α) (s:Â) (Q:List α->Â->Prop),xs.length=n->(∀ys d,ys.Perm xs->Q ys { s with drawn:=d })->á (é P w) A (drawOrder n xs) Q E s:=by
 induction n with
 |zero =>
  intro xs s Q h Z;have:xs=[]:=adR.mp h;subst this;delta drawOrder;exact Ã (Z [] s.drawn (List.Perm.refl _))
 |succ n ih =>
  intro xs s Q h Z
  cases xs with
  |nil=>simp at h
  |cons x xs =>
   delta drawOrder;refine À (Si ∅ ?_);have Y:w.draws .order (s.drawn.get .order) % (x::xs).length<(x::xs).length:=Nat.mod_lt _ ∅;rw[Ø Y];dsimp only;refine À (ih _ _ _ (by rw[List.length_eraseIdx_of_lt Y];omega) λys d X=>?_);refine Ã (Z _ d ?_);exact(List.Perm.cons _ X).trans (BJ (Ø Y))
def Vh {s:Â} {a:Þ} {u:Obj} {es:Array (Int×Ç)} {ep:Nat} {t:SetTable} {Q:Ç->Â->Prop} (hu:s.heap.get? a=ϊ u) (hx:u.ExactSet) (hd:u.data=.set es ep t) (hf:t.fits es.size=ό) (ht:jf (fM w) t)
  (hsz:es.size<=Õ)
  (hQ:∀(h':ĺ) (d':Drawn) (I:Þ) (fp:List Þ) (St:Nat->Â->Prop) (order:List Ç),(∀b o,s.heap.get? b=ϊ o->h'.get? b=ϊ o)->(∀b∈fp,b<h'.objs.size)->(∀b∈fp,b=a\/s.heap.objs.size<=b)->I∈fp->s.heap.objs.size<=I->order.Perm (es.toList.map (·.2)) ->
   (∀A':í,A'.handled=ϋ->WalksS P w A' I fp [I] (λa b=>b=a) es.size (λi v=>order[i]?=ϊ v) St)->St 0 { s with heap:=h',drawn:=d' }->Q (.ref I) { s with heap:=h',drawn:=d' }) :
  á (é P w) A (pyIter (.ref a)) Q E s:=by
 have N:s.TypeIs (.ref a) "set":=⟨u,hu,hx.1⟩;have X:a<s.heap.objs.size:=Ð hu;refine wpAny_pyIter_slot N F.slot_set_iter (Ď F.slot_set_iter N Qy ?_ (F.args_set_iter_1 _));delta Ř.«frozenset.__iter__» Builtin.Frozenset.slot0 slotArgs;simp only[adt,ý,Æ,↓reduceIte,bind_assoc,Ą,Ĕ];delta Builtin.Frozenset.addrOf Builtin.Frozenset.sizeOf;refine À (Ã ?_)
 try dsimp only
 refine À (Ã ?_);refine À (À (ž hu hd hf (Ã ?_)));delta setDrawn;refine À (À (ŷ hu hd hf ?_));dsimp only;delta setsByText;refine À (À (ť (Ã ?_)));refine Ã ?_
 show á _ _ (if (!(w.params.followText "set-order")&&(!t.plain&&ώ (es.size > 1)))=ό then _ else _) _ _ _
 have G:∀(W:Obj) b o,s.heap.get? b=ϊ o->(s.heap.push W).get? b=ϊ o:=λW b o e=>Á _ e;by_cases V:(!w.params.followText "set-order"&&(!t.plain&&ώ (es.size > 1)))=ό
 ·rw[Ñ V]
  refine À (Sn _ _ _ _ ∅ λU d hp=>?_);refine À ?_;erw[newTuple];refine û ?_ (by have:=hp.length_eq;rw[List.length_range] at this;show (aec _).size<=Õ;rw[Ü,É,this];exact hsz);have L:∀x∈U,x<es.size:=λx hx=>by simpa using hp.mem_iff.mp hx
  have O:U.length=es.size:=by simpa using hp.length_eq
  refine À (wpAny_setEpoch_of (Á _ hu) hd hf ?_);refine À (û ?_);refine Ã ⟨_,rfl,"set_iterator",_,⟨_,Î _ rfl,rfl⟩,kO.lookup,?_⟩;have Y:(s.heap.push { cls:=.type "tuple",data:=.seq (U.map λ(i:Nat)=>ĸ i).toArray }).objs.size=s.heap.objs.size+1:=by simp[Ā]
  refine hQ _ d _ [_,a,s.heap.objs.size] _ (U.map λk=>(es.getD k (0,Value.none)).2) (λb o e=>Á _ (Á _ e)) ?_ ?_ ∅ (by rw[Y];exact ady _) ?_ (λA' T=>RD (u:=u) (t:=t) (ep:=ep) T (I:=_) (a:=a) (tp:=s.heap.objs.size) (by rw[Y];exact ã (Ĵ X)) (by rw[Y];exact ã (Ŗ _)) hd hf U O L) ⟨⟨_,Î _ rfl,rfl,rfl⟩,Á _ (Á _ hu),⟨_,Á _ (Î _ rfl),rfl,_,rfl⟩⟩
  ·intro b Z
   erw[Û,ć,or_false] at Z;rw[Ā]
   rcases Z with e|e|e
   ·rw[e];exact Ŗ _
   ·rw[e,Y];exact Ĵ (Ĵ X)
   ·rw[e,Y];exact Ĵ (Ŗ _)
  ·intro b Z
   erw[Û,ć,or_false] at Z
   rcases Z with e|e|e
   ·right;rw[e,Y];exact ady _
   ·exact .inl e
   ·right;rw[e];exact aeS _
  ·refine(List.Perm.map _ hp).trans ?_
   have:(è es.size).map (λk=>(es.getD k (0,Value.none)).2)=es.toList.map (·.2):=by
    apply ac8;intro i;rw[ê,ê];by_cases S:i<es.size
    ·rw[Ŀ S,į]
     simp[aeH,S]
    ·rw[ğ (by simpa using S),ğ (by simpa using S)]
     rfl
   rw[this]
 ·rw[Ú V]
  refine À (Ã ?_);refine À (wpAny_setEpoch_of hu hd hf ?_);refine À (û ?_);refine Ã ⟨_,rfl,"set_iterator",_,⟨_,Î _ rfl,rfl⟩,kO.lookup,?_⟩;have ai:∀(W:Obj),∀b∈[s.heap.objs.size,a],b<(s.heap.push W).objs.size:=λW b Z=>by
   erw[Û,ć,or_false] at Z;rw[Ā]
   rcases Z with e|e
   ·rw[e];exact Ŗ _
   ·rw[e];exact Ĵ X
  have M:∀b∈[s.heap.objs.size,a],b=a\/s.heap.objs.size<=b:=λb Z=>by
   erw[Û,ć,or_false] at Z
   rcases Z with e|e
   ·right;rw[e];exact aeS _
   ·exact .inl e
  cases R:w.params.followText "set-order" with
  |true =>
   have K:(ε (w.params.setOrder a ep) es).size=es.size:=by
    have:=(Kj (w.params.setOrder a ep) es).length_eq;simpa using this
   have hw:∀A':í,A'.handled=ϋ->WalksS P w A' s.heap.objs.size [s.heap.objs.size,a] [s.heap.objs.size] (λa b=>b=a) es.size (λi v=>((ε (w.params.setOrder a ep) es).toList.map (·.2))[i]?=ϊ v) _:=λA' T=>by
    have:=Sj (P:=P) (u:=u) (t:=t) T (I:=s.heap.objs.size) (a:=a) (ã X) R hd hf K;simpa using this
   exact hQ _ s.drawn _ [_,a] _ ((ε (w.params.setOrder a ep) es).toList.map (·.2)) (λb o e=>Á _ e) (ai _) M ∅ (aeS _) (List.Perm.map _ (Kj _ _)) hw ⟨⟨_,Î _ rfl,rfl,rfl⟩,Á _ hu⟩
  |false =>
   have hp:t.plain=ό\/es.size<=1:=by
    rw[R] at V;simp at V
    cases J:t.plain with
    |true=>exact .inl rfl
    |false=>exact .inr (V J)
   have O:t.led=ό:=by rw[ht.led];delta fM;rw[R];rfl
   have H:lu t.place.toList:=by
    rcases hp with hp|hp
    ·exact ht.rise hp
    ·erw[SetTable.fits,Å,beq_iff_eq,Ë] at hf
     have hle:t.place.toList.length<=1:=by simp[hf.1];exact hp
     match t.place.toList,hle with
     | [],_=>exact List.Pairwise.nil
     | [x],_=>exact List.pairwise_singleton _ _
   have hw:∀A':í,A'.handled=ϋ->WalksS P w A' s.heap.objs.size [s.heap.objs.size,a] [s.heap.objs.size] (λa b=>b=a) es.size (λi v=>(es.toList.map (·.2))[i]?=ϊ v) _:=λA' T=>by
    have:=RC (P:=P) (u:=u) (t:=t) (ep:=ep) T (I:=s.heap.objs.size) (a:=a) (ã X) R hd hf O hp H;simpa using this
   exact hQ _ s.drawn _ [_,a] _ (es.toList.map (·.2)) (λb o e=>Á _ e) (ai _) M ∅ (aeS _) (List.Perm.refl _) hw ⟨0,⟨_,Î _ rfl,rfl,rfl⟩,Á _ hu,Ē _,λk D=>by omega,λk _ _=>Ē _⟩
end
section
variable {P:å} {w:ā} {A:í} {E:Ç->Â->Prop} {s:Â}
def split_len:splitId "set.__len__"=ϊ ("set","__len__"):=nofun
def ints_of (h:ElemsOf (Ţ P w) es) (hp:vs.Perm (es.map (·.2))):∃ns,aej vs ns:=by
 have Z:∀v∈vs,∃k t,v=.int k t:=λv Z=>by
  obtain⟨e,W,rfl⟩:=ĉ.mp (hp.mem_iff.mp Z);obtain⟨⟨k,X,_⟩,_⟩:=h e W
  cases Y:e.2 with
  |int i t=>exact⟨i,t,rfl⟩
  |_=>rw[Y] at X;simp[Ţ,Value.isInt] at X
 clear hp
 induction vs with
 |nil=>exact⟨[],.nil⟩
 |cons v vs ih =>
  obtain⟨k,t,rfl⟩:=Z v ß;obtain⟨ns,V⟩:=ih λx Y=>Z x (Ï _ Y);exact⟨k::ns,.cons k t V⟩
def ML {α:Type} {c:Bool} {x y:Sem α} {Q:α->Â->Prop} (hc:c=ό) (h:á (é P w) A x Q E s):á (é P w) A (if c=ό then x else y) Q E s:=by
 rw[Ñ hc];exact h
def RE {a:Þ} {u:Obj} {es:Array (Int×Ç)} {ep:Nat} {t:SetTable} {Q:List Ç->Â->Prop} (hh:A.handled=ϋ) (hu:s.heap.get? a=ϊ u) (hx:u.ExactSet) (hd:u.data=.set es ep t) (hf:t.fits es.size=ό) (ht:jf (fM w) t) (hsz:es.size<adn)
  (hQ:∀(h':ĺ) (d':Drawn) (tk:Nat) (vs:List Ç),s.heap.objs.size<=h'.objs.size->(∀b o,s.heap.get? b=ϊ o->h'.get? b=ϊ o)->vs.Perm (es.toList.map (·.2))->Q vs { s with heap:=h',drawn:=d',toks:=tk }):á (é P w) A (collect (.ref a)) Q E s:=by
 have K:es.size<=Õ:=ac9 hsz;have J:a<s.heap.objs.size:=Ð hu;delta collect;refine À (wpAny_runValue (Ŋ F.entry_proto_collect ?_));rw[Ų F.plain_proto_collect _];show á _ A.in1 (newList [] >>= λl=>again (.builtin "list.__iadd__" ⟨[l,.ref a],[]⟩)) _ _ s;refine À (û ?_);refine Ã ⟨plainId_quiet F.plain_list_iadd _,Ŋ F.entry_list_iadd ?_⟩;rw[Ų F.plain_list_iadd _];show á _ A.in1 (Š (.ref s.heap.objs.size) (.ref a) (.ref s.heap.objs.size)) _ _ _
 generalize U:({ s with heap:=s.heap.push { cls:=.type "list",data:=.seq ([]:List Ç).toArray } }:Â)=Y
 have H:Y.heap.objs.size=s.heap.objs.size+1:=by rw[<- U];simp[Ā]
 have i:∀b o,s.heap.get? b=ϊ o->Y.heap.get? b=ϊ o:=λb o e=>by rw[<- U];exact Á _ e
 have T:Y.heap.get? a=ϊ u:=by rw[<- U];exact Á _ hu
 have h:Y.TypeIs (.ref a) "set":=⟨u,T,hx.1⟩;have S:Y.heap.get? s.heap.objs.size=ϊ { cls:=.type "list",data:=.seq ([]:List Ç).toArray }:=by rw[<- U];exact Î _ rfl
 delta Š;refine À (adF h ?_);have g:Builtin.List.listSameRef (.ref s.heap.objs.size) (.ref a)=ύ:=by
  simp[Builtin.List.listSameRef];exact Ũ J
 have f:(Ť "set"==Ť "list")=ύ:=by decide
 have d:(Ť "set"==Ť "tuple")=ύ:=by decide
 erw[g,f,d,Bool.or_false,Æ,ï];refine À (Vh T hx hd hf ht K λh' d' I fp St order R k2 k6 k3 G D W st=>?_)
 have O:Shared.TypeIs { Y with heap:=h',drawn:=d' } (.ref a) "set":=⟨u,R _ _ T,hx.1⟩
 have C:=R _ _ S;refine À (ą ?_);delta Builtin.List.listLengthHint;refine À (wpAny_specialOf O F.slot_set_len.lookup ?_);dsimp only;rw[split_len];dsimp only;refine À (wpAny_isInstance O sub_set_self ?_);rw[Ú (by decide)];refine ML nofun ?_;refine À (adF O ?_);dsimp only;refine Ã ?_;refine ML nofun ?_
 ··refine À (Ŵ ?_)
   refine À ?_;show á _ A.in1 (updateSeq s.heap.objs.size (·.push .none) >>= λ_=>updateSeq s.heap.objs.size (·.pop)) _ _ _;refine À (wpAny_updateSeq C rfl ?_);have B:=Ğ (ŝ (·.push Value.none)) C rfl;refine wpAny_updateSeq B rfl ?_;have N:=Ğ (ŝ (·.pop)) B rfl;have y:s.heap.objs.size∉fp:=λhm=>by
    rcases k6 _ hm with e|e
    ·exact Ũ J e
    ·rw[H] at e;exact Nat.not_succ_le_self _ e
   have x:∀b o,b≠s.heap.objs.size->h'.get? b=ϊ o->((h'.update s.heap.objs.size (ŝ (·.push Value.none))).update s.heap.objs.size (ŝ (·.pop))).get? b=ϊ o :=
    λb o X e=>(ν _ _ (ź X)).trans ((ν _ _ (ź X)).trans e)
   refine Ã ⟨plainId_quiet F.plain_extend_loop _,codeAny_extend_loopS (W A.in1 (by simp[hh])) K _ y _ es.size 0 _ _ _ rfl (Ē _) ((W A.in1 (by simp[hh])).frame 0 ({ Y with heap:=h',drawn:=d' }:Â) _ Y.toks st (aeS _) λb X o e=>x b o (λz=>y (z ▸ X)) e) N (ItemsOf.nil _) λv Z c m r p=>?_⟩
   show á _ A (load s.heap.objs.size >>= _) _ _ v;refine À (wpAny_load r ?_);refine Ã ?_;have M:order.length=es.size:=by simpa using D.length_eq
   have L:Z.toList=order:=by
    apply ac8;intro j;by_cases n:j<Z.size
    ·have e1:Z[j]?=ϊ Z[j]:=by simp[n]
     rw[į,e1,p.2 j _ e1]
    ·rw[ğ (by simpa using n),ğ (by rw[M,<- p.1];omega)]
   obtain⟨h2,g2,k,t2,o2⟩:=v;have eg:g2=Y.gens:=m.gens;have ed:k=d':=m.drawn;have eo:o2=Y.os:=m.os;subst eg ed eo;have q:=hQ h2 k t2 Z.toList (Nat.le_of_lt (Ð r)) (λb o e=>m.heap b o (λX=>by
    erw[Û,ć,or_false] at X;have V:=Ð e
    rcases X with z|z
    ·rw[z] at V;exact ñ _ V
    ·rw[H] at G;rw[z] at V;exact ñ _ (Ê V (Nat.le_of_succ_le G))) (x b o (λz=>by
     have V:=Ð e;rw[z] at V;exact ñ _ V) (R b o (i b o e)))) (by rw[L];exact D)
   rw[<- U];exact q
def So (hh:A.handled=ϋ) (hu:s.heap.get? a=ϊ u) (hx:u.ExactSet) (hd:u.data=.set es ep t) (hf:t.fits es.size=ό) (ht:jf (fM w) t) (Ge:ElemsOf (Ţ P w) es.toList) (h64:es.size<64)
 (h:∀(h':ĺ) (d':Drawn) (tk:Nat) (p:Þ) (vs:List Ç) (ns:List Int) (out:List Ç) (ms:List Int) (e:Nat),(∀b o,s.heap.get? b=ϊ o->h'.get? b=ϊ o)->s.heap.objs.size<=p->vs.Perm (es.toList.map (·.2))->aej vs ns->h'.get? p=ϊ { cls:=.type "list",data:=.seq out.toArray e }->aej out ms->ms.Perm ns->ms.Pairwise (·<=·)->Q (.ref p) { s with heap:=h',drawn:=d',toks:=tk }) :
  á (é P w) A (call (.builtin "sorted") [.ref a]) Q E s:=by
 refine Calls.call_function_entry kind_sorted plain_sorted entry_sorted (args_sorted1 _) ?_;delta Ř.«sorted»;refine À (m:=checkCount "sorted" 1 1 _) (Ã ?_);refine À (RE (by simp[hh]) hu hx hd hf ht (by delta adn;omega) λh' d' tk vs U T Z=>?_);obtain⟨ns,X⟩:=ints_of Ge Z;have S:vs.length<64:=by have:=Z.length_eq;simp at this;omega
 refine À (wpAny_newList ?_);have Y:(h'.push (adW "list" vs.toArray 0)).get? h'.objs.size=ϊ (adW "list" vs.toArray 0):=Î _ rfl;refine À (ą (Ď slot_list_sort ⟨_,Y,rfl⟩ entry_list_sort (list_sort_tree Y X S λout ms a1 a2 R=>⟨_,rfl,?_⟩) (args_list_sort _)));obtain⟨e,O⟩:=sortedHeap_at (out:=out) Y;refine Ã ⟨_,rfl,h _ d' tk h'.objs.size vs ns out.toList ms e (λb o N=>?_) ?_ Z X (by simpa [adW] using O) a1 a2 R⟩
 ·have W:=T b o N
  have V:=Ð W;rw[sortedHeap_old (ã V) (by rw[size_push'];exact Ĵ V)];exact Á _ W
 ·exact U
end
end TS
namespace L2
open PySem PySem.Spec PyProof.Rows
def my (P:å) (w:ā) (p:Þ) (ns:List Int):ĺ->Prop:=λh=>∃(S:Int->Bool) (n:Nat),TS.ig P w (TS.fM w) h p S n/\(∀k,S k=ό↔k∈ns)/\n<=ns.length/\n=(ns.foldl step_dedup []).length
section
variable {X:Cx}
def v5 (l:List Int) (k:Int):(l.any (·==k))=ό↔k∈l:=by
 rw[ael];exact⟨λ⟨x,Z,Y⟩=>by rw[<- beq_iff_eq.mp Y];exact Z,λh=>⟨k,h,by simp⟩⟩
def W6 (hm:m=ns.length) (hS:TS.ig X.prog X.w (TS.fM X.w) h p (λk'=>(ř (λi=>ns.getD i 0) m).any (·==k')) (ř (λi=>ns.getD i 0) m).length):my X.prog X.w p ns h:=by
 subst hm;refine⟨_,_,hS,λk=>?_,firstMet_length_le _ _,?_⟩
 ·rw[firstMet_any,map_getD]
  exact v5 ns k
 ·delta ř
  rw[map_getD]
def W7 (hx:my X.prog X.w p ns h):eQ X.prog X.w (upd H p (.ext (my X.prog X.w p ns))) h p (.ext (my X.prog X.w p ns)):=by
 refine⟨hx,?_,λY W q k=>?_⟩
 ·obtain⟨_,_,⟨o,_,_,_,Z,_⟩,_⟩:=hx
  exact⟨o,Z⟩
 ·obtain⟨S,n,T,r⟩:=q
  exact⟨S,n,T.at k,r⟩
def Sq (hc:X.calm=ό):cU X (.type "set") (λxs H Q=>∃(a:Þ) (ns:List Int),xs=[.ref a]/\bY X.K H a (ns.map V.int)/\(ns.foldl step_dedup []).length<4000/\∀p,H p=ϋ->Q (.ref p) (upd H p (.ext (my X.prog X.w p ns)))):=by
 intro P s σ H xs O Q I r h;obtain⟨a,ns,rfl,W,N,q⟩:=h;obtain⟨u,rfl,U⟩:=vals1 r;cases U;obtain⟨its,Z,p,_⟩:=I.list W;have Y:its.toArray.size=ns.length:=by
  have e:=Z.length;rw[É] at e;simpa using e.symm
 refine TS.Sm (its:=its.toArray) (ns:=ns) (I.ok.hd hc) p.isList (by simpa using intsAre_of Z) (by rw[Y];delta ř;rw[map_getD];show _ + 1<4096;omega) λM T S R=>?_;exact⟨.ref _,_,I.laid (t':=T) (λb o e=>R b o (Ð e) e) (aeS _) (W7 (W6 Y S)),rfl,q _ (I.aI.fresh (aeS _))⟩
theorem Jc:∀{out:List Ç} {ms:List Int},aej out ms->Vals (ms.map V.int) out
 |_,_,.nil=>.nil
 |_,_,.cons n t h=>.cons ⟨t,rfl⟩ (Jc h)
theorem BC:∀(ns acc:List Int),acc.Nodup->(ns.foldl step_dedup acc).Nodup
 | [],acc,h=>h
 |n::ns,acc,h=>by
  refine BC ns _ ?_;delta step_dedup;split
  ·exact h
  ·rename_i Z
   rw[ads] at Z;refine ad5.mpr ⟨h,by simp,λa Y b X=>?_⟩;have:b=n:=by simpa using X
   subst this;intro e;subst e;rw[(v5 acc a).mpr Y] at Z;cases Z
theorem KU:∀{vs:List Ç} {ns:List Int},aej vs ns->∀k,k∈ns↔∃t,aep k t∈vs
 |_,_,.nil,k=>by simp
 |_,_,.cons n t h,k=>by
  rw[Û,KU h k];constructor
  ·rintro (e | ⟨Z,h'⟩)
   ·subst e;exact⟨t,ß⟩
   ·exact⟨Z,Ï _ h'⟩
  ·rintro ⟨Z,h'⟩
   rcases Û.mp h' with e|h'
   ·injection e with e _;exact .inl e
   ·exact .inr ⟨Z,h'⟩
theorem sub_len:∀{m l:List Int},m.Nodup->(∀k,k∈m->k∈l)->m.length<=l.length
 | [],l,_,_=>Ē _
 |x::m,l,h,Z=>by
  obtain⟨W,V⟩:=ψ.mp h;have Y:=Z x ß;have ih:=sub_len (m:=m) (l:=l.erase x) V λk X=>(List.mem_erase_of_ne (λ(e:k=x)=>W (by rw[<- e];exact X))).mpr (Z k (Ï _ X));rw[List.length_erase_of_mem Y] at ih;have:=List.length_pos_of_mem Y;rw[â];omega
theorem Jd:∀{l m:List Int},m.Nodup->(∀k,k∈m↔k∈l)->l.length<=m.length->l.Nodup
 | [],m,_,_,_=>List.nodup_nil
 |a::r,m,Z,Y,W=>by
  have V:a∉r:=λh=>by
   have:=sub_len Z λk U=>(Û.mp ((Y k).mp U)).elim (λe=>e ▸ h) id;rw[â] at W;omega
  have X:a∈m:=(Y a).mpr ß;refine ψ.mpr ⟨V,Jd (m:=m.erase a) (Z.erase a) (λk=>?_) ?_⟩
  ·rw[Z.mem_erase_iff,Y k,Û]
   constructor
   ·rintro ⟨T,h2|h2⟩
    ·exact absurd h2 T
    ·exact h2
   ·intro h
    exact⟨λe=>V (e ▸ h),.inr h⟩
  ·rw[List.length_erase_of_mem X]
   rw[â] at W;omega
def Kk (ns:List Int) (k:Int):k∈ns.foldl step_dedup []↔k∈ns:=by
 have:=firstMet_any (λi=>ns.getD i 0) ns.length k;delta ř at this;rw[map_getD] at this;rw[<- v5,<- v5,this]
def Q8 (hc:X.calm=ό):cU X (.builtin "sorted") (λxs H Q=>∃(p:Þ) (ns:List Int),xs=[.ref p]/\H p=ϊ (.ext (my X.prog X.w p ns))/\(ns.foldl step_dedup []).length<64 /\
  ∀(l:Þ) (ms:List Int),H l=ϋ->ms.Pairwise (· < ·)->(∀k,k∈ms↔k∈ns)->Q (.ref l) (upd H l (.lst (ms.map V.int)))):=by
 intro π s σ H xs us Q I r h;obtain⟨p,ns,rfl,F,hl,q⟩:=h;obtain⟨v,rfl,E⟩:=vals1 r;cases E;obtain⟨⟨S,n,⟨u,es,ep,t,D,C,hd,B,W,N,A,z,y⟩,m,Gf,j⟩,_⟩:=I.aI p _ F;refine TS.So (I.ok.hd hc) D C hd A y B ⋯ λg f M l vs ks out ms e d L Y U c k6 T k8=>?_;have K:∀k,k∈ms↔k∈ns:=λk=>by
  rw[T.mem_iff,KU U k,<- m k,W k];constructor
  ·rintro ⟨t',Gh⟩
   obtain⟨x,R,Z⟩:=ĉ.mp (Y.mem_iff.mp Gh);exact⟨x,R,by rw[Z];exact intKind_is _ _ _ _⟩
  ·rintro ⟨x,R,Z⟩
   obtain⟨i,t',G⟩:∃i t',x.2=.int i t':=by
    cases hv:x.2 with
    |int i t'=>exact⟨i,t',rfl⟩
    |_=>rw[hv] at Z;simp[Ţ,Value.isInt] at Z
   have rm:k=i:=(Ţ X.prog X.w).inj (.int i t') k i (by rw[<- G];exact Z) (intKind_is _ _ _ _);subst rm;exact⟨t',Y.mem_iff.mpr (ĉ.mpr ⟨x,R,G⟩)⟩
 have P:ms.Nodup:=by
  have kJ:=BC ns [] List.nodup_nil;refine Jd kJ (λk=>?_) ?_
  ·rw[K k,Kk]
  ·rw[<- j,<- z]
   have e1:=T.length_eq;have e2:=U.length;have O:=Y.length_eq;simp at O;omega
 have bE:ms.Pairwise (· < ·):=by
  have:=List.pairwise_and_iff.mpr ⟨k8,P⟩;exact this.imp λ⟨a,b⟩=>by omega
 have J:=I.laid (t':=M) (a:=l) (o:=.lst (ms.map V.int)) d L ⟨by
  rw[É,ŭ];have e1:=T.length_eq;have e2:=U.length;have O:=Y.length_eq;simp at O;omega,out,e,Jc k6,c⟩
 exact⟨.ref l,_,J.wL (s':={ s with heap:=g,drawn:=f,toks:=M }) (ch:=[]) rfl Un.refl J.aI J.bare (λb N=>by cases N),rfl,q l ms (I.aI.fresh L) bE K⟩
end
end L2
namespace HZ
open PySem PySem.Spec PyProof.Rows
open AutoSeq1 (wpAny_loadPart')
end HZ
namespace L2
open PySem PySem.Spec PyProof.Rows
end L2
namespace HZ
open PySem PySem.Spec PyProof.Rows
def Qn:fillsNumberSlot (.type "tuple") "mul"=pure ύ:=by
 first|rfl | (delta fillsNumberSlot;kernel_rfl)|kernel_rfl
def Q9:seqRepeat? (.type "tuple")=pure (ϊ (.builtin "tuple.__mul__")):=by
 first|rfl|kernel_rfl
def Sr (a:Int) (t:Tok) (l:Þ) (items:Array Ç) (n:Nat) (d:Option Þ) (sl:Array (Option Ç)) :
  Meets (Ř.«int.__rmul__» ⟨[.int a t,.ref l],[]⟩) (λ_ R s=>s.heap.get? l=ϊ { cls:=.type "tuple",dict:=d,data:=.seq items n,slots:=sl }/\R (.ok (.ret Value.notImplemented)) s) :=
 .of_wp λprog w A R s h=>by
  obtain⟨Z,Y,X,W,V⟩:=s;obtain⟨U,h⟩:=h;wp_walk;exact⟨_,rfl,h⟩
section
variable {P:å} {w:ā} {A:í} {E:Ç->Â->Prop} {s:Â}
def W8 (ht:IsTup s.heap t vs.toArray) (hv:vs≠[]) (hk:1<=k) (hz:vs.length*k.toNat<=Õ)
 (h1:k=1->Q (.ref t) s) (h2:k≠1->Q (.ref s.heap.objs.size) { s with heap:=s.heap.push { cls:=.type "tuple",data:=.seq (Ö k.toNat vs).flatten.toArray } }) :
  á (é P w) A (Ň .Mult (.ref t) (.int k tk)) Q E s:=by
 obtain⟨⟨cls,V,data,sl⟩,Z,Y,n,X⟩:=id ht;simp only at Y X;subst Y X;have L:k<=16777216:=by
  have S:1<=vs.length:=by
   cases vs with
   |nil=>exact absurd rfl hv
   |cons a r=>simp
  have K:vs.length*k.toNat<=16777216:=by rw[<- ŭ];exact hz
  have:1*k.toNat<=vs.length*k.toNat:=aen _ S;omega
 refine wpAny_binaryOp_repeat_ref (T:="tuple") (U:="int") (by decide) ⟨_,Z,rfl⟩ (λR=>typeIs_int R k tk) Qn F.fills_int_mul aes Q9 F.slot_int_index.lookup
  (η aes (typeIs_int s k tk) F.entry_int_rmul (F.args_int_rmul_2 _ _) (Sr k tk t vs.toArray n V sl) ⟨Z,rfl,⟨_,Z,rfl⟩,?_⟩)
 refine Ď F.slot_tuple_mul ⟨_,Z,rfl⟩ F.entry_tuple_mul ?_ (F.args_tuple_mul_2 _ _);show á _ _ (asIndex (.int k tk) >>= _) _ _ _;refine À ?_
 refine abL (a:=k) (by first|rfl | (delta asIndex;rfl)) ?_
 dsimp only;rw[Ú (by simp;omega)];delta ada;refine À (À (Ņ Z rfl ?_));refine Ã ?_;have ne:vs.toArray.isEmpty=ύ:=by
  cases vs with
  |nil=>exact absurd rfl hv
  |cons a r=>simp
 by_cases h:k=1
 ·rw[Ñ (by rw[h];simp)]
  delta adb;refine À (À (adF (T:="tuple") ⟨_,Z,rfl⟩ (Ã ?_)));rw[Ñ (by decide)];exact À (Ŵ (Ã ⟨_,rfl,h1 h⟩))
 ·rw[Ú (by rw[ne];simp[h])]
  rw[Ú (by rw[ne];simp;omega)];have W:(vs.toArray.size:Int)*k=((vs.length*k.toNat:Nat):Int):=by
   rw[Ü,Int.natCast_mul];congr 1;omega
  have O:vs.length*k.toNat<=16777216:=by rw[<- ŭ];exact hz
  rw[Ú (by rw[W];omega)];rw[Ú (by
   delta Builtin.Tuple.tupleTooMany;rw[W,ŭ,Ë];generalize vs.length*k.toNat=q at O;omega)]
  delta ŕ;have e:List.foldl (λN M=>N++M) #[] (Ö k.toNat vs.toArray)=(Ö k.toNat vs).flatten.toArray:=by
   have:=L2.foldl_rep vs k.toNat [];rw[Ļ] at this;exact this
  rw[e];refine À (û ?_ (by
   show (aec _).size<=Õ;rw[Ü,L2.len_rep,Nat.mul_comm];exact hz))
  exact Ã ⟨_,rfl,h2 h⟩
end
end HZ
namespace L2
open PySem PySem.Spec PyProof.Rows
section
variable {X:Cx}
def aaJ (K:đ):R2:=λx y H Q=>∃a Z k,x=.ref a/\y=.int k/\bR K H a Z/\Z≠[]/\1<=k/\Z.length*k.toNat<=Õ/\oU K H (Ö k.toNat Z).flatten Q
def W9:bM X (Ň .Mult) (aaJ X.K):=by
 intro O s σ H x y v u Q I U T h;obtain⟨a,Z,k,rfl,rfl,W,S,R,V,q⟩:=h;cases U;obtain⟨t,rfl⟩:=T;obtain⟨its,r,p,z⟩:=I.tuple W;have Y:=r.length;refine HZ.W8 p (λe=>S (by rw[e] at Y;exact adR.mp Y)) R (by rw[<- Y];exact V) (λe=>?_) (λ_=>?_)
 ·have e1:(Ö k.toNat Z).flatten=Z:=by rw[e];simp
  rw[e1] at q;exact⟨.ref a,H,I,rfl,q.here W⟩
 ·have P:(Ö k.toNat Z).flatten.length<=Õ:=by rw[len_rep,Nat.mul_comm];exact V
  exact⟨.ref _,_,I.laid (t':=s.toks) (o:=.tup (Ö k.toNat Z).flatten) (λb o e=>Á _ e) (aeS _) ⟨P,_,r.rep k.toNat,⟨_,Î _ rfl,rfl,_,rfl⟩⟩,rfl,q.new (I.aI.fresh (aeS _))⟩
end
end L2
namespace HZ
open PySem PySem.Spec PyProof.Rows
def LM:mroOf (.type "reversed")=pure [.type "reversed",.type "object"]:=by rw[mroOf_type];kernel_rfl
def Qz:typeLookup (.type "reversed") "__new__"=pure (ϊ (.builtin "reversed.__new__")):=by rw[typeLookup_type,aed];kernel_rfl
def Vi:Bind.madeBy (.type "reversed")=pure (ϊ "reversed.__new__"):=madeBy_type LM Qz nofun
def QK:entryFor table "reversed.__new__"=ϊ Ř.«reversed.__new__»:=entryFor_of_tree (by kernel_rfl)
def QM:plainId "reversed.__new__"=ό:=nofun
def Ra (a:Ç):checkTypeCall "reversed" ⟨[a],[]⟩=pure ():=by kernel_rfl
def RF (a:Ç):aem "reversed.__new__" ⟨[.type "reversed",a],[]⟩=pure ():=by kernel_rfl
def Xa:isSubtype (.type "reversed") (.type "reversed")=pure ό:=by rw[isSubtype_type];kernel_rfl
def Ss:isSubtype (.type "range_iterator") (.type "reversed")=pure ύ:=by rw[isSubtype_type];kernel_rfl
def Rb:(Ť "reversed"==Ť "type")=ύ:=nofun
def Xb:((Manifest.find? "reversed").bind (·.mro.findSome? λt=>(Manifest.find? t).bind λb=>if b.noNew then ϊ ό else if b.attrs.any (·.1=="__new__") then ϊ ύ else ϋ)).getD ύ=ύ:=nofun
section
variable {P:å} {w:ā} {A:í} {E:Ç->Â->Prop} {s:Â}
def Rc (hr:s.heap.get? r=ϊ { cls:=.type "range",data:=.fields #[.int a t1,.int b t2,.int c t3] }) (h:Q (a,b,c) s):á (é P w) A (aeC (.ref r)) Q E s:=by
 delta aeC;refine À (Į hr rfl (x:=.int a t1) rfl ?_);refine À (abL (a:=ϊ a) (by rfl) ?_);refine À (Į hr rfl (x:=.int b t2) rfl ?_);refine À (abL (a:=ϊ b) (by rfl) ?_);refine À (Į hr rfl (x:=.int c t3) rfl ?_);refine À (abL (a:=ϊ c) (by rfl) ?_);exact Ã h
def Xc {n:Nat} {Q:Ç->Â->Prop} (hr:s.heap.get? r=ϊ { cls:=.type "range",data:=.fields #[.int 0 t1,.int n t2,.int 1 t3] }) (hn:n<2 ^ 62)
 (h:Q (.ref s.heap.objs.size) { s with heap:=s.heap.push { cls:=.type "range_iterator",data:=.fields #[ĸ (n-1),ĸ n,ĸ (-1)] } }) :
  á (é P w) A (Ř.«reversed.__new__» ⟨[.type "reversed",.ref r],[]⟩) (λfin s'=>∃v,fin=.done (.ret v)/\Q v s') E s:=by
 have X:s.TypeIs (.ref r) "range":=⟨_,hr,rfl⟩;have ss:=Xa;delta Ř.«reversed.__new__» Builtin.SmallTypes.newClass Builtin.SmallTypes.refuseKeywords;have V:=ac3.lookup;have U:=ac3.bind (.ref r)
 wp_walk
 refine ŋ (ų (R:=wants (λv s'=>v=.ref s.heap.objs.size/\s'={ s with heap:=s.heap.push { cls:=.type "range_iterator",data:=.fields #[ĸ (n-1),ĸ n,ĸ (-1)] } }) E) ac3.plain F.entry_range_reversed (ac3.check _ _ _ _ _ _ _ _ X (F.args_range_reversed_1 _) ?_)) λW T Z=>?_
 ·delta Ř.«range.__reversed__»
  refine À (abL (a:=.ref r) (by rfl) ?_);refine À (Rc hr ?_);dsimp only;have sz:adI 0 n 1=n:=by
   delta adI;rw[Ñ (by decide)]
   split<;>omega
  rw[sz];have Y:(ę 0&&ę n&&ę 1&&ę (-1)&&ę (0-1)&&ę n)=ό:=by
   have S:(n:Int)<2 ^ 62:=by omega
   delta ę;erw[Å,Ë];refine⟨⟨⟨⟨⟨⟨by decide,by decide⟩,by omega,by omega⟩,by decide,by decide⟩,by decide,by decide⟩,by decide,by decide⟩,by omega,by omega⟩
  rw[Y];rw[Ú (by decide)];refine À (û ?_);refine Ã ?_;refine⟨rfl,?_⟩;have e:(0:Int)+((n:Int)-1)*1=n-1:=by omega
  simp[ĸ]
 ·cases W with
  |error e=>exact Z
  |ok Y =>
   cases Y with
   |ret v =>
    obtain⟨rfl,rfl⟩:=Z;exact Ã ⟨_,rfl,h⟩
   |_=>exact Z
def Vj {n:Nat} {Q:Ç->Â->Prop} (hr:s.heap.get? r=ϊ { cls:=.type "range",data:=.fields #[.int 0 t1,.int n t2,.int 1 t3] }) (hn:n<2 ^ 62)
 (h:Q (.ref s.heap.objs.size) { s with heap:=s.heap.push { cls:=.type "range_iterator",data:=.fields #[ĸ (n-1),ĸ n,ĸ (-1)] } }):á (é P w) A (call (.type "reversed") [.ref r]) Q E s:=by
 have T:=LM;have S:=Vi;have O:=Ss;have m4:=Rb;have N:=Xb;have M:=Ra (.ref r);refine adC (aev ?_);show á _ _ (callAny (.type "reversed") _) _ _ _;refine Ã ⟨adQ _ nofun,Ŋ F.entry_type_call ?_⟩;rw[Around.under_plain (weight_type_call_type "reversed" [.ref r] []) rfl]
 repeat (any_goals (first|assumption|wp_step))
 refine ŋ (ų (R:=wants (λv Z=>v=.ref s.heap.objs.size/\Z={ s with heap:=s.heap.push { cls:=.type "range_iterator",data:=.fields #[ĸ (n-1),ĸ n,ĸ (-1)] } }) E) QM QK (abL (RF _) ?_)) λX L Y=>?_
 ·refine ė (Xc (Q:=λv Z=>v=.ref s.heap.objs.size/\Z={ s with heap:=s.heap.push { cls:=.type "range_iterator",data:=.fields #[ĸ (n-1),ĸ n,ĸ (-1)] } }) hr hn ⟨rfl,rfl⟩) (λf Z W=>?_) λ_ _ e=>e
  obtain⟨v,rfl,V⟩:=W;exact V
 ·cases X with
  |error e=>exact Y
  |ok U =>
   cases U with
   |ret v =>
    obtain⟨rfl,rfl⟩:=Y
    have K:Shared.TypeIs { s with heap:=s.heap.push { cls:=.type "range_iterator",data:=.fields #[ĸ (n-1),ĸ n,ĸ (-1)] } } (.ref s.heap.objs.size) "range_iterator":=⟨_,Î _ rfl,rfl⟩
    repeat (any_goals (first|assumption|wp_step))
   |_=>exact Y.elim
end
end HZ
namespace L2
open PySem PySem.Spec PyProof.Rows
def Fc (n:Nat):It:=⟨λi _=>i<n,λi H x Z=>Z=H/\x=.int ((n:Int)-1-i),λi _=>n<=i⟩
def Vk {P:å} {w:ā} {K:đ} {tg:ě} (it:Þ) (n:Nat):Turn P w K tg (Fc n) [it] it (λi h=>IsRangeIter h it (((n:Int)-1)+(i:Nat)*(-1)) ((n:Int)-(i:Nat)) (-1)) where
 mem:=by simp
 obj:=λi h Z b Y=>by
  have e:b=it:=by simpa using Y
  subst e;exact⟨_,Z,λv z=>by
   have G:Data.fields _=Data.cell v:=z;cases G⟩
 keep:=λi h V Z k=>k it ∅ _ Z
 item:=by
  intro X T hw S R i M s σ H E I U Z Q;subst T hw S;obtain⟨f0,f1,f2,O,f4,N⟩:=U it ∅;have W:=Walks.range (prog:=X.prog) (w:=X.w) (I.ok.hd R) it ((n:Int)-1) (-1) n;refine W.item i s _ _ Q Z λv V L F J D=>?_;obtain⟨t,rfl⟩:=F
  have C:Inv X M σ H { s with heap:=V,toks:=L }:=I.turned (λb o Y e=>D b o (by simpa using Y) e) f0 f1 O f4 N
  refine⟨_,rfl,wM (s:={ s with heap:=V,toks:=L }) (n:="range_iterator") J rfl rfl (by decide) ⟨.int ((n:Int)-1-i),H,C,⟨t,?_⟩,⟨rfl,rfl⟩,J,λb Y=>(U b Y).1⟩⟩
  rw[Int.mul_neg_one];rfl
 done:=by
  intro X T hw S R i M s σ H E I U Z Q;subst T hw S;obtain⟨f0,f1,f2,O,f4,N⟩:=U it ∅;exact wpAny_pyNext_range_end (I.ok.hd R) Z (by have:n<=i:=Q;omega) λV B=>⟨rfl,I.turned (t':=s.toks) (λb o Y e=>B b o Y e) f0 f1 O f4 N⟩
 self:=λ_ _ _ _ _ Z h=>adU Z h
section
variable {X:Cx} {tg:ě}
def Vl:ü "reversed"=ϊ (.type "reversed"):=nofun
def RG:cU X (.type "range") (λxs H Q=>∃j:Int,xs=[.int j]/\∀p,H p=ϋ->Q (.ref p) (upd H p (.dg 0 j))):=by
 intro Y s σ H xs W Q I r h;obtain⟨j,rfl,q⟩:=h;obtain⟨u,rfl,Z⟩:=vals1 r;obtain⟨t,rfl⟩:=Z;exact call_range_1 ⟨.ref _,_,I.laid (o:=.dg 0 j) (t':=s.toks+1+1) (λb o e=>Á _ e) (aeS _) ⟨_,_,_,Î _ rfl⟩,rfl,q _ (I.aI.fresh (aeS _))⟩
def acq (ta:TA):TI:=fun σ H R=>ta σ H λY Z=>∃(p:Þ) (n:Nat),Y=[.ref p]/\Z p=ϊ (.dg 0 n)/\n<2 ^ 62/\R (Fc n) Z
def YW {a:ě} {ta:TA} {p pos:Pos} (hg:Gl X "reversed") (hm:X.mg "reversed"=ϋ) (ha:PA X [a] ta) (hs:Í [a] X.env=[(ύ,ķ a X.env)]:=by rfl):PI X tg (.Call (.Name "reversed" p) [a] [] pos) (acq ta):=by
 intro V s σ H R I h;refine Call_ (ql I hg hm Vl (ņ (aO (ha pos V s σ H _ I h) λL Z ⟨K,U,Y,T,S⟩=>?_) hs rfl));obtain⟨c,n,e,Q,P,q⟩:=S;subst e;obtain⟨u,rfl,O⟩:=vals1 T;cases O;obtain⟨t1,J,t3,N⟩:=Y.aI c _ Q;refine HZ.Vj N P ?_;have W:IsRangeIter (Z.heap.push { cls:=.type "range_iterator",data:=.fields #[ĸ ((n:Int)-1),ĸ n,ĸ (-1)] }) Z.heap.objs.size (((n:Int)-1)+((0:Nat):Int)*(-1)) ((n:Int)-((0:Nat):Int)) (-1):=by
  have e1:((n:Int)-1)+((0:Nat):Int)*(-1)=n-1:=by simp
  have e2:(n:Int)-((0:Nat):Int)=n:=by simp
  rw[e1,e2];exact Î _ rfl
 refine adU (s:={ Z with heap:=_ }) W ?_
 refine⟨Z.heap.objs.size,[Z.heap.objs.size],_,_,U,rfl,Y.kept (t':=Z.toks) λb o e=>Á _ e,Vk _ n,W,λb M=>?_,q⟩;have e:b=Z.heap.objs.size:=by simpa using M
 subst e;exact Y.ua (aeS _) (Y.aI.fresh (aeS _))
end
end L2
namespace HZ
open PySem PySem.Spec PyProof.Rows
end HZ
namespace L2
open PySem PySem.Spec PyProof.Rows
end L2
namespace DI
open PySem L2
set_option genInjectivity true in
inductive D where
 |ar|bl (b:Bool)|int (i:Int)|str (x:Str)|tup (ds:List D)|lst (ds:List D)|cx (aT:List (Key×Int))|aj (k:Nat)|ty (n:String)|bO (ns:List Int)|exc (c:Str) (m:Option Int)|dq (a:Þ) (vs:List V) (ds:List D)
set_option genInjectivity true in
inductive Cell where
 |dead|lst (ds:List D)|dK (aT:List (Key×D))|dT (aT:List (D×Int))|tb (x:Str)|ins (c:Str) (fs:List (Str×D))
abbrev ae:=List Cell
abbrev Env:=List (Option D)
structure bg where
 c:Str
 many:Option Int
abbrev Res (α:Type):=Option (Except bg α×ae)
abbrev aeO (α:Type):=Env->ae->Res α
abbrev ok {α:Type} (a:α) (s:ae):Res α:=ϊ (.ok a,s)
def ai {α β:Type} (r:Res α) (k:α->ae->Res β):Res β:=match r with
 |some (.ok a,s)=>k a s
 |some (.error x,s)=>ϊ (.error x,s)
 |none=>ϋ
@[simp] theorem bV {α β:Type} {a:α} {s:ae} {k:α->ae->Res β}:ai (ϊ (.ok a,s)) k=k a s:=rfl
structure Wd where
 ρ:List Þ
 aJ:ae
 H:Hp
def Wd.Z (w:Wd) (a:Þ):Prop:=∃(k:Nat) (c:Cell),w.ρ[k]?=ϊ a/\w.aJ[k]?=ϊ c/\c≠.dead
def LstAt (w:Wd) (a:Þ) (xs:List V):Prop:=¬ w.Z a/\w.H a=ϊ (.lst xs)
def LstAt.sq (h:LstAt w a xs):bY K w.H a xs:=bY.of h.2
def wR (K:đ) (w:Wd) (a:Þ) (xs:List V):Prop:=(¬ w.Z a/\Rd w.H a (.lst xs)) \/
 ∃(o:Obj) (its:Array Ç) (n:Nat),K.lookup a=ϊ o/\o.cls=.type "list"/\o.dict=ϋ/\o.data=.seq its n/\its.size<=Õ/\Vals xs its.toList
def wR.sq (h:wR K w a xs):bY K w.H a xs:=by
 rcases h with ⟨_,h⟩|h
 ·exact .inl h
 ·exact .inr h
mutual
def DV (K:đ) (w:Wd):D->V->Prop
 | .ar,v=>v=.ar
 | .bl b,v=>v=.bl b
 | .int i,v=>v=.int i
 | .str x,v=>v=.str x
 | .tup Y,v=>∃a X,v=.ref a/\bR K w.H a X/\au K w Y X
 | .lst Y,v=>∃a X,v=.ref a/\LstAt w a X/\au K w Y X
 | .cx S,v=>∃a,v=.ref a/\¬ w.Z a/\w.H a=ϊ (.dK (S.map λp=>(p.1,V.int p.2)))
 | .aj k,v=>∃a,w.ρ[k]?=ϊ a/\v=.ref a
 | .ty n,v=>v=.ty n
 | .bO R,v=>∃a,v=.ref a/\wR K w a (R.map V.int)
 | .exc c m,v=>∃a o C,v=.ref a/\(¬ w.Z a/\w.H a=ϊ (.bo o (.own a)))/\(o.cls=.ref C/\ì K Ò c=ϊ (ϊ (.ref C)))/\∀i,m=ϊ i->PySem.W.notCls o=ό/\∃U T t,o.dict=ϊ U/\(¬ w.Z U/\w.H U=ϊ (.bo T (.own U)))/\adh "many" T=ϊ (ϊ (.int i t))
 | .dq a Q Y,v=>v=.ref a/\au K w Y Q
def au (K:đ) (w:Wd):List D->List V->Prop
 | [],Z=>Z=[]
 |d::Y,Z=>∃v r,Z=v::r/\DV K w d v/\au K w Y r
end
structure Fw (K:đ) (w w':Wd):Prop where
 Gj:∀(k:Nat) a,w.ρ[k]?=ϊ a->w'.ρ[k]?=ϊ a
 tup:∀a xs,bR K w.H a xs->bR K w'.H a xs
 lst:∀a xs,¬ w.Z a->w.H a=ϊ (.lst xs)->¬ w'.Z a/\w'.H a=ϊ (.lst xs)
 bo:∀a o u,¬ w.Z a->w.H a=ϊ (.bo o u)->¬ w'.Z a/\w'.H a=ϊ (.bo o u)
 cx:∀a es,¬ w.Z a->w.H a=ϊ (.dK es)->¬ w'.Z a/\w'.H a=ϊ (.dK es)
def Fw.NO (S:Fw K w w') (h:LstAt w a xs):LstAt w' a xs:=S.lst a xs h.1 h.2
def Fw.aaK (S:Fw K w w') (h:wR K w a xs):wR K w' a xs:=by
 rcases h with ⟨Y,Z | ⟨o,Z⟩⟩|h
 ·have q:=S.lst a xs Y Z
  exact .inl ⟨q.1,.inl q.2⟩
 ·have q:=S.bo a o _ Y Z
  exact .inl ⟨q.1,.inr ⟨o,q.2⟩⟩
 ·exact .inr h
mutual
theorem DV.fw (S:Fw K w w'):∀{d:D} {v:V},DV K w d v->DV K w' d v
 | .ar,_,h=>h
 | .bl _,_,h=>h
 | .int _,_,h=>h
 | .str _,_,h=>h
 | .tup X,v,h=>by
  erw[DV] at h |-;obtain⟨a,Y,e,Z,r⟩:=h;exact⟨a,Y,e,S.tup a Y Z,au.fw S r⟩
 | .lst X,v,h=>by
  erw[DV] at h |-;obtain⟨a,Y,e,Z,r⟩:=h;exact⟨a,Y,e,S.NO Z,au.fw S r⟩
 | .cx J,v,h=>by
  erw[DV] at h |-;obtain⟨a,e,R,Z⟩:=h;obtain⟨Q,P⟩:=S.cx a _ R Z;exact⟨a,e,Q,P⟩
 | .aj k,v,h=>by
  erw[DV] at h |-;obtain⟨a,e,e2⟩:=h;exact⟨a,S.Gj k a e,e2⟩
 | .ty _,_,h=>h
 | .bO I,v,h=>by
  erw[DV] at h |-;obtain⟨a,e,Z⟩:=h;exact⟨a,e,S.aaK Z⟩
 | .exc c m,v,h=>by
  erw[DV] at h |-;obtain⟨a,o,C,e,Z,r,k⟩:=h;refine⟨a,o,C,e,S.bo a o _ Z.1 Z.2,r,λi O=>?_⟩;obtain⟨N,W,U,t,M,T,L⟩:=k i O;exact⟨N,W,U,t,M,S.bo W U _ T.1 T.2,L⟩
 | .dq a H X,v,h=>by
  erw[DV] at h |-;exact⟨h.1,au.fw S h.2⟩
theorem au.fw (S:Fw K w w'):∀{ds:List D} {vs:List V},au K w ds vs->au K w' ds vs
 | [],_,h=>h
 |d::ds,vs,h=>by
  erw[au] at h |-;obtain⟨v,r,e,Z,Y⟩:=h;exact⟨v,r,e,DV.fw S Z,au.fw S Y⟩
end
structure Le (K:đ) (w w':Wd):Prop where
 dv:∀d v,DV K w d v->DV K w' d v
 lst:∀a xs,LstAt w a xs->LstAt w' a xs
 tup:∀a xs,bR K w.H a xs->bR K w'.H a xs
 bo:∀a o u,¬ w.Z a->w.H a=ϊ (.bo o u)->¬ w'.Z a/\w'.H a=ϊ (.bo o u)
instance {K:đ} {w w':Wd}:CoeFun (Le K w w') (λ_=>∀d v,DV K w d v->DV K w' d v):=⟨Le.dv⟩
def Le.refl (w:Wd):Le K w w:=⟨λ_ _ h=>h,λ_ _ h=>h,λ_ _ h=>h,λ_ _ _ h g=>⟨h,g⟩⟩
def Le.trans (h:Le K a b) (g:Le K b c):Le K a c:=⟨λd v x=>g.dv d v (h.dv d v x),λp Z x=>g.lst p Z (h.lst p Z x),λp Z x=>g.tup p Z (h.tup p Z x),λp o u z x=>let q:=h.bo p o u z x;g.bo p o u q.1 q.2⟩
def Fw.le (S:Fw K w w'):Le K w w':=⟨λ_ _ h=>h.fw S,λ_ _ h=>S.NO h,S.tup,S.bo⟩
theorem Le.all (h:Le K w w'):∀{ds:List D} {vs:List V},au K w ds vs->au K w' ds vs
 | [],_,x=>x
 |d::ds,vs,x=>by
  erw[au] at x |-;obtain⟨v,r,e,Z,Y⟩:=x;exact⟨v,r,e,h d v Z,Le.all h Y⟩
theorem au.length:∀{ds:List D} {vs:List V},au K w ds vs->ds.length=vs.length
 | [],vs,h=>by
  have e:vs=[]:=h;subst e;rfl
 |d::ds,vs,h=>by
  obtain⟨v,r,e,_,Z⟩:=h;subst e;simp[au.length Z]
theorem au.get':∀{ds:List D} {vs:List V},au K w ds vs->∀(i:Nat) d,ds[i]?=ϊ d->∃v,vs[i]?=ϊ v/\DV K w d v
 | [],vs,h,i,d,e=>by simp at e
 |d::ds,vs,h,i,Z,e=>by
  obtain⟨u,r,Y,X,W⟩:=h;subst Y
  cases i with
  |zero =>
   have:d=Z:=by simpa using e
   subst this;exact⟨u,rfl,X⟩
  |succ i=>exact au.get' W i Z (by simpa using e)
theorem au.append:∀{ds es:List D} {vs ws:List V},au K w ds vs->au K w es ws->au K w (ds++es) (vs++ws)
 | [],es,vs,ws,h,Z=>by
  have e:vs=[]:=h;subst e;exact Z
 |d::ds,es,vs,ws,h,Z=>by
  obtain⟨v,r,e,Y,X⟩:=h;subst e;exact⟨v,r++ws,rfl,Y,au.append X Z⟩
theorem au.take:∀{ds:List D} {vs:List V} (n:Nat),au K w ds vs->au K w (ds.take n) (vs.take n)
 | [],vs,n,h=>by
  have e:vs=[]:=h;subst e;simp[au]
 |d::ds,vs,0,h=>by simp[au]
 |d::ds,vs,n+1,h=>by
  obtain⟨v,r,e,Z,Y⟩:=h;subst e;exact⟨v,r.take n,rfl,Z,au.take n Y⟩
theorem au.drop:∀{ds:List D} {vs:List V} (n:Nat),au K w ds vs->au K w (ds.drop n) (vs.drop n)
 | [],vs,n,h=>by
  have e:vs=[]:=h;subst e;simp[au]
 |d::ds,vs,0,h=>h
 |d::ds,vs,n+1,h=>by
  obtain⟨v,r,e,Y,Z⟩:=h;subst e;exact au.drop n Z
theorem au.set (hd:DV K w d v):∀{ds:List D} {vs:List V} (i:Nat),au K w ds vs->au K w (ds.set i d) (vs.set i v)
 | [],vs,i,h=>by
  have e:vs=[]:=h;subst e;simp[au]
 |d'::ds,vs,0,h=>by
  obtain⟨u,r,e,Y,Z⟩:=h;subst e;exact⟨v,r,rfl,hd,Z⟩
 |d'::ds,vs,i+1,h=>by
  obtain⟨u,r,e,Y,Z⟩:=h;subst e;exact⟨u,r.set i v,rfl,Y,au.set hd i Z⟩
def au.one (h:DV K w d v):au K w [d] [v]:=⟨v,[],rfl,h,rfl⟩
def au.two (h:DV K w d v) (h':DV K w d' v'):au K w [d,d'] [v,v']:=⟨v,_,rfl,h,au.one h'⟩
theorem au.ints:∀(ns:List Int),au K w (ns.map D.int) (ns.map V.int)
 | []=>rfl
 |n::ns=>⟨.int n,_,rfl,rfl,au.ints ns⟩
theorem au.KW:∀{ns:List Int} {vs:List V},au K w (ns.map D.int) vs->vs=ns.map V.int
 | [],_,h=>h
 |n::ns,vs,h=>by
  obtain⟨v,r,e,Z,Y⟩:=h;have e1:v=.int n:=Z;rw[e,e1,au.KW Y];rfl
theorem au.v7:∀{bs:List Bool} {vs:List V},au K w (bs.map D.bl) vs->vs=bs.map V.bl
 | [],_,h=>h
 |n::X,vs,h=>by
  obtain⟨v,r,e,Z,Y⟩:=h;have e1:v=.bl n:=Z;rw[e,e1,au.v7 Y];rfl
def DX (a:Þ) (es:List (Int×Þ)) (h:ĺ):Prop:=(a==sysModules)=ύ/\∃(o:Obj) (Z:Array DictEntry) (Y:Nat),h.get? a=ϊ o/\o.ExactDict/\o.data=.dict Z Y/\Z.toList=es.map λp=>(⟨p.1,.ref p.2,.bool ό⟩:DictEntry)
def aaL (w:Wd) (q:Str) (cv:Ç):Prop:=∃Y X W t,cv=.ref Y/\(¬ w.Z Y/\w.H Y=ϊ (.bo X (.own Y)))/\X.data=.fields W/\W[1]?=ϊ (.str q t)
def acr (K:đ) (w:Wd) (a:Þ) (x:Str):Prop:=∃c Z,aeK K x=ϊ (c,a)/\w.H a=ϊ (.eh Z)/\PySem.TriplesOk Z.toList/\∀pos Y,PySem.codeAmong pos Z.toList=ϊ Y->aaL w (x++".<locals>."++"<lambda>") Y
def sT (K:đ) (w:Wd) (a:Þ):Cell->Prop
 | .dead=>True
 | .lst U=>∃W,w.H a=ϊ (.lst W)/\au K w U W
 | .dK Z=>∃Y:List (Key×V),w.H a=ϊ (.dK Y)/\Y.map (·.1)=Z.map (·.1)/\au K w (Z.map (·.2)) (Y.map (·.2))
 | .dT Z=>∃as:List Þ,w.H a=ϊ (.ext (DX a ((Z.map (·.2)).zip as)))/\au K w (Z.map (·.1)) (as.map V.ref)/\(Z.map (·.1)).Nodup
 | .tb x=>acr K w a x
 | .ins c fs=>∃(C T:Þ) (X:List (Str×V)),ì K Ò c=ϊ (ϊ (.ref C))/\w.H a=ϊ (.ins C T X)/\X.map (·.1)=fs.map (·.1)/\au K w (fs.map (·.2)) (X.map (·.2))
structure aU (K:đ) (w:Wd):Prop where
 len:w.ρ.length=w.aJ.length
 nd:w.ρ.Nodup
 there:∀(k:Nat) a,w.ρ[k]?=ϊ a->w.H a≠ϋ
 cell:∀(k:Nat) a c,w.ρ[k]?=ϊ a->w.aJ[k]?=ϊ c->sT K w a c
theorem sT.le (h:sT K w a c) (le:Le K w w') (e:c≠.dead->w'.H a=w.H a):sT K w' a c:=by
 cases c with
 |dead=>trivial
 |lst I =>
  obtain⟨R,Z,Y⟩:=h;exact⟨R,(e (by intro z;cases z)).trans Z,le.all Y⟩
 |dK Q =>
  obtain⟨P,Z,Y,X⟩:=h;exact⟨P,(e (by intro z;cases z)).trans Z,Y,le.all X⟩
 |dT Q =>
  obtain⟨as,Z,Y,X⟩:=h;exact⟨as,(e (by intro z;cases z)).trans Z,le.all Y,X⟩
 |tb x =>
  obtain⟨c,O,Z,Y,X,W⟩:=h
  exact⟨c,O,Z,(e (by intro z;cases z)).trans Y,X,λpos N q=>let ⟨U,T,V,t,M,S,L⟩:=W pos N q;⟨U,T,V,t,M,le.bo U T _ S.1 S.2,L⟩⟩
 |ins c fs =>
  obtain⟨C,J,V,Z,Y,X,W⟩:=h;exact⟨C,J,V,Z,(e (by intro z;cases z)).trans Y,X,le.all W⟩
section
variable {K:đ} {w:Wd}
def Wd.grow (w:Wd) (p:Þ) (o:HO):Wd:={ w with H:=upd w.H p o }
def Rd.grow (hp:H p=ϋ) (h:Rd H a u):Rd (upd H p o) a u:=by
 rcases h with h | ⟨Z,h⟩
 ·exact .inl (by rw[bt (dD h hp)];exact h)
 ·exact .inr ⟨Z,by rw[bt (dD h hp)];exact h⟩
theorem bR.grow (hp:H p=ϋ) (h:bR K H a xs):bR K (upd H p o) a xs:=by
 rcases h with h|h
 ·exact .inl (Rd.grow hp h)
 ·exact .inr h
theorem Fw.grow (hp:w.H p=ϋ):Fw K w (w.grow p o) where
 Gj:=λ_ _ e=>e
 tup:=λa Y h=>bR.grow hp h
 lst:=λa Y Z h=>⟨Z,by show upd w.H p o a=_;rw[bt (dD h hp)];exact h⟩
 bo:=λa X Y Z h=>⟨Z,by show upd w.H p o a=_;rw[bt (dD h hp)];exact h⟩
 cx:=λa W Z h=>⟨Z,by show upd w.H p o a=_;rw[bt (dD h hp)];exact h⟩
theorem aU.grow (S:aU K w) (hp:w.H p=ϋ):aU K (w.grow p o) where
 len:=S.len
 nd:=S.nd
 there:=λk a e=>by
  have h:=S.there k a e;show upd w.H p o a≠ϋ;delta upd;split
  ·intro z;cases z
  ·exact h
 cell:=λk a c e1 e2=>(S.cell k a c e1 e2).le (Fw.grow hp).le λ_=>by
  have h:=S.there k a e1;show upd w.H p o a=w.H a;rw[bt];intro z;rw[z] at h;exact h hp
def Wd.cell (w:Wd) (p:Þ) (o:HO) (c:Cell):Wd:=⟨w.ρ++[p],w.aJ++[c],upd w.H p o⟩
def Wd.Du (S:aU K w) (h:(w.cell p o c).Z a):w.Z a\/a=p:=by
 obtain⟨k,Y,e1,e2,V⟩:=h;have e1:(w.ρ++[p])[k]?=ϊ a:=e1;have e2:(w.aJ++[c])[k]?=ϊ Y:=e2;by_cases X:k<w.ρ.length
 ·rw[ç X] at e1
  rw[ç (by rw[<- S.len];exact X)] at e2;exact .inl ⟨k,Y,e1,e2,V⟩
 ·rw[ð ⋯] at e1
  right
  cases W:k-w.ρ.length with
  |zero=>rw[W] at e1;exact(aeT e1).symm
  |succ j=>rw[W] at e1;cases e1
theorem Fw.cell (S:aU K w) (hp:w.H p=ϋ):Fw K w (w.cell p o c) where
 Gj:=λk a e=>by
  show (w.ρ++[p])[k]?=ϊ a;rw[ç (Ô.mp e).1];exact e
 tup:=λa Y h=>bR.grow hp h
 lst:=λa Y Z h=>⟨λz=>(Wd.Du S z).elim Z (λe=>by (subst e;rw[hp] at h;cases h)),by show upd w.H p o a=_;rw[bt (dD h hp)];exact h⟩
 bo:=λa X Y Z h=>⟨λz=>(Wd.Du S z).elim Z (λe=>by (subst e;rw[hp] at h;cases h)),by show upd w.H p o a=_;rw[bt (dD h hp)];exact h⟩
 cx:=λa W Z h=>⟨λz=>(Wd.Du S z).elim Z (λe=>by (subst e;rw[hp] at h;cases h)),by show upd w.H p o a=_;rw[bt (dD h hp)];exact h⟩
def aU.NP (S:aU K w) (hp:w.H p=ϋ) (hc:sT K (w.cell p o c) p c):aU K (w.cell p o c) where
 len:=by show (w.ρ++[p]).length=(w.aJ++[c]).length;simp[S.len]
 nd:=by
  show (w.ρ++[p]).Nodup;rw[ad5];refine⟨S.nd,by simp,λa W b V=>?_⟩;obtain⟨k,e⟩:=List.getElem?_of_mem W;have h:=S.there k a e;have U:b=p:=by simpa using V
  rw[U];intro z;rw[z] at h;exact h hp
 there:=λk a e=>by
  have e:(w.ρ++[p])[k]?=ϊ a:=e;show upd w.H p o a≠ϋ;delta upd;split
  ·intro z;cases z
  ·rename_i T
   by_cases Y:k<w.ρ.length
   ·rw[ç Y] at e
    exact S.there k a e
   ·rw[ð ⋯] at e
    cases Z:k-w.ρ.length with
    |zero=>rw[Z] at e;exact absurd (aeT e).symm T
    |succ j=>rw[Z] at e;cases e
 cell:=λk a X e1 e2=>by
  have e1:(w.ρ++[p])[k]?=ϊ a:=e1;have e2:(w.aJ++[c])[k]?=ϊ X:=e2;by_cases Y:k<w.ρ.length
  ·rw[ç Y] at e1
   rw[ç (by rw[<- S.len];exact Y)] at e2;refine(S.cell k a X e1 e2).le (Fw.cell S hp).le λ_=>?_;have h:=S.there k a e1;show upd w.H p o a=w.H a;rw[bt];intro z;rw[z] at h;exact h hp
  ·rw[ð ⋯] at e1
   rw[ð (by rw[<- S.len];omega)] at e2;rw[<- S.len] at e2
   cases Z:k-w.ρ.length with
   |zero =>
    rw[Z] at e1 e2;have e1:p=a:=aeT e1;have e2:c=X:=aeT e2;subst e1 e2;exact hc
   |succ j=>rw[Z] at e1;cases e1
def Wd.same (w:Wd) (H':Hp):Wd:={ w with H:=H' }
theorem Fw.same (e:lr w.H H'):Fw K w (w.same H') :=
 ⟨λ_ _ e=>e,λa Y h=>e.sqT h,λa Y Z h=>⟨Z,e _ _ h⟩,λa o Y Z h=>⟨Z,e _ _ h⟩,λa X Z h=>⟨Z,e _ _ h⟩⟩
theorem aU.same (S:aU K w) (e:lr w.H H'):aU K (w.same H') where
 len:=S.len
 nd:=S.nd
 there:=λk a q=>by
  have h:=S.there k a q;show H' a≠ϋ
  cases Z:w.H a with
  |none=>exact absurd Z h
  |some o=>rw[e _ _ Z];intro z;cases z
 cell:=λk a c e1 e2=>(S.cell k a c e1 e2).le (Fw.same e).le λ_=>by
  have h:=S.there k a e1;show H' a=w.H a
  cases Z:w.H a with
  |none=>exact absurd Z h
  |some o=>exact e _ _ Z
def Wd.put (w:Wd) (k:Nat) (a:Þ) (o:HO) (c:Cell):Wd:=⟨w.ρ,w.aJ.set k c,upd w.H a o⟩
def Je {α:Type} {l:List α} (nd:l.Nodup) {i j:Nat} {a:α} (h1:l[i]?=ϊ a) (h2:l[j]?=ϊ a):i=j:=by
 exact(List.getElem?_inj (Ô.mp h1).1 nd).mp (h1.trans h2.symm)
def Wd.D9 (h0:w.ρ[k]?=ϊ a) (h1:w.aJ[k]?=ϊ c0) (h2:c0≠.dead) (h:(w.put k a o c).Z b):w.Z b:=by
 obtain⟨j,Y,e1,e2,W⟩:=h;have e1:w.ρ[j]?=ϊ b:=e1;have e2:(w.aJ.set k c)[j]?=ϊ Y:=e2;by_cases X:k=j
 ·subst X
  exact⟨k,c0,e1,h1,h2⟩
 ·rw[õ X] at e2
  exact⟨j,Y,e1,e2,W⟩
theorem Fw.put (S:aU K w) (h0:w.ρ[k]?=ϊ a) (h1:w.aJ[k]?=ϊ c0) (h2:c0≠.dead):Fw K w (w.put k a o c):=by
 have W:w.Z a:=⟨k,c0,h0,h1,h2⟩;have T:∀X,¬ Rd w.H a (.tup X):=λX h=>by
  have q:=S.cell k a c0 h0 h1
  cases c0 with
  |dead=>exact h2 rfl
  |lst Q=>obtain⟨V,e,_⟩:=q;rcases h with h | ⟨_,h⟩<;>(rw[e] at h;cases h)
  |dK R=>obtain⟨V,e,_⟩:=q;rcases h with h | ⟨_,h⟩<;>(rw[e] at h;cases h)
  |dT R=>obtain⟨V,e,_⟩:=q;rcases h with h | ⟨_,h⟩<;>(rw[e] at h;cases h)
  |tb x=>obtain⟨_,V,_,e,_⟩:=q;rcases h with h | ⟨_,h⟩<;>(rw[e] at h;cases h)
  |ins c fs=>obtain⟨_,_,_,_,e,_⟩:=q;rcases h with h | ⟨_,h⟩<;>(rw[e] at h;cases h)
 refine⟨λ_ _ e=>e,λb X h=>?_,λb X Y h=>⟨λz=>Y (Wd.D9 h0 h1 h2 z),?_⟩,λb U X Y h=>⟨λz=>Y (Wd.D9 h0 h1 h2 z),?_⟩,λb P Y h=>⟨λz=>Y (Wd.D9 h0 h1 h2 z),?_⟩⟩
 ·rcases h with h|h
  ·have ne:b≠a:=λe=>by subst e;exact T X h
   refine .inl ?_
   rcases h with h | ⟨U,h⟩
   ·exact .inl (by show upd w.H a o b=_;rw[bt ne];exact h)
   ·exact .inr ⟨U,by show upd w.H a o b=_;rw[bt ne];exact h⟩
  ·exact .inr h
 ·have ne:b≠a:=λe=>by subst e;exact Y W
  show upd w.H a o b=_;rw[bt ne];exact h
 ·have ne:b≠a:=λe=>by subst e;exact Y W
  show upd w.H a o b=_;rw[bt ne];exact h
 ·have ne:b≠a:=λe=>by subst e;exact Y W
  show upd w.H a o b=_;rw[bt ne];exact h
def aU.xB {k:Nat} {a:Þ} {o:HO} {c c0:Cell} (S:aU K w) (h0:w.ρ[k]?=ϊ a) (h1:w.aJ[k]?=ϊ c0) (h2:c0≠.dead) (hc:sT K (w.put k a o c) a c):aU K (w.put k a o c) where
 len:=by show w.ρ.length=(w.aJ.set k c).length;rw[ă];exact S.len
 nd:=S.nd
 there:=λj b e=>by
  show upd w.H a o b≠ϋ;delta upd;split
  ·intro z;cases z
  ·exact S.there j b e
 cell:=λj b Z e1 e2=>by
  have e1:w.ρ[j]?=ϊ b:=e1;have e2:(w.aJ.set k c)[j]?=ϊ Z:=e2;by_cases Y:k=j
  ·subst Y
   rw[h0] at e1;have e1:a=b:=aeT e1;rw[ù (Ô.mp h1).1] at e2;have e2:c=Z:=aeT e2;subst e1 e2;exact hc
  ·rw[õ Y] at e2
   refine(S.cell j b Z e1 e2).le (Fw.put S h0 h1 h2).le λ_=>?_;show upd w.H a o b=w.H b;rw[bt];intro z;subst z;exact Y (Je S.nd h0 e1)
def Wd.freeze (w:Wd) (k:Nat):Wd:={ w with aJ:=w.aJ.set k .dead }
def Wd.B9 (h:(w.freeze k).Z b):w.Z b:=by
 obtain⟨j,Y,e1,e2,X⟩:=h;have e2:(w.aJ.set k .dead)[j]?=ϊ Y:=e2;by_cases W:k=j
 ·subst W
  have V:=(Ô.mp e2).1;rw[ă] at V;rw[ù V] at e2;exact absurd (aeT e2).symm X
 ·rw[õ W] at e2
  exact⟨j,Y,e1,e2,X⟩
theorem Fw.freeze:Fw K w (w.freeze k) :=
 ⟨λ_ _ e=>e,λ_ _ h=>h,λ_ _ Z h=>⟨λz=>Z (Wd.B9 z),h⟩,λ_ _ _ Z h=>⟨λz=>Z (Wd.B9 z),h⟩,λ_ _ Z h=>⟨λz=>Z (Wd.B9 z),h⟩⟩
theorem aU.freeze (S:aU K w):aU K (w.freeze k) where
 len:=by show w.ρ.length=(w.aJ.set k .dead).length;rw[ă];exact S.len
 nd:=S.nd
 there:=S.there
 cell:=λj b Z e1 e2=>by
  have e2:(w.aJ.set k .dead)[j]?=ϊ Z:=e2;by_cases Y:k=j
  ·subst Y
   have X:=(Ô.mp e2).1;rw[ă] at X;rw[ù X] at e2;rw[<- aeT e2];trivial
  ·rw[õ Y] at e2
   exact(S.cell j b Z e1 e2).le Fw.freeze.le λ_=>rfl
def Wd.TF {k:Nat} {a:Þ} (S:aU K w) (h:w.ρ[k]?=ϊ a):¬ (w.freeze k).Z a:=by
 intro zzz;obtain⟨j,X,e1,e2,W⟩:=zzz;have e1:w.ρ[j]?=ϊ a:=e1;have e2:(w.aJ.set k .dead)[j]?=ϊ X:=e2;have V:=Je S.nd h e1;subst V;have Y:=(Ô.mp e2).1;rw[ă] at Y;rw[ù Y] at e2;exact W (aeT e2).symm
end
structure bX (K:đ) (w:Wd) (env:Env) (σ:St):Prop where
 len:env.length=σ.length
 val:∀(i:Nat) d,env[i]?=ϊ (ϊ d)->∃v,σ[i]?=ϊ (ϊ v)/\DV K w d v
theorem bX.le (h:bX K w env σ) (le:Le K w w'):bX K w' env σ :=
 ⟨h.len,λi d e=>by obtain⟨v,e1,e2⟩:=h.val i d e;exact⟨v,e1,le d v e2⟩⟩
theorem bX.set (h:bX K w env σ) (hd:DV K w d v) (i:Nat):bX K w (env.set i (ϊ d)) (σ.set i (ϊ v)):=by
 refine⟨by rw[ă,ă];exact h.len,λj X e=>?_⟩;by_cases Z:i=j
 ·subst Z
  have Y:=(Ô.mp e).1;rw[ă] at Y;rw[ù Y] at e;have e:d=X:=aeT (aeT e);subst e;exact⟨v,by rw[ù (by rw[<- h.len];exact Y)],hd⟩
 ·rw[õ Z] at e
  rw[õ Z];exact h.val j X e
def Out (K:đ) (Ξ:Wd->bg->Prop) (w:Wd) {α:Type} (r:Res α) (k:Wd->α->Prop):Prop:=match r with
 |none=>False
 |some (.ok a,s)=>∀Z,Le K w Z->aU K Z->Z.aJ=s->k Z a
 |some (.error x,s)=>∀Z,Le K w Z->aU K Z->Z.aJ=s->Ξ Z x
section
variable {K:đ} {Ξ:Wd->bg->Prop} {w w':Wd} {α β:Type} {r:Res α} {k k':Wd->α->Prop}
def Out.from (h:Out K Ξ w r k) (le:Le K w w'):Out K Ξ w' r k:=by
 delta Out at h |-
 split<;>simp only at h
 ·exact λZ Y X e2=>h Z (le.trans Y) X e2
 ·exact λZ Y X e2=>h Z (le.trans Y) X e2
def Out.mono (h:Out K Ξ w r k) (hk:∀w2 a,Le K w w2->aU K w2->k w2 a->k' w2 a):Out K Ξ w r k':=by
 delta Out at h |-
 split<;>simp only at h
 ·exact λw2 Z Y e2=>hk w2 _ Z Y (h w2 Z Y e2)
 ·exact h
theorem Out.ai {q:Wd->β->Prop} (h:Out K Ξ w (DI.ai r g) q):Out K Ξ w r (λw2 a=>Out K Ξ w2 (g a w2.aJ) q):=by
 match r,h with
 |some (.ok a,s),h =>
  intro w2 Z Y e2;rw[e2];exact Out.from h Z
 |some (.error x,s),h=>exact h
end
end DI
namespace DI
open PySem L2
def tE (K:đ) (Ξ:Wd->bg->Prop) (f:aeO D):TE:=fun σ H Q=>∃w env,w.H=H/\aU K w/\bX K w env σ/\Out K Ξ w (f env w.aJ) λZ d=>∀v,DV K Z d v->Q v Z.H
def tT (K:đ) (Ξ:Wd->bg->Prop) (f:aeO Bool):TT:=fun σ H Q=>∃w env,w.H=H/\aU K w/\bX K w env σ/\Out K Ξ w (f env w.aJ) λZ b=>Q b Z.H
def tA (K:đ) (Ξ:Wd->bg->Prop) (f:aeO (List D)):TA:=fun σ H Q=>∃w env,w.H=H/\aU K w/\bX K w env σ/\Out K Ξ w (f env w.aJ) λZ X=>∀Y,au K Z X Y->Q Y Z.H
def rO (K:đ) (Ξ:Wd->bg->Prop) (o:D->D->ae->Res D):R2:=λx y H Q=>∃w Z Y,w.H=H/\aU K w/\DV K w Z x/\DV K w Y y/\Out K Ξ w (o Z Y w.aJ) λX d=>∀v,DV K X d v->Q v X.H
def rU (K:đ) (Ξ:Wd->bg->Prop) (o:D->ae->Res D):V->Hp->VK->Prop:=λx H Q=>∃w Z,w.H=H/\aU K w/\DV K w Z x/\Out K Ξ w (o Z w.aJ) λY d=>∀v,DV K Y d v->Q v Y.H
def rC (K:đ) (Ξ:Wd->bg->Prop) (o:List D->ae->Res D):List V->Hp->VK->Prop:=λX H Q=>∃w Z,w.H=H/\aU K w/\au K w Z X/\Out K Ξ w (o Z w.aJ) λY d=>∀v,DV K Y d v->Q v Y.H
def aa (i:Nat):aeO D:=λenv s=>match env[i]? with
 |some (ϊ d)=>ok d s
 |_=>ϋ
def eC (d:D):aeO D:=λ_ s=>ok d s
def e1 (o:D->ae->Res D) (f:aeO D):aeO D:=λenv s=>ai (f env s) λx s=>o x s
def e2 (o:D->D->ae->Res D) (f g:aeO D):aeO D:=λenv s=>ai (f env s) λx s=>ai (g env s) λy s=>o x y s
def ah:aeO (List D):=λ_ s=>ok [] s
def af (f:aeO D) (g:aeO (List D)):aeO (List D):=λenv s=>ai (f env s) λx s=>ai (g env s) λZ s=>ok (x::Z) s
def eB (o:List D->ae->Res D) (f:aeO (List D)):aeO D:=λenv s=>ai (f env s) λZ s=>o Z s
def jg {α:Type} (ds:List D) (r:Res α):Res α:=if ds.length<=Õ then r else ϋ
def cZ (f:aeO (List D)):aeO D:=λenv s=>ai (f env s) λZ s=>jg Z (ok (.tup Z) s)
def fe (f:aeO (List D)):aeO D:=λenv s=>ai (f env s) λZ s=>jg Z (ok (.lst Z) s)
def eNew (f:aeO (List D)):aeO D:=λenv s=>ai (f env s) λZ s=>jg Z (ok (.aj s.length) (s++[.lst Z]))
def bo:D->ae->Res D:=λd s=>match d with
 | .aj k=>match s[k]? with
  |some (.lst Z)=>ok (.lst Z) (s.set k .dead)
  |_=>ϋ
 |_=>ϋ
def oV (f:aeO D):aeO D:=λenv s=>ai (f env s) bo
def iU (d:D) (s:ae):Res Bool:=match d with
 | .bl b=>ok b s
 |_=>ϋ
def aW (f:aeO D):aeO Bool:=λenv s=>ai (f env s) iU
def truth (d:D) (s:ae):Res Bool:=match d with
 | .ar=>ok ύ s
 | .bl b=>ok b s
 | .int i=>ok (i != 0) s
 | .str x=>if x.length<=Õ then ok ((x.length:Int) != 0) s else ϋ
 | .tup Z=>ok (!Z.isEmpty) s
 | .lst Z=>ok (!Z.isEmpty) s
 | .cx Y=>ok (!Y.isEmpty) s
 | .aj k=>match s[k]? with
  |some (.lst Z)=>ok (!Z.isEmpty) s
  |some (.dK Y)=>ok (!Y.isEmpty) s
  |_=>ϋ
 | .ty _=>ϋ
 | .bO _=>ϋ
 | .exc _ _=>ϋ
 | .dq _ _ _=>ϋ
def cu (f:aeO D):aeO Bool:=λenv s=>ai (f env s) truth
def jh (f g:aeO Bool):aeO Bool:=λenv s=>ai (f env s) λb s=>if b=ό then g env s else ok ύ s
def eU (f g:aeO Bool):aeO Bool:=λenv s=>ai (f env s) λb s=>if b=ό then ok ό s else g env s
def cV (f:aeO Bool):aeO Bool:=λenv s=>ai (f env s) λb s=>ok (!b) s
def cO (f g:aeO D):aeO D:=λenv s=>ai (f env s) λx s=>ai (iU x s) λb s=>if b=ό then g env s else ok (.bl ύ) s
def lT (f g:aeO D):aeO D:=λenv s=>ai (f env s) λx s=>ai (iU x s) λb s=>if b=ό then ok (.bl ό) s else g env s
def uj (f:aeO D):aeO D:=λenv s=>ai (f env s) λx s=>ai (iU x s) λb s=>ok (.bl (!b)) s
def uY (c:aeO Bool) (f g:aeO D):aeO D:=λenv s=>ai (c env s) λb s=>if b=ό then f env s else g env s
def pL (o o':D->D->ae->Res D) (f g h:aeO D):aeO D:=λenv s=>ai (f env s) λx s=>ai (g env s) λy s=>ai (o x y s) λz s=>ai (iU z s) λb s =>
 if b=ό then ai (h env s) λu s=>o' y u s else ok (.bl ύ) s
section
variable {X:Cx} {Ξ:Wd->bg->Prop} {e a b c:ě} {es rest:List ě} {pos:Pos} {f g h:aeO D} {fa:aeO (List D)} {ft gt:aeO Bool}
def cm {t t':TE} (h:PE X e t) (i:∀ σ H Q,t' σ H Q->t σ H Q):PE X e t':=λZ s σ H Q I Y=>h Z s σ H Q I (i σ H Q Y)
def Dv {t t':TT} (h:PT X e t) (i:∀ σ H Q,t' σ H Q->t σ H Q):PT X e t':=λZ s σ H Q I Y=>h Z s σ H Q I (i σ H Q Y)
def MM {t t':TT} (h:PW X e t) (i:∀ σ H Q,t' σ H Q->t σ H Q):PW X e t':=λZ Y s σ H Q I W=>h Z Y s σ H Q I (i σ H Q W)
def MN {t t':TA} (h:PA X es t) (i:∀ σ H Q,t' σ H Q->t σ H Q):PA X es t':=λp Z s σ H Q I Y=>h p Z s σ H Q I (i σ H Q Y)
def kZ (h:PS X st t) (i:∀D σ H,t' D σ H->t D σ H):PS X st t':=λZ s σ H D I Y=>h Z s σ H D I (i D σ H Y)
def LN (h:dh X st t) (i:∀D σ H,t' D σ H->t D σ H):dh X st t':=λZ s σ H D I Y=>h Z s σ H D I (i D σ H Y)
def aB {α:Type} {K:đ} {w:Wd} {a:α} {k:Wd->α->Prop} (S:aU K w) (h:Out K Ξ w (ok a w.aJ) k):k w a:=h w (Le.refl w) S rfl
def ag (i:Nat) {x:Str} (hN:X.N[i]?=ϊ x:=by rfl) (hv:qY X.env.scope x:=by first|exact ο rfl|exact Or.inr (ο rfl)|exact Or.inr (Or.inr rfl)) (hd:(x==("__debug__":Str))=ύ:=by decide)
  (eD:(x==("__classdict__":Str))=ύ:=by decide):PE X (.Name x pos) (tE X.K Ξ (aa i)):=cm (Mz hN hv hd eD) fun σ H Q Z=>by
 obtain⟨w,env,Y,S,W,h⟩:=Z;delta aa at h;split at h
 ·rename_i d V
  obtain⟨v,e1,e2⟩:=W.val i d V;subst Y;exact⟨v,e1,aB S h v e2⟩
 ·exact h.elim
def qz {d:D} {v:V} (h:PE X e (tC v)) (hd:∀w,DV X.K w d v):PE X e (tE X.K Ξ (eC d)):=cm h fun σ H Q Z=>by
 obtain⟨w,env,Y,S,W,h⟩:=Z;subst Y;exact aB S h v (hd w)
def az {i j}:PE X (.Constant (.int i) j pos) (tE X.K Ξ (eC (.int i))):=qz MA λ_=>rfl
def gG {b j}:PE X (.Constant (.bool b) j pos) (tE X.K Ξ (eC (.bl b))):=qz D5 λ_=>rfl
def Ea {j}:PE X (.Constant .none j pos) (tE X.K Ξ (eC .ar)):=qz Yk λ_=>rfl
def aF {x j}:PE X (.Constant (.str x) j pos) (tE X.K Ξ (eC (.str x))):=qz Yl λ_=>rfl
def zr (σ:St) (H:Hp) (Q:VK):tE K Ξ (e2 o f g) σ H Q->ya (rO K Ξ o) (tE K Ξ f) (tE K Ξ g) σ H Q:=by
 intro zzz;obtain⟨w,env,rfl,S,Z,h⟩:=zzz;exact⟨w,env,rfl,S,Z,(Out.ai h).mono λY x X W V v1 U=>⟨Y,env,rfl,W,Z.le X,(Out.ai V).mono λT y R P O v2 N=>⟨T,x,y,rfl,P,R _ _ U,N,O⟩⟩⟩
def bu (ho:bM X (Ň op) (rO X.K Ξ o)) (ha:PE X a (tE X.K Ξ f)) (hb:PE X b (tE X.K Ξ g)):PE X (.BinOp a op b pos) (tE X.K Ξ (e2 o f g)):=cm (aao ho ha hb) zr
def dA (ho:bM X (ĕ op) (rO X.K Ξ o)) (ha:PE X a (tE X.K Ξ f)) (hb:PE X b (tE X.K Ξ g)) (hm:adK op b=ύ):PE X (.Compare a [op] [b] pos) (tE X.K Ξ (e2 o f g)):=cm (WJ ho ha hb hm) zr
def YX {K:đ} (σ:St) (H:Hp) (Q:Bool->Hp->Prop):tT K Ξ (aW f) σ H Q->z3 (tE K Ξ f) σ H Q:=by
 intro zzz;obtain⟨w,env,rfl,S,Y,h⟩:=zzz;refine⟨w,env,rfl,S,Y,(Out.ai h).mono λV x U X Z v1 W=>?_⟩
 cases x with
 |bl b =>
  have e:v1=.bl b:=W;exact⟨b,e,aB X Z⟩
 |_=>exact Z.elim
def Su (i:∀ σ H Q,t' σ H Q->t σ H Q) (σ:St) (H:Hp) (Q:Bool->Hp->Prop):z3 t' σ H Q->z3 t σ H Q:=λh=>i _ _ _ h
def bC (ho:bM X (ĕ op) (rO X.K Ξ o)) (ha:PE X a (tE X.K Ξ f)) (hb:PE X b (tE X.K Ξ g)) (hm:adK op b=ύ):PT X (.Compare a [op] [b] pos) (tT X.K Ξ (aW (e2 o f g))) :=
 Dv (WK ho ha hb hm) fun σ H Q h=>Su zr σ H Q (YX σ H Q h)
def YY {K:đ} {o o':D->D->ae->Res D} (σ:St) (H:Hp) (Q:VK):tE K Ξ (pL o o' f g h) σ H Q->ME (rO K Ξ o) (rO K Ξ o') (tE K Ξ f) (tE K Ξ g) (tE K Ξ h) σ H Q:=by
 intro zzz;obtain⟨w,env,rfl,S,Y,h⟩:=zzz;refine⟨w,env,rfl,S,Y,(Out.ai h).mono λP x W O N v1 M=>⟨P,env,rfl,O,Y.le W,(Out.ai N).mono λL y V J I v2 U=>⟨L,x,y,rfl,J,V _ _ M,U,(Out.ai I).mono λG z T X F E C=>?_⟩⟩⟩;have R:=Out.ai F
 cases z with
 |bl b =>
  have e:E=.bl b:=C;have Z:=aB X R;refine⟨b,e,?_⟩
  cases b with
  |true =>
   rw[Ñ rfl] at Z |-;exact⟨G,env,rfl,X,Y.le (W.trans (V.trans T)),(Out.ai Z).mono λB u A v t v4 s=>⟨B,y,u,rfl,v,(T.trans A) _ _ U,s,t⟩⟩
  |false =>
   rw[Ú Ä] at Z |-;exact aB X Z _ rfl
 |_=>exact R.elim
def CN (ho:bM X (ĕ op) (rO X.K Ξ o)) (iw:bM X (ĕ uN) (rO X.K Ξ o')) (ha:PE X a (tE X.K Ξ f)) (hb:PE X b (tE X.K Ξ g)) (hc:PE X c (tE X.K Ξ h))
 (hm:lastMarks [op,uN] [b,c]=ύ:=by with_unfolding_all rfl):PE X (.Compare a [op,uN] [b,c] pos) (tE X.K Ξ (pL o o' f g h)):=cm (UQ ho iw ha hb hc hm) YY
def Ay (ho:x9 X (unaryOp op) (rU X.K Ξ o)) (ha:PE X a (tE X.K Ξ f)):PE X (.UnaryOp op a pos) (tE X.K Ξ (e1 o f)):=cm (NI ho ha) fun σ H Q Z=>by
 obtain⟨w,env,Y,S,W,h⟩:=Z;subst Y;exact⟨w,env,rfl,S,W,(Out.ai h).mono λV x P U T v1 R=>⟨V,x,rfl,U,R,T⟩⟩
def dU:PA X [] (tA X.K Ξ ah):=MN ma fun σ H Q Z=>by
 obtain⟨w,env,Y,S,W,h⟩:=Z;subst Y;exact aB S h _ rfl
def bB (ha:PE X e (tE X.K Ξ f)) (hr:PA X es (tA X.K Ξ fa)) (hs:Í (e::es) X.env=(ύ,ķ e X.env)::Í es X.env:=by rfl):PA X (e::es) (tA X.K Ξ (af f fa)):=MN (kQ ha hr hs) fun σ H Q Y=>by
 obtain⟨w,env,W,S,Z,h⟩:=Y;subst W;exact⟨w,env,rfl,S,Z,(Out.ai h).mono λV x U T R v1 P=>⟨V,env,rfl,T,Z.le U,(Out.ai R).mono λI G O N M L J=>aB N M _ ⟨v1,L,rfl,O _ _ P,J⟩⟩⟩
def vO {α:Type} {K:đ} {w:Wd} {ds:List D} {r:Res α} {k:Wd->α->Prop} (h:Out K Ξ w (jg ds r) k):ds.length<=Õ/\Out K Ξ w r k:=by
 delta jg at h;split at h
 ·exact⟨by assumption,h⟩
 ·exact h.elim
def eR {x1} (ha:PA X es (tA X.K Ξ fa)):PE X (.Tuple es x1 pos) (tE X.K Ξ (cZ fa)):=cm (YF ha) fun σ H Q V=>by
 obtain⟨w,env,U,S,T,h⟩:=V;subst U;refine⟨w,env,rfl,S,T,(Out.ai h).mono λR L J P O Y W=>?_⟩;obtain⟨N,M⟩:=vO O;refine⟨by rw[<- W.length];exact N,λp Z=>?_⟩;exact M (R.grow p (.tup Y)) (Fw.grow Z).le (P.grow Z) rfl (.ref p) ⟨p,Y,rfl,bR.of cP,(Fw.grow Z).le.all W⟩
def me {K:đ} {w:Wd} {p:Þ} (S:aU K w) (hp:w.H p=ϋ):¬ w.Z p:=λ⟨k,c,e1,_,_⟩=>S.there k p e1 hp
def ib (ha:PA X es (tA X.K Ξ fa)):PE X (.List es pos) (tE X.K Ξ (fe fa)):=cm (MF ha) fun σ H Q R=>by
 obtain⟨w,env,P,S,O,h⟩:=R;subst P;refine⟨w,env,rfl,S,O,(Out.ai h).mono λW J I V N U T=>?_⟩;obtain⟨M,L⟩:=vO N;refine⟨by rw[<- T.length];exact M,λp Y=>?_⟩;exact L (W.grow p (.lst U)) (Fw.grow Y).le (V.grow Y) rfl (.ref p) ⟨p,U,rfl,⟨(show ¬ W.Z p from me V Y),cP⟩,(Fw.grow Y).le.all T⟩
def tI (ha:PA X es (tA X.K Ξ fa)):PE X (.List es pos) (tE X.K Ξ (eNew fa)):=cm (MF ha) fun σ H Q R=>by
 obtain⟨w,env,P,S,O,h⟩:=R;subst P;refine⟨w,env,rfl,S,O,(Out.ai h).mono λZ V J Y N W U=>?_⟩;obtain⟨M,L⟩:=vO N;refine⟨by rw[<- U.length];exact M,λp T=>?_⟩;have le:=(Fw.cell (o:=.lst W) (c:=.lst V) Y T).le;refine L (Z.cell p (.lst W) (.lst V)) le (Y.NP T ⟨W,cP,le.all U⟩) rfl (.ref p) ⟨p,?_,rfl⟩;show (Z.ρ++[p])[Z.aJ.length]?=ϊ p;rw[<- Y.len];simp
def Eb (ha:PE X a (tE X.K Ξ f)):PE X a (tE X.K Ξ (oV f)):=cm ha fun σ H Q W=>by
 obtain⟨w,env,V,S,U,h⟩:=W;subst V;refine⟨w,env,rfl,S,U,(Out.ai h).mono λT x L Y Z v1 R=>?_⟩;delta bo at Z;split at Z
 ·rename_i k
  split at Z
  ·rename_i J P
   obtain⟨p,e1,e2⟩:=R;obtain⟨O,N,M⟩:=Y.cell k p _ e1 P;exact Z (T.freeze k) Fw.freeze.le Y.freeze rfl v1 ⟨p,O,e2,⟨Wd.TF Y e1,N⟩,Fw.freeze.le.all M⟩
  ·exact Z.elim
 ·exact Z.elim
theorem qO.of {K:đ} {w:Wd} {d:D} {v:V} {k:Wd->Bool->Prop} (S:aU K w) (hd:DV K w d v) (h:Out K Ξ w (truth d w.aJ) k):∃b,qO K v w.H b/\k w b:=by
 cases d with
 |ar=>have e:v=.ar:=hd;subst e;exact⟨_,rfl,aB S h⟩
 |bl b=>have e:v=.bl b:=hd;subst e;exact⟨_,rfl,aB S h⟩
 |int i=>have e:v=.int i:=hd;subst e;exact⟨_,rfl,aB S h⟩
 |str x =>
  have e:v=.str x:=hd;subst e;delta truth at h
  split at h<;>first|contradiction|skip
  all_goals (rename_i e;cases e)
  split at h
  ·exact⟨_,⟨by assumption,rfl⟩,aB S h⟩
  ·exact h.elim
 |tup Y =>
  erw[DV] at hd;obtain⟨a,Z,rfl,X,r⟩:=hd;refine⟨_,.inr (.inl ⟨Z,X,?_⟩),aB S h⟩;have e:=r.length
  cases Y<;>cases Z<;>first|rfl|cases e
 |lst Y =>
  erw[DV] at hd;obtain⟨a,Z,rfl,X,r⟩:=hd;refine⟨_,.inl ⟨Z,X.sq,?_⟩,aB S h⟩;have e:=r.length
  cases Y<;>cases Z<;>first|rfl|cases e
 |cx W =>
  erw[DV] at hd;obtain⟨a,rfl,_,X⟩:=hd;refine⟨_,.inr (.inr ⟨_,X,?_⟩),aB S h⟩
  cases W<;>rfl
 |aj j =>
  erw[DV] at hd;obtain⟨a,e1,rfl⟩:=hd;erw[truth] at h;split at h
  ·rename_i Y U
   obtain⟨Z,T,R⟩:=S.cell j a _ e1 U;refine⟨_,.inl ⟨Z,bY.of T,?_⟩,aB S h⟩;have e:=R.length
   cases Y<;>cases Z<;>first|rfl|cases e
  ·rename_i W U
   obtain⟨es,T,R,Q⟩:=S.cell j a _ e1 U;refine⟨_,.inr (.inr ⟨es,T,?_⟩),aB S h⟩;have e:=Ń List.length R
   cases W<;>cases es<;>first|rfl|simp at e
  ·exact h.elim
 |ty n=>exact h.elim
 |bO P=>exact h.elim
 |exc o _=>exact h.elim
 |dq o _ _=>exact h.elim
def dW (ha:PE X a (tE X.K Ξ f)) (he:∀whole,isTrue a X.env whole=(do let v <- whole;adw a.pos;ade [v] (truthy v)):=by intro _;rfl):PT X a (tT X.K Ξ (cu f)):=Dv (UR ha he) fun σ H Q Z=>by
 obtain⟨w,env,Y,S,W,h⟩:=Z;subst Y;exact⟨w,env,rfl,S,W,(Out.ai h).mono λR x P V U v1 T=>qO.of V T U⟩
def gQ (ha:PT X a (tT X.K Ξ ft)):PT X (.UnaryOp .Not a pos) (tT X.K Ξ (cV ft)):=Dv (Yo ha) fun σ H Q Z=>by
 obtain⟨w,env,Y,S,W,h⟩:=Z;subst Y;exact⟨w,env,rfl,S,W,(Out.ai h).mono λT b R V U=>aB V U⟩
def sU (ha:PT X a (tT X.K Ξ ft)):PW X (.BoolOp .And [a] pos) (tT X.K Ξ ft):=WC ha
def jI (ha:PT X a (tT X.K Ξ ft)):PW X (.BoolOp .Or [a] pos) (tT X.K Ξ ft):=Ym ha
def w_and (ha:PT X a (tT X.K Ξ ft)) (hb:PW X (.BoolOp .And (b::rest) pos) (tT X.K Ξ gt)):PW X (.BoolOp .And (a::b::rest) pos) (tT X.K Ξ (jh ft gt)):=MM (Yn ha hb) fun σ H Q V=>by
 obtain⟨w,env,U,S,Z,h⟩:=V;subst U;refine⟨w,env,rfl,S,Z,(Out.ai h).mono λT b R Y W=>?_⟩
 cases b with
 |true=>exact⟨T,env,rfl,Y,Z.le R,W⟩
 |false=>exact aB Y W
def w_or (ha:PT X a (tT X.K Ξ ft)) (hb:PW X (.BoolOp .Or (b::rest) pos) (tT X.K Ξ gt)):PW X (.BoolOp .Or (a::b::rest) pos) (tT X.K Ξ (eU ft gt)):=MM (aaf ha hb) fun σ H Q V=>by
 obtain⟨w,env,U,S,Z,h⟩:=V;subst U;refine⟨w,env,rfl,S,Z,(Out.ai h).mono λT b R Y W=>?_⟩
 cases b with
 |false=>exact⟨T,env,rfl,Y,Z.le R,W⟩
 |true=>exact aB Y W
def c9 {op} (ha:PE X a (tE X.K Ξ f)):PE X (.BoolOp op [a] pos) (tE X.K Ξ f):=Yp ha
def CO {K:đ} {w:Wd} {d:D} {v:V} {k:Wd->Bool->Prop} (S:aU K w) (hd:DV K w d v) (h:Out K Ξ w (iU d w.aJ) k):∃b,v=.bl b/\k w b:=by
 cases d with
 |bl b=>exact⟨b,hd,aB S h⟩
 |_=>exact h.elim
def dO (ha:PE X a (tE X.K Ξ f)) (hb:PE X (.BoolOp .And (b::rest) pos) (tE X.K Ξ g)):PE X (.BoolOp .And (a::b::rest) pos) (tE X.K Ξ (cO f g)):=cm (Yq ha hb) fun σ H Q V=>by
 obtain⟨w,env,U,S,Y,h⟩:=V;subst U;refine⟨w,env,rfl,S,Y,(Out.ai h).mono λT x R Z P v1 O=>?_⟩;obtain⟨b,e,W⟩:=CO Z O (Out.ai P);refine⟨b,e,?_⟩
 cases b with
 |true=>exact⟨T,env,rfl,Z,Y.le R,W⟩
 |false=>exact aB Z W _ rfl
def uk (ha:PE X a (tE X.K Ξ f)) (hb:PE X (.BoolOp .Or (b::rest) pos) (tE X.K Ξ g)):PE X (.BoolOp .Or (a::b::rest) pos) (tE X.K Ξ (lT f g)):=cm (aai ha hb) fun σ H Q V=>by
 obtain⟨w,env,U,S,Y,h⟩:=V;subst U;refine⟨w,env,rfl,S,Y,(Out.ai h).mono λT x R Z P v1 O=>?_⟩;obtain⟨b,e,W⟩:=CO Z O (Out.ai P);refine⟨b,e,?_⟩
 cases b with
 |false=>exact⟨T,env,rfl,Z,Y.le R,W⟩
 |true=>exact aB Z W _ rfl
def Ec (ha:PE X a (tE X.K Ξ f)):PE X (.UnaryOp .Not a pos) (tE X.K Ξ (uj f)):=cm (Yr ha) fun σ H Q Y=>by
 obtain⟨w,env,W,S,V,h⟩:=Y;subst W;refine⟨w,env,rfl,S,V,(Out.ai h).mono λP x O Z U v1 T=>?_⟩;obtain⟨b,e,R⟩:=CO Z T (Out.ai U);exact⟨b,e,aB Z R _ rfl⟩
def Fd (hc:PT X c (tT X.K Ξ ft)) (ha:PE X a (tE X.K Ξ f)) (hb:PE X b (tE X.K Ξ g)):PE X (.IfExp c a b pos) (tE X.K Ξ (uY ft f g)):=cm (UO hc ha hb) fun σ H Q T=>by
 obtain⟨w,env,R,S,Z,h⟩:=T;subst R;refine⟨w,env,rfl,S,Z,(Out.ai h).mono λY b W V U=>?_⟩
 cases b with
 |true=>exact⟨Y,env,rfl,V,Z.le W,U⟩
 |false=>exact⟨Y,env,rfl,V,Z.le W,U⟩
def MO (σ:St) (H:Hp) (Q:VK):tE K Ξ (eB o fa) σ H Q->FP (rC K Ξ o) (tA K Ξ fa) σ H Q:=by
 intro zzz;obtain⟨w,env,rfl,S,Z,h⟩:=zzz;exact⟨w,env,rfl,S,Z,(Out.ai h).mono λY X T W V R U=>⟨Y,X,rfl,W,U,V⟩⟩
def cB {x:Str} {p:Pos} {id:String} {o:List D->ae->Res D} (hc:cU X (.builtin id) (rC X.K Ξ o)) (hg:Gl X x) (hm:X.mg x=ϋ) (hv:ü x=ϊ (.builtin id)) (ha:PA X (e::es) (tA X.K Ξ fa)) (hn:x≠"__name__":=by decide) (dR:(x==("__debug__":Str))=ύ:=by decide)
  (he:Í (e::es) X.env=(ύ,ķ e X.env)::Í es X.env:=by rfl) (bN:(ī pos (Í es X.env)).any (·.1)=ύ:=by rfl):PE X (.Call (.Name x p) (e::es) [] pos) (tE X.K Ξ (eB o fa)):=cm (B6 hc hg hm hv ha hn dR he bN) MO
def j6 {x:Str} {p:Pos} {T:String} {o:List D->ae->Res D} (hc:cU X (.type T) (rC X.K Ξ o)) (hg:Gl X x) (hm:X.mg x=ϋ) (hv:ü x=ϊ (.type T)) (ha:PA X (e::es) (tA X.K Ξ fa)) (hn:x≠"__name__":=by decide) (dR:(x==("__debug__":Str))=ύ:=by decide)
  (he:Í (e::es) X.env=(ύ,ķ e X.env)::Í es X.env:=by rfl) (bN:(ī pos (Í es X.env)).any (·.1)=ύ:=by rfl):PE X (.Call (.Name x p) (e::es) [] pos) (tE X.K Ξ (eB o fa)):=cm (BP hc hg hm hv ha hn dR he bN) MO
end
set_option genInjectivity true in
inductive Fl where
 |nx (env:Env)|rt (d:D)|bk (env:Env)|ct (env:Env)
def Az (K:đ) (D:Ends) (w:Wd):Fl->Prop
 | .nx env=>∀ σ,bX K w env σ->D.nx σ w.H
 | .rt d=>∀v,DV K w d v->D.rt v w.H
 | .bk env=>∀ σ,bX K w env σ->D.bk σ w.H
 | .ct env=>∀ σ,bX K w env σ->D.ct σ w.H
def tS (K:đ) (Ξ:Wd->bg->Prop) (f:aeO Fl):TS:=λD σ H=>∃w env,w.H=H/\aU K w/\bX K w env σ/\Out K Ξ w (f env w.aJ) (Az K D)
def bH:aeO Fl:=λenv s=>ok (.nx env) s
def aq (f g:aeO Fl):aeO Fl:=λenv s=>ai (f env s) λfl s=>match fl with
 | .nx env=>g env s
 |fl=>ok fl s
def aA (f:aeO D):aeO Fl:=λenv s=>ai (f env s) λd s=>ok (.rt d) s
def cF (f:aeO D):aeO Fl:=λenv s=>ai (f env s) λ_ s=>ok (.nx env) s
def aM (c:aeO Bool) (f g:aeO Fl):aeO Fl:=λenv s=>ai (c env s) λb s=>if b=ό then f env s else g env s
def NQ:aeO Fl:=λenv s=>ok (.ct env) s
def bc (f:aeO D) (g:D->Env->Option Env):aeO Fl:=λenv s=>ai (f env s) λd s=>match g d env with
 |some Z=>ok (.nx Z) s
 |none=>ϋ
def gN (i:Nat):D->Env->Option Env:=λd env=>ϊ (env.set i (ϊ d))
def gS:List (D->Env->Option Env)->List D->Env->Option Env
 | [],[],env=>ϊ env
 |g::Y,d::X,env=>match g d env with
  |some Z=>gS Y X Z
  |none=>ϋ
 |_,_,_=>ϋ
def gT (gs:List (D->Env->Option Env)):D->Env->Option Env:=λd env=>match d with
 | .tup Z=>gS gs Z env
 |_=>ϋ
def mv (g:D->Env->Option Env) (b:aeO Fl):List D->aeO Fl
 | [],env,s=>ok (.nx env) s
 |d::Y,env,s=>match g d env with
  |none=>ϋ
  |some Z=>ai (b Z s) λX s=>match X with
   | .nx e=>mv g b Y e s
   | .ct e=>mv g b Y e s
   | .bk e=>ok (.nx e) s
   | .rt d=>ok (.rt d) s
def lA (it:aeO (List D)) (g:D->Env->Option Env) (b:aeO Fl):aeO Fl:=λenv s=>ai (it env s) λZ s=>mv g b Z env s
def ne {α:Type} (r:Res α):Res α:=match r with
 |some (.ok a,s)=>ϊ (.ok a,s)
 |_=>ϋ
@[simp] theorem qA {α:Type} {a:α} {s:ae}:ne (ϊ (.ok a,s))=ϊ (.ok a,s):=rfl
def iP (cap:List Nat) (env:Env):Env:=cap.map λj=>(env[j]?).getD ϋ
def iE (nt:Nat) (caps:Env) (g:D->Env->Option Env) (t:aeO Bool) (f:aeO D):List D->ae->Res (List D)
 | [],s=>ok [] s
 |d::Z,s=>match g d (Ö nt ϋ++caps) with
  |none=>ϋ
  |some env=>ai (ne (t env s)) λb s=>if b=ό then ai (ne (f env s)) λx s=>ai (iE nt caps g t f Z s) λY s=>ok (x::Y) s
   else iE nt caps g t f Z s
def cM (nt:Nat) (cap:List Nat) (it:aeO (List D)) (g:D->Env->Option Env) (t:aeO Bool) (f:aeO D):aeO D:=λenv s =>
 ai (it env s) λZ s=>jg Z (ai (iE nt (iP cap env) g t f Z s) λY s=>ok (.lst Y) s)
def cT:aeO Bool:=λ_ s=>ok ό s
def aD (np ns:Nat) (b:aeO Fl):List D->ae->Res D:=λZ s=>if Z.length=np then ai (b (Z.map ϊ++Ö (ns-np) ϋ) s) λY s=>match Y with
 | .rt d=>ok d s
 | .nx _=>ok .ar s
 |_=>ϋ else ϋ
abbrev cG:Wd->bg->Prop:=λ_ _=>False
def lU (K:đ) (f:List D->ae->Res D):Sp:=λX H Q _=>∃w Z,w.H=H/\aU K w/\au K w Z X/\Out K cG w (f Z w.aJ) λY d=>∀v,DV K Y d v->Q v Y.H
section
variable {X:Cx} {Ξ:Wd->bg->Prop} {e a b c tg:ě} {es rest:List ě} {pos:Pos} {f g h:aeO D} {fa:aeO (List D)} {ft gt:aeO Bool} {st:aeg} {rn Fe:List aeg} {fs gs:aeO Fl}
def bS:dh X [] (tS X.K Ξ bH):=LN WD λD σ H Z=>by
 obtain⟨w,env,Y,S,W,h⟩:=Z;subst Y;exact aB S h σ W
def aH (h1:PS X st (tS X.K Ξ fs)) (h2:dh X rn (tS X.K Ξ gs)):dh X (st::rn) (tS X.K Ξ (aq fs gs)):=LN (UP h1 h2) λD σ H W=>by
 obtain⟨w,env,V,S,U,h⟩:=W;subst V;refine⟨w,env,rfl,S,U,(Out.ai h).mono λT R P Y h1=>?_⟩
 cases R with
 |nx Z=>exact fun O Q=>⟨T,Z,rfl,Y,Q,h1⟩
 |rt d=>have q:=aB Y h1;exact q
 |bk Z=>have q:=aB Y h1;exact q
 |ct Z=>have q:=aB Y h1;exact q
def ax (h1:PS X st (tS X.K Ξ fs)):dh X [st] (tS X.K Ξ fs):=WE h1
def aQ (he:PE X e (tE X.K Ξ f)):PS X (.Return (ϊ e) pos) (tS X.K Ξ (aA f)):=kZ (Ys he) λD σ H Z=>by
 obtain⟨w,env,Y,S,W,h⟩:=Z;subst Y;exact⟨w,env,rfl,S,W,(Out.ai h).mono λT d R V U=>aB V U⟩
def gy (he:PE X e (tE X.K Ξ f)) (hs:swapsWith e ϋ pos.line X.env=pure ύ:=by rfl):PS X (.Expr e pos) (tS X.K Ξ (cF f)):=kZ (WG he hs) λD σ H Y=>by
 obtain⟨w,env,W,S,Z,h⟩:=Y;subst W;exact⟨w,env,rfl,S,Z,(Out.ai h).mono λR d V U T _ _=>aB U T σ (Z.le V)⟩
def bL (hc:PT X c (tT X.K Ξ ft)) (ha:dh X rn (tS X.K Ξ fs)) (hb:dh X Fe (tS X.K Ξ gs)):PS X (.If c rn Fe pos) (tS X.K Ξ (aM ft fs gs)):=kZ (aal hc ha hb) λD σ H T=>by
 obtain⟨w,env,R,S,Z,h⟩:=T;subst R;refine⟨w,env,rfl,S,Z,(Out.ai h).mono λY b W V U=>?_⟩
 cases b with
 |true=>exact⟨Y,env,rfl,V,Z.le W,U⟩
 |false=>exact⟨Y,env,rfl,V,Z.le W,U⟩
def gD (K:đ) (g:D->Env->Option Env):TG:=λv σ H Q=>∃w env d Z,w.H=H/\aU K w/\bX K w env σ/\DV K w d v/\g d env=ϊ Z/\∀ Y,bX K w Z Y->Q Y H
def uZ (K:đ) (g:List D->Env->Option Env):jS:=λW σ H Q=>∃w env Y Z,w.H=H/\aU K w/\bX K w env σ/\au K w Y W/\g Y env=ϊ Z/\∀ X,bX K w Z X->Q X H
def Dw {t t':TG} (h:PG X e t) (i:∀v σ H Q,t' v σ H Q->t v σ H Q):PG X e t':=λZ s σ H v u Q I r Y=>h Z s σ H v u Q I r (i v σ H Q Y)
def LO {t t':jS} (h:kG X es t) (i:∀v σ H Q,t' v σ H Q->t v σ H Q):kG X es t':=λZ s σ H v u Q I r Y=>h Z s σ H v u Q I r (i v σ H Q Y)
def cQ (i:Nat) {x:Str} (hN:X.N.Nodup) (hi:X.N[i]?=ϊ x:=by rfl) (hx:Loc X.env.scope x:=by first|exact ο rfl|exact Or.inr rfl) (hf:X.fn x=ό\/X.env.scope.names.lookup x=ϊ .local:=by first|exact .inl rfl|exact .inr rfl):PG X (.Name x pos) (gD X.K (gN i)) :=
 Dw (iD hN hi hx hf) λv σ H Q Y=>by
  obtain⟨w,env,d,Z,T,S,W,V,U,k⟩:=Y;have e:env.set i (ϊ d)=Z:=aeT U;subst e;exact k _ (W.set V i)
def nC:kG X [] (uZ X.K (gS [])):=LO vZ λR σ H Q V=>by
 obtain⟨w,env,Y,Z,P,S,U,T,W,k⟩:=V
 cases Y with
 |nil =>
  have e:env=Z:=aeT W;subst e;exact⟨T,k _ U⟩
 |cons d Y=>cases W
def dS {g:D->Env->Option Env} {gl:List (D->Env->Option Env)} (h1:PG X e (gD X.K g)) (h2:kG X es (uZ X.K (gS gl)))
  (hs:(Ŏ (e::es) X.env).map (·.2)=aeM e X.env::(Ŏ es X.env).map (·.2):=by rfl):kG X (e::es) (uZ X.K (gS (g::gl))):=LO (l9 h1 h2 hs) λJ σ H Q R=>by
 obtain⟨w,env,W,Y,U,S,P,O,Z,k⟩:=R
 cases W with
 |nil=>cases Z
 |cons d W =>
  obtain⟨v,r,rfl,N,M⟩:=O;erw[gS] at Z
  cases V:g d env with
  |none=>rw[V] at Z;cases Z
  |some T =>
   rw[V] at Z;refine⟨v,r,rfl,w,env,d,T,U,S,P,N,V,fun I L=>⟨w,T,W,Y,U,S,L,M,Z,k⟩⟩
theorem zb:∀{gl:List (D->Env->Option Env)} {ds:List D} {env env':Env},gS gl ds env=ϊ env'->ds.length=gl.length
 | [],[],_,_,_=>rfl
 |g::gl,d::ds,env,env',h=>by
  erw[gS] at h
  cases Z:g d env with
  |none=>rw[Z] at h;cases h
  |some e1=>rw[Z] at h;simp[zb h]
 | [],_::_,_,_,h=>by cases h
 |_::_,[],_,_,h=>by cases h
def tJ {gl:List (D->Env->Option Env)} {k:Nat} (hc:X.calm=ό) (h:kG X es (uZ X.K (gS gl))) (hn:(Ŏ es X.env).length=gl.length:=by rfl) (jT:(Ŏ es X.env).findIdx? (·.1)=ϋ:=by rfl):PG X (.Tuple es k pos) (gD X.K (gT gl)) :=
 Dw (wk hc h hn jT) λv σ H Q U=>by
  obtain⟨w,env,d,Z,T,S,R,W,Y,k⟩:=U
  cases d with
  |tup P =>
   erw[DV] at W;obtain⟨p,O,e1,N,V⟩:=W;subst T;exact⟨p,O,e1,N,by rw[<- V.length];exact zb Y,w,env,P,Z,rfl,S,R,V,Y,k⟩
  |_=>cases Y
def LP {K:đ} {g:D->Env->Option Env} (D:Ends) (σ:St) (H:Hp):tS K Ξ (bc f g) D σ H->xu (tE K Ξ f) (gD K g) D σ H:=by
 intro zzz;obtain⟨w,env,rfl,S,W,h⟩:=zzz;refine⟨w,env,rfl,S,W,(Out.ai h).mono λU d T V Y v R=>?_⟩
 cases X:g d env with
 |none=>rw[X] at Y;exact Y.elim
 |some Z =>
  rw[X] at Y;exact⟨U,env,d,Z,rfl,V,W.le T,R,X,aB V Y⟩
def nH {g:D->Env->Option Env} (he:PE X e (tE X.K Ξ f)) (hg:PG X tg (gD X.K g)) (hs:ac6 [tg] e pos.line X.env=pure ύ:=by rfl) (hw:ac7 [tg] e X.env=pure ϋ:=by rfl)
  (h1:(Ŏ [tg] X.env).map (·.2)=[aeM tg X.env]:=by rfl):PS X (.Assign [tg] e pos) (tS X.K Ξ (bc f g)):=kZ (MB he hg hs hw h1) LP
def TH {K:đ} {te:TE} {i:Nat} (D:Ends) (σ:St) (H:Hp):xu (tE K Ξ f) (gD K (gN i)) D σ H->xu (tE K Ξ f) (qy i) D σ H:=by
 intro zzz;obtain⟨w,env,rfl,S,Y,h⟩:=zzz;refine⟨w,env,rfl,S,Y,h.mono λP d O N X v W=>?_⟩;obtain⟨M,V,U,Z,L,J,T,R,Q,k⟩:=X v W;have e:V.set i (ϊ U)=Z:=aeT Q;subst e;exact k _ (T.set R i)
def ck (i:Nat) {x:Str} {pos':Pos} (hN:X.N.Nodup) (he:PE X e (tE X.K Ξ f)) (hi:X.N[i]?=ϊ x:=by rfl) (hx:Loc X.env.scope x:=by first|exact ο rfl|exact Or.inr rfl) (hs:swapsWith e (ϊ (.Name x pos')) pos.line X.env=pure ύ:=by rfl) (hf:X.fn x=ό\/X.env.scope.names.lookup x=ϊ .local:=by first|exact .inl rfl|exact .inr rfl) :
  PS X (.Assign [.Name x pos'] e pos) (tS X.K Ξ (bc f (gN i))):=kZ (Yu hN hi hx he hs hf) λD σ H h=>TH (te:=tE X.K Ξ f) D σ H (LP D σ H h)
def pM (K:đ) (w:Wd) (J:It) (ds:List D):Prop:=∀Z,Le K w Z->aU K Z->∀i,
 (∀d,ds[i]?=ϊ d->J.go i Z.H/\∀x X,J.uM i Z.H x X->∃Y,Y.H=X/\Le K Z Y/\aU K Y/\Y.aJ=Z.aJ/\DV K Y d x)/\(ds.length<=i->J.stop i Z.H)
def fP (K:đ) (Ξ:Wd->bg->Prop) (f:aeO (List D)):TI:=fun σ H R=>∃w env,w.H=H/\aU K w/\bX K w env σ/\Out K Ξ w (f env w.aJ) λZ Y=>∀J,pM K Z J Y->R J Z.H
def sV {t t':TI} (h:PI X tg e t) (i:∀ σ H R,t' σ H R->t σ H R):PI X tg e t':=λZ s σ H R I Y=>h Z s σ H R I (i σ H R Y)
def Xd {K:đ} {it:aeO (List D)} {g:D->Env->Option Env} (D0:Ends) (σ:St) (H:Hp):tS K Ξ (lA it g fs) D0 σ H->OM (fP K Ξ it) (gD K g) (tS K Ξ fs) D0 σ H:=by
 intro zzz;obtain⟨w,env,rfl,S,B,h⟩:=zzz;refine⟨w,env,rfl,S,B,(Out.ai h).mono λM X p o n J A=>?_⟩;refine⟨λi m L z=>m=X.length-i/\i<=X.length/\∃W Z,W.H=z/\Le K M W/\aU K W/\bX K W Z L/\Out K Ξ W (mv g fs (X.drop i) Z W.aJ) (Az K D0),
  ⟨X.length,rfl,Ē _,M,env,rfl,Le.refl _,o,B.le p,n⟩,?_⟩
 intro i m L z zzz;obtain⟨rfl,a,W,Z,rfl,U,I,v,V⟩:=zzz;by_cases G:i<X.length
 ·right
  obtain⟨l,k⟩:=(A W U I i).1 _ (Ø G);rw[ů G] at V;erw[mv] at V
  cases F:g X[i] Z with
  |none=>rw[F] at V;exact V.elim
  |some u =>
   rw[F] at V;refine⟨l,fun E T=>∃Y R,Y.H=T/\Le K M Y/\aU K Y/\bX K Y R E/\Out K Ξ Y (mv g fs (X.drop (i+1)) R Y.aJ) (Az K D0),fun E T ⟨Y,R,q⟩=>⟨X.length-(i+1),by omega,rfl,G,Y,R,q⟩,λx T y=>?_⟩;obtain⟨Y,rfl,Q,t,es,j⟩:=k x T y;refine⟨Y,Z,X[i],u,rfl,t,v.le Q,j,F,fun E f=>⟨Y,u,rfl,t,f,?_⟩⟩;rw[<- es] at V;refine(Out.ai (V.from Q)).mono λs c r P O=>?_
   cases c with
   |nx N=>exact fun b C=>⟨s,N,rfl,U.trans (Q.trans r),P,C,O⟩
   |ct N=>exact fun b C=>⟨s,N,rfl,U.trans (Q.trans r),P,C,O⟩
   |bk N=>have q:=aB P O;exact q
   |rt d=>have q:=aB P O;exact q
 ·left
  have e:i=X.length:=by omega
  subst e;rw[List.drop_length] at V;exact⟨(A W U I _).2 (aeS _),aB I V L v⟩
def qB {iter:ě} {it:aeO (List D)} {g:D->Env->Option Env} (hp:PassesOwn (é X.prog X.w) X.A X.env X.xe) (hc:X.calm=ό) (hi:PI X tg iter (fP X.K Ξ it)) (hg:PG X tg (gD X.K g)) (hb:dh X rn (tS X.K Ξ fs))
  (hs:∀x,Ć iter X.env x=pure x:=by intro _;rfl):PS X (.For tg iter rn [] pos) (tS X.K Ξ (lA it g fs)):=kZ (Yx hp hc hi hg hb hs) Xd
theorem Out.ne {α:Type} {K:đ} {w:Wd} {r:Res α} {k:Wd->α->Prop} (h:Out K Ξ w (DI.ne r) k):Out K cG w r k:=by
 match r,h with
 |some (.ok a,s),h=>exact h
def bX.block {K:đ} {w:Wd} {env:Env} {σ:St} (h:bX K w env σ) (nt:Nat) (cap:List Nat) (o:St) (ho:o.length=nt):bX K w (Ö nt ϋ++iP cap env) (o++nG cap σ):=by
 refine⟨by simp[iP,nG,ho],λi d e=>?_⟩;by_cases Z:i<nt
 ·rw[ç (by simpa using Z),ı,Ñ Z] at e
  cases e
 ·rw[ð (by simpa using δ Z)] at e
  rw[ð ⋯,ho];erw[ω] at e;delta iP at e;delta nG;rw[ê] at e |-
  cases Y:cap[i-nt]? with
  |none=>rw[Y] at e;cases e
  |some j =>
   rw[Y] at e;have ev:(env[j]?).getD ϋ=ϊ d:=aeT e;have X:env[j]?=ϊ (ϊ d):=by
    cases q:env[j]? with
    |none=>rw[q] at ev;cases ev
    |some z=>rw[q] at ev;exact Ń ϊ ev
   obtain⟨v,e1,e2⟩:=h.val j d X;exact⟨v,by rw[abI,e1];rfl,e2⟩
def TJ {K:đ} {nt:Nat} {cap:List Nat} {it:aeO (List D)} {g:D->Env->Option Env} {fin:List D->ae->Res D} (σ:St) (H:Hp) (Q:VK)
  (Ff:∀(w2:Wd) (xs:List D) (vs:List V),aU K w2->au K w2 xs vs->Out K Ξ w2 (fin xs w2.aJ) (λw' d=>∀v,DV K w' d v->Q v w'.H)->∀p,w2.H p=ϋ->Q (.ref p) (upd w2.H p (.lst vs))) :
  tE K Ξ (λenv s=>ai (it env s) λds s=>jg ds (ai (iE nt (iP cap env) g ft f ds s) fin)) σ H Q->wO (fP K Ξ it) nt cap (gD K g) (tT K cG ft) (tE K cG f) σ H Q:=by
 intro zzz;obtain⟨w,env,rfl,S,A,h⟩:=zzz;refine⟨w,env,rfl,S,A,(Out.ai h).mono λN ds c a M J z=>?_⟩;obtain⟨hz,M⟩:=vO M;refine⟨λi m Y u=>m=ds.length-i/\i<=ds.length/\Y.length<=i/\∃w' Z,w'.H=u/\Le K N w'/\aU K w'/\au K w' Z Y/\Out K Ξ w' (iE nt (iP cap env) g ft f (ds.drop i) w'.aJ) λw2 xs=>∀vs,au K w2 (Z++xs) vs->∀p,w2.H p=ϋ->Q (.ref p) (upd w2.H p (.lst vs)),
  ⟨ds.length,rfl,Ē _,Ē _,N,[],rfl,Le.refl _,a,rfl,(Out.ai M).mono λw2 xs W P h2 vs O p U=>?_⟩,?_⟩
 ·exact Ff w2 xs vs P O h2 p U
 intro i m Y u zzz;obtain⟨rfl,hi,ha,w',Z,rfl,T,L,I,X⟩:=zzz;by_cases G:i<ds.length
 ·right
  obtain⟨i7,hy⟩:=(z w' T L i).1 _ (Ø G);rw[ů G] at X;erw[iE] at X
  cases F:g ds[i] (Ö nt ϋ++iP cap env) with
  |none=>rw[F] at X;exact X.elim
  |some E =>
   rw[F] at X;refine⟨i7,by omega,λC t=>C.length<=i+1/\∃w' Z,w'.H=t/\Le K N w'/\aU K w'/\au K w' Z C/\Out K Ξ w' (iE nt (iP cap env) g ft f (ds.drop (i+1)) w'.aJ) λw2 xs=>∀vs,au K w2 (Z++xs) vs->∀p,w2.H p=ϋ->Q (.ref p) (upd w2.H p (.lst vs)),
    λC t ⟨B,q⟩=>⟨ds.length-(i+1),by omega,rfl,G,B,q⟩,λo x H3 ho y=>?_⟩
   obtain⟨w2,rfl,W,P,es,dv⟩:=hy x H3 y;refine⟨w2,_,ds[i],E,rfl,P,(A.le (c.trans (T.trans W))).block nt cap o ho,dv,F,fun nW r=>?_⟩;rw[<- es] at X;refine⟨w2,E,rfl,P,r,(Out.ai (X.from W)).ne.mono λn b R l k=>?_⟩
   cases b with
   |true =>
    refine⟨n,E,rfl,l,r.le R,(Out.ai k).ne.mono λw4 d j S4 h4 v Gn=>⟨by rw[ä];simp;omega,w4,Z++[d],rfl,T.trans (W.trans (R.trans j)),S4,au.append ((W.trans (R.trans j)).all I) (au.one Gn),(Out.ai h4).mono λw5 xs l5 S5 h5 vs O p U=>?_⟩⟩;exact aB S5 h5 vs (by rw[Ĳ] at O;exact O) p U
   |false =>
    exact⟨by omega,n,Z,rfl,T.trans (W.trans R),l,(W.trans R).all I,k⟩
 ·left
  have e:i=ds.length:=by omega
  subst e;rw[List.drop_length] at X;refine⟨(z w' T L _).2 (aeS _),by omega,λp U=>aB L X Y (by rw[Ħ];exact I) p U⟩
def Vm {K:đ} {nt:Nat} {cap:List Nat} {it:aeO (List D)} {g:D->Env->Option Env} (σ:St) (H:Hp) (Q:VK) :
  tE K Ξ (cM nt cap it g ft f) σ H Q->wO (fP K Ξ it) nt cap (gD K g) (tT K cG ft) (tE K cG f) σ H Q :=
 TJ σ H Q λX S W V U T p Y=>T (X.grow p (.lst W)) (Fw.grow Y).le (V.grow Y) rfl (.ref p) ⟨p,W,rfl,⟨(show ¬ X.Z p from me V Y),cP⟩,(Fw.grow Y).le.all U⟩
end
def LQ {o caps:St} {v:V} {i nt:Nat} (ho:o.length=nt) (hi:i<nt):(o++caps).set i (ϊ v)=o.set i (ϊ v)++caps:=by
 rw[List.set_append_left _ _ ⋯]
def TL {i nt:Nat} (hi:i<nt):pC (qy i) nt:=by
 intro x o Z H R Y h;exact⟨⟨o.set i (ϊ x),by rw[ă];exact Y,LQ Y hi⟩,h⟩
def xC (g:jS) (nt:Nat):Prop:=∀(Y:List V) (o Z:St) (H:Hp) (R:St->Hp->Prop),o.length=nt->g Y (o++Z) H R->g Y (o++Z) H fun X U=>(∃W:St,W.length=nt/\X=W++Z)/\R X U
def Vn:xC E1 nt:=λX o Z H R Y h=>⟨h.1,⟨o,Y,rfl⟩,h.2⟩
def TM {i nt:Nat} {g:jS} (hi:i<nt) (hg:xC g nt):xC (D6 (qy i) g) nt:=by
 intro X o Z H R Y zzz;obtain⟨v,r,e,h⟩:=zzz;refine⟨v,r,e,?_⟩;have h:g r ((o++Z).set i (ϊ v)) H R:=h;show g r ((o++Z).set i (ϊ v)) H _;rw[LQ Y hi] at h |-;exact hg r _ Z H R (by rw[ă];exact Y) h
def Vo (hg:xC g nt):pC (E2 K n g) nt:=by
 intro x o Z H R X zzz;obtain⟨a,Y,e,W,V,h⟩:=zzz;exact⟨a,Y,e,W,V,hg Y o Z H R X h⟩
structure Tg (K:đ) (g0:TG) (g:D->Env->Option Env) (nt:Nat):Prop where
 n5:pC g0 nt
 imp:∀v σ H Q,gD K g v σ H Q->g0 v σ H Q
structure A0 (K:đ) (g0:jS) (g:List (D->Env->Option Env)) (nt:Nat):Prop where
 n5:xC g0 nt
 imp:∀v σ H Q,uZ K (gS g) v σ H Q->g0 v σ H Q
def sJ (i:Nat) (hi:i<nt:=by decide):Tg K (qy i) (gN i) nt:=⟨TL hi,λv σ H Q Y=>by
 obtain⟨w,env,d,Z,U,S,X,W,V,k⟩:=Y;have e:env.set i (ϊ d)=Z:=aeT V;subst e;exact k _ (X.set W i)⟩
def zt:A0 K E1 [] nt:=⟨Vn,λT σ H Q W=>by
 obtain⟨w,env,Y,Z,R,S,V,U,X,k⟩:=W
 cases Y with
 |nil =>
  have e:env=Z:=aeT X;subst e;exact⟨U,k _ V⟩
 |cons d Y=>cases X⟩
def nj (i:Nat) (h:A0 K g0 gl nt) (hi:i<nt:=by decide):A0 K (D6 (qy i) g0) (gN i::gl) nt:=⟨TM hi h.n5,λO σ H Q W=>by
 obtain⟨w,env,Y,Z,V,S,U,T,X,k⟩:=W
 cases Y with
 |nil=>cases X
 |cons d Y =>
  obtain⟨v,r,rfl,R,P⟩:=T;exact⟨v,r,rfl,h.imp _ _ _ _ ⟨w,_,Y,Z,V,S,U.set R i,P,X,k⟩⟩⟩
def zH (h:A0 K g0 gl nt) (hn:gl.length=n:=by rfl):Tg K (E2 K n g0) (gT gl) nt:=⟨Vo h.n5,λv σ H Q V=>by
 obtain⟨w,env,d,Z,U,S,T,X,Y,k⟩:=V
 cases d with
 |tup R =>
  erw[DV] at X;obtain⟨p,P,e1,O,W⟩:=X;subst U;exact⟨p,P,e1,O,by rw[<- W.length,zb Y];exact hn,h.imp _ _ _ _ ⟨w,env,R,Z,rfl,S,T,W,Y,k⟩⟩
 |_=>cases Y⟩
section
variable {X:Cx} {Ξ:Wd->bg->Prop} {e a b c tg el src:ě} {es rest tests:List ě} {pos:Pos} {f g h:aeO D} {fa:aeO (List D)} {ft gt:aeO Bool} {st:aeg} {rn Fe:List aeg} {fs gs:aeO Fl}
def YZ (h:PF X tests t) (i:∀ σ H Q,t' σ H Q->t σ H Q):PF X tests t':=λZ s σ H Q I Y=>h Z s σ H Q I (i σ H Q Y)
def fc:PF X [] (tT K Ξ cT):=YZ YN fun σ H Q Z=>by
 obtain⟨w,env,Y,S,W,h⟩:=Z;subst Y;exact aB S h
def tK (h:PT X c (tT K Ξ ft)):PF X [c] (tT K Ξ ft):=YO h
def Sv (i_:∀v σ H Q,g1 v σ H Q->g0 v σ H Q) (wm:∀R R':It->Hp->Prop,(∀J H',R J H'->R' J H')->wi σ H R->wi σ H R') (h:wO wi nt cap g1 tf te σ H Q):wO wi nt cap g0 tf te σ H Q:=by
 refine wm _ _ (λJ H' Y=>?_) h;obtain⟨W,X,step⟩:=Y;refine⟨W,X,λi m Z V hw=>?_⟩
 rcases step i m Z V hw with q | ⟨U,T,N,S,P⟩
 ·exact .inl q
 ·exact .inr ⟨U,T,N,S,λo x O M y=>i_ _ _ _ _ (P o x O M y)⟩
def Vp (R R':It->Hp->Prop) (i:∀J H',R J H'->R' J H') (h:fP K Ξ it σ H R):fP K Ξ it σ H R':=by
 obtain⟨w,env,Z,S,Y,h⟩:=h;exact⟨w,env,Z,S,Y,h.mono λV U _ _ X J W=>i J _ (X J W)⟩
def cI (f:aeO D):aeO (List D):=λenv s=>ai (f env s) λd s=>match d with
 | .lst Z=>ok Z s
 | .tup Z=>ok Z s
 |_=>ϋ
def Vq {K:đ} {w:Wd} {a:Þ} {ds:List D} (h:DV K w (.lst ds) (.ref a)):pM K w (FL K a) ds:=λV U T i=>by
 have X:=U _ _ h;erw[DV] at X;obtain⟨p,Z,e,Y,W⟩:=X;cases e;refine⟨λd S=>?_,λR=>⟨Z,Y.sq,by rw[<- W.length];exact R⟩⟩;obtain⟨v,ev,Q⟩:=W.get' i d S;exact⟨⟨Z,v,Y.sq,ev⟩,λx P ⟨e1,e2⟩=>⟨V,e1.symm,Le.refl _,T,rfl,by
  have q:=e2 Z Y.sq;rw[ev] at q;cases q;exact Q⟩⟩
def Xe {K:đ} {w:Wd} {a:Þ} {ds:List D} (h:DV K w (.tup ds) (.ref a)):pM K w (FN K a) ds:=λV U T i=>by
 have X:=U _ _ h;erw[DV] at X;obtain⟨p,Z,e,Y,W⟩:=X;cases e;refine⟨λd S=>?_,λR=>⟨Z,Y,by rw[<- W.length];exact R⟩⟩;obtain⟨v,ev,Q⟩:=W.get' i d S;exact⟨⟨Z,v,Y,ev⟩,λx P ⟨e1,e2⟩=>⟨V,e1.symm,Le.refl _,T,rfl,by
  have q:=e2 Z Y;rw[ev] at q;cases q;exact Q⟩⟩
def gE (hl:PE X a (tE X.K Ξ f)):PI X tg a (fP X.K Ξ (cI f)):=by
 have both:PI X tg a (fun σ H R=>NH X.K (tE X.K Ξ f) σ H R\/OL X.K (tE X.K Ξ f) σ H R):=λN s σ H R I h=>h.elim (WH hl N s σ H R I) (Yw hl N s σ H R I);refine sV both fun σ H R ⟨w,env,M,S,W,h⟩=>?_;subst M;erw[cI] at h
 cases Y:f env w.aJ with
 |none=>rw[Y] at h;exact h.elim
 |some r =>
  obtain⟨r,s⟩:=r;rw[Y] at h
  cases r with
  |error x=>exact .inl ⟨w,env,rfl,S,W,by rw[Y];exact h⟩
  |ok d =>
   rw[bV] at h
   cases d with
   |lst L =>
    refine .inl ⟨w,env,rfl,S,W,?_⟩;rw[Y];intro V U T e1 v Z;have Q:=Z;erw[DV] at Z;obtain⟨p,P,rfl,O,J⟩:=Z;exact⟨p,rfl,⟨P,O.sq⟩,h V U T e1 _ (Vq Q)⟩
   |tup L =>
    refine .inr ⟨w,env,rfl,S,W,?_⟩;rw[Y];intro V U T e1 v Z;have Q:=Z;erw[DV] at Z;obtain⟨p,P,rfl,O,J⟩:=Z;exact⟨p,rfl,⟨P,O⟩,h V U T e1 _ (Xe Q)⟩
   |_=>exact h.elim
def dg (lo:Int) (n:Nat):List D:=(è n).map λ(i:Nat)=>D.int (lo+(i:Int))
def sL:(dg lo n)[i]?=if i<n then ϊ (.int (lo+i)) else ϋ:=by
 delta dg;rw[ê];by_cases h:i<n
 ·rw[Ŀ h,Ñ h];rfl
 ·rw[ğ (by simp;omega),Ú h];rfl
def qg:(dg lo n).length=n:=by simp[dg]
def LR:pM K w (xZ lo n) (dg lo n):=λX V W i=>by
 refine⟨λd Z=>?_,λY=>by rw[qg] at Y;exact Y⟩;rw[sL] at Z;split at Z
 ·cases Z
  exact⟨by assumption,λx U ⟨e1,e2⟩=>⟨X,e1.symm,Le.refl _,W,rfl,e2⟩⟩
 ·cases Z
def kj (j:Int):Bool:=ώ (-(2 ^ 62)<=j)&&ώ (j<2 ^ 62)
def iK (fa:aeO (List D)):aeO (List D):=λenv s=>ai (fa env s) λZ s=>match Z with
 | [.int j]=>if kj j=ό then ok (dg 0 j.toNat) s else ϋ
 |_=>ϋ
def A1 (fa:aeO (List D)):aeO (List D):=λenv s=>ai (fa env s) λZ s=>match Z with
 | [.int i,.int j]=>if (kj i&&kj j)=ό then ok (dg i (j-i).toNat) s else ϋ
 |_=>ϋ
def k9 (hg:Gl X "range") (hm:X.mg "range"=ϋ) (ha:PA X [a] (tA X.K Ξ fa)) (hs:Í [a] X.env=[(ύ,ķ a X.env)]:=by rfl):PI X tg (.Call (.Name "range" p) [a] [] pos) (fP X.K Ξ (iK fa)) :=
 sV (Tf hg hm ha hs) fun σ H R W=>by
  obtain⟨w,env,V,S,U,h⟩:=W;subst V;refine⟨w,env,rfl,S,U,(Out.ai h).mono λN M L T Z J Q=>?_⟩;split at Z
  ·rename_i j
   split at Z
   ·rename_i Y
    erw[kj,Å,Ë] at Y;obtain⟨v,r,rfl,P,O⟩:=Q;have e1:v=.int j:=P;have e2:r=[]:=O;subst e1 e2;exact⟨j,rfl,Y.1,Y.2,aB T Z _ LR⟩
   ·exact Z.elim
  ·exact Z.elim
def Y0 {p:Pos} (hg:Gl X "range") (hm:X.mg "range"=ϋ) (ha:PA X [a,b] (tA X.K Ξ fa)) (hs:Í [a,b] X.env=[(ύ,ķ a X.env),(ύ,ķ b X.env)]:=by rfl) (fj:Í [b] X.env=[(ύ,ķ b X.env)]:=by rfl):PI X tg (.Call (.Name "range" p) [a,b] [] pos) (fP X.K Ξ (A1 fa)) :=
 sV (Ti hg hm ha hs fj) fun σ H R W=>by
  obtain⟨w,env,V,S,U,h⟩:=W;subst V;refine⟨w,env,rfl,S,U,(Out.ai h).mono λJ I G T Z F Q=>?_⟩;split at Z
  ·rename_i i j
   split at Z
   ·rename_i Y
    erw[kj,Å,Ë] at Y;obtain⟨v,r,rfl,P,v2,O,rfl,N,M⟩:=Q;have e1:v=.int i:=P;have e2:v2=.int j:=N;have L:O=[]:=M;subst e1 e2 L;exact⟨i,j,rfl,⟨Y.1.1,Y.1.2,Y.2.1,Y.2.2⟩,aB T Z _ LR⟩
   ·exact Z.elim
  ·exact Z.elim
def ji (xs ys:List D):List D:=(xs.zip ys).map λp=>.tup [p.1,p.2]
def Vr {i:Nat} (h:(ji xs ys)[i]?=ϊ d):∃x y,xs[i]?=ϊ x/\ys[i]?=ϊ y/\d=.tup [x,y]:=by
 delta ji at h;rw[ê] at h
 cases Z:(xs.zip ys)[i]? with
 |none=>rw[Z] at h;cases h
 |some p =>
  rw[Z] at h;obtain⟨Y,X⟩:=List.getElem?_zip_eq_some.mp Z;exact⟨p.1,p.2,Y,X,(aeT h).symm⟩
def Ca:(ji xs ys).length=min xs.length ys.length:=by simp[ji]
def TN (S':aU K w') (hp:w'.H p=ϋ) (h1:DV K w' d x) (h2:DV K w' d2 y) :
  ∃w2,w2.H=upd w'.H p (.tup [x,y])/\Le K w' w2/\aU K w2/\w2.aJ=w'.aJ/\DV K w2 (.tup [d,d2]) (.ref p) :=
 ⟨w'.grow p (.tup [x,y]),rfl,(Fw.grow hp).le,S'.grow hp,rfl,p,[x,y],rfl,bR.of cP,(Fw.grow hp).le.all (au.two h1 h2)⟩
@[reducible] noncomputable def Gr:Bool->List D->D
 |true=>.tup
 |false=>.lst
def NR {K:đ} {w:Wd} {a:Þ} {ds:List D}:∀{k},DV K w (Gr k ds) (.ref a)->∃xs,jX k K w.H a xs/\au K w ds xs
 |true,h=>by
  erw[DV] at h;obtain⟨p,xs,e,Z,Y⟩:=h;cases e;exact⟨xs,Z,Y⟩
 |false,h=>by
  erw[DV] at h;obtain⟨p,xs,e,Z,Y⟩:=h;cases e;exact⟨xs,Z.sq,Y⟩
def Vs {k l:Bool} {K:đ} {w:Wd} {a b:Þ} {ds es:List D} (h:DV K w (Gr k ds) (.ref a)) (g:DV K w (Gr l es) (.ref b)):pM K w (Aw k l K a b) (ji ds es):=λF U O i=>by
 obtain⟨Z,Y,T⟩:=NR (U _ _ h);obtain⟨X,W,S⟩:=NR (U _ _ g);refine⟨λd N=>?_,λM=>⟨Z,X,Y,W,?_⟩⟩
 ·obtain⟨x,y,e1,e2,rfl⟩:=Vr N
  obtain⟨v,ev,L⟩:=T.get' i x e1;obtain⟨u,R,J⟩:=S.get' i y e2;refine⟨⟨Z,X,v,u,Y,W,ev,R⟩,λz E ⟨r,C,y1,I,H,G,V⟩=>?_⟩;obtain⟨Q,P⟩:=V Z X Y W;rw[ev] at Q;rw[R] at P;cases Q;cases P;subst H G;exact TN O I L J
 ·rw[Ca] at M
  have:=T.length;have:=S.length;omega
def Vt {K:đ} {w:Wd} {a b:Þ} {ds es:List D} (h:DV K w (.tup ds) (.ref a)) (g:DV K w (.tup es) (.ref b)):pM K w (acj K a b) (ji ds es):=Vs (k:=ό) (l:=ό) h g
def uq (fa:aeO (List D)):aeO (List D):=λenv s=>ai (fa env s) λZ s=>match Z with
 | [.tup Y,.tup X]=>ok (ji Y X) s
 |_=>ϋ
def aaM {p:Pos} {elts:List ě} {kk:Nat} {xw:Pos} (hg:Gl X "zip") (hm:X.mg "zip"=ϋ) (ha:PA X [a,b] (tA X.K Ξ fa)) (hs:Í [a,b] X.env=[(ύ,ķ a X.env),(ύ,ķ b X.env)]:=by rfl) (fj:Í [b] X.env=[(ύ,ķ b X.env)]:=by rfl) :
  PI X (.Tuple elts kk xw) (.Call (.Name "zip" p) [a,b] [] pos) (fP X.K Ξ (uq fa)):=by
 refine sV (W3 hg hm ha hs fj) fun σ H R U=>?_;obtain⟨w,env,T,S,Q,h⟩:=U;subst T;refine⟨w,env,rfl,S,Q,(Out.ai h).mono λE D C P h B O=>?_⟩;split at h
 ·obtain⟨v,r,rfl,Z,v2,N,rfl,Y,M⟩:=O
  have L:N=[]:=M;subst L;have W:=Z;have V:=Y;erw[DV] at W V;obtain⟨p,J,rfl,I,_⟩:=W;obtain⟨q,G,rfl,F,_⟩:=V;exact⟨p,q,J,G,rfl,I,F,aB P h _ (Vt Z Y)⟩
 ·exact h.elim
def aG (fn:List D->ae->Res D) (fa:aeO (List D)):aeO D:=λenv s=>ai (fa env s) λZ s=>ne (fn Z s)
def Y1 {k:Nat} {fA:Þ} {fd:Ģ} {yl:List Str} {fn:List D->ae->Res D} {x:Str} {p:Pos} (F:cW X.prog X.w X.K X.mg X.base eG k fA fd yl (lU X.K fn)) (hr:bK k X.A) (hg:Gl X x) (hm:X.mg x=ϊ (.ref fA)) (hk:Œ X.K (.ref fA)=ό) (hb:Binds X.K fd yl [])
  (ha:PA X (e::es) (tA X.K Ξ fa)) (dR:(x==("__debug__":Str))=ύ:=by decide) (he:Í (e::es) X.env=(ύ,ķ e X.env)::Í es X.env:=by rfl) (bN:(ī pos (Í es X.env)).any (·.1)=ύ:=by rfl) :
  PE X (.Call (.Name x p) (e::es) [] pos) (tE X.K Ξ (aG fn fa)):=cm (LC F hr hg hm hk hb .nil aaC ha dR he bN) fun σ H Q Y=>by
 obtain⟨w,env,W,S,V,h⟩:=Y;subst W;refine⟨w,env,rfl,S,V,(Out.ai h).mono λZ U N T R P O=>?_⟩;show lU X.K fn (P++[]) Z.H Q E0;rw[Ħ];exact⟨Z,U,rfl,T,O,R.ne⟩
def au.env (h:au K w ds vs) (n:Nat):bX K w (ds.map ϊ++Ö (n-ds.length) ϋ) (vs.map ϊ++Ö (n-vs.length) ϋ):=by
 have X:=h.length;refine⟨by simp[X],λi d e=>?_⟩;by_cases Y:i<ds.length
 ·rw[ç (by simpa using Y),ê] at e
  rw[ç (by simp;omega),ê]
  cases Z:ds[i]? with
  |none=>rw[Z] at e;cases e
  |some V =>
   rw[Z] at e;cases e;obtain⟨v,ev,W⟩:=h.get' i d Z;exact⟨v,by rw[ev];rfl,W⟩
 ·rw[ð (by simpa using δ Y),ı] at e
  split at e<;>cases e
end
def aaN (F:pB K x qual st f fd) (S:sI N ps (cA st))
 (hb:∀(aY:Ç) (A:í) (outer:List PySem.Env) (s:Â) (H:Hp) (E:XK),bK k (A.deeper (ŀ qual (cA st) s.heap.objs.size f aY))->dh (ie eG P w K mg base N qual (cA st) f aY A outer s H E).nV (gv st) (tS K cG b)) :
  cW P w K mg base eG (k+1) f fd ps (lU K (aD ps.length N.length b)):=by
 refine F.ok S (λW H Q E h=>?_) (λaY A outer s H W Q E V h=>?_)
 ·obtain⟨w,U,rfl,S,Y,h⟩:=h
  rw[<- Y.length];delta aD at h;split at h
  ·assumption
  ·exact h.elim
 ·obtain⟨w,U,rfl,S,Y,h⟩:=h
  refine⟨_,hb aY A outer s w.H E V,?_⟩;delta aD at h;split at h
  ·rename_i T
   rw[<- T] at h;refine⟨w,_,rfl,S,Y.env N.length,(Out.ai h).mono λO R M X Z=>?_⟩
   cases R with
   |nx env=>intro L _;exact aB X Z _ rfl
   |rt d=>have q:=aB X Z;exact q
   |bk env=>exact Z.elim
   |ct env=>exact Z.elim
  ·exact h.elim
mutual
noncomputable def py:D->PyData
 | .ar=>.none
 | .bl b=>.bool b
 | .int i=>.int i
 | .str x=>.str x
 | .tup Z=>.tuple (fQ Z)
 | .lst Z=>.list (fQ Z)
 | .cx Y=>.dict (Y.map λp=>(xy p.1,PyData.int p.2))
 | .aj _=>.none
 | .ty _=>.none
 | .bO _=>.none
 | .exc _ _=>.none
 | .dq _ _ _=>.none
noncomputable def fQ:List D->List PyData
 | []=>[]
 |d::Z=>py d::fQ Z
end
mutual
noncomputable def plain:D->Bool
 | .ar=>ό
 | .bl _=>ό
 | .int _=>ό
 | .str _=>ό
 | .tup Z=>qo Z
 | .lst Z=>qo Z
 | .cx _=>ό
 | .aj _=>ύ
 | .ty _=>ύ
 | .bO _=>ύ
 | .exc _ _=>ύ
 | .dq _ _ _=>ύ
noncomputable def qo:List D->Bool
 | []=>ό
 |d::Z=>plain d&&qo Z
end
mutual
noncomputable def lay:D->Bool
 | .ar=>ό
 | .bl _=>ό
 | .int _=>ό
 | .str x=>Ó x
 | .tup Z=>cR Z
 | .lst Z=>cR Z
 | .cx _=>ύ
 | .aj _=>ύ
 | .ty _=>ύ
 | .bO _=>ύ
 | .exc _ _=>ύ
 | .dq _ _ _=>ύ
noncomputable def cR:List D->Bool
 | []=>ό
 |d::Z=>lay d&&cR Z
end
mutual
noncomputable def dep:D->Nat
 | .tup Z=>fz Z+1
 | .lst Z=>fz Z+1
 | .cx Y=>1
 | .ar=>0
 | .bl _=>0
 | .int _=>0
 | .str _=>0
 | .aj _=>0
 | .ty _=>0
 | .bO _=>0
 | .exc _ _=>0
 | .dq _ _ _=>0
noncomputable def fz:List D->Nat
 | []=>0
 |d::Z=>max (dep d) (fz Z)
end
mutual
noncomputable def beq:D->D->Bool
 | .ar,.ar=>ό
 | .bl a,.bl b=>a==b
 | .bl a,.int j=>(if a then 1 else 0)==j
 | .int i,.bl b=>i==(if b then 1 else 0)
 | .int i,.int j=>i==j
 | .str x,.str y=>x==y
 | .tup Z,.tup Y=>oW Z Y
 | .lst Z,.lst Y=>oW Z Y
 |_,_=>ύ
noncomputable def oW:List D->List D->Bool
 | [],[]=>ό
 |x::Z,y::Y=>beq x y&&oW Z Y
 |_,_=>ύ
end
mutual
theorem pY:∀(d:D),lay d=ό->plain d=ό
 | .ar,_=>rfl
 | .bl _,_=>rfl
 | .int _,_=>rfl
 | .str _,_=>rfl
 | .tup Z,h=>by erw[lay,plain] at h |-;exact pU Z h
 | .lst Z,h=>by erw[lay,plain] at h |-;exact pU Z h
 | .cx _,h=>by simp[lay] at h
 | .aj _,h=>by simp[lay] at h
 | .ty _,h=>by simp[lay] at h
 | .bO _,h=>by simp[lay] at h
 | .exc _ _,h=>by simp[lay] at h
 | .dq _ _ _,h=>by simp[lay] at h
theorem pU:∀(ds:List D),cR ds=ό->qo ds=ό
 | [],_=>rfl
 |d::ds,h=>by
  erw[cR,qo,Å] at h |-;exact⟨pY d h.1,pU ds h.2⟩
end
mutual
theorem nD:∀(d:D),lay d=ό->(py d).canLay0=ό/\(py d).depth=dep d
 | .ar,_=>⟨rfl,by simp[py,dep,PyData.depth]⟩
 | .bl _,_=>⟨rfl,by simp[py,dep,PyData.depth]⟩
 | .int _,_=>⟨rfl,by simp[py,dep,PyData.depth]⟩
 | .str _,h=>⟨h,by simp[py,dep,PyData.depth]⟩
 | .tup Z,h=>by
  obtain⟨Y,X⟩:=vQ Z (by simpa [lay] using h);erw[py,dep,PyData.depth,PyData.canLay0];exact⟨Y,by rw[X]⟩
 | .lst Z,h=>by
  obtain⟨Y,X⟩:=vQ Z (by simpa [lay] using h);erw[py,dep,PyData.depth,PyData.canLay0];exact⟨Y,by rw[X]⟩
 | .cx _,h=>by simp[lay] at h
 | .aj _,h=>by simp[lay] at h
 | .ty _,h=>by simp[lay] at h
 | .bO _,h=>by simp[lay] at h
 | .exc _ _,h=>by simp[lay] at h
 | .dq _ _ _,h=>by simp[lay] at h
theorem vQ:∀(ds:List D),cR ds=ό->PyData.canLayAll0 (fQ ds)=ό/\aew (fQ ds)=fz ds
 | [],_=>⟨rfl,rfl⟩
 |d::ds,h=>by
  erw[cR,Å] at h;obtain⟨a1,a2⟩:=nD d h.1;obtain⟨Z,Y⟩:=vQ ds h.2;erw[fQ,fz,PyData.canLayAll0,aew,a1,Z,a2,Y,ĵ,Ĥ]
end
mutual
theorem wz:∀(d e:D),lay d=ό->lay e=ό->ĩ (py d) (py e)=beq d e
 | .tup Z,.tup Y,h,g=>by
  erw[py,beq,ĩ];exact Cb Z Y (by simpa [lay] using h) (by simpa [lay] using g)
 | .lst Z,.lst Y,h,g=>by
  erw[py,beq,ĩ];exact Cb Z Y (by simpa [lay] using h) (by simpa [lay] using g)
 | .ar,e,_,g=>by cases e<;>simp_all [py,beq,ĩ,lay]
 | .bl _,e,_,g=>by cases e<;>simp_all [py,beq,ĩ,lay]
 | .int _,e,_,g=>by cases e<;>simp_all [py,beq,ĩ,lay]
 | .str _,e,_,g=>by cases e<;>simp_all [py,beq,ĩ,lay]
 | .tup _,.ar,_,_=>by simp[py,beq,ĩ]
 | .tup _,.bl _,_,_=>by simp[py,beq,ĩ]
 | .tup _,.int _,_,_=>by simp[py,beq,ĩ]
 | .tup _,.str _,_,_=>by simp[py,beq,ĩ]
 | .tup _,.lst _,_,_=>by simp[py,beq,ĩ]
 | .lst _,.ar,_,_=>by simp[py,beq,ĩ]
 | .lst _,.bl _,_,_=>by simp[py,beq,ĩ]
 | .lst _,.int _,_,_=>by simp[py,beq,ĩ]
 | .lst _,.str _,_,_=>by simp[py,beq,ĩ]
 | .lst _,.tup _,_,_=>by simp[py,beq,ĩ]
 | .cx _,_,h,_=>by simp[lay] at h
 | .aj _,_,h,_=>by simp[lay] at h
 | .ty _,_,h,_=>by simp[lay] at h
 | .bO _,_,h,_=>by simp[lay] at h
 | .exc _ _,_,h,_=>by simp[lay] at h
 | .dq _ _ _,_,h,_=>by simp[lay] at h
 |_,.cx _,_,h=>by simp[lay] at h
 |_,.aj _,_,h=>by simp[lay] at h
 |_,.ty _,_,h=>by simp[lay] at h
 |_,.bO _,_,h=>by simp[lay] at h
 |_,.exc _ _,_,h=>by simp[lay] at h
 |_,.dq _ _ _,_,h=>by simp[lay] at h
theorem Cb:∀(ds es:List D),cR ds=ό->cR es=ό->PyData.eqvAll (fQ ds) (fQ es)=oW ds es
 | [],[],_,_=>rfl
 | [],_::_,_,_=>rfl
 |_::_,[],_,_=>rfl
 |d::ds,e::es,h,g=>by
  erw[cR,Å] at h g;erw[fQ,oW,PyData.eqvAll,wz d e h.1 g.1,Cb ds es h.2 g.2]
end
mutual
theorem DV.py:∀{d:D} {v:V},DV K w d v->plain d=ό->L2.DV K (λ_=>False) w.H (DI.py d) v
 | .ar,_,h,_=>h
 | .bl _,_,h,_=>h
 | .int _,_,h,_=>h
 | .str _,_,h,_=>h
 | .tup X,v,h,p=>by
  erw[DV] at h;obtain⟨a,Y,e,Z,r⟩:=h;erw[DI.py,L2.DV];exact⟨a,Y,e,Z,au.py r (by simpa [plain] using p)⟩
 | .lst X,v,h,p=>by
  erw[DV] at h;obtain⟨a,Y,e,Z,r⟩:=h;erw[DI.py,L2.DV];exact⟨a,Y,e,not_false,Z.2,au.py r (by simpa [plain] using p)⟩
 | .cx W,v,h,p=>by
  erw[DV] at h;obtain⟨a,e,U,Z⟩:=h;erw[DI.py,L2.DV];exact⟨a,_,e,not_false,Z,W,rfl,rfl⟩
 | .aj _,_,_,p=>by simp[plain] at p
 | .ty _,_,_,p=>by simp[plain] at p
 | .bO _,_,_,p=>by simp[plain] at p
 | .exc _ _,_,_,p=>by simp[plain] at p
 | .dq _ _ _,_,_,p=>by simp[plain] at p
theorem au.py:∀{ds:List D} {vs:List V},au K w ds vs->qo ds=ό->L2.au K (λ_=>False) w.H (DI.fQ ds) vs
 | [],_,h,_=>h
 |d::ds,vs,h,p=>by
  erw[au] at h;obtain⟨v,r,e,Z,Y⟩:=h;erw[qo,Å] at p;exact⟨v,r,e,DV.py Z p.1,au.py Y p.2⟩
end
def res (d:D) (s:ae):D:=match d with
 | .aj k=>match s[k]? with
  |some (.lst Z)=>.lst Z
  |_=>d
 |_=>d
theorem DV.res (S:aU K w) (h:DV K w d v) (p:plain (DI.res d w.aJ)=ό):L2.DV K (λ_=>False) w.H (DI.py (DI.res d w.aJ)) v:=by
 cases d with
 |aj k =>
  delta DI.res at p |-;simp only at p |-
  split at p<;>rename_i Z
  ·rename_i V
   obtain⟨a,e1,rfl⟩:=h;obtain⟨Y,X,W⟩:=S.cell k a _ e1 Z;erw[DI.py,L2.DV];exact⟨a,Y,rfl,not_false,X,W.py (by simpa [plain] using p)⟩
  ·simp[plain] at p
 |_=>exact h.py p
def pN:D->Bool
 | .str _=>ό
 |_=>ύ
def Y2 (h:pN d=ό):∃x,d=.str x:=by cases d<;>first|exact⟨_,rfl⟩|cases h
def kl (x y:D):Option Bool:=if (pN x&&pN y)=ό then ϊ (beq x y) else if (lay x&&lay y&&ώ (min (dep x) (dep y)<=100))=ό then ϊ (beq x y) else ϋ
def aX (x y:D) (s:ae):Res D:=match kl (res x s) (res y s) with
 |some b=>ok (.bl b) s
 |none=>ϋ
def ee (x y:D) (s:ae):Res D:=match kl (res x s) (res y s) with
 |some b=>ok (.bl (!b)) s
 |none=>ϋ
def LS (S:aU K w) (hx:DV K w x v) (hy:DV K w y u) (h:kl (res x w.aJ) (res y w.aJ)=ϊ b) :
  (E5 v u=ό/\ώ (v=u)=b)\/∃(d e:PyData),L2.DV K (λ_=>False) w.H d v/\L2.DV K (λ_=>False) w.H e u/\d.canLay0=ό/\e.canLay0=ό/\min d.depth e.depth<=100/\ĩ d e=b:=by
 have str:∀{d:D} {v:V},pN (res d w.aJ)=ό->DV K w d v->∃x,res d w.aJ=.str x/\v=.str x:=λ{d v} Z U=>by
  obtain⟨x,e⟩:=Y2 Z
  cases d with
  |str y=>cases e;exact⟨x,rfl,U⟩
  |aj k =>
   delta res at e;simp only at e
   split at e<;>cases e
  |_=>cases e
 delta kl at h;split at h
 ·rename_i Z
  rw[Å] at Z;obtain⟨a,T,rfl⟩:=str Z.1 hx;obtain⟨c,R,rfl⟩:=str Z.2 hy;rw[T,R] at h;exact .inl ⟨rfl,by rw[<- aeT h];exact CC⟩
 split at h
 ·rename_i W
  right;erw[Å,Ë] at W;obtain⟨⟨Y,X⟩,Q⟩:=W;obtain⟨P,O⟩:=nD _ Y;obtain⟨N,M⟩:=nD _ X;exact⟨_,_,hx.res S (pY _ Y),hy.res S (pY _ X),P,N,by rw[O,M];exact Q,by rw[wz _ _ Y X];exact aeT h⟩
 ·cases h
section
variable {X:Cx} {Ξ:Wd->bg->Prop}
def bQ (hr:bK k X.A):bM X (ĕ .Eq) (rO X.K Ξ aX):=by
 intro W s σ H x y v u Q I V U zzz;obtain⟨w,J,G,rfl,S,T,R,h⟩:=zzz;delta aX at h;split at h
 ·rename_i b P
  rcases LS S T R P with ⟨Z,Y⟩ | ⟨d,e,Z,Y,O,N,M,L⟩
  ·exact aap W s σ w.H x y v u Q I V U ⟨Z,by rw[Y];exact aB S h _ rfl⟩
  exact YQ hr W s σ w.H x y v u Q I V U ⟨d,e,_,Z,Y,O,N,M,by erw[Æ,ï];rw[L];exact aB S h _ rfl⟩
 ·exact h.elim
def kC (hr:bK k X.A):bM X (ĕ .NotEq) (rO X.K Ξ ee):=by
 intro W s σ H x y v u Q I V U zzz;obtain⟨w,J,G,rfl,S,T,R,h⟩:=zzz;delta ee at h;split at h
 ·rename_i b P
  rcases LS S T R P with ⟨Z,Y⟩ | ⟨d,e,Z,Y,O,N,M,L⟩
  ·exact NJ W s σ w.H x y v u Q I V U ⟨Z,by rw[Y];exact aB S h _ rfl⟩
  exact YR hr W s σ w.H x y v u Q I V U ⟨d,e,_,Z,Y,O,N,M,by erw[ò];rw[L];exact aB S h _ rfl⟩
 ·exact h.elim
end
end DI
namespace DI
open PySem L2
def bT (r:Option D) (s:ae):Res D:=match r with
 |some d=>ok d s
 |none=>ϋ
def gw (h:Out K Ξ w (bT r w.aJ) k):∃d,r=ϊ d/\Out K Ξ w (ok d w.aJ) k:=by
 delta bT at h;split at h
 ·exact⟨_,rfl,h⟩
 ·exact h.elim
def oX (xs ys:List D):Bool:=ώ (xs.length+ys.length<=Õ)
def OU:D->D->Option D
 | .int i,.int j=>ϊ (.int (i+j))
 | .tup Z,.tup Y=>if oX Z Y=ό then ϊ (.tup (Z++Y)) else ϋ
 | .lst Z,.lst Y=>if oX Z Y=ό then ϊ (.lst (Z++Y)) else ϋ
 | .str x,.str y=>if ώ (x.length+y.length<=Õ)=ό then ϊ (.str (x++y)) else ϋ
 |_,_=>ϋ
def bh (x y:D) (s:ae):Res D:=bT (OU (res x s) (res y s)) s
def OV:D->D->Option D
 | .int i,.int j=>ϊ (.int (i-j))
 |_,_=>ϋ
def wU (x y:D) (s:ae):Res D:=bT (OV x y) s
def wV (i j:Int):Bool:=(ώ (-(2 ^ 64)<i)&&ώ (i<2 ^ 64))||(ώ (-(2 ^ 64)<j)&&ώ (j<2 ^ 64))
def Fg:D->D->Option D
 | .int i,.int j=>if wV i j=ό then ϊ (.int (i*j)) else ϋ
 | .tup Z,.int k=>if (!Z.isEmpty&&ώ (1<=k)&&ώ (Z.length*k.toNat<=Õ))=ό then ϊ (.tup (Ö k.toNat Z).flatten) else ϋ
 | .lst Z,.int k=>if (ώ (-(2 ^ 63)<=k)&&ώ (k<2 ^ 63)&&ώ (Z.length*k.toNat<=Õ))=ό then ϊ (.lst (Ö k.toNat Z).flatten) else ϋ
 |_,_=>ϋ
def jJ (x y:D) (s:ae):Res D:=bT (Fg x y) s
def Fh:D->D->Option D
 | .int i,.int j=>if ώ (0<j)=ό then ϊ (.int (i % j)) else ϋ
 |_,_=>ϋ
def nI (x y:D) (s:ae):Res D:=bT (Fh x y) s
def Fi:D->D->Option D
 | .int i,.int j=>if (ώ (0<j)&&ώ (j<1073741824))=ό then ϊ (.int (i / j)) else ϋ
 |_,_=>ϋ
def wW (x y:D) (s:ae):Res D:=bT (Fi x y) s
def Fj:D->D->Option D
 | .int i,.int j=>if (ώ (0<=j)&&ώ (j<=1000000)&&ώ (i.natAbs<2 ^ 64))=ό then ϊ (.int (i ^ j.toNat)) else ϋ
 |_,_=>ϋ
def wX (x y:D) (s:ae):Res D:=bT (Fj x y) s
def OW:D->Option D
 | .int i=>ϊ (.int (-i))
 |_=>ϋ
def qD (x:D) (s:ae):Res D:=bT (OW x) s
theorem au.flat (h:au K w ds vs):∀n:Nat,au K w (Ö n ds).flatten (Ö n vs).flatten
 |0=>rfl
 |n+1=>by
  rw[ŏ,ŏ,Ő,Ő];exact au.append h (au.flat h n)
def kS (S:aU K w) (h:DV K w d v) (e:res d w.aJ=.lst ds):∃a xs,v=.ref a/\w.H a=ϊ (.lst xs)/\au K w ds xs:=by
 delta res at e;split at e
 ·rename_i k
  split at e
  ·rename_i V Z
   cases e;obtain⟨a,e1,rfl⟩:=h;obtain⟨xs,Y,X⟩:=S.cell k a _ e1 Z;exact⟨a,xs,rfl,Y,X⟩
  ·cases e
 ·subst e
  erw[DV] at h;obtain⟨a,xs,e,W,r⟩:=h;exact⟨a,xs,e,W.2,r⟩
def fI (h:res d s=e) (hl:∀ds,e≠.lst ds):d=e:=by
 delta res at h;split at h
 ·split at h
  ·exact absurd h.symm (hl _)
  ·exact h
 ·exact h
section
variable {X:Cx} {Ξ:Wd->bg->Prop}
def xA (S:aU K w) (ak:au K w ds vs) (h:Out K Ξ w (ok (D.tup ds) w.aJ) λw' d=>∀v,DV K w' d v->Q v w'.H):oU K w.H vs Q:=λa Z e Y =>
 h (w.same Z) (Fw.same e).le (S.same e) rfl (.ref a) ⟨a,vs,rfl,Y,(Fw.same e).le.all ak⟩
def AE {K:đ} {w:Wd} {ds:List D} {vs:List V} {Q:VK} (S:aU K w) (ak:au K w ds vs) (h:Out K Ξ w (ok (D.lst ds) w.aJ) λw' d=>∀v,DV K w' d v->Q v w'.H):∀p,w.H p=ϋ->Q (.ref p) (upd w.H p (.lst vs)):=λp Y =>
 h (w.grow p (.lst vs)) (Fw.grow Y).le (S.grow Y) rfl (.ref p) ⟨p,vs,rfl,⟨(show ¬ w.Z p from me S Y),cP⟩,(Fw.grow Y).le.all ak⟩
def Y3 {K:đ} {w:Wd} {ds:List D} {vs:List V} {Q:VK} (S:aU K w) (ak:au K w ds vs) (h:Out K Ξ w (ok (D.tup ds) w.aJ) λw' d=>∀v,DV K w' d v->Q v w'.H):∀p,w.H p=ϋ->Q (.ref p) (upd w.H p (.tup vs)):=λp Z =>
 h (w.grow p (.tup vs)) (Fw.grow Z).le (S.grow Z) rfl (.ref p) ⟨p,vs,rfl,bR.of cP,(Fw.grow Z).le.all ak⟩
def cq:bM X (Ň .Add) (rO X.K Ξ bh):=by
 intro T s σ H x y v u Q I R P zzz;obtain⟨w,J,G,rfl,S,Z,Y,h⟩:=zzz;obtain⟨d,e,h⟩:=gw h;delta OU at e;split at e
 ·rename_i i j e1 e2
  rw[fI e1 (by intro _ z;cases z)] at Z;rw[fI e2 (by intro _ z;cases z)] at Y;cases e;cases Z;cases Y;exact Yy T s σ w.H _ _ v u Q I R P ⟨i,j,rfl,rfl,aB S h _ rfl⟩
 ·rename_i M L e1 e2
  rw[fI e1 (by intro _ z;cases z)] at Z;rw[fI e2 (by intro _ z;cases z)] at Y;split at e
  ·rename_i W
   cases e;erw[DV] at Z Y;obtain⟨a,as,rfl,O,V⟩:=Z;obtain⟨b,bs,rfl,N,U⟩:=Y;exact WW T s σ w.H _ _ v u Q I R P ⟨a,b,as,bs,rfl,rfl,O,N,by rw[<- V.length,<- U.length];exact æ W,xA S (V.append U) h⟩
  ·cases e
 ·rename_i M L e1 e2
  split at e
  ·rename_i W
   cases e;obtain⟨a,as,rfl,O,V⟩:=kS S Z e1;obtain⟨b,bs,rfl,N,U⟩:=kS S Y e2;exact YL T s σ w.H _ _ v u Q I R P ⟨a,b,as,bs,rfl,rfl,O,N,by rw[<- V.length,<- U.length];exact æ W,AE S (V.append U) h⟩
  ·cases e
 ·rename_i i j e1 e2
  rw[fI e1 (by intro _ z;cases z)] at Z;rw[fI e2 (by intro _ z;cases z)] at Y;split at e
  ·rename_i W
   cases e;cases Z;cases Y;exact R3 T s σ w.H _ _ v u Q I R P ⟨i,j,rfl,rfl,æ W,aB S h _ rfl⟩
  ·cases e
 ·cases e
def NS:bM X (Ň .Sub) (rO X.K Ξ wU):=by
 intro Z s σ H x y v u Q I Y W zzz;obtain⟨w,T,R,rfl,S,V,U,h⟩:=zzz;obtain⟨d,e,h⟩:=gw h;delta OV at e;split at e
 ·rename_i i j
  cases e;cases V;cases U;exact Yz Z s σ w.H _ _ v u Q I Y W ⟨i,j,rfl,rfl,aB S h _ rfl⟩
 ·cases e
def wY:bM X (Ň .Mult) (rO X.K Ξ jJ):=by
 intro V s σ H x y v u Q I U T zzz;obtain⟨w,M,L,rfl,S,Y,R,h⟩:=zzz;obtain⟨d,e,h⟩:=gw h;delta Fg at e;split at e
 ·rename_i i j
  split at e
  ·rename_i Z
   cases e;cases Y;cases R;refine YA V s σ w.H _ _ v u Q I U T ⟨i,j,rfl,rfl,?_,aB S h _ rfl⟩;delta As;simpa [wV] using Z
  ·cases e
 ·rename_i O k
  split at e
  ·rename_i Z
   cases e;cases R;erw[Å,Ë] at Z;erw[DV] at Y;obtain⟨a,as,rfl,P,W⟩:=Y;have N:=W.length;refine W9 V s σ w.H _ _ v u Q I U T ⟨a,as,k,rfl,rfl,P,?_,Z.1.2,by rw[<- N];exact Z.2,xA S (W.flat _) h⟩;intro z;subst z
   cases O with
   |nil=>simp at Z
   |cons _ _=>cases N
  ·cases e
 ·rename_i O k
  split at e
  ·rename_i Z
   cases e;cases R;erw[Å,Ë] at Z;erw[DV] at Y;obtain⟨a,as,rfl,P,W⟩:=Y;exact YM V s σ w.H _ _ v u Q I U T ⟨a,k,as,rfl,rfl,P.2,Z.1.1,Z.1.2,by rw[<- W.length];exact Z.2,AE S (W.flat _) h⟩
  ·cases e
 ·cases e
def tL:bM X (Ň .Mod) (rO X.K Ξ nI):=by
 intro Z s σ H x y v u Q I Y W zzz;obtain⟨w,R,P,rfl,S,V,U,h⟩:=zzz;obtain⟨d,e,h⟩:=gw h;delta Fh at e;split at e
 ·rename_i i j
  split at e
  ·rename_i T
   cases e;cases V;cases U;exact YB Z s σ w.H _ _ v u Q I Y W ⟨i,j,rfl,rfl,æ T,aB S h _ rfl⟩
  ·cases e
 ·cases e
def NT:bM X (Ň .FloorDiv) (rO X.K Ξ wW):=by
 intro Y s σ H x y v u Q I W V zzz;obtain⟨w,R,P,rfl,S,U,T,h⟩:=zzz;obtain⟨d,e,h⟩:=gw h;delta Fi at e;split at e
 ·rename_i i j
  split at e
  ·rename_i Z
   erw[Å,Ë] at Z;cases e;cases U;cases T;exact WI Y s σ w.H _ _ v u Q I W V ⟨i,j,rfl,rfl,Z,aB S h _ rfl⟩
  ·cases e
 ·cases e
def NU:bM X (Ň .Pow) (rO X.K Ξ wX):=by
 intro Y s σ H x y v u Q I W V zzz;obtain⟨w,R,P,rfl,S,U,T,h⟩:=zzz;obtain⟨d,e,h⟩:=gw h;delta Fj at e;split at e
 ·rename_i i j
  split at e
  ·rename_i Z
   erw[Å,Ë] at Z;cases e;cases U;cases T;exact YC Y s σ w.H _ _ v u Q I W V ⟨i,j,rfl,rfl,⟨Z.1.1,Z.1.2,Z.2⟩,aB S h _ rfl⟩
  ·cases e
 ·cases e
def Ad:x9 X (unaryOp .USub) (rU X.K Ξ qD):=by
 intro Z s σ H x v Q I Y zzz;obtain⟨w,V,rfl,S,W,h⟩:=zzz;obtain⟨d,e,h⟩:=gw h;delta OW at e;split at e
 ·rename_i i
  cases e;cases W;exact MC Z s σ w.H _ v Q I Y ⟨i,rfl,aB S h _ rfl⟩
 ·cases e
def uu (p:Int->Int->Bool):D->D->Option D
 | .int i,.int j=>ϊ (.bl (p i j))
 |_,_=>ϋ
def lB (x y:D) (s:ae):Res D:=bT (uu (λi j=>ώ (i<=j)) x y) s
def AF (x y:D) (s:ae):Res D:=bT (uu (λi j=>ώ (j<i)) x y) s
def xD (x y:D) (s:ae):Res D:=bT (uu (λi j=>ώ (j<=i)) x y) s
def uw:bM X (ĕ .LtE) (rO X.K Ξ lB):=by
 intro Z s σ H x y v u Q I Y W zzz;obtain⟨w,T,R,rfl,S,V,U,h⟩:=zzz;obtain⟨d,e,h⟩:=gw h;delta uu at e;split at e
 ·rename_i i j
  cases e;cases V;cases U;exact aaq Z s σ w.H _ _ v u Q I Y W ⟨i,j,rfl,rfl,aB S h _ rfl⟩
 ·cases e
def acs:bM X (ĕ .Gt) (rO X.K Ξ AF):=by
 intro Z s σ H x y v u Q I Y W zzz;obtain⟨w,T,R,rfl,S,V,U,h⟩:=zzz;obtain⟨d,e,h⟩:=gw h;delta uu at e;split at e
 ·rename_i i j
  cases e;cases V;cases U;exact aar Z s σ w.H _ _ v u Q I Y W ⟨i,j,rfl,rfl,aB S h _ rfl⟩
 ·cases e
def OX:bM X (ĕ .GtE) (rO X.K Ξ xD):=by
 intro Z s σ H x y v u Q I Y W zzz;obtain⟨w,T,R,rfl,S,V,U,h⟩:=zzz;obtain⟨d,e,h⟩:=gw h;delta uu at e;split at e
 ·rename_i i j
  cases e;cases V;cases U;exact aas Z s σ w.H _ _ v u Q I Y W ⟨i,j,rfl,rfl,aB S h _ rfl⟩
 ·cases e
def kK (d i:D) (s:ae):Option D:=match res d s,i with
 | .lst Z,.int i=>cX Z i
 | .tup Z,.int i=>cX Z i
 | .bO Y,.int i=>(cX Y i).map D.int
 | .str x,.int i=>if ώ (x.length<=Õ)=ό then (cX x.cps.toList i).map λc=>.str ⟨#[c]⟩ else ϋ
 |_,_=>ϋ
def ay (x y:D) (s:ae):Res D:=bT (kK x y s) s
theorem au.at (h:au K w ds vs) (e:cX ds i=ϊ d):∃v,cX vs i=ϊ v/\DV K w d v:=by
 delta cX at e |-;rw[h.length] at e
 cases Z:gI vs.length i with
 |none=>rw[Z] at e;cases e
 |some j =>
  rw[Z] at e;exact h.get' j d e
def acu:yc X (rO X.K Ξ ay):=by
 rintro value slice T s σ H x y v u Q I R P ⟨w,A,t,rfl,S,Z,O,h⟩ N;obtain⟨d,e,M⟩:=gw h;clear h;delta kK at e;split at e
 ·rename_i C i e1
  cases O;obtain⟨a,L,rfl,W,J⟩:=kS S Z e1;obtain⟨z,G,F⟩:=J.at e;exact LI value slice T s σ w.H _ _ v u Q I R P ⟨a,L,i,z,rfl,rfl,bY.of W,G,aB S M _ F⟩ N
 ·rename_i C i e1
  cases O;rw[fI e1 (by intro _ z;cases z)] at Z;erw[DV] at Z;obtain⟨a,L,rfl,W,J⟩:=Z;obtain⟨z,G,F⟩:=J.at e;exact YI value slice T s σ w.H _ _ v u Q I R P ⟨a,L,i,z,rfl,rfl,W,G,aB S M _ F⟩ N
 ·rename_i U i e1
  cases O;rw[fI e1 (by intro _ z;cases z)] at Z;erw[DV] at Z;obtain⟨a,rfl,W⟩:=Z
  cases Y:cX U i with
  |none=>rw[Y] at e;cases e
  |some n =>
   rw[Y] at e;cases e;refine LI value slice T s σ w.H _ _ v u Q I R P ⟨a,U.map V.int,i,.int n,rfl,rfl,W.sq,?_,aB S M _ rfl⟩ N;delta cX at Y |-;rw[É]
   cases D:gI U.length i with
   |none=>rw[D] at Y;cases Y
   |some j =>
    rw[D] at Y;show (U.map V.int)[j]?=ϊ (.int n);rw[ê,show U[j]?=ϊ n from Y];rfl
 ·rename_i z i e1
  cases O;rw[fI e1 (by intro _ z;cases z)] at Z;cases Z;split at e
  ·rename_i B
   cases E:cX z.cps.toList i with
   |none=>rw[E] at e;cases e
   |some c =>
    rw[E] at e;cases e;exact Dt value slice T s σ w.H _ _ v u Q I R P ⟨z,i,c,rfl,rfl,æ B,E,aB S M _ rfl⟩ N
  ·cases e
 ·cases e
def bw (ha:PE X a (tE X.K Ξ f)) (hb:PE X b (tE X.K Ξ g)) (hs:LH b:=by intro _ _;rfl):PE X (.Subscript a b pos) (tE X.K Ξ (e2 ay f g)):=cm (aaz acu ha hb hs) zr
def nQ (d:D) (s:ae):Option D:=match res d s with
 | .lst Z=>ϊ (.int Z.length)
 | .tup Z=>ϊ (.int Z.length)
 | .bO Y=>ϊ (.int Y.length)
 | .str x=>if ώ (x.length<=Õ)=ό then ϊ (.int x.length) else ϋ
 |_=>ϋ
def cJ (ds:List D) (s:ae):Res D:=match ds with
 | [d]=>bT (nQ d s) s
 |_=>ϋ
def oy (h:au K w [d] vs):∃v,vs=[v]/\DV K w d v:=by
 obtain⟨v,r,rfl,Z,Y⟩:=h;have e:r=[]:=Y;subst e;exact⟨v,rfl,Z⟩
def wA (h:au K w [d,e] vs):∃v u,vs=[v,u]/\DV K w d v/\DV K w e u:=by
 obtain⟨v,r,rfl,Z,h⟩:=h;obtain⟨u,rfl,Y⟩:=oy h;exact⟨v,u,rfl,Z,Y⟩
def fZ:cU X (.builtin "len") (rC X.K Ξ cJ):=by
 intro U s σ H T R Q I r zzz;obtain⟨w,M,rfl,S,Y,h⟩:=zzz;delta cJ at h;split at h
 ·obtain⟨v,rfl,Z⟩:=oy Y
  obtain⟨d,e,h⟩:=gw h;delta nQ at e;split at e
  ·rename_i P e1
   cases e;obtain⟨a,T,rfl,W,Y⟩:=kS S Z e1;exact Bv U s σ w.H _ R Q I r ⟨a,T,rfl,.inl (bY.of W),by rw[<- Y.length];exact aB S h _ rfl⟩
  ·rename_i P e1
   cases e;rw[fI e1 (by intro _ z;cases z)] at Z;erw[DV] at Z;obtain⟨a,T,rfl,W,Y⟩:=Z;exact Bv U s σ w.H _ R Q I r ⟨a,T,rfl,.inr W,by rw[<- Y.length];exact aB S h _ rfl⟩
  ·rename_i O e1
   cases e;rw[fI e1 (by intro _ z;cases z)] at Z;erw[DV] at Z;obtain⟨a,rfl,W⟩:=Z;exact Bv U s σ w.H _ R Q I r ⟨a,O.map V.int,rfl,.inl W.sq,by rw[É];exact aB S h _ rfl⟩
  ·rename_i z e1
   rw[fI e1 (by intro _ z;cases z)] at Z;cases Z;split at e
   ·rename_i N
    cases e;exact Q4 U s σ w.H _ R Q I r ⟨z,rfl,æ N,aB S h _ rfl⟩
   ·cases e
  ·cases e
 ·exact h.elim
def iy:List D->Option (List Bool)
 | []=>ϊ []
 | .bl b::Z=>(iy Z).map λr=>b::r
 |_::_=>ϋ
theorem wB:∀{ds:List D} {bs:List Bool},iy ds=ϊ bs->ds=bs.map D.bl
 | [],bs,h=>by cases h;rfl
 | .bl b::ds,bs,h=>by
  erw[iy] at h
  cases Z:iy ds with
  |none=>rw[Z] at h;cases h
  |some r=>rw[Z] at h;cases h;rw[wB Z];rfl
 | .ar::_,_,h=>by cases h
 | .int _::_,_,h=>by cases h
 | .str _::_,_,h=>by cases h
 | .tup _::_,_,h=>by cases h
 | .lst _::_,_,h=>by cases h
 | .cx _::_,_,h=>by cases h
 | .aj _::_,_,h=>by cases h
 | .ty _::_,_,h=>by cases h
 | .bO _::_,_,h=>by cases h
 | .exc _ _::_,_,h=>by cases h
 | .dq _ _ _::_,_,h=>by cases h
def Xf:iy (bs.map D.bl)=ϊ bs:=by
 induction bs with
 |nil=>rfl
 |cons b bs ih=>erw[à,iy,ih,abI]
def mz (ds:List D) (s:ae):Res D:=match ds with
 | [d]=>match res d s with
  | .lst Z=>bT ((iy Z).map λbs=>.bl (bs.all id)) s
  |_=>ϋ
 |_=>ϋ
def ux (ds:List D) (s:ae):Res D:=match ds with
 | [d]=>match res d s with
  | .lst Z=>bT ((iy Z).map λbs=>.bl (bs.any id)) s
  |_=>ϋ
 |_=>ϋ
def tM (hc:X.calm=ό):cU X (.builtin "all") (rC X.K Ξ mz):=by
 intro V s σ H U T Q I r zzz;obtain⟨w,O,rfl,S,Z,h⟩:=zzz;delta mz at h;split at h
 ·obtain⟨v,rfl,R⟩:=oy Z
  split at h
  ·rename_i P e1
   obtain⟨d,e,h⟩:=gw h
   cases Y:iy P with
   |none=>rw[Y] at e;cases e
   |some bs =>
    rw[Y] at e;cases e;obtain⟨a,U,rfl,W,Z⟩:=kS S R e1;rw[wB Y] at Z;rw[Z.v7] at W;exact U1 hc V s σ w.H _ T Q I r ⟨a,bs,rfl,bY.of W,aB S h _ rfl⟩
  ·exact h.elim
 ·exact h.elim
def NV (hc:X.calm=ό):cU X (.builtin "any") (rC X.K Ξ ux):=by
 intro V s σ H U T Q I r zzz;obtain⟨w,O,rfl,S,Z,h⟩:=zzz;delta ux at h;split at h
 ·obtain⟨v,rfl,R⟩:=oy Z
  split at h
  ·rename_i P e1
   obtain⟨d,e,h⟩:=gw h
   cases Y:iy P with
   |none=>rw[Y] at e;cases e
   |some bs =>
    rw[Y] at e;cases e;obtain⟨a,U,rfl,W,Z⟩:=kS S R e1;rw[wB Y] at Z;rw[Z.v7] at W;exact U2 hc V s σ w.H _ T Q I r ⟨a,bs,rfl,bY.of W,aB S h _ rfl⟩
  ·exact h.elim
 ·exact h.elim
def wZ (ds:List D) (s:ae):Res D:=match ds with
 | [.int i,.int j]=>ok (.int (if j > i then j else i)) s
 |_=>ϋ
def w9 (ds:List D) (s:ae):Res D:=match ds with
 | [.int i,.int j]=>ok (.int (if j<i then j else i)) s
 |_=>ϋ
def Y4 (hc:X.calm=ό):cU X (.builtin "max") (rC X.K Ξ wZ):=by
 intro Z s σ H T Y Q I r zzz;obtain⟨w,R,rfl,S,W,h⟩:=zzz;delta wZ at h;split at h
 ·rename_i i j
  obtain⟨v,u,rfl,V,U⟩:=wA W;cases V;cases U;exact Tn hc Z s σ w.H _ Y Q I r ⟨i,j,rfl,aB S h _ rfl⟩
 ·exact h.elim
def Y5 (hc:X.calm=ό):cU X (.builtin "min") (rC X.K Ξ w9):=by
 intro Z s σ H T Y Q I r zzz;obtain⟨w,R,rfl,S,W,h⟩:=zzz;delta w9 at h;split at h
 ·rename_i i j
  obtain⟨v,u,rfl,V,U⟩:=wA W;cases V;cases U;exact To hc Z s σ w.H _ Y Q I r ⟨i,j,rfl,aB S h _ rfl⟩
 ·exact h.elim
def mf (ds:List D) (s:ae):Res D:=match ds with
 | [d]=>match res d s with
  | .lst Z=>ok (.tup Z) s
  | .tup Z=>ok (.tup Z) s
  |_=>ϋ
 |_=>ϋ
def zu:cU X (.type "tuple") (rC X.K Ξ mf):=by
 intro U s σ H Y T Q I r zzz;obtain⟨w,O,rfl,S,W,h⟩:=zzz;delta mf at h;split at h
 ·obtain⟨v,rfl,Z⟩:=oy W
  split at h
  ·rename_i R e1
   obtain⟨a,Y,rfl,V,W⟩:=kS S Z e1;exact IQ U s σ w.H _ T Q I r ⟨a,Y,rfl,.inl ⟨bY.of V,Y3 S W h⟩⟩
  ·rename_i R e1
   rw[fI e1 (by intro _ z;cases z)] at Z;have P:=Z;erw[DV] at Z;obtain⟨a,Y,rfl,V,W⟩:=Z;exact IQ U s σ w.H _ T Q I r ⟨a,Y,rfl,.inr ⟨V,aB S h _ P⟩⟩
  ·exact h.elim
 ·exact h.elim
end
def nJ (n:Nat) (x:D) (ds:List D):Bool:=lay x&&cR ds&&ώ (dep x<=n)
def inD (x:D) (ds:List D):Option Bool:=if nJ 100 x ds=ό then ϊ (ds.any λy=>beq y x) else ϋ
def nK (d:D) (s:ae):Option (List D):=match res d s with
 | .lst Z=>ϊ Z
 | .tup Z=>ϊ Z
 |_=>ϋ
def ff (x y:D) (s:ae):Res D:=match nK y s with
 |some Z=>bT ((inD x Z).map D.bl) s
 |none=>ϋ
def fV (x y:D) (s:ae):Res D:=match nK y s with
 |some Z=>bT ((inD x Z).map λb=>D.bl (!b)) s
 |none=>ϋ
def KY (S:aU K w) (h:DV K w d v) (e:nK d w.aJ=ϊ ds):∃a xs,v=.ref a/\(w.H a=ϊ (.lst xs)\/bR K w.H a xs)/\au K w ds xs:=by
 delta nK at e;split at e
 ·rename_i X e1
  cases e;obtain⟨a,xs,rfl,Z,Y⟩:=kS S h e1;exact⟨a,xs,rfl,.inl Z,Y⟩
 ·rename_i X e1
  cases e;rw[fI e1 (by intro _ z;cases z)] at h;erw[DV] at h;obtain⟨a,xs,rfl,Z,Y⟩:=h;exact⟨a,xs,rfl,.inr Z,Y⟩
 ·cases e
section
variable {X:Cx} {Ξ:Wd->bg->Prop} {π:List (Þ×Obj)} {σ:St} {s:Â}
theorem Dx (lx:lay x=ό):∀{ds:List D},cR ds=ό->((fQ ds).any λy=>ĩ y (py x))=ds.any λy=>beq y x
 | [],_=>rfl
 |d::ds,h=>by
  erw[cR,Å] at h;erw[fQ,List.any_cons,wz d x h.1 lx,Dx lx h.2]
def MP (h:inD x ds=ϊ b):lay x=ό/\cR ds=ό/\dep x<=100/\(ds.any λy=>beq y x)=b:=by
 delta inD nJ at h;split at h
 ·rename_i Z
  erw[Å,Ë] at Z;exact⟨Z.1.1,Z.1.2,Z.2,aeT h⟩
 ·cases h
def lC (hr:bK k X.A):bM X (ĕ .In) (rO X.K Ξ ff):=by
 intro π s σ H x y v u Q I J T zzz;obtain⟨w,W,B,rfl,S,G,F,h⟩:=zzz;delta ff at h;split at h
 ·rename_i Z E
  obtain⟨d,e,h⟩:=gw h
  cases V:inD W Z with
  |none=>rw[V] at e;cases e
  |some b =>
   rw[V] at e;cases e;obtain⟨U,Y,z,D⟩:=MP V;obtain⟨R,C⟩:=nD _ U;obtain⟨P,t⟩:=vQ _ Y;obtain⟨bs,O⟩:=(G.py (pY _ U)).reads I J;have N:X.A.units+1+min (aew (fQ Z)) (py W).depth<cLine:=by
    have:=hr.un;rw[C];omega
   obtain⟨a,M,rfl,ha,L⟩:=KY S F E;have fin:EP X π σ Q (.bool ((fQ Z).any λy=>ĩ y (py W))) s:=⟨.bl b,w.H,I,by rw[Dx U Y,D];rfl,aB S h _ rfl⟩
   rcases ha with ha|ha
   ·obtain⟨cs,rc⟩:=(show L2.DV X.K (λ_=>False) w.H (.list (fQ Z)) (.ref a) by erw[L2.DV];exact⟨a,M,rfl,not_false,ha,L.py (pU _ Y)⟩).reads I T
    exact SeqAt.in_list_reads rc O P R N fin
   ·obtain⟨cs,rc⟩:=(show L2.DV X.K (λ_=>False) w.H (.tuple (fQ Z)) (.ref a) by erw[L2.DV];exact⟨a,M,rfl,ha,L.py (pU _ Y)⟩).reads I T
    exact SeqAt.in_tuple_reads rc O P R N fin
 ·exact h.elim
def v8 (hr:bK k X.A):bM X (ĕ .NotIn) (rO X.K Ξ fV):=by
 intro π s σ H x y v u Q I J T zzz;obtain⟨w,W,B,rfl,S,G,F,h⟩:=zzz;delta fV at h;split at h
 ·rename_i Z E
  obtain⟨d,e,h⟩:=gw h
  cases V:inD W Z with
  |none=>rw[V] at e;cases e
  |some b =>
   rw[V] at e;cases e;obtain⟨U,Y,z,D⟩:=MP V;obtain⟨R,C⟩:=nD _ U;obtain⟨P,t⟩:=vQ _ Y;obtain⟨bs,O⟩:=(G.py (pY _ U)).reads I J;have N:X.A.units+1+min (aew (fQ Z)) (py W).depth<cLine:=by
    have:=hr.un;rw[C];omega
   obtain⟨a,M,rfl,ha,L⟩:=KY S F E;have fin:EP X π σ Q (.bool (!(fQ Z).any λy=>ĩ y (py W))) s:=⟨.bl (!b),w.H,I,by rw[Dx U Y,D];rfl,aB S h _ rfl⟩
   rcases ha with ha|ha
   ·obtain⟨cs,rc⟩:=(show L2.DV X.K (λ_=>False) w.H (.list (fQ Z)) (.ref a) by erw[L2.DV];exact⟨a,M,rfl,not_false,ha,L.py (pU _ Y)⟩).reads I T
    exact SeqAt.notIn_list_reads rc O P R N fin
   ·obtain⟨cs,rc⟩:=(show L2.DV X.K (λ_=>False) w.H (.tuple (fQ Z)) (.ref a) by erw[L2.DV];exact⟨a,M,rfl,ha,L.py (pU _ Y)⟩).reads I T
    exact SeqAt.notIn_tuple_reads rc O P R N fin
 ·exact h.elim
def tP (K:đ) (Ξ:Wd->bg->Prop) (f:aeO (Option Int)):TO:=fun σ H Q=>∃w env,w.H=H/\aU K w/\bX K w env σ/\Out K Ξ w (f env w.aJ) λZ i=>Q i Z.H
def fq:aeO (Option Int):=λ_ s=>ok ϋ s
def cK (f:aeO D):aeO (Option Int):=λenv s=>ai (f env s) λd s=>match d with
 | .int i=>ok (ϊ i) s
 |_=>ϋ
variable {e a b:ě} {lo hi:Option ě} {pos p2 p3 p4:Pos} {f g:aeO D}
def MQ (h:PO X lo t) (i:∀ σ H Q,t' σ H Q->t σ H Q):PO X lo t':=λπ s σ H Q I Z=>h π s σ H Q I (i σ H Q Z)
def iH:PO X ϋ (tP X.K Ξ fq):=MQ WQ fun σ H Q Z=>by
 obtain⟨w,env,Y,S,W,h⟩:=Z;subst Y;exact aB S h
def gb (he:PE X e (tE X.K Ξ f)):PO X (ϊ e) (tP X.K Ξ (cK f)):=MQ (WR he) fun σ H Q Y=>by
 obtain⟨w,env,W,S,V,h⟩:=Y;subst W;refine⟨w,env,rfl,S,V,(Out.ai h).mono λR d P U Z v T=>?_⟩
 cases d with
 |int i=>exact⟨i,T,aB U Z⟩
 |_=>exact Z.elim
def cutD (xs:List D) (lo hi:Option Int):List D:=(xs.drop (HT.bp xs.length 0 lo)).take (HT.bp xs.length xs.length hi-HT.bp xs.length 0 lo)
def qp (d:D) (lo hi:Option Int) (s:ae):Res D:=match res d s with
 | .tup Z=>ok (.tup (cutD Z lo hi)) s
 | .lst Z=>ok (.lst (cutD Z lo hi)) s
 |_=>ϋ
def gr (f:aeO D) (l h:aeO (Option Int)):aeO D:=λenv s=>ai (f env s) λd s=>ai (l env s) λlo s=>ai (h env s) λhi s=>qp d lo hi s
def rSl (K:đ) (Ξ:Wd->bg->Prop):V->Option Int->Option Int->Hp->VK->Prop:=λx lo hi H Q=>∃w Z,w.H=H/\aU K w/\DV K w Z x/\Out K Ξ w (qp Z lo hi w.aJ) λY d=>∀v,DV K Y d v->Q v Y.H
def Y6:rg X (rSl X.K Ξ):=by
 intro π s σ H x v U T lo hi sl Q I R P O pu zzz;obtain⟨w,M,rfl,S,Y,h⟩:=zzz;delta qp at h;split at h
 ·rename_i N e1
  rw[fI e1 (by intro _ z;cases z)] at Y;erw[DV] at Y;obtain⟨a,W,rfl,V,Z⟩:=Y;refine WV π s σ w.H _ v U T lo hi sl Q I R P O pu ⟨a,W,rfl,V,xA S ?_ h⟩;delta cutD lp;rw[Z.length];exact(Z.drop _).take _
 ·rename_i N e1
  obtain⟨a,W,rfl,V,Z⟩:=kS S Y e1;refine WT π s σ w.H _ v U T lo hi sl Q I R P O pu ⟨a,W,rfl,bY.of V,AE S ?_ h⟩;delta cutD lp;rw[Z.length];exact(Z.drop _).take _
 ·exact h.elim
def lD (he:PE X e (tE X.K Ξ f)) (hl:PO X lo (tP X.K Ξ fl)) (hu:PO X hi (tP X.K Ξ fh)):PE X (.Subscript e (.Slice lo hi ϋ p2) pos) (tE X.K Ξ (gr f fl fh)) :=
 cm (KP Y6 he hl hu) fun σ H Q V=>by
  obtain⟨w,env,U,S,Z,h⟩:=V;subst U;exact⟨w,env,rfl,S,Z,(Out.ai h).mono λT d Y R P v O=>⟨T,env,rfl,R,Z.le Y,(Out.ai P).mono λN i W M L=>⟨N,env,rfl,M,Z.le (Y.trans W),(Out.ai L).mono λJ j I G F=>⟨J,d,rfl,G,(W.trans I) _ _ O,F⟩⟩⟩⟩
def lF (d x:D) (s:ae):Res D:=match d with
 | .aj k=>match s[k]? with
  |some (.lst Z)=>if ώ (Z.length<Õ)=ό then ok .ar (s.set k (.lst (Z++[x]))) else ϋ
  |_=>ϋ
 |_=>ϋ
def lG (d:D) (s:ae):Bool:=match d with
 | .aj k=>match s[k]? with
  |some (.lst _)=>ό
  |_=>ύ
 |_=>ύ
def mB (f g:aeO D):aeO D:=λenv s=>ai (f env s) λd s=>if lG d s=ό then ai (g env s) λx s=>lF d x s else ϋ
def Xg (S:aU K w) (dv:DV K w d v) (h:lG d w.aJ=ό):∃k a ds xs,d=.aj k/\v=.ref a/\w.ρ[k]?=ϊ a/\w.aJ[k]?=ϊ (.lst ds)/\w.H a=ϊ (.lst xs)/\au K w ds xs:=by
 delta lG at h;split at h
 ·rename_i k
  split at h
  ·rename_i ds Z
   obtain⟨a,e1,rfl⟩:=dv;obtain⟨xs,Y,X⟩:=S.cell k a _ e1 Z;exact⟨k,a,ds,xs,rfl,rfl,e1,Z,Y,X⟩
  ·cases h
 ·cases h
def Y7 (S:aU K w) (dv:DV K w d v) (du:DV K w y u) (h:Out K Ξ w (lF d y w.aJ) q):∃a xs,v=.ref a/\w.H a=ϊ (.lst xs)/\xs.length<Õ/\∃w',w'.H=upd w.H a (.lst (xs++[u]))/\q w' .ar:=by
 delta lF at h;split at h
 ·rename_i k
  split at h
  ·rename_i Z Y
   split at h
   ·rename_i V
    obtain⟨a,e1,rfl⟩:=dv;obtain⟨xs,U,X⟩:=S.cell k a _ e1 Y;have W:(Cell.lst Z)≠.dead:=by intro z;cases z
    have le:=(Fw.put (K:=K) (o:=.lst (xs++[u])) (c:=.lst (Z++[y])) S e1 Y W).le;refine⟨a,xs,rfl,U,by rw[<- X.length];exact æ V,w.put k a (.lst (xs++[u])) (.lst (Z++[y])),rfl,?_⟩;exact h _ le (S.xB e1 Y W ⟨_,cP,le.all (X.append (au.one du))⟩) rfl
   ·exact h.elim
  ·exact h.elim
 ·exact h.elim
def Ae {o:ě} {apos ba:Pos} (ho:PE X o (tE X.K Ξ f)) (ha:PE X a (tE X.K Ξ g))
  (hZ:İ o "append" X.env (ķ o X.env)=ķ o X.env:=by rfl)
  (lq:((ī ba (Í [a] X.env)).all (λx=>!x.1)&&(adq ba (ŗ [] X.env)).all (λx=>x.1.isSome)
   && ώ (([a]:List ě).length+([]:List adf).length+(if ([]:List adf).isEmpty then 0 else 1)<30))=ό:=by rfl)
  (ia:(apos.endLine==ba.line)=ό:=by rfl) (hs:Í [a] X.env=(ύ,ķ a X.env)::Í [] X.env:=by rfl) (iO:(ī ba (Í [] X.env)).any (·.1)=ύ:=by rfl) :
  PE X (.Call (.Attribute o "append" apos) [a] [] ba) (tE X.K Ξ (mB f g)) :=
 cm (wN ſ PySem.F.slot_list_append PySem.F.type_list_append Tr ho (kQ ha ma hs) hZ lq ia hs iO) fun σ H Q T=>by
  obtain⟨w,env,Z,S,W,h⟩:=T;subst Z;refine⟨w,env,rfl,S,W,(Out.ai h).mono λR d P V Y v U=>?_⟩;split at Y
  ·rename_i O
   obtain⟨k,p,t,N,rfl,rfl,e1,e2,M,s⟩:=Xg V U O;refine⟨.inl ⟨rfl,N,bY.of M⟩,R,env,rfl,V,W.le P,(Out.ai Y).mono λr y L J I u G=>?_⟩;obtain⟨E,D,C,B,A,q,Z,z⟩:=Y7 J (L _ _ U) G I;refine⟨E,D,u,C,rfl,B,A,?_⟩;rw[<- Z];exact z _ rfl
  ·exact Y.elim
def mC (d i x:D) (s:ae):Option ae:=match d,i with
 | .aj k,.int n=>match s[k]? with
  |some (.lst Z)=>(gI Z.length n).map λj=>s.set k (.lst (Z.set j x))
  |_=>ϋ
 |_,_=>ϋ
def oY (f o i:aeO D):aeO Fl:=λenv s=>ai (f env s) λx s=>ai (o env s) λd s=>ai (i env s) λn s=>match mC d n x s with
 |some Z=>ok (.nx env) Z
 |none=>ϋ
def Y8 (S:aU K w) (dv:DV K w d v) (dn:DV K w i n) (du:DV K w x u) (h:mC d i x w.aJ=ϊ s'):∃a xs k j,v=.ref a/\n=.int k/\w.H a=ϊ (.lst xs)/\gI xs.length k=ϊ j/\∃w',w'.H=upd w.H a (.lst (xs.set j u))/\w'.aJ=s'/\Le K w w'/\aU K w':=by
 delta mC at h;split at h
 ·rename_i k m
  split at h
  ·rename_i Z Y
   cases X:gI Z.length m with
   |none=>rw[X] at h;cases h
   |some j =>
    rw[X] at h;cases h;obtain⟨a,e1,rfl⟩:=dv;obtain⟨xs,U,W⟩:=S.cell k a _ e1 Y;have V:(Cell.lst Z)≠.dead:=by intro z;cases z
    have le:=(Fw.put (K:=K) (o:=.lst (xs.set j u)) (c:=.lst (Z.set j x)) S e1 Y V).le;exact⟨a,xs,m,j,rfl,dn,U,by rw[<- W.length];exact X,w.put k a (.lst (xs.set j u)) (.lst (Z.set j x)),rfl,rfl,le,S.xB e1 Y V ⟨_,cP,le.all (W.set du j)⟩⟩
  ·cases h
 ·cases h
def Ed (he:PE X e (tE X.K Ξ f)) (ho:PE X o (tE X.K Ξ fo)) (hi:PE X i (tE X.K Ξ fi))
 (ha:∀v,aeM (.Subscript o i oZ) X.env v=(do
   let ov <- ade [v] (ķ o X.env)
   let iv <- ade [v,ov] (ķ i X.env)
   adw oZ
   ade [v,ov,iv] (setItem ov iv v)
   release [v,ov,iv] []):=by intro _;rfl)
 (hs:ac6 [.Subscript o i oZ] e pos.line X.env=pure ύ:=by rfl) (hw:ac7 [.Subscript o i oZ] e X.env=pure ϋ:=by rfl)
 (h1:(Ŏ [.Subscript o i oZ] X.env).map (·.2)=[aeM (.Subscript o i oZ) X.env]:=by rfl):PS X (.Assign [.Subscript o i oZ] e pos) (tS X.K Ξ (oY f fo fi)) :=
 kZ (MB he (Yt ho hi set_list ha) hs hw h1) λt σ H Q=>by
  obtain⟨w,env,W,S,Z,h⟩:=Q;subst W;refine⟨w,env,rfl,S,Z,(Out.ai h).mono λP x V O h1 u N=>?_⟩;refine⟨P,env,rfl,O,Z.le V,(Out.ai h1).mono λM d U L J v I=>?_⟩;refine⟨M,env,rfl,L,Z.le (V.trans U),(Out.ai J).mono λG n T F Y m E=>?_⟩
  cases R:mC d n x G.aJ with
  |none=>rw[R] at Y;exact Y.elim
  |some s =>
   rw[R] at Y;obtain⟨a,D,k,j,e1,e2,C,B,A,W,z,le,y⟩:=Y8 F (T _ _ I) E ((U.trans T) _ _ N) R;refine⟨a,D,k,j,e1,e2,C,B,?_⟩;rw[<- W];exact Y A le y z σ (Z.le (V.trans (U.trans (T.trans le))))
end
def kd (d:D) (s:ae):Option Kn:=match res d s with
 | .ar=>ϊ .ar
 | .bl _=>ϊ .bl
 | .int _=>ϊ .int
 | .str _=>ϊ .str
 | .tup _=>ϊ .tup
 | .lst _=>ϊ .lst
 | .cx _=>ϊ .cx
 |_=>ϋ
def aaO (S:aU K w) (h:DV K w d v) (e:kd d w.aJ=ϊ k):uQ K w.H v k:=by
 delta kd at e
 split at e<;>rename_i e1<;>first | (cases e;done) | (try cases e)
 ·rw[fI e1 (by intro _ z;cases z)] at h;cases h;trivial
 ·rw[fI e1 (by intro _ z;cases z)] at h;cases h;trivial
 ·rw[fI e1 (by intro _ z;cases z)] at h;cases h;trivial
 ·rw[fI e1 (by intro _ z;cases z)] at h;cases h;trivial
 ·rw[fI e1 (by intro _ z;cases z)] at h
  erw[DV] at h;obtain⟨a,Y,rfl,Z,_⟩:=h;exact⟨Y,Z⟩
 ·obtain⟨a,Y,rfl,Z,_⟩:=kS S h e1
  exact⟨Y,bY.of Z⟩
 ·rw[fI e1 (by intro _ z;cases z)] at h
  erw[DV] at h;obtain⟨a,rfl,_,Z⟩:=h;exact⟨_,Z⟩
def NW (T:String):Bool:=T=="int"||T=="bool"||T=="str"||T=="tuple"||T=="list"
def gU (ds:List D) (s:ae):Res D:=match ds with
 | [d,.ty T]=>if NW T=ό then bT ((kd d s).map λk=>.bl (ug k T)) s else ϋ
 |_=>ϋ
section
variable {X:Cx} {Ξ:Wd->bg->Prop} {e a b:ě} {es:List ě} {pos:Pos} {f g:aeO D} {fa:aeO (List D)}
def qE:cU X (.builtin "isinstance") (rC X.K Ξ gU):=by
 intro Z s σ H M Y Q I r zzz;obtain⟨w,L,rfl,S,R,h⟩:=zzz;delta gU at h;split at h
 ·rename_i d T
  obtain⟨v,u,rfl,P,O⟩:=wA R;have N:u=.ty T:=O;subst N;split at h
  ·rename_i U
   obtain⟨J,e,h⟩:=gw h
   cases V:kd d w.aJ with
   |none=>rw[V] at e;cases e
   |some k =>
    rw[V] at e;cases e;have W:=aaO S P V;erw[NW,aeu,beq_iff_eq] at U
    rcases U with (((rfl|rfl)|rfl)|rfl)|rfl
    ·exact Q5 Z s σ w.H _ Y Q I r ⟨v,k,rfl,W,aB S h _ rfl⟩
    ·exact QH Z s σ w.H _ Y Q I r ⟨v,k,rfl,W,aB S h _ rfl⟩
    ·exact Q6 Z s σ w.H _ Y Q I r ⟨v,k,rfl,W,aB S h _ rfl⟩
    ·exact Qv Z s σ w.H _ Y Q I r ⟨v,k,rfl,W,aB S h _ rfl⟩
    ·exact QI Z s σ w.H _ Y Q I r ⟨v,k,rfl,W,aB S h _ rfl⟩
  ·exact h.elim
 ·exact h.elim
def qR (hv:ü x=ϊ (.type T)) (hg:Gl X x) (hm:X.mg x=ϋ) (hn:x≠"__name__":=by decide) (hd:(x==("__debug__":Str))=ύ:=by decide):PE X (.Name x pos) (tE X.K Ξ (eC (.ty T))):=qz (v:=.ty T) (Lz hg hm hv rfl hn hd) λ_=>rfl
def fg (g:∃t,X.mg x=ϊ (.int i t)) (hg:Gl X x) (hd:(x==("__debug__":Str))=ύ:=by decide):PE X (.Name x pos) (tE X.K Ξ (eC (.int i))):=by
 obtain⟨t,e⟩:=g;exact qz (v:=.int i) (CB hg e ⟨t,rfl⟩ hd) λ_=>rfl
def qF:List D->Option (List Int)
 | []=>ϊ []
 | .int i::Z=>(qF Z).map λr=>i::r
 |_::_=>ϋ
theorem KZ:∀{ds:List D} {ns:List Int},qF ds=ϊ ns->ds=ns.map D.int
 | [],ns,h=>by cases h;rfl
 | .int b::ds,ns,h=>by
  erw[qF] at h
  cases Z:qF ds with
  |none=>rw[Z] at h;cases h
  |some r=>rw[Z] at h;cases h;rw[KZ Z];rfl
 | .ar::_,_,h=>by cases h
 | .bl _::_,_,h=>by cases h
 | .str _::_,_,h=>by cases h
 | .tup _::_,_,h=>by cases h
 | .lst _::_,_,h=>by cases h
 | .cx _::_,_,h=>by cases h
 | .aj _::_,_,h=>by cases h
 | .ty _::_,_,h=>by cases h
 | .bO _::_,_,h=>by cases h
 | .exc _ _::_,_,h=>by cases h
 | .dq _ _ _::_,_,h=>by cases h
def TQ:qF (ns.map D.int)=ϊ ns:=by
 induction ns with
 |nil=>rfl
 |cons b bs ih=>erw[à,qF,ih,abI]
def mE (i:Int):List Int->List Int
 | []=>[i]
 |j::r=>if i<j then i::j::r else if i=j then j::r else j::mE i r
def gF:List Int->List Int
 | []=>[]
 |i::r=>mE i (gF r)
theorem Cc:∀{l:List Int},k∈mE i l↔k=i\/k∈l
 | []=>by simp[mE]
 |j::r=>by
  delta mE;split
  ·simp
  ·split
   ·rename_i h;subst h;simp
   ·rw[Û,Cc,Û]
    constructor
    ·rintro (h|h|h)
     ·exact .inr (.inl h)
     ·exact .inl h
     ·exact .inr (.inr h)
    ·rintro (h|h|h)
     ·exact .inr (.inl h)
     ·exact .inl h
     ·exact .inr (.inr h)
theorem Jt:∀{l:List Int},l.Pairwise (· < ·)->(mE i l).Pairwise (· < ·)
 | [],_=>by simp[mE]
 |j::r,h=>by
  obtain⟨Z,Y⟩:=ø.mp h;delta mE;split
  ·rename_i X
   refine ø.mpr ⟨λk hk=>?_,h⟩
   rcases Û.mp hk with rfl|hk
   ·exact X
   ·have:=Z k hk;omega
  ·split
   ·exact h
   ·refine ø.mpr ⟨λk hk=>?_,Jt Y⟩
    rcases Cc.mp hk with rfl|hk
    ·omega
    ·exact Z k hk
theorem vK:∀{l:List Int},k∈gF l↔k∈l
 | []=>by simp[gF]
 |i::r=>by simp[gF,Cc,vK]
theorem Jf:∀(l:List Int),(gF l).Pairwise (· < ·)
 | []=>List.Pairwise.nil
 |i::r=>Jt (Jf r)
theorem IS:∀{l m:List Int},l.Pairwise (· < ·)->m.Pairwise (· < ·)->(∀k,k∈l↔k∈m)->l=m
 | [],[],_,_,_=>rfl
 | [],j::m,_,_,h=>by have:=(h j).mpr ß;cases this
 |i::l,[],_,_,h=>by have:=(h i).mp ß;cases this
 |i::l,j::m,W,V,h=>by
  obtain⟨Y,U⟩:=ø.mp W;obtain⟨X,T⟩:=ø.mp V;have e:i=j:=by
   rcases Û.mp ((h i).mp ß) with e|e
   ·exact e
   ·rcases Û.mp ((h j).mpr ß) with e'|e'
    ·exact e'.symm
    ·have:=X i e;have:=Y j e';omega
  subst e;congr 1;refine IS U T λk=>?_;constructor
  ·intro Z
   rcases Û.mp ((h k).mp (Ï _ Z)) with e|e
   ·subst e;have:=Y k Z;omega
   ·exact e
  ·intro Z
   rcases Û.mp ((h k).mpr (Ï _ Z)) with e|e
   ·subst e;have:=X k Z;omega
   ·exact e
def BR (l:List Int):(gF l).length<=l.length:=by
 induction l with
 |nil=>exact aeS _
 |cons x l ih =>
  have:(gF (x::l)).length<=(gF l).length+1:=by
   show (mE x (gF l)).length<=_;generalize gF l=m
   induction m with
   |nil=>exact aeS _
   |cons y m Z =>
    delta mE;split
    ·simp
    ·split
     ·simp
     ·erw[â];omega
  erw[â];omega
def Vu (ns:List Int):(ns.foldl PyProof.Rows.step_dedup []).length<=(gF ns).length:=sub_len (BC ns [] List.nodup_nil) λk Z=>vK.mpr ((Kk ns k).mp Z)
def sy (d:D) (s:ae):Res D:=match d with
 | .lst Y=>match qF Y with
  |some Z=>if ώ ((gF Z).length<64)=ό then ok (.lst ((gF Z).map D.int)) s else ϋ
  |none=>ϋ
 |_=>ϋ
def Sw {p p2 lH:Pos} (ha:PE X a (tE X.K Ξ f)) (hc:X.calm=ό) (hg:Gl X "sorted") (hm:X.mg "sorted"=ϋ) (hv:ü "sorted"=ϊ (.builtin "sorted")) (Gs:Gl X "set") (Gu:X.mg "set"=ϋ) (hv2:ü "set"=ϊ (.type "set"))
  (he:Í [a] X.env=(ύ,ķ a X.env)::Í [] X.env:=by rfl) (bN:(ī lH (Í [] X.env)).any (·.1)=ύ:=by rfl)
  (A2:Í [.Call (.Name "set" p2) [a] [] lH] X.env=(ύ,ķ (.Call (.Name "set" p2) [a] [] lH) X.env)::Í [] X.env:=by rfl) (acv:(ī pos (Í [] X.env)).any (·.1)=ύ:=by rfl) :
  PE X (.Call (.Name "sorted" p) [.Call (.Name "set" p2) [a] [] lH] [] pos) (tE X.K Ξ (e1 sy f)) :=
 cm (B6 (Q8 hc) hg hm hv (kQ (BP (Sq hc) Gs Gu hv2 (kQ ha ma he) (by decide) (by decide) he bN) ma A2) (by decide) (by decide) A2 acv) fun σ H Q J=>by
  obtain⟨w,env,I,S,G,h⟩:=J;subst I;refine⟨w,env,rfl,S,G,(Out.ai h).mono λU d z F W v P=>?_⟩;delta sy at W;split at W
  ·rename_i y
   split at W
   ·rename_i Y E
    split at W
    ·rename_i T
     have T:=æ T;erw[DV] at P;obtain⟨p,x,rfl,O,N⟩:=P;rw[KZ E] at N;rw[N.KW] at O;have D:=ς (Vu Y) T;refine⟨p,Y,rfl,O.sq,by omega,λq M=>?_⟩;refine⟨q,Y,rfl,cP,D,λl u C B A=>?_⟩;have e:=IS B (Jf Y) λk=>(A k).trans vK.symm;subst e;have R:(U.grow q (.ext (my X.prog X.w q Y))).H l=ϋ:=C;have L:=F.grow (o:=.ext (my X.prog X.w q Y)) M;exact W ((U.grow q (.ext (my X.prog X.w q Y))).grow l (.lst ((gF Y).map V.int))) ((Fw.grow M).le.trans (Fw.grow R).le) (L.grow R) rfl (.ref l) ⟨l,_,rfl,⟨(show ¬ (U.grow q (.ext (my X.prog X.w q Y))).Z l from me L R),cP⟩,au.ints _⟩
    ·exact W.elim
   ·exact W.elim
  ·exact W.elim
def xE (i j:Nat) (fa:aeO (List D)):aeO Fl:=λenv s=>ai (fa env s) λZ s=>match Z with
 | [x,y]=>ok (.nx ((env.set i (ϊ x)).set j (ϊ y))) s
 |_=>ϋ
def Y9 (i j:Nat) {x y:Str} {px py pt:Pos} {kt k2 iY} (hc:X.calm=ό) (hN:X.N.Nodup) (ha:PA X [a,b] (tA X.K Ξ fa)) (hi:X.N[i]?=ϊ x:=by rfl) (hj:X.N[j]?=ϊ y:=by rfl) (fC:i≠j:=by decide)
  (hx:X.env.scope.names.lookup x=ϊ .local:=by rfl) (hy:X.env.scope.names.lookup y=ϊ .local:=by rfl)
  (hw:ac7 [.Tuple [.Name x px,.Name y py] kt pt] (.Tuple [a,b] k2 iY) X.env=pure (ϊ [x,y]):=by rfl)
  (hs:ac6 [.Tuple [.Name x px,.Name y py] kt pt] (.Tuple [a,b] k2 iY) pos.line X.env=pure ύ:=by rfl) :
  PS X (.Assign [.Tuple [.Name x px,.Name y py] kt pt] (.Tuple [a,b] k2 iY) pos) (tS X.K Ξ (xE i j fa)):=kZ (Yv hc hN hi hj fC hx hy ha hw hs) λO σ H W=>by
 obtain⟨w,env,V,S,Y,h⟩:=W;subst V;refine⟨w,env,rfl,S,Y,(Out.ai h).mono λM L U T Z J R=>?_⟩;split at Z
 ·obtain⟨v,u,rfl,Q,P⟩:=wA R
  exact⟨v,u,rfl,aB T Z _ (((Y.le U).set Q i).set P j)⟩
 ·exact Z.elim
end
end DI
namespace L2
open PySem PySem.Spec PyProof.Rows
structure DS (Y:Cx) (D:Þ) (π:List (Þ×Obj)):Prop where
 loc:D≠Y.env.locals
 fs:D∉Y.fs
 new:Y.df.heap.objs.size<=D
 cell:∀x c,Y.env.cells.lookup x=ϊ c->c≠D
 pin:∀p∈Y.pn++π,p.1≠D
structure rp (Y:Cx) (D:Þ) (nt:Nat) (caps:St) (π:List (Þ×Obj)) (o:St) (H:Hp) (s:Â) (acc:List V):Prop where
 inv:Inv Y π (o++caps) H s
 len:o.length=nt
 lst:∃ys,s.heap.PlainList D ys/\Vals acc ys.toList
 free:H D=ϋ
 mO:acc.length<=Õ
abbrev lJ:=St->Hp->List V->(St->List V->Hp->Prop)->Prop
def xF (Y:Cx) (D:Þ) (nt:Nat) (caps:St) (c:Code) (m:Sem PySem.Fin) (ta:lJ):Prop :=
 ∀(X:List (Þ×Obj)) (o:St) (H:Hp) (s:Â) (Z:List V) (Q:St->List V->Hp->Prop),DS Y D X->rp Y D nt caps X o H s Z->ta (o++caps) H Z Q ->
  á (é Y.prog Y.w) Y.A m (λfn S=>fn=.again c/\∃W U T,rp Y D nt caps X W U S T/\Q (W++caps) T U) (λ_ _=>False) s
def CA (J:It) (g:TG) (tf:TT) (ta:lJ) (τ:St) (acc:List V) (H:Hp) (Q:St->List V->Hp->Prop):Prop:=∃W:Nat->Nat->St->List V->Hp->Prop,(∃m,W 0 m τ acc H) /\
 ∀i m τ acc Z,W i m τ acc Z->(J.stop i Z/\Q τ acc Z) \/
  (J.go i Z/\∃N:St->List V->Hp->Prop,(∀ X U T,N X U T->∃S,S < m/\W (i+1) S X U T) /\
   ∀x R,J.uM i Z x R->g x τ R fun Y O=>tf Y O λb P=>if b=ό then ta Y P acc N else N Y acc P)
def NX (te:TE):lJ:=fun Y H Z Q=>Z.length+1<=Õ/\te Y H λv X=>Q Y (Z++[v]) X
def NY (wi:TI) (g:TG) (tf:TT) (ta:lJ):lJ:=fun Y H Z Q=>wi Y H λJ X=>CA J g tf ta Y Z X Q
section
variable {Y:Cx} {D:Þ} {nt:Nat} {caps:St}
def DS.obj (ds:DS Y D π) (B:rp Y D nt caps π o H s acc):∃oD ys nn,s.heap.get? D=ϊ oD/\oD={ cls:=.type "list",data:=.seq ys nn }/\Vals acc ys.toList/\Inv Y (π++[(D,oD)]) (o++caps) H s:=by
 obtain⟨ys,⟨nn,Z⟩,X⟩:=B.lst;refine⟨_,ys,nn,Z,rfl,X,B.inv.qe λp W=>?_⟩
 rcases ó.mp W with z|z
 ·exact B.inv.pin p (Ù _ z)
 ·have e:p=(D,{ cls:=.type "list",data:=.seq ys nn }):=by simpa using z
  subst e;exact⟨Z,B.free,ds.loc,ds.fs,λv z=>by cases z⟩
def K0 (hx:Y.xe=λ_ _=>False) (hE:PE Y el te):xF Y D nt caps c ((do let _ <- call (.builtin "list.append") [.ref D,<- ķ el Y.env]:Sem Unit) >>= λ_=>again c) (NX te):=by
 intro R o H s W Q Z B h;obtain⟨N,h⟩:=h;obtain⟨M,V,nn,u,L,P,I⟩:=Z.obj B;have q:=hE _ s _ H _ I h;rw[hx] at q;refine À (À (aO q λy X K=>?_));obtain⟨v,U,O,J,G⟩:=K;have T:=O.pin (D,M) (Ù _ (Ù _ ∅));have F:X.heap.PlainList D V:=⟨nn,by rw[<- L];exact T.1⟩;have S:V.size<=Õ:=by
  have e:=P.length;erw[ö] at e;omega
 refine À (wpAny_list_append_plain (hsz:=S) F λE C A=>Ã (Ã ⟨rfl,?_⟩));have z:Inv Y R (o++caps) U X:=O.ni
 have x:Inv Y R (o++caps) U { X with heap:=E,toks:=X.toks }:=z.turned (it:=D) (λb o w e=>(A.2 b w).trans e) T.2.1 Z.loc (.inr Z.new) Z.cell Z.pin
 refine⟨o,U,W++[v],⟨x,B.len,⟨V.push y,C,?_⟩,T.2.1,by rw[ä];simpa using N⟩,G⟩;rw[ad3];exact Vals.append P (.cons J .nil)
def JO (hx:Y.xe=λ_ _=>False) (hc:Y.calm=ό)
 (T:Turn Y.prog Y.w Y.K tg J fp it tn) (st0:tn 0 s.heap) (hf:∀b∈fp,gn Y π H b) (n6:D∉fp) (hG:PG Y tg g) (i7:pC g nt) (hF:PF Y tests tf) (hA:xF Y D nt caps (.compLoop e d (.ref it) (.ref D) Y.env) act ta) (ds:DS Y D π) (B:rp Y D nt caps π o H s acc) (hq:(Code.compLoop e d (.ref it) (.ref D) Y.env).quiet=ό)
 (acw:∀(M:Model) (A:í) (Q':Fin->Â->Prop) (E':Ç->Â->Prop) (s':Â),á (é Y.prog Y.w) A (compTurn e d (.ref it) (.ref D) Y.env) Q' (λ_ _=>False) s'->á (é Y.prog Y.w) (A.under (.compLoop e d (.ref it) (.ref D) Y.env)) ((é Y.prog Y.w).den (.compLoop e d (.ref it) (.ref D) Y.env)) Q' E' s')
 (ht:compTurn e d (.ref it) (.ref D) Y.env=(do
   adw p0
   match <- adg (.ref it) with
   |none=>pure (.done .next)
   |some v =>
    œ tg (.ref it) v
    aeM tg Y.env v
    let mut ok:=ό
    for c in tests do
     if ok then ok <- isTrue c Y.env (ķ c Y.env)
    if ok then act else again (.compLoop e d (.ref it) (.ref D) Y.env)))
 (h:CA J g tf ta (o++caps) acc H Q) :
  ż (é Y.prog Y.w) Y.A (.compLoop e d (.ref it) (.ref D) Y.env) (λr s'=>r=.ok .next/\∃o' H' jM,rp Y D nt caps π o' H' s' jM/\Q (o'++caps) jM H') s:=by
 obtain⟨W,⟨m0,w0⟩,turn⟩:=h;have F:∀{H':Hp} {pl:List (Þ×Obj)},(∀b∈fp,H' b=ϋ)->(∀p∈pl,p.1∉fp)->∀b∈fp,gn Y (π++pl) H' b:=λ{H' pl} hn X b Z=>by
  obtain⟨_,f1,rq,f3,f4,f5⟩:=hf b Z;refine⟨hn b Z,f1,rq,f3,f4,λp yo=>?_⟩
  rcases ó.mp yo with z|z
  ·exact f5 p (ÿ _ z)
  ·rcases ó.mp z with z|z
   ·exact f5 p (Ù _ z)
   ·exact λe=>X p z (e ▸ Z)
 refine codeAny_loop hq (λn s'=>∃i acc o H',rp Y D nt caps π o H' s' acc/\tn i s'.heap/\(∀b∈fp,H' b=ϋ)/\W i n (o++caps) acc H') (λn s3 hJ=>?_) m0 ⟨0,acc,o,H,B,st0,λb Z=>(hf b Z).1,w0⟩;obtain⟨i,acc,o3,O,U,pk,pq,w3⟩:=hJ;refine acw (é Y.prog Y.w) _ _ _ _ ?_;rw[ht];obtain⟨N,L,nn,ho,eo,E,yp⟩:=ds.obj U;have C:∀p∈[(D,N)],p.1∉fp:=λp X=>by
  have e:p=(D,N):=by simpa using X
  subst e;exact n6
 have u4:∀{pl:List (Þ×Obj)} {R:St} {H':Hp} {s':Â},Inv Y (π++[(D,N)]++pl) R H' s'->s'.heap.PlainList D L/\H' D=ϋ:=λ{pl R H' s'} I=>by
  have q:=I.pin (D,N) (Ù _ (ÿ _ (Ù _ ∅)));exact⟨⟨nn,by rw[<- eo];exact q.1⟩,q.2.1⟩
 refine À (Ż (À ?_))
 rcases turn i n _ acc O w3 with ⟨stop,q⟩ | ⟨go,N',hN,step⟩
 ·have y:=T.done Y rfl rfl rfl hc i _ s3 _ O (λ_ _=>False) yp (F pq C) pk stop
  refine aO y λr s4 P=>?_;obtain⟨t,I4⟩:=P;subst t;obtain⟨GA,n4⟩:=u4 (pl:=[]) (by simpa using I4);exact Ã ⟨rfl,o3,O,acc,⟨I4.ni,U.len,⟨L,GA,E⟩,n4,U.mO⟩,q⟩
 ·have y:=T.item Y rfl rfl rfl hc i _ s3 _ O (λ_ _=>False) yp (F pq C) pk go
  refine aO y λr s4 P=>?_;obtain⟨u,t,P⟩:=P;subst t;refine À (aO P λ_ s5 h5=>?_);obtain⟨x,m,I5,r5,y5,l,x6⟩:=h5;have x8:=I5.pinned (F x6 C) (T.obj _ _ l);have q5:=hG _ s5 _ m x u _ x8 r5 (i7 x o3 _ m _ U.len (step x m y5));rw[hx] at q5;refine À (aO q5 λ_ s6 h6=>?_);obtain⟨u5,H6,I6,⟨k,yq,AG⟩,q6⟩:=h6;have V:=hF _ s6 u5 H6 _ I6 q6;rw[hx] at V;refine À (aO V λb s7 h7=>?_);obtain⟨j,G,V⟩:=h7;subst AG;obtain⟨A4,n7⟩:=u4 G;have f:Inv Y (π++ox fp s5.heap) (k++caps) j s7:=G.qe λp X=>by
   rcases ó.mp X with z|z
   ·exact G.pin p (Ù _ (ÿ _ (ÿ _ z)))
   ·exact G.pin p (Ù _ (Ù _ z))
  have xG:∀{R:St} {H':Hp} {s':Â},Inv Y (π++ox fp s5.heap) R H' s'->tn (i+1) s'.heap/\∀b∈fp,H' b=ϋ:=λ{R H' s'} I=>by
   refine⟨T.keep _ _ _ l λb Z o e=>(I.pin (b,o) (Ù _ (Ù _ (rY Z e)))).1,λb Z=>?_⟩;obtain⟨o,e,_⟩:=T.obj _ _ l b Z;exact(I.pin (b,o) (Ù _ (Ù _ (rY Z e)))).2.1
  cases b with
  |false =>
   rw[Ú Ä] at V;obtain⟨a,hm,w7⟩:=hN _ _ _ V;obtain⟨t7,f7⟩:=xG f;exact Ã ⟨rfl,a,hm,i+1,acc,k,j,⟨f.ni,yq,⟨L,A4,E⟩,n7,U.mO⟩,t7,f7,w7⟩
  |true =>
   rw[Ñ rfl] at V;have GC:DS Y D (π++ox fp s5.heap):=⟨ds.loc,ds.fs,ds.new,ds.cell,λp X=>by
    rcases ó.mp X with z|z
    ·exact ds.pin p (ÿ _ z)
    ·rcases ó.mp z with z|z
     ·exact ds.pin p (Ù _ z)
     ·exact λe=>n6 (e ▸ (J6 z).1)⟩
   refine aO (hA _ k j s7 acc N' GC ⟨f,yq,⟨L,A4,E⟩,n7,U.mO⟩ V) λfn s8 h8=>?_;obtain⟨efn,o8,H8,acx,S,q8⟩:=h8;subst efn;obtain⟨a,hm,w8⟩:=hN _ _ _ q8;obtain⟨t8,f8⟩:=xG S.inv;exact⟨rfl,a,hm,i+1,acx,o8,H8,⟨S.inv.ni,S.len,S.lst,S.free,S.mO⟩,t8,f8,w8⟩
end
def MR (A:í) (Q':Fin->Â->Prop) (E':Ç->Â->Prop) (s':Â)
 (h:á (é P w) A (compTurn (.ListComp el gens sc ps) d ix av ce) Q' (λ_ _=>False) s'):á (é P w) (A.under (.compLoop (.ListComp el gens sc ps) d ix av ce)) ((é P w).den (.compLoop (.ListComp el gens sc ps) d ix av ce)) Q' E' s':=by
 show á _ A ((compTurn (.ListComp el gens sc ps) d ix av ce).onRaise (λx=>do noteFrame x ce;theTreesLotGoes x)) _ _ s'
 exact wpAny_noted (ė h (λ_ _ q=>q) λ_ _ z=>z.elim)
def Vv (hd:gens[d]?=ϊ ⟨target,iter,ifs,0⟩)
 (h0:ż (é P w) A (.compLoop (.ListComp el gens sc ps) d it acc env) R s)
 (h:á (é P w) A (pyIter it) (λmS s'=>ż (é P w) A (.compLoop (.ListComp el gens sc ps) d mS acc env) R s') (λ_ _=>False) s) :
  ż (é P w) A (.compStart (.ListComp el gens sc ps) d it acc env) R s:=by
 refine aev ?_
 show á _ _ ((compStart (.ListComp el gens sc ps) d it acc env).onRaise (λx=>do noteFrame x env;adw theWindowsPlace)) _ _ s
 refine wpAny_notedAt ?_;have Z:(clausesOf (.ListComp el gens sc ps))[d]?=ϊ ⟨target,iter,ifs,0⟩:=hd;delta compStart;rw[Z];show á _ _ (ask >>= _) _ _ s;refine À (ť (wpAny_ite ?_));split
 ·first
   |exact À (Ã (Ã (ë rfl h0)))
   |exact Ã (ë rfl h0)
 ·refine À (Ŵ ?_)
  show á _ _ (adw iter.pos >>= _) _ _ s;exact À (Ż (À (ė h (λmS s' Y=>Ã (ë rfl Y)) λ_ _ x=>x.elim)))
section
variable {Y:Cx} {D:Þ} {nt:Nat} {caps:St}
def Cd {el tg src:ě} {gens:List Comprehension} {sc:ac5} {ps:Pos} {tests:List ě} {d:Nat} {wi:TI} {g:TG} {tf:TT} {ta:lJ} {act:Þ->Sem PySem.Fin} {c:Code} (hx:Y.xe=λ_ _=>False) (hc:Y.calm=ό) (hd:gens[d]?=ϊ ⟨tg,src,tests,0⟩)
  (hi:PI Y tg src wi) (hG:PG Y tg g) (i7:pC g nt) (hF:PF Y tests tf) (hA:∀it:Þ,xF Y D nt caps (.compLoop (.ListComp el gens sc ps) d (.ref it) (.ref D) Y.env) (act it) ta)
  (ht:∀it:Þ,compTurn (.ListComp el gens sc ps) d (.ref it) (.ref D) Y.env=(do
   adw src.pos
   match <- adg (.ref it) with
   |none=>pure (.done .next)
   |some v =>
    œ tg (.ref it) v
    aeM tg Y.env v
    let mut ok:=ό
    for c in tests do
     if ok then ok <- isTrue c Y.env (ķ c Y.env)
    if ok then act it else again (.compLoop (.ListComp el gens sc ps) d (.ref it) (.ref D) Y.env)))
  (hs:∀x,Ć src Y.env x=pure x) :
  xF Y D nt caps c (do
   let x <- ķ src Y.env
   adw src.pos
   let x <- Ć src Y.env x
   let _ <- runOwn (.compStart (.ListComp el gens sc ps) d (<- ade [x] (pyIter x)) (.ref D) Y.env) Y.env
   again c) (NY wi g tf ta):=by
 intro X o H s Z Q W B h;obtain⟨V,M,nn,a,L,K,I⟩:=W.obj B;have q:=hi _ s _ H _ I h;rw[hx] at q;refine À (aO q λv s1 G=>À (Ż ?_));rw[hs];refine À (Ã (À (ą (aO G λix F E=>?_))));obtain⟨it,U,tn,J,S,e,R,T,P,f2,ca⟩:=E;subst e;have O:=R.pin (D,V) (Ù _ (Ù _ ∅));have C:D∉U:=λz=>(f2 D z).2.2.2.2.2 (D,V) (Ù _ (Ù _ ∅)) rfl;have y:∀b∈U,gn Y X S b:=λb w=>by
  obtain⟨a1,a2,u,t,n,m⟩:=f2 b w;refine⟨a1,a2,u,t,n,λp l=>m p ?_⟩
  rcases ó.mp l with z|z
  ·exact ÿ _ z
  ·exact Ù _ (ÿ _ z)
 have k:rp Y D nt caps X o S F Z:=⟨R.ni,B.len,⟨M,⟨nn,by rw[<- L];exact O.1⟩,K⟩,O.2.1,B.mO⟩;have loop:=JO (e:=.ListComp el gens sc ps) (d:=d) hx hc T P y C hG i7 hF (hA it) W k rfl (λ_ A j i N h=>MR A j i N h) (ht it) ca;refine À (wpAny_runOwn ?_);refine ŋ (Vv hd loop (T.self _ _ _ _ _ P loop)) λr N f=>?_;obtain⟨e,q⟩:=f;subst e;exact Ã ⟨rfl,q⟩
end
def MS (wi:TI) (nt:Nat) (cap:List Nat) (g:TG) (tf:TT) (ta:lJ):TE:=fun σ H Q=>wi σ H λJ X=>CA J g tf ta (Ö nt ϋ++nG cap σ) [] X λ_ Z Y=>∀D,Y D=ϋ->Q (.ref D) (upd Y D (.lst Z))
section
variable {X:Cx}
def K1 {el tg src:ě} {tests:List ě} {rest:List Comprehension} {sc:ac5} {ps:Pos} {N:List Str} {nt:Nat} {cap:List Nat} {wi:TI} {g:TG} {tf:TT} {ta:lJ} {act:Env->Þ->Þ->Sem PySem.Fin} (hc:X.calm=ό) (S:wo X sc N nt cap) (i7:pC g nt) (hi:PI X tg src wi)
  (hY:∀(cl:List (Str×Þ)) (C:Þ) (s:Â) (H:Hp) (ex:List Þ) (pn:List (Þ×Obj)),PG (eV X N sc cl C s H ex pn) tg g/\PF (eV X N sc cl C s H ex pn) tests tf/\∀D caps it,xF (eV X N sc cl C s H ex pn) D nt caps (.compLoop (.ListComp el (⟨tg,src,tests,0⟩::rest) sc ps) 0 (.ref it) (.ref D) (compEnvC sc cl C X.env)) (act (compEnvC sc cl C X.env) D it) ta)
  (ht:∀(it D:Þ) (ce:Env),compTurn (.ListComp el (⟨tg,src,tests,0⟩::rest) sc ps) 0 (.ref it) (.ref D) ce=(do
   adw src.pos
   match <- adg (.ref it) with
   |none=>pure (.done .next)
   |some v =>
    œ tg (.ref it) v
    aeM tg ce v
    let mut ok:=ό
    for c in tests do
     if ok then ok <- isTrue c ce (ķ c ce)
    if ok then act ce D it else again (.compLoop (.ListComp el (⟨tg,src,tests,0⟩::rest) sc ps) 0 (.ref it) (.ref D) ce)))
  (hs:∀x,Ć src X.env x=pure x:=by intro _;rfl):PE X (.ListComp el (⟨tg,src,tests,0⟩::rest) sc ps) (MS wi nt cap g tf ta):=by
 intro π s σ H Q I h;obtain⟨cl,Ee,j⟩:=MI (env:=X.env) (sc:=sc) λn F=>I.ok.has n (S.frees _ F rfl).2;rw[eval_ListComp];refine wpAny_comprehension_free (use:=ϋ) rfl hs Ee S.kind S.names (aO (hi π s σ H _ I h) λxv s1 h1=>aO h1 λix Z h2=>?_);obtain⟨it,R,tn,J,E,e,U,T,i,f2,ca⟩:=h2;subst e;refine û (wpAny_newFunctionEnv S.wq (by intro y hy;simp at hy) (λh3 B L=>?_) S.kind);dsimp only at B L |-;generalize f:Z.heap.objs.size=D at B L |-;generalize a:Z.heap.push { cls:=.type "list",dict:=ϋ,data:=.seq ([]:List Ç).toArray }=G at B L |-;generalize GD:G.objs.size=C at B L |-;have hC:C=D+1:=by rw[<- GD,<- a,Ā,f]
 have rA:D≠C:=by omega
 have P:Z.heap.objs.size<=D:=aeA f;have t:Z.heap.objs.size<=C:=by omega
 have old:∀b o,Z.heap.get? b=ϊ o->h3.get? b=ϊ o:=λb o e=>L.extBut b o (ã (Ê (Ð e) t)) (Á _ (a ▸ Á _ e));have ui:h3.PlainList D #[]:=⟨_,L.extBut _ _ rA (Á _ (a ▸ f ▸ Î _ rfl))⟩;have gJ:∀b∈R,b<Z.heap.objs.size:=λb O=>by
  obtain⟨o,e,_⟩:=T.obj _ _ i b O;exact Ð e
 have IB:=U.block (t':=Z.toks+([]:List (Str×Ç)).length) S j f2 gJ old t ⟨_,B⟩;have GF:D∉cL X.stack:=λz=>by
  rcases Û.mp (U.kY D z) with e|e
  ·exact absurd (Ê U.lt P) (by rw[e];exact ñ _)
  ·exact U.xr P e
 have n6:D∉R:=λz=>absurd (Ê (gJ D z) P) (ñ _);have Dy:∀x c,cl.lookup x=ϊ c->c≠D:=λx c e z=>by
  obtain⟨v,o,ho,_⟩:=U.cell x c ((j x c).mp e).2;exact absurd (Ê (Ð ho) (by rw[z];exact P)) (ñ _)
 have Ef:∀p∈X.pn++π,p.1≠D:=λp hp z=>absurd (Ê (Ð (U.pin p hp).1) (by rw[z];exact P)) (ñ _);have fin:∀(s':Â) (τ:St) (W:Hp) (acc:List V) (M:Array Ç),Inv (eV X N sc cl C Z E R (X.pn++π)) [] τ W s'->s'.heap.PlainList D M->Vals acc M.toList->W D=ϋ->acc.length<=Õ->(∀D,W D=ϋ->Q (.ref D) (upd W D (.lst acc))) ->
   compPost (é X.prog X.w) X.A X.xe ϋ (EP X π σ Q) (.ref D) C (.ok .next) s':=by
  intro s' τ W acc M K pl rv F hz q;obtain⟨m,hm,_⟩:=id K.loc;refine⟨m,hm,λl sb=>?_⟩;have Fm:cN X.prog X.w W l:=K.aI.but K.free sb;obtain⟨n,ho⟩:=pl;have iw:l.get? D=ϊ { cls:=.type "list",data:=.seq M n }:=(sb.2 D rA).trans ho;have new:eQ X.prog X.w (upd W D (.lst acc)) l D (.lst acc):=⟨hz,M.toList,n,rv,by simpa using iw⟩;have u:=(K.base.but t sb).adopt (o:=.lst acc) P F
  refine⟨.ref D,upd W D (.lst acc),U.wL (s':={ s' with heap:=l }) (ch:=R) K.os u (Fm.adopt F new) K.bare (λb O=>?_),rfl,q D F⟩
  obtain⟨_,f1,_,f3,f4,f5⟩:=f2 b O;exact⟨f3,f1,f4,f5⟩
 have n9:∀b∈R,gn (eV X N sc cl C Z E R (X.pn++π)) [] E b:=λb O=>by
  obtain⟨f0,f1,rq,f3,f4,f5⟩:=f2 b O;refine⟨f0,ã (Ê (gJ b O) t),λz=>?_,.inl O,λx c e=>f4 x c ((j x c).mp e).2,λp yo=>?_⟩
  ·rcases Û.mp (U.kY b z) with e|e
   ·exact f1 e
   ·exact rq e
  ·exact f5 p (by simpa using yo)
 obtain⟨GH,GI,hA1⟩:=hY cl C Z E R (X.pn++π);have loop:=JO (Y:=eV X N sc cl C Z E R (X.pn++π)) (D:=D) (nt:=nt) (caps:=nG cap σ) (e:=.ListComp el (⟨tg,src,tests,0⟩::rest) sc ps) (d:=0) (π:=[]) (o:=Ö nt ϋ) (acc:=[]) rfl hc T
  (T.keep _ _ _ i λb _ o e=>old b o e) n9 n6 GH i7 GI (hA1 D _ it) ⟨rA,GF,P,Dy,λp hp=>Ef p (by simpa using hp)⟩ ⟨IB,by simp,⟨#[],ui,.nil⟩,U.aI.fresh P,Ē _⟩ rfl (λ_ A Q' E' s' h=>MR A Q' E' s' h) (ht it D _) ca
 have NZ:=ŋ loop (R':=compPost (é X.prog X.w) X.A X.xe ϋ (EP X π σ Q) (.ref D) C) λr s' hr=>by
  obtain⟨e,o',W,jM,k,q'⟩:=hr;subst e;obtain⟨M,pl,rv⟩:=k.lst;exact fin s' _ W jM M k.inv pl rv k.free k.mO q'
 exact codeAny_compStart_list NZ (T.self _ _ _ _ _ (T.keep _ _ _ i λb _ o e=>old b o e) NZ)
end
end L2
namespace DI
open PySem L2
def ng:ü "isinstance"=ϊ (.builtin "isinstance"):=nofun
def qG:ü "int"=ϊ (.type "int"):=nofun
def Za:ü "bool"=ϊ (.type "bool"):=nofun
def ou:ü "tuple"=ϊ (.type "tuple"):=nofun
def Eg:ü "str"=ϊ (.type "str"):=nofun
def aaP:ü "set"=ϊ (.type "set"):=nofun
def tN:ü "all"=ϊ (.builtin "all"):=nofun
def N0:ü "any"=ϊ (.builtin "any"):=nofun
def gg:ü "len"=ϊ (.builtin "len"):=nofun
def aaQ:ü "max"=ϊ (.builtin "max"):=nofun
def aaR:ü "min"=ϊ (.builtin "min"):=nofun
def K2:ü "sorted"=ϊ (.builtin "sorted"):=nofun
structure Gd (K:đ) (mg:Str->Option Ç) (x:Str) (st:aeg) (ps:List Str) (f:Þ) (fd:Ģ):Prop where
 mg:mg x=ϊ (.ref f)
 fn:pB K x x st f fd
 b:Binds K fd ps []
def iW (g:D->Env->Option Env) (t:aeO Bool) (act:aeO (List D)) (kA:Env):List D->ae->Res (List D)
 | [],s=>ok [] s
 |d::Z,s=>match g d kA with
  |none=>ϋ
  |some env=>ai (ne (t env s)) λb s=>if b=ό then ai (ne (act env s)) λY s=>ai (iW g t act kA Z s) λX s=>ok (Y++X) s
   else iW g t act kA Z s
def emit (f:aeO D):aeO (List D):=λenv s=>ai (f env s) λx s=>ok [x] s
def more (it:aeO (List D)) (g:D->Env->Option Env) (t:aeO Bool) (act:aeO (List D)):aeO (List D):=λenv s=>ai (it env s) λZ s=>iW g t act env Z s
def wC (nt:Nat) (cap:List Nat) (it:aeO (List D)) (g:D->Env->Option Env) (t:aeO Bool) (act:aeO (List D)):aeO D:=λenv s =>
 ai (it env s) λY s=>ai (ne (iW g t act (Ö nt ϋ++iP cap env) Y s)) λZ s=>jg Z (ok (.lst Z) s)
def Sl (g:D->Env->Option Env) (sl:List Nat):Prop:=∀d env Z,g d env=ϊ Z->Z.length=env.length/\∀i,i∉sl->Z[i]?=env[i]?
def v9 (i:Nat):Sl (gN i) [i]:=λd env Z h=>by
 have e:env.set i (ϊ d)=Z:=aeT h;subst e;refine⟨ă ..,λj Y=>?_⟩;rw[õ (λz=>Y (by simp[z]))]
theorem N1:∀(is:List Nat) (ds:List D) (env env':Env),gS (is.map gN) ds env=ϊ env'->env'.length=env.length/\∀i,i∉is->env'[i]?=env[i]?
 | [],[],env,env',h=>by
  have e:env=env':=aeT h;rw[e];exact⟨rfl,λ_ _=>rfl⟩
 | [],_::_,_,_,h=>by cases h
 |_::_,[],_,_,h=>by cases h
 |j::is,d::ds,env,env',h=>by
  have Y:gS (is.map gN) ds (env.set j (ϊ d))=ϊ env':=h;obtain⟨X,W⟩:=N1 is ds _ env' Y;refine⟨by rw[X,ă],λi Z=>?_⟩;rw[W i (λz=>Z (Ï _ z)),õ (λz=>Z (by rw[z];exact ß ..))]
def zD (is:List Nat):Sl (gT (is.map gN)) is:=λd env Z h=>by
 cases d with
 |tup Y=>exact N1 is Y env Z h
 |_=>cases h
def len_same {g:D->Env->Option Env} {sl:List Nat} {d:D} {env env':Env} (hs:Sl g sl) (hg:g d env=ϊ env'):env'.length=env.length:=(hs d env env' hg).1
def iL (sl:List Nat) (env:Env):Prop:=∀i∈sl,∀d,env[i]?≠ϊ (ϊ d)
def bX.back {K:đ} {w:Wd} {env env':Env} {σ:St} {g:D->Env->Option Env} {sl:List Nat} {d:D} (hs:Sl g sl) (hf:iL sl env) (hg:g d env=ϊ env') (hl:env.length=σ.length) (h:bX K w env' σ):bX K w env σ :=
 ⟨hl,λi x e=>by
  by_cases Z:i∈sl
  ·exact absurd e (hf i Z x)
  ·exact h.val i x (by rw[(hs d env env' hg).2 i Z];exact e)⟩
def xa (K:đ) (Pre:Env->Prop) (ta:lJ) (act:aeO (List D)):Prop:=∀(w:Wd) (env:Env) (U:St) (Y:List V) (Z W:List D) (T:ae) (Q:St->List V->Hp->Prop),Pre env->aU K w->bX K w env U->au K w Z Y ->
 act env w.aJ=ϊ (.ok W,T)->Y.length+W.length<=Õ->(∀X S R,Le K w X->aU K X->X.aJ=T->bX K X env S->au K X (Z++W) R->Q S R X.H)->ta U w.H Y Q
def sA {α β:Type} {r:Res α} {k:α->ae->Res β} {b:β} {s':ae} (h:ai r k=ϊ (.ok b,s')):∃a s,r=ϊ (.ok a,s)/\k a s=ϊ (.ok b,s'):=by
 match r,h with
 |some (.ok a,s),h=>exact⟨a,s,rfl,h⟩
def CP {α:Type} {r:Res α} {a:α} {s:ae} (h:ne r=ϊ (.ok a,s)):r=ϊ (.ok a,s):=by
 match r,h with
 |some (.ok b,Z),h=>exact h
def Ju {K:đ} {f:aeO D}:xa K (λ_=>True) (NX (tE K cG f)) (emit f):=by
 intro w env W Z Y J I Q _ S X V h U T;obtain⟨x,H,R,P⟩:=sA h;cases P;refine⟨by simpa using U,w,env,rfl,S,X,?_⟩;rw[R];intro O le N M v L;exact T O W (Z++[v]) le N M (X.le le) (au.append (le.all V) (au.one L))
def Kl {K:đ} {Pre:Env->Prop} {g0:TG} {g:D->Env->Option Env} {nt:Nat} {sl:List Nat} {t:aeO Bool} {act:aeO (List D)} {ta:lJ} {env:Env} {w1:Wd} {J:It} {ds xs accD:List D} {s':ae} {τ:St} {acc:List V} {Q:St->List V->Hp->Prop}
  (T:Tg K g0 g nt) (hs:Sl g sl) (hf:iL sl env) (hp:∀d env',g d env=ϊ env'->Pre env') (hA:xa K Pre ta act) (hJ:pM K w1 J ds) (S1:aU K w1) (eo:bX K w1 env τ) (da:au K w1 accD acc)
  (h:iW g t act env ds w1.aJ=ϊ (.ok xs,s')) (hl:acc.length+xs.length<=Õ) (hQ:∀w' dC vs,Le K w1 w'->aU K w'->w'.aJ=s'->bX K w' env dC->au K w' (accD++xs) vs->Q dC vs w'.H) :
  CA J g0 (tT K cG t) ta τ acc w1.H Q:=by
 refine⟨λi m τ acc r=>m=ds.length-i/\i<=ds.length/\∃w' accD xs,w'.H=r/\Le K w1 w'/\aU K w'/\bX K w' env τ/\au K w' accD acc/\iW g t act env (ds.drop i) w'.aJ=ϊ (.ok xs,s')/\acc.length+xs.length<=Õ /\
   (∀Z dC vs,Le K w' Z->aU K Z->Z.aJ=s'->bX K Z env dC->au K Z (accD++xs) vs->Q dC vs Z.H),
  ⟨ds.length,rfl,Ē _,w1,accD,xs,rfl,Le.refl _,S1,eo,da,h,hl,hQ⟩,?_⟩
 intro i m τ acc r zzz;obtain⟨rfl,hi,w',accD,xs,rfl,P,L,p,O,Y,I,G⟩:=zzz;by_cases F:i<ds.length
 ·right
  obtain⟨i7,hy⟩:=(hJ w' P L i).1 _ (Ø F);rw[ů F] at Y;erw[iW] at Y
  cases X:g ds[i] env with
  |none=>rw[X] at Y;cases Y
  |some S =>
   rw[X] at Y;obtain⟨b,s2,E,N⟩:=sA Y;have E:=CP E;refine⟨i7,fun τ acc o=>∃w' accD xs,w'.H=o/\Le K w1 w'/\aU K w'/\bX K w' env τ/\au K w' accD acc/\iW g t act env (ds.drop (i+1)) w'.aJ=ϊ (.ok xs,s')/\acc.length+xs.length<=Õ /\
    (∀Z dC vs,Le K w' Z->aU K Z->Z.aJ=s'->bX K Z env dC->au K Z (accD++xs) vs->Q dC vs Z.H),fun rk AD o q=>⟨ds.length-(i+1),by omega,rfl,F,q⟩,λx H3 y=>?_⟩
   obtain⟨Z,rfl,U,n,es,dv⟩:=hy x H3 y;refine T.imp _ _ _ _ ⟨Z,env,ds[i],S,rfl,n,p.le U,dv,X,fun l R=>⟨Z,S,rfl,n,R,?_⟩⟩;have k:∀{j:St},j.length=l.length->S.length=j.length:=λe=>by rw[R.len,e]
   have el:env.length=S.length\/True:=.inr trivial;rw[es,E];intro f W c a
   cases b with
   |true =>
    rw[Ñ rfl] at N |-;obtain⟨ys,s3,M,h3⟩:=sA N;have M:=CP M;obtain⟨zs,s4,hz,h4⟩:=sA h3;cases h4;rw[<- a] at M;refine hA f S l acc accD ys s3 _ (hp _ _ X) c (R.le W) ((U.trans W).all O) M (by rw[ä] at I;omega) λw4 τ4 vs l4 S4 e4 PN OY=>?_;have lv:=OY.length;refine⟨w4,accD++ys,zs,rfl,P.trans (U.trans (W.trans l4)),S4,PN.back hs hf X ?_,OY,by rw[e4];exact hz,?_,λC B A z w v u s=>G C B A (U.trans (W.trans (l4.trans z))) w v u (by rw[<- Ĳ];exact s)⟩
    ·rw[<- PN.len]
     exact(len_same hs X).symm
    ·rw[ä] at I lv
     have:=O.length;omega
   |false =>
    rw[Ú Ä] at N |-;exact⟨f,accD,xs,rfl,P.trans (U.trans W),c,(R.le W).back hs hf X (by rw[<- R.len];exact(len_same hs X).symm),(U.trans W).all O,by rw[a];exact N,I,λC B A z w v u s=>G C B A (U.trans (W.trans z)) w v u s⟩
 ·left
  have e:i=ds.length:=by omega
  subst e;rw[List.drop_length] at Y;cases Y;exact⟨(hJ w' P L _).2 (aeS _),G w' τ acc (Le.refl _) L rfl p (by rw[Ħ];exact O)⟩
def BD {K:đ} {Pre Pre':Env->Prop} {g0:TG} {g:D->Env->Option Env} {nt:Nat} {sl:List Nat} {it:aeO (List D)} {t:aeO Bool} {act:aeO (List D)} {ta:lJ} (T:Tg K g0 g nt) (hs:Sl g sl) (hA:xa K Pre ta act)
  (h1:∀env,Pre' env->iL sl env) (h2:∀d env env',Pre' env->g d env=ϊ env'->Pre env'):xa K Pre' (NY (fP K cG it) g0 (tT K cG t) ta) (more it g t act):=by
 intro w env y V Y x v Q X S W U h R P;obtain⟨u,s,O,N⟩:=sA h;refine⟨w,env,rfl,S,W,?_⟩;rw[O];intro r Z M e1 J L;exact Kl T hs (h1 env X) (λd env' I=>h2 d env env' X I) hA L M (W.le Z) (Z.all U) (by rw[e1];exact N) R λH G F E C B A z=>P H G F (Z.trans E) C B A z
def Km (T:Tg K g0 g nt) (hs:Sl g sl) (A6:∀i∈sl,i<nt) (hA:xa K Pre ta act)
 (hp:∀d caps env',g d (Ö nt ϋ++caps)=ϊ env'->Pre env') (σ:St) (H:Hp) (Q:VK) :
  tE K Ξ (wC nt cap it g t act) σ H Q->MS (fP K Ξ it) nt cap g0 (tT K cG t) ta σ H Q:=by
 intro zzz;obtain⟨w,env,rfl,S,U,h⟩:=zzz;refine⟨w,env,rfl,S,U,(Out.ai h).mono λR L I G Y J F=>?_⟩
 cases V:iW g t act (Ö nt ϋ++iP cap env) L R.aJ with
 |none=>rw[V] at Y;exact Y.elim
 |some r =>
  obtain⟨r,E⟩:=r;rw[V] at Y
  cases r with
  |error x=>exact Y.elim
  |ok P =>
   have Y:Out K Ξ R (jg P (ok (D.lst P) E)) (λX d=>∀v,DV K X d v->Q v X.H):=Y;obtain⟨C,Y⟩:=vO Y;have B:=(U.le I).block nt cap (Ö nt ϋ) ∅;refine Kl T hs (λi O d e=>?_) (λd env' A=>hp d _ env' A) hA F G B (accD:=[]) rfl V (by simpa using C) λX s N z M y q u p W=>?_
   ·rw[ç (by simpa using A6 i O),ı,Ñ (A6 i O)] at e
    cases e
   ·exact Y (X.grow p (.lst N)) (z.trans (Fw.grow W).le) (M.grow W) y (.ref p) ⟨p,N,rfl,⟨(show ¬ X.Z p from me M W),cP⟩,(Fw.grow W).le.all u⟩
def iL.of {nt:Nat} {g:D->Env->Option Env} {sl cS:List Nat} (hs:Sl g sl) (hd:∀i∈cS,i<nt/\i∉sl) {d:D} {caps env':Env} (hg:g d (Ö nt ϋ++caps)=ϊ env'):iL cS env':=λi Y x e=>by
 obtain⟨Z,X⟩:=hd i Y;rw[(hs _ _ _ hg).2 i X,ç (by simpa using Z),ı,Ñ Z] at e;cases e
def iL.on (hs:Sl g sl) (hd:∀i∈cS,i∉sl) (hf:iL cS env) (hg:g d env=ϊ env'):iL cS env':=λi Z x e=>by
 rw[(hs _ _ _ hg).2 i (hd i Z)] at e;exact hf i Z x e
section
variable {X:Cx} {Ξ:Wd->bg->Prop} {el tg src kL jj u6 qS:ě} {tests mi wD:List ě} {sc:ac5} {ps pos:Pos} {N:List Str} {nt:Nat} {cap:List Nat} {it ju A8:aeO (List D)} {gd rD GP:D->Env->Option Env} {g0 yr PQ:TG} {sl cS og:List Nat} {ft kI PR:aeO Bool} {f:aeO D}
abbrev Dz (nt:Nat) (cap:List Nat) (it:aeO (List D)) (g:D->Env->Option Env) (t:aeO Bool) (ju:aeO (List D)) (g2:D->Env->Option Env) (t2:aeO Bool) (f:aeO D):aeO D:=wC nt cap it g t (more ju g2 t2 (emit f))
abbrev MT (nt:Nat) (cap:List Nat) (it:aeO (List D)) (g:D->Env->Option Env) (t:aeO Bool) (ju:aeO (List D)) (g2:D->Env->Option Env) (t2:aeO Bool) (A8:aeO (List D)) (g3:D->Env->Option Env) (t3:aeO Bool) (f:aeO D):aeO D:=wC nt cap it g t (more ju g2 t2 (more A8 g3 t3 (emit f)))
def apart (nt:Nat) (sl cS:List Nat):Bool:=cS.all (λi=>ώ (i<nt)&&!sl.contains i)
def sC (h:apart nt sl cS=ό):∀i∈cS,i<nt/\i∉sl:=λi Z=>by
 have:=ô.mp h i Z;erw[Å,Ë,ł,List.contains_eq_mem,decide_eq_false_iff_not] at this;exact this
abbrev OZ (e el:ě) (d:Nat):PySem.Env->Þ->Þ->Sem PySem.Fin:=λce D it=>(do let _ <- call (.builtin "list.append") [.ref D,<- ķ el ce]:Sem Unit) >>= λ_=>again (.compLoop e d (.ref it) (.ref D) ce)
abbrev Fo (e src:ě) (d:Nat):PySem.Env->Þ->Þ->Sem PySem.Fin:=λce D it=>do
 let x <- ķ src ce
 adw src.pos
 let x <- Ć src ce x
 let _ <- runOwn (.compStart e (d+1) (<- ade [x] (pyIter x)) (.ref D) ce) ce
 again (.compLoop e d (.ref it) (.ref D) ce)
def LU (hc:X.calm=ό) (S:wo X sc N nt cap) (T:Tg X.K g0 gd nt) (gZ:Sl gd sl) (T2:Tg X.K yr rD nt) (fj:Sl rD cS) (hi:PI X tg src (fP X.K Ξ it))
  (hY:∀(cl:List (Str×Þ)) (C:Þ) (s:Â) (H:Hp) (ex:List Þ) (pn:List (Þ×Obj)),PG (eV X N sc cl C s H ex pn) tg g0/\PF (eV X N sc cl C s H ex pn) tests (tT X.K cG ft)/\PI (eV X N sc cl C s H ex pn) kL jj (fP X.K cG ju)/\PG (eV X N sc cl C s H ex pn) kL yr/\PF (eV X N sc cl C s H ex pn) mi (tT X.K cG kI)/\PE (eV X N sc cl C s H ex pn) el (tE X.K cG f))
  (uT:apart nt sl cS=ό:=by rfl) (pF:apart nt [] sl=ό:=by rfl)
  (hs:∀x,Ć src X.env x=pure x:=by intro _;rfl) (GQ:∀ce x,Ć jj ce x=pure x:=by intro _ _;rfl):PE X (.ListComp el [⟨tg,src,tests,0⟩,⟨kL,jj,mi,0⟩] sc ps) (tE X.K Ξ (Dz nt cap it gd ft ju rD kI f)) :=
 cm (K1 (act:=Fo (.ListComp el [⟨tg,src,tests,0⟩,⟨kL,jj,mi,0⟩] sc ps) jj 0) hc S T.n5 hi (λcl C s H ex pn=>by
   obtain⟨y1,y2,y3,y4,y5,V⟩:=hY cl C s H ex pn;exact⟨y1,y2,λD Z it=>Cd (d:=1) (act:=λY=>OZ (.ListComp el [⟨tg,src,tests,0⟩,⟨kL,jj,mi,0⟩] sc ps) el 1 _ D Y) rfl hc rfl y3 y4 T2.n5 y5 (λY=>K0 rfl V) (λ_=>rfl) (GQ _)⟩) (λ_ _ _=>rfl) hs)
  (Km (Pre:=iL cS) T gZ (λi hi=>(sC pF i hi).1) (BD T2 fj Ju (λ_ h=>h) (λ_ _ _ _ _=>trivial)) λd Z W U=>iL.of gZ (sC uT) U)
def Xh (hc:X.calm=ό) (S:wo X sc N nt cap) (T:Tg X.K g0 gd nt) (gZ:Sl gd sl) (T2:Tg X.K yr rD nt) (fj:Sl rD cS) (T3:Tg X.K PQ GP nt) (hs3:Sl GP og) (hi:PI X tg src (fP X.K Ξ it))
  (hY:∀(cl:List (Str×Þ)) (C:Þ) (s:Â) (H:Hp) (ex:List Þ) (pn:List (Þ×Obj)),PG (eV X N sc cl C s H ex pn) tg g0/\PF (eV X N sc cl C s H ex pn) tests (tT X.K cG ft)/\PI (eV X N sc cl C s H ex pn) kL jj (fP X.K cG ju)/\PG (eV X N sc cl C s H ex pn) kL yr/\PF (eV X N sc cl C s H ex pn) mi (tT X.K cG kI) /\
   PI (eV X N sc cl C s H ex pn) u6 qS (fP X.K cG A8)/\PG (eV X N sc cl C s H ex pn) u6 PQ/\PF (eV X N sc cl C s H ex pn) wD (tT X.K cG PR)/\PE (eV X N sc cl C s H ex pn) el (tE X.K cG f))
  (uT:apart nt sl cS=ό:=by rfl) (h13:apart nt sl og=ό:=by rfl) (h23:apart nt cS og=ό:=by rfl) (pF:apart nt [] sl=ό:=by rfl)
  (hs:∀x,Ć src X.env x=pure x:=by intro _;rfl) (GQ:∀ce x,Ć jj ce x=pure x:=by intro _ _;rfl) (hf3:∀ce x,Ć qS ce x=pure x:=by intro _ _;rfl):PE X (.ListComp el [⟨tg,src,tests,0⟩,⟨kL,jj,mi,0⟩,⟨u6,qS,wD,0⟩] sc ps) (tE X.K Ξ (MT nt cap it gd ft ju rD kI A8 GP PR f)) :=
 cm (K1 (act:=Fo (.ListComp el [⟨tg,src,tests,0⟩,⟨kL,jj,mi,0⟩,⟨u6,qS,wD,0⟩] sc ps) jj 0) hc S T.n5 hi (λcl C s H ex pn=>by
   obtain⟨y1,y2,y3,y4,y5,U,R,Q,P⟩:=hY cl C s H ex pn;exact⟨y1,y2,λD Z it=>Cd (d:=1) (act:=λV=>Fo (.ListComp el [⟨tg,src,tests,0⟩,⟨kL,jj,mi,0⟩,⟨u6,qS,wD,0⟩] sc ps) qS 1 _ D V) rfl hc rfl y3 y4 T2.n5 y5 (λV=>Cd (d:=2) (act:=λju=>OZ (.ListComp el [⟨tg,src,tests,0⟩,⟨kL,jj,mi,0⟩,⟨u6,qS,wD,0⟩] sc ps) el 2 _ D ju) rfl hc rfl U R T3.n5 Q (λju=>K0 rfl P) (λ_=>rfl) (hf3 _)) (λ_=>rfl) (GQ _)⟩) (λ_ _ _=>rfl) hs)
  (Km (Pre:=λenv=>iL cS env/\iL og env) T gZ (λi hi=>(sC pF i hi).1) (BD T2 fj (BD (Pre':=iL og) T3 hs3 Ju (λ_ h=>h) (λ_ _ _ _ _=>trivial)) (λ_ h=>h.1) (λd env Y h W=>iL.on fj (λi hi=>(sC h23 i hi).2) h.2 W)) λd Z Y W=>⟨iL.of gZ (sC uT) W,iL.of gZ (sC h13) W⟩)
end
end DI
namespace L2
open PySem PySem.Spec PyProof.Rows
end L2
namespace HT
open PySem PyProof.Rows
def Fp (A:í) (s:Â) (y x:Ç) (b:Bool):Prop:=∀(prog:å) (w:ā) (E:Ç->Â->Prop) (Q:Ç->Â->Prop),Q (.bool b) s->á (é prog w) A (richCompare .Lt y x) Q E s
inductive jD (A:í) (s:Â):List Ç->List Ç->Bool->Prop where
 |nn:jD A s [] [] ύ
 |nc (y:Ç) (ys:List Ç):jD A s [] (y::ys) ό
 |cn (x:Ç) (xs:List Ç):jD A s (x::xs) [] ύ
 |eq {x y:Ç} {xs ys:List Ç} {b:Bool}:SeqAt.EqAt A s x y ό->jD A s xs ys b->jD A s (x::xs) (y::ys) b
 |lt {x y:Ç} {xs ys:List Ç} {b:Bool}:SeqAt.EqAt A s x y ύ->Fp A s x y b->jD A s (x::xs) (y::ys) b
section
open PySem.SeqAt
open PySem.AutoSeq1 (wpAny_loadPart')
open PySem.MeetsSeq PySem.MeetsSeq2 PySem.MeetsSeq3
def Sx (l b:Þ) (items oz:Array Ç) (n n2:Nat) (dd pw:Option Þ) (sl cS:Array (Option Ç)) (oh:Bool) :
  Meets (Ř.«tuple.__lt__» ⟨[.ref l,.ref b],[]⟩)
   (λA R s=>s.heap.get? l=ϊ { cls:=.type "tuple",dict:=dd,data:=.seq items n,slots:=sl }/\s.heap.get? b=ϊ { cls:=.type "tuple",dict:=pw,data:=.seq oz n2,slots:=cS } /\
    jD A.in1 s items.toList oz.toList oh/\R (.ok (.ret (.bool oh))) s) :=
 .of_wp λprog w A R s h=>by
  obtain⟨M,g,d,L,os⟩:=s;obtain⟨J,I,H,h⟩:=h;have f2:=AutoSeq1.sub_tuple_tuple
  wp_walk using wpAny_loadPart' J,wpAny_loadPart' I,wpAny_forIn_list _ (λrest b W=>b.1=ϋ/\W=⟨M,g,d,L,os⟩/\∃(X ws:List Ç),rest=X.zip ws /\
   jD A.in1 ⟨M,g,d,L,os⟩ X ws oh/\X.length+oz.size=ws.length+items.size) _
  case turn =>
   rintro ⟨y,x⟩ rest b W ⟨V,rfl,X,ws,Y,U,Z⟩
   cases U with
   |nn=>cases Y
   |nc _ _=>cases Y
   |cn _ _=>cases Y
   |eq T S =>
    rw[Ĺ] at Y
    injection Y with Q K
    injection Q with P O
    subst P O;erw[â] at Z;refine À (T prog w _ _ ?_)
    wp_walk
    exact⟨rfl,rfl,_,_,K,S,by omega⟩
   |lt T S =>
    rw[Ĺ] at Y
    injection Y with Q K
    injection Q with P O
    subst P O;refine À (T prog w _ _ ?_);have N:=S prog w
    wp_walk using N
    exact⟨_,rfl,by simpa using h⟩
  case fin =>
   rintro ⟨F,E⟩ W ⟨V,rfl,X,ws,Y,U,Z⟩;simp only at V;subst V;have G:oh=ώ (items.size<oz.size):=by
    cases U with
    |nn=>erw[Ą] at Z;exact(Ì ⋯).symm
    |nc _ _=>erw[Ą,â] at Z;exact(È ⋯).symm
    |cn _ _=>erw[Ą,â] at Z;exact(Ì ⋯).symm
    |eq _ _=>rw[Ĺ] at Y;cases Y
    |lt _ _=>rw[Ĺ] at Y;cases Y
   rw[G] at h
   wp_walk
   exact⟨_,rfl,by simpa [Builtin.Tuple.tupleCompareSizes] using h⟩
  case h =>
   exact⟨rfl,rfl,items.toList,oz.toList,rfl,H,by erw[ö];omega⟩
end
open PySem.SeqAt PySem.MeetsSeq
section
variable {prog:å} {w:ā} {A:í} {E:Ç->Â->Prop} {s:Â}
def LV (hl:IsTup s.heap l items) (hb:IsTup s.heap b oz) (hA:∀A':í,A'.units<=A.units+4->jD A' s items.toList oz.toList oh)
 (hu:A.units<cLine) (h:Q (.bool oh) s):á (é prog w) A (richCompare .Lt (.ref l) (.ref b)) Q E s:=by
 obtain⟨⟨cls,U,data,sl⟩,Z,Y,n,X⟩:=id hl;obtain⟨⟨P,T,data2,S⟩,W,V,R,hd2⟩:=id hb;simp only at Y X V hd2;subst Y X V hd2;refine richCompare_meets_room (op:=.Lt) ⟨_,Z,rfl⟩ ⟨_,W,rfl⟩ PySem.F.slot_tuple_lt PySem.F.entry_tuple_lt (PySem.F.args_tuple_lt_2 _ _) (Sx l b items oz n R U T sl S oh)
  ⟨Z,W,hA _ ?_,show ś oh≠Value.notImplemented/\Q (.bool oh) s from ⟨(λx=>nomatch x),h⟩⟩ hu
 show A.units+1<=A.units+4;omega
end
end HT
namespace DI
open PySem L2 HT
mutual
noncomputable def jx:D->D->Option Bool
 | .int i,.int j=>ϊ (ώ (i<j))
 | .str x,.str y=>ϊ (ώ (x.cps.toList<y.cps.toList))
 | .tup Z,.tup Y=>jO Z Y
 |_,_=>ϋ
noncomputable def jO:List D->List D->Option Bool
 | [],[]=>ϊ ύ
 | [],_::_=>ϊ ό
 |_::_,[]=>ϊ ύ
 |x::Z,y::Y=>if beq x y=ό then jO Z Y else jx x y
end
section
variable {X:Cx} {Ξ:Wd->bg->Prop} {π:List (Þ×Obj)} {σ:St} {s:Â} {w:Wd}
def aaS (I:Inv X π σ w.H s) (A:í) (lx:lay x=ό) (ly:lay y=ό) (hu:A.units+dep x<cLine) (hx:DV X.K w x v) (hy:DV X.K w y u) (rx:RelV v vx) (ry:RelV u vy):SeqAt.EqAt A s vx vy (beq x y):=by
 obtain⟨as,Z⟩:=(hx.py (pY _ lx)).reads I rx;obtain⟨bs,Y⟩:=(hy.py (pY _ ly)).reads I ry;obtain⟨W,V⟩:=nD _ lx;obtain⟨U,T⟩:=nD _ ly;have:=SeqAt.eqAt_reads _ _ A s vx vy as bs Z Y W U (by rw[V];omega);rw[wz _ _ lx ly] at this;exact this
mutual
theorem N3 (I:Inv X π σ w.H s):∀(A:í) (x y:D) (b:Bool) (v u:V) (vx vy:Ç),jx x y=ϊ b->lay x=ό->lay y=ό->A.units+5*dep x+5<cLine->DV X.K w x v->DV X.K w y u->RelV v vx->RelV u vy->Fp A s vx vy b
 |A,.int i,.int j,b,v,u,vx,vy,h,_,_,_,Z,Y,W,U=>by
  cases h;cases Z;cases Y;obtain⟨t,rfl⟩:=W;obtain⟨T,rfl⟩:=U;intro prog w E Q q;exact KO A s i t j T prog w E Q q
 |A,.str i,.str j,b,v,u,vx,vy,h,_,_,R,Z,Y,W,U=>by
  cases h;cases Z;cases Y;obtain⟨t,rfl⟩:=W;obtain⟨T,rfl⟩:=U;intro prog w E Q q;exact(PyProof.Rows.lt_str q:á (é prog w) A (ĕ .Lt (.str i t) (.str j T)) Q E s)
 |A,.tup P,.tup O,b,v,u,vx,vy,h,N,M,R,Z,Y,W,U=>by
  erw[jx] at h;erw[DV] at Z Y;obtain⟨a,as,rfl,L,J⟩:=Z;obtain⟨c,cs,rfl,G,S⟩:=Y;cases W;cases U;obtain⟨its,F,C,_⟩:=I.tuple L;obtain⟨B,z,r,_⟩:=I.tuple G;intro prog n E Q q;erw[dep] at R;exact LV C r (λp o=>by
   have:=MU I p P O b as cs its B h (by simpa [lay] using N) (by simpa [lay] using M) ⋯ J S F z;simpa using this) ⋯ q
 |_,.ar,_,_,_,_,_,_,h,_,_,_,_,_,_,_=>by cases h
 |_,.bl _,_,_,_,_,_,_,h,_,_,_,_,_,_,_=>by cases h
 |_,.lst _,_,_,_,_,_,_,h,_,_,_,_,_,_,_=>by cases h
 |_,.cx _,_,_,_,_,_,_,h,_,_,_,_,_,_,_=>by cases h
 |_,.aj _,_,_,_,_,_,_,h,_,_,_,_,_,_,_=>by cases h
 |_,.ty _,_,_,_,_,_,_,h,_,_,_,_,_,_,_=>by cases h
 |_,.bO _,_,_,_,_,_,_,h,_,_,_,_,_,_,_=>by cases h
 |_,.exc _ _,_,_,_,_,_,_,h,_,_,_,_,_,_,_=>by cases h
 |_,.dq _ _ _,_,_,_,_,_,_,h,_,_,_,_,_,_,_=>by cases h
 |_,.int _,.ar,_,_,_,_,_,h,_,_,_,_,_,_,_=>by cases h
 |_,.int _,.bl _,_,_,_,_,_,h,_,_,_,_,_,_,_=>by cases h
 |_,.int _,.str _,_,_,_,_,_,h,_,_,_,_,_,_,_=>by cases h
 |_,.int _,.tup _,_,_,_,_,_,h,_,_,_,_,_,_,_=>by cases h
 |_,.int _,.lst _,_,_,_,_,_,h,_,_,_,_,_,_,_=>by cases h
 |_,.int _,.cx _,_,_,_,_,_,h,_,_,_,_,_,_,_=>by cases h
 |_,.int _,.aj _,_,_,_,_,_,h,_,_,_,_,_,_,_=>by cases h
 |_,.int _,.ty _,_,_,_,_,_,h,_,_,_,_,_,_,_=>by cases h
 |_,.int _,.bO _,_,_,_,_,_,h,_,_,_,_,_,_,_=>by cases h
 |_,.int _,.exc _ _,_,_,_,_,_,h,_,_,_,_,_,_,_=>by cases h
 |_,.int _,.dq _ _ _,_,_,_,_,_,h,_,_,_,_,_,_,_=>by cases h
 |_,.str _,.ar,_,_,_,_,_,h,_,_,_,_,_,_,_=>by cases h
 |_,.str _,.bl _,_,_,_,_,_,h,_,_,_,_,_,_,_=>by cases h
 |_,.str _,.int _,_,_,_,_,_,h,_,_,_,_,_,_,_=>by cases h
 |_,.str _,.tup _,_,_,_,_,_,h,_,_,_,_,_,_,_=>by cases h
 |_,.str _,.lst _,_,_,_,_,_,h,_,_,_,_,_,_,_=>by cases h
 |_,.str _,.cx _,_,_,_,_,_,h,_,_,_,_,_,_,_=>by cases h
 |_,.str _,.aj _,_,_,_,_,_,h,_,_,_,_,_,_,_=>by cases h
 |_,.str _,.ty _,_,_,_,_,_,h,_,_,_,_,_,_,_=>by cases h
 |_,.str _,.bO _,_,_,_,_,_,h,_,_,_,_,_,_,_=>by cases h
 |_,.str _,.exc _ _,_,_,_,_,_,h,_,_,_,_,_,_,_=>by cases h
 |_,.str _,.dq _ _ _,_,_,_,_,_,h,_,_,_,_,_,_,_=>by cases h
 |_,.tup _,.ar,_,_,_,_,_,h,_,_,_,_,_,_,_=>by cases h
 |_,.tup _,.bl _,_,_,_,_,_,h,_,_,_,_,_,_,_=>by cases h
 |_,.tup _,.int _,_,_,_,_,_,h,_,_,_,_,_,_,_=>by cases h
 |_,.tup _,.str _,_,_,_,_,_,h,_,_,_,_,_,_,_=>by cases h
 |_,.tup _,.lst _,_,_,_,_,_,h,_,_,_,_,_,_,_=>by cases h
 |_,.tup _,.cx _,_,_,_,_,_,h,_,_,_,_,_,_,_=>by cases h
 |_,.tup _,.aj _,_,_,_,_,_,h,_,_,_,_,_,_,_=>by cases h
 |_,.tup _,.ty _,_,_,_,_,_,h,_,_,_,_,_,_,_=>by cases h
 |_,.tup _,.bO _,_,_,_,_,_,h,_,_,_,_,_,_,_=>by cases h
 |_,.tup _,.exc _ _,_,_,_,_,_,h,_,_,_,_,_,_,_=>by cases h
 |_,.tup _,.dq _ _ _,_,_,_,_,_,h,_,_,_,_,_,_,_=>by cases h
theorem MU (I:Inv X π σ w.H s):∀(A:í) (xs ys:List D) (b:Bool) (vs us:List V) (ps qs:List Ç),jO xs ys=ϊ b->cR xs=ό->cR ys=ό->A.units+5*fz xs+5<cLine->au X.K w xs vs->au X.K w ys us->Vals vs ps->Vals us qs->jD A s ps qs b
 |A,[],[],b,vs,us,ps,qs,h,_,_,_,W,U,Z,Y=>by
  cases h;cases W;cases U;cases Z;cases Y;exact .nn
 |A,[],y::ys,b,vs,us,ps,qs,h,_,_,_,W,U,Z,Y=>by
  cases h;cases W;cases Z;obtain⟨u,r,rfl,_,_⟩:=U;cases Y;exact .nc _ _
 |A,x::xs,[],b,vs,us,ps,qs,h,_,_,_,W,U,Z,Y=>by
  cases h;cases U;cases Y;obtain⟨u,r,rfl,_,_⟩:=W;cases Z;exact .cn _ _
 |A,x::xs,y::ys,b,vs,us,ps,qs,h,T,S,J,W,U,Z,Y=>by
  obtain⟨v,r,rfl,M,G⟩:=W;obtain⟨u,F,rfl,L,P⟩:=U;erw[cR,Å] at T S;erw[fz] at J;have E:=Nat.le_max_left (dep x) (fz xs);have C:=Nat.le_max_right (dep x) (fz xs)
  cases Z with
  |cons Z O =>
   cases Y with
   |cons Y N =>
    have R:=aaS I A T.1 S.1 ⋯ M L Z Y;erw[jO] at h;split at h
    ·rename_i Q
     rw[Q] at R;exact .eq R (MU I A xs ys b _ _ _ _ h T.2 S.2 ⋯ G P O N)
    ·rename_i Q
     rw[ads] at Q;rw[Q] at R;exact .lt R (N3 I A x y b _ _ _ _ h T.1 S.1 ⋯ M L Z Y)
end
def kD (x y:D) (s:ae):Res D:=if (lay x&&lay y&&ώ (dep x<=30))=ό then bT ((jx x y).map D.bl) s else ϋ
def xH (hr:bK k X.A):bM X (ĕ .Lt) (rO X.K Ξ kD):=by
 intro O s σ H x y v u Q I U T zzz;obtain⟨w,W,V,rfl,S,R,P,h⟩:=zzz;delta kD at h;split at h
 ·rename_i Z
  erw[Å,Ë] at Z;obtain⟨d,e,h⟩:=gw h
  cases Y:jx W V with
  |none=>rw[Y] at e;cases e
  |some b =>
   rw[Y] at e;cases e;exact N3 I X.A W V b x y v u Y Z.1.1 Z.1.2 (by have:=hr.un;have:=Z.2;have:cLine=9900:=rfl;omega) R P U T _ _ _ _ ⟨.bl b,w.H,I,rfl,aB S h _ rfl⟩
 ·exact h.elim
end
end DI
namespace DI
open PySem L2
def vH:List D->ae->Res D:=aD 2 2 (aq (aM (aW (e2 kD (aa 1) (eB cJ (af (aa 0) ah)))) (aA (e2 ay (aa 0) (aa 1))) bH) (aA (eC (.int 0))))
def pV:List D->ae->Res D:=aD 1 1 (aA (eB mz (af (cM 2 [] (uq (af (aa 0) (af (gr (aa 0) (cK (eC (.int 1))) fq) ah))) (gT [gN 0,gN 1]) cT (e2 kD (aa 0) (aa 1))) ah)))
def BE:List D->ae->Res D:=aD 1 1 (aA (cO (eB gU (af (aa 0) (af (eC (.ty "int")) ah))) (cO (uj (eB gU (af (aa 0) (af (eC (.ty "bool")) ah)))) (e2 xD (aa 0) (eC (.int 0))))))
def rZ:List D->ae->Res D:=aD 2 2 (aA (cO (aG BE (af (aa 0) ah)) (e2 kD (aa 0) (aa 1))))
def sr:List D->ae->Res D:=aD 1 1 (aA (aG rZ (af (aa 0) (af (eC (.int (8))) ah))))
def vD:List D->ae->Res D:=aD 1 1 (aA (cO (eB gU (af (aa 0) (af (eC (.ty "tuple")) ah))) (cO (eB mz (af (cM 1 [] (cI (aa 0)) (gN 0) cT (aG sr (af (aa 0) ah))) ah)) (aG pV (af (aa 0) ah)))))
end DI
namespace ST
open PySem PySem.W PyProof.Rows
structure Ord (α:Type) where
 lt:α->α->Bool
 yt:∀a,lt a a=ύ
 tr:∀a b c,lt a b=ό->lt b c=ό->lt a c=ό
 yu:∀a b,lt a b=ύ->lt b a=ύ->a=b
section
variable {α:Type} (O:Ord α)
def Ord.le (a b:α):Prop:=O.lt b a=ύ
variable {O}
def Ord.le_refl (a:α):O.le a a:=O.yt a
def Ord.le_of_lt (h:O.lt a b=ό):O.le a b:=by
 delta Ord.le
 cases Z:O.lt b a with
 |false=>rfl
 |true=>have:=O.tr _ _ _ h Z;rw[O.yt] at this;cases this
def Ord.tO (h:O.le a b) (g:O.le b c):O.le a c:=by
 delta Ord.le at *
 cases Z:O.lt c a with
 |false=>rfl
 |true =>
  cases Y:O.lt a b with
  |true=>have:=O.tr _ _ _ Z Y;rw[g] at this;cases this
  |false =>
   have e:=O.yu a b Y h;subst e;rw[g] at Z;cases Z
def Ord.N4 (h:O.le a b) (g:O.le b a):a=b:=O.yu _ _ g h
end
def ok {β:Type} (c:Nat->Nat->Bool) (n:Nat):KasT β->(β->Prop)->Prop
 | .ret a,Q=>Q a
 | .ask i j k,Q=>i<n/\j<n/\ok c n (k (c i j)) Q
theorem kT {β:Type} {c:Nat->Nat->Bool} {n:Nat} {Q R:β->Prop}:∀{t:KasT β},ok c n t Q->(∀a,Q a->R a)->ok c n t R
 | .ret a,h,i=>i a h
 | .ask _ _ k,h,i=>⟨h.1,h.2.1,kT (t:=k _) h.2.2 i⟩
theorem sM {β γ:Type} {c:Nat->Nat->Bool} {n:Nat} {f:β->KasT γ} {Q:γ->Prop}:∀{t:KasT β},ok c n t (λa=>ok c n (f a) Q)->ok c n (t.bind f) Q
 | .ret _,h=>h
 | .ask _ _ k,h=>⟨h.1,h.2.1,sM (t:=k _) h.2.2⟩
theorem N5 {β:Type} {c:Nat->Nat->Bool} {n:Nat} {cmp:Nat->Nat->(Bool->Â->Prop)->Â->Prop} (hc:∀i j C,i<n->j<n->C (c i j) s->cmp i j C s) {Q:β->Â->Prop}:∀{t:KasT β},ok c n t (λa=>Q a s)->t.kasWp cmp Q s
 | .ret _,h=>h
 | .ask _ _ k,h=>hc _ _ _ h.1 h.2.1 (N5 hc (t:=k _) h.2.2)
section
variable {α:Type} {O:Ord α} {x:Nat->α} {n:Nat}
def ky (x:Nat->α) (p:Array Nat) (i:Nat):α:=x (p.getD i 0)
def Pm (n:Nat) (p:Array Nat):Prop:=p.size=n/\p.toList.Perm (è n)
def Up (O:Ord α) (f:Nat->α) (k:Nat):Prop:=∀i j,i<j->j<k->O.le (f i) (f j)
def Dn (O:Ord α) (f:Nat->α) (k:Nat):Prop:=∀i j,i<j->j<k->O.le (f j) (f i)
def Up.more (h:Up O f k) (hk:1<=k) (h1:O.le (f (k-1)) (f k)):Up O f (k+1):=λi j Z X=>by
 by_cases e:j=k
 ·subst e
  by_cases Y:i=j-1
  ·subst Y;exact h1
  ·exact Ord.tO (h i (j-1) ⋯ ⋯) h1
 ·exact h i j Z ⋯
def Dn.more (h:Dn O f k) (hk:1<=k) (h1:O.le (f k) (f (k-1))):Dn O f (k+1):=λi j Z X=>by
 by_cases e:j=k
 ·subst e
  by_cases Y:i=j-1
  ·subst Y;exact h1
  ·exact Ord.tO h1 (h i (j-1) ⋯ ⋯)
 ·exact h i j Z ⋯
def Pm.lt (h:Pm n p) (hi:i<n):p.getD i 0<n:=by
 have Z:i<p.size:=by rw[h.1];exact hi
 have:p[i]∈p.toList:=by simp
 have e:p.getD i 0=p[i]:=by simp[aeH,Z]
 rw[e];exact ċ.mp (h.2.mem_iff.mp this)
def Pm.rev (h:Pm n p) (i j:Nat):Pm n (kas_rev p i j):=⟨by rw[kas_rev_size];exact h.1,(Array.perm_iff_toList_perm.mp (mirror_perm p i j _)).trans h.2⟩
def Pm.bub (h:Pm n p) (i j:Nat):Pm n (bubble p i j):=⟨by rw[bubble_size];exact h.1,(Array.perm_iff_toList_perm.mp (bubble_perm p i j)).trans h.2⟩
def wa {p q:Array Nat} {i j:Nat} (h:p[i]?=q[j]?):p.getD i 0=q.getD j 0:=by
 rw[Array.getD_eq_getD_getElem?,Array.getD_eq_getD_getElem?,h]
def DA {p:Array Nat} {i j:Nat} (hj:j<=p.size) (k:Nat):ky x (kas_rev p i j) k=if i<=k/\k<j then ky x p (i+j-1-k) else ky x p k:=by
 have e:=getElem?_mirror_all (i:=i) hj k;delta ky kas_rev
 split<;>rename_i h
 ·rw[Ñ h] at e;rw[wa e]
 ·rw[Ú h] at e;rw[wa e]
def MV {p:Array Nat} {k d:Nat} (hk:k<p.size) (hd:d<=k) (i:Nat):ky x (bubble p k d) i=if i=k-d then ky x p k else if k-d<i/\i<=k then ky x p (i-1) else ky x p i:=by
 have e:=getElem?_bubble hk d hd i;by_cases h:i=k-d
 ·rw[Ñ h] at e |-;exact Ń x (wa e)
 ·rw[Ú h] at e |-
  by_cases Z:k-d<i/\i<=k
  ·rw[Ñ Z] at e |-;exact Ń x (wa e)
  ·rw[Ú Z] at e |-;exact Ń x (wa e)
def LW (hj:j<=p.size) (he:∀k,i<=k->k<j->ky x p k=ky x p (j-1)):ky x (kas_rev p i j)=ky x p:=funext λk=>by
 rw[DA hj];split
 ·rw[he _ ⋯ ⋯,he k ⋯ ⋯]
 ·rfl
abbrev asks (O:Ord α) (x:Nat->α) (i j:Nat):Bool:=O.lt (x i) (x j)
theorem DB {p:Array Nat} (hp:Pm n p):∀(f m:Nat),1<=m->m+f<=n->Up O (ky x p) m->ok (asks O x) n (kas_asc p f m) λr=>m<=r/\r<=m+f/\Up O (ky x p) r/\(r<m+f->O.lt (ky x p r) (ky x p (r-1))=ό)
 |0,m,Y,V,Z=>⟨aeS _,aeS _,Z,λz=>absurd z (ñ _)⟩
 |f+1,m,Y,V,Z=>by
  refine⟨hp.lt ⋯,hp.lt ⋯,?_⟩
  show ok _ _ (if O.lt (ky x p m) (ky x p (m-1))=ό then _ else _) _
  cases X:O.lt (ky x p m) (ky x p (m-1)) with
  |true =>
   rw[Ñ rfl];exact⟨aeS _,by omega,Z,λ_=>X⟩
  |false =>
   rw[Ú Ä];refine kT (DB hp f (m+1) ⋯ ⋯ (Z.more Y X)) λr W=>⟨by omega,by omega,W.2.2.1,λz=>W.2.2.2 ⋯⟩
structure DS (O:Ord α) (x:Nat->α) (n:Nat) (p:Array Nat) (m q:Nat):Prop where
 pm:Pm n p
 q1:q+1<=m
 mn:m<=n
 dn:Dn O (ky x p) m
 bl:∀k,m-(q+1)<=k->k<m->ky x p k=ky x p (m-1)
def DS.turn (D:DS O x n p m q):Pm n (kas_rev p (m-(q+1)) m)/\ky x (kas_rev p (m-(q+1)) m)=ky x p :=
 ⟨D.pm.rev _ _,LW (by rw[D.pm.1];exact D.mn) D.bl⟩
theorem zv:∀(f:Nat) (p:Array Nat) (m q:Nat),m+f<=n->DS O x n p m q->ok (asks O x) n (kas_desc f p m q) λr=>m<=r.2.1/\DS O x n r.1 r.2.1 r.2.2
 |0,p,m,q,_,D=>⟨aeS _,D⟩
 |f+1,p,m,q,P,D=>by
  have q1:=D.q1;refine⟨D.pm.lt ⋯,D.pm.lt ⋯,?_⟩
  show ok _ _ (if O.lt (ky x p m) (ky x p (m-1))=ό then _ else _) _
  cases X:O.lt (ky x p m) (ky x p (m-1)) with
  |true =>
   rw[Ñ rfl];have one:∀Y,Pm n Y->ky x Y=ky x p->DS O x n Y (m+1) 0:=λY V U=>⟨V,by omega,by omega,by rw[U];exact D.dn.more ⋯ (Ord.le_of_lt X),λk T S=>by rw[show k=m+1-1 by omega]⟩;by_cases W:q > 0
   ·rw[Ñ W]
    exact kT (zv f _ (m+1) 0 ⋯ (one _ D.turn.1 D.turn.2)) λr Z=>⟨by omega,Z.2⟩
   ·rw[Ú W]
    exact kT (zv f _ (m+1) 0 ⋯ (one _ D.pm rfl)) λr Z=>⟨by omega,Z.2⟩
  |false =>
   rw[Ú Ä];refine⟨D.pm.lt ⋯,D.pm.lt ⋯,?_⟩
   show ok _ _ (if O.lt (ky x p (m-1)) (ky x p m)=ό then _ else _) _
   cases R:O.lt (ky x p (m-1)) (ky x p m) with
   |true =>
    rw[Ñ rfl];exact⟨aeS _,D⟩
   |false =>
    rw[Ú Ä];have e:ky x p m=ky x p (m-1):=O.yu _ _ X R;refine kT (zv f p (m+1) (q+1) ⋯ ⟨D.pm,by omega,by omega,D.dn.more ⋯ (by rw[e];exact Ord.le_refl _),λk T S=>?_⟩) λr Z=>⟨by omega,Z.2⟩;show _=ky x p m;by_cases Q:k=m
    ·rw[Q]
    ·rw[D.bl k ⋯ ⋯,e]
def LX {p:Array Nat} {m:Nat} (hp:Pm n p) (h1:1<=m) (hm:m<=n) (hd:Dn O (ky x p) m):ok (asks O x) n (kas_tail3 m n p) λr=>1<=r.1/\r.1<=n/\Pm n r.2/\Up O (ky x r.2) r.1:=by
 refine sM ?_;have Z:Up O (ky x (kas_rev p 0 m)) m:=λi j W Y=>by
  rw[DA (by rw[hp.1];exact hm),DA (by rw[hp.1];exact hm),Ñ ⟨by omega,by omega⟩,Ñ ⟨by omega,Y⟩];exact hd _ _ ⋯ ⋯
 exact kT (DB (hp.rev 0 m) (n-m) m h1 ⋯ Z) λr X=>⟨by show 1<=r;omega,by show r<=n;omega,hp.rev 0 m,X.2.2.1⟩
def Jv {p:Array Nat} {m:Nat} (hp:Pm n p) (h1:1<=m) (hm:m+1<=n) (hd:Dn O (ky x p) (m+1)):ok (asks O x) n (kas_descPart m n p) λr=>1<=r.1/\r.1<=n/\Pm n r.2/\Up O (ky x r.2) r.1:=by
 refine sM (kT (zv (n-(m+1)) p (m+1) 0 ⋯ ⟨hp,by omega,hm,hd,λk Y X=>by rw[show k=m+1-1 by omega]⟩) λr Z=>?_);obtain⟨W,D⟩:=Z;split
 ·exact LX D.turn.1 (by have:=D.q1;omega) D.mn (by rw[D.turn.2];exact D.dn)
 ·exact LX D.pm (by have:=D.q1;omega) D.mn D.dn
def Vw {p:Array Nat} (hp:Pm n p) (hn:1<=n):ok (asks O x) n (kas_count n p) λr=>1<=r.1/\r.1<=n/\Pm n r.2/\Up O (ky x r.2) r.1:=by
 refine sM (kT (DB hp (n-1) 1 (aeS _) ⋯ λi j U X=>by omega) λm R=>?_);obtain⟨Z,P,Y,Q⟩:=R;split
 ·rename_i e
  rw[beq_iff_eq] at e;exact⟨Z,by omega,hp,Y⟩
 ·rename_i e
  have N:m≠n:=λz=>e (by rw[z];exact Ė n);have T:=Q ⋯;split
  ·refine⟨hp.lt ⋯,hp.lt ⋯,?_⟩
   show ok _ _ (if O.lt (ky x p 0) (ky x p (m-1))=ό then _ else _) _
   cases S:O.lt (ky x p 0) (ky x p (m-1)) with
   |true =>
    rw[Ñ rfl];exact⟨Z,by omega,hp,Y⟩
   |false =>
    rw[Ú Ä];have W:∀k,0<=k->k<m->ky x p k=ky x p (m-1):=λk _ V=>by
     have a1:O.le (ky x p k) (ky x p (m-1)):=by
      by_cases e:k=m-1
      ·rw[e];exact Ord.le_refl _
      ·exact Y k (m-1) ⋯ ⋯
     have a2:O.le (ky x p (m-1)) (ky x p k):=by
      by_cases e:k=0
      ·rw[e];exact S
      ·exact Ord.tO S (Y 0 k ⋯ V)
     exact Ord.N4 a1 a2
    have V:=LW (x:=x) (p:=p) (i:=0) (j:=m) (by rw[hp.1];omega) W;refine Jv (hp.rev 0 m) Z ⋯ ?_;rw[V];refine Dn.more (λi j U X=>?_) Z (Ord.le_of_lt T);rw[W i ⋯ ⋯,W j ⋯ X];exact Ord.le_refl _
  ·refine Jv hp Z ⋯ (Dn.more (λi j U X=>by omega) Z (Ord.le_of_lt T))
theorem Ce (hp:Pm n p) (hk:k<n) (hu:Up O (ky x p) k):∀(f l r:Nat),r-l<=f->l<=r->r<=k->(∀i,i<l->O.le (ky x p i) (ky x p k))->(∀i,r<=i->i<k->O.le (ky x p k) (ky x p i)) ->
  ok (asks O x) n (kas_place p k f l r) λm=>m<=k/\(∀i,i<m->O.le (ky x p i) (ky x p k))/\(∀i,m<=i->i<k->O.le (ky x p k) (ky x p i))
 |0,l,r,W,V,X,a,b=>⟨by omega,a,λi Y=>b i ⋯⟩
 |f+1,l,r,W,V,X,a,b=>by
  delta kas_place;by_cases h:l ≥ r
  ·rw[Ñ h]
   exact⟨by omega,a,λi Y=>b i ⋯⟩
  ·rw[Ú h]
   refine⟨hp.lt hk,hp.lt ⋯,?_⟩
   show ok _ _ (if O.lt (ky x p k) (ky x p ((l+r) / 2))=ό then _ else _) _
   cases Z:O.lt (ky x p k) (ky x p ((l+r) / 2)) with
   |true =>
    rw[Ñ rfl];refine Ce hp hk hu f l ((l+r) / 2) ⋯ ⋯ ⋯ a λi Y U=>?_;by_cases e:i=(l+r) / 2
    ·rw[e];exact Ord.le_of_lt Z
    ·exact Ord.tO (Ord.le_of_lt Z) (hu _ _ ⋯ U)
   |false =>
    rw[Ú Ä];refine Ce hp hk hu f ((l+r) / 2+1) r ⋯ ⋯ X (λi Y=>?_) b;by_cases e:i=(l+r) / 2
    ·rw[e];exact Z
    ·exact Ord.tO (hu _ _ ⋯ ⋯) Z
theorem MW:∀(f:Nat) (p:Array Nat) (k:Nat),Pm n p->k+f=n->Up O (ky x p) k->ok (asks O x) n (kas_bin f p k) λq=>Pm n q/\Up O (ky x q) n
 |0,p,k,Y,X,Z=>⟨Y,by rw[<- X];exact Z⟩
 |f+1,p,k,Y,X,Z=>by
  refine sM (kT (Ce Y ⋯ Z k 0 k ⋯ (Ē _) (aeS _) (λi K=>by omega) λi Q W=>by omega) λm P=>?_);obtain⟨Q,W,N⟩:=P;refine MW f _ (k+1) (Y.bub _ _) ⋯ λi j M J=>?_;have V:k<p.size:=by rw[Y.1];omega
  have L:k-(k-m)=m:=by omega
  rw[MV V ⋯,MV V ⋯,L];by_cases U:i=m
  ·rw[Ñ U,Ú ⋯,Ñ ⋯]
   exact N _ ⋯ ⋯
  ·rw[Ú U]
   by_cases T:m<i/\i<=k
   ·rw[Ñ T,Ú ⋯,Ñ ⋯]
    exact Z _ _ ⋯ ⋯
   ·rw[Ú T]
    by_cases S:j=m
    ·rw[Ñ S];exact W _ ⋯
    ·rw[Ú S]
     by_cases R:m<j/\j<=k
     ·rw[Ñ R]
      by_cases e:i=j-1
      ·rw[e];exact Ord.le_refl _
      ·exact Z _ _ ⋯ ⋯
     ·rw[Ú R];exact Z _ _ M ⋯
def Xi (hn:1<=n):ok (asks O x) n (kas_sort n) λq=>Pm n q/\Up O (ky x q) n:=by
 refine sM (kT (Vw (p:=aec (è n)) ⟨by simp,by simp⟩ hn) λr X=>?_);obtain⟨W,V,Y,Z⟩:=X;split
 ·rw[Nat.max_eq_left W]
  exact MW _ _ _ Y ⋯ Z
 ·rw[show r.1=n by omega] at Z
  exact⟨Y,Z⟩
end
section
variable {α:Type} {O:Ord α} {x:Nat->α} {prog:å} {w:ā} {A:í} {E:Ç->Â->Prop} {s:Â}
def AH (prog:å) (w:ā) (A:í) (O:Ord α) (x:Nat->α) (us:List Ç) (t:Â):Prop :=
 á (é prog w) A (keyKind' us.toArray) (fun Z Y=>Y=t/\∀i j (C:Bool->Â->Prop),i<us.length->j<us.length->C (O.lt (x i) (x j)) t->á (é prog w) A (keyLt' Z (us.getD i Value.none) (us.getD j Value.none)) C (λ_ _=>False) t) (λ_ _=>False) t
def mO (us:List Ç) (h:us.length<2):(us.toArray.zip us.toArray).map (·.2)=((aec (è us.length)).toList.map λi=>us.getD i Value.none).toArray:=by
 rcases us with _ | ⟨u,_ | ⟨v,r⟩⟩
 ·exact Array.toList_inj.mp ∅
 ·exact Array.toList_inj.mp ∅
 ·(simp at h;omega)
def Rf (hb:s.heap.get? b=ϊ (adW "list" us.toArray m)) (hz:us.length<64)
 (hk:2<=us.length->∀h1,(∀c o,c≠b->s.heap.get? c=ϊ o->h1.get? c=ϊ o)->AH prog w A O x us { s with heap:=h1 })
 (hR:∀(q:Array Nat) h' e,Pm us.length q->Up O (ky x q) us.length->(∀c o,c≠b->s.heap.get? c=ϊ o->h'.get? c=ϊ o)->h'.get? b=ϊ (adW "list" (q.toList.map λi=>us.getD i Value.none).toArray e)->R (.done (.ret .none)) { s with heap:=h' }) :
  á (é prog w) A (Ř.«list.sort» ⟨[.ref b],[]⟩) R E s:=by
 have y:b<s.heap.objs.size:=Ð hb;have line:us.length<=Õ:=by rw[ŭ];omega
 obtain⟨e1,M⟩:∃e1,(s.heap.update b (ŝ λ_=>(#[]:Array Ç))).get? b=ϊ (adW "list" #[] e1):=⟨_,get?_update_seq hb λ_=>#[]⟩;generalize U:((s.heap.update b (ŝ λ_=>(#[]:Array Ç))).push (adW "tuple" us.toArray 0)).push (adW "list" #[] 0)=Z;have X:Z.get? b=ϊ (adW "list" #[] e1):=by rw[<- U];exact Á _ (Á _ M)
 have old:∀c o,c≠b->s.heap.get? c=ϊ o->Z.get? c=ϊ o:=λc o W e=>by
  rw[<- U];exact Á _ (Á _ (by rw[adB _ _ _ _ W];exact e))
 have last:∀(q:Array Nat),Pm us.length q->Up O (ky x q) us.length->R (.done (.ret .none)) { s with heap:=Z.update b (ŝ λ_=>(q.toList.map λi=>us.getD i Value.none).toArray) }:=λq h1 T =>
  hR q _ _ h1 T (λc o W e=>by rw[adB _ _ _ _ W];exact old c o W e) (get?_update_seq X λ_=>(q.toList.map λi=>us.getD i Value.none).toArray)
 rw[list_sort_plain];refine À (listItems_at hb rfl (À (listUpdate_at hb rfl ?_ (by rw[Ü];exact line) (Ē _))));refine À (seqEpoch_at M rfl (À (wpAny_newTuple (À (wpAny_newList (ą ?_) (Ē _))) (by show us.length<=_;exact line))))
 show á (é prog w) A _ R E { s with heap:=_ }
 rw[U];dsimp only;by_cases Y:us.toArray.size<2
 ·rw[Ñ Y,Ñ Y]
  refine À (Ã ?_);rw[StateT.run_pure];refine À (Ã ?_);dsimp only;have K:(us.toArray.zip us.toArray).map (·.2)=((aec (è us.length)).toList.map λi=>us.getD i Value.none).toArray:=by
   exact mO us (by rw[<- Ü];exact Y)
  refine À (seqEpoch_at X rfl (À (listUpdate_at X rfl ?_ (Ē _) ?_)))
  ·erw[Ĕ,Æ,ï]
   show á _ _ _ _ _ { s with heap:=Z.update b (ŝ λ_=>(us.toArray.zip us.toArray).map (·.2)) }
   rw[K];refine Ã (last _ ⟨by simp,by simp⟩ λi j v L=>?_);rw[Ü] at Y;omega
  ·show ((us.toArray.zip us.toArray).map (·.2)).size<=Õ+1
   simp;omega
 ·rw[Ú Y,Ú Y]
  rw[Ü] at Y;refine À (ė (hk ⋯ Z old) (fun J t S=>?_) λ_ _ z=>z.elim);obtain⟨rfl,S⟩:=S
  have tree:(kas_sort us.length).kasWp (kas_ask prog w A J us) (λq t=>t={ s with heap:=Z }/\Pm us.length q/\Up O (ky x q) us.length) { s with heap:=Z } :=
   N5 (c:=asks O x) (n:=us.length) (λi j C I L H=>S i j C I L H) (kT (Xi ⋯) λq P=>⟨rfl,P⟩)
  refine À (ė (kat_run (Q:=λV t=>∃q:Array Nat,q.size=us.length/\arrOf V=q.map (kas_item (us.toArray.zip us.toArray))/\failedOf V=ϋ/\t={ s with heap:=Z }/\Pm us.length q/\Up O (ky x q) us.length)
   rfl ⋯ hz (λq V t a1 a2 G F=>⟨q,a1,a2,G,F⟩) tree) ?_ λ_ _ z=>z)
  rintro ⟨⟨⟩,V⟩ t ⟨q,P,N,D,rfl,T,B⟩;dsimp only;rw[kat_snds rfl N];refine À (seqEpoch_at X rfl (À (listUpdate_at X rfl ?_ (Ē _) ?_)))
  ·rw[D]
   erw[Ĕ,Æ,ï];exact Ã (last q T B)
  ·show ((q.toList.map λi=>us.getD i Value.none).toArray).size<=Õ+1
   rw[Ü,É,ö,P];omega
end
open HT
def CQ:∀a:List Int,lexLt a a=ύ:=λa=>by
 induction a with
 |nil=>rfl
 |cons i r ih=>rw[j4,Ñ rfl];exact ih
def Zb:∀a b c:List Int,lexLt a b=ό->lexLt b c=ό->lexLt a c=ό:=λa=>by
 induction a with
 |nil =>
  intro b c h g
  cases b with
  |nil=>cases h
  |cons j s=>cases c with
   |nil=>cases g
   |cons k t=>rfl
 |cons i r ih =>
  intro b c h g
  cases b with
  |nil=>cases h
  |cons j s =>
   cases c with
   |nil=>cases g
   |cons k t =>
    rw[j4] at h g |-;by_cases e1:i=j
    ·subst e1
     rw[Ñ rfl] at h;by_cases e2:i=k
     ·rw[Ñ e2] at g |-;exact ih s t h g
     ·rw[Ú e2] at g |-;exact g
    ·rw[Ú e1] at h
     have h:=æ h;by_cases e2:j=k
     ·subst e2
      rw[Ú e1];exact È h
     ·rw[Ú e2] at g
      have g:=æ g;rw[Ú ⋯];exact È ⋯
def Xj:∀a b:List Int,lexLt a b=ύ->lexLt b a=ύ->a=b:=λa=>by
 induction a with
 |nil =>
  intro b h g
  cases b with
  |nil=>rfl
  |cons j s=>cases h
 |cons i r ih =>
  intro b h g
  cases b with
  |nil=>cases g
  |cons j s =>
   rw[j4] at h g;by_cases e:i=j
   ·subst e
    rw[Ñ rfl] at h g;rw[ih s h g]
   ·rw[Ú e] at h
    rw[Ú (ź e)] at g;have h:=of_decide_eq_false h;have g:=of_decide_eq_false g;omega
section
variable {prog:å} {w:ā} {A:í} {E:Ç->Â->Prop} {s:Â}
inductive Fq (h:ĺ):List Ç->List (List Int)->Prop where
 |nil:Fq h [] []
 |cons {a:Þ} {its:Array Ç} {ns:List Int} {us:List Ç} {pO:List (List Int)}:IsTup h a its->aej its.toList ns->Fq h us pO->Fq h (.ref a::us) (ns::pO)
inductive yv:List (Option Ç)->List (List Int)->Prop where
 |nil:yv [] []
 |ar {fs:List (Option Ç)} {pO:List (List Int)}:yv fs pO->yv (ϋ::fs) ([]::pO)
 |one {fs:List (Option Ç)} {pO:List (List Int)} {n:Int} {t:Tok} {r:List Int}:yv fs pO->yv (ϊ (.int n t)::fs) ((n::r)::pO)
def ins {α:Type} (O:Ord α) (a:α):List α->List α
 | []=>[a]
 |b::r=>if O.lt b a=ό then b::ins O a r else a::b::r
def dB {α:Type} (O:Ord α):List α->List α
 | []=>[]
 |a::r=>ins O a (dB O r)
end
section
variable {α:Type} {O:Ord α}
def K3 (a:α) (l:List α):(ins O a l).Perm (a::l):=by
 induction l with
 |nil=>exact .refl _
 |cons b r ih =>
  delta ins;split
  ·exact(List.Perm.cons b ih).trans (List.Perm.swap a b r)
  ·exact .refl _
def sd (l:List α):(dB O l).Perm l:=by
 induction l with
 |nil=>exact .refl _
 |cons a r ih=>exact(K3 a _).trans (ih.cons a)
def Zc (a:α) (l:List α) (h:l.Pairwise O.le):(ins O a l).Pairwise O.le:=by
 induction l with
 |nil=>exact List.pairwise_singleton _ _
 |cons b r ih =>
  obtain⟨X,W⟩:=ø.mp h;delta ins
  split<;>rename_i Z
  ·refine ø.mpr ⟨λc Y=>?_,ih W⟩
   rcases Û.mp ((K3 a r).mem_iff.mp Y) with e|e
   ·rw[e];exact Ord.le_of_lt Z
   ·exact X c e
  ·have Z:O.le a b:=by rw[ads] at Z;exact Z
   refine ø.mpr ⟨λc Y=>?_,h⟩
   rcases Û.mp Y with e|e
   ·rw[e];exact Z
   ·exact Ord.tO Z (X c e)
def K4 (l:List α):(dB O l).Pairwise O.le:=by
 induction l with
 |nil=>exact .nil
 |cons a r ih=>exact Zc a _ ih
def TR:∀{l m:List α},l.Perm m->l.Pairwise O.le->m.Pairwise O.le->l=m:=by
 intro l
 induction l with
 |nil=>intro m h _ _;exact h.nil_eq
 |cons a r ih =>
  intro m h Z Y
  cases m with
  |nil=>exact absurd h.length_eq ∅
  |cons b t =>
   obtain⟨a1,a2⟩:=ø.mp Z;obtain⟨X,W⟩:=ø.mp Y;have e:a=b:=by
    rcases Û.mp (h.mem_iff.mp ß) with e|e
    ·exact e
    ·rcases Û.mp (h.mem_iff.mpr ß) with e'|e'
     ·exact e'.symm
     ·exact Ord.N4 (a1 b e') (X a e)
   subst e;rw[ih h.cons_inv a2 W]
def TU (hp:Pm xs.length q) (hu:Up O (ky (λi=>xs.getD i d) q) xs.length):q.toList.map (λi=>xs.getD i d)=dB O xs:=by
 refine TR ?_ ?_ (K4 xs)
 ·refine(hp.2.map _).trans ?_
  have:(è xs.length).map (λi=>xs.getD i d)=xs:=by
   apply ac8;intro i;by_cases Z:i<xs.length
   ·simp[Z]
   ·simp[Z,δ Z]
  rw[this];exact(sd xs).symm
 ·rw[List.pairwise_iff_getElem]
  intro i j Z V Y;have U:(q.toList.map λi=>xs.getD i d).length=xs.length:=by rw[É,ö,hp.1]
  have X:j<q.size:=by rw[hp.1];omega
  have W:i<q.size:=by omega
  have:=hu i j Y ⋯;delta ky at this;simpa [aeH,W,X] using this
end
end ST
namespace DI
open PySem L2
section
variable {X:Cx} {Ξ:Wd->bg->Prop} {a e tg:ě} {p pos:Pos} {f:aeO D} {fa:aeO (List D)}
def tQ (n:Nat):List D:=(è n).map λi:Nat=>D.int ((n:Int)-1-i)
def TV (n:Nat):(tQ n).length=n:=by simp[tQ]
def TX (n i:Nat):(tQ n)[i]?=if i<n then ϊ (.int ((n:Int)-1-i)) else ϋ:=by
 delta tQ;rw[ê];split
 ·rename_i h;rw[Ŀ h];rfl
 ·rename_i h;rw[ğ (by simp;omega)];rfl
def Zd:pM K w (Fc n) (tQ n):=λX V W i=>by
 refine⟨λd Z=>?_,λY=>by rw[TV] at Y;exact Y⟩;rw[TX] at Z;split at Z
 ·cases Z
  exact⟨by assumption,λx U ⟨e1,e2⟩=>⟨X,e1.symm,Le.refl _,W,rfl,e2⟩⟩
 ·cases Z
def GS (fa:aeO (List D)):aeO (List D):=λenv s=>ai (fa env s) λZ s=>match Z with
 | [.int j]=>if (kj j&&ώ (0<=j))=ό then ok (tQ j.toNat) s else ϋ
 |_=>ϋ
def aaT {p2 lH:Pos} (hg:Gl X "reversed") (hm:X.mg "reversed"=ϋ) (Gs:Gl X "range") (Gu:X.mg "range"=ϋ) (ha:PA X [a] (tA X.K Ξ fa))
  (he:Í [a] X.env=(ύ,ķ a X.env)::Í [] X.env:=by rfl) (bN:(ī lH (Í [] X.env)).any (·.1)=ύ:=by rfl)
  (hs:Í [.Call (.Name "range" p2) [a] [] lH] X.env=[(ύ,ķ (.Call (.Name "range" p2) [a] [] lH) X.env)]:=by rfl)
  (A2:Í [.Call (.Name "range" p2) [a] [] lH] X.env=(ύ,ķ (.Call (.Name "range" p2) [a] [] lH) X.env)::Í [] X.env:=by rfl) :
  PI X tg (.Call (.Name "reversed" p) [.Call (.Name "range" p2) [a] [] lH] [] pos) (fP X.K Ξ (GS fa)) :=
 sV (YW hg hm (kQ (BP RG Gs Gu nofun ha (by decide) (by decide) he bN) ma A2) hs) fun σ H R V=>by
  obtain⟨w,env,U,S,T,h⟩:=V;subst U;refine⟨w,env,rfl,S,T,(Out.ai h).mono λQ L J P Z I O=>?_⟩;split at Z
  ·rename_i j
   split at Z
   ·rename_i Y
    erw[kj,Å,Ë] at Y;obtain⟨v,r,rfl,N,M⟩:=O;have e1:v=.int j:=N;have e2:r=[]:=M;subst e1 e2;refine⟨j,rfl,λq W=>?_⟩;refine⟨q,j.toNat,rfl,?_,by omega,?_⟩
    ·rw[cP,Int.toNat_of_nonneg Y.2]
    ·exact Z (Q.grow q (.dg 0 j)) (Fw.grow W).le (P.grow W) rfl _ Zd
   ·exact Z.elim
  ·exact Z.elim
end
end DI
namespace L2
open PySem PySem.Spec PyProof.Rows
structure MX (sc:ac5) (cl iz:List (Str×Þ)) (C:Nat) (h:ĺ):Prop where
 old:∀n c,iz.lookup n=ϊ c->(C<c/\(n,NameKind.cell)∈sc.names/\∃v,h.IsCell c v)\/cl.lookup n=ϊ c
 own:∀n,sc.names.lookup n=ϊ .cell\/(cl.lookup n).isSome=ό->∃c,iz.lookup n=ϊ c
 inj:(∀x y c,cl.lookup x=ϊ c->cl.lookup y=ϊ c->x=y)->(∀x c,cl.lookup x=ϊ c->c<C)->∀x y c,iz.lookup x=ϊ c->iz.lookup y=ϊ c->x=y
theorem BS:∀(names:List (Str×Ű)) (n:Nat) (acc:List (Str×Þ)),(adi n names acc).lookup x=ϊ c->((x,NameKind.cell)∈names/\n<=c)\/acc.lookup x=ϊ c
 | [],n,acc,h=>.inr h
 |(y,k)::r,n,acc,h=>by
  delta adi at h;split at h
  ·rename_i Z
   have Z:k=.cell:=by simpa using Z
   subst Z
   rcases BS r (n+1) _ h with ⟨h1,Y⟩|h1
   ·exact .inl ⟨Ï _ h1,by omega⟩
   ·rw[ē] at h1
    split at h1
    ·rename_i e
     have e:x=y:=by simpa using e
     subst e;cases h1;exact .inl ⟨ß,aeS _⟩
    ·exact .inr h1
  ·rcases BS r n acc h with ⟨h1,Y⟩|h1
   ·exact .inl ⟨Ï _ h1,Y⟩
   ·exact .inr h1
theorem BU:∀(names:List (Str×Ű)) (n:Nat) (acc:List (Str×Þ)),(∀x y c,acc.lookup x=ϊ c->acc.lookup y=ϊ c->x=y)->(∀x c,acc.lookup x=ϊ c->c<n)->∀x y c,(adi n names acc).lookup x=ϊ c->(adi n names acc).lookup y=ϊ c->x=y
 | [],n,acc,W,X=>W
 |(z,k)::r,n,acc,W,X=>by
  delta adi;split
  ·refine BU r (n+1) _ (λx y c Z Y=>?_) λx c Z=>?_
   ·rw[ē] at Z Y
    split at Z
    ·rename_i e1
     split at Y
     ·rename_i e2
      exact(by simpa using e1:x=z).trans (by simpa using e2:y=z).symm
     ·cases Z
      exact absurd (X y _ Y) (ñ _)
    ·split at Y
     ·cases Y
      exact absurd (X x _ Z) (ñ _)
     ·exact W x y c Z Y
   ·rw[ē] at Z
    split at Z
    ·cases Z;exact Ŗ _
    ·exact Ĵ (X x c Z)
  ·exact BU r n acc W X
theorem Cf {lo:Nat}:∀(names:List (Str×Ű)) (h:ĺ) (acc:List (Str×Þ)),lo<=h.objs.size->(∀x c,acc.lookup x=ϊ c->lo<=c->h.IsCell c ϋ)->(adi h.objs.size names acc).lookup x=ϊ c->lo<=c->(pushCells h names).IsCell c ϋ
 | [],h,acc,_,Z,e,Y=>Z x c e Y
 |(z,k)::r,h,acc,V,Z,e,Y=>by
  delta adi at e;delta pushCells;split at e
  ·rename_i W
   rw[Ñ W];have U:(h.push { cls:=.type "cell",data:=.cell ϋ }).objs.size=h.objs.size+1:=Ā ..;refine Cf (lo:=lo) r _ ((z,h.objs.size)::acc) ⋯ (λy d X T=>?_) (by rw[U];exact e) Y;rw[ē] at X;split at X
   ·cases X
    exact⟨_,Î _ rfl,rfl⟩
   ·exact(Z y d X T).keeps λb o q=>Á _ q
  ·rename_i W
   rw[Ú W];exact Cf r h acc V Z e Y
def QN {E:Ç->Â->Prop} {Q:Env->Â->Prop}
 (hQ:∀iz h3,((∀x c,cl.lookup x=ϊ c->c<s.heap.objs.size)->MX scope cl iz s.heap.objs.size h3)->h3.Ns s.heap.objs.size (λ_=>ϋ)->(∀b o,s.heap.get? b=ϊ o->h3.get? b=ϊ o)->Q (newEnv scope s.heap.objs.size globals iz qual ϋ .none (ϊ env) bi) { s with heap:=h3 }) :
  á M A (newFunctionEnv scope globals cl [] qual ϋ .none (ϊ env) bi) Q E s:=by
 erw[newFunctionEnv,Option.isSome_some,ò];refine À (wpAny_alloc ?_)
 refine À (wpAny_layCells _ (λname kind cells=>by cases Z:kind==NameKind.cell<;>simp[Z]) _ _ _ _ ?_)
 rw[show ({ s with heap:=s.heap.push { cls:=.type "dict",data:=.dict #[] } }:Â).heap.objs.size=s.heap.objs.size+1 from Ā ..]
 erw[List.forIn_nil];refine À (Ã (Ã ?_));have Y:(s.heap.push { cls:=.type "dict",data:=.dict #[] }).objs.size=s.heap.objs.size+1:=Ā ..;refine hQ (adi (s.heap.objs.size+1) scope.names cl) _ (λX=>⟨λn c e=>?_,λn W=>?_,λV U=>BU _ _ _ V λx c e=>Ĵ (U x c e)⟩) ((Heap.Ns.new s.heap (.type "dict")).keeps (pushCells_keeps _ _)) λb o e=>pushCells_keeps _ _ b o (Á _ e)
 ·rcases BS _ _ _ e with ⟨h1,T⟩|h1
  ·exact .inl ⟨by omega,h1,ϋ,Cf (lo:=s.heap.objs.size+1) scope.names _ cl ⋯ (λx d q S=>absurd (X x d q) (Nat.not_lt.mpr (Nat.le_of_succ_le S))) (by rw[Y];exact e) T⟩
  ·exact .inr h1
 ·exact adD.mp (μ scope.names _ cl W)
abbrev i8 (X:Cx) (N:List Str) (sc:ac5) (cl:List (Str×Þ)) (C:Þ) (s:Â) (H:Hp) (ex:List Þ) (pn:List (Þ×Obj)):Cx:={ eV X N sc cl C s H ex pn with fn:=λx=>sc.names.lookup x==ϊ .cell }
structure wF (X:Cx) (sc:ac5) (N:List Str) (nt:Nat) (cap:List Nat):Prop where
 kind:sc.kind=.function
 names:∀x∈sc.names,x.2=.local->sc.names.lookup x.1=ϊ .local
 cells:∀x∈sc.names,x.2=.cell->sc.names.lookup x.1=ϊ .cell
 frees:∀x∈sc.names,x.2=.free->sc.names.lookup x.1=ϊ .free/\(X.env.scope.names.lookup x.1=ϊ .cell\/X.env.scope.names.lookup x.1=ϊ .free)
 len:N.length=nt+cap.length
 E8:∀(k:Nat) j,cap[k]?=ϊ j->∃x,X.N[j]?=ϊ x/\N[nt+k]?=ϊ x/\(x,î)∈sc.names
section
variable {X:Cx} {sc:ac5} {N:List Str} {nt:Nat} {cap:List Nat} {cl iz:List (Str×Þ)} {s:Â} {h1:ĺ} {H:Hp} {σ:St} {π:List (Þ×Obj)} {fp:List Þ} {C:Þ} {t':Nat}
def Inv.Ze (I:Inv X π σ H s) (S:wF X sc N nt cap) (dj:∀n c,cl.lookup n=ϊ c↔((n,î)∈sc.names/\X.env.cells.lookup n=ϊ c)) (iJ:MX sc cl iz C h1) (hf:∀b∈fp,gn X π H b) (gJ:∀b∈fp,b<s.heap.objs.size)
  (hk:∀b o,s.heap.get? b=ϊ o->h1.get? b=ϊ o) (hC:s.heap.objs.size<=C) (pE:∃m,h1.Ns C m):Inv (i8 X N sc iz C s H fp (X.pn++π)) [] (md nt cap σ) H { s with heap:=h1,toks:=t' }:=by
 have M:∀b∈cL X.stack,b∈X.env.locals::X.fs:=I.kY;have R:∀x c,cl.lookup x=ϊ c->c<s.heap.objs.size:=λx c e=>by
  obtain⟨v,o,V,_⟩:=I.cell x c ((dj x c).mp e).2;exact Ð V
 have F:∀x,(relabel sc X.env).names.lookup x=ϊ .cell\/(relabel sc X.env).names.lookup x=ϊ .free->(x,î)∈sc.names\/sc.names.lookup x=ϊ .cell:=λx Z=>by
  rw[yL] at Z
  cases e:sc.names.lookup x with
  |none=>rw[e] at Z;rcases Z with z|z<;>cases z
  |some k =>
   have hm:(x,k)∈sc.names:=by
    obtain⟨l1,l2,e1,_⟩:=List.lookup_eq_some_iff.mp e;rw[e1];simp
   rw[e] at Z
   cases k with
   |free=>exact .inl hm
   |cell=>exact .inr rfl
   |_=>exfalso;revert Z;simp
 have E:∀x,(x,î)∈sc.names->∃c,X.env.cells.lookup x=ϊ c:=λx Z=>I.ok.has x (S.frees _ Z rfl).2;have L:∀x c,(x,î)∈sc.names->X.env.cells.lookup x=ϊ c->iz.lookup x=ϊ c:=λx c Z Q=>by
  have e:=(dj x c).mpr ⟨Z,Q⟩;obtain⟨d,hd⟩:=iJ.own x (.inr (by rw[e];rfl))
  rcases iJ.old x d hd with ⟨_,q,_⟩|q
  ·have T:=S.cells _ q rfl
   have W:=(S.frees _ Z rfl).1;dsimp only at T W;rw[T] at W;cases W
  ·rw[e] at q
   cases q;exact hd
 have ok:Cx.Ok (i8 X N sc iz C s H fp (X.pn++π)):=by
  refine⟨I.ok.mod,?_,I.ok.glob,I.ok.blt,hC,?_,?_,?_,I.ok.hd,I.ok.frames,.inl rfl,?_,I.bs,Ý I.ok.iX I.sz,?_,?_,I.stack,I.vY⟩
  ·exact S.kind
  ·exact iJ.inj (λx y c Z D=>I.ok.inj x y c ((dj x c).mp Z).2 ((dj y c).mp D).2) λx c e=>Ê (R x c e) hC
  ·intro x Z
   rcases F x Z with hm|hm
   ·obtain⟨c,e⟩:=E x hm
    exact⟨c,L x c hm e⟩
   ·exact iJ.own x (.inl hm)
  ·intro x c Z e
   rcases iJ.old x c e with ⟨q,_,_⟩|q
   ·exact Ý hC (Nat.le_of_lt q)
   ·have W:=(S.frees _ ((dj x c).mp q).1 rfl).1
    have T:sc.names.lookup x=ϊ .cell:=by simpa using Z
    dsimp only at W;rw[T] at W;cases W
  ·intro b Y
   refine⟨ã (Ê (gJ b Y) hC),λx c e=>?_⟩
   rcases iJ.old x c e with ⟨q,_,_⟩|q
   ·exact Ũ (Ê (gJ b Y) (Ý hC (Nat.le_of_lt q)))
   ·exact(hf b Y).2.2.2.2.1 x c ((dj x c).mp q).2
  ·intro b o e Y
   rcases(hf b Y).2.2.2.1 with z|z
   ·exact I.ok.oT b o e z
   ·exact absurd (Ê (Ð e) (Ý I.ok.iX z)) (ñ _)
  ·intro b Y z
   rcases Û.mp (M b z) with e|e
   ·exact(hf b Y).2.1 e
   ·exact(hf b Y).2.2.1 e
 obtain⟨m,hm⟩:=pE;obtain⟨mX,B,A⟩:=I.loc;refine⟨ok,rfl,I.bare,Un.kept hk,⟨m,hm,λi x v e1 e2 e3=>?_⟩,λx c e=>?_,I.aI.fresh hC,λx c e=>?_,λp w=>?_,I.aI.kept hk,?_⟩
 ·
  have K:nt<=i:=by
   apply δ;intro J;have:(md nt cap σ)[i]?=ϊ ϋ:=by
    delta md;rw[ç (by simpa using J),ı,Ñ J]
   rw[this] at e2;cases e2
  have U:(cap.map λj=>(σ[j]?).getD ϋ)[i-nt]?=ϊ (ϊ v):=by
   have e:=e2;delta md at e;rw[ð (by simpa using K)] at e;simpa using e
  rw[ê] at U
  cases P:cap[i-nt]? with
  |none=>rw[P] at U;cases U
  |some j =>
   rw[P] at U;have ev:(σ[j]?).getD ϋ=ϊ v:=aeT U;have t:σ[j]?=ϊ (ϊ v):=by
    cases q:σ[j]? with
    |none=>rw[q] at ev;cases ev
    |some z=>rw[q] at ev;exact Ń ϊ ev
   obtain⟨y,f1,f2,G⟩:=S.E8 _ _ P;rw[Nat.add_sub_cancel' K] at f2;have h:y=x:=aeT (f2.symm.trans e1);subst h;obtain⟨g1,g2⟩:=S.frees _ G rfl;have g:qY X.env.scope y:=.inr g2;obtain⟨u,r,l⟩:=A j y v f1 t g;refine⟨u,r,.inr ⟨?_,?_⟩⟩
   ·show (relabel sc X.env).names.lookup y=ϊ .cell\/(relabel sc X.env).names.lookup y=ϊ .free
    rw[yL,g1];erw[abI];split
    ·exact .inl rfl
    ·exact .inr rfl
   ·rcases l with ⟨k,_⟩ | ⟨_,c,Q,f⟩
    ·exfalso
     have a:X.env.scope.names.lookup y=ϊ .local:=k;dsimp only at g2;rw[a] at g2
     rcases g2 with z|z<;>cases z
    ·obtain⟨O,V,hd⟩:=f
     exact⟨c,L y c G Q,O,hk _ _ V,hd⟩
 ·rcases iJ.old x c e with ⟨_,_,q⟩|q
  ·exact q
  ·obtain⟨v,O,V,hd⟩:=I.cell x c ((dj x c).mp q).2
   exact⟨v,O,hk _ _ V,hd⟩
 ·rcases iJ.old x c e with ⟨q,_,_⟩|q
  ·exact I.aI.fresh ⋯
  ·exact I.je x c ((dj x c).mp q).2
 ·have yg:p∈X.pn++π:=by simpa using w
  obtain⟨e,n,ne,nf,d⟩:=I.pin p yg;refine⟨hk _ _ e,n,ã (Ê (Ð e) hC),λz=>?_,d⟩
  rcases Û.mp (M p.1 z) with q|q
  ·exact ne q
  ·exact nf q
 ·delta md
  rw[ä,ω,É];exact S.len.symm
end
structure N6 (P:å) (w:ā) (E el tg src:ě) (tests:List ě) (new:Sem Ç) (ap:String) (mk:Þ->List V->HO) (lP:List V->Prop) where
 o0:Obj
 live:o0.isFreed=ύ
 Ac:Þ->List V->ĺ->Prop
 clauses:clausesOf E=[⟨tg,src,tests,0⟩]
 turns:∀{A:í} {R:Result->Â->Prop} {s:Â} {ix av:Ç} {ce:Env} (J:Nat->Â->Prop)
  (turn:∀n s,J n s->á (é P w) A (adg ix) (λr s1=>match r with
   |none=>R (.ok .next) s1
   |some v=>á (é P w) A (œ tg ix v) (λ_ s2=>á (é P w) A (aeM tg ce v) (λ_ s3 =>
     á (é P w) A (forIn tests ό λc r=>if r=ό then do let ok <- isTrue c ce (ķ c ce);pure (ň ok) else pure (ň r)) (λok s4 =>
      if ok=ό then á (é P w) A (ķ el ce) (λy s5=>á (é P w) A (call (.builtin ap) [av,y]) (λ_ s6=>∃m,m<n/\J m s6) (λ_ _=>False) s5) (λ_ _=>False) s4
      else ∃m,m<n/\J m s4) (λ_ _=>False) s3) (λ_ _=>False) s2) (λ_ _=>False) s1) (λ_ _=>False) s)
  (n:Nat) (_:J n s),ż (é P w) A (.compLoop E 0 ix av ce) R s
 new:∀{A:í} {X:Ç->Â->Prop} {s:Â} {Q:Ç->Â->Prop},Q (.ref s.heap.objs.size) { s with heap:=s.heap.push o0 }->á (é P w) A new Q X s
 start:∀{A:í} {R:Result->Â->Prop} {s:Â} {it acc:Ç} {env:Env},ż (é P w) A (.compLoop E 0 it acc env) R s->á (é P w) A (pyIter it) (λmS s'=>ż (é P w) A (.compLoop E 0 mS acc env) R s') (notedBy (é P w) A env λx s'=>R (.error x) s') s->ż (é P w) A (.compStart E 0 it acc env) R s
 init:∀{D:Þ} {h:ĺ},h.get? D=ϊ o0->Ac D [] h
 obj:∀{D:Þ} {acc:List V} {h:ĺ},Ac D acc h->∃o,h.get? D=ϊ o/\∀v,o.data≠.cell v
 iG:∀{D:Þ} {acc:List V} {h h':ĺ},Ac D acc h->(∀o,h.get? D=ϊ o->h'.get? D=ϊ o)->Ac D acc h'
 MY:∀{D:Þ} {acc:List V} {h:ĺ} {H:Hp},lP acc->Ac D acc h->eQ P w (upd H D (mk D acc)) h D (mk D acc)
 add:∀{A:í} {s:Â} {D:Þ} {acc:List V} {v:V} {y:Ç} {Q:Ç->Â->Prop},Ac D acc s.heap->RelV v y->lP acc->lP (acc++[v])->(∀h' tk,Ĭ D s.heap h'->Ac D (acc++[v]) h'->Q .none { s with heap:=h',toks:=tk })->á (é P w) A (call (.builtin ap) [.ref D,y]) Q (λ_ _=>False) s
section
variable {X:Cx}
def Sy {E el tg src:ě} {tests:List ě} {sc:ac5} {N:List Str} {nt:Nat} {cap:List Nat} {wi:TI} {g:TG} {tf:TT} {te:TE} {p1:Pos} {use:Option (Ç->Sem Unit)} {R:Ç->Â->Prop} {π:List (Þ×Obj)} {s:Â} {σ:St} {H:Hp} {Q:VK} {new:Sem Ç} {ap:String} {mk:Þ->List V->HO} {lP:List V->Prop} (B:N6 X.prog X.w E el tg src tests new ap mk lP) (hc:X.calm=ό) (S:wF X sc N nt cap) (i7:pC g nt) (hi:PI X tg src wi)
  (hY:∀(cl:List (Str×Þ)) (C:Þ) (s:Â) (H:Hp) (ex:List Þ) (pn:List (Þ×Obj)),PG (i8 X N sc cl C s H ex pn) tg g/\PF (i8 X N sc cl C s H ex pn) tests tf/\PE (i8 X N sc cl C s H ex pn) el te)
  (hs:∀x,Ć src X.env x=pure x) (I:Inv X π σ H s) (h:wi σ H λJ H1=>PB mk lP J nt (nG cap σ) g tf te H1 Q)
  (Ff:∀(s':Â) (H1:Hp) (D C:Þ) (m:Str->Option Ç),(∀h',Ĭ C s'.heap h'->Inv X π σ H1 { s' with heap:=h' })->s'.heap.Ns C m->H1 C=ϋ->C≠X.env.locals->C∉X.fs->X.df.heap.objs.size<=C->(∀x c,X.env.cells.lookup x=ϊ c->c≠C)->(∀p∈X.pn++π,p.1≠C)->Q (.ref D) H1->compPost (é X.prog X.w) X.A X.xe use R (.ref D) C (.ok .next) s') :
  á (é X.prog X.w) X.A (comprehension E sc X.env p1 new ύ (ķ src X.env) use) R X.xe s:=by
 obtain⟨cl,Ee,dj⟩:=MI (env:=X.env) (sc:=sc) λn hn=>I.ok.has n (S.frees _ hn rfl).2;refine wpAny_comprehension_free (use:=use) B.clauses hs Ee S.kind S.names (aO (hi π s σ H _ I h) λxv s1 h1=>aO h1 λix k h2=>?_);obtain⟨it,t,tn,J,H2,e,M,T,iZ,f2,W,⟨m0,w0⟩,turn⟩:=h2;subst e;refine B.new (QN λiz h3 j lK pH=>?_);dsimp only at j lK pH |-;generalize hD:k.heap.objs.size=D at j lK pH |-;generalize hG:k.heap.push B.o0=G at j lK pH |-;generalize GD:G.objs.size=C at j lK pH |-;have hC:C=D+1:=by rw[<- GD,<- hG,Ā,hD]
 have rA:D≠C:=by omega
 have d:k.heap.objs.size<=D:=aeA hD;have l:k.heap.objs.size<=C:=by omega
 have old:∀b o,k.heap.get? b=ϊ o->h3.get? b=ϊ o:=λb o e=>pH b o (hG ▸ Á _ e);have ui:B.Ac D [] h3:=B.init (pH _ _ (hG ▸ hD ▸ Î _ B.live));have gJ:∀b∈t,b<k.heap.objs.size:=λb P=>by
  obtain⟨o,e,_⟩:=T.obj _ _ iZ b P;exact Ð e
 have j:=j λx c e=>by
  obtain⟨v,o,ho,_⟩:=M.cell x c ((dj x c).mp e).2;exact Ê (Ð ho) l
 have IB:=M.Ze (t':=k.toks) S dj j f2 gJ old l ⟨_,lK⟩;have GF:D∉cL X.stack:=λz=>by
  rcases Û.mp (M.kY D z) with e|e
  ·exact absurd (Ê M.lt d) (by rw[e];exact ñ _)
  ·exact M.xr d e
 have n6:D∉t:=λz=>absurd (Ê (gJ D z) d) (ñ _);have Dy:∀x c,iz.lookup x=ϊ c->c≠D:=λx c e z=>by
  rcases j.old x c e with ⟨q,_,_⟩|e
  ·rw[z] at q
   exact absurd q (by rw[hC];exact Nat.not_lt.mpr (ady D))
  ·obtain⟨v,o,ho,_⟩:=M.cell x c ((dj x c).mp e).2
   exact absurd (Ê (Ð ho) (by rw[z];exact d)) (ñ _)
 have Ef:∀p∈X.pn++π,p.1≠D:=λp L z=>absurd (Ê (Ð (M.pin p L).1) (by rw[z];exact d)) (ñ _);generalize O:i8 X N sc iz C k H2 t (X.pn++π)=Y at IB;have n9:∀{U:Hp} {pl:List (Þ×Obj)},(∀b∈t,U b=ϋ)->(∀p∈pl,p.1∉t)->∀b∈t,gn Y pl U b:=λ{U pl} hn L b P=>by
  subst O;obtain⟨_,f1,rq,f3,f4,f5⟩:=f2 b P;refine⟨hn b P,ã (Ê (gJ b P) l),λz=>?_,.inl P,λx c e=>(j.old x c e).elim (λq z=>Ũ (Ê (gJ b P) (Ý l (Nat.le_of_lt q.1))) z) λe=>f4 x c ((dj x c).mp e).2,λp yo=>?_⟩
  ·rcases Û.mp (M.kY b z) with e|e
   ·exact f1 e
   ·exact rq e
  ·rcases ó.mp yo with z|z
   ·exact f5 p z
   ·exact λe=>L p z (e ▸ P)
 have GH:PG Y tg g:=O ▸ (hY _ _ _ _ _ _).1;have GI:PF Y tests tf:=O ▸ (hY _ _ _ _ _ _).2.1;have hE1:PE Y el te:=O ▸ (hY _ _ _ _ _ _).2.2;have eP:Y.prog=X.prog:=O ▸ rfl;have eW:Y.w=X.w:=O ▸ rfl;have eA:Y.A=X.A:=O ▸ rfl;have eK:Y.K=X.K:=O ▸ rfl;have eE:Y.env=compEnvC sc iz C X.env:=O ▸ rfl;have eX:Y.xe=λ_ _=>False:=O ▸ rfl;have eC:Y.calm=ό:=O ▸ hc;have eS:Y.df.heap.objs.size<=D:=O ▸ d;have eF:D∉Y.fs:=O ▸ GF;have eL:D≠Y.env.locals:=O ▸ rA;have eCl:∀x c,Y.env.cells.lookup x=ϊ c->c≠D:=O ▸ Dy;have eN:∀p∈Y.pn,p.1≠D:=O ▸ Ef;have fin:∀(s':Â) (a:St) (U:Hp) (Z:List V),Inv Y [] a U s'->B.Ac D Z s'.heap->U D=ϋ->lP Z->(∀D,U D=ϋ->Q (.ref D) (upd U D (mk D Z))) ->
   compPost (é X.prog X.w) X.A X.xe use R (.ref D) C (.ok .next) s':=by
  intro s' a U Z F pl hn hz q;subst O;obtain⟨m,hm,_⟩:=id F.loc;refine Ff s' (upd U D (mk D Z)) D C m (λh' sb=>?_) hm ?_ (λz=>absurd (Ê M.lt l) (by rw[z];exact ñ _)) (M.xr l) (Ý M.sz l) (λx c e z=>?_) (λp L z=>absurd (Ê (Ð (M.pin p L).1) (by rw[z];exact l)) (ñ _)) (q D hn)
  ·have Fm:cN X.prog X.w U h':=F.aI.but F.free sb
   have u:=(F.base.but l sb).adopt (o:=mk D Z) d hn
   refine M.wL (s':={ s' with heap:=h' }) (ch:=t) F.os u (Fm.adopt hn (B.MY hz (B.iG pl λo e=>(sb.2 D rA).trans e))) F.bare (λb P=>?_)
   obtain⟨_,f1,_,f3,f4,f5⟩:=f2 b P;exact⟨f3,f1,f4,f5⟩
  ·rw[bt (ź rA)]
   exact F.free
  ·obtain⟨v,o,iI,_⟩:=M.cell x c e
   exact absurd (Ê (Ð iI) (by rw[z];exact l)) (ñ _)
 have loop:ż (é X.prog X.w) X.A (.compLoop E 0 (.ref it) (.ref D) (compEnvC sc iz C X.env)) (compPost (é X.prog X.w) X.A X.xe use R (.ref D) C)
   { k with heap:=h3 }:=by
  refine B.turns (λn s'=>∃i Z o U,Inv Y [] (o++nG cap σ) U s'/\o.length=nt/\tn i s'.heap/\(∀b∈t,U b=ϋ)/\B.Ac D Z s'.heap/\U D=ϋ/\W i n Z U) ?_ m0
   ⟨0,[],Ö nt ϋ,H2,IB,by simp,T.keep _ _ _ iZ λb _ o e=>old b o e,λb P=>(f2 b P).1,ui,M.aI.fresh d,w0⟩
  intro n s3 zzz;obtain⟨i,Z,o3,H3,I3,PU,pk,pq,PV,nD3,w3⟩:=zzz;generalize hτ:o3++nG cap σ=a at I3;obtain⟨f,ho,aaU⟩:=B.obj PV;have yp:Inv Y [(D,f)] a H3 s3:=I3.qe λp L=>by
   have e:p=(D,f):=by simpa using L
   subst e;exact⟨ho,nD3,eL,eF,aaU⟩
  have rz:∀p∈[(D,f)],p.1∉t:=λp L=>by
   have e:p=(D,f):=by simpa using L
   subst e;exact n6
  have u4:∀{pl:List (Þ×Obj)} {dC:St} {U:Hp} {s':Â},Inv Y ([(D,f)]++pl) dC U s'->B.Ac D Z s'.heap/\U D=ϋ:=λ{pl dC U s'} F=>by
   have q:=F.pin (D,f) (Ù _ (ÿ _ ∅));exact⟨B.iG PV λo e=>by rw[ho] at e;cases e;exact q.1,q.2.1⟩
  rcases turn i n Z H3 w3 with ⟨stop,hz,q⟩ | ⟨go,hz,N',hN,step⟩
  ·have hd:=T.done Y eP eW eK eC i [(D,f)] s3 a H3 (λ_ _=>False) yp (n9 pq rz) pk stop
   rw[eA] at hd;refine aO hd λr s4 h4=>?_;obtain⟨hr,I4⟩:=h4;subst hr;obtain⟨GA,n4⟩:=u4 (pl:=[]) (by simpa using I4);exact fin s4 a H3 Z (Inv.ni (π:=[]) I4) GA n4 hz q
  ·have hd:=T.item Y eP eW eK eC i [(D,f)] s3 a H3 (λ_ _=>False) yp (n9 pq rz) pk go
   rw[eA] at hd;refine aO hd λr s4 h4=>?_;obtain⟨u,hr,h4⟩:=h4;subst hr;refine aO h4 λ_ s5 h5=>?_;obtain⟨x,H5,I5,r5,y5,lM,x6⟩:=h5;have x8:=I5.pinned (n9 x6 rz) (T.obj _ _ lM);have q5:=GH _ s5 a H5 x u _ x8 r5 (hτ ▸ i7 x o3 _ H5 _ PU (step o3 x H5 PU y5));rw[eP,eW,eA,eE,eX] at q5;refine aO q5 λ_ s6 h6=>?_;obtain⟨u5,H6,I6,⟨o6,yq,AG⟩,q6⟩:=h6;have q7:=GI _ s6 u5 H6 _ I6 q6;rw[eP,eW,eA,eE,eX] at q7;refine aO q7 λb s7 h7=>?_;obtain⟨H7,I7,q7⟩:=h7;have xG:∀{dC:St} {U:Hp} {s':Â},Inv Y ([(D,f)]++ox t s5.heap) dC U s'->tn (i+1) s'.heap/\∀b∈t,U b=ϋ:=λ{dC U s'} F=>by
    refine⟨T.keep _ _ _ lM λb P o e=>(F.pin (b,o) (Ù _ (Ù _ (rY P e)))).1,λb P=>?_⟩;obtain⟨o,e,_⟩:=T.obj _ _ lM b P;exact(F.pin (b,o) (Ù _ (Ù _ (rY P e)))).2.1
   cases b with
   |false =>
    rw[Ú Ä] at q7 |-;obtain⟨m',hm,w7⟩:=hN _ _ q7;obtain⟨A4,n7⟩:=u4 I7;obtain⟨t7,f7⟩:=xG I7;exact⟨m',hm,i+1,Z,o6,H7,AG ▸ I7.qe (λp L=>by simp at L),yq,t7,f7,A4,n7,w7⟩
   |true =>
    rw[Ñ rfl] at q7 |-;have q8:=hE1 _ s7 u5 H7 _ I7 q7;rw[eP,eW,eA,eE,eX] at q8;refine aO q8 λy s8 h8=>?_;obtain⟨v,H8,I8,r8,q9⟩:=h8;obtain⟨m',hm,w8⟩:=hN _ _ q9;obtain⟨Gw,n8⟩:=u4 I8;obtain⟨t8,f8⟩:=xG I8;have pK:lP (Z++[v]):=by
     rcases turn (i+1) m' (Z++[v]) H8 w8 with q|q
     ·exact q.2.1
     ·exact q.2.1
    refine B.add Gw r8 hz pK λh9 tk9 A3 Gx=>?_;have Gy:Inv Y [] u5 H8 s8:=I8.qe (λp L=>by simp at L)
    have I9:Inv Y [] u5 H8 { s8 with heap:=h9,toks:=tk9 }:=Gy.turned (it:=D) (λb o P e=>(A3.2 b P).trans e) n8 eL (.inr eS) eCl (λp L=>eN p (by simpa using L))
    exact⟨m',hm,i+1,Z++[v],o6,H8,AG ▸ I9,yq,T.keep _ _ _ t8 λb P o e=>(A3.2 b (λz=>n6 (z ▸ P))).trans e,f8,Gx,n8,w8⟩
 exact B.start loop (T.self _ _ _ _ _ (T.keep _ _ _ iZ λb _ o e=>old b o e) loop)
def acz {P:å} {w:ā} {el tg src:ě} {tests:List ě} {sc:ac5} {ps:Pos}:N6 P w (.ListComp el [⟨tg,src,tests,0⟩] sc ps) el tg src tests (newList []) "list.append" (λ_ acc=>.lst acc) (λacc=>acc.length<=Õ) where
 o0:={ cls:=.type "list",dict:=ϋ,data:=.seq ([]:List Ç).toArray }
 live:=rfl
 Ac:=λD acc h=>∃Z,h.PlainList D Z/\Vals acc Z.toList
 clauses:=rfl
 turns:=Sd
 new:=λh=>û h
 start:=codeAny_compStart_list
 init:=λe=>⟨#[],⟨_,e⟩,.nil⟩
 obj:=λ⟨_,⟨_,e⟩,_⟩=>⟨_,e,λ_ z=>by cases z⟩
 iG:=λ⟨Z,⟨n,e⟩,r⟩ k=>⟨Z,⟨n,k _ e⟩,r⟩
 MY:=λX ⟨Z,⟨n,e⟩,r⟩=>⟨X,Z.toList,n,r,by simpa using e⟩
 add:=λ{A s D acc v y Q} ⟨Z,W,r⟩ V X _ q=>wpAny_list_append_plain (hsz:=by have e:=r.length;erw[ö] at e;omega) W λU Y T=>q U s.toks T ⟨Z.push y,Y,by rw[ad3];exact Vals.append r (.cons V .nil)⟩
def Vx (hc:X.calm=ό) (S:wF X sc N nt cap) (i7:pC g nt) (hi:PI X tg src wi)
 (hY:∀(cl:List (Str×Þ)) (C:Þ) (s:Â) (H:Hp) (ex:List Þ) (pn:List (Þ×Obj)),PG (i8 X N sc cl C s H ex pn) tg g/\PF (i8 X N sc cl C s H ex pn) tests tf/\PE (i8 X N sc cl C s H ex pn) el te)
 (hs:∀x,Ć src X.env x=pure x:=by intro _;rfl):PE X (.ListComp el [⟨tg,src,tests,0⟩] sc ps) (wO wi nt cap g tf te):=by
 intro T s σ H Q I h;rw[eval_ListComp];exact Sy acz (use:=ϋ) hc S i7 hi hY hs I h λR Z D C m Y W _ _ _ _ _ _ q=>⟨m,W,λV U=>⟨.ref D,Z,Y V U,rfl,q⟩⟩
end
def DC (sc:ac5) (on:List (Str×Ű)) (oN N:List Str) (nt:Nat) (cap:List Nat):Bool :=
 ώ (sc.kind=.function)&&sc.names.all (λx=>ώ (x.2=.local->sc.names.lookup x.1=ϊ .local))&&sc.names.all (λx=>ώ (x.2=.cell->sc.names.lookup x.1=ϊ .cell)) &&
 sc.names.all (λx=>ώ (x.2=.free->sc.names.lookup x.1=ϊ .free/\(on.lookup x.1=ϊ .cell\/on.lookup x.1=ϊ .free)))&&ώ (N.length=nt+cap.length) &&
 (è cap.length).all (λk=>match cap[k]? with
  |some j=>match oN[j]? with
   |some x=>ώ (N[nt+k]?=ϊ x)&&ώ ((x,î)∈sc.names)
   |none=>ύ
  |none=>ό)
def Eh (h:DC sc X.env.scope.names X.N N nt cap=ό):wF X sc N nt cap:=by
 delta DC at h;erw[Å,ô,Ë] at h;obtain⟨⟨⟨⟨⟨Z,Y⟩,W⟩,V⟩,U⟩,T⟩:=h;refine⟨Z,Y,W,λx S e=>V x S e,U,λk j e=>?_⟩;have R:k<cap.length:=(Ô.mp e).1;have:=T k (ċ.mpr R);rw[e] at this;dsimp only at this
 cases ex:X.N[j]? with
 |none=>rw[ex] at this;cases this
 |some x =>
  rw[ex] at this;erw[Å,Ë] at this;exact⟨x,rfl,this.1,this.2⟩
end L2
namespace DI
open PySem L2
section
variable {X:Cx} {Ξ:Wd->bg->Prop} {e a b c tg el src:ě} {es rest tests:List ě} {pos:Pos} {f g h:aeO D} {fa:aeO (List D)} {ft gt:aeO Bool}
def CS (hc:X.calm=ό) (S:wF X sc N nt cap) (T:Tg X.K g0 gd nt) (hi:PI X tg src (fP X.K Ξ it))
 (hY:∀(cl:List (Str×Þ)) (C:Þ) (s:Â) (H:Hp) (ex:List Þ) (pn:List (Þ×Obj)),PG (i8 X N sc cl C s H ex pn) tg g0/\PF (i8 X N sc cl C s H ex pn) tests (tT X.K cG ft)/\PE (i8 X N sc cl C s H ex pn) el (tE X.K cG f))
 (hs:∀x,Ć src X.env x=pure x:=by intro _;rfl):PE X (.ListComp el [⟨tg,src,tests,0⟩] sc ps) (tE X.K Ξ (cM nt cap it gd ft f)) :=
 cm (Vx hc S T.n5 hi hY hs) fun σ H Q h=>Sv T.imp (λR Z i h=>Vp R Z i h) (Vm σ H Q h)
end
end DI
namespace L2
open PySem PySem.Spec PyProof.Rows
end L2
namespace DI
open PySem L2
end DI
namespace L2
open PySem PySem.Spec PyProof.Rows
end L2
namespace DI
open PySem L2
open HT PyProof.Rows
section
variable {X:Cx} {Ξ:Wd->bg->Prop}
def TY (h:Vals xs us):∀{q:List Nat},(∀i∈q,i<us.length)->Vals (q.map λi=>xs.getD i .ar) (q.map λi=>us.getD i Value.none):=by
 intro q
 induction q with
 |nil=>intro _;exact .nil
 |cons i q ih =>
  intro Z;refine .cons ?_ (ih λj X=>Z j (Ï _ X));have Y:=Z i ß;clear ih Z
  induction h generalizing i with
  |nil=>simp at Y
  |cons a _ ih =>
   cases i with
   |zero=>exact a
   |succ i=>simpa using ih i (by simpa using Y)
def Vy {K:đ} {w:Wd} {ds:List D} {xs:List V} (h:au K w ds xs):∀{q:List Nat},(∀i∈q,i<ds.length)->au K w (q.map λi=>ds.getD i .ar) (q.map λi=>xs.getD i .ar):=by
 intro q
 induction q with
 |nil=>intro _;exact rfl
 |cons i q ih =>
  intro Z;have Y:=Z i ß;obtain⟨v,e,X⟩:=h.get' i _ (Ø Y);refine⟨_,_,rfl,?_,ih λj W=>Z j (Ï _ W)⟩;have e1:ds.getD i .ar=ds[i]:=by simp[Y]
  have e2:xs.getD i .ar=v:=by simp[e]
  show DV K w (ds.getD i .ar) (xs.getD i .ar);rw[e1,e2];exact X
def Vz {α:Type} {O:ST.Ord α} {ks:List α} {f:α->D} {d:α} {q:Array Nat} (hp:ST.Pm ks.length q) (hu:ST.Up O (ST.ky (λi=>ks.getD i d) q) ks.length):q.toList.map (λi=>(ks.map f).getD i .ar)=(ST.dB O ks).map f:=by
 rw[<- ST.TU hp hu,Ġ];refine List.map_congr_left λi Z=>?_;have:i<ks.length:=ċ.mp (hp.2.mem_iff.mp Z);simp[this]
end
end DI
namespace TK
open PySem PySem.W PyProof.Rows DI
mutual
noncomputable def kd:D->Bool
 | .int _=>ό
 | .str x=>Ó x
 | .tup Z=>hU Z
 |_=>ύ
noncomputable def hU:List D->Bool
 | []=>ό
 |k::Z=>kd k&&hU Z
end
mutual
def KA (h:ĺ):D->Ç->Prop
 | .int i,v=>∃t,v=.int i t
 | .str x,v=>∃t,v=.str x t
 | .tup Z,v=>∃a o its n,v=.ref a/\h.get? a=ϊ o/\o.cls=.type "tuple"/\o.data=.seq its n/\gu h Z its.toList
 |_,_=>False
def gu (h:ĺ):List D->List Ç->Prop
 | [],Z=>Z=[]
 |k::Y,Z=>∃v r,Z=v::r/\KA h k v/\gu h Y r
end
mutual
theorem qq:∀k:D,kd k=ό->lay k=ό
 | .int _,_=>rfl
 | .str _,h=>h
 | .tup Z,h=>by erw[kd] at h;erw[lay];exact K5 Z h
 | .ar,h=>by cases h
 | .bl _,h=>by cases h
 | .lst _,h=>by cases h
 | .cx _,h=>by cases h
 | .aj _,h=>by cases h
 | .ty _,h=>by cases h
 | .bO _,h=>by cases h
 | .exc _ _,h=>by cases h
 | .dq _ _ _,h=>by cases h
theorem K5:∀ks:List D,hU ks=ό->cR ks=ό
 | [],_=>rfl
 |k::ks,h=>by
  erw[hU,cR,Å] at h |-;exact⟨qq k h.1,K5 ks h.2⟩
end
mutual
theorem KA.reads:∀(k:D) (v:Ç),KA h k v->∃as,Reads h v (py k) as
 | .int i,v,q=>by obtain⟨t,rfl⟩:=q;exact⟨_,.int i t⟩
 | .str x,v,q=>by obtain⟨t,rfl⟩:=q;exact⟨_,.str x t⟩
 | .tup Z,v,q=>by
  erw[KA] at q;obtain⟨a,o,its,n,rfl,Y,X,W,r⟩:=q;obtain⟨as,r⟩:=gu.reads Z _ r;exact⟨as,.tuple Y X W r⟩
 | .ar,_,q=>by cases q
 | .bl _,_,q=>by cases q
 | .lst _,_,q=>by cases q
 | .cx _,_,q=>by cases q
 | .aj _,_,q=>by cases q
 | .ty _,_,q=>by cases q
 | .bO _,_,q=>by cases q
 | .exc _ _,_,q=>by cases q
 | .dq _ _ _,_,q=>by cases q
theorem gu.reads:∀(ks:List D) (vs:List Ç),gu h ks vs->∃as,ReadsAll h vs (fQ ks) as
 | [],vs,q=>by cases q;exact⟨_,.nil⟩
 |k::ks,vs,q=>by
  obtain⟨v,r,rfl,Z,Y⟩:=q;obtain⟨as,Z⟩:=KA.reads k v Z;obtain⟨bs,Y⟩:=gu.reads ks r Y;exact⟨_,.cons Z Y⟩
end
mutual
theorem KA.keep (hk:∀a o,h.get? a=ϊ o->o.cls=.type "tuple"->(∃its n,o.data=.seq its n)->h'.get? a=ϊ o):∀(x:D) (v:Ç),KA h x v->KA h' x v
 | .int i,v,p=>p
 | .str i,v,p=>p
 | .tup X,v,p=>by
  erw[KA] at p |-;obtain⟨a,o,its,n,e,W,Z,Y,r⟩:=p;exact⟨a,o,its,n,e,hk a o W Z ⟨its,n,Y⟩,Z,Y,gu.keep hk X _ r⟩
 | .ar,_,q=>by cases q
 | .bl _,_,q=>by cases q
 | .lst _,_,q=>by cases q
 | .cx _,_,q=>by cases q
 | .aj _,_,q=>by cases q
 | .ty _,_,q=>by cases q
 | .bO _,_,q=>by cases q
 | .exc _ _,_,q=>by cases q
 | .dq _ _ _,_,q=>by cases q
theorem gu.keep (hk:∀a o,h.get? a=ϊ o->o.cls=.type "tuple"->(∃its n,o.data=.seq its n)->h'.get? a=ϊ o):∀(xs:List D) (vs:List Ç),gu h xs vs->gu h' xs vs
 | [],vs,p=>p
 |x::xs,vs,p=>by
  obtain⟨v,r,e,Z,Y⟩:=p;exact⟨v,r,e,KA.keep hk x v Z,gu.keep hk xs r Y⟩
end
section
variable {prog:å} {w:ā}
instance afK:DecidableEq (List D):=λa b=>Classical.propDecidable (a=b)
end
end TK
namespace TK
open PySem PySem.W PyProof.Rows DI L2
def AllK (w:ā) (aT:List (D×Int)):Prop:=∀p∈aT,∃Z,p.1=.tup Z/\hU Z=ό/\fz Z<=6/\p.2=Y w p.1
def its:D->List D
 | .tup Z=>Z
 |_=>[]
section
variable {X:Cx} {π:List (Þ×Obj)} {σ:L2.St} {s:Â} {w:Wd}
mutual
theorem aaV (I:Inv X π σ w.H s):∀(d:D) (v:V) (u:Ç),kd d=ό->DI.DV X.K w d v->RelV v u->KA s.heap d u
 | .int i,v,u,_,h,r=>by cases h;exact r
 | .str x,v,u,_,h,r=>by cases h;exact r
 | .tup Z,v,u,k,h,r=>by
  erw[DI.DV] at h;obtain⟨a,Y,rfl,W,U⟩:=h;cases r;obtain⟨its,T,⟨o,S,R,n,Q⟩,_⟩:=I.tuple W;erw[kd] at k;erw[KA];exact⟨a,o,_,n,rfl,S,R,Q,DD I Z Y _ k U (by simpa using T)⟩
 | .ar,_,_,k,_,_=>by cases k
 | .bl _,_,_,k,_,_=>by cases k
 | .lst _,_,_,k,_,_=>by cases k
 | .cx _,_,_,k,_,_=>by cases k
 | .aj _,_,_,k,_,_=>by cases k
 | .ty _,_,_,k,_,_=>by cases k
 | .bO _,_,_,k,_,_=>by cases k
 | .exc _ _,_,_,k,_,_=>by cases k
 | .dq _ _ _,_,_,k,_,_=>by cases k
theorem DD (I:Inv X π σ w.H s):∀(ds:List D) (vs:List V) (us:List Ç),hU ds=ό->DI.au X.K w ds vs->Vals vs us->gu s.heap ds us
 | [],vs,us,_,h,r=>by cases h;cases r;rfl
 |d::ds,vs,us,k,h,r=>by
  obtain⟨v,Z,rfl,Y,W⟩:=h;erw[hU,Å] at k
  cases r with
  |cons r U=>exact⟨_,_,rfl,aaV I d v _ k.1 Y r,DD I ds Z _ k.2 W U⟩
end
end
def v5 (k:AllK w aT) (hk:hU ks=ό):(aT.any λp=>beq p.1 (.tup ks))=ό↔D.tup ks∈aT.map (·.1):=by
 rw[ael,ĉ];constructor
 ·rintro ⟨p,Z,Y⟩
  obtain⟨ls,e,X,_⟩:=k p Z;refine⟨p,Z,?_⟩;exact(W p.1 (.tup ks) (by rw[e];simpa only [kd] using X) (by simpa only [kd] using hk)).mp Y
 ·rintro ⟨p,Z,e⟩
  exact⟨p,Z,by rw[e];exact(W _ _ (by simpa only [kd] using hk) (by simpa only [kd] using hk)).mpr rfl⟩
end TK
namespace TK
open PySem PySem.W PyProof.Rows DI L2
open HT
section
variable {s:Â}
def aaW (kx:kd x=ό) (ky:kd y=ό) (hu:A.units+dep x<cLine) (hx:KA s.heap x vx) (hy:KA s.heap y vy):SeqAt.EqAt A s vx vy (beq x y):=by
 obtain⟨as,Z⟩:=KA.reads _ _ hx;obtain⟨bs,Y⟩:=KA.reads _ _ hy;obtain⟨X,W⟩:=nD _ (qq _ kx);obtain⟨V,U⟩:=nD _ (qq _ ky);have:=SeqAt.eqAt_reads _ _ A s vx vy as bs Z Y X V (by rw[W];omega);rw[wz _ _ (qq _ kx) (qq _ ky)] at this;exact this
mutual
theorem aaX:∀(A:í) (x y:D) (b:Bool) (vx vy:Ç),jx x y=ϊ b->kd x=ό->kd y=ό->A.units+5*dep x+5<cLine->KA s.heap x vx->KA s.heap y vy->Fp A s vx vy b
 |A,.int i,y,b,vx,vy,h,_,_,_,Z,Y=>by
  cases y with
  |int j =>
   cases h;obtain⟨t,rfl⟩:=Z;obtain⟨X,rfl⟩:=Y;exact λprog w E Q q=>KO A s i t j X prog w E Q q
  |_=>cases h
 |A,.str i,y,b,vx,vy,h,_,_,_,Z,Y=>by
  cases y with
  |str j =>
   cases h;obtain⟨t,rfl⟩:=Z;obtain⟨X,rfl⟩:=Y;exact λprog w E Q q=>(PyProof.Rows.lt_str q:á (é prog w) A (ĕ .Lt (.str i t) (.str j X)) Q E s)
  |_=>cases h
 |A,.tup U,y,b,vx,vy,h,W,ky,T,Z,Y=>by
  cases y with
  |tup S =>
   erw[jx] at h;erw[KA] at Z Y;obtain⟨a,o,its,n,rfl,R,P,O,r⟩:=Z;obtain⟨G,N,V,M,rfl,L,K,J,I⟩:=Y;erw[dep] at T;erw[kd] at W ky;exact λprog w E Q q=>LV ⟨o,R,P,n,O⟩ ⟨N,L,K,M,J⟩ (λH F=>DE H U S b _ _ h W ky ⋯ r I) ⋯ q
  |_=>cases h
 |_,.ar,_,_,_,_,_,k,_,_,_,_=>by cases k
 |_,.bl _,_,_,_,_,_,k,_,_,_,_=>by cases k
 |_,.lst _,_,_,_,_,_,k,_,_,_,_=>by cases k
 |_,.cx _,_,_,_,_,_,k,_,_,_,_=>by cases k
 |_,.aj _,_,_,_,_,_,k,_,_,_,_=>by cases k
 |_,.ty _,_,_,_,_,_,k,_,_,_,_=>by cases k
 |_,.bO _,_,_,_,_,_,k,_,_,_,_=>by cases k
 |_,.exc _ _,_,_,_,_,_,k,_,_,_,_=>by cases k
 |_,.dq _ _ _,_,_,_,_,_,k,_,_,_,_=>by cases k
theorem DE:∀(A:í) (xs ys:List D) (b:Bool) (ps qs:List Ç),jO xs ys=ϊ b->hU xs=ό->hU ys=ό->A.units+5*fz xs+5<cLine->gu s.heap xs ps->gu s.heap ys qs->jD A s ps qs b
 |A,[],ys,b,ps,qs,h,_,_,_,V,Z=>by
  cases V
  cases ys with
  |nil=>cases h;cases Z;exact .nn
  |cons y ys=>cases h;obtain⟨v,r,rfl,_⟩:=Z;exact .nc _ _
 |A,x::xs,ys,b,ps,qs,h,Y,ky,T,V,Z=>by
  obtain⟨v,r,rfl,U,S⟩:=V
  cases ys with
  |nil=>cases h;cases Z;exact .cn _ _
  |cons y ys =>
   obtain⟨u,R,rfl,g1,g2⟩:=Z;erw[hU,Å] at Y ky;erw[fz] at T;have Q:=Nat.le_max_left (dep x) (fz xs);have P:=Nat.le_max_right (dep x) (fz xs);have X:=aaW (A:=A) Y.1 ky.1 ⋯ U g1;erw[jO] at h;split at h
   ·rename_i W
    rw[W] at X;exact .eq X (DE A xs ys b _ _ h Y.2 ky.2 ⋯ S g2)
   ·rename_i W
    rw[ads] at W;rw[W] at X;exact .lt X (aaX A x y b _ _ h Y.1 ky.1 ⋯ U g1)
end
end
section
variable {prog:å} {w:ā} {A:í} {E:Ç->Â->Prop} {s:Â}
def TZ (h:jD A s xs ys b):∀(i:Nat),fin=ώ (xs.length<ys.length)->Q b s->KatLex prog w A t fin Q (xs.zip ys) (i+1) s:=by
 induction h with
 |nn=>intro i Z q;rw[Z];exact q
 |nc y ys=>intro i Z q;rw[Z];exact q
 |cn x xs=>intro i Z q;rw[Z];exact q
 |eq Y _ ih =>
  intro i Z q;rw[Ĺ];exact kat_cons (Y prog w _ _ (kat_yes (ih (i+1) (by rw[Z];simp) q)))
 |lt Y X =>
  intro i Z q;rw[Ĺ];refine kat_cons (Y prog w _ _ (kat_no ?_));rw[show (t&&(i+1==0))=ύ by simp];exact kat_one _ _ (X prog w _ _ q)
def T4 (hs:x=y->jD A s xs ys b) (hf:fin=ώ (xs.length<ys.length)) (q:Q (if x=y then b else ώ (x.cps.toList<y.cps.toList)) s) :
  KatLex prog w A ό fin Q ((.str x t::xs).zip (.str y u::ys)) 0 s:=by
 rw[Ĺ];refine kat_cons (wpAny_eqBool_str ?_);by_cases e:x=y
 ·rw[Ñ e] at q
  rw[È e];exact kat_yes (TZ (hs e) 0 hf q)
 ·rw[Ú e] at q
  rw[Ì e];exact kat_no (oneLt_str q)
end
inductive Pg where
 |made (m d:Int) (h l:List Int)
 |c8 (m d k:Int)
def ti (l:List Int):D:=.tup (l.map D.int)
def Pg.d:Pg->D
 | .made m d h l=>.tup [.str "made",.int m,.int d,.tup [ti h,ti l]]
 | .c8 m d k=>.tup [.str "mended",.int m,.int d,.int k]
def MZ (h:ti a=ti b):a=b:=by
 injection h with h
 exact List.map_inj_right (λx y e=>by injection e) |>.mp h
def Pg.aaY {p q:Pg} (h:p.d=q.d):p=q:=by
 cases p<;>cases q<;>erw[Pg.d,D.tup.injEq,Ÿ,D.int.injEq,and_true,reduceCtorEq,and_false,false_and] at h
 ·obtain⟨_,Z,Y,X,W⟩:=h
  rw[Z,Y,MZ X,MZ W]
 ·obtain⟨_,Z,Y,X⟩:=h
  rw[Z,Y,X]
def encL:List Int->List Int
 | []=>[0]
 |x::Z=>1::x::encL Z
def Pg.enc:Pg->List Int
 | .made m d h l=>0::m::d::(encL h++encL l)
 | .c8 m d k=>[1,m,d,k]
theorem Cg:∀{a b u v:List Int},encL a++u=encL b++v->a=b/\u=v
 | [],[],u,v,h=>by simpa [encL] using h
 | [],y::b,u,v,h=>by simp[encL] at h
 |x::a,[],u,v,h=>by simp[encL] at h
 |x::a,y::b,u,v,h=>by
  erw[encL,ħ,Ÿ,true_and] at h;obtain⟨Z,Y⟩:=Cg h.2;exact⟨by rw[h.1,Z],Y⟩
def Pg.Xk {p q:Pg} (h:p.enc=q.enc):p=q:=by
 cases p<;>cases q<;>erw[Pg.enc,Ÿ,and_true,true_and,reduceCtorEq,false_and,Int.reduceEq] at h
 ·obtain⟨Y,X,W⟩:=h
  have Z:=Cg (u:=encL _++[]) (v:=encL _++[]) (by simpa using W);have V:=Cg Z.2;rw[Y,X,Z.1,V.1]
 ·rw[h.1,h.2.1,h.2.2]
def cy:ST.Ord Pg where
 lt p q:=lexLt p.enc q.enc
 yt p:=ST.CQ _
 tr _ _ _ h g:=ST.Zb _ _ _ h g
 yu _ _ h g:=Pg.Xk (ST.Xj _ _ h g)
theorem Ko:∀a b:List Int,oW (a.map D.int) (b.map D.int)=ώ (a=b)
 | [],[]=>rfl
 | [],_::_=>rfl
 |_::_,[]=>rfl
 |x::a,y::b=>by
  erw[à,oW,beq,Ko a b]
  by_cases e:x=y<;>simp[e]
theorem Kq:∀a b:List Int,jO (a.map D.int) (b.map D.int)=ϊ (lexLt a b)
 | [],[]=>rfl
 | [],_::_=>rfl
 |_::_,[]=>rfl
 |x::a,y::b=>by
  erw[à,jO,beq,jx,j4,Kq a b]
  by_cases e:x=y<;>simp[e]
theorem CU:∀a b u v:List Int,lexLt (encL a++u) (encL b++v)=if a=b then lexLt u v else lexLt a b
 | [],[],u,v=>by simp[encL,j4]
 | [],y::b,u,v=>by simp[encL,j4];rfl
 |x::a,[],u,v=>by simp[encL,j4];rfl
 |x::a,y::b,u,v=>by
  erw[encL,ħ,j4,ò,CU a b u v,Ÿ]
  by_cases e:x=y<;>simp[e]
def N7 (p q:Pg):jx p.d q.d=ϊ (cy.lt p q):=by
 have T:¬ ((Ĉ "made")=Ĉ "mended"):=nofun
 have S:¬ ((Ĉ "mended")=Ĉ "made"):=nofun
 have R:ώ ((Ĉ "made").cps.toList<(Ĉ "mended").cps.toList)=ό:=nofun
 have Q:ώ ((Ĉ "mended").cps.toList<(Ĉ "made").cps.toList)=ύ:=nofun
 show _=ϊ (lexLt p.enc q.enc)
 cases p with
 |made m d h l =>
  cases q with
  |made Z Y V X =>
   erw[Pg.d,Pg.enc,jx,jO,beq,oW,ti,j4,Ko,Kq,CU,Ė,ò,aeo];have:=CU l X [] [];erw[Ħ] at this;rw[this]
   by_cases e1:m=Z<;>by_cases e2:d=Y<;>by_cases W:h=V<;>by_cases P:l=X<;>simp[e1,e2,W,P,ST.CQ]
  |c8 Z Y U=>erw[Pg.d,Pg.enc,jx,jO,beq,j4,beq_iff_eq,T,R,ï];simp
 |c8 m d k =>
  cases q with
  |made Z Y V X=>erw[Pg.d,Pg.enc,jx,jO,beq,j4,beq_iff_eq,S,Q,ï];simp
  |c8 Z Y U =>
   erw[Pg.d,Pg.enc,jx,jO,beq,j4,Ė,ò]
   by_cases e1:m=Z<;>by_cases e2:d=Y<;>by_cases W:k=U<;>simp[e1,e2,W,ST.CQ]
def Xl (l:List Int):hU (l.map D.int)=ό:=by
 induction l with
 |nil=>rfl
 |cons x l ih=>simpa only [à,hU,kd,ú] using ih
def VA (l:List Int):fz (l.map D.int)=0:=by
 induction l with
 |nil=>rfl
 |cons x l ih=>erw[à,fz,dep,ih];rfl
def Af (p:Pg):kd p.d=ό:=by
 have Z:Ó "made"=ό:=nofun
 have Y:Ó "mended"=ό:=nofun
 cases p<;>erw[Pg.d,kd,hU,ti,Xl,Z,Y,ĵ]
def zI (p:Pg):dep p.d<=3:=by
 cases p<;>erw[Pg.d,dep,fz,ti,VA]<;>decide
def VB (p:Pg):∃(x:Str) (r:List D),p.d=.tup (.str x::r):=by
 cases p<;>exact⟨_,_,rfl⟩
def Ei {h:ĺ} {p:Pg} {v:Ç} (q:KA h p.d v):∃(x:Str) (r:List D) (a:Þ) (o:Obj) (its:Array Ç) (n:Nat) (t:Tok) (us:List Ç),p.d=.tup (.str x::r)/\v=.ref a/\h.get? a=ϊ o/\o.cls=.type "tuple"/\o.data=.seq its n/\its.toList=.str x t::us/\gu h r us/\hU r=ό:=by
 obtain⟨x,r,e⟩:=VB p;have k:=Af p;rw[e] at q k;erw[KA] at q;obtain⟨a,o,its,n,e1,Z,Y,X,u,us,e2,⟨t,W⟩,V⟩:=q;erw[kd,hU,Å] at k;exact⟨x,r,a,o,its,n,t,us,e,e1,Z,Y,X,by rw[e2,W],V,k.2⟩
section
variable {prog:å} {w:ā} {A:í} {E:Ç->Â->Prop} {s:Â}
def T5:∀{ps:List Pg} {us:List Ç},gu s.heap (ps.map Pg.d) us->∃fs,KatTups s.heap us fs/\(∀v∈fs,∃x t,v=Value.str x t)/\fs.length=us.length:=by
 intro ps
 induction ps with
 |nil=>intro us h;cases h;exact⟨[],KatTups.nil,λv (hv:v∈[])=>(ć hv).elim,rfl⟩
 |cons p ps ih =>
  intro us h;obtain⟨v,r,rfl,Z,Y⟩:=h;obtain⟨fs,X,W,V⟩:=ih Y;obtain⟨x,_,a,o,its,n,t,Q,_,rfl,U,T,S,R,_⟩:=Ei Z;refine⟨.str x t::fs,.cons U T S (by rw[<- į,R];rfl) X,λv hv=>?_,by simp[V]⟩
  rcases Û.mp hv with rfl|hv
  ·exact⟨x,t,rfl⟩
  ·exact W v hv
def kas_get:∀{ds:List D} {us:List Ç},gu h ds us->∀i,i<us.length->KA h (ds.getD i .ar) (us.getD i Value.none):=by
 intro ds
 induction ds with
 |nil=>intro us h i Z;cases h;cases Z
 |cons d ds ih =>
  intro us h i Z;obtain⟨v,r,rfl,Y,X⟩:=h
  cases i with
  |zero=>exact Y
  |succ i=>exact ih X i (by simpa using Z)
def Xm:∀{ds:List D} {us:List Ç},gu h ds us->ds.length=us.length:=by
 intro ds
 induction ds with
 |nil=>intro us h;cases h;rfl
 |cons d ds ih=>intro us h;obtain⟨v,r,rfl,Y,Z⟩:=h;simp[ih Z]
def Zg (hu:A.units+100<cLine) (h1:KA s.heap p.d v) (h2:KA s.heap q.d u) (hC:C (cy.lt p q) s):á (é prog w) A (keyLt' (tuples' ό) v u) C E s:=by
 obtain⟨x,r,a,o,its,n,t,L,e,rfl,U,K,T,X,S,k⟩:=Ei h1;obtain⟨Z,R,J,I,W,H,G,Q,P,rfl,O,F,N,V,Y,M⟩:=Ei h2;have dl:=zI p;rw[e] at dl;erw[dep,fz] at dl;have lt:=N7 p q;rw[e,P] at lt;erw[jx,jO] at lt;have be:beq (.str x) (.str Z)=ό↔x=Z:=by simp[beq]
 refine kat_lt U T O N ?_;rw[X,V];refine T4 (b:=cy.lt p q) (λex=>?_) ?_ ?_
 ·rw[Ñ (be.mpr ex)] at lt
  exact DE A r R _ _ _ lt k M (by have:=Nat.le_max_right (0:Nat) (fz r);omega) S Y
 ·simp[<- ö,X,V]
 ·by_cases ex:x=Z
  ·rw[Ñ ex];exact hC
  ·rw[Ú λz=>ex (be.mp z)] at lt
   rw[Ú ex,aeT lt];exact hC
def VD {us:List Ç} {ps:List Pg} (t:gu s.heap (ps.map Pg.d) us) (h2:2<=us.length) (hu:A.units+100<cLine) (d:Pg):ST.AH prog w A cy (λi=>ps.getD i d) us s:=by
 obtain⟨fs,Y,X,R⟩:=T5 t;have W:=Xm t;rw[É] at W;have at_:∀i,i<us.length->KA s.heap (ps.getD i d).d (us.getD i Value.none):=λi Z=>by
  have:=kas_get t i Z;rwa [show (ps.map Pg.d).getD i .ar=(ps.getD i d).d by simp[Ŷ,ê,Ø (show i<ps.length by omega)]] at this
 delta ST.AH;refine kat_kind (T:=.type "str") Y ⋯ (λv V=>?_) (by decide) ⟨rfl,λi j C Z U S=>?_⟩
 ·obtain⟨x,Q,rfl⟩:=X v V
  exact .of_pure rfl
 ·exact Zg hu (at_ i Z) (at_ j U) S
end
end TK
namespace TK
open PySem PySem.W PyProof.Rows DI L2
open Classical in
def xb (xs:List D):Option D:=if h:∃Z:List Pg,xs=Z.map Pg.d then ϊ (.lst ((ST.dB cy (Classical.choose h)).map Pg.d)) else ϋ
def Sz:∀{a b:List Pg},a.map Pg.d=b.map Pg.d->a=b:=λh=>List.map_inj_right (λ_ _ e=>Pg.aaY e) |>.mp h
def K6 (ps:List Pg):xb (ps.map Pg.d)=ϊ (.lst ((ST.dB cy ps).map Pg.d)):=by
 delta xb;have h:∃Z:List Pg,ps.map Pg.d=Z.map Pg.d:=⟨ps,rfl⟩;rw[dif_pos h];have:=Sz (Classical.choose_spec h);rw[<- this]
section
variable {X:Cx} {Ξ:Wd->bg->Prop}
def Xn (ps:List Pg):hU (ps.map Pg.d)=ό:=by
 induction ps with
 |nil=>rfl
 |cons p ps ih=>erw[à,hU,Af,ih,ĵ]
end
def Ej (f:DI.aeO D):DI.aeO D:=λenv s=>ai (f env s) λx s=>ai (truth x s) λb s=>ok (.bl (!b)) s
def Zh (ha:PE X a (tE X.K Ξ f)):PE X (.UnaryOp .Not a pos) (tE X.K Ξ (Ej f)):=by
 intro Y s σ H Q I zzz;obtain⟨w,env,rfl,S,U,h⟩:=zzz;refine UnaryOp_ (aO (ha Y s σ w.H (λv W=>∃b,qO X.K v W b/\Q (.bl (!b)) W) I ⟨w,env,rfl,S,U,(Out.ai h).mono λE x D V T v R=>?_⟩) λv P ⟨x,O,N,M,b,L,J⟩=>?_)
 ·obtain⟨b,t,G⟩:=qO.of V R (Out.ai T)
  exact⟨b,t,aB V G _ rfl⟩
 ·refine not_of (ė (Dq Y P σ O x v (λc Z=>Q (.bl (!c)) Z) N M ⟨b,L,J⟩) (λc C ⟨Z,F,q⟩=>⟨.bl (!c),Z,F,rfl,q⟩) λ_ _ z=>z)
end TK
namespace ST
open PySem PySem.Spec PyProof.Rows
end ST
namespace DI
open PySem L2
end DI
namespace L2
open PySem PySem.Spec PyProof.Rows
def xI (acc:List (Key×V)) (p:Key×V):List (Key×V):=match p.2 with
 | .int n=>putK acc (.inl n) (kV p.1)
 |_=>acc
end L2
namespace DI
open PySem L2
end DI
namespace L2
open PySem PySem.Spec PyProof.Rows
end L2
namespace DI
open PySem L2
end DI
namespace L2
open PySem PySem.Spec PyProof.Rows
end L2
namespace DI
open PySem L2
section
variable {X:Cx} {Ξ:Wd->bg->Prop} {pos:Pos}
def Zi:PE X (.Dict [] [] pos) (tE X.K Ξ (eC (.cx []))):=cm U8 fun σ H Q W=>by
 obtain⟨w,env,V,S,U,h⟩:=W;subst V;intro p Y;exact h (w.grow p (.dK [])) (Fw.grow Y).le (S.grow Y) rfl (.ref p) ⟨p,rfl,(show ¬ w.Z p from me S Y),cP⟩
end
end DI
namespace L2
open PySem PySem.Spec PyProof.Rows
end L2
namespace DI
open PySem L2
end DI
namespace L2
open PySem PySem.Spec PyProof.Rows
open AutoSeq1 (wpAny_loadPart')
end L2
namespace DI
open PySem L2
end DI
namespace L2
open PySem PySem.Spec PyProof.Rows
section
variable {X:Cx} {pos:Pos}
def aaZ (i j k:Nat) (ta:TA):TS:=λD σ H=>ta σ H λZ Y=>∃v w u,Z=[v,w,u]/\D.nx (((σ.set i (ϊ v)).set j (ϊ w)).set k (ϊ u)) Y
def vals3 (r:Vals [v,w,u] us):∃a b c,us=[a,b,c]/\RelV v a/\RelV w b/\RelV u c:=by
 cases r with
 |cons p q =>
  obtain⟨b,c,rfl,Z,Y⟩:=vals2 q;exact⟨_,b,c,rfl,p,Z,Y⟩
def Xo {kt k2 iY} (hc:X.calm=ό) (hN:X.N.Nodup) (hi:X.N[i]?=ϊ x) (hj:X.N[j]?=ϊ y) (hk:X.N[k]?=ϊ z) (fC:i≠j) (rm:i≠k) (GU:j≠k)
 (hx:X.env.scope.names.lookup x=ϊ .local) (hy:X.env.scope.names.lookup y=ϊ .local) (hz:X.env.scope.names.lookup z=ϊ .local) (ha:PA X [a,b,c] ta)
 (hw:ac7 [.Tuple [.Name x px,.Name y py,.Name z pz] kt pt] (.Tuple [a,b,c] k2 iY) X.env=pure (ϊ [x,y,z]))
 (hs:ac6 [.Tuple [.Name x px,.Name y py,.Name z pz] kt pt] (.Tuple [a,b,c] k2 iY) pos.line X.env=pure ύ) :
  PS X (.Assign [.Tuple [.Name x px,.Name y py,.Name z pz] kt pt] (.Tuple [a,b,c] k2 iY) pos) (aaZ i j k ta):=by
 intro U s σ H D I h;rw[exec_Assign_arm];refine À (Ż ?_);rw[hs];refine À (Ã ?_);rw[Ú (by decide)];refine À (Tuple_ (aO (ha _ U s σ H _ I h) λB Z R=>?_));obtain⟨t,T,Q,P,v,w,u,e1,O⟩:=R;subst e1;obtain⟨Y,W,V,rfl,M,L,K⟩:=vals3 P;refine û ?_ (by show 3<=Õ;decide)
 have J:Inv X U σ T { Z with heap:=Z.heap.push { cls:=.type "tuple",data:=.seq [Y,W,V].toArray } }:=Q.kept (t':=Z.toks) λb o e=>Á _ e
 rw[hw];refine À (Ã ?_)
 show á (é X.prog X.w) X.A (do rule "assign.swapped-stores";let items <- unpackItems (.ref Z.heap.objs.size) 3 ϋ;adH [λv=>ad7 X.env z v,λv=>ad7 X.env y v,λv=>ad7 X.env x v] items.reverse;pure Flow.next) _ _ _
 refine À (Ŵ (À (unpackItems_tuple (items:=#[Y,W,V]) (I.ok.hd hc) (IsTup.new Z.heap _) λh' G=>?_)));have F:=J.kept (h':=h') (t':=Z.toks) λb o e=>G b o (ã (Ð e)) e
 show á _ _ (adH [λv=>ad7 X.env z v,λv=>ad7 X.env y v,λv=>ad7 X.env x v] [V,W,Y] >>= λ_=>pure Flow.next) _ _ _
 refine À (ŧ (ad8 (oq F hN hk (.inl hz) K (λr E=>?_) (.inr hz))));refine ŧ (ad8 (oq E hN hj (.inl hy) L (λq C=>?_) (.inr hy)));refine ŧ (ad8 (oq C hN hi (.inl hx) M (λp S=>assignInOrder_nil (Ã ?_)) (.inr hx)));rw[List.set_comm _ _ (ź GU),List.set_comm _ _ (ź rm),List.set_comm _ _ (ź fC)] at S;exact⟨_,T,S,O⟩
end
end L2
namespace DI
open PySem L2
section
variable {X:Cx} {Ξ:Wd->bg->Prop} {a b c:ě} {pos:Pos} {fa:aeO (List D)}
def AI (i j k:Nat) (fa:aeO (List D)):aeO Fl:=λenv s=>ai (fa env s) λZ s=>match Z with
 | [x,y,z]=>ok (.nx (((env.set i (ϊ x)).set j (ϊ y)).set k (ϊ z))) s
 |_=>ϋ
def Zj (i j k:Nat) {x y z:Str} {px py pz pt:Pos} {kt k2 iY} (hc:X.calm=ό) (hN:X.N.Nodup) (ha:PA X [a,b,c] (tA X.K Ξ fa)) (hi:X.N[i]?=ϊ x:=by rfl) (hj:X.N[j]?=ϊ y:=by rfl) (hk:X.N[k]?=ϊ z:=by rfl) (fC:i≠j:=by decide) (rm:i≠k:=by decide) (GU:j≠k:=by decide)
  (hx:X.env.scope.names.lookup x=ϊ .local:=by rfl) (hy:X.env.scope.names.lookup y=ϊ .local:=by rfl) (hz:X.env.scope.names.lookup z=ϊ .local:=by rfl)
  (hw:ac7 [.Tuple [.Name x px,.Name y py,.Name z pz] kt pt] (.Tuple [a,b,c] k2 iY) X.env=pure (ϊ [x,y,z]):=by rfl)
  (hs:ac6 [.Tuple [.Name x px,.Name y py,.Name z pz] kt pt] (.Tuple [a,b,c] k2 iY) pos.line X.env=pure ύ:=by rfl) :
  PS X (.Assign [.Tuple [.Name x px,.Name y py,.Name z pz] kt pt] (.Tuple [a,b,c] k2 iY) pos) (tS X.K Ξ (AI i j k fa)):=kZ (Xo hc hN hi hj hk fC rm GU hx hy hz ha hw hs) λL σ H W=>by
 obtain⟨w,env,V,S,Y,h⟩:=W;subst V;refine⟨w,env,rfl,S,Y,(Out.ai h).mono λJ I U T Z G R=>?_⟩;split at Z
 ·obtain⟨v,r,rfl,Q,P⟩:=R
  obtain⟨u,t,rfl,O,M⟩:=wA P;exact⟨v,u,t,rfl,aB T Z _ ((((Y.le U).set Q i).set O j).set M k)⟩
 ·exact Z.elim
end
def rS:List D->ae->Res D:=aD 2 2 (aA (uj (eB ux (af (cM 1 [1] (cI (aa 0)) (gN 0) cT (e2 ff (aa 0) (aa 1))) ah))))
def pX:List D->ae->Res D:=aD 1 3 (aq (aM (eU (cV (cu (eB gU (af (aa 0) (af (eC (.ty "tuple")) ah))))) (aW (e2 ee (eB cJ (af (aa 0) ah)) (eC (.int 2))))) (aA (eC (.bl ύ))) bH) (aq (bc (aa 0) (gT [(gN 1),(gN 2)])) (aA (cO (aG vD (af (aa 1) ah)) (cO (aG vD (af (aa 2) ah)) (aG rS (af (aa 1) (af (aa 2) ah))))))))
def se:List D->ae->Res D:=aD 1 1 (aA (aG rZ (af (aa 0) (af (eC (.int (4))) ah))))
def sD:List D->ae->Res D:=aD 1 1 (aA (aG rZ (af (aa 0) (af (eC (.int (31))) ah))))
def su:List D->ae->Res D:=aD 1 5 (aq (aM (eU (cV (cu (eB gU (af (aa 0) (af (eC (.ty "tuple")) ah))))) (aW (e2 ee (eB cJ (af (aa 0) ah)) (eC (.int 4))))) (aA (eC (.bl ύ))) bH) (aq (bc (aa 0) (gT [(gN 1),(gN 2),(gN 3),(gN 4)])) (aq (aM (eU (cV (cu (aG se (af (aa 2) ah)))) (cV (cu (aG sD (af (aa 3) ah))))) (aA (eC (.bl ύ))) bH) (aq (aM (aW (e2 aX (aa 1) (eC (.str "made")))) (aA (aG pX (af (aa 4) ah))) bH) (aA (cO (e2 aX (aa 1) (eC (.str "mended"))) (aG sr (af (aa 4) ah))))))))
def yW:List D->ae->Res D:=aD 1 1 (aA (cO (eB gU (af (aa 0) (af (eC (.ty "tuple")) ah))) (cO (e2 lB (eB cJ (af (aa 0) ah)) (eC (.int (24)))) (cO (eB mz (af (cM 1 [] (cI (aa 0)) (gN 0) cT (aG su (af (aa 0) ah))) ah)) (aG pV (af (aa 0) ah))))))
def l8:List D->ae->Res D:=aD 4 4 (aA (cM 1 [1,2,3] (cI (aa 0)) (gN 0) (jh (aW (e2 aX (e2 ay (aa 0) (eC (.int 0))) (eC (.str "made")))) (jh (aW (e2 aX (e2 ay (aa 0) (eC (.int 1))) (aa 1))) (aW (e2 ff (aa 2) (e2 ay (e2 ay (aa 0) (eC (.int 3))) (aa 3)))))) (e2 ay (aa 0) (eC (.int 2)))))
def rP:List D->ae->Res D:=aD 3 3 (aA (cM 1 [1,2] (cI (aa 0)) (gN 0) (jh (aW (e2 aX (e2 ay (aa 0) (eC (.int 0))) (eC (.str "mended")))) (jh (aW (e2 aX (e2 ay (aa 0) (eC (.int 1))) (aa 1))) (aW (e2 aX (e2 ay (aa 0) (eC (.int 3))) (aa 2))))) (e2 ay (aa 0) (eC (.int 2)))))
def yF:List D->ae->Res D:=aD 3 3 (aA (eB ux (af (cM 1 [1,2] (cI (aa 0)) (gN 0) cT (pL kD lB (aa 1) (aa 0) (aa 2))) ah)))
def vL:List D->ae->Res D:=aD 3 5 (aq (bc (aG l8 (af (aa 0) (af (aa 1) (af (aa 2) (af (eC (.int (1))) ah))))) (gN 3)) (aq (bc (aG rP (af (aa 0) (af (aa 1) (af (aa 2) ah)))) (gN 4)) (aA (Dz 2 [3,4] (cI (e1 sy (aG l8 (af (aa 0) (af (aa 1) (af (aa 2) (af (eC (.int (0))) ah))))))) (gN 0) cT (A1 (af (aa 0) (af (eC (.int (31))) ah))) (gN 1) (jh (eU (aW (e2 ff (aa 1) (aa 2))) (jh (aW (e2 aX (aa 1) (aa 0))) (aW (e2 ff (aa 0) (aa 3))))) (cV (cu (aG yF (af (aa 3) (af (aa 0) (af (aa 1) ah))))))) (cZ (af (aa 0) (af (aa 1) ah)))))))
def yR:List D->ae->Res D:=aD 1 1 (aA (MT 4 [0] (iK (af (eC (.int (4))) ah)) (gN 0) cT (iK (af (eC (.int (8))) ah)) (gN 1) cT (cI (aG vL (af (aa 4) (af (aa 0) (af (aa 1) ah))))) (gT [gN 2,gN 3]) cT (cZ (af (aa 0) (af (aa 1) (af (aa 2) (af (aa 3) ah)))))))
def sv:List D->ae->Res D:=aD 1 1 (aA (cO (aG yW (af (aa 0) ah)) (TK.Ej (aG yR (af (aa 0) ah)))))
def yH:List D->ae->Res D:=aD 3 8 (aq (bc (aG l8 (af (aa 0) (af (aa 1) (af (aa 2) (af (eC (.int (0))) ah))))) (gN 3)) (aq (bc (aG rP (af (aa 0) (af (aa 1) (af (aa 2) ah)))) (gN 4)) (aq (bc (eNew ah) (gN 5)) (aq (bc (eC (.bl ύ)) (gN 6)) (aq (lA (iK (af (eC (.int (31))) ah)) (gN 7) (aq (bc (lT (e2 ff (aa 7) (aa 3)) (cO (aa 6) (e2 fV (aa 7) (aa 4)))) (gN 6)) (aM (cu (aa 6)) (cF (mB (aa 5) (aa 7))) bH))) (aA (oV (aa 5))))))))
def yJ:List D->ae->Res D:=aD 3 8 (aq (bc (aG l8 (af (aa 0) (af (aa 1) (af (aa 2) (af (eC (.int (1))) ah))))) (gN 3)) (aq (bc (aG rP (af (aa 0) (af (aa 1) (af (aa 2) ah)))) (gN 4)) (aq (bc (eNew ah) (gN 5)) (aq (bc (eC (.bl ύ)) (gN 6)) (aq (lA (GS (af (eC (.int (31))) ah)) (gN 7) (aq (aM (eU (cu (aa 6)) (eU (aW (e2 ff (aa 7) (aa 3))) (aW (e2 ff (aa 7) (aa 4))))) (cF (mB (aa 5) (aa 7))) bH) (bc (cO (lT (aa 6) (e2 ff (aa 7) (aa 3))) (e2 fV (aa 7) (aa 4))) (gN 6)))) (aA (oV (aa 5))))))))
def vJ:List D->ae->Res D:=aD 2 2 (aA (eB mf (af (cM 1 [1,0] (iK (af (eC (.int (8))) ah)) (gN 0) (aW (e2 ff (aa 1) (e2 ay (aa 2) (aa 0)))) (aa 0)) ah)))
def rQ:List D->ae->Res D:=aD 2 4 (aq (bc (cM 1 [0,1] (iK (af (eC (.int (8))) ah)) (gN 0) cT (aG yH (af (aa 1) (af (aa 2) (af (aa 0) ah))))) (gN 2)) (aq (bc (cM 1 [0,1] (iK (af (eC (.int (8))) ah)) (gN 0) cT (aG yJ (af (aa 1) (af (aa 2) (af (aa 0) ah))))) (gN 3)) (aA (cM 1 [2,3] (iK (af (eC (.int (31))) ah)) (gN 0) cT (cZ (af (aG vJ (af (aa 1) (af (aa 0) ah))) (af (aG vJ (af (aa 2) (af (aa 0) ah))) ah)))))))
open Classical in
def notStar:ě->Bool
 | .Starred ..=>ύ
 |_=>ό
def Xp (h:notStar e=ό):Í (e::es) env=(ύ,ķ e env)::Í es env:=by
 cases e<;>first|rfl|cases h
section
variable {X:Cx} {Ξ:Wd->bg->Prop} {e:ě} {es:List ě} {f:aeO D} {fa:aeO (List D)} {pos:Pos}
def fW (ha:PE X e (tE X.K Ξ f)) (hr:PA X es (tA X.K Ξ fa)) (h:notStar e=ό):PA X (e::es) (tA X.K Ξ (af f fa)):=bB ha hr (Xp h)
def Zk {e1 e2 e3 e4 e5 e6 e7 e8:ě} {f1 f2 f3 f4 f5 f6 f7 f8:aeO D} (h1:PE X e1 (tE X.K Ξ f1)) (h2:PE X e2 (tE X.K Ξ f2)) (h3:PE X e3 (tE X.K Ξ f3)) (h4:PE X e4 (tE X.K Ξ f4)) (h5:PE X e5 (tE X.K Ξ f5)) (h6:PE X e6 (tE X.K Ξ f6)) (h7:PE X e7 (tE X.K Ξ f7)) (h8:PE X e8 (tE X.K Ξ f8)) (s1:notStar e1=ό:=by rfl) (s2:notStar e2=ό:=by rfl) (s3:notStar e3=ό:=by rfl) (s4:notStar e4=ό:=by rfl) (s5:notStar e5=ό:=by rfl) (s6:notStar e6=ό:=by rfl) (s7:notStar e7=ό:=by rfl) (s8:notStar e8=ό:=by rfl):PE X (.List [e1,e2,e3,e4,e5,e6,e7,e8] pos) (tE X.K Ξ (fe (af f1 (af f2 (af f3 (af f4 (af f5 (af f6 (af f7 (af f8 ah)))))))))):=ib (fW h1 (fW h2 (fW h3 (fW h4 (fW h5 (fW h6 (fW h7 (fW h8 dU s8) s7) s6) s5) s4) s3) s2) s1)
end
section
variable {X:Cx} {Ξ:Wd->bg->Prop} {pos:Pos}
def Xq {e1 e2 e3 e4 e5 e6 e7 e8 e9 GV GW:ě} {f1 f2 f3 f4 f5 f6 f7 f8 f9 PX PY:aeO D} (h1:PE X e1 (tE X.K Ξ f1)) (h2:PE X e2 (tE X.K Ξ f2)) (h3:PE X e3 (tE X.K Ξ f3)) (h4:PE X e4 (tE X.K Ξ f4)) (h5:PE X e5 (tE X.K Ξ f5)) (h6:PE X e6 (tE X.K Ξ f6)) (h7:PE X e7 (tE X.K Ξ f7)) (h8:PE X e8 (tE X.K Ξ f8)) (h9:PE X e9 (tE X.K Ξ f9)) (h10:PE X GV (tE X.K Ξ PX)) (pF:PE X GW (tE X.K Ξ PY)) (s1:notStar e1=ό:=by rfl) (s2:notStar e2=ό:=by rfl) (s3:notStar e3=ό:=by rfl) (s4:notStar e4=ό:=by rfl) (s5:notStar e5=ό:=by rfl) (s6:notStar e6=ό:=by rfl) (s7:notStar e7=ό:=by rfl) (s8:notStar e8=ό:=by rfl) (s9:notStar e9=ό:=by rfl) (s10:notStar GV=ό:=by rfl) (s11:notStar GW=ό:=by rfl):PE X (.List [e1,e2,e3,e4,e5,e6,e7,e8,e9,GV,GW] pos) (tE X.K Ξ (fe (af f1 (af f2 (af f3 (af f4 (af f5 (af f6 (af f7 (af f8 (af f9 (af PX (af PY ah))))))))))))):=ib (fW h1 (fW h2 (fW h3 (fW h4 (fW h5 (fW h6 (fW h7 (fW h8 (fW h9 (fW h10 (fW pF dU s11) s10) s9) s8) s7) s6) s5) s4) s3) s2) s1)
end
end DI
namespace L2
open PySem
def cH {α:Type}:Sem α->Prop
 | .pure _=>True
 | .raise _=>True
 | .unsupported _=>True
 | .finish _=>True
 | .rule _ k=>cH (k ())
 | .at _ k=>cH (k ())
 | .load _ _ k=>∀o,cH (k o)
 | .update _ _ f k=>(∀o,(f o).dict=o.dict)/\cH (k ())
 | .loadIfAlive _ k=>∀o,cH (k o)
 | .point _ k=>cH (k ())
 | .register _ _=>True
 | .alloc _ k=>∀a,cH (k a)
 | .fresh k=>∀t,cH (k t)
 | .ask k=>∀t,cH (k t)
 | .choose _ _ k=>∀n,cH (k n)
 | .os _ _ k=>∀r,cH (k r)
 | .call ..=>False
 | .handled _ k=>∀v,cH (k v)
 | .genState _ k=>∀v,cH (k v)
 | .newGen _ k=>∀v,cH (k v)
 | .resume ..=>False
 | .yield ..=>True
 | .stack k=>∀v,cH (k v)
 | .fork ..=>True
 | .thread k=>∀v,cH (k v)
 | .await ..=>True
def Dk (h0 h:ĺ):Prop:=h0.objs.size<=h.objs.size/\∀b o,h0.get? b=ϊ o->∀Z,h.get? b=ϊ Z->Z.dict=o.dict
def Dk.refl (h:ĺ):Dk h h:=⟨aeS _,λb o e Y Z=>by rw[e] at Z;cases Z;rfl⟩
theorem Dk.push {h0 h:ĺ} (k:Dk h0 h) (o:Obj):Dk h0 (h.push o):=by
 refine⟨Ý k.1 (by rw[Ā];exact ady _),λb p e X W=>k.2 b p e X ?_⟩;have Z:=Ê (Ð e) k.1;obtain⟨Y,V⟩:=adS.mp W;refine adS.mpr ⟨?_,V⟩;have:(h.push o).objs[b]?=h.objs[b]?:=by
  show (h.objs.push o)[b]?=_;rw[Array.getElem?_push_lt Z,Array.getElem?_eq_getElem Z]
 rw[this] at Y;exact Y
def Dk.upd {h0 h:ĺ} (k:Dk h0 h) {a:Þ} {f:Obj->Obj} (hf:∀o,(f o).dict=o.dict) (ha:(h.get? a).isSome):Dk h0 (h.update a f):=by
 refine⟨by rw[Heap.size_update];exact k.1,λb p e Y X=>?_⟩;by_cases U:b=a
 ·subst U
  obtain⟨W,e1⟩:=adD.mp ha;have T:=k.2 b p e W e1;obtain⟨Z,S⟩:=adS.mp X;obtain⟨V,R⟩:=adS.mp e1;have:Y=f W:=by
   obtain⟨objs,l⟩:=h;have Z:(objs.modify b f)[b]?=ϊ Y:=Z;have V:objs[b]?=ϊ W:=V;rw[Array.getElem?_modify,Ñ rfl,V] at Z;exact(aeT Z).symm
  rw[this,hf,T]
 ·rw[adB _ _ _ _ U] at X
  exact k.2 b p e Y X
def VE {α:Type} (M:Model) (Γ:Ctx) (t:Sem α):∀{Q:α->Pos->Â->Prop} {E:Ç->Pos->Â->Prop} {p:Pos} {s:Â},cH t->ζ M Γ t Q E p s->∀{h0:ĺ},Dk h0 s.heap ->
  ζ M Γ t (λa p' s'=>Q a p' s'/\Dk h0 s'.heap) (λe p' s'=>E e p' s'/\Dk h0 s'.heap) p s:=by
 induction t with
 |pure a=>intro Q E p s d h h0 k;rw[ζ] at h |-;exact⟨h,k⟩
 |raise e=>intro Q E p s d h h0 k;rw[ζ] at h |-;exact⟨h,k⟩
 |unsupported w=>intro Q E p s d h h0 k;rw[ζ] at h;exact h.elim
 |finish w=>intro Q E p s d h h0 k;rw[ζ] at h;exact h.elim
 |rule t Z ih=>intro Q E p s d h h0 k;rw[ζ] at h |-;exact ih () d h k
 | «at» t Z ih=>intro Q E p s d h h0 k;rw[ζ] at h |-;exact ih () d h k
 |load a pt Z ih=>intro Q E p s d h h0 k;rw[ζ] at h |-;obtain⟨o,e,h⟩:=h;exact⟨o,e,ih o (d o) h k⟩
 |loadIfAlive a Z ih=>intro Q E p s d h h0 k;rw[ζ] at h |-;exact ih _ (d _) h k
 |point a Z ih=>intro Q E p s d h h0 k;rw[ζ] at h |-;exact ih () d h k
 |register a Z ih=>intro Q E p s d h h0 k;rw[ζ] at h;exact h.elim
 |fresh Z ih=>intro Q E p s d h h0 k;rw[ζ] at h |-;exact ih _ (d _) h k
 |ask Z ih=>intro Q E p s d h h0 k;rw[ζ] at h |-;exact ih _ (d _) h k
 |choose a n Z ih=>intro Q E p s d h h0 k;rw[ζ] at h |-;exact⟨h.1,ih _ (d _) h.2 k⟩
 |os a n Z ih=>intro Q E p s d h h0 k;rw[ζ] at h |-;exact ih _ (d _) h k
 |call a b c n Z ih=>intro Q E p s d h h0 k;exact č d
 |handled a Z ih=>intro Q E p s d h h0 k;rw[ζ] at h |-;exact ih _ (d _) h k
 |genState a Z ih=>intro Q E p s d h h0 k;rw[ζ] at h |-;obtain⟨o,e,h⟩:=h;exact⟨o,e,ih _ (d _) h k⟩
 |newGen a Z ih=>intro Q E p s d h h0 k;rw[ζ] at h |-;exact ih _ (d _) h k
 |resume a b c Z ih=>intro Q E p s d h h0 k;exact č d
 |yield a b c Z ih=>intro Q E p s d h h0 k;rw[ζ] at h;exact h.elim
 |stack Z ih=>intro Q E p s d h h0 k;rw[ζ] at h |-;exact ih _ (d _) h k
 |fork a Z ih=>intro Q E p s d h h0 k;rw[ζ] at h;exact h.elim
 |thread Z ih=>intro Q E p s d h h0 k;rw[ζ] at h |-;exact ih _ (d _) h k
 |await a b c e Z ih=>intro Q E p s d h h0 k;rw[ζ] at h;exact h.elim
 |alloc o Z ih=>intro Q E p s d h h0 k;rw[ζ] at h |-;exact ih _ (d _) h (k.push o)
 |update a pt f Z ih=>intro Q E p s d h h0 k;rw[ζ] at h |-;exact⟨h.1,ih () d.2 h.2 (k.upd d.1 h.1)⟩
def zc {α:Type} {M:Model} {A:í} {t:Sem α} {Q:α->Â->Prop} {E:Ç->Â->Prop} {s:Â} (d:cH t) (h:á M A t Q E s):á M A t (λa s'=>Q a s'/\Dk s.heap s'.heap) (λe s'=>E e s'/\Dk s.heap s'.heap) s :=
 fun Z p i=>VE M Z t d (h Z p i) (Dk.refl _)
def fT {α β:Type} {t:Sem α} {f:α->Sem β} (h:cH t) (g:∀a,cH (f a)):cH (t >>= f):=by
 show cH (t.bind f)
 induction t with
 |pure a=>exact g a
 |raise e=>trivial
 |unsupported w=>trivial
 |finish w=>trivial
 |rule t k ih=>exact ih () h
 | «at» t k ih=>exact ih () h
 |load a p k ih=>exact λo=>ih o (h o)
 |loadIfAlive a k ih=>exact λo=>ih o (h o)
 |point a k ih=>exact ih () h
 |register a k ih=>trivial
 |fresh k ih=>exact λo=>ih o (h o)
 |ask k ih=>exact λo=>ih o (h o)
 |choose a n k ih=>exact λo=>ih o (h o)
 |os a n k ih=>exact λo=>ih o (h o)
 |call a b c n k ih=>exact h.elim
 |handled a k ih=>exact λo=>ih o (h o)
 |genState a k ih=>exact λo=>ih o (h o)
 |newGen a k ih=>exact λo=>ih o (h o)
 |resume a b c k ih=>exact h.elim
 |yield a b c k ih=>trivial
 |stack k ih=>exact λo=>ih o (h o)
 |fork a k ih=>trivial
 |thread k ih=>exact λo=>ih o (h o)
 |await a b c e k ih=>trivial
 |alloc o k ih=>exact λo=>ih o (h o)
 |update a p f k ih=>exact⟨h.1,ih () h.2⟩
def zd (v:Ç) (i:Nat):cH (field v i):=by
 delta field fieldsOf;refine fT ?_ λa=>?_
 ·cases v with
  |ref a =>
   refine fT (λo=>trivial) λo=>?_
   split<;>trivial
  |_=>trivial
 ·split<;>trivial
def VF (g:Array Ç->Array Ç) (o:Obj):(Obj.mapFields g o).dict=o.dict:=by
 delta Obj.mapFields
 split<;>rfl
def DF (v:Ç) (i:Nat) (x:Ç):cH (setField v i x):=by
 delta setField
 cases v with
 |ref a =>
  show cH (updateField a i x);delta updateField;refine fT (λo=>trivial) λo=>?_;split
  ·split
   ·exact⟨VF _,trivial⟩
   ·trivial
  ·trivial
 |_=>trivial
def Zl (ty:String) (vs:List Ç):cH (newFields ty vs):=by
 show cH (if vs.toArray.size > Õ+2 then _ else newObjAsIs (.type ty) (.fields vs.toArray))
 split
 ·trivial
 ·exact λ_=>trivial
def BV (e:Ç) (f:Option Þ):cH (setFlight e f):=by
 delta setFlight;refine fT (zd _ _) λa=>?_;split
 ·exact DF _ _ _
 ·trivial
theorem K7:∀l:List PySem.Env,cH (readyFrames l)
 | []=>trivial
 |env::outer=>by
  delta readyFrames;split
  ·refine fT (λo=>trivial) λo=>?_
   split
   ·trivial
   ·refine fT ?_ λb=>fT ?_ λv=>fT ⟨λ_=>rfl,trivial⟩ λ_=>K7 outer
    ·delta behindIsImport
     split
     ·trivial
     ·split
      ·trivial
      ·exact fT (zd _ _) λ_=>trivial
    ·cases outer with
     |nil =>
      show cH (if (env.scope.isGenerator||env.scope.isCoroutine)=ό then pure Value.none else _)
      split
      ·trivial
      ·exact λ_=>trivial
     |cons _ _=>trivial
  ·trivial
def VG (env:PySem.Env):cH (frameOf env):=by
 delta frameOf frameEnvs;refine fT (λ_=>trivial) λl=>fT ?_ λr=>?_
 ·generalize l.dropWhile _=Z
  cases Z with
  |nil=>trivial
  |cons a r=>exact fT (K7 _) λ_=>trivial
 ·split<;>trivial
def VH (f:Þ) (b:Bool):cH (entryPlaceOf f b):=by
 delta entryPlaceOf;refine fT (λ_=>trivial) λa=>?_
 split<;>trivial
def LY (e:Ç) (env:PySem.Env):cH (noteFrame e env):=by
 delta noteFrame;split
 ·refine fT (zd _ _) λZ=>?_
  rename_i L _;have jp:cH (frameOf env >>= λf=>entryPlaceOf L (Z != Value.none) >>= λY=>EntryCells.newEntry Z f Value.none (ĸ L) Value.none Y >>= λb=>setField e 1 b) :=
   fT (VG env) λf=>fT (VH _ _) λY=>fT (Zl _ _) λb=>DF _ _ _
  show cH (if (Z != Value.none)=ό then _ else _)
  split
  ·refine fT (zd _ _) λx=>?_
   split
   ·trivial
   ·exact fT (DF _ _ _) λ_=>jp
  ·exact jp
 ·trivial
def VI (env:PySem.Env) (e:Ç):cH (leaving env e):=by
 delta leaving;exact fT (LY e env) λ_=>BV _ _
open PySem.Spec PyProof.Rows
structure mT (P:å) (w:ā) (outer:List Env) (H:Hp) (s:Â) (H':Hp) (B:ĺ) (a:Þ) (cls a0:Ç) (h:ĺ):Prop where
 fl:aee B outer a cls a0 h
 old:∀b o,s.heap.get? b=ϊ o->H b=ϋ->b∉cL outer->B.get? b=ϊ o
 there:∀b o,s.heap.get? b=ϊ o->b∉cL outer->∃o',B.get? b=ϊ o'
 slot:∀b o,s.heap.get? b=ϊ o->b∈cL outer->∃sl,h.get? b=ϊ { o with slots:=sl }
 aI:cN P w H' B
 free:∀b o,s.heap.get? b=ϊ o->H b=ϋ->H' b=ϋ
 gk:∀b xs,H b=ϊ (.tup xs)->H' b=ϊ (.tup xs)
 fy:∀b o u,H b=ϊ (.bo o u)->H' b=ϊ (.bo o u)
 gm:∀b ps,H b=ϊ (.eh ps)->∃more,H' b=ϊ (.eh (ps++more))
def Dm (h:ĺ) (a:Þ) (m:Option Þ):Prop:=∀Z,m=ϊ Z->∃o,h.get? a=ϊ o/\o.dict=ϊ Z
def Dm.ar (h:ĺ) (a:Þ):Dm h a ϋ:=λ_ z=>by cases z
def Dm.on {h h':ĺ} {a:Þ} {m:Option Þ} (x:Dm h a m) (k:Dk h h') (t:∃o,h'.get? a=ϊ o):Dm h' a m:=λX e=>by
 obtain⟨o,e1,e2⟩:=x X e;obtain⟨Z,Y⟩:=t;exact⟨Z,Y,(k.2 a o e1 Z Y).trans e2⟩
def fE (P:å) (w:ā):jV:=λouter H s E e Z=>∃a cls X Y B m,e=.ref a/\Z.os=s.os/\aeJ Z.gens/\mT P w outer H s Y B a cls X Z.heap/\Dm Z.heap a m/\E cls m Y
section
variable {P:å} {w:ā} {outer:List Env} {H H':Hp} {s:Â} {B h h':ĺ} {a:Þ} {cls a0:Ç}
def mT.un (F:mT P w outer H s H' B a cls a0 h):Un (cL outer) [] H H' s.heap h where
 keep:=λb o e n Z _=>F.fl.1 b o (F.old b o e n Z)
 slot:=λb o e n Z _=>F.slot b o e Z
 free:=λb o e n _=>F.free b o e n
 there:=λb o e _=>by
  by_cases Z:b∈cL outer
  ·obtain⟨sl,q⟩:=F.slot b o e Z
   exact⟨_,q⟩
  ·obtain⟨Y,q⟩:=F.there b o e Z
   exact⟨Y,F.fl.1 b Y q⟩
 gk:=F.gk
 fy:=F.fy
 gm:=F.gm
def mT.held (F:mT P w outer H s H' B a cls a0 h):cN P w H' h:=F.aI.kept λb o e=>F.fl.1 b o e
def mT.on (F:mT P w outer H s H' B a cls a0 h) (hf:aee B outer a cls a0 h') (hs:h.UpToSlots h'):mT P w outer H s H' B a cls a0 h' :=
 { F with
  fl:=hf
  slot:=λb o e Z=>by
   obtain⟨sl,q⟩:=F.slot b o e Z;obtain⟨_,U,Y,X⟩:=F.fl.2.2.1.mem Z;rw[q] at Y;cases Y;obtain⟨W,V⟩:=hs b _ q X;exact⟨W,V⟩ }
def eQ.aa0 {o:HO} (x:eQ P w H h a o):∃ob,h.get? a=ϊ ob:=by
 cases o with
 |lst Z=>obtain⟨_,_,_,_,e⟩:=x;exact⟨_,e⟩
 |tup Z=>obtain⟨_,_,_,ob,e,_⟩:=x;exact⟨ob,e⟩
 |dK Y=>obtain⟨_,_,_,_,o,_,_,e,_⟩:=x;exact⟨_,e⟩
 |dT Y=>obtain⟨_,_,_,_,o,_,_,e,_⟩:=x;exact⟨_,e⟩
 |set S n=>obtain⟨o,_,_,_,e,_⟩:=x;exact⟨_,e⟩
 |ins C X fs=>obtain⟨_,_,_,e,_⟩:=x;exact⟨_,e⟩
 |own y=>exact x
 |xd fs=>obtain⟨_,⟨_,_,_,e,_⟩,_⟩:=x;exact⟨_,e⟩
 |dg lo W=>obtain⟨_,_,_,e⟩:=x;exact⟨_,e⟩
 |bo ob u=>obtain⟨e,_⟩:=x;exact⟨_,e⟩
 |eh V=>exact⟨_,x⟩
 |met f y=>exact⟨_,x⟩
 |ext U=>obtain⟨_,e,_⟩:=x;exact e
def mT.new (F:mT P w outer H s H' B a cls a0 h):H' a=ϋ:=by
 cases e:H' a with
 |none=>rfl
 |some o =>
  obtain⟨Y,Z⟩:=(F.aI a o e).aa0;rw[F.fl.2.1] at Z;cases Z
end
structure Lv (X:Cx) (E:XK):Prop where
 xe:X.xe=λe s'=>á (é X.prog X.w) X.A (leaving X.env e) (λ_ i3=>fE X.prog X.w X.outer X.mx X.df E e i3) (λe' i3=>fE X.prog X.w X.outer X.mx X.df E e' i3) s'
 mI:X.stack=X.env::X.outer
 fr:X.env.frame=ϊ X.env.locals
 ex:X.ex=[]
section
variable {X:Cx} {E:XK} {π:List (Þ×Obj)} {σ:St} {H:Hp} {s:Â}
def Inv.zJ (I:Inv X π σ H s) (L:Lv X E) {b:Þ} {o:Obj} (e:X.df.heap.get? b=ϊ o) (hb:b∉cL X.outer):b∉cL X.stack:=λz=>by
 rcases Û.mp (I.kY b z) with q|q
 ·exact absurd (Ð e) (by rw[q];exact Nat.not_lt.mpr I.ok.above)
 ·exact hb q
def Ci (L:Lv X E) {b:Þ} (hb:b∈cL X.outer):b∈cL X.stack:=by
 rw[L.mI];delta cL;rw[adv,L.fr];exact Ï _ hb
def eZ (L:Lv X E):Passes (fE X.prog X.w) X E:=by
 intro π σ H s e S I h;obtain⟨a,cls,R,M,B,m,rfl,os,bare,F,K,q⟩:=h;rw[L.xe];have fl:=F.fl;rw[L.mI] at fl
 refine ė (zc (VI _ _) (wpAny_leaves_onW (E:=λ_ _=>False) (Q:=λ_ P=>∃Y,P={ S with heap:=Y }/\aee B X.outer a cls R Y/\S.heap.UpToSlots Y) (by rw[I.ok.frames,L.mI]) L.fr fl λY V U=>⟨Y,rfl,V,U⟩)) (λ_ P z=>?_) λ_ _ z=>z.1.elim
 obtain⟨⟨Y,rfl,V,U⟩,J⟩:=z
 refine⟨a,cls,R,M,B,m,rfl,os.trans I.os,bare,⟨V,λb o e n Z=>?_,λb o e Z=>?_,λb o e Z=>?_,F.aI,λb o e n=>?_,λb O e=>F.gk b O (I.base.gk b O e),λb o u e=>F.fy b o u (I.base.fy b o u e),λb G e=>?_⟩,K.on J (let ⟨o,e,_⟩:=V.there;⟨o,e⟩),q⟩
 ·exact F.old b o (I.base.keep b o e n Z (by rw[L.ex];simp)) (I.base.free b o e n (by rw[L.ex];simp)) (I.zJ L e Z)
 ·obtain⟨T,W⟩:=I.base.there b o e (by rw[L.ex];simp)
  exact F.there b T W (I.zJ L e Z)
 ·obtain⟨sl,W⟩:=I.base.slot b o e (I.ok.lL b Z) Z (by rw[L.ex];simp)
  obtain⟨v,e2⟩:=F.slot b _ W (Ci L Z);obtain⟨_,t,N,D⟩:=F.fl.2.2.1.mem (Ci L Z);rw[e2] at N;cases N;obtain⟨C,A⟩:=U b _ e2 D;exact⟨C,A⟩
 ·obtain⟨T,W⟩:=I.base.there b o e (by rw[L.ex];simp)
  exact F.free b T W (I.base.free b o e n (by rw[L.ex];simp))
 ·obtain⟨y,e1⟩:=I.base.gm b G e
  obtain⟨x,e2⟩:=F.gm b _ e1;exact⟨y++x,by rw[e2,Array.append_assoc]⟩
def SA (L:Lv X E) (I:Inv X π σ H s) {h1:ĺ} {e:Þ} {cls:Ç} {us:List Ç} (hm:Heap.MadeExcOf s.heap h1 e cls us) (q:E cls ϋ H):X.xe (.ref e) { s with heap:=h1 }:=by
 rw[L.xe];have V:=I.stack;have U:∀b u,H b=ϊ u->b∉cL X.stack:=λb u e z=>by rw[I.vY b z] at e;cases e
 refine wpAny_leaves_madeW (base:=PySem.W.hideAll s.heap (cL X.stack)) (h:=s.heap) (env:=X.env) (outer:=X.outer) (by rw[I.ok.frames,L.mI]) L.fr (λb o e=>PySem.W.of_hideAll _ e) ?_ hm λJ t S _ _ R=>⟨e,cls,_,H,PySem.W.hideAll s.heap (cL X.stack),ϋ,rfl,I.os,I.bare,⟨S,λb o e n Z=>?_,λb o e Z=>?_,λb o e Z=>?_,λb u e=>?_,λb o e n=>I.base.free b o e n (by rw[L.ex];simp),I.base.gk,I.base.fy,I.base.gm⟩,Dm.ar _ _,q⟩
 ·rw[<- L.mI]
  refine PySem.W.funFrames_hide V λenv Q a P=>?_;delta cL;exact ξ.mpr ⟨env,Q,P⟩
 ·exact adu _ (I.base.keep b o e n Z (by rw[L.ex];simp)) (I.zJ L e Z)
 ·obtain⟨O,Y⟩:=I.base.there b o e (by rw[L.ex];simp)
  exact⟨O,adu _ Y (I.zJ L e Z)⟩
 ·obtain⟨sl,Y⟩:=I.base.slot b o e (I.ok.lL b Z) Z (by rw[L.ex];simp)
  obtain⟨_,G,T,N⟩:=V.mem (Ci L Z);rw[Y] at T;cases T;obtain⟨M,K⟩:=R b _ (hm.keeps b _ Y) N;exact⟨M,K⟩
 ·refine(I.aI b u e).iG (λc v hc z=>adu _ z ?_) (λ_ z=>z) λ_ _ z=>z
  rcases hc with rfl|hc
  ·exact U c _ e
  ·exact U c _ hc
def Zm (X:Cx) (M:Mod X.K X.mg X.base) {x:Str} {C:Þ} {rF:List Ç} {newId:String} (eC:ì X.K Ò x=ϊ (ϊ (.ref C))) (qC:aeL X.K C rF newId=ό):OwnCls x C rF newId X.mg X.base:=by
 have KB:=M.kE;refine⟨ļ KB M.glob eC,?_⟩;delta aeL at qC;split at qC
 case h_2=>cases qC
 rename_i P cd sl O;split at qC
 case h_2=>cases qC
 rename_i H bm Y a1 a2 V nw U T S;erw[Å,beq_iff_eq,ł] at qC;obtain⟨⟨⟨⟨⟨N,L⟩,R⟩,J⟩,Z⟩,Q⟩:=qC;subst N L;cases cd;dsimp only at T R Z Q;subst T R;have I:sl=#[Y,a1,a2,V,ϊ (.builtin nw),U]:=by cases sl;simp only at S;rw[S]
 subst I;exact⟨bm,_,_,_,_,_,_,_,_,_,P,Y,a1,a2,V,U,_,KB _ _ O,.of_isNs (PySem.W.isNs_of_in KB Z),PySem.W.nsMap_none_of_in KB Z Q,PySem.W.tail_of_in KB J⟩
def VJ {x:Str} {C:Þ} {rF:List Ç} {B newId M0:String} {np ba pos:Pos} {nS:ě} {rest:List ě} {t:TA} (L:Lv X E) (eC:ì X.K Ò x=ϊ (ϊ (.ref C))) (qC:aeL X.K C rF newId=ό) (FB:ExcBaseFacts B newId M0 rF) (hc:X.calm=ό) (hg:Gl X x) (ha:PA X (nS::rest) t) (hd:(x==("__debug__":Str))=ύ:=by decide)
  (he:Í (nS::rest) X.env=(ύ,ķ nS X.env)::Í rest X.env:=by rfl) (iO:(ī ba (Í rest X.env)).any (·.1)=ύ:=by rfl) :
  PS X (.Raise (ϊ (.Call (.Name x np) (nS::rest) [] ba)) ϋ pos) (λ_ σ H=>t σ H λvs H1=>vs.length<=Õ/\E (.ref C) ϋ H1):=by
 intro π s σ H D I h;have O:OwnCls x C rF newId X.mg X.base:=Zm X I.ok.mod eC qC;obtain⟨V,N,nm,q,bs,hdct,sn,sub,ab,col,dd,k0,k1,k2,k3,k5,mN,U,S,Y,T⟩:=O.obj;refine wpAny_Raise_call_subT (C:=C) (nm:=nm) (q:=q) (N:=N) (bs:=bs) (bm:=V) (hdct:=hdct) (sn:=sn) (sub:=sub) (ab:=ab) (col:=col) (dd:=dd) (k0:=k0) (k1:=k1) (k2:=k2) (k3:=k3) (k5:=k5)
  FB (mN:=mN) (T.hasType FB.hasBase) (I.ok.hd hc) (by rw[he];show (ύ||(ī ba (Í rest X.env)).any (·.1))=ύ;rw[iO];rfl) Y (qf I hg O.bound ⟨rfl,?_⟩ hd)
 have W:=ha ba π s σ H _ I h;rw[he] at W |-;refine Calls.evalArgs_plain (aO W λP M ⟨vs,H1,Z,r,z,R⟩=>⟨rfl,by rw[<- r.length];exact z,Z.bk _ _ U,S.keeps Z.bk,T.keeps Z.bk,λJ e Q=>?_⟩);exact SA L Z Q R
end
end L2
namespace DI
open PySem L2
abbrev GG (K:đ) (mg:Str->Option Ç) (x:Str) (st:aeg) (ps:List Str):Prop:=∃f fd,Gd K mg x st ps f fd
abbrev bZ (P:å) (w:ā) (K:đ) (mg:Str->Option Ç) (base:ĺ) (x:Str) (st:aeg) (ps:List Str) (k:Nat) (fn:List D->ae->Res D):Prop:=∀{f:Þ} {fd:Ģ},Gd K mg x st ps f fd->cW P w K mg base eG k f fd ps (lU K fn)
def o7 (N ps:List Str) (sc:ac5):Bool:=ώ (sc.kind=.function)&&!sc.isCoroutine&&!sc.isGenerator&&ώ N.Nodup&&ώ (N.take ps.length=ps)&&ps.all (λx=>ώ (sc.names.lookup x=ϊ .local\/sc.names.lookup x=ϊ .cell))&&sc.names.all (λy=>ώ (y.2≠.free))
def j9 (h:o7 N ps sc=ό):sI N ps sc:=by
 delta o7 at h;erw[Å,ł,Ë,ô] at h;obtain⟨⟨⟨⟨⟨⟨Z,Y⟩,X⟩,W⟩,V⟩,U⟩,T⟩:=h;exact⟨Z,Y,X,W,V,U,T⟩
def cb (G:Gd K mg x st ps f fd) (N:List Str) (S:o7 N ps (cA st)=ό)
 (hb:N.Nodup->∀(aY:Ç) (A:í) (outer:List PySem.Env) (s:Â) (H:Hp) (E:XK),bK k (A.deeper (ŀ x (cA st) s.heap.objs.size f aY))->dh (ie eG P w K mg base N x (cA st) f aY A outer s H E).nV (gv st) (tS K cG b)) :
  cW P w K mg base eG (k+1) f fd ps (lU K (aD ps.length N.length b)):=aaN G.fn (j9 S) (hb (j9 S).nd)
section
variable {X:Cx} {Ξ:Wd->bg->Prop} {e a b c tg el src:ě} {es rest tests:List ě} {pos:Pos} {f g h:aeO D} {fa:aeO (List D)} {ft gt:aeO Bool}
def aS {k n:Nat} {x:Str} {st:aeg} {ps:List Str} {fn:List D->ae->Res D} {p:Pos} (G:GG X.K X.mg x st ps) (F:bZ X.prog X.w X.K X.mg X.base x st ps k fn) (hr:bK n X.A) (ha:PA X (e::es) (tA X.K Ξ fa)) (hk:k<=n:=by decide) (hg:Gl X x:=by rfl) (dR:(x==("__debug__":Str))=ύ:=by decide)
  (he:Í (e::es) X.env=(ύ,ķ e X.env)::Í es X.env:=by rfl) (bN:(ī pos (Í es X.env)).any (·.1)=ύ:=by rfl):PE X (.Call (.Name x p) (e::es) [] pos) (tE X.K Ξ (aG fn fa)):=by
 obtain⟨f,fd,G⟩:=G;exact Y1 (F G) (hr.mono hk) hg G.mg G.fn.kp G.b ha dR he bN
def ao (ha:PE X a (tE X.K Ξ f)) (hs:Í [a] X.env=(ύ,ķ a X.env)::Í [] X.env:=by rfl):PA X [a] (tA X.K Ξ (af f ah)):=bB ha dU hs
def bI (ha:PE X a (tE X.K Ξ f)) (hb:PE X b (tE X.K Ξ g)) (h1:Í [a,b] X.env=(ύ,ķ a X.env)::Í [b] X.env:=by rfl) (h2:Í [b] X.env=(ύ,ķ b X.env)::Í [] X.env:=by rfl):PA X [a,b] (tA X.K Ξ (af f (af g ah))):=bB ha (bB hb dU h2) h1
def kc (ha:PE X a (tE X.K Ξ f)) (hb:PE X b (tE X.K Ξ g)) (hc:PE X c (tE X.K Ξ h)) (h1:Í [a,b,c] X.env=(ύ,ķ a X.env)::Í [b,c] X.env:=by rfl) (h2:Í [b,c] X.env=(ύ,ķ b X.env)::Í [c] X.env:=by rfl) (h3:Í [c] X.env=(ύ,ķ c X.env)::Í [] X.env:=by rfl):PA X [a,b,c] (tA X.K Ξ (af f (af g (af h ah)))):=bB ha (bB hb (bB hc dU h3) h2) h1
def gp {x:Str} {px:Pos} {sc:ac5} {ps:Pos} (N:List Str) {cap:List Nat} {it:aeO (List D)} (hi:PI X (.Name x px) src (fP X.K Ξ it))
  (hY:∀(cl:List (Str×Þ)) (C:Þ) (s:Â) (H:Hp) (ex:List Þ) (pn:List (Þ×Obj)),PF (i8 X N sc cl C s H ex pn) tests (tT X.K cG ft)/\PE (i8 X N sc cl C s H ex pn) el (tE X.K cG f))
  (hc:X.calm=ό:=by rfl) (S:DC sc X.env.scope.names X.N N 1 cap=ό:=by kernel_rfl) (nd:N.Nodup:=by decide +kernel) (h0:N[0]?=ϊ x:=by rfl) (hx:∀cl C s H ex pn,(i8 X N sc cl C s H ex pn).env.scope.names.lookup x=ϊ .local:=by intros;rfl) (hs:∀x,Ć src X.env x=pure x:=by intro _;rfl) :
  PE X (.ListComp el [⟨.Name x px,src,tests,0⟩] sc ps) (tE X.K Ξ (cM 1 cap it (gN 0) ft f)) :=
 CS hc (Eh S) (sJ 0) hi (λcl C s H ex pn=>⟨iD nd h0 (.inl (hx cl C s H ex pn)) (.inr (hx cl C s H ex pn)),hY cl C s H ex pn⟩) hs
end
def fF (mg:Str->Option Ç) (E:XK):Wd->bg->Prop:=λw x=>∃C,mg x.c=ϊ (.ref C)/\match x.many with
 |none=>E (.ref C) ϋ w.H
 |some i=>∀Z Y t,w.H Z=ϋ->adh "many" Y=ϊ (ϊ (.int i t))->E (.ref C) (ϊ Z) (upd w.H Z (.bo Y (.own Z)))
def pP (mg:Str->Option Ç) (K:đ) (f:List D->ae->Res D):Sp:=λX H Q E=>∃w Z,w.H=H/\aU K w/\au K w Z X/\Out K (fF mg E) w (f Z w.aJ) λY d=>∀v,DV K Y d v->Q v Y.H
def mj (c:Str) (fa:aeO (List D)):aeO Fl:=λenv s=>ai (fa env s) λZ s=>if ώ (Z.length<=10)=ό then ϊ (.error ⟨c,ϋ⟩,s) else ϋ
def mF (K:đ) (mg:Str->Option Ç) (x:Str):Prop:=∃C,ì K Ò x=ϊ (ϊ (.ref C))/\mg x=ϊ (.ref C)/\aeL K C [.type "ValueError",.type "Exception",.type "BaseException",.type "object"] "ValueError.__new__"=ό
def dM (fn:List D->ae->Res D) (fa:aeO (List D)):aeO D:=λenv s=>ai (fa env s) fn
section
variable {X:Cx} {E:XK} {Ξ:Wd->bg->Prop} {e a b c:ě} {es rest:List ě} {pos:Pos} {f g h:aeO D} {fa:aeO (List D)}
def nv {x:Str} {np ba:Pos} {nS:ě} (L:Lv X E) (hO:mF X.K X.mg x) (ha:PA X (nS::rest) (tA X.K (fF X.mg E) fa)) (hc:X.calm=ό:=by rfl) (hg:Gl X x:=by rfl) (hd:(x==("__debug__":Str))=ύ:=by decide)
  (he:Í (nS::rest) X.env=(ύ,ķ nS X.env)::Í rest X.env:=by rfl) (iO:(ī ba (Í rest X.env)).any (·.1)=ύ:=by rfl) :
  PS X (.Raise (ϊ (.Call (.Name x np) (nS::rest) [] ba)) ϋ pos) (tS X.K (fF X.mg E) (mj x fa)) :=
 let ⟨C,eC,V,U⟩:=hO
 kZ (VJ L eC U PySem.F.excBase_ValueError hc hg ha hd he iO) λN σ H T=>by
  obtain⟨w,env,R,S,Q,h⟩:=T;subst R;refine⟨w,env,rfl,S,Q,(Out.ai h).mono λW M J P Z I O=>?_⟩;split at Z
  ·rename_i Y
   have Y:=æ Y;obtain⟨G,e1,q⟩:=Z W (Le.refl W) P rfl;rw[V] at e1;cases e1;exact⟨Ý (by rw[<- O.length];exact Y) (by decide),q⟩
  ·exact Z.elim
def Xr {k:Nat} {fA:Þ} {fd:Ģ} {yl:List Str} {fn:List D->ae->Res D} {x:Str} {p:Pos} (L:Passes (fE X.prog X.w) X E) (F:cW X.prog X.w X.K X.mg X.base (fE X.prog X.w) k fA fd yl (pP X.mg X.K fn)) (hr:bK k X.A) (hg:Gl X x) (hm:X.mg x=ϊ (.ref fA)) (hk:Œ X.K (.ref fA)=ό) (hb:Binds X.K fd yl [])
  (ha:PA X (e::es) (tA X.K (fF X.mg E) fa)) (dR:(x==("__debug__":Str))=ύ:=by decide) (he:Í (e::es) X.env=(ύ,ķ e X.env)::Í es X.env:=by rfl) (bN:(ī pos (Í es X.env)).any (·.1)=ύ:=by rfl) :
  PE X (.Call (.Name x p) (e::es) [] pos) (tE X.K (fF X.mg E) (dM fn fa)):=cm (LC F hr hg hm hk hb .nil L ha dR he bN) fun σ H Q Y=>by
 obtain⟨w,env,W,S,V,h⟩:=Y;subst W;refine⟨w,env,rfl,S,V,(Out.ai h).mono λZ U N T R P O=>?_⟩;show pP X.mg X.K fn (P++[]) Z.H Q E;rw[Ħ];exact⟨Z,U,rfl,T,O,R⟩
def M6 {α:Type} {K:đ} {w:Wd} {r:Res α} {k:Wd->α->Prop} (h:Out K cG w r k):Out K Ξ w r k:=by
 match r,h with
 |some (.ok a,s),h=>exact h
 |some (.error x,s),h=>exact λZ l S e=>(h Z l S e).elim
def M7:Passes (fE X.prog X.w) X E0:=λ_ _ _ _ _ _ _ ⟨_,_,_,_,_,_,_,_,_,_,_,q⟩=>q.elim
end
def ml {P:å} {w:ā} {K:đ} {mg:Str->Option Ç} {base:ĺ} {x:Str} {st:aeg} {f:Þ} {fd:Ģ} {ps:List Str} {k:Nat} {b:aeO Fl} (G:Gd K mg x st ps f fd) (N:List Str) (S:o7 N ps (cA st)=ό)
  (hb:N.Nodup->∀(aY:Ç) (A:í) (outer:List PySem.Env) (s:Â) (H:Hp) (E:XK),bK k (A.deeper (ŀ x (cA st) s.heap.objs.size f aY))->Lv (ie (fE P w) P w K mg base N x (cA st) f aY A outer s H E) E->dh (ie (fE P w) P w K mg base N x (cA st) f aY A outer s H E) (gv st) (tS K (fF mg E) b)) :
  cW P w K mg base (fE P w) (k+1) f fd ps (pP mg K (aD ps.length N.length b)):=by
 obtain⟨J,I,kV,doc,pm,an,aY,ct,F,rfl,lk,V⟩:=G.fn.ex;refine Aa lk V (j9 S) (λU H Q E h=>?_) λA outer s H U Q E T h=>?_
 ·obtain⟨w,R,rfl,S,Y,h⟩:=h
  rw[<- Y.length];delta aD at h;split at h
  ·assumption
  ·exact h.elim
 ·obtain⟨X,R,rfl,O,Y,h⟩:=h
  refine⟨_,hb (j9 S).nd aY A outer s X.H E T ⟨rfl,rfl,rfl,rfl⟩,?_⟩;delta aD at h;split at h
  ·rename_i M
   rw[<- M] at h;refine⟨X,_,rfl,O,Y.env N.length,(Out.ai h).mono λD L C W Z=>?_⟩
   cases L with
   |nx env=>intro B _;exact aB W Z _ rfl
   |rt d=>have q:=aB W Z;exact q
   |bk env=>exact Z.elim
   |ct env=>exact Z.elim
  ·exact h.elim
end DI
namespace L2
open PySem PySem.Spec PyProof.Rows PySem.W
structure aa1 (env:Env) (names:List (Str×Ű)) (cl:List (Str×Þ)):Prop where
 xc:∀x c,cl.lookup x=ϊ c->env.cells.lookup x=ϊ c
 all:∀x,(x,î)∈names->∃c,cl.lookup x=ϊ c
theorem Cj {env:Env}:∀(names:List (Str×Ű)) (acc:List (Str×Þ)),(∀x,(x,î)∈names->∃c,env.cells.lookup x=ϊ c)->(∀x c,acc.lookup x=ϊ c->env.cells.lookup x=ϊ c) ->
  ∃cl,(forIn names acc λ(p:Str×Ű) (r:List (Str×Þ))=>(match p with | (name,kind)=>if kind==.free then (do let c <- cellOf env name;pure (ň ((name,c)::r))) else pure (ň r):Sem (ForInStep (List (Str×Þ)))))=pure cl /\
   (∀x c,cl.lookup x=ϊ c->env.cells.lookup x=ϊ c)/\(∀x,(x,î)∈names->∃c,cl.lookup x=ϊ c)/\∀x c,acc.lookup x=ϊ c->∃c,cl.lookup x=ϊ c
 | [],acc,_,Y=>⟨acc,by simp,Y,λ_ h=>(ć h).elim,λx c h=>⟨c,h⟩⟩
 |(y,k)::r,acc,W,Y=>by
  by_cases V:k=.free
  ·subst V
   obtain⟨c,e⟩:=W y ß;have U:∀x Z,((y,c)::acc).lookup x=ϊ Z->env.cells.lookup x=ϊ Z:=λx Z h=>by
    rw[ē] at h;split at h
    ·rename_i q
     have q:x=y:=by simpa using q
     cases h;rw[q];exact e
    ·exact Y x Z h
   obtain⟨cl,T,S,R,X⟩:=Cj r ((y,c)::acc) (λx h=>W x (Ï _ h)) U;have Q:∃c,cl.lookup y=ϊ c:=X y c (by rw[ē];simp);refine⟨cl,?_,S,λx h=>?_,λx Z h=>?_⟩
   ·rw[adO]
    erw[Ė,ò,cellOf,e,pure_bind];exact T
   ·rcases Û.mp h with q|q
    ·cases q;exact Q
    ·exact R x q
   ·by_cases q:x=y
    ·rw[q];exact Q
    ·exact X x Z (by rw[ē,show (x==y)=ύ by simpa using q];exact h)
  ·obtain⟨cl,T,S,R,X⟩:=Cj r acc (λx h=>W x (Ï _ h)) Y
   refine⟨cl,?_,S,λx h=>?_,X⟩
   ·rw[adO]
    have P:(k==î)=ύ:=by simpa using V
    erw[P,Æ,ï,pure_bind];exact T
   ·rcases Û.mp h with q|q
    ·cases q;exact absurd rfl V
    ·exact R x q
def VL {env:Env} {scope:ac5} (hc:∀x,(x,î)∈scope.names->∃c,env.cells.lookup x=ϊ c):∃cl,closureFor scope env=pure cl/\aa1 env scope.names cl:=by
 obtain⟨cl,Z,Y,X,_⟩:=Cj scope.names [] hc (λx c h=>by cases h);refine⟨cl,?_,Y,X⟩;delta closureFor;erw[pure_bind,bind_pure];exact Z
abbrev zK (q:Str) (params:aeG) (body:ě) (scope:ac5) (cl:List (Str×Þ)) (pm:Ç) (c':Þ) (i9:Ç):Obj:=kla_obj "<lambda>" q params body scope cl pm c' i9
section
variable {X:Cx} {π:List (Þ×Obj)} {σ:St} {H:Hp} {s:Â}
def Inv.table {P c':Þ} {ps A9:Array Ç} {oc:Obj} {h':ĺ} {t':Nat} (I:Inv X π σ H s) (hP:H P=ϊ (.eh ps)) (hx:adA P s.heap h') (hc:s.heap.objs.size<=c') (nU:h'.get? c'=ϊ oc) (ht:h'.get? P=ϊ (tabObj (ps++A9))) :
  Inv X π σ (upd (upd H c' (.bo oc (.own c'))) P (.eh (ps++A9))) { s with heap:=h',toks:=t' }:=by
 have Y:H c'=ϋ:=I.aI.fresh hc;have U:c'≠P:=λz=>by rw[z,hP] at Y;cases Y
 have ne:∀b u,H b=u->u≠ϊ (.eh ps)->b≠P:=λb u e d z=>by rw[z,hP] at e;exact d e.symm
 have at_:∀b u,H b=ϊ u->b≠P->upd (upd H c' (.bo oc (.own c'))) P (.eh (ps++A9)) b=ϊ u:=λb u e n=>by rw[bt n,bt (dD e Y)];exact e
 refine I.un ⟨λb o e n _ _=>hx b o (ne b _ n (by intro z;cases z)) e,λb o e n _ _=>⟨o.slots,hx b o (ne b _ n (by intro z;cases z)) e⟩,λb o e n _=>?_,λb o e _=>?_,λb V e=>at_ b _ e (ne b _ e (by intro z;cases z)),λb o u e=>at_ b _ e (ne b _ e (by intro z;cases z)),λb T e=>?_⟩ λb u e=>?_
 ·rw[bt (ne b _ n (by intro z;cases z)),bt (ã (Ê (Ð e) hc))];exact n
 ·by_cases Z:b=P
  ·exact⟨_,Z ▸ ht⟩
  ·exact⟨o,hx b o Z e⟩
 ·by_cases Z:b=P
  ·subst Z
   rw[hP] at e;cases e;exact⟨A9,cP⟩
  ·exact⟨#[],by rw[at_ b _ e Z];simp⟩
 ·by_cases Z:b=P
  ·subst Z
   rw[cP] at e;cases e;exact ht
  ·rw[bt Z] at e
   by_cases W:b=c'
   ·subst W
    rw[cP] at e;cases e;exact⟨nU,oc,nU⟩
   ·rw[bt W] at e
    refine(I.aI b u e).iG (λc v hc q=>hx c v ?_ q) (λc q=>at_ c _ q (ne c _ q (by intro z;cases z))) λc V q=>at_ c _ q (ne c _ q (by intro z;cases z))
    rcases hc with z|z
    ·rw[z];exact Z
    ·exact ne c _ z (by intro z;cases z)
def VM {params:aeG} {body:ě} {scope:ac5} {il:Pos} {cl:List (Str×Þ)} {c P:Þ} {ps:Array Ç} {E:Ç->Â->Prop} {A:í} {Q:Ç->Â->Prop} (I:Inv X π σ H s) (dj:closureFor scope X.env=pure cl) (Ag:X.env.code=.ref c) (C:CodeHd X.base c P) (hb:X.base.BuiltinsAt X.mg P)
  (hP:H P=ϊ (.eh ps)) (ht:TriplesOk ps.toList) (Fs:defaultsOf params X.env=([],[]))
  (acA:∀cv,codeAmong il ps.toList=ϊ cv->∃c' oc vs t,cv=.ref c'/\H c'=ϊ (.bo oc (.own c'))/\oc.data=.fields vs/\vs[1]?=ϊ (.str (X.env.qual++"<lambda>") t))
  (h:∀(f c':Þ) (i9:Ç) (oc:Obj) (vs:Array Ç) (t:Tok) (H1:Hp) (s1:Â),Inv X π σ H1 s1->s.heap.objs.size<=f->H1 f=ϋ->s1.heap.get? f=ϊ (zK (X.env.qual++"<lambda>") params body scope cl ((X.mg "__name__").getD .none) c' i9)->H1 c'=ϊ (.bo oc (.own c'))->oc.data=.fields vs->vs[1]?=ϊ (.str (X.env.qual++"<lambda>") t) ->
   (H1=H\/(H c'=ϋ/\c'≠P/\H1=upd (upd H c' (.bo oc (.own c'))) P (.eh (ps++#[ĸ il.line,ĸ il.col,.ref c']))/\TriplesOk (ps++#[ĸ il.line,ĸ il.col,.ref c']).toList))->Q (.ref f) s1) :
  á (é X.prog X.w) A (ķ (.Lambda params body scope il) X.env) Q E s:=by
 have Y:s.heap.get? P=ϊ (tabObj ps):=I.aI P _ hP;have G:CodeHd s.heap c P:=C.keeps I.bk
 have F:s.heap.BuiltinsAt X.mg P:=let ⟨bm,o,a1,a2,y,x,v,r⟩:=hb;⟨bm,o,a1,a2,y,x,I.bk _ _ v,r⟩
 have W:s.heap.Ns Ò X.mg:=I.ok.mod.glob.keeps I.bk;have V:Ò≠P:=λq=>by
  obtain⟨o,g,d,e,U,_⟩:=W;rw[q,Y] at e;cases e;cases U
 refine kla_eval Fs ?_
 cases T:codeAmong il ps.toList with
 |some cv =>
  obtain⟨c',oc,vs,t,rfl,u,p,m⟩:=acA cv T;refine kla_makeFunctionHit dj I.ok.glob W Ag G Y ht T F λi9 h' S l Z=>?_
  have R:Inv X π σ H { s with heap:=h'.push (zK (X.env.qual++"<lambda>") params body scope cl ((X.mg "__name__").getD .none) c' i9),toks:=S }:=I.kept λb o e=>Á _ (l b o e)
  exact h _ c' i9 oc vs t H _ R Z (I.aI.fresh Z) (Î _ rfl) u p m (.inl rfl)
 |none =>
  refine kla_makeFunction dj I.ok.glob W Ag G Y ht T V F λc' i9 h' S k O D N M=>?_;obtain⟨c₂,oc,vs,t,e2,j,U,i⟩:=N;cases e2;have L:H c'=ϋ:=I.aI.fresh O;have B:c'≠P:=λz=>by rw[z,hP] at L;cases L
  have R:=I.table (t':=S) hP (h':=h'.push (zK (X.env.qual++"<lambda>") params body scope cl ((X.mg "__name__").getD .none) c' i9)) (λb o n e=>Á _ (k b o n e)) O (Á _ j) (Á _ M);have K:s.heap.objs.size<=h'.objs.size:=Ý O (Nat.le_of_lt D);have J:h'.objs.size≠P:=λz=>by have:=Ð Y;rw[<- z] at this;exact absurd (Ê this K) (ñ _)
  refine h _ c' i9 oc vs t _ _ R K ?_ (Î _ rfl) ?_ U i (.inr ⟨L,B,rfl,?_⟩)
  ·rw[bt J,bt (Ũ D)];exact I.aI.fresh K
  ·rw[bt B,cP]
  ·rw[Array.toList_append]
   exact TriplesOk_snoc _ _ _ _ ht
end
def T6 {pos:Pos} {c cv:Ç} {a b:Int} (l:List Ç) (h:TriplesOk l) (e:codeAmong pos (l++[ĸ a,ĸ b,c])=ϊ cv):codeAmong pos l=ϊ cv\/cv=c:=by
 fun_induction TriplesOk l with
 |case1 =>
  erw[Ļ,codeAmong,ĸ] at e;split at e
  ·cases e;exact .inr rfl
  ·cases e
 |case2 a t b u x rest ih =>
  erw[ħ,codeAmong] at e |-;split
  ·rename_i q;rw[Ñ q] at e;exact .inl e
  ·rename_i q;rw[Ú q] at e;exact ih h e
 |case3 l Z Y=>exact h.elim
def vc (P:å) (w:ā) (K:đ) (mg:Str->Option Ç) (base:ĺ) (N:List Str) (qual:Str) (scope:ac5) (f:Þ) (cd:Ç) (cl:List (Str×Þ)) (A:í) (outer:List Env) (s:Â) (H:Hp) (E:XK):Cx where
 prog:=P
 w:=w
 K:=K
 mg:=mg
 base:=base
 A:=A.deeper (envX qual scope s.heap.objs.size f cd cl)
 N:=N
 df:=s
 mx:=H
 env:=envX qual scope s.heap.objs.size f cd cl
 outer:=outer
 stack:=envX qual scope s.heap.objs.size f cd cl::outer
 ex:=[]
 calm:=ό
 fn:=λ_=>ύ
 pn:=[]
 xe:=λe Y=>á (é P w) (A.deeper (envX qual scope s.heap.objs.size f cd cl)) (leaving (envX qual scope s.heap.objs.size f cd cl) e) (λ_ Z=>fE P w outer H s E e Z) (λX Z=>fE P w outer H s E X Z) Y
structure VN (N:List Str) (scope:ac5):Prop where
 co:scope.isCoroutine=ύ
 gen:scope.isGenerator=ύ
 kind:scope.kind=.function
 wq:∀x∈scope.names,x.2≠.cell
def Zn {P:å} {w:ā} {K:đ} {mg:Str->Option Ç} {base:ĺ} {k:Nat} {f c':Þ} {N:List Str} {q:Str} {params:aeG} {body:ě} {scope:ac5} {cl:List (Str×Þ)} {pm i9:Ç} {vs:List V} {t:XK->TE} {oc:Obj} {fs:Array Ç} {tq:Tok}
  (S:VN N scope) (ho:base.get? f=ϊ (zK q params body scope cl pm c' i9)) (hl:N.length=vs.length)
  (inj:∀x y c,cl.lookup x=ϊ c->cl.lookup y=ϊ c->x=y) (has:∀x,scope.names.lookup x=ϊ .free->∃c,cl.lookup x=ϊ c) (nF:∀x c,cl.lookup x=ϊ c->∃v,base.IsCell c v)
  (hv:∀(i:Nat) x v,N[i]?=ϊ x->vs[i]?=ϊ v->scope.names.lookup x=ϊ .free/\∃c u,cl.lookup x=ϊ c/\base.IsCell c (ϊ u)/\RelV v u)
  (oj:oc.data=.fields fs) (gJ:fs[1]?=ϊ (.str q tq))
  (lg:∀(A:í) (outer:List Env) (s:Â) (H:Hp) (E:XK),bK k (A.deeper (envX q scope s.heap.objs.size f (.ref c') cl))->Lv (vc P w K mg base N q scope f (.ref c') cl A outer s H E) E->PE (vc P w K mg base N q scope f (.ref c') cl A outer s H E) body (t E)) :
  cW P w K mg base (fE P w) (k+1) f (kla_fn "<lambda>" q params body scope cl pm (.ref c') i9) [] (λus H Q E=>us=[]/\H c'=ϊ (.bo oc (.own c'))/\t E (vs.map ϊ) H Q):=by
 refine⟨λus H Q E h=>by rw[h.1];rfl,λA outer s H args us L Q E W Z G r F=>?_⟩;obtain⟨_,D,C⟩:=F;have lim:s.heap.NoLimit:=Z.mod.nolimit.keeps λb o e=>(Z.bs b o e).1;have bk:∀b o,base.get? b=ϊ o->s.heap.get? b=ϊ o:=λb o e=>(Z.bs b o e).1;have U:s.heap.CodeRec (.ref c') q:=⟨c',oc,fs,tq,rfl,(Z.aI c' _ D).1,oj,gJ⟩;refine kla_callFunE W.depth (bk _ _ ho) rfl S.co S.gen rfl U (G _ _ _ _ ?_);refine wpAny_newFunctionEnv S.wq (λx B=>absurd B ∅) (λM n T=>?_) S.kind;have Y:∀b o,s.heap.get? b=ϊ o->M.get? b=ϊ o:=λb o e=>T.extBut b o (ã (Ð e)) (Á _ e);refine⟨lim.keeps Y,?_⟩;show ż _ _ (.expr body (envX q scope s.heap.objs.size f (.ref c') cl)) _ _;have m:bK k (A.deeper (envX q scope s.heap.objs.size f (.ref c') cl)):=W.deeper _;have R:∀c v,base.IsCell c v->H c=ϋ:=λc v ⟨o,e,_⟩=>(Z.bs c o e).2;have O:∀b:Þ,b∉(vc P w K mg base N q scope f (.ref c') cl A outer s H E).ex:=λb z=>absurd (show b∈([]:List Þ) from z) ∅
 have I:Inv (vc P w K mg base N q scope f (.ref c') cl A outer s H E) [] (vs.map ϊ) H { s with heap:=M,toks:=s.toks+([]:List (Str×Ç)).length }:=by
  refine⟨⟨Z.mod,S.kind,rfl,rfl,aeS _,inj,λy hy=>?_,λy c h=>absurd h Ä,λ_=>W.hd,Around.frames_deeper Z.frames,.inr ⟨rfl,rfl⟩,λb z=>absurd z (O b),Z.bs,Z.iX,λb _ _=>O b,λb z=>absurd z (O b),Z.iT,Z.lL⟩,
   rfl,Z.bare,Un.kept Y,⟨_,n,λi y v l X h3=>?_⟩,λy c h=>?_,Z.aI.fresh (aeS _),λy c h=>?_,λp j=>absurd (show p∈([]:List (Þ×Obj)) from j) ∅,Z.aI.kept Y,?_⟩
  ·have hy:scope.names.lookup y=ϊ .cell\/scope.names.lookup y=ϊ .free:=hy
   rcases hy with hy|hy
   ·exact absurd rfl (S.wq _ (Ľ hy))
   ·exact has y hy
  ·have g:vs[i]?=ϊ v:=by
    rw[ê] at X
    cases e:vs[i]? with
    |none=>rw[e] at X;cases X
    |some a=>rw[e] at X;cases X;rfl
   obtain⟨d,c,u,e1,e2,r2⟩:=hv i y v l g;exact⟨u,r2,.inr ⟨.inr d,c,e1,(e2.keeps bk).keeps Y⟩⟩
  ·obtain⟨v,e⟩:=nF y c h
   exact⟨v,(e.keeps bk).keeps Y⟩
  ·obtain⟨v,e⟩:=nF y c h
   exact R c v e
  ·rw[É];exact hl.symm
 refine kla_codeExpr (ė (lg A outer s H E m ⟨rfl,rfl,rfl,rfl⟩ [] _ (vs.map ϊ) H Q I C) (λu s' h=>?_) λe s' h=>h);obtain⟨v,H',J,rv,z⟩:=h;exact⟨v,H',J.os,J.bare,J.base,J.aI,rv,z⟩
end L2
namespace DI
open PySem L2 PySem.W
def aa3 (pre:Hp->Prop):Prop:=∀H Z:Hp,(∀b o u,H b=ϊ (.bo o u)->Z b=ϊ (.bo o u))->pre H->pre Z
def Bc (P:å) (w:ā) (K:đ) (mg:Str->Option Ç) (base:ĺ) (k:Nat) (pre:Hp->Prop) (f:Þ) (vs:List V) (ds:List D) (th:ae->Res D):Prop :=
 aa3 pre/\∃fd,(∃o,base.get? f=ϊ o/\o.data=.func fd)/\Binds K fd [] [] /\
  cW P w K mg base (fE P w) k f fd [] (λX H Q E=>X=[]/\pre H/\∃Z:Wd,Z.H=H/\aU K Z/\au K Z ds vs/\Out K (fF mg E) Z (th Z.aJ) λY d=>∀v,DV K Y d v->Q v Y.H)
def vd (cl:D) (th:ae->Res D) (i:Nat):aeO D:=λenv s=>open Classical in if env[i]?=ϊ (ϊ cl) then th s else ϋ
def spT (K:đ) (pre:Hp->Prop) (cl:D) (fn:List D->ae->Res D):Sp:=λY H Q _=>pre H/\∃w:Wd,w.H=H/\aU K w/\au K w [cl] Y/\Out K cG w (fn [cl] w.aJ) λZ d=>∀v,DV K Z d v->Q v Z.H
def aa4 {P:å} {w:ā} {K:đ} {mg:Str->Option Ç} {base:ĺ} {x:Str} {st:aeg} {f:Þ} {fd:Ģ} {ps:List Str} {k:Nat} {b:aeO Fl} {pre:Hp->Prop} {cl:D} (G:Gd K mg x st ps f fd) (N:List Str) (S:o7 N ps (cA st)=ό)
  (hb:N.Nodup->∀(aY:Ç) (A:í) (outer:List PySem.Env) (s:Â) (H:Hp) (E:XK),pre H->bK k (A.deeper (ŀ x (cA st) s.heap.objs.size f aY))->dh (ie eG P w K mg base N x (cA st) f aY A outer s H E).nV (gv st) (tS K cG b)) :
  cW P w K mg base eG (k+1) f fd ps (spT K pre cl (aD ps.length N.length b)):=by
 refine G.fn.ok (j9 S) (λW H Q E h=>?_) (λaY A outer s H W Q E V h=>?_)
 ·obtain⟨_,w,rfl,S,Y,h⟩:=h
  rw[<- Y.length];delta aD at h;split at h
  ·assumption
  ·exact h.elim
 ·obtain⟨U,w,rfl,T,Y,h⟩:=h
  refine⟨_,hb (j9 S).nd aY A outer s w.H E U V,?_⟩;delta aD at h;split at h
  ·rename_i R
   rw[<- R] at h;refine⟨w,_,rfl,T,Y.env N.length,(Out.ai h).mono λM O L X Z=>?_⟩
   cases O with
   |nx env=>intro J _;exact aB X Z _ rfl
   |rt d=>have q:=aB X Z;exact q
   |bk env=>exact Z.elim
   |ct env=>exact Z.elim
  ·exact h.elim
def nL (env:Env):List Nat->Option (List D)
 | []=>ϊ []
 |i::r=>match env[i]?,nL env r with
  |some (ϊ d),ϊ Z=>ϊ (d::Z)
  |_,_=>ϋ
theorem K8 {K:đ} {w:Wd} {env:Env} {σ:St} (eo:bX K w env σ):∀{caps:List Nat} {ds:List D},nL env caps=ϊ ds->∃vs,au K w ds vs/\∀(i:Nat) j v,caps[i]?=ϊ j->vs[i]?=ϊ v->σ[j]?=ϊ (ϊ v)
 | [],ds,h=>by cases h;exact⟨[],rfl,λi j v h=>by simp at h⟩
 |j::r,ds,h=>by
  delta nL at h;split at h
  ·rename_i d R e1 e2
   cases h;obtain⟨v,X,W⟩:=eo.val j d e1;obtain⟨vs,V,U⟩:=K8 eo e2;refine⟨v::vs,⟨v,vs,rfl,W,V⟩,λi T S Z Y=>?_⟩
   cases i with
   |zero=>cases Z;cases Y;exact X
   |succ i=>exact U i T S (by simpa using Z) (by simpa using Y)
  ·cases h
def mG (x:Str) (caps:List Nat) (fb:aeO D) (g:D->(ae->Res D)->List D->ae->Res D):aeO D:=λenv s=>match (nL env caps:Option (List D)) with
 |some Z=>match (s[0]?:Option Cell) with
  |some (.tb y)=>if ώ (y=x)=ό then ne (g .ar (fb (Z.map ϊ)) [.ar] s) else ϋ
  |_=>ϋ
 |none=>ϋ
def M8 (dN N:List Str) (caps:List Nat) (P1 sc:ac5):Bool:=ώ (sc.kind=.function)&&!sc.isCoroutine&&!sc.isGenerator&&sc.names.all (λy=>ώ (y.2≠.cell))&&ώ (N.length=caps.length) &&
 (N.zip caps).all (λp=>ώ (dN[p.2]?=ϊ p.1)&&ώ (P1.names.lookup p.1=ϊ .cell)&&ώ (sc.names.lookup p.1=ϊ .free))&&sc.names.all (λy=>ώ (y.2≠.free)||ώ (P1.names.lookup y.1=ϊ .cell))
abbrev P2 (P:å) (w:ā) (K:đ) (mg:Str->Option Ç) (x:Str) (st:aeg) (ps:List Str) (k kt:Nat) (g:D->(ae->Res D)->List D->ae->Res D):Prop :=
 ∀{base:ĺ} {pre:Hp->Prop} {f:Þ} {vs:List V} {ds:List D} {th:ae->Res D},Bc P w K mg base kt pre f vs ds th->∀{gA:Þ} {fd:Ģ},Gd K mg x st ps gA fd->cW P w K mg base eG k gA fd ps (spT K pre (.dq f vs ds) (g (.dq f vs ds) th))
section
variable {X:Cx} {Ξ:Wd->bg->Prop} {pos:Pos}
def oH (X:Cx) (H:Hp) (s:Â):ĺ:=hideAll s.heap (cL X.stack++uH s.heap H)
def yZ {H:Hp} {s:Â} {b:Þ} {o:Obj} (e:s.heap.get? b=ϊ o) (n:H b=ϋ) (hf:b∉cL X.stack):(oH X H s).get? b=ϊ o:=hideAll_get _ e λz=>by
 rcases ó.mp z with z|z
 ·exact hf z
 ·delta uH at z
  have:=(ĥ.mp z).2;rw[n] at this;cases this
def K9 {H:Hp} {s:Â} {b:Þ} {o:Obj} (e:(oH X H s).get? b=ϊ o):s.heap.get? b=ϊ o/\H b=ϋ/\b∉cL X.stack:=by
 have e1:=of_hideAll _ e;refine⟨e1,?_,λz=>?_⟩
 ·cases q:H b with
  |none=>rfl
  |some u =>
   have:(oH X H s).get? b=ϋ:=hideAll_none _ (Ù _ (ĥ.mpr ⟨ċ.mpr (Ð e1),by rw[q];rfl⟩));rw[e] at this;cases this
 ·have:(oH X H s).get? b=ϋ:=hideAll_none _ (ÿ _ z)
  rw[e] at this;cases this
def _root_.L2.Inv.Zo {π:List (Þ×Obj)} {σ:St} {H:Hp} {s:Â} (I:Inv X π σ H s):∀b o,X.base.get? b=ϊ o->(oH X H s).get? b=ϊ o:=λb o e=>yZ (I.bs b o e).1 (I.bs b o e).2 λz=>by
 have:=(I.stack.mem z).1;rw[e] at this;cases this
def _root_.L2.Inv.aa5 {π:List (Þ×Obj)} {σ:St} {H:Hp} {s:Â} (I:Inv X π σ H s):nO X.prog X.w X.K X.mg (oH X H s) X.A X.stack s H:=by
 have k:=I.Zo;refine⟨I.ok.frames,⟨I.ok.mod.kE.keeps k,I.ok.mod.glob.keeps k,?_,I.ok.mod.nolimit.keeps k⟩,λb o e=>⟨(K9 e).1,(K9 e).2.1⟩,aeA (hideAll_size _ _),?_,I.vY,I.aI,I.bare⟩
 ·obtain⟨Z,Y,W⟩:=I.ok.mod.blt
  exact⟨Z,Y.keeps k,W⟩
 ·refine funFrames_hide I.stack λenv V a U=>ÿ _ ?_
  delta cL;exact ξ.mpr ⟨env,V,U⟩
def N8 {x g:Str} {p il:Pos} {params:aeG} {body:ě} {sc:ac5} {c P:Þ} {P4:aeg} {P5:List Str} {k n kb:Nat} {gf:D->(ae->Res D)->List D->ae->Res D} {fb:aeO D} (N:List Str) {caps:List Nat}
  (Ag:X.env.code=.ref c) (N9:X.env.qual=x++".<locals>.") (ht:tabIn X.K x=ϊ (c,P)) (hC:codeHdIn X.K c P=ό) (hb:X.base.BuiltinsAt X.mg P)
  (G:GG X.K X.mg g P4 P5) (F:P2 X.prog X.w X.K X.mg g P4 P5 k (kb+1) gf) (acD:∀cl th s,gf cl th [cl] s=gf .ar th [.ar] s) (hr:bK n X.A)
  (lg:∀(base:ĺ) (q:Str) (f:Þ) (cd:Ç) (cl:List (Str×Þ)) (A:í) (outer:List PySem.Env) (s:Â) (H:Hp) (E:XK),bK kb (A.deeper (envX q sc s.heap.objs.size f cd cl))->Lv (vc X.prog X.w X.K X.mg base N q sc f cd cl A outer s H E) E->PE (vc X.prog X.w X.K X.mg base N q sc f cd cl A outer s H E) body (tE X.K (fF X.mg E) fb))
  (hk:k<=n:=by decide) (Fu:M8 X.N N caps X.env.scope sc=ό:=by kernel_rfl) (xY:∀x,X.fn x=ό:=by intro _;rfl) (Ek:∀(cl:List (Str×Þ)) (pm:Ç) (c':Þ) (i9:Ç),bindArgs (kla_fn "<lambda>" (x++".<locals>."++"<lambda>") params body sc cl pm (.ref c') i9) ⟨[],[]⟩=pure []:=by intros;rfl)
  (Fs:defaultsOf params X.env=([],[]):=by rfl) (hg:Gl X g:=by rfl) (dR:(g==("__debug__":Str))=ύ:=by decide)
  (he:Í [.Lambda params body sc il] X.env=(ύ,ķ (.Lambda params body sc il) X.env)::Í [] X.env:=by rfl) (bN:(ī pos (Í [] X.env)).any (·.1)=ύ:=by rfl) :
  PE X (.Call (.Name g p) [.Lambda params body sc il] [] pos) (tE X.K Ξ (mG x caps fb gf)):=by
 intro π s σ H Q I aw;have C:=codeHd_of_K I.ok.mod.kE hC;obtain⟨w,env,eH,S,eo,h⟩:=aw;subst eH;delta mG at h
 cases mL:nL env caps with
 |none=>rw[mL] at h;exact h.elim
 |some W =>
 rw[mL] at h
 cases U:w.aJ[0]? with
 |none=>erw[U] at h;exact h.elim
 |some c0 =>
 erw[U] at h
 cases c0 with
 |dead=>exact h.elim
 |lst _=>exact h.elim
 |dK _=>exact h.elim
 |dT _=>exact h.elim
 |ins _ _=>exact h.elim
 |tb y =>
 dsimp only at h;by_cases hy:y=x
 case neg=>rw[Ú (by simpa using hy)] at h;exact h.elim
 rw[Ñ (by simpa using hy)] at h;subst hy;obtain⟨vs,ak,hvs⟩:=K8 eo mL;obtain⟨a,ha⟩:∃a,w.ρ[0]?=ϊ a:=by
  have:=S.len
  cases hρ:w.ρ with
  |nil=>rw[hρ] at this;have h0:=(Ô.mp U).1;rw[<- this] at h0;simp at h0
  |cons a r=>exact⟨a,rfl⟩
 have acE:=S.cell 0 a _ ha U;obtain⟨c2,ps,t1,t2,t3,t4⟩:=acE;rw[ht] at t1;cases t1;delta M8 at Fu;erw[Å,aeu,ł,Ë,ô] at Fu;obtain⟨⟨⟨⟨⟨⟨k1,k2⟩,k3⟩,k4⟩,k5⟩,k6⟩,k7⟩:=Fu;obtain⟨cl,dj,R⟩:=VL (env:=X.env) (scope:=sc) λz hz=>by
  rcases k7 _ hz with q|q
  ·exact absurd rfl q
  ·exact I.ok.has z (.inl q)
 obtain⟨gA,fdg,G⟩:=G;refine ũ (qf I hg G.mg ?_ dR);refine adM (h₀:=X.base) I.ok.mod.kE G.fn.kp ?_ he bN;rw[he];show á _ _ (spliced ((ύ,ķ (.Lambda params body sc il) X.env)::ī pos (Í [] X.env))) _ _ s;refine adL (VM I dj Ag C hb t2 t3 Fs (λcv q=>?_) λf c' i9 oc fs tq H1 J Y hf O1 GY js oj gJ hH=>?_)
 ·rw[N9]
  obtain⟨c',oc,fs,t,r1,r2,r3,r4⟩:=t4 il cv q;exact⟨c',oc,fs,t,r1,r2.2,r3,r4⟩
 rw[N9] at GY gJ;refine Calls.spliced_nil ⟨Y.fB,?_⟩;have W1:∃V:Wd,V.H=H1/\aU X.K V/\Le X.K w V/\V.aJ=w.aJ:=by
  rcases hH with rfl | ⟨hn,Ba,rfl,Gh⟩
  ·exact⟨w,rfl,S,Le.refl w,rfl⟩
  ·have S2:=S.grow (o:=.bo oc (.own c')) hn
   have O:=(Fw.grow (K:=X.K) (o:=.bo oc (.own c')) hn).le;have l2:=(Fw.put (o:=.eh (ps++#[ĸ il.line,ĸ il.col,.ref c'])) (c:=.tb y) S2 ha U (by intro z;cases z)).le;refine⟨(w.grow c' (.bo oc (.own c'))).put 0 P (.eh (ps++#[ĸ il.line,ĸ il.col,.ref c'])) (.tb y),rfl,S2.xB ha U (by intro z;cases z) ⟨c,_,ht,cP,Gh,λpos cv e=>?_⟩,O.trans l2,?_⟩
   ·rw[Array.toList_append] at e
    rcases T6 _ t3 e with e|e
    ·obtain⟨c3,o3,v3,t3',r1,r2,r3⟩:=t4 pos cv e
     exact⟨c3,o3,v3,t3',r1,(O.trans l2).bo c3 o3 _ r2.1 r2.2,r3⟩
    ·refine⟨c',oc,fs,tq,e,?_,oj,gJ⟩
     exact l2.bo c' oc _ (λz=>me S hn z) cP
   ·exact ac8 λi=>by
     show (w.aJ.set 0 (.tb y))[i]?=w.aJ[i]?
     cases i with
     |zero=>rw[ù (Ô.mp U).1,U]
     |succ i=>rw[õ ⋯]
 obtain⟨V,rfl,S1,O,es⟩:=W1;have cells:∀z Z,cl.lookup z=ϊ Z->∀v,J.heap.IsCell Z v->(oH X V.H J).IsCell Z v:=λz Z e v ⟨o,ho,hd⟩=>by
  have e2:=R.xc z Z e;refine⟨o,yZ ho (Y.je z Z e2) λq=>?_,hd⟩
  rcases Û.mp (Y.kY _ q) with q|q
  ·exact Y.kF z Z e2 q
  ·obtain⟨_,o2,iI,_⟩:=Y.ok.iT.mem q
   exact absurd (Ð iI) (Nat.not_lt.mpr (Y.ok.uJ z Z (xY z) e2))
 have O2:f∉cL X.stack:=λq=>by
  obtain⟨_,o2,iI,_⟩:=I.stack.mem q;exact absurd (Ð iI) (Nat.not_lt.mpr hf)
 have nl:N.length=vs.length:=by
  have e1:=ak.length;have e2:∀(cs:List Nat) (W:List D),nL env cs=ϊ W->W.length=cs.length:=λcs=>by
   induction cs with
   |nil=>intro W h;cases h;rfl
   |cons i r ih =>
    intro W h;delta nL at h;split at h
    ·cases h;rename_i e;simp[ih _ e]
    ·cases h
  rw[k5,<- e2 caps W mL,e1]
 have T:Bc X.prog X.w X.K X.mg (oH X V.H J) (kb+1) (λH=>H c'=ϊ (.bo oc (.own c'))) f vs W (fb (W.map ϊ)):=by
  refine⟨λH H' st q=>st _ _ _ q,_,⟨_,yZ GY O1 O2,rfl⟩,Binds.all λus hl=>?_,(Zn (t:=λE=>tE X.K (fF X.mg E) fb) (vs:=vs) (oc:=oc) ⟨k2,k3,k1,k4⟩ (yZ GY O1 O2) nl (λz1 z2 Z M B=>Y.ok.inj z1 z2 Z (R.xc _ _ M) (R.xc _ _ B)) (λz hz=>R.all z (Ľ hz)) (λz Z e=>?_) (λi z v M B=>?_) oj gJ
   (λA outer s H E hr L=>lg _ _ f (.ref c') cl A outer s H E hr L)).imp λus H Q E h=>?_⟩
  ·have:us=[]:=List.eq_nil_of_length_eq_zero (by simpa using hl)
   subst this;exact Ek _ _ _ _
  ·obtain⟨v,q⟩:=Y.cell z Z (R.xc z Z e)
   exact⟨v,cells z Z e v q⟩
  ·have hi:i<caps.length:=by
    have:=(Ô.mp M).1;rw[k5] at this;exact this
   obtain⟨j,hj⟩:∃j,caps[i]?=ϊ j:=⟨caps[i],Ø hi⟩;have hm:(z,j)∈N.zip caps:=by
    refine ű (i:=i) ?_;rw[List.getElem?_zip_eq_some];exact⟨M,hj⟩
   obtain⟨⟨q1,q2⟩,q3⟩:=k6 _ hm;obtain⟨m,hn,hl⟩:=Y.loc;obtain⟨u,r,lk⟩:=hl j z v q1 (hvs i j v hj B) (.inr (.inl q2));refine⟨q3,?_⟩
   rcases lk with ⟨lk,_⟩ | ⟨_,Z,e1,e2⟩
   ·rw[show X.env.kindOf z=X.env.scope.names.lookup z from rfl,q2] at lk;cases lk
   ·obtain⟨c3,e3⟩:=R.all z (Ľ q3)
    have e4:=R.xc z c3 e3;rw[e1] at e4;cases e4;exact⟨Z,u,e3,cells z Z e3 _ e2,r⟩
  ·obtain⟨M,B,w',rfl,S',mQ,hh⟩:=h
   refine⟨M,B,w',W.map ϊ,rfl,S',⟨?_,λi d e=>?_⟩,hh⟩
   ·rw[É,É];exact mQ.length
   ·rw[ê] at e
    cases q:W[i]? with
    |none=>rw[q] at e;cases e
    |some d' =>
     rw[q] at e;cases e;obtain⟨v,e1,e2⟩:=mQ.get' i d q;exact⟨v,by rw[ê,e1];rfl,e2⟩
 have hq:=(h.from O).ne;rw[<- es,<- acD (.dq f vs W)] at hq;refine adC (ŋ ((F T G).run X.A X.stack J V.H ⟨[.ref f],[]⟩ [.ref f] [.ref f] Q (λ_ _ _=>False) (hr.mono hk) Y.aa5 (G.b J [.ref f] Y.fB ?_) (.cons rfl .nil) ⟨js,V,rfl,S1,⟨.ref f,[],rfl,⟨rfl,O.all ak⟩,rfl⟩,hq⟩) λr s' l=>?_)
 ·have:=(F T G).len [.ref f] V.H Q (λ_ _ _=>False) ⟨js,V,rfl,S1,⟨.ref f,[],rfl,⟨rfl,O.all ak⟩,rfl⟩,hq⟩
  simpa using this
 ·cases r with
  |error e=>exact l.elim
  |ok fl =>
   cases fl with
   |ret u=>exact Y.after l
   |next=>exact č l
   |brk=>exact č l
   |cont=>exact č l
end
end DI
namespace L2
open PySem PySem.Spec PyProof.Rows PySem.W
section
variable {X:Cx} {π:List (Þ×Obj)} {σ:St} {H:Hp} {s:Â}
def zw {M:Model} {A:í} {E:Ç->Â->Prop} {i:Nat} {x:Str} {pos:Pos} {Q:Unit->Â->Prop} (I:Inv X π σ H s) (hN:X.N.Nodup) (hi:X.N[i]?=ϊ x) (hk:X.env.scope.names.lookup x=ϊ .local) (h:∀s',Inv X π (σ.set i ϋ) H s'->Q () s') :
  á M A (do ad7 X.env x .none;unbindBehindTheSuite X.env x pos) Q E s:=by
 obtain⟨m,U,R⟩:=id I.loc;have P:(X.env.scope.kind==.class||(X.env.scope.kind==.module&&X.env.locals != X.env.globals))=ύ:=by rw[I.ok.kind];rfl
 have kF:=I.kF;refine wpAny_nameGoes_keeps hk U P λu v O Z=>?_;obtain⟨t,_,_,r,_⟩:=id U;refine h _ ⟨I.ok,I.os,I.bare,⟨λb o e n W Y=>?_,λb o e n W Y=>?_,I.base.free,λb o e Y=>?_,I.base.gk,I.base.fy,I.base.gm⟩,⟨_,O,λj y L e1 e2 K=>?_⟩,λy c e=>?_,I.free,I.je,λp J=>?_,λb G e=>?_,by rw[ă];exact I.len⟩
 ·exact(Z.2 b (ã (Ê (Ð e) I.ok.above))).trans (I.base.keep b o e n W Y)
 ·obtain⟨sl,e1⟩:=I.base.slot b o e n W Y
  exact⟨sl,(Z.2 b (ã (Ê (Ð e) I.ok.above))).trans e1⟩
 ·obtain⟨F,e1⟩:=I.base.there b o e Y
  exact⟨F,(Z.2 b (ã (Ê (Ð e) I.ok.above))).trans e1⟩
 ·by_cases V:j=i
  ·subst V
   have T:=(Ô.mp e2).1;rw[ă] at T;rw[ù T] at e2;cases e2
  ·rw[õ (ź V)] at e2
   obtain⟨D,C,q⟩:=R j y L e1 e2 K;refine⟨D,C,?_⟩
   rcases q with ⟨k,e⟩ | ⟨k,c,e,z⟩
   ·refine .inl ⟨k,?_⟩
    have:y≠x:=λe=>V (B5 hN e1 (e ▸ hi));simp[this,e]
   ·exact .inr ⟨k,c,e,z.sameBut Z (kF y c e)⟩
 ·obtain⟨S,z⟩:=I.cell y c e
  exact⟨S,z.sameBut Z (kF y c e)⟩
 ·obtain⟨e,n,ne,B,d⟩:=I.pin p J
  exact⟨(Z.2 p.1 ne).trans e,n,ne,B,d⟩
 ·refine(I.aI b G e).iG (λc S w q=>(Z.2 c ?_).trans q) (λ_ q=>q) λ_ _ q=>q
  rintro rfl
  rcases w with z|z
  ·have:=I.free;rw[z,e] at this;cases this
  ·have:=I.free;rw[z] at this;cases this
abbrev Cx.held (X:Cx) (a:Þ):Cx:={ X with A:=X.A.mark (ϊ (.ref a)),calm:=ύ,xe:=λ_ _=>False }
theorem Inv.held (I:Inv X π σ H s) (a:Þ):Inv (X.held a) π σ H s:=by
 obtain⟨⟨a1,a2,Z,Y,W,V,U,T,w,S,R,Q,P,O,N,M,L,K⟩,J,G,F,E,D,C,B,A,y,x⟩:=I;exact⟨⟨a1,a2,Z,Y,W,V,U,T,λz=>absurd z Ä,S,R,Q,P,O,N,M,L,K⟩,J,G,F,E,D,C,B,A,y,x⟩
def Inv.zL {a:Þ} (ok:X.Ok) (I:Inv (X.held a) π σ H s):Inv X π σ H s:=by
 obtain⟨_,Z,Y,W,V,U,T,S,R,Q,P⟩:=I;exact⟨ok,Z,Y,W,V,U,T,S,R,Q,P⟩
def zM (X:Cx) (π:List (Þ×Obj)) (σ:St) (E:XK) (e:Ç) (s':Â):Prop:=∃Z Y,Inv X π σ Z Y/\fE X.prog X.w X.stack Z Y E e s'
def jE {E:XK} {E':Ç->Â->Prop} {e:Ç} {s':Â} {cn n:Str} {np AJ:Pos} {xJ:aeg} {xh:List aeg} {j:Nat} {CM:Þ} {D:Ends} (Th:zM X π σ E e s') (L:X.stack=X.env::X.outer) (hf:X.env.frame=ϊ X.env.locals)
  (hN:X.N.Nodup) (hj:X.N[j]?=ϊ n) (pR:X.env.scope.names.lookup n=ϊ .local) (hg:Gl X cn) (hm:X.mg cn=ϊ (.ref CM)) (hd:(cn==("__debug__":Str))=ύ)
  (h:∀cls m H' ,E cls m H'->exmOne X.K cls (.ref CM)=ϊ ό/\∀(a:Þ) (o:Obj),H' a=ϋ->o.cls=cls->(notCls o=ό/\∀dx,m=ϊ dx->o.dict=ϊ dx)->∀s5,Inv (X.held a) π (σ.set j (ϊ (.ref a))) (upd H' a (.bo o (.own a))) s5 ->
   á (é X.prog X.w) (X.held a).A (execs (xJ::xh) X.env) (SP (X.held a) π { nx:=fun aV H'=>D.nx (aV.set j ϋ) H',rt:=D.rt,bk:=fun aV H'=>D.bk (aV.set j ϋ) H',ct:=fun aV H'=>D.ct (aV.set j ϋ) H' }) (λ_ _=>False) s5) :
  á (é X.prog X.w) X.A (noteFrame e X.env) (λ_ ue=>á (é X.prog X.w) X.A (setFlight e ϋ) (λ_ acF=>á (é X.prog X.w) X.A (handleBy e X.env [.ExceptHandler (ϊ (.Name cn np)) (ϊ n) (xJ::xh) AJ]) (SP X π D) E' acF) E' ue) E' s':=by
 obtain⟨H1,t,W,a,cls,O,H',B,m,rfl,os,bare,F,dm,hE⟩:=Th;obtain⟨p,hh⟩:=h cls m H' hE
 refine ė (zc (LY _ _) (wpAny_looks_onW (E:=λ_ _=>False) (Q:=λ_ s2=>∃V,s2={ s' with heap:=V }/\Heap.HeldW B (X.env::X.outer) a cls O X.env.locals V/\s'.heap.UpToSlots V) (by rw[W.ok.frames,L]) hf (by have:=F.fl;rw[L] at this;exact this) λV x y=>⟨V,rfl,x,y⟩)) (λ_ s2 z=>?_) λ_ _ z=>z.1.elim
 obtain⟨⟨V,rfl,Oa,l⟩,k⟩:=z
 refine ė (zc (BV _ _) (wpAny_landsW (E:=λ_ _=>False) (Q:=λ_ s3=>∃Z,s3={ s' with heap:=Z }/\aee B (X.env::X.outer) a cls O Z/\V.UpToSlots Z) Oa λZ x y=>⟨Z,rfl,x,y⟩)) (λ_ s3 z=>?_) λ_ _ z=>z.1.elim
 obtain⟨⟨Z,rfl,O3,i⟩,g⟩:=z
 have yy:Dm Z a m:=(dm.on k (let ⟨o,e,_⟩:=Oa.there;⟨o,e⟩)).on g (let ⟨o,e,_⟩:=O3.there;⟨o,e⟩)
 have P:aee B X.stack a cls O Z:=by rw[L];exact O3
 have I:=F.on P (l.trans i);have d:t.heap.get? a=ϋ:=by
  cases q:t.heap.get? a with
  |none=>rfl
  |some o =>
   by_cases S:a∈cL X.stack
   ·obtain⟨sl,e1⟩:=I.slot a o q S
    obtain⟨_,o2,e2,hd2⟩:=P.2.2.1.mem S
    obtain⟨H,ws,e3,_,e4,_⟩:=P.first
    rw[e3] at e2;cases e2;exact absurd e4 (hd2 _)
   ·obtain⟨o',e1⟩:=F.there a o q S
    rw[F.fl.2.1] at e1;cases e1
 have I3:Inv X π σ H' { s' with heap:=Z }:=W.wL (s':={ s' with heap:=Z }) (ch:=[]) os I.un I.held bare (λb z=>absurd z ∅)
 refine wpAny_handleBy_cons (codeAny_handlers_test ?_) (by intro q;cases q);refine(show á (é X.prog X.w) (X.held a).A (ķ (.Name cn np) (X.held a).env) _ _ _ from qf (I3.held a) hg hm ?_ hd);obtain⟨ob,hob,xt⟩:=P.there;have LT:Looks (é X.prog X.w) Z (typeOf (.ref a)) cls:=by subst xt;exact(Looks.ld hob).andThen .now
 refine(exm_one (M:=é X.prog X.w) (K:=X.K) (h:=Z) I3.fB LT p).here ?_;refine codeAny_handlers_suite_as ?_
 refine ė (zc (BV _ _) (lands_againW (s:={ s' with heap:=Z }) (E:=λ_ _=>False) (Q:=λ_ s4=>∃Y,s4={ s' with heap:=Y }/\aee B X.stack a cls O Y/\Z.UpToSlots Y) P λY x y=>⟨Y,rfl,x,y⟩)) (λ_ s4 z=>?_) λ_ _ z=>z.1.elim
 obtain⟨⟨Y,rfl,G,up4⟩,dk4⟩:=z
 have yz:Dm Y a m:=yy.on dk4 (let ⟨o,e,_⟩:=G.there;⟨o,e⟩)
 have F4:=I.on G up4;obtain⟨H,C,acH⟩:=G.there;have R:H' a=ϋ:=F4.new
 have I4:Inv X π σ (upd H' a (.bo H (.own a))) { s' with heap:=Y }:=by
  have u:=F4.un;have gX:∀b o,t.heap.get? b=ϊ o->b≠a:=λb o e z=>by rw[z,d] at e;cases e
  refine W.wL (s':={ s' with heap:=Y }) (ch:=[]) os ⟨u.keep,u.slot,λb o e n p=>?_,u.there,λb xs e=>?_,λb o v e=>?_,λb ps e=>?_⟩ (λb v e=>?_) bare (λb z=>absurd z ∅)
  ·rw[bt (gX b o e)];exact u.free b o e n p
  ·have:=u.gk b xs e;rw[bt (dD this R)];exact this
  ·have:=u.fy b o v e;rw[bt (dD this R)];exact this
  ·obtain⟨more,this⟩:=u.gm b ps e;exact⟨more,by rw[bt (dD this R)];exact this⟩
  ·by_cases S:b=a
   ·subst S
    rw[cP] at e;cases e;exact⟨C,H,C⟩
   ·rw[bt S] at e
    refine(F4.held b v e).iG (λ_ _ _ q=>q) (λc q=>?_) λc xs q=>?_
    ·rw[bt (dD q R)];exact q
    ·rw[bt (dD q R)];exact q
 refine oq I4 hN hj (.inl pR) (v:=.ref a) (u:=.ref a) rfl (λs5 I5=>?_) (.inr pR)
 refine ė (hh a H R acH ⟨by obtain⟨o2,vs,e1,_,e2,_⟩:=G.first;rw[C] at e1;cases e1;delta notCls;rw[e2],λdx e=>by obtain⟨o,e1,e2⟩:=yz dx e;rw[C] at e1;cases e1;exact e2⟩ s5 (I5.held a)) (λf s6 q=>?_) λ_ _ z=>z.elim
 cases f with
 |next =>
  obtain⟨aV,U,J,q⟩:=q;exact zw (J.zL W.ok) hN hj pR λs7 T=>⟨_,U,T,q⟩
 |brk =>
  obtain⟨aV,U,J,q⟩:=q;exact zw (J.zL W.ok) hN hj pR λs7 T=>⟨_,U,T,q⟩
 |cont =>
  obtain⟨aV,U,J,q⟩:=q;exact zw (J.zL W.ok) hN hj pR λs7 T=>⟨_,U,T,q⟩
 |ret u =>
  obtain⟨v,aV,U,J,r,q⟩:=q;exact zw (J.zL W.ok) hN hj pR λs7 T=>⟨v,_,U,T,r,q⟩
end
end L2
namespace DI
open PySem L2 PySem.W
def bX.unset {K:đ} {w:Wd} {env:Env} {σ:St} (h:bX K w env σ) (i:Nat):bX K w (env.set i ϋ) (σ.set i ϋ):=by
 refine⟨by rw[ă,ă];exact h.len,λj X e=>?_⟩;by_cases Z:i=j
 ·subst Z
  have Y:=(Ô.mp e).1;rw[ă] at Y;rw[ù Y] at e;cases e
 ·rw[õ Z] at e
  rw[õ Z];exact h.val j X e
section
variable {X:Cx} {E:XK} {pos:Pos}
def Zp {π:List (Þ×Obj)} {σ:St} {s:Â} {w:Wd} {env:Env} {Q:VK} {k i:Nat} {x:Str} {p:Pos} {pre:Hp->Prop} {f:Þ} {vs:List V} {ds:List D} {th:ae->Res D} (T:Bc X.prog X.w X.K X.mg X.base k pre f vs ds th) (h0:pre X.mx) (hr:bK k X.A)
  (hN:X.N[i]?=ϊ x) (hv:qY X.env.scope x) (hd:(x==("__debug__":Str))=ύ) (eD:(x==("__classdict__":Str))=ύ)
  (I:Inv X π σ w.H s) (S:aU X.K w) (eo:bX X.K w env σ) (he:env[i]?=ϊ (ϊ (.dq f vs ds))) (h:Out X.K (fF X.mg E) w (th w.aJ) λw' d=>∀v,DV X.K w' d v->Q v w'.H) :
  á (é X.prog X.w) X.A (ķ (.Call (.Name x p) [] [] pos) X.env) (EP X π σ Q) (zM X π σ E) s:=by
 obtain⟨M,fd,⟨o,L,J⟩,G,F⟩:=T;obtain⟨v,e1,e2⟩:=eo.val i _ he;obtain⟨rfl,C⟩:=e2;refine PySem.wpAny_Call_Name_kw ?_;have U:=(Mz (X:=X.kz λe O=>zM X π σ E e O) (pos:=p) hN hv hd eD π s σ w.H (λv B=>v=.ref f/\B=w.H) (I.kz _) ⟨_,e1,rfl,rfl⟩);refine aO U λu R U=>?_;obtain⟨v,q,Z,r,rfl,rfl⟩:=U;have Z:=Z.nA;have r:u=.ref f:=r;subst r;have z:∀h:ĺ,h.get? f=ϊ o->∃k,(k=Keeper.frame\/k=Keeper.machine\/k=Keeper.boundFrame)/\Looks (é X.prog X.w) h (keeperOf (.ref f)) k:=λh e=>by
  obtain⟨n,m,y,os⟩:=o;cases J;exact⟨.frame,.inl rfl,(Looks.ld (part:=ϋ) e).andThen .now⟩
 refine PySem.W.callWith_of (P:=λh=>h.get? f=ϊ o) rfl z (PyProof.Rows.evalArgs_nil3 ⟨Z.bk _ _ L,?_⟩);refine adC (ŋ (F.run X.A X.stack R w.H ⟨[],[]⟩ [] [] Q E hr Z.kA (G R [] Z.fB rfl) .nil ⟨rfl,M _ _ (λb o u e=>Z.base.fy b o u e) h0,w,rfl,S,C,h⟩) λr O Y=>?_)
 cases r with
 |error e=>exact⟨w.H,R,Z,Y⟩
 |ok t =>
  cases t with
  |ret u=>exact Z.after Y
  |next=>exact č Y
  |brk=>exact č Y
  |cont=>exact č Y
end
end DI
namespace L2
open PySem PySem.Spec PySem.Calls PyProof.Rows PySem.W PySem.Builtin PySem.Builtin.ObjectAttr PySem.Builtin.Getset_descriptor
section
variable {prog:å} {w:ā} {A:í} {E:Ç->Â->Prop} {s:Â} {K:đ} {x C:Þ}
def oI (K:đ) (C:Þ):Bool:=(findIn K (.ref C) "__getattribute__"==ϊ (ϊ (.builtin "BaseException.__getattribute__")))&&(findIn K (.ref C) "__getattr__"==ϊ ϋ)&&(clsIn K C).isSome&&(findIn K (.ref C) "__class__"==ϊ (ϊ (.builtin "object.__class__")))&&(specialIn K (.builtin "object.__class__") "__get__"==ϊ (ϊ (.builtin "getset_descriptor.__get__")))&&(takesIn K (.builtin "object.__class__")==ϊ ό)&&(mroIn K C (.type "object")==ϊ ό)&&(mroIn K C (.type "BaseException")==ϊ ό)
def Zq {M:Model} {Ob:Ç} {Q:Unit->Â->Prop} (LT:Looks M s.heap (typeOf (.ref x)) (.ref C)) (M5:Looks M s.heap (isSubtype (.ref C) (.type "BaseException")) ό) (hq:Q () s):á M A (aem "BaseException.__getattribute__" ⟨[.ref x,Ob],[]⟩) Q E s:=by
 have Z:builtinKind "BaseException.__getattribute__"=ϊ .slot:=nofun
 have Y:splitId "BaseException.__getattribute__"=ϊ ("BaseException","__getattribute__"):=nofun
 have X:=F.args_bexc_ga (.ref x) Ob;erw[aem,Z,Y];refine À ?_;delta isInstance
 repeat (first|with_reducible refine LT.at ?_|with_reducible refine M5.at ?_|wp_step)
 exact hq
def cls_read {Q:Option Ç->Â->Prop} (X:K.In s.heap) (LT:Looks (é prog w) s.heap (typeOf (.ref x)) (.ref C)) (hc:oI K C=ό) (h:Q (ϊ (.ref C)) { s with toks:=s.toks+1 }) :
  á (é prog w) A (getAttr? (.ref x) "__class__") Q E s:=by
 delta oI at hc;erw[Å,beq_iff_eq] at hc;obtain⟨⟨⟨⟨⟨⟨⟨Y,W⟩,_⟩,V⟩,U⟩,T⟩,S⟩,R⟩:=hc;obtain⟨Z,g,d,t,os⟩:=s;have M1:=looks_findIn (M:=é prog w) X Y;have M2:=looks_findIn (M:=é prog w) X W;have P:Looks (é prog w) Z (find (.ref x) (.ref C) "__class__") (.bind (.builtin "getset_descriptor.__get__") (.builtin "object.__class__")) :=
  (looks_findIn X V).andThen ((looks_specialIn X U).andThen ((show Looks (é prog w) Z (dataDescriptor? (ϊ (.builtin "object.__class__")) (ϊ (.builtin "getset_descriptor.__get__"))) (ϊ (.builtin "getset_descriptor.__get__",.builtin "object.__class__")) from (looks_takesIn X T).andThen .now).andThen (Looks.tag .now)))
 have L:=looks_mroIn (M:=é prog w) X S;have O:=looks_mroIn (M:=é prog w) X R;have N:=F.attr_ValueError.ga.bind (.ref x);delta getAttr? getAttrBy? getAttrBy;refine À (wpAny_mkText (À (Ž (ą (À (LT.at (À (M1.at ?_))))))));show á _ _ (getAttrByItsOwn (.ref x) _ (.ref C) (.builtin "BaseException.__getattribute__") ύ ύ) _ _ _;delta getAttrByItsOwn;refine À (M2.at (À (Ž (ą ?_))));show á _ _ (boundAndCalled (.builtin "BaseException.__getattribute__") (.ref x) _) _ _ _;delta boundAndCalled;rw[N];refine À (Ã (adC (ų F.attr_ValueError.ga.plain F.entry_bexc_ga ?_)));refine Zq LT O ?_;delta Ř.«object.__getattribute__»;rw[show slotArgs "__getattribute__" 1 ⟨[.ref x]++[.str "__class__" t],[]⟩=pure (.ref x,[.str "__class__" t]) from rfl];refine À (Ã ?_);dsimp only;rw[show attrName (.str "__class__" t)=pure ("__class__":Str) from rfl];refine À (Ã (À (LT.at (À (P.at ?_)))));show á _ _ (ade [Value.builtin "object.__class__"] (call (.builtin "getset_descriptor.__get__") [.builtin "object.__class__",.ref x,.ref C]) >>= ret) _ _ _;refine À (ą (adC ?_));refine ų KF.slot_gs.plain KF.entry_gs (KF.slot_gs.check _ _ _ _ _ _ _ _ KF.type_class (KF.args_gs _ _ _) ?_);delta Ř.«getset_descriptor.__get__» descrGet;rw[dga_obj];refine À (Ã ?_);delta descrGetter descrCheckInstance descrNameAndClass isInstance;erw[KF.owner_class]
 repeat lk
 refine⟨adQ _ nofun,Ŋ KF.entry_class ?_⟩;delta Ř.«object.__class__» shownTypeOf
 repeat lk
 exact h
def VO {o:Obj} (ho:o.cls=.ref C) (hc:oI K C=ό):KitX K (.ref x) (.ref C) (λh=>h.get? x=ϊ o) where
 ty:=λM h _ e=>ho ▸ (Looks.ld e).andThen .now
 it:=λM h X _=>by
  delta oI at hc;erw[Å] at hc;have z:=hc.1.1.1.1.1.2;delta clsIn at z;split at z
  ·rename_i q
   intro W V U T k r;delta isType loadHead;exact À (wpAny_loadPart (k _ _ (X _ _ q)) (Ã r))
  ·cases z
 ne:=λh Z S its n sl X Y=>by
  delta oI at hc;erw[Å] at hc;have z:=hc.1.1.1.1.1.2;refine Bool.eq_false_iff.mpr λq=>?_;have e:C=Z:=Value.ref.inj (beq_iff_eq.mp q);subst e;delta clsIn at z;split at z
  ·rename_i r
   have z:=(X _ _ r).symm.trans Y;cases z
  ·cases z
 ca:=λX e k=>cls_read X (ho ▸ (Looks.ld e).andThen .now) hc k
end
end L2
namespace DI
open PySem L2 PySem.W
def ef (cs:List Str) (yes:Str->Bool) (d:D) (s:ae):Res D:=match d with
 | .ar=>ok (.bl ύ) s
 | .exc c _=>if ώ (c∈cs)=ό then ok (.bl (yes c)) s else ϋ
 |_=>ϋ
def sO (K:đ) (cs:List Str) (T:Ç) (yes:Str->Bool):Prop:=kitOne K (.type "NoneType") T=ϊ ύ/\∀c∈cs,∃C,nsIn K Ò c=ϊ (ϊ (.ref C))/\oI K C=ό/\kitOne K (.ref C) T=ϊ (yes c)
section
variable {X:Cx} {Ξ:Wd->bg->Prop} {a:ě} {pos:Pos} {f:aeO D}
def Zs {cs:List Str} {T:Ç} {yes:Str->Bool} (hc:sO X.K cs T yes) {vT:V} (hT:∀u,RelV vT u->u=T):cU X (.builtin "isinstance") (λxs H Q=>∃(w:Wd) (d:D) (x:V),w.H=H/\aU X.K w/\DV X.K w d x/\xs=[x,vT]/\Out X.K Ξ w (ef cs yes d w.aJ) λw' d=>∀v,DV X.K w' d v->Q v w'.H):=by
 intro A s σ H y N Q I r zzz;obtain⟨w,d,x,rfl,S,U,rfl,h⟩:=zzz;obtain⟨Y,W,R,Z⟩:∃Y,RelV x Y/\∃R,N=[Y,R]/\RelV vT R:=by
  cases r with
  |cons W Z=>cases Z with|cons Z M=>cases M;exact⟨_,W,_,rfl,Z⟩
 obtain⟨rfl,Z⟩:=Z;cases hT _ Z
 cases d with
 |ar =>
  have e:x=.ar:=U;subst e;have e:Y=Value.none:=W;subst e;exact kia_one kitx_none I.fB trivial hc.1 (by intro z;cases z) λP=>⟨.bl ύ,w.H,I.tok P,rfl,aB S h _ rfl⟩
 |exc c _ =>
  erw[DV] at U;obtain⟨b,o,C,rfl,L,⟨J,G⟩,_⟩:=U;have e:Y=ō b:=W;subst e;delta ef at h;dsimp only at h;split at h
  ·rename_i F
   obtain⟨t,O,E,B⟩:=hc.2 c (æ F);rw[G] at O;cases O;exact kia_one (VO J E) I.fB (I.aI b _ L.2).1 B (by intro z;cases z) λP=>⟨.bl (yes c),w.H,I.tok P,rfl,aB S h _ rfl⟩
  ·exact h.elim
 |_=>exact h.elim
def M9 {cs:List Str} {T:Ç} {yes:Str->Bool} {vT:V} {cn:Str} {p np:Pos} (hc:sO X.K cs T yes) (hT:∀u,RelV vT u->u=T) (h1:PE X (.Name cn np) (tC vT)) (ha:PE X a (tE X.K Ξ f)) (hm:X.mg "isinstance"=ϋ) (hv:ü "isinstance"=ϊ (.builtin "isinstance")) (hg:Gl X "isinstance":=by rfl)
  (hs:Í [a,.Name cn np] X.env=(ύ,ķ a X.env)::Í [.Name cn np] X.env:=by rfl) (gZ:Í [.Name cn np] X.env=(ύ,ķ (.Name cn np) X.env)::Í [] X.env:=by rfl) (bN:(ī pos (Í [.Name cn np] X.env)).any (·.1)=ύ:=by rfl) :
  PE X (.Call (.Name "isinstance" p) [a,.Name cn np] [] pos) (tE X.K Ξ (e1 (ef cs yes) f)) :=
 cm (B6 (Zs (Ξ:=Ξ) hc hT) hg hm hv (kQ ha (kQ h1 ma gZ) hs) (by decide) (by decide) hs bN) fun σ H Q Z=>by
  obtain⟨w,env,Y,S,W,h⟩:=Z;subst Y;exact⟨w,env,rfl,S,W,(Out.ai h).mono λU x O R h1 v1 P=>⟨U,x,v1,rfl,R,P,rfl,h1⟩⟩
end
open PyProof.Rows PySem.SeqAt
def Fv (d:D) (s:ae):Res D:=match d with
 | .lst Z=>match iy Z with
  |some bs=>ok (.int (bs.count ό:Nat)) s
  |none=>ϋ
 |_=>ϋ
def Ha (d:D) (s:ae):Res D:=match d with
 | .lst Z=>match iy Z with
  |some bs=>if (ώ (bs.idxOf ό<bs.length)&&ώ (bs.length<=100))=ό then ok (.int (bs.idxOf ό:Nat)) s else ϋ
  |none=>ϋ
 |_=>ϋ
theorem Oc:∀(bs:List Bool) (m:Nat) (h:m<bs.length),m<bs.idxOf ό->bs[m]=ύ
 | [],m,h,_=>absurd h (Nat.not_lt_zero _)
 |true::r,m,h,g=>by simp at g
 |false::r,0,h,g=>rfl
 |false::r,m+1,h,g=>by
  have e:(ύ::r).idxOf ό=r.idxOf ό+1:=by rw[List.idxOf_cons];rfl
  rw[e] at g;exact Oc r m (by simpa using h) ⋯
def uA:Ç->Bool
 | .bool b=>b
 |_=>ύ
theorem BW:∀{bs:List Bool} {its:List Ç},Vals (bs.map V.bl) its->its=bs.map ś
 | [],_,.nil=>rfl
 |b::r,_,.cons e t=>by
  have e:_=ś b:=e;rw[e,BW t];rfl
theorem LZ:∀bs:List Bool,(bs.map ś).countP uA=bs.count ό
 | []=>rfl
 |b::r=>by
  rw[à,List.countP_cons,List.count_cons,LZ r]
  cases b<;>rfl
def Na {A:í} {s:Â} {bs:List Bool} (y:Ç) (hy:y∈(bs.map ś).toArray):EqAt A s y (.bool ό) (uA y):=by
 have hy:y∈bs.map ś:=by simpa using hy
 obtain⟨b,_,rfl⟩:=ĉ.mp hy;have h:=EqAt.bool_bool (A:=A) (s:=s) b ό
 cases b<;>exact h
section
variable {X:Cx} {Ξ:Wd->bg->Prop} {o:ě} {f:aeO D} {p apos ba:Pos} {j:Nat}
def VP:rj X "list.count" (λx xs H Q=>∃(a:Þ) (bs:List Bool),x=.ref a/\xs=[.bl ό]/\bY X.K H a (bs.map V.bl)/\Q (.int (bs.count ό:Nat)) H):=by
 intro G s σ H x xs v U Q I T S zzz;obtain⟨a,bs,rfl,rfl,R,h⟩:=zzz;have e:v=ō a:=T;subst e;obtain⟨u,rfl,rfl⟩:∃u,U=[u]/\u=ś ό:=by
  cases S with|cons P O=>cases O;exact⟨_,rfl,P⟩
 obtain⟨its,N,M,_⟩:=I.list R;cases BW N;obtain⟨⟨cls,L,data,sl⟩,n,Z,Y,_,W⟩:=M;simp only at Y W;subst Y W;refine η PySem.F.slot_list_count ⟨_,Z,rfl⟩ PySem.F.entry_list_count (PySem.F.args_list_count_2 _ _) (list_countAt a _ n L sl (.bool ό) uA) ⟨Z,λy J=>Na y J,?_⟩;rw[show (bs.map ś).toArray.toList=bs.map ś from rfl,LZ];exact⟨.int _,H,I.tok _,⟨_,rfl⟩,h⟩
def VQ:rj X "list.index" (λx xs H Q=>∃(a:Þ) (bs:List Bool),x=.ref a/\xs=[.bl ό]/\bY X.K H a (bs.map V.bl)/\bs.idxOf ό<bs.length/\bs.length<=100/\Q (.int (bs.idxOf ό:Nat)) H):=by
 intro B s σ H x xs v T Q I S R zzz;obtain⟨a,bs,rfl,rfl,P,O,A,h⟩:=zzz;have e:v=ō a:=S;subst e;obtain⟨u,rfl,rfl⟩:∃u,T=[u]/\u=ś ό:=by
  cases R with|cons N M=>cases M;exact⟨_,rfl,N⟩
 obtain⟨its,L,J,_⟩:=I.list P;cases BW L;obtain⟨⟨cls,G,data,sl⟩,n,Z,Y,_,W⟩:=J;simp only at Y W;subst Y W;have sz:(bs.map ś).toArray.size=bs.length:=by simp
 refine η PySem.F.slot_list_index ⟨_,Z,rfl⟩ PySem.F.entry_list_index (PySem.F.args_list_index_2 _ _) (list_indexAt a _ n G sl (.bool ό) uA (bs.idxOf ό) (by rw[sz];exact O) ⋯ ?_ ?_) ⟨Z,λy E=>Na y E,?_⟩
 ·simp[uA,List.getElem_idxOf]
 ·intro m U D
  have C:=Oc bs m (by rw[sz] at U;exact U) D;simp[uA,C]
 ·exact⟨.int _,H,I.tok _,⟨_,rfl⟩,h⟩
def Zt (ho:PE X o (tE X.K Ξ f))
  (hZ:İ o "count" X.env (ķ o X.env)=ķ o X.env:=by rfl)
  (lq:((ī ba (Í [.Constant (.bool ό) j p] X.env)).all (λx=>!x.1)&&(adq ba (ŗ [] X.env)).all (λx=>x.1.isSome)
   && ώ (([.Constant (.bool ό) j p]:List ě).length+([]:List adf).length+(if ([]:List adf).isEmpty then 0 else 1)<30))=ό:=by rfl)
  (ia:(apos.endLine==ba.line)=ό:=by rfl) (hs:Í [.Constant (.bool ό) j p] X.env=(ύ,ķ (.Constant (.bool ό) j p) X.env)::Í [] X.env:=by rfl) (iO:(ī ba (Í [] X.env)).any (·.1)=ύ:=by rfl) :
  PE X (.Call (.Attribute o "count" apos) [.Constant (.bool ό) j p] [] ba) (tE X.K Ξ (e1 Fv f)) :=
 cm (wN ſ PySem.F.slot_list_count PySem.F.type_list_count VP ho (kQ D5 ma hs) hZ lq ia hs iO) fun σ H Q V=>by
  obtain⟨w,env,U,S,T,h⟩:=V;subst U;refine⟨w,env,rfl,S,T,(Out.ai h).mono λO d N R Z v Y=>?_⟩
  cases d with
  |lst M =>
   delta Fv at Z;dsimp only at Z;split at Z
   ·rename_i bs P
    erw[DV] at Y;obtain⟨a,L,rfl,W,r⟩:=Y;cases wB P;cases r.v7;exact⟨.inl ⟨rfl,_,W.sq⟩,a,bs,rfl,rfl,W.sq,aB R Z _ rfl⟩
   ·exact Z.elim
  |_=>exact Z.elim
def aa6 (ho:PE X o (tE X.K Ξ f))
  (hZ:İ o "index" X.env (ķ o X.env)=ķ o X.env:=by rfl)
  (lq:((ī ba (Í [.Constant (.bool ό) j p] X.env)).all (λx=>!x.1)&&(adq ba (ŗ [] X.env)).all (λx=>x.1.isSome)
   && ώ (([.Constant (.bool ό) j p]:List ě).length+([]:List adf).length+(if ([]:List adf).isEmpty then 0 else 1)<30))=ό:=by rfl)
  (ia:(apos.endLine==ba.line)=ό:=by rfl) (hs:Í [.Constant (.bool ό) j p] X.env=(ύ,ķ (.Constant (.bool ό) j p) X.env)::Í [] X.env:=by rfl) (iO:(ī ba (Í [] X.env)).any (·.1)=ύ:=by rfl) :
  PE X (.Call (.Attribute o "index" apos) [.Constant (.bool ό) j p] [] ba) (tE X.K Ξ (e1 Ha f)) :=
 cm (wN ſ PySem.F.slot_list_index PySem.F.type_list_index VQ ho (kQ D5 ma hs) hZ lq ia hs iO) fun σ H Q U=>by
  obtain⟨w,env,T,S,R,h⟩:=U;subst T;refine⟨w,env,rfl,S,R,(Out.ai h).mono λN d M P Z v W=>?_⟩
  cases d with
  |lst L =>
   delta Ha at Z;dsimp only at Z;split at Z
   ·rename_i bs O
    split at Z
    ·rename_i Y
     rw[Å,Ë,Ë] at Y;erw[DV] at W;obtain⟨a,J,rfl,V,r⟩:=W;cases wB O;cases r.v7;exact⟨.inl ⟨rfl,_,V.sq⟩,a,bs,rfl,rfl,V.sq,Y.1,Y.2,aB P Z _ rfl⟩
    ·exact Z.elim
   ·exact Z.elim
  |_=>exact Z.elim
end
end DI
namespace L2
open PySem PySem.Spec PyProof.Rows PySem.W
def T7 {Pr:å} {w:ā} {K:đ} {mg mb:Str->Option Ç} {CX:jV} {k:Nat} {fa a c P:Þ} {fd:Ģ} {x:Str} {sp:Sp} {bJ:Â} {vs:List Ç} {ns:List Int}
  (KX:K.In bJ.heap) (pE:bJ.heap.Ns Ò mg) (hb:bJ.heap.Ns builtinsNs mb) (hbb:∀x:Str,x≠"__name__"->mb x=ü x) (acI:bJ.heap.NoLimit) (hg:bJ.gens=#[])
  (ha:bJ.heap.get? a=ϊ { cls:=.type "list",data:=.seq vs.toArray }) (hi:aej vs ns) (hl:ns.length<=Õ) (hr:bK k callerA)
  (CT:CodeHd bJ.heap c P) (hP:bJ.heap.get? P=ϊ (tabObj #[])) (Hb:K.lookup P=ϋ) (Hc:bJ.heap.BuiltinsAt mg P)
  (F:∀base:ĺ,K.In base->base.Ns Ò mg->base.BuiltinsAt mg P->cW Pr w K mg base CX k fa fd [x] sp) (Ek:∀(s:Â) (u:Ç),BindsTo s fd ⟨[u],[]⟩ [(x,u)])
  (jW:∀H:Hp,H P=ϊ (.eh #[])->bY K H a (ns.map V.int)->sp [.ref a] H (λv _=>v=.bl ό) λ_ _ _=>False)
  (Hd:∀H e s',CX [] H bJ (λ_ _ _=>False) e s'->False) :
  ż (é Pr w) callerA (.call (.ref fa) ⟨[.ref a],[]⟩) (λr s'=>r=.ok (.ret (.bool ό))/\OldK bJ.heap s'.heap/\s'.os=bJ.os/\aeJ s'.gens) bJ:=by
 have O:=Kd hi;have U:=hi.length;have N:a≠P:=λz=>by rw[z,hP] at ha;cases ha
 have core:∀H:Hp,H P=ϊ (.eh #[])->(∀b,H b=ϋ\/b=P\/(b=a/\∃o T,H b=ϊ (.bo o (.lst T))))->bY K H a (ns.map V.int)->cN Pr w H bJ.heap->(H a≠ϋ->K.lookup a=ϋ) ->
   ż (é Pr w) callerA (.call (.ref fa) ⟨[.ref a],[]⟩) (λr s'=>r=.ok (.ret (.bool ό))/\OldK bJ.heap s'.heap/\s'.os=bJ.os/\aeJ s'.gens) bJ:=by
  intro H M S C L B;have free:∀{b:Þ} {o:Obj},bJ.heap.get? b=ϊ o->o≠tabObj #[]->o≠{ cls:=.type "list",data:=.seq vs.toArray }->H b=ϋ:=λ{b o} e A y=>by
   rcases S b with z|z | ⟨z,_⟩
   ·exact z
   ·rw[z,hP] at e;exact absurd (aeT e).symm A
   ·rw[z,ha] at e;exact absurd (aeT e).symm y
  have X:∀{b:Þ} {m:Str->Option Ç},bJ.heap.Ns b m->(nN bJ.heap H).Ns b m:=λ{b m} ⟨o,t,p,e,d,r⟩=>⟨o,t,p,B4 e (free e (λz=>by rw[z] at d;cases d) λz=>by rw[z] at d;cases d),d,r⟩;have J:K.In (nN bJ.heap H):=λb o e=>B4 (KX b o e) (by
   rcases S b with z|z | ⟨z,I,T,W⟩
   ·exact z
   ·rw[z,Hb] at e;cases e
   ·subst z;rw[B (by rw[W];intro z;cases z)] at e;cases e)
  have l:Mod K mg (nN bJ.heap H):=⟨J,X pE,⟨mb,X hb,hbb⟩,let ⟨j,i,g⟩:=acI;⟨j,X i,g⟩⟩
  have f:(nN bJ.heap H).BuiltinsAt mg P:=let ⟨bm,o,b1,b2,b3,b4,G,R,r⟩:=Hc;⟨bm,o,b1,b2,b3,b4,B4 G (free G (λz=>by rw[z] at R;cases R) λz=>by rw[z] at r;cases r.2),R,r⟩
  have e0:nO Pr w K mg (nN bJ.heap H) callerA [] bJ H:=⟨rfl,l,λb o e=>WA e,aeA (Tc _ _),trivial,λb hb=>absurd (show b∈([]:List Þ) from hb) ∅,L,.of_eq hg⟩;refine ŋ ((F _ J (X pE) f).run callerA [] bJ H ⟨[.ref a],[]⟩ [.ref a] [.ref a] _ _ hr e0 (Ek bJ (.ref a)) (.cons rfl .nil) (jW H M C)) λr s' h=>?_
  cases r with
  |error e=>exact(Hd H e s' h).elim
  |ok fl =>
   cases fl with
   |next=>exact č h
   |brk=>exact č h
   |cont=>exact č h
   |ret u =>
    obtain⟨v,H',os,bare,un,E,r',q⟩:=h;have q':v=.bl ό:=q;subst q';obtain rfl:u=ś ό:=r';have keep:∀b o,bJ.heap.get? b=ϊ o->b≠P->s'.heap.get? b=ϊ o:=λb o e n=>by
     rcases S b with z|z | ⟨z,I,T,W⟩
     ·exact un.keep b o e z (by intro z;exact absurd (show b∈([]:List Þ) from z) ∅) ∅
     ·exact absurd z n
     ·obtain⟨e1,_⟩:=L b _ W
      obtain⟨e2,_⟩:=E b _ (un.fy b I _ W);rw[e] at e1;cases e1;exact e2
    obtain⟨more,hm⟩:=un.gm P _ M;have D:s'.heap.get? P=ϊ (tabObj (#[]++more)):=E P _ hm;refine⟨rfl,⟨λb o e=>?_,λb o e=>?_⟩,os,bare⟩
    ·by_cases hb:b=P
     ·subst hb
      rw[hP] at e;cases e;exact .inr (.inl ⟨(CT.tab hP).isCodeTable,rfl,#[],more,rfl,D⟩)
     ·exact .inl (keep b o e hb)
    ·by_cases hb:b=P
     ·subst hb;exact⟨_,D⟩
     ·exact⟨o,keep b o e hb⟩
 cases Q:K.lookup a with
 |some o =>
  have e:=KX a o Q;rw[ha] at e;cases e
  refine core (λb=>if b=P then ϊ (.eh #[]) else ϋ) (Ñ rfl) (λb=>?_) (.inr ⟨_,vs.toArray,_,Q,rfl,rfl,rfl,by rw[Ü,U];exact hl,by simpa using O⟩) (λb u z=>?_) (λz=>absurd (Ú N) z)
  ·by_cases hb:b=P
   ·exact .inr (.inl hb)
   ·exact .inl (Ú hb)
  ·by_cases hb:b=P
   ·have Z:=(Ñ hb).symm.trans z
    cases Z;subst hb;exact hP
   ·have Z:=(Ú hb).symm.trans z
    cases Z
 |none =>
  refine core (λb=>if b=P then ϊ (.eh #[]) else if b=a then ϊ (.bo { cls:=.type "list",data:=.seq vs.toArray } (.lst (ns.map V.int))) else ϋ) (Ñ rfl) (λb=>?_) (.inl (.inr ⟨{ cls:=.type "list",data:=.seq vs.toArray },(Ú N).trans (Ñ rfl)⟩)) (λb u z=>?_) (λ_=>Q)
  ·by_cases hb:b=P
   ·exact .inr (.inl hb)
   ·by_cases Y:b=a
    ·exact .inr (.inr ⟨Y,_,_,(Ú hb).trans (Ñ Y)⟩)
    ·exact .inl ((Ú hb).trans (Ú Y))
  ·by_cases hb:b=P
   ·have Z:=(Ñ hb).symm.trans z
    cases Z;subst hb;exact hP
   ·by_cases Y:b=a
    ·have Z:=((Ú hb).trans (Ñ Y)).symm.trans z
     cases Z;subst Y;exact⟨ha,by rw[É];exact hl,vs,_,O,ha⟩
    ·have Z:=((Ú hb).trans (Ú Y)).symm.trans z
     cases Z
def Zu {l:OpenLaw} {n k:Nat} {q:å} {loose:List Str} {XP:(Str->Option Ç)->ĺ->Prop} {YP:ā->ĺ->Prop} {d:DefRec} {K:Params->đ} {CX:ā->jV} {sp:ā->Þ->Sp} {x:Str}
  (hn:l.most=ϊ n) (uO:n<=Õ) (yd:d.params.defaults=[]) (hr:bK k callerA)
  (hY:∀(w:ā) (h:ĺ),YP w h->(K w.params).In h) (hd:(recsOf q).find? (λe=>e.name==d.name)=ϊ d)
  (F:∀(w:ā) (mg:Str->Option Ç) (fa:Þ) (h:ĺ),(K w.params).In h->h.Ns Ò mg->mg d.name=ϊ (.ref fa) ->
   ∃(c P:Þ) (fd:Ģ),tabIn (K w.params) d.name=ϊ (c,P)/\(K w.params).lookup P=ϋ/\(∀(s:Â) (u:Ç),BindsTo s fd ⟨[u],[]⟩ [(x,u)]) /\
    ∀base:ĺ,(K w.params).In base->base.Ns Ò mg->base.BuiltinsAt mg P->cW l.prog w (K w.params) mg base (CX w) k fa fd [x] (sp w P))
  (jW:∀(w:ā) (P:Þ) (H:Hp) (a:Þ) (ns:List Int),ns.length<=n->H P=ϊ (.eh #[])->bY (K w.params) H a (ns.map V.int)->sp w P [.ref a] H (λv _=>v=.bl ό) λ_ _ _=>False)
  (Hd:∀(w:ā) (H:Hp) (s:Â) (e:Ç) (s':Â),CX w [] H s (λ_ _ _=>False) e s'->False) :
  WalkO q loose XP YP l.row.toRowW d [] (λf vs=>PySem.call f vs):=by
 refine Py.Rz hn yd λw m S mg j fa o pm cd doc a vs ns G Y i kJ eD O N hints Z M=>?_;have W:=hY w _ Y;obtain⟨c,P,fd,L,J,I,E⟩:=F w mg fa _ W G.T.g O;obtain⟨D,R⟩:=tab_of G.T W hd L;have C:S.heap.BuiltinsAt mg P:=by
  obtain⟨bm,B,A,y,X,Q,t,U⟩:=G.T.bmain;refine⟨bm,B,A,y,λz=>?_,λz=>?_,X,Q,t,U⟩
  ·obtain⟨o,es,ep,e,hd,_⟩:=G.T.g
   rw[z,e] at X;cases X;rw[hd] at U;cases U
  ·rw[z,R] at X;cases X;cases Q
 exact T7 W G.T.g G.T.b G.T.builtins G.T.nolimit M N hints (Ý Z uO) hr D R J C E I (λH r p=>jW w P H a ns Z r p) λH e s'=>Hd w H S e s'
end L2
namespace DI
open PySem L2 PySem.W
def aa7 {P:å} {w:ā} {K:đ} {mg:Str->Option Ç} {base:ĺ} {x:Str} {st:aeg} {f c T:Þ} {fd:Ģ} {ps:List Str} {k:Nat} {b:aeO Fl} (G:Gd K mg x st ps f fd) (hx:nsIn K Ò x=ϊ (ϊ (.ref f))) (ht:tabIn K x=ϊ (c,T)) (N:List Str) (S:o7 N ps (cA st)=ό)
  (hb:N.Nodup->∀(A:í) (outer:List PySem.Env) (s:Â) (H:Hp) (E:XK),bK k (A.deeper (ŀ x (cA st) s.heap.objs.size f (.ref c)))->dh (ie eG P w K mg base N x (cA st) f (.ref c) A outer s H E).nV (gv st) (tS K cG b)) :
  cW P w K mg base eG (k+1) f fd ps (lU K (aD ps.length N.length b)):=by
 obtain⟨D,C,kV,doc,pm,an,X,ct,B,rfl,lk,U⟩:=G.fn.ex;have R:X=.ref c:=by
  delta tabIn at ht;rw[hx] at ht;dsimp only at ht;rw[lk] at ht;dsimp only at ht
  cases X with
  |ref z =>
   dsimp only at ht;split at ht
   ·split at ht
    ·cases ht;rfl
    ·cases ht
   ·cases ht
  |_=>cases ht
 subst R;refine Aa lk U (j9 S) (λO H Q E h=>?_) λA outer s H O Q E M h=>?_
 ·obtain⟨w,L,rfl,S,Y,h⟩:=h
  rw[<- Y.length];delta aD at h;split at h
  ·assumption
  ·exact h.elim
 ·obtain⟨W,L,rfl,J,Y,h⟩:=h
  refine⟨_,(hb (j9 S).nd A outer s W.H E M).nV,?_⟩;delta aD at h;split at h
  ·rename_i I
   rw[<- I] at h;refine⟨W,_,rfl,J,Y.env N.length,(Out.ai h).mono λy F v V Z=>?_⟩
   cases F with
   |nx env=>intro u _;exact aB V Z _ rfl
   |rt d=>have q:=aB V Z;exact q
   |bk env=>exact Z.elim
   |ct env=>exact Z.elim
  ·exact h.elim
def zN (K:đ) (T:Þ):Sp:=λY H Q _=>∃(a:Þ) (Z:List Int),Y=[.ref a]/\bY K H a (Z.map V.int)/\Z.length<=63/\H T=ϊ (.eh #[])/\∀X,Q (.bl ό) X
def Xs {P:å} {w:ā} {K:đ} {mg:Str->Option Ç} {base:ĺ} {k:Nat} {f c T:Þ} {fd:Ģ} {x y:Str} {g:List D->ae->Res D} (F:cW P w K mg base eG k f fd [x] (lU K g)) (ht:tabIn K y=ϊ (c,T))
  (h:∀ns:List Int,ns.length<=63->∃s,g [.bO ns] [.tb y]=ϊ (.ok (.bl ό),s)):cW P w K mg base eG k f fd [x] (zN K T):=F.imp λR H Q E ⟨a,ns,e,hS,X,Y,q⟩=>by
 subst e;obtain⟨s,W⟩:=h ns X;have V:∀b,(⟨[T],[.tb y],H⟩:Wd).Z b->b=T:=λb ⟨k,c,e1,_,_⟩=>by
  cases k with
  |zero=>exact(aeT e1).symm
  |succ k=>cases e1
 have S:aU K ⟨[T],[.tb y],H⟩:=by
  refine⟨rfl,by simp,λk a e=>?_,λk a O e1 e2=>?_⟩
  ·cases k with
   |zero=>cases e;show H T≠ϋ;rw[Y];intro z;cases z
   |succ k=>cases e
  ·cases k with
   |zero=>cases e1;cases e2;exact⟨c,#[],ht,Y,trivial,λpos N z=>by cases z⟩
   |succ k=>cases e1
 refine⟨⟨[T],[.tb y],H⟩,[.bO ns],rfl,S,au.one ⟨a,rfl,?_⟩,?_⟩
 ·rcases hS with hS|hS
  ·refine .inl ⟨λz=>?_,hS⟩
   rw[V a z] at hS
   rcases hS with hS | ⟨_,hS⟩<;>(rw[Y] at hS;cases hS)
  ·exact .inr hS
 ·show Out K cG _ (g [.bO ns] [.tb y]) _
  rw[W];intro M _ _ _ v U;have e:v=.bl ό:=U;subst e;exact q _
def Rg:ü "ValueError"=ϊ (.type "ValueError"):=nofun
def isNm (n c:Str):Bool:=ώ (c=n)
def anyS (_:Str):Bool:=ό
abbrev lV (P:å) (w:ā) (K:đ) (mg:Str->Option Ç) (base:ĺ) (x:Str) (st:aeg) (ps:List Str) (k:Nat) (fn:List D->ae->Res D):Prop:=∀{f:Þ} {fd:Ģ},Gd K mg x st ps f fd->cW P w K mg base (fE P w) k f fd ps (pP mg K fn)
def fR (K:đ) (mg:Str->Option Ç) (cs:List Str) (n:Str):Prop:=∃C,mg n=ϊ (.ref C)/\sO K cs (.ref C) (isNm n)
def Qa (K:đ) (mg:Str->Option Ç) (cs:List Str) (n:Str):Prop:=∃Z,mg n=ϊ (.ref Z)/\∀c∈cs,∃C,nsIn K Ò c=ϊ (ϊ (.ref C))/\mg c=ϊ (.ref C)/\exmOne K (.ref C) (.ref Z)=ϊ ό
section
variable {X:Cx} {E:XK} {Ξ:Wd->bg->Prop} {e a b c:ě} {es rest:List ě} {pos:Pos} {f g h:aeO D} {fa:aeO (List D)}
def jK {k n:Nat} {x:Str} {st:aeg} {ps:List Str} {fn:List D->ae->Res D} {p:Pos} (G:GG X.K X.mg x st ps) (F:lV X.prog X.w X.K X.mg X.base x st ps k fn) (L:Passes (fE X.prog X.w) X E) (hr:bK n X.A) (ha:PA X (e::es) (tA X.K (fF X.mg E) fa)) (hk:k<=n:=by decide) (hg:Gl X x:=by rfl) (dR:(x==("__debug__":Str))=ύ:=by decide)
  (he:Í (e::es) X.env=(ύ,ķ e X.env)::Í es X.env:=by rfl) (bN:(ī pos (Í es X.env)).any (·.1)=ύ:=by rfl):PE X (.Call (.Name x p) (e::es) [] pos) (tE X.K (fF X.mg E) (dM fn fa)):=by
 obtain⟨f,fd,G⟩:=G;exact Xr L (F G) (hr.mono hk) hg G.mg G.fn.kp G.b ha dR he bN
def gB {cs:List Str} {cn:Str} {p np:Pos} (hc:fR X.K X.mg cs cn) (ha:PE X a (tE X.K Ξ f)) (hm:X.mg "isinstance"=ϋ) (hg:Gl X "isinstance":=by rfl) (He:Gl X cn:=by rfl) (hd:(cn==("__debug__":Str))=ύ:=by decide)
  (hs:Í [a,.Name cn np] X.env=(ύ,ķ a X.env)::Í [.Name cn np] X.env:=by rfl) (gZ:Í [.Name cn np] X.env=(ύ,ķ (.Name cn np) X.env)::Í [] X.env:=by rfl) (bN:(ī pos (Í [.Name cn np] X.env)).any (·.1)=ύ:=by rfl) :
  PE X (.Call (.Name "isinstance" p) [a,.Name cn np] [] pos) (tE X.K Ξ (e1 (ef cs (isNm cn)) f)):=by
 obtain⟨C,Z,h⟩:=hc;exact M9 (vT:=.ref C) h (λu r=>r) (CB He Z rfl hd) ha hm ng hg hs gZ bN
def Zv {cs:List Str} {p np:Pos} (hc:sO X.K cs (.type "ValueError") anyS) (ha:PE X a (tE X.K Ξ f)) (hm:X.mg "isinstance"=ϋ) (hmV:X.mg "ValueError"=ϋ) (hg:Gl X "isinstance":=by rfl) (He:Gl X "ValueError":=by rfl)
  (hs:Í [a,.Name "ValueError" np] X.env=(ύ,ķ a X.env)::Í [.Name "ValueError" np] X.env:=by rfl) (gZ:Í [.Name "ValueError" np] X.env=(ύ,ķ (.Name "ValueError" np) X.env)::Í [] X.env:=by rfl) (bN:(ī pos (Í [.Name "ValueError" np] X.env)).any (·.1)=ύ:=by rfl) :
  PE X (.Call (.Name "isinstance" p) [a,.Name "ValueError" np] [] pos) (tE X.K Ξ (e1 (ef cs anyS) f)) :=
 M9 (vT:=.ty "ValueError") hc (λu r=>r) (Lz He hmV Rg rfl) ha hm ng hg hs gZ bN
end
def mq (K:đ) (cs asked:List Str) (jE:Str):Bool :=
 cs.all (λc=>match nsIn K Ò c with
  |some (ϊ (.ref C))=>excIn K C [.type "ValueError",.type "Exception",.type "BaseException",.type "object"] "ValueError.__new__"&&oI K C&&(kitOne K (.ref C) (.type "ValueError")==ϊ ό) &&
   (match nsIn K Ò jE with|some (ϊ (.ref Z))=>exmOne K (.ref C) (.ref Z)==ϊ ό | _=>ύ) &&
   asked.all (λn=>match nsIn K Ò n with|some (ϊ (.ref A))=>kitOne K (.ref C) (.ref A)==ϊ (isNm n c) | _=>ύ)
  |_=>ύ) &&
 asked.all (λn=>match nsIn K Ò n with|some (ϊ (.ref A))=>kitOne K (.type "NoneType") (.ref A)==ϊ ύ | _=>ύ)&&(kitOne K (.type "NoneType") (.type "ValueError")==ϊ ύ) &&
 (match nsIn K Ò jE with|some (ϊ (.ref _))=>ό | _=>ύ)
def DG (K:đ) (x:Str):Bool:=match tabIn K x with
 |some (c,P)=>codeHdIn K c P&&(K.lookup P).isNone
 |none=>ύ
def Xt {K:đ} {x:Str} (h:DG K x=ό):∃c P,tabIn K x=ϊ (c,P)/\codeHdIn K c P=ό/\K.lookup P=ϋ:=by
 delta DG at h;split at h
 ·rename_i c P e
  rw[Å] at h;exact⟨c,P,e,h.1,ado.mp h.2⟩
 ·cases h
def wG {K:đ} {x:Str} {p:Þ->Bool} (h:(match nsIn K Ò x with|some (ϊ (.ref C))=>p C | _=>ύ)=ό):∃C,nsIn K Ò x=ϊ (ϊ (.ref C))/\p C=ό:=by
 split at h
 ·rename_i C e
  exact⟨C,e,h⟩
 ·cases h
section
variable {K:đ} {cs asked:List Str} {jE:Str} {h:ĺ} {mg:Str->Option Ç}
def x_at (f:mq K cs asked jE=ό) {c:Str} (hc:c∈cs):∃C,nsIn K Ò c=ϊ (ϊ (.ref C))/\excIn K C [.type "ValueError",.type "Exception",.type "BaseException",.type "object"] "ValueError.__new__"=ό/\oI K C=ό/\kitOne K (.ref C) (.type "ValueError")=ϊ ό /\
  (∃CM,nsIn K Ò jE=ϊ (ϊ (.ref CM))/\exmOne K (.ref C) (.ref CM)=ϊ ό)/\∀n∈asked,∃A,nsIn K Ò n=ϊ (ϊ (.ref A))/\kitOne K (.ref C) (.ref A)=ϊ (isNm n c):=by
 delta mq at f;erw[Å] at f;obtain⟨C,e,q⟩:=wG (ô.mp f.1.1.1 c hc);erw[Å,beq_iff_eq] at q;obtain⟨⟨⟨⟨X,W⟩,V⟩,Z⟩,Y⟩:=q;obtain⟨CM,U,Z⟩:=wG Z;refine⟨C,e,X,W,V,⟨CM,U,beq_iff_eq.mp Z⟩,λn T=>?_⟩;obtain⟨A,S,Y⟩:=wG (ô.mp Y n T);exact⟨A,S,beq_iff_eq.mp Y⟩
def o9 (X:K.In h) (G:h.Ns Ò mg) (f:mq K cs asked jE=ό) {c:Str} (hc:c∈cs):mF K mg c:=by
 obtain⟨C,e,q,_⟩:=x_at f hc;exact⟨C,e,mg_of X G e,q⟩
def acK (X:K.In h) (G:h.Ns Ò mg) (f:mq K cs asked jE=ό):Qa K mg cs jE:=by
 have Z:=f;delta mq at Z;erw[Å] at Z;obtain⟨Y,e,_⟩:=wG Z.2;refine⟨Y,mg_of X G e,λc W=>?_⟩;obtain⟨C,e1,_,_,_,⟨V,e2,q⟩,_⟩:=x_at f W;rw[e] at e2;cases e2;exact⟨C,e1,mg_of X G e1,q⟩
def gH (X:K.In h) (G:h.Ns Ò mg) (f:mq K cs asked jE=ό) {n:Str} (hn:n∈asked):fR K mg cs n:=by
 have Z:=f;delta mq at Z;erw[Å] at Z;obtain⟨A,e,q⟩:=wG (ô.mp Z.1.1.2 n hn);refine⟨A,mg_of X G e,beq_iff_eq.mp q,λc Y=>?_⟩;obtain⟨C,e1,_,W,_,_,V⟩:=x_at f Y;obtain⟨T,e2,U⟩:=V n hn;rw[e] at e2;cases e2;exact⟨C,e1,W,U⟩
def aa8 (f:mq K cs asked jE=ό):sO K cs (.type "ValueError") anyS:=by
 have Z:=f;delta mq at Z;erw[Å,beq_iff_eq] at Z;refine⟨Z.1.2,λc Y=>?_⟩;obtain⟨C,e1,_,X,W,_⟩:=x_at f Y;exact⟨C,e1,X,W⟩
end
end DI
namespace L2
open PySem PySem.Spec PyProof.Rows PySem.W
structure ic (k:Nat) (A:í):Prop where
 dp:A.depth+3*k+5<recursionLimit
 un:A.units+16*k+200<cLine
def bK.h {k:Nat} {A:í} (r:bK k A):ic k A:=⟨r.dp,r.un⟩
def ic.mono {j k:Nat} {A:í} (r:ic k A) (h:j<=k):ic j A:=⟨by have:=r.dp;omega,by have:=r.un;omega⟩
theorem ic.deeper {k:Nat} {A:í} (r:ic (k+1) A) (env:Env):ic k (A.deeper env) :=
 ⟨by have:=r.dp;show A.depth+1+3*k+5 < _;omega,by have:=r.un;show A.units+3+16*k+200 < _;omega⟩
theorem ic.depth {k:Nat} {A:í} (r:ic k A):A.depth<recursionLimit:=by have:=r.dp;omega
def ic.held {k:Nat} {A:í} (r:ic k A) (v:Option Ç):ic k (A.mark v):=⟨r.dp,r.un⟩
structure Ah (P:å) (w:ā) (K:đ) (mg:Str->Option Ç) (base:ĺ) (k:Nat) (f:Þ) (fd:Ģ) (ps:List Str) (sp:Sp):Prop where
 len:∀vs H Q E,sp vs H Q E->vs.length=ps.length
 run:∀(A:í) (outer:List Env) (s:Â) (H:Hp) (args:Args) (us:List Ç) (vs:List V) (Q:VK) (E:XK),ic k A->nO P w K mg base A outer s H->BindsTo s fd args (ps.zip us)->Vals vs us->sp vs H Q E ->
  ż (é P w) A (.call (.ref f) args) (CR eG outer P w H s Q E) s
abbrev _root_.PySem.Around.Ai (A:í):í:={ A with handled:=ϋ }
abbrev Cx.loud (X:Cx) (A:í):Cx:={ X with A:=A,calm:=ύ,xe:=λ_ _=>False }
theorem Inv.loud {X:Cx} {π:List (Þ×Obj)} {σ:St} {H:Hp} {s:Â} (I:Inv X π σ H s) (A:í) (h:A.frames=X.A.frames):Inv (X.loud A) π σ H s:=by
 obtain⟨⟨a1,a2,Z,Y,W,V,U,T,v,S,R,Q,P,O,N,M,L,K⟩,J,G,F,E,D,C,B,y,x,w⟩:=I;exact⟨⟨a1,a2,Z,Y,W,V,U,T,λz=>absurd z Ä,h.trans S,R,Q,P,O,N,M,L,K⟩,J,G,F,E,D,C,B,y,x,w⟩
def Zw {P:å} {w:ā} {K:đ} {mg:Str->Option Ç} {base:ĺ} {k:Nat} {f:Þ} {name qual:Str} {params:aeG} {body:List aeg} {scope:ac5} {dV kV doc pm aY ct oc:Ç} {an od:Option Þ}
  {jt:Array (Option Ç)} {N ps:List Str} {sp:Sp} (lk:K.lookup f=ϊ ⟨oc,od,.func (Ś name qual params body scope dV kV doc pm an aY ct),jt⟩) (eD:adj K aY qual=ό) (S:sI N ps scope)
  (len:∀vs H Q E,sp vs H Q E->vs.length=ps.length)
  (lg:∀(A:í) (outer:List Env) (s:Â) (H:Hp) (vs:List V) (Q:VK) (E:XK),ic k (A.deeper (aeN qual scope s.heap.objs.size f aY))->sp vs H Q E ->
   ∃t,dh ((ie eG P w K mg base N qual scope f aY A.Ai outer s H E).loud (A.deeper (aeN qual scope s.heap.objs.size f aY))) body t/\t { nx:=λ_ H'=>Q .ar H',rt:=Q } (start N vs) H) :
  Ah P w K mg base (k+1) f (Ś name qual params body scope dV kV doc pm an aY ct) ps sp:=by
 refine⟨len,λA outer s H args n vs Q E R Z L r O=>?_⟩;have G:=len _ _ _ _ O;have M:K.In s.heap:=Z.mod.kE.keeps λb o e=>(Z.bs b o e).1;have lim:s.heap.NoLimit:=Z.mod.nolimit.keeps λb o e=>(Z.bs b o e).1;refine codeAny_call_function R.depth (M _ _ lk) rfl S.co S.gen rfl (PySem.W.codeRec_of M eD) (L _ _ _ _ ?_);refine wpAny_newFunctionEnv_cells S.kind (λy F=>?_) λenv D C x=>?_
 ·rcases S.par y.1 (aer F).1 with q|q
  ·exact .inl q
  ·exact .inr ⟨q,μ _ _ _ (.inl q)⟩
 subst D;refine⟨lim.keeps x.toInCall.keep,codeAny_func ?_⟩;obtain⟨t,B,z⟩:=lg A outer s H vs Q E (R.deeper _) O;have I:=(Kc (CX:=eG) (P:=P) (w:=w) (A:=A.Ai) (E:=E) S rfl ⟨Z.frames,Z.mod,Z.bs,Z.iX,Z.iT,Z.lL,Z.aI,Z.bare⟩ G r x).loud (A.deeper (aeN qual scope s.heap.objs.size f aY)) rfl;refine ė (B [] C (start N vs) H _ I z) (λp U Y=>?_) λe U Y=>Y.elim;have fin:∀{X:St} {H':Hp} {v:V} {u:Ç},Inv ((ie eG P w K mg base N qual scope f aY A.Ai outer s H E).loud (A.deeper (aeN qual scope s.heap.objs.size f aY))) [] X H' U->RelV v u->Q v H'->CE outer P w H s Q u U :=
  λ{X H' v u} J T q=>⟨v,H',J.os,J.bare,J.base,J.aI,T,q⟩
 cases p with
 |ret u=>obtain⟨v,X,H',J,T,q⟩:=Y;exact fin J T q
 |next=>obtain⟨X,H',J,q⟩:=Y;exact fin (v:=V.ar) (u:=Value.none) J rfl q
 |brk=>obtain⟨_,_,_,q⟩:=Y;exact q.elim
 |cont=>obtain⟨_,_,_,q⟩:=Y;exact q.elim
section
variable {X:Cx} {k:Nat} {f:Þ} {fd:Ģ} {ps:List Str} {sp:Sp} {E:XK} {x:Str} {p pos:Pos} {e:ě} {es:List ě} {t:TA}
def VR (F:Ah X.prog X.w X.K X.mg X.base k f fd ps sp) (hr:ic k X.A) (hg:Gl X x) (hm:X.mg x=ϊ (.ref f)) (hk:Œ X.K (.ref f)=ό) (hb:Binds X.K fd ps [])
  (ha:PA X (e::es) t) (dR:(x==("__debug__":Str))=ύ:=by decide) (he:Í (e::es) X.env=(ύ,ķ e X.env)::Í es X.env:=by rfl) (bN:(ī pos (Í es X.env)).any (·.1)=ύ:=by rfl) :
  PE X (.Call (.Name x p) (e::es) [] pos) (NK sp [] E0 t):=by
 intro S s σ H Q I h;refine ũ (qf I hg hm ?_ dR);refine adM (h₀:=X.base) I.ok.mod.kE hk (aO (ha pos S s σ H _ I h) λZ V ⟨U,R,W,r,q⟩=>⟨W.fB,?_⟩) he bN;have T:Vals (U++[]) (Z++[]):=r.append .nil;have P:(Z++[]).length=ps.length:=by rw[<- T.length];exact F.len _ _ _ _ q
 refine adC (ŋ (F.run X.A X.stack V R ⟨Z,[]⟩ (Z++[]) (U++[]) Q E0 hr W.kA (hb V Z W.fB P) T q) λr N Y=>?_)
 cases r with
 |error e=>exact č Y
 |ok O =>
  cases O with
  |ret u=>exact W.after Y
  |next=>exact č Y
  |brk=>exact č Y
  |cont=>exact č Y
end
end L2
namespace DI
open PySem L2 PySem.W
abbrev Qb (P:å) (w:ā) (K:đ) (mg:Str->Option Ç) (base:ĺ) (x:Str) (st:aeg) (ps:List Str) (k:Nat) (fn:List D->ae->Res D):Prop:=∀{f:Þ} {fd:Ģ},Gd K mg x st ps f fd->Ah P w K mg base k f fd ps (lU K fn)
def aa9 {P:å} {w:ā} {K:đ} {mg:Str->Option Ç} {base:ĺ} {x:Str} {st:aeg} {f:Þ} {fd:Ģ} {ps:List Str} {k:Nat} {b:aeO Fl} (G:Gd K mg x st ps f fd) (N:List Str) (S:o7 N ps (cA st)=ό)
  (hb:N.Nodup->∀(aY:Ç) (A:í) (outer:List PySem.Env) (s:Â) (H:Hp) (E:XK),ic k (A.deeper (ŀ x (cA st) s.heap.objs.size f aY))->dh ((ie eG P w K mg base N x (cA st) f aY A.Ai outer s H E).loud (A.deeper (ŀ x (cA st) s.heap.objs.size f aY))) (gv st) (tS K cG b)) :
  Ah P w K mg base (k+1) f fd ps (lU K (aD ps.length N.length b)):=by
 obtain⟨L,J,kV,doc,pm,an,aY,ct,I,rfl,lk,W⟩:=G.fn.ex;refine Zw lk W (j9 S) (λV H Q E h=>?_) λA outer s H V Q E U h=>?_
 ·obtain⟨w,T,rfl,S,Y,h⟩:=h
  rw[<- Y.length];delta aD at h;split at h
  ·assumption
  ·exact h.elim
 ·obtain⟨w,T,rfl,R,Y,h⟩:=h
  refine⟨_,hb (j9 S).nd aY A outer s w.H E U,?_⟩;delta aD at h;split at h
  ·rename_i O
   rw[<- O] at h;refine⟨w,_,rfl,R,Y.env N.length,(Out.ai h).mono λF M D X Z=>?_⟩
   cases M with
   |nx env=>intro C _;exact aB X Z _ rfl
   |rt d=>have q:=aB X Z;exact q
   |bk env=>exact Z.elim
   |ct env=>exact Z.elim
  ·exact h.elim
def oJ (cs:List Str) (told:Str) (f:aeO D) (j:Nat) (b:aeO Fl):aeO Fl:=λenv s=>match f env s with
 |none=>ϋ
 |some (.ok d,s)=>ok (.rt (.tup [.str told,d])) s
 |some (.error x,s)=>if ώ (x.c∈cs)=ό then ai (b (env.set j (ϊ (.exc x.c x.many))) s) λZ s=>match Z with
   | .nx env=>ok (.nx (env.set j ϋ)) s
   | .rt d=>ok (.rt d) s
   |_=>ϋ else ϋ
section
variable {X:Cx} {E:XK} {Ξ:Wd->bg->Prop} {e a b c:ě} {es rest:List ě} {pos:Pos} {f g h:aeO D} {fa:aeO (List D)}
def aba {k n:Nat} {x:Str} {st:aeg} {ps:List Str} {fn:List D->ae->Res D} {p:Pos} (G:GG X.K X.mg x st ps) (F:Qb X.prog X.w X.K X.mg X.base x st ps k fn) (hr:ic n X.A) (ha:PA X (e::es) (tA X.K Ξ fa)) (hk:k<=n:=by decide) (hg:Gl X x:=by rfl) (dR:(x==("__debug__":Str))=ύ:=by decide)
  (he:Í (e::es) X.env=(ύ,ķ e X.env)::Í es X.env:=by rfl) (bN:(ī pos (Í es X.env)).any (·.1)=ύ:=by rfl):PE X (.Call (.Name x p) (e::es) [] pos) (tE X.K Ξ (aG fn fa)):=by
 obtain⟨f,fd,G⟩:=G;refine cm (VR (F G) (hr.mono hk) hg G.mg G.fn.kp G.b ha dR he bN) fun σ H Q Y=>?_;obtain⟨w,env,W,S,V,h⟩:=Y;subst W;refine⟨w,env,rfl,S,V,(Out.ai h).mono λZ U N T R P O=>?_⟩;show lU X.K fn (P++[]) Z.H Q E0;rw[Ħ];exact⟨Z,U,rfl,T,O,R.ne⟩
def Hf:aeO D:=λ_ _=>ϋ
def O5:PE X e (tE X.K Ξ Hf):=λ_ _ _ _ _ _ ⟨_,_,_,_,_,h⟩=>h.elim
def El (x y:D) (s:ae):Res D:=match x,y with
 | .int i,.int j=>ok (.bl (!(i==j))) s
 |_,_=>ϋ
def abb:bM X (ĕ .NotEq) (rO X.K Ξ El):=by
 intro Z s σ H x y v u Q I Y W zzz;obtain⟨w,R,P,rfl,S,U,T,h⟩:=zzz;delta El at h;split at h
 ·rename_i i j
  cases U;cases T;refine NJ Z s σ w.H _ _ v u Q I Y W ⟨rfl,?_⟩;have:(!ώ (V.int i=V.int j))=!(i==j):=by
   congr 1;rw[ĭ];simp
  rw[this];exact aB S h _ rfl
 ·exact h.elim
def Zx {k i j:Nat} {x cn n told:Str} {p ba xw acL np AJ c0:Pos} {k0 k1} {pre:Hp->Prop} {f:Þ} {vs:List V} {ds:List D} {th:ae->Res D} {xJ:aeg} {xh:List aeg} {b:aeO Fl} {cs:List Str} (T:Bc X.prog X.w X.K X.mg X.base k pre f vs ds th) (h0:pre X.mx) (hr:bK k X.A)
  (hc:∃CM,X.mg cn=ϊ (.ref CM)/\∀c∈cs,∃C,nsIn X.K Ò c=ϊ (ϊ (.ref C))/\X.mg c=ϊ (.ref C)/\exmOne X.K (.ref C) (.ref CM)=ϊ ό)
  (hs:∀a,dh (X.held a) (xJ::xh) (tS X.K cG b)) (Gg:X.N.Nodup)
  (L:X.stack=X.env::X.outer:=by rfl) (hf:X.env.frame=ϊ X.env.locals:=by rfl) (hj:X.N[j]?=ϊ n:=by rfl) (pR:X.env.scope.names.lookup n=ϊ .local:=by rfl) (hg:Gl X cn:=by rfl) (hdc:(cn==("__debug__":Str))=ύ:=by decide)
  (hN:X.N[i]?=ϊ x:=by rfl) (hv:qY X.env.scope x:=by first|exact ο rfl|exact Or.inr (ο rfl)|exact Or.inr (Or.inr rfl)) (hd:(x==("__debug__":Str))=ύ:=by decide) (eD:(x==("__classdict__":Str))=ύ:=by decide)
  (h1:Í [.Constant (.str told) k0 c0,.Call (.Name x p) [] [] ba] X.env=(ύ,ķ (.Constant (.str told) k0 c0) X.env)::Í [.Call (.Name x p) [] [] ba] X.env:=by rfl) (h2:Í [.Call (.Name x p) [] [] ba] X.env=(ύ,ķ (.Call (.Name x p) [] [] ba) X.env)::Í [] X.env:=by rfl) :
  PS X (.Try [.Return (ϊ (.Tuple [.Constant (.str told) k0 c0,.Call (.Name x p) [] [] ba] k1 xw)) acL] [.ExceptHandler (ϊ (.Name cn np)) (ϊ n) (xJ::xh) AJ] [] [] pos) (tS X.K cG (oJ cs told (vd (.dq f vs ds) th i) j b)):=by
 intro g s σ H D I aw;obtain⟨w,env,eH,S,eo,h⟩:=aw;subst eH;obtain⟨CM,mM,iJ⟩:=hc;delta oJ vd at h;by_cases he:env[i]?=ϊ (ϊ (.dq f vs ds))
 case neg=>rw[Ú he] at h;exact h.elim
 rw[Ñ he] at h;refine wpAny_Try_except ?_
 let E:XK:=λcls m U=>∃(Y:Wd) (c:Str) (C:Þ) (mm:Option Int),Y.H=U/\aU X.K Y/\bX X.K Y env σ/\cls=.ref C/\c∈cs/\X.mg c=ϊ (.ref C)/\(∀i,mm=ϊ i->∃W R t,m=ϊ W/\(¬ Y.Z W/\Y.H W=ϊ (.bo R (.own W)))/\lookIn "many" R=ϊ (ϊ (.int i t)))/\Out X.K cG Y (ai (b (env.set j (ϊ (.exc c mm))) Y.aJ) λF s=>match F with
   | .nx env=>ok (.nx (env.set j ϋ)) s
   | .rt d=>ok (.rt d) s
   |_=>ϋ) (Az X.K D)
 have hth:Out X.K (fF X.mg E) w (th w.aJ) λY d=>∀v,DV X.K Y d v->∀q,Y.H q=ϋ->D.rt (.ref q) (upd Y.H q (.tup [.str told,v])):=by
  cases hr:th w.aJ with
  |none=>rw[hr] at h;exact h.elim
  |some q =>
   obtain⟨q,s2⟩:=q;rw[hr] at h
   cases q with
   |ok d =>
    intro Y l P e v dv q hq;have l2:=(Fw.grow (K:=X.K) (o:=.tup [.str told,v]) hq).le;exact h (Y.grow q (.tup [.str told,v])) (l.trans l2) (P.grow hq) e (.ref q) ⟨q,_,rfl,bR.of cP,⟨.str told,[v],rfl,rfl,l2.all ⟨v,[],rfl,dv,rfl⟩⟩⟩
   |error y =>
    intro Y l P e;dsimp only at h;split at h
    ·rename_i B
     have B:=æ B;obtain⟨C,_,h2,_⟩:=iJ _ B;refine⟨C,h2,?_⟩
     cases hm:y.many with
     |none =>
      refine⟨Y,y.c,C,ϋ,rfl,P,eo.le l,rfl,B,h2,(λi z=>by cases z),?_⟩;rw[hm] at h;rw[e];exact h.from l
     |some i =>
      intro W R t O hl;have le:=(Fw.grow (K:=X.K) (o:=.bo R (.own W)) O).le;refine⟨Y.grow W (.bo R (.own W)),y.c,C,ϊ i,rfl,P.grow O,(eo.le l).le le,rfl,B,h2,λi' z=>?_,?_⟩
      ·cases z
       exact⟨W,R,t,rfl,⟨λz=>me P O z,cP⟩,hl⟩
      ·rw[hm] at h
       show Out X.K cG _ (ai (b (env.set j (ϊ (.exc y.c (ϊ i)))) Y.aJ) _) _;rw[e];exact(h.from l).from le
    ·exact h.elim
 have lg:=λ{M:Â} (I:Inv X g σ w.H M)=>Zp (pos:=ba) (p:=p) (Q:=λv U=>∀q,U q=ϋ->D.rt (.ref q) (upd U q (.tup [.str told,v]))) T h0 hr hN hv hd eD I S eo he hth;refine wpAny_execs_cons (ė (wpAny_Return_some (Q:=SP X g { nx:=λ_ _=>False,rt:=D.rt }) (E:=zM X g σ E) (wpAny_Tuple_spliced ?_)) (λF M q=>?_) λe M q=>?_)
 ·rw[h1]
  refine adL (Calls.Constant_str (k:=k0) (pos:=c0) ?_);rw[h2];refine adL (aO (lg (I.tok _)) λu M hq=>Calls.spliced_nil ?_);obtain⟨v,H1,I1,r,q⟩:=hq;refine⟨show 2<=Õ by decide,?_⟩;have hf:H1 M.heap.objs.size=ϋ:=I1.aI.fresh (aeS _);refine⟨.ref M.heap.objs.size,σ,upd H1 M.heap.objs.size (.tup [.str told,v]),I1.laid (t':=M.toks) (λb u e=>Á _ e) (aeS _) ?_,rfl,q _ hf⟩;exact⟨show 2<=Õ by decide,_,.cons ⟨_,rfl⟩ (.cons r .nil),⟨_,Î _ rfl,rfl,_,rfl⟩⟩
 ·cases F with
  |next=>obtain⟨_,_,_,z⟩:=q;exact č z
  |ret v=>exact q
  |brk=>obtain⟨_,_,_,z⟩:=q;exact č z
  |cont=>obtain⟨_,_,_,z⟩:=q;exact č z
 ·refine jE (D:=D) q L hf Gg hj pR hg mM hdc λcls m U hE=>?_
  obtain⟨Y,c,C,mm,rfl,P,jw,rfl,AS,hmc,hmm,ho⟩:=hE;obtain⟨C2,k1,k2,k3⟩:=iJ c AS;rw[hmc] at k2;cases k2;refine⟨k3,λa o O nU oj s5 I5=>?_⟩;have le:=(Fw.grow (K:=X.K) (o:=.bo o (.own a)) O).le;have S5:=P.grow (o:=.bo o (.own a)) O;have dv:DV X.K (Y.grow a (.bo o (.own a))) (.exc c mm) (.ref a):=by
   erw[DV];refine⟨a,o,C,rfl,⟨λz=>me P O z,cP⟩,⟨nU,k1⟩,λi hi=>?_⟩;obtain⟨W,R,t,q1,q2,q3⟩:=hmm i hi;exact⟨oj.1,W,R,t,oj.2 W q1,(Fw.grow (K:=X.K) (o:=.bo o (.own a)) O).bo W R _ q2.1 q2.2,q3⟩
  have hd:=hs a g s5 (σ.set j (ϊ (.ref a))) _ { nx:=fun G U=>D.nx (G.set j ϋ) U,rt:=D.rt,bk:=fun G U=>D.bk (G.set j ϋ) U,ct:=fun G U=>D.ct (G.set j ϋ) U } I5
   ⟨Y.grow a (.bo o (.own a)),env.set j (ϊ (.exc c mm)),rfl,S5,(jw.le le).set dv j,(Out.ai (ho.from le)).mono λw6 F l6 S6 q=>?_⟩
  ·exact hd
  ·cases F with
   |nx J=>exact fun G e'=>aB S6 q (G.set j ϋ) (e'.unset j)
   |rt d=>have z:=aB S6 q;exact z
   |bk J=>exact q.elim
   |ct J=>exact q.elim
end
end DI
namespace L2
open PySem PySem.Spec PyProof.Rows
end L2
namespace DI
open PySem L2
end DI
namespace L2
open PySem PySem.Spec PyProof.Rows
end L2
namespace DI
open PySem L2
def xK (f:ě->Option D):List ě->Option (List D)
 | []=>ϊ []
 |e::Z=>match f e,xK f Z with
  |some d,ϊ Y=>if notStar e=ό then ϊ (d::Y) else ϋ
  |_,_=>ϋ
def cst:Nat->ě->Option D
 |0,_=>ϋ
 |n+1,e=>match e with
  | .Constant (.str x) _ _=>ϊ (.str x)
  | .Constant (.int i) _ _=>ϊ (.int i)
  | .Constant (.bool b) _ _=>ϊ (.bl b)
  | .Constant .none _ _=>ϊ .ar
  | .UnaryOp .USub (.Constant (.int i) _ _) _=>ϊ (.int (-i))
  | .Tuple Y _ _=>match xK (cst n) Y with
   |some Z=>if Z.length<=100 then ϊ (.tup Z) else ϋ
   |none=>ϋ
  | .List Y _=>match xK (cst n) Y with
   |some Z=>if Z.length<=100 then ϊ (.lst Z) else ϋ
   |none=>ϋ
  |_=>ϋ
def aC (ds:List D):aeO (List D):=λ_ s=>ok ds s
def abc {ds:List D} (h:ds.length<=100):cZ (aC ds)=eC (.tup ds):=by
 funext env s;show jg ds (ok (D.tup ds) s)=_;exact Ñ (Ý h (by decide))
def abd {ds:List D} (h:ds.length<=100):fe (aC ds)=eC (.lst ds):=by
 funext env s;show jg ds (ok (D.lst ds) s)=_;exact Ñ (Ý h (by decide))
section
variable {X:Cx} {Ξ:Wd->bg->Prop}
theorem Em {f:ě->Option D} (hf:∀e d,f e=ϊ d->PE X e (tE X.K Ξ (eC d))):∀{es:List ě} {ds:List D},xK f es=ϊ ds->PA X es (tA X.K Ξ (aC ds))
 | [],ds,h=>by cases h;exact dU
 |e::es,ds,h=>by
  delta xK at h;split at h
  ·rename_i d Y e1 e2
   split at h
   ·rename_i Z
    cases h;exact fW (hf e d e1) (Em hf e2) Z
   ·cases h
  ·cases h
theorem En:∀(n:Nat) {e:ě} {d:D},cst n e=ϊ d->PE X e (tE X.K Ξ (eC d))
 |0,e,d,h=>by cases h
 |n+1,e,d,h=>by
  delta cst at h;split at h
  ·cases h;exact aF
  ·cases h;exact az
  ·cases h;exact gG
  ·cases h;exact Ea
  ·cases h;exact Ay Ad az
  ·split at h
   ·rename_i W Z
    split at h
    ·rename_i Y
     cases h;rw[<- abc Y];exact eR (Em (λe d=>En n) Z)
    ·cases h
   ·cases h
  ·split at h
   ·rename_i W Z
    split at h
    ·rename_i Y
     cases h;rw[<- abd Y];exact ib (Em (λe d=>En n) Z)
    ·cases h
   ·cases h
  ·cases h
end
end DI
namespace L2
open PySem PySem.Spec PySem.Calls PyProof.Rows PySem.W PySem.Builtin PySem.Builtin.ObjectAttr PySem.Builtin.Getset_descriptor
end L2
namespace DI
open PySem L2 PySem.W
end DI
namespace L2
open PySem PySem.Spec PyProof.Rows PySem.W
end L2
namespace DI
open PySem L2 PySem.W
def qT {α:Type} (f:Str) (v:α):List (Str×α)->List (Str×α)
 | []=>[(f,v)]
 |(g,x)::r=>if g=f then (g,v)::r else (g,x)::qT f v r
def jk (c:Str) (d:D) (s:ae):Option (Nat×List (Str×D)):=match d with
 | .aj k=>(match s[k]? with
  |some (.ins Z fs)=>if ώ (Z=c)=ό then ϊ (k,fs) else ϋ
  |_=>ϋ)
 |_=>ϋ
def zx {c:Str} {d:D} {s:ae} {k:Nat} {fs:List (Str×D)} (h:jk c d s=ϊ (k,fs)):d=.aj k/\s[k]?=ϊ (.ins c fs):=by
 delta jk at h;split at h
 ·split at h
  ·rename_i e
   split at h
   ·rename_i Z
    cases h;rw[æ Z] at e;exact⟨rfl,e⟩
   ·cases h
  ·cases h
 ·cases h
section
variable {K:đ} {w:Wd}
theorem L0:∀{fs:List (Str×D)} {vs:List (Str×V)} {f:Str} {d:D},vs.map (·.1)=fs.map (·.1)->au K w (fs.map (·.2)) (vs.map (·.2))->fs.lookup f=ϊ d->∃v,vs.lookup f=ϊ v/\DV K w d v
 | [],vs,f,d,_,_,h=>by cases h
 |(g,x)::fs,vs,f,d,e,Y,h=>by
  cases vs with
  |nil=>cases e
  |cons p vs =>
   obtain⟨X,v⟩:=p;erw[à,Ÿ] at e;obtain⟨rfl,e⟩:=e;obtain⟨T,r,e1,W,U⟩:=Y;cases e1;rw[ē] at h |-
   cases Z:f==X with
   |true =>
    rw[Z] at h;cases h;exact⟨v,rfl,W⟩
   |false =>
    rw[Z] at h;exact L0 e U h
theorem CV:∀{fs:List (Str×D)} {vs:List (Str×V)} {f:Str},vs.map (·.1)=fs.map (·.1)->fs.lookup f=ϋ->vs.lookup f=ϋ
 | [],vs,f,e,_=>by
  cases vs with
  |nil=>rfl
  |cons _ _=>cases e
 |(g,x)::fs,vs,f,e,h=>by
  cases vs with
  |nil=>cases e
  |cons p vs =>
   obtain⟨Y,v⟩:=p;erw[à,Ÿ] at e;obtain⟨rfl,e⟩:=e;rw[ē] at h |-
   cases Z:f==Y with
   |true=>rw[Z] at h;cases h
   |false =>
    rw[Z] at h;exact CV e h
theorem Nb {f:Str} {d:D} {v:V} (dv:DV K w d v):∀{fs:List (Str×D)} {vs:List (Str×V)},vs.map (·.1)=fs.map (·.1)->au K w (fs.map (·.2)) (vs.map (·.2))->(fL f v vs).map (·.1)=(qT f d fs).map (·.1)/\au K w ((qT f d fs).map (·.2)) ((fL f v vs).map (·.2))
 | [],vs,e,_=>by
  cases vs with
  |nil=>exact⟨rfl,au.one dv⟩
  |cons _ _=>cases e
 |(g,x)::fs,vs,e,X=>by
  cases vs with
  |nil=>cases e
  |cons p vs =>
   obtain⟨W,u⟩:=p;erw[à,Ÿ] at e;obtain⟨rfl,e⟩:=e;obtain⟨R,r,e1,U,Y⟩:=X;cases e1;delta fL qT;by_cases Z:W=f
   ·rw[Ñ Z,Ñ Z]
    exact⟨by erw[à,e],⟨v,_,rfl,dv,Y⟩⟩
   ·rw[Ú Z,Ú Z]
    obtain⟨T,S⟩:=Nb dv e Y;exact⟨by erw[à,T],⟨u,_,rfl,U,S⟩⟩
def zO {c:Str} {k:Nat} {fs:List (Str×D)} {v:V} (S:aU K w) (dv:DV K w (.aj k) v) (e:w.aJ[k]?=ϊ (.ins c fs)):∃a C dx vs,w.ρ[k]?=ϊ a/\v=.ref a/\nsIn K Ò c=ϊ (ϊ (.ref C))/\w.H a=ϊ (.ins C dx vs)/\vs.map (·.1)=fs.map (·.1)/\au K w (fs.map (·.2)) (vs.map (·.2)):=by
 erw[DV] at dv;obtain⟨a,e1,rfl⟩:=dv;obtain⟨C,dx,vs,Z,Y,X,W⟩:=S.cell k a _ e1 e;exact⟨a,C,dx,vs,e1,rfl,Z,Y,X,W⟩
end
def xM (K:đ) (c f:Str):Prop:=∃C,nsIn K Ò c=ϊ (ϊ (.ref C))/\jU K C/\nB K C f
def ip (c f:Str) (d:D) (s:ae):Res D:=match jk c d s with
 |some (_,fs)=>(match fs.lookup f with
  |some x=>ok x s
  |none=>ϋ)
 |none=>ϋ
def qH (c f:Str) (fv fo:aeO D):aeO Fl:=λenv s=>ai (fv env s) λv s=>ai (fo env s) λo s=>match jk c o s with
 |some (k,fs)=>if ώ (fs.length<1000)=ό then ok (.nx env) (s.set k (.ins c (qT f v fs))) else ϋ
 |none=>ϋ
section
variable {X:Cx} {Ξ:Wd->bg->Prop} {e o value:ě} {pos pos':Pos} {g fo fv:aeO D} {c f:Str}
def oK (hF:xM X.K c f) (he:PE X e (tE X.K Ξ g)) (hb:İ e f X.env (ķ e X.env)=ķ e X.env:=by rfl):PE X (.Attribute e f pos) (tE X.K Ξ (e1 (ip c f) g)) :=
 cm (YD he hb) fun σ H Q V=>by
  obtain⟨w,env,U,S,T,h⟩:=V;subst U;refine⟨w,env,rfl,S,T,(Out.ai h).mono λB d A Y Z v R=>?_⟩;obtain⟨C,P,O,N⟩:=hF;delta ip at Z;split at Z
  ·rename_i k fs e1
   obtain⟨rfl,M⟩:=zx e1;split at Z
   ·rename_i x e2
    obtain⟨a,z,L,J,_,rfl,W,I,G,F⟩:=zO Y R M;rw[P] at W;cases W;obtain⟨u,E,D⟩:=L0 G F e2;exact⟨a,C,L,J,u,rfl,I,O,N,E,aB Y Z _ D⟩
   ·exact Z.elim
  ·exact Z.elim
def Od (hF:xM X.K c f) (ho:PE X o (tE X.K Ξ fo)) (hv:PE X value (tE X.K Ξ fv)) (hs:swapsWith value (ϊ (.Attribute o f pos')) pos.line X.env=pure ύ:=by rfl):PS X (.Assign [.Attribute o f pos'] value pos) (tS X.K Ξ (qH c f fv fo)) :=
 kZ (YE ho hv hs) λj σ H F=>by
  obtain⟨w,env,E,S,U,h⟩:=F;subst E;refine⟨w,env,rfl,S,U,(Out.ai h).mono λD y O B A u x=>?_⟩;refine⟨D,env,rfl,B,U.le O,(Out.ai A).mono λi d N T Z v t=>?_⟩;obtain⟨C,M,s,r⟩:=hF;split at Z
  ·rename_i k fs e1
   obtain⟨rfl,R⟩:=zx e1;split at Z
   ·rename_i Q
    have Q:=æ Q;obtain⟨a,g,W,V,L,rfl,J,q,I,p⟩:=zO T t R;rw[M] at J;cases J;have Y:V.length=fs.length:=by have:=Ń List.length I;simpa using this
    refine⟨a,C,W,V,rfl,q,s,r,by rw[Y];exact Q,?_⟩;have G:(Cell.ins c fs)≠.dead:=by intro z;cases z
    have P:=(Fw.put (K:=X.K) (o:=.ins C W (fL f u V)) (c:=.ins c (qT f y fs)) T L R G).le;obtain⟨n,m⟩:=Nb (N _ _ x) I p;have l:=T.xB (o:=.ins C W (fL f u V)) (c:=.ins c (qT f y fs)) L R G ⟨C,W,_,M,cP,n,P.all m⟩;exact Z _ P l rfl σ (U.le (O.trans (N.trans P)))
   ·exact Z.elim
  ·exact Z.elim
end
structure Gm (K:đ) (c m q:Str) (st:aeg) (ps:List Str) (f:Þ) (fd:Ģ):Prop where
 fn:pB K m q st f fd
 b:Binds K fd ps []
def GM (K:đ) (c m q:Str) (st:aeg) (ps:List Str):Prop:=∃C f fd,nsIn K Ò c=ϊ (ϊ (.ref C))/\jU K C/\Meth K C m f/\Gm K c m q st ps f fd
abbrev kM (P:å) (w:ā) (K:đ) (mg:Str->Option Ç) (base:ĺ) (c m q:Str) (st:aeg) (ps:List Str) (k:Nat) (fn:List D->ae->Res D):Prop:=∀{f:Þ} {fd:Ģ},Gm K c m q st ps f fd->cW P w K mg base (fE P w) k f fd ps (pP mg K fn)
def oB {P:å} {w:ā} {K:đ} {mg:Str->Option Ç} {base:ĺ} {c m q:Str} {st:aeg} {f:Þ} {fd:Ģ} {ps:List Str} {k:Nat} {b:aeO Fl} (G:Gm K c m q st ps f fd) (N:List Str) (S:o7 N ps (cA st)=ό)
  (hb:N.Nodup->∀(aY:Ç) (A:í) (outer:List PySem.Env) (s:Â) (H:Hp) (E:XK),bK k (A.deeper (ŀ q (cA st) s.heap.objs.size f aY))->Lv (ie (fE P w) P w K mg base N q (cA st) f aY A outer s H E) E->dh (ie (fE P w) P w K mg base N q (cA st) f aY A outer s H E) (gv st) (tS K (fF mg E) b)) :
  cW P w K mg base (fE P w) (k+1) f fd ps (pP mg K (aD ps.length N.length b)):=by
 obtain⟨J,I,kV,doc,pm,an,aY,ct,F,rfl,lk,V⟩:=G.fn.ex;refine Aa lk V (j9 S) (λU H Q E h=>?_) λA outer s H U Q E T h=>?_
 ·obtain⟨w,R,rfl,S,Y,h⟩:=h
  rw[<- Y.length];delta aD at h;split at h
  ·assumption
  ·exact h.elim
 ·obtain⟨X,R,rfl,O,Y,h⟩:=h
  refine⟨_,hb (j9 S).nd aY A outer s X.H E T ⟨rfl,rfl,rfl,rfl⟩,?_⟩;delta aD at h;split at h
  ·rename_i M
   rw[<- M] at h;refine⟨X,_,rfl,O,Y.env N.length,(Out.ai h).mono λD L C W Z=>?_⟩
   cases L with
   |nx env=>intro B _;exact aB W Z _ rfl
   |rt d=>have q:=aB W Z;exact q
   |bk env=>exact Z.elim
   |ct env=>exact Z.elim
  ·exact h.elim
def eT (c m:Str) (fn:List D->ae->Res D) (fo:aeO D) (fa:aeO (List D)):aeO D:=λenv s=>ai (fo env s) λo s=>match jk c o s with
 |some (_,fs)=>if (fs.lookup m).isNone=ό then ai (fa env s) λZ s=>fn (o::Z) s else ϋ
 |none=>ϋ
def oC (c m:Str) (fn:List D->ae->Res D) (fo:aeO D) (fa:aeO (List D)):aeO D:=eT c m (λZ s=>ne (fn Z s)) fo fa
def oM (c:Str) (fn:List D->ae->Res D):aeO D:=λ_ s=>ai (ne (fn [.aj s.length] (s++[.ins c []]))) λd Z=>match d with
 | .ar=>ok (.aj s.length) Z
 |_=>ϋ
def GK (K:đ) (mg:Str->Option Ç) (c q:Str) (st:aeg) (ps:List Str):Prop:=∃C f fd,nsIn K Ò c=ϊ (ϊ (.ref C))/\mg c=ϊ (.ref C)/\Mk K C f/\Gm K c "__init__" q st ps f fd
section
variable {X:Cx} {E:XK} {Ξ:Wd->bg->Prop} {e o:ě} {es:List ě} {pos apos:Pos} {fo:aeO D} {fa:aeO (List D)} {c m q:Str} {st:aeg} {ps:List Str} {k n:Nat} {fn:List D->ae->Res D} {pl:Sem Bool}
def La {C:Þ} {σ:St} {H:Hp} {Q:VK} {t:TA} (hC:nsIn X.K Ò c=ϊ (ϊ (.ref C))) (ht:∀w' env (R:List V->Hp->Prop),aU X.K w'->bX X.K w' env σ->Out X.K (fF X.mg E) w' (fa env w'.aJ) (λw1 ds=>∀vs,au X.K w1 ds vs->R vs w1.H)->t σ w'.H R)
  (aw:tE X.K (fF X.mg E) (eT c m fn fo fa) σ H Q):z9 C m (pP X.mg X.K fn) [] E (tE X.K (fF X.mg E) fo) t σ H Q:=by
 obtain⟨w,env,P,S,Y,h⟩:=aw;subst P;refine⟨w,env,rfl,S,Y,(Out.ai h).mono λw1 d O W Z v U=>?_⟩;split at Z
 ·rename_i k fs e1
  obtain⟨rfl,N⟩:=zx e1;split at Z
  ·rename_i M
   obtain⟨a,z,L,vs,y,rfl,T,J,I,x⟩:=zO W U N;rw[hC] at T;cases T;refine⟨a,L,vs,rfl,J,CV I (ado.mp M),?_⟩;refine ht w1 env _ W (Y.le O) ((Out.ai Z).mono λG ds F D B u A=>?_);rw[Ħ];exact⟨G,.aj k::ds,rfl,D,⟨_,_,rfl,F _ _ U,A⟩,B⟩
  ·exact Z.elim
 ·exact Z.elim
def tR (hM:GM X.K c m q st ps) (F:kM X.prog X.w X.K X.mg X.base c m q st ps k fn) (L:Passes (fE X.prog X.w) X E) (hr:bK n X.A) (ho:PE X o (tE X.K (fF X.mg E) fo)) (ha:PA X (e::es) (tA X.K (fF X.mg E) fa)) (hk:k<=n:=by decide)
  (jT:Í (e::es) X.env=(ύ,ķ e X.env)::Í es X.env:=by rfl) (bN:(ī pos (Í es X.env)).any (·.1)=ύ:=by rfl)
  (ht:ķ (.Call (.Attribute o m apos) (e::es) [] pos) X.env=(do
   let ov <- ķ o X.env
   adw apos.atName
   let (f,first) <- ade [ov] (aeF ov m pl)
   callWith pos f first (ī pos (Í (e::es) X.env)) (adq pos (ŗ [] X.env))):=by rfl) :
  PE X (.Call (.Attribute o m apos) (e::es) [] pos) (tE X.K (fF X.mg E) (eT c m fn fo fa)):=by
 obtain⟨C,f,fd,Z,Y,W,G⟩:=hM;exact cm (LD ho Y W (F G) (hr.mono hk) G.b .nil L ha jT bN ht) fun σ H Q h=>La Z (λV env R U T S=>⟨V,env,rfl,U,T,S⟩) h
def zP (hM:GM X.K c m q st ps) (F:kM X.prog X.w X.K X.mg X.base c m q st ps k fn) (L:Passes (fE X.prog X.w) X E) (hr:bK n X.A) (ho:PE X o (tE X.K (fF X.mg E) fo)) (hk:k<=n:=by decide)
  (ht:ķ (.Call (.Attribute o m apos) [] [] pos) X.env=(do
   let ov <- ķ o X.env
   adw apos.atName
   let (f,first) <- ade [ov] (aeF ov m pl)
   callWith pos f first (ī pos (Í [] X.env)) (adq pos (ŗ [] X.env))):=by rfl) :
  PE X (.Call (.Attribute o m apos) [] [] pos) (tE X.K (fF X.mg E) (eT c m fn fo ah)):=by
 obtain⟨C,f,fd,Z,Y,W,G⟩:=hM;exact cm (UU ho Y W (F G) (hr.mono hk) G.b .nil L ht) fun σ H Q h=>La Z (λT env R V S U=>aB V (a:=([]:List D)) U _ rfl) h
def T8 {C:Þ} {σ:St} {H:Hp} {Q:VK} {t:TA} (hC:nsIn X.K Ò c=ϊ (ϊ (.ref C))) (ht:∀w' env (R:List V->Hp->Prop),aU X.K w'->bX X.K w' env σ->Out X.K Ξ w' (fa env w'.aJ) (λw1 ds=>∀vs,au X.K w1 ds vs->R vs w1.H)->t σ w'.H R)
  (aw:tE X.K Ξ (oC c m fn fo fa) σ H Q):z9 C m (pP X.mg X.K fn) [] E0 (tE X.K Ξ fo) t σ H Q:=by
 obtain⟨w,env,P,S,Y,h⟩:=aw;subst P;delta oC eT at h;refine⟨w,env,rfl,S,Y,(Out.ai h).mono λw1 d O W Z v U=>?_⟩;split at Z
 ·rename_i k fs e1
  obtain⟨rfl,N⟩:=zx e1;split at Z
  ·rename_i M
   obtain⟨a,A,L,vs,z,rfl,T,J,I,y⟩:=zO W U N;rw[hC] at T;cases T;refine⟨a,L,vs,rfl,J,CV I (ado.mp M),?_⟩;refine ht w1 env _ W (Y.le O) ((Out.ai Z).mono λG ds F E D x B=>?_);rw[Ħ];exact⟨G,.aj k::ds,rfl,E,⟨_,_,rfl,F _ _ U,B⟩,M6 D.ne⟩
  ·exact Z.elim
 ·exact Z.elim
def Aj (hM:GM X.K c m q st ps) (F:kM X.prog X.w X.K X.mg X.base c m q st ps k fn) (hr:bK n X.A) (ho:PE X o (tE X.K Ξ fo)) (ha:PA X (e::es) (tA X.K Ξ fa)) (hk:k<=n:=by decide)
  (jT:Í (e::es) X.env=(ύ,ķ e X.env)::Í es X.env:=by rfl) (bN:(ī pos (Í es X.env)).any (·.1)=ύ:=by rfl)
  (ht:ķ (.Call (.Attribute o m apos) (e::es) [] pos) X.env=(do
   let ov <- ķ o X.env
   adw apos.atName
   let (f,first) <- ade [ov] (aeF ov m pl)
   callWith pos f first (ī pos (Í (e::es) X.env)) (adq pos (ŗ [] X.env))):=by rfl) :
  PE X (.Call (.Attribute o m apos) (e::es) [] pos) (tE X.K Ξ (oC c m fn fo fa)):=by
 obtain⟨C,f,fd,Z,Y,W,G⟩:=hM;exact cm (LD ho Y W (F G) (hr.mono hk) G.b .nil M7 ha jT bN ht) fun σ H Q h=>T8 Z (λV env R U T S=>⟨V,env,rfl,U,T,S⟩) h
def Eo {p:Pos} (hM:GK X.K X.mg c q st ps) (F:kM X.prog X.w X.K X.mg X.base c "__init__" q st ps k fn) (hr:bK n X.A) (hk:k+1<=n:=by decide) (hg:Gl X c:=by rfl) (dR:(c==("__debug__":Str))=ύ:=by decide) :
  PE X (.Call (.Name c p) [] [] pos) (tE X.K Ξ (oM c fn)):=by
 obtain⟨C,f,fd,R,P,M,G⟩:=hM;refine cm (UX M (F G) (hr.mono hk) hg P G.b .nil M7 dR) fun σ H Q O=>?_;obtain⟨w,env,N,S,u,h⟩:=O;subst N;intro x Z L Y ne;have W:(w.grow Z (.own x)).H x=ϋ:=by show upd w.H Z _ x=ϋ;rw[bt (ź ne)];exact L
 have V:=S.grow (o:=.own x) Y;have J:=(Fw.grow (K:=X.K) (o:=.own x) Y).le;have I:=(Fw.cell (K:=X.K) (o:=.ins C Z []) (c:=.ins c []) V W).le;have E:=V.NP (o:=.ins C Z []) (c:=.ins c []) W ⟨C,Z,[],R,cP,rfl,rfl⟩;have U:DV X.K ((w.grow Z (.own x)).cell x (.ins C Z []) (.ins c [])) (.aj w.aJ.length) (.ref x):=by
  refine⟨x,?_,rfl⟩;show (w.ρ++[x])[w.aJ.length]?=ϊ x;rw[<- S.len];simp
 refine⟨_,[.aj w.aJ.length],rfl,E,au.one U,?_⟩;have D:Out X.K Ξ ((w.grow Z (.own x)).cell x (.ins C Z []) (.ins c [])) _ _:=(Out.ai h).from (J.trans I);refine M6 (D.ne.mono λt d B z T v y=>?_)
 cases d with
 |ar=>exact⟨y,aB z T _ (B _ _ U)⟩
 |_=>exact T.elim
end
end DI
namespace ST
open PySem PySem.W PyProof.Rows
section
variable {α:Type} {O:Ord α} {x:Nat->α} {prog:å} {w:ā} {A:í} {E:Ç->Â->Prop} {s:Â}
def VS {l:Þ} {us:List Ç} {Q:List Ç->Â->Prop} (ht:IsTup s.heap l us.toArray) (hz:us.length<=Õ)
  (h:∀h1,s.heap.objs.size<=h1.objs.size->(∀c o,s.heap.get? c=ϊ o->h1.get? c=ϊ o)->Q us { s with heap:=h1 }):á (é prog w) A (collect (.ref l)) Q E s:=by
 obtain⟨o,X,W,n,V⟩:=ht;have Y:(s.heap.push (adW "list" #[] 0)).get? l=ϊ o:=Á _ X;have Z:(s.heap.push (adW "list" #[] 0)).get? s.heap.objs.size=ϊ (adW "list" #[] 0):=Î _ rfl;delta collect;refine À (wpAny_runValue (Ŋ entry_proto_collect' ?_));show á _ _ (newList [] >>= λm=>again (.builtin "list.__iadd__" ⟨[m,.ref l],[]⟩)) _ _ s;refine À (wpAny_newList (Ã ⟨adQ _ nofun,Ŋ entry_list_iadd' ?_⟩))
 show á _ _ (Š (.ref s.heap.objs.size) (.ref l) _) _ _ { s with heap:=s.heap.push (adW "list" #[] 0) }
 delta Š;refine À (adF (T:="tuple") ⟨o,Y,W⟩ ?_);rw[Ñ (by rw[show (Ť "tuple"==Ť "tuple")=ό from rfl];simp)];refine À (listItems_at Y V (À (listItems_at (xs:=#[]) (n:=0) Z rfl ?_)));rw[Ú ∅];refine À (listUpdate_at (xs:=#[]) (n:=0) Z rfl (Ã ?_) (Ē _) (by show (#[]++us.toArray).size<=Õ+1;erw[Array.size_append,Ü,Ą];omega))
 show á (é prog w) A (load s.heap.objs.size >>= _) Q E { s with heap:=(s.heap.push (adW "list" #[] 0)).update s.heap.objs.size (ŝ (·++us.toArray)) }
 refine À (wpAny_load (get?_update_seq Z _) ?_);show á _ _ (pure ((#[]:Array Ç)++us.toArray).toList) Q E _;rw[show ((#[]:Array Ç)++us.toArray).toList=us by simp];refine Ã (h _ ?_ λc o e=>?_)
 ·rw[Heap.size_update,size_push'];exact ady _
 ·rw[adB _ _ _ _ (ã (Ð e))]
  exact Á _ e
def SD {l:Þ} {us:List Ç} {Q:Ç->Â->Prop} (hl:IsTup s.heap l us.toArray) (hz:us.length<64)
  (hk:2<=us.length->∀h1,(∀c o,s.heap.get? c=ϊ o->h1.get? c=ϊ o)->AH prog w A.in1.in1 O x us { s with heap:=h1 })
  (hQ:∀(q:Array Nat) h' b e,Pm us.length q->Up O (ky x q) us.length->(∀c o,s.heap.get? c=ϊ o->h'.get? c=ϊ o)->s.heap.objs.size<=b->h'.get? b=ϊ (adW "list" (q.toList.map λi=>us.getD i Value.none).toArray e)->Q (.ref b) { s with heap:=h' }) :
  á (é prog w) A (call (.builtin "sorted") [.ref l]) Q E s:=by
 have line:us.length<=Õ:=by rw[ŭ];omega
 refine Calls.call_function_entry kind_sorted plain_sorted entry_sorted (args_sorted1 _) ?_;delta Ř.«sorted»;refine À (m:=checkCount "sorted" 1 1 _) (Ã (À (VS hl line λh1 W Y=>À (wpAny_newList ?_ line))))
 show á _ _ _ _ _ { s with heap:=h1.push (adW "list" us.toArray 0) }
 have X:(h1.push (adW "list" us.toArray 0)).get? h1.objs.size=ϊ (adW "list" us.toArray 0):=Î _ rfl;have old:∀c o,s.heap.get? c=ϊ o->c≠h1.objs.size/\(h1.push (adW "list" us.toArray 0)).get? c=ϊ o:=λc o e=>⟨ã (Ð (Y c o e)),Á _ (Y c o e)⟩;refine À (ą (Ď slot_list_sort ⟨_,X,rfl⟩ entry_list_sort (Rf X hz (λz h' Z=>hk z h' λc o e=>Z c o (old c o e).1 (old c o e).2) λq h' e V U Z T=>⟨_,rfl,?_⟩) (args_list_sort _)));exact Ã ⟨_,rfl,hQ q h' _ e V U (λc o e=>Z c o (old c o e).1 (old c o e).2) W T⟩
end
end ST
namespace TK
open PySem PySem.W PyProof.Rows DI L2
def wb (ds:List D) (s:ae):Res D:=match ds with
 | [.tup Z]=>if Z.length<64 then bT (xb Z) s else ϋ
 |_=>ϋ
def VT {X:Cx} {Ξ:Wd->bg->Prop} {k:Nat} (hr:bK k X.A):cU X (.builtin "sorted") (rC X.K Ξ wb):=by
 intro m s σ H N l Q I r zzz;obtain⟨w,j,rfl,S,Y,h⟩:=zzz;delta wb at h;split at h
 ·rename_i F
  obtain⟨v,rfl,M⟩:=oy Y;erw[DI.DV] at M;obtain⟨a,N,rfl,E,Y⟩:=M;split at h
  ·rename_i g
   obtain⟨f,e2,h⟩:=gw h;obtain⟨u,rfl,D⟩:=vals1 r;cases D;obtain⟨its,W,C,B⟩:=I.tuple E;have R:its.length=F.length:=W.length.symm.trans Y.length.symm;have V:=e2;delta xb at V;split at V
   ·rename_i Z
    obtain⟨U,z⟩:=Z;clear V;subst z;rw[K6] at e2;cases e2;have L:U.length=its.length:=by rw[R,É]
    refine ST.SD (O:=cy) (x:=λi=>U.getD i (.c8 0 0 0)) C ⋯ (λy c P=>VD (gu.keep (λb o T _ _=>P b o T) _ _ (DD I _ _ _ (Xn U) Y W)) y (by have:=hr.un;show X.A.units+1+1+100<cLine;have:cLine=9900:=rfl;omega) _) λq h' b e Z J P T t=>?_;have G:∀i∈q.toList,i<(U.map Pg.d).length:=λi p=>by rw[<- R];exact ċ.mp (Z.2.mem_iff.mp p)
    rw[<- L] at Z J;have n:=I.aI.fresh T;refine⟨.ref b,_,I.laid (o:=.lst (q.toList.map λi=>N.getD i .ar)) (t':=s.toks) P T ⟨?_,_,e,TY W (by rw[R];exact G),t⟩,rfl,?_⟩
    ·rw[É,ö,Z.1,L,W.length.symm];exact B
    ·refine AE S ?_ h b n
     rw[<- Vz Z J];exact Vy Y G
   ·cases V
  ·exact h.elim
 ·exact h.elim
end TK
namespace DI
open PySem L2
section
variable {X:Cx} {Ξ:Wd->bg->Prop} {f:aeO D}
def xN (d:D) (s:ae):Res D:=match d with
 | .aj k=>match s[k]? with
  |some (.lst Z)=>match Z[Z.length-1]? with
   |some x=>ok x (s.set k (.lst Z.dropLast))
   |none=>ϋ
  |_=>ϋ
 |_=>ϋ
theorem au.dropLast {K:đ} {w:Wd} {ds:List D} {xs:List V} (h:au K w ds xs):au K w ds.dropLast xs.dropLast:=by
 rw[List.dropLast_eq_take,List.dropLast_eq_take,h.length];exact h.take _
def Zy {o:ě} {apos ba:Pos} (ho:PE X o (tE X.K Ξ f)) (hZ:İ o "pop" X.env (ķ o X.env)=ķ o X.env:=by rfl) (ia:(apos.endLine==ba.line)=ό:=by rfl) :
  PE X (.Call (.Attribute o "pop" apos) [] [] ba) (tE X.K Ξ (e1 xN f)) :=
 cm (MH ſ PySem.F.slot_list_pop PySem.F.type_list_pop YK ho hZ ia) fun σ H Q N=>by
  obtain⟨w,env,M,S,L,h⟩:=N;subst M;refine⟨w,env,rfl,S,L,(Out.ai h).mono λE d D Y Z v J=>?_⟩;delta xN at Z;split at Z
  ·rename_i k
   split at Z
   ·rename_i T W
    split at Z
    ·rename_i x I
     obtain⟨a,e1,rfl⟩:=J;obtain⟨V,R,U⟩:=Y.cell k a _ e1 W;obtain⟨y,P,G⟩:=U.get' _ x I;rw[U.length] at P;refine⟨.inl ⟨rfl,V,bY.of R⟩,a,V,y,rfl,rfl,R,P,?_⟩;have O:(Cell.lst T)≠.dead:=by intro z;cases z
     have le:=(Fw.put (K:=X.K) (o:=.lst V.dropLast) (c:=.lst T.dropLast) Y e1 W O).le;exact Z _ le (Y.xB e1 W O ⟨_,cP,le.all U.dropLast⟩) rfl _ (le _ _ G)
    ·exact Z.elim
   ·exact Z.elim
  ·exact Z.elim
end
end DI
namespace L2
open PySem PySem.Spec PyProof.Rows PySem.W
end L2
namespace DI
open PySem L2 PySem.W
end DI
namespace L2
open PySem PySem.Spec PyProof.Rows
def Hh (x:Str):It:=⟨λi _=>i<x.cps.size,λi H v Z=>Z=H/\∃c,x.cps[i]?=ϊ c/\v=.str ⟨#[c]⟩,λi _=>x.cps.size<=i⟩
def Lb {P:å} {w:ā} {K:đ} {tg:ě} (it:Þ) (x:Str) (t:Tok) (b:Bool):Turn P w K tg (Hh x) [it] it (λi h=>h.IsStrIter it (if b then "str_ascii_iterator" else "str_iterator") x t i) where
 mem:=by simp
 obj:=λi h Y c T=>by
  have e:c=it:=by simpa using T
  subst e;obtain⟨o,S,y,L⟩:=Y;exact⟨o,S,λv z=>by rw[L] at z;cases z⟩
 keep:=λi h Z Y k=>let ⟨o,S,r⟩:=Y;⟨o,k it ∅ o S,r⟩
 item:=by
  intro X J hw G T i F s σ H E I O Y D;subst J hw G;obtain⟨f0,f1,f2,N,f4,M⟩:=O it ∅;have p:i<x.cps.size:=D;have V:x.cps[i]?=ϊ x.cps[i]:=by simp[p]
  have go:∀Z,Z.IsStrIter it (if b then "str_ascii_iterator" else "str_iterator") x t (i+1)->Ĭ it s.heap Z->∃u,ϊ (Value.str ⟨#[x.cps[i]]⟩ s.toks)=ϊ u /\
    á (é X.prog X.w) X.A (œ tg (.ref it) u) (λ_ q=>∃v C,Inv X F σ C q/\RelV v u/\(Hh x).uM i H v C/\q.heap.IsStrIter it (if b then "str_ascii_iterator" else "str_iterator") x t (i+1)/\∀b∈[it],C b=ϋ) E { s with heap:=Z,toks:=s.toks+1 }:=λZ U R=>by
   have m:Inv X F σ H { s with heap:=Z,toks:=s.toks+1 }:=I.turned (λb o W e=>R.extBut b o (by simpa using W) e) f0 f1 N f4 M
   obtain⟨o,S,y,L⟩:=id U
   refine⟨_,rfl,wM (s:={ s with heap:=Z,toks:=s.toks+1 }) (n:=if b then "str_ascii_iterator" else "str_iterator") S y L (by cases b<;>decide) ⟨.str ⟨#[x.cps[i]]⟩,H,m,⟨_,rfl⟩,⟨rfl,_,V,rfl⟩,U,λb W=>(O b W).1⟩⟩
  cases b with
  |true=>exact wpAny_pyNext_ascii_item Y V λZ U R=>go Z U R
  |false=>exact wpAny_pyNext_wide_item Y V λZ U R=>go Z U R
 done:=by
  intro X J hw G T i F s σ H E I O Y D;subst J hw G;obtain⟨f0,f1,f2,N,f4,M⟩:=O it ∅;have V:x.cps[i]?=ϋ:=by simp;exact D
  cases b with
  |true=>exact wpAny_pyNext_ascii_end (I.ok.hd T) Y V λZ B=>⟨rfl,I.turned (t':=s.toks) (λb o W e=>B b o W e) f0 f1 N f4 M⟩
  |false=>exact wpAny_pyNext_wide_end (I.ok.hd T) Y V λZ B=>⟨rfl,I.turned (t':=s.toks) (λb o W e=>B b o W e) f0 f1 N f4 M⟩
 self:=λA i s Q E Y h=>by
  cases b with
  |true=>exact wpAny_pyIter_striter_ascii Y h
  |false=>exact wpAny_pyIter_striter_wide Y h
def acM (tl:TE):TI:=fun σ H R=>tl σ H λx Z=>∃y,x=.str y/\R (Hh y) Z
def Zz {X:Cx} {tg l:ě} {tl:TE} (hl:PE X l tl):PI X tg l (acM tl):=by
 intro V s σ H R I h;refine aO (hl V s σ H _ I h) λv Z ⟨x,W,Y,S,Q⟩=>?_;obtain⟨y,e,q⟩:=Q;subst e;obtain⟨t,rfl⟩:=S;have U:∀b∈[Z.heap.objs.size],gn X V W b:=λb P=>by
  have e:b=Z.heap.objs.size:=by simpa using P
  subst e;exact Y.ua (aeS _) (Y.aI.fresh (aeS _))
 cases T:y.cps.all (· < 128) with
 |true=>exact wpAny_pyIter_ascii T ⟨Z.heap.objs.size,[Z.heap.objs.size],_,_,W,rfl,Y.kept (t':=Z.toks) λb o e=>Á _ e,Lb _ y t ό,⟨_,Î _ rfl,rfl,rfl⟩,U,q⟩
 |false=>exact wpAny_pyIter_wide T ⟨Z.heap.objs.size,[Z.heap.objs.size],_,_,W,rfl,Y.kept (t':=Z.toks) λb o e=>Á _ e,Lb _ y t ύ,⟨_,Î _ rfl,rfl,rfl⟩,U,q⟩
section
variable {X:Cx}
def rJoin (K:đ):V->List V->Hp->VK->Prop:=λx Z H Q=>∃(y:Str) (a:Þ) (zs:List Str),x=.str y/\Z=[.ref a]/\bY K H a (zs.map V.str)/\JoinOk y zs=ό/\Q (.str (š y zs)) H
theorem Kr:∀{zs:List Str} {us:List Ç},Vals (zs.map V.str) us->∃l:List (Str×Tok),us=strValues l/\l.map (·.1)=zs
 | [],_,.nil=>⟨[],rfl,rfl⟩
 |z::zs,_,.cons r Z=>by
  obtain⟨t,rfl⟩:=r;obtain⟨l,rfl,e⟩:=Kr Z;exact⟨(z,t)::l,rfl,by simp[e]⟩
def Xu:rj X "str.join" (rJoin X.K):=by
 intro R s σ H x P v O Q I W V h;obtain⟨y,a,zs,rfl,rfl,U,Y,q⟩:=h;obtain⟨t,rfl⟩:=W;obtain⟨u,rfl,T⟩:=V.one;cases T;obtain⟨its,r,p,N⟩:=I.list U;obtain⟨l,rfl,e⟩:=Kr r;subst e;have Z:=Y;delta JoinOk at Z;rw[ł] at Z;refine η F.slot_str_join (adZ s y t) F.entry_str_join (F.args_str_join_2 _ _) (meets_str_join_list y t a l Z) ⟨p.isList,post_join l ⟨joinOk_length Y,λS k=>?_⟩⟩;refine⟨.str _,H,I.tok k,⟨S,rfl⟩,?_⟩;show Q (.str (Txt.join y (l.map (·.1)))) H;rw[show Txt.join y (l.map (·.1))=š y (l.map (·.1)) from StrLaws.glued_eq_join _ _];exact q
def ZA:V->List V->Hp->VK->Prop:=λx Z H Q=>∃(a y:Str),x=.str a/\Z=[.str y]/\(y.length==0)=ύ/\a.length+2<=Õ/\∀p,H p=ϋ->Q (.ref p) (upd H p (.lst ((Ī a y).map V.str)))
theorem IT:∀(zs:List Str) (tk:Nat),Vals (zs.map V.str) (strsFrom tk zs)
 | [],_=>.nil
 |z::zs,tk=>.cons ⟨_,rfl⟩ (IT zs (tk+1))
def VU:rj X "str.split" ZA:=by
 intro R s σ H x M v L Q I P O h;obtain⟨a,y,rfl,rfl,T,S,q⟩:=h;obtain⟨t,rfl⟩:=P;obtain⟨u,rfl,N⟩:=O.one;obtain⟨U,rfl⟩:=N;have fresh:=I.aI.fresh (aeS s.heap.objs.size)
 have fin:∀(its:List Ç) (k:Nat),Vals ((Ī a y).map V.str) its->EP X R σ Q (.ref s.heap.objs.size) { s with heap:=s.heap.push { cls:=.type "list",data:=.seq its.toArray },toks:=k }:=λits k r=>by
  have Y:((Ī a y).map V.str).length<=Õ:=by rw[É];exact Ý (aef a y) S
  refine⟨.ref s.heap.objs.size,_,I.laid (o:=.lst ((Ī a y).map V.str)) (t':=k) (λb o e=>Á _ e) (aeS _) ⟨Y,its,0,r,Î _ rfl⟩,rfl,q _ fresh⟩
 by_cases Z:(ώ (a.length<y.length)||ώ (Builtin.Str.strKind a<Builtin.Str.strKind y))=ό
 ·refine η F.slot_str_split (adZ s a t) F.entry_str_split (F.args_str_split_2 _ _) (meets_str_split_cannot_occur a y t U Z) ?_
  have e:Ī a y=[a]:=by delta Ī;rw[Ñ Z]
  have:=fin [.str a t] s.toks (by rw[e];exact .cons ⟨_,rfl⟩ .nil);exact this
 ·by_cases W:(ġ a y 0 a.length (a.length+1)).isEmpty=ό
  ·refine η F.slot_str_split (adZ s a t) F.entry_str_split (F.args_str_split_2 _ _) (meets_str_split_not_found a y t U (by simpa using Z) T W) ?_
   have e:Ī a y=[a]:=by delta Ī;rw[Ú Z,Ñ W]
   have:=fin [.str a t] s.toks (by rw[e];exact .cons ⟨_,rfl⟩ .nil);exact this
  ·have e:Ī a y=Builtin.Str.partsBetween a (ġ a y 0 a.length (a.length+1)) y.length:=by delta Ī;rw[Ú Z,Ú W]
   refine η F.slot_str_split (adZ s a t) F.entry_str_split (F.args_str_split_2 _ _) (meets_str_split_sep a y t U (by simpa using Z) T (by simpa using W) ⋯ (by rw[<- e];exact Ý (aef a y) S)) ?_;have:=fin (strsFrom s.toks (Ī a y)) (s.toks+(Ī a y).length) (IT _ _);rw[e] at this;exact this
def Rh:cU X (.type "int") (λxs H Q=>∃(x:Str) (n:Int),xs=[.str x]/\x.length<=640/\adp x=ϊ n/\Q (.int n) H):=by
 intro U s σ H xs T Q I r h;obtain⟨x,n,rfl,Z,Y,q⟩:=h;obtain⟨u,rfl,V⟩:=vals1 r;obtain⟨t,rfl⟩:=V;exact PySem.W.KIN.call_text Y Z ⟨.int n,H,I.tok _,⟨_,rfl⟩,q⟩
end
section
variable {prog:å} {w:ā} {A:í} {E:Ç->Â->Prop} {s:Â}
theorem Ks {it l:Þ} {items:Array Ç} (gX:l≠it):∀(n i:Nat) (s:Â) (Q:List Ç->Â->Prop),s.heap.IsListIter it l i->s.heap.IsList l items->i+n<=items.size ->
  (∀h',h'.IsListIter it l (i+n)->Ĭ it s.heap h'->Q ((items.toList.drop i).take n) { s with heap:=h' })->á (é prog w) A (draw (.ref it) n) Q E s
 |0,i,s,Q,hit,_,_,Z=>by
  show á _ _ (pure []) Q E s;exact Ã (by simpa using Z s.heap hit (Heap.SameBut.refl ..))
 |n+1,i,s,Q,hit,W,hle,Z=>by
  have V:i<items.size:=by omega
  have T:items.toList.drop i=items[i]::items.toList.drop (i+1):=by simp[ů,V]
  show á _ _ (adg (.ref it) >>= _) Q E s;refine À (wpAny_pyNext_list_item hit W (x:=items[i]) (by simp[V]) λS R U=>?_)
  have P:S.IsList l items:=let ⟨o,e,r⟩:=W;⟨o,U.extBut l o gX e,r⟩
  refine À (ą (Ks gX n (i+1) _ _ R P ⋯ λO Y X=>Ã ?_));have z:=Z O (by rw[show i+(n+1)=i+1+n by omega];exact Y) (U.trans X);rw[T,List.take_succ_cons] at z;exact z
def RH {l:Þ} {items:Array Ç} {targets:List (Bool×(Ç->Sem Unit))} {Q:Unit->Â->Prop} (hh:A.handled=ϋ) (hl:s.heap.IsList l items) (hn:targets.length=items.size) (hs:targets.findIdx? (·.1)=ϋ)
  (h:∀h',adA s.heap.objs.size s.heap h'->á (é prog w) A (adH (targets.map (·.2)) items.toList) Q E { s with heap:=h' }):á (é prog w) A (unpack (.ref l) targets) Q E s:=by
 have Y:l≠s.heap.objs.size:=by obtain⟨o,U,_⟩:=hl;exact ã (Ð U)
 have X:∀o,(s.heap.push o).IsList l items:=λo=>let ⟨u,e,r⟩:=hl;⟨u,Á _ e,r⟩
 delta unpack;rw[hn,hs];refine À (ą ?_);delta unpackItems;refine À ?_;delta notIterableAtAll;refine À (wpAny_specialOf hl.typeIs slot_list_iter.lookup (Ã ?_));rw[Ú (by decide)];refine À (ą (ŵ hl (À (ą (Ks Y items.size 0 _ _ ⟨_,Î _ rfl,rfl,rfl⟩ (X _) ⋯ λT S W=>?_)))));rw[List.drop_zero,show List.take items.size items.toList=items.toList from List.take_of_length_le ∅,Ú ∅]
 have R:T.IsList l items:=let ⟨o,e,r⟩:=X _;⟨o,W.extBut l o Y e,r⟩
 refine À (ą (wpAny_pyNext_list_end hh S R ∅ λP Z=>?_));rw[Ú (by decide)];exact Ã (h P λb o V e=>Z b o V (W.extBut b o V (Á _ e)))
end
section
variable {X:Cx}
def acN (K:đ) (n:Nat) (t:jS):TG:=λv σ H Q=>∃a Z,v=.ref a/\bY K H a Z/\Z.length=n/\t Z σ H Q
def ZC {es:List ě} {k:Nat} {pos:Pos} {t:jS} {n:Nat} (hc:X.calm=ό) (h:kG X es t)
  (hn:(Ŏ es X.env).length=n:=by rfl) (jT:(Ŏ es X.env).findIdx? (·.1)=ϋ:=by rfl):PG X (.Tuple es k pos) (acN X.K n t):=by
 intro Z s σ H v u Q I r hw;obtain⟨a,W,e1,V,U,hw⟩:=hw;subst e1;cases r;obtain⟨its,Y,T,O⟩:=I.list V;rw[assign_Tuple];refine À (Ż (RH (I.ok.hd hc) T.isList (by simp[hn,<- U,Y.length]) jT λS R=>?_))
 have P:Inv X Z σ H { s with heap:=S }:=I.kept (t':=s.toks) λb o e=>R b o (ã (Ð e)) e
 exact h Z _ σ H W _ Q P (by simpa using Y) hw
end
end L2
namespace DI
open PySem L2
section
variable {X:Cx} {Ξ:Wd->bg->Prop} {e a b o:ě} {es:List ě} {pos:Pos} {f g:aeO D}
def gL (gs:List (D->Env->Option Env)):D->Env->Option Env:=λd env=>match d with
 | .lst Z=>gS gs Z env
 |_=>ϋ
def Es {gl:List (D->Env->Option Env)} {k:Nat} (hc:X.calm=ό) (h:kG X es (uZ X.K (gS gl))) (hn:(Ŏ es X.env).length=gl.length:=by rfl) (jT:(Ŏ es X.env).findIdx? (·.1)=ϋ:=by rfl):PG X (.Tuple es k pos) (gD X.K (gL gl)) :=
 Dw (ZC hc h hn jT) λv σ H Q U=>by
  obtain⟨w,env,d,Z,T,S,R,W,Y,k⟩:=U
  cases d with
  |lst P =>
   erw[DV] at W;obtain⟨p,O,e1,N,V⟩:=W;subst T;exact⟨p,O,e1,N.sq,by rw[<- V.length];exact zb Y,w,env,P,Z,rfl,S,R,V,Y,k⟩
  |_=>cases Y
def Hi (x:Str):List D:=x.cps.toList.map λc=>D.str ⟨#[c]⟩
def tU (f:aeO D):aeO (List D):=λenv s=>ai (f env s) λd s=>match d with
 | .str x=>ok (Hi x) s
 |_=>ϋ
def Et {tg:ě} (hl:PE X a (tE X.K Ξ f)):PI X tg a (fP X.K Ξ (tU f)) :=
 sV (Zz hl) fun σ H R V=>by
  obtain⟨w,env,U,S,T,h⟩:=V;subst U;refine⟨w,env,rfl,S,T,(Out.ai h).mono λL d J Q W v P=>?_⟩
  cases d with
  |str x =>
   have e:v=.str x:=P;refine⟨x,e,aB Q W _ λO I N i=>⟨λd Z=>?_,λhl=>?_⟩⟩
   ·delta Hi at Z
    rw[ê] at Z;obtain⟨c,Y,rfl⟩:=adX.mp Z;rw[į] at Y;refine⟨(Array.getElem?_eq_some_iff.mp Y).1,λz G ⟨e1,F,e2,M⟩=>⟨O,e1.symm,Le.refl _,N,rfl,?_⟩⟩;rw[Y] at e2;cases e2;exact M
   ·show x.cps.size<=i
    delta Hi at hl;rw[É,ö] at hl;exact hl
  |_=>exact W.elim
def strs?:List D->Option (List Str)
 | []=>ϊ []
 | .str x::r=>(strs? r).map (x::·)
 |_=>ϋ
theorem L3 {K:đ} {w:Wd}:∀{ds:List D} {zs:List Str} {vs:List V},strs? ds=ϊ zs->au K w ds vs->vs=zs.map V.str
 | [],zs,vs,h,Z=>by cases h;exact Z
 |d::ds,zs,vs,h,Z=>by
  obtain⟨v,r,rfl,Y,X⟩:=Z
  cases d with
  |str x =>
   delta strs? at h;obtain⟨W,U,rfl⟩:=adX.mp h;rw[L3 U X,show v=.str x from Y];rfl
  |_=>cases h
theorem Lc {K:đ} {w:Wd}:∀zs:List Str,au K w (zs.map D.str) (zs.map V.str)
 | []=>rfl
 |z::zs=>⟨.str z,_,rfl,rfl,Lc zs⟩
def dY (m:Str->D->ae->Res D) (f g:aeO D):aeO D:=λenv s=>ai (f env s) λd s=>match d with
 | .str y=>ai (g env s) λx s=>m y x s
 |_=>ϋ
def iQ (y:Str) (x:D) (s:ae):Res D:=match res x s with
 | .lst Z=>match strs? Z with
  |some zs=>if JoinOk y zs=ό then ok (.str (š y zs)) s else ϋ
  |none=>ϋ
 |_=>ϋ
def jc (a:Str) (x:D) (s:ae):Res D:=match x with
 | .str y=>if (!(y.length==0)&&ώ (a.length+2<=Õ))=ό then ok (.lst ((Ī a y).map D.str)) s else ϋ
 |_=>ϋ
def sW {apos ba:Pos} (ho:PE X o (tE X.K Ξ f)) (ha:PE X a (tE X.K Ξ g))
  (hZ:İ o "join" X.env (ķ o X.env)=ķ o X.env:=by rfl)
  (lq:((ī ba (Í [a] X.env)).all (λx=>!x.1)&&(adq ba (ŗ [] X.env)).all (λx=>x.1.isSome)
   && ώ (([a]:List ě).length+([]:List adf).length+(if ([]:List adf).isEmpty then 0 else 1)<30))=ό:=by rfl)
  (ia:(apos.endLine==ba.line)=ό:=by rfl) (hs:Í [a] X.env=(ύ,ķ a X.env)::Í [] X.env:=by rfl) (iO:(ī ba (Í [] X.env)).any (·.1)=ύ:=by rfl) :
  PE X (.Call (.Attribute o "join" apos) [a] [] ba) (tE X.K Ξ (dY iQ f g)) :=
 cm (wN adY PySem.F.slot_str_join PySem.F.type_str_join Xu ho (kQ ha ma hs) hZ lq ia hs iO) fun σ H Q T=>by
  obtain⟨w,env,R,S,Y,h⟩:=T;subst R;refine⟨w,env,rfl,S,Y,(Out.ai h).mono λP d O N W v M=>?_⟩
  cases d with
  |str y =>
   have e:v=.str y:=M;subst e;refine⟨rfl,P,env,rfl,N,Y.le O,(Out.ai W).mono λD x C V Z u L=>?_⟩;delta iQ at Z;split at Z
   ·rename_i B J
    split at Z
    ·rename_i zs I
     split at Z
     ·rename_i G
      obtain⟨p,A,rfl,U,E⟩:=kS V L J;rw[L3 I E] at U;exact⟨y,p,zs,rfl,rfl,bY.of U,G,aB V Z _ rfl⟩
     ·exact Z.elim
    ·exact Z.elim
   ·exact Z.elim
  |_=>exact W.elim
def qh {apos ba:Pos} (ho:PE X o (tE X.K Ξ f)) (ha:PE X a (tE X.K Ξ g))
  (hZ:İ o "split" X.env (ķ o X.env)=ķ o X.env:=by rfl)
  (lq:((ī ba (Í [a] X.env)).all (λx=>!x.1)&&(adq ba (ŗ [] X.env)).all (λx=>x.1.isSome)
   && ώ (([a]:List ě).length+([]:List adf).length+(if ([]:List adf).isEmpty then 0 else 1)<30))=ό:=by rfl)
  (ia:(apos.endLine==ba.line)=ό:=by rfl) (hs:Í [a] X.env=(ύ,ķ a X.env)::Í [] X.env:=by rfl) (iO:(ī ba (Í [] X.env)).any (·.1)=ύ:=by rfl) :
  PE X (.Call (.Attribute o "split" apos) [a] [] ba) (tE X.K Ξ (dY jc f g)) :=
 cm (wN adY PySem.F.slot_str_split PySem.F.type_str_split VU ho (kQ ha ma hs) hZ lq ia hs iO) fun σ H Q N=>by
  obtain⟨w,env,M,S,T,h⟩:=N;subst M;refine⟨w,env,rfl,S,T,(Out.ai h).mono λL d J I R v G=>?_⟩
  cases d with
  |str y =>
   have e:v=.str y:=G;subst e;refine⟨rfl,L,env,rfl,I,T.le J,(Out.ai R).mono λP x D O Y u E=>?_⟩;delta jc at Y;split at Y
   ·rename_i z
    split at Y
    ·rename_i W
     rw[Å,ł,Ë] at W;have e:u=.str z:=E;subst e;refine⟨y,z,rfl,rfl,W.1,W.2,λp U=>?_⟩;exact Y (P.grow p (.lst ((Ī y z).map V.str))) (Fw.grow U).le (O.grow U) rfl (.ref p) ⟨p,_,rfl,⟨(show ¬ P.Z p from me O U),cP⟩,Lc _⟩
    ·exact Y.elim
   ·exact Y.elim
  |_=>exact R.elim
def qU (ds:List D) (s:ae):Res D:=match ds with
 | [.int i]=>if ώ (i.natAbs.log2<1920)=ό then ok (.str (toString i)) s else ϋ
 |_=>ϋ
def Oe:cU X (.type "str") (rC X.K Ξ qU):=by
 intro Z s σ H T Y Q I r zzz;obtain⟨w,R,rfl,S,W,h⟩:=zzz;delta qU at h;split at h
 ·rename_i i
  split at h
  ·rename_i V
   obtain⟨v,rfl,U⟩:=oy W;have e:v=.int i:=U;subst e;exact Q2 Z s σ w.H _ Y Q I r ⟨i,rfl,æ V,aB S h _ rfl⟩
  ·exact h.elim
 ·exact h.elim
def jL (ds:List D) (s:ae):Res D:=match ds with
 | [.str x]=>if ώ (x.length<=640)=ό then (match adp x with
  |some n=>ok (.int n) s
  |none=>ϋ) else ϋ
 |_=>ϋ
def sX:cU X (.type "int") (rC X.K Ξ jL):=by
 intro Z s σ H R Y Q I r zzz;obtain⟨w,P,rfl,S,W,h⟩:=zzz;delta jL at h;split at h
 ·rename_i x
  split at h
  ·rename_i V
   split at h
   ·rename_i n U
    obtain⟨v,rfl,T⟩:=oy W;have e:v=.str x:=T;subst e;exact Rh Z s σ w.H _ Y Q I r ⟨x,n,rfl,æ V,U,aB S h _ rfl⟩
   ·exact h.elim
  ·exact h.elim
 ·exact h.elim
def Eu (x y:D) (s:ae):Res D:=match x,y with
 | .str i,.str j=>ok (.bl (!(ġ j i 0 j.length 1).isEmpty)) s
 |_,_=>ϋ
def abh:bM X (ĕ .In) (rO X.K Ξ Eu):=by
 intro Z s σ H x y v u Q I Y W zzz;obtain⟨w,T,R,rfl,S,V,U,h⟩:=zzz;delta Eu at h;split at h
 ·rename_i i j
  have e1:x=.str i:=V;have e2:y=.str j:=U;subst e1 e2;exact Tj Z s σ w.H _ _ v u Q I Y W ⟨i,j,rfl,rfl,aB S h _ rfl⟩
 ·exact h.elim
def pb (f g:aeO D):aeO D:=λenv s=>ai (f env s) λd s=>match d with
 | .str x=>if ώ (x.length<=Õ)=ό then (if (x.length==0)=ό then g env s else ok (.str x) s) else ϋ
 |_=>ϋ
def Ew {rest:List ě} (ha:PE X a (tE X.K Ξ f)) (hb:PE X (.BoolOp .Or (b::rest) pos) (tE X.K Ξ g)):PE X (.BoolOp .Or (a::b::rest) pos) (tE X.K Ξ (pb f g)):=by
 intro T s σ H Q I J;obtain⟨w,env,G,S,R,h⟩:=J;subst G
 refine PyProof.Rows.BoolOp_or (aO (ha T s σ w.H (λv V=>∃x,v=.str x/\x.length<=Õ/\if (x.length==0)=ό then tE X.K Ξ g σ V Q else Q (.str x) V) I ⟨w,env,rfl,S,R,(Out.ai h).mono λU d F P Z v E=>?_⟩) λv D ⟨x,V,C,O,W⟩=>?_)
 ·cases d with
  |str x =>
   have e:v=.str x:=E;subst e
   have Z:Out X.K Ξ U (if ώ (x.length<=Õ)=ό then (if (x.length==0)=ό then g env U.aJ else ok (.str x) U.aJ) else ϋ) (λN d=>∀v,DV X.K N d v->Q v N.H):=Z
   split at Z
   ·rename_i B
    refine⟨x,rfl,æ B,?_⟩;split at Z
    ·rename_i Y
     rw[Ñ Y];exact⟨U,env,rfl,P,R.le F,Z⟩
    ·rename_i Y
     rw[Ú Y];exact aB P Z _ rfl
   ·exact Z.elim
  |_=>exact Z.elim
 ·obtain⟨y,rfl,A,W⟩:=W
  refine ė (Dq T D σ V (.str y) v (λk z=>z=V/\k=((y.length:Int) != 0)) C O ⟨_,⟨A,rfl⟩,rfl,rfl⟩) (λk u ⟨M,L,e2,t⟩=>?_) λ_ _ h=>h;subst e2 t
  cases Y:((y.length:Int) != 0) with
  |true =>
   have:(y.length==0)=ύ:=by
    cases r:(y.length==0) with
    |false=>rfl
    |true=>rw[show y.length=0 by simpa using r] at Y;simp at Y
   rw[this,Ú Ä] at W;exact⟨.str y,M,L,O,W⟩
  |false =>
   have:(y.length==0)=ό:=by
    have q:y.length=0:=by simpa using Y
    rw[q];rfl
   rw[this,Ñ rfl] at W;exact hb T u σ M Q L W
def xO {x y:Str} (h:∃t,X.mg x=ϊ (.str y t)) (hg:Gl X x) (hd:(x==("__debug__":Str))=ύ:=by decide):PE X (.Name x pos) (tE X.K Ξ (eC (.str y))):=by
 obtain⟨t,e⟩:=h;exact qz (v:=.str y) (CB hg e ⟨t,rfl⟩ hd) λ_=>rfl
def fN (d:D) (s:ae):Res D:=match d with
 | .str x=>if ώ (x.length<=Õ)=ό then ok (.str x) s else ϋ
 | .int i=>if ώ (i.natAbs.log2<1920)=ό then ok (.str (toString i)) s else ϋ
 |_=>ϋ
def qI (ha:PE X a (tE X.K Ξ f)):PE X (.FormattedValue a (-1) ϋ pos) (tE X.K Ξ (e1 fN f)):=by
 intro P s σ H Q I O;obtain⟨w,env,N,S,M,h⟩:=O;subst N;refine wpAny_FormattedValue_plain (aO (ha P s σ w.H (λv Y=>(∃x,v=.str x/\x.length<=Õ/\Q (.str x) Y)\/∃i,v=.int i/\i.natAbs.log2<1920/\Q (.str (toString i)) Y) I ⟨w,env,rfl,S,M,(Out.ai h).mono λF d E U Z v T=>?_⟩) λv D ⟨x,Y,W,R,L⟩=>?_)
 ·delta fN at Z
  split at Z
  ·rename_i x
   split at Z
   ·rename_i V
    exact .inl ⟨x,T,æ V,aB U Z _ rfl⟩
   ·exact Z.elim
  ·rename_i i
   split at Z
   ·rename_i V
    exact .inr ⟨i,T,æ V,aB U Z _ rfl⟩
   ·exact Z.elim
  ·exact Z.elim
 ·rcases L with ⟨y,rfl,J,q⟩ | ⟨i,rfl,G,q⟩
  ·obtain⟨t,rfl⟩:=R
   exact wpAny_formatField_str ⟨.str y,Y,W,⟨_,rfl⟩,q⟩ ⟨.str y,Y,W.tok _,⟨_,rfl⟩,q⟩ J
  ·obtain⟨t,rfl⟩:=R
   exact wpAny_formatField_int G ⟨.str (toString i),Y,W.tok _,⟨_,rfl⟩,q⟩
def jZ:List (aeO D)->Str->aeO D
 | [],Z,env,s=>if ώ (Z.length<=Õ)=ό then ok (.str Z) s else ϋ
 |f::fs,Z,env,s=>ai (f env s) λd s=>match d with
  | .str y=>if ώ ((Z++y).length<=Õ)=ό then jZ fs (Z++y) env s else ϋ
  |_=>ϋ
inductive gK (X:Cx) (Ξ:Wd->bg->Prop):List ě->List (aeO D)->Prop
 |nil:gK X Ξ [] []
 |cons {e es f fs} (h:PE X e (tE X.K Ξ f)) (r:gK X Ξ es fs):gK X Ξ (e::es) (f::fs)
def VV {π:List (Þ×Obj)} {σ:St} {Q:VK} {env:Env}:∀{es:List ě} {fs:List (aeO D)},gK X Ξ es fs->∀{acc:Str} {w:Wd} {s:Â},Inv X π σ w.H s->aU X.K w->bX X.K w env σ ->
  Out X.K Ξ w (jZ fs acc env w.aJ) (λw' d=>∀v,DV X.K w' d v->Q v w'.H)->Joins (é X.prog X.w) X.A X.xe (evalEach es X.env) acc (λout bJ=>out.length<=Õ/\EP X π σ Q (.str out bJ.toks) { bJ with toks:=bJ.toks+1 }) s:=by
 intro es fs P
 induction P with
 |nil =>
  intro acc w s I S W h;delta jZ at h;split at h
  ·rename_i V
   exact⟨æ V,.str acc,w.H,I.tok _,⟨_,rfl⟩,aB S h _ rfl⟩
  ·exact h.elim
 |cons R r ih =>
  rename_i e es f fs;intro acc w s I S W h;refine aO (R π s σ w.H (λv T=>∃y Z,v=.str y/\Z.H=T/\aU X.K Z/\bX X.K Z env σ/\(acc++y).length<=Õ/\Out X.K Ξ Z (jZ fs (acc++y) env Z.aJ) (λw' d=>∀v,DV X.K w' d v->Q v w'.H)) I ⟨w,env,rfl,S,W,(Out.ai h).mono λZ d O U Y v N=>?_⟩) λv E ⟨x,T,M,L,J⟩=>?_
  ·cases d with
   |str y =>
    have Y:Out X.K Ξ Z (if ώ ((acc++y).length<=Õ)=ό then jZ fs (acc++y) env Z.aJ else ϋ) _:=Y
    split at Y
    ·rename_i V
     exact⟨y,Z,N,rfl,U,W.le O,æ V,Y⟩
    ·exact Y.elim
   |_=>exact Y.elim
  ·obtain⟨y,Z,rfl,rfl,U,G,F,Y⟩:=J
   obtain⟨t,rfl⟩:=L;exact⟨y,t,rfl,F,ih M U G Y⟩
def Nc {e':ě} {fs:List (aeO D)} (h:gK X Ξ (e::e'::es) fs):PE X (.JoinedStr (e::e'::es) pos) (tE X.K Ξ (jZ fs χ)):=by
 intro U s σ H Q I Z;obtain⟨w,env,Y,S,W,V⟩:=Z;subst Y;exact wpAny_JoinedStr (VV h I S W V)
end
end DI
namespace L2
open PySem PySem.Spec PyProof.Rows
def iq (st:Int) (x:Str) (lo hi:Option Int):Str:=if (st==1&&(Ě lo hi st x.length).length==x.length)=ό then x else ⟨((Ě lo hi st x.length).filterMap λi=>x.cps[i]?).toArray⟩
section
variable {X:Cx} {e:ě} {te:TE} {p2 p3 p4 pos:Pos}
def made_str {x:Str} {t:Tok} {l u st:Option (Int×Tok)} {i:Int} {Q:VK} {π:List (Þ×Obj)} {σ:St} {H:Hp} {s:Â} (I:Inv X π σ H s) (hi:(st.map (·.1)).getD 1=i) (hz:(iq i x (l.map (·.1)) (u.map (·.1))).length<=Õ) (q:Q (.str (iq i x (l.map (·.1)) (u.map (·.1)))) H):(sliceMade x t l u st).post (EP X π σ Q) s:=by
 subst hi;delta iq at q hz;delta sliceMade slicePicked;split
 ·rename_i h
  rw[Ñ h] at q;exact⟨.str x,H,I,⟨_,rfl⟩,q⟩
 ·rename_i h
  rw[Ú h] at q hz;exact⟨hz,.str _,H,I.tok _,⟨_,rfl⟩,q⟩
def part_of (h:IsPart v o):∃l:Option (Int×Tok),v=partValue l/\l.map (·.1)=o:=by
 cases h with
 |none=>exact⟨ϋ,rfl,rfl⟩
 |int i t=>exact⟨ϊ (i,t),rfl,rfl⟩
def acO:V->Option Int->Option Int->Hp->VK->Prop:=λx lo Z H Q=>∃y,x=.str y/\(iq 1 y lo Z).length<=Õ/\Q (.str (iq 1 y lo Z)) H
def ZD:rg X acO:=by
 intro U s σ H x v T S lo R sl Q I Z Y W pu h;obtain⟨y,rfl,V,q⟩:=h;obtain⟨t,rfl⟩:=Z;obtain⟨l,rfl,rfl⟩:=part_of W;obtain⟨u,rfl,rfl⟩:=part_of pu;exact⟨"str",_,F.slot_str_getitem.lookup,adZ s y t,wpAny_getItem_str_slice (st:=ϋ) Y rfl (made_str I rfl V q)⟩
def abi (te:TE):TE:=fun σ H Q=>te σ H λx Z=>∃y,x=.str y/\(iq (-1) y ϋ ϋ).length<=Õ/\Q (.str (iq (-1) y ϋ ϋ)) Z
def Xv (he:PE X e te):PE X (.Subscript e (.Slice ϋ ϋ (ϊ (.UnaryOp .USub (.Constant (.int 1) 0 p4) p3)) p2) pos) (abi te):=by
 intro Y s σ H Q I h;refine Subscript_ (aO (he Y s σ H _ I h) λv T ⟨x,U,S,R,P⟩=>?_);obtain⟨y,rfl,O,q⟩:=P;obtain⟨t,rfl⟩:=R;refine wpAny_Slice ?_;rw[evalPart_none];refine Ã (Ã ?_);have step:PE X (.UnaryOp .USub (.Constant (.int 1) 0 p4) p3) (Pt (rU λi=>.int (-i)) (tC (.int 1))):=NI MC MA;rw[evalPart_some];refine aO (step Y T σ U (λy W=>y=.int (-1)/\W=U) S ⟨1,rfl,rfl,rfl⟩) λu Z ⟨J,W,N,M,e1,e2⟩=>?_;subst e1 e2;obtain⟨V,rfl⟩:=M
 have L:Inv X Y σ W { Z with heap:=Z.heap.push { cls:=.type "slice",data:=.fields #[.none,.none,.int (-1) V] } }:=N.kept (t':=Z.toks) λb G q=>Á _ q
 have K:Heap.IsSlice (Z.heap.push { cls:=.type "slice",data:=.fields #[.none,.none,.int (-1) V] }) Z.heap.objs.size ϋ ϋ (ϊ (-1,V)):=Heap.IsSliceOf.new ..;exact tail_any (ops:=[.str y t,.ref Z.heap.objs.size]) (adZ _ y t) F.slot_str_getitem.lookup (wpAny_getItem_str_slice K rfl (made_str L rfl O q)) (by with_unfolding_all rfl)
def rUp:V->List V->Hp->VK->Prop:=λx Z H Q=>∃y,x=.str y/\Z=[]/\y.length<=5592405/\((aex y).length<=3*y.length->Q (.str (aex y)) H)
def VW:rj X "str.upper" rUp:=by
 intro U s σ H x T v S Q I Z Y h;obtain⟨y,rfl,rfl,W,q⟩:=h;obtain⟨t,rfl⟩:=Z;cases Y;exact SCL.upper W λV=>⟨.str _,H,I.tok _,⟨_,rfl⟩,q V⟩
def abj:R2:=λx y H Q=>∃a n,x=.str a/\y=.int n/\MulOk a n/\Q (.str (ad6 a n)) H
def Xw:bM X (Ň .Mult) abj:=by
 intro V s σ H x y v u Q I Z Y h;obtain⟨a,n,rfl,rfl,W,q⟩:=h;obtain⟨t,rfl⟩:=Z;obtain⟨U,rfl⟩:=Y;exact SB.mul W λT k=>⟨.str _,H,I.tok _,⟨_,rfl⟩,q⟩
end
end L2
namespace DI
open PySem L2
section
variable {X:Cx} {Ξ:Wd->bg->Prop} {e a b o:ě} {lo hi:Option ě} {p2 p3 p4 pos:Pos} {f g:aeO D}
def Hj (d:D) (lo hi:Option Int) (s:ae):Res D:=match d with
 | .str x=>if ώ ((iq 1 x lo hi).length<=Õ)=ό then ok (.str (iq 1 x lo hi)) s else ϋ
 |_=>ϋ
def mH (f:aeO D) (l h:aeO (Option Int)):aeO D:=λenv s=>ai (f env s) λd s=>ai (l env s) λlo s=>ai (h env s) λhi s=>Hj d lo hi s
def Xx:rg X (λx lo hi H Q=>∃w dx,w.H=H/\aU X.K w/\DV X.K w dx x/\Out X.K Ξ w (Hj dx lo hi w.aJ) λw' d=>∀v,DV X.K w' d v->Q v w'.H):=by
 intro Z s σ H x v Y W lo hi sl Q I V U T pu zzz;obtain⟨w,dx,rfl,S,R,h⟩:=zzz
 cases dx with
 |str y =>
  have e1:x=.str y:=R;subst e1;delta Hj at h;dsimp only at h;split at h
  ·rename_i P
   exact ZD Z s σ w.H _ v Y W lo hi sl Q I V U T pu ⟨y,rfl,æ P,aB S h _ rfl⟩
  ·exact h.elim
 |_=>exact h.elim
def qJ (he:PE X e (tE X.K Ξ f)) (hl:PO X lo (tP X.K Ξ fl)) (hu:PO X hi (tP X.K Ξ fh)):PE X (.Subscript e (.Slice lo hi ϋ p2) pos) (tE X.K Ξ (mH f fl fh)) :=
 cm (KP (Xx (Ξ:=Ξ)) he hl hu) fun σ H Q V=>by
  obtain⟨w,env,U,S,Z,h⟩:=V;subst U;exact⟨w,env,rfl,S,Z,(Out.ai h).mono λT d Y R P v O=>⟨T,env,rfl,R,Z.le Y,(Out.ai P).mono λN i W M L=>⟨N,env,rfl,M,Z.le (Y.trans W),(Out.ai L).mono λJ j I G F=>⟨J,d,rfl,G,(W.trans I) _ _ O,F⟩⟩⟩⟩
def xI (d:D) (s:ae):Res D:=match d with
 | .str x=>if ώ ((iq (-1) x ϋ ϋ).length<=Õ)=ό then ok (.str (iq (-1) x ϋ ϋ)) s else ϋ
 |_=>ϋ
def ZE (he:PE X e (tE X.K Ξ f)):PE X (.Subscript e (.Slice ϋ ϋ (ϊ (.UnaryOp .USub (.Constant (.int 1) 0 p4) p3)) p2) pos) (tE X.K Ξ (e1 xI f)):=cm (Xv he) fun σ H Q Y=>by
 obtain⟨w,env,W,S,V,h⟩:=Y;subst W;refine⟨w,env,rfl,S,V,(Out.ai h).mono λP d O U Z v T=>?_⟩
 cases d with
 |str y =>
  have e1:v=.str y:=T;subst e1;delta xI at Z;dsimp only at Z;split at Z
  ·rename_i R
   exact⟨y,rfl,æ R,aB U Z _ rfl⟩
  ·exact Z.elim
 |_=>exact Z.elim
def Bf (d:D) (s:ae):Res D:=match d with
 | .str x=>if (ώ (x.length<=5592405))=ό then ok (.str (aex x)) s else ϋ
 |_=>ϋ
def Xy {apos ba:Pos} (ho:PE X o (tE X.K Ξ f)) (hZ:İ o "upper" X.env (ķ o X.env)=ķ o X.env:=by rfl) (ia:(apos.endLine==ba.line)=ό:=by rfl) :
  PE X (.Call (.Attribute o "upper" apos) [] [] ba) (tE X.K Ξ (e1 Bf f)) :=
 cm (MH adY PySem.F.slot_str_upper PySem.F.type_str_upper VW ho hZ ia) fun σ H Q Y=>by
  obtain⟨w,env,W,S,V,h⟩:=Y;subst W;refine⟨w,env,rfl,S,V,(Out.ai h).mono λP d O U Z v T=>?_⟩
  cases d with
  |str y =>
   have e1:v=.str y:=T;subst e1;delta Bf at Z;dsimp only at Z;split at Z
   ·rename_i R
    exact⟨rfl,y,rfl,rfl,æ R,λ_=>aB U Z _ rfl⟩
   ·exact Z.elim
  |_=>exact Z.elim
open Classical in
def fK (x y:D) (s:ae):Res D:=match x,y with
 | .str a,.int n=>if MulOk a n then ok (.str (ad6 a n)) s else ϋ
 |_,_=>ϋ
def wH:bM X (Ň .Mult) (rO X.K Ξ fK):=by
 intro Z s σ H x y v u Q I Y W zzz;obtain⟨w,R,P,rfl,S,V,U,h⟩:=zzz;delta fK at h;split at h
 ·rename_i i j
  have e1:x=.str i:=V;have e2:y=.int j:=U;subst e1 e2;split at h
  ·rename_i T
   exact Xw Z s σ w.H _ _ v u Q I Y W ⟨i,j,rfl,rfl,T,aB S h _ rfl⟩
  ·exact h.elim
 ·exact h.elim
def ze (x y:D) (s:ae):Res D:=match x,y with
 | .str a,.str b=>ok (.bl ((ġ b a 0 b.length 1).isEmpty)) s
 |_,_=>ϋ
def VX:bM X (ĕ .NotIn) (rO X.K Ξ ze):=by
 intro U s σ H x y v u Q I Z Y zzz;obtain⟨w,T,R,rfl,S,W,V,h⟩:=zzz;delta ze at h;split at h
 ·rename_i i j
  have e1:x=.str i:=W;have e2:y=.str j:=V;subst e1 e2;obtain⟨t,rfl⟩:=Z;obtain⟨P,rfl⟩:=Y;refine SB.notContains ⟨.bl _,w.H,I,rfl,?_⟩;have q:=aB S h _ rfl;delta Txt.contains;simpa using q
 ·exact h.elim
end
end DI
namespace DI.cE
open PySem L2 DI
noncomputable section
def bU:List Str:=["NoMould","NoDay","NoSheet","NoPage","NoBook","NoRow","NoDeed","Clash"]
def zf:List D->ae->Res D:=aD 2 3 (aq (bc (aG vH (af (aa 0) (af (aa 1) ah))) (gN 2)) (aq (aM (aW (e2 xD (aa 2) (e2 wX (eC (.int 10)) (eC (.int 18))))) (aA (eNew (af (e2 wU (aa 2) (e2 wX (eC (.int 10)) (eC (.int 18)))) (af (eC (.bl ό)) ah)))) bH) (aA (eNew (af (e2 nI (aa 2) (eC (.int 2147483647))) (af (eC (.bl ύ)) ah))))))
def JP:List D->ae->Res D:=aD 1 2 (aq (bc (fe (af (e1 (ef bU (isNm "NoMarks")) (aa 0)) (af (e1 (ef bU (isNm "NoSheet")) (aa 0)) (af (e1 (ef bU (isNm "NoPage")) (aa 0)) (af (e1 (ef bU (isNm "NoBook")) (aa 0)) ah))))) (gN 1)) (aq (bc (e2 bh (aa 1) (fe (af (e1 (ef bU (isNm "NoMould")) (aa 0)) (af (e1 (ef bU (isNm "NoDay")) (aa 0)) (af (e1 (ef bU (isNm "NoSort")) (aa 0)) (af (e1 (ef bU (isNm "NoNumber")) (aa 0)) ah)))))) (gN 1)) (aq (bc (e2 bh (aa 1) (fe (af (e1 (ef bU (isNm "NoSheets")) (aa 0)) (af (e1 (ef bU (isNm "NoRun")) (aa 0)) (af (e1 (ef bU (isNm "NoLaying")) (aa 0)) (af (e1 (ef bU (isNm "NoHeap")) (aa 0)) ah)))))) (gN 1)) (aq (bc (e2 bh (aa 1) (fe (af (e1 (ef bU (isNm "NoCount")) (aa 0)) (af (e1 (ef bU (isNm "Clash")) (aa 0)) (af (e1 (ef bU (isNm "NoDeed")) (aa 0)) (af (e1 (ef bU (isNm "NoText")) (aa 0)) ah)))))) (gN 1)) (aA (e2 bh (aa 1) (fe (af (e1 (ef bU (isNm "NoRow")) (aa 0)) (af (e1 (ef bU (isNm "TooMany")) (aa 0)) (af (e1 (ef bU (isNm "Lacking")) (aa 0)) ah))))))))))
def vp:List D->ae->Res D:=aD 1 1 (aA (cO (pL lB lB (eC (.int 1)) (eB cJ (af (aa 0) ah)) (eC (.int (30)))) (eB mz (af (cM 1 [] (tU (aa 0)) (gN 0) cT (e2 Eu (aa 0) (eC (.str "0123456789")))) ah))))
def yG:List D->ae->Res D:=aD 1 2 (aq (bc (dY jc (aa 0) (eC (.str "/"))) (gN 1)) (aA (cO (e2 aX (eB cJ (af (aa 1) ah)) (eC (.int 2))) (eB mz (af (cM 1 [] (cI (aa 1)) (gN 0) cT (lT (e2 aX (aa 0) (eC (.str "-"))) (aG vp (af (aa 0) ah)))) ah)))))
def m8:List D->ae->Res D:=aD 1 1 (aA (cO (aG vp (af (aa 0) ah)) (lT (e2 ee (e2 ay (aa 0) (eC (.int 0))) (eC (.str "0"))) (e2 aX (aa 0) (eC (.str "0"))))))
def vn:List D->ae->Res D:=aD 1 5 (aq (aM (aW (e2 ee (eB cJ (af (aa 0) ah)) (eC (.int 4)))) (aA (eC (.bl ύ))) bH) (aq (bc (aa 0) (gL [(gN 1),(gN 2),(gN 3),(gN 4)])) (aq (aM (eU (cV (cu (aG m8 (af (aa 2) ah)))) (cV (cu (aG m8 (af (aa 3) ah))))) (aA (eC (.bl ύ))) bH) (aq (aM (aW (e2 aX (aa 1) (eC (.str "made")))) (aA (aG yG (af (aa 4) ah))) bH) (aA (cO (e2 aX (aa 1) (eC (.str "mended"))) (aG m8 (af (aa 4) ah))))))))
def sE:List D->ae->Res D:=aD 1 3 (aq (xE 1 2 (af (e2 ay (aa 0) (eC (.int 0))) (af (gr (aa 0) (cK (eC (.int 1))) fq) ah))) (aq (aM (aW (e2 aX (aa 1) (eC (.str "out")))) (aA (aG vn (af (aa 2) ah))) bH) (aq (aM (aW (e2 aX (aa 1) (eC (.str "surely")))) (aA (cO (e2 aX (eB cJ (af (aa 2) ah)) (eC (.int 2))) (eB mz (af (cM 1 [] (cI (aa 2)) (gN 0) cT (aG m8 (af (aa 0) ah))) ah)))) bH) (aq (aM (aW (e2 aX (aa 1) (eC (.str "where")))) (aA (cO (e2 aX (eB cJ (af (aa 2) ah)) (eC (.int 1))) (aG yG (af (e2 ay (aa 2) (eC (.int 0))) ah)))) bH) (aq (aM (eU (aW (e2 aX (aa 1) (eC (.str "undo")))) (aW (e2 aX (aa 1) (eC (.str "book"))))) (aA (e2 aX (aa 2) (fe ah))) bH) (aA (aG vn (af (aa 0) ah))))))))
def iN:List D->ae->Res D:=aD 1 1 (aq (aM (eU (cV (cu (eB gU (af (aa 0) (af (eC (.ty "str")) ah))))) (cV (cu (aG sE (af (dY jc (aa 0) (eC (.str " "))) ah))))) (mj "NoRow" (af (eC (.str "a row tells a page, out and a page, undo, book, surely or where")) ah)) bH) (aA (dY jc (aa 0) (eC (.str " ")))))
def si:List D->ae->Res D:=aD 1 1 (aq (aM (aW (e2 aX (aa 0) (eC (.str "-")))) (aA (cZ ah)) bH) (aA (eB mf (af (cM 1 [] (tU (aa 0)) (gN 0) cT (eB jL (af (aa 0) ah))) ah))))
def sj:List D->ae->Res D:=aD 1 3 (aq (bc (dY jc (aa 0) (eC (.str "/"))) (gL [(gN 1),(gN 2)])) (aA (cZ (af (aG si (af (aa 1) ah)) (af (aG si (af (aa 2) ah)) ah)))))
def pZ:List D->ae->Res D:=aD 1 6 (aq (bc (aa 0) (gL [(gN 1),(gN 2),(gN 3),(gN 4)])) (aq (bc (uY (aW (e2 aX (aa 1) (eC (.str "made")))) (aG sj (af (aa 4) ah)) (eB jL (af (aa 4) ah))) (gN 5)) (aA (cZ (af (aa 1) (af (eB jL (af (aa 2) ah)) (af (eB jL (af (aa 3) ah)) (af (aa 5) ah))))))))
def vw:List D->ae->Res D:=aD 1 1 (aA (pb (dY iQ (eC (.str "")) (cM 1 [] (cI (aa 0)) (gN 0) cT (eB qU (af (aa 0) ah)))) (eC (.str "-"))))
def vz:List D->ae->Res D:=aD 1 3 (aq (bc (aa 0) (gT [(gN 1),(gN 2)])) (aA (e2 bh (e2 bh (aG vw (af (aa 1) ah)) (eC (.str "/"))) (aG vw (af (aa 2) ah)))))
def yK:List D->ae->Res D:=aD 1 1 (aA (pb (dY iQ (eC (.str " ")) (cM 3 [] (cI (aa 0)) (gT [gN 0,gN 1,gN 2]) cT (jZ [(e1 fN (aa 0)),(eC (.str ",")),(e1 fN (aa 1)),(eC (.str ",")),(e1 fN (aa 2))] χ))) (eC (.str "none"))))
def pW:List D->ae->Res D:=aD 1 1 (aM (cV (cu (aG sv (af (aa 0) ah)))) (mj "NoBook" (af (eC (.str "a book is laid pages without faults")) ah)) bH)
def yS:List D->ae->Res D:=aD 1 6 (aq (bc (aa 0) (gT [(gN 1),(gN 2),(gN 3),(gN 4)])) (aq (bc (uY (aW (e2 aX (aa 1) (eC (.str "made")))) (aG vz (af (aa 4) ah)) (eB qU (af (aa 4) ah))) (gN 5)) (aA (jZ [(e1 fN (aa 1)),(eC (.str " ")),(e1 fN (aa 2)),(eC (.str " ")),(e1 fN (aa 3)),(eC (.str " ")),(e1 fN (aa 5))] χ))))
def vE:List D->ae->Res D:=aD 1 1 (aq (cF (dM pW (af (aa 0) ah))) (aA (dY iQ (eC (.str "")) (cM 1 [] (cI (aa 0)) (gN 0) cT (e2 bh (aG yS (af (aa 0) ah)) (eC (.str "\n")))))))
def yN:List D->ae->Res D:=aD 1 1 (aM (cV (cu (aG se (af (aa 0) ah)))) (mj "NoMould" (af (eC (.str "a mould is a whole number from 0 to 3")) ah)) bH)
def yX:List D->ae->Res D:=aD 1 1 (aM (cV (cu (aG sD (af (aa 0) ah)))) (mj "NoDay" (af (eC (.str "a day is a whole number from 0 to 30")) ah)) bH)
def vU:List D->ae->Res D:=aD 3 3 (aq (cF (dM pW (af (aa 0) ah))) (aq (cF (dM yN (af (aa 1) ah))) (aq (cF (dM yX (af (aa 2) ah))) (aA (e2 ay (aG rQ (af (aa 0) (af (aa 1) ah))) (aa 2))))))
def rR:List D->ae->Res D:=aD 1 1 (aM (cV (cu (aG pX (af (aa 0) ah)))) (mj "NoSheet" (af (eC (.str "a sheet is a tuple of two marks, no mark in both")) ah)) bH)
def vF:List D->ae->Res D:=aD 1 3 (aq (bc (eNew ah) (gN 1)) (aq (lA (iK (af (eB cJ (af (aa 0) ah)) ah)) (gN 2) (aM (jh (cu (e2 ay (aa 0) (aa 2))) (jh (aW (e2 AF (aa 2) (eC (.int 0)))) (cu (e2 ay (aa 0) (e2 wU (aa 2) (eC (.int 1))))))) (oY (cZ (af (e2 ay (e2 ay (aa 1) (e1 qD (eC (.int 1)))) (eC (.int 0))) (af (aa 2) ah))) (aa 1) (e1 qD (eC (.int 1)))) (aM (cu (e2 ay (aa 0) (aa 2))) (cF (mB (aa 1) (cZ (af (aa 2) (af (aa 2) ah))))) bH))) (aA (oV (aa 1)))))
def wc:List D->ae->Res D:=aD 2 2 (aA (cO (aG rS (af (e2 ay (aa 0) (eC (.int (0)))) (af (e2 ay (aa 1) (eC (.int (1)))) ah))) (aG rS (af (e2 ay (aa 0) (eC (.int (1)))) (af (e2 ay (aa 1) (eC (.int (0)))) ah)))))
def rT:List D->ae->Res D:=aD 2 2 (aq (cF (dM pW (af (aa 0) ah))) (aq (cF (dM rR (af (aa 1) ah))) (aA (Dz 3 [1,0] (iK (af (eC (.int (4))) ah)) (gN 0) cT (cI (aG vF (af (cM 1 [3] (cI (aG rQ (af (aa 4) (af (aa 0) ah)))) (gN 0) cT (aG wc (af (aa 1) (af (aa 0) ah)))) ah))) (gT [gN 1,gN 2]) cT (cZ (af (aa 0) (af (aa 1) (af (aa 2) ah))))))))
def kP:List D->ae->Res D:=aD 2 2 (aq (aM (aW (e2 aX (e2 ay (aa 1) (eC (.int 0))) (eC (.str "surely")))) (aA (aG vz (af (dM vU (af (aa 0) (af (eB jL (af (e2 ay (aa 1) (eC (.int 1))) ah)) (af (eB jL (af (e2 ay (aa 1) (eC (.int 2))) ah)) ah)))) ah))) bH) (aq (aM (aW (e2 aX (e2 ay (aa 1) (eC (.int 0))) (eC (.str "where")))) (aA (aG yK (af (dM rT (af (aa 0) (af (aG sj (af (e2 ay (aa 1) (eC (.int 1))) ah)) ah))) ah))) bH) (aA (pb (dM vE (af (aa 0) ah)) (eC (.str "-"))))))
def vA:List D->ae->Res D:=aD 1 1 (aq (aM (aW (e2 aX (eB cJ (af (e1 (ip "Diary" "books") (aa 0)) ah)) (eC (.int 1)))) (mj "NoDeed" (af (eC (.str "no deed stands")) ah)) bH) (cF (e1 xN (e1 (ip "Diary" "books") (aa 0)))))
def nh:List D->ae->Res D:=aD 1 1 (aM (cV (cu (aG su (af (aa 0) ah)))) (mj "NoPage" (af (eC (.str "a page is a tuple of made or mended, a mould, a day, and a sheet or a mark")) ah)) bH)
def lZ:List D->ae->Res D:=aD 1 1 (aA (e2 ay (e1 (ip "Diary" "books") (aa 0)) (e1 qD (eC (.int 1)))))
def vB:List D->ae->Res D:=aD 2 2 (aq (aM (cV (cu (aG sv (af (aa 1) ah)))) (mj "Clash" (af (eC (.str "no book comes of this deed")) ah)) bH) (cF (mB (e1 (ip "Diary" "books") (aa 0)) (aa 1))))
def rN:List D->ae->Res D:=aD 2 3 (aq (cF (dM nh (af (aa 1) ah))) (aq (bc (eT "Diary" "book_now" lZ (aa 0) ah) (gN 2)) (aq (aM (aW (e2 fV (aa 1) (aa 2))) (mj "Clash" (af (eC (.str "the page isn't there")) ah)) bH) (cF (eT "Diary" "keep" vB (aa 0) (af (eB mf (af (cM 1 [1] (cI (aa 2)) (gN 0) (aW (e2 ee (aa 0) (aa 1))) (aa 0)) ah)) ah))))))
def oo:List D->ae->Res D:=aD 2 2 (aq (cF (dM nh (af (aa 1) ah))) (cF (eT "Diary" "keep" vB (aa 0) (af (eB mf (af (eB TK.wb (af (e2 bh (eT "Diary" "book_now" lZ (aa 0) ah) (cZ (af (aa 1) ah))) ah)) ah)) ah))))
def ifs:aeO Fl:=(aM (aW (e2 aX (e2 ay (aa 2) (eC (.int 0))) (eC (.str "undo")))) (cF (eT "Diary" "undo" vA (e1 (ip "Desk" "diary") (aa 0)) ah)) (aM (aW (e2 aX (e2 ay (aa 2) (eC (.int 0))) (eC (.str "out")))) (cF (eT "Diary" "strike" rN (e1 (ip "Desk" "diary") (aa 0)) (af (aG pZ (af (gr (aa 2) (cK (eC (.int 1))) fq) ah)) ah))) (aM (eU (aW (e2 aX (e2 ay (aa 2) (eC (.int 0))) (eC (.str "made")))) (aW (e2 aX (e2 ay (aa 2) (eC (.int 0))) (eC (.str "mended"))))) (cF (eT "Diary" "tell" oo (e1 (ip "Desk" "diary") (aa 0)) (af (aG pZ (af (aa 2) ah)) ah))) (aA (dM kP (af (eT "Diary" "book_now" lZ (e1 (ip "Desk" "diary") (aa 0)) ah) (af (aa 2) ah)))))))
def fU:List D->ae->Res D:=aD 2 3 (aq (bc (dM iN (af (aa 1) ah)) (gN 2)) (aq ifs (aA (eC (.str "ok")))))
def hX (cl:D) (th:ae->Res D):List D->ae->Res D:=aD 1 3 (oJ bU "told" (vd cl th 0) 1 (aq (bc (aG JP (af (aa 1) ah)) (gN 2)) (aq (aM (eU (cV (cu (e1 (ef bU anyS) (aa 1)))) (aW (e2 El (e1 Fv (aa 2)) (eC (.int 1))))) (aA (cZ (af (eC (.str "other")) (af (eC .ar) ah)))) bH) (aq (aM (cu (e2 ay (aa 2) (eC (.int 17)))) (aA (cZ (af (eC (.str "many")) (af Hf ah)))) bH) (aq (aM (cu (e2 ay (aa 2) (eC (.int 18)))) (aA (cZ (af (eC (.str "lacking")) (af Hf ah)))) bH) (aA (cZ (af (eC (.str "refused")) (af (e1 Ha (aa 2)) ah)))))))))
def j8:List D->ae->Res D:=aD 2 4 (aq (aM (cu (e2 ay (aa 0) (eC (.int 1)))) (aq (bc (e2 nI (e2 ay (aa 0) (eC (.int 0))) (aa 1)) (gN 2)) (aq (oY (e2 wW (e2 ay (aa 0) (eC (.int 0))) (aa 1)) (aa 0) (eC (.int 0))) (aA (aa 2)))) bH) (aq (oY (e2 nI (e2 bh (e2 jJ (e2 ay (aa 0) (eC (.int 0))) (eC (.int 48271))) (eC (.int 29))) (eC (.int 2147483647))) (aa 0) (eC (.int 0))) (aq (bc (e2 nI (e2 bh (e2 bh (e2 jJ (e2 ay (aa 0) (eC (.int 0))) (e2 ay (aa 0) (eC (.int 0)))) (e2 jJ (eC (.int 39373)) (e2 ay (aa 0) (eC (.int 0))))) (eC (.int 7))) (eC (.int 2147483629))) (gN 3)) (aq (bc (e2 nI (e2 bh (e2 jJ (aa 3) (aa 3)) (e2 jJ (eC (.int 16807)) (aa 3))) (eC (.int 2147483587))) (gN 3)) (aA (e2 nI (e2 wW (aa 3) (eC (.int 8))) (aa 1)))))))
def zg:List D->ae->Res D:=aD 2 9 (aq (bc (eC (.str " !\"#$&'()*+,-./0123456789:;<=>?@ABCDEFGHIJKLMNOPQRSTUVWXYZ[\\]^_`abcdefghijklmnopqrstuvwxyz{|}~\t\n")) (gN 2)) (aq (bc (e2 bh (aa 2) (e2 fK (eC (.str "0123456789 -/")) (eC (.int 2)))) (gN 2)) (aq (AI 3 4 5 (af (e2 ay (aa 2) (aG j8 (af (aa 0) (af (eB cJ (af (aa 2) ah)) ah)))) (af (aG j8 (af (aa 0) (af (e2 bh (eB cJ (af (aa 1) ah)) (eC (.int 1))) ah))) (af (aG j8 (af (aa 0) (af (eC (.int 8)) ah))) ah)))) (aq (bc (dY jc (aa 1) (eC (.str " "))) (gN 6)) (aq (bc (aG j8 (af (aa 0) (af (eB cJ (af (aa 6) ah)) ah))) (gN 7)) (aq (aM (aW (e2 kD (aa 5) (eC (.int 2)))) (aA (e2 bh (e2 bh (mH (aa 1) fq (cK (aa 4))) (aa 3)) (mH (aa 1) (cK (e2 bh (aa 4) (aa 5))) fq))) bH) (aq (aM (aW (e2 aX (aa 5) (eC (.int 2)))) (aA (e2 bh (mH (aa 1) fq (cK (aa 4))) (mH (aa 1) (cK (e2 bh (aa 4) (eC (.int 1)))) fq))) bH) (aq (aM (aW (e2 aX (aa 5) (eC (.int 3)))) (aA (e2 bh (e2 bh (mH (aa 1) fq (cK (aa 4))) (e1 xI (mH (aa 1) (cK (aa 4)) (cK (e2 bh (aa 4) (eC (.int 2))))))) (mH (aa 1) (cK (e2 bh (aa 4) (eC (.int 2)))) fq))) bH) (aq (aM (aW (e2 aX (aa 5) (eC (.int 4)))) (aA (dY iQ (eC (.str " ")) (e2 bh (gr (aa 6) fq (cK (aa 7))) (gr (aa 6) (cK (e2 bh (aa 7) (eC (.int 1)))) fq)))) bH) (aq (aM (aW (e2 aX (aa 5) (eC (.int 5)))) (aA (dY iQ (eC (.str " ")) (e2 bh (e2 bh (gr (aa 6) fq (cK (aa 7))) (gr (aa 6) (cK (aa 7)) (cK (e2 bh (aa 7) (eC (.int 1)))))) (gr (aa 6) (cK (aa 7)) fq)))) bH) (aq (aM (aW (e2 aX (aa 5) (eC (.int 6)))) (aq (bc (fe (af (e2 fK (eC (.str "9")) (eC (.int 30))) (af (e2 bh (eC (.str "1")) (e2 fK (eC (.str "0")) (eC (.int 30)))) (af (eC (.str "-0")) (af (eC (.str "07")) (af (eC (.str "+1")) (af (eC (.str "")) (af (eC (.str "-")) (af (eC (.str "0/1")) (af (eC (.str "0/")) (af (eC (.str "/")) (af (eC (.str "0/1/2")) ah)))))))))))) (gN 8)) (aq (bc (e2 bh (aa 8) (fe (af (e2 bh (e2 fK (eC (.str "7")) (eC (.int 31))) (eC (.str "/-"))) (af (e2 bh (eC (.str "-/")) (e2 fK (eC (.str "0")) (eC (.int 30)))) ah)))) (gN 8)) (aA (dY iQ (eC (.str " ")) (e2 bh (e2 bh (gr (aa 6) fq (cK (aa 7))) (fe (af (e2 ay (aa 8) (aG j8 (af (aa 0) (af (eC (.int 13)) ah)))) ah))) (gr (aa 6) (cK (e2 bh (aa 7) (eC (.int 1)))) fq)))))) bH) (aA (e2 ay (fe (af (e2 bh (aa 1) (eC (.str " 1"))) (af (e2 bh (eC (.str " ")) (aa 1)) (af (e2 bh (aa 1) (eC (.str " "))) (af (e2 bh (aa 1) (eC (.str "\n"))) (af (e1 Bf (aa 1)) (af (eC (.str "")) (af (eC (.str "out")) (af (e2 bh (eC (.str "out ")) (aa 1)) ah))))))))) (aG j8 (af (aa 0) (af (eC (.int 8)) ah))))))))))))))))
def yT:List D->ae->Res D:=aD 1 2 (aq (bc (eC (.lst [.str "made 0 3 01/2",.str "made 1 30 -/-",.str "mended 0 4 1",.str "out made 0 1 0/1",.str "out mended 0 2 0",.str "undo",.str "book"])) (gN 1)) (aq (bc (e2 bh (aa 1) (fe (af (eC (.str "surely 0 2")) (af (eC (.str "surely 3 30")) (af (eC (.str "where 0/-")) (af (eC (.str "where -/1")) (af (eC (.str "made 2 0 -/07")) (af (eC (.str "out made 0 1 -/-")) ah)))))))) (gN 1)) (aA (e2 ay (aa 1) (aG j8 (af (aa 0) (af (eC (.int 13)) ah)))))))
def yY:List D->ae->Res D:=aD 1 1 (aA (cO (pL lB lB (eC (.int 1)) (eB cJ (af (aa 0) ah)) (eC (.int 30))) (e2 aX (cM 1 [] (tU (aa 0)) (gN 0) (aW (e2 ze (aa 0) (eC (.str "0123456789")))) (aa 0)) (fe ah))))
def yU:List D->ae->Res D:=aD 1 2 (aq (bc (dY jc (aa 0) (eC (.str "/"))) (gN 1)) (aA (cO (e2 aX (eB cJ (af (aa 1) ah)) (eC (.int 2))) (e2 fV (eC (.bl ύ)) (cM 1 [] (cI (aa 1)) (gN 0) cT (lT (e2 aX (aa 0) (eC (.str "-"))) (aG yY (af (aa 0) ah))))))))
def l0:List D->ae->Res D:=aD 1 1 (aA (cO (aG yY (af (aa 0) ah)) (lT (e2 ee (e2 ay (aa 0) (eC (.int 0))) (eC (.str "0"))) (e2 aX (aa 0) (eC (.str "0"))))))
def Hk:aeO Fl:=(aq (aM (eU (aW (e2 ee (eB cJ (af (aa 1) ah)) (eC (.int 4)))) (eU (cV (cu (aG l0 (af (e2 ay (aa 1) (eC (.int 1))) ah)))) (cV (cu (aG l0 (af (e2 ay (aa 1) (eC (.int 2))) ah)))))) (aA (eC (.bl ύ))) bH) (aA (uY (aW (e2 aX (e2 ay (aa 1) (eC (.int 0))) (eC (.str "made")))) (aG yU (af (e2 ay (aa 1) (eC (.int 3))) ah)) (aG l0 (af (e2 ay (aa 1) (eC (.int 3))) ah)))))
def y0:List D->ae->Res D:=aD 1 2 (aq (bc (dY jc (aa 0) (eC (.str " "))) (gN 1)) (aq (aM (aW (e2 aX (e2 ay (aa 1) (eC (.int 0))) (eC (.str "out")))) (aq (bc (gr (aa 1) (cK (eC (.int 1))) fq) (gN 1)) (aM (eU (aW (e2 aX (aa 1) (fe ah))) (aW (e2 fV (e2 ay (aa 1) (eC (.int 0))) (cZ (af (eC (.str "made")) (af (eC (.str "mended")) ah)))))) (aA (eC (.bl ύ))) bH)) bH) (aq (aM (aW (e2 ff (e2 ay (aa 1) (eC (.int 0))) (cZ (af (eC (.str "made")) (af (eC (.str "mended")) ah))))) Hk bH) (aq (aM (aW (e2 aX (e2 ay (aa 1) (eC (.int 0))) (eC (.str "surely")))) (aA (cO (e2 aX (eB cJ (af (aa 1) ah)) (eC (.int 3))) (cO (aG l0 (af (e2 ay (aa 1) (eC (.int 1))) ah)) (aG l0 (af (e2 ay (aa 1) (eC (.int 2))) ah))))) bH) (aq (aM (aW (e2 aX (e2 ay (aa 1) (eC (.int 0))) (eC (.str "where")))) (aA (cO (e2 aX (eB cJ (af (aa 1) ah)) (eC (.int 2))) (aG yU (af (e2 ay (aa 1) (eC (.int 1))) ah)))) bH) (aA (e2 ff (aa 0) (cZ (af (eC (.str "undo")) (af (eC (.str "book")) ah))))))))))
def vC:List D->ae->Res D:=aD 1 1 (qH "Diary" "books" (eNew (af (cZ ah) ah)) (aa 0))
def rV:List D->ae->Res D:=aD 1 1 (qH "Desk" "diary" (oM "Diary" vC) (aa 0))
def DH:aeO Fl:=(cF (oC "Desk" "say" fU (aa 3) (af (aa 5) ah)))
def Ey:aeO Fl:=(aq (aM (eU (aW (e2 ee (e2 aX (aa 8) (cZ (af (eC (.str "refused")) (af (eC (.int 16)) ah)))) (uj (aG y0 (af (aa 5) ah))))) (aW (e2 aX (e2 ay (aa 8) (eC (.int 0))) (eC (.str "other"))))) (aA (eC (.bl ύ))) bH) (aM (jh (aW (e2 ee (e2 ay (aa 8) (eC (.int 0))) (eC (.str "told")))) (aW (e2 ee (oC "Desk" "say" fU (aa 3) (af (eC (.str "book")) ah)) (aa 7)))) (aA (eC (.bl ύ))) bH))
def DJ:aeO Fl:=(aq (bc (cZ (af (aG zg (af (aa 2) (af (aG yT (af (aa 2) ah)) ah))) (af (oC "Desk" "say" fU (aa 3) (af (eC (.str "book")) ah)) ah))) (gT [(gN 5),(gN 7)])) (aq (bc (mG "law" [5,3] (eT "Desk" "say" fU (aa 1) (af (aa 0) ah)) hX) (gN 8)) Ey))
def DK:aeO Fl:=(aM (aW (e2 ee (mG "law" [9,3] (eT "Desk" "say" fU (aa 1) (af (aa 0) ah)) hX) (cZ (af (eC (.str "refused")) (af (eC (.int 16)) ah))))) (aA (eC (.bl ύ))) bH)
def DL:aeO Fl:=(aq (bc (aG zf (af (aa 0) (af (aa 1) ah))) (gN 2)) (aq (bc (cZ (af (oM "Desk" rV) (af (oM "Desk" rV) ah))) (gT [(gN 3),(gN 4)])) (aq (lA (cI (fe (af (eC (.str "made 0 1 0/1")) (af (eC (.str "mended 0 2 0")) (af (eC (.str "made 0 3 1/0")) ah))))) (gN 5) DH) (aq (lA (iK (af (eC (.int 20)) ah)) (gN 6) DJ) (aq (lA (cI (fe (af (eC .ar) (af (eC (.int 0)) (af (fe (af (eC (.str "book")) ah)) (af (cZ (af (eC (.str "book")) ah)) (af (eC (.bl ό)) (af (eC (.cx [])) ah)))))))) (gN 9) DK) (aM (aW (e2 ee (oC "Desk" "say" fU (aa 4) (af (eC (.str "book")) ah)) (eC (.str "-")))) (aA (eC (.bl ύ))) bH))))))
def Ak:List D->ae->Res D:=aD 1 10 (aq (lA (iK (af (eB wZ (af (eC (.int 1)) (af (eB w9 (af (eB cJ (af (aa 0) ah)) (af (eC (.int 2)) ah))) ah))) ah)) (gN 1) DL) (aA (eC (.bl ό))))
end
end DI.cE
namespace DI
open PySem L2
def Wp {α:Type} (r:Res α) (Q:α->ae->Prop):Prop:=∃a s,r=ϊ (.ok a,s)/\Q a s
section
variable {α β:Type} {r:Res α} {k:α->ae->Res β} {Q Q':α->ae->Prop} {R:β->ae->Prop} {env:Env} {s:ae}
theorem Wp.ok {a:α} (h:Q a s):Wp (DI.ok a s) Q:=⟨a,s,rfl,h⟩
def Wp.mono (h:Wp r Q) (i:∀a s,Q a s->Q' a s):Wp r Q':=by
 obtain⟨a,s,e,q⟩:=h;exact⟨a,s,e,i a s q⟩
theorem Wp.ai (h:Wp r λa s=>Wp (k a s) R):Wp (DI.ai r k) R:=by
 obtain⟨a,s,e,b,Z,Y,q⟩:=h;exact⟨b,Z,by rw[e];exact Y,q⟩
theorem Wp.ne (h:Wp r Q):Wp (DI.ne r) Q:=by
 obtain⟨a,s,e,q⟩:=h;exact⟨a,s,by rw[e];rfl,q⟩
def aeP (e:r=ϊ (.ok a,s)) (h:Q a s):Wp r Q:=⟨a,s,e,h⟩
def Wp.seq {f g:aeO Fl} {Q:Fl->ae->Prop} (h:Wp (f env s) λfl s=>match fl with
  | .nx env=>Wp (g env s) Q
  |fl=>Q fl s):Wp (aq f g env s) Q:=by
 obtain⟨fl,Z,e,h⟩:=h;delta aq;rw[e]
 cases fl with
 |nx env=>exact h
 |rt d=>exact⟨_,_,rfl,h⟩
 |bk e=>exact⟨_,_,rfl,h⟩
 |ct e=>exact⟨_,_,rfl,h⟩
def Wp.qV {Q:Fl->ae->Prop} (I:Nat->Env->ae->Prop) (all:List D) (h0:I 0 env s)
 (step:∀i d env s,all[i]?=ϊ d->I i env s->∃env',g d env=ϊ env'/\Wp (b env' s) λfl s=>match fl with
   | .nx e=>I (i+1) e s
   | .ct e=>I (i+1) e s
   | .bk e=>Q (.nx e) s
   | .rt d=>Q (.rt d) s) (fin:∀env s,I all.length env s->Q (.nx env) s):Wp (mv g b all env s) Q:=by
 have key:∀(Z:List D) (i:Nat) (env:Env) (s:ae),all.drop i=Z->i<=all.length->I i env s->Wp (mv g b Z env s) Q:=by
  intro Z
  induction Z with
  |nil =>
   intro i env s Y U h;have e:i=all.length:=by
    have:=Ń List.length Y;simp at this;omega
   subst e;exact Wp.ok (fin _ _ h)
  |cons d Z ih =>
   intro i env s Y U h;have X:all[i]?=ϊ d:=by
    have:=Ń (λl=>l[0]?) Y;simpa using this
   have W:all.drop (i+1)=Z:=by
    have:=Ń (List.drop 1) Y;simpa [List.drop_drop] using this
   obtain⟨env',T,S⟩:=step i d env s X h;have V:=(Ô.mp X).1;delta mv;rw[T];refine Wp.ai (S.mono λfl s q=>?_)
   cases fl with
   |nx e=>exact ih (i+1) e s W V q
   |ct e=>exact ih (i+1) e s W V q
   |bk e=>exact Wp.ok q
   |rt d=>exact Wp.ok q
 exact key all 0 env s rfl (Ē _) h0
def Xz {nt:Nat} {t:aeO Bool} {Q:List D->ae->Prop} (I:Nat->List D->ae->Prop) (all:List D) (h0:I 0 [] s)
 (step:∀i d acc s,all[i]?=ϊ d->I i acc s->∃env,g d (Ö nt ϋ++caps)=ϊ env/\Wp (t env s) λb s=>if b=ό then Wp (f env s) λx s=>I (i+1) (acc++[x]) s else I (i+1) acc s)
 (fin:∀acc s,I all.length acc s->Q acc s):Wp (iE nt caps g t f all s) Q:=by
 have key:∀(Z:List D) (i:Nat) (acc:List D) (s:ae),all.drop i=Z->i<=all.length->I i acc s->Wp (iE nt caps g t f Z s) λX s=>Q (acc++X) s:=by
  intro Z
  induction Z with
  |nil =>
   intro i acc s Y S h;have e:i=all.length:=by
    have:=Ń List.length Y;simp at this;omega
   subst e;exact Wp.ok (by rw[Ħ];exact fin _ _ h)
  |cons d Z ih =>
   intro i acc s Y S h;have W:all[i]?=ϊ d:=by
    have:=Ń (λl=>l[0]?) Y;simpa using this
   have V:all.drop (i+1)=Z:=by
    have:=Ń (List.drop 1) Y;simpa [List.drop_drop] using this
   obtain⟨U,R,P⟩:=step i d acc s W h;have T:=(Ô.mp W).1;delta iE;rw[R];refine Wp.ai (Wp.ne (P.mono λb s q=>?_))
   cases b with
   |true =>
    rw[Ñ rfl] at q |-;refine Wp.ai (Wp.ne (q.mono λx s q=>?_));refine Wp.ai ((ih (i+1) (acc++[x]) s V T q).mono λX s q=>Wp.ok ?_);rw[Ĳ] at q;exact q
   |false =>
    rw[Ú Ä] at q |-;exact ih (i+1) acc s V T q
 have:=key all 0 [] s rfl (Ē _) h0;simpa using this
end
section
variable {α β:Type} {Q:D->ae->Prop} {QL:List D->ae->Prop} {QB:Bool->ae->Prop} {QF:Fl->ae->Prop} {QO:Option Int->ae->Prop} {env:Env} {s:ae} {f g h:aeO D} {fa:aeO (List D)} {c c':aeO Bool} {st cf:aeO Fl} {o o':D->D->ae->Res D} {u:D->ae->Res D} {bf:List D->ae->Res D}
def bF {a:α} {Q:α->ae->Prop}:Wp (ok a s) Q=Q a s:=propext ⟨λ⟨b,Z,e,q⟩=>by cases e;exact q,λq=>⟨a,s,rfl,q⟩⟩
def ZF {Q:α->ae->Prop}:Wp (ϊ (Except.ok a,s)) Q=Q a s:=bF
def bP {r:Res α} {k:α->ae->Res β} {R:β->ae->Prop}:Wp (ai r k) R=Wp r λa s=>Wp (k a s) R:=propext ⟨λ⟨b,Z,e,q⟩=>by
 obtain⟨a,s,e1,e2⟩:=sA e;exact⟨a,s,e1,b,Z,e2,q⟩,λh=>Wp.ai h⟩
def Al {Q:α->ae->Prop}:Wp (ne r) Q=Wp r Q:=propext ⟨λ⟨b,Z,e,q⟩=>⟨b,Z,CP e,q⟩,λh=>h.ne⟩
def aR {a:D} {r:Env}:Wp (aa 0 (ϊ a::r) s) Q=Q a s:=by rw[show aa 0 (ϊ a::r) s=ok a s from rfl,bF]
def bx {i:Nat} {a:Option D} {r:Env}:Wp (aa (i+1) (a::r) s) Q=Wp (aa i r s) Q:=by rw[show aa (i+1) (a::r) s=aa i r s from rfl]
def bA:Wp (eC d env s) Q=Q d s:=by rw[show eC d env s=ok d s from rfl,bF]
def oO:Wp (e1 u f env s) Q=Wp (f env s) λx s=>Wp (u x s) Q:=by delta e1;rw[bP]
def bj:Wp (e2 o f g env s) Q=Wp (f env s) λx s=>Wp (g env s) λy s=>Wp (o x y s) Q:=by delta e2;erw[bP]
def aP:Wp (ah env s) QL=QL [] s:=by delta ah;rw[bF]
def aL:Wp (af f fa env s) QL=Wp (f env s) λx s=>Wp (fa env s) λxs s=>QL (x::xs) s:=by delta af;erw[bP,bF]
def de:Wp (eB bf fa env s) Q=Wp (fa env s) λds s=>Wp (bf ds s) Q:=by delta eB;rw[bP]
def wp_call:Wp (aG fn fa env s) Q=Wp (fa env s) λds s=>Wp (fn ds s) Q:=by delta aG;erw[bP,Al]
def vV {Q:α->ae->Prop}:Wp (jg ds r) Q=(ds.length<=Õ/\Wp r Q):=propext ⟨λ⟨b,Z,e,q⟩=>by
 delta jg at e;split at e
 ·exact⟨by assumption,b,Z,e,q⟩
 ·(cases e),λ⟨Y,b,Z,e,q⟩=>⟨b,Z,by delta jg;rw[Ñ Y];exact e,q⟩⟩
def iF:Wp (cZ fa env s) Q=Wp (fa env s) λds s=>ds.length<=Õ/\Q (.tup ds) s:=by delta cZ;erw[bP,vV,bF]
def ke:Wp (fe fa env s) Q=Wp (fa env s) λds s=>ds.length<=Õ/\Q (.lst ds) s:=by delta fe;erw[bP,vV,bF]
def DM:Wp (eNew fa env s) Q=Wp (fa env s) λds s=>ds.length<=Õ/\Q (.aj s.length) (s++[.lst ds]):=by delta eNew;erw[bP,vV,bF]
def Nd:Wp (oV f env s) Q=Wp (f env s) λd s=>Wp (bo d s) Q:=by delta oV;rw[bP]
def eO:Wp (aW f env s) QB=Wp (f env s) λd s=>Wp (iU d s) QB:=by delta aW;rw[bP]
def cC {b:Bool}:Wp (iU (.bl b) s) QB=QB b s:=by rw[show iU (.bl b) s=ok b s from rfl,bF]
def qr:Wp (cu f env s) QB=Wp (f env s) λd s=>Wp (truth d s) QB:=by delta cu;rw[bP]
def kU {b:Bool}:Wp (truth (.bl b) s) QB=QB b s:=by rw[show truth (.bl b) s=ok b s from rfl,bF]
def CY:Wp (jh c c' env s) QB=Wp (c env s) λb s=>if b=ό then Wp (c' env s) QB else QB ύ s:=by
 delta jh;rw[bP];congr 1;funext b s
 cases b<;>simp[bF]
def kf:Wp (eU c c' env s) QB=Wp (c env s) λb s=>if b=ό then QB ό s else Wp (c' env s) QB:=by
 delta eU;rw[bP];congr 1;funext b s
 cases b<;>simp[bF]
def we:Wp (cV c env s) QB=Wp (c env s) λb s=>QB (!b) s:=by delta cV;erw[bP,bF]
def kW:Wp (cO f g env s) Q=Wp (f env s) λx s=>Wp (iU x s) λb s=>if b=ό then Wp (g env s) Q else Q (.bl ύ) s:=by
 delta cO;rw[bP];congr 1;funext x s;rw[bP];congr 1;funext b s
 cases b<;>simp[bF]
def DN:Wp (lT f g env s) Q=Wp (f env s) λx s=>Wp (iU x s) λb s=>if b=ό then Q (.bl ό) s else Wp (g env s) Q:=by
 delta lT;rw[bP];congr 1;funext x s;rw[bP];congr 1;funext b s
 cases b<;>simp[bF]
def L4:Wp (uj f env s) Q=Wp (f env s) λx s=>Wp (iU x s) λb s=>Q (.bl (!b)) s:=by delta uj;erw[bP,bF]
def sY:Wp (uY c f g env s) Q=Wp (c env s) λb s=>if b=ό then Wp (f env s) Q else Wp (g env s) Q:=by
 delta uY;rw[bP];congr 1;funext b s
 cases b<;>simp
def Nf:Wp (pL o o' f g h env s) Q=Wp (f env s) λx s=>Wp (g env s) λy s=>Wp (o x y s) λz s=>Wp (iU z s) λb s=>if b=ό then Wp (h env s) λu s=>Wp (o' y u s) Q else Q (.bl ύ) s:=by
 delta pL;erw[bP];congr 1;funext x s;congr 1;funext y s;congr 1;funext z s;congr 1;funext b s
 cases b<;>simp[bF,bP]
def dF:Wp (bH env s) QF=QF (.nx env) s:=by delta bH;rw[bF]
def bW:Wp (aA f env s) QF=Wp (f env s) λd s=>QF (.rt d) s:=by delta aA;erw[bP,bF]
def p6:Wp (cF f env s) QF=Wp (f env s) λ_ s=>QF (.nx env) s:=by delta cF;erw[bP,bF]
def VY:Wp (NQ env s) QF=QF (.ct env) s:=by delta NQ;rw[bF]
def fG (st:aeO Fl) (Q:Fl->ae->Prop):Fl->ae->Prop:=λfl s=>match fl with
 | .nx env=>Wp (st env s) Q
 |fl=>Q fl s
def ow:Wp (aq st cf env s) QF=Wp (st env s) (fG cf QF):=propext ⟨λh=>by
 delta aq at h;rw[bP] at h;refine h.mono λZ s q=>?_
 cases Z with
 |nx e=>exact q
 |rt d=>have q:Wp (ok (Fl.rt d) s) QF:=q;rw[bF] at q;exact q
 |bk d=>have q:Wp (ok (Fl.bk d) s) QF:=q;rw[bF] at q;exact q
 |ct d=>have q:Wp (ok (Fl.ct d) s) QF:=q;rw[bF] at q;exact q,λh=>Wp.seq (h.mono λZ s q=>by cases Z<;>exact q)⟩
def aeR (h:∀R,R=cf->Wp (st env s) (fG R QF)):Wp (aq st cf env s) QF:=by rw[ow];exact h _ rfl
def bz:fG st QF (.nx env) s=Wp (st env s) QF:=rfl
def kg:fG st QF (.rt d) s=QF (.rt d) s:=rfl
def ZG:fG st QF (.ct env) s=QF (.ct env) s:=rfl
def oF:Wp (aM c st cf env s) QF=Wp (c env s) λb s=>if b=ό then Wp (st env s) QF else Wp (cf env s) QF:=by
 delta aM;rw[bP];congr 1;funext b s
 cases b<;>simp
def eI {gd:D->Env->Option Env}:Wp (bc f gd env s) QF=Wp (f env s) λd s=>∃e,gd d env=ϊ e/\QF (.nx e) s:=by
 delta bc;rw[bP];congr 1;funext d s
 cases h:gd d env with
 |none=>exact propext ⟨λ⟨_,_,e,_⟩=>(by cases e),λ⟨_,e,_⟩=>(by cases e)⟩
 |some e=>rw[bF];exact propext ⟨λq=>⟨e,rfl,q⟩,λ⟨Z,z,q⟩=>by cases z;exact q⟩
def gj {i:Nat} {P:Env->Prop}:(∃e,gN i d env=ϊ e/\P e)=P (env.set i (ϊ d)):=propext ⟨λ⟨e,z,q⟩=>by cases z;exact q,λq=>⟨_,rfl,q⟩⟩
def abk {P:Env->Prop}:(∃e,gT gs (.tup ds) env=ϊ e/\P e)=∃e,gS gs ds env=ϊ e/\P e:=rfl
def XA {P:Env->Prop}:(∃e,gS [] [] env=ϊ e/\P e)=P env:=propext ⟨λ⟨e,z,q⟩=>by cases z;exact q,λq=>⟨_,rfl,q⟩⟩
def VZ {i:Nat} {P:Env->Prop}:(∃e,gS (gN i::gs) (d::ds) env=ϊ e/\P e)=∃e,gS gs ds (env.set i (ϊ d))=ϊ e/\P e:=rfl
def L5 {i j:Nat}:Wp (xE i j fa env s) QF=Wp (fa env s) λds s=>∃x y,ds=[x,y]/\QF (.nx ((env.set i (ϊ x)).set j (ϊ y))) s:=by
 delta xE;rw[bP];congr 1;funext ds s
 match ds with
 | [x,y] =>
  show Wp (ok (Fl.nx ((env.set i (ϊ x)).set j (ϊ y))) s) QF=_;rw[bF];exact propext ⟨λq=>⟨x,y,rfl,q⟩,λ⟨Z,Y,e,q⟩=>by cases e;exact q⟩
 | []=>exact propext ⟨λ⟨_,_,e,_⟩=>(by cases e),λ⟨_,_,e,_⟩=>(by cases e)⟩
 | [_]=>exact propext ⟨λ⟨_,_,e,_⟩=>(by cases e),λ⟨_,_,e,_⟩=>(by cases e)⟩
 |_::_::_::_=>exact propext ⟨λ⟨_,_,e,_⟩=>(by cases e),λ⟨_,_,e,_⟩=>(by cases e)⟩
def ZH {P:D->D->Prop}:(∃x' y',[x,y]=[x',y']/\P x' y')=P x y:=propext ⟨λ⟨_,_,e,q⟩=>by cases e;exact q,λq=>⟨x,y,rfl,q⟩⟩
def sP:Wp (lA it gd st env s) QF=Wp (it env s) λds s=>Wp (mv gd st ds env s) QF:=by delta lA;rw[bP]
def L6 {fo fi:aeO D}:Wp (oY f fo fi env s) QF=Wp (f env s) λx s=>Wp (fo env s) λd s=>Wp (fi env s) λn s=>∃s',mC d n x s=ϊ s'/\QF (.nx env) s':=by
 delta oY;erw[bP];congr 1;funext x s;congr 1;funext d s;congr 1;funext n s
 cases h:mC d n x s with
 |none=>exact propext ⟨λ⟨_,_,e,_⟩=>(by cases e),λ⟨_,e,_⟩=>(by cases e)⟩
 |some e=>erw[bF];exact propext ⟨λq=>⟨e,rfl,q⟩,λ⟨Z,z,q⟩=>by cases z;exact q⟩
def Ng:Wp (mB f g env s) Q=Wp (f env s) λd s=>lG d s=ό/\Wp (g env s) λx s=>Wp (lF d x s) Q:=by
 delta mB;rw[bP];congr 1;funext d s
 cases h:lG d s with
 |true=>rw[Ñ rfl,bP];simp
 |false=>rw[Ú Ä];exact propext ⟨λ⟨_,_,e,_⟩=>(by cases e),λ⟨e,_⟩=>(by cases e)⟩
def pd (Q:D->ae->Prop):Fl->ae->Prop:=λZ s=>match Z with
 | .rt d=>Q d s
 | .nx _=>Q .ar s
 |_=>False
def dP:Wp (aD np ns st ds s) Q=(ds.length=np/\Wp (st (ds.map ϊ++Ö (ns-np) ϋ) s) (pd Q)):=by
 delta aD;by_cases h:ds.length=np
 ·rw[Ñ h,bP]
  refine propext ⟨λq=>⟨h,q.mono λZ s q=>?_⟩,λ⟨_,q⟩=>q.mono λZ s q=>?_⟩
  ·cases Z with
   |rt d=>exact(show Wp (ok d s) Q from q) |> λz=>by rw[bF] at z;exact z
   |nx e=>exact(show Wp (ok D.ar s) Q from q) |> λz=>by rw[bF] at z;exact z
   |bk e=>obtain⟨_,_,e,_⟩:=q;cases e
   |ct e=>obtain⟨_,_,e,_⟩:=q;cases e
  ·cases Z with
   |rt d=>exact Wp.ok q
   |nx e=>exact Wp.ok q
   |bk e=>exact q.elim
   |ct e=>exact q.elim
 ·rw[Ú h]
  exact propext ⟨λ⟨_,_,e,_⟩=>(by cases e),λ⟨e,_⟩=>absurd e h⟩
def jF:pd Q (.rt d) s=Q d s:=rfl
def ZI:pd Q (.nx env) s=Q .ar s:=rfl
def jC:Wp (cM nt cap it gd c f env s) Q=Wp (it env s) λds s=>ds.length<=Õ/\Wp (iE nt (iP cap env) gd c f ds s) λxs s=>Q (.lst xs) s:=by
 delta cM;erw[bP,vV,bF]
def Am:Wp (gr f l' h' env s) Q=Wp (f env s) λd s=>Wp (l' env s) λlo s=>Wp (h' env s) λhi s=>Wp (qp d lo hi s) Q:=by delta gr;erw[bP]
def zQ:Wp (fq env s) QO=QO ϋ s:=by delta fq;rw[bF]
def L7 {i:Int} (hi:f env s=ok (.int i) s):Wp (cK f env s) QO=QO (ϊ i) s:=by delta cK;rw[hi,bV,bF]
end
open DI.cE
def XB {cl:D} {th:ae->Res D} {r:Env} {s:ae}:vd cl th 0 (ϊ cl::r) s=th s:=Ñ rfl
def Of (b:aeO Fl) (cl:D) (r:Res D) (s:ae):Res D:=ai (oJ bU "told" (λ_ _=>r) 1 b [ϊ cl,ϋ,ϋ] s) λZ s=>match Z with
 | .rt d=>ok d s
 | .nx _=>ok .ar s
 |_=>ϋ
def sQ {cl:D} {th:ae->Res D} {s:ae} {b:aeO Fl}:aD 1 3 (oJ bU "told" (vd cl th 0) 1 b) [cl] s=Of b cl (th s) s:=by
 show ai (oJ bU "told" (vd cl th 0) 1 b [ϊ cl,ϋ,ϋ] s) _=_;delta oJ;rw[XB];rfl
def DO {cl d:D} {th:ae->Res D} {s s':ae} (h:th s=ϊ (.ok d,s')):hX cl th [cl] s=ok (.tup [.str "told",d]) s':=by
 delta hX;rw[sQ,h];rfl
def eJ {cl:D} {th:ae->Res D} {s s':ae} {m:Option Int} {c:Str} {n:Int} (hc:c="NoMould"/\n=4\/c="NoDay"/\n=5\/c="NoSheet"/\n=1\/c="NoPage"/\n=2\/c="NoBook"/\n=3\/c="NoRow"/\n=16\/c="NoDeed"/\n=14\/c="Clash"/\n=13) (h:th s=ϊ (.error ⟨c,m⟩,s')):hX cl th [cl] s=ok (.tup [.str "refused",.int n]) s':=by
 rcases hc with ⟨rfl,rfl⟩ | ⟨rfl,rfl⟩ | ⟨rfl,rfl⟩ | ⟨rfl,rfl⟩ | ⟨rfl,rfl⟩ | ⟨rfl,rfl⟩ | ⟨rfl,rfl⟩ | ⟨rfl,rfl⟩
 all_goals (delta hX;rw[sQ,h];kernel_rfl)
def Ld (cl:D) (th:ae->Res D) (s:ae):hX cl th [cl] s=hX .ar th [.ar] s:=by
 cases h:th s with
 |none=>delta hX;rw[sQ,sQ,h];rfl
 |some q =>
  obtain⟨q,Y⟩:=q
  cases q with
  |ok d=>rw[DO h,DO h]
  |error x =>
   obtain⟨c,m⟩:=x;by_cases Z:ώ (c∈bU)=ό
   ·rw[Ë] at Z
    have e1:c="NoMould"\/c="NoDay"\/c="NoSheet"\/c="NoPage"\/c="NoBook"\/c="NoRow"\/c="NoDeed"\/c="Clash":=by simpa [bU] using Z
    rcases e1 with rfl|rfl|rfl|rfl|rfl|rfl|rfl|rfl
    ·rw[eJ (n:=4) ∅ h,eJ (n:=4) ∅ h]
    ·rw[eJ (n:=5) ∅ h,eJ (n:=5) ∅ h]
    ·rw[eJ (n:=1) ∅ h,eJ (n:=1) ∅ h]
    ·rw[eJ (n:=2) ∅ h,eJ (n:=2) ∅ h]
    ·rw[eJ (n:=3) ∅ h,eJ (n:=3) ∅ h]
    ·rw[eJ (n:=16) ∅ h,eJ (n:=16) ∅ h]
    ·rw[eJ (n:=14) ∅ h,eJ (n:=14) ∅ h]
    ·rw[eJ (n:=13) ∅ h,eJ (n:=13) ∅ h]
   ·delta hX
    rw[sQ,sQ,h];delta Of oJ;dsimp only;rw[Ú Z,Ú Z]
end DI
namespace DI.cE
open PySem L2 DI
def top (i:Nat):aeg:=PySem.Challenge.pw_twinmoulds_k52_rows_of_a_desk_refused.main.body.getD i (.Pass ⟨0,0,0,0⟩)
def eY (c:aeg) (j:Nat):aeg:=match c with
 | .ClassDef _ _ _ b _ _ _ _ _ _ _=>b.getD j (.Pass ⟨0,0,0,0⟩)
 |_=>.Pass ⟨0,0,0,0⟩
abbrev xP:List Str:=[aeU,"_law_k"]
abbrev O6:List Str:=["_law_e"]
abbrev jP:List Str:=["word"]
abbrev uB:List Str:=["words"]
abbrev Fy:List Str:=["row"]
abbrev Fz:List Str:=["marks"]
abbrev O7:List Str:=["sheet"]
abbrev FA:List Str:=["places"]
abbrev FC:List Str:=["things"]
abbrev cz:List Str:=["thing"]
abbrev Ez:List Str:=["thing","many"]
abbrev EA:List Str:=["marks","others"]
abbrev EB:List Str:=["pages","mould","mark","half"]
abbrev xk:List Str:=["pages","mould","mark"]
abbrev EC:List Str:=["days","day","later"]
abbrev ED:List Str:=["pages"]
abbrev Og:List Str:=["page"]
abbrev EE:List Str:=["book"]
abbrev An:List Str:=["book","mould","mark"]
abbrev EF:List Str:=["days_by_mark","day"]
abbrev Oh:List Str:=["book","mould"]
abbrev EG:List Str:=["book","mould","day"]
abbrev Oi:List Str:=["holds"]
abbrev EH:List Str:=["sheet","sure"]
abbrev EI:List Str:=["book","sheet"]
abbrev EJ:List Str:=["book","words"]
abbrev ko:List Str:=["self"]
abbrev EK:List Str:=["self","pages"]
abbrev xl:List Str:=["self","page"]
abbrev Oj:List Str:=["self","row"]
abbrev Ol:List Str:=["_law_call"]
abbrev Om:List Str:=[aeV,"_law_many"]
abbrev Oo:List Str:=[aeV,aeW]
abbrev Oq:List Str:=[aeV]
abbrev oQ:List Str:=[aeX]
abbrev Ot:List Str:=[aeW]
abbrev Ou:List Str:=[aeU]
structure bq (K:đ) (mg:Str->Option Ç):Prop where
 QP:mg "ValueError"=ϋ
 sZ:mg "all"=ϋ
 Nh:mg "any"=ϋ
 XC:mg "bool"=ϋ
 qt:mg "int"=ϋ
 dJ:mg "isinstance"=ϋ
 fX:mg "len"=ϋ
 ZJ:mg "max"=ϋ
 ZK:mg "min"=ϋ
 jB:mg "range"=ϋ
 RJ:mg "reversed"=ϋ
 ZL:mg "set"=ϋ
 Kt:mg "sorted"=ϋ
 DP:mg "str"=ϋ
 ot:mg "tuple"=ϋ
 ZM:mg "zip"=ϋ
 SE:fR K mg bU "NoMarks"
 SF:fR K mg bU "NoSheet"
 T9:fR K mg bU "NoPage"
 Ua:fR K mg bU "NoBook"
 SH:fR K mg bU "NoMould"
 V0:fR K mg bU "NoDay"
 Ub:fR K mg bU "NoSort"
 RK:fR K mg bU "NoNumber"
 RL:fR K mg bU "NoSheets"
 V1:fR K mg bU "NoRun"
 RM:fR K mg bU "NoLaying"
 Uc:fR K mg bU "NoHeap"
 SI:fR K mg bU "NoCount"
 V2:fR K mg bU "Clash"
 Ud:fR K mg bU "NoDeed"
 Ue:fR K mg bU "NoText"
 V3:fR K mg bU "NoRow"
 SJ:fR K mg bU "TooMany"
 SK:fR K mg bU "Lacking"
 QQ:sO K bU (.type "ValueError") anyS
 SM:mF K mg "NoMould"
 V4:mF K mg "NoDay"
 SN:mF K mg "NoSheet"
 Ug:mF K mg "NoPage"
 Uh:mF K mg "NoBook"
 V5:mF K mg "NoRow"
 Ui:mF K mg "NoDeed"
 Lf:mF K mg "Clash"
 QR:Qa K mg bU "MouldError"
 p9:∃t,mg "MARKS"=ϊ (.int (8) t)
 vM:∃t,mg "MOULDS"=ϊ (.int (4) t)
 qi:∃t,mg "DAYS"=ϊ (.int (31) t)
 Ck:∃t,mg "PAGES"=ϊ (.int (24) t)
 tj:∃t,mg "HAS"=ϊ (.int (0) t)
 sF:∃t,mg "LACKS"=ϊ (.int (1) t)
 BK:∃t,mg "LONGEST"=ϊ (.int (30) t)
 sk:∃t,mg "NOTHING"=ϊ (.str "-" t)
 BL:∃t,mg "FIGURES"=ϊ (.str "0123456789" t)
 vo:xM K "Diary" "books"
 vq:xM K "Desk" "diary"
 QS:GM K "Diary" "undo" "Diary.undo" (eY (top 52) 3) ko
 Br:GM K "Diary" "book_now" "Diary.book_now" (eY (top 52) 4) ko
 IU:GM K "Diary" "keep" "Diary.keep" (eY (top 52) 5) EK
 Qr:GM K "Diary" "strike" "Diary.strike" (eY (top 52) 2) xl
 QT:GM K "Diary" "tell" "Diary.tell" (eY (top 52) 1) xl
 rW:GM K "Desk" "say" "Desk.say" (eY (top 78) 1) Oj
 V6:GK K mg "Diary" "Diary.__init__" (eY (top 52) 0) ko
 L8:GK K mg "Desk" "Desk.__init__" (eY (top 78) 0) ko
 RN:GG K mg "_law_cell_at" (top 84) xP
 Uj:GG K mg "_law_state" (top 85) xP
 RO:GG K mg "_law_classes" (top 87) O6
 IK:GG K mg "are_figures" (top 73) jP
 II:GG K mg "is_sheet_word" (top 72) jP
 yD:GG K mg "is_number_word" (top 71) jP
 IF:GG K mg "are_page_words" (top 70) uB
 Uk:GG K mg "is_row" (top 80) uB
 RP:GG K mg "words_of" (top 79) Fy
 Jw:GG K mg "marks_of" (top 76) jP
 Jx:GG K mg "sheet_of" (top 75) jP
 JQ:GG K mg "page_of" (top 74) uB
 IV:GG K mg "marks_text" (top 67) Fz
 IW:GG K mg "sheet_text" (top 68) O7
 QA:GG K mg "places_text" (top 82) FA
 Jg:GG K mg "is_rising" (top 30) FC
 Ri:GG K mg "is_number" (top 25) cz
 BF:GG K mg "is_below" (top 26) Ez
 JR:GG K mg "is_mark" (top 27) cz
 Jh:GG K mg "are_marks" (top 37) cz
 Bw:GG K mg "are_apart" (top 39) EA
 Jy:GG K mg "is_sheet" (top 38) cz
 Jz:GG K mg "is_mould" (top 28) cz
 Ku:GG K mg "is_day" (top 29) cz
 JS:GG K mg "is_page" (top 40) cz
 RQ:GG K mg "are_laid" (top 41) cz
 yO:GG K mg "days_seen" (top 46) EB
 Bt:GG K mg "days_mended" (top 47) xk
 Qo:GG K mg "is_any_behind" (top 45) EC
 SO:GG K mg "clashes" (top 44) xk
 Rj:GG K mg "faults_of" (top 43) ED
 JT:GG K mg "is_book" (top 42) cz
 Bx:GG K mg "need_book" (top 50) cz
 Rk:GG K mg "page_text" (top 69) Og
 Rl:GG K mg "book_text" (top 66) EE
 QU:GG K mg "need_mould" (top 31) cz
 RR:GG K mg "need_day" (top 32) cz
 Qs:GG K mg "days_present" (top 58) An
 QC:GG K mg "days_absent" (top 59) An
 JA:GG K mg "marks_on" (top 57) EF
 IL:GG K mg "sure_sheets" (top 56) Oh
 Ul:GG K mg "surely" (top 54) EG
 QV:GG K mg "need_sheet" (top 48) cz
 Rm:GG K mg "stretches" (top 61) Oi
 V7:GG K mg "agree" (top 60) EH
 Rn:GG K mg "places_of" (top 55) EI
 Um:GG K mg "answer" (top 81) EJ
 Ji:GG K mg "need_page" (top 49) cz
 L9:GG K mg "_law_met" (top 88) Ol
 qa:GG K mg "_law_take" (top 86) Om
 Uo:GG K mg "_law_other" (top 94) Oo
 Ro:GG K mg "_law_some_row" (top 93) Oq
 JB:GG K mg "_law_figures" (top 89) oQ
 Jj:GG K mg "_law_is_sheet" (top 91) oQ
 vt:GG K mg "_law_is_number" (top 90) oQ
 SQ:GG K mg "_law_is_row" (top 92) Ot
section
variable {P:å} {w:ā} {K:đ} {mg:Str->Option Ç} {base:ĺ}
def RS (F:bq K mg):bZ P w K mg base "_law_cell_at" (top 84) xP 1 vH:=λ{_ _} G =>
 cb G xP (by kernel_rfl) λY _ _ _ _ _ _ Z=>(aH (bL (bC (xH Z) (ag 1) (cB fZ rfl F.fX gg (ao (ag 0))) (aZ _)) (ax (aQ (bw (ag 0) (ag 1)))) bS) (ax (aQ az)))
def Uq (F:bq K mg):bZ P w K mg base "_law_state" (top 85) xP 2 zf:=λ{_ _} G =>
 cb G [aeU,"_law_k","_law_cell"] (by kernel_rfl) λZ _ _ _ _ _ _ Y=>(aH (ck 2 Z (aS F.RN (RS F) Y (bI (ag 0) (ag 1)))) (aH (bL (bC OX (ag 2) (bu NU az az) (aZ _)) (ax (aQ (tI (bI (bu NS (ag 2) (bu NU az az)) gG)))) bS) (ax (aQ (tI (bI (bu tL (ag 2) az) gG))))))
def RT (F:bq K mg):Qb P w K mg base "_law_classes" (top 87) O6 1 JP:=λ{_ _} G =>
 aa9 G ["_law_e","_law_found"] (by kernel_rfl) λZ _ _ _ _ _ _ Y=>(aH (ck 1 Z (ib (bB (gB F.SE (ag 0) F.dJ) (bB (gB F.SF (ag 0) F.dJ) (bB (gB F.T9 (ag 0) F.dJ) (bB (gB F.Ua (ag 0) F.dJ) dU)))))) (aH (ck 1 Z (bu cq (ag 1) (ib (bB (gB F.SH (ag 0) F.dJ) (bB (gB F.V0 (ag 0) F.dJ) (bB (gB F.Ub (ag 0) F.dJ) (bB (gB F.RK (ag 0) F.dJ) dU))))))) (aH (ck 1 Z (bu cq (ag 1) (ib (bB (gB F.RL (ag 0) F.dJ) (bB (gB F.V1 (ag 0) F.dJ) (bB (gB F.RM (ag 0) F.dJ) (bB (gB F.Uc (ag 0) F.dJ) dU))))))) (aH (ck 1 Z (bu cq (ag 1) (ib (bB (gB F.SI (ag 0) F.dJ) (bB (gB F.V2 (ag 0) F.dJ) (bB (gB F.Ud (ag 0) F.dJ) (bB (gB F.Ue (ag 0) F.dJ) dU))))))) (ax (aQ (bu cq (ag 1) (ib (kc (gB F.V3 (ag 0) F.dJ) (gB F.SJ (ag 0) F.dJ) (gB F.SK (ag 0) F.dJ))))))))))
def IM (F:bq K mg):bZ P w K mg base "are_figures" (top 73) jP 1 vp:=λ{_ _} G =>
 cb G jP (by kernel_rfl) λZ _ _ _ _ _ _ Y=>(ax (aQ (dO (CN uw uw az (cB fZ rfl F.fX gg (ao (ag 0))) (fg F.BK rfl)) (c9 (cB (tM rfl) rfl F.sZ tN (ao (gp ["sign"] (Et (ag 0)) (λ_ _ _ _ _ _=>⟨fc,(dA abh (ag 0) (xO F.BL rfl) rfl)⟩))))))))
def IJ (F:bq K mg):bZ P w K mg base "is_sheet_word" (top 72) jP 2 yG:=λ{_ _} G =>
 cb G ["word","halves"] (by kernel_rfl) λY _ _ _ _ _ _ Z=>(aH (ck 1 Y (qh (ag 0) aF)) (ax (aQ (dO (dA (bQ Z) (cB fZ rfl F.fX gg (ao (ag 1))) az (aZ _)) (c9 (cB (tM rfl) rfl F.sZ tN (ao (gp ["half"] (gE (ag 1)) (λ_ _ _ _ _ _=>⟨fc,(uk (dA (bQ Z) (ag 0) (xO F.sk rfl) (aZ _)) (c9 (aS F.IK (IM F) Z (ao (ag 0)))))⟩)))))))))
def yE (F:bq K mg):bZ P w K mg base "is_number_word" (top 71) jP 2 m8:=λ{_ _} G =>
 cb G jP (by kernel_rfl) λY _ _ _ _ _ _ Z=>(ax (aQ (dO (aS F.IK (IM F) Z (ao (ag 0))) (c9 (uk (dA (kC Z) (bw (ag 0) az) aF (aZ _)) (c9 (dA (bQ Z) (ag 0) aF (aZ _))))))))
def IG (F:bq K mg):bZ P w K mg base "are_page_words" (top 70) uB 3 vn:=λ{_ _} G =>
 cb G ["words","word","mould","day","what"] (by kernel_rfl) λY _ _ _ _ _ _ Z=>(aH (bL (bC (kC Z) (cB fZ rfl F.fX gg (ao (ag 0))) az (aZ _)) (ax (aQ gG)) bS) (aH (nH (ag 0) (Es rfl (dS (cQ 1 Y) (dS (cQ 2 Y) (dS (cQ 3 Y) (dS (cQ 4 Y) nC)))))) (aH (bL (PW.pt (w_or (gQ (dW (aS F.yD (yE F) Z (ao (ag 2))))) (jI (gQ (dW (aS F.yD (yE F) Z (ao (ag 3)))))))) (ax (aQ gG)) bS) (aH (bL (bC (bQ Z) (ag 1) aF (aZ _)) (ax (aQ (aS F.II (IJ F) Z (ao (ag 4))))) bS) (ax (aQ (dO (dA (bQ Z) (ag 1) aF (aZ _)) (c9 (aS F.yD (yE F) Z (ao (ag 4)))))))))))
def Ur (F:bq K mg):bZ P w K mg base "is_row" (top 80) uB 4 sE:=λ{_ _} G =>
 cb G ["words","head","rest"] (by kernel_rfl) λY _ _ _ _ _ _ Z=>(aH (Y9 1 2 rfl Y (bI (bw (ag 0) az) (lD (ag 0) (gb az) iH))) (aH (bL (bC (bQ Z) (ag 1) aF (aZ _)) (ax (aQ (aS F.IF (IG F) Z (ao (ag 2))))) bS) (aH (bL (bC (bQ Z) (ag 1) aF (aZ _)) (ax (aQ (dO (dA (bQ Z) (cB fZ rfl F.fX gg (ao (ag 2))) az (aZ _)) (c9 (cB (tM rfl) rfl F.sZ tN (ao (gp ["word"] (gE (ag 2)) (λ_ _ _ _ _ _=>⟨fc,(aS F.yD (yE F) Z (ao (ag 0)))⟩)))))))) bS) (aH (bL (bC (bQ Z) (ag 1) aF (aZ _)) (ax (aQ (dO (dA (bQ Z) (cB fZ rfl F.fX gg (ao (ag 2))) az (aZ _)) (c9 (aS F.II (IJ F) Z (ao (bw (ag 2) az))))))) bS) (aH (bL (PW.pt (w_or (bC (bQ Z) (ag 1) aF (aZ _)) (jI (bC (bQ Z) (ag 1) aF (aZ _))))) (ax (aQ (dA (bQ Z) (ag 2) (ib dU) (aZ _)))) bS) (ax (aQ (aS F.IF (IG F) Z (ao (ag 0))))))))))
def RU (F:bq K mg):lV P w K mg base "words_of" (top 79) Fy 5 iN:=λ{_ _} G =>
 ml G Fy (by kernel_rfl) λY _ _ _ _ _ _ Z L=>(aH (bL (PW.pt (w_or (gQ (dW (cB qE rfl F.dJ ng (bI (ag 0) (qR Eg rfl F.DP))))) (jI (gQ (dW (aS F.Uk (Ur F) Z (ao (qh (ag 0) aF)))))))) (ax (nv L F.V5 (ao aF))) bS) (ax (aQ (qh (ag 0) aF))))
def JC (F:bq K mg):bZ P w K mg base "marks_of" (top 76) jP 1 si:=λ{_ _} G =>
 cb G jP (by kernel_rfl) λY _ _ _ _ _ _ Z=>(aH (bL (bC (bQ Z) (ag 0) (xO F.sk rfl) (aZ _)) (ax (aQ (eR dU))) bS) (ax (aQ (j6 zu rfl F.ot ou (ao (gp ["figure"] (Et (ag 0)) (λ_ _ _ _ _ _=>⟨fc,(j6 sX rfl F.qt qG (ao (ag 0)))⟩)))))))
def JD (F:bq K mg):bZ P w K mg base "sheet_of" (top 75) jP 2 sj:=λ{_ _} G =>
 cb G ["word","has","lacks"] (by kernel_rfl) λZ _ _ _ _ _ _ Y=>(aH (nH (qh (ag 0) aF) (Es rfl (dS (cQ 1 Z) (dS (cQ 2 Z) nC)))) (ax (aQ (eR (bI (aS F.Jw (JC F) Y (ao (ag 1))) (aS F.Jw (JC F) Y (ao (ag 2))))))))
def JU (F:bq K mg):bZ P w K mg base "page_of" (top 74) uB 3 pZ:=λ{_ _} G =>
 cb G ["words","word","mould","day","what","last"] (by kernel_rfl) λZ _ _ _ _ _ _ Y=>(aH (nH (ag 0) (Es rfl (dS (cQ 1 Z) (dS (cQ 2 Z) (dS (cQ 3 Z) (dS (cQ 4 Z) nC)))))) (aH (ck 5 Z (Fd (bC (bQ Y) (ag 1) aF (aZ _)) (aS F.Jx (JD F) Y (ao (ag 4))) (j6 sX rfl F.qt qG (ao (ag 4))))) (ax (aQ (eR (bB (ag 1) (bB (j6 sX rfl F.qt qG (ao (ag 2))) (bB (j6 sX rfl F.qt qG (ao (ag 3))) (bB (ag 5) dU)))))))))
def IY (F:bq K mg):bZ P w K mg base "marks_text" (top 67) Fz 1 vw:=λ{_ _} G =>
 cb G Fz (by kernel_rfl) λZ _ _ _ _ _ _ Y=>(ax (aQ (Ew (sW aF (gp ["mark"] (gE (ag 0)) (λ_ _ _ _ _ _=>⟨fc,(j6 Oe rfl F.DP Eg (ao (ag 0)))⟩))) (c9 (xO F.sk rfl)))))
def IZ (F:bq K mg):bZ P w K mg base "sheet_text" (top 68) O7 2 vz:=λ{_ _} G =>
 cb G ["sheet","has","lacks"] (by kernel_rfl) λZ _ _ _ _ _ _ Y=>(aH (nH (ag 0) (tJ rfl (dS (cQ 1 Z) (dS (cQ 2 Z) nC)))) (ax (aQ (bu cq (bu cq (aS F.IV (IY F) Y (ao (ag 1))) aF) (aS F.IV (IY F) Y (ao (ag 2)))))))
def QD (F:bq K mg):bZ P w K mg base "places_text" (top 82) FA 1 yK:=λ{_ _} G=>by
 have Z:(["mould","first","last"]:List Str).Nodup:=nofun
 exact cb G FA (by kernel_rfl) λY _ _ _ _ _ _ X=>(ax (aQ (Ew (sW aF (CS (N:=["mould","first","last"]) (nt:=3) (cap:=[]) rfl (Eh (by kernel_rfl)) (zH (nj 0 (nj 1 (nj 2 zt)))) (gE (ag 0)) (λcl C s H ex W=>⟨(wk rfl (l9 (iD (i:=0) Z rfl (ο rfl)) (l9 (iD (i:=1) Z rfl (ο rfl)) (l9 (iD (i:=2) Z rfl (ο rfl)) vZ)))),fc,(Nc (gK.cons (qI (ag 0)) (gK.cons aF (gK.cons (qI (ag 1)) (gK.cons aF (gK.cons (qI (ag 2)) gK.nil))))))⟩))) (c9 aF))))
def Jk (F:bq K mg):bZ P w K mg base "is_rising" (top 30) FC 1 pV:=λ{_ _} G=>by
 have Z:(["ahead","behind"]:List Str).Nodup:=nofun
 exact cb G FC (by kernel_rfl) λX _ _ _ _ _ _ Y=>(ax (aQ (cB (tM rfl) rfl F.sZ tN (ao (CS (N:=["ahead","behind"]) (nt:=2) (cap:=[]) rfl (Eh (by kernel_rfl)) (zH (nj 0 (nj 1 zt))) (aaM rfl F.ZM (bI (ag 0) (lD (ag 0) (gb az) iH))) (λcl C s H ex W=>⟨(wk rfl (l9 (iD (i:=0) Z rfl (ο rfl)) (l9 (iD (i:=1) Z rfl (ο rfl)) vZ))),fc,(dA (xH Y) (ag 0) (ag 1) (aZ _))⟩))))))
def Rp (F:bq K mg):bZ P w K mg base "is_number" (top 25) cz 1 BE:=λ{_ _} G =>
 cb G cz (by kernel_rfl) λZ _ _ _ _ _ _ Y=>(ax (aQ (dO (cB qE rfl F.dJ ng (bI (ag 0) (qR qG rfl F.qt))) (dO (Ec (cB qE rfl F.dJ ng (bI (ag 0) (qR Za rfl F.XC)))) (c9 (dA OX (ag 0) az (aZ _)))))))
def BG (F:bq K mg):bZ P w K mg base "is_below" (top 26) Ez 2 rZ:=λ{_ _} G =>
 cb G Ez (by kernel_rfl) λY _ _ _ _ _ _ Z=>(ax (aQ (dO (aS F.Ri (Rp F) Z (ao (ag 0))) (c9 (dA (xH Z) (ag 0) (ag 1) (aZ _))))))
def JV (F:bq K mg):bZ P w K mg base "is_mark" (top 27) cz 3 sr:=λ{_ _} G =>
 cb G cz (by kernel_rfl) λY _ _ _ _ _ _ Z=>(ax (aQ (aS F.BF (BG F) Z (bI (ag 0) (fg F.p9 rfl)))))
def Jl (F:bq K mg):bZ P w K mg base "are_marks" (top 37) cz 4 vD:=λ{_ _} G =>
 cb G cz (by kernel_rfl) λY _ _ _ _ _ _ Z=>(ax (aQ (dO (cB qE rfl F.dJ ng (bI (ag 0) (qR ou rfl F.ot))) (dO (cB (tM rfl) rfl F.sZ tN (ao (gp ["mark"] (gE (ag 0)) (λ_ _ _ _ _ _=>⟨fc,(aS F.JR (JV F) Z (ao (ag 0)))⟩)))) (c9 (aS F.Jg (Jk F) Z (ao (ag 0))))))))
def By (F:bq K mg):bZ P w K mg base "are_apart" (top 39) EA 1 rS:=λ{_ _} G =>
 cb G EA (by kernel_rfl) λY _ _ _ _ _ _ Z=>(ax (aQ (Ec (cB (NV rfl) rfl F.Nh N0 (ao (gp ["mark","others"] (gE (ag 0)) (λ_ _ _ _ _ _=>⟨fc,(dA (lC Z) (ag 0) (ag 1) rfl)⟩)))))))
def JE (F:bq K mg):bZ P w K mg base "is_sheet" (top 38) cz 5 pX:=λ{_ _} G =>
 cb G ["thing","has","lacks"] (by kernel_rfl) λY _ _ _ _ _ _ Z=>(aH (bL (PW.pt (w_or (gQ (dW (cB qE rfl F.dJ ng (bI (ag 0) (qR ou rfl F.ot))))) (jI (bC (kC Z) (cB fZ rfl F.fX gg (ao (ag 0))) az (aZ _))))) (ax (aQ gG)) bS) (aH (nH (ag 0) (tJ rfl (dS (cQ 1 Y) (dS (cQ 2 Y) nC)))) (ax (aQ (dO (aS F.Jh (Jl F) Z (ao (ag 1))) (dO (aS F.Jh (Jl F) Z (ao (ag 2))) (c9 (aS F.Bw (By F) Z (bI (ag 1) (ag 2))))))))))
def JF (F:bq K mg):bZ P w K mg base "is_mould" (top 28) cz 3 se:=λ{_ _} G =>
 cb G cz (by kernel_rfl) λY _ _ _ _ _ _ Z=>(ax (aQ (aS F.BF (BG F) Z (bI (ag 0) (fg F.vM rfl)))))
def Kv (F:bq K mg):bZ P w K mg base "is_day" (top 29) cz 3 sD:=λ{_ _} G =>
 cb G cz (by kernel_rfl) λY _ _ _ _ _ _ Z=>(ax (aQ (aS F.BF (BG F) Z (bI (ag 0) (fg F.qi rfl)))))
def JW (F:bq K mg):bZ P w K mg base "is_page" (top 40) cz 6 su:=λ{_ _} G =>
 cb G ["thing","word","mould","day","what"] (by kernel_rfl) λY _ _ _ _ _ _ Z=>(aH (bL (PW.pt (w_or (gQ (dW (cB qE rfl F.dJ ng (bI (ag 0) (qR ou rfl F.ot))))) (jI (bC (kC Z) (cB fZ rfl F.fX gg (ao (ag 0))) az (aZ _))))) (ax (aQ gG)) bS) (aH (nH (ag 0) (tJ rfl (dS (cQ 1 Y) (dS (cQ 2 Y) (dS (cQ 3 Y) (dS (cQ 4 Y) nC)))))) (aH (bL (PW.pt (w_or (gQ (dW (aS F.Jz (JF F) Z (ao (ag 2))))) (jI (gQ (dW (aS F.Ku (Kv F) Z (ao (ag 3)))))))) (ax (aQ gG)) bS) (aH (bL (bC (bQ Z) (ag 1) aF (aZ _)) (ax (aQ (aS F.Jy (JE F) Z (ao (ag 4))))) bS) (ax (aQ (dO (dA (bQ Z) (ag 1) aF (aZ _)) (c9 (aS F.JR (JV F) Z (ao (ag 4)))))))))))
def RV (F:bq K mg):bZ P w K mg base "are_laid" (top 41) cz 7 yW:=λ{_ _} G =>
 cb G cz (by kernel_rfl) λY _ _ _ _ _ _ Z=>(ax (aQ (dO (cB qE rfl F.dJ ng (bI (ag 0) (qR ou rfl F.ot))) (dO (dA uw (cB fZ rfl F.fX gg (ao (ag 0))) (fg F.Ck rfl) (aZ _)) (dO (cB (tM rfl) rfl F.sZ tN (ao (gp ["page"] (gE (ag 0)) (λ_ _ _ _ _ _=>⟨fc,(aS F.JS (JW F) Z (ao (ag 0)))⟩)))) (c9 (aS F.Jg (Jk F) Z (ao (ag 0)))))))))
def yP (F:bq K mg):bZ P w K mg base "days_seen" (top 46) EB 1 l8:=λ{_ _} G =>
 cb G EB (by kernel_rfl) λY _ _ _ _ _ _ Z=>(ax (aQ (gp ["page","mould","mark","half"] (gE (ag 0)) (λ_ _ _ _ _ _=>⟨(tK (PW.pt (w_and (bC (bQ Z) (bw (ag 0) az) aF (aZ _)) (w_and (bC (bQ Z) (bw (ag 0) az) (ag 1) (aZ _)) (sU (bC (lC Z) (ag 2) (bw (bw (ag 0) az) (ag 3)) rfl)))))),(bw (ag 0) az)⟩))))
def Bu (F:bq K mg):bZ P w K mg base "days_mended" (top 47) xk 1 rP:=λ{_ _} G =>
 cb G xk (by kernel_rfl) λY _ _ _ _ _ _ Z=>(ax (aQ (gp ["page","mould","mark"] (gE (ag 0)) (λ_ _ _ _ _ _=>⟨(tK (PW.pt (w_and (bC (bQ Z) (bw (ag 0) az) aF (aZ _)) (w_and (bC (bQ Z) (bw (ag 0) az) (ag 1) (aZ _)) (sU (bC (bQ Z) (bw (ag 0) az) (ag 2) (aZ _))))))),(bw (ag 0) az)⟩))))
def Qp (F:bq K mg):bZ P w K mg base "is_any_behind" (top 45) EC 1 yF:=λ{_ _} G =>
 cb G EC (by kernel_rfl) λY _ _ _ _ _ _ Z=>(ax (aQ (cB (NV rfl) rfl F.Nh N0 (ao (gp ["other","day","later"] (gE (ag 0)) (λ_ _ _ _ _ _=>⟨fc,(CN (xH Z) uw (ag 1) (ag 0) (ag 2))⟩))))))
def SR (F:bq K mg):bZ P w K mg base "clashes" (top 44) xk 2 vL:=λ{_ _} G=>by
 have Y:(["day","later","lacked","mended"]:List Str).Nodup:=nofun
 exact cb G ["pages","mould","mark","lacked","mended"] (by kernel_rfl) λX _ _ _ _ _ _ Z=>(aH (ck 3 X (aS F.yO (yP F) Z (bB (ag 0) (bB (ag 1) (bB (ag 2) (bB (fg F.sF rfl) dU)))))) (aH (ck 4 X (aS F.Bt (Bu F) Z (kc (ag 0) (ag 1) (ag 2)))) (ax (aQ (LU (N:=["day","later","lacked","mended"]) (nt:=2) (cap:=[3,4]) rfl (D8 (by kernel_rfl)) (sJ 0) (v9 0) (sJ 1) (v9 1) (gE (Sw (aS F.yO (yP F) Z (bB (ag 0) (bB (ag 1) (bB (ag 2) (bB (fg F.tj rfl) dU))))) rfl rfl F.Kt K2 rfl F.ZL aaP)) (λcl C s H ex W=>⟨(iD (i:=0) Y rfl (ο rfl)),fc,(Y0 rfl F.jB (bI (ag 0) (fg F.qi rfl))),(iD (i:=1) Y rfl (ο rfl)),(tK (PW.pt (w_and (PW.pt (w_or (bC (lC Z) (ag 1) (ag 2) rfl) (jI (PW.pt (w_and (bC (bQ Z) (ag 1) (ag 0) (aZ _)) (sU (bC (lC Z) (ag 0) (ag 3) rfl))))))) (sU (gQ (dW (aS F.Qo (Qp F) Z (kc (ag 3) (ag 0) (ag 1))))))))),(eR (bI (ag 0) (ag 1)))⟩))))))
def Rq (F:bq K mg):bZ P w K mg base "faults_of" (top 43) ED 3 yR:=λ{_ _} G=>by
 have Z:(["mould","mark","day","later","pages"]:List Str).Nodup:=nofun
 exact cb G ED (by kernel_rfl) λX _ _ _ _ _ _ Y=>(ax (aQ (Xh (N:=["mould","mark","day","later","pages"]) (nt:=4) (cap:=[0]) rfl (D8 (by kernel_rfl)) (sJ 0) (v9 0) (sJ 1) (v9 1) (zH (nj 2 (nj 3 zt))) (zD [2,3]) (k9 rfl F.jB (ao (fg F.vM rfl))) (λcl C s H ex W=>⟨(iD (i:=0) Z rfl (ο rfl)),fc,(k9 rfl F.jB (ao (fg F.p9 rfl))),(iD (i:=1) Z rfl (ο rfl)),fc,(gE (aS F.SO (SR F) Y (kc (ag 4) (ag 0) (ag 1)))),(wk rfl (l9 (iD (i:=2) Z rfl (ο rfl)) (l9 (iD (i:=3) Z rfl (ο rfl)) vZ))),fc,(eR (bB (ag 0) (bB (ag 1) (bB (ag 2) (bB (ag 3) dU)))))⟩))))
def JX (F:bq K mg):bZ P w K mg base "is_book" (top 42) cz 8 sv:=λ{_ _} G =>
 cb G cz (by kernel_rfl) λY _ _ _ _ _ _ Z=>(ax (aQ (dO (aS F.RQ (RV F) Z (ao (ag 0))) (c9 (TK.Zh (aS F.Rj (Rq F) Z (ao (ag 0))))))))
def Bz (F:bq K mg):lV P w K mg base "need_book" (top 50) cz 9 pW:=λ{_ _} G =>
 ml G cz (by kernel_rfl) λY _ _ _ _ _ _ Z L=>(ax (bL (gQ (dW (aS F.JT (JX F) Z (ao (ag 0))))) (ax (nv L F.Uh (ao aF))) bS))
def Rr (F:bq K mg):bZ P w K mg base "page_text" (top 69) Og 3 yS:=λ{_ _} G =>
 cb G ["page","word","mould","day","what","last"] (by kernel_rfl) λZ _ _ _ _ _ _ Y=>(aH (nH (ag 0) (tJ rfl (dS (cQ 1 Z) (dS (cQ 2 Z) (dS (cQ 3 Z) (dS (cQ 4 Z) nC)))))) (aH (ck 5 Z (Fd (bC (bQ Y) (ag 1) aF (aZ _)) (aS F.IW (IZ F) Y (ao (ag 4))) (j6 Oe rfl F.DP Eg (ao (ag 4))))) (ax (aQ (Nc (gK.cons (qI (ag 1)) (gK.cons aF (gK.cons (qI (ag 2)) (gK.cons aF (gK.cons (qI (ag 3)) (gK.cons aF (gK.cons (qI (ag 5)) gK.nil))))))))))))
def Rt (F:bq K mg):lV P w K mg base "book_text" (top 66) EE 10 vE:=λ{_ _} G =>
 ml G EE (by kernel_rfl) λY _ _ _ _ _ _ Z L=>(aH (gy (jK F.Bx (Bz F) (eZ L) Z (ao (ag 0)))) (ax (aQ (sW aF (gp ["page"] (gE (ag 0)) (λ_ _ _ _ _ _=>⟨fc,(bu cq (aS F.Rk (Rr F) Z (ao (ag 0))) aF)⟩))))))
def QW (F:bq K mg):lV P w K mg base "need_mould" (top 31) cz 4 yN:=λ{_ _} G =>
 ml G cz (by kernel_rfl) λY _ _ _ _ _ _ Z L=>(ax (bL (gQ (dW (aS F.Jz (JF F) Z (ao (ag 0))))) (ax (nv L F.SM (ao aF))) bS))
def RW (F:bq K mg):lV P w K mg base "need_day" (top 32) cz 4 yX:=λ{_ _} G =>
 ml G cz (by kernel_rfl) λY _ _ _ _ _ _ Z L=>(ax (bL (gQ (dW (aS F.Ku (Kv F) Z (ao (ag 0))))) (ax (nv L F.V4 (ao aF))) bS))
def Qt (F:bq K mg):bZ P w K mg base "days_present" (top 58) An 2 yH:=λ{_ _} G =>
 cb G ["book","mould","mark","shown","mended","present","stays","day"] (by kernel_rfl) λZ _ _ _ _ _ _ Y=>(aH (ck 3 Z (aS F.yO (yP F) Y (bB (ag 0) (bB (ag 1) (bB (ag 2) (bB (fg F.tj rfl) dU)))))) (aH (ck 4 Z (aS F.Bt (Bu F) Y (kc (ag 0) (ag 1) (ag 2)))) (aH (ck 5 Z (tI dU)) (aH (ck 6 Z gG) (aH (qB Ź rfl (k9 rfl F.jB (ao (fg F.qi rfl))) (cQ 7 Z) (aH (ck 6 Z (uk (dA (lC Y) (ag 7) (ag 3) rfl) (c9 (dO (ag 6) (c9 (dA (v8 Y) (ag 7) (ag 4) rfl)))))) (ax (bL (dW (ag 6)) (ax (gy (Ae (ag 5) (ag 7)))) bS)))) (ax (aQ (Eb (ag 5)))))))))
def QE (F:bq K mg):bZ P w K mg base "days_absent" (top 59) An 2 yJ:=λ{_ _} G =>
 cb G ["book","mould","mark","lacked","mended","absent","barred","day"] (by kernel_rfl) λZ _ _ _ _ _ _ Y=>(aH (ck 3 Z (aS F.yO (yP F) Y (bB (ag 0) (bB (ag 1) (bB (ag 2) (bB (fg F.sF rfl) dU)))))) (aH (ck 4 Z (aS F.Bt (Bu F) Y (kc (ag 0) (ag 1) (ag 2)))) (aH (ck 5 Z (tI dU)) (aH (ck 6 Z gG) (aH (qB Ź rfl (aaT rfl F.RJ rfl F.jB (ao (fg F.qi rfl))) (cQ 7 Z) (aH (bL (PW.pt (w_or (dW (ag 6)) (w_or (bC (lC Y) (ag 7) (ag 3) rfl) (jI (bC (lC Y) (ag 7) (ag 4) rfl))))) (ax (gy (Ae (ag 5) (ag 7)))) bS) (ax (ck 6 Z (dO (uk (ag 6) (c9 (dA (lC Y) (ag 7) (ag 3) rfl))) (c9 (dA (v8 Y) (ag 7) (ag 4) rfl))))))) (ax (aQ (Eb (ag 5)))))))))
def JG (F:bq K mg):bZ P w K mg base "marks_on" (top 57) EF 1 vJ:=λ{_ _} G =>
 cb G EF (by kernel_rfl) λY _ _ _ _ _ _ Z=>(ax (aQ (j6 zu rfl F.ot ou (ao (gp ["mark","day","days_by_mark"] (k9 rfl F.jB (ao (fg F.p9 rfl))) (λ_ _ _ _ _ _=>⟨(tK (bC (lC Z) (ag 1) (bw (ag 2) (ag 0)) rfl)),(ag 0)⟩))))))
def IP (F:bq K mg):bZ P w K mg base "sure_sheets" (top 56) Oh 3 rQ:=λ{_ _} G =>
 cb G ["book","mould","present","absent"] (by kernel_rfl) λY _ _ _ _ _ _ Z=>(aH (ck 2 Y (gp ["mark","book","mould"] (k9 rfl F.jB (ao (fg F.p9 rfl))) (λ_ _ _ _ _ _=>⟨fc,(aS F.Qs (Qt F) Z (kc (ag 1) (ag 2) (ag 0)))⟩))) (aH (ck 3 Y (gp ["mark","book","mould"] (k9 rfl F.jB (ao (fg F.p9 rfl))) (λ_ _ _ _ _ _=>⟨fc,(aS F.QC (QE F) Z (kc (ag 1) (ag 2) (ag 0)))⟩))) (ax (aQ (gp ["day","present","absent"] (k9 rfl F.jB (ao (fg F.qi rfl))) (λ_ _ _ _ _ _=>⟨fc,(eR (bI (aS F.JA (JG F) Z (bI (ag 1) (ag 0))) (aS F.JA (JG F) Z (bI (ag 2) (ag 0)))))⟩))))))
def Us (F:bq K mg):lV P w K mg base "surely" (top 54) EG 10 vU:=λ{_ _} G =>
 ml G EG (by kernel_rfl) λY _ _ _ _ _ _ Z L=>(aH (gy (jK F.Bx (Bz F) (eZ L) Z (ao (ag 0)))) (aH (gy (jK F.QU (QW F) (eZ L) Z (ao (ag 1)))) (aH (gy (jK F.RR (RW F) (eZ L) Z (ao (ag 2)))) (ax (aQ (bw (aS F.IL (IP F) Z (bI (ag 0) (ag 1))) (ag 2)))))))
def QX (F:bq K mg):lV P w K mg base "need_sheet" (top 48) cz 6 rR:=λ{_ _} G =>
 ml G cz (by kernel_rfl) λY _ _ _ _ _ _ Z L=>(ax (bL (gQ (dW (aS F.Jy (JE F) Z (ao (ag 0))))) (ax (nv L F.SN (ao aF))) bS))
def Ru (F:bq K mg):bZ P w K mg base "stretches" (top 61) Oi 1 vF:=λ{_ _} G =>
 cb G ["holds","told","at"] (by kernel_rfl) λZ _ _ _ _ _ _ Y=>(aH (ck 1 Z (tI dU)) (aH (qB Ź rfl (k9 rfl F.jB (ao (cB fZ rfl F.fX gg (ao (ag 0))))) (cQ 2 Z) (ax (bL (PW.pt (w_and (dW (bw (ag 0) (ag 2))) (w_and (bC acs (ag 2) az (aZ _)) (sU (dW (bw (ag 0) (bu NS (ag 2) az))))))) (ax (Ed (eR (bI (bw (bw (ag 1) (Ay Ad az)) az) (ag 2))) (ag 1) (Ay Ad az))) (ax (bL (dW (bw (ag 0) (ag 2))) (ax (gy (Ae (ag 1) (eR (bI (ag 2) (ag 2)))))) bS))))) (ax (aQ (Eb (ag 1))))))
def V8 (F:bq K mg):bZ P w K mg base "agree" (top 60) EH 2 wc:=λ{_ _} G =>
 cb G EH (by kernel_rfl) λY _ _ _ _ _ _ Z=>(ax (aQ (dO (aS F.Bw (By F) Z (bI (bw (ag 0) (fg F.tj rfl)) (bw (ag 1) (fg F.sF rfl)))) (c9 (aS F.Bw (By F) Z (bI (bw (ag 0) (fg F.sF rfl)) (bw (ag 1) (fg F.tj rfl))))))))
def Rv (F:bq K mg):lV P w K mg base "places_of" (top 55) EI 10 rT:=λ{_ _} G=>by
 have Y:(["mould","first","last","sheet","book"]:List Str).Nodup:=nofun
 exact ml G EI (by kernel_rfl) λX _ _ _ _ _ _ Z L=>(aH (gy (jK F.Bx (Bz F) (eZ L) Z (ao (ag 0)))) (aH (gy (jK F.QV (QX F) (eZ L) Z (ao (ag 1)))) (ax (aQ (LU (N:=["mould","first","last","sheet","book"]) (nt:=3) (cap:=[1,0]) rfl (D8 (by kernel_rfl)) (sJ 0) (v9 0) (zH (nj 1 (nj 2 zt))) (zD [1,2]) (k9 rfl F.jB (ao (fg F.vM rfl))) (λcl C s H ex W=>⟨(iD (i:=0) Y rfl (ο rfl)),fc,(gE (aS F.Rm (Ru F) Z (ao (gp ["sure","sheet"] (gE (aS F.IL (IP F) Z (bI (ag 4) (ag 0)))) (λ_ _ _ _ _ _=>⟨fc,(aS F.V7 (V8 F) Z (bI (ag 1) (ag 0)))⟩))))),(wk rfl (l9 (iD (i:=1) Y rfl (ο rfl)) (l9 (iD (i:=2) Y rfl (ο rfl)) vZ))),fc,(eR (kc (ag 0) (ag 1) (ag 2)))⟩))))))
def Ut (F:bq K mg):lV P w K mg base "answer" (top 81) EJ 11 kP:=λ{_ _} G =>
 ml G EJ (by kernel_rfl) λY _ _ _ _ _ _ Z L=>(aH (bL (bC (bQ Z) (bw (ag 1) az) aF (aZ _)) (ax (aQ (aS F.IW (IZ F) Z (ao (jK F.Ul (Us F) (eZ L) Z (kc (ag 0) (j6 sX rfl F.qt qG (ao (bw (ag 1) az))) (j6 sX rfl F.qt qG (ao (bw (ag 1) az))))))))) bS) (aH (bL (bC (bQ Z) (bw (ag 1) az) aF (aZ _)) (ax (aQ (aS F.QA (QD F) Z (ao (jK F.Rn (Rv F) (eZ L) Z (bI (ag 0) (aS F.Jx (JD F) Z (ao (bw (ag 1) az))))))))) bS) (ax (aQ (Ew (jK F.Rl (Rt F) (eZ L) Z (ao (ag 0))) (c9 (xO F.sk rfl)))))))
def QY (F:bq K mg):kM P w K mg base "Diary" "undo" "Diary.undo" (eY (top 52) 3) ko 1 vA:=λ{_ _} G =>
 oB G ko (by kernel_rfl) λY _ _ _ _ _ _ Z L=>(aH (bL (bC (bQ Z) (cB fZ rfl F.fX gg (ao (oK F.vo (ag 0)))) az (aZ _)) (ax (nv L F.Ui (ao aF))) bS) (ax (gy (Zy (oK F.vo (ag 0))))))
def Jm (F:bq K mg):lV P w K mg base "need_page" (top 49) cz 7 nh:=λ{_ _} G =>
 ml G cz (by kernel_rfl) λY _ _ _ _ _ _ Z L=>(ax (bL (gQ (dW (aS F.JS (JW F) Z (ao (ag 0))))) (ax (nv L F.Ug (ao aF))) bS))
def Bs (F:bq K mg):kM P w K mg base "Diary" "book_now" "Diary.book_now" (eY (top 52) 4) ko 1 lZ:=λ{_ _} G =>
 oB G ko (by kernel_rfl) λZ _ _ _ _ _ _ Y L=>(ax (aQ (bw (oK F.vo (ag 0)) (Ay Ad az))))
def I0 (F:bq K mg):kM P w K mg base "Diary" "keep" "Diary.keep" (eY (top 52) 5) EK 9 vB:=λ{_ _} G =>
 oB G EK (by kernel_rfl) λY _ _ _ _ _ _ Z L=>(aH (bL (gQ (dW (aS F.JT (JX F) Z (ao (ag 1))))) (ax (nv L F.Lf (ao aF))) bS) (ax (gy (Ae (oK F.vo (ag 0)) (ag 1)))))
def Qu (F:bq K mg):kM P w K mg base "Diary" "strike" "Diary.strike" (eY (top 52) 2) xl 10 rN:=λ{_ _} G =>
 oB G ["self","page","book"] (by kernel_rfl) λY _ _ _ _ _ _ Z L=>(aH (gy (jK F.Ji (Jm F) (eZ L) Z (ao (ag 1)))) (aH (ck 2 Y (zP F.Br (Bs F) (eZ L) Z (ag 0))) (aH (bL (bC (v8 Z) (ag 1) (ag 2) rfl) (ax (nv L F.Lf (ao aF))) bS) (ax (gy (tR F.IU (I0 F) (eZ L) Z (ag 0) (ao (j6 zu rfl F.ot ou (ao (gp ["other","page"] (gE (ag 2)) (λ_ _ _ _ _ _=>⟨(tK (bC (kC Z) (ag 0) (ag 1) (aZ _))),(ag 0)⟩)))))))))))
def QZ (F:bq K mg):kM P w K mg base "Diary" "tell" "Diary.tell" (eY (top 52) 1) xl 10 oo:=λ{_ _} G =>
 oB G xl (by kernel_rfl) λY _ _ _ _ _ _ Z L=>(aH (gy (jK F.Ji (Jm F) (eZ L) Z (ao (ag 1)))) (ax (gy (tR F.IU (I0 F) (eZ L) Z (ag 0) (ao (j6 zu rfl F.ot ou (ao (cB (TK.VT Z) rfl F.Kt K2 (ao (bu cq (zP F.Br (Bs F) (eZ L) Z (ag 0)) (eR (ao (ag 1)))))))))))))
def rX (F:bq K mg):kM P w K mg base "Desk" "say" "Desk.say" (eY (top 78) 1) Oj 12 fU:=λ{_ _} G =>
 oB G ["self","row","words"] (by kernel_rfl) λY _ _ _ _ _ _ Z L=>(aH (ck 2 Y (jK F.RP (RU F) (eZ L) Z (ao (ag 1)))) (aH (bL (bC (bQ Z) (bw (ag 2) az) aF (aZ _)) (ax (gy (zP F.QS (QY F) (eZ L) Z (oK F.vq (ag 0))))) (ax (bL (bC (bQ Z) (bw (ag 2) az) aF (aZ _)) (ax (gy (tR F.Qr (Qu F) (eZ L) Z (oK F.vq (ag 0)) (ao (aS F.JQ (JU F) Z (ao (lD (ag 2) (gb az) iH))))))) (ax (bL (PW.pt (w_or (bC (bQ Z) (bw (ag 2) az) aF (aZ _)) (jI (bC (bQ Z) (bw (ag 2) az) aF (aZ _))))) (ax (gy (tR F.QT (QZ F) (eZ L) Z (oK F.vq (ag 0)) (ao (aS F.JQ (JU F) Z (ao (ag 2))))))) (ax (aQ (jK F.Um (Ut F) (eZ L) Z (bI (zP F.Br (Bs F) (eZ L) Z (oK F.vq (ag 0))) (ag 2)))))))))) (ax (aQ aF))))
def Ma (F:bq K mg):P2 P w K mg "_law_met" (top 88) Ol 14 13 hX:=λ{_ _ _ _ _ _} T {_ _} G =>
 aa4 G ["_law_call","_law_e","_law_some"] (by kernel_rfl) λZ _ _ _ _ _ _ X Y=>(ax (Zx T X (Y.mono (by decide)) F.QR (λ_=>(aH (ck 2 Z (aba F.RO (RT F) (Y.h.held _) (ao (ag 1)))) (aH (bL (PW.pt (w_or (gQ (dW (Zv F.QQ (ag 1) F.dJ F.QP))) (jI (bC abb (Zt (ag 2)) az (aZ _))))) (ax (aQ (eR (bI aF Ea)))) bS) (aH (bL (dW (bw (ag 2) az)) (ax (aQ (eR (bI aF O5)))) bS) (aH (bL (dW (bw (ag 2) az)) (ax (aQ (eR (bI aF O5)))) bS) (ax (aQ (eR (bI aF (aa6 (ag 2))))))))))) Z))
def qb (F:bq K mg):bZ P w K mg base "_law_take" (top 86) Om 1 j8:=λ{_ _} G =>
 cb G [aeV,"_law_many","_law_found","_law_mixed"] (by kernel_rfl) λZ _ _ _ _ _ _ Y=>(aH (bL (dW (bw (ag 0) az)) (aH (ck 2 Z (bu tL (bw (ag 0) az) (ag 1))) (aH (Ed (bu NT (bw (ag 0) az) (ag 1)) (ag 0) az) (ax (aQ (ag 2))))) bS) (aH (Ed (bu tL (bu cq (bu wY (bw (ag 0) az) az) az) az) (ag 0) az) (aH (ck 3 Z (bu tL (bu cq (bu cq (bu wY (bw (ag 0) az) (bw (ag 0) az)) (bu wY az (bw (ag 0) az))) az) az)) (aH (ck 3 Z (bu tL (bu cq (bu wY (ag 3) (ag 3)) (bu wY az (ag 3))) az)) (ax (aQ (bu tL (bu NT (ag 3) az) (ag 1))))))))
def Uu (F:bq K mg):bZ P w K mg base "_law_other" (top 94) Oo 2 zg:=λ{_ _} G =>
 cb G [aeV,aeW,"_law_signs","_law_sign","_law_at","_law_way","_law_words","_law_spot","_law_news"] (by kernel_rfl) λY _ _ _ _ _ _ Z=>(aH (ck 2 Y aF) (aH (ck 2 Y (bu cq (ag 2) (bu wH aF az))) (aH (Zj 3 4 5 rfl Y (kc (bw (ag 2) (aS F.qa (qb F) Z (bI (ag 0) (cB fZ rfl F.fX gg (ao (ag 2)))))) (aS F.qa (qb F) Z (bI (ag 0) (bu cq (cB fZ rfl F.fX gg (ao (ag 1))) az))) (aS F.qa (qb F) Z (bI (ag 0) az)))) (aH (ck 6 Y (qh (ag 1) aF)) (aH (ck 7 Y (aS F.qa (qb F) Z (bI (ag 0) (cB fZ rfl F.fX gg (ao (ag 6)))))) (aH (bL (bC (xH Z) (ag 5) az (aZ _)) (ax (aQ (bu cq (bu cq (qJ (ag 1) iH (gb (ag 4))) (ag 3)) (qJ (ag 1) (gb (bu cq (ag 4) (ag 5))) iH)))) bS) (aH (bL (bC (bQ Z) (ag 5) az (aZ _)) (ax (aQ (bu cq (qJ (ag 1) iH (gb (ag 4))) (qJ (ag 1) (gb (bu cq (ag 4) az)) iH)))) bS) (aH (bL (bC (bQ Z) (ag 5) az (aZ _)) (ax (aQ (bu cq (bu cq (qJ (ag 1) iH (gb (ag 4))) (ZE (qJ (ag 1) (gb (ag 4)) (gb (bu cq (ag 4) az))))) (qJ (ag 1) (gb (bu cq (ag 4) az)) iH)))) bS) (aH (bL (bC (bQ Z) (ag 5) az (aZ _)) (ax (aQ (sW aF (bu cq (lD (ag 6) iH (gb (ag 7))) (lD (ag 6) (gb (bu cq (ag 7) az)) iH))))) bS) (aH (bL (bC (bQ Z) (ag 5) az (aZ _)) (ax (aQ (sW aF (bu cq (bu cq (lD (ag 6) iH (gb (ag 7))) (lD (ag 6) (gb (ag 7)) (gb (bu cq (ag 7) az)))) (lD (ag 6) (gb (ag 7)) iH))))) bS) (aH (bL (bC (bQ Z) (ag 5) az (aZ _)) (aH (ck 8 Y (by refine' Xq ?_ ?_ ?_ ?_ ?_ ?_ ?_ ?_ ?_ ?_ ?_;exact(bu wH aF az);exact(bu cq aF (bu wH aF az));exact aF;exact aF;exact aF;exact aF;exact aF;exact aF;exact aF;exact aF;exact aF)) (aH (ck 8 Y (bu cq (ag 8) (ib (bI (bu cq (bu wH aF az) aF) (bu cq aF (bu wH aF az)))))) (ax (aQ (sW aF (bu cq (bu cq (lD (ag 6) iH (gb (ag 7))) (ib (ao (bw (ag 8) (aS F.qa (qb F) Z (bI (ag 0) az)))))) (lD (ag 6) (gb (bu cq (ag 7) az)) iH))))))) bS) (ax (aQ (bw (by refine' Zk ?_ ?_ ?_ ?_ ?_ ?_ ?_ ?_;exact(bu cq (ag 1) aF);exact(bu cq aF (ag 1));exact(bu cq (ag 1) aF);exact(bu cq (ag 1) aF);exact(Xy (ag 1));exact aF;exact aF;exact(bu cq aF (ag 1))) (aS F.qa (qb F) Z (bI (ag 0) az))))))))))))))))
def Rw (F:bq K mg):bZ P w K mg base "_law_some_row" (top 93) Oq 2 yT:=λ{_ _} G =>
 cb G [aeV,"_law_some"] (by kernel_rfl) λZ _ _ _ _ _ _ Y=>(@aH _ _ _ _ _ _ (@ck _ _ _ _ _ 1 _ _ Z (@En _ _ 2 _ _ rfl) rfl (ο rfl) rfl (ο rfl)) (aH (ck 1 Z (bu cq (ag 1) (ib (bB aF (bB aF (bB aF (bB aF (bB aF (bB aF dU))))))))) (ax (aQ (bw (ag 1) (aS F.qa (qb F) Y (bI (ag 0) az)))))))
def JH (F:bq K mg):bZ P w K mg base "_law_figures" (top 89) oQ 1 yY:=λ{_ _} G =>
 cb G oQ (by kernel_rfl) λY _ _ _ _ _ _ Z=>(ax (aQ (dO (CN uw uw az (cB fZ rfl F.fX gg (ao (ag 0))) az) (c9 (dA (bQ Z) (gp ["_law_sign"] (Et (ag 0)) (λ_ _ _ _ _ _=>⟨(tK (bC VX (ag 0) aF rfl)),(ag 0)⟩)) (ib dU) (aZ _))))))
def Jn (F:bq K mg):bZ P w K mg base "_law_is_sheet" (top 91) oQ 2 yU:=λ{_ _} G =>
 cb G [aeX,"_law_parts"] (by kernel_rfl) λY _ _ _ _ _ _ Z=>(aH (ck 1 Y (qh (ag 0) aF)) (ax (aQ (dO (dA (bQ Z) (cB fZ rfl F.fX gg (ao (ag 1))) az (aZ _)) (c9 (dA (v8 Z) gG (gp ["_law_part"] (gE (ag 1)) (λ_ _ _ _ _ _=>⟨fc,(uk (dA (bQ Z) (ag 0) aF (aZ _)) (c9 (aS F.JB (JH F) Z (ao (ag 0)))))⟩)) rfl))))))
def vv (F:bq K mg):bZ P w K mg base "_law_is_number" (top 90) oQ 2 l0:=λ{_ _} G =>
 cb G oQ (by kernel_rfl) λY _ _ _ _ _ _ Z=>(ax (aQ (dO (aS F.JB (JH F) Z (ao (ag 0))) (c9 (uk (dA (kC Z) (bw (ag 0) az) aF (aZ _)) (c9 (dA (bQ Z) (ag 0) aF (aZ _))))))))
def SS (F:bq K mg):bZ P w K mg base "_law_is_row" (top 92) Ot 3 y0:=λ{_ _} G =>
 cb G [aeW,"_law_words"] (by kernel_rfl) λY _ _ _ _ _ _ Z=>(aH (ck 1 Y (qh (ag 0) aF)) (aH (bL (bC (bQ Z) (bw (ag 1) az) aF (aZ _)) (aH (ck 1 Y (lD (ag 1) (gb az) iH)) (ax (bL (PW.pt (w_or (bC (bQ Z) (ag 1) (ib dU) (aZ _)) (jI (bC (v8 Z) (bw (ag 1) az) (eR (bI aF aF)) rfl)))) (ax (aQ gG)) bS))) bS) (aH (bL (bC (lC Z) (bw (ag 1) az) (eR (bI aF aF)) rfl) (aH (bL (PW.pt (w_or (bC (kC Z) (cB fZ rfl F.fX gg (ao (ag 1))) az (aZ _)) (w_or (gQ (dW (aS F.vt (vv F) Z (ao (bw (ag 1) az))))) (jI (gQ (dW (aS F.vt (vv F) Z (ao (bw (ag 1) az))))))))) (ax (aQ gG)) bS) (ax (aQ (Fd (bC (bQ Z) (bw (ag 1) az) aF (aZ _)) (aS F.Jj (Jn F) Z (ao (bw (ag 1) az))) (aS F.vt (vv F) Z (ao (bw (ag 1) az))))))) bS) (aH (bL (bC (bQ Z) (bw (ag 1) az) aF (aZ _)) (ax (aQ (dO (dA (bQ Z) (cB fZ rfl F.fX gg (ao (ag 1))) az (aZ _)) (dO (aS F.vt (vv F) Z (ao (bw (ag 1) az))) (c9 (aS F.vt (vv F) Z (ao (bw (ag 1) az)))))))) bS) (aH (bL (bC (bQ Z) (bw (ag 1) az) aF (aZ _)) (ax (aQ (dO (dA (bQ Z) (cB fZ rfl F.fX gg (ao (ag 1))) az (aZ _)) (c9 (aS F.Jj (Jn F) Z (ao (bw (ag 1) az))))))) bS) (ax (aQ (dA (lC Z) (ag 0) (eR (bI aF aF)) rfl))))))))
def Q0 (F:bq K mg):kM P w K mg base "Diary" "__init__" "Diary.__init__" (eY (top 52) 0) ko 1 vC:=λ{_ _} G =>
 oB G ko (by kernel_rfl) λZ _ _ _ _ _ _ Y L=>(ax (Od F.vo (ag 0) (tI (ao (eR dU)))))
def Jo (F:bq K mg):kM P w K mg base "Desk" "__init__" "Desk.__init__" (eY (top 78) 0) ko 3 rV:=λ{_ _} G =>
 oB G ko (by kernel_rfl) λY _ _ _ _ _ _ Z L=>(ax (Od F.vq (ag 0) (Eo F.V6 (Q0 F) Z)))
def ZN (F:bq K mg) {c T:Þ} (ht:aeK K "law"=ϊ (c,T)) (hC:PySem.W.codeHdIn K c T=ό) (hB:base.BuiltinsAt mg T) {f:Þ} {fd:Ģ} (G:Gd K mg "law" (top 95) Ou f fd) (hx:ì K Ò "law"=ϊ (ϊ (.ref f))):cW P w K mg base eG 15 f fd Ou (lU K Ak):=by
 exact aa7 G hx ht [aeU,"_law_k",aeV,"_law_desk","_law_other_here",aeW,"_law_turn","_law_ahead","_law_told","_law_thing"] (by kernel_rfl) λY _ _ _ _ _ Z=>(aH (qB Ź rfl (k9 rfl F.jB (ao (cB (Y4 rfl) rfl F.ZJ aaQ (bI az (cB (Y5 rfl) rfl F.ZK aaR (bI (cB fZ rfl F.fX gg (ao (ag 0))) az)))))) (cQ 1 Y) (aH (ck 2 Y (aS F.Uj (Uq F) Z (bI (ag 0) (ag 1)))) (aH (nH (eR (bI (Eo F.L8 (Jo F) Z) (Eo F.L8 (Jo F) Z))) (tJ rfl (dS (cQ 3 Y) (dS (cQ 4 Y) nC)))) (aH (qB Ź rfl (gE (ib (kc aF aF aF))) (cQ 5 Y) (ax (gy (Aj F.rW (rX F) Z (ag 3) (ao (ag 5)))))) (aH (qB Ź rfl (k9 rfl F.jB (ao az)) (cQ 6 Y) (aH (nH (eR (bI (aS F.Uo (Uu F) Z (bI (ag 2) (aS F.Ro (Rw F) Z (ao (ag 2))))) (Aj F.rW (rX F) Z (ag 3) (ao aF)))) (tJ rfl (dS (cQ 5 Y) (dS (cQ 7 Y) nC)))) (aH (ck 8 Y (N8 [aeW,"_law_desk"] rfl rfl ht hC hB F.L9 (Ma F) Ld Z (λ_ _ _ _ _ _ _ _ _ _ Z L=>(tR F.rW (rX F) (eZ L) Z (ag 1) (ao (ag 0)))))) (aH (bL (PW.pt (w_or (bC (kC Z) (dA (bQ Z) (ag 8) (eR (bI aF az)) (aZ _)) (Ec (aS F.SQ (SS F) Z (ao (ag 5)))) (aZ _)) (jI (bC (bQ Z) (bw (ag 8) az) aF (aZ _))))) (ax (aQ gG)) bS) (ax (bL (PW.pt (w_and (bC (kC Z) (bw (ag 8) az) aF (aZ _)) (sU (bC (kC Z) (Aj F.rW (rX F) Z (ag 3) (ao aF)) (ag 7) (aZ _))))) (ax (aQ gG)) bS)))))) (aH (qB Ź rfl (gE (ib (bB Ea (bB az (bB (ib (ao aF)) (bB (eR (ao aF)) (bB gG (bB Zi dU)))))))) (cQ 9 Y) (ax (bL (bC (kC Z) (N8 ["_law_thing","_law_desk"] rfl rfl ht hC hB F.L9 (Ma F) Ld Z (λ_ _ _ _ _ _ _ _ _ _ Z L=>(tR F.rW (rX F) (eZ L) Z (ag 1) (ao (ag 0))))) (eR (bI aF az)) (aZ _)) (ax (aQ gG)) bS))) (ax (bL (bC (kC Z) (Aj F.rW (rX F) Z (ag 4) (ao aF)) aF (aZ _)) (ax (aQ gG)) bS)))))))) (ax (aQ gG)))
end
end DI.cE
namespace DI
open PySem L2
def O8 (s:ae) (k:Nat):Prop:=∃a b:Int,s[k]?=ϊ (.lst [.int a,.int b])/\0<=a/\0<=b/\b<2147483647
structure Ex (k:Nat) (s s':ae):Prop where
 len:s.length<=s'.length
 val:∀j,j<s.length->j≠k->s'[j]?=s[j]?
theorem Ex.trans (h:Ex k a b) (g:Ex k b c):Ex k a c:=⟨Ý h.len g.len,λj Z Y=>(g.val j (Ê Z h.len) Y).trans (h.val j Z Y)⟩
theorem Ex.set (k:Nat) (s:ae) (c:Cell):Ex k s (s.set k c):=⟨by simp,λj _ Z=>õ (ź Z)⟩
def Ex.app (k:Nat) (s:ae) (c:List Cell):Ex k s (s++c):=⟨by simp,λj Z _=>ç Z⟩
def Hl (x y:D) (k:Nat) (s:ae) (h:s[k]?=ϊ (.lst [x,y])):ay (.aj k) (.int 0) s=ok x s:=by
 simp[ay,kK,res,h,cX,gI,bT]
def Qe (x y:D) (k:Nat) (s:ae) (h:s[k]?=ϊ (.lst [x,y])):ay (.aj k) (.int 1) s=ok y s:=by
 simp[ay,kK,res,h,cX,gI,bT]
def O9 (x y z:D) (k:Nat) (s:ae) (h:s[k]?=ϊ (.lst [x,y])):mC (.aj k) (.int 0) z s=ϊ (s.set k (.lst [z,y])):=by
 simp[mC,h,gI]
@[simp] theorem zR {a:D} {r:Env} {s:ae}:aa 0 (ϊ a::r) s=ok a s:=rfl
@[simp] theorem zS {i:Nat} {a:Option D} {r:Env} {s:ae}:aa (i+1) (a::r) s=aa i r s:=rfl
def ltI (i j:Int) (s:ae):kD (.int i) (.int j) s=ok (.bl (ώ (i<j))) s:=rfl
def gtI (i j:Int) (s:ae):AF (.int i) (.int j) s=ok (.bl (ώ (j<i))) s:=rfl
def geI (i j:Int) (s:ae):xD (.int i) (.int j) s=ok (.bl (ώ (j<=i))) s:=rfl
def leI (i j:Int) (s:ae):lB (.int i) (.int j) s=ok (.bl (ώ (i<=j))) s:=rfl
def Pa (i j:Int) (s:ae):bh (.int i) (.int j) s=ok (.int (i+j)) s:=rfl
def acP (i j:Int) (s:ae):wU (.int i) (.int j) s=ok (.int (i-j)) s:=rfl
def eqI (i j:Int) (s:ae):aX (.int i) (.int j) s=ok (.bl (i==j)) s:=rfl
def neI (i j:Int) (s:ae):ee (.int i) (.int j) s=ok (.bl (!(i==j))) s:=rfl
def uC {i j:Int} (s:ae) (h:0<j):nI (.int i) (.int j) s=ok (.int (i % j)) s:=by
 simp[nI,Fh,h,bT]
def Pb (s:ae) (h:0<j) (h2:j<1073741824):wW (.int i) (.int j) s=ok (.int (i / j)) s:=by
 simp[wW,Fi,h,h2,bT]
def xQ (s:ae) (h:wV i j=ό):jJ (.int i) (.int j) s=ok (.int (i*j)) s:=by
 simp[jJ,Fg,h,bT]
def mulOk_of (h1:-(2 ^ 64)<i) (h2:i<2 ^ 64):wV i j=ό:=by
 delta wV;rw[È h1,È h2];rfl
def le_size (h:n<=1000000):n<=Õ:=Ý h (by decide)
def Cm (h1:-1000000<=j) (h2:j<=1000000):kj j=ό:=by
 delta kj;rw[È (show -(2 ^ 62)<=j by omega),È (show j<2 ^ 62 by omega)];rfl
def nE {α:Type} {xs:List α} {i:Int} (h0:0<=i) (h1:i<xs.length):∃x,cX xs i=ϊ x/\xs[i.toNat]?=ϊ x:=by
 have Z:i.toNat<xs.length:=by omega
 refine⟨xs[i.toNat],?_,Ø Z⟩;delta cX gI;rw[Ñ h0,Ñ h1];exact Ø Z
def XD {ns:List Int} {i:Int} {s:ae} (h0:0<=i):∃c:Int,vH [.bO ns,.int i] s=ok (.int c) s:=by
 by_cases h:i<(ns.length:Int)
 ·obtain⟨x,Z,_⟩:=nE h0 h
  refine⟨x,?_⟩;have Y:ay (.bO ns) (.int i) s=ok (.int x) s:=by simp[ay,kK,res,Z,bT]
  erw[vH,aD,aq,aM,aW,e2,eB,af,ah,cJ,nQ,res,bT,zR,zS,eC,bV,à,Ō,ħ,Ļ,â,Ą,ò,ltI,iU,È h,aA,Y,Ö]
 ·refine⟨0,?_⟩
  erw[vH,aD,aq,aM,aW,e2,eB,af,ah,cJ,nQ,res,bT,zR,zS,eC,bV,à,Ō,ħ,Ļ,â,Ą,ò,ltI,iU,Ì h,Æ,ï,bH,aA,Ö]
structure fS (m:Nat) (ns:List Int):Prop where
 lo:∀x∈ns,0<=x/\x<m
 up:ns.Pairwise (· < ·)
abbrev mD (ns:List Int):D:=.tup (ns.map D.int)
def fS.len (h:fS m ns):ns.length<=m:=by
 have key:∀(l:List Int) (b:Int),l.Pairwise (· < ·)->(∀x∈l,b<=x/\x<m)->(l.length:Int)<=m-b\/l=[]:=by
  intro l
  induction l with
  |nil=>intro b _ _;exact .inr rfl
  |cons x l ih =>
   intro b X Z;obtain⟨W,V⟩:=ø.mp X;have U:=Z x ß;left
   rcases ih (x+1) V (λy Y=>⟨by have:=W y Y;omega,(Z y (Ï _ Y)).2⟩) with h|h
   ·rw[â];omega
   ·subst h
    simp;omega
 rcases key ns 0 h.up h.lo with h'|h'
 ·omega
 ·subst h';simp
def mr (h:fa env s=ok [.int n] s1) (hn:n<=1000000):iK fa env s=ok (dg 0 n) s1:=by
 delta iK;rw[h,bV]
 show (if kj (n:Int)=ό then ok (dg 0 (n:Int).toNat) s1 else ϋ)=_
 rw[Ñ (Cm ⋯ ⋯),ĳ]
def ZO (h:fa env s=ok [.int i,.int j] s1) (h1:-1000000<=i) (h2:i<=1000000) (h3:-1000000<=j) (h4:j<=1000000):A1 fa env s=ok (dg i (j-i).toNat) s1:=by
 delta A1;rw[h,bV]
 show (if (kj i&&kj j)=ό then ok (dg i (j-i).toNat) s1 else ϋ)=_
 rw[Ñ (by rw[Cm h1 h2,Cm h3 h4];rfl)]
def Ni:Wp (kD (.int i) (.int j) s) Q=Q (.bl (ώ (i<j))) s:=by rw[ltI,bF]
def Nj:Wp (AF (.int i) (.int j) s) Q=Q (.bl (ώ (j<i))) s:=by rw[gtI,bF]
def ZP:Wp (xD (.int i) (.int j) s) Q=Q (.bl (ώ (j<=i))) s:=by rw[geI,bF]
def zT:Wp (lB (.int i) (.int j) s) Q=Q (.bl (ώ (i<=j))) s:=by rw[leI,bF]
def XE:Wp (bh (.int i) (.int j) s) Q=Q (.int (i+j)) s:=by rw[Pa,bF]
def Mb:Wp (wU (.int i) (.int j) s) Q=Q (.int (i-j)) s:=by rw[acP,bF]
def qu:Wp (aX (.int i) (.int j) s) Q=Q (.bl (i==j)) s:=by rw[eqI,bF]
def zU:Wp (ee (.int i) (.int j) s) Q=Q (.bl (!(i==j))) s:=by rw[neI,bF]
end DI
def DI.VCr:=ë @DI.bF <| ë @DI.ZF <| ë @DI.Al <| ë @DI.aR <| ë @DI.bx <| ë @DI.bA <| ë @DI.oO <| ë @DI.bj <| ë @DI.aP <| ë @DI.aL <| ë @DI.de <| ë @DI.wp_call <| ë @DI.iF <| ë @DI.ke <| ë @DI.DM <| ë @DI.Nd <| ë @DI.eO <| ë @DI.cC <| ë @DI.qr <| ë @DI.kU <| ë @DI.CY <| ë @DI.kf <| ë @DI.we <| ë @DI.kW <| ë @DI.DN <| ë @DI.L4 <| ë @DI.sY <| ë @DI.Nf <| ë @DI.dF <| ë @DI.bW <| ë @DI.p6 <| ë @DI.VY <| ë @DI.ow <| ë @DI.oF <| ë @DI.eI <| ë @DI.gj <| ë @DI.XA <| ë @DI.L5 <| ë @DI.ZH <| ë @DI.sP <| ë @DI.L6 <| ë @DI.Ng <| ë @DI.dP <| ë @DI.jC <| ë @DI.Am <| ë @DI.zQ <| ë @DI.Ni <| ë @DI.Nj <| ë @DI.ZP <| ë @DI.zT <| ë @DI.XE <| ë @DI.Mb <| ë @DI.qu <| @DI.zU
local macro_rules | `(tactic| simp only[VC])=>`(tactic| simp only[VC,true_and])
local macro_rules | `(tactic| simp only[VC,$xs,*])=>`(tactic| simp only[DI.VCr,DI.bz,DI.kg,DI.ZG,DI.abk,DI.VZ,DI.jF,DI.ZI,List.map_cons,List.map_nil,List.cons_append,List.nil_append,List.length_cons,List.length_nil,List.set_cons_succ,List.set_cons_zero,List.replicate,true_and,Nat.reduceSub,Nat.reduceAdd,$xs,*])
namespace DI
open PySem L2
def aeQ {α:Type} {r:Res α} {d:α} {s:ae} (h:Wp r λa s'=>a=d/\s'=s):r=DI.ok d s:=by
 obtain⟨a,s',e,rfl,rfl⟩:=h;exact e
def nk {f:aeO D} {env:Env} {s s1:ae} {ds:List D} (h:f env s=ok (.tup ds) s1):cI f env s=ok ds s1:=by
 delta cI;rw[h];rfl
def nq (h:f env s=ok (.lst ds) s1):cI f env s=ok ds s1:=by
 delta cI;rw[h];rfl
theorem za:∀(ns:List Int),cR (ns.map D.int)=ό
 | []=>rfl
 |n::ns=>by erw[à,cR,lay,za ns,ĵ]
def Mc (x:Int) (ns:List Int):((ns.map D.int).any λy=>beq y (.int x))=ώ (x∈ns):=by
 induction ns with
 |nil=>simp
 |cons n ns ih =>
  erw[à,List.any_cons,ih,beq];by_cases h:n=x
  ·subst h;simp
  ·have Z:¬ x=n:=λe=>h e.symm
   simp[h,Z]
def zy {x:Int} {ns:List Int} {s:ae}:ff (.int x) (mD ns) s=ok (.bl (ώ (x∈ns))) s:=by
 have Z:nJ 100 (.int x) (ns.map D.int)=ό:=by erw[nJ,lay,za,dep,ĵ,Ē,Ķ]
 have e:inD (.int x) (ns.map D.int)=ϊ (ώ (x∈ns)):=by delta inD;rw[Ñ Z,Mc]
 delta ff;rw[show nK (mD ns) s=ϊ (ns.map D.int) from rfl];erw[e];rfl
def SU:fV (.int x) (mD ns) s=ok (.bl (!ώ (x∈ns))) s:=by
 have Z:nJ 100 (.int x) (ns.map D.int)=ό:=by erw[nJ,lay,za,dep,ĵ,Ē,Ķ]
 have e:inD (.int x) (ns.map D.int)=ϊ (ώ (x∈ns)):=by delta inD;rw[Ñ Z,Mc]
 delta fV;rw[show nK (mD ns) s=ϊ (ns.map D.int) from rfl];erw[e];rfl
def sub (a b:List Int):Bool:=a.all λx=>ώ (x∈b)
def qj {α:Type} (p:α->Bool) (xs:List α) (s:ae):mz [.lst (xs.map λx=>D.bl (p x))] s=ok (.bl (xs.all p)) s:=by
 have e:iy (xs.map λx=>D.bl (p x))=ϊ (xs.map p):=by
  have:=Xf (bs:=xs.map p);rw[Ġ] at this;exact this
 show bT ((iy (xs.map λx=>D.bl (p x))).map λ(bs:List Bool)=>D.bl (bs.all id)) s=_;rw[e];show ok (D.bl ((xs.map p).all id)) s=_;rw[List.all_map];rfl
def filter_tt {α:Type} (xs:List α):xs.filter (λ_=>ό)=xs:=by simp
def vN {nt:Nat} {caps:Env} {g:D->Env->Option Env} {t:aeO Bool} {f:aeO D} {s:ae} (p:Int->Bool) (h:Int->D) (ns:List Int) (hh:∀n∈ns,∃env,g (.int n) (Ö nt ϋ++caps)=ϊ env/\t env s=ok (p n) s/\(p n=ό->f env s=ok (h n) s)) :
  iE nt caps g t f (ns.map D.int) s=ok ((ns.filter p).map h) s:=by
 induction ns with
 |nil=>rfl
 |cons n ns ih =>
  obtain⟨env,Y,X,W⟩:=hh n ß;have ih:=ih λV U=>hh V (Ï _ U);rw[à];delta iE;rw[Y];erw[X,qA,bV]
  cases Z:p n with
  |true=>erw[ò,W Z,qA,bV,ih,Ŧ,Z,à]
  |false=>erw[Æ,ï,ih,Ŧ,Z]
def comp_map {α:Type} (d:α->D) (p:α->Bool) (h:α->D) (xs:List α) (hh:∀x∈xs,∃env,g (d x) (Ö nt ϋ++caps)=ϊ env/\t env s=ok (p x) s/\(p x=ό->f env s=ok (h x) s)) :
  iE nt caps g t f (xs.map d) s=ok ((xs.filter p).map h) s:=by
 induction xs with
 |nil=>rfl
 |cons n T ih =>
  obtain⟨env,Y,X,W⟩:=hh n ß;have ih:=ih λV U=>hh V (Ï _ U);rw[à];delta iE;rw[Y];erw[X,qA,bV]
  cases Z:p n with
  |true=>erw[ò,W Z,qA,bV,ih,Ŧ,Z,à]
  |false=>erw[Æ,ï,ih,Ŧ,Z]
def Uv:BE [.int i] s=ok (.bl (ώ (0<=i))) s:=by
 rfl
def sx:rZ [.int i,.int m] s=ok (.bl (ώ (0<=i)&&ώ (i<m))) s:=by
 refine aeQ ?_;delta rZ;simp only[VC,Uv];by_cases h:0<=i
 ·simp[h]
 ·simp[h]
def Md:sr [.int i] s=ok (.bl (ώ (0<=i)&&ώ (i<8))) s:=by
 refine aeQ ?_;delta sr;simp only[VC,sx,true_and]
def Lg (xs:List D):cutD xs (ϊ 1) ϋ=xs.drop 1:=by
 delta cutD HT.bp
 cases xs with
 |nil=>simp
 |cons x xs =>
  erw[â]
  have e:(if (1:Int)<0 then (1+((xs.length+1:Nat):Int)).toNat else min (1:Int).toNat (xs.length+1))=1:=by simp
  simp
def rise:List Int->Bool
 | []=>ό
 | [_]=>ό
 |a::b::r=>ώ (a<b)&&rise (b::r)
def XF (h:ns.Pairwise (· < ·)):rise ns=ό:=by
 induction ns with
 |nil=>rfl
 |cons a ns ih =>
  cases ns with
  |nil=>rfl
  |cons b r =>
   obtain⟨Z,Y⟩:=ø.mp h;erw[rise,ih Y,aeo];exact È (Z b ß)
theorem Lh:∀(ns:List Int),((ns.zip (ns.drop 1)).all λp=>ώ (p.1<p.2))=rise ns
 | []=>rfl
 | [_]=>rfl
 |a::b::r=>by
  have ih:=Lh (b::r);erw[List.drop_succ_cons,List.drop_zero,Ĺ,List.all_cons,rise] at ih |-;rw[ih]
def Uw (xs ys:List Int):ji (xs.map D.int) (ys.map D.int)=(xs.zip ys).map λp=>D.tup [.int p.1,.int p.2]:=by
 delta ji;rw[List.zip_map,Ġ];rfl
def Li (h:fa env s=ok [.tup xs,.tup ys] s1):uq fa env s=ok (ji xs ys) s1:=by
 delta uq;rw[h];rfl
def Ux (hl:ns.length<=1000000):pV [mD ns] s=ok (.bl (rise ns)) s:=by
 refine aeQ ?_;delta pV;simp only[VC];have Z:uq (af (aa 0) (af (gr (aa 0) (cK (eC (.int 1))) fq) ah)) [ϊ (mD ns)] s=ok (ji (ns.map D.int) ((ns.drop 1).map D.int)) s:=by
  refine Li (aeQ ?_);simp only[VC];rw[L7 (i:=1) rfl]
  try simp only[VC]
  refine aeP (show qp (mD ns) (ϊ 1) ϋ s=ok (.tup (cutD (ns.map D.int) (ϊ 1) ϋ)) s from rfl) ⟨?_,rfl⟩;rw[Lg,List.map_drop]
 refine aeP Z ⟨le_size (by rw[Ca];erw[É];omega),?_⟩;rw[Uw];refine aeP (comp_map (λp:Int×Int=>D.tup [.int p.1,.int p.2]) (λ_=>ό) (λp=>.bl (ώ (p.1<p.2))) _ λp _=>⟨[ϊ (.int p.1),ϊ (.int p.2)],rfl,rfl,λ_=>rfl⟩) ?_;rw[filter_tt];exact aeP (qj _ _ _) ⟨by rw[Lh],rfl⟩
structure afL (rs:List (List Int)):Prop where
 lo:1<=rs.length
 hi:rs.length<=10
 mks:∀r∈rs,fS 8 r
def Me (lo:Int) (n:Nat):dg lo n=(è n).map λi:Nat=>D.int (lo+i):=rfl
def ZQ (rs:List (List Int)) (laid:List Int) (m:Int):Bool:=((è laid.length).filter λi=>laid.getD i 0==m).all λi=>sub (rs.getD i []) (rs.getD laid.length [])
def tm {α:Type} (d:α->D) (p:α->Bool) (h:α->List D) (xs:List α) (hh:∀x∈xs,∃env,g (d x) kA=ϊ env/\t env s=ok (p x) s/\(p x=ό->act env s=ok (h x) s)) :
  iW g t act kA (xs.map d) s=ok ((xs.filter p).flatMap h) s:=by
 induction xs with
 |nil=>rfl
 |cons n T ih =>
  obtain⟨env,Y,X,W⟩:=hh n ß;have ih:=ih λV U=>hh V (Ï _ U);rw[à];delta iW;rw[Y];erw[X,qA,bV]
  cases Z:p n with
  |true=>erw[ò,W Z,qA,bV,ih,Ŧ,Z,List.flatMap_cons]
  |false=>erw[Æ,ï,ih,Ŧ,Z]
def Cn :
  Wp (wC nt cap it gd c act env s) Q=Wp (it env s) λds s=>Wp (iW gd c act (Ö nt ϋ++iP cap env) ds s) λxs s=>xs.length<=Õ/\Q (.lst xs) s:=by
 delta wC;erw[bP,Al,vV,bF]
def step (rs:List (List Int)) (told:List (List Int)):List (List Int):=told.flatMap λlaid=>([0,1].filter λm=>ZQ rs laid m).map λm=>laid++[m]
open TK
def markB (i:Int):Bool:=ώ (0<=i)&&ώ (i<8)
def kh (i:Int):Bool:=ώ (0<=i)&&ώ (i<4)
def jm (i:Int):Bool:=ώ (0<=i)&&ώ (i<31)
def fY (ns:List Int):Bool:=ns.all markB&&rise ns
def ki (a b:List Int):Bool:=!(a.any λx=>ώ (x∈b))
def dX:Pg->Bool
 | .made m d h l=>kh m&&jm d&&(fY h&&(fY l&&ki h l))
 | .c8 m d k=>kh m&&jm d&&markB k
def jn:Pg->Prop
 | .made _ _ h l=>h.length<=1000/\l.length<=1000
 | .c8 _ _ _=>True
def V9:iy (bs.map D.bl)=ϊ bs:=by
 induction bs with
 |nil=>rfl
 |cons b bs ih=>erw[à,iy,ih];rfl
def Lj {α:Type} (p:α->Bool) (xs:List α) (s:ae):ux [.lst (xs.map λx=>D.bl (p x))] s=ok (.bl (xs.any p)) s:=by
 have e:iy (xs.map λx=>D.bl (p x))=ϊ (xs.map p):=by
  have:=V9 (bs:=xs.map p);rw[Ġ] at this;exact this
 erw[ux,res,e,bT,abI,List.any_map,Ş,id]
def Lk (hl:ns.length<=1000):vD [mD ns] s=ok (.bl (fY ns)) s:=by
 refine aeQ ?_;delta vD;simp only[VC];refine aeP (show gU [mD ns,.ty "tuple"] s=ok (.bl ό) s from rfl) ?_;simp only[VC,ò];refine aeP (nk rfl) ⟨le_size (by rw[É];omega),?_⟩;refine aeP (vN (λ_=>ό) (λx=>.bl (markB x)) ns λn _=>⟨[ϊ (.int n)],rfl,rfl,λ_=>?_⟩) ?_
 ·refine aeQ ?_
  simp only[VC,Md,markB,true_and]
 ·rw[filter_tt]
  refine aeP (qj _ _ _) ?_;simp only[VC];delta fY
  cases e:ns.all markB with
  |true =>
   erw[ò,ú];exact aeP (Ux ⋯) ⟨rfl,rfl⟩
  |false=>simp
def Co (ha:a.length<=1000):rS [mD a,mD b] s=ok (.bl (ki a b)) s:=by
 refine aeQ ?_;delta rS;simp only[VC];refine aeP (nk rfl) ⟨le_size (by rw[É];omega),?_⟩;refine aeP (vN (λ_=>ό) (λx=>.bl (ώ (x∈b))) a λn _=>⟨[ϊ (.int n),ϊ (mD b)],rfl,rfl,λ_=>?_⟩) ?_
 ·refine aeQ ?_
  simp only[VC,zy,true_and]
 ·rw[filter_tt]
  refine aeP (Lj _ _ _) ?_;simp only[VC];exact⟨rfl,trivial⟩
def Cp (h1:h.length<=1000) (h2:l.length<=1000):pX [.tup [mD h,mD l]] s=ok (.bl (fY h&&(fY l&&ki h l))) s:=by
 refine aeQ ?_;delta pX;simp only[VC];refine aeP (show gU [.tup [mD h,mD l],.ty "tuple"] s=ok (.bl ό) s from rfl) ?_;simp only[VC,ý,Æ,ï];refine aeP (show cJ [.tup [mD h,mD l]] s=ok (.int 2) s from rfl) ?_;simp only[VC];simp only[VC,Ė,ý,Æ,ï];refine aeP (Lk h1) ?_;simp only[VC]
 cases fY h with
 |false=>simp
 |true =>
  erw[ò,ú];refine aeP (Lk h2) ?_;simp only[VC]
  cases fY l with
  |false=>simp
  |true =>
   erw[ò,ú];exact aeP (Co h1) ⟨rfl,rfl⟩
def Ll:se [.int i] s=ok (.bl (kh i)) s:=by
 refine aeQ ?_;delta se;simp only[VC,sx,kh,Ĥ]
def Nk:sD [.int i] s=ok (.bl (jm i)) s:=by
 refine aeQ ?_;delta sD;simp only[VC,sx,jm,Ĥ]
def mU:aX (.str x) (.str y) s=ok (.bl (ώ (x=y))) s:=by
 show ok (D.bl (x==y)) s=_
 by_cases e:x=y<;>simp[e]
def XG:¬ (Ĉ "made"=Ĉ "mended"):=nofun
def CZ:¬ (Ĉ "mended"=Ĉ "made"):=nofun
def Bg:aeO Fl:=aq (aM (aW (e2 aX (aa 1) (eC (.str "made")))) (aA (aG pX (af (aa 4) ah))) bH) (aA (cO (e2 aX (aa 1) (eC (.str "mended"))) (aG sr (af (aa 4) ah))))
def Mf {x:Str} {m d:Int} {w:D} {s:ae} {b:Bool} (h:Wp (Bg [ϊ (.tup [.str x,.int m,.int d,w]),ϊ (.str x),ϊ (.int m),ϊ (.int d),ϊ w] s) (pd λd s'=>d=.bl b/\s'=s)):su [.tup [.str x,.int m,.int d,w]] s=ok (.bl (kh m&&jm d&&b)) s:=by
 refine aeQ ?_;show Wp (aD 1 5 (aq _ (aq _ (aq _ Bg))) _ s) _;simp only[VC];refine aeP (show gU [.tup [.str x,.int m,.int d,w],.ty "tuple"] s=ok (.bl ό) s from rfl) ?_;simp only[VC,ý,Æ,ï];refine aeP (show cJ [.tup [.str x,.int m,.int d,w]] s=ok (.int 4) s from rfl) ?_;simp only[VC,Ė,ý,Æ,ï];refine aeP Ll ?_;simp only[VC]
 cases kh m with
 |false=>simp[kg,jF,bW,bA]
 |true =>
  erw[ý,Æ,ï,ú];refine aeP Nk ?_;simp only[VC]
  cases jm d with
  |false=>simp[kg,jF,bW,bA]
  |true =>
   simp only[VC,ý,Æ,ï,ú];exact h
def C0 (hf:jn p):su [p.d] s=ok (.bl (dX p)) s:=by
 cases p with
 |made m d h l =>
  refine Mf ?_;delta Bg;simp only[VC];refine aeP mU ?_;simp only[VC,Ķ,ò];exact aeP (Cp hf.1 hf.2) ⟨rfl,rfl⟩
 |c8 m d k =>
  refine Mf ?_;delta Bg;simp only[VC];refine aeP mU ?_;simp only[VC,Ì CZ,Æ,ï];refine aeP mU ?_;simp only[VC,Ķ,ò];exact aeP Md ⟨rfl,rfl⟩
abbrev bD (ps:List Pg):D:=.tup (ps.map Pg.d)
def ZR:kD p.d q.d s=ok (.bl (cy.lt p q)) s:=by
 delta kD;rw[Ñ (by rw[qq _ (Af p),qq _ (Af q)];erw[ĵ,ú,Ë];have:=zI p;omega),N7];rfl
def xm (ps:List Pg):Bool:=(ps.zip (ps.drop 1)).all λp=>cy.lt p.1 p.2
def Wa (xs ys:List Pg):ji (xs.map Pg.d) (ys.map Pg.d)=(xs.zip ys).map λp=>D.tup [p.1.d,p.2.d]:=by
 delta ji;rw[List.zip_map,Ġ];rfl
def SV (hl:ps.length<=1000):pV [bD ps] s=ok (.bl (xm ps)) s:=by
 refine aeQ ?_;delta pV;simp only[VC];have Z:uq (af (aa 0) (af (gr (aa 0) (cK (eC (.int 1))) fq) ah)) [ϊ (bD ps)] s=ok (ji (ps.map Pg.d) ((ps.drop 1).map Pg.d)) s:=by
  refine Li (aeQ ?_);simp only[VC];rw[L7 (i:=1) rfl]
  try simp only[VC]
  refine aeP (show qp (bD ps) (ϊ 1) ϋ s=ok (.tup (cutD (ps.map Pg.d) (ϊ 1) ϋ)) s from rfl) ⟨?_,rfl⟩;rw[Lg,List.map_drop]
 refine aeP Z ⟨le_size (by rw[Ca];erw[É];omega),?_⟩;rw[Wa];refine aeP (comp_map (λp:Pg×Pg=>D.tup [p.1.d,p.2.d]) (λ_=>ό) (λp=>.bl (cy.lt p.1 p.2)) _ λp _=>⟨[ϊ p.1.d,ϊ p.2.d],rfl,rfl,λ_=>?_⟩) ?_
 ·refine aeQ ?_
  simp only[VC,ZR,Ĥ]
 rw[filter_tt];exact aeP (qj _ _ _) ⟨rfl,rfl⟩
def nM (ps:List Pg):Bool:=ώ (ps.length<=24)&&(ps.all dX&&xm ps)
def XH (hl:ps.length<=1000) (hf:∀p∈ps,jn p):yW [bD ps] s=ok (.bl (nM ps)) s:=by
 refine aeQ ?_;delta yW nM;simp only[VC];refine aeP (show gU [bD ps,.ty "tuple"] s=ok (.bl ό) s from rfl) ?_;simp only[VC,ò];refine aeP (show cJ [bD ps] s=ok (.int ps.length) s from by show ok (D.int (ps.map Pg.d).length) s=_;rw[É]) ?_;simp only[VC];by_cases h:ps.length<=24
 ·have Z:(ps.length:Int)<=24:=by omega
  erw[h,Z,Ķ,ò,ú];refine aeP (nk rfl) ⟨le_size (by rw[É];omega),?_⟩;refine aeP (comp_map Pg.d (λ_=>ό) (λp=>.bl (dX p)) ps λp Y=>⟨[ϊ p.d],rfl,rfl,λ_=>?_⟩) ?_
  ·refine aeQ ?_
   simp only[VC,C0 (hf p Y),Ĥ]
  ·rw[filter_tt]
   refine aeP (qj _ _ _) ?_;simp only[VC]
   cases ps.all dX with
   |false=>simp
   |true =>
    erw[ò,ú];exact aeP (SV hl) ⟨rfl,rfl⟩
 ·have Z:¬ (ps.length:Int)<=24:=by omega
  simp[h,Z]
def _root_.TK.Pg.day:Pg->Int
 | .made _ d _ _=>d
 | .c8 _ d _=>d
def Bh (m k:Int):Pg->Bool
 | .made Z _ h _=>ώ (Z=m)&&ώ (k∈h)
 |_=>ύ
def Bi (m k:Int):Pg->Bool
 | .made Z _ _ l=>ώ (Z=m)&&ώ (k∈l)
 |_=>ύ
def Bj (m k:Int):Pg->Bool
 | .c8 Z _ Y=>ώ (Z=m)&&ώ (Y=k)
 |_=>ύ
def shown (ps:List Pg) (m k:Int):List Int:=(ps.filter (Bh m k)).map Pg.day
def fx (ps:List Pg) (m k:Int):List Int:=(ps.filter (Bi m k)).map Pg.day
def dG (ps:List Pg) (m k:Int):List Int:=(ps.filter (Bj m k)).map Pg.day
abbrev lI (ns:List Int):D:=.lst (ns.map D.int)
def kN (a b c d:D) (s:ae):ay (.tup [a,b,c,d]) (.int 0) s=ok a s/\ay (.tup [a,b,c,d]) (.int 1) s=ok b s/\ay (.tup [a,b,c,d]) (.int 2) s=ok c s/\ay (.tup [a,b,c,d]) (.int 3) s=ok d s:=⟨rfl,rfl,rfl,rfl⟩
def ve (a b:D) (s:ae):ay (.tup [a,b]) (.int 0) s=ok a s/\ay (.tup [a,b]) (.int 1) s=ok b s:=⟨rfl,rfl⟩
def Hm (p:Pg) (s:ae):ay p.d (.int 1) s=ok (.int (match p with | .made m _ _ _=>m | .c8 m _ _=>m)) s/\ay p.d (.int 2) s=ok (.int p.day) s:=by cases p<;>exact⟨rfl,rfl⟩
def zz (hl:ps.length<=1000):l8 [bD ps,.int m,.int k,.int 0] s=ok (lI (shown ps m k)) s/\l8 [bD ps,.int m,.int k,.int 1] s=ok (lI (fx ps m k)) s:=by
 constructor
 ·refine aeQ ?_
  delta l8;simp only[VC];refine aeP (nk rfl) ⟨le_size (by rw[É];omega),?_⟩;refine aeP (comp_map Pg.d (Bh m k) (λp=>.int p.day) ps λp Y=>⟨[ϊ p.d,ϊ (.int m),ϊ (.int k),ϊ (.int 0)],rfl,?_,λ_=>?_⟩) ?_
  ·refine aeQ ?_
   cases p with
   |made Z d h l =>
    simp only[VC,Pg.d];rw[(kN _ _ _ _ s).1];simp only[VC,mU,Ķ,ò];rw[(kN _ _ _ _ s).2.1];simp only[VC,Bh];by_cases e:Z=m
    ·erw[e,Ė,ò,Ķ,ú]
     rw[(kN _ _ _ _ s).2.2.2];simp only[VC];rw[(ve _ _ s).1];simp only[VC];refine aeP (zy (ns:=h)) ?_;simp only[VC,Ĥ]
    ·simp[e]
   |c8 Z d X =>
    simp only[VC,Pg.d];rw[(kN _ _ _ _ s).1];simp only[VC,mU,Ì CZ,Æ,ï,Bh,Ĥ]
  ·refine aeQ ?_
   simp only[VC,(Hm p s).2,Ĥ]
  ·erw[shown,lI,Ġ,Ş,Ĥ]
 ·refine aeQ ?_
  delta l8;simp only[VC];refine aeP (nk rfl) ⟨le_size (by rw[É];omega),?_⟩;refine aeP (comp_map Pg.d (Bi m k) (λp=>.int p.day) ps λp Y=>⟨[ϊ p.d,ϊ (.int m),ϊ (.int k),ϊ (.int 1)],rfl,?_,λ_=>?_⟩) ?_
  ·refine aeQ ?_
   cases p with
   |made Z d h l =>
    simp only[VC,Pg.d];rw[(kN _ _ _ _ s).1];simp only[VC,mU,Ķ,ò];rw[(kN _ _ _ _ s).2.1];simp only[VC,Bi];by_cases e:Z=m
    ·erw[e,Ė,ò,Ķ,ú]
     rw[(kN _ _ _ _ s).2.2.2];simp only[VC];rw[(ve _ _ s).2];simp only[VC];refine aeP (zy (ns:=l)) ?_;simp only[VC,Ĥ]
    ·simp[e]
   |c8 Z d X =>
    simp only[VC,Pg.d];rw[(kN _ _ _ _ s).1];simp only[VC,mU,Ì CZ,Æ,ï,Bi,Ĥ]
  ·refine aeQ ?_
   simp only[VC,(Hm p s).2,Ĥ]
  ·erw[fx,lI,Ġ,Ş,Ĥ]
def C3 (hl:ps.length<=1000):rP [bD ps,.int m,.int k] s=ok (lI (dG ps m k)) s:=by
 refine aeQ ?_;delta rP;simp only[VC];refine aeP (nk rfl) ⟨le_size (by rw[É];omega),?_⟩;refine aeP (comp_map Pg.d (Bj m k) (λp=>.int p.day) ps λp X=>⟨[ϊ p.d,ϊ (.int m),ϊ (.int k)],rfl,?_,λ_=>?_⟩) ?_
 ·refine aeQ ?_
  cases p with
  |c8 Z d Y =>
   simp only[VC,Pg.d];rw[(kN _ _ _ _ s).1];simp only[VC,mU,Ķ,ò];rw[(kN _ _ _ _ s).2.1];simp only[VC,Bj];by_cases e:Z=m
   ·erw[e,Ė,ò,Ķ,ú]
    rw[(kN _ _ _ _ s).2.2.2];simp only[VC]
    by_cases e:Y=k<;>simp[e]
   ·simp[e]
  |made Z d h l =>
   simp only[VC,Pg.d];rw[(kN _ _ _ _ s).1];simp only[VC,mU,Ì XG,Æ,ï,Bj,Ĥ]
 ·refine aeQ ?_
  simp only[VC,(Hm p s).2,Ĥ]
 ·erw[dG,lI,Ġ,Ş,Ĥ]
def Nl (h:n<=1000):n<=Õ:=le_size ⋯
def xn:ff (.int x) (lI ns) s=ok (.bl (ώ (x∈ns))) s:=by
 show ff (.int x) (mD ns) s=_;exact zy
def zh:fV (.int x) (lI ns) s=ok (.bl (!ώ (x∈ns))) s:=by
 show fV (.int x) (mD ns) s=_;exact SU
def Pc (ds:List Int) (a b:Int):Bool:=ds.any λx=>ώ (a<x)&&ώ (x<=b)
def Uy (hl:ds.length<=1000):yF [lI ds,.int a,.int b] s=ok (.bl (Pc ds a b)) s:=by
 refine aeQ ?_;delta yF;simp only[VC];refine aeP (nq rfl) ⟨Nl (by rw[É];omega),?_⟩;refine aeP (vN (λ_=>ό) (λx=>.bl (ώ (a<x)&&ώ (x<=b))) ds λn _=>⟨[ϊ (.int n),ϊ (.int a),ϊ (.int b)],rfl,rfl,λ_=>?_⟩) ?_
 ·refine aeQ ?_
  simp only[VC]
  by_cases e:a<n<;>simp[e,bF,zT,bx,aR]
 ·rw[filter_tt]
  exact aeP (Lj _ _ _) ⟨rfl,rfl⟩
def Bl (ps:List Pg) (m k d l:Int):Bool:=(ώ (l∈fx ps m k)||(ώ (l=d)&&ώ (d∈dG ps m k)))&&!Pc (dG ps m k) d l
def qv (d:Int):List Int:=(è (31-d).toNat).map λi:Nat=>d+(i:Int)
def oG (ps:List Pg) (m k:Int):List (Int×Int):=(gF (shown ps m k)).flatMap λd=>((qv d).filter (Bl ps m k d)).map λl=>(d,l)
def zi {ps:List Pg} {f:Pg->Bool}:((ps.filter f).map Pg.day).length<=ps.length:=by rw[É];exact ū _ _
theorem sG {α β:Type} {f:α->List β} {b:Nat}:∀{l:List α},(∀x∈l,(f x).length<=b)->(l.flatMap f).length<=l.length*b
 | [],_=>by simp
 |x::l,h=>by
  rw[List.flatMap_cons,ä,â,Nat.succ_mul];have Y:=h x ß;have X:=sG (l:=l) λy Z=>h y (Ï _ Z);omega
def JY (d:Int) (h:0<=d):(qv d).length<=31:=by delta qv;rw[É,List.length_range];omega
structure uD (ps:List Pg):Prop where
 len:ps.length<=24
 lo:∀p∈ps,0<=p.day/\p.day<31
def uD.of (h:uD ps) (hx:x∈(ps.filter f).map Pg.day):0<=x/\x<31:=by
 obtain⟨p,Z,rfl⟩:=ĉ.mp hx;exact h.lo p (ĥ.mp Z).1
def SW {ps:List Pg} {m k:Int} {s:ae} (h:uD ps):vL [bD ps,.int m,.int k] s=ok (.lst ((oG ps m k).map λp=>D.tup [.int p.1,.int p.2])) s:=by
 have Y:=h.len;have R:(shown ps m k).length<=24:=Ý zi Y;have Q:(fx ps m k).length<=24:=Ý zi Y;have P:(dG ps m k).length<=24:=Ý zi Y;refine aeQ ?_;delta vL;simp only[VC];refine aeP (zz ⋯).2 ?_;refine aeP (C3 ⋯) ?_;rw[Cn];have T:cI (e1 sy (aG l8 (af (aa 0) (af (aa 1) (af (aa 2) (af (eC (.int (0))) ah)))))) [ϊ (bD ps),ϊ (.int m),ϊ (.int k),ϊ (lI (fx ps m k)),ϊ (lI (dG ps m k))] s=ok ((gF (shown ps m k)).map D.int) s:=by
  refine nq (aeQ ?_);simp only[VC];refine aeP (zz ⋯).1 ?_;refine aeP (show sy (lI (shown ps m k)) s=ok (lI (gF (shown ps m k))) s from ?_) ⟨rfl,rfl⟩;delta sy;erw[TQ];rw[Ñ (by have:=BR (shown ps m k);rw[Ë];omega)]
 refine aeP T ?_;have day:∀d∈gF (shown ps m k),0<=d/\d<31:=λd Z=>h.of (vK.mp Z);refine aeP (tm D.int (λ_=>ό) (λd=>((qv d).filter (Bl ps m k d)).map λl=>D.tup [.int d,.int l]) _ λd Z=>⟨[ϊ (.int d),ϋ,ϊ (lI (fx ps m k)),ϊ (lI (dG ps m k))],rfl,rfl,λ_=>?_⟩) ?_
 ·have Z:=day d Z
  delta more;rw[ZO (i:=d) (j:=31) rfl ⋯ ⋯ ⋯ ⋯,bV];have S:dg d (31-d).toNat=(qv d).map D.int:=by delta qv;rw[Me,Ġ];rfl
  rw[S];rw[tm D.int (Bl ps m k d) (λl=>[D.tup [.int d,.int l]]) (qv d) λl Y=>⟨[ϊ (.int d),ϊ (.int l),ϊ (lI (fx ps m k)),ϊ (lI (dG ps m k))],rfl,?_,λ_=>?_⟩]
  ·rw[<- aey]
  ·refine aeQ ?_
   simp only[VC,xn];delta Bl;have X:=Uy (ds:=dG ps m k) (a:=d) (b:=l) (s:=s) ⋯;by_cases W:l∈fx ps m k
   ·simp only[VC,W,Ķ,ò,Bool.true_or,ú]
    exact aeP X (by simp only[VC,Ĥ])
   ·erw[W,decide_false,Æ,ï,Bool.false_or]
    by_cases V:l=d
    ·subst V
     simp only[VC,Ė,ò,Ķ,ú];by_cases U:l∈dG ps m k
     ·erw[U,Ķ,ò,ú]
      exact aeP X (by simp only[VC,Ĥ])
     ·simp[U]
    ·simp[V]
  ·refine aeQ ?_
   delta emit;rw[bP];simp only[VC];exact⟨by decide,trivial⟩
 ·rw[filter_tt]
  refine⟨?_,?_,rfl⟩
  ·refine Nl (Ý (sG (b:=31) λd Z=>?_) ?_)
   ·rw[É]
    exact Ý (ū _ _) (JY d (day d Z).1)
   ·have:=BR (shown ps m k)
    have:(gF (shown ps m k)).length<=24:=by omega
    omega
  ·delta oG
   erw[List.map_flatMap,Ġ,Ş]
def m4:List Int:=(è 4).map λi:Nat=>(i:Int)
def k8:List Int:=(è 8).map λi:Nat=>(i:Int)
def tw (ps:List Pg):List (Int×Int×Int×Int):=m4.flatMap λm=>k8.flatMap λk=>(oG ps m k).map λp=>(m,k,p.1,p.2)
def fD (p:Int×Int×Int×Int):D:=.tup [.int p.1,.int p.2.1,.int p.2.2.1,.int p.2.2.2]
def Uz {ps:List Pg} (h:uD ps) (m k:Int):(oG ps m k).length<=744:=by
 have Y:(shown ps m k).length<=24:=Ý zi h.len;have:=BR (shown ps m k);refine Ý (sG (b:=31) λd Z=>?_) ⋯;rw[É];exact Ý (ū _ _) (JY d (h.of (vK.mp Z)).1)
def UA {ps:List Pg} {s:ae} (h:uD ps):yR [bD ps] s=ok (.lst ((tw ps).map fD)) s:=by
 refine aeQ ?_;delta yR;erw[dP,bW,jF,à,Ō,ħ,Ļ,â,Ą,Ö,true_and,Nat.reduceSub,Nat.reduceAdd];rw[Cn];refine aeP (mr (n:=4) rfl (by decide)) ?_;have Z:dg 0 4=m4.map D.int:=rfl;have Y:dg 0 8=k8.map D.int:=rfl;rw[Z];refine aeP (tm D.int (λ_=>ό) (λm=>k8.flatMap λk=>(oG ps m k).map λp=>fD (m,k,p.1,p.2)) m4 λm X=>⟨[ϊ (.int m),ϋ,ϋ,ϋ,ϊ (bD ps)],rfl,rfl,λ_=>?_⟩) ?_
 ·delta more
  rw[mr (n:=8) rfl (by decide),bV,Y];rw[tm D.int (λ_=>ό) (λk=>(oG ps m k).map λp=>fD (m,k,p.1,p.2)) k8 λk W=>⟨[ϊ (.int m),ϊ (.int k),ϋ,ϋ,ϊ (bD ps)],rfl,rfl,λ_=>?_⟩]
  ·rw[filter_tt]
  ·have V:cI (aG vL (af (aa 4) (af (aa 0) (af (aa 1) ah)))) [ϊ (.int m),ϊ (.int k),ϋ,ϋ,ϊ (bD ps)] s=ok ((oG ps m k).map λp=>D.tup [.int p.1,.int p.2]) s:=by
    refine nq (aeQ ?_);simp only[VC];exact aeP (SW h) ⟨rfl,rfl⟩
   rw[V,bV];rw[tm (λp:Int×Int=>D.tup [.int p.1,.int p.2]) (λ_=>ό) (λp=>[fD (m,k,p.1,p.2)]) (oG ps m k) λp U=>⟨[ϊ (.int m),ϊ (.int k),ϊ (.int p.1),ϊ (.int p.2),ϊ (bD ps)],rfl,rfl,λ_=>?_⟩]
   ·rw[filter_tt,<- aey]
   ·refine aeQ ?_
    delta emit;rw[bP];simp only[VC];exact⟨by decide,rfl,trivial⟩
 ·rw[filter_tt]
  refine⟨?_,?_,rfl⟩
  ·refine le_size (Ý (sG (b:=8*744) λm X=>?_) (by decide))
   refine Ý (sG (b:=744) λk W=>?_) (by decide);rw[É];exact Uz h m k
  ·delta tw
   erw[List.map_flatMap,Ġ,Ş]
def dH (ps:List Pg):Bool:=nM ps&&(tw ps).isEmpty
def UB (h:nM ps=ό):uD ps:=by
 delta nM at h;erw[Å,Ë,ô] at h;refine⟨h.1,λp Z=>?_⟩;have:=h.2.1 p Z
 cases p<;>erw[dX,jm,Å,Ë] at this<;>exact this.1.2
def Mg (hl:ps.length<=1000) (hf:∀p∈ps,jn p):sv [bD ps] s=ok (.bl (dH ps)) s:=by
 refine aeQ ?_;delta sv;simp only[VC];refine aeP (XH hl hf) ?_;simp only[VC];delta dH
 cases h:nM ps with
 |false=>simp
 |true =>
  erw[ò,ú];delta Ej;simp only[VC,bP];refine aeP (UA (UB h)) ?_;refine aeP (show truth (.lst ((tw ps).map fD)) s=ok (!((tw ps).map fD).isEmpty) s from rfl) ?_;erw[bF];refine⟨?_,trivial⟩
  cases tw ps<;>rfl
def Nm:m∈k8↔0<=m/\m<8:=by
 delta k8;rw[ĉ];constructor
 ·rintro ⟨i,Z,rfl⟩
  have:=ċ.mp Z;omega
 ·rintro ⟨Y,X⟩
  exact⟨m.toNat,ċ.mpr ⋯,by omega⟩
section
variable (s l m:Nat->Bool)
def pr:Nat->Bool
 |0=>s 0
 |d+1=>s (d+1)||(pr d&&!m (d+1))
def iB:Nat->Bool
 |0=>ύ
 |n+1=>(iB n||l (30-n))&&!m (30-n)
def br (d:Nat):Bool:=iB l m (31-d)
def ab (d:Nat):Bool:=br l m (d+1)||(l d||m d)
def f0 (d:Nat):Bool:=!s d
def t0 (d:Nat):Bool:=!m d&&!l d
def XI:Prop:=∀d e,s d=ό->d<=e->e<=30->(l e=ό\/(e=d/\m d=ό))->∃x,d<x/\x<=e/\m x=ό
variable {s l m}
section
variable (N:XI s l m)
include N
end
end
theorem Mh:∀{ns:List Int},rise ns=ό->ns.Pairwise (· < ·)
 | [],_=>.nil
 | [a],_=>by simp
 |a::b::r,h=>by
  erw[rise,Å,Ë] at h;have ih:=Mh h.2;refine ø.mpr ⟨λx hx=>?_,ih⟩
  rcases Û.mp hx with rfl|hx
  ·exact h.1
  ·have:=(ø.mp ih).1 x hx
   omega
def sm (h:fY ns=ό):fS 8 ns:=by
 delta fY at h;rw[Å,ô] at h;refine⟨λx Z=>?_,Mh h.2⟩;have:=h.1 x Z;delta markB at this;erw[Å,Ë] at this;exact this
def JZ (h:fS n ns) (hn:n<=8):fY ns=ό:=by
 delta fY;rw[Å,ô];refine⟨λx Z=>?_,XF h.up⟩;have:=h.lo x Z;delta markB;erw[Å,Ë];omega
theorem fS.filter (h:fS n ns) (p:Int->Bool):fS n (ns.filter p):=⟨λx Z=>h.lo x (ĥ.mp Z).1,h.up.filter p⟩
def BX (h:dX p=ό):jn p:=by
 cases p with
 |made m d Z l =>
  erw[dX,Å] at h;exact⟨by have:=(sm h.2.1).len;omega,by have:=(sm h.2.2.1).len;omega⟩
 |c8 m d k=>trivial
def DAt (W:ā) (R:Pg->Prop) (s:ae) (j n:Nat):Prop:=∃Z:List Pg,s[j]?=ϊ (.dT (Z.map λp=>(p.d,Y W p.d)))/\(Z.Nodup/\∀p∈Z,R p)/\Z.length<=n
def Wb (h:ps.Nodup):(ST.dB cy ps).Pairwise λa b=>cy.lt a b=ό:=by
 have Y:=ST.K4 (O:=cy) ps;have X:(ST.dB cy ps).Nodup:=(ST.sd ps).nodup_iff.mpr h;refine(Y.and X).imp λ{a b} Z=>?_
 cases W:cy.lt a b with
 |true=>rfl
 |false=>exact(Z.2 (cy.yu a b W Z.1)).elim
def Wp.abl (h:Wp (fa env s) λds s=>∃x y z,ds=[x,y,z]/\QF (.nx (((env.set i (ϊ x)).set j (ϊ y)).set k (ϊ z))) s):Wp (AI i j k fa env s) QF:=by
 delta AI;refine Wp.ai (h.mono λds s ⟨x,y,z,e,q⟩=>?_);subst e;exact Wp.ok q
abbrev PGB (p:Pg):Prop:=dX p=ό
structure Laid (ps:List Pg):Prop where
 pg:∀p∈ps,dX p=ό
 up:ps.Pairwise λa b=>cy.lt a b=ό
def Laid.sub (h:Laid ps) (hs:qs.Sublist ps):Laid qs:=⟨λp Z=>h.pg p (hs.subset Z),h.up.sublist hs⟩
def IAt (s:ae) (j n:Nat):Prop:=∃Z:List Int,s[j]?=ϊ (.lst (Z.map D.int))/\Z.length<=n
structure BI (W:ā) (k j b n q:Nat) (s0 s:ae):Prop where
 st:O8 s k
 dict:DAt W PGB s j n
 c8:∀i,i<8->IAt s (b+i) q
 ext:Ex k s0 s
section
variable (ps:List Pg) (m k:Int)
def sN (d:Nat):Bool:=ώ ((d:Int)∈shown ps m k)
def lN (d:Nat):Bool:=ώ ((d:Int)∈fx ps m k)
def mN (d:Nat):Bool:=ώ ((d:Int)∈dG ps m k)
def iC:List Int:=((è 31).filter λd=>pr (sN ps m k) (mN ps m k) d).map λd:Nat=>(d:Int)
def gM:List Int:=((è 31).filter λn=>ab (lN ps m k) (mN ps m k) (30-n)).map λn:Nat=>((30-n:Nat):Int)
end
def XJ {m k:Int} {d:Nat} (h:d<=30):ώ ((d:Int)∈iC ps m k)=pr (sN ps m k) (mN ps m k) d:=by
 have:(d:Int)∈iC ps m k↔pr (sN ps m k) (mN ps m k) d=ό:=by
  delta iC;rw[ĉ];constructor
  ·rintro ⟨e,Y,X⟩
   have:e=d:=by omega
   rw[<- this];exact(ĥ.mp Y).2
  ·intro Z
   exact⟨d,ĥ.mpr ⟨ċ.mpr ⋯,Z⟩,rfl⟩
 cases Z:pr (sN ps m k) (mN ps m k) d with
 |true=>exact È (this.mpr Z)
 |false=>exact Ì λz=>by rw[this.mp z] at Z;cases Z
def XM {m k:Int} {d:Nat} (h:d<=30):ώ ((d:Int)∈gM ps m k)=ab (lN ps m k) (mN ps m k) d:=by
 have:(d:Int)∈gM ps m k↔ab (lN ps m k) (mN ps m k) d=ό:=by
  delta gM;rw[ĉ];constructor
  ·rintro ⟨e,Y,V⟩
   obtain⟨X,W⟩:=ĥ.mp Y;have:=ċ.mp X;have:30-e=d:=by omega
   rw[<- this];exact W
  ·intro Z
   exact⟨30-d,ĥ.mpr ⟨ċ.mpr ⋯,by rw[show 30-(30-d)=d by omega];exact Z⟩,by omega⟩
 cases Z:ab (lN ps m k) (mN ps m k) d with
 |true=>exact È (this.mpr Z)
 |false=>exact Ì λz=>by rw[this.mp z] at Z;cases Z
def Mi {s:ae} {ns:List Int} {x:Int} (hn:ns.length<1000):lG (.aj s.length) (s++[.lst (ns.map D.int)])=ό/\lF (.aj s.length) (.int x) (s++[.lst (ns.map D.int)])=ok .ar (s++[.lst ((ns++[x]).map D.int)]):=by
 have e:(s++[Cell.lst (ns.map D.int)])[s.length]?=ϊ (.lst (ns.map D.int)):=by simp
 refine⟨by erw[lG,e],?_⟩;delta lF;erw[e];rw[Ñ (by rw[Ë,É];exact Ê hn (le_size (by decide)))];simp[ac4]
def Mj {s:ae} {ns:List Int}:bo (.aj s.length) (s++[.lst (ns.map D.int)])=ok (lI ns) (s++[.dead]):=by
 have e:(s++[Cell.lst (ns.map D.int)])[s.length]?=ϊ (.lst (ns.map D.int)):=by simp
 erw[bo,e];simp[ac4]
def J0 {p:Nat->Bool} {f:Nat->Int} {i:Nat}:((è (i+1)).filter p).map f=((è i).filter p).map f++(if p i=ό then [f i] else []):=by
 rw[List.range_succ,List.filter_append,Ĩ];congr 1
 cases h:p i<;>simp[h]
def Kw {p:Nat->Bool} {f:Nat->Int} {i:Nat}:(((è i).filter p).map f).length<=i:=by
 rw[É];exact Ý (ū _ _) (by rw[List.length_range];exact aeS _)
def pv (s m:Nat->Bool):Nat->Bool
 |0=>ύ
 |i+1=>pr s m i
def SX (hl:ps.length<=1000):yH [bD ps,.int m,.int k] s=ok (lI (iC ps m k)) (s++[.dead]):=by
 refine aeQ ?_;delta yH;simp only[VC];refine aeP (zz hl).1 ?_;refine aeP (C3 hl) ?_
 try simp only[VC]
 refine⟨by decide,?_⟩;refine aeP (mr (n:=31) rfl (by decide)) ?_;refine Wp.qV (λi env Y=>i<=31->∃Z,env=[ϊ (bD ps),ϊ (.int m),ϊ (.int k),ϊ (lI (shown ps m k)),ϊ (lI (dG ps m k)),ϊ (.aj s.length),ϊ (.bl (pv (sN ps m k) (mN ps m k) i)),Z]/\Y=s++[.lst ((((è i).filter λd=>pr (sN ps m k) (mN ps m k) d).map λd:Nat=>(d:Int)).map D.int)]) _ (λ_=>⟨_,rfl,rfl⟩) (λi d env Y W V=>?_) (λenv Y V=>?_)
 ·rw[sL] at W
  split at W
  ·rename_i O
   cases W;obtain⟨Z,rfl,rfl⟩:=V ⋯;refine⟨_,rfl,?_⟩;have U:(0:Int)+(i:Int)=i:=by omega
   have key:(ώ ((i:Int)∈shown ps m k)||(pv (sN ps m k) (mN ps m k) i&&!ώ ((i:Int)∈dG ps m k)))=pr (sN ps m k) (mN ps m k) i:=by
    cases i with
    |zero=>simp[pv,pr,sN]
    |succ i=>rfl
   have fin:∀c:Bool,c=pr (sN ps m k) (mN ps m k) i->if c=ό then lG (.aj s.length) (s++[.lst ((((è i).filter λd=>pr (sN ps m k) (mN ps m k) d).map λd:Nat=>(d:Int)).map D.int)])=ό/\Wp (lF (.aj s.length) (.int (0+(i:Int))) (s++[.lst ((((è i).filter λd=>pr (sN ps m k) (mN ps m k) d).map λd:Nat=>(d:Int)).map D.int)])) λx Y=>i+1<=31->∃Z,([ϊ (bD ps),ϊ (.int m),ϊ (.int k),ϊ (lI (shown ps m k)),ϊ (lI (dG ps m k)),ϊ (.aj s.length),ϊ (.bl c),ϊ (.int (0+(i:Int)))]:Env)=[ϊ (bD ps),ϊ (.int m),ϊ (.int k),ϊ (lI (shown ps m k)),ϊ (lI (dG ps m k)),ϊ (.aj s.length),ϊ (.bl (pv (sN ps m k) (mN ps m k) (i+1))),Z]/\Y=s++[.lst ((((è (i+1)).filter λd=>pr (sN ps m k) (mN ps m k) d).map λd:Nat=>(d:Int)).map D.int)]
     else i+1<=31->∃Z,([ϊ (bD ps),ϊ (.int m),ϊ (.int k),ϊ (lI (shown ps m k)),ϊ (lI (dG ps m k)),ϊ (.aj s.length),ϊ (.bl c),ϊ (.int (0+(i:Int)))]:Env)=[ϊ (bD ps),ϊ (.int m),ϊ (.int k),ϊ (lI (shown ps m k)),ϊ (lI (dG ps m k)),ϊ (.aj s.length),ϊ (.bl (pv (sN ps m k) (mN ps m k) (i+1))),Z]/\s++[.lst ((((è i).filter λd=>pr (sN ps m k) (mN ps m k) d).map λd:Nat=>(d:Int)).map D.int)]=s++[.lst ((((è (i+1)).filter λd=>pr (sN ps m k) (mN ps m k) d).map λd:Nat=>(d:Int)).map D.int)]:=λc T=>by
    rw[J0];have R:pv (sN ps m k) (mN ps m k) (i+1)=c:=T.symm;rw[R,<- T]
    cases c with
    |true =>
     rw[Ñ rfl];obtain⟨Q,P⟩:=Mi (s:=s) (ns:=((è i).filter λd=>pr (sN ps m k) (mN ps m k) d).map λd:Nat=>(d:Int)) (x:=0+(i:Int)) (ς Kw ⋯);exact⟨Q,aeP P λ_=>⟨_,rfl,by rw[U];rfl⟩⟩
    |false =>
     rw[Ú Ä];exact λ_=>⟨_,rfl,by simp⟩
   simp only[VC,xn,U];rw[U] at fin;by_cases X:(i:Int)∈shown ps m k
   ·erw[X,Ķ,ò]
    exact fin ό (by rw[<- key,È X];rfl)
   ·erw[X,decide_false,Æ,ï]
    cases S:pv (sN ps m k) (mN ps m k) i with
    |false =>
     simp only[VC,Æ,ï];exact fin ύ (by rw[<- key,Ì X,S];rfl)
    |true =>
     simp only[VC,ò,zh];exact fin _ (by rw[<- key,Ì X,S];rfl)
  ·cases W
 ·rw[qg] at V
  obtain⟨Z,rfl,rfl⟩:=V (aeS _);simp only[VC];exact aeP Mj ⟨rfl,rfl⟩
def downs:List D:=(è 31).map λn:Nat=>D.int ((30-n:Nat):Int)
def ZS:GS (af (eC (.int 31)) ah) env s=ok downs s:=by
 have:(dg 0 31).reverse=downs:=by rfl
 rw[<- this];rfl
def UC:downs[i]?=if i<31 then ϊ (.int ((30-i:Nat):Int)) else ϋ:=by
 delta downs;rw[ê];by_cases h:i<31
 ·rw[Ñ h,Ŀ h];rfl
 ·rw[Ú h,ğ (by simpa using h)];rfl
abbrev jy (ps:List Pg) (m k:Int) (i:Nat):List Int:=((è i).filter λn=>ab (lN ps m k) (mN ps m k) (30-n)).map λn:Nat=>((30-n:Nat):Int)
def UD (hl:ps.length<=1000):yJ [bD ps,.int m,.int k] s=ok (lI (gM ps m k)) (s++[.dead]):=by
 refine aeQ ?_;delta yJ;simp only[VC];refine aeP (zz hl).2 ?_;refine aeP (C3 hl) ?_
 try simp only[VC]
 refine⟨by decide,?_⟩;refine aeP ZS ?_;refine Wp.qV (λi env Z=>i<=31->∃W,env=[ϊ (bD ps),ϊ (.int m),ϊ (.int k),ϊ (lI (fx ps m k)),ϊ (lI (dG ps m k)),ϊ (.aj s.length),ϊ (.bl (iB (lN ps m k) (mN ps m k) i)),W]/\Z=s++[.lst ((jy ps m k i).map D.int)]) _ (λ_=>⟨_,rfl,rfl⟩) (λi d env Z X U=>?_) (λenv Z U=>?_)
 ·rw[UC] at X
  split at X
  ·rename_i J
   cases X;obtain⟨W,rfl,rfl⟩:=U ⋯;refine⟨_,rfl,?_⟩;generalize X:((30-i:Nat):Int)=d;have L:ab (lN ps m k) (mN ps m k) (30-i)=(iB (lN ps m k) (mN ps m k) i||(ώ (d∈fx ps m k)||ώ (d∈dG ps m k))):=by
    delta ab br lN mN;rw[show 31-(30-i+1)=i by omega,X]
   have K:iB (lN ps m k) (mN ps m k) (i+1)=((iB (lN ps m k) (mN ps m k) i||ώ (d∈fx ps m k))&&!ώ (d∈dG ps m k)):=by
    show ((iB _ _ i||lN ps m k (30-i))&&!mN ps m k (30-i))=_;delta lN mN;rw[X]
   have sec:∀Y,Y=s++[.lst ((jy ps m k (i+1)).map D.int)]->Wp (bc (cO (lT (aa 6) (e2 ff (aa 7) (aa 3))) (e2 fV (aa 7) (aa 4))) (gN 6) [ϊ (bD ps),ϊ (.int m),ϊ (.int k),ϊ (lI (fx ps m k)),ϊ (lI (dG ps m k)),ϊ (.aj s.length),ϊ (.bl (iB (lN ps m k) (mN ps m k) i)),ϊ (.int d)] Y) λT Z=>match T with
     | .nx env=>i+1<=31->∃W,env=[ϊ (bD ps),ϊ (.int m),ϊ (.int k),ϊ (lI (fx ps m k)),ϊ (lI (dG ps m k)),ϊ (.aj s.length),ϊ (.bl (iB (lN ps m k) (mN ps m k) (i+1))),W]/\Z=s++[.lst ((jy ps m k (i+1)).map D.int)]
     | .ct env=>i+1<=31->∃W,env=[ϊ (bD ps),ϊ (.int m),ϊ (.int k),ϊ (lI (fx ps m k)),ϊ (lI (dG ps m k)),ϊ (.aj s.length),ϊ (.bl (iB (lN ps m k) (mN ps m k) (i+1))),W]/\Z=s++[.lst ((jy ps m k (i+1)).map D.int)]
     | .bk env=>fG (aA (oV (aa 5))) (pd λa Z=>a=lI (gM ps m k)/\Z=s++[.dead]) (.nx env) Z
     | .rt d=>fG (aA (oV (aa 5))) (pd λa Z=>a=lI (gM ps m k)/\Z=s++[.dead]) (.rt d) Z:=λY S=>by
    simp only[VC,xn,zh];rw[K]
    cases iB (lN ps m k) (mN ps m k) i with
    |true =>
     simp only[VC,ò,zh];exact λ_=>⟨ϊ (.int d),by simp,S⟩
    |false =>
     erw[Æ,ï,Bool.false_or];by_cases c:d∈fx ps m k
     ·simp only[VC,c,Ķ,ò,zh]
      exact λ_=>⟨ϊ (.int d),by simp,S⟩
     ·erw[c,decide_false,Æ,ï]
      exact λ_=>⟨ϊ (.int d),by simp,S⟩
   have P:=Mi (s:=s) (ns:=jy ps m k i) (x:=d) (ς Kw ⋯)
   have O:jy ps m k (i+1)=jy ps m k i++(if ab (lN ps m k) (mN ps m k) (30-i)=ό then [d] else []):=by
    rw[<- X];exact J0
   have yes:ab (lN ps m k) (mN ps m k) (30-i)=ό->Wp (cF (mB (aa 5) (aa 7)) [ϊ (bD ps),ϊ (.int m),ϊ (.int k),ϊ (lI (fx ps m k)),ϊ (lI (dG ps m k)),ϊ (.aj s.length),ϊ (.bl (iB (lN ps m k) (mN ps m k) i)),ϊ (.int d)] (s++[.lst ((jy ps m k i).map D.int)])) λT Z=>T=.nx [ϊ (bD ps),ϊ (.int m),ϊ (.int k),ϊ (lI (fx ps m k)),ϊ (lI (dG ps m k)),ϊ (.aj s.length),ϊ (.bl (iB (lN ps m k) (mN ps m k) i)),ϊ (.int d)]/\Z=s++[.lst ((jy ps m k (i+1)).map D.int)]:=λR=>by
    simp only[VC];refine⟨P.1,aeP P.2 ?_⟩;rw[O,R];simp
   have no:ab (lN ps m k) (mN ps m k) (30-i)=ύ->s++[Cell.lst ((jy ps m k i).map D.int)]=s++[Cell.lst ((jy ps m k (i+1)).map D.int)]:=λR=>by
    rw[O,R];simp
   have go:∀{c:Bool},c=ab (lN ps m k) (mN ps m k) (30-i)->∀{Q:Fl->ae->Prop},(∀Y,Y=s++[.lst ((jy ps m k (i+1)).map D.int)]->Q (.nx [ϊ (bD ps),ϊ (.int m),ϊ (.int k),ϊ (lI (fx ps m k)),ϊ (lI (dG ps m k)),ϊ (.aj s.length),ϊ (.bl (iB (lN ps m k) (mN ps m k) i)),ϊ (.int d)]) Y)->if c=ό then Wp (cF (mB (aa 5) (aa 7)) [ϊ (bD ps),ϊ (.int m),ϊ (.int k),ϊ (lI (fx ps m k)),ϊ (lI (dG ps m k)),ϊ (.aj s.length),ϊ (.bl (iB (lN ps m k) (mN ps m k) i)),ϊ (.int d)] (s++[.lst ((jy ps m k i).map D.int)])) Q else Wp (bH [ϊ (bD ps),ϊ (.int m),ϊ (.int k),ϊ (lI (fx ps m k)),ϊ (lI (dG ps m k)),ϊ (.aj s.length),ϊ (.bl (iB (lN ps m k) (mN ps m k) i)),ϊ (.int d)] (s++[.lst ((jy ps m k i).map D.int)])) Q:=λ{c} N {Q} q=>by
    cases c with
    |true =>
     rw[Ñ rfl];exact(yes N.symm).mono λT Y ⟨e1,e2⟩=>by subst e1;exact q Y e2
    |false =>
     rw[Ú Ä,dF];exact q _ (no N.symm)
   rw[ow,oF];erw[kf,qr,aR,bx,kU,eO,bj,xn,bF,cC,Ĝ,ĝ];rw[L] at go
   cases M:iB (lN ps m k) (mN ps m k) i with
   |true =>
    erw[ò];rw[M] at go sec;exact go (c:=ό) rfl λY V=>sec Y V
   |false =>
    erw[Æ,ï];rw[M] at go sec;by_cases c:d∈fx ps m k
    ·erw[c,Ķ,ò]
     exact go (c:=ό) (by simp[c]) λY V=>sec Y V
    ·erw[c,decide_false,Æ,ï]
     exact go (by simp[c]) λY V=>sec Y V
  ·cases X
 ·rw[show downs.length=31 from rfl] at U
  obtain⟨W,rfl,rfl⟩:=U (aeS _);simp only[VC];exact aeP Mj ⟨rfl,rfl⟩
def rG (F:Int->List Int):D:=.lst (k8.map λk=>lI (F k))
def ZT (h:0<=k/\k<8):ay (rG F) (.int k) s=ok (lI (F k)) s:=by
 obtain⟨x,e1,e2⟩:=nE (xs:=k8.map λk=>lI (F k)) h.1 (by show k<8;exact h.2);have:x=lI (F k):=by
  rw[ê] at e2;have Z:k8[k.toNat]?=ϊ k:=by
   delta k8;rw[ê,Ŀ ⋯];simp;omega
  rw[Z] at e2;exact(aeT e2).symm
 subst this;erw[ay,kK,res,rG,e1,bT]
def acQ:dg 0 8=k8.map D.int:=rfl
def Ov:vJ [rG F,.int d] s=ok (mD (k8.filter λk=>ώ (d∈F k))) s:=by
 refine aeQ ?_;delta vJ;simp only[VC];refine aeP (mr (n:=8) rfl (by decide)) ⟨by rw[qg];exact le_size (by decide),?_⟩;rw[acQ];refine aeP (vN (λk=>ώ (d∈F k)) (λk=>.int k) k8 λk Z=>⟨[ϊ (.int k),ϊ (.int d),ϊ (rG F)],rfl,?_,λ_=>rfl⟩) ?_
 ·refine aeQ ?_
  simp only[VC];refine aeP (ZT (Nm.mp Z)) ?_;simp only[VC,xn,Ĥ]
 ·exact aeP (show mf [.lst ((k8.filter λk=>ώ (d∈F k)).map λk=>.int k)] s=ok (mD (k8.filter λk=>ώ (d∈F k))) s from rfl) ⟨rfl,rfl⟩
def ja:List Int:=(è 31).map λi:Nat=>(i:Int)
def abm:dg 0 31=ja.map D.int:=by delta ja;rw[Me,Ġ];congr 1;funext i;simp
def kq (P A:Int->List Int) (d:Int):D:=.tup [mD (k8.filter λk=>ώ (d∈P k)),mD (k8.filter λk=>ώ (d∈A k))]
def Ml (hf:∀k s,fn [b,.int mu,.int k] s=ok (lI (F k)) (s++[.dead])) (e0:env[0]?=ϊ (ϊ b)) (e1:env[1]?=ϊ (ϊ (.int mu))) (q:∀c,Q (rG F) (s++c)) :
  Wp (cM 1 [0,1] (iK (af (eC (.int (8))) ah)) (gN 0) cT (aG fn (af (aa 1) (af (aa 2) (af (aa 0) ah)))) env s) Q:=by
 rw[jC];refine aeP (mr (n:=8) rfl (by decide)) ⟨by rw[qg];exact le_size (by decide),?_⟩;have V:iP [0,1] env=[ϊ b,ϊ (.int mu)]:=by simp[iP,e0,e1]
 rw[V];refine Xz (λi Z W=>i<=8->Z=((è i).map λi:Nat=>(i:Int)).map (λk=>lI (F k))/\∃c,W=s++c) (dg 0 8) (λ_=>⟨rfl,[],by simp⟩) (λi d Z W Y X=>?_) λZ W X=>?_
 ·rw[sL] at Y
  split at Y
  ·rename_i U
   cases Y;obtain⟨rfl,c,rfl⟩:=X ⋯;refine⟨[ϊ (.int (0+i)),ϊ b,ϊ (.int mu)],rfl,?_⟩;refine aeP (show cT _ _=ok ό _ from rfl) ?_;rw[Ñ rfl];simp only[VC];refine aeP (hf (0+(i:Int)) _) λ_=>⟨?_,c++[.dead],by simp⟩;rw[List.range_succ,Ĩ,Ĩ];simp
  ·cases Y
 ·rw[qg] at X
  obtain⟨rfl,c,rfl⟩:=X (aeS _);exact q c
def Mm (hl:ps.length<=1000):Wp (rQ [bD ps,.int m] s) λd s'=>d=.lst (ja.map (kq (iC ps m) (gM ps m)))/\∃c,s'=s++c:=by
 delta rQ;rw[dP];refine⟨rfl,?_⟩;rw[ow,eI];refine Ml (b:=bD ps) (mu:=m) (λk s=>SX hl) rfl rfl λc=>?_;erw[gj,à,Ō,ħ,Ļ,Ö,Nat.reduceSub,Ĝ,ĝ,bz];rw[ow,eI];refine Ml (b:=bD ps) (mu:=m) (λk s=>UD hl) rfl rfl λZ=>?_;erw[gj,Ĝ,ĝ,bz,bW,jC,jF];refine aeP (mr (n:=31) rfl (by decide)) ⟨by rw[qg];exact le_size (by decide),?_⟩;rw[abm];refine aeP (vN (λ_=>ό) (kq (iC ps m) (gM ps m)) ja λd Y=>⟨[ϊ (.int d),ϊ (rG (iC ps m)),ϊ (rG (gM ps m))],rfl,rfl,λ_=>?_⟩) ?_
 ·refine aeQ ?_
  simp only[VC];refine aeP Ov ?_;refine aeP Ov ?_;exact⟨by decide,rfl,rfl⟩
 ·rw[filter_tt]
  exact⟨rfl,c++Z,by simp⟩
abbrev je (F:Nat->Bool):Cell:=.lst ((è 32).map λd=>D.bl (F d))
def XN {α:Type} {n:Nat} {f:Nat->α} {d:Int} (h0:0<=d) (h1:d<n):cX ((è n).map f) d=ϊ (f d.toNat):=by
 obtain⟨x,e1,e2⟩:=nE (xs:=(è n).map f) h0 (by simpa using h1);rw[ê,Ŀ ⋯] at e2;rw[e1];exact e2.symm
section
variable (b:Nat->Bool)
def j0 (n:Nat):Bool:=ώ (0<n)&&b (n-1)
def cw:Nat->List (Nat×Nat)
 |0=>[]
 |n+1=>if (b n&&j0 b n)=ό then (cw n).dropLast++[(((cw n).getLast?.getD (0,0)).1,n)] else if b n=ό then cw n++[(n,n)] else cw n
def xR:Nat->Nat->Nat
 |0,e=>e
 |f+1,e=>if b (e+1)=ό then xR f (e+1) else e
def j3 (n:Nat):Bool:=b n&&!j0 b n
def FD (f n:Nat):List (Nat×Nat):=((è n).filter (j3 b)).map λd=>(d,xR b f d)
variable {b}
theorem Mn:∀{f d e:Nat},d<=e->(∀x,d<x->x<=e->b x=ό)->b (e+1)=ύ->e-d<f->xR b f d=e
 |0,_,_,_,_,_,h=>by omega
 |f+1,d,e,W,Z,Y,V=>by
  delta xR;by_cases h:d=e
  ·subst h
   rw[Y];simp
  ·rw[Ñ (Z (d+1) ⋯ ⋯)]
   exact Mn ⋯ (λx U X=>Z x ⋯ X) Y ⋯
def Told (b:Nat->Bool) (f n:Nat):Prop :=
 (j0 b n=ύ/\cw b n=FD b f n)\/(j0 b n=ό/\∃S d,(è n).filter (j3 b)=S++[d]/\d<n/\(∀x,d<=x->x<n->b x=ό)/\cw b n=(S.map λd=>(d,xR b f d))++[(d,n-1)])
theorem Ow (f:Nat):∀n,n<=f->Told b f n
 |0,_=>.inl ⟨rfl,rfl⟩
 |n+1,N=>by
  have Y:(è (n+1)).filter (j3 b)=(è n).filter (j3 b)++if j3 b n=ό then [n] else []:=by
   rw[List.range_succ,List.filter_append];congr 1
   by_cases h:j3 b n=ό<;>simp[Ŧ,h]
  have W:j0 b (n+1)=b n:=by simp[j0]
  rcases Ow f n ⋯ with ⟨X,h⟩ | ⟨X,S,d,U,M,T,R⟩
  ·cases Z:b n with
   |false =>
    refine .inl ⟨by rw[W,Z],?_⟩;erw[cw,Z,Ŭ,Æ,ï,h];delta FD;rw[Y,show j3 b n=ύ by simp[j3,Z]];simp
   |true =>
    refine .inr ⟨by rw[W,Z],(è n).filter (j3 b),n,?_,by omega,λx V Q=>?_,?_⟩
    ·rw[Y,show j3 b n=ό by simp[j3,Z,X]]
     simp
    ·rw[show x=n by omega];exact Z
    ·erw[cw,Z,X,Bool.and_false,Æ,ï,ò,h]
     rfl
  ·have P:j3 b n=ύ:=by simp[j3,X]
   rw[P] at Y;erw[Æ,ï,Ħ] at Y;have L:0<n:=by omega
   cases Z:b n with
   |false =>
    refine .inl ⟨by rw[W,Z],?_⟩;erw[cw,Z,Ŭ,Æ,ï,R];delta FD;rw[Y,U,Ĩ];erw[à,Ō];rw[Mn (f:=f) (d:=d) (e:=n-1) ⋯ (λx V Q=>T x ⋯ ⋯) (by rw[show n-1+1=n by omega];exact Z) ⋯]
   |true =>
    refine .inr ⟨by rw[W,Z],S,d,by rw[Y,U],by omega,λx V Q=>?_,?_⟩
    ·by_cases O:x=n
     ·rw[O];exact Z
     ·exact T x V ⋯
    ·erw[cw,Z,X,ĵ,ò,R]
     simp
end
abbrev sg (x:Str):List Nat:=x.cps.toList
def Mo {x y:Str} (h:sg x=sg y):x=y:=Str.ext' (Array.toList_inj.mp h)
def tB (x y:Str):sg (x++y)=sg x++sg y:=by show (x.cps++y.cps).toList=_;simp
def jG (x:Str):x.length=(sg x).length:=by show x.cps.size=_;simp
def jl (c:Nat):List (List Nat)->List Nat
 | []=>[]
 | [x]=>x
 |x::y::r=>x++c::jl c (y::r)
theorem C4 (c:Nat):∀zs:List Str,sg (š ⟨#[c]⟩ zs)=jl c (zs.map sg)
 | []=>rfl
 | [x]=>rfl
 |x::y::r=>by
  show sg (x++⟨#[c]⟩++š ⟨#[c]⟩ (y::r))=_;rw[tB,tB,C4 c (y::r),Ĳ];rfl
theorem Cq:∀zs:List Str,sg (š "" zs)=(zs.map sg).flatten
 | []=>rfl
 | [x]=>by show sg x=_;simp
 |x::y::r=>by
  show sg (x++""++š "" (y::r))=_;rw[tB,tB,Cq (y::r)];simp[show sg ""=[] from rfl]
def UE {y:Str} {zs:List Str} (hy:y.length<=10) (hn:zs.length<=1000) (hz:∀z∈zs,z.length<=1000):JoinOk y zs=ό:=by
 delta JoinOk Builtin.Str.tooLong;rw[StrLaws.joinTotal];have Z:∀{zs:List Str},(∀z∈zs,z.length<=1000)->(zs.map (·.length)).sum<=zs.length*1000:=by
  intro zs
  induction zs with
  |nil=>intro _;simp
  |cons z r ih =>
   intro h;have a:=h z ∅;have b:=ih λx Y=>h x (Ï _ Y);erw[à,List.sum_cons,â];omega
 have Z:=Z hz;have X:zs.length*y.length<=1000*10:=Nat.mul_le_mul hn hy;have W:(Õ:Nat)=16777216:=ŭ;erw[ł,decide_eq_false_iff_not];omega
def Nn {c:Nat}:(!(ġ "0123456789" ⟨#[c]⟩ 0 (Str.length "0123456789") 1).isEmpty)=ώ (48<=c/\c<=57):=by
 rw[StrLaws.found_one];rw[ĭ];erw[Ë];have e:sg "0123456789"=[48,49,50,51,52,53,54,55,56,57]:=nofun
 show c∈sg "0123456789"↔_;rw[e];erw[Û,ć,or_false];omega
def brk (l:List Int):List Int:=((è (l.length-1)).filter λi=>l.getD (i+1) 0==l.getD i 0).map λi:Nat=>1+(i:Int)
def ZU (h:xs≠[]):ay (.lst xs) (.int (-1)) s=ok (xs.getLast h) s:=by
 have e:cX xs (-1)=ϊ (xs.getLast h):=by
  conv=>lhs;rw[<- List.dropLast_concat_getLast h]
  exact UZ _ _
 delta ay kK;rw[show res (.lst xs) s=.lst xs from rfl];erw[e];rfl
def XO {c:ae} {ds:List D}:bo (.aj c.length) (c++[.lst ds])=ok (.lst ds) (c++[.dead]):=by
 delta bo;have e:(c++[Cell.lst ds])[c.length]?=ϊ (.lst ds):=by simp
 erw[e];rw[ac4 _ _ (aeS _)];simp
def Ex.get (h:Ex k s s') (e:s[j]?=ϊ c) (hj:j≠k):s'[j]?=ϊ c:=by
 rw[h.val j (Ô.mp e).1 hj];exact e
structure RI (s0:ae) (k rh mh:Nat) (rs:List (List Int)) (s:ae):Prop where
 st:O8 s k
 ex:Ex k s0 s
 run:s[rh]?=ϊ (.lst (rs.map mD))
 mo:∃a b,s[mh]?=ϊ (.lst [mD a,mD b])/\fS 8 a/\fS 8 b
 mks:∀r∈rs,fS 8 r
 k1:k<s0.length
 r1:s0.length<=rh
 m1:s0.length<=mh
 ne:rh≠mh
structure Ft (n W:Nat) (d:D):Prop where
 pl:plain d=ό
 sh:(py d).showable=ό
 nd:(py d).hasDict=ύ
 dp:(py d).depth<=n
 wt:(py d).weight<=W
 lv:(py d).leavesShort 40=ό
open DI.cE
section
variable {s:ae} {l:List Int} {i:Int} {env:Env}
abbrev num (i:Int):Str:=Ĉ (toString i)
def Kx (h0:0<=i) (h1:i<1000):i.natAbs.log2<1920:=ς (Nat.log2_le_self _) ⋯
def Np (h0:0<=i) (h1:i<1000):qU [.int i] s=ok (.str (num i)) s:=by
 show (if ώ (i.natAbs.log2<1920)=ό then ok (D.str (toString i)) s else ϋ)=_
 rw[Ñ (È (Kx h0 h1))]
def acR:∀n:Fin 8,num (n.val:Int)=⟨#[48+n.val]⟩:=nofun
def Lm (h0:0<=i) (h1:i<8):num i=⟨#[48+i.toNat]⟩:=by
 obtain⟨n,rfl⟩:=Int.eq_ofNat_of_zero_le h0;exact acR ⟨n,by omega⟩
def vf (l:List Int):Str:=⟨(l.map λi=>48+i.toNat).toArray⟩
def gO (l:List Int):Str:=if l=[] then "-" else vf l
def DQ:sg (vf l)=l.map λi=>48+i.toNat:=by delta vf;simp
def Wc (h:∀i∈l,0<=i/\i<8):š "" (l.map num)=vf l:=by
 refine Mo ?_;rw[Cq,DQ]
 induction l with
 |nil=>rfl
 |cons i r ih =>
  have Z:=h i ∅;rw[à,à,Ő,ih λj Y=>h j (Ï _ Y),Lm Z.1 Z.2];rfl
theorem strs_map:∀zs:List Str,strs? (zs.map D.str)=ϊ zs
 | []=>rfl
 |z::zs=>by show (strs? (zs.map D.str)).map (z::·)=_;rw[strs_map zs];rfl
def xo (hy:y.length<=10) (hn:zs.length<=1000) (hz:∀z∈zs,z.length<=1000):iQ y (.lst (zs.map D.str)) s=ok (.str (š y zs)) s:=by
 delta iQ;rw[show res (.lst (zs.map D.str)) s=.lst (zs.map D.str) from rfl];dsimp only;rw[strs_map];dsimp only;rw[Ñ (UE hy hn hz)]
def tD (e:f env s=ok (.str y) s):Wp (dY m f g env s) Q=Wp (g env s) λx s=>Wp (m y x s) Q:=by
 delta dY;rw[e,bV,bP]
def XQ (he:cI (aa 0) ea s=ok (l.map D.int) s) (hl:l.length<=100) (h:∀i∈l,0<=i/\i<8):dY iQ (eC (.str "")) (cM 1 [] (cI (aa 0)) (gN 0) cT (eB qU (af (aa 0) ah))) ea s=ok (.str (vf l)) s:=by
 refine aeQ ?_;rw[tD rfl,jC];refine aeP he ⟨le_size (by rw[É];omega),?_⟩;refine aeP (comp_map D.int (λ_=>ό) (λi=>D.str (num i)) l λi Z=>⟨[ϊ (.int i)],rfl,rfl,λ_=>aeQ ?_⟩) ?_
 ·have:=h i Z
  erw[de,aL,aP,aR];exact aeP (Np this.1 ⋯) ⟨rfl,rfl⟩
 rw[ő.mpr (λ_ _=>rfl),show (l.map λi=>D.str (num i))=(l.map num).map D.str by rw[Ġ];rfl];refine aeP (xo (by decide) (by rw[É];omega) λz Y=>?_) ?_
 ·obtain⟨i,Z,rfl⟩:=ĉ.mp Y
  have:=h i Z;rw[Lm this.1 this.2];show 1<=1000;decide
 rw[Wc h];exact⟨rfl,rfl⟩
def C5:(vf l).length=l.length:=by rw[jG,DQ,É]
def Ln (hl:l.length<=100) (h:∀i∈l,0<=i/\i<8):vw [mD l] s=ok (.str (gO l)) s:=by
 refine aeQ ?_;delta vw;refine dP.symm ▸ ⟨rfl,?_⟩;rw[bW];have e:pb (dY iQ (eC (.str "")) (cM 1 [] (cI (aa 0)) (gN 0) cT (eB qU (af (aa 0) ah)))) (eC (.str "-")) [ϊ (mD l)] s=ok (.str (gO l)) s:=by
  delta pb;rw[XQ (nk rfl) hl h,bV];dsimp only;rw[Ñ (È (by rw[C5];exact le_size ⋯)),C5];delta gO
  cases l with
  |nil=>rfl
  |cons i r=>rfl
 exact aeP e ⟨rfl,rfl⟩
end
section
variable {s:ae} {l h:List Int} {i:Int} {env:Env} {p:Pg} {x y:Str}
def xS (hl:x.length+y.length<=1000000):bh (.str x) (.str y) s=ok (.str (x++y)) s:=by
 show bT (if ώ (x.length+y.length<=Õ)=ό then ϊ (D.str (x++y)) else ϋ) s=_
 rw[Ñ (È (le_size hl))];rfl
def fJ (x y:Str):(x++y).length=x.length+y.length:=Str.length_append x y
def zA:(gO l).length<=l.length+1:=by
 delta gO;split
 ·exact Nat.le_add_left 1 _
 ·rw[C5];omega
def xp:Pg->Str
 | .made _ _ h l=>gO h++"/"++gO l
 | .c8 _ _ k=>num k
def tV:Pg->Str
 | .made ..=>"made"
 | .c8 ..=>"mended"
def xT:Pg->Int
 | .made m ..=>m
 | .c8 m ..=>m
def iR (p:Pg):Str:=tV p++" "++num (xT p)++" "++num p.day++" "++xp p
def jz:Pg->Prop
 | .made m d h l=>(0<=m/\m<4)/\(0<=d/\d<31)/\fS 8 h/\fS 8 l
 | .c8 m d k=>(0<=m/\m<4)/\(0<=d/\d<31)/\0<=k/\k<8
def zV (h:dX p=ό):jz p:=by
 cases p with
 |made m d a b =>
  erw[dX,kh,jm,Å,Ë] at h;exact⟨h.1.1,h.1.2,sm h.2.1,sm h.2.2.1⟩
 |c8 m d k =>
  erw[dX,kh,jm,markB,Å,Ë] at h;exact⟨h.1.1,h.1.2,h.2⟩
def tF (h:fS 8 ns):∀i∈ns,0<=i/\i<8:=λi Z=>by have:=h.lo i Z;omega
def abn:∀n:Fin 31,(num (n.val:Int)).length<=2:=nofun
def kX (h0:0<=i) (h1:i<31):(num i).length<=2:=by
 obtain⟨n,rfl⟩:=Int.eq_ofNat_of_zero_le h0;exact abn ⟨n,by omega⟩
def Lo (h:jz p):(xp p).length<=20:=by
 cases p with
 |made m d a b =>
  have Z:=h.2.2.1.len;have Y:=h.2.2.2.len;have X:=zA (l:=a);have W:=zA (l:=b);show (gO a++"/"++gO b).length<=20;rw[fJ,fJ];show (gO a).length+1+(gO b).length<=20;omega
 |c8 m d k=>exact Ý (kX h.2.2.1 (by have:=h.2.2.2;omega)) (by decide)
def Ja (ha:fS 8 a) (hb:fS 8 b):vz [.tup [mD a,mD b]] s=ok (.str (gO a++"/"++gO b)) s:=by
 have Z:=ha.len;have Y:=hb.len;have X:=zA (l:=a);have W:=zA (l:=b);refine aeQ ?_;delta vz;simp only[VC];refine aeP (Ln ⋯ (tF ha)) ?_;refine aeP (xS (show (gO a).length+1<=1000000 by omega)) ?_;refine aeP (Ln ⋯ (tF hb)) ?_;refine aeP (xS (by rw[fJ];show (gO a).length+1 + _<=1000000;omega)) ⟨rfl,rfl⟩
def j7 (e:f env s=ok (.str y) s) (hl:acc.length+y.length<=1000000):jZ (f::fs) acc env s=jZ fs (acc++y) env s:=by
 show ai (f env s) _=_;rw[e,bV];dsimp only;rw[Ñ (È (by rw[fJ];exact le_size hl))]
def xU (h0:0<=i) (h1:i<1000):fN (.int i) s=ok (.str (num i)) s:=by
 show (if ώ (i.natAbs.log2<1920)=ό then ok (D.str (toString i)) s else ϋ)=_
 rw[Ñ (È (Kx h0 h1))]
def Pd (hl:x.length<=1000000):fN (.str x) s=ok (.str x) s:=Ñ (È (le_size hl))
def Lp:(tV p).length<=6:=by
 cases p
 ·show Str.length "made"<=6;decide +kernel
 ·show Str.length "mended"<=6;decide +kernel
def tG (h:jz p):0<=xT p/\xT p<4:=by cases p<;>exact h.1
def tH (h:jz p):0<=p.day/\p.day<31:=by cases p<;>exact h.2.1
def Cr (h:jz p):(iR p).length<=50:=by
 have Z:=Lp (p:=p);have Y:=kX (tG h).1 (by have:=(tG h).2;omega);have X:=kX (tH h).1 (tH h).2;have W:=Lo h;delta iR;erw[fJ];show (tV p).length+1 + _ + 1 + _ + 1 + _<=50;omega
def Ky (h:jz p):jZ [e1 fN (aa 1),eC (.str " "),e1 fN (aa 2),eC (.str " "),e1 fN (aa 3),eC (.str " "),e1 fN (aa 5)] χ [a0,ϊ (.str (tV p)),ϊ (.int (xT p)),ϊ (.int p.day),a1,ϊ (.str (xp p))] s=ok (.str (iR p)) s:=by
 have Z:=Lp (p:=p);have Y:=kX (tG h).1 (by have:=(tG h).2;omega);have X:=kX (tH h).1 (tH h).2;have W:=Lo h;have m:=tG h;have d:=tH h;rw[j7 (y:=tV p) (Pd ⋯) (by show 0 + _<=_;omega),Str.empty_append];rw[j7 (y:=" ") rfl (by show _ + 1<=_;omega)];rw[j7 (y:=num (xT p)) (xU m.1 ⋯) (by rw[fJ];show _ + 1 + _<=_;omega)];rw[j7 (y:=" ") rfl (by erw[fJ];show _ + 1 + _ + 1<=_;omega)];rw[j7 (y:=num p.day) (xU d.1 ⋯) (by erw[fJ];show _ + 1 + _ + 1 + _<=_;omega)];rw[j7 (y:=" ") rfl (by erw[fJ];show _ + 1 + _ + 1 + _ + 1<=_;omega)];rw[j7 (y:=xp p) (Pd ⋯) (by erw[fJ];show _ + 1 + _ + 1 + _ + 1 + _<=_;omega)];have V:=Cr h
 show (if ώ ((iR p).length<=Õ)=ό then ok (D.str (iR p)) s else ϋ)=_
 rw[Ñ (È (le_size ⋯))]
def We (h:jz p):yS [p.d] s=ok (.str (iR p)) s:=by
 refine aeQ ?_;delta yS;refine dP.symm ▸ ⟨rfl,aeR λR Z=>?_⟩
 cases p with
 |made m d a b =>
  refine aeP (show bc (aa 0) (gT [gN 1,gN 2,gN 3,gN 4]) _ s=ok (.nx [ϊ (Pg.made m d a b).d,ϊ (.str "made"),ϊ (.int m),ϊ (.int d),ϊ (.tup [mD a,mD b]),ϋ]) s from rfl) ?_;rw[bz];subst Z;refine aeR λR Z=>?_;erw[eI,gj,sY,eO,bj,aR,bx,bA];refine aeP (show aX (.str "made") (.str "made") s=ok (.bl ό) s from rfl) ?_;erw[cC,ò,wp_call,aL,aP,aR,bx];refine aeP (Ja h.2.2.1 h.2.2.2) ?_;erw[Ĝ,ĝ];rw[bz];subst Z;rw[bW];exact aeP (Ky h) ⟨rfl,rfl⟩
 |c8 m d k =>
  refine aeP (show bc (aa 0) (gT [gN 1,gN 2,gN 3,gN 4]) _ s=ok (.nx [ϊ (Pg.c8 m d k).d,ϊ (.str "mended"),ϊ (.int m),ϊ (.int d),ϊ (.int k),ϋ]) s from rfl) ?_;rw[bz];subst Z;refine aeR λR Z=>?_;erw[eI,gj,sY,eO,bj,aR,bx,bA];refine aeP (show aX (.str "mended") (.str "made") s=ok (.bl ύ) s from rfl) ?_;erw[cC,Æ,ï,de,aL,aP,aR,bx];refine aeP (Np h.2.2.1 (by have:=h.2.2.2;omega)) ?_;erw[Ĝ,ĝ];rw[bz];subst Z;rw[bW];exact aeP (Ky h) ⟨rfl,rfl⟩
def mV (c:Nat):Bool:=ώ (48<=c/\c<=57)
def jo (x:Str):Bool:=(ώ (1<=x.length)&&ώ (x.length<=30))&&(sg x).all mV
def FE (hl:x.length<=1000000):cJ [.str x] s=ok (.int x.length) s:=by
 show bT (nQ (.str x) s) s=_;delta nQ
 show bT (if ώ (x.length<=Õ)=ό then ϊ (D.int x.length) else ϋ) s=_
 rw[Ñ (È (le_size hl))];rfl
def C6 (e:f env s=ok (.str x) s):tU f env s=ok ((sg x).map λc=>D.str ⟨#[c]⟩) s:=by
 delta tU;rw[e,bV];rfl
def Mp {T:aeO D} (hl:x.length<=1000000) (hT:T [ϊ (.str x)] s=ok (.bl ((sg x).all mV)) s):aD 1 1 (aA (cO (pL lB lB (eC (.int 1)) (eB cJ (af (aa 0) ah)) (eC (.int 30))) T)) [.str x] s=ok (.bl (jo x)) s:=by
 refine aeQ ?_;refine dP.symm ▸ ⟨rfl,?_⟩;show Wp (aA _ [ϊ (.str x)] s) _;rw[bW,kW,Nf,bA];erw[de,aL,aP,aR];refine aeP (FE hl) ?_;erw[zT,cC];delta jo;by_cases Z:1<=x.length
 ·rw[È (show (1:Int)<=x.length by omega),È Z,Ñ rfl]
  erw[bA,zT,cC];by_cases Y:x.length<=30
  ·rw[È (show (x.length:Int)<=30 by omega),È Y,Ñ rfl]
   exact aeP hT ⟨by simp,rfl⟩
  ·rw[Ì (show ¬ (x.length:Int)<=30 by omega),Ì Y,Ú Ä]
   exact⟨rfl,rfl⟩
 ·rw[Ì (show ¬ (1:Int)<=x.length by omega),Ì Z,Ú Ä]
  erw[cC,Æ,ï];exact⟨rfl,rfl⟩
def C7 (hl:x.length<=1000000):vp [.str x] s=ok (.bl (jo x)) s:=Mp hl (aeQ (by
 rw[de,aL,jC];refine aeP (C6 rfl) ⟨le_size (by rw[É,<- jG];exact hl),?_⟩;refine aeP (comp_map (λc=>D.str ⟨#[c]⟩) (λ_=>ό) (λc=>D.bl (mV c)) (sg x) λc _=>⟨[ϊ (.str ⟨#[c]⟩)],rfl,rfl,λ_=>?_⟩) ?_
 ·show ok (D.bl (!(ġ "0123456789" ⟨#[c]⟩ 0 (Str.length "0123456789") 1).isEmpty)) s=_
  rw[Nn];rfl
 rw[ő.mpr (λ_ _=>rfl),aP];exact aeP (qj mV (sg x) s) ⟨rfl,rfl⟩))
def b9 (x:Str):Bool:=jo x&&(ώ ((sg x).head?≠ϊ 48)||ώ (x="0"))
def uE:aX (.str x) (.str y) s=ok (.bl (ώ (x=y))) s:=mU
def AL:ee (.str x) (.str y) s=ok (.bl (!ώ (x=y))) s:=by
 have e:=uE (x:=x) (y:=y) (s:=s);delta aX at e;delta ee
 cases h:kl (res (.str x) s) (res (.str y) s) with
 |none=>rw[h] at e;cases e
 |some c =>
  rw[h] at e
  injection e with e
  injection e with e1 _
  injection e1 with e1
  injection e1 with e1
  rw[e1]
def Qh:((⟨#[c]⟩:Str)="0")↔c=48:=by
 have e:("0":Str)=⟨#[48]⟩:=nofun
 rw[e];constructor
 ·intro h
  have:=Ń sg h;simpa [sg] using this
 ·rintro rfl;rfl
def vG (hl:x.length<=1000000):m8 [.str x] s=ok (.bl (b9 x)) s:=by
 refine aeQ ?_;delta m8;refine dP.symm ▸ ⟨rfl,?_⟩;show Wp (aA _ [ϊ (.str x)] s) _;rw[bW,kW];erw[wp_call,aL,aP,aR];refine aeP (C7 hl) ?_;erw[cC];delta b9
 cases Y:jo x with
 |false=>exact⟨rfl,rfl⟩
 |true =>
  rw[Ñ rfl,ú,DN];erw[bj,aR,bA];have X:1<=x.length:=by delta jo at Y;erw[Å,Ë] at Y;exact Y.1.1
  obtain⟨c,r,W⟩:∃c r,sg x=c::r:=by
   cases V:sg x with
   |nil=>rw[jG,V] at X;simp at X
   |cons c r=>exact⟨c,r,rfl⟩
  refine aeP (show ay (.str x) (.int 0) s=ok (.str ⟨#[c]⟩) s from ?_) ?_
  ·show bT (if ώ (x.length<=Õ)=ό then (cX (sg x) 0).map λc=>D.str ⟨#[c]⟩ else ϋ) s=_
   rw[Ñ (È (le_size hl)),W];have:cX (c::r) (0:Int)=ϊ c:=by
    obtain⟨y,e1,e2⟩:=nE (xs:=c::r) (i:=0) (by decide) ∅;rw[e1];simpa using e2.symm
   rw[this];rfl
  refine aeP AL ?_;erw[cC];rw[W];by_cases Z:c=48
  ·rw[È (Qh.mpr Z)]
   erw[ý,Æ,ï];refine aeP uE ⟨?_,rfl⟩;rw[Z];simp
  ·rw[Ì (λz=>Z (Qh.mp z))]
   erw[ι,ò];refine⟨?_,rfl⟩;simp[Z]
def Ox:("/":Str)=⟨#[47]⟩:=nofun
def blank:(" ":Str)=⟨#[32]⟩:=nofun
def vW (hz:z=⟨#[c]⟩) (e:f env s=ok (.str x) s) (hl:x.length<=1000000):dY jc f (eC (.str z)) env s=ok (.lst ((Ī x ⟨#[c]⟩).map D.str)) s:=by
 subst hz;refine aeQ ?_;rw[tD e,bA]
 show Wp (if (!((⟨#[c]⟩:Str).length==0)&&ώ (x.length+2<=Õ))=ό then ok (D.lst ((Ī x ⟨#[c]⟩).map D.str)) s else ϋ) _
 rw[Ñ (by
  rw[È (show x.length+2<=Õ by rw[ŭ];omega)];rfl),bF]
 exact⟨rfl,rfl⟩
def acS:∀n:Fin 10,adp ⟨#[48+n.val]⟩=ϊ (n.val:Int):=nofun
def XR (h:mV c=ό):jL [.str ⟨#[c]⟩] s=ok (.int ((c:Int)-48)) s:=by
 delta mV at h;rw[Ë] at h;have e:=acS ⟨c-48,by omega⟩;rw[show 48+(c-48)=c by omega] at e
 show (if ώ ((⟨#[c]⟩:Str).length<=640)=ό then (match adp ⟨#[c]⟩ with|some n=>ok (D.int n) s|none=>ϋ) else ϋ)=_
 rw[Ñ (È (show (⟨#[c]⟩:Str).length<=640 from (show 1<=640 by decide))),e];show ok (D.int ((c-48:Nat):Int)) s=_;rw[show ((c-48:Nat):Int)=(c:Int)-48 by omega]
end
section
variable {s:ae} {l h:List Int} {i:Int} {env:Env} {p:Pg} {x y:Str} {ps ds:List Pg}
def textOf (ps:List Pg):Str:=š "" (ps.map λp=>iR p++"\n")
def Kz (h:jz p):(iR p++"\n").length<=51:=by rw[fJ];have:=Cr h;show _ + 1<=51;omega
def text_len (h:∀p∈ps,jz p):(textOf ps).length<=ps.length*51:=by
 rw[jG];delta textOf;rw[Cq]
 induction ps with
 |nil=>exact aeS 0
 |cons p r ih =>
  have Z:=Kz (h p ∅);rw[jG] at Z;have X:=ih λq Y=>h q (Ï _ Y);rw[à,à,Ő,ä,â];omega
def Wf (h:jz p) (hg:g [p.d] s=ok (.str (iR p)) s):e2 bh (aG g (af (aa 0) ah)) (eC (.str "\n")) [ϊ p.d] s=ok (.str (iR p++"\n")) s:=by
 refine aeQ ?_;erw[bj,wp_call,aL,aP,aR,bA];refine aeP hg (aeP (xS (by have:=Cr h;show _ + 1<=_;omega)) ⟨rfl,rfl⟩)
def SY (hi:it env s=ok (ps.map Pg.d) s) (hl:ps.length<=100) (h:∀p∈ps,jz p) (hg:∀p,jz p->g [p.d] s=ok (.str (iR p)) s):cM 1 [] it (gN 0) cT (e2 bh (aG g (af (aa 0) ah)) (eC (.str "\n"))) env s=ok (.lst ((ps.map λp=>iR p++"\n").map D.str)) s:=by
 refine aeQ ?_;rw[jC];refine aeP hi ⟨le_size (by rw[É];omega),?_⟩;refine aeP (comp_map Pg.d (λ_=>ό) (λp=>D.str (iR p++"\n")) ps λp Z=>⟨[ϊ p.d],rfl,rfl,λ_=>Wf (h p Z) (hg p (h p Z))⟩) ?_;rw[ő.mpr (λ_ _=>rfl),Ġ];exact⟨rfl,rfl⟩
def ZV (hl:ps.length<=100) (h:∀p∈ps,jz p):iQ "" (.lst ((ps.map λp=>iR p++"\n").map D.str)) s=ok (.str (textOf ps)) s:=xo (by decide) (by rw[É];omega) λz Z=>by
 obtain⟨p,Y,rfl⟩:=ĉ.mp Z;have:=Kz (h p Y);omega
def zj (hl:ps.length<=1000) (hf:∀p∈ps,jn p) (hb:dH ps=ό):cE.pW [bD ps] s=ok .ar s:=by
 refine aeQ ?_;delta cE.pW;simp only[VC];refine aeP (Mg hl hf) ?_;rw[hb];simp only[VC,ý,Æ,ï,Ĥ]
def DR (hb:dH ps=ό):(∀p∈ps,dX p=ό)/\ps.length<=24:=by
 delta dH nM at hb;erw[Å,Ë,ô] at hb;exact⟨hb.1.2.1,hb.1.1⟩
def Wg (hb:dH ps=ό):vE [bD ps] s=ok (.str (textOf ps)) s:=by
 obtain⟨Z,X⟩:=DR hb;refine aeQ ?_;delta vE;refine dP.symm ▸ ⟨rfl,aeR λR Y=>?_⟩;show Wp (cF _ [ϊ (bD ps)] s) _;rw[p6];refine aeP (show dM cE.pW (af (aa 0) ah) [ϊ (bD ps)] s=ok .ar s from zj ⋯ (λp h=>BX (Z p h)) hb) ?_;rw[bz];subst Y;rw[bW,tD rfl];refine aeP (SY (ps:=ps) (nk rfl) ⋯ (λp h=>zV (Z p h)) λp h=>We h) ?_;exact aeP (ZV ⋯ λp h=>zV (Z p h)) ⟨rfl,rfl⟩
end
def Sf (s:ae) (k:Nat):Prop:=∃(a:Int) (b:Bool),s[k]?=ϊ (.lst [.int a,.bl b])/\0<=a/\(b=ύ->a<2147483647)
def ZW (h:Sf s k) (h1:0<m) (h2:m<1073741824):Wp (cE.j8 [.aj k,.int m] s) λd s'=>∃r:Int,d=.int r/\0<=r/\r<m/\Sf s' k/\Ex k s s':=by
 obtain⟨a,b,e,V,Y⟩:=h;have X:=(Ô.mp e).1
 cases b with
 |true =>
  have Z:(s.set k (.lst [.int (a / m),.bl ό]))[k]?=ϊ (.lst [.int (a / m),.bl ό]):=ù X;refine⟨.int (a % m),s.set k (.lst [.int (a / m),.bl ό]),?_,a % m,rfl,adT _ ⋯,υ _ h1,⟨a / m,ό,Z,Int.ediv_nonneg V ⋯,λz=>by cases z⟩,Ex.set _ _ _⟩;erw[cE.j8,aD,aq,aM,cu,truth,e2,zR,zS,eC,bV,à,Ō,ħ,Ļ,Hl _ _ k s e,Qe _ _ k s e,â,Ą,ò,bc,gN,uC s h1,oY,Pb s h1 h2,O9 _ _ _ k s e,aA,Ĝ,ĝ,Ö]
 |false =>
  have Y:=Y rfl;have ex:0<=(a*48271+29) % 2147483647/\(a*48271+29) % 2147483647<2147483647:=⟨adT _ (by decide),υ _ (by decide)⟩;generalize U:(a*48271+29) % 2147483647=x at ex;have Z:(s.set k (.lst [.int x,.bl ύ]))[k]?=ϊ (.lst [.int x,.bl ύ]):=ù X;generalize W:(x*x+39373*x+7) % 2147483629=y;have N:0<=y/\y<2147483629:=by rw[<- W];exact⟨adT _ (by decide),υ _ (by decide)⟩
  generalize T:(y*y+16807*y) % 2147483587=z;refine⟨.int (z / 8 % m),s.set k (.lst [.int x,.bl ύ]),?_,_,rfl,adT _ ⋯,υ _ h1,⟨x,ύ,Z,ex.1,λ_=>ex.2⟩,Ex.set _ _ _⟩;have S:jJ (.int a) (.int 48271) s=ok (.int (a*48271)) s:=xQ s (mulOk_of ⋯ ⋯);have R:∀s',jJ (.int x) (.int x) s'=ok (.int (x*x)) s':=λs'=>xQ s' (mulOk_of ⋯ ⋯);have Q:∀s',jJ (.int 39373) (.int x) s'=ok (.int (39373*x)) s':=λs'=>xQ s' (mulOk_of (by decide) (by decide));have m4:∀s',jJ (.int y) (.int y) s'=ok (.int (y*y)) s':=λs'=>xQ s' (mulOk_of ⋯ ⋯);have P:∀s',jJ (.int 16807) (.int y) s'=ok (.int (16807*y)) s':=λs'=>xQ s' (mulOk_of (by decide) (by decide));have O:∀n:Int,ay (.aj k) (.int 0) (s.set k (.lst [.int x,.bl ύ]))=ok (.int x) (s.set k (.lst [.int x,.bl ύ])):=λ_=>Hl _ _ k _ Z;erw[cE.j8,aD,aq,aM,cu,truth,e2,zR,zS,eC,bV,à,Ō,ħ,Ļ,Hl _ _ k s e,Qe _ _ k s e,â,Ą,Æ,ï,ò,bH,bc,gN,oY,O9 _ _ _ k s e,aA,Ĝ,ĝ,Ö,S,R,Q,m4,P,Pa,uC _ (show (0:Int)<2147483647 by decide),uC _ (show (0:Int)<2147483629 by decide),uC _ (show (0:Int)<2147483587 by decide),Pb _ (show (0:Int)<8 by decide) (by decide),uC _ h1,U,W,T,O 0]
def XS (h0:0<=i):Wp (cE.zf [.bO ns,.int i] s) λd s'=>d=.aj s.length/\Sf s' s.length/\∃c,s'=s++[c]:=by
 obtain⟨c,Y⟩:=XD (ns:=ns) (s:=s) h0;have Z:∀s,wX (.int 10) (.int 18) s=ok (.int (10 ^ 18)) s:=λs=>by
  have e:Fj (.int 10) (.int 18)=ϊ (.int (10 ^ 18)):=by
   show (if (ώ ((0:Int)<=18)&&ώ ((18:Int)<=1000000)&&ώ ((10:Int).natAbs<2 ^ 64))=ό then ϊ (D.int (10 ^ (18:Int).toNat)) else ϋ)=_
   rw[Ñ (by decide)];rfl
  erw[wX,e,bT]
 delta cE.zf;simp only[VC,Y,Z];by_cases h:(10:Int) ^ 18<=c
 ·rw[È h]
  simp only[VC,Z,ò];exact⟨by decide,⟨_,ό,by simp;rfl,by omega,λz=>by cases z⟩,_,rfl⟩
 ·rw[Ì h]
  simp only[VC,Æ,ï,uC _ (show (0:Int)<2147483647 by decide)];exact⟨by decide,⟨_,ύ,by simp;rfl,adT _ (by decide),λ_=>υ _ (by decide)⟩,_,rfl⟩
def Oy (h0:0<=r) (h1:r<ds.length):∃d∈ds,ay (.lst ds) (.int r) s=ok d s:=by
 obtain⟨x,e,e2⟩:=nE h0 h1;exact⟨x,ű e2,by erw[ay,kK,res,e,bT]⟩
def Kp (s s':ae):Prop:=s.length<=s'.length/\∀j,j<s.length->s'[j]?=s[j]?
def Kp.app (s c:ae):Kp s (s++c):=⟨by simp,λj Z=>ç Z⟩
def Kp.get (h:Kp s s') {k:Nat} (e:s[k]?=ϊ c):s'[k]?=ϊ c:=by rw[h.2 k (Ô.mp e).1];exact e
def Kp.sf {k:Nat} (h:Kp s s') (g:Sf s k):Sf s' k:=by
 obtain⟨a,b,e,r⟩:=g;exact⟨a,b,h.get e,r⟩
def XT (h:s[j]?=ϊ (.lst ds)) (hl:ds.length<=1000):lG (.aj j) s=ό/\lF (.aj j) x s=ok .ar (s.set j (.lst (ds++[x]))):=by
 refine⟨by erw[lG,h],?_⟩;delta lF;erw[h,È (ς hl (show 1000<Õ by decide)),ò]
def Wh {α:Type} {f:α->Bool} (xs:List α):DI.cR (xs.map λx=>D.bl (f x))=ό:=by
 induction xs with
 |nil=>rfl
 |cons a r ih=>erw[à,DI.cR,lay,ih,ĵ]
def XU {α:Type} {f:α->Bool} {xs:List α} {s:ae}:fV (.bl ύ) (.lst (xs.map λx=>D.bl (f x))) s=ok (.bl (xs.all f)) s:=by
 delta fV inD;rw[show nK (.lst (xs.map λx=>D.bl (f x))) s=ϊ (xs.map λx=>D.bl (f x)) from rfl];simp only[];rw[Ñ (by delta nJ;rw[Wh];rfl)];show ok (D.bl (!(xs.map λx=>D.bl (f x)).any λy=>beq y (.bl ύ))) s=_;congr 3
 have e:∀b,beq (.bl b) (.bl ύ)=!b:=λb=>by cases b<;>rfl
 rw[List.any_map];erw[Ş,e,List.not_any_eq_all_not,Bool.not_not]
section
variable {s s':ae} {ps qs:List Pg} {p q:Pg} {a b:Nat} {bs:List (List Pg)} {env env':Env} {st cf:aeO Fl} {d x:D} {y:bg}
def eqB (p q:Pg):Bool:=beq p.d q.d
def zW (p:Pg):lay p.d=ό:=by
 have Z:Ó "made"=ό:=nofun
 have Y:Ó "mended"=ό:=nofun
 cases p with
 |made m d a b=>erw[Pg.d,lay,DI.cR,ti,za,Z,ĵ]
 |c8 m d k=>erw[Pg.d,lay,DI.cR,Y,ĵ]
def Wi (ps:List Pg):DI.cR (ps.map Pg.d)=ό:=by
 induction ps with
 |nil=>rfl
 |cons p r ih=>erw[à,DI.cR,zW,ih,ĵ]
def rH (p:Pg) (ps:List Pg):Bool:=ps.any λq=>eqB q p
def XW:ff p.d (bD ps) s=ok (.bl (rH p ps)) s/\fV p.d (bD ps) s=ok (.bl (!rH p ps)) s:=by
 have e:inD p.d (ps.map Pg.d)=ϊ (rH p ps):=by
  delta inD;have Z:=zI p;rw[Ñ (by delta nJ;rw[Wi,zW,È (show dep p.d<=100 by omega)];rfl),List.any_map];rfl
 delta ff fV;rw[show nK (bD ps) s=ϊ (ps.map Pg.d) from rfl];erw[e];exact⟨rfl,rfl⟩
def Nq:res p.d s=p.d:=by cases p<;>rfl
def ZX:pN p.d=ύ:=by cases p<;>rfl
def abo:ee p.d q.d s=ok (.bl (!eqB p q)) s:=by
 delta ee kl;have Z:=zI p;rw[Nq,Nq,ZX,Ŭ,Ú Ä,Ñ (by rw[zW,zW,È (show min (dep p.d) (dep q.d)<=100 by omega)];rfl)];rfl
def Wj (hl:ps.length<=1000):bh (bD ps) (.tup [p.d]) s=ok (bD (ps++[p])) s:=by
 have e:bh (.tup (ps.map Pg.d)) (.tup [p.d]) s=ok (.tup (ps.map Pg.d++[p.d])) s:=by
  show bT (if oX (ps.map Pg.d) [p.d]=ό then ϊ (D.tup (ps.map Pg.d++[p.d])) else ϋ) s=_
  rw[Ñ (show oX (ps.map Pg.d) [p.d]=ό from È (le_size (by rw[É];show ps.length+1<=1000000;omega)))];rfl
 rw[show bD (ps++[p])=.tup (ps.map Pg.d++[p.d]) by show D.tup _=_;rw[Ĩ];rfl];exact e
structure Bk (ps:List Pg):Prop where
 laid:Laid ps
 book:dH ps=ό
def Bk.len (h:Bk ps):ps.length<=24:=by
 have:=h.book;delta dH nM at this;erw[Å,Ë] at this;exact this.1.1
theorem Bk.nil:Bk []:=⟨⟨λ_ h=>absurd h ć,.nil⟩,by decide +kernel⟩
def Wk (h:Laid ps):ps.Nodup:=h.up.imp λ{a b} Z e=>by
 subst e;rw[cy.yt] at Z;cases Z
def KC (h:Laid ps) (hp:dX p=ό) (hi:p∉ps):Laid (ST.dB cy (ps++[p])):=by
 refine⟨λq Y=>?_,Wb ?_⟩
 ·rcases ó.mp ((ST.sd _).mem_iff.mp Y) with h'|h'
  ·exact h.pg q h'
  ·rw[Đ.mp h'];exact hp
 ·rw[ad5]
  exact⟨Wk h,by simp,λx X y Z e=>hi (by rw[Đ] at Z;rw[<- Z,<- e];exact X)⟩
theorem Lq:∀{ps:List Pg},xm ps=ό->ps.Pairwise λa b=>cy.lt a b=ό
 | [],_=>.nil
 | [a],_=>by simp
 |a::b::r,h=>by
  delta xm at h;erw[List.drop_succ_cons,List.drop_zero,Ĺ,List.all_cons,Å] at h;have ih:=Lq (ps:=b::r) (by delta xm;exact h.2);refine ø.mpr ⟨λx hx=>?_,ih⟩
  rcases Û.mp hx with rfl|hx
  ·exact h.1
  ·exact cy.tr _ _ _ h.1 ((ø.mp ih).1 x hx)
def J1 (hi:p∈ps):dH (ST.dB cy (ps++[p]))=ύ:=by
 cases h:dH (ST.dB cy (ps++[p])) with
 |false=>rfl
 |true =>
  exfalso;delta dH nM at h;erw[Å,Ë] at h;have up:=Lq h.1.2.2;have Z:(ST.dB cy (ps++[p])).Nodup:=up.imp λ{a b} Y e=>by
   subst e;rw[cy.yt] at Y;cases Y
  rw[(ST.sd _).nodup_iff,ad5] at Z;exact Z.2.2 p hi p ∅ rfl
def RX (h:Laid ps):Laid (ps.filter λq=>!eqB q p):=h.sub List.filter_sublist
def Lr (h:∀p∈ps,dX p=ό):∀p∈ps,jn p:=λp Z=>BX (h p Z)
end
section
variable {s s':ae} {ps book:List Pg} {p q:Pg} {a b:Nat} {aN bs:List (List Pg)} {env env':Env} {st cf:aeO Fl} {d x:D} {y:bg}
def gC (h:st env s=ok (.nx env') s'):aq st cf env s=cf env' s':=by delta aq;rw[h];rfl
def jd (h:st env s=ϊ (.error y,s')):aq st cf env s=ϊ (.error y,s'):=by delta aq;rw[h];rfl
structure Di (s:ae) (a b:Nat) (aN:List (List Pg)) (book:List Pg):Prop where
 ha:s[a]?=ϊ (.ins "Diary" [("books",.aj b)])
 hb:s[b]?=ϊ (.lst ((aN++[book]).map bD))
 ln:aN.length<=500
 bk:∀ps∈aN++[book],Bk ps
def Di.last (h:Di s a b aN book):Bk book:=h.bk book ∅
def Di.ex (h:Di s a b aN book) (x:Ex k s s') (ka:a≠k) (kb:b≠k):Di s' a b aN book:=⟨x.get h.ha ka,x.get h.hb kb,h.ln,h.bk⟩
def Di.kp (h:Di s a b aN book) (x:Kp s s'):Di s' a b aN book:=⟨x.get h.ha,x.get h.hb,h.ln,h.bk⟩
def Pe (ha:s[a]?=ϊ (.ins "Diary" [("books",.aj b)])):jk "Diary" (.aj a) s=ϊ (a,([("books",.aj b)]:List (Str×D))):=by
 delta jk;dsimp only;rw[ha];dsimp only;rw[Ñ (È rfl)]
def zX (ha:s[a]?=ϊ (.ins "Diary" [("books",.aj b)])):ip "Diary" "books" (.aj a) s=ok (.aj b) s:=by
 delta ip;rw[Pe ha];rfl
def oR (ha:s[a]?=ϊ (.ins "Diary" [("books",.aj b)])) (hm:(([("books",D.aj b)]:List (Str×D)).lookup f).isNone=ό) (he:fo env s=ok (.aj a) s) (hf:fa env s=ok ds s):eT "Diary" f fn fo fa env s=fn (.aj a::ds) s:=by
 delta eT;rw[he,bV,Pe ha];dsimp only;rw[hm,Ñ rfl,hf,bV]
def Mq (h:s[b]?=ϊ (.lst ds)):res (.aj b) s=.lst ds:=by delta res;dsimp only;rw[h]
def XX:ay (.lst (xs++[x])) (.int (-1)) s=ok x s:=by
 rw[ZU (xs:=xs++[x]) ∅,List.getLast_append_of_ne_nil _ ∅];rfl
def XY:ay (.lst ((aN++[book]).map bD)) (.int (-1)) s=ok (bD book) s:=by
 rw[Ĩ];exact XX
def abp (h:Di s a b aN book):ay (.aj b) (.int (-1)) s=ok (bD book) s:=by
 have e:ay (.aj b) (.int (-1)) s=ay (.lst ((aN++[book]).map bD)) (.int (-1)) s:=by
  delta ay kK;rw[Mq h.hb];rfl
 rw[e,XY]
def acT:qD (.int 1) s=ok (.int (-1)) s:=rfl
def DT (h:Di s a b aN book):lZ [.aj a] s=ok (bD book) s:=by
 refine aeQ ?_;delta lZ;refine dP.symm ▸ ⟨rfl,?_⟩;show Wp (aA _ [ϊ (.aj a)] s) _;rw[bW,bj,oO,aR];refine aeP (zX h.ha) ?_;rw[oO,bA];refine aeP acT (aeP (abp h) ?_);exact⟨rfl,rfl⟩
def XZ (h:dX p=ό):nh [p.d] s=ok .ar s:=by
 refine aeQ ?_;delta nh;simp only[VC,C0 (BX h),h,ý,Æ,ï,Ĥ]
def Ls {r:Env} {z:Option D} (h:dX p=ό):cF (dM nh (af (aa 1) ah)) (z::ϊ p.d::r) s=ok (.nx (z::ϊ p.d::r)) s:=by
 show ai (nh [p.d] s) _=_;rw[XZ h];rfl
def Mr (h:Di s a b aN book) (hl:ps.length<=100) (hp:∀p∈ps,dX p=ό):vB [.aj a,bD ps] s=if dH ps=ό then ok .ar (s.set b (.lst ((aN++[book]++[ps]).map bD))) else ϊ (.error ⟨"Clash",ϋ⟩,s):=by
 have e:cV (cu (aG sv (af (aa 1) ah))) [ϊ (.aj a),ϊ (bD ps)] s=ok (!dH ps) s:=by
  refine aeQ ?_;simp only[VC,Mg (show ps.length<=1000 by omega) (Lr hp),Ĥ]
 delta vB aD;show ai (aq _ _ [ϊ (.aj a),ϊ (bD ps)] s) _=_
 cases hb:dH ps with
 |true =>
  rw[hb] at e;rw[Ñ rfl];rw[gC (show aM _ _ _ [ϊ (.aj a),ϊ (bD ps)] s=ok (.nx [ϊ (.aj a),ϊ (bD ps)]) s from ?_)]
  ·refine aeQ ?_
   obtain⟨Z,Y⟩:=XT (x:=bD ps) h.hb (by rw[É,ä];have:=h.ln;simp;omega);rw[bP,p6,Ng,oO,aR];refine aeP (zX h.ha) ⟨Z,?_⟩;erw[bx,aR];refine aeP Y ?_;rw[bF,Ĩ (l₂:=[ps])];exact⟨rfl,rfl⟩
  ·delta aM
   rw[e];rfl
 |false =>
  rw[hb] at e;rw[Ú Ä];rw[jd (show aM _ _ _ [ϊ (.aj a),ϊ (bD ps)] s=ϊ (.error ⟨"Clash",ϋ⟩,s) from ?_)]
  ·rfl
  ·delta aM
   rw[e];rfl
def Ms (h:Di s a b aN book) (hp:dX p=ό):oo [.aj a,p.d] s=if dH (ST.dB cy (book++[p]))=ό then ok .ar (s.set b (.lst ((aN++[book]++[ST.dB cy (book++[p])]).map bD))) else ϊ (.error ⟨"Clash",ϋ⟩,s):=by
 have W:=h.last.len;delta oo aD;show ai (aq _ _ [ϊ (.aj a),ϊ p.d] s) _=_;rw[gC (Ls hp)];have Z:af (eB mf (af (eB TK.wb (af (e2 bh (eT "Diary" "book_now" lZ (aa 0) ah) (cZ (af (aa 1) ah))) ah)) ah)) ah [ϊ (.aj a),ϊ p.d] s=ok [bD (ST.dB cy (book++[p]))] s:=by
  refine aeQ ?_;rw[aL,de,aL,de,aL,bj];refine aeP (show eT "Diary" "book_now" lZ (aa 0) ah [ϊ (.aj a),ϊ p.d] s=ok (bD book) s from (oR h.ha (by rfl) (ds:=[]) rfl rfl).trans (DT h)) ?_;erw[iF,aL,aP,bx,aR];refine⟨le_size (n:=1) (by decide),?_⟩;refine aeP (Wj (show book.length<=1000 by omega)) ?_;refine aeP (show wb [bD (book++[p])] s=ok (.lst ((ST.dB cy (book++[p])).map Pg.d)) s from ?_) ?_
  ·show (if ((book++[p]).map Pg.d).length<64 then bT (xb ((book++[p]).map Pg.d)) s else ϋ)=_
   rw[É,Ñ (by rw[ä];show book.length+1<64;omega),K6];rfl
  exact⟨_,_,rfl,rfl,rfl⟩
 have Y:∀q∈ST.dB cy (book++[p]),dX q=ό:=λq X=>by
  rcases ó.mp ((ST.sd _).mem_iff.mp X) with h'|h'
  ·exact h.last.laid.pg q h'
  ·rw[Đ.mp h'];exact hp
 delta cF;rw[oR h.ha (by rfl) rfl Z,Mr h (by rw[(ST.sd _).length_eq,ä];show book.length+1<=100;omega) Y];generalize dH (ST.dB cy (book++[p]))=c
 cases c<;>rfl
def ZY {caps:Env} (hc:caps=[ϊ p.d]) (hl:ps.length<=100):iE 1 caps (gN 0) (aW (e2 ee (aa 0) (aa 1))) (aa 0) (ps.map Pg.d) s=ok ((ps.filter λq=>!eqB q p).map Pg.d) s:=by
 subst hc;refine comp_map Pg.d (λq=>!eqB q p) Pg.d ps λq _=>⟨[ϊ q.d,ϊ p.d],rfl,?_,λ_=>rfl⟩;refine aeQ ?_;erw[eO,bj,aR,bx,abo,bF,cC,Ĥ]
def UG (h:Di s a b aN book) (hp:dX p=ό):rN [.aj a,p.d] s=if (rH p book&&dH (book.filter λq=>!eqB q p))=ό then ok .ar (s.set b (.lst ((aN++[book]++[book.filter λq=>!eqB q p]).map bD))) else ϊ (.error ⟨"Clash",ϋ⟩,s):=by
 have V:=h.last.len;delta rN aD;show ai (aq _ _ [ϊ (.aj a),ϊ p.d,ϋ] s) _=_;rw[gC (Ls hp)];rw[gC (show bc _ _ [ϊ (.aj a),ϊ p.d,ϋ] s=ok (.nx [ϊ (.aj a),ϊ p.d,ϊ (bD book)]) s from ?_)]
 rotate_left
 ·refine aeQ ?_
  rw[eI];refine aeP (show eT "Diary" "book_now" lZ (aa 0) ah [ϊ (.aj a),ϊ p.d,ϋ] s=ok (bD book) s from (oR h.ha (by rfl) (ds:=[]) rfl rfl).trans (DT h)) ?_;rw[gj];exact⟨rfl,rfl⟩
 have Z:aW (e2 fV (aa 1) (aa 2)) [ϊ (.aj a),ϊ p.d,ϊ (bD book)] s=ok (!rH p book) s:=by
  refine aeQ ?_;erw[eO,bj,aR,bx,XW.2,bF,cC,Ĥ]
 cases Y:rH p book with
 |false =>
  rw[Y] at Z;rw[Ú (by rw[Ŭ];exact Ä)];rw[jd (show aM _ _ _ [ϊ (.aj a),ϊ p.d,ϊ (bD book)] s=ϊ (.error ⟨"Clash",ϋ⟩,s) from ?_)]
  ·rfl
  ·delta aM
   rw[Z];rfl
 |true =>
  rw[Y] at Z;rw[ú];rw[gC (show aM _ _ _ [ϊ (.aj a),ϊ p.d,ϊ (bD book)] s=ok (.nx [ϊ (.aj a),ϊ p.d,ϊ (bD book)]) s from ?_)]
  rotate_left
  ·delta aM
   rw[Z];rfl
  have X:af (eB mf (af (cM 1 [1] (cI (aa 2)) (gN 0) (aW (e2 ee (aa 0) (aa 1))) (aa 0)) ah)) ah [ϊ (.aj a),ϊ p.d,ϊ (bD book)] s=ok [bD (book.filter λq=>!eqB q p)] s:=by
   refine aeQ ?_;rw[aL,de,aL,jC];refine aeP (nk rfl) ⟨le_size (by rw[É];omega),?_⟩;refine aeP (ZY rfl (show book.length<=100 by omega)) ?_;erw[aP];exact⟨_,_,rfl,rfl,rfl⟩
  delta cF;have sub:(book.filter λq=>!eqB q p).length<=100:=Ý (ū _ _) ⋯;rw[oR h.ha (by rfl) rfl X,Mr h sub λq W=>h.last.laid.pg q (ĥ.mp W).1];generalize dH (book.filter λq=>!eqB q p)=c
  cases c<;>rfl
def ZZ (h:Di s a b aN book):cJ [.aj b] s=ok (.int (aN.length+1)) s:=by
 show bT (nQ (.aj b) s) s=_;have:nQ (.aj b) s=ϊ (.int (aN.length+1)):=by
  delta nQ;rw[Mq h.hb];dsimp only;rw[É,ä];rfl
 rw[this];rfl
def X0 (h:Di s a b aN book):vA [.aj a] s=if aN=[] then ϊ (.error ⟨"NoDeed",ϋ⟩,s) else ok .ar (s.set b (.lst (aN.map bD))):=by
 have Z:aW (e2 aX (eB cJ (af (e1 (ip "Diary" "books") (aa 0)) ah)) (eC (.int 1))) [ϊ (.aj a)] s=ok ((aN.length+1:Int)==1) s:=by
  refine aeQ ?_;erw[eO,bj,de,aL,aP,oO,aR];refine aeP (zX h.ha) (aeP (ZZ h) ?_);simp only[VC,Ĥ]
 delta vA aD;show ai (aq _ _ [ϊ (.aj a)] s) _=_;by_cases Y:aN=[]
 ·subst Y
  rw[Ñ rfl];rw[jd (show aM _ _ _ [ϊ (.aj a)] s=ϊ (.error ⟨"NoDeed",ϋ⟩,s) from ?_)]
  ·rfl
  ·delta aM
   rw[Z];rfl
 ·rw[Ú Y]
  have V:0<aN.length:=List.length_pos_iff.mpr Y;have X:((aN.length+1:Int)==1)=ύ:=beq_eq_false_iff_ne.mpr ⋯;rw[X] at Z;rw[gC (show aM _ _ _ [ϊ (.aj a)] s=ok (.nx [ϊ (.aj a)]) s from ?_)]
  rotate_left
  ·delta aM
   rw[Z];rfl
  have W:xN (.aj b) s=ok (bD book) (s.set b (.lst (aN.map bD))):=by
   delta xN;dsimp only;rw[h.hb];dsimp only;rw[Ĩ,à,Ō,ä,â,Ą,Nat.add_sub_cancel,ð (aeS _),Nat.sub_self];simp
  refine aeQ ?_;rw[bP,p6,oO,oO,aR];refine aeP (zX h.ha) (aeP W ?_);rw[bF];exact⟨rfl,rfl⟩
def Z0:oM "Diary" vC env s=ok (.aj s.length) (s++[.ins "Diary" [("books",.aj (s.length+1))],.lst [.tup []]]):=by
 have e:vC [.aj s.length] (s++[.ins "Diary" []])=ok .ar (s++[.ins "Diary" [("books",.aj (s.length+1))],.lst [.tup []]]):=by
  delta vC aD;show ai (qH _ _ _ _ [ϊ (.aj s.length)] (s++[.ins "Diary" []])) _=_;delta qH;have e1:eNew (af (cZ ah) ah) [ϊ (.aj s.length)] (s++[.ins "Diary" []])=ok (.aj (s.length+1)) (s++[.ins "Diary" [],.lst [.tup []]]):=by
   refine aeQ ?_;erw[DM,iF,aL,aP];refine⟨le_size (n:=0) (by decide),le_size (n:=1) (by decide),?_,?_⟩
   ·simp
   ·simp
  rw[e1,bV];show ai (ai (ok (D.aj s.length) _) _) _=_;rw[bV];have e2:jk "Diary" (.aj s.length) (s++[.ins "Diary" [],.lst [.tup []]])=ϊ (s.length,[]):=by
   delta jk;dsimp only;rw[ð (aeS _),Nat.sub_self];rw[List.getElem?_cons_zero];dsimp only;rw[Ñ (È rfl)]
  rw[e2];dsimp only;rw[Ñ (by decide)];have Z:∀(x y z:Cell),List.set (s++[x,y]) s.length z=s++[z,y]:=λx y z=>by simp
  rw[Z];rfl
 delta oM;rw[e];rfl
end
section
variable {s:ae} {env:Env} {x y z:Str} {ws:List Str} {c:Nat}
theorem Nr:∀{ps:List (List Nat)} {p:List Nat},p∈ps->p.length<=(jl c ps).length
 | [q],p,h=>by rw[Đ.mp h];exact aeS _
 |q::r::t,p,h=>by
  show p.length<=(q++c::jl c (r::t)).length;rw[ä,â]
  rcases Û.mp h with rfl|h
  ·omega
  ·have:=Nr (ps:=r::t) h;omega
def qc (h:z∈Ī x ⟨#[c]⟩):z.length<=x.length:=by
 have e:=aeB x ⟨#[c]⟩;rw[jG z,jG x,<- e,C4];exact Nr (ĉ.mpr ⟨z,h,rfl⟩)
abbrev sl (x:Str):List Str:=Ī x ⟨#[47]⟩
abbrev bs (x:Str):List Str:=Ī x ⟨#[32]⟩
def BY (hl:x.length<=1000):(Ī x ⟨#[c]⟩).length<=1002:=Ý (aef x ⟨#[c]⟩) ⋯
def gR:∀zs:List Str,(zs.map D.str).length=zs.length:=λzs=>É ..
def mW (z:Str):Bool:=ώ (z="-")||jo z
def jb (x:Str):Bool:=ώ ((sl x).length=2)&&(sl x).all mW
def pf {ds:List D} (hl:ds.length<=1000000):cJ [.lst ds] s=ok (.int ds.length) s:=rfl
def qW {n m:Nat}:((n:Int)==(m:Int))=ώ (n=m):=by
 by_cases h:n=m
 ·rw[h];simp
 ·rw[Ì h]
  simpa using λe:(n:Int)=m=>h ⋯
def Nt {F:List D->ae->Res D} {T:(aeO D)->aeO D} (hl:x.length<=1000) (hF:∀z∈sl x,F [.str z] s=ok (.bl (jo z)) s) (hT:∀C env,C env s=ok (.lst ((sl x).map λz=>D.bl (mW z))) s->T C env s=ok (.bl ((sl x).all mW)) s):aD 1 2 (aq (bc (dY jc (aa 0) (eC (.str "/"))) (gN 1)) (aA (cO (e2 aX (eB cJ (af (aa 1) ah)) (eC (.int 2))) (T (cM 1 [] (cI (aa 1)) (gN 0) cT (lT (e2 aX (aa 0) (eC (.str "-"))) (aG F (af (aa 0) ah)))))))) [.str x] s=ok (.bl (jb x)) s:=by
 refine aeQ ?_;refine dP.symm ▸ ⟨rfl,aeR λR Z=>?_⟩;rw[eI];refine aeP (vW Ox rfl ⋯) ?_;rw[gj];show fG R _ (.nx [ϊ (.str x),ϊ (.lst ((sl x).map D.str))]) s;rw[bz];subst Z;have X:(sl x).length<=1002:=BY hl;rw[bW,kW,bj];erw[de,aL,aP,aR,bx,bA];refine aeP (pf (by rw[gR];omega)) ?_;rw[gR,qu,cC];delta jb;rw[show (((sl x).length:Int)==2)=ώ ((sl x).length=2) from qW (m:=2)]
 cases ώ ((sl x).length=2) with
 |false=>exact⟨rfl,rfl⟩
 |true =>
  rw[Ñ rfl,ú];refine aeP (hT _ _ (aeQ ?_)) ⟨rfl,rfl⟩;rw[jC];refine aeP (nq (ds:=(sl x).map D.str) rfl) ⟨le_size (by rw[gR];omega),?_⟩;refine aeP (comp_map D.str (λ_=>ό) (λz=>D.bl (mW z)) (sl x) λz Y=>⟨[ϊ (.str z)],rfl,rfl,λ_=>aeQ ?_⟩) ?_
  ·erw[DN,bj,aR,bA]
   refine aeP uE ?_;erw[cC];delta mW
   cases ώ (z="-") with
   |true=>erw[ò];exact⟨rfl,trivial⟩
   |false =>
    erw[Æ,ï,wp_call,aL,aP,aR];exact aeP (hF z Y) ⟨rfl,rfl⟩
  rw[ő.mpr (λ_ _=>rfl)];exact⟨rfl,rfl⟩
def KD (hl:x.length<=1000):yG [.str x] s=ok (.bl (jb x)) s :=
 Nt (T:=λC=>eB mz (af C ah)) hl (λz Z=>C7 (by have:=qc Z;omega)) λC env e=>aeQ (by
  rw[de,aL];refine aeP e ?_;rw[aP];exact aeP (qj mW (sl x) s) ⟨rfl,rfl⟩)
def fu:List Str->Bool
 | [w,a,b,v]=>b9 a&&b9 b&&(if w="made" then jb v else ώ (w="mended")&&b9 v)
 |_=>ύ
def FF {ws:List Str} (h:ws.length=4):∃w a b v,ws=[w,a,b,v]:=by
 match ws,h with
 | [w,a,b,v],_=>exact⟨w,a,b,v,rfl⟩
def DU (h:ws.length≠4):fu ws=ύ:=by
 match ws,h with
 | [],_ | [_],_ | [_,_],_ | [_,_,_],_=>rfl
 | [_,_,_,_],h=>exact absurd rfl h
 |_::_::_::_::_::_,_=>rfl
def J2 (hn:ws.length<=2000) (hl:∀z∈ws,z.length<=1000):vn [.lst (ws.map D.str)] s=ok (.bl (fu ws)) s:=by
 refine aeQ ?_;delta vn;refine dP.symm ▸ ⟨rfl,aeR λR Z=>?_⟩;show Wp (aM _ _ _ [ϊ (.lst (ws.map D.str)),ϋ,ϋ,ϋ,ϋ] s) _;erw[oF,eO,bj,de,aL,aP,aR,bA];refine aeP (pf (by rw[gR];omega)) ?_;rw[gR,zU,cC,show (((ws.length:Int)==4))=ώ (ws.length=4) from qW (m:=4)];by_cases Y:ws.length=4
 ·obtain⟨w,a,b,v,rfl⟩:=FF Y
  rw[È Y];erw[ý,Æ,ï,dF,bz];subst Z;have U:=hl a ∅;have T:=hl b ∅;have lv:=hl v ∅;refine aeR λR Z=>?_;rw[eI,aR];refine⟨[ϊ (.lst (([w,a,b,v]:List Str).map D.str)),ϊ (.str w),ϊ (.str a),ϊ (.str b),ϊ (.str v)],rfl,?_⟩;rw[bz];subst Z;refine aeR λR Z=>?_;erw[oF,kf,we,qr,wp_call,aL,aP,aR,bx];refine aeP (vG ⋯) ?_;rw[kU]
  cases X:b9 a with
  |false =>
   erw[ι,ò,bW,bA,kg,jF];simp[fu,X]
  |true =>
   erw[ý,Æ,ï];refine aeP (vG ⋯) ?_;rw[kU]
   cases W:b9 b with
   |false =>
    erw[ι,ò,bW,bA,kg,jF];simp[fu,W]
   |true =>
    erw[ý,Æ,ï,dF,bz];subst Z;refine aeR λR Z=>?_;erw[oF,eO,bj,aR,bx,bA];refine aeP uE ?_;rw[cC];by_cases hw:w="made"
    ·rw[È hw]
     erw[ò,bW,wp_call,aL,aP,aR,bx];refine aeP (KD lv) ?_;simp[kg,jF,fu,X,W,hw]
    ·rw[Ì hw]
     erw[Æ,ï,dF,bz];subst Z;erw[bW,kW,bj,aR,bx,bA];refine aeP uE ?_;rw[cC];by_cases V:w="mended"
     ·rw[È V]
      erw[ò,wp_call,aL,aP,aR,bx];refine aeP (vG ⋯) ?_;have e:fu [w,a,b,v]=b9 v:=by
       show (b9 a&&b9 b&&if w="made" then jb v else ώ (w="mended")&&b9 v)=b9 v
       rw[X,W,Ú hw,È V];simp
      rw[e];exact⟨rfl,rfl⟩
     ·rw[Ì V]
      simp[jF,fu,X,W,hw,V]
 ·rw[Ì Y]
  erw[ι,ò,bW,bA,kg,jF];simp[DU Y]
def dw {s':ae} {t:aeO Bool} {st cf:aeO Fl} {Q:Fl->ae->Prop} {b:Bool} (hc:t env s=ok b s') (h:if b=ό then Wp (st env s') Q else Wp (cf env s') Q):Wp (aM t st cf env s) Q:=by
 rw[oF];exact aeP hc h
def dI {f:aeO D} {w v:Str} (h:f env s=ok (.str w) s):aW (e2 aX f (eC (.str v))) env s=ok (ώ (w=v)) s:=by
 refine aeQ ?_;rw[eO,bj];refine aeP h ?_;rw[bA];refine aeP uE ?_;rw[cC];exact⟨rfl,rfl⟩
def yA:List Str->Bool
 | [v]=>jb v
 |_=>ύ
def iu:List Str->Bool
 | []=>ύ
 |w::r=>if w="out" then fu r else if w="surely" then ώ (r.length=2)&&r.all b9 else if w="where" then yA r else if w="undo"\/w="book" then r.isEmpty else fu (w::r)
def sR {w:Str} {r:List Str}:ay (.lst ((w::r).map D.str)) (.int 0) s=ok (.str w) s:=by
 have e:cX ((w::r).map D.str) (0:Int)=ϊ (.str w):=by
  obtain⟨y,e1,e2⟩:=nE (xs:=(w::r).map D.str) (i:=0) (by decide) ∅;rw[e1];simpa using e2.symm
 show bT (cX ((w::r).map D.str) 0) s=_;rw[e];rfl
def C8 {w:Str} {r:List Str}:qp (.lst ((w::r).map D.str)) (ϊ 1) ϋ s=ok (.lst (r.map D.str)) s:=by
 show ok (D.lst (cutD ((w::r).map D.str) (ϊ 1) ϋ)) s=_;have e:cutD ((w::r).map D.str) (ϊ 1) ϋ=r.map D.str:=by
  delta cutD;simp[HT.bp];exact List.take_of_length_le ∅
 rw[e]
theorem KG:∀{zs:List Str},(∀z∈zs,Ó z=ό)->DI.cR (zs.map D.str)=ό
 | [],_=>rfl
 |z::zs,h=>by
  rw[à,DI.cR,KG λy Z=>h y (Ï _ Z)];simp[lay,h z ß]
def zB {zs:List Str} (h:∀z∈zs,Ó z=ό):aX (.lst (zs.map D.str)) (.lst []) s=ok (.bl zs.isEmpty) s:=by
 have e:kl (.lst (zs.map D.str)) (.lst [])=ϊ zs.isEmpty:=by
  delta kl;rw[Ú (by simp[pN]),Ñ (by erw[lay,KG h,cR,dep,fz,ĵ,ú,Ë];exact È (Ý (Nat.min_le_right _ 1) (show 1<=100 by decide)))]
  cases zs<;>rfl
 show (match kl (.lst (zs.map D.str)) (.lst []) with|some b=>ok (D.bl b) s|none=>ϋ)=_
 rw[e]
theorem Nu:∀{ps:List (List Nat)} {p:List Nat} {n:Nat},p∈ps->n∈p->n∈jl c ps
 | [q],p,n,h,Z=>by rw[Đ.mp h] at Z;exact Z
 |q::r::t,p,n,h,Z=>by
  show n∈q++c::jl c (r::t)
  rcases Û.mp h with rfl|h
  ·exact ÿ _ Z
  ·exact Ù _ (Ï _ (Nu h Z))
def j5:Ó x=ό↔∀n∈sg x,n<1114112:=by
 delta Ó;rw[<- Array.all_toList,ô];simp
def zk (h:z∈Ī x ⟨#[c]⟩) (hx:Ó x=ό):Ó z=ό:=by
 refine j5.mpr λn Z=>j5.mp hx n ?_;have e:=aeB x ⟨#[c]⟩;rw[<- e,C4];exact Nu (ĉ.mpr ⟨z,h,rfl⟩) Z
def X1 {w:Str} {r:List Str} (hn:r.length<=1500) (hl:∀z∈w::r,z.length<=1000) (hk:∀z∈r,Ó z=ό):sE [.lst ((w::r).map D.str)] s=ok (.bl (iu (w::r))) s:=by
 have Y:∀z∈r,z.length<=1000:=λz h=>hl z (Ï _ h);refine aeQ ?_;delta sE;refine dP.symm ▸ ⟨rfl,aeR λR Z=>?_⟩;show Wp (xE 1 2 _ [ϊ (.lst ((w::r).map D.str)),ϋ,ϋ] s) _;rw[L5];erw[aL,aP,bj,Am,aR,bA,zQ];refine aeP sR (aeP (show cK (eC (.int 1)) [ϊ (.lst ((w::r).map D.str)),ϋ,ϋ] s=ok (ϊ 1) s from rfl) (aeP C8 ⟨_,_,rfl,?_⟩));show fG R _ (.nx [ϊ (.lst ((w::r).map D.str)),ϊ (.str w),ϊ (.lst (r.map D.str))]) s;rw[bz];subst Z;have X:∀{f:aeO D} {b:Bool} {Q:D->ae->Prop} {R:aeO Fl},f [ϊ (.lst ((w::r).map D.str)),ϊ (.str w),ϊ (.lst (r.map D.str))] s=ok (.bl b) s->Q (.bl b) s->Wp (aA f [ϊ (.lst ((w::r).map D.str)),ϊ (.str w),ϊ (.lst (r.map D.str))] s) (fG R (pd Q)):=λh q=>by
  rw[bW];exact aeP h q
 refine aeR λR Z=>dw (dI rfl) ?_;by_cases W:w="out"
 ·rw[È W,Ñ rfl]
  exact X (aeQ (by erw[wp_call,aL,aP,aR,bx];exact aeP (J2 ⋯ Y) ⟨rfl,rfl⟩)) ⟨by rw[show iu (w::r)=fu r from Ñ W],rfl⟩
 rw[Ì W,Ú Ä,dF,bz];subst Z
 have e1:iu (w::r)=if w="surely" then ώ (r.length=2)&&r.all b9 else if w="where" then yA r else if w="undo"\/w="book" then r.isEmpty else fu (w::r):=Ú W
 refine aeR λR Z=>dw (dI rfl) ?_;by_cases V:w="surely"
 ·rw[È V,Ñ rfl]
  refine X (b:=ώ (r.length=2)&&r.all b9) (aeQ ?_) ⟨by rw[e1,Ñ V],rfl⟩;erw[kW,bj,de,aL,aP,aR,bx,bA];refine aeP (pf (by rw[gR];omega)) ?_;rw[gR,qu,cC,show ((r.length:Int)==2)=ώ (r.length=2) from qW (m:=2)]
  cases ώ (r.length=2) with
  |false=>exact⟨rfl,rfl⟩
  |true =>
   rw[Ñ rfl,ú];erw[jC];refine aeP (nq (ds:=r.map D.str) rfl) ⟨le_size (by rw[gR];omega),?_⟩;refine aeP (comp_map D.str (λ_=>ό) (λz=>D.bl (b9 z)) r λz S=>⟨[ϊ (.str z)],rfl,rfl,λ_=>aeQ ?_⟩) ?_
   ·erw[wp_call,aL,aP,aR]
    exact aeP (vG (by have:=Y z S;omega)) ⟨rfl,rfl⟩
   rw[ő.mpr (λ_ _=>rfl)];exact aeP (qj b9 r s) ⟨rfl,rfl⟩
 rw[Ì V,Ú Ä,dF,bz];subst Z;rw[Ú V] at e1;refine aeR λR Z=>dw (dI rfl) ?_;by_cases U:w="where"
 ·rw[È U,Ñ rfl]
  refine X (b:=yA r) (aeQ ?_) ⟨by rw[e1,Ñ U],rfl⟩;erw[kW,bj,de,aL,aP,aR,bx,bA];refine aeP (pf (by rw[gR];omega)) ?_;rw[gR,qu,cC,show ((r.length:Int)==1)=ώ (r.length=1) from qW (m:=1)]
  match r,Y with
  | [],_=>exact⟨rfl,rfl⟩
  | [v],Y =>
   rw[È (show [v].length=1 from rfl),Ñ rfl];erw[wp_call,aL,aP,bj,aR,bx,bA];refine aeP sR (aeP (KD (Y v ∅)) ⟨rfl,rfl⟩)
  |a::b::q,_ =>
   rw[Ì (show ¬ (a::b::q).length=1 by simp)];exact⟨rfl,rfl⟩
 rw[Ì U,Ú Ä,dF,bz];subst Z;rw[Ú U] at e1;have e2:eU (aW (e2 aX (aa 1) (eC (.str "undo")))) (aW (e2 aX (aa 1) (eC (.str "book")))) [ϊ (.lst ((w::r).map D.str)),ϊ (.str w),ϊ (.lst (r.map D.str))] s=ok (ώ (w="undo"\/w="book")) s:=by
  refine aeQ ?_;rw[kf];refine aeP (dI rfl) ?_;by_cases h:w="undo"
  ·rw[È h,Ñ rfl]
   exact⟨(È (ο h)).symm,rfl⟩
  ·rw[Ì h,Ú Ä]
   refine aeP (dI rfl) ⟨?_,rfl⟩
   by_cases P:w="book"<;>simp[h,P]
 refine aeR λR Z=>dw e2 ?_;by_cases T:w="undo"\/w="book"
 ·rw[È T,Ñ rfl]
  refine X (b:=r.isEmpty) (aeQ ?_) ⟨by rw[e1,Ñ T],rfl⟩;erw[bj,aR,bx,ke,aP];refine⟨le_size (n:=0) (by decide),?_⟩;exact aeP (zB hk) ⟨rfl,rfl⟩
 rw[Ì T,Ú Ä,dF,bz];subst Z;rw[Ú T] at e1;rw[bW];erw[wp_call,aL,aP,aR];refine aeP (J2 (by simp;omega) hl) ⟨by rw[e1],rfl⟩
def Lu (hl:x.length<=1000000) (hk:Ó x=ό):yY [.str x] s=ok (.bl (jo x)) s:=by
 refine Mp hl (aeQ ?_);rw[bj,jC];refine aeP (C6 rfl) ⟨le_size (by rw[É,<- jG];exact hl),?_⟩;refine aeP (comp_map (λc=>D.str ⟨#[c]⟩) (λc=>!mV c) (λc=>D.str ⟨#[c]⟩) (sg x) λc _=>⟨[ϊ (.str ⟨#[c]⟩)],rfl,aeQ ?_,λ_=>rfl⟩) ?_
 ·rw[eO]
  refine aeP (show e2 ze (aa 0) (eC (.str "0123456789")) [ϊ (.str ⟨#[c]⟩)] s=ok (.bl (ġ "0123456789" ⟨#[c]⟩ 0 (Str.length "0123456789") 1).isEmpty) s from rfl) ?_;rw[cC];have:=Nn (c:=c);refine⟨?_,rfl⟩;delta mV;rw[<- this,Bool.not_not]
 erw[ke,aP];refine⟨le_size (n:=0) (by decide),?_⟩;have e:=zB (s:=s) (zs:=((sg x).filter λc=>!mV c).map λc=>(⟨#[c]⟩:Str)) λz Z=>by
  obtain⟨c,Y,rfl⟩:=ĉ.mp Z;have:=j5.mp hk c (ĥ.mp Y).1;exact j5.mpr λn X=>by
   have:n=c:=by simpa using X
   omega
 rw[Ġ] at e;refine aeP e ⟨?_,rfl⟩;congr 1;rw[ĭ,List.isEmpty_iff,List.map_eq_nil_iff,List.filter_eq_nil_iff,ô];simp
def wg (hl:x.length<=1000000) (hk:Ó x=ό):l0 [.str x] s=ok (.bl (b9 x)) s:=by
 refine aeQ ?_;delta l0;refine dP.symm ▸ ⟨rfl,?_⟩;show Wp (aA _ [ϊ (.str x)] s) _;rw[bW,kW];erw[wp_call,aL,aP,aR];refine aeP (Lu hl hk) ?_;have e:=vG (s:=s) hl;have w:Wp (m8 [.str x] s) λd Z=>d=.bl (b9 x)/\Z=s:=⟨_,_,e,rfl,rfl⟩;delta m8 at w;rw[dP] at w;have w:=w.2
 replace w:Wp (aA _ [ϊ (.str x)] s) _:=w
 rw[bW,kW] at w;erw[wp_call,aL,aP,aR] at w;rw[show vp [.str x] s=ok (.bl (jo x)) s from C7 hl,bF] at w;exact w
def J3 (hl:x.length<=1000) (hk:Ó x=ό):yU [.str x] s=ok (.bl (jb x)) s :=
 Nt (T:=λC=>e2 fV (eC (.bl ύ)) C) hl (λz Z=>Lu (by have:=qc Z;omega) (zk Z hk)) λC env e=>aeQ (by
  rw[bj,bA];exact aeP e (aeP XU ⟨rfl,rfl⟩))
def DW (hu:Ó u=ό) (ha:Ó a=ό) (hb:Ó b=ό):ff (.str u) (.tup [.str a,.str b]) s=ok (.bl (ώ (u=a\/u=b))) s/\fV (.str u) (.tup [.str a,.str b]) s=ok (.bl (!ώ (u=a\/u=b))) s:=by
 have e:inD (.str u) [.str a,.str b]=ϊ (ώ (u=a\/u=b)):=by
  delta inD;rw[Ñ (by delta nJ;simp[cR,lay,dep,hu,ha,hb])];congr 1;have q:∀v:Str,beq (.str v) (.str u)=ώ (u=v):=λv=>by
   show (v==u)=_;by_cases h:u=v
   ·rw[h];simp
   ·rw[Ì h]
    simpa using λe:v=u=>h e.symm
  show (beq (.str a) (.str u)||(beq (.str b) (.str u)||false))=_;rw[q,q,Bool.or_false]
  by_cases Z:u=a<;>by_cases Y:u=b<;>simp[Z,Y]
 delta ff fV;rw[show nK (.tup [.str a,.str b]) s=ϊ [.str a,.str b] from rfl];erw[e];exact⟨rfl,rfl⟩
def Ct {v:Str} {q:List Str} (h:¬ (v="made"\/v="mended")):fu (v::q)=ύ:=by
 match q with
 | [a,b,c] =>
  show (b9 a&&b9 b&&if v="made" then jb c else ώ (v="mended")&&b9 c)=ύ
  rw[Ú λe=>h (.inl e),Ì λe=>h (.inr e)];simp
 | [] | [_] | [_,_] | _::_::_::_::_=>rfl
def mY {r:List Str} {n:Nat} {u:Str} (h:r[n]?=ϊ u):ay (.lst (r.map D.str)) (.int n) s=ok (.str u) s:=by
 have Z:=(Ô.mp h).1;have e:cX (r.map D.str) (n:Int)=ϊ (.str u):=by
  obtain⟨y,e1,e2⟩:=nE (xs:=r.map D.str) (i:=(n:Int)) ⋯ (by simp;exact Z);rw[e1];simp[h] at e2;rw[e2]
 show bT (cX (r.map D.str) (n:Int)) s=_;rw[e];rfl
abbrev mm:D:=.tup [.str "made",.str "mended"]
def Nv {a0:Option D} {Q:Fl->ae->Prop} {u:Str} {q:List Str} (hu:u="made"\/u="mended") (hn:q.length<=1500) (hl:∀z∈u::q,z.length<=1000) (hk:∀z∈u::q,Ó z=ό) (h:Q (.rt (.bl (fu (u::q)))) s):Wp (Hk [a0,ϊ (.lst ((u::q).map D.str))] s) Q:=by
 delta Hk;by_cases Z:(u::q).length=4
 ·obtain⟨T,a,b,v,e⟩:=FF Z
  injection e with e1 e2
  subst e1 e2;have W:(u::[a,b,v])[1]?=ϊ a:=rfl;have V:(u::[a,b,v])[2]?=ϊ b:=rfl;have ev:(u::[a,b,v])[3]?=ϊ v:=rfl;have na:l0 [.str a] s=ok (.bl (b9 a)) s:=wg (by have:=hl a ∅;omega) (hk a ∅);have nb:l0 [.str b] s=ok (.bl (b9 b)) s:=wg (by have:=hl b ∅;omega) (hk b ∅);refine aeR λR Y=>dw (b:=!(b9 a&&b9 b)) (s':=s) (aeQ ?_) ?_
  ·erw[kf,eO,bj,de,aL,aP,aR,bx,bA,we,qr,wp_call]
   refine aeP (show cJ [.lst ((u::[a,b,v]).map D.str)] s=ok (.int 4) s from rfl) ?_;erw[zU,cC,Ė,ý,Æ,ï];refine aeP (mY (n:=1) W) (aeP na ?_);rw[kU]
   cases b9 a with
   |false=>exact⟨rfl,rfl⟩
   |true =>
    erw[ý,Æ,ï,ú];refine aeP (mY (n:=2) V) (aeP nb ?_);rw[kU];exact⟨rfl,rfl⟩
  ·cases X:b9 a&&b9 b with
   |false =>
    erw[ι,ò,bW,bA,kg];rw[show fu (u::[a,b,v])=ύ by show (b9 a&&b9 b&&_)=ύ;rw[X,Ŭ]] at h;exact h
   |true =>
    erw[ý,Æ,ï,dF,bz];subst Y
    have U:fu (u::[a,b,v])=if u="made" then jb v else b9 v:=by
     show (b9 a&&b9 b&&if u="made" then jb v else ώ (u="mended")&&b9 v)=_
     rw[X,ú];by_cases e:u="made"
     ·rw[Ñ e,Ñ e]
     ·rw[Ú e,Ú e,È (hu.resolve_left e),ú]
    rw[U] at h;rw[bW,sY];refine aeP (dI (w:=u) (aeQ ?_)) ?_
    ·erw[bj,aR,bx,bA]
     exact aeP sR ⟨rfl,rfl⟩
    by_cases e:u="made"
    ·rw[È e,Ñ rfl]
     rw[Ñ e] at h;erw[wp_call,aL,aP,bj,aR,bx,bA];exact aeP (mY (n:=3) ev) (aeP (J3 (hl v ∅) (hk v ∅)) h)
    ·rw[Ì e,Ú Ä]
     rw[Ú e] at h;erw[wp_call,aL,aP,bj,aR,bx,bA];exact aeP (mY (n:=3) ev) (aeP (wg (by have:=hl v ∅;omega) (hk v ∅)) h)
 ·refine aeR λR Y=>dw (b:=ό) (s':=s) (aeQ ?_) ?_
  ·erw[kf,eO,bj,de,aL,aP,aR,bx,bA]
   refine aeP (pf (by rw[gR];simp;omega)) ?_;rw[gR,zU,cC,show ((((u::q).length:Nat):Int)==4)=ώ ((u::q).length=4) from qW (m:=4),Ì Z];simp
  ·rw[Ñ rfl,bW,bA,kg]
   rw[DU Z] at h;exact h
def Wl (h:bs x=[y]):x=y:=by
 have e:=aeB x ⟨#[32]⟩;rw[show Ī x ⟨#[32]⟩=[y] from h] at e;exact e.symm
def xq (x:Str):∃w r,bs x=w::r:=by
 cases h:bs x with
 |nil =>
  have:=PyProof.Rows.split_pos x ⟨#[32]⟩;rw[show Ī x ⟨#[32]⟩=[] from h] at this;simp at this
 |cons w r=>exact⟨w,r,rfl⟩
def KH (h:bs x=w::r) (hv:bs v=[v]) (h32:32∉sg v):x=v↔w=v/\r=[]:=by
 constructor
 ·intro e
  rw[e,hv] at h
  injection h with Z Y
  exact⟨Z.symm,Y.symm⟩
 ·rintro ⟨rfl,rfl⟩
  exact Wl h
def Mt:bs "undo"=[("undo":Str)]/\32∉sg "undo":=nofun
def C9:bs "book"=[("book":Str)]/\32∉sg "book":=nofun
def Wm (hl:x.length<=1000) (hk:Ó x=ό):y0 [.str x] s=ok (.bl (iu (bs x))) s:=by
 obtain⟨w,r,U⟩:=xq x;have J:(w::r).length<=1002:=U ▸ BY hl;have I:r.length<=1001:=by rw[â] at J;omega
 have W:∀z∈w::r,z.length<=1000:=λz T=>Ý (qc (c:=32) (show z∈bs x by rw[U];exact T)) hl;have X:∀z∈w::r,Ó z=ό:=λz T=>zk (c:=32) (show z∈bs x by rw[U];exact T) hk;have L:Ó "made"=ό:=nofun
 have kd:Ó "mended"=ό:=nofun
 refine aeQ ?_;delta y0;refine dP.symm ▸ ⟨rfl,aeR λR Y=>?_⟩;rw[eI];refine aeP (vW blank rfl ⋯) ?_;rw[gj,show Ī x ⟨#[32]⟩=w::r from U];show fG R _ (.nx [ϊ (.str x),ϊ (.lst ((w::r).map D.str))]) s;rw[bz,U];subst Y;have hw:∀{u:Str} {q:List Str},e2 ay (aa 1) (eC (.int 0)) [ϊ (.str x),ϊ (.lst ((u::q).map D.str))] s=ok (.str u) s:=λ{u q}=>aeQ (by
  erw[bj,aR,bx,bA];exact aeP sR ⟨rfl,rfl⟩)
 have isin:∀{u:Str} {q:List Str},Ó u=ό->aW (e2 ff (e2 ay (aa 1) (eC (.int 0))) (cZ (af (eC (.str "made")) (af (eC (.str "mended")) ah)))) [ϊ (.str x),ϊ (.lst ((u::q).map D.str))] s=ok (ώ (u="made"\/u="mended")) s:=λ{u q} H=>aeQ (by
  rw[eO,bj];refine aeP hw ?_;erw[iF,aL,aP,bA];refine⟨le_size (n:=2) (by decide),aeP (DW H L kd).1 ?_⟩;rw[cC];exact⟨rfl,rfl⟩)
 refine aeR λR Y=>dw (dI hw) ?_;by_cases S:w="out"
 ·have V:iu (w::r)=fu r:=Ñ S
  rw[È S,Ñ rfl,V];refine aeR λG M=>?_;rw[eI,Am];erw[aR,bx,zQ];refine aeP (show cK (eC (.int 1)) [ϊ (.str x),ϊ (.lst ((w::r).map D.str))] s=ok (ϊ 1) s from rfl) (aeP C8 ?_);rw[gj];show fG G _ (.nx [ϊ (.str x),ϊ (.lst (r.map D.str))]) s;rw[bz];subst M;have Q:∀z∈r,Ó z=ό:=λz T=>X z (Ï _ T)
  cases r with
  |nil =>
   refine dw (b:=ό) (s':=s) (aeQ ?_) ?_
   ·erw[kf,eO,bj,aR,bx,ke,aP]
    refine⟨le_size (n:=0) (by decide),aeP (zB (zs:=[]) ∅) ?_⟩;simp[cC]
   ·rw[Ñ rfl,bW,bA]
    exact⟨rfl,rfl⟩
  |cons v q =>
   refine dw (b:=!ώ (v="made"\/v="mended")) (s':=s) (aeQ ?_) ?_
   ·erw[kf,eO,bj,aR,bx,ke,aP]
    refine⟨le_size (n:=0) (by decide),aeP (zB Q) ?_⟩;erw[cC,List.isEmpty_cons,Æ,ï,bA,iF,aL,aP];refine aeP sR ⟨le_size (n:=2) (by decide),aeP (DW (Q v ∅) L kd).2 ?_⟩;rw[cC];exact⟨rfl,rfl⟩
   by_cases Z:v="made"\/v="mended"
   ·rw[È Z]
    erw[ý,Æ,ï,dF,bz];subst Y;refine aeR λR Y=>dw (isin (Q v ∅)) ?_;rw[È Z,Ñ rfl];exact Nv Z (by rw[â] at I;omega) (λz T=>W z (Ï _ T)) Q ⟨rfl,rfl⟩
   ·rw[Ì Z]
    erw[ι,ò,bW,bA,kg,jF];simp[Ct Z]
 ·have V:iu (w::r)=if w="surely" then ώ (r.length=2)&&r.all b9 else if w="where" then yA r else if w="undo"\/w="book" then r.isEmpty else fu (w::r):=Ú S
  rw[Ì S,Ú Ä,dF,bz];subst Y;refine aeR λR Y=>dw (isin (X w ∅)) ?_;by_cases Z:w="made"\/w="mended"
  ·rw[È Z,Ñ rfl]
   have F:¬ w="surely":=λe=>by rw[e] at Z;revert Z;decide +kernel
   have E:¬ w="where":=λe=>by rw[e] at Z;revert Z;decide +kernel
   have C:¬ (w="undo"\/w="book"):=λe=>by rcases e with e|e<;>(rw[e] at Z;revert Z;decide +kernel)
   rw[Ú F,Ú E,Ú C] at V;exact Nv Z ⋯ W X ⟨by rw[V],rfl⟩
  rw[Ì Z,Ú Ä,dF,bz];subst Y;refine aeR λR Y=>dw (dI hw) ?_;by_cases P:w="surely"
  ·rw[È P,Ñ rfl,V,Ñ P,bW]
   erw[kW,bj,de,aL,aP,aR,bx,bA];refine aeP (pf (by rw[gR];omega)) ?_;rw[gR,qu,cC,show ((((w::r).length:Nat):Int)==3)=ώ ((w::r).length=3) from qW (m:=3)]
   match r,W,X with
   | [a,b],W,X =>
    rw[È (show (w::[a,b]).length=3 from rfl),Ñ rfl];erw[wp_call,aL,aP,bj,aR,bx,bA];refine aeP (mY (n:=1) (u:=a) rfl) (aeP (wg (by have:=W a ∅;omega) (X a ∅)) ?_);rw[cC]
    cases K:b9 a with
    |false=>rw[Ú Ä];exact⟨by simp[K],rfl⟩
    |true =>
     rw[Ñ rfl];refine aeP (mY (n:=2) (u:=b) rfl) (aeP (wg (by have:=W b ∅;omega) (X b ∅)) ⟨by simp[K],rfl⟩)
   | [],_,_ | [_],_,_ | _::_::_::_,_,_=>rw[Ì ∅,Ú Ä];exact⟨by simp,rfl⟩
  rw[Ì P,Ú Ä,dF,bz];subst Y;rw[Ú P] at V;refine aeR λR Y=>dw (dI hw) ?_;by_cases O:w="where"
  ·rw[È O,Ñ rfl,V,Ñ O,bW]
   erw[kW,bj,de,aL,aP,aR,bx,bA];refine aeP (pf (by rw[gR];omega)) ?_;rw[gR,qu,cC,show ((((w::r).length:Nat):Int)==2)=ώ ((w::r).length=2) from qW (m:=2)]
   match r,W,X with
   | [a],W,X =>
    rw[È (show (w::[a]).length=2 from rfl),Ñ rfl];erw[wp_call,aL,aP,bj,aR,bx,bA];exact aeP (mY (n:=1) (u:=a) rfl) (aeP (J3 (W a ∅) (X a ∅)) ⟨rfl,rfl⟩)
   | [],_,_ | _::_::_,_,_=>rw[Ì ∅,Ú Ä];exact⟨rfl,rfl⟩
  rw[Ì O,Ú Ä,dF,bz];subst Y;rw[Ú O] at V;rw[bW];erw[bj,aR,iF,aL,aP,bA];refine⟨le_size (n:=2) (by decide),aeP (DW hk nofun nofun).1 ⟨?_,rfl⟩⟩;rw[V];congr 1;rw[ĭ,Ë,KH U Mt.1 Mt.2,KH U C9.1 C9.2];by_cases N:w="undo"\/w="book"
  ·rw[Ñ N,List.isEmpty_iff]
   exact⟨λh=>h.elim (·.2) (·.2),λh=>N.imp (⟨·,h⟩) (⟨·,h⟩)⟩
  ·rw[Ú N,Ct Z]
   exact⟨λh=>absurd (h.imp (·.1) (·.1)) N,λh=>by cases h⟩
def vI (x:Str):Int:=(NumText.digitsVal (sg x):Nat)
def KI (h:jo x=ό):1<=x.length/\x.length<=30/\∀c∈sg x,mV c=ό:=by
 delta jo at h;erw[Å,Ë,ô] at h;exact⟨h.1.1,h.1.2,h.2⟩
def X2 (h:jo x=ό):jL [.str x] s=ok (.int (vI x)) s:=by
 obtain⟨Z,W,Y⟩:=KI h;have e:adp x=ϊ (vI x):=intText_digits (λc X=>æ (Y c X)) (λz=>by rw[jG,show sg x=[] from z] at Z;simp at Z) ⋯
 show (if ώ (x.length<=640)=ό then (match adp x with|some n=>ok (D.int n) s|none=>ϋ) else ϋ)=_
 rw[Ñ (È ⋯),e]
def qw (h:b9 x=ό):jL [.str x] s=ok (.int (vI x)) s:=X2 (by delta b9 at h;exact(Å _ _ ▸ h).1)
def rJ (z:Str):List Int:=if z="-" then [] else (sg z).map λc:Nat=>(c:Int)-48
def yV (h:mW z=ό):si [.str z] s=ok (mD (rJ z)) s/\(rJ z).length<=30:=by
 by_cases Z:z="-"
 ·have e:rJ z=[]:=Ñ Z
  rw[e];refine⟨aeQ ?_,by decide⟩;delta si;refine dP.symm ▸ ⟨rfl,aeR λR Y=>dw (dI rfl) ?_⟩;rw[È Z,Ñ rfl];erw[bW,iF,aP];exact⟨le_size (n:=0) (by decide),rfl,rfl⟩
 ·have e:rJ z=(sg z).map λc:Nat=>(c:Int)-48:=Ú Z
  have X:jo z=ό:=by delta mW at h;rw[Ì Z,Bool.false_or] at h;exact h
  obtain⟨T,W,V⟩:=KI X;rw[e];refine⟨aeQ ?_,by rw[É,<- jG];exact W⟩;delta si;refine dP.symm ▸ ⟨rfl,aeR λR Y=>dw (dI rfl) ?_⟩;rw[Ì Z,Ú Ä,dF,bz];subst Y;show Wp (aA _ [ϊ (.str z)] s) _;rw[bW,de,aL,jC];refine aeP (C6 rfl) ⟨le_size (by rw[É,<- jG];omega),?_⟩;refine aeP (comp_map (λc=>D.str ⟨#[c]⟩) (λ_=>ό) (λc:Nat=>D.int ((c:Int)-48)) (sg z) λc U=>⟨[ϊ (.str ⟨#[c]⟩)],rfl,rfl,λ_=>aeQ ?_⟩) ?_
  ·erw[de,aL,aP,aR]
   exact aeP (XR (V c U)) ⟨rfl,rfl⟩
  rw[ő.mpr (λ_ _=>rfl),aP];refine aeP (show mf [.lst ((sg z).map λc:Nat=>D.int ((c:Int)-48))] s=ok (.tup ((sg z).map λc:Nat=>D.int ((c:Int)-48))) s from rfl) ⟨?_,rfl⟩;show D.tup _=D.tup _;rw[Ġ];rfl
def Wn (h:jb x=ό):∃a b,sl x=[a,b]/\mW a=ό/\mW b=ό:=by
 delta jb at h;erw[Å,Ë] at h
 match Z:sl x,h with
 | [a,b],h =>
  erw[List.all_cons,List.all_nil,aeo,Å] at h;exact⟨a,b,rfl,h.2.1,h.2.2⟩
 | [],h=>simp at h
 | [_],h=>simp at h
 |_::_::_::_,h=>simp at h
def vh (x:Str) (i:Nat):List Int:=rJ ((sl x).getD i "")
def JI (hl:x.length<=1000) (h:jb x=ό):∃a b:List Int,a.length<=30/\b.length<=30/\(a=vh x 0/\b=vh x 1)/\∀s:ae,sj [.str x] s=ok (.tup [mD a,mD b]) s:=by
 obtain⟨u,v,e,Z,Y⟩:=Wn h;refine⟨rJ u,rJ v,(yV (s:=[]) Z).2,(yV (s:=[]) Y).2,⟨by delta vh;rw[e];rfl,by delta vh;rw[e];rfl⟩,λs=>aeQ ?_⟩;delta sj;refine dP.symm ▸ ⟨rfl,aeR λR X=>?_⟩;rw[eI];refine aeP (vW Ox rfl ⋯) ?_;rw[show Ī x ⟨#[47]⟩=[u,v] from e];refine⟨[ϊ (.str x),ϊ (.str u),ϊ (.str v)],rfl,?_⟩;rw[bz];subst X;erw[bW,iF,wp_call,aL,aP,aR,bx];refine aeP (yV Z).1 (aeP (yV Y).1 ?_);exact⟨le_size (n:=2) (by decide),rfl,rfl⟩
def jQ:List Str->Pg
 | [w,a,b,v]=>if w="made" then .made (vI a) (vI b) (vh v 0) (vh v 1) else .c8 (vI a) (vI b) (vI v)
 |_=>.c8 0 0 0
def BM (hl:∀z∈ws,z.length<=1000) (h:fu ws=ό):∃p:Pg,jn p/\p=jQ ws/\∀s:ae,pZ [.lst (ws.map D.str)] s=ok p.d s:=by
 have T:ws.length=4:=by
  by_cases e:ws.length=4
  ·exact e
  ·rw[DU e] at h;cases h
 obtain⟨w,a,b,v,rfl⟩:=FF T
 have X:(b9 a&&b9 b&&if w="made" then jb v else ώ (w="mended")&&b9 v)=ό:=h
 erw[Å] at X;obtain⟨⟨W,V⟩,Y⟩:=X;by_cases hw:w="made"
 ·rw[Ñ hw] at Y
  obtain⟨i,j,li,Q,U,S⟩:=JI (hl v ∅) Y;refine⟨.made (vI a) (vI b) i j,⟨by omega,by omega⟩,by rw[show jQ [w,a,b,v]=_ from Ñ hw,U.1,U.2],λs=>aeQ ?_⟩;delta pZ;refine dP.symm ▸ ⟨rfl,aeR λR Z=>?_⟩;refine aeP (show bc (aa 0) (gL [gN 1,gN 2,gN 3,gN 4]) _ s=ok (.nx [ϊ (.lst (([w,a,b,v]:List Str).map D.str)),ϊ (.str w),ϊ (.str a),ϊ (.str b),ϊ (.str v),ϋ]) s from rfl) ?_;rw[bz];subst Z;refine aeR λR Z=>?_;rw[eI,sY];refine aeP (dI rfl) ?_;rw[È hw,Ñ rfl];erw[wp_call,aL,aP,aR,bx];refine aeP (S s) ?_;erw[gj,Ĝ,ĝ];rw[bz];subst Z;erw[bW,iF,de,aL,aP,aR,bx];refine aeP (qw W) (aeP (qw V) ?_);refine⟨le_size (n:=4) (by decide),?_,rfl⟩;rw[hw];rfl
 ·rw[Ú hw] at Y
  erw[Å,Ë] at Y;refine⟨.c8 (vI a) (vI b) (vI v),trivial,(Ú hw).symm,λs=>aeQ ?_⟩;delta pZ;refine dP.symm ▸ ⟨rfl,aeR λR Z=>?_⟩;refine aeP (show bc (aa 0) (gL [gN 1,gN 2,gN 3,gN 4]) _ s=ok (.nx [ϊ (.lst (([w,a,b,v]:List Str).map D.str)),ϊ (.str w),ϊ (.str a),ϊ (.str b),ϊ (.str v),ϋ]) s from rfl) ?_;rw[bz];subst Z;refine aeR λR Z=>?_;rw[eI,sY];refine aeP (dI rfl) ?_;rw[Ì hw,Ú Ä];erw[de,aL,aP,aR,bx];refine aeP (qw Y.2) ?_;erw[gj,Ĝ,ĝ];rw[bz];subst Z;erw[bW,iF,de,aL,aP,aR,bx];refine aeP (qw W) (aeP (qw V) ?_);refine⟨le_size (n:=4) (by decide),?_,rfl⟩;rw[Y.1];rfl
def zl (hl:x.length<=1000) (hk:Ó x=ό):iN [.str x] s=if iu (bs x)=ό then ok (.lst ((bs x).map D.str)) s else ϊ (.error ⟨"NoRow",ϋ⟩,s):=by
 obtain⟨w,r,Y⟩:=xq x;have U:(w::r).length<=1002:=Y ▸ BY hl;have T:∀z∈w::r,z.length<=1000:=λz Z=>Ý (qc (c:=32) (show z∈bs x by rw[Y];exact Z)) hl;have S:∀z∈w::r,Ó z=ό:=λz Z=>zk (c:=32) (show z∈bs x by rw[Y];exact Z) hk;have W:dY jc (aa 0) (eC (.str " ")) [ϊ (.str x)] s=ok (.lst ((bs x).map D.str)) s:=vW blank rfl ⋯;have X:eU (cV (cu (eB gU (af (aa 0) (af (eC (.ty "str")) ah))))) (cV (cu (aG sE (af (dY jc (aa 0) (eC (.str " "))) ah)))) [ϊ (.str x)] s=ok (!iu (bs x)) s:=by
  refine aeQ ?_;erw[kf,we,qr,de,aL,aP,aR,bA,wp_call];refine aeP (show gU [.str x,.ty "str"] s=ok (.bl ό) s from rfl) ?_;rw[kU];erw[ý,Æ,ï];refine aeP W ?_;rw[Y];refine aeP (X1 (by rw[â] at U;omega) T λz Z=>S z (Ï _ Z)) ?_;rw[kU];exact⟨rfl,rfl⟩
 delta iN aD;show ai (aq _ _ [ϊ (.str x)] s) _=_
 cases V:iu (bs x) with
 |true =>
  rw[V] at X;rw[Ñ rfl,gC (show aM _ _ _ [ϊ (.str x)] s=ok (.nx [ϊ (.str x)]) s by delta aM;rw[X];rfl)];delta aA;rw[W];rfl
 |false =>
  rw[V] at X;rw[Ú Ä,jd (show aM _ _ _ [ϊ (.str x)] s=ϊ (.error ⟨"NoRow",ϋ⟩,s) by delta aM;rw[X];rfl)];rfl
end
abbrev lW (p:Nat×Nat):D:=.tup [.int p.1,.int p.2]
def FG (h:0<=d/\d<31):ay (.lst ((è 31).map f)) (.int d) s=ok (f d.toNat) s:=by
 erw[ay,kK,res,XN h.1 h.2,bT]
def Pf:gI (n+1) (-1)=ϊ n:=by
 delta gI;rw[Ú ⋯,Ñ ⋯];congr 1;omega
def acU {xs:List D} {x:D}:cX (xs++[x]) (-1)=ϊ x:=by
 delta cX;rw[ä,aea,Pf];simp
def Z1 (h:s[k]?=ϊ (.lst (ds++[x]))):ay (.aj k) (.int (-1)) s=ok x s:=by
 delta ay kK res;erw[h,acU];rfl
def X5 (h:s[k]?=ϊ (.lst (ds++[x]))):mC (.aj k) (.int (-1)) y s=ϊ (s.set k (.lst (ds++[y]))):=by
 delta mC;erw[h];have e:gI (ds++[x]).length (-1)=ϊ ds.length:=by rw[ä,aea,Pf]
 rw[e];simp
theorem Cu (b:Nat->Bool):∀n,(cw b n).length<=n
 |0=>aeS _
 |n+1=>by
  have:=Cu b n;delta cw;split
  ·rename_i h
   erw[ä,List.length_dropLast,â,Ą];omega
  ·split
   ·simp;omega
   ·omega
def UH (h:j0 b n=ό):∃L d e,cw b n=L++[(d,e)]:=by
 rcases Ow (b:=b) n n (aeS _) with ⟨Z,_⟩ | ⟨_,S,d,_,_,_,e⟩
 ·rw[h] at Z;cases Z
 ·exact⟨_,_,_,e⟩
def Z2:vF [.lst ((è 31).map λi=>.bl (b i))] s=ok (.lst ((cw b 31).map lW)) (s++[.dead]):=by
 refine aeQ ?_;delta vF;erw[dP,â,Ą,Nat.reduceAdd,Nat.reduceSub,Ö,à,Ō,ħ,Ļ,true_and,ow,eI,gj,DM,aP,Ĝ,ĝ,bz,sP];refine⟨by decide,?_⟩;refine aeP (mr (n:=31) rfl (by decide)) ?_;refine Wp.qV (λi env Z=>i<=31->∃a2,env=[ϊ (.lst ((è 31).map λi=>.bl (b i))),ϊ (.aj s.length),a2]/\Z=s++[.lst ((cw b i).map lW)]) _ (λ_=>⟨_,rfl,rfl⟩) (λi d env Z Y X=>?_) (λenv Z X=>?_)
 ·rw[sL] at Y
  split at Y
  ·rename_i N
   cases Y;obtain⟨a2,rfl,rfl⟩:=X ⋯;refine⟨_,rfl,?_⟩;erw[Ĝ,ĝ,Int.zero_add];have cell:(s++[Cell.lst ((cw b i).map lW)])[s.length]?=ϊ (.lst ((cw b i).map lW)):=by simp
   have upd:∀c:Cell,(s++[Cell.lst ((cw b i).map lW)]).set s.length c=s++[c]:=λc=>by simp[ac4]
   have ln:=Cu b i;have app:(b i&&j0 b i)=ύ->Wp (aM (cu (e2 ay (aa 0) (aa 2))) (cF (mB (aa 1) (cZ (af (aa 2) (af (aa 2) ah))))) bH [ϊ (.lst ((è 31).map λi=>.bl (b i))),ϊ (.aj s.length),ϊ (.int i)] (s++[.lst ((cw b i).map lW)])) λW Z=>W=.nx [ϊ (.lst ((è 31).map λi=>.bl (b i))),ϊ (.aj s.length),ϊ (.int i)]/\Z=s++[.lst ((cw b (i+1)).map lW)]:=λO=>by
    rw[oF];simp only[VC,FG (show 0<=(i:Int)/\(i:Int)<31 by omega),ĳ]
    have V:cw b (i+1)=if (b i&&j0 b i)=ό then (cw b i).dropLast++[(((cw b i).getLast?.getD (0,0)).1,i)] else if b i=ό then cw b i++[(i,i)] else cw b i:=rfl
    rw[V,O]
    cases U:b i with
    |false=>simp
    |true =>
     erw[ò,Æ,ï]
     refine⟨by erw[lG,cell],by decide,aeP (show lF _ _ _=ok .ar (s++[.lst ((cw b i++[(i,i)]).map lW)]) from ?_) (by first|exact⟨rfl,rfl⟩|rfl)⟩
     delta lF;erw[cell];rw[Ñ (by rw[Ë,É];exact Ê (show (cw b i).length<1000 by omega) (le_size (by decide))),upd,Ĩ];rfl
   rw[oF];erw[CY,qr,bj,aR,bx,FG (show 0<=(i:Int)/\(i:Int)<31 by omega),ĳ,bF,kU]
   cases U:b i with
   |false =>
    erw[Æ,ï];exact(app (by rw[U];rfl)).mono λW R h=>by obtain⟨rfl,rfl⟩:=h;exact λ_=>⟨_,rfl,rfl⟩
   |true =>
    erw[ò,eO,bj,bA,aR,bx,Nj,cC];by_cases Q:0<i
    ·rw[È (show (i:Int) > 0 by omega)]
     simp only[ò,Mb,FG (show 0<=(i:Int)-1/\(i:Int)-1<31 by omega),bF,kU];rw[show ((i:Int)-1).toNat=i-1 by omega];have T:j0 b i=b (i-1):=by delta j0;rw[È Q];rfl
     cases S:b (i-1) with
     |false =>
      erw[Æ,ï];exact(app (by rw[T,S,Bool.and_false])).mono λW R h=>by obtain⟨rfl,rfl⟩:=h;exact λ_=>⟨_,rfl,rfl⟩
     |true =>
      erw[ò];obtain⟨L,d,e,P⟩:=UH (b:=b) (n:=i) (by rw[T];exact S);rw[P,Ĩ] at cell upd |-;rw[L6];erw[iF,aL,aP,bj,oO,aR,bx,bA];refine aeP (show qD (.int 1) _=ok (.int (-1)) _ from rfl) ?_;refine aeP (Z1 cell) ?_;refine aeP (show ay (lW (d,e)) (.int 0) _=ok (.int d) _ from rfl) ?_;refine⟨le_size (by erw[â,Ą];decide),aeP (show qD (.int 1) _=ok (.int (-1)) _ from rfl) ⟨_,X5 cell,λ_=>⟨_,rfl,?_⟩⟩⟩;rw[upd]
      have V:cw b (i+1)=if (b i&&j0 b i)=ό then (cw b i).dropLast++[(((cw b i).getLast?.getD (0,0)).1,i)] else if b i=ό then cw b i++[(i,i)] else cw b i:=rfl
      have:cw b (i+1)=L++[(d,i)]:=by
       rw[V,U,T,S,P];simp
      rw[this,Ĩ];rfl
    ·rw[Ì (show ¬ (i:Int) > 0 by omega)]
     erw[Æ,ï];exact(app (by delta j0;rw[Ì Q];simp)).mono λW R h=>by obtain⟨rfl,rfl⟩:=h;exact λ_=>⟨_,rfl,rfl⟩
  ·cases Y
 ·rw[qg] at X
  obtain⟨a2,rfl,rfl⟩:=X (aeS _);erw[bW,bz,jF,Nd,aR,bx];exact aeP XO ⟨rfl,rfl⟩
def qK:Wp (dM fn fa env s) Q=Wp (fa env s) λds s=>Wp (fn ds s) Q:=by delta dM;rw[bP]
theorem Mu {α:Type} (d:α->D) (h:α->List D):∀(xs:List α) (s:ae),(∀x∈xs,∃env,g (d x) kA=ϊ env/\(∀s,t env s=ok ό s)/\∀s,Wp (act env s) λys s'=>ys=h x/\∃c,s'=s++c) ->
  Wp (iW g t act kA (xs.map d) s) λys s'=>ys=xs.flatMap h/\∃c,s'=s++c
 | [],s,_=>by
  rw[Ō];delta iW;rw[bF];exact⟨rfl,[],by simp⟩
 |x::xs,s,Y=>by
  obtain⟨env,X,W,V⟩:=Y x ß;rw[à];delta iW;rw[X];erw[W,qA,bV,ò,bP,Al];refine(V s).mono λys S Z=>?_;obtain⟨rfl,c,rfl⟩:=Z;refine(Mu d h xs (s++c) λy Z=>Y y (Ï _ Z)).mono λzs R U=>?_;obtain⟨rfl,T,rfl⟩:=U;rw[bF,List.flatMap_cons];exact⟨rfl,c++T,by rw[Ĳ]⟩
abbrev lX (h l:List Int):D:=.tup [mD h,mD l]
def pS (ps:List Pg) (m:Int) (h l:List Int) (d:Nat):Bool:=h.all (λk=>!ab (lN ps m k) (mN ps m k) d)&&l.all λk=>!pr (sN ps m k) (mN ps m k) d
structure Sh (h l:List Int):Prop where
 a:fS 8 h
 b:fS 8 l
 ap:∀x∈h,x∉l
def Lw (hk:fS 8 h):ki h (k8.filter p)=h.all λk=>!p k:=by
 delta ki;rw[List.not_any_eq_all_not];rw[ĭ,ô,ô];have e:∀x∈h,(!ώ (x∈k8.filter p))=!p x:=λx Z=>by
  congr 1;rw[ĭ,Ë,ĥ];exact⟨λz=>z.2,λz=>⟨Nm.mpr (hk.lo x Z),z⟩⟩
 exact⟨λz x Z=>by rw[<- e x Z];exact z x Z,λz x Z=>by rw[e x Z];exact z x Z⟩
def Wo {m:Int} {h l:List Int} {d:Nat} (hs:Sh h l) (hd:d<=30):wc [lX h l,kq (iC ps m) (gM ps m) d] s=ok (.bl (pS ps m h l d)) s:=by
 refine aeQ ?_;have Z:=hs.a.len;have Y:=hs.b.len;delta wc kq pS;simp only[VC];refine aeP (ve _ _ _).1 (aeP (ve _ _ _).2 ?_);refine aeP (Co ⋯) ?_;rw[Lw hs.a];simp only[VC,XM hd]
 cases h.all λk=>!ab (lN ps m k) (mN ps m k) d with
 |false=>simp
 |true =>
  erw[ò,ú];refine aeP (ve _ _ _).2 (aeP (ve _ _ _).1 ?_);refine aeP (Co ⋯) ?_;rw[Lw hs.b];erw[XJ hd,Ĥ]
def UI (hs:Sh h l):rR [lX h l] s=ok .ar s:=by
 refine aeQ ?_;have Y:=hs.a.len;have X:=hs.b.len;delta rR;simp only[VC];refine aeP (Cp ⋯ ⋯) ?_;rw[JZ hs.a (aeS _),JZ hs.b (aeS _),show ki h l=ό by delta ki;rw[ł,List.any_eq_false];intro x Z;simpa using hs.ap x Z];simp only[VC,ĵ,ý,Æ,ï,Ĥ]
def vi (ps:List Pg) (h l:List Int):List D:=m4.flatMap λm=>(cw (pS ps m h l) 31).map λp=>D.tup [.int m,.int p.1,.int p.2]
def Nw (ps:List Pg) (h l:List Int):(vi ps h l).length<=124:=by
 delta vi;refine Ý (sG (b:=31) λm _=>?_) (by decide);rw[É];exact Cu _ 31
def UJ (hl:ps.length<=1000) (hf:∀p∈ps,jn p) (hb:dH ps=ό) (hs:Sh h l):Wp (rT [bD ps,lX h l] s) λx s'=>x=.lst (vi ps h l)/\∃c,s'=s++c:=by
 delta rT;rw[dP];refine⟨rfl,?_⟩;rw[ow,p6];erw[wp_call,qK,aL,aP,aR,bx,à,Ō,ħ,Ļ,Ö,Nat.reduceSub];refine aeP (zj hl hf hb) ?_;rw[bz,ow,p6];erw[wp_call,qK,aL,aP,aR,bx];refine aeP (UI hs) ?_;rw[bz,bW,Cn];refine aeP (mr (n:=4) rfl (by decide)) ?_;rw[show dg 0 4=m4.map D.int from rfl];refine(Mu D.int (λm=>(cw (pS ps m h l) 31).map λp=>D.tup [.int m,.int p.1,.int p.2]) m4 s λm W=>⟨[ϊ (.int m),ϋ,ϋ,ϊ (lX h l),ϊ (bD ps)],rfl,λ_=>rfl,λs=>?_⟩).mono λV s' Y=>?_
 ·delta more
  rw[bP];have Z:∃c,cI (aG vF (af (cM 1 [3] (cI (aG rQ (af (aa 4) (af (aa 0) ah)))) (gN 0) cT (aG wc (af (aa 1) (af (aa 0) ah)))) ah)) [ϊ (.int m),ϋ,ϋ,ϊ (lX h l),ϊ (bD ps)] s=ok ((cw (pS ps m h l) 31).map lW) (s++c):=by
   obtain⟨x,s',e,rfl,c,rfl⟩:=Mm (m:=m) (s:=s) hl;refine⟨c++[.dead],nq (aeQ ?_)⟩;erw[wp_call,qK,aL,aP,jC];refine aeP (nq (s1:=s++c) (ds:=ja.map (kq (iC ps m) (gM ps m))) (aeQ ?_)) ⟨by rw[É];exact le_size (by decide),?_⟩
   ·erw[wp_call,qK,aL,aP,aR,bx]
    exact aeP e ⟨rfl,rfl⟩
   refine aeP (comp_map (kq (iC ps m) (gM ps m)) (λ_=>ό) (λd=>.bl (pS ps m h l d.toNat)) ja λd X=>⟨[ϊ (kq (iC ps m) (gM ps m) d),ϊ (lX h l)],rfl,rfl,λ_=>?_⟩) ?_
   ·refine aeQ ?_
    obtain⟨i,Z,rfl⟩:=ĉ.mp X;rw[ċ] at Z;erw[wp_call,qK,aL,aP,aR,bx];exact aeP (Wo hs ⋯) ⟨rfl,rfl⟩
   ·rw[filter_tt]
    delta ja;rw[Ġ];refine aeP (Z2 (b:=pS ps m h l)) ⟨rfl,?_⟩;rw[Ĳ]
  obtain⟨c,Z⟩:=Z;refine aeP Z ?_;refine aeP (tm lW (λ_=>ό) (λp=>[D.tup [.int m,.int p.1,.int p.2]]) (cw (pS ps m h l) 31) λp U=>⟨[ϊ (.int m),ϊ (.int p.1),ϊ (.int p.2),ϊ (lX h l),ϊ (bD ps)],rfl,rfl,λ_=>?_⟩) ?_
  ·refine aeQ ?_
   delta emit;rw[bP];simp only[VC]
   first|exact⟨by decide,rfl,trivial⟩|exact⟨by decide,trivial⟩|decide
  ·rw[filter_tt,<- aey]
   exact⟨rfl,c,rfl⟩
 ·obtain⟨rfl,c,rfl⟩:=Y
  refine⟨le_size (Ý (Nw ps h l) (by decide)),?_⟩;rw[jF];exact⟨rfl,c,rfl⟩
section
variable {s s':ae} {env:Env} {x y z:Str} {ws:List Str} {c:Nat} {ps:List Pg} {m d:Int}
def gP (hx:Ó x=ό) (hy:Ó y=ό):Ó (x++y)=ό:=j5.mpr λn Z=>by
 rw[tB] at Z;exact(ó.mp Z).elim (j5.mp hx n) (j5.mp hy n)
theorem vX (hy:Ó y=ό):∀{zs:List Str},(∀z∈zs,Ó z=ό)->Ó (š y zs)=ό
 | [],_=>show Ó χ=ό by decide +kernel
 | [z],h=>h z ∅
 |z::u::r,h=>by
  show Ó (z++y++š y (u::r))=ό;exact gP (gP (h z ∅) hy) (vX hy λv Z=>h v (Ï _ Z))
def X6:∀n:Fin 31,Ó (num (n.val:Int))=ό:=nofun
def sH (h:0<=i/\i<31):Ó (num i)=ό:=by
 have:=X6 ⟨i.toNat,by omega⟩;rw[show (((⟨i.toNat,by omega⟩:Fin 31).val:Nat):Int)=i by simp;omega] at this;exact this
def zC (h:∀i∈l,0<=i/\i<8):Ó (gO l)=ό:=by
 delta gO;split
 ·decide +kernel
 ·refine j5.mpr λn Z=>?_
  rw[DQ] at Z;obtain⟨i,Y,rfl⟩:=ĉ.mp Z;have:=h i Y;omega
def yB (r:Res D) (s:ae):Prop:=(∃(y:Str) (c:List Cell),Ó y=ό/\r=ok (.str y) (s++c))\/∃k,k∈[("NoMould":Str),"NoDay","NoSheet"]/\r=ϊ (.error ⟨k,ϋ⟩,s)
def xV {fn:List D->ae->Res D} {fa:aeO (List D)} {ds:List D} {y:bg} (h:fa env s=ok ds s) (e:fn ds s=ϊ (.error y,s)):cF (dM fn fa) env s=ϊ (.error y,s):=by
 delta cF dM;rw[h,bV,e];rfl
def AM (h:fa env s=ok ds s) (e:fn ds s=ok v s):cF (dM fn fa) env s=ok (.nx env) s:=by
 delta cF dM;rw[h,bV,e];rfl
def Nx:cE.yN [.int m] s=if kh m=ό then ok .ar s else ϊ (.error ⟨"NoMould",ϋ⟩,s):=by
 have e:cV (cu (aG se (af (aa 0) ah))) [ϊ (.int m)] s=ok (!kh m) s:=by
  refine aeQ ?_;simp only[VC,Ll,Ĥ]
 delta cE.yN aD;show ai (aM _ _ _ [ϊ (.int m)] s) _=_;delta aM;rw[e]
 cases kh m<;>rfl
def Ny:cE.yX [.int d] s=if jm d=ό then ok .ar s else ϊ (.error ⟨"NoDay",ϋ⟩,s):=by
 have e:cV (cu (aG sD (af (aa 0) ah))) [ϊ (.int d)] s=ok (!jm d) s:=by
  refine aeQ ?_;simp only[VC,Nk,Ĥ]
 delta cE.yX aD;show ai (aM _ _ _ [ϊ (.int d)] s) _=_;delta aM;rw[e]
 cases jm d<;>rfl
def S0 (hl:ps.length<=1000) (hf:∀p∈ps,jn p) (hb:dH ps=ό):(∃k,k∈[("NoMould":Str),"NoDay"]/\cE.vU [bD ps,.int m,.int d] s=ϊ (.error ⟨k,ϋ⟩,s))\/∃c,cE.vU [bD ps,.int m,.int d] s=ok (kq (iC ps m) (gM ps m) d) (s++c):=by
 delta cE.vU aD;show (∃k,_/\ai (aq _ _ [ϊ (bD ps),ϊ (.int m),ϊ (.int d)] s) _=_)\/∃c,ai (aq _ _ [ϊ (bD ps),ϊ (.int m),ϊ (.int d)] s) _=_;rw[gC (AM (ds:=[bD ps]) rfl (zj hl hf hb))];by_cases Y:kh m=ό
 ·rw[gC (AM (ds:=[.int m]) (v:=.ar) rfl (by rw[Nx,Ñ Y]))]
  by_cases Z:jm d=ό
  ·rw[gC (AM (ds:=[.int d]) (v:=.ar) rfl (by rw[Ny,Ñ Z]))]
   refine .inr ?_;have X:0<=d/\d<31:=by delta jm at Z;simpa using Z
   obtain⟨v,V,e,rfl,c,rfl⟩:=Mm (m:=m) (s:=s) hl;refine⟨c,?_⟩;refine aeQ ?_;rw[bP,bW,bj];erw[wp_call,aL,aP,aR,bx];refine aeP e ?_;obtain⟨v,e1,e2⟩:=nE (xs:=ja.map (kq (iC ps m) (gM ps m))) X.1 (by show d<31;exact X.2);have:v=kq (iC ps m) (gM ps m) d:=by
    rw[ê] at e2;have W:ja[d.toNat]?=ϊ d:=by
     delta ja;rw[ê,Ŀ ⋯];simp;omega
    rw[W] at e2;exact(aeT e2).symm
   subst this;refine aeP (show ay (.lst (ja.map (kq (iC ps m) (gM ps m)))) (.int d) (s++c)=ok (kq (iC ps m) (gM ps m) d) (s++c) by erw[ay,kK,res,e1,bT]) ?_;rw[bF];exact⟨rfl,rfl⟩
  ·refine .inl ⟨"NoDay",by simp,?_⟩
   rw[jd (xV (ds:=[.int d]) (y:=⟨"NoDay",ϋ⟩) rfl (by rw[Ny,Ú Z]))];rfl
 ·refine .inl ⟨"NoMould",by simp,?_⟩
  rw[jd (xV (ds:=[.int m]) (y:=⟨"NoMould",ϋ⟩) rfl (by rw[Nx,Ú Y]))];rfl
def zY (p:Int->Bool):fS 8 (k8.filter p):=(show fS 8 k8 from ⟨by decide,by decide⟩).filter p
def Nz (h:f env s=ok (.str x) s) (hl:x.length<=1000000) (hg:g env s=ok (.str y) s):pb f g env s=ok (.str (if x.length=0 then y else x)) s:=by
 delta pb;rw[h,bV];dsimp only;rw[Ñ (È (le_size hl))];by_cases Z:x.length=0
 ·rw[Ñ (by simp[Z]),Ñ Z,hg]
 ·rw[Ú (by simp[Z]),Ú Z]
theorem zm {y:Str} {b:Nat}:∀{zs:List Str},(∀z∈zs,z.length<=b)->(š y zs).length<=zs.length*(b+y.length)
 | [],_=>by show 0<=_;omega
 | [z],h=>by
  have:=h z ∅;show z.length<=1*(b+y.length);omega
 |z::u::r,h=>by
  have Y:=h z ∅;have X:=zm (y:=y) (zs:=u::r) λv Z=>h v (Ï _ Z);show (z++y++š y (u::r)).length<=_;rw[fJ,fJ,â (a:=z),Nat.succ_mul];omega
def Z3 (ha:a.length<=1000) (hb:b.length<=1000):rR [.tup [mD a,mD b]] s=if (fY a&&(fY b&&ki a b))=ό then ok .ar s else ϊ (.error ⟨"NoSheet",ϋ⟩,s):=by
 have e:cV (cu (aG pX (af (aa 0) ah))) [ϊ (.tup [mD a,mD b])] s=ok (!(fY a&&(fY b&&ki a b))) s:=by
  refine aeQ ?_;simp only[VC,Cp ha hb,Ĥ]
 delta rR aD;show ai (aM _ _ _ [ϊ (.tup [mD a,mD b])] s) _=_;delta aM;rw[e]
 cases fY a&&(fY b&&ki a b)<;>rfl
def pT:D->Str
 | .tup [.int a,.int b,.int c]=>num a++","++num b++","++num c
 |_=>""
def FH (d:D):Prop:=∃a b c:Int,d=.tup [.int a,.int b,.int c]/\(0<=a/\a<31)/\(0<=b/\b<31)/\(0<=c/\c<31)
def EL {d:D} (h:FH d):(pT d).length<=10/\Ó (pT d)=ό:=by
 obtain⟨a,b,c,rfl,Z,Y,X⟩:=h;have W:=kX Z.1 Z.2;have V:=kX Y.1 Y.2;have lc:=kX X.1 X.2;refine⟨?_,gP (gP (gP (gP (sH Z) nofun) (sH Y)) nofun) (sH X)⟩;show (num a++","++num b++","++num c).length<=10;erw[fJ];show _ + 1 + _ + 1 + _<=10;omega
def UK (hn:ds.length<=200) (hd:∀d∈ds,FH d):∃y,Ó y=ό/\yK [.lst ds] s=ok (.str y) s:=by
 have W:dY iQ (eC (.str " ")) (cM 3 [] (cI (aa 0)) (gT [gN 0,gN 1,gN 2]) cT (jZ [(e1 fN (aa 0)),(eC (.str ",")),(e1 fN (aa 1)),(eC (.str ",")),(e1 fN (aa 2))] χ)) [ϊ (.lst ds)] s=ok (.str (š " " (ds.map pT))) s:=by
  refine aeQ ?_;rw[tD rfl,jC];refine aeP (show cI (aa 0) [ϊ (.lst ds)] s=ok ds s from rfl) ⟨le_size ⋯,?_⟩;have Y:=comp_map (nt:=3) (caps:=iP [] [ϊ (.lst ds)]) (g:=gT [gN 0,gN 1,gN 2]) (t:=cT) (f:=jZ [(e1 fN (aa 0)),(eC (.str ",")),(e1 fN (aa 1)),(eC (.str ",")),(e1 fN (aa 2))] χ) (s:=s) (λd:D=>d) (λ_=>ό) (λd=>D.str (pT d)) ds λd Z=>by
   obtain⟨a,b,c,rfl,V,U,Y⟩:=hd d Z;refine⟨[ϊ (.int a),ϊ (.int b),ϊ (.int c)],rfl,rfl,λ_=>?_⟩;have R:=kX V.1 V.2;have Q:=kX U.1 U.2;have lc:=kX Y.1 Y.2;rw[j7 (xU V.1 ⋯) (by show 0 + _<=_;omega),j7 (y:=",") rfl (by rw[fJ];show 0 + _ + 1<=_;omega),j7 (xU U.1 ⋯) (by erw[fJ];show 0 + _ + 1 + _<=_;omega),j7 (y:=",") rfl (by erw[fJ];show 0 + _ + 1 + _ + 1<=_;omega),j7 (xU Y.1 ⋯) (by erw[fJ];show 0 + _ + 1 + _ + 1 + _<=_;omega)]
   show (if ώ ((χ++num a++","++num b++","++num c).length<=Õ)=ό then ok (D.str (χ++num a++","++num b++","++num c)) s else ϋ)=_
   rw[Ñ (È (le_size (by erw[fJ];show 0 + _ + 1 + _ + 1 + _<=_;omega))),show χ++num a=num a from Mo (by rw[tB];rfl)];rfl
  rw[List.map_id'] at Y;refine aeP Y ?_;rw[ő.mpr (λ_ _=>rfl)];have W:=xo (s:=s) (y:=" ") (zs:=ds.map pT) (by decide) (by rw[É];omega) λz X=>by
   obtain⟨d,Z,rfl⟩:=ĉ.mp X;have:=(EL (hd d Z)).1;omega
  rw[Ġ] at W;exact aeP W ⟨rfl,rfl⟩
 have T:(š " " (ds.map pT)).length<=1000000:=by
  have:=zm (y:=" ") (zs:=ds.map pT) (b:=10) λz X=>by
   obtain⟨d,Z,rfl⟩:=ĉ.mp X;exact(EL (hd d Z)).1
  rw[É] at this;have S:(" ":Str).length=1:=rfl;rw[S] at this;omega
 refine⟨if (š " " (ds.map pT)).length=0 then "none" else š " " (ds.map pT),?_,aeQ ?_⟩
 ·split
  ·decide +kernel
  ·refine vX nofun λz X=>?_
   obtain⟨d,Z,rfl⟩:=ĉ.mp X;exact(EL (hd d Z)).2
 delta yK;refine dP.symm ▸ ⟨rfl,?_⟩;show Wp (aA _ [ϊ (.lst ds)] s) _;rw[bW];exact aeP (Nz W T rfl) ⟨rfl,rfl⟩
end
section
variable {s s':ae} {env:Env} {x y z:Str} {ws r:List Str} {ps:List Pg}
theorem NA:∀(n:Nat) (p:Nat×Nat),p∈cw f n->p.1<n/\p.2<n
 |0,p,h=>by cases h
 |n+1,p,h=>by
  have ih:=NA (f:=f) n;delta cw at h;split at h
  ·rcases ó.mp h with h|h
   ·have:=ih p (List.dropLast_subset _ h)
    omega
   ·rw[Đ.mp h]
    refine⟨?_,by show n<n+1;omega⟩;show ((cw f n).getLast?.getD (0,0)).1<n+1
    cases Z:(cw f n).getLast? with
    |none=>show 0<n+1;omega
    |some q =>
     have:=ih q (List.mem_of_getLast? Z);show q.1<n+1;omega
  ·split at h
   ·rcases ó.mp h with h|h
    ·have:=ih p h
     omega
    ·rw[Đ.mp h]
     exact⟨by show n<n+1;omega,by show n<n+1;omega⟩
   ·have:=ih p h
    omega
def Z4 (hd:d∈vi ps h l):FH d:=by
 delta vi at hd;obtain⟨m,Z,hd⟩:=List.mem_flatMap.mp hd;obtain⟨p,Y,rfl⟩:=ĉ.mp hd;have X:=NA _ p Y;have W:0<=m/\m<4:=by
  have:∀m∈m4,(0:Int)<=m/\m<4:=by decide
  exact this m Z
 exact⟨m,p.1,p.2,rfl,by omega,by omega,by omega⟩
def NB {fn g:List D->ae->Res D} {fa:aeO (List D)} {ds:List D} {u:bg} (h:fa env s=ok ds s) (e:fn ds s=ϊ (.error u,s)):aA (aG g (af (dM fn fa) ah)) env s=ϊ (.error u,s):=by
 show ai (ai (ai (ai (fa env s) fn) _) _) _=_;rw[h,bV,e];rfl
abbrev aE (ps:List Pg) (ws:List Str):Env:=[ϊ (bD ps),ϊ (.lst (ws.map D.str))]
def S7 (ha:b9 a=ό) (hb:b9 b=ό) (hl:ps.length<=1000) (hf:∀p∈ps,jn p) (jA:dH ps=ό):yB (kP [bD ps,.lst (([("surely":Str),a,b]).map D.str)] s) s:=by
 have Z:∀{n:Nat} {u:Str},([("surely":Str),a,b])[n]?=ϊ u->e2 ay (aa 1) (eC (.int n)) (aE ps [("surely":Str),a,b]) s=ok (.str u) s:=λh=>aeQ (by
  erw[bj,aR,bx,bA];exact aeP (mY h) ⟨rfl,rfl⟩)
 have Y:af (aa 0) (af (eB jL (af (e2 ay (aa 1) (eC (.int 1))) ah)) (af (eB jL (af (e2 ay (aa 1) (eC (.int 2))) ah)) ah)) (aE ps [("surely":Str),a,b]) s=ok [bD ps,.int (vI a),.int (vI b)] s:=by
  refine aeQ ?_;rw[aL,aR,aL,de,aL];refine aeP (Z (n:=1) rfl) ?_;rw[aP];refine aeP (qw ha) ?_;rw[aL,de,aL];refine aeP (Z (n:=2) rfl) ?_;rw[aP];refine aeP (qw hb) ?_;rw[aP];exact⟨rfl,rfl⟩
 have X:aW (e2 aX (e2 ay (aa 1) (eC (.int 0))) (eC (.str "surely"))) (aE ps [("surely":Str),a,b]) s=ok ό s:=(dI (Z (n:=0) rfl)).trans (by rw[È rfl]);delta kP aD
 rcases S0 (s:=s) (m:=vI a) (d:=vI b) hl hf jA with ⟨k,W,e⟩ | ⟨c,e⟩
 ·refine .inr ⟨k,by erw[Û,ć,or_false] at W |-;exact W.imp id .inl,?_⟩
  show ai (aq _ _ (aE ps [("surely":Str),a,b]) s) _=_;rw[jd (y:=⟨k,ϋ⟩) (s':=s) (show aM _ _ _ (aE ps [("surely":Str),a,b]) s=_ from ?_)]
  ·rfl
  ·delta aM
   rw[X,bV,Ñ rfl];exact NB Y e
 ·refine .inl ⟨gO (k8.filter λk=>ώ (vI b∈iC ps (vI a) k))++"/"++gO (k8.filter λk=>ώ (vI b∈gM ps (vI a) k)),c,gP (gP (zC (tF (zY _))) nofun) (zC (tF (zY _))),aeQ ?_⟩
  show Wp (ai (aq _ _ (aE ps [("surely":Str),a,b]) s) _) _;rw[bP];refine aeR λR V=>dw X ?_;rw[Ñ rfl,bW,wp_call,aL,qK];refine aeP Y (aeP e ?_);rw[aP];refine aeP (Ja (zY _) (zY _)) ?_;rw[kg,bF];exact⟨rfl,rfl⟩
def UL (hv:jb v=ό) (hlv:v.length<=1000) (hl:ps.length<=1000) (hf:∀p∈ps,jn p) (jA:dH ps=ό):yB (kP [bD ps,.lst (([("where":Str),v]).map D.str)] s) s:=by
 obtain⟨i,j,li,N,-,U⟩:=JI hlv hv;have Y:∀{n:Nat} {u:Str},([("where":Str),v])[n]?=ϊ u->e2 ay (aa 1) (eC (.int n)) (aE ps [("where":Str),v]) s=ok (.str u) s:=λh=>aeQ (by
  erw[bj,aR,bx,bA];exact aeP (mY h) ⟨rfl,rfl⟩)
 have X:af (aa 0) (af (aG sj (af (e2 ay (aa 1) (eC (.int 1))) ah)) ah) (aE ps [("where":Str),v]) s=ok [bD ps,lX i j] s:=by
  refine aeQ ?_;rw[aL,aR,aL,wp_call,aL];refine aeP (Y (n:=1) rfl) ?_;rw[aP];refine aeP (U s) ?_;rw[aP];exact⟨rfl,rfl⟩
 have e1:aW (e2 aX (e2 ay (aa 1) (eC (.int 0))) (eC (.str "surely"))) (aE ps [("where":Str),v]) s=ok ύ s:=(dI (Y (n:=0) rfl)).trans (by rw[Ì nofun]);have W:aW (e2 aX (e2 ay (aa 1) (eC (.int 0))) (eC (.str "where"))) (aE ps [("where":Str),v]) s=ok ό s:=(dI (Y (n:=0) rfl)).trans (by rw[È rfl]);delta kP aD;show yB (ai (aq _ _ (aE ps [("where":Str),v]) s) _) s;rw[gC (show aM _ _ _ (aE ps [("where":Str),v]) s=ok (.nx (aE ps [("where":Str),v])) s by delta aM;rw[e1];rfl)];by_cases V:(fY i&&(fY j&&ki i j))=ό
 ·have Z:=V
  erw[Å] at Z;have T:Sh i j:=⟨sm Z.1,sm Z.2.1,λx S Q=>by
   have:=Z.2.2;delta ki at this;rw[ł,List.any_eq_false] at this;exact this x S (È Q)⟩
  obtain⟨d,M,e,rfl,c,rfl⟩:=UJ (s:=s) hl hf jA T;obtain⟨y,ky,P⟩:=UK (s:=s++c) (ds:=vi ps i j) (Ý (Nw ps i j) (by decide)) λd O=>Z4 O;refine .inl ⟨y,c,ky,aeQ ?_⟩;rw[bP];refine aeR λR L=>dw W ?_;rw[Ñ rfl,bW,wp_call,aL,qK];refine aeP X (aeP e ?_);rw[aP];refine aeP P ?_;rw[kg,bF];exact⟨rfl,rfl⟩
 ·refine .inr ⟨"NoSheet",by simp,?_⟩
  have e:rT [bD ps,lX i j] s=ϊ (.error ⟨"NoSheet",ϋ⟩,s):=by
   delta rT aD;show ai (aq _ _ [ϊ (bD ps),ϊ (lX i j)] s) _=_;rw[gC (AM (ds:=[bD ps]) rfl (zj hl hf jA)),jd (xV (ds:=[lX i j]) (y:=⟨"NoSheet",ϋ⟩) rfl (by rw[Z3 ⋯ ⋯,Ú V]))];rfl
  rw[jd (y:=⟨"NoSheet",ϋ⟩) (s':=s) (show aM _ _ _ (aE ps [("where":Str),v]) s=_ from ?_)]
  ·rfl
  ·delta aM
   rw[W,bV,Ñ rfl];exact NB X e
def hW (ps:List Pg):Str:=if (textOf ps).length=0 then "-" else textOf ps
def Wq (h:jz p):Ó (iR p)=ό:=by
 have m:=tG h;have d:=tH h;have Z:Ó " "=ό:=nofun
 have Y:Ó "made"=ό:=nofun
 have X:Ó "mended"=ό:=nofun
 have w:Ó (tV p)=ό:=by
  cases p with
  |made _ _ _ _=>exact Y
  |c8 _ _ _=>exact X
 have l:Ó (xp p)=ό:=by
  cases p with
  |made W V a c=>exact gP (gP (zC (tF h.2.2.1)) nofun) (zC (tF h.2.2.2))
  |c8 W V k=>exact sH ⟨h.2.2.1,by have:=h.2.2.2;omega⟩
 exact gP (gP (gP (gP (gP (gP w Z) (sH ⟨m.1,by omega⟩)) Z) (sH d)) Z) l
def X7 (jA:dH ps=ό):Ó (hW ps)=ό:=by
 obtain⟨Z,X⟩:=DR jA;delta hW;split
 ·decide +kernel
 ·refine vX nofun λz Y=>?_
  obtain⟨p,h,rfl⟩:=ĉ.mp Y;exact gP (Wq (zV (Z p h))) nofun
def Lx (jA:dH ps=ό):kP [bD ps,.lst (([("book":Str)]).map D.str)] s=ok (.str (hW ps)) s:=by
 have Y:e2 ay (aa 1) (eC (.int 0)) (aE ps [("book":Str)]) s=ok (.str "book") s:=aeQ (by
  erw[bj,aR,bx,bA];exact aeP (mY (n:=0) (u:="book") rfl) ⟨rfl,rfl⟩)
 have lt:(textOf ps).length<=1000000:=by
  obtain⟨X,W⟩:=DR jA;have:=text_len (ps:=ps) λp h=>zV (X p h);omega
 refine aeQ ?_;delta kP;refine dP.symm ▸ ⟨rfl,?_⟩;refine aeR λR Z=>dw (dI Y) ?_;rw[Ì nofun,Ú Ä,dF,bz];subst Z;refine aeR λR Z=>dw (dI Y) ?_;rw[Ì nofun,Ú Ä,dF,bz];subst Z;rw[bW];exact aeP (Nz (y:="-") (show dM vE (af (aa 0) ah) (aE ps [("book":Str)]) s=ok (.str (textOf ps)) s from Wg jA) lt rfl) ⟨rfl,rfl⟩
end
section
variable {s s':ae} {env:Env} {x y z w:Str} {ws r:List Str} {ps book:List Pg} {p:Pg} {a b d:Nat} {aN:List (List Pg)}
def Mv (hf:jn p) (hp:dX p=ύ):nh [p.d] s=ϊ (.error ⟨"NoPage",ϋ⟩,s):=by
 have e:cV (cu (aG su (af (aa 0) ah))) [ϊ p.d] s=ok ό s:=by
  refine aeQ ?_;simp only[VC,C0 hf,hp,ι,Ĥ]
 delta nh aD;show ai (aM _ _ _ [ϊ p.d] s) _=_;delta aM;rw[e];rfl
def Bp (r:Res D) (s:ae) (d b:Nat) (aN:List (List Pg)):Prop:=(∃s' Z Y,r=ok .ar s'/\Di s' d b Z Y/\Z.length<=aN.length+1/\Ex b s s')\/∃k,k∈[("NoPage":Str),"Clash","NoDeed"]/\r=ϊ (.error ⟨k,ϋ⟩,s)
def zZ (h:Di s d b aN book) (hl:Hn.length<=500) (hb:∀ps∈Hn++[new],Bk ps):Di (s.set b (.lst ((Hn++[new]).map bD))) d b Hn new:=by
 have ne:b≠d:=λe=>by
  have Y:=h.ha;have Z:=h.hb;rw[e,Y] at Z;cases Z
 have X:=(Ô.mp h.hb).1;exact⟨by rw[õ ne];exact h.ha,ù X,hl,hb⟩
def Wr (h:Di s d b aN book) (hn:aN.length<500) (hf:jn p):Bp (oo [.aj d,p.d] s) s d b aN:=by
 cases Z:dX p with
 |false =>
  refine .inr ⟨"NoPage",by simp,?_⟩;delta oo aD;show ai (aq _ _ [ϊ (.aj d),ϊ p.d] s) _=_;rw[jd (xV (ds:=[p.d]) (y:=⟨"NoPage",ϋ⟩) rfl (Mv hf Z))];rfl
 |true =>
  rw[Ms h Z]
  cases Y:dH (ST.dB cy (book++[p])) with
  |false=>exact .inr ⟨"Clash",by simp,by rw[Ú Ä]⟩
  |true =>
   rw[Ñ rfl];refine .inl ⟨_,aN++[book],_,rfl,zZ h (by simp;omega) λX hq=>?_,by simp,Ex.set _ _ _⟩
   rcases ó.mp hq with hq|hq
   ·exact h.bk X hq
   ·rw[Đ.mp hq]
    refine⟨KC h.last.laid Z λW=>?_,Y⟩;rw[J1 W] at Y;cases Y
def S8 (h:Di s d b aN book) (hn:aN.length<500) (hf:jn p):Bp (rN [.aj d,p.d] s) s d b aN:=by
 cases Z:dX p with
 |false =>
  refine .inr ⟨"NoPage",by simp,?_⟩;delta rN aD;show ai (aq _ _ [ϊ (.aj d),ϊ p.d,ϋ] s) _=_;rw[jd (xV (ds:=[p.d]) (y:=⟨"NoPage",ϋ⟩) rfl (Mv hf Z))];rfl
 |true =>
  rw[UG h Z]
  cases Y:rH p book&&dH (book.filter λq=>!eqB q p) with
  |false=>exact .inr ⟨"Clash",by simp,by rw[Ú Ä]⟩
  |true =>
   rw[Ñ rfl];refine .inl ⟨_,aN++[book],_,rfl,zZ h (by simp;omega) λX hq=>?_,by simp,Ex.set _ _ _⟩
   rcases ó.mp hq with hq|hq
   ·exact h.bk X hq
   ·rw[Đ.mp hq]
    exact⟨RX h.last.laid,(Å _ _ ▸ Y).2⟩
def Ws (h:Di s d b aN book):Bp (vA [.aj d] s) s d b aN:=by
 rw[X0 h];by_cases Z:aN=[]
 ·rw[Ñ Z]
  exact .inr ⟨"NoDeed",by simp,rfl⟩
 ·rw[Ú Z]
  obtain⟨Y,X,e⟩:∃Y X,aN=Y++[X]:=⟨aN.dropLast,aN.getLast Z,(List.dropLast_concat_getLast Z).symm⟩;refine .inl ⟨_,Y,X,rfl,?_,by rw[e];simp;omega,Ex.set _ _ _⟩;rw[e];have:=h.ln;rw[e] at this;exact zZ h (by simp at this;omega) λW V=>h.bk W (ÿ _ (by rw[e];exact V))
structure Ds (s:ae) (a d b:Nat) (aN:List (List Pg)) (book:List Pg):Prop where
 hd:s[a]?=ϊ (.ins "Desk" [("diary",.aj d)])
 di:Di s d b aN book
def Ds.ne (h:Ds s a d b aN book):a≠b:=λe=>by
 have Z:=h.hd;have Y:=h.di.hb;rw[e,Y] at Z;cases Z
def abq (h:s[a]?=ϊ (.ins "Desk" [("diary",.aj d)])):ip "Desk" "diary" (.aj a) s=ok (.aj d) s:=by
 delta ip jk;dsimp only;rw[h];dsimp only;rw[Ñ (È rfl)];rfl
def z0 (h:s[a]?=ϊ (.ins "Desk" [("diary",.aj d)])):e1 (ip "Desk" "diary") (aa 0) [ϊ (.aj a),e1',i4] s=ok (.aj d) s:=by
 show ai (ok (D.aj a) s) _=_;rw[bV];exact abq h
def Ao (hl:ds.length=np) (he:ds.map ϊ++Ö (ns-np) ϋ=env) (h:B env s=ok (.rt v) s'):aD np ns B ds s=ok v s':=by
 delta aD;rw[Ñ hl,he,h];rfl
def Oz {np ns:Nat} {B:aeO Fl} {ds:List D} {u:bg} (hl:ds.length=np) (he:ds.map ϊ++Ö (ns-np) ϋ=env) (h:B env s=ϊ (.error u,s')):aD np ns B ds s=ϊ (.error u,s'):=by
 delta aD;rw[Ñ hl,he,h];rfl
def NC (h:st env s=ok (.rt v) s'):aq st cf env s=ok (.rt v) s':=by delta aq;rw[h];rfl
def DY (h:t env s=ok ό s):aM t st cf env s=st env s:=by delta aM;rw[h];rfl
def tY (h:t env s=ok ύ s):aM t st cf env s=cf env s:=by delta aM;rw[h];rfl
def xW:List Str:=["NoPage","Clash","NoDeed","NoMould","NoDay","NoSheet"]
def Ph (r:Res D) (s:ae) (a d b:Nat) (aN:List (List Pg)):Prop:=(∃y s' Z Y,Ó y=ό/\r=ok (.str y) s'/\Ds s' a d b Z Y/\Z.length<=aN.length+1/\Ex b s s')\/∃k,k∈xW/\r=ϊ (.error ⟨k,ϋ⟩,s)
def ND (h:iN [v] s=ϊ (.error u,s)):fU [.aj a,v] s=ϊ (.error u,s):=by
 delta fU;refine Oz (env:=[ϊ (.aj a),ϊ v,ϋ]) rfl rfl (jd ?_);show ai (ai (ok [v] s) iN) _=_;rw[bV,h];rfl
def wI (h:iN [v] s=ok W s):bc (dM iN (af (aa 1) ah)) (gN 2) [ϊ (.aj a),ϊ v,ϋ] s=ok (.nx [ϊ (.aj a),ϊ v,ϊ W]) s:=by
 show ai (ai (ok [v] s) iN) _=_;rw[bV,h];rfl
def Ho (r:Res Fl) (env:Env) (s:ae) (a d b:Nat) (aN:List (List Pg)):Prop:=(∃s' Z Y,(r=ok (.nx env) s'\/∃y,Ó y=ό/\r=ok (.rt (.str y)) s')/\Ds s' a d b Z Y/\Z.length<=aN.length+1/\Ex b s s')\/∃k,k∈xW/\r=ϊ (.error ⟨k,ϋ⟩,s)
def X8 (h:iN [v] s=ok W s) (hi:Ho (ifs [ϊ (.aj a),ϊ v,ϊ W] s) [ϊ (.aj a),ϊ v,ϊ W] s a d b aN):Ph (fU [.aj a,v] s) s a d b aN:=by
 delta fU
 rcases hi with ⟨s',Y,X,Z | ⟨y,S,Z⟩,V,U,T⟩ | ⟨k,R,Z⟩
 ·exact .inl ⟨"ok",s',Y,X,by decide +kernel,Ao (env:=[ϊ (.aj a),ϊ v,ϋ]) rfl rfl (by rw[gC (wI h),gC Z];rfl),V,U,T⟩
 ·exact .inl ⟨y,s',Y,X,S,Ao (env:=[ϊ (.aj a),ϊ v,ϋ]) rfl rfl (by rw[gC (wI h),NC Z]),V,U,T⟩
 ·exact .inr ⟨k,R,Oz (env:=[ϊ (.aj a),ϊ v,ϋ]) rfl rfl (by rw[gC (wI h),jd Z])⟩
def Dc (G:Ds s a d b aN book) (h:Bp (m env s) s d b aN):Ho (cF m env s) env s a d b aN:=by
 rcases h with ⟨s',W,V,Z,U,T,Y⟩ | ⟨k,X,Z⟩
 ·exact .inl ⟨s',W,V,.inl (by delta cF;rw[Z];rfl),⟨Y.get G.hd G.ne,U⟩,T,Y⟩
 ·refine .inr ⟨k,?_,by delta cF;rw[Z];rfl⟩
  erw[xW,Û,ć,or_false] at X |-
  rcases X with h|h|h<;>simp[h]
def X9 (G:Ds s a d b aN book) (h:yB (f env s) s):Ho (aA f env s) env s a d b aN:=by
 rcases h with ⟨y,c,X,Z⟩ | ⟨k,Y,Z⟩
 ·refine .inl ⟨s++c,aN,book,.inr ⟨y,X,by delta aA;rw[Z];rfl⟩,⟨(Ex.app b s c).get G.hd G.ne,G.di.kp (Kp.app s c)⟩,by omega,Ex.app _ _ _⟩
 ·refine .inr ⟨k,?_,by delta aA;rw[Z];rfl⟩
  erw[xW,Û,ć,or_false] at Y |-
  rcases Y with h|h|h<;>simp[h]
abbrev dE (a:Nat) (x:Str) (ws:List Str):Env:=[ϊ (.aj a),ϊ (.str x),ϊ (.lst (ws.map D.str))]
def nT:e2 ay (aa 2) (eC (.int 0)) (dE a x (w::r)) s=ok (.str w) s:=aeQ (by
 erw[bj,aR,bx,bA];exact aeP sR ⟨rfl,rfl⟩)
def OA:eU (aW (e2 aX (e2 ay (aa 2) (eC (.int 0))) (eC (.str "made")))) (aW (e2 aX (e2 ay (aa 2) (eC (.int 0))) (eC (.str "mended")))) (dE a x (w::r)) s=ok (ώ (w="made"\/w="mended")) s:=by
 refine aeQ ?_;rw[kf];refine aeP (dI nT) ?_;by_cases h:w="made"
 ·rw[È h,Ñ rfl]
  exact⟨(È (ο h)).symm,rfl⟩
 ·rw[Ì h,Ú Ä]
  refine aeP (dI nT) ⟨?_,rfl⟩
  by_cases Z:w="mended"<;>simp[h,Z]
def Ly (G:Ds s a d b aN book) (hw:w="made"\/w="mended") (ep:pZ [.lst ((w::r).map D.str)] s=ok p.d s):ifs (dE a x (w::r)) s=ai (oo [.aj d,p.d] s) λ_ s=>ok (.nx (dE a x (w::r))) s:=by
 delta ifs;rw[tY ((dI nT).trans (by rw[Ì λe=>by rw[e] at hw;revert hw;decide +kernel])),tY ((dI nT).trans (by rw[Ì λe=>by rw[e] at hw;revert hw;decide +kernel])),DY (OA.trans (by rw[È hw]))];delta cF;rw[oR G.di.ha (by rfl) (ds:=[p.d]) (z0 G.hd) (aeQ (by
  rw[aL,wp_call,aL];erw[aR,bx];rw[aP];refine aeP ep ?_;rw[aP];exact⟨rfl,rfl⟩))]
def Mw (G:Ds s a d b aN book) (h1:¬ w="undo") (h2:¬ w="out") (h3:¬ (w="made"\/w="mended")):ifs (dE a x (w::r)) s=ai (kP [bD book,.lst ((w::r).map D.str)] s) λd s=>ok (.rt d) s:=by
 delta ifs;rw[tY ((dI nT).trans (by rw[Ì h1])),tY ((dI nT).trans (by rw[Ì h2])),tY (OA.trans (by rw[Ì h3]))];have e1:af (eT "Diary" "book_now" lZ (e1 (ip "Desk" "diary") (aa 0)) ah) (af (aa 2) ah) (dE a x (w::r)) s=ok [bD book,.lst ((w::r).map D.str)] s:=by
  refine aeQ ?_;rw[aL];refine aeP ((oR G.di.ha (by rfl) (ds:=[]) (z0 G.hd) rfl).trans (DT G.di)) ?_;erw[aL,aP,aR,bx,Ĥ]
 delta aA dM;rw[e1,bV]
def Mx (h:w="made"\/w="mended"):¬ w="surely"/\¬ w="where"/\¬ (w="undo"\/w="book")/\¬ w="out":=by
 rcases h with rfl|rfl<;>decide +kernel
def Ya (G:Ds s a d b aN book) (hn:aN.length<500) (hl:x.length<=1000) (hk:Ó x=ό) (hr:iu (bs x)=ό):Ph (fU [.aj a,.str x] s) s a d b aN:=by
 obtain⟨w,r,U⟩:=xq x;have Y:∀z∈w::r,z.length<=1000:=λz T=>Ý (qc (c:=32) (show z∈bs x by rw[U];exact T)) hl;have L:iN [.str x] s=ok (.lst ((w::r).map D.str)) s:=by rw[zl hl hk,Ñ hr,U]
 refine X8 L ?_;have N:=Lr G.di.last.laid.pg;have M:book.length<=1000:=by have:=G.di.last.len;omega
 rw[U] at hr;by_cases X:w="undo"
 ·delta ifs
  rw[DY ((dI nT).trans (by rw[È X]))];refine Dc G ?_;rw[oR G.di.ha (by rfl) (ds:=[]) (z0 G.hd) rfl];exact Ws G.di
 by_cases W:w="out"
 ·delta ifs
  rw[tY ((dI nT).trans (by rw[Ì X])),DY ((dI nT).trans (by rw[È W]))];have K:fu r=ό:=by rw[show iu (w::r)=fu r from Ñ W] at hr;exact hr
  obtain⟨p,S,-,R⟩:=BM (λz T=>Y z (Ï _ T)) K;refine Dc G ?_;rw[oR G.di.ha (by rfl) (ds:=[p.d]) (z0 G.hd) (aeQ (by
   rw[aL,wp_call,aL,Am];erw[aR,bx,zQ];refine aeP (show cK (eC (.int 1)) (dE a x (w::r)) s=ok (ϊ 1) s from rfl) (aeP C8 ?_);rw[aP];refine aeP (R s) ?_;rw[aP];exact⟨rfl,rfl⟩))]
  exact S8 G.di hn S
 have Z:(if w="surely" then ώ (r.length=2)&&r.all b9 else if w="where" then yA r else if w="undo"\/w="book" then r.isEmpty else fu (w::r))=ό:=by rw[show iu (w::r)=_ from Ú W] at hr;exact hr
 by_cases V:w="made"\/w="mended"
 ·obtain⟨J,I,H,-⟩:=Mx V
  rw[Ú J,Ú I,Ú H] at Z;obtain⟨p,S,-,R⟩:=BM Y Z;rw[Ly G V (R s)];exact Dc (m:=λ_ s=>oo [.aj d,p.d] s) G (Wr G.di hn S)
 rw[Mw G X W V];refine X9 (f:=λ_ s=>kP [bD book,.lst ((w::r).map D.str)] s) G ?_;show yB (kP [bD book,.lst ((w::r).map D.str)] s) s;by_cases Q:w="surely"
 ·rw[Ñ Q] at Z
  erw[Å,Ë] at Z
  match r,Z with
  | [u,v],Z =>
   erw[List.all_cons,List.all_nil,aeo,Å] at Z;rw[Q];exact S7 Z.2.1 Z.2.2 M N G.di.last.book
  | [],Z=>simp at Z
  | [_],Z=>simp at Z
  |_::_::_::_,Z=>simp at Z
 rw[Ú Q] at Z;by_cases P:w="where"
 ·rw[Ñ P] at Z
  match r,Z,Y with
  | [v],Z,Y =>
   rw[P];exact UL Z (Y v ∅) M N G.di.last.book
  | [],Z,_=>cases Z
  |_::_::_,Z,_=>cases Z
 rw[Ú P] at Z;by_cases O:w="undo"\/w="book"
 ·rw[Ñ O,List.isEmpty_iff] at Z
  rw[Z,O.resolve_left X];exact .inl ⟨hW book,[],X7 G.di.last.book,by rw[Ħ];exact Lx G.di.last.book⟩
 ·rw[Ú O,Ct V] at Z
  cases Z
def Wt (G:Ds s a d b aN book) (hn:aN.length<500) (hl:x.length<=1000) (hk:Ó x=ό) (hb:bs x=w::r) (hw:w="made"\/w="mended") (hp:fu (w::r)=ό) (Qj:dX (jQ (w::r))=ό) (jA:dH (ST.dB cy (book++[jQ (w::r)]))=ό):∃s',fU [.aj a,.str x] s=ok (.str "ok") s'/\Ds s' a d b (aN++[book]) (ST.dB cy (book++[jQ (w::r)]))/\Ex b s s':=by
 have Y:∀z∈w::r,z.length<=1000:=λz X=>Ý (qc (c:=32) (show z∈bs x by rw[hb];exact X)) hl;obtain⟨W,V,U,T⟩:=Mx hw;have S:iu (bs x)=ό:=by
  rw[hb]
  show (if w="out" then _ else _)=ό
  rw[Ú T,Ú W,Ú V,Ú U];exact hp
 have R:iN [.str x] s=ok (.lst ((w::r).map D.str)) s:=by rw[zl hl hk,Ñ S,hb]
 obtain⟨p,M,rfl,Q⟩:=BM Y hp;have Z:=Ms G.di Qj;rw[Ñ jA] at Z;have P:Di (s.set b (.lst ((aN++[book]++[ST.dB cy (book++[jQ (w::r)])]).map bD))) d b (aN++[book]) (ST.dB cy (book++[jQ (w::r)])):=zZ G.di (by simp;omega) λO hq=>by
  rcases ó.mp hq with hq|hq
  ·exact G.di.bk O hq
  ·rw[Đ.mp hq]
   refine⟨KC G.di.last.laid Qj λN=>?_,jA⟩;rw[J1 N] at jA;cases jA
 refine⟨_,?_,⟨(Ex.set b s _).get G.hd G.ne,P⟩,Ex.set _ _ _⟩;delta fU;refine Ao (env:=[ϊ (.aj a),ϊ (.str x),ϋ]) rfl rfl ?_;rw[gC (wI R)];refine(gC (env':=dE a x (w::r)) (s':=s.set b (.lst ((aN++[book]++[ST.dB cy (book++[jQ (w::r)])]).map bD))) ?_).trans rfl;refine(Ly G hw (Q s)).trans ?_;rw[Z];rfl
def Cv (G:Ds s a d b aN book):fU [.aj a,.str "book"] s=ok (.str (hW book)) s:=by
 have Z:=C9.1;have Y:iN [.str "book"] s=ok (.lst (([("book":Str)]).map D.str)) s:=by
  rw[zl nofun nofun,Z,Ñ nofun]
 delta fU;refine Ao (env:=[ϊ (.aj a),ϊ (.str "book"),ϋ]) rfl rfl ?_;rw[gC (wI Y)];refine NC ?_;refine(Mw G nofun nofun nofun).trans ?_;rw[Lx G.di.last.book];rfl
def J4:∃c,oM "Desk" rV env s=ok (.aj s.length) (s++c)/\∃d b,Ds (s++c) s.length d b [] []/\s.length<=b:=by
 have e:rV [.aj s.length] (s++[.ins "Desk" []])=ok .ar (s++[.ins "Desk" [("diary",.aj (s.length+1))],.ins "Diary" [("books",.aj (s.length+2))],.lst [.tup []]]):=by
  delta rV aD;show ai (qH _ _ _ _ [ϊ (.aj s.length)] (s++[.ins "Desk" []])) _=_;delta qH;have Z:=Z0 (env:=[ϊ (.aj s.length)]) (s:=s++[.ins "Desk" []]);rw[show (s++[Cell.ins "Desk" []]).length=s.length+1 by simp] at Z;rw[Z,bV];show ai (ai (ok (D.aj s.length) _) _) _=_;rw[bV];have e2:jk "Desk" (.aj s.length) (s++[.ins "Desk" []]++[.ins "Diary" [("books",.aj (s.length+1+1))],.lst [.tup []]])=ϊ (s.length,[]):=by
   delta jk;dsimp only;rw[Ĳ,ð (aeS _),Nat.sub_self];rw[ħ,List.getElem?_cons_zero];dsimp only;rw[Ñ (È rfl)]
  rw[e2];dsimp only;rw[Ñ (by decide)];have Y:∀(x y z u:Cell),List.set (s++[x]++[y,z]) s.length u=s++[u,y,z]:=λx y z u=>by simp
  rw[Y];rfl
 refine⟨[.ins "Desk" [("diary",.aj (s.length+1))],.ins "Diary" [("books",.aj (s.length+2))],.lst [.tup []]],?_,s.length+1,s.length+2,⟨by simp,?_⟩,by omega⟩
 ·delta oM
  rw[e];rfl
 ·refine⟨by simp,by simp,by decide,λps X=>?_⟩
  have:ps=[]:=by simpa using X
  subst this;exact Bk.nil
def UM (h:gU [v,.ty "str"] s=ok (.bl ύ) s):iN [v] s=ϊ (.error ⟨"NoRow",ϋ⟩,s):=by
 have Z:eU (cV (cu (eB gU (af (aa 0) (af (eC (.ty "str")) ah))))) (cV (cu (aG sE (af (dY jc (aa 0) (eC (.str " "))) ah)))) [ϊ v] s=ok ό s:=by
  refine aeQ ?_;erw[kf,we,qr,de,aL,aP,aR,bA];refine aeP h ?_;rw[kU];simp
 delta iN aD;show ai (aq _ _ [ϊ v] s) _=_;rw[jd (show aM _ _ _ [ϊ v] s=ϊ (.error ⟨"NoRow",ϋ⟩,s) by delta aM;rw[Z];rfl)];rfl
end
section
variable {s s':ae} {env:Env} {x y z:Str} {f g:aeO D} {N M N' M':Nat} {fa:aeO (List D)} {k:Nat}
structure TO (N:Nat) (y:Str):Prop where
 len:y.length<=N
 mZ:Ó y=ό
def TO.up (h:TO N y) (hn:N<=M):TO M y:=⟨Ý h.len hn,h.mZ⟩
def tx (f:aeO D) (env:Env) (s:ae) (N:Nat):Prop:=∃y,f env s=ok (.str y) s/\TO N y
def Ap (e:f env s=ok (.str y) s) (h:TO N y):tx f env s N:=⟨y,e,h⟩
def jH (hf:tx f env s N) (hg:tx g env s M) (h:N+M<=1000000):tx (e2 bh f g) env s (N+M):=by
 obtain⟨y,e1,Z⟩:=hf;obtain⟨z,e2,Y⟩:=hg;have X:=Z.len;have W:=Y.len;refine⟨y++z,aeQ ?_,by rw[fJ];omega,gP Z.mZ Y.mZ⟩;rw[bj];refine aeP e1 (aeP e2 (aeP (xS ⋯) ⟨rfl,rfl⟩))
def Z5 (n:Nat):(Ě ϋ ϋ (-1) n).length<=n:=by
 delta Ě;have:=PySem.sliceRange_len_le ((n:Int)-1) (-1) (-1) (by decide);simp only[show ¬ ((-1:Int) > 0) by decide,ï] at this |-;exact Ý this ⋯
def NF (h:TO N x) (yw:(Ě lo hi st x.length).length<=x.length):TO N (iq st x lo hi):=by
 delta iq;split
 ·exact h
 ·refine⟨?_,j5.mpr λn Z=>?_⟩
  ·rw[jG]
   show (List.filterMap _ _).length<=N;have:=List.length_filterMap_le (λi=>x.cps[i]?) (Ě lo hi st x.length);have:=h.len;omega
  ·have Z:n∈List.filterMap (λi=>x.cps[i]?) (Ě lo hi st x.length):=by simpa using Z
   obtain⟨i,_,e⟩:=ξ.mp Z;exact j5.mp h.mZ n (Array.mem_toList_iff.mpr (Array.mem_of_getElem? e))
def qL (hf:tx f env s N) (hl:l env s=ok lo s) (hh:h env s=ok hi s) (hN:N<=1000000):tx (mH f l h) env s N:=by
 obtain⟨y,e,Y⟩:=hf;have Z:=NF (st:=1) (lo:=lo) (hi:=hi) Y (PySem.sliceIndices_le lo hi y.length);refine⟨_,?_,Z⟩;delta mH;rw[e,bV,hl,bV,hh,bV]
 show (if ώ ((iq 1 y lo hi).length<=Õ)=ό then ok (D.str (iq 1 y lo hi)) s else ϋ)=_
 rw[Ñ (È (le_size (by have:=Z.len;omega)))]
def Z6 (hf:tx f env s N) (hN:N<=1000000):tx (e1 xI f) env s N:=by
 obtain⟨y,e,Y⟩:=hf;have Z:=NF (st:=-1) (lo:=ϋ) (hi:=ϋ) Y (Z5 y.length);refine⟨_,?_,Z⟩;delta e1;rw[e,bV]
 show (if ώ ((iq (-1) y ϋ ϋ).length<=Õ)=ό then ok (D.str (iq (-1) y ϋ ϋ)) s else ϋ)=_
 rw[Ñ (È (le_size (by have:=Z.len;omega)))]
def DZ (hm:MulOk x n) (h:TO N (ad6 x n)):tx (e2 fK (eC (.str x)) (eC (.int n))) env s N:=by
 refine⟨_,?_,h⟩;show fK (.str x) (.int n) s=_;delta fK;dsimp only;rw[Ñ hm]
def om (f:aeO D) (env:Env) (s:ae) (N M:Nat):Prop:=∃zs:List Str,f env s=ok (.lst (zs.map D.str)) s/\zs.length<=N/\∀z∈zs,TO M z
def Wu {zs:List Str} {lo hi:Option Int}:∃us:List Str,cutD (zs.map D.str) lo hi=us.map D.str/\us.length<=zs.length/\∀u∈us,u∈zs:=by
 delta cutD;exact⟨_,by rw[<- List.map_drop,<- List.map_take],by simp;omega,λu Z=>List.mem_of_mem_drop (List.mem_of_mem_take Z)⟩
def qx {l h:aeO (Option Int)} {lo hi:Option Int} (hf:om f env s N M) (hl:l env s=ok lo s) (hh:h env s=ok hi s):om (gr f l h) env s N M:=by
 obtain⟨zs,e,W,Z⟩:=hf;obtain⟨Y,e2,V,X⟩:=Wu (zs:=zs) (lo:=lo) (hi:=hi);refine⟨Y,?_,by omega,λu h=>Z u (X u h)⟩;delta gr;rw[e,bV,hl,bV,hh,bV];show ok (D.lst (cutD (zs.map D.str) lo hi)) s=_;rw[e2]
def Dd (hf:om f env s N M) (hg:om g env s N' M) (h:N+N'<=1000000):om (e2 bh f g) env s (N+N') M:=by
 obtain⟨zs,e1,Y,X⟩:=hf;obtain⟨Z,e2,U,W⟩:=hg;refine⟨zs++Z,aeQ ?_,by rw[ä];omega,λz V=>(ó.mp V).elim (X z) (W z)⟩;rw[bj];refine aeP e1 (aeP e2 (aeP (show bh (.lst (zs.map D.str)) (.lst (Z.map D.str)) s=ok (.lst (zs.map D.str++Z.map D.str)) s from ?_) ⟨by rw[Ĩ],rfl⟩))
 show bT (if oX (zs.map D.str) (Z.map D.str)=ό then ϊ (D.lst (zs.map D.str++Z.map D.str)) else ϋ) s=_
 rw[Ñ (show oX (zs.map D.str) (Z.map D.str)=ό from È (le_size (by rw[É,É];omega)))];rfl
def My (hf:om f env s N M) (hN:N<=1000) (hM:M<=1000):tx (dY iQ (eC (.str " ")) f) env s (N*(M+1)):=by
 obtain⟨zs,e,Y,Z⟩:=hf;refine⟨š " " zs,aeQ ?_,?_,vX nofun λz h=>(Z z h).mZ⟩
 ·rw[tD rfl]
  exact aeP e (aeP (xo nofun ⋯ λz h=>by have:=(Z z h).len;omega) ⟨rfl,rfl⟩)
 ·have:=zm (y:=" ") λz h=>(Z z h).len
  rw[show (" ":Str).length=1 from rfl] at this;exact Ý this (aen _ Y)
def vj (fa:aeO (List D)) (env:Env) (s:ae) (N M:Nat):Prop:=∃zs:List Str,fa env s=ok (zs.map D.str) s/\zs.length=N/\∀z∈zs,TO M z
def De:vj ah env s 0 M:=⟨[],rfl,rfl,λz h=>by cases h⟩
def fH (hf:tx f env s M) (h:vj fa env s N M):vj (af f fa) env s (N+1) M:=by
 obtain⟨y,e1,Z⟩:=hf;obtain⟨zs,e2,Y,X⟩:=h;refine⟨y::zs,aeQ ?_,by rw[â,Y],λz W=>?_⟩
 ·rw[aL]
  exact aeP e1 (aeP e2 ⟨rfl,rfl⟩)
 ·rcases Û.mp W with rfl|h'
  ·exact Z
  ·exact X z h'
def oS (h:tx f env s N) (hn:N<=M):tx f env s M:=let ⟨y,e,t⟩:=h;⟨y,e,t.up hn⟩
def OB {zs:List Str} {r:Int} (hz:∀z∈zs,TO M z) (h0:0<=r) (h1:r<zs.length):∃z,TO M z/\ay (.lst (zs.map D.str)) (.int r) s=ok (.str z) s:=by
 obtain⟨d,Z,e⟩:=Oy (ds:=zs.map D.str) (s:=s) h0 (by rw[É];exact h1);obtain⟨z,Y,rfl⟩:=ĉ.mp Z;exact⟨z,hz z Y,e⟩
def Aq:List Str:=["made 0 3 01/2","made 1 30 -/-","mended 0 4 1","out made 0 1 0/1","out mended 0 2 0","undo","book"]
def OC:List Str:=["surely 0 2","surely 3 30","where 0/-","where -/1","made 2 0 -/07","out made 0 1 -/-"]
def qM:List Str:=Aq++OC
def Wv:∀z∈qM,(ώ (z.length<=20)&&Ó z&&ώ ((bs z).length<=6)&&Ó (aex z)&&ώ ((aex z).length<=60))=ό:=nofun
def Z7 (h:z∈qM):TO 20 z/\(bs z).length<=6/\TO 60 (aex z):=by
 have:=Wv z h;erw[Å,Ë] at this;exact⟨⟨this.1.1.1.1,this.1.1.1.2⟩,this.1.1.2,⟨this.2,this.1.2⟩⟩
def qk (h:Sf s k) (h0:e0 env s=ok (.aj k) s) (hm:fm env s=ok (.int m) s) (h1:0<m) (h2:m<1073741824) (q:∀(r:Int) s',0<=r->r<m->Sf s' k->Ex k s s'->Q (.int r) s'):Wp (aG cE.j8 (af e0 (af fm ah)) env s) Q:=by
 rw[wp_call,aL];refine aeP h0 ?_;rw[aL];refine aeP hm ?_;rw[aP];refine(ZW h h1 h2).mono λd Z Y=>?_;obtain⟨r,rfl,X,W,g1,V⟩:=Y;exact q r Z X W g1 V
def Yb (h:Sf s k):Wp (yT [.aj k] s) λd s'=>∃z,z∈qM/\d=.str z/\Sf s' k/\Ex k s s':=by
 delta yT;refine dP.symm ▸ ⟨rfl,aeR λR Z=>?_⟩;refine aeP (show bc (eC (.lst [.str "made 0 3 01/2",.str "made 1 30 -/-",.str "mended 0 4 1",.str "out made 0 1 0/1",.str "out mended 0 2 0",.str "undo",.str "book"])) (gN 1) [ϊ (.aj k),ϋ] s=ok (.nx [ϊ (.aj k),ϊ (.lst (Aq.map D.str))]) s from rfl) ?_;rw[bz];subst Z;refine aeR λR Z=>?_;have e:bc (e2 bh (aa 1) (fe (af (eC (.str "surely 0 2")) (af (eC (.str "surely 3 30")) (af (eC (.str "where 0/-")) (af (eC (.str "where -/1")) (af (eC (.str "made 2 0 -/07")) (af (eC (.str "out made 0 1 -/-")) ah)))))))) (gN 1) [ϊ (.aj k),ϊ (.lst (Aq.map D.str))] s=ok (.nx [ϊ (.aj k),ϊ (.lst (qM.map D.str))]) s:=by
  refine aeQ ?_;rw[eI,bj];erw[aR,bx,ke,aL,aP,bA];refine⟨le_size (n:=6) (by decide),?_⟩;exact aeP (show bh (.lst (Aq.map D.str)) (.lst (OC.map D.str)) s=ok (.lst (qM.map D.str)) s from rfl) ⟨_,rfl,rfl,rfl⟩
 refine aeP e ?_;rw[bz];subst Z;rw[bW,bj];erw[aR,bx];refine qk (m:=13) h rfl rfl (by decide) (by decide) λr Y X W g1 V=>?_;obtain⟨d,U,e⟩:=Oy (ds:=qM.map D.str) (s:=Y) X (by show r<13;exact W);obtain⟨z,T,rfl⟩:=ĉ.mp U;exact aeP e ⟨z,T,rfl,g1,V⟩
def rK:Str:=" !\"#$&'()*+,-./0123456789:;<=>?@ABCDEFGHIJKLMNOPQRSTUVWXYZ[\\]^_`abcdefghijklmnopqrstuvwxyz{|}~\t\n"
def SG:Str:=rK++ad6 "0123456789 -/" 2
def abr:(ώ (0<SG.length)&&ώ (SG.length<=200)&&Ó SG)=ό:=nofun
def acV:MulOk "0123456789 -/" 2:=⟨by decide,λ_ _=>by decide,λ_ _=>by decide +kernel⟩
def acW:MulOk "9" 30:=⟨by decide,λ_ _=>by decide,λ_ _=>by decide +kernel⟩
def acX:MulOk "0" 30:=⟨by decide,λ_ _=>by decide,λ_ _=>by decide +kernel⟩
def acY:MulOk "7" 31:=⟨by decide,λ_ _=>by decide,λ_ _=>by decide +kernel⟩
def Z8:(ώ ((ad6 "9" 30).length<=30)&&Ó (ad6 "9" 30)&&(ώ ((ad6 "0" 30).length<=30)&&Ó (ad6 "0" 30))&&(ώ ((ad6 "7" 31).length<=31)&&Ó (ad6 "7" 31))&&(ώ ((ad6 "0123456789 -/" 2).length<=100)&&Ó (ad6 "0123456789 -/" 2)))=ό:=nofun
def Dt {r:Int} (hl:x.length<=1000) (h0:0<=r) (h1:r<x.length):∃c,c∈sg x/\ay (.str x) (.int r) s=ok (.str ⟨#[c]⟩) s:=by
 obtain⟨c,e1,e2⟩:=nE (xs:=sg x) h0 (by rw[<- jG];exact h1);refine⟨c,ű e2,?_⟩
 show bT (if ώ (x.length<=Õ)=ό then (cX (sg x) r).map λc=>D.str ⟨#[c]⟩ else ϋ) s=_
 rw[Ñ (È (le_size ⋯)),e1];rfl
def Z9 (h:Ó x=ό) (hc:c∈sg x):TO 1 ⟨#[c]⟩:=⟨aeS _,j5.mpr λn Z=>by
 have:n=c:=by simpa using Z
 rw[this];exact j5.mp h c hc⟩
end
section
variable {s s':ae} {env:Env} {x y z sn:Str} {f g:aeO D} {N M N' M':Nat} {fa:aeO (List D)} {k:Nat} {at' way dQ:Int} {ws:List Str}
abbrev oE (k:Nat) (x sn:Str) (at' way:Int) (ws:List Str) (dQ:Int) (e8:Option D):Env:=[ϊ (.aj k),ϊ (.str x),ϊ (.str SG),ϊ (.str sn),ϊ (.int at'),ϊ (.int way),ϊ (.lst (ws.map D.str)),ϊ (.int dQ),e8]
abbrev vm (k:Nat) (x y:Str):Env:=[ϊ (.aj k),ϊ (.str x),ϊ (.str y),ϋ,ϋ,ϋ,ϋ,ϋ,ϋ]
def wJ (h:tx f env s N) (q:∀y,TO N y->Q (.str y) s):Wp (aA f env s) (fG R (pd Q)):=by
 obtain⟨y,e,t⟩:=h;rw[bW];exact aeP e (q y t)
def plus:bh (.int i) (.int j) s=ok (.int (i+j)) s:=rfl
def pI (h:f env s=ok (.int i) s):cK f env s=ok (ϊ i) s:=by
 delta cK;rw[h];rfl
def tZ (hf:f env s=ok (.int i) s) (hg:g env s=ok (.int j) s):cK (e2 bh f g) env s=ok (ϊ (i+j)) s:=pI (aeQ (by
 rw[bj];exact aeP hf (aeP hg (aeP plus ⟨rfl,rfl⟩))))
def wK (e:f env s=ok (.int way) s):aW (e2 aX f (eC (.int n))) env s=ok (way==n) s:=by
 refine aeQ ?_;rw[eO,bj];refine aeP e ?_;rw[bA,qu,cC];exact⟨rfl,rfl⟩
def aaa (e:f env s=ok (.int way) s):aW (e2 kD f (eC (.int n))) env s=ok (ώ (way<n)) s:=by
 refine aeQ ?_;rw[eO,bj];refine aeP e ?_;rw[bA,Ni,cC];exact⟨rfl,rfl⟩
def Ww (h:Sf s k) (hx:x∈qM):Wp (zg [.aj k,.str x] s) λd s'=>∃y,d=.str y/\TO 1000 y/\Sf s' k/\Ex k s s':=by
 obtain⟨I,H,G⟩:=Z7 hx;have lx:=I.len;have so:=abr;erw[Å,Ë] at so;obtain⟨⟨so1,so2⟩,F⟩:=so;delta zg;refine dP.symm ▸ ⟨rfl,aeR λR X=>?_⟩;refine aeP (show bc _ (gN 2) [ϊ (.aj k),ϊ (.str x),ϋ,ϋ,ϋ,ϋ,ϋ,ϋ,ϋ] s=ok (.nx (vm k x rK)) s from rfl) ?_;rw[bz];subst X;refine aeR λR X=>?_;have e1:bc (e2 bh (aa 2) (e2 fK (eC (.str "0123456789 -/")) (eC (.int 2)))) (gN 2) (vm k x rK) s=ok (.nx (vm k x SG)) s:=by
  refine aeQ ?_;rw[eI,bj];refine aeP (show aa 2 (vm k x rK) s=ok (.str rK) s from rfl) ?_;refine aeP (show e2 fK (eC (.str "0123456789 -/")) (eC (.int 2)) (vm k x rK) s=ok (.str (ad6 "0123456789 -/" 2)) s from ?_) ?_
  ·show fK (.str "0123456789 -/") (.int 2) s=_
   delta fK;dsimp only;rw[Ñ acV]
  refine aeP (xS (x:=rK) (y:=ad6 "0123456789 -/" 2) (by rw[<- fJ];show SG.length<=_;omega)) ⟨_,rfl,rfl,rfl⟩
 refine aeP e1 ?_;rw[bz];subst X;refine aeR λR X=>Wp.abl ?_;rw[aL,bj];refine aeP (show aa 2 (vm k x SG) s=ok (.str SG) s from rfl) ?_;refine qk (m:=SG.length) h rfl (aeQ (by erw[de,aL,aP,aR,bx];exact aeP (FE ⋯) ⟨rfl,rfl⟩)) ⋯ ⋯ λr s1 U T g1 x1=>?_;obtain⟨c,hc,ec⟩:=Dt (s:=s1) (x:=SG) ⋯ U T;have ts:=Z9 F hc;refine aeP ec ?_;generalize (⟨#[c]⟩:Str)=sn at ts;clear hc ec U T e1;rw[aL];refine qk (m:=(x.length:Int)+1) g1 rfl (aeQ (by
  rw[bj];erw[de,aL,aP,aR,bx];refine aeP (FE ⋯) ?_;rw[bA];exact aeP plus ⟨rfl,rfl⟩)) ⋯ ⋯ λat' s2 a0 a1 g2 x2=>?_
 rw[aL];refine qk (m:=8) g2 rfl rfl (by decide) (by decide) λway s3 w0 w1 g3 x3=>?_;rw[aP];refine⟨_,_,_,rfl,?_⟩;have X3:=x1.trans (x2.trans x3);clear x1 x2 x3 g1 g2 h;show fG R _ (.nx [ϊ (.aj k),ϊ (.str x),ϊ (.str SG),ϊ (.str sn),ϊ (.int at'),ϊ (.int way),ϋ,ϋ,ϋ]) s3;rw[bz];subst X;refine aeR λR X=>?_;rw[eI];refine aeP (vW blank rfl ⋯) ?_;rw[gj];have E:∀z∈bs x,TO 20 z:=λz S=>⟨Ý (qc (c:=32) S) lx,zk (c:=32) S I.mZ⟩;have C:0<(bs x).length:=by obtain⟨w,r,e⟩:=xq x;rw[e];simp
 show fG R _ (.nx [ϊ (.aj k),ϊ (.str x),ϊ (.str SG),ϊ (.str sn),ϊ (.int at'),ϊ (.int way),ϊ (.lst ((bs x).map D.str)),ϋ,ϋ]) s3;rw[bz];subst X;refine aeR λR X=>?_;rw[eI];refine qk (m:=(bs x).length) g3 rfl (aeQ (by
  erw[de,aL,aP,aR,bx];refine aeP (pf (by rw[gR];omega)) ?_;rw[gR];exact⟨rfl,rfl⟩)) ⋯ ⋯ λdQ Y p0 p1 B x4=>?_
 rw[gj];show fG R _ (.nx (oE k x sn at' way (bs x) dQ ϋ)) Y;rw[bz];subst X;have A:=X3.trans x4;clear x4 X3 g3;generalize hE:bs x=ws at E C p1 H;have fin:∀{N:Nat} {y:Str},N<=1000->TO N y->∃y',D.str y=.str y'/\TO 1000 y'/\Sf Y k/\Ex k s Y:=λhN t=>⟨_,rfl,t.up hN,B,A⟩;have V:∀{Z},tx (aa 1) (oE k x sn at' way ws dQ Z) Y 20:=λ{Z}=>Ap rfl I;have tS:∀{Z},tx (aa 3) (oE k x sn at' way ws dQ Z) Y 1:=λ{Z}=>Ap rfl ts;have Q:∀{Z},om (aa 6) (oE k x sn at' way ws dQ Z) Y 6 20:=λ{Z}=>⟨ws,rfl,H,E⟩;have J:∀{Z},cK (aa 4) (oE k x sn at' way ws dQ Z) Y=ok (ϊ at') Y:=λ{Z}=>rfl;have O:∀{Z},cK (aa 7) (oE k x sn at' way ws dQ Z) Y=ok (ϊ dQ) Y:=λ{Z}=>rfl;have Qk:∀{Z},cK (e2 bh (aa 7) (eC (.int 1))) (oE k x sn at' way ws dQ Z) Y=ok (ϊ (dQ+1)) Y:=λ{Z}=>tZ rfl rfl;refine aeR λR X=>dw (aaa rfl) ?_;by_cases c1:way<2
 ·rw[È c1,Ñ rfl]
  exact wJ (jH (jH (qL (lo:=ϋ) V rfl J (by decide)) tS (by decide)) (qL (hi:=ϋ) V (tZ rfl rfl) rfl (by decide)) (by decide)) λy t=>fin (by decide) t
 rw[Ì c1,Ú Ä,dF,bz];subst X;refine aeR λR X=>dw (wK rfl) ?_;by_cases c2:(way==2)=ό
 ·rw[Ñ c2]
  exact wJ (jH (qL (lo:=ϋ) V rfl J (by decide)) (qL (hi:=ϋ) V (tZ rfl rfl) rfl (by decide)) (by decide)) λy t=>fin (by decide) t
 rw[Ú c2,dF,bz];subst X;refine aeR λR X=>dw (wK rfl) ?_;by_cases c3:(way==3)=ό
 ·rw[Ñ c3]
  exact wJ (jH (jH (qL (lo:=ϋ) V rfl J (by decide)) (Z6 (qL V J (tZ rfl rfl) (by decide)) (by decide)) (by decide)) (qL (hi:=ϋ) V (tZ rfl rfl) rfl (by decide)) (by decide)) λy t=>fin (by decide) t
 rw[Ú c3,dF,bz];subst X;refine aeR λR X=>dw (wK rfl) ?_;by_cases c4:(way==4)=ό
 ·rw[Ñ c4]
  exact wJ (My (Dd (qx (lo:=ϋ) Q rfl O) (qx (hi:=ϋ) Q Qk rfl) (by decide)) (by decide) (by decide)) λy t=>fin (by decide) t
 rw[Ú c4,dF,bz];subst X;refine aeR λR X=>dw (wK rfl) ?_;by_cases c5:(way==5)=ό
 ·rw[Ñ c5]
  exact wJ (My (Dd (Dd (qx (lo:=ϋ) Q rfl O) (qx Q O Qk) (by decide)) (qx (hi:=ϋ) Q O rfl) (by decide)) (by decide) (by decide)) λy t=>fin (by decide) t
 rw[Ú c5,dF,bz];subst X;refine aeR λR X=>dw (wK rfl) ?_;by_cases c6:(way==6)=ό
 ·rw[Ñ c6]
  have mt:=Z8;erw[Å,Ë] at mt;obtain⟨⟨⟨m9,m0⟩,m7⟩,-⟩:=mt;have t9:∀{Z},tx (e2 fK (eC (.str "9")) (eC (.int 30))) (oE k x sn at' way ws dQ Z) Y 33:=λ{Z}=>DZ acW ⟨by omega,m9.2⟩;have t0:∀{Z},tx (e2 fK (eC (.str "0")) (eC (.int 30))) (oE k x sn at' way ws dQ Z) Y 30:=λ{Z}=>DZ acX ⟨m0.1,m0.2⟩;have t7:∀{Z},tx (e2 fK (eC (.str "7")) (eC (.int 31))) (oE k x sn at' way ws dQ Z) Y 31:=λ{Z}=>DZ acY ⟨m7.1,m7.2⟩;have W:∀{N:Nat} {u:Str} {Z},(ώ (u.length<=N)&&Ó u)=ό->tx (eC (.str u)) (oE k x sn at' way ws dQ Z) Y N:=λ{N u Z} h=>Ap rfl (by erw[Å,Ë] at h;exact⟨h.1,h.2⟩);obtain⟨zs,v,L,S⟩:vj (af (e2 fK (eC (.str "9")) (eC (.int 30))) (af (e2 bh (eC (.str "1")) (e2 fK (eC (.str "0")) (eC (.int 30)))) (af (eC (.str "-0")) (af (eC (.str "07")) (af (eC (.str "+1")) (af (eC (.str "")) (af (eC (.str "-")) (af (eC (.str "0/1")) (af (eC (.str "0/")) (af (eC (.str "/")) (af (eC (.str "0/1/2")) ah))))))))))) (oE k x sn at' way ws dQ ϋ) Y 11 33 :=
   fH t9 (fH (oS (jH (W (N:=1) nofun) t0 (by decide)) (by decide)) (fH (W nofun) (fH (W nofun) (fH (W nofun) (fH (W nofun) (fH (W nofun) (fH (W nofun) (fH (W nofun) (fH (W nofun) (fH (W nofun) De))))))))))
  refine aeR λq p=>?_;rw[eI,ke];refine aeP v ⟨le_size (by rw[É,L];decide),?_⟩;rw[gj];show fG q _ (.nx (oE k x sn at' way ws dQ (ϊ (.lst (zs.map D.str))))) Y;rw[bz];subst p;refine aeR λq p=>?_;obtain⟨P,o,nu,hu⟩:vj (af (e2 bh (e2 fK (eC (.str "7")) (eC (.int 31))) (eC (.str "/-"))) (af (e2 bh (eC (.str "-/")) (e2 fK (eC (.str "0")) (eC (.int 30)))) ah)) (oE k x sn at' way ws dQ (ϊ (.lst (zs.map D.str)))) Y 2 33 :=
   fH (oS (jH t7 (W (N:=2) nofun) (by decide)) (by decide)) (fH (oS (jH (W (N:=2) nofun) t0 (by decide)) (by decide)) De)
  rw[eI,bj];refine aeP (show aa 8 (oE k x sn at' way ws dQ (ϊ (.lst (zs.map D.str)))) Y=ok (.lst (zs.map D.str)) Y from rfl) ?_;rw[ke];refine aeP o ⟨le_size (by rw[É,nu];decide),?_⟩;have l:∀{s:ae} {a b:List Str},a.length+b.length<=1000->bh (.lst (a.map D.str)) (.lst (b.map D.str)) s=ok (.lst ((a++b).map D.str)) s:=λ{s a b} hl=>by
   show bT (if oX (a.map D.str) (b.map D.str)=ό then ϊ (D.lst (a.map D.str++b.map D.str)) else ϋ) s=_
   rw[Ñ (show oX (a.map D.str) (b.map D.str)=ό from È (le_size (by rw[É,É];omega))),Ĩ];rfl
  refine aeP (l ⋯) ?_;rw[gj];show fG q _ (.nx (oE k x sn at' way ws dQ (ϊ (.lst ((zs++P).map D.str))))) Y;rw[bz];subst p;obtain⟨j,ea,na,ta⟩:om (gr (aa 6) fq (cK (aa 7))) (oE k x sn at' way ws dQ (ϊ (.lst ((zs++P).map D.str)))) Y 6 20:=qx (lo:=ϋ) Q rfl O;rw[bW,tD rfl,bj,bj];refine aeP ea ?_;rw[ke,aL,bj];refine aeP (show aa 8 (oE k x sn at' way ws dQ (ϊ (.lst ((zs++P).map D.str)))) Y=ok (.lst ((zs++P).map D.str)) Y from rfl) ?_;refine qk (m:=13) B rfl rfl (by decide) (by decide) λr s5 U T i g=>?_;obtain⟨u,f,eu'⟩:=OB (s:=s5) (zs:=zs++P) (M:=33) (λz h=>(ó.mp h).elim (S z) (hu z)) U (by rw[ä,L,nu];exact T);refine aeP eu' ?_;rw[aP];refine⟨le_size (n:=1) (by decide),?_⟩;refine aeP (l (b:=[u]) (by simp;omega)) ?_;obtain⟨vb,eb,nb,tb⟩:om (gr (aa 6) (cK (e2 bh (aa 7) (eC (.int 1)))) fq) (oE k x sn at' way ws dQ (ϊ (.lst ((zs++P).map D.str)))) s5 6 20:=qx (hi:=ϋ) (lo:=ϊ (dQ+1)) ⟨ws,rfl,H,E⟩ (tZ rfl rfl) rfl;refine aeP eb (aeP (l (by simp;omega)) ?_);have nP:∀z∈j++[u]++vb,TO 33 z:=λz h=>by
   rcases ó.mp h with h|h
   ·rcases ó.mp h with h|h
    ·exact(ta z h).up (by decide)
    ·rw[Đ.mp h];exact f
   ·exact(tb z h).up (by decide)
  have K:(j++[u]++vb).length<=13:=by simp;omega
  refine aeP (xo nofun ⋯ λz h=>by have:=(nP z h).len;omega) ?_;have hj:=zm (y:=" ") λz h=>(nP z h).len;rw[show (" ":Str).length=1 from rfl] at hj;have hle:(j++[u]++vb).length*(33+1)<=13*34:=aen _ K;exact⟨_,rfl,⟨by omega,vX nofun λz h=>(nP z h).mZ⟩,i,A.trans g⟩
 rw[Ú c6,dF,bz];subst X;have W:∀{N:Nat} {u:Str},(ώ (u.length<=N)&&Ó u)=ό->tx (eC (.str u)) (oE k x sn at' way ws dQ ϋ) Y N:=λ{N u} h=>Ap rfl (by erw[Å,Ë] at h;exact⟨h.1,h.2⟩);obtain⟨zs,v,L,S⟩:vj (af (e2 bh (aa 1) (eC (.str " 1"))) (af (e2 bh (eC (.str " ")) (aa 1)) (af (e2 bh (aa 1) (eC (.str " "))) (af (e2 bh (aa 1) (eC (.str "\n"))) (af (e1 Bf (aa 1)) (af (eC (.str "")) (af (eC (.str "out")) (af (e2 bh (eC (.str "out ")) (aa 1)) ah)))))))) (oE k x sn at' way ws dQ ϋ) Y 8 60 :=
  fH (oS (jH V (W (N:=2) nofun) (by decide)) (by decide)) (fH (oS (jH (W (N:=1) nofun) V (by decide)) (by decide)) (fH (oS (jH V (W (N:=1) nofun) (by decide)) (by decide)) (fH (oS (jH V (W (N:=1) nofun) (by decide)) (by decide)) (fH ⟨aex x,by
   show (if (ώ (x.length<=5592405))=ό then ok (D.str (aex x)) Y else ϋ)=_
   rw[Ñ (È ⋯)],G⟩ (fH (W nofun) (fH (W nofun) (fH (oS (jH (W (N:=4) nofun) V (by decide)) (by decide)) De)))))))
 rw[bW,bj,ke];refine aeP v ⟨le_size (by rw[É,L];decide),?_⟩;refine qk (m:=8) B rfl rfl (by decide) (by decide) λr s5 U T i g=>?_;obtain⟨u,f,o⟩:=OB (s:=s5) S U (by rw[L];exact T);exact aeP o ⟨u,rfl,f.up (by decide),i,A.trans g⟩
end
section
variable {s s':ae} {env:Env} {x y z:Str} {book dZ:List Pg} {aN cD:List (List Pg)} {k a d b a2 d2 b2:Nat} {f g:aeO D} {fa:aeO (List D)}
def Sf.Ht (h:Sf s k) (x:Ex b s s') (kb:k≠b):Sf s' k:=by
 obtain⟨i,c,e,r⟩:=h;exact⟨i,c,x.get e kb,r⟩
def sS {i j:Nat} (h1:s[i]?=ϊ c1) (h2:s[j]?=ϊ c2) (h:c1=c2->False):i≠j:=λe=>by
 rw[e,h2] at h1;exact h (aeT h1).symm
def Ds.Ql (h:Ds s a d b aN book) (x:Ex k s s') (st:Sf s k) (kb:k≠b):Ds s' a d b aN book:=by
 obtain⟨i,c,e,r⟩:=st;exact⟨x.get h.hd (sS h.hd e (by intro z;cases z)),h.di.ex x (sS h.di.ha e (by intro z;cases z)) (ź kb)⟩
def Ds.Ht (h:Ds s a2 d2 b2 cD dZ) (G:Ds s a d b aN book) (x:Ex b s s') (bb:b2≠b):Ds s' a2 d2 b2 cD dZ :=
 ⟨x.get h.hd (sS h.hd G.di.hb (by intro z;cases z)),h.di.ex x (sS h.di.ha G.di.hb (by intro z;cases z)) bb⟩
structure In (s:ae) (k a d b a2 d2 b2:Nat) (aN:List (List Pg)) (book:List Pg):Prop where
 tb:s[0]?=ϊ (.tb "law")
 st:Sf s k
 d1:Ds s a d b aN book
 d2:Ds s a2 d2 b2 [] []
 kb:k≠b
 kb2:k≠b2
 bb:b2≠b
def In.draw (h:In s k a d b a2 d2 b2 aN book) (x:Ex k s s') (st:Sf s' k):In s' k a d b a2 d2 b2 aN book:=by
 obtain⟨i,c,e,r⟩:=id h.st;exact⟨x.get h.tb (sS h.tb e (by intro z;cases z)),st,h.d1.Ql x h.st h.kb,h.d2.Ql x h.st h.kb2,h.kb,h.kb2,h.bb⟩
def In.Pj (h:In s k a d b a2 d2 b2 aN book) (x:Ex b s s') (G:Ds s' a d b cD dZ):In s' k a d b a2 d2 b2 cD dZ :=
 ⟨x.get h.tb (sS h.tb h.d1.di.hb (by intro z;cases z)),h.st.Ht x h.kb,G,h.d2.Ht h.d1 x h.bb,h.kb,h.kb2,h.bb⟩
def EM (hd:s[a]?=ϊ (.ins "Desk" [("diary",.aj d)])) (he:f env s=ok (.aj a) s) (hf:fa env s=ok ds s):eT "Desk" "say" fn f fa env s=fn (.aj a::ds) s:=by
 have e:jk "Desk" (.aj a) s=ϊ (a,([("diary",.aj d)]:List (Str×D))):=by
  delta jk;dsimp only;rw[hd];dsimp only;rw[Ñ (È rfl)]
 delta eT;rw[he,bV,e];dsimp only;rw[Ñ (by rfl),hf,bV]
def AN (hd:s[a]?=ϊ (.ins "Desk" [("diary",.aj d)])) (he:f env s=ok (.aj a) s) (hf:fa env s=ok [v] s) (h:fU [.aj a,v] s=ok r s'):oC "Desk" "say" fU f fa env s=ok r s':=by
 refine(EM hd he hf).trans ?_;rw[h];rfl
def ny (h0:s[0]?=ϊ (.tb "law")) (ht:nL env caps=ϊ ds) (h:hX .ar (fb (ds.map ϊ)) [.ar] s=ok r s'):mG "law" caps fb hX env s=ok r s':=by
 delta mG;rw[ht];dsimp only;rw[h0];dsimp only;rw[Ñ (È rfl),h];rfl
abbrev ph:aeO D:=eT "Desk" "say" fU (aa 1) (af (aa 0) ah)
def Pk:List Int:=[2,13,14,4,5,1]
def Yc (h:In s k a d b a2 d2 b2 aN book) (hn:aN.length<500) (tx:TO 1000 x) (ht:nL env caps=ϊ [.str x,.aj a]) :
  (iu (bs x)=ύ/\mG "law" caps ph hX env s=ok (.tup [.str "refused",.int 16]) s)\/(iu (bs x)=ό/\((∃y s' cD dZ,Ó y=ό/\mG "law" caps ph hX env s=ok (.tup [.str "told",.str y]) s'/\In s' k a d b a2 d2 b2 cD dZ/\cD.length<=aN.length+1)\/∃i,i∈Pk/\mG "law" caps ph hX env s=ok (.tup [.str "refused",.int i]) s)):=by
 have em:ph [ϊ (.str x),ϊ (.aj a)] s=fU [.aj a,.str x] s:=EM h.d1.hd rfl rfl
 cases Y:iu (bs x) with
 |false =>
  refine .inl ⟨rfl,ny h.tb ht (eJ (c:="NoRow") (n:=16) (m:=ϋ) ∅ ?_)⟩;show ph [ϊ (.str x),ϊ (.aj a)] s=_;rw[em];exact ND (by rw[zl tx.len tx.mZ,Y,Ú Ä])
 |true =>
  refine .inr ⟨rfl,?_⟩
  rcases Ya h.d1 hn tx.len tx.mZ Y with ⟨y,s',cD,dZ,W,e,G,V,U⟩ | ⟨c,X,e⟩
  ·refine .inl ⟨y,s',cD,dZ,W,ny h.tb ht (DO ?_),h.Pj U G,V⟩
   show ph [ϊ (.str x),ϊ (.aj a)] s=_;rw[em,e]
  ·have Z:ph (([.str x,.aj a]:List D).map ϊ) s=ϊ (.error ⟨c,ϋ⟩,s):=em.trans e
   erw[xW,Û,ć,or_false] at X
   rcases X with rfl|rfl|rfl|rfl|rfl|rfl
   ·exact .inr ⟨2,by decide,ny h.tb ht (eJ ∅ Z)⟩
   ·exact .inr ⟨13,by decide,ny h.tb ht (eJ ∅ Z)⟩
   ·exact .inr ⟨14,by decide,ny h.tb ht (eJ ∅ Z)⟩
   ·exact .inr ⟨4,by decide,ny h.tb ht (eJ ∅ Z)⟩
   ·exact .inr ⟨5,by decide,ny h.tb ht (eJ ∅ Z)⟩
   ·exact .inr ⟨1,by decide,ny h.tb ht (eJ ∅ Z)⟩
def Yd (hy:Ó y=ό):aX (.tup [.str "told",.str y]) (.tup [.str "refused",.int 16]) s=ok (.bl ύ) s:=by
 have Z:Ó "told"=ό:=nofun
 have Y:Ó "refused"=ό:=nofun
 delta aX kl;rw[show res (.tup [.str "told",.str y]) s=.tup [.str "told",.str y] from rfl,show res (.tup [.str "refused",.int 16]) s=.tup [.str "refused",.int 16] from rfl,Ú (by simp[pN]),Ñ (by simp[lay,cR,Z,Y,hy,dep,fz])];have:beq (.tup [.str "told",.str y]) (.tup [.str "refused",.int 16])=ύ:=by
  show (beq (.str "told") (.str "refused")&&(beq (.str y) (.int 16)&&ό))=ύ;rw[show beq (.str "told") (.str "refused")=ύ by decide +kernel,Ŭ]
 rw[this]
def D1:aX (.tup [.str "refused",.int i]) (.tup [.str "refused",.int 16]) s=ok (.bl (i==16)) s:=by
 have Z:Ó "refused"=ό:=nofun
 delta aX kl;rw[show res (.tup [.str "refused",.int i]) s=.tup [.str "refused",.int i] from rfl,show res (.tup [.str "refused",.int 16]) s=.tup [.str "refused",.int 16] from rfl,Ú (by simp[pN]),Ñ (by simp[lay,cR,Z,dep,fz])];have:beq (.tup [.str "refused",.int i]) (.tup [.str "refused",.int 16])=(i==16):=by
  show (beq (.str "refused") (.str "refused")&&(beq (.int i) (.int 16)&&ό))=_;rw[show beq (.str "refused") (.str "refused")=ό by decide +kernel,ú,aeo];rfl
 rw[this]
def aab:ee (.tup [.str "refused",.int 16]) (.tup [.str "refused",.int 16]) s=ok (.bl ύ) s:=by
 have e:=D1 (s:=s) (i:=16);delta aX at e;delta ee
 cases h:kl (res (.tup [.str "refused",.int 16]) s) (res (.tup [.str "refused",.int 16]) s) with
 |none=>rw[h] at e;cases e
 |some c =>
  rw[h] at e
  have:c=ό:=by injection e with e;injection e with e1 e2;injection e1 with e1;injection e1
  rw[this];rfl
abbrev lE (sc:D) (i:Int) (k a a2:Nat) (e5 e6 e7 e8 e9:Option D):Env:=[ϊ sc,ϊ (.int i),ϊ (.aj k),ϊ (.aj a),ϊ (.aj a2),e5,e6,e7,e8,e9]
def acZ:ee (.bl u) (.bl v) s=ok (.bl (u != v)) s:=by cases u<;>cases v<;>rfl
variable {sc:D} {i:Int} {e5 e6 e7 e8 e9:Option D} {Q:Fl->ae->Prop}
def Cw (h:In s k a d b a2 d2 b2 aN book) (ty:TO 1000 y) (e1:aX (.tup [.str r0,v]) (.tup [.str "refused",.int 16]) s=ok (.bl c) s) (hc:iu (bs y)=!c) (h0:r0="told"\/r0="refused"/\B=book)
 (q:Q (.nx (lE sc i k a a2 (ϊ (.str y)) e6 (ϊ (.str (hW B))) (ϊ (.tup [.str r0,v])) e9)) s):Wp (Ey (lE sc i k a a2 (ϊ (.str y)) e6 (ϊ (.str (hW B))) (ϊ (.tup [.str r0,v])) e9) s) Q:=by
 have Y:¬ r0="other":=λe=>by
  rcases h0 with e'|e'
  ·rw[e] at e';revert e';decide +kernel
  ·have:=e'.1;rw[e] at this;revert this;decide +kernel
 have Z:e2 ay (aa 8) (eC (.int 0)) (lE sc i k a a2 (ϊ (.str y)) e6 (ϊ (.str (hW B))) (ϊ (.tup [.str r0,v])) e9) s=ok (.str r0) s:=rfl;delta Ey;refine aeR λR X=>dw (b:=ύ) (s':=s) (aeQ ?_) ?_
 ·rw[kf,eO,bj,bj]
  refine aeP (show aa 8 (lE sc i k a a2 (ϊ (.str y)) e6 (ϊ (.str (hW B))) (ϊ (.tup [.str r0,v])) e9) s=ok (.tup [.str r0,v]) s from rfl) ?_;erw[iF,aL,aP,bA];refine⟨le_size (n:=2) (by decide),aeP e1 ?_⟩;rw[L4,wp_call,aL];refine aeP (show aa 5 (lE sc i k a a2 (ϊ (.str y)) e6 (ϊ (.str (hW B))) (ϊ (.tup [.str r0,v])) e9) s=ok (.str y) s from rfl) ?_;rw[aP];refine aeP (Wm ty.len ty.mZ) ?_;rw[hc,cC,Bool.not_not];refine aeP acZ ?_
  rw[cC,show (c != c)=ύ by cases c<;>rfl,Ú Ä]
  refine aeP (dI Z) ?_;rw[Ì Y];exact⟨rfl,rfl⟩
 rw[Ú Ä,dF,bz];subst X;refine dw (b:=ύ) (s':=s) (aeQ ?_) ?_
 ·rw[CY,eO,bj]
  refine aeP Z ?_;rw[bA];refine aeP AL ?_;rw[cC]
  rcases h0 with rfl | ⟨rfl,W⟩
  ·rw[show (!ώ (("told":Str)="told"))=ύ by decide +kernel,Ú Ä]
   exact⟨rfl,rfl⟩
  ·rw[show (!ώ (("refused":Str)="told"))=ό by decide +kernel,Ñ rfl,eO,bj]
   refine aeP (AN h.d1.hd rfl rfl (Cv h.d1)) ?_;refine aeP (show aa 7 (lE sc i k a a2 (ϊ (.str y)) e6 (ϊ (.str (hW B))) (ϊ (.tup [.str "refused",v])) e9) s=ok (.str (hW B)) s from rfl) ?_;refine aeP AL ?_;rw[cC,W,È rfl];exact⟨rfl,rfl⟩
 ·rw[Ú Ä,dF]
  exact q
def Wx (h:In s k a d b a2 d2 b2 aN book) (hn:aN.length<500) (q:∀e5 e7 e8 s' cD dZ,In s' k a d b a2 d2 b2 cD dZ->cD.length<=aN.length+1->Q (.nx (lE sc i k a a2 e5 e6 e7 e8 e9)) s'):Wp (DJ (lE sc i k a a2 e5 e6 e7 e8 e9) s) Q:=by
 delta DJ;refine aeR λR Y=>?_;rw[eI,iF,aL,wp_call,aL];refine aeP (show aa 2 (lE sc i k a a2 e5 e6 e7 e8 e9) s=ok (.aj k) s from rfl) ?_;rw[aL,wp_call,aL];refine aeP (show aa 2 (lE sc i k a a2 e5 e6 e7 e8 e9) s=ok (.aj k) s from rfl) ?_;rw[aP];refine(Yb h.st).mono λN H hd=>?_;obtain⟨z,W,rfl,V,U⟩:=hd;rw[aP];refine(Ww V W).mono λN T hd=>?_;obtain⟨y,rfl,ty,S,P⟩:=hd;have Z:=h.draw (U.trans P) S;clear h V S U P W;rw[aL];refine aeP (AN (env:=lE sc i k a a2 e5 e6 e7 e8 e9) Z.d1.hd rfl rfl (Cv Z.d1)) ?_;rw[aP];refine⟨le_size (n:=2) (by decide),lE sc i k a a2 (ϊ (.str y)) e6 (ϊ (.str (hW book))) e8 e9,rfl,?_⟩;rw[bz];subst Y;refine aeR λR Y=>?_;rw[eI]
 rcases Yc (env:=lE sc i k a a2 (ϊ (.str y)) e6 (ϊ (.str (hW book))) e8 e9) (caps:=[5,3]) Z hn ty rfl with ⟨X,e⟩ | ⟨X,⟨M,L,cD,dZ,ky,e,O,K⟩ | ⟨j,J,e⟩⟩
 ·refine aeP e ?_
  rw[gj];show fG R _ (.nx (lE sc i k a a2 (ϊ (.str y)) e6 (ϊ (.str (hW book))) (ϊ (.tup [.str "refused",.int 16])) e9)) T;rw[bz];subst Y;exact Cw (c:=ό) Z ty D1 X (.inr ⟨rfl,rfl⟩) (q _ _ _ _ _ _ Z ⋯)
 ·refine aeP e ?_
  rw[gj];show fG R _ (.nx (lE sc i k a a2 (ϊ (.str y)) e6 (ϊ (.str (hW book))) (ϊ (.tup [.str "told",.str M])) e9)) L;rw[bz];subst Y;exact Cw (c:=ύ) O ty (Yd ky) X (.inl rfl) (q _ _ _ _ _ _ O K)
 ·refine aeP e ?_
  rw[gj];show fG R _ (.nx (lE sc i k a a2 (ϊ (.str y)) e6 (ϊ (.str (hW book))) (ϊ (.tup [.str "refused",.int j])) e9)) T;rw[bz];subst Y;have I:(j==16)=ύ:=by
   have:∀j∈Pk,(j==16)=ύ:=by decide
   exact this j J
  exact Cw (c:=ύ) Z ty (by rw[D1,I]) X (.inr ⟨rfl,rfl⟩) (q _ _ _ _ _ _ Z ⋯)
def rws:List Str:=["made 0 1 0/1","mended 0 2 0","made 0 3 1/0"]
def lY:Nat->List Pg
 |0=>[]
 |n+1=>ST.dB cy (lY n++[jQ (bs (rws.getD n ""))])
def okN (n:Nat):Bool:=match bs (rws.getD n "") with
 |w::r=>(ώ (w="made")||ώ (w="mended"))&&fu (w::r)&&dX (jQ (w::r))&&dH (ST.dB cy (lY n++[jQ (w::r)]))&&ώ ((rws.getD n "").length<=1000)&&Ó (rws.getD n "")
 | []=>ύ
def aac:(è 3).all okN=ό:=nofun
def S9 (hn:n<3) (h:In s k a d b a2 d2 b2 aN (lY n)) (hl:aN.length<=n) (q:∀s' cD,In s' k a d b a2 d2 b2 cD (lY (n+1))->cD.length<=n+1->Q (.nx (lE sc i k a a2 (ϊ (.str (rws.getD n ""))) e6 e7 e8 e9)) s'):Wp (DH (lE sc i k a a2 (ϊ (.str (rws.getD n ""))) e6 e7 e8 e9) s) Q:=by
 have Z:okN n=ό:=ô.mp aac n (ċ.mpr hn);obtain⟨w,r,Y⟩:=xq (rws.getD n "");delta okN at Z;rw[Y] at Z;erw[Å,aeu,Ë] at Z;obtain⟨⟨⟨⟨⟨X,W⟩,V⟩,U⟩,T⟩,S⟩:=Z;obtain⟨s',e,G,x⟩:=Wt h.d1 ⋯ T S Y X W V U;delta DH;rw[p6];refine aeP (AN (env:=lE sc i k a a2 (ϊ (.str (rws.getD n ""))) e6 e7 e8 e9) h.d1.hd rfl rfl e) (q s' (aN++[lY n]) ?_ (by rw[ä];show aN.length+1<=n+1;omega));have:lY (n+1)=ST.dB cy (lY n++[jQ (w::r)]):=by show ST.dB cy (lY n++[jQ (bs (rws.getD n ""))])=_;rw[Y]
 rw[this];exact h.Pj x G
def Hu:List D:=[.ar,.int 0,.lst [.str "book"],.tup [.str "book"],.bl ό,.cx []]
def Ta (hv:v∈Hu) (h:In s k a d b a2 d2 b2 aN book) (q:Q (.nx (lE sc i k a a2 e5 e6 e7 e8 (ϊ v))) s):Wp (DK (lE sc i k a a2 e5 e6 e7 e8 (ϊ v)) s) Q:=by
 have Z:gU [v,.ty "str"] s=ok (.bl ύ) s:=by
  erw[Hu,Û,ć,or_false] at hv
  rcases hv with rfl|rfl|rfl|rfl|rfl|rfl<;>rfl
 have em:mG "law" [9,3] ph hX (lE sc i k a a2 e5 e6 e7 e8 (ϊ v)) s=ok (.tup [.str "refused",.int 16]) s:=by
  refine ny (ds:=[v,.aj a]) h.tb rfl (eJ (c:="NoRow") (n:=16) (m:=ϋ) ∅ ?_);exact(EM (env:=[ϊ v,ϊ (.aj a)]) (ds:=[v]) h.d1.hd rfl rfl).trans (ND (UM Z))
 delta DK;refine dw (b:=ύ) (s':=s) (aeQ ?_) ?_
 ·rw[eO,bj]
  refine aeP em ?_;erw[iF,aL,aP,bA];refine⟨le_size (n:=2) (by decide),aeP aab ?_⟩;rw[cC];exact⟨rfl,rfl⟩
 ·rw[Ú Ä,dF]
  exact q
def UN {c1:Nat} {ns:List Int} (g0:s[0]?=ϊ (.tb "law")) (q:∀e2 e3 e4 e5 e6 e7 e8 e9 s',s'[0]?=ϊ (.tb "law")->Q (.nx [ϊ (.bO ns),ϊ (.int c1),e2,e3,e4,e5,e6,e7,e8,e9]) s'):Wp (DL [ϊ (.bO ns),ϊ (.int c1),f2,f3,f4,f5,f6,f7,f8,f9] s) Q:=by
 delta DL;refine aeR λR W=>?_;rw[eI];erw[wp_call,aL,aP,aR,bx];refine(XS (ns:=ns) (i:=(c1:Int)) (s:=s) ⋯).mono λV s1 hd=>?_;obtain⟨rfl,U,T,rfl⟩:=hd;rw[gj];have g1:(s++[T])[0]?=ϊ (.tb "law"):=by rw[ç (Ô.mp g0).1];exact g0
 have u:s.length<(s++[T]).length:=by simp
 show fG R _ (.nx [ϊ (.bO ns),ϊ (.int c1),ϊ (.aj s.length),f3,f4,f5,f6,f7,f8,f9]) (s++[T]);rw[bz];subst W;generalize s++[T]=Y at U g1 u;generalize s.length=k at U u;clear g0;refine aeR λR W=>?_;rw[eI,iF,aL];obtain⟨X,r,S,P,O,K⟩:=J4 (env:=[ϊ (.bO ns),ϊ (.int c1),ϊ (.aj k),f3,f4,f5,f6,f7,f8,f9]) (s:=Y);refine aeP r ?_;rw[aL];obtain⟨N,p,d2,b2,o,J⟩:=J4 (env:=[ϊ (.bO ns),ϊ (.int c1),ϊ (.aj k),f3,f4,f5,f6,f7,f8,f9]) (s:=Y++X);refine aeP p ?_;rw[aP];refine⟨le_size (n:=2) (by decide),lE (.bO ns) c1 k Y.length (Y++X).length f5 f6 f7 f8 f9,rfl,?_⟩;rw[bz];subst W;have I:Kp Y (Y++X++N):=by rw[Ĳ];exact Kp.app _ _
 have H:Kp (Y++X) (Y++X++N):=Kp.app _ _;have G:=(Ô.mp O.di.hb).1;have M:In (Y++X++N) k Y.length S P (Y++X).length d2 b2 [] (lY 0):=by
  refine⟨I.get g1,I.sf U,⟨H.get O.hd,O.di.kp H⟩,o,by omega,?_,by omega⟩;have:Y.length<=(Y++X).length:=by simp
  omega
 generalize Y++X++N=l at M;generalize (Y++X).length=a2 at M;generalize Y.length=a at M;clear I H G O o r p U g1 K J;refine aeR λR W=>?_;rw[sP];refine aeP (nq (ds:=rws.map D.str) (s1:=l) (aeQ (by
  erw[ke,aL,aP,bA];exact⟨le_size (n:=3) (by decide),rfl,trivial⟩))) ?_
 refine Wp.qV (λt env s'=>∃e5 cD,In s' k a S P a2 d2 b2 cD (lY t)/\cD.length<=t/\env=lE (.bO ns) c1 k a a2 e5 f6 f7 f8 f9) _ ⟨_,_,M,by simp,rfl⟩ (λt V env s' hd Z=>?_) (λenv s' Z=>?_)
 ·obtain⟨e5,cD,Z,L,rfl⟩:=Z
  have m:t<3:=by have:=(Ô.mp hd).1;simpa [rws] using this
  have j:V=.str (rws.getD t ""):=by
   rw[ê] at hd;obtain⟨z,h,rfl⟩:=adX.mp hd;rw[List.getD_eq_getElem?_getD,h];rfl
  subst j;refine⟨lE (.bO ns) c1 k a a2 (ϊ (.str (rws.getD t ""))) f6 f7 f8 f9,rfl,?_⟩;exact S9 m Z L λg F E C=>⟨_,_,E,C,rfl⟩
 obtain⟨e5,B,Z,L,rfl⟩:=Z;have L:B.length<=3:=L;generalize lY (rws.map D.str).length=f at Z;subst W;refine aeR λR W=>?_;rw[sP];refine aeP (mr (n:=20) rfl (by decide)) ?_;refine Wp.qV (λt env s'=>∃e5 e6 e7 e8 cD dZ,In s' k a S P a2 d2 b2 cD dZ/\(t<=20->cD.length<=t+3)/\env=lE (.bO ns) c1 k a a2 e5 e6 e7 e8 f9) _ ⟨_,_,_,_,_,_,Z,λ_=>by omega,rfl⟩ (λt V env s' hd Z=>?_) (λenv s' Z=>?_)
 ·obtain⟨e5,e6,e7,e8,cD,dZ,Z,C,rfl⟩:=Z
  rw[sL] at hd;split at hd
  ·rename_i m
   cases hd;have c:=C ⋯;refine⟨lE (.bO ns) c1 k a a2 e5 (ϊ (.int (0+(t:Int)))) e7 e8 f9,rfl,?_⟩;exact Wx Z ⋯ λe5 e7 e8 g F e E d=>⟨_,_,_,_,_,_,E,λ_=>by omega,rfl⟩
  ·cases hd
 obtain⟨A,e6,e7,e8,y,x,w,-,rfl⟩:=Z;subst W;refine aeR λR W=>?_;rw[sP];refine aeP (nq (ds:=Hu) (s1:=s') (aeQ (by
  erw[ke,iF,aL,aP,bA];exact⟨le_size (n:=1) (by decide),le_size (n:=1) (by decide),le_size (n:=6) (by decide),rfl,trivial⟩))) ?_
 refine Wp.qV (λt env s'=>∃e9,In s' k a S P a2 d2 b2 y x/\env=lE (.bO ns) c1 k a a2 A e6 e7 e8 e9) _ ⟨_,w,rfl⟩ (λt V env s' hd Z=>?_) (λenv s' Z=>?_)
 ·obtain⟨e9,Z,rfl⟩:=Z
  refine⟨lE (.bO ns) c1 k a a2 A e6 e7 e8 (ϊ V),rfl,?_⟩;exact Ta (ű hd) Z ⟨_,Z,rfl⟩
 obtain⟨e9,v,rfl⟩:=Z;subst W;refine dw (b:=ύ) (s':=s') (aeQ ?_) ?_
 ·rw[eO,bj]
  refine aeP (AN (env:=lE (.bO ns) c1 k a a2 A e6 e7 e8 e9) v.d2.hd rfl rfl (Cv v.d2)) ?_;rw[bA];refine aeP AL ?_;rw[cC,show (!ώ (hW ([]:List Pg)="-"))=ύ by decide +kernel];exact⟨rfl,rfl⟩
 ·rw[Ú Ä,dF]
  exact q _ _ _ _ _ _ _ _ _ v.tb
end
def Wy (ns:List Int) (hn:ns.length<=63):∃s,cE.Ak [.bO ns] [.tb "law"]=ϊ (.ok (.bl ό),s):=by
 suffices h:Wp (cE.Ak [.bO ns] [.tb "law"]) λd _=>d=.bl ό by
  obtain⟨d,s,e,rfl⟩:=h;exact⟨s,e⟩
 delta cE.Ak;refine dP.symm ▸ ⟨rfl,aeR λR O=>?_⟩;rw[sP];have Q:∃n:Nat,iK (af (eB wZ (af (eC (.int 1)) (af (eB w9 (af (eB cJ (af (aa 0) ah)) (af (eC (.int 2)) ah))) ah))) ah) [ϊ (.bO ns),ϋ,ϋ,ϋ,ϋ,ϋ,ϋ,ϋ,ϋ,ϋ] [.tb "law"]=ok (dg 0 n) [.tb "law"]:=by
  have e:∃n:Nat,n<=1000/\(af (eB wZ (af (eC (.int 1)) (af (eB w9 (af (eB cJ (af (aa 0) ah)) (af (eC (.int 2)) ah))) ah))) ah) [ϊ (.bO ns),ϋ,ϋ,ϋ,ϋ,ϋ,ϋ,ϋ,ϋ,ϋ] [.tb "law"]=ok [.int n] [.tb "law"]:=by
   refine⟨(if (if (2:Int)<ns.length then (2:Int) else ns.length) > 1 then (if (2:Int)<ns.length then (2:Int) else ns.length) else 1).toNat,by split<;>split<;>omega,?_⟩
   rw[Int.toNat_of_nonneg (by split<;>split<;>omega)]
   rfl
  obtain⟨n,L,N⟩:=e;exact⟨n,mr N ⋯⟩
 obtain⟨n,Q⟩:=Q;refine aeP Q ?_;refine Wp.qV (λi env s=>s[0]?=ϊ (.tb "law")/\∃e1 e2 Z Y X W V U T,env=[ϊ (.bO ns),e1,e2,Z,Y,X,W,V,U,T]) _ ⟨rfl,_,_,_,_,_,_,_,_,_,rfl⟩ (λi d env s S P=>?_) (λenv s P=>?_)
 ·obtain⟨g,e1,e2,Z,Y,X,W,V,U,T,rfl⟩:=P
  rw[sL] at S;split at S
  ·cases S
   refine⟨_,rfl,?_⟩;rw[Int.zero_add];exact UN g λe2 Z Y X W V U T K M=>⟨M,_,_,_,_,_,_,_,_,_,rfl⟩
  ·cases S
 ·obtain⟨g,e1,e2,Z,Y,X,W,V,U,T,rfl⟩:=P
  subst O;simp only[VC]
open PySem.W
def qd (K:đ) (c:Str) (fs:List Str):Bool:=match nsIn K Ò c with
 |some (ϊ (.ref C))=>plainGet K C χ&&hasDictIn K C&&plainOver K C&&(match findIn K (.ref C) "__setattr__" with|some (ϊ (.builtin x))=>ώ (x="object.__setattr__") | _=>ύ)&&fs.all (λf=>match findIn K (.ref C) f with|some ϋ=>ό | _=>ύ)&&makesIn K C&&keepIn K (.ref C)
 |_=>ύ
section
variable {K:đ} {c m q f:Str} {fs ps:List Str} {st:aeg} {h:ĺ} {mg:Str->Option Ç}
def FJ (e:qd K c fs=ό):∃C,nsIn K Ò c=ϊ (ϊ (.ref C))/\jU K C/\(∀f∈fs,nB K C f)/\makesIn K C=ό/\keepIn K (.ref C)=ό:=by
 delta qd at e;split at e
 ·rename_i C Y
  erw[Å,ô] at e;obtain⟨⟨⟨⟨⟨⟨X,W⟩,V⟩,Z⟩,U⟩,T⟩,S⟩:=e;refine⟨C,Y,⟨X,W,V,?_⟩,λf R=>?_,T,S⟩
  ·split at Z
   ·rename_i x Q
    rw[Q,æ Z]
   ·cases Z
  ·have q:=U f R
   delta nB;split at q
   ·assumption
   ·cases q
 ·cases e
def OD (e:qd K c fs=ό) (hf:f∈fs):xM K c f:=by
 obtain⟨C,Z,Y,X,_⟩:=FJ e;exact⟨C,Z,Y,X f hf⟩
def Dm (K:đ) (c m q:Str) (st:aeg):Prop:=∃(C f:Þ) (Z:Ç) (Y:Option Þ) (sl:Array (Option Ç)) (kV X pm:Ç) (an:Option Þ) (cd W:Ç),nsIn K Ò c=ϊ (ϊ (.ref C))/\findIn K (.ref C) m=ϊ (ϊ (.ref f))/\K.lookup f=ϊ ⟨Z,Y,.func (fnOf m q (kR st) (gv st) (cA st) .none kV X pm an cd W),sl⟩/\codeIn K cd q=ό/\keepIn K (.ref f)=ό/\isFn K (.ref f)=ό
def abu {C f:Þ} {oc:Ç} {od:Option Þ} {sl:Array (Option Ç)} {kV dc pm:Ç} {an:Option Þ} {cd ct:Ç} (a:nsIn K Ò c=ϊ (ϊ (.ref C))) (b:findIn K (.ref C) m=ϊ (ϊ (.ref f))) (l:K.lookup f=ϊ ⟨oc,od,.func (fnOf m q (kR st) (gv st) (cA st) .none kV dc pm an cd ct),sl⟩) (d:codeIn K cd q=ό) (k:keepIn K (.ref f)=ό) (i:isFn K (.ref f)=ό):Dm K c m q st:=⟨C,f,oc,od,sl,kV,dc,pm,an,cd,ct,a,b,l,d,k,i⟩
def t5 (e:qd K c fs=ό) (D:Dm K c m q st) (hb:∀(kV doc pm:Ç) (an:Option Þ) (aY ct:Ç) (us:List Ç),us.length=ps.length->bindArgs (fnOf m q (kR st) (gv st) (cA st) .none kV doc pm an aY ct) ⟨us,[]⟩=pure (ps.zip us)):GM K c m q st ps:=by
 obtain⟨C,f,X,W,sl,kV,V,pm,an,cd,ct,a,b,l,d,k,i⟩:=D;obtain⟨U,Z,Y,_⟩:=FJ e;rw[a] at Z;cases Z;have F:=zE (st:=st) l d k;exact⟨C,f,_,a,Y,⟨b,i,k⟩,⟨F,F.binds hb⟩⟩
def OE (X:K.In h) (G:h.Ns Ò mg) (e:qd K c fs=ό) (D:Dm K c "__init__" q st) (hb:∀(kV doc pm:Ç) (an:Option Þ) (aY ct:Ç) (us:List Ç),us.length=ps.length->bindArgs (fnOf "__init__" q (kR st) (gv st) (cA st) .none kV doc pm an aY ct) ⟨us,[]⟩=pure (ps.zip us)):GK K mg c q st ps:=by
 obtain⟨C,f,V,U,sl,kV,T,pm,an,cd,ct,a,b,l,d,k,i⟩:=D;obtain⟨S,Z,_,_,Y,W⟩:=FJ e;rw[a] at Z;cases Z;have F:=zE (st:=st) l d k;exact⟨C,f,_,a,mg_of X G a,⟨Y,b,i,W⟩,⟨F,F.binds hb⟩⟩
end
end DI
end
namespace DI.cE
open PySem L2 DI
def abv:List Str:=["NoMarks","NoSheet","NoPage","NoBook","NoMould","NoDay","NoSort","NoNumber","NoSheets","NoRun","NoLaying","NoHeap","NoCount","Clash","NoDeed","NoText","NoRow","TooMany","Lacking"]
def Df (K:đ) (x:Str) (st:aeg):Prop:=∃(f:Þ) (Z:Ç) (Y:Option Þ) (sl:Array (Option Ç)) (kV X pm:Ç) (an:Option Þ) (cd W:Ç),ì K Ò x=ϊ (ϊ (.ref f))/\K.lookup f=ϊ ⟨Z,Y,.func (Ś x x (kR st) (gv st) (cA st) .none kV X pm an cd W),sl⟩/\adj K cd x=ό/\Œ K (.ref f)=ό
def abw {K:đ} {x:Str} {st:aeg} {f:Þ} {oc:Ç} {od:Option Þ} {sl:Array (Option Ç)} {kV dc pm:Ç} {an:Option Þ} {cd ct:Ç} (a:ì K Ò x=ϊ (ϊ (.ref f))) (l:K.lookup f=ϊ ⟨oc,od,.func (Ś x x (kR st) (gv st) (cA st) .none kV dc pm an cd ct),sl⟩) (c:adj K cd x=ό) (k:Œ K (.ref f)=ό):Df K x st:=⟨f,oc,od,sl,kV,dc,pm,an,cd,ct,a,l,c,k⟩
def qN {K:đ} {x:Str} {i:Int} {t:Tok} (e:ì K Ò x=ϊ (ϊ (.int i t))):∃t,ì K Ò x=ϊ (ϊ (.int i t)):=⟨t,e⟩
def OF {K:đ} {x y:Str} {t:Tok} (e:ì K Ò x=ϊ (ϊ (.str y t))):∃t,ì K Ò x=ϊ (ϊ (.str y t)):=⟨t,e⟩
def bG {K:đ} {h:ĺ} {mg:Str->Option Ç} {x:Str} {st:aeg} {ps:List Str} (X:K.In h) (G:h.Ns Ò mg) (D:Df K x st) (hb:∀(kV doc pm:Ç) (an:Option Þ) (aY ct:Ç) (us:List Ç),us.length=ps.length->bindArgs (Ś x x (kR st) (gv st) (cA st) .none kV doc pm an aY ct) ⟨us,[]⟩=pure (ps.zip us)):∃f fd,Gd K mg x st ps f fd:=by
 obtain⟨f,Z,Y,sl,kV,W,pm,an,cd,ct,a,l,c,k⟩:=D;have F:=zE (st:=st) l c k;exact⟨f,_,ļ X G a,F,F.binds hb⟩
def cg {P:List Ç->Prop} (h:∀a0:Ç,P [a0]) (us:List Ç) (hl:us.length=1):P us:=by
 cases us with
 |nil=>simp at hl
 |cons a0 Z =>
 cases Z with
 |cons _ _=>simp at hl
 |nil =>
 exact h a0
def iS {P:List Ç->Prop} (h:∀a0 a1:Ç,P [a0,a1]) (us:List Ç) (hl:us.length=2):P us:=by
 cases us with
 |nil=>simp at hl
 |cons a0 Z =>
 cases Z with
 |nil=>simp at hl
 |cons a1 Y =>
 cases Y with
 |cons _ _=>simp at hl
 |nil =>
 exact h a0 a1
def t6 {P:List Ç->Prop} (h:∀a0 a1 a2:Ç,P [a0,a1,a2]) (us:List Ç) (hl:us.length=3):P us:=by
 cases us with
 |nil=>simp at hl
 |cons a0 Z =>
 cases Z with
 |nil=>simp at hl
 |cons a1 Y =>
 cases Y with
 |nil=>simp at hl
 |cons a2 X =>
 cases X with
 |cons _ _=>simp at hl
 |nil =>
 exact h a0 a1 a2
def abx {P:List Ç->Prop} (h:∀a0 a1 a2 a3:Ç,P [a0,a1,a2,a3]) (us:List Ç) (hl:us.length=4):P us:=by
 cases us with
 |nil=>simp at hl
 |cons a0 Y =>
 cases Y with
 |nil=>simp at hl
 |cons a1 X =>
 cases X with
 |nil=>simp at hl
 |cons a2 W =>
 cases W with
 |nil=>simp at hl
 |cons a3 Z =>
 cases Z with
 |cons _ _=>simp at hl
 |nil =>
 exact h a0 a1 a2 a3
def all_mk {P:å} {w:ā} {K:đ} {h:ĺ} {mg:Str->Option Ç} {fa:Þ} (X:K.In h) (G:h.Ns Ò mg) (hfa:mg "law"=ϊ (.ref fa))
  (d0:Df K "_law_cell_at" (top 84))
  (d1:Df K "_law_state" (top 85))
  (d2:Df K "_law_classes" (top 87))
  (d3:Df K "are_figures" (top 73))
  (d4:Df K "is_sheet_word" (top 72))
  (d5:Df K "is_number_word" (top 71))
  (d6:Df K "are_page_words" (top 70))
  (d7:Df K "is_row" (top 80))
  (d8:Df K "words_of" (top 79))
  (d9:Df K "marks_of" (top 76))
  (Hy:Df K "sheet_of" (top 75))
  (Hz:Df K "page_of" (top 74))
  (HA:Df K "marks_text" (top 67))
  (HB:Df K "sheet_text" (top 68))
  (HC:Df K "places_text" (top 82))
  (HD:Df K "is_rising" (top 30))
  (HE:Df K "is_number" (top 25))
  (HF:Df K "is_below" (top 26))
  (HG:Df K "is_mark" (top 27))
  (HH:Df K "are_marks" (top 37))
  (HI:Df K "are_apart" (top 39))
  (HJ:Df K "is_sheet" (top 38))
  (HK:Df K "is_mould" (top 28))
  (HL:Df K "is_day" (top 29))
  (HM:Df K "is_page" (top 40))
  (HN:Df K "are_laid" (top 41))
  (HP:Df K "days_seen" (top 46))
  (HQ:Df K "days_mended" (top 47))
  (HR:Df K "is_any_behind" (top 45))
  (HS:Df K "clashes" (top 44))
  (HU:Df K "faults_of" (top 43))
  (ja:Df K "is_book" (top 42))
  (HV:Df K "need_book" (top 50))
  (HW:Df K "page_text" (top 69))
  (HX:Df K "book_text" (top 66))
  (HY:Df K "need_mould" (top 31))
  (H0:Df K "need_day" (top 32))
  (H9:Df K "days_present" (top 58))
  (Ia:Df K "days_absent" (top 59))
  (Ib:Df K "marks_on" (top 57))
  (Ic:Df K "sure_sheets" (top 56))
  (Ie:Df K "surely" (top 54))
  (Ig:Df K "need_sheet" (top 48))
  (Ih:Df K "stretches" (top 61))
  (Ii:Df K "agree" (top 60))
  (Ij:Df K "places_of" (top 55))
  (Ik:Df K "answer" (top 81))
  (Il:Df K "need_page" (top 49))
  (Im:Df K "_law_met" (top 88))
  (Io:Df K "_law_take" (top 86))
  (Ip:Df K "_law_other" (top 94))
  (Iq:Df K "_law_some_row" (top 93))
  (Ir:Df K "_law_figures" (top 89))
  (Iu:Df K "_law_is_sheet" (top 91))
  (Iv:Df K "_law_is_number" (top 90))
  (Iw:Df K "_law_is_row" (top 92))
  (BZ:∃t,ì K Ò "NOTHING"=ϊ (ϊ (.str "-" t)))
  (B0:∃t,ì K Ò "FIGURES"=ϊ (ϊ (.str "0123456789" t)))
  (nr:qd K "Diary" ["books"]=ό)
  (wj:qd K "Desk" ["diary"]=ό)
  (Iy:Dm K "Diary" "undo" "Diary.undo" (eY (top 52) 3))
  (Iz:Dm K "Diary" "book_now" "Diary.book_now" (eY (top 52) 4))
  (IA:Dm K "Diary" "keep" "Diary.keep" (eY (top 52) 5))
  (yy:Dm K "Diary" "strike" "Diary.strike" (eY (top 52) 2))
  (yz:Dm K "Diary" "tell" "Diary.tell" (eY (top 52) 1))
  (IC:Dm K "Desk" "say" "Desk.say" (eY (top 78) 1))
  (ID:Dm K "Diary" "__init__" "Diary.__init__" (eY (top 52) 0))
  (IE:Dm K "Desk" "__init__" "Desk.__init__" (eY (top 78) 0))
  (dl:Df K "law" (top 95))
  (Dg:∃t,ì K Ò "MARKS"=ϊ (ϊ (.int (8) t)))
  (Cy:∃t,ì K Ò "MOULDS"=ϊ (ϊ (.int (4) t)))
  (D2:∃t,ì K Ò "DAYS"=ϊ (ϊ (.int (31) t)))
  (Dh:∃t,ì K Ò "PAGES"=ϊ (ϊ (.int (24) t)))
  (EN:∃t,ì K Ò "HAS"=ϊ (ϊ (.int (0) t)))
  (Dj:∃t,ì K Ò "LACKS"=ϊ (ϊ (.int (1) t)))
  (B1:∃t,ì K Ò "LONGEST"=ϊ (ϊ (.int (30) t)))
  (BA:ì K Ò "ValueError"=ϊ ϋ)
  (EO:ì K Ò "all"=ϊ ϋ)
  (ER:ì K Ò "any"=ϊ ϋ)
  (D3:ì K Ò "bool"=ϊ ϋ)
  (ES:ì K Ò "int"=ϊ ϋ)
  (BB:ì K Ò "isinstance"=ϊ ϋ)
  (ET:ì K Ò "len"=ϊ ϋ)
  (EU:ì K Ò "max"=ϊ ϋ)
  (EV:ì K Ò "min"=ϊ ϋ)
  (Dl:ì K Ò "range"=ϊ ϋ)
  (BN:ì K Ò "reversed"=ϊ ϋ)
  (EW:ì K Ò "set"=ϊ ϋ)
  (Cz:ì K Ò "sorted"=ϊ ϋ)
  (EX:ì K Ò "str"=ϊ ϋ)
  (Dp:ì K Ò "tuple"=ϊ ϋ)
  (EY:ì K Ò "zip"=ϊ ϋ)
  (xf:mq K bU abv "MouldError"=ό) (tf:DG K "law"=ό)
  : ∃(c T:Þ) (fd:Ģ),aeK K "law"=ϊ (c,T)/\K.lookup T=ϋ/\(∀(s:Â) (v:Ç),BindsTo s fd ⟨[v],[]⟩ [(aeU,v)])/\∀base:ĺ,K.In base->base.Ns Ò mg->base.BuiltinsAt mg T->cW P w K mg base eG 15 fa fd [aeU] (zN K T):=by
 have g0:=bG (ps:=[aeU,"_law_k"]) X G d0 λ_ _ _ _ _ _=>iS λ_ _=>rfl;have g1:=bG (ps:=[aeU,"_law_k"]) X G d1 λ_ _ _ _ _ _=>iS λ_ _=>rfl;have g2:=bG (ps:=["_law_e"]) X G d2 λ_ _ _ _ _ _=>cg λ_=>rfl;have g3:=bG (ps:=["word"]) X G d3 λ_ _ _ _ _ _=>cg λ_=>rfl;have g4:=bG (ps:=["word"]) X G d4 λ_ _ _ _ _ _=>cg λ_=>rfl;have g5:=bG (ps:=["word"]) X G d5 λ_ _ _ _ _ _=>cg λ_=>rfl;have g6:=bG (ps:=["words"]) X G d6 λ_ _ _ _ _ _=>cg λ_=>rfl;have g7:=bG (ps:=["words"]) X G d7 λ_ _ _ _ _ _=>cg λ_=>rfl;have g8:=bG (ps:=["row"]) X G d8 λ_ _ _ _ _ _=>cg λ_=>rfl;have g9:=bG (ps:=["word"]) X G d9 λ_ _ _ _ _ _=>cg λ_=>rfl;have Z:=bG (ps:=["word"]) X G Hy λ_ _ _ _ _ _=>cg λ_=>rfl;have Y:=bG (ps:=["words"]) X G Hz λ_ _ _ _ _ _=>cg λ_=>rfl;have W:=bG (ps:=["marks"]) X G HA λ_ _ _ _ _ _=>cg λ_=>rfl;have V:=bG (ps:=["sheet"]) X G HB λ_ _ _ _ _ _=>cg λ_=>rfl;have U:=bG (ps:=["places"]) X G HC λ_ _ _ _ _ _=>cg λ_=>rfl;have S:=bG (ps:=["things"]) X G HD λ_ _ _ _ _ _=>cg λ_=>rfl;have R:=bG (ps:=["thing"]) X G HE λ_ _ _ _ _ _=>cg λ_=>rfl;have Q:=bG (ps:=["thing","many"]) X G HF λ_ _ _ _ _ _=>iS λ_ _=>rfl;have O:=bG (ps:=["thing"]) X G HG λ_ _ _ _ _ _=>cg λ_=>rfl;have N:=bG (ps:=["thing"]) X G HH λ_ _ _ _ _ _=>cg λ_=>rfl;have M:=bG (ps:=["marks","others"]) X G HI λ_ _ _ _ _ _=>iS λ_ _=>rfl;have L:=bG (ps:=["thing"]) X G HJ λ_ _ _ _ _ _=>cg λ_=>rfl;have J:=bG (ps:=["thing"]) X G HK λ_ _ _ _ _ _=>cg λ_=>rfl;have I:=bG (ps:=["thing"]) X G HL λ_ _ _ _ _ _=>cg λ_=>rfl;have H:=bG (ps:=["thing"]) X G HM λ_ _ _ _ _ _=>cg λ_=>rfl;have E:=bG (ps:=["thing"]) X G HN λ_ _ _ _ _ _=>cg λ_=>rfl;have D:=bG (ps:=["pages","mould","mark","half"]) X G HP λ_ _ _ _ _ _=>abx λ_ _ _ _=>rfl;have C:=bG (ps:=["pages","mould","mark"]) X G HQ λ_ _ _ _ _ _=>t6 λ_ _ _=>rfl;have B:=bG (ps:=["days","day","later"]) X G HR λ_ _ _ _ _ _=>t6 λ_ _ _=>rfl;have A:=bG (ps:=["pages","mould","mark"]) X G HS λ_ _ _ _ _ _=>t6 λ_ _ _=>rfl;have z:=bG (ps:=["pages"]) X G HU λ_ _ _ _ _ _=>cg λ_=>rfl;have y:=bG (ps:=["thing"]) X G ja λ_ _ _ _ _ _=>cg λ_=>rfl;have x:=bG (ps:=["thing"]) X G HV λ_ _ _ _ _ _=>cg λ_=>rfl;have u:=bG (ps:=["page"]) X G HW λ_ _ _ _ _ _=>cg λ_=>rfl;have r:=bG (ps:=["book"]) X G HX λ_ _ _ _ _ _=>cg λ_=>rfl;have q:=bG (ps:=["thing"]) X G HY λ_ _ _ _ _ _=>cg λ_=>rfl;have p:=bG (ps:=["thing"]) X G H0 λ_ _ _ _ _ _=>cg λ_=>rfl;have o:=bG (ps:=["book","mould","mark"]) X G H9 λ_ _ _ _ _ _=>t6 λ_ _ _=>rfl;have n:=bG (ps:=["book","mould","mark"]) X G Ia λ_ _ _ _ _ _=>t6 λ_ _ _=>rfl;have m:=bG (ps:=["days_by_mark","day"]) X G Ib λ_ _ _ _ _ _=>iS λ_ _=>rfl;have j:=bG (ps:=["book","mould"]) X G Ic λ_ _ _ _ _ _=>iS λ_ _=>rfl;have i:=bG (ps:=["book","mould","day"]) X G Ie λ_ _ _ _ _ _=>t6 λ_ _ _=>rfl;have g:=bG (ps:=["thing"]) X G Ig λ_ _ _ _ _ _=>cg λ_=>rfl;have d:=bG (ps:=["holds"]) X G Ih λ_ _ _ _ _ _=>cg λ_=>rfl;have b:=bG (ps:=["sheet","sure"]) X G Ii λ_ _ _ _ _ _=>iS λ_ _=>rfl;have g45:=bG (ps:=["book","sheet"]) X G Ij λ_ _ _ _ _ _=>iS λ_ _=>rfl;have g46:=bG (ps:=["book","words"]) X G Ik λ_ _ _ _ _ _=>iS λ_ _=>rfl;have g47:=bG (ps:=["thing"]) X G Il λ_ _ _ _ _ _=>cg λ_=>rfl;have g48:=bG (ps:=["_law_call"]) X G Im λ_ _ _ _ _ _=>cg λ_=>rfl;have g49:=bG (ps:=[aeV,"_law_many"]) X G Io λ_ _ _ _ _ _=>iS λ_ _=>rfl;have g50:=bG (ps:=[aeV,aeW]) X G Ip λ_ _ _ _ _ _=>iS λ_ _=>rfl;have g51:=bG (ps:=[aeV]) X G Iq λ_ _ _ _ _ _=>cg λ_=>rfl;have g52:=bG (ps:=[aeX]) X G Ir λ_ _ _ _ _ _=>cg λ_=>rfl;have g53:=bG (ps:=[aeX]) X G Iu λ_ _ _ _ _ _=>cg λ_=>rfl;have g54:=bG (ps:=[aeX]) X G Iv λ_ _ _ _ _ _=>cg λ_=>rfl;have g55:=bG (ps:=[aeW]) X G Iw λ_ _ _ _ _ _=>cg λ_=>rfl;have p9:∃t,mg "MARKS"=ϊ (.int (8) t):=by obtain⟨t,e⟩:=Dg;exact⟨t,ļ X G e⟩
 have vM:∃t,mg "MOULDS"=ϊ (.int (4) t):=by obtain⟨t,e⟩:=Cy;exact⟨t,ļ X G e⟩
 have qi:∃t,mg "DAYS"=ϊ (.int (31) t):=by obtain⟨t,e⟩:=D2;exact⟨t,ļ X G e⟩
 have Ck:∃t,mg "PAGES"=ϊ (.int (24) t):=by obtain⟨t,e⟩:=Dh;exact⟨t,ļ X G e⟩
 have tj:∃t,mg "HAS"=ϊ (.int (0) t):=by obtain⟨t,e⟩:=EN;exact⟨t,ļ X G e⟩
 have sF:∃t,mg "LACKS"=ϊ (.int (1) t):=by obtain⟨t,e⟩:=Dj;exact⟨t,ļ X G e⟩
 have BK:∃t,mg "LONGEST"=ϊ (.int (30) t):=by obtain⟨t,e⟩:=B1;exact⟨t,ļ X G e⟩
 have Rx:=þ X G BA;have aby:=þ X G EO;have abz:=þ X G ER;have aad:=þ X G D3;have abA:=þ X G ES;have Ry:=þ X G BB;have abB:=þ X G ET;have abC:=þ X G EU;have abD:=þ X G EV;have Ye:=þ X G Dl;have Tb:=þ X G BN;have abE:=þ X G EW;have Wz:=þ X G Cz;have abF:=þ X G EX;have Yf:=þ X G Dp;have abG:=þ X G EY;have sk:∃t,mg "NOTHING"=ϊ (.str "-" t):=by obtain⟨t,e⟩:=BZ;exact⟨t,ļ X G e⟩
 have BL:∃t,mg "FIGURES"=ϊ (.str "0123456789" t):=by obtain⟨t,e⟩:=B0;exact⟨t,ļ X G e⟩
 have m0:=t5 (ps:=["self"]) nr Iy λ_ _ _ _ _ _=>cg λ_=>rfl;have m1:=t5 (ps:=["self"]) nr Iz λ_ _ _ _ _ _=>cg λ_=>rfl;have m2:=t5 (ps:=["self","pages"]) nr IA λ_ _ _ _ _ _=>iS λ_ _=>rfl;have m3:=t5 (ps:=["self","page"]) nr yy λ_ _ _ _ _ _=>iS λ_ _=>rfl;have m4:=t5 (ps:=["self","page"]) nr yz λ_ _ _ _ _ _=>iS λ_ _=>rfl;have m5:=t5 (ps:=["self","row"]) wj IC λ_ _ _ _ _ _=>iS λ_ _=>rfl;have m6:=OE (ps:=["self"]) X G nr ID λ_ _ _ _ _ _=>cg λ_=>rfl;have m7:=OE (ps:=["self"]) X G wj IE λ_ _ _ _ _ _=>cg λ_=>rfl;obtain⟨f,oc,od,sl,kV,dc,pm,an,cd,ct,a,l,c,k⟩:=dl;have e:=hfa.symm.trans (ļ X G a);cases e;have F:=zE (st:=(top 95)) l c k;have GL:Gd K mg "law" (top 95) [aeU] _ _:=⟨ļ X G a,F,F.binds λ_ _ _ _ _ _=>cg λ_=>rfl⟩;obtain⟨c0,T0,ht,hC,hT⟩:=Xt tf;exact⟨c0,T0,_,ht,hT,λs v=>.of_eq rfl,λbase _ _ hB=>Xs (ZN ⟨Rx,aby,abz,aad,abA,Ry,abB,abC,abD,Ye,Tb,abE,Wz,abF,Yf,abG,gH X G xf nofun,gH X G xf nofun,gH X G xf nofun,gH X G xf nofun,gH X G xf nofun,gH X G xf nofun,gH X G xf nofun,gH X G xf nofun,gH X G xf nofun,gH X G xf nofun,gH X G xf nofun,gH X G xf nofun,gH X G xf nofun,gH X G xf nofun,gH X G xf nofun,gH X G xf nofun,gH X G xf nofun,gH X G xf nofun,gH X G xf nofun,aa8 xf,o9 X G xf nofun,o9 X G xf nofun,o9 X G xf nofun,o9 X G xf nofun,o9 X G xf nofun,o9 X G xf nofun,o9 X G xf nofun,o9 X G xf nofun,acK X G xf,p9,vM,qi,Ck,tj,sF,BK,sk,BL,OD nr (by decide),OD wj (by decide),m0,m1,m2,m3,m4,m5,m6,m7,g0,g1,g2,g3,g4,g5,g6,g7,g8,g9,Z,Y,W,V,U,S,R,Q,O,N,M,L,J,I,H,E,D,C,B,A,z,y,x,u,r,q,p,o,n,m,j,i,g,d,b,g45,g46,g47,g48,g49,g50,g51,g52,g53,g54,g55⟩ ht hC hB GL a) ht Wy⟩
def walk {l:PySem.W.OpenLaw} {q:å} {loose:List Str} {XP:(Str->Option Ç)->ĺ->Prop} {YP:ā->ĺ->Prop} {d:DefRec} {K:Params->đ} (hn:l.most=ϊ 63) (yd:d.params.defaults=[]) (hd:(PyProof.Rows.recsOf q).find? (λe=>e.name==d.name)=ϊ d)
  (hY:∀(w:ā) (h:ĺ),YP w h->(K w.params).In h)
  (F:∀(w:ā) (mg:Str->Option Ç) (fa:Þ) (h:ĺ),(K w.params).In h->h.Ns Ò mg->mg d.name=ϊ (.ref fa) ->
   ∃(c T:Þ) (fd:Ģ),aeK (K w.params) d.name=ϊ (c,T)/\(K w.params).lookup T=ϋ/\(∀(s:Â) (u:Ç),BindsTo s fd ⟨[u],[]⟩ [(aeU,u)])/\∀base:ĺ,(K w.params).In base->base.Ns Ò mg->base.BuiltinsAt mg T->cW l.prog w (K w.params) mg base eG 15 fa fd [aeU] (zN (K w.params) T)) :
  PySem.W.WalkO q loose XP YP l.row.toRowW d [] (λf vs=>PySem.call f vs) :=
 L2.Zu (n:=63) (k:=15) (x:= aeU) (CX:=λ_=>eG) (sp:=λw=>zN (K w.params)) hn (by decide) yd ⟨rfl,by decide,by decide,rfl⟩ hY hd F (λ_ _ _ a Z Y X V=>⟨a,Z,rfl,V,Y,X,λ_=>rfl⟩) λ_ _ _ _ _ z=>z
end DI.cE
open PySem PySem.W PyProof.Rows
namespace PySem.W.Fast
def te603338459484098034:=trivial
def te14065826620050755513:=trivial
def te7660244561960862532:=trivial
def te8403559534865787773:=trivial
def te15500001179271910561:=trivial
def te4678103353419205127:=trivial
end PySem.W.Fast
set_option maxRecDepth 100000 in
set_option maxHeartbeats 0 in
theorem PySem.Challenge.cw_twinmoulds_k52_rows_of_a_desk_refused_holds : PySem.Challenge.rw_twinmoulds_k52_rows_of_a_desk_refused.Holds := by
 w_on;o_law;k_head;(case hw=>w_witness2)
 k_fill
 refine DI.cE.walk (l:=PySem.Challenge.rw_twinmoulds_k52_rows_of_a_desk_refused) rfl rfl rfl (λw h Y=>PySem.W.km_in_of Y) ?F
 case F =>
  intro w V U h Z G X;refine' DI.cE.all_mk Z G X ?d0 ?d1 ?d2 ?d3 ?d4 ?d5 ?d6 ?d7 ?d8 ?d9 ?Hy ?Hz ?HA ?HB ?HC ?HD ?HE ?HF ?HG ?HH ?HI ?HJ ?HK ?HL ?HM ?HN ?HP ?HQ ?HR ?HS ?HU ?ja ?HV ?HW ?HX ?HY ?H0 ?H9 ?Ia ?Ib ?Ic ?Ie ?Ig ?Ih ?Ii ?Ij ?Ik ?Il ?Im ?Io ?Ip ?Iq ?Ir ?Iu ?Iv ?Iw ?BZ ?B0 ?nr ?wj ?Iy ?Iz ?IA ?yy ?yz ?IC ?ID ?IE ?dl ?Dg ?Cy ?D2 ?Dh ?EN ?Dj ?B1 ?BA ?EO ?ER ?D3 ?ES ?BB ?ET ?EU ?EV ?Dl ?BN ?EW ?Cz ?EX ?Dp ?EY ?xf ?tf
  (case d0|d1|d2|d3|d4|d5|d6|d7|d8|d9|Hy|Hz|HA|HB|HC|HD|HE|HF|HG|HH|HI|HJ|HK|HL|HM|HN|HP|HQ|HR|HS|HU|ja|HV|HW|HX|HY|H0|H9|Ia|Ib|Ic|Ie|Ig|Ih|Ii|Ij|Ik|Il|Im|Io|Ip|Iq|Ir|Iu|Iv|Iw|dl=>refine' DI.cE.abw ?a ?l ?c ?k;(case a=>k_is);(case l=>k_is);(case c=>k_is);(case k=>k_is))
  (case Dg=>refine' DI.cE.qN ?e;(case e=>k_is))
  (case Cy=>refine' DI.cE.qN ?e;(case e=>k_is))
  (case D2=>refine' DI.cE.qN ?e;(case e=>k_is))
  (case Dh=>refine' DI.cE.qN ?e;(case e=>k_is))
  (case EN=>refine' DI.cE.qN ?e;(case e=>k_is))
  (case Dj=>refine' DI.cE.qN ?e;(case e=>k_is))
  (case B1=>refine' DI.cE.qN ?e;(case e=>k_is))
  (case BA|EO|ER|D3|ES|BB|ET|EU|EV|Dl|BN|EW|Cz|EX|Dp|EY=>k_is)
  (case BZ=>refine' DI.cE.OF ?e;(case e=>k_is))
  (case B0=>refine' DI.cE.OF ?e;(case e=>k_is))
  (case nr=>kernel_rfl)
  (case wj=>kernel_rfl)
  (case Iy|Iz|IA|yy|yz|IC|ID|IE=>refine' DI.abu ?a ?b ?l ?c ?k ?f;(case a=>k_is);(case b=>k_is);(case l=>k_is);(case c=>k_is);(case k=>k_is);(case f=>k_is))
  (case xf=>kernel_rfl)
  (case tf=>kernel_rfl)
