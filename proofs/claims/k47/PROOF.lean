import PyProof.Rows.All
import Wide.All
import OpenK.AllK
import Wide.FinOn
import Lean
import PyProof.EqAt
import PyProof.EqKinds
import PyProof.TupleCall
import PyProof.NeData
import PyProof.P3In
import PyProof.FactsAll.set
import PyProof.CollectWalk
import PyProof.FactsAll.range
import PyProof.MinMaxWalk
import KE.KMinKey
import PyProof.WalkInts
import PyProof.Rows.CallKwBuiltin
import KE.KLam
import KE.KSortTup
import PyProof.Rows.Range3
import PyProof.ListRange
import PyProof.DictRoadsH
import KE.KDictList
import PyProof.Rows.SortKeyStr
import PyProof.DictCompW
import PyProof.DictWalks
import PyProof.Rows.CompDC
import PyProof.SumAny
import PyProof.TupleOfGen
import PyProof.CollectIter
import KE.KTryMore
import OpenK.KOwn
import PyProof.ExcBaseAll.ValueError
import KE.KNestM
import PyProof.NsDelKeeps
import PyProof.ExcAttrAll.ValueError
import PyProof.Conv_int_bool
import PyProof.InstStoreFacts
import PySem.Challenge.RW_twinmoulds_k47_a_diary_and_its_deeds
set_option bootstrap.genMatcherCode false
set_option genInjectivity false
set_option genSizeOfSpec false
set_option Elab.async false
set_option linter.all false
set_option maxRecDepth 100000
set_option maxHeartbeats 4000000
open PySem renaming wpAny_bind→À,wpAny_pure→Ã,Shared→Ä,Value→Å,starEach→Ê,mainGlobals→Ò,Addr→Ø,sizeLine→Ú,wpAny→Û,Program→ã,model→ä,Around→ê,foldedSetIterable→ù,bootBuiltins→ú,wpAny_newObj_type→þ,World→Ă,wpAny_call_entry→ć,wpAny_callSpecial?_slot→ċ,FuncData→Ė,compareOp→Ě,wpAny_mono→Ĝ,wpAny_holding→ĝ,Expr→ġ,Heap→ĥ,backTo→ħ,eval→ĩ,wpAny_seqItems→Ī,mem_of_lookup→ĭ,wpAny_field→ķ,binaryOp→ĺ,attributeBase→Ŀ,codeAny_builtin→Ń,codeAny_mono→ō,wpAny_truthy_bool→ő,letOwnedTupleGo→ŕ,keywordEach→ŗ,intKind→ś,wpAny_rule→ş,wpAny_askSetting→Ţ,wpAny_Call_Name_kw→ť,wpAny_setField_rec→Ŧ,NameKind→ũ,assignEach→ŭ,Builtin→ű,wpAny_setState_of→ų,wpAny_standAt→Ŷ,codeAny→ŷ,wpAny_attempt→Ÿ,wpAny_setEntries_of→Ź,pickOrder→Ž,wpAny_setField→δ,Scope→ι,holding→μ,sizeLine_eq→ν,swapsWithSole→χ,swappedStores→ψ,wpAny_pyIter_list→ω,fits_of_scanBound→ZV,rawInt→ZX,standAt→ZZ,cellsFrom→Z1,IsPair→Z4,scanBound→Z6,pyNext→aaj,wpAny_typeOf→aam,PyData→aao,wpAny_passesOwn→aar,behindInMarks→aas,backToKw→aav,wpAny_call→aaI,sliceBounds→aaK,wpAny_storeSet_of→aaP,eqIsQuiet_byValue→aaR,bindName→aaS,wpAny_bindName→aaT,Stmt→aaX,Keyword→aa3,wpAny_isInstance→aa5,assignInOrder→aa7,sysModules→aba,call_meets→abb,swapsWith→abd,getMethod→abf,wpAny_specialOf→abj,assign→abn,Arguments→abv,cLine→abz
open PySem.Heap renaming get?_push_of_some→Á,lt_size→Ë,get?_push_size→Í,size_push→ă,get?_update_self→ě,SameBut→İ,get?_update_other→ζ,get?_update_ne→aai,get?_some_iff→aaC,ExtBut→aaL,FlyingW→aa0
open Bool renaming false_eq_true→Â,and_eq_true→Æ,false_ne_true→Ï,not_true→ô,true_and→ü,and_self→ī,not_eq_true'→Ĵ,eq_iff_iff→Ł,not_eq_true→ż,not_false→Z9,or_eq_true→aay,false_and→aaU
open List renaming getElem?_eq_some_iff→Ç,length_map→É,mem_append_right→Î,getElem?_eq_getElem→Ð,replicate→Ñ,mem_cons_of_mem→Ó,mem_cons_self→Ô,mem_cons→Õ,getElem?_set_ne→Ö,size_toArray→Ù,getElem?_append_left→Ü,map_cons→Ý,length_append→Þ,getElem?_set_self→å,set_cons_succ→æ,set_cons_zero→ç,all_eq_true→ë,getElem?_append_right→í,getElem?_map→î,length_cons→ñ,pairwise_cons→ò,mem_range→ö,append_nil→û,mem_append_left→ý,mem_append→Ą,not_mem_nil→Ĉ,length_set→ĉ,range→č,lookup_cons→đ,length_nil→ē,mem_map→Ĕ,map_append→ĕ,mem_singleton→Ę,zip_cons_cons→ę,cons_append→ğ,replicate_succ→Ģ,getElem?_replicate→ģ,mem_filter→Ĩ,getElem?_eq_none→ĳ,nil_append→ĸ,flatten_cons→ļ,map_map→Ņ,length_filter_le→Ň,filter_cons→ŋ,map_nil→ŏ,any_eq_true→š,drop_eq_getElem_cons→Ũ,mem_of_getElem?→Ū,append_assoc→Ů,getD→Ű,ext_getElem?→Ų,length_range→Ŵ,dropLast_concat_getLast→η,nodup_cons→ξ,length_replicate→ο,nodup_append→ZW,length_take→aaa,isEmpty_nil→aab,filterMap_cons→aad,lookup→aae,getElem_of_mem→aag,getElem?_range→aah,mem_filterMap→aaq,forIn_cons→aax,length_eq_zero_iff→aaA,flatMap_eq_nil_iff→aaE,pairwise_lt_range→aaG,toArray→aaZ,getElem_mem→aa4,drop_length→aa6,of_mem_zip→abg,drop_succ_cons→abl,drop_zero→abr
open Nat renaming lt_of_lt_of_le→È,le_trans→à,ne_of_lt→â,lt_irrefl→ï,zero_le→Ċ,lt_succ_of_lt→Ĥ,lt_succ_self→Ŋ,ne_of_gt→Ť,le_of_not_lt→Ż,le_max_right→ž,le_succ→aaf,le_max_left→aaB,add_assoc→aa9,not_lt_zero→abk,le_of_eq→abo
open PySem.NameKind renaming free→ì
open PySem.W renaming nsIn→õ,mg_none_of→ą,Frag→Ď,emptyDict→ı,findIn→ĵ,keepIn→ľ,mg_of→ŀ,fnOf→Ŏ,instObj→Ŕ,cellsFrom_some→ε,lookIn→Z0,codeIn→Z2,hideAll_get→aac,callWith_K→aau,plainGet→aa2,tabIn→aa8,plainGet_of→abe,methodObj→abt,hasDictIn→abu,excIn→abA
open Array renaming length_toList→ø,getElem?_toList→Ĳ,toList_push→aaO,getD→abw
open PySem.Str renaming ofString→Ā
open PySem.Builtin.SmallTypes renaming nextOf→Ć,ownedTupleIsFree→Į,ownedTupleHandOut→Z5
open PySem.SetTable renaming below→Č,grown→aaV
open False renaming elim→ď
open PySem.Obj renaming data_mapFields→Đ,isFreed_of_fields→ł,mapSeq→Œ,cls_mapFields→aaM
open PyProof.Rows renaming slot_tuple_getitem→ė,envOfC→į,firstMet→Ō,callWith_type1→Ŗ,assignInOrder_cons→ţ,seqObj→aaH,IntsAre→aaJ,AllBare→aby,envOfC→abB
open PySem.Heap.SameBut renaming update→Ğ
open PySem.PyData renaming eqv→Ġ,depthAll→ń,shownAll→ņ,strOk→ŵ,showableAll→abp,hasDict→abq
open ForInStep renaming yield→Ĺ
open PySem.Value renaming ref→Ļ,bool→Ő,type→Ş,int→abc
open Int renaming toNat_natCast→Ľ,emod_lt_of_pos→θ,emod_nonneg→aaD,zero_add→aa1
open PySem.Builtin.Tuple renaming tupleExact→ň,tupleItemsOf→Ŝ,tupleIsExact→ZY,tupleHashOf→Z7
open Function renaming comp_def→œ
open PySem.Builtin.List renaming listExtendWith→Ř,listTooLong→aan
open List.cons renaming injEq→ř
open PySem.PassesOwn renaming never→Ś
open PySem.F renaming slot_tuple_iterator_next→ŝ,isi_meta_tuple→Š,isi_meta_list→ů,plainAttrs_list→ź,called_set→υ,args_tuple_add_2→aal,entry_tuple_add→aaw,slot_tuple_add→aaF,slot_tuple_hash→aaQ,slot_int_rmul→abh,slot_zip_next→abi
open PySem.Builtin.Slice renaming slicePlaces→ŧ,sliceAdjust→Z3,sliceApplied→abm
open PySem.Around renaming under_plainId→ū
open Ne renaming symm→Ŭ
open PySem.Sem renaming wp→ſ
open Option renaming map_some→ς,isNone_iff_eq_none→Z8,isSome_iff_exists→aak
open Or renaming inl→aap
open PySem.Calls renaming spliced_cons→aat
open PyProof.Rows.F renaming plain_set_update_loop→aaz
open PySem.SetTable.below renaming go→aaN
open PySem.ReprK renaming of_reads→aaW
open List.Pairwise renaming sublist→aaY
open PySem.SetTable.probe renaming go→abx
def Ì:=@decide_eq_true_eq
def ß:=@if_pos
def á:=@decide_eq_true
def è:=@if_neg
def é:=@if_false
def ð:=@if_true
def ó:=@decide_eq_false
def ÿ:=@of_decide_eq_true
def ā:=@beq_self_eq_true
def Ē:=@bne_self_eq_false
def Ħ:=@decide_true
def Ĭ:=@and_self
def Ķ:=@congrArg
def abG:=@Nat.le_refl
def abH:=@Option.some.inj
abbrev abI:PySem.Str:="_law_done"
abbrev abJ:PySem.Str:="_law_state_here"
abbrev abK:PySem.Str:="_law_script"
abbrev abL:PySem.Str:="_law_page_here"
abbrev abM:PySem.Str:="_law_mark"
abbrev abN:PySem.Str:="_law_deed_here"
abbrev abO:PySem.Str:="_law_due"
abbrev abP:PySem.Str:="_law_pages"
abbrev abQ:PySem.Str:="_law_diary"
abbrev abR:PySem.Str:="_law_told"
abbrev abS:PySem.Str:="_law_mould"
abbrev abT:PySem.Str:="_law_books"
abbrev abU:PySem.Str:="_law_other"
abbrev abV:PySem.Str:="_law_mark_stands"
noncomputable section
local macro_rules | `(tactic| omega) => `(tactic| lia)
open PySem.W (Frag)
namespace L2
open PySem PySem.Spec PyProof.Rows
noncomputable abbrev Key:=Sum Int Str
def Bj:Key->Å->Bool
 | .inl k,v=>Value.isInt k v
 | .inr x,v=>Value.isStrOf x v
def V9 (w:Ă):Key->Int
 | .inl k=>hashInt k
 | .inr x=>hashStr w x
def kK:∀{k:Key} {v:Å},Bj k v=true->(∃i t,k=Sum.inl i/\v=abc i t)\/(∃x t,k=Sum.inr x/\v=Value.str x t)
 | .inl i,v,h=>by
  obtain⟨t,e⟩:=Value.isInt_shape (k:=i) (v:=v) h;exact .inl ⟨i,t,rfl,e⟩
 | .inr x,v,h=>by
  obtain⟨t,e⟩:=Value.isStrOf_shape (x:=x) (v:=v) h;exact .inr ⟨x,t,rfl,e⟩
def Sq (a b:Int):decide ((Sum.inl a:Key)=Sum.inl b)=(a==b):=by
 by_cases e:a=b
 ·subst e;simp
 ·have h:¬ (Sum.inl a:Key)=Sum.inl b:=λq=>e (Sum.inl.inj q)
  rw[ó h];exact(beq_eq_false_iff_ne.mpr e).symm
def Sr (a b:Str):decide ((Sum.inr a:Key)=Sum.inr b)=decide (a=b):=by
 by_cases e:a=b
 ·subst e;simp
 ·have h:¬ (Sum.inr a:Key)=Sum.inr b:=λq=>e (Sum.inr.inj q)
  rw[ó h,ó e]
def Ss (a:Int) (b:Str):decide ((Sum.inl a:Key)=Sum.inr b)=false:=ó (λq=>nomatch q)
def Su (a:Str) (b:Int):decide ((Sum.inr a:Key)=Sum.inl b)=false:=ó (λq=>nomatch q)
def v9 (prog:ã) (w:Ă):PySem.KeyKind prog w Key where
 is:=Bj
 hash:=V9 w
 inj:=λv a b X Y=>by
  rcases kK X with ⟨i,t,rfl,rfl⟩ | ⟨x,t,rfl,rfl⟩
  ·rcases kK Y with ⟨j,u,rfl,e⟩ | ⟨y,u,rfl,e⟩
   ·injection e with e1 _;rw[e1]
   ·exact nomatch e
  ·rcases kK Y with ⟨j,u,rfl,e⟩ | ⟨y,u,rfl,e⟩
   ·exact nomatch e
   ·injection e with e1 _;rw[e1]
 byValue:=λk v h=>by
  rcases kK h with ⟨i,t,rfl,rfl⟩ | ⟨x,t,rfl,rfl⟩<;>rfl
 pyHash:=λZ h=>by
  rcases kK Z with ⟨i,t,rfl,rfl⟩ | ⟨x,t,rfl,rfl⟩
  ·exact wpAny_pyHash_int h
  ·exact wpAny_pyHash_str h
 eqBool:=λW Z h=>by
  rcases kK W with ⟨i,t,rfl,rfl⟩ | ⟨x,t,rfl,rfl⟩
  ·rcases kK Z with ⟨j,u,rfl,rfl⟩ | ⟨y,u,rfl,rfl⟩
   ·rw[Sq] at h;exact wpAny_eqBool_int h
   ·rw[Ss] at h;exact SeqAt.EqAt.int_str i t y u _ _ _ _ h
  ·rcases kK Z with ⟨j,u,rfl,rfl⟩ | ⟨y,u,rfl,rfl⟩
   ·rw[Su] at h;exact SeqAt.EqAt.str_int x t j u _ _ _ _ h
   ·rw[Sr] at h;exact wpAny_eqBool_str h
 «strs»:=λk x t v h=>by
  rcases kK h with ⟨i,u,rfl,e⟩ | ⟨y,u,rfl,e⟩
  ·exact nomatch e
  ·injection e with e1 _
   subst e1
   cases v<;>rfl
set_option genInjectivity true in
inductive V where
 |ar|bl (b:Bool)|int (i:Int)|str (x:Str)|iI (b:Array UInt8)|rD (b:UInt64)|ref (a:Ø)|ty (n:String)
 deriving DecidableEq
def RelV:V->Å->Prop
 | .ar,u=>u=Value.none
 | .bl b,u=>u=Ő b
 | .int i,u=>∃t,u=abc i t
 | .str x,u=>∃t,u=Value.str x t
 | .iI b,u=>∃t,u=Value.bytes b t
 | .rD b,u=>∃t,u=Value.float b t
 | .ref a,u=>u=Ļ a
 | .ty n,u=>u=Ş n
abbrev Vals:List V->List Å->Prop:=Paired RelV
theorem Vals.length (r:Vals xs us):xs.length=us.length:=Paired.length r
theorem Vals.get:∀{xs:List V} {us:List Å} {i:Nat} {x:V},Vals xs us->xs[i]?=some x->∃u,us[i]?=some u/\RelV x u
 |_,_,_,_,.nil,e=>by simp at e
 |_,_,0,_,.cons r _,e=>by simp at e;subst e;exact⟨_,rfl,r⟩
 |_,_,i+1,x,.cons _ t,e=>by
  obtain⟨u,Z,Y⟩:=Vals.get (i:=i) (x:=x) t (by simpa using e);exact⟨u,by simpa using Z,Y⟩
theorem Vals.set (r:RelV x u):∀{xs:List V} {us:List Å} (i:Nat),Vals xs us->Vals (xs.set i x) (us.set i u)
 |_,_,_,.nil=>.nil
 |_,_,0,.cons _ t=>.cons r t
 |_,_,i+1,.cons q t=>.cons q (Vals.set r i t)
theorem Vals.append:∀{xs ys:List V} {us ws:List Å},Vals xs us->Vals ys ws->Vals (xs++ys) (us++ws)
 |_,_,_,_,.nil,s=>s
 |_,_,_,_,.cons r t,s=>.cons r (Vals.append t s)
theorem Vals.take:∀{xs:List V} {us:List Å} (n:Nat),Vals xs us->Vals (xs.take n) (us.take n)
 |_,_,0,_=>.nil
 |_,_,_ + 1,.nil=>.nil
 |_,_,n+1,.cons r t=>.cons r (Vals.take n t)
theorem Vals.drop:∀{xs:List V} {us:List Å} (n:Nat),Vals xs us->Vals (xs.drop n) (us.drop n)
 |_,_,0,r=>r
 |_,_,_ + 1,.nil=>.nil
 |_,_,n+1,.cons _ t=>Vals.drop n t
def k9:Option V->Option Å->Prop
 |some v,some u=>RelV v u
 |none,none=>True
 |_,_=>False
def KV {κ:Type}:List (κ×V)->List (κ×Å)->Prop:=Paired λ(p:κ×V) (q:κ×Å)=>p.1=q.1/\RelV p.2 q.2
def kV:Key->V
 | .inl i=>.int i
 | .inr x=>.str x
inductive HO where
 |lst (xs:List V)
 |tup (xs:List V)
 |dK (aF:List (Key×V))|dT (aF:List (List Key×V))
 |set (S:Int->Bool) (n:Nat)
 |ins (C dx:Ø) (fs:List (Str×V))
 |own (x:Ø)
 |xd (fs:List (Str×V))
 |met (f x:Ø)
 |dw (lo hi:Int)
 |aX (o:Obj) (u:HO)
 |dD (ps:Array Å)
 |ext (φ:ĥ->Prop)
noncomputable abbrev Hp:=Ø->Option HO
def upd (H:Hp) (a:Ø) (o:HO):Hp:=λb=>if b=a then some o else H b
def cx:upd H a o a=some o:=by unfold upd;rw[ß rfl]
def aW (h:b≠a):upd H a o b=H b:=by unfold upd;rw[è h]
def cY {H:Hp} {a b:Ø} {o:HO} (h:H a=some o) (h':H b=none):a≠b:=by
 intro e;subst e;rw[h] at h';cases h'
section
variable (P:ã) (w:Ă)
def dB (H:Hp) (h:ĥ) (a:Ø):HO->Prop
 | .lst Z=>Z.length<=Ú/\∃(its:List Å) (n:Nat),Vals Z its/\h.get? a=some { cls:=.type "list",data:=.seq its.toArray n }
 | .tup Z=>Z.length<=Ú/\∃its:List Å,Vals Z its/\IsTup h a its.toArray
 | .dK X=>X.length<=Ú/\(a==aba)=false/\∃T,KV X T/\h.DictOf (v9 P w) a T
 | .dT X=>X.length<=Ú/\(a==aba)=false/\∃Z:List (List Key×Ø×Å),
   Paired (λ(p:List Key×V) (q:List Key×Ø×Å)=>p.1=q.1/\H q.2.1=some (.tup (p.1.map kV))/\RelV p.2 q.2.2) X Z /\
   ∃o R N,h.get? a=some o/\o.ExactDict/\o.data=.dict R N/\R.toList=Z.map (entryOfKey (tupleKind (v9 P w)))/\(Z.map (·.1)).Nodup
 | .set S n=>h.SetOf (ś P w) a S n
 | .ins C W fs=>H W=some (.own a)/\fs.length<=1000/\W≠a/\h.get? a=some (Ŕ C W) /\
   ∃Y,h.Ns1 W Y/\(∀f,k9 (fs.lookup f) (Y f))/\PySem.Within Y (fs.map (·.1))
 | .own _=>∃o,h.get? a=some o
 | .xd fs=>∃Y,h.Ns1 a Y/\∀f,k9 (fs.lookup f) (Y f)
 | .dw lo hi=>∃t u v,h.get? a=some { cls:=.type "range",data:=.fields #[.int lo t,.int hi u,.int 1 v] }
 | .aX o u=>h.get? a=some o/\dB H h a u
 | .dD M=>h.get? a=some { cls:=.none,data:=.fields M }
 | .met f x=>h.get? a=some (abt (.ref f) (.ref x))
 | .ext U=>U h/\(∃o,h.get? a=some o)/\∀Q O:ĥ,U Q->(∀o,Q.get? a=some o->O.get? a=some o)->U O
def cm (H:Hp) (h:ĥ):Prop:=∀a o,H a=some o->dB P w H h a o
end
section
variable {P:ã} {w:Ă} {H H':Hp} {h h':ĥ} {a:Ø} {o:HO}
theorem dB.lt (x:dB P w H h a o):a<h.objs.size:=by
 cases o with
 |lst Z=>obtain⟨_,_,_,_,e⟩:=x;exact Ë e
 |tup Z=>obtain⟨_,_,_,p⟩:=x;exact p.lt
 |dK Y=>obtain⟨_,_,_,_,o,_,_,e,_⟩:=x;exact Ë e
 |dT Y=>obtain⟨_,_,_,_,o,_,_,e,_⟩:=x;exact Ë e
 |set S n=>obtain⟨o,_,_,_,e,_⟩:=x;exact Ë e
 |ins C X fs=>obtain⟨_,_,_,e,_⟩:=x;exact Ë e
 |own y=>obtain⟨_,e⟩:=x;exact Ë e
 |xd fs=>obtain⟨_,⟨_,_,_,e,_⟩,_⟩:=x;exact Ë e
 |dw lo hi=>obtain⟨_,_,_,e⟩:=x;exact Ë e
 |aX W u=>obtain⟨e,_⟩:=x;exact Ë e
 |dD V=>exact Ë (show h.get? a=some _ from x)
 |met f y=>exact Ë (show h.get? a=some _ from x)
 |ext U=>obtain⟨_,⟨_,e⟩,_⟩:=x;exact Ë e
theorem Paired.JW {α β:Type} {F G:α->β->Prop}:∀{JX:List α} {l₂:List β},Paired F JX l₂->(∀a b,F a b->G a b)->Paired G JX l₂
 |_,_,.nil,_=>.nil
 |_,_,.cons r t,f=>.cons (f _ _ r) (Paired.JW t f)
def dB.dW (x:dB P w H h a o) (k:∀b u,(b=a\/H b=some (.own a))->h.get? b=some u->h'.get? b=some u)
  (ho:∀b,H b=some (.own a)->H' b=some (.own a)) (ht:∀b xs,H b=some (.tup xs)->H' b=some (.tup xs)):dB P w H' h' a o:=by
 induction o with
 |lst xs=>obtain⟨z,its,n,r,e⟩:=x;exact⟨z,its,n,r,k _ _ (.inl rfl) e⟩
 |tup xs=>obtain⟨z,its,r,Z,e,c⟩:=x;exact⟨z,its,r,Z,k _ _ (.inl rfl) e,c⟩
 |dK R=>obtain⟨z,y,Q,r,Z,Y,X,e,c⟩:=x;exact⟨z,y,Q,r,Z,Y,X,k _ _ (.inl rfl) e,c⟩
 |dT R =>
  obtain⟨z,y,xs,r,Z,Y,X,e,c⟩:=x;exact⟨z,y,xs,Paired.JW r λp q z=>⟨z.1,ht _ _ z.2.1,z.2.2⟩,Z,Y,X,k _ _ (.inl rfl) e,c⟩
 |set S n=>obtain⟨Z,Y,X,t,e,c⟩:=x;exact⟨Z,Y,X,t,k _ _ (.inl rfl) e,c⟩
 |ins C O fs =>
  obtain⟨d,z,ne,e,W,⟨V,Y,X,e2,c⟩,r⟩:=x;exact⟨ho _ d,z,ne,k _ _ (.inl rfl) e,W,⟨V,Y,X,k _ _ (.inr d) e2,c⟩,r⟩
 |own y=>obtain⟨Z,e⟩:=x;exact⟨Z,k _ _ (.inl rfl) e⟩
 |xd fs=>obtain⟨W,⟨V,Y,X,e,c⟩,r⟩:=x;exact⟨W,⟨V,Y,X,k _ _ (.inl rfl) e,c⟩,r⟩
 |dw lo hi=>obtain⟨t,u,v,e⟩:=x;exact⟨t,u,v,k _ _ (.inl rfl) e⟩
 |aX Z u ih=>obtain⟨e,q⟩:=x;exact⟨k _ _ (.inl rfl) e,ih q⟩
 |dD U =>
  have e:h.get? a=some { cls:=.none,data:=.fields U }:=x;show h'.get? a=some { cls:=.none,data:=.fields U };exact k a _ (.inl rfl) e
 |met f y =>
  have e:h.get? a=some (abt (.ref f) (.ref y)):=x;show h'.get? a=some (abt (.ref f) (.ref y));exact k a _ (.inl rfl) e
 |ext N=>obtain⟨p,⟨o,e⟩,T⟩:=x;exact⟨T _ _ p λo q=>k _ _ (.inl rfl) q,⟨o,k _ _ (.inl rfl) e⟩,T⟩
theorem cm.lt (x:cm P w H h) (e:H a=some o):a<h.objs.size:=(x a o e).lt
def cm.fresh (x:cm P w H h) (e:h.objs.size<=a):H a=none:=by
 cases q:H a with
 |none=>rfl
 |some u=>exact absurd (È (x.lt q) e) (ï _)
def cm.kept (x:cm P w H h) (k:∀b u,h.get? b=some u->h'.get? b=some u):cm P w H h':=λa o e =>
 (x a o e).dW (λb u _ q=>k b u q) (λ_ q=>q) λ_ _ q=>q
def cm.laid (x:cm P w H h) (k:∀b u,h.get? b=some u->h'.get? b=some u) (hp:h.objs.size<=a) (new:dB P w (upd H a o) h' a o):cm P w (upd H a o) h':=λb u e=>by
 have Z:=x.fresh hp;by_cases Y:b=a
 ·subst Y;rw[cx] at e;cases e;exact new
 ·rw[aW Y] at e
  exact(x b u e).dW (λc v _ q=>k c v q) (λc q=>by rw[aW (cY q Z)];exact q) λc X q=>by rw[aW (cY q Z)];exact q
end
def Rd (H:Hp) (a:Ø) (u:HO):Prop:=H a=some u\/∃o,H a=some (.aX o u)
def Rd.ok (r:Rd H a u) (x:cm P w H h):dB P w H h a u:=by
 rcases r with r | ⟨o,r⟩
 ·exact x a u r
 ·obtain⟨_,q⟩:=x a _ r
  exact q
def yf:Option HO->Prop
 |some (.lst _)=>True
 |some (.dK _)=>True
 |some (.dT _)=>True
 |some (.set _ _)=>True
 |some (.ins _ _ _)=>True
 |some (.ext _)=>True
 |_=>False
section
variable {P:ã} {w:Ă} {H:Hp} {h h':ĥ} {x e:Ø} {o':HO}
def cm.write (ok:cm P w H h) (mu:yf (H x)) (he:e=x\/H e=some (.own x)) (k:∀b u,b≠e->h.get? b=some u->h'.get? b=some u) (rE:∃u,h'.get? e=some u)
  (new:dB P w (upd H x o') h' x o'):cm P w (upd H x o') h':=λb u q=>by
 have W:∀c y,H c=some (.own y)->c≠x:=λc y r z=>by subst z;rw[r] at mu;exact mu
 have U:∀c Z,H c=some (.tup Z)->c≠x:=λc Z r z=>by subst z;rw[r] at mu;exact mu
 by_cases Y:b=x
 ·subst Y;rw[cx] at q;cases q;exact new
 ·rw[aW Y] at q
  by_cases X:b=e
  ·have V:H b=some (.own x):=by
    rcases he with z|z
    ·exact absurd (X.trans z) Y
    ·rw[X];exact z
   rw[q] at V;cases V;obtain⟨v,T⟩:=rE;exact⟨v,by rw[X];exact T⟩
  ·refine(ok b u q).dW (λc v hc r=>k c v ?_ r) (λc r=>by rw[aW (W c b r)];exact r) λc Z r=>by rw[aW (U c Z r)];exact r
   rcases hc with rfl|hc
   ·exact X
   ·rintro rfl
    rcases he with z|z
    ·exact W c b hc z
    ·rw[hc] at z;cases z;exact Y rfl
end
structure Un (fs ex:List Ø) (H H':Hp) (h h':ĥ):Prop where
 keep:∀b o,h.get? b=some o->H b=none->b∉fs->b∉ex->h'.get? b=some o
 slot:∀b o,h.get? b=some o->H b=none->b∈fs->b∉ex->∃sl,h'.get? b=some { o with slots:=sl }
 free:∀b o,h.get? b=some o->H b=none->b∉ex->H' b=none
 there:∀b o,h.get? b=some o->b∉ex->∃o',h'.get? b=some o'
 fx:∀b xs,H b=some (.tup xs)->H' b=some (.tup xs)
 ei:∀b o u,H b=some (.aX o u)->H' b=some (.aX o u)
 fy:∀b ps,H b=some (.dD ps)->∃more,H' b=some (.dD (ps++more))
section
variable {fs Xj ex Zx:List Ø} {H H1 H2:Hp} {h h1 h2 h':ĥ} {a x e:Ø} {o:HO}
def Un.any (u:Un fs ex H H1 h h1) (q:h.get? b=some ob) (n:H b=none) (hx:b∉ex):∃sl,h1.get? b=some { ob with slots:=sl }:=by
 by_cases Z:b∈fs
 ·exact u.slot b ob q n Z hx
 ·exact⟨ob.slots,u.keep b ob q n Z hx⟩
def Un.kept (k:∀b u,h.get? b=some u->h'.get? b=some u):Un fs ex H H h h' :=
 ⟨λb Z q _ _ _=>k b Z q,λb Z q _ _ _=>⟨Z.slots,k b Z q⟩,λ_ _ _ n _=>n,λb Z q _=>⟨Z,k b Z q⟩,λ_ _ q=>q,λ_ _ _ q=>q,λ_ Y q=>⟨#[],by rw[q];simp⟩⟩
def Un.refl:Un fs ex H H h h:=Un.kept λ_ _ q=>q
def Un.laid (k:∀b u,h.get? b=some u->h'.get? b=some u) (hp:h.objs.size<=a) (hn:H a=none):Un fs ex H (upd H a o) h h' where
 keep:=λb u q _ _ _=>k b u q
 slot:=λb u q _ _ _=>⟨u.slots,k b u q⟩
 free:=λb u q n _=>by rw[aW (â (È (Ë q) hp))];exact n
 there:=λb u q _=>⟨u,k b u q⟩
 fx:=λb Z q=>by rw[aW (cY q hn)];exact q
 ei:=λb u Z q=>by rw[aW (cY q hn)];exact q
 fy:=λb Y q=>⟨#[],by rw[aW (cY q hn),q];simp⟩
def Un.write (mu:yf (H x)) (he:e=x\/H e=some (.own x)) (k:∀b u,b≠e->h.get? b=some u->h'.get? b=some u) (rE:∃u,h'.get? e=some u):Un fs ex H (upd H x o) h h':=by
 have Y:∀b,H b=none->b≠x:=λb n z=>by subst z;rw[n] at mu;exact mu
 have X:∀b,H b=none->b≠e:=λb n z=>by
  subst z
  rcases he with r|r
  ·exact Y b n r
  ·rw[n] at r;cases r
 have Z:∀b u,H b=some u->¬ yf (some u)->b≠x:=λb u q nm z=>by subst z;rw[q] at mu;exact nm mu
 refine⟨λb u q n _ _=>k b u (X b n) q,λb u q n _ _=>⟨u.slots,k b u (X b n) q⟩,λb u q n _=>by rw[aW (Y b n)];exact n,λb u q _=>?_,
  λb V q=>by rw[aW (Z b _ q λz=>z)];exact q,λb u V q=>by rw[aW (Z b _ q λz=>z)];exact q,λb U q=>⟨#[],by rw[aW (Z b _ q λz=>z),q];simp⟩⟩
 by_cases W:b=e
 ·subst W;exact rE
 ·exact⟨u,k b u W q⟩
end
def rF (h:ĥ) (H:Hp):List Ø:=(č h.objs.size).filter λa=>(H a).isSome
def mw (h:ĥ) (H:Hp):ĥ:=PySem.W.hideAll h (rF h H)
def N4 (h:ĥ) (H:Hp):(mw h H).objs.size=h.objs.size:=PySem.W.hideAll_size _ _
def zr (e:h.get? b=some o) (n:H b=none):(mw h H).get? b=some o :=
 aac _ e λZ=>by
  have q:(H b).isSome=true:=(Ĩ.mp Z).2;rw[n] at q;simp at q
def QR (e:(mw h H).get? b=some o):h.get? b=some o/\H b=none:=by
 have Z:h.get? b=some o:=PySem.W.of_hideAll (rF h H) e;refine⟨Z,?_⟩
 cases q:H b with
 |none=>rfl
 |some x =>
  have Y:b∈rF h H:=Ĩ.mpr ⟨ö.mpr (Ë Z),by simp[q]⟩;have z:(mw h H).get? b=none:=PySem.W.hideAll_none (rF h H) Y;rw[z] at e;cases e
noncomputable def QS (g h:ĥ) (L:Ø):List (Ø×Obj):=(č h.objs.size).filterMap λa=>if a=L\/(g.get? a).isSome=true then none else (h.get? a).map λo=>(a,o)
def rest (g h:ĥ) (L d:Ø):List (Ø×Obj):=(QS g h L).filter λp=>decide (p.1≠d)
structure Mod (K:Ď) (mg:Str->Option Å) (base:ĥ):Prop where
 jz:K.In base
 glob:base.Ns Ò mg
 blt:∃mb,base.Ns builtinsNs mb/\∀x:Str,x≠"__name__"->mb x=ú x
 nolimit:base.NoLimit
structure Cx where
 prog:ã
 w:Ă
 K:Ď
 mg:Str->Option Å
 base:ĥ
 A:ê
 N:List Str
 cL:Ä
 lg:Hp
 env:Env
 outer:List Env
 stack:List Env
 ex:List Ø
 fn:Str->Bool
 calm:Bool
 pn:List (Ø×Obj)
 xe:Å->Ä->Prop
noncomputable def ck (l:List Env):List Ø:=l.filterMap (·.frame)
abbrev Cx.fs (X:Cx):List Ø:=ck X.outer
def pH (sc:ι) (x:Str):Prop:=sc.names.lookup x=some .local\/sc.names.lookup x=some .cell\/sc.names.lookup x=some .free
def Loc (sc:ι) (x:Str):Prop:=sc.names.lookup x=some .local\/sc.names.lookup x=some .cell
def Look (env:Env) (h:ĥ) (m:Str->Option Å) (x:Str) (u:Å):Prop :=
 (env.kindOf x=some .local/\m x=some u)\/((env.kindOf x=some .cell\/env.kindOf x=some .free)/\∃c,env.cells.lookup x=some c/\h.IsCell c (some u))
structure Cx.Ok (X:Cx):Prop where
 mod:Mod X.K X.mg X.base
 kind:X.env.scope.kind=.function
 glob:X.env.globals=Ò
 blt:X.env.builtins=builtinsNs
 above:X.cL.heap.objs.size<=X.env.locals
 inj:∀x y c,X.env.cells.lookup x=some c->X.env.cells.lookup y=some c->x=y
 has:∀x,(X.env.kindOf x=some .cell\/X.env.kindOf x=some .free)->∃c,X.env.cells.lookup x=some c
 rG:∀x c,X.fn x=true->X.env.cells.lookup x=some c->X.cL.heap.objs.size<=c
 hd:X.calm=true->X.A.handled=none
 frames:X.A.frames=some X.stack
 lA:X.stack=X.outer\/(X.stack=X.env::X.outer/\X.env.frame=some X.env.locals)
 KP:∀b∈X.ex,b≠X.env.locals/\∀x c,X.env.cells.lookup x=some c->c≠b
 bs:∀b o,X.base.get? b=some o->X.cL.heap.get? b=some o/\X.lg b=none
 il:X.base.objs.size<=X.cL.heap.objs.size
 nC:∀b o,X.base.get? b=some o->b∉X.ex
 xH:∀b∈X.ex,b∉X.fs
 ig:X.cL.heap.FunFrames X.base X.outer
 km:∀b∈X.fs,X.lg b=none
structure Inv (X:Cx) (π:List (Ø×Obj)) (σ:List (Option V)) (H:Hp) (s:Ä):Prop where
 ok:X.Ok
 os:s.os=X.cL.os
 bare:aby s.gens
 base:Un X.fs X.ex X.lg H X.cL.heap s.heap
 loc:∃m,s.heap.Ns X.env.locals m/\∀(i:Nat) (x:Str) (v:V),X.N[i]?=some x->σ[i]?=some (some v)->pH X.env.scope x->∃u,RelV v u/\Look X.env s.heap m x u
 cell:∀x c,X.env.cells.lookup x=some c->∃v,s.heap.IsCell c v
 free:H X.env.locals=none
 iF:∀x c,X.env.cells.lookup x=some c->H c=none
 pin:∀p∈X.pn++π,s.heap.get? p.1=some p.2/\H p.1=none/\p.1≠X.env.locals/\p.1∉X.fs/\∀v,p.2.data≠.cell v
 aB:cm X.prog X.w H s.heap
 len:σ.length=X.N.length
section
variable {X:Cx} {π:List (Ø×Obj)} {σ:List (Option V)} {H H':Hp} {s:Ä} {h':ĥ}
def Cx.Ok.Wb (ok:X.Ok) (e:X.base.get? b=some o):b∉X.fs:=λZ=>by
 have:=(ok.ig.mem Z).1;rw[e] at this;cases this
theorem Inv.bs (I:Inv X π σ H s):∀b o,X.base.get? b=some o->s.heap.get? b=some o/\H b=none:=λb o e =>
 ⟨I.base.keep b o (I.ok.bs b o e).1 (I.ok.bs b o e).2 (I.ok.Wb e) (I.ok.nC b o e),I.base.free b o (I.ok.bs b o e).1 (I.ok.bs b o e).2 (I.ok.nC b o e)⟩
def Inv.bk (I:Inv X π σ H s):∀b o,X.base.get? b=some o->s.heap.get? b=some o:=λb o e=>(I.bs b o e).1
theorem Inv.mod (I:Inv X π σ H s):Mod X.K X.mg X.base:=I.ok.mod
def Inv.eO (I:Inv X π σ H s):X.K.In s.heap:=I.ok.mod.jz.keeps I.bk
theorem Inv.lt (I:Inv X π σ H s):X.env.locals<s.heap.objs.size:=let ⟨_,Z,_⟩:=I.loc;Z.lt
def Inv.sz (I:Inv X π σ H s):X.cL.heap.objs.size<=s.heap.objs.size:=à I.ok.above (Nat.le_of_lt I.lt)
def Inv.tY (I:Inv X π σ H s) {a:Ø} (h:s.heap.objs.size<=a):a∉X.fs:=λZ=>by
 obtain⟨_,o,Y,_⟩:=I.ok.ig.mem Z;exact absurd (È (Ë Y) (à I.sz h)) (ï _)
def Inv.jA (I:Inv X π σ H s):∀x c,X.env.cells.lookup x=some c->c≠X.env.locals:=λx c e z=>by
 obtain⟨v,o,Z,Y⟩:=I.cell x c e;obtain⟨m,⟨U,T,S,W,V,_⟩,_⟩:=I.loc;rw[z,W] at Z;cases Z;rw[V] at Y;cases Y
theorem Inv.ig (I:Inv X π σ H s):s.heap.FunFrames X.base X.outer:=by
 have all:∀(l:List Env),(∀b∈ck l,b∈X.fs)->X.cL.heap.FunFrames X.base l->s.heap.FunFrames X.base l:=by
  intro l
  induction l with
  |nil=>intro _ _;trivial
  |cons env r ih =>
   intro hs V;obtain⟨U,⟨L,o,Z,T,S,R⟩,Q⟩:=V;have Y:L∈X.fs:=hs L (by unfold ck;rw[aad,Z];exact Ô);obtain⟨P,e⟩:=I.base.slot L o S (I.ok.km L Y) Y λz=>I.ok.xH L z Y;exact⟨U,⟨L,_,Z,T,e,R⟩,ih (λb W=>hs b (by unfold ck;rw[aad,Z];exact Ó _ W)) Q⟩
 exact all X.outer (λ_ W=>W) I.ok.ig
theorem Inv.stack (I:Inv X π σ H s):s.heap.FunFrames X.base X.stack:=by
 rcases I.ok.lA with e | ⟨e,Z⟩
 ·rw[e];exact I.ig
 ·rw[e]
  obtain⟨m,Y,_⟩:=I.loc;refine .cons (by rw[I.ok.kind];decide) Z Y ?_ I.ig;exact Heap.get?_none_of_le (à I.ok.il I.ok.above)
def Inv.jO (I:Inv X π σ H s):∀b∈ck X.stack,b∈X.env.locals::X.fs:=λb Z=>by
 rcases I.ok.lA with e | ⟨e,Y⟩
 ·rw[e] at Z;exact Ó _ Z
 ·rw[e] at Z
  unfold ck at Z;rw[aad,Y] at Z;exact Z
def Inv.sF (I:Inv X π σ H s):∀b∈ck X.stack,H b=none:=λb hb=>by
 rcases Õ.mp (I.jO b hb) with e|hb
 ·rw[e];exact I.free
 ·obtain⟨_,o,Z,_⟩:=I.ok.ig.mem hb
  exact I.base.free b o Z (I.ok.km b hb) λz=>I.ok.xH b z hb
def Inv.step {g':Array GenState} {t':Nat} {d':Drawn} {ch:List Ø} (I:Inv X π σ H s)
  (lB:∀b∈ch,(b∈X.ex\/X.cL.heap.objs.size<=b)/\b≠X.env.locals/\(∀x c,X.env.cells.lookup x=some c->c≠b)/\∀p∈X.pn++π,p.1≠b)
  (keep:∀b o,b≠X.env.locals->b∉X.fs->b∉ch->s.heap.get? b=some o->H b=none->h'.get? b=some o)
  (slot:∀b o,b≠X.env.locals->b∈X.fs->b∉ch->s.heap.get? b=some o->H b=none->∃sl,h'.get? b=some { o with slots:=sl }) (free:∀b o,b∉ch->s.heap.get? b=some o->H b=none->H' b=none)
  (there:∀b o,b∉ch->s.heap.get? b=some o->∃o',h'.get? b=some o')
  (fx:∀b xs,H b=some (.tup xs)->H' b=some (.tup xs)) (ei:∀b o u,H b=some (.aX o u)->H' b=some (.aX o u)) (fy:∀b ps,H b=some (.dD ps)->∃more,H' b=some (.dD (ps++more)))
  (ns:∀m,s.heap.Ns X.env.locals m->h'.Ns X.env.locals m) (aB:cm X.prog X.w H' h') (hg:aby g') :
  Inv X π σ H' { s with heap:=h',gens:=g',drawn:=d',toks:=t' }:=by
 have S:∀b o,X.cL.heap.get? b=some o->b≠X.env.locals:=λb o e=>â (È (Ë e) I.ok.above);have U:∀b o,X.cL.heap.get? b=some o->b∉X.ex->b∉ch:=λb o e Z Y=>by
  rcases(lB b Y).1 with z|z
  ·exact Z z
  ·exact absurd (È (Ë e) z) (ï _)
 have cellK:∀x c,X.env.cells.lookup x=some c->∀v,s.heap.IsCell c v->h'.IsCell c v:=λx c e v ⟨o,W,T⟩=>by
  have V:c∉ch:=λz=>(lB c z).2.2.1 x c e rfl;by_cases R:c∈X.fs
  ·obtain⟨sl,q⟩:=slot c o (I.jA x c e) R V W (I.iF x c e)
   exact⟨_,q,T⟩
  ·exact⟨o,keep c o (I.jA x c e) R V W (I.iF x c e),T⟩
 refine⟨I.ok,I.os,hg,⟨λb o e n Y Z=>?_,λb o e n Y Z=>?_,λb o e n Z=>?_,λb o e Z=>?_,λb xs e=>fx b xs (I.base.fx b xs e),λb o xs e=>ei b o xs (I.base.ei b o xs e),λb ps e=>?_⟩,?_,λx c e=>?_,?_,λx c e=>?_,λp Q=>?_,aB,I.len⟩
 ·exact keep b o (S b o e) Y (U b o e Z) (I.base.keep b o e n Y Z) (I.base.free b o e n Z)
 ·obtain⟨sl,e1⟩:=I.base.slot b o e n Y Z
  obtain⟨O,e2⟩:=slot b _ (S b o e) Y (U b o e Z) e1 (I.base.free b o e n Z);exact⟨O,e2⟩
 ·obtain⟨o',e1⟩:=I.base.there b o e Z
  exact free b o' (U b o e Z) e1 (I.base.free b o e n Z)
 ·obtain⟨o',e1⟩:=I.base.there b o e Z
  exact there b o' (U b o e Z) e1
 ·obtain⟨N,e1⟩:=I.base.fy b ps e
  obtain⟨M,e2⟩:=fy b _ e1;exact⟨N++M,by rw[e2,Array.append_assoc]⟩
 ·obtain⟨m,L,K⟩:=I.loc
  refine⟨m,ns m L,λi x v e1 e2 J=>?_⟩;obtain⟨u,r,l⟩:=K i x v e1 e2 J;refine⟨u,r,?_⟩
  rcases l with l | ⟨k,c,e,z⟩
  ·exact .inl l
  ·exact .inr ⟨k,c,e,cellK x c e _ z⟩
 ·obtain⟨v,z⟩:=I.cell x c e
  exact⟨v,cellK x c e v z⟩
 ·obtain⟨m,⟨o,_,_,W,_⟩,_⟩:=I.loc
  exact free _ o (λz=>(lB _ z).2.1 rfl) W I.free
 ·obtain⟨v,o,W,T⟩:=I.cell x c e
  exact free c o (λz=>(lB c z).2.2.1 x c e rfl) W (I.iF x c e)
 ·obtain⟨e,n,ne,P,d⟩:=I.pin p Q
  have V:p.1∉ch:=λz=>(lB p.1 z).2.2.2 p Q rfl;exact⟨keep p.1 p.2 ne P V e n,free p.1 p.2 V e n,ne,P,d⟩
def Inv.un {t':Nat} (I:Inv X π σ H s) (u:Un X.fs [] H H' s.heap h') (aB:cm X.prog X.w H' h'):Inv X π σ H' { s with heap:=h',toks:=t' }:=by
 obtain⟨m,⟨o,Q,P,Y,r⟩,_⟩:=id I.loc;obtain⟨O,V⟩:=u.any Y I.free (by simp)
 exact I.step (g':=s.gens) (d':=s.drawn) (ch:=[]) (λ_ z=>nomatch z) (λb o _ Z _ e n=>u.keep b o e n Z (by simp)) (λb o _ Z _ e n=>u.slot b o e n Z (by simp)) (λb o _ e n=>u.free b o e n (by simp)) (λb o _ e=>u.there b o e (by simp)) u.fx u.ei u.fy (λN U=>by
  obtain⟨M,T,S,W,R⟩:=U;rw[Y] at W;cases W;exact⟨_,T,S,V,R⟩) aB I.bare
def Inv.call {g':Array GenState} {t':Nat} {d':Drawn} {ch:List Ø} (I:Inv X π σ H s) (u:Un (ck X.stack) ch H H' s.heap h') (aB:cm X.prog X.w H' h') (hg:aby g')
  (lB:∀b∈ch,(b∈X.ex\/X.cL.heap.objs.size<=b)/\b≠X.env.locals/\(∀x c,X.env.cells.lookup x=some c->c≠b)/\∀p∈X.pn++π,p.1≠b) :
  Inv X π σ H' { s with heap:=h',gens:=g',drawn:=d',toks:=t' }:=by
 obtain⟨m,⟨o,P,O,W,r⟩,_⟩:=id I.loc;obtain⟨N,Y⟩:=u.any W I.free λz=>(lB _ z).2.1 rfl;exact I.step (ch:=ch) lB (λb o Y U Z e n=>u.keep b o e n (λz=>(Õ.mp (I.jO b z)).elim Y U) Z) (λb o _ _ Z e n=>u.any e n Z) (λb o Z e n=>u.free b o e n Z) (λb o Z e=>u.there b o e Z) u.fx u.ei u.fy (λM T=>by
  obtain⟨L,S,R,V,Q⟩:=T;rw[W] at V;cases V;exact⟨_,S,R,Y,Q⟩) aB hg
def Inv.turned {t':Nat} {it:Ø} (I:Inv X π σ H s) (k:∀b o,b≠it->s.heap.get? b=some o->h'.get? b=some o) (hn:H it=none) (hL:it≠X.env.locals)
  (h1:it∈X.ex\/X.cL.heap.objs.size<=it) (h2:∀x c,X.env.cells.lookup x=some c->c≠it) (h3:∀p∈X.pn++π,p.1≠it):Inv X π σ H { s with heap:=h',toks:=t' }:=by
 have Y:∀b u,H b=some u->b≠it:=λb u e z=>by rw[z,hn] at e;cases e
 refine I.step (g':=s.gens) (d':=s.drawn) (ch:=[it]) (λb W=>?_) (λb o _ _ Z e _=>k b o (λz=>Z (by simp[z])) e) (λb o _ _ Z e _=>⟨o.slots,k b o (λz=>Z (by simp[z])) e⟩) (λ_ _ _ _ n=>n)
  (λb o Z e=>⟨o,k b o (λz=>Z (by simp[z])) e⟩) (λ_ _ e=>e) (λ_ _ _ e=>e) (λb R e=>⟨#[],by rw[e];simp⟩) (λm V=>?_) (λb u e=>?_) I.bare
 ·have e:b=it:=by simpa using W
  subst e;exact⟨h1,hL,h2,h3⟩
 ·obtain⟨o,U,T,S,r⟩:=V
  exact⟨o,U,T,k _ o (Ŭ hL) S,r⟩
 ·refine(I.aB b u e).dW (λc v Z q=>k c v ?_ q) (λ_ q=>q) λ_ _ q=>q
  rcases Z with z|z
  ·rw[z];exact Y b u e
  ·exact Y c _ z
def Inv.tok (I:Inv X π σ H s) (t:Nat):Inv X π σ H { s with toks:=t }:=I.un (h':=s.heap) (t':=t) Un.refl I.aB
theorem Inv.kept (I:Inv X π σ H s) (k:∀b u,s.heap.get? b=some u->h'.get? b=some u):Inv X π σ H { s with heap:=h',toks:=t' }:=I.un (Un.kept k) (I.aB.kept k)
theorem Inv.laid {a:Ø} {o:HO} {t':Nat} (I:Inv X π σ H s) (k:∀b u,s.heap.get? b=some u->h'.get? b=some u) (hp:s.heap.objs.size<=a) (new:dB X.prog X.w (upd H a o) h' a o) :
  Inv X π σ (upd H a o) { s with heap:=h',toks:=t' }:=I.un (Un.laid k hp (I.aB.fresh hp)) (I.aB.laid k hp new)
theorem Inv.write (I:Inv X π σ H s) (mu:yf (H x)) (he:e=x\/H e=some (.own x)) (k:∀b u,b≠e->s.heap.get? b=some u->h'.get? b=some u) (rE:∃u,h'.get? e=some u)
 (new:dB X.prog X.w (upd H x o) h' x o):Inv X π σ (upd H x o) { s with heap:=h',toks:=t' }:=I.un (Un.write mu he k rE) (I.aB.write mu he k rE new)
def Inv.lX (I:Inv X π σ H s) (h:∀p∈UI,s.heap.get? p.1=some p.2/\H p.1=none/\p.1≠X.env.locals/\p.1∉X.fs/\∀v,p.2.data≠.cell v):Inv X UI σ H s :=
 ⟨I.ok,I.os,I.bare,I.base,I.loc,I.cell,I.free,I.iF,λp Z=>(Ą.mp Z).elim (λz=>I.pin p (ý _ z)) (h p),I.aB,I.len⟩
def zt {N:List Str} (hN:N.Nodup) {i j:Nat} {x:Str} (a:N[i]?=some x) (b:N[j]?=some x):i=j:=by
 obtain⟨Z,e1⟩:=Ç.mp a;obtain⟨Y,e2⟩:=Ç.mp b;exact(List.getElem_inj hN).mp (e1.trans e2.symm)
def N5 {M:Model} {A:ê} {E:Å->Ä->Prop} {i:Nat} {x:Str} {v:V} {u:Å} {Q:Unit->Ä->Prop} (I:Inv X π σ H s) (hN:X.N.Nodup) (hi:X.N[i]?=some x) (hx:Loc X.env.scope x) (r:RelV v u)
  (h:∀s',Inv X π (σ.set i (some v)) H s'->(∃a,İ a s.heap s'.heap/\(a=X.env.locals\/X.env.cells.lookup x=some a))->Q () s') (hf:X.fn x=true\/X.env.scope.names.lookup x=some .local:=by first|exact .inl rfl|exact .inr rfl|assumption):Û M A (storeName X.env x u) Q E s:=by
 obtain⟨m,T,D⟩:=id I.loc;have tZ:(X.env.scope.kind==.class||(X.env.scope.kind==.module&&X.env.locals != X.env.globals))=false:=by rw[I.ok.kind];rfl
 have C:i < σ.length:=by rw[I.len];exact(Ç.mp hi).1
 have jA:=I.jA;have tracked:∀{a:Ø} {h':ĥ},(∃o,s.heap.get? a=some o/\H a=none)->İ a s.heap h'->cm X.prog X.w H h':=λ{a h'} ha hs b ob e=>by
  obtain⟨_,_,B⟩:=ha;refine(I.aB b ob e).dW (λc W hc q=>(hs.2 c ?_).trans q) (λ_ q=>q) λ_ _ q=>q;rintro rfl
  rcases hc with rfl|hc
  ·rw[B] at e;cases e
  ·rw[B] at hc;cases hc
 rcases hx with hk|hk
 ·refine wpAny_storeName_local hk T (λh' lC hs=>?_) tZ
  obtain⟨oL,_,_,rH,_⟩:=id T;refine h _ ⟨I.ok,I.os,I.bare,⟨λb o e n Z hx=>?_,λb o e n Z hx=>?_,I.base.free,λb o e hx=>?_,I.base.fx,I.base.ei,I.base.fy⟩,⟨_,lC,λj y S e1 e2 R=>?_⟩,λy c e=>?_,I.free,I.iF,λp P=>?_,tracked ⟨oL,rH,I.free⟩ hs,by simpa using I.len⟩ ⟨_,hs,.inl rfl⟩
  ·exact(hs.2 b (â (È (Ë e) I.ok.above))).trans (I.base.keep b o e n Z hx)
  ·obtain⟨O,e1⟩:=I.base.slot b o e n Z hx
   exact⟨O,(hs.2 b (â (È (Ë e) I.ok.above))).trans e1⟩
  ·obtain⟨L,e1⟩:=I.base.there b o e hx
   exact⟨L,(hs.2 b (â (È (Ë e) I.ok.above))).trans e1⟩
  ·by_cases Y:j=i
   ·subst Y
    rw[hi] at e1;cases e1;rw[å C] at e2;cases e2;exact⟨u,r,.inl ⟨hk,by simp⟩⟩
   ·rw[Ö (Ŭ Y)] at e2
    obtain⟨K,J,q⟩:=D j y S e1 e2 R;refine⟨K,J,?_⟩
    rcases q with ⟨k,e⟩ | ⟨k,c,e,z⟩
    ·refine .inl ⟨k,?_⟩
     have:y≠x:=λe=>Y (zt hN e1 (e ▸ hi));simp[this,e]
    ·exact .inr ⟨k,c,e,z.sameBut hs (jA y c e)⟩
  ·obtain⟨W,z⟩:=I.cell y c e
   exact⟨W,z.sameBut hs (jA y c e)⟩
  ·obtain⟨e,n,ne,G,d⟩:=I.pin p P
   exact⟨(hs.2 p.1 ne).trans e,n,ne,G,d⟩
 ·have F:X.fn x=true:=by
   rcases hf with z|z
   ·exact z
   ·rw[z] at hk;cases hk
  obtain⟨c,hc⟩:=I.ok.has x (.inl hk);obtain⟨W,z⟩:=I.cell x c hc;refine wpAny_storeName_cell I.ok.kind hk hc z (λh' t hs=>?_);obtain⟨l,g,Wc⟩:=id z
  refine h { s with heap:=h' } ⟨I.ok,I.os,I.bare,⟨λb o e n Z hx=>?_,λb o e n Z hx=>?_,I.base.free,λb o e hx=>?_,I.base.fx,I.base.ei,I.base.fy⟩,⟨m,T.sameBut hs (Ŭ (jA x c hc)),λj y S e1 e2 R=>?_⟩,λy U e=>?_,I.free,I.iF,λp P=>?_,tracked ⟨l,g,I.iF x c hc⟩ hs,by simpa using I.len⟩ ⟨c,hs,.inr hc⟩
  ·exact(hs.2 b (â (È (Ë e) (I.ok.rG x c F hc)))).trans (I.base.keep b o e n Z hx)
  ·obtain⟨O,e1⟩:=I.base.slot b o e n Z hx
   exact⟨O,(hs.2 b (â (È (Ë e) (I.ok.rG x c F hc)))).trans e1⟩
  ·obtain⟨L,e1⟩:=I.base.there b o e hx
   exact⟨L,(hs.2 b (â (È (Ë e) (I.ok.rG x c F hc)))).trans e1⟩
  ·by_cases Y:j=i
   ·subst Y
    rw[hi] at e1;cases e1;rw[å C] at e2;cases e2;exact⟨u,r,.inr ⟨.inl hk,c,hc,t⟩⟩
   ·rw[Ö (Ŭ Y)] at e2
    obtain⟨K,J,q⟩:=D j y S e1 e2 R;refine⟨K,J,?_⟩
    rcases q with q | ⟨k,U,e,z'⟩
    ·exact .inl q
    ·refine .inr ⟨k,U,e,z'.sameBut hs ?_⟩
     rintro rfl;exact Y (zt hN e1 (I.ok.inj _ _ _ e hc ▸ hi))
  ·by_cases f:U=c
   ·subst f;exact⟨_,t⟩
   ·obtain⟨w2,z2⟩:=I.cell y U e
    exact⟨w2,z2.sameBut hs f⟩
  ·obtain⟨e,n,ne,G,d⟩:=I.pin p P
   refine⟨(hs.2 p.1 ?_).trans e,n,ne,G,d⟩;intro q;rw[q,g] at e;have q':l=p.2:=abH e;exact d W (by rw[<- q'];exact Wc)
def lU (I:Inv X π σ H s) (hN:X.N.Nodup) (hi:X.N[i]?=some x) (hx:Loc X.env.scope x) (r:RelV v u)
 (h:∀s',Inv X π (σ.set i (some v)) H s'->Q () s') (hf:X.fn x=true\/X.env.scope.names.lookup x=some .local:=by first|exact .inl rfl|exact .inr rfl|assumption):Û M A (storeName X.env x u) Q E s :=
 N5 I hN hi hx r (λs' Z _=>h s' Z) hf
def Inv.tu (I:Inv X π σ H s) (ho:s'.os=s.os) (u:Un (ck X.stack) ch H H' s.heap s'.heap) (aB:cm X.prog X.w H' s'.heap) (hg:aby s'.gens)
 (lB:∀b∈ch,(b∈X.ex\/X.cL.heap.objs.size<=b)/\b≠X.env.locals/\(∀x c,X.env.cells.lookup x=some c->c≠b)/\∀p∈X.pn++π,p.1≠b):Inv X π σ H' s':=by
 obtain⟨h',g',d',t',Z⟩:=s';have e:Z=s.os:=ho;subst e;exact I.call (g':=g') (t':=t') (d':=d') u aB hg lB
end
abbrev XK:=Å->Option Ø->Hp->Prop
noncomputable abbrev St:=List (Option V)
abbrev VK:=V->Hp->Prop
abbrev TE:=St->Hp->VK->Prop
abbrev TT:=St->Hp->(Bool->Hp->Prop)->Prop
abbrev TA:=St->Hp->(List V->Hp->Prop)->Prop
structure Ends where
 nx:St->Hp->Prop
 rt:VK
 bk:St->Hp->Prop:=λ_ _=>False
 ct:St->Hp->Prop:=λ_ _=>False
abbrev TS:=Ends->St->Hp->Prop
def EP (X:Cx) (π:List (Ø×Obj)) (σ:St) (Q:VK) (u:Å) (s':Ä):Prop:=∃v Z,Inv X π σ Z s'/\RelV v u/\Q v Z
def TP (X:Cx) (π:List (Ø×Obj)) (σ:St) (Q:Bool->Hp->Prop) (b:Bool) (s':Ä):Prop:=∃Z,Inv X π σ Z s'/\Q b Z
def AP (X:Cx) (π:List (Ø×Obj)) (σ:St) (Q:List V->Hp->Prop) (us:List Å) (s':Ä):Prop:=∃Z Y,Inv X π σ Y s'/\Vals Z us/\Q Z Y
def SP (X:Cx) (π:List (Ø×Obj)) (D:Ends) (f:Flow) (s':Ä):Prop :=
 match f with
 | .next=>∃ Y Z,Inv X π Y Z s'/\D.nx Y Z
 | .brk=>∃ Y Z,Inv X π Y Z s'/\D.bk Y Z
 | .cont=>∃ Y Z,Inv X π Y Z s'/\D.ct Y Z
 | .ret u=>∃v Y Z,Inv X π Y Z s'/\RelV v u/\D.rt v Z
def PE (X:Cx) (e:ġ) (t:TE):Prop :=
 ∀(Z:List (Ø×Obj)) (s:Ä) (σ:St) (H:Hp) (Q:VK),Inv X Z σ H s->t σ H Q->Û (ä X.prog X.w) X.A (ĩ e X.env) (EP X Z σ Q) X.xe s
def PT (X:Cx) (e:ġ) (t:TT):Prop :=
 ∀(Z:List (Ø×Obj)) (s:Ä) (σ:St) (H:Hp) (Q:Bool->Hp->Prop),Inv X Z σ H s->t σ H Q->Û (ä X.prog X.w) X.A (isTrue e X.env (ĩ e X.env)) (TP X Z σ Q) X.xe s
def PW (X:Cx) (e:ġ) (t:TT):Prop :=
 ∀(whole:Sem Å) (Z:List (Ø×Obj)) (s:Ä) (σ:St) (H:Hp) (Q:Bool->Hp->Prop),Inv X Z σ H s->t σ H Q->Û (ä X.prog X.w) X.A (isTrue e X.env whole) (TP X Z σ Q) X.xe s
def PW.pt (h:PW X e t):PT X e t:=h _
def PA (X:Cx) (es:List ġ) (t:TA):Prop :=
 ∀(pos:Pos) (Z:List (Ø×Obj)) (s:Ä) (σ:St) (H:Hp) (Q:List V->Hp->Prop),Inv X Z σ H s->t σ H Q->Û (ä X.prog X.w) X.A (spliced (ħ pos (Ê es X.env))) (AP X Z σ Q) X.xe s
def PS (X:Cx) (st:aaX) (t:TS):Prop :=
 ∀(Z:List (Ø×Obj)) (s:Ä) (σ:St) (H:Hp) (D:Ends),Inv X Z σ H s->t D σ H->Û (ä X.prog X.w) X.A (exec st X.env) (SP X Z D) X.xe s
def cP (X:Cx) (st:List aaX) (t:TS):Prop :=
 ∀(Z:List (Ø×Obj)) (s:Ä) (σ:St) (H:Hp) (D:Ends),Inv X Z σ H s->t D σ H->Û (ä X.prog X.w) X.A (execs st X.env) (SP X Z D) X.xe s
def aG {α:Type} {t:Sem α} {Q Q':α->Ä->Prop} {M:Model} {A:ê} {E:Å->Ä->Prop} {s:Ä} (h:Û M A t Q E s) (hQ:∀a s,Q a s->Q' a s):Û M A t Q' E s:=Ĝ h hQ λ_ _ x=>x
section
variable {X:Cx}
def We (i:Nat):TE:=fun σ H Q=>∃v,σ[i]?=some (some v)/\Q v H
def tC (v:V):TE:=λ_ H Q=>Q v H
def HY {i:Nat} {x:Str} {pos:Pos} (hN:X.N[i]?=some x) (hv:pH X.env.scope x) (hd:(x==("__debug__":Str))=false:=by decide) (dE:(x==("__classdict__":Str))=false:=by decide):PE X (.Name x pos) (We i):=by
 intro W s σ H Q I h;obtain⟨v,e,h⟩:=h;obtain⟨m,V,U⟩:=I.loc;obtain⟨u,r,l⟩:=U i x v hN e hv;have fin:EP X W σ Q u s:=⟨v,H,I,r,h⟩
 rcases l with ⟨hk,T⟩ | ⟨hk,c,Z,Y⟩
 ·exact wpAny_Name (wpAny_loadName_local I.ok.kind hk V T fin) hd
 ·rcases hk with hk|hk
  ·exact wpAny_Name (wpAny_loadName_cell I.ok.kind hk Z Y fin) hd
  ·exact wpAny_Name (wpAny_loadName_free I.ok.kind hk Z Y fin dE) hd
def Sv {i j pos}:PE X (.Constant (.int i) j pos) (tC (.int i)):=λ_ _ _ H _ I h=>wpAny_Constant_int ⟨.int i,H,I.tok _,⟨_,rfl⟩,h⟩
def Bl {b j pos}:PE X (.Constant (.bool b) j pos) (tC (.bl b)):=λ_ _ _ H _ I h=>Constant_bool ⟨.bl b,H,I,rfl,h⟩
def Sw {j pos}:PE X (.Constant .none j pos) (tC .ar):=λ_ _ _ H _ I h=>Constant_none ⟨.ar,H,I,rfl,h⟩
def Sx {x j pos}:PE X (.Constant (.str x) j pos) (tC (.str x)):=λ_ _ _ H _ I h=>Calls.Constant_str ⟨.str x,H,I.tok _,⟨_,rfl⟩,h⟩
def Gl (X:Cx) (x:Str):Prop:=X.env.kindOf x=some .globalImplicit
def oy {E:Å->Ä->Prop} {π:List (Ø×Obj)} {s:Ä} {σ:St} {H:Hp} {x:Str} {u:Å} {pos:Pos} {Q:Å->Ä->Prop} (I:Inv X π σ H s) (hg:Gl X x) (hm:X.mg x=some u) (h:Q u s)
  (hd:(x==("__debug__":Str))=false:=by decide):Û (ä X.prog X.w) X.A (ĩ (.Name x pos) X.env) Q E s :=
 Calls.Name_function_global I.ok.kind hg (Calls.loadGlobal_global (by rw[I.ok.glob];exact I.mod.glob.keeps I.bk) hm h) hd
def qB {E:Å->Ä->Prop} {π:List (Ø×Obj)} {s:Ä} {σ:St} {H:Hp} {x:Str} {u:Å} {pos:Pos} {Q:Å->Ä->Prop} (I:Inv X π σ H s) (hg:Gl X x) (hm:X.mg x=none) (hv:ú x=some u) (h:Q u s)
  (hn:x≠"__name__":=by decide) (hd:(x==("__debug__":Str))=false:=by decide):Û (ä X.prog X.w) X.A (ĩ (.Name x pos) X.env) Q E s:=by
 obtain⟨W,Z,Y⟩:=I.mod.blt;exact Calls.Name_function_global I.ok.kind hg (Calls.loadGlobal_builtin (by rw[I.ok.glob];exact I.mod.glob.keeps I.bk) hm (by rw[I.ok.blt];exact Z.keeps I.bk) ((Y x hn).trans hv) h) hd
def Hb (hg:Gl X x) (hm:X.mg x=some u) (r:RelV v u) (hd:(x==("__debug__":Str))=false:=by decide):PE X (.Name x pos) (tC v) :=
 λ_ _ _ H _ I h=>oy I hg hm ⟨v,H,I,r,h⟩ hd
def wa {x:Str} {v:V} {u:Å} {pos:Pos} (hg:Gl X x) (hm:X.mg x=none) (hv:ú x=some u) (r:RelV v u) (hn:x≠"__name__":=by decide) (hd:(x==("__debug__":Str))=false:=by decide):PE X (.Name x pos) (tC v) :=
 λ_ _ _ H _ I h=>qB I hg hm hv ⟨v,H,I,r,h⟩ hn hd
variable {a b:ġ} {ta tb:TE} {pos:Pos}
variable {tA yj:TT} {rest:List ġ}
def fN (t u:TT):TT:=fun σ H Q=>t σ H λc Z=>if c=true then u σ Z Q else Q false Z
def iJ (t u:TT):TT:=fun σ H Q=>t σ H λc Z=>if c=true then Q true Z else u σ Z Q
def gp (t:TT):TT:=fun σ H Q=>t σ H λc Z=>Q (!c) Z
def QT (ha:PT X a tA):PW X (.BoolOp .And [a] pos) tA:=by
 intro Y Z s σ H Q I h;refine isTrue_and (aG (ha Z s σ H Q I h) λc W e=>?_)
 cases c with
 |true=>exact isTrue_and_nil e
 |false=>exact e
def Sy (ha:PT X a tA):PW X (.BoolOp .Or [a] pos) tA:=by
 intro Y Z s σ H Q I h;refine isTrue_or (aG (ha Z s σ H Q I h) λc W e=>?_)
 cases c with
 |false=>exact isTrue_or_nil e
 |true=>exact e
def Sz (ha:PT X a tA) (hb:PW X (.BoolOp .And (b::rest) pos) yj):PW X (.BoolOp .And (a::b::rest) pos) (fN tA yj):=by
 intro U Z s σ H Q I h;refine isTrue_and (aG (ha Z s σ H _ I h) λc T ⟨Y,W,V⟩=>?_)
 cases c with
 |true=>exact hb U Z T σ Y Q W V
 |false=>exact⟨Y,W,V⟩
def UJ (ha:PT X a tA) (hb:PW X (.BoolOp .Or (b::rest) pos) yj):PW X (.BoolOp .Or (a::b::rest) pos) (iJ tA yj):=by
 intro U Z s σ H Q I h;refine isTrue_or (aG (ha Z s σ H _ I h) λc T ⟨Y,W,V⟩=>?_)
 cases c with
 |true=>exact⟨Y,W,V⟩
 |false=>exact hb U Z T σ Y Q W V
def SA (ha:PT X a tA):PT X (.UnaryOp .Not a pos) (gp tA):=by
 intro Z s σ H Q I h;exact isTrue_not (ha Z s σ H (λc Y=>Q (!c) Y) I h)
def UK (ta tb:TE):TE:=fun σ H Q=>ta σ H λx Z=>∃c,x=.bl c/\if c=true then tb σ Z Q else Q (.bl false) Z
def Wf (ta tb:TE):TE:=fun σ H Q=>ta σ H λx Z=>∃c,x=.bl c/\if c=true then Q (.bl true) Z else tb σ Z Q
def UL (ta:TE):TE:=fun σ H Q=>ta σ H λx Z=>∃c,x=.bl c/\Q (.bl (!c)) Z
def SD {op} (h:PE X a t):PE X (.BoolOp op [a] pos) t:=λZ s σ H Q I hw=>BoolOp_one (h Z s σ H Q I hw)
def SE (ha:PE X a ta) (hb:PE X (.BoolOp .And (b::rest) pos) tb):PE X (.BoolOp .And (a::b::rest) pos) (UK ta tb):=by
 intro Y s σ H Q I h;refine BoolOp_and (aG (ha Y s σ H _ I h) λv U ⟨x,W,V,T,Z⟩=>?_);obtain⟨c,rfl,Z⟩:=Z;cases T;refine ő ?_
 cases c with
 |true=>exact hb Y U σ W Q V Z
 |false=>exact⟨.bl false,W,V,rfl,Z⟩
def UM (ha:PE X a ta) (hb:PE X (.BoolOp .Or (b::rest) pos) tb):PE X (.BoolOp .Or (a::b::rest) pos) (Wf ta tb):=by
 intro Y s σ H Q I h;refine BoolOp_or (aG (ha Y s σ H _ I h) λv U ⟨x,W,V,T,Z⟩=>?_);obtain⟨c,rfl,Z⟩:=Z;cases T;refine ő ?_
 cases c with
 |false=>exact hb Y U σ W Q V Z
 |true=>exact⟨.bl true,W,V,rfl,Z⟩
def SF (ha:PE X a ta):PE X (.UnaryOp .Not a pos) (UL ta):=by
 intro Y s σ H Q I h;refine UnaryOp_ (aG (ha Y s σ H _ I h) λv T ⟨x,W,V,U,Z⟩=>?_);obtain⟨c,rfl,Z⟩:=Z;cases U;exact not_of (ő ⟨.bl (!c),W,V,rfl,Z⟩)
def Xk (t:TT) (ta tb:TE):TE:=fun σ H Q=>t σ H λc Z=>if c=true then ta σ Z Q else tb σ Z Q
def O8 {c:ġ} (hc:PT X c tA) (ha:PE X a ta) (hb:PE X b tb):PE X (.IfExp c a b pos) (Xk tA ta tb):=by
 intro Z s σ H Q I h;refine wpAny_IfExp (aG (hc Z s σ H _ I h) λd Y ⟨W,V,U⟩=>?_)
 cases d with
 |true=>exact ha Z Y σ W Q V U
 |false=>exact hb Z Y σ W Q V U
end
def bw (K:Ď) (H:Hp) (a:Ø) (xs:List V):Prop :=
 Rd H a (.lst xs) \/
  ∃(o:Obj) (its:Array Å) (n:Nat),K.lookup a=some o/\o.cls=.type "list"/\o.dict=none/\o.data=.seq its n/\its.size<=Ú/\Vals xs its.toList
def bC (K:Ď) (H:Hp) (a:Ø) (xs:List V):Prop :=
 Rd H a (.tup xs) \/
  ∃(o:Obj) (its:Array Å) (n:Nat),K.lookup a=some o/\o.cls=.type "tuple"/\o.data=.seq its n/\its.size<=Ú/\Vals xs its.toList
noncomputable def Wg:Å->Option V
 | .none=>some .ar
 | .bool b=>some (.bl b)
 | .int i _=>some (.int i)
 | .str x _=>some (.str x)
 | .bytes b _=>some (.iI b)
 | .float b _=>some (.rD b)
 | .ref a=>some (.ref a)
 | .type n=>some (.ty n)
 |_=>none
def RelV.abs (r:RelV x u):Wg u=some x:=by
 cases x with
 |ar=>cases r;rfl
 |bl _=>cases r;rfl
 |int _=>obtain⟨t,rfl⟩:=r;rfl
 |str _=>obtain⟨t,rfl⟩:=r;rfl
 |iI _=>obtain⟨t,rfl⟩:=r;rfl
 |rD _=>obtain⟨t,rfl⟩:=r;rfl
 |ref _=>cases r;rfl
 |ty _=>cases r;rfl
def RelV.inj (r:RelV x u) (q:RelV y u):x=y:=abH (r.abs.symm.trans q.abs)
theorem Vals.inj:∀{xs ys:List V} {us:List Å},Vals xs us->Vals ys us->xs=ys
 |_,_,_,.nil,.nil=>rfl
 |_,_,_,.cons r t,.cons Z Y=>by rw[r.inj Z,Vals.inj t Y]
section
variable {X:Cx} {π:List (Ø×Obj)} {σ:St} {H:Hp} {s:Ä} {a:Ø} {xs ys:List V}
def bw.of {K:Ď} (h:H a=some (.lst xs)):bw K H a xs:=.inl (.inl h)
def bC.of {K:Ď} (h:H a=some (.tup xs)):bC K H a xs:=.inl (.inl h)
def Inv.list (I:Inv X π σ H s) (h:bw X.K H a xs):∃its:List Å,Vals xs its/\PlainL s.heap a its.toArray/\xs.length<=Ú:=by
 rcases h with h | ⟨o,its,n,Z,Y,W,hs,V,r⟩
 ·obtain⟨z,its,n,r,e⟩:=h.ok I.aB
  exact⟨its,r,⟨_,n,e,rfl,rfl,rfl⟩,z⟩
 ·refine⟨its.toList,r,⟨o,n,I.eO a o Z,Y,W,by simpa using hs⟩,?_⟩
  have e:=r.length;simp only[ø] at e;omega
def Inv.tuple (I:Inv X π σ H s) (h:bC X.K H a xs):∃its:List Å,Vals xs its/\IsTup s.heap a its.toArray/\xs.length<=Ú:=by
 rcases h with h | ⟨o,its,n,Z,Y,hs,W,r⟩
 ·obtain⟨z,its,r,p⟩:=h.ok I.aB
  exact⟨its,r,p,z⟩
 ·refine⟨its.toList,r,⟨o,I.eO a o Z,Y,n,by simpa using hs⟩,?_⟩
  have e:=r.length;simp only[ø] at e;omega
def Inv.Gf (I:Inv X π σ H s) (h:bw X.K H a xs) (h':bw X.K H a ys):xs=ys:=by
 obtain⟨its,r,⟨o,n,e,_,_,d⟩,_⟩:=I.list h;obtain⟨Z,V,⟨T,S,Y,_,_,W⟩,_⟩:=I.list h';rw[e] at Y;cases Y;rw[d] at W
 injection W with U _
 have:its=Z:=by simpa using Ķ Array.toList U
 subst this;exact r.inj V
def Inv.FG (I:Inv X π σ H s) (h:bC X.K H a xs) (h':bC X.K H a ys):xs=ys:=by
 obtain⟨its,r,⟨o,e,_,n,d⟩,_⟩:=I.tuple h;obtain⟨Z,V,⟨T,Y,_,S,W⟩,_⟩:=I.tuple h';rw[e] at Y;cases Y;rw[d] at W
 injection W with U _
 have:its=Z:=by simpa using Ķ Array.toList U
 subst this;exact r.inj V
end
noncomputable abbrev Cx.js (X:Cx) (E:Å->Ä->Prop):Cx:={ X with xe:=E }
noncomputable abbrev Cx.mK (X:Cx):Cx:=X.js λ_ _=>False
theorem Cx.Ok.js {X:Cx} (ok:X.Ok) (E:Å->Ä->Prop):(X.js E).Ok :=
 ⟨ok.mod,ok.kind,ok.glob,ok.blt,ok.above,ok.inj,ok.has,ok.rG,ok.hd,ok.frames,ok.lA,ok.KP,ok.bs,ok.il,ok.nC,ok.xH,ok.ig,ok.km⟩
def Cx.Ok.lY {X:Cx} {E:Å->Ä->Prop} (ok:(X.js E).Ok):X.Ok :=
 ⟨ok.mod,ok.kind,ok.glob,ok.blt,ok.above,ok.inj,ok.has,ok.rG,ok.hd,ok.frames,ok.lA,ok.KP,ok.bs,ok.il,ok.nC,ok.xH,ok.ig,ok.km⟩
section
variable {X:Cx} {π:List (Ø×Obj)} {σ:St} {H:Hp} {s:Ä} {E:Å->Ä->Prop}
theorem Inv.js (I:Inv X π σ H s) (E:Å->Ä->Prop):Inv (X.js E) π σ H s:=⟨I.ok.js E,I.os,I.bare,I.base,I.loc,I.cell,I.free,I.iF,I.pin,I.aB,I.len⟩
theorem Inv.lY (I:Inv (X.js E) π σ H s):Inv X π σ H s:=⟨I.ok.lY,I.os,I.bare,I.base,I.loc,I.cell,I.free,I.iF,I.pin,I.aB,I.len⟩
theorem SP.lY (h:SP (X.js E) π D f s'):SP X π D f s':=by
 cases f with
 |next=>obtain⟨Z,Y,I,q⟩:=h;exact⟨Z,Y,I.lY,q⟩
 |brk=>obtain⟨Z,Y,I,q⟩:=h;exact⟨Z,Y,I.lY,q⟩
 |cont=>obtain⟨Z,Y,I,q⟩:=h;exact⟨Z,Y,I.lY,q⟩
 |ret u=>obtain⟨v,Z,Y,I,r,q⟩:=h;exact⟨v,Z,Y,I.lY,r,q⟩
theorem cP.mK {st:List aaX} {t:TS} (h:cP X.mK st t):cP X st t:=λπ s σ H D I hw =>
 Ĝ (h π s σ H D (I.js _) hw) (λ_ _ q=>q.lY) λ_ _ z=>ď z
end
section
variable {X:Cx} {st:aaX} {rest:List aaX} {t u:TS} {e:ġ} {te:TE} {pos:Pos}
def UN:TS:=λD σ H=>D.nx σ H
def Wh (t u:TS):TS:=λD σ H=>t { D with nx:=u D } σ H
def QU:cP X [] UN:=λ_ _ σ H _ I h=>wpAny_execs_nil ⟨σ,H,I,h⟩
def O9 (h1:PS X st t) (h2:cP X rest u):cP X (st::rest) (Wh t u):=by
 intro Z s σ H D I h
 refine wpAny_execs_cons (aG (h1 Z s σ H { D with nx:=u D } I h) λf Y q=>?_)
 cases f with
 |next =>
  obtain⟨W,V,U,q⟩:=q;exact h2 Z Y W V D U q
 |ret v=>exact q
 |brk=>exact q
 |cont=>exact q
def QV (h1:PS X st t):cP X [st] t:=by
 intro Z s σ H D I h;refine wpAny_execs_cons (aG (h1 Z s σ H D I h) λf Y q=>?_)
 cases f with
 |next=>exact wpAny_execs_nil q
 |ret v=>exact q
 |brk=>exact q
 |cont=>exact q
def Inv.quiet {π:List (Ø×Obj)} {σ:St} {H:Hp} {s:Ä} (I:Inv X π σ H s):interactive X.env=false:=by simp[interactive,I.ok.kind]
def UO (te:TE):TS:=λD σ H=>te σ H λ_ Z=>D.nx σ Z
def QW (he:PE X e te) (hs:abd e none pos.line X.env=pure false:=by rfl):PS X (.Expr e pos) (UO te):=by
 intro Z s σ H D I h;exact wpAny_Expr_any (aG (he Z s σ H _ I h) λv U ⟨x,Y,W,T,V⟩=>⟨σ,Y,W,V⟩) I.quiet hs
def Wi (te:TE):TS:=λD σ H=>te σ H D.rt
def SG (he:PE X e te):PS X (.Return (some e) pos) (Wi te):=by
 intro Z s σ H D I h;exact wpAny_Return_some (aG (he Z s σ H _ I h) λv T ⟨x,Y,W,V,U⟩=>⟨x,σ,Y,W,V,U⟩)
def Wj (c:TT) (t u:TS):TS:=λD σ H=>c σ H λb Z=>if b=true then t D σ Z else u D σ Z
def UP {c:ġ} {a b:List aaX} {tc:TT} (hc:PT X c tc) (ha:cP X a t) (hb:cP X b u):PS X (.If c a b pos) (Wj tc t u):=by
 intro Z s σ H D I h;refine wpAny_If (aG (hc Z s σ H _ I h) λd Y ⟨W,V,U⟩=>?_)
 cases d with
 |true=>exact ha Z Y σ W D V U
 |false=>exact hb Z Y σ W D V U
end
abbrev TG:=V->St->Hp->(St->Hp->Prop)->Prop
abbrev ko:=List V->St->Hp->(St->Hp->Prop)->Prop
def PG (X:Cx) (target:ġ) (t:TG):Prop :=
 ∀(Z:List (Ø×Obj)) (s:Ä) (σ:St) (H:Hp) (v:V) (u:Å) (Q:St->Hp->Prop),Inv X Z σ H s->RelV v u->t v σ H Q ->
  Û (ä X.prog X.w) X.A (abn target X.env u) (λ_ U=>∃ Y W,Inv X Z Y W U/\Q Y W) X.xe s
def lD (X:Cx) (ts:List ġ) (t:ko):Prop :=
 ∀(Z:List (Ø×Obj)) (s:Ä) (σ:St) (H:Hp) (Y:List V) (W:List Å) (Q:St->Hp->Prop),Inv X Z σ H s->Vals Y W->t Y σ H Q ->
  Û (ä X.prog X.w) X.A (aa7 ((ŭ ts X.env).map (·.2)) W) (λ_ S=>∃ U T,Inv X Z U T S/\Q U T) X.xe s
abbrev BW:=V->V->V->Hp->(Hp->Prop)->Prop
def J0 (X:Cx) (t:BW):Prop :=
 ∀(Z:List (Ø×Obj)) (s:Ä) (σ:St) (H:Hp) (o i v:V) (Y W u:Å) (Q:Hp->Prop),Inv X Z σ H s->RelV o Y->RelV i W->RelV v u->t o i v H Q ->
  Û (ä X.prog X.w) X.A (setItem Y W u) (λ_ T=>∃U,Inv X Z σ U T/\Q U) X.xe s
section
variable {X:Cx} {pos:Pos}
def mi (i:Nat):TG:=λv σ H Q=>Q (σ.set i (some v)) H
def iT (hN:X.N.Nodup) (hi:X.N[i]?=some x) (hx:Loc X.env.scope x) (hf:X.fn x=true\/X.env.scope.names.lookup x=some .local:=by first|exact .inl rfl|exact .inr rfl|assumption):PG X (.Name x pos) (mi i):=by
 intro Y s σ H v u Q I r h;exact wpAny_assign_Name (lU I hN hi hx r (λW Z=>⟨_,H,Z,h⟩) hf)
def BX:ko:=λZ σ H Q=>Z=[]/\Q σ H
def Bm (t:TG) (u:ko):ko:=λZ σ H Q=>∃v r,Z=v::r/\t v σ H fun Y X=>u r Y X Q
def wb:lD X [] BX:=by
 intro Z s σ H Y W Q I r h;obtain⟨e,h⟩:=h;subst e;cases r;exact assignInOrder_nil ⟨σ,H,I,h⟩
def ox {e:ġ} {es:List ġ} {t:TG} {u:ko} (h1:PG X e t) (h2:lD X es u)
  (hs:(ŭ (e::es) X.env).map (·.2)=abn e X.env::(ŭ es X.env).map (·.2):=by rfl):lD X (e::es) (Bm t u):=by
 intro Z s σ H R P Q I r h;obtain⟨v,O,e1,h⟩:=h;subst e1
 cases r with
 |cons r Y =>
  rw[hs];refine ţ (aG (h1 Z s σ H _ _ _ I r h) λ_ W ⟨V,U,T,S⟩=>?_);exact h2 Z W V U _ _ Q T Y S
def BY (K:Ď) (n:Nat) (t:ko):TG:=λv σ H Q=>∃a Z,v=.ref a/\bC K H a Z/\Z.length=n/\t Z σ H Q
def oE {k:Nat} {n:Nat} (hc:X.calm=true) (h:lD X es t)
 (hn:(ŭ es X.env).length=n:=by rfl) (fS:(ŭ es X.env).findIdx? (·.1)=none:=by rfl):PG X (.Tuple es k pos) (BY X.K n t):=by
 intro Z s σ H v u Q I r hw;obtain⟨a,W,e1,V,U,hw⟩:=hw;subst e1;cases r;obtain⟨its,Y,T,O⟩:=I.tuple V;refine assign_Tuple_tuple (I.ok.hd hc) T (by simp[hn,<- U,Y.length]) fS λS R=>?_
 have P:Inv X Z σ H { s with heap:=S }:=I.kept (t':=s.toks) λb o e=>R b o (â (Ë e)) e
 exact h Z _ σ H W _ Q P (by simpa using Y) hw
def Wk (to ti:TE) (t:BW):TG:=λv σ H Q=>to σ H λo Z=>ti σ Z λi Y=>t o i v Y λX=>Q σ X
def SH {o i:ġ} {to ti:TE} {t:BW} (ho:PE X o to) (hi:PE X i ti) (hs:J0 X t)
  (ha:∀v,abn (.Subscript o i pos) X.env v=(do
   let ov <- μ [v] (ĩ o X.env)
   let iv <- μ [v,ov] (ĩ i X.env)
   ZZ pos
   μ [v,ov,iv] (setItem ov iv v)
   release [v,ov,iv] []):=by intro _;rfl):PG X (.Subscript o i pos) (Wk to ti t):=by
 intro Z s σ H v u Q I r h;rw[ha];refine À (ĝ (aG (ho Z s σ H _ I h) λov Y ⟨x,W,V,U,T⟩=>?_));refine À (ĝ (aG (hi Z Y σ W _ V T) λiv S ⟨y,R,P,O,N⟩=>?_));refine À (Ŷ (À (ĝ (aG (hs Z S σ R x y v ov iv u _ P U O r N) λ_ J ⟨M,L,K⟩=>?_))));exact wpAny_release ⟨σ,M,L,K⟩
def qW (te:TE) (g:TG):TS:=λD σ H=>te σ H λx Z=>g x σ Z D.nx
def H0 {tg e:ġ} {te:TE} {g:TG} (he:PE X e te) (hg:PG X tg g) (hs:χ [tg] e pos.line X.env=pure false:=by rfl) (hw:ψ [tg] e X.env=pure none:=by rfl)
  (h1:(ŭ [tg] X.env).map (·.2)=[abn tg X.env]:=by rfl):PS X (.Assign [tg] e pos) (qW te g):=by
 intro Z s σ H D I h;refine wpAny_Assign_stores (aG (he Z s σ H _ I h) λv Y ⟨x,W,V,U,T⟩=>?_) hs hw;rw[h1];exact aG (hg Z Y σ W x v _ V U T) λ_ S q=>q
def SI {i:Nat} {x:Str} {e:ġ} {te:TE} {pos':Pos} (hN:X.N.Nodup) (hi:X.N[i]?=some x) (hx:Loc X.env.scope x) (he:PE X e te) (hs:abd e (some (.Name x pos')) pos.line X.env=pure false:=by rfl) (hf:X.fn x=true\/X.env.scope.names.lookup x=some .local:=by first|exact .inl rfl|exact .inr rfl|assumption) :
  PS X (.Assign [.Name x pos'] e pos) (qW te (mi i)):=by
 intro Z s σ H D I h;refine wpAny_Assign_Name (aG (he Z s σ H _ I h) λv S ⟨y,Y,W,V,U⟩=>?_) hs;exact lU W hN hi hx V (λR T=>⟨_,Y,T,U⟩) hf
def Wl (i j:Nat) (ta:TA):TS:=λD σ H=>ta σ H λZ Y=>∃v w,Z=[v,w]/\D.nx ((σ.set i (some v)).set j (some w)) Y
def SJ {i j:Nat} {x y:Str} {a b:ġ} {ta:TA} {px py pt:Pos} {kt k2 iu} (hc:X.calm=true) (hN:X.N.Nodup) (hi:X.N[i]?=some x) (hj:X.N[j]?=some y) (eQ:i≠j)
  (hx:X.env.scope.names.lookup x=some .local) (hy:X.env.scope.names.lookup y=some .local) (ha:PA X [a,b] ta)
  (hw:ψ [.Tuple [.Name x px,.Name y py] kt pt] (.Tuple [a,b] k2 iu) X.env=pure (some [x,y]))
  (hs:χ [.Tuple [.Name x px,.Name y py] kt pt] (.Tuple [a,b] k2 iu) pos.line X.env=pure false:=by rfl) :
  PS X (.Assign [.Tuple [.Name x px,.Name y py] kt pt] (.Tuple [a,b] k2 iu) pos) (Wl i j ta):=by
 intro U s σ H D I h;rw[exec_Assign_arm];refine À (Ŷ ?_);rw[hs];refine À (Ã ?_);rw[è (by decide)];refine À (Tuple_ (aG (ha _ U s σ H _ I h) λR Z ⟨C,T,Q,P,V⟩=>?_));obtain⟨v,w,e1,V⟩:=V;subst e1;obtain⟨Y,W,rfl,O,M⟩:∃Y W,R=[Y,W]/\RelV v Y/\RelV w W:=by
  cases P with
  |cons p q =>
   cases q with
   |cons L K =>
    cases K;exact⟨_,_,rfl,p,L⟩
 refine þ ?_ (by show 2<=Ú;decide)
 have J:Inv X U σ T { Z with heap:=Z.heap.push { cls:=.type "tuple",data:=.seq [Y,W].toArray } }:=Q.kept (t':=Z.toks) λb o e=>Á _ e
 rw[hw];refine À (Ã ?_)
 show Û (ä X.prog X.w) X.A (do rule "assign.swapped-stores";let items <- unpackItems (.ref Z.heap.objs.size) 2 none;aa7 [λv=>aaS X.env y v,λv=>aaS X.env x v] items.reverse;pure Flow.next) _ _ _
 refine À (ş (À (unpackItems_tuple (items:=#[Y,W]) (I.ok.hd hc) (IsTup.new Z.heap _) λh' G=>?_)));have F:=J.kept (h':=h') (t':=Z.toks) λb o e=>G b o (â (Ë e)) e
 show Û _ _ (aa7 [λv=>aaS X.env y v,λv=>aaS X.env x v] [W,Y] >>= λ_=>pure Flow.next) _ _ _
 refine À (ţ (aaT (lU F hN hj (.inl hy) M (λB E=>?_) (.inr hy))));refine ţ (aaT (lU E hN hi (.inl hx) O (λz S=>assignInOrder_nil (Ã ?_)) (.inr hx)));rw[List.set_comm _ _ (Ŭ eQ)] at S;exact⟨_,T,S,V⟩
end
section
variable {X:Cx} {pos:Pos}
end
structure It where
 go:Nat->Hp->Prop
 rK:Nat->Hp->V->Hp->Prop
 stop:Nat->Hp->Prop
def fO (X:Cx) (π:List (Ø×Obj)) (H:Hp) (b:Ø):Prop :=
 H b=none/\b≠X.env.locals/\b∉X.fs/\(b∈X.ex\/X.cL.heap.objs.size<=b)/\(∀x c,X.env.cells.lookup x=some c->c≠b)/\∀p∈X.pn++π,p.1≠b
def Inv.xI {X:Cx} {π:List (Ø×Obj)} {σ:St} {H H':Hp} {s:Ä} {b:Ø} (I:Inv X π σ H s) (hb:s.heap.objs.size<=b) (hn:H' b=none):fO X π H' b:=by
 refine⟨hn,Ť (È I.lt hb),I.tY hb,.inr (à I.sz hb),λx c e z=>?_,λp Z z=>?_⟩
 ·obtain⟨v,q⟩:=I.cell x c e
  exact absurd (È q.lt (by rw[z];exact hb)) (ï _)
 ·exact absurd (È (Ë (I.pin p Z).1) (by rw[z];exact hb)) (ï _)
structure Turn (P:ã) (w:Ă) (K:Ď) (tg:ġ) (J:It) (fp:List Ø) (it:Ø) (tn:Nat->ĥ->Prop):Prop where
 mem:it∈fp
 obj:∀i h,tn i h->∀b∈fp,∃o,h.get? b=some o/\∀v,o.data≠.cell v
 keep:∀i h h',tn i h->(∀b∈fp,∀o,h.get? b=some o->h'.get? b=some o)->tn i h'
 item:∀(X:Cx),X.prog=P->X.w=w->X.K=K->X.calm=true->∀(i:Nat) (π:List (Ø×Obj)) (s:Ä) (σ:St) (H:Hp) (E:Å->Ä->Prop),Inv X π σ H s->(∀b∈fp,fO X π H b)->tn i s.heap->J.go i H ->
  Û (ä P w) X.A (aaj (.ref it)) (λr s1=>∃u,r=some u /\
   Û (ä P w) X.A (ŕ tg (.ref it) u) (λ_ s2=>∃x H',Inv X π σ H' s2/\RelV x u/\J.rK i H x H'/\tn (i+1) s2.heap/\∀b∈fp,H' b=none) E s1) E s
 done:∀(X:Cx),X.prog=P->X.w=w->X.K=K->X.calm=true->∀(i:Nat) (π:List (Ø×Obj)) (s:Ä) (σ:St) (H:Hp) (E:Å->Ä->Prop),Inv X π σ H s->(∀b∈fp,fO X π H b)->tn i s.heap->J.stop i H ->
  Û (ä P w) X.A (aaj (.ref it)) (λr s1=>r=none/\Inv X π σ H s1) E s
 self:∀(A:ê) (i:Nat) (s:Ä) (Q:Å->Ä->Prop) (E:Å->Ä->Prop),tn i s.heap->Q (.ref it) s->Û (ä P w) A (pyIter (.ref it)) Q E s
abbrev TI:=St->Hp->(It->Hp->Prop)->Prop
def KU (X:Cx) (π:List (Ø×Obj)) (σ:St) (tg:ġ) (R:It->Hp->Prop) (gy:Å) (s2:Ä):Prop :=
 ∃(it:Ø) (Y:List Ø) (W:Nat->ĥ->Prop) (J:It) (Z:Hp),gy=.ref it/\Inv X π σ Z s2/\Turn X.prog X.w X.K tg J Y it W/\W 0 s2.heap/\(∀b∈Y,fO X π Z b)/\R J Z
def PI (X:Cx) (tg iter:ġ) (wi:TI):Prop :=
 ∀(Z:List (Ø×Obj)) (s:Ä) (σ:St) (H:Hp) (R:It->Hp->Prop),Inv X Z σ H s->wi σ H R ->
  Û (ä X.prog X.w) X.A (ĩ iter X.env) (λv Y=>Û (ä X.prog X.w) X.A (pyIter v) (KU X Z σ tg R) X.xe Y) X.xe s
def Bn (ho:s.heap.get? it=some o) (hc:o.cls=.type n) (hd:o.data=.fields vs)
 (hn:["enumerate","zip","dict_itemiterator","dict_reverseitemiterator","odict_iterator","itertools.zip_longest","itertools.pairwise"].contains n=false) (hQ:Q () s):Û M A (ŕ tg (.ref it) u) Q E s:=by
 unfold ŕ
 cases tg<;>first
  |exact Ã hQ
  |(cases u<;>first
    |exact Ã hQ
    |(refine À (wpAny_load ho ?_)
      rw[hc,hd]
      show Û M A (if (["enumerate","zip","dict_itemiterator","dict_reverseitemiterator","odict_iterator","itertools.zip_longest","itertools.pairwise"].contains n&&vs[0]?==some (ZX _))=true then _ else _) Q E s
      rw[è (by intro h;rw[hn,aaU] at h;cases h)];exact Ã hQ))
noncomputable def CD (K:Ď) (a:Ø):It :=
 ⟨λi H=>∃Z x,bw K H a Z/\Z[i]?=some x,λi H x Y=>Y=H/\∀Z,bw K H a Z->Z[i]?=some x,λi H=>∃Z,bw K H a Z/\Z.length<=i⟩
noncomputable def CF (K:Ď) (a:Ø):It :=
 ⟨λi H=>∃Z x,bC K H a Z/\Z[i]?=some x,λi H x Y=>Y=H/\∀Z,bC K H a Z->Z[i]?=some x,λi H=>∃Z,bC K H a Z/\Z.length<=i⟩
noncomputable def uC (lo:Int) (n:Nat):It:=⟨λi _=>i<n,λi H x Z=>Z=H/\x=.int (lo+i),λi _=>n<=i⟩
def N6 {P:ã} {w:Ă} {K:Ď} {tg:ġ} (a it:Ø):Turn P w K tg (CD K a) [it] it (λi h=>h.IsListIter it a i) where
 mem:=by simp
 obj:=λi h Z b Y=>by
  have e:b=it:=by simpa using Y
  subst e;obtain⟨o,e,c,d⟩:=Z;exact⟨o,e,λv z=>by rw[d] at z;cases z⟩
 keep:=λi h W Z k=>Z.at λo e=>k it (by simp) o e
 item:=by
  intro X T hw S L i J s σ H E I V Z R;subst T hw S;obtain⟨F,x,U,Q⟩:=R;obtain⟨its,O,p,D⟩:=I.list U;obtain⟨u,C,B⟩:=O.get Q;obtain⟨f0,f1,f2,N,f4,M⟩:=V it (by simp);refine wpAny_pyNext_list_item Z p.isList (x:=u) (by simpa using C) λW G A=>?_
  have y:Inv X J σ H { s with heap:=W }:=I.turned (t':=s.toks) (λb o Y e=>(A.2 b Y).trans e) f0 f1 N f4 M
  obtain⟨o,e,c,d⟩:=id G
  exact⟨u,rfl,Bn (s:={ s with heap:=W }) e c d (by decide) ⟨x,H,y,B,⟨rfl,λq t=>by rw[I.Gf t U];exact Q⟩,G,λb Y=>(V b Y).1⟩⟩
 done:=by
  intro X T hw S L i J s σ H E I V Z R;subst T hw S;obtain⟨F,U,Q⟩:=R;obtain⟨its,O,p,D⟩:=I.list U;obtain⟨f0,f1,f2,N,f4,M⟩:=V it (by simp);have n:=O.length;exact wpAny_pyNext_list_end (I.ok.hd L) Z p.isList (by simp;omega) λW r=>⟨rfl,I.turned (t':=s.toks) (λb o Y e=>r b o Y e) f0 f1 N f4 M⟩
 self:=λ_ _ _ _ _ Z h=>wpAny_pyIter_listiter Z h
def Ng {P:ã} {w:Ă} {K:Ď} {tg:ġ} (a it:Ø):Turn P w K tg (CF K a) [it] it (λi h=>h.IsTupleIter it a i) where
 mem:=by simp
 obj:=λi h Z b Y=>by
  have e:b=it:=by simpa using Y
  subst e;obtain⟨o,e,c,d⟩:=Z;exact⟨o,e,λv z=>by rw[d] at z;cases z⟩
 keep:=λi h W Z k=>Z.at λo e=>k it (by simp) o e
 item:=by
  intro X T hw S L i J s σ H E I V Z R;subst T hw S;obtain⟨F,x,U,Q⟩:=R;obtain⟨its,O,p,D⟩:=I.tuple U;obtain⟨u,C,B⟩:=O.get Q;obtain⟨f0,f1,f2,N,f4,M⟩:=V it (by simp);refine wpAny_pyNext_tuple_item Z (show s.heap.IsTuple a its.toArray from p) (x:=u) (by simpa using C) λW G A=>?_
  have y:Inv X J σ H { s with heap:=W }:=I.turned (t':=s.toks) (λb o Y e=>(A.2 b Y).trans e) f0 f1 N f4 M
  obtain⟨o,e,c,d⟩:=id G
  exact⟨u,rfl,Bn (s:={ s with heap:=W }) e c d (by decide) ⟨x,H,y,B,⟨rfl,λq t=>by rw[I.FG t U];exact Q⟩,G,λb Y=>(V b Y).1⟩⟩
 done:=by
  intro X T hw S L i J s σ H E I V Z R;subst T hw S;obtain⟨F,U,Q⟩:=R;obtain⟨its,O,p,D⟩:=I.tuple U;obtain⟨f0,f1,f2,N,f4,M⟩:=V it (by simp);have n:=O.length;exact wpAny_pyNext_tuple_end (I.ok.hd L) Z (show s.heap.IsTuple a its.toArray from p) (by simp;omega) λW r=>⟨rfl,I.turned (t':=s.toks) (λb o Y e=>r b o Y e) f0 f1 N f4 M⟩
 self:=λ_ _ _ _ _ Z h=>wpAny_pyIter_tupleiter Z h
def Nh {P:ã} {w:Ă} {K:Ď} {tg:ġ} (it:Ø) (lo:Int) (n:Nat):Turn P w K tg (uC lo n) [it] it (λi h=>IsRangeIter h it (lo+(i:Nat)*1) ((n:Int)-(i:Nat)) 1) where
 mem:=by simp
 obj:=λi h Z b Y=>by
  have e:b=it:=by simpa using Y
  subst e;exact⟨_,Z,λv z=>by
   have G:Data.fields _=Data.cell v:=z;cases G⟩
 keep:=λi h V Z k=>k it (by simp) _ Z
 item:=by
  intro X T hw S R i M s σ H E I U Z Q;subst T hw S;obtain⟨f0,f1,f2,O,f4,N⟩:=U it (by simp);have W:=Walks.range (prog:=X.prog) (w:=X.w) (I.ok.hd R) it lo 1 n;refine W.item i s _ _ Q Z λv V L F J D=>?_;obtain⟨t,rfl⟩:=F
  have C:Inv X M σ H { s with heap:=V,toks:=L }:=I.turned (λb o Y e=>D b o (by simpa using Y) e) f0 f1 O f4 N
  refine⟨_,rfl,Bn (s:={ s with heap:=V,toks:=L }) (n:="range_iterator") J rfl rfl (by decide) ⟨.int (lo+i),H,C,⟨t,?_⟩,⟨rfl,rfl⟩,J,λb Y=>(U b Y).1⟩⟩
  rw[Int.mul_one]
 done:=by
  intro X T hw S R i M s σ H E I U Z Q;subst T hw S;obtain⟨f0,f1,f2,O,f4,N⟩:=U it (by simp);exact wpAny_pyNext_range_end (I.ok.hd R) Z (by have:n<=i:=Q;omega) λV B=>⟨rfl,I.turned (t':=s.toks) (λb o Y e=>B b o Y e) f0 f1 O f4 N⟩
 self:=λ_ _ _ _ _ Z h=>wpAny_pyIter_rangeiter Z h
section
variable {X:Cx} {tg:ġ}
def Jj (K:Ď) (tl:TE):TI:=fun σ H R=>tl σ H λx Z=>∃a,x=.ref a/\(∃Y,bw K Z a Y)/\R (CD K a) Z
def J1 (K:Ď) (tl:TE):TI:=fun σ H R=>tl σ H λx Z=>∃a,x=.ref a/\(∃Y,bC K Z a Y)/\R (CF K a) Z
def QX {l:ġ} {tl:TE} (hl:PE X l tl):PI X tg l (Jj X.K tl):=by
 intro W s σ H R I h;refine aG (hl W s σ H _ I h) λv Z ⟨x,V,Y,U,T⟩=>?_;obtain⟨a,e,⟨P,S⟩,q⟩:=T;subst e;cases U;obtain⟨its,O,p,N⟩:=Y.list S;refine ω p.isList ?_;refine⟨Z.heap.objs.size,[Z.heap.objs.size],_,_,V,rfl,Y.kept (t':=Z.toks) λb o e=>Á _ e,N6 a _,⟨_,Í _ rfl,rfl,rfl⟩,λb Q=>?_,q⟩;have e:b=Z.heap.objs.size:=by simpa using Q
 subst e;exact Y.xI (abG _) (Y.aB.fresh (abG _))
def SK {l:ġ} {tl:TE} (hl:PE X l tl):PI X tg l (J1 X.K tl):=by
 intro W s σ H R I h;refine aG (hl W s σ H _ I h) λv Z ⟨x,V,Y,U,T⟩=>?_;obtain⟨a,e,⟨P,S⟩,q⟩:=T;subst e;cases U;obtain⟨its,O,p,N⟩:=Y.tuple S;refine wpAny_pyIter_tuple (show Z.heap.IsTuple a its.toArray from p) ?_;refine⟨Z.heap.objs.size,[Z.heap.objs.size],_,_,V,rfl,Y.kept (t':=Z.toks) λb o e=>Á _ e,Ng a _,⟨_,Í _ rfl,rfl,rfl⟩,λb Q=>?_,q⟩;have e:b=Z.heap.objs.size:=by simpa using Q
 subst e;exact Y.xI (abG _) (Y.aB.fresh (abG _))
def Gg {π:List (Ø×Obj)} {σ:St} {H:Hp} {s:Ä} {R:It->Hp->Prop} {E:Å->Ä->Prop} {lo hi:Int} {t u v:Tok} {tk:Nat} (I:Inv X π σ H s) (h1:-(2 ^ 62)<=lo) (h2:lo<2 ^ 62) (h3:-(2 ^ 62)<=hi) (h4:hi<2 ^ 62)
  (q:R (uC lo (hi-lo).toNat) H):Û (ä X.prog X.w) X.A (pyIter (.ref s.heap.objs.size)) (KU X π σ tg R) E { s with heap:=s.heap.push { cls:=.type "range",data:=.fields #[.int lo t,.int hi u,.int 1 v] },toks:=tk }:=by
 refine wpAny_pyIter_range (IsRange.new ..) (small_one h1 h2 h3 h4) ?_
 have Z:Inv X π σ H { s with heap:=s.heap.push { cls:=.type "range",data:=.fields #[.int lo t,.int hi u,.int 1 v] },toks:=tk }:=I.kept λb o e=>Á _ e
 refine⟨(s.heap.push { cls:=.type "range",data:=.fields #[.int lo t,.int hi u,.int 1 v] }).objs.size,[(s.heap.push { cls:=.type "range",data:=.fields #[.int lo t,.int hi u,.int 1 v] }).objs.size],_,_,H,rfl,
  Z.kept (t':=tk) λb o e=>Á _ e,Nh _ lo (hi-lo).toNat,?_,λb Y=>?_,q⟩
 ·have e1:lo+((0:Nat):Int)*1=lo:=by simp
  have e2:(((hi-lo).toNat:Nat):Int)-((0:Nat):Int)=Builtin.Range.rangeSize lo hi 1:=by rw[rangeSize_one];split<;>omega
  show IsRangeIter _ _ (lo+((0:Nat):Int)*1) ((((hi-lo).toNat:Nat):Int)-((0:Nat):Int)) 1;rw[e1,e2];exact Í _ rfl
 ·have e:b=(s.heap.push { cls:=.type "range",data:=.fields #[.int lo t,.int hi u,.int 1 v] }).objs.size:=by simpa using Y
  subst e;exact Z.xI (abG _) (Z.aB.fresh (abG _))
def UQ (ta:TA):TI:=fun σ H R=>ta σ H λZ Y=>∃j:Int,Z=[.int j]/\-(2 ^ 62)<=j/\j<2 ^ 62/\R (uC 0 j.toNat) Y
def UR (ta:TA):TI:=fun σ H R=>ta σ H λZ Y=>∃i j:Int,Z=[.int i,.int j]/\(-(2 ^ 62)<=i/\i<2 ^ 62/\-(2 ^ 62)<=j/\j<2 ^ 62)/\R (uC i (j-i).toNat) Y
def N7 {a:ġ} {ta:TA} {p pos:Pos} (hg:Gl X "range") (hm:X.mg "range"=none) (ha:PA X [a] ta) (hs:Ê [a] X.env=[(false,ĩ a X.env)]:=by rfl):PI X tg (.Call (.Name "range" p) [a] [] pos) (UQ ta):=by
 intro Y s σ H R I h;refine Call_ (qB I hg hm boot_range (Ŗ (aG (ha pos Y s σ H _ I h) λS Q ⟨P,O,W,V,Z⟩=>?_) hs rfl));obtain⟨j,e,Z,U,q⟩:=Z;subst e
 cases V with
 |cons r T =>
  cases T;obtain⟨t,rfl⟩:=r;exact call_range_1 (Gg W (by omega) (by omega) Z U (by simpa using q))
def N8 {a b:ġ} {ta:TA} {p pos:Pos} (hg:Gl X "range") (hm:X.mg "range"=none) (ha:PA X [a,b] ta) (hs:Ê [a,b] X.env=[(false,ĩ a X.env),(false,ĩ b X.env)]:=by rfl) (cI:Ê [b] X.env=[(false,ĩ b X.env)]:=by rfl) :
  PI X tg (.Call (.Name "range" p) [a,b] [] pos) (UR ta):=by
 intro W s σ H R I h;refine Call_ (qB I hg hm boot_range (Ŗ (aG (ha pos W s σ H _ I h) λO N ⟨M,L,V,U,Z⟩=>?_) (by rw[hs,cI]) (by rw[cI];rfl)));obtain⟨i,j,e,⟨Z,T,S,Q⟩,q⟩:=Z;subst e
 cases U with
 |cons r Y =>
  cases Y with
  |cons P Y =>
   cases Y;obtain⟨t,rfl⟩:=r;obtain⟨K,rfl⟩:=P;exact call_range_2 (Gg V Z T S Q q)
def J2 (wi:TI) (g:TG) (tb:TS):TS:=λD σ H=>wi σ H λJ V=>∃W:Nat->Nat->St->Hp->Prop,(∃m,W 0 m σ V)/\∀i m σ H,W i m σ H ->
 (J.stop i H/\D.nx σ H)\/(J.go i H/\∃N:St->Hp->Prop,(∀ Y Z,N Y Z->∃X,X < m/\W (i+1) X Y Z)/\∀x Z,J.rK i H x Z->g x σ Z fun U T=>tb { D with nx:=N,ct:=N,bk:=D.nx } U T)
noncomputable def m7 (fp:List Ø) (h:ĥ):List (Ø×Obj):=fp.filterMap λb=>(h.get? b).map λo=>(b,o)
def qe (hb:b∈fp) (e:h.get? b=some o):(b,o)∈m7 fp h:=aaq.mpr ⟨b,hb,by rw[e];rfl⟩
def FH (hp:p∈m7 fp h):p.1∈fp/\h.get? p.1=some p.2:=by
 obtain⟨b,Z,e⟩:=aaq.mp hp
 cases q:h.get? b with
 |none=>rw[q] at e;cases e
 |some o =>
  rw[q] at e;have Y:(b,o)=p:=abH e;subst Y;exact⟨Z,q⟩
def Inv.pinned {π:List (Ø×Obj)} {σ:St} {H:Hp} {s:Ä} {fp:List Ø} (I:Inv X π σ H s) (hf:∀b∈fp,fO X π H b) (ho:∀b∈fp,∃o,s.heap.get? b=some o/\∀v,o.data≠.cell v):Inv X (π++m7 fp s.heap) σ H s :=
 I.lX λp W=>(Ą.mp W).elim (λz=>I.pin p (Î _ z)) λz=>by
  obtain⟨Z,e⟩:=FH z;obtain⟨f0,f1,f2,_⟩:=hf p.1 Z;obtain⟨o,Y,d⟩:=ho p.1 Z;rw[e] at Y;cases Y;exact⟨e,f0,f1,f2,d⟩
def Inv.lV {π pl:List (Ø×Obj)} {σ:St} {H:Hp} {s:Ä} (I:Inv X (π++pl) σ H s):Inv X π σ H s:=I.lX λp Z=>I.pin p (Î _ (ý _ Z))
def SM {iter:ġ} {body:List aaX} {wi:TI} {g:TG} {tb:TS} {pos:Pos} (hp:PassesOwn (ä X.prog X.w) X.A X.env X.xe) (hc:X.calm=true) (hi:PI X tg iter wi) (hg:PG X tg g) (hb:cP X body tb)
  (hs:∀x,ù iter X.env x=pure x:=by intro _;rfl):PS X (.For tg iter body [] pos) (J2 wi g tb):=by
 intro R s σ H D I h;refine wpAny_For (aG (hi R s σ H _ I h) λv s1 p=>aG p λgy s2 l=>?_) hs;obtain⟨it,Q,E,J,k,e,j,T,c,f2,W,⟨m0,a⟩,turn⟩:=l;subst e;have stat:∀{U:Hp},(∀b∈Q,U b=none)->∀b∈Q,fO X R U b:=λhn b hb=>⟨hn b hb,(f2 b hb).2⟩;refine codeAny_forLoop_any (λn C=>∃i P U,Inv X R P U C/\E i C.heap/\(∀b∈Q,U b=none)/\W i n P U) ?_ m0 ⟨0,σ,k,j,c,λb hb=>(f2 b hb).1,a⟩;rintro n B ⟨i,O,L,z,y,t,w3⟩
 rcases turn i n O L w3 with ⟨stop,qn⟩ | ⟨go,N,hN,step⟩
 ·refine aar hp (aG (T.done X rfl rfl rfl hc i R B O L X.xe z (stat t) y stop) λr s4 ⟨K,I4⟩=>?_)
  subst K;exact wpAny_execs_nil ⟨O,L,I4,qn⟩
 ·refine aar hp (aG (T.item X rfl rfl rfl hc i R B O L X.xe z (stat t) y go) λr s4 ⟨u,K,h4⟩=>?_)
  subst K;refine aar hp (aG h4 λ_ s5 ⟨x,q,I5,r5,y5,G,uD⟩=>?_);have uE:=I5.pinned (stat uD) (T.obj _ _ G);refine aar hp (aG (hg _ s5 O q x u _ uE r5 (step x q y5)) λ_ s6 ⟨Xl,H6,I6,q6⟩=>?_);refine aar hp (aG (hb _ s6 Xl H6 _ I6 q6) λf F S=>?_);have again:∀{Z:St} {Y:Hp},Inv X (R++m7 Q s5.heap) Z Y F->N Z Y->∃m,m<n/\∃i P U,Inv X R P U F/\E i F.heap/\(∀b∈Q,U b=none)/\W i m P U:=λ{Z Y} V M=>by
   obtain⟨m',hm,w7⟩:=hN Z Y M;refine⟨m',hm,i+1,Z,Y,V.lV,T.keep _ _ _ G λb hb o e=>(V.pin (b,o) (Î _ (Î _ (qe hb e)))).1,λb hb=>?_,w7⟩;obtain⟨o,e,d⟩:=T.obj _ _ G b hb;exact(V.pin (b,o) (Î _ (Î _ (qe hb e)))).2.1
  cases f with
  |next=>obtain⟨Z,Y,V,M⟩:=S;exact again V M
  |cont=>obtain⟨Z,Y,V,M⟩:=S;exact again V M
  |brk=>obtain⟨Z,Y,V,S⟩:=S;exact⟨Z,Y,V.lV,S⟩
  |ret v=>obtain⟨x7,Z,Y,V,r7,S⟩:=S;exact⟨x7,Z,Y,V.lV,r7,S⟩
end
abbrev R2:=V->V->Hp->VK->Prop
def bG (X:Cx) (f:Å->Å->Sem Å) (r:R2):Prop :=
 ∀(Z:List (Ø×Obj)) (s:Ä) (σ:St) (H:Hp) (x y:V) (v u:Å) (Q:VK),Inv X Z σ H s->RelV x v->RelV y u->r x y H Q ->
  Û (ä X.prog X.w) X.A (f v u) (EP X Z σ Q) X.xe s
def uF (X:Cx) (f:Å->Sem Å) (r:V->Hp->VK->Prop):Prop :=
 ∀(Z:List (Ø×Obj)) (s:Ä) (σ:St) (H:Hp) (x:V) (v:Å) (Q:VK),Inv X Z σ H s->RelV x v->r x H Q ->
  Û (ä X.prog X.w) X.A (f v) (EP X Z σ Q) X.xe s
def cS (X:Cx) (f:Å) (r:List V->Hp->VK->Prop):Prop :=
 ∀(Z:List (Ø×Obj)) (s:Ä) (σ:St) (H:Hp) (Y:List V) (W:List Å) (Q:VK),Inv X Z σ H s->Vals Y W->r Y H Q ->
  Û (ä X.prog X.w) X.A (call f W) (EP X Z σ Q) X.xe s
def Wm (X:Cx) (r:V->Hp->(Bool->Hp->Prop)->Prop):Prop :=
 ∀(Z:List (Ø×Obj)) (s:Ä) (σ:St) (H:Hp) (x:V) (v:Å) (Q:Bool->Hp->Prop),Inv X Z σ H s->RelV x v->r x H Q ->
  Û (ä X.prog X.w) X.A (truthy v) (TP X Z σ Q) X.xe s
def uG (r:R2) (ta tb:TE):TE:=fun σ H Q=>ta σ H λx Z=>tb σ Z λy Y=>r x y Y Q
def Xm (r:V->Hp->VK->Prop) (ta:TE):TE:=fun σ H Q=>ta σ H λx Z=>r x Z Q
def rI (C:Int->Int->Prop) (g:Int->Int->V):R2:=λx y H Q=>∃i j,x=.int i/\y=.int j/\C i j/\Q (g i j) H
def pJ (g:Int->Int->V):R2:=λx y H Q=>∃i j,x=.int i/\y=.int j/\Q (g i j) H
def rU (g:Int->V):V->Hp->VK->Prop:=λx H Q=>∃i,x=.int i/\Q (g i) H
section
variable {X:Cx} {a b c:ġ} {ta tb tc:TE} {pos:Pos}
def BZ (ha:PE X a ta) (hb:PE X b tb) {π:List (Ø×Obj)} {s:Ä} {σ:St} {H:Hp} {R:V->V->Hp->Prop} (I:Inv X π σ H s)
  (h:ta σ H λx H1=>tb σ H1 λy H2=>R x y H2) {Q:Å->Ä->Prop} {f:Å->Å->Sem Å}
  (hf:∀v u s2 x y H2,Inv X π σ H2 s2->RelV x v->RelV y u->R x y H2->Û (ä X.prog X.w) X.A (f v u) Q X.xe s2) :
  Û (ä X.prog X.w) X.A (ĩ a X.env) (λv bB=>Û (ä X.prog X.w) X.A (ĩ b X.env) (λu qX=>Û (ä X.prog X.w) X.A (f v u) Q X.xe qX) X.xe bB) X.xe s:=by
 refine aG (ha π s σ H _ I h) λv Z ⟨x,H1,Y,W,U⟩=>?_;refine aG (hb π Z σ H1 _ Y U) λu s2 ⟨y,H2,T,S,P⟩=>?_;exact hf v u s2 x y H2 T W S P
def US (ho:bG X (ĺ op) r) (ha:PE X a ta) (hb:PE X b tb):PE X (.BinOp a op b pos) (uG r ta tb):=by
 intro Z s σ H Q I h;exact wpAny_BinOp (BZ ha hb I h λv u Y x y W V U T q=>ho Z Y σ W x y v u Q V U T q)
def UT {op:UnaryOp} {r:V->Hp->VK->Prop} (ho:uF X (unaryOp op) r) (ha:PE X a ta):PE X (.UnaryOp op a pos) (Xm r ta):=by
 intro Z s σ H Q I h;exact UnaryOp_ (aG (ha Z s σ H _ I h) λv Y ⟨x,W,U,T,S⟩=>ho Z Y σ W x v Q U T S)
def yk {C:Int->Int->Prop} {g:Int->Int->Int}
 (rule:∀(i j:Int) (t u:Tok) (s:Ä) (Q:Å->Ä->Prop) (E:Å->Ä->Prop),C i j->Q (.int (g i j) s.toks) { s with toks:=s.toks+1 }->Û (ä X.prog X.w) X.A (f (.int i t) (.int j u)) Q E s) :
  bG X f (rI C λi j=>.int (g i j)):=by
 intro U s σ H x y v u Q I Z Y h;obtain⟨i,j,rfl,rfl,W,q⟩:=h;obtain⟨t,rfl⟩:=Z;obtain⟨V,rfl⟩:=Y;exact rule i j t V s _ _ W ⟨.int (g i j),H,I.tok _,⟨_,rfl⟩,q⟩
def J3 {g:Int->Int->Int}
 (rule:∀(i j:Int) (t u:Tok) (s:Ä) (Q:Å->Ä->Prop) (E:Å->Ä->Prop),Q (.int (g i j) s.toks) { s with toks:=s.toks+1 }->Û (ä X.prog X.w) X.A (f (.int i t) (.int j u)) Q E s) :
  bG X f (pJ λi j=>.int (g i j)):=by
 intro V s σ H x y v u Q I Z Y h;obtain⟨i,j,rfl,rfl,q⟩:=h;obtain⟨t,rfl⟩:=Z;obtain⟨W,rfl⟩:=Y;exact rule i j t W s _ _ ⟨.int (g i j),H,I.tok _,⟨_,rfl⟩,q⟩
def B0 {g:Int->Int->Bool}
 (rule:∀(i j:Int) (t u:Tok) (s:Ä) (Q:Å->Ä->Prop) (E:Å->Ä->Prop),Q (.bool (g i j)) s->Û (ä X.prog X.w) X.A (f (.int i t) (.int j u)) Q E s) :
  bG X f (pJ λi j=>.bl (g i j)):=by
 intro V s σ H x y v u Q I Z Y h;obtain⟨i,j,rfl,rfl,q⟩:=h;obtain⟨t,rfl⟩:=Z;obtain⟨W,rfl⟩:=Y;exact rule i j t W s _ _ ⟨.bl (g i j),H,I,rfl,q⟩
def Wn (i j:Int):Prop:=0<j/\j<1073741824
def Wo (i j:Int):Prop:=0<=j/\j<=1000000/\i.natAbs<2 ^ 64
def xJ (i j:Int):Prop:=(-(2 ^ 64)<i/\i<2 ^ 64)\/(-(2 ^ 64)<j/\j<2 ^ 64)
def xJ.ok (h:xJ i j):IntMulOk i j:=by
 rcases h with ⟨Z,Y⟩ | ⟨Z,Y⟩
 ·exact .of_left (intBits_le_64 Z Y)
 ·exact .of_right (intBits_le_64 Z Y)
def SN:bG X (ĺ .Add) (pJ λi j=>.int (i+j)):=J3 λ_ _ _ _ _ _ _ q=>add_int q
def SO:bG X (ĺ .Sub) (pJ λi j=>.int (i-j)):=J3 λ_ _ _ _ _ _ _ q=>sub_int q
def SQ:bG X (ĺ .Mult) (rI xJ λi j=>.int (i*j)):=yk λ_ _ _ _ _ _ _ Z q=>mul_int q Z.ok
def QY:bG X (ĺ .FloorDiv) (rI Wn λi j=>.int (i / j)):=yk λi j _ _ _ _ _ Z q=>by
 have Y:(0:Int)<j:=Z.1;have W:j<1073741824:=Z.2;exact floordiv_int (by omega) (by rw[Int.fdiv_eq_ediv_of_nonneg i (by omega)];exact q) (.inl (PyProof.noPylong_small (by omega)))
def SR:bG X (ĺ .Mod) (rI (λ_ j=>0<j) λi j=>.int (i % j)):=yk λi j _ _ _ _ _ Z q=>by
 have Y:(0:Int)<j:=Z;exact mod_int' (by omega) (by rw[Int.fmod_eq_emod_of_nonneg i (by omega)];exact q)
def SS:bG X (ĺ .Pow) (rI Wo λi j=>.int (i ^ j.toNat)):=yk λ_ _ _ _ _ _ _ Z q=>pow_int_small Z.1 Z.2.1 Z.2.2 q
def Xn {g:Int->Int}
 (rule:∀(i:Int) (t:Tok) (s:Ä) (Q:Å->Ä->Prop) (E:Å->Ä->Prop),Q (.int (g i) s.toks) { s with toks:=s.toks+1 }->Û (ä X.prog X.w) X.A (f (.int i t)) Q E s) :
  uF X f (rU λi=>.int (g i)):=by
 intro Y s σ H x v Q I Z h;obtain⟨i,rfl,q⟩:=h;obtain⟨t,rfl⟩:=Z;exact rule i t s _ _ ⟨.int (g i),H,I.tok _,⟨_,rfl⟩,q⟩
def SU:uF X (unaryOp .USub) (rU λi=>.int (-i)):=Xn λ_ _ _ _ _ q=>neg_int q
end
noncomputable def B1:V->V->Bool
 | .ar,.ar=>true | .ar,.int _=>true | .int _,.ar=>true | .ar,.bl _=>true | .bl _,.ar=>true | .ar,.str _=>true | .str _,.ar=>true
 | .int _,.int _=>true | .bl _,.bl _=>true | .str _,.str _=>true | .iI _,.iI _=>true
 | .int _,.str _=>true | .str _,.int _=>true | .bl _,.str _=>true | .str _,.bl _=>true
 |_,_=>false
def Xo:R2:=λx y H Q=>B1 x y=true/\Q (.bl (decide (x=y))) H
def Xp:R2:=λx y H Q=>B1 x y=true/\Q (.bl (!decide (x=y))) H
def Hc:decide (V.int i=V.int j)=(i==j):=by
 rw[Ł];simp
def H9:decide (V.bl i=V.bl j)=(i==j):=by
 rw[Ł];simp
def zR:decide (V.str i=V.str j)=(i==j):=by
 rw[Ł];simp
def Hd:decide (V.iI i=V.iI j)=(i.toList==j.toList):=by
 rw[Ł];cases i;cases j;simp
section
variable {X:Cx} {a b c:ġ} {ta tb tc:TE} {pos:Pos}
def cJ {π:List (Ø×Obj)} {σ:St} {H:Hp} {s:Ä} {Q:VK} {k k':Bool} (I:Inv X π σ H s) (q:Q (.bl k) H) (e:k=k'):EP X π σ Q (.bool k') s:=by
 subst e;exact⟨.bl k,H,I,rfl,q⟩
def UU:bG X (Ě .Eq) Xo:=by
 intro U s σ H x y v u Q I V Z h;obtain⟨hs,q⟩:=h
 cases x with
 |ar =>
  cases V
  cases y with
  |ar=>cases Z;exact PySem.EqNone.eq_none_none (cJ I q (by simp))
  |bl j=>cases Z;exact PySem.EqNone.eq_none_bool (cJ I q (by simp))
  |int j=>obtain⟨Y,rfl⟩:=Z;exact PySem.EqNone.eq_none_int (cJ I q (by simp))
  |str j=>obtain⟨Y,rfl⟩:=Z;exact PySem.EqNone.eq_none_str (cJ I q (by simp))
  |_=>exact absurd (show false=true from hs) Ï
 |bl i =>
  cases V
  cases y with
  |ar=>cases Z;exact PySem.EqNone.eq_bool_none (cJ I q (by simp))
  |bl j=>cases Z;exact eq_bool (cJ I q H9)
  |str j=>obtain⟨Y,rfl⟩:=Z;exact PySem.EqMixed.eq_bool_str (cJ I q (by simp))
  |_=>exact absurd (show false=true from hs) Ï
 |int i =>
  obtain⟨t,rfl⟩:=V
  cases y with
  |ar=>cases Z;exact PySem.EqNone.eq_int_none (cJ I q (by simp))
  |int j=>obtain⟨Y,rfl⟩:=Z;exact eq_int (cJ I q Hc)
  |str j=>obtain⟨Y,rfl⟩:=Z;exact PySem.EqMixed.eq_int_str (cJ I q (by simp))
  |_=>exact absurd (show false=true from hs) Ï
 |str i =>
  obtain⟨t,rfl⟩:=V
  cases y with
  |ar=>cases Z;exact PySem.EqNone.eq_str_none (cJ I q (by simp))
  |bl j=>cases Z;exact PySem.EqMixed.eq_str_bool (cJ I q (by simp))
  |int j=>obtain⟨Y,rfl⟩:=Z;exact PySem.EqMixed.eq_str_int (cJ I q (by simp))
  |str j=>obtain⟨Y,rfl⟩:=Z;exact eq_str (cJ I q zR)
  |_=>exact absurd (show false=true from hs) Ï
 |iI i =>
  obtain⟨t,rfl⟩:=V
  cases y with
  |iI j=>obtain⟨Y,rfl⟩:=Z;exact PySem.W.eq_bytes (cJ I q Hd)
  |_=>exact absurd (show false=true from hs) Ï
 |_=>cases y<;>exact absurd (show false=true from hs) Ï
def Jk:bG X (Ě .NotEq) Xp:=by
 intro U s σ H x y v u Q I V Z h;obtain⟨hs,q⟩:=h
 cases x with
 |ar =>
  cases V
  cases y with
  |ar=>cases Z;exact PySem.EqNone.ne_none_none (cJ I q (by simp))
  |bl j=>cases Z;exact PySem.EqNone.ne_none_bool (cJ I q (by simp))
  |int j=>obtain⟨Y,rfl⟩:=Z;exact PySem.EqNone.ne_none_int (cJ I q (by simp))
  |str j=>obtain⟨Y,rfl⟩:=Z;exact PySem.EqNone.ne_none_str (cJ I q (by simp))
  |_=>exact absurd (show false=true from hs) Ï
 |bl i =>
  cases V
  cases y with
  |ar=>cases Z;exact PySem.EqNone.ne_bool_none (cJ I q (by simp))
  |bl j=>cases Z;exact ne_bool (cJ I q (Ķ not H9))
  |str j=>obtain⟨Y,rfl⟩:=Z;exact PySem.EqMixed.ne_bool_str (cJ I q (by simp))
  |_=>exact absurd (show false=true from hs) Ï
 |int i =>
  obtain⟨t,rfl⟩:=V
  cases y with
  |ar=>cases Z;exact PySem.EqNone.ne_int_none (cJ I q (by simp))
  |int j=>obtain⟨Y,rfl⟩:=Z;exact ne_int (cJ I q (Ķ not Hc))
  |str j=>obtain⟨Y,rfl⟩:=Z;exact PySem.EqMixed.ne_int_str (cJ I q (by simp))
  |_=>exact absurd (show false=true from hs) Ï
 |str i =>
  obtain⟨t,rfl⟩:=V
  cases y with
  |ar=>cases Z;exact PySem.EqNone.ne_str_none (cJ I q (by simp))
  |bl j=>cases Z;exact PySem.EqMixed.ne_str_bool (cJ I q (by simp))
  |int j=>obtain⟨Y,rfl⟩:=Z;exact PySem.EqMixed.ne_str_int (cJ I q (by simp))
  |str j=>obtain⟨Y,rfl⟩:=Z;exact ne_str (cJ I q (Ķ not zR))
  |_=>exact absurd (show false=true from hs) Ï
 |iI i =>
  obtain⟨t,rfl⟩:=V
  cases y with
  |iI j=>obtain⟨Y,rfl⟩:=Z;exact PySem.W.ne_bytes (cJ I q (Ķ not Hd))
  |_=>exact absurd (show false=true from hs) Ï
 |_=>cases y<;>exact absurd (show false=true from hs) Ï
def UW:bG X (Ě .LtE) (pJ λi j=>.bl (decide (i<=j))):=B0 λ_ _ _ _ _ _ _ q=>le_int q
def UX:bG X (Ě .Gt) (pJ λi j=>.bl (decide (j<i))):=B0 λ_ _ _ _ _ _ _ q=>gt_int q
def UY:bG X (Ě .GtE) (pJ λi j=>.bl (decide (j<=i))):=B0 λ_ _ _ _ _ _ _ q=>ge_int q
def bg (b:ġ) (h:op≠.In:=by decide) (h2:op≠.NotIn:=by decide):aas op b=false:=by
 have e1:(op==CmpOp.In)=false:=by cases op<;>first|rfl|exact absurd rfl h
 have e2:(op==CmpOp.NotIn)=false:=by cases op<;>first|rfl|exact absurd rfl h2
 cases b<;>simp[aas,e1,e2]
def QZ (ho:bG X (Ě op) r) (ha:PE X a ta) (hb:PE X b tb) (hm:aas op b=false):PE X (.Compare a [op] [b] pos) (uG r ta tb):=by
 intro Z s σ H Q I h;exact wpAny_Compare1 (BZ ha hb I h λv u Y x y W V U T q=>ho Z Y σ W x y v u Q V U T q) hm
def xm (t:TE):TT:=fun σ H Q=>t σ H λx Z=>∃k,x=.bl k/\Q k Z
def Q0 {op:CmpOp} {r:R2} (ho:bG X (Ě op) r) (ha:PE X a ta) (hb:PE X b tb) (hm:aas op b=false):PT X (.Compare a [op] [b] pos) (xm (uG r ta tb)):=by
 intro Z s σ H Q I h;refine wpAny_isTrue_Compare1 (aG (ha Z s σ H _ I h) λv Y ⟨x,W,V,U,T⟩=>aG (hb Z Y σ W _ V T) λu S ⟨y,R,P,O,N⟩ =>
  aG (ho Z S σ R x y v u _ P U O N) λc G ⟨z,M,L,K,k,e,J⟩=>?_) hm
 subst e;cases K;exact ő ⟨M,L,J⟩
def Ia (r r':R2) (ta tb tc:TE):TE:=fun σ H Q=>ta σ H λx Y=>tb σ Y λy X=>r x y X λz Z=>∃k,z=.bl k /\
 (if k=true then tc σ Z λW V=>r' y W V Q else Q (.bl false) Z)
def Pa {op rL:CmpOp} {r r':R2} (ho:bG X (Ě op) r) (fQ:bG X (Ě rL) r') (ha:PE X a ta) (hb:PE X b tb) (hc:PE X c tc)
  (hm:lastMarks [op,rL] [b,c]=false:=by with_unfolding_all rfl):PE X (.Compare a [op,rL] [b,c] pos) (Ia r r' ta tb tc):=by
 intro Z s σ H Q I h;refine Compare_chain (aG (ha Z s σ H _ I h) λv T ⟨x,S,R,P,O⟩=>chain_link (aG (hb Z T σ S _ R O) λu N ⟨y,M,L,Y,K⟩ =>
  aG (ho Z N σ M x y v u _ L P Y K) λd J ⟨z,W,V,G,k,e,U⟩=>?_)) hm
 subst e;cases G;refine ő ?_
 cases k with
 |false=>exact ite_ff ⟨.bl false,W,V,rfl,U⟩
 |true=>exact ite_tt (chain_last (aG (hc Z J σ W _ V U) λF E ⟨D,C,B,A,w⟩=>fQ Z E σ C y D u F Q B Y A w))
def oW (K:Ď) (x:V) (H:Hp) (k:Bool):Prop :=
 match x with
 | .ar=>k=false
 | .bl b=>k=b
 | .int i=>k=(i != 0)
 | .str y=>y.length<=Ú/\k=((y.length:Int) != 0)
 | .iI y=>y.size<=Ú/\k=((y.size:Int) != 0)
 | .ref p=>(∃Z,bw K H p Z/\k=!Z.isEmpty)\/(∃Z,bC K H p Z/\k=!Z.isEmpty)\/∃Y,H p=some (.dK Y)/\k=!Y.isEmpty
 |_=>False
def Ni {κ:Type} {aF:List (κ×V)} {vs:List (κ×Å)} (r:KV aF vs):(!vs.isEmpty)=!aF.isEmpty:=by
 cases r<;>rfl
def Fm (r:Vals xs its):(!its.toArray.isEmpty)=!xs.isEmpty:=by
 cases r<;>simp
def oF:(Ú:Nat)<2 ^ 63:=by rw[ν];decide
def Ib:Wm X (λx H Q=>∃k,oW X.K x H k/\Q k H):=by
 intro J s σ H x v Q I U h;obtain⟨k,e,q⟩:=h;have G:=oF;have hs:Ú=16777216:=ν
 cases x with
 |ar =>
  cases U;have Z:k=false:=e;subst Z;exact truthy_none ⟨H,I,q⟩
 |bl b =>
  cases U;have Z:k=b:=e;subst Z;exact ő ⟨H,I,q⟩
 |int i =>
  obtain⟨t,rfl⟩:=U;have Z:k=(i != 0):=e;subst Z;exact PySem.P.truthy_int ⟨H,I,q⟩
 |str y =>
  obtain⟨t,rfl⟩:=U;obtain⟨M,Z⟩:y.length<=Ú/\k=((y.length:Int) != 0):=e;subst Z;exact PySem.P.truthy_str (by omega) ⟨H,I.tok _,q⟩
 |iI y =>
  obtain⟨t,rfl⟩:=U;obtain⟨M,Z⟩:y.size<=Ú/\k=((y.size:Int) != 0):=e;subst Z;exact PySem.W.truthy_bytes (by omega) ⟨H,I.tok _,q⟩
 |ref p =>
  cases U;have Z:(∃V,bw X.K H p V/\k=!V.isEmpty)\/(∃V,bC X.K H p V/\k=!V.isEmpty)\/∃T,H p=some (.dK T)/\k=!T.isEmpty:=e
  rcases Z with ⟨V,S,Z⟩ | ⟨V,S,Z⟩ | ⟨T,S,Z⟩
  ·subst Z
   obtain⟨its,r,O,N⟩:=I.list S;have Y:=r.length;exact wpAny_truthy_list O.isList (by simp only[Ù];omega) ⟨H,I.tok _,by rw[Fm r];exact q⟩
  ·subst Z
   obtain⟨its,r,O,N⟩:=I.tuple S;have Y:=r.length;exact truthy_tuple O (by simp only[Ù];omega) ⟨H,I.tok _,by rw[Fm r];exact q⟩
  ·subst Z
   obtain⟨N,L,R,r,m⟩:T.length<=Ú/\(p==aba)=false/\∃R,KV T R/\s.heap.DictOf (v9 X.prog X.w) p R:=I.aB p _ S;have Y:T.length=R.length:=Paired.length r;exact wpAny_truthy_dict L m (by omega) ⟨H,I.tok _,by rw[Ni r];exact q⟩
 |_=>exact(show False from e).elim
def Pb (ha:PE X a ta) (he:∀whole,isTrue a X.env whole=(do let v <- whole;ZZ a.pos;μ [v] (truthy v))) :
  PT X a (fun σ H Q=>ta σ H λx H'=>∃k,oW X.K x H' k/\Q k H'):=by
 intro Z s σ H Q I h;exact isTrue_plain (aG (ha Z s σ H _ I h) λv Y ⟨x,W,V,U,T⟩=>Ib Z Y σ W x v Q V U T) (he _)
def Nj:bG X (ĺ .Add) (λx y H Q=>∃i j,x=.str i/\y=.str j/\i.length+j.length<=Ú/\Q (.str (i++j)) H):=by
 intro U s σ H x y v u Q I Z Y h;obtain⟨i,j,rfl,rfl,W,q⟩:=h;obtain⟨t,rfl⟩:=Z;obtain⟨V,rfl⟩:=Y;exact add_str (λV T=>⟨.str (i++j),H,I.tok _,⟨_,rfl⟩,q⟩) W
def vals1 (r:Vals [x] us):∃u,us=[u]/\RelV x u:=by
 cases r with
 |cons Z Y=>cases Y;exact⟨_,rfl,Z⟩
def vals2 (r:Vals [x,y] us):∃u w',us=[u,w']/\RelV x u/\RelV y w':=by
 cases r with
 |cons Z Y =>
  cases Y with
  |cons X W=>cases W;exact⟨_,_,rfl,Z,X⟩
def N9 (hc:X.calm=true):cS X (.builtin "max") (λxs H Q=>∃i j,xs=[.int i,.int j]/\Q (.int (if j > i then j else i)) H):=by
 intro Y s σ H xs W Q I r h;obtain⟨i,j,rfl,q⟩:=h;obtain⟨u,V,rfl,⟨t,rfl⟩,⟨U,rfl⟩⟩:=vals2 r;refine max_two_ints (I.ok.hd hc) λT S k=>⟨_,H,I.kept k,?_,q⟩;by_cases Z:j > i
 ·rw[ß Z,ß Z];exact⟨_,rfl⟩
 ·rw[è Z,è Z];exact⟨_,rfl⟩
def Oa (hc:X.calm=true):cS X (.builtin "min") (λxs H Q=>∃i j,xs=[.int i,.int j]/\Q (.int (if j<i then j else i)) H):=by
 intro Y s σ H xs W Q I r h;obtain⟨i,j,rfl,q⟩:=h;obtain⟨u,V,rfl,⟨t,rfl⟩,⟨U,rfl⟩⟩:=vals2 r;refine min_two_ints (I.ok.hd hc) λT S k=>⟨_,H,I.kept k,?_,q⟩;by_cases Z:j<i
 ·rw[ß Z,ß Z];exact⟨_,rfl⟩
 ·rw[è Z,è Z];exact⟨_,rfl⟩
end
structure oX (h:ĥ) (x dx C:Ø) (mA:Str->Option Å):Prop where
 obj:h.get? x=some (Ŕ C dx)
 ns:h.Ns1 dx mA
 ne:dx≠x
def Ob {h:ĥ} {dx:Ø} {mA:Str->Option Å} (n:h.Ns1 dx mA):∃od,h.get? dx=some od/\∀name,Z0 name od=some (mA name):=by
 obtain⟨o,Z,R,Y,X,W,_,V⟩:=n;refine⟨o,Y,λname=>?_⟩;have e:=V name;unfold nsFind findBy at e;rw[<- Array.find?_toList] at e;unfold Z0;rw[X];dsimp only;split
 ·rename_i y q
  rw[q] at e;exact Ķ some e
 ·rename_i q
  rw[q] at e;have a:Z.toList.any (·.refKey)=false:=by
   rw[List.any_eq_false];intro y U;obtain⟨z,t,T⟩:=W y (Array.mem_toList_iff.mp U);simp[DictEntry.refKey,T]
  have S:¬ Z.toList.any (·.refKey)=true:=by rw[a];exact Ï
  rw[è S];exact Ķ some e
def oX.look (I:oX h x dx C mA):∃od,PySem.W.InstAt h x (Ŕ C dx) C (some od)/\∀name,Z0 name od=some (mA name) :=
 let ⟨od,Z,Y⟩:=Ob I.ns
 ⟨od,⟨I.obj,rfl,rfl,Z⟩,Y⟩
section
variable {prog:ã} {w:Ă} {A:ê} {E:Å->Ä->Prop} {s:Ä} {K:Ď} {x dx C f:Ø} {mA:Str->Option Å} {name:Str} {v:Å}
def get_map (X:K.In s.heap) (I:oX s.heap x dx C mA) (hg:aa2 K C name=true) (hh:abu K C=true)
 (ha:ĵ K (.ref C) name=some none) (hv:mA name=some v) (yl:PySem.W.handedIn v=true) (h:Q v { s with toks:=s.toks+1 }) :
  Û (ä prog w) A (getAttr (.ref x) name expr) Q E s:=by
 obtain⟨Y,J,Z⟩:=I.look;exact PySem.W.get_value X J (abe hg).1 (PySem.W.findObj_own hh ha rfl (by rw[Z,hv])) yl h
def Pc (X:K.In s.heap) (I:oX s.heap x dx C mA) (hg:aa2 K C name=true)
 (hf:ĵ K (.ref C) name=some (some (.ref f))) (ht:PySem.W.isFn K (.ref f)=true) (hv:mA name=none) (h:Q (.ref f,[.ref x]) s) :
  Û (ä prog w) A (abf (.ref x) name pl) Q E s:=by
 obtain⟨Z,J,Y⟩:=I.look;exact PySem.W.method_fn X J (abe hg).1 (abe hg).2 hf (beq_iff_eq.mp ht) (by show (Z0 name Z).map (·.isSome)=some false;rw[Y,hv];rfl) h
def Q2 (X:K.In s.heap) (I:oX s.heap x dx C mA)
 (hs:ĵ K (.ref C) "__setattr__"=some (some (.builtin "object.__setattr__"))) (hp:PySem.W.plainOver K C=true) (ht:PySem.W.takerIn K C name=some none) (hh:abu K C=true)
 (hw:PySem.Within mA ns) (hsz:ns.length<=Ú)
 (h:∀h',oX h' x dx C (λy=>if y=name then some v else mA y)->İ dx s.heap h'->Q () { s with heap:=h',toks:=s.toks+2 }) :
  Û (ä prog w) A (setAttr (.ref x) name v) Q E s:=by
 obtain⟨O,J,N⟩:=I.look
 refine PySem.W.set_plain X J hs (PySem.W.osa_open (s:={ s with toks:=s.toks+1 }) (r:=none) X J hp ht λb=>?_)
 obtain⟨cd,V,U⟩:=PySem.W.any_some hh;have T:s.heap.get? x=some ⟨.ref C,some dx,.plain,#[]⟩:=I.obj
 refine À (Ã (À (À (wpAny_loadPart T (À (PySem.W.Looks.here (s:={ s with toks:=s.toks+1 }) (PySem.W.looks_clsIn X V) ?_))))))
 rw[U];refine Ã (a:=some dx) (À (Ã (À ?_)))
 refine wpAny_nsSet1 (s:={ s with toks:=s.toks+1 }) I.ns λh' Z Y=>?_
 obtain⟨M,L,H,S,R,P⟩:=Z.count (PySem.Within.cons name v hw);refine À (wpAny_lookBehind S (by rw[R];exact pastItsLine_dict (à P (by rw[ñ];omega))) ?_);exact Ã (h _ ⟨(Y.2 _ (Ŭ I.ne)).trans I.obj,Z,I.ne⟩ Y)
def Pd (X:K.In s.heap) (hm:PySem.W.makesIn K C=true)
 (hi:ĵ K (.ref C) "__init__"=some (some (.ref f))) (hf:PySem.W.typeIn K (.ref f)=some (.type "function"))
 (h:ŷ (ä prog w) (A.under (.builtin "type.__call__" ⟨.ref C::vs,kw⟩)) (.call (.ref f) ⟨.ref (s.heap.objs.size+1)::vs,kw⟩) (PySem.W.InitBack (s.heap.objs.size+1) R)
 { s with heap:=(s.heap.push ı).push (Ŕ C s.heap.objs.size) }) :
  ŷ (ä prog w) A (.call (.ref C) ⟨vs,kw⟩) R s:=by
 obtain⟨Z,g,d,t,os⟩:=s;exact PySem.W.make_core (PySem.W.makes_of X hm) (PySem.W.looks_findIn X hi) (λself=>PySem.W.bind_fn X self hf) (.inl rfl) h
end
noncomputable def eZ (f:Str) (v:V):List (Str×V)->List (Str×V)
 | []=>[(f,v)]
 |(g,x)::r=>if g=f then (g,v)::r else (g,x)::eZ f v r
theorem E8 (f g:Str) (v:V):∀fs:List (Str×V),(eZ f v fs).lookup g=if g=f then some v else fs.lookup g
 | []=>by
  show aae g [(f,v)]=_;by_cases h:g=f
  ·have Z:(g==f)=true:=beq_iff_eq.mpr h
   simp only[aae,Z,ß h]
  ·have Z:(g==f)=false:=beq_eq_false_iff_ne.mpr h
   simp only[aae,Z,è h]
 |(k,x)::r=>by
  have ih:=E8 f g v r
  rw[show eZ f v ((k,x)::r)=(if k=f then (k,v)::r else (k,x)::eZ f v r) from rfl]
  by_cases Y:k=f
  ·rw[ß Y]
   by_cases h:g=k
   ·have Z:(g==k)=true:=beq_iff_eq.mpr h
    simp only[aae,Z,ß (h.trans Y)]
   ·have Z:(g==k)=false:=beq_eq_false_iff_ne.mpr h
    simp only[aae,Z,è (λe:g=f=>h (e.trans Y.symm))]
  ·rw[è Y]
   by_cases h:g=k
   ·have Z:(g==k)=true:=beq_iff_eq.mpr h
    simp only[aae,Z,è (λe:g=f=>Y (h.symm.trans e))]
   ·have Z:(g==k)=false:=beq_eq_false_iff_ne.mpr h
    simp only[aae,Z];exact ih
theorem zf (f:Str) (v:V):∀fs:List (Str×V),f∈(eZ f v fs).map (·.1)/\∀g,g∈fs.map (·.1)->g∈(eZ f v fs).map (·.1)
 | []=>⟨by simp[eZ],λg h=>by simp at h⟩
 |(k,x)::r=>by
  obtain⟨Y,X⟩:=zf f v r
  rw[show eZ f v ((k,x)::r)=(if k=f then (k,v)::r else (k,x)::eZ f v r) from rfl]
  by_cases Z:k=f
  ·rw[ß Z]
   subst Z;exact⟨by simp,λg h=>by simpa using h⟩
  ·rw[è Z]
   refine⟨?_,λg h=>?_⟩
   ·rw[Ý]
    exact Ó _ Y
   ·rw[Ý] at h |-
    rcases Õ.mp h with e|e
    ·exact Õ.mpr (.inl e)
    ·exact Ó _ (X g e)
theorem E9 (f:Str) (v:V):∀fs:List (Str×V),(eZ f v fs).length<=fs.length+1
 | []=>by simp[eZ]
 |(k,x)::r=>by
  have ih:=E9 f v r
  rw[show eZ f v ((k,x)::r)=(if k=f then (k,v)::r else (k,x)::eZ f v r) from rfl]
  by_cases Z:k=f
  ·rw[ß Z,ñ,ñ];omega
  ·rw[è Z,ñ,ñ];omega
def k9.some_of (r:k9 (some v) o):∃u,o=some u/\RelV v u:=by
 cases o with
 |none=>exact(show False from r).elim
 |some u=>exact⟨u,rfl,r⟩
def k9.none_of (r:k9 none o):o=none:=by
 cases o with
 |none=>rfl
 |some u=>exact(show False from r).elim
def Oc (r:RelV v u):PySem.W.handedIn u=true:=by
 cases v with
 |ar=>cases (show u=Value.none from r);rfl
 |bl b=>cases (show u=Ő b from r);rfl
 |int i=>obtain⟨t,e⟩:=(show ∃t,u=abc i t from r);cases e;rfl
 |str x=>obtain⟨t,e⟩:=(show ∃t,u=Value.str x t from r);cases e;rfl
 |iI b=>obtain⟨t,e⟩:=(show ∃t,u=Value.bytes b t from r);cases e;rfl
 |rD b=>obtain⟨t,e⟩:=(show ∃t,u=Value.float b t from r);cases e;rfl
 |ref a=>cases (show u=Ļ a from r);rfl
 |ty n=>cases (show u=Ş n from r);rfl
section
variable {P:ã} {w:Ă} {H H':Hp} {h h':ĥ} {a C dx:Ø} {fs Xj:List (Str×V)}
def zS (aB:cm P w H h) (e:H a=some (.ins C dx fs)):∃mA,oX h a dx C mA/\(∀f,k9 (fs.lookup f) (mA f))/\PySem.Within mA (fs.map (·.1))/\fs.length<=1000/\H dx=some (.own a):=by
 obtain⟨d,z,ne,Z,mA,n,r,q⟩:=(show dB P w H h a (.ins C dx fs) from aB a _ e);exact⟨mA,⟨Z,n,ne⟩,r,q,z,d⟩
end
structure i6 (K:Ď) (C:Ø):Prop where
 pg:aa2 K C Str.empty=true
 hd:abu K C=true
 po:PySem.W.plainOver K C=true
 sa:ĵ K (.ref C) "__setattr__"=some (some (.builtin "object.__setattr__"))
def i6.get {K:Ď} {C:Ø} (c:i6 K C) (f:Str):aa2 K C f=true:=c.pg
def lZ (K:Ď) (C:Ø) (f:Str):Prop:=ĵ K (.ref C) f=some none
def lZ.UZ {K:Ď} {C:Ø} {f:Str} (n:lZ K C f):PySem.W.takerIn K C f=some none:=by
 unfold PySem.W.takerIn;rw[show ĵ K (.ref C) f=some none from n];rfl
structure ZA (K:Ď) (C:Ø) (f:Str) (v:V) (u:Å):Prop where
 at_:ĵ K (.ref C) f=some (some u)
 rel:RelV v u
 get:PySem.W.specialIn K u "__get__"=some none
 cp:PySem.W.copiedNames.contains f=false
structure Meth (K:Ď) (C:Ø) (m:Str) (f:Ø):Prop where
 at_:ĵ K (.ref C) m=some (some (.ref f))
 fn:PySem.W.isFn K (.ref f)=true
 kp:ľ K (.ref f)=true
section
variable {X:Cx} {π:List (Ø×Obj)} {σ:St} {H:Hp} {s:Ä} {a C dx:Ø} {fs:List (Str×V)} {f:Str} {v:V} {A:ê} {E:Å->Ä->Prop}
def Nk (I:Inv X π σ H s) (e:H a=some (.ins C dx fs)) (c:i6 X.K C) (n:lZ X.K C f) (l:fs.lookup f=some v)
 (h:∀u s',Inv X π σ H s'->RelV v u->Q u s'):Û (ä X.prog X.w) A (getAttr (.ref a) f b) Q E s:=by
 obtain⟨Y,O,r,_,_,_⟩:=zS I.aB e;obtain⟨u,W,Z⟩:=k9.some_of (v:=v) (o:=Y f) (by rw[<- l];exact r f);exact get_map I.eO O (c.get f) c.hd n W (Oc Z) (h u _ (I.tok _) Z)
def Fn (I:Inv X π σ H s) (e:H a=some (.ins C dx fs)) (c:i6 X.K C) (k:Meth X.K C m g) (l:fs.lookup m=none)
 (h:Q (.ref g,[.ref a]) s):Û (ä X.prog X.w) A (abf (.ref a) m pl) Q E s:=by
 obtain⟨Z,O,r,_,_,_⟩:=zS I.aB e;have Y:Z m=none:=k9.none_of (by rw[<- l];exact r m);exact Pc I.eO O (c.get m) k.at_ k.fn Y h
def Nl (I:Inv X π σ H s) (e:H a=some (.ins C dx fs)) (c:i6 X.K C) (n:lZ X.K C f) (hl:fs.length<1000) (ry:RelV y u)
 (h:∀s',Inv X π σ (upd H a (.ins C dx (eZ f y fs))) s'->Q () s'):Û (ä X.prog X.w) A (setAttr (.ref a) f u) Q E s:=by
 obtain⟨Y,O,r,W,_,V⟩:=zS I.aB e;have U:(fs.map (·.1)).length<=Ú:=by rw[É,ν];omega
 refine Q2 I.eO O c.sa c.po n.UZ c.hd W U λT Z S=>h _ ?_
 have hd:∃o,T.get? dx=some o:=let ⟨o,_,_,R,_⟩:=Z.ns;⟨o,R⟩
 refine I.write (x:=a) (e:=dx) (by rw[e];exact True.intro) (.inr V) (λb q P z=>(S.2 b P).trans z) hd ?_;refine⟨by rw[aW O.ne];exact V,?_,O.ne,Z.obj,_,Z.ns,λg=>?_,λg N=>?_⟩
 ·have:=E9 f y fs;omega
 ·show k9 ((eZ f y fs).lookup g) (if g=f then some u else Y g)
  rw[E8];by_cases q:g=f
  ·rw[ß q,ß q];exact ry
  ·rw[è q,è q];exact r g
 ·by_cases q:g=f
  ·rw[q];exact(zf f y fs).1
  ·refine(zf f y fs).2 g (W g λz=>N ?_)
   show (if g=f then some u else Y g)=none
   rw[è q];exact z
def Inv.made (I:Inv X π σ H s):Inv X π σ (upd (upd H s.heap.objs.size (.own (s.heap.objs.size+1))) (s.heap.objs.size+1) (.ins C s.heap.objs.size []))
  { s with heap:=(s.heap.push ı).push (Ŕ C s.heap.objs.size) }:=by
 have e1:(s.heap.push ı).get? s.heap.objs.size=some ı:=Í s.heap rfl;have e2:((s.heap.push ı).push (Ŕ C s.heap.objs.size)).get? (s.heap.objs.size+1)=some (Ŕ C s.heap.objs.size):=by
  have:=Í (s.heap.push ı) (o:=Ŕ C s.heap.objs.size) rfl;rwa [ă] at this
 have Z:(s.heap.push ı).Ns s.heap.objs.size (λ_=>none):=⟨ı,#[],_,e1,rfl,(λe Y=>absurd Y (by simp)),λ_=>rfl⟩;have W:=I.laid (a:=s.heap.objs.size) (o:=.own (s.heap.objs.size+1)) (h':=s.heap.push ı) (t':=s.toks) (λb u q=>Á _ q) (abG _) ⟨_,e1⟩;refine W.laid (a:=s.heap.objs.size+1) (o:=.ins C s.heap.objs.size []) (t':=s.toks) (λb u q=>Á _ q) (abo (ă _ _)) ?_;have ne:s.heap.objs.size≠s.heap.objs.size+1:=â (Ŋ _);refine⟨by rw[aW ne,cx],Ċ _,ne,e2,λ_=>none,(Heap.Ns1.of_empty Z).at λo q=>Á _ q,λ_=>True.intro,λy V=>absurd rfl V⟩
def Q3 (hb:Ŀ e f env (ĩ e env)=ĩ e env)
 (h:Û (ä prog w) A (ĩ e env) (λo bB=>Û (ä prog w) A (getAttr o f true) Q E bB) E s):Û (ä prog w) A (ĩ (.Attribute e f pos) env) Q E s :=
 Attribute_any_ h (by rw[arm_eval_Attribute,hb])
end
def Wr (K:Ď) (ta:TE) (f:Str):TE:=fun σ H Q=>ta σ H λx Z=>∃a C Y fs v,x=.ref a/\Z a=some (.ins C Y fs)/\i6 K C/\lZ K C f/\fs.lookup f=some v/\Q v Z
def Ws (K:Ď) (ta tv:TE) (f:Str):TS:=λD σ H=>tv σ H λy X=>ta σ X λx Z=>∃a C Y fs,x=.ref a/\Z a=some (.ins C Y fs)/\i6 K C/\lZ K C f/\fs.length<1000 /\
 D.nx σ (upd Z a (.ins C Y (eZ f y fs)))
section
variable {X:Cx} {o e value:ġ} {f:Str} {pos pos' oY:Pos} {ta tv:TE}
def SV (he:PE X e ta) (hb:Ŀ e f X.env (ĩ e X.env)=ĩ e X.env):PE X (.Attribute e f pos) (Wr X.K ta f):=by
 intro Z s σ H Q I h;refine Q3 hb (aG (he Z s σ H _ I h) λu R ⟨x,Y,W,V,a,C,P,fs,v,ex,U,c,n,l,q⟩=>?_);subst ex;obtain rfl:u=Ļ a:=V;exact Nk W U c n l λO N T S=>⟨v,Y,T,S,q⟩
def SW (ha:PE X o ta) (hv:PE X value tv) (hs:abd value (some (.Attribute o f pos')) pos.line X.env=pure false):PS X (.Assign [.Attribute o f pos'] value pos) (Ws X.K ta tv f):=by
 intro Z s σ H D I h;refine plainObj_wpAny_Assign_Attribute (aG (hv Z s σ H _ I h) λu Y ⟨y,W,V,U,q⟩=>aG (ha Z Y σ W _ V q) λT N ⟨x,M,S,R,a,C,L,fs,ex,Q,c,n,l,P⟩=>?_) hs;subst ex;obtain rfl:T=Ļ a:=R;exact Nl S Q c n l U λJ O=>⟨σ,_,O,P⟩
end
section
variable {X:Cx} {π:List (Ø×Obj)} {σ:St} {H:Hp} {s:Ä} {A:ê} {E:Å->Ä->Prop} {Q:Å->Ä->Prop} {c:Å} {b:Bool}
inductive j3 (K:Ď) (H:Hp):V->Å->Prop where
 |ar:j3 K H .ar (.type "NoneType")
 |bl (x:Bool):j3 K H (.bl x) (.type "bool")
 |int (i:Int):j3 K H (.int i) (.type "int")
 |str (x:Str):j3 K H (.str x) (.type "str")
 |rD (x:UInt64):j3 K H (.rD x) (.type "float")
 |lst {a:Ø} {xs:List V} (e:H a=some (.lst xs)):j3 K H (.ref a) (.type "list")
 |aX {a:Ø} {o:Obj} {xs:List V} (e:H a=some (.aX o (.lst xs))):j3 K H (.ref a) (.type "list")
 |tup {a:Ø} {xs:List V} (e:H a=some (.tup xs)):j3 K H (.ref a) (.type "tuple")
 |dK {a:Ø} {aF:List (Key×V)} (e:H a=some (.dK aF)):j3 K H (.ref a) (.type "dict")
 |dT {a:Ø} {aF:List (List Key×V)} (e:H a=some (.dT aF)):j3 K H (.ref a) (.type "dict")
 |ins {a C dx:Ø} {fs:List (Str×V)} (e:H a=some (.ins C dx fs)) (cl:i6 K C) (ha:ĵ K (.ref C) "__class__"=some (some (.builtin "object.__class__")))
   (hn:PySem.W.specialIn K (.builtin "object.__class__") "__get__"=some (some (.builtin "getset_descriptor.__get__"))) (ZC:PySem.W.takesIn K (.builtin "object.__class__")=some true)
   (hm:PySem.W.mroIn K C (.type "object")=some true):j3 K H (.ref a) (.ref C)
end
structure bp (k:Nat) (A:ê):Prop where
 hd:A.handled=none
 dp:A.depth+3*k+5<recursionLimit
 un:A.units+16*k+200<abz
 gd:A.guards=some []
def bp.mono (r:bp k A) (h:j<=k):bp j A:=⟨r.hd,by have:=r.dp;omega,by have:=r.un;omega,r.gd⟩
theorem bp.deeper (r:bp (k+1) A) (env:Env):bp k (A.deeper env) :=
 ⟨r.hd,by have:=r.dp;show A.depth+1+3*k+5 < _;omega,by have:=r.un;show A.units+3+16*k+200 < _;omega,r.gd⟩
def Nm {A:ê} {C:Ø} {us:List Å} {kw:List (Str×Å)}:(A.under (.builtin "type.__call__" ⟨.ref C::us,kw⟩)).depth=A.depth+1:=by
 first|rfl|simp[Around.under,Code.weight,Code.isCreation,Code.isGuard,Code.isCaller,Code.frames,Code.isFrame,guardIds]
def Nn {A:ê} {C:Ø} {us:List Å} {kw:List (Str×Å)}:(A.under (.builtin "type.__call__" ⟨.ref C::us,kw⟩)).units=A.units+1:=by
 first|rfl|simp[Around.under,Code.cUnits,Code.frames,Code.isFrame]
def bp.make (r:bp (k+1) A) (C:Ø) (us:List Å) (kw:List (Str×Å)):bp k (A.under (.builtin "type.__call__" ⟨.ref C::us,kw⟩)) :=
 ⟨r.hd,by have:=r.dp;rw[Nm];omega,by have:=r.un;rw[Nn];omega,by first|exact r.gd | (simp[Around.under,Code.isGuard,guardIds];exact r.gd)⟩
theorem bp.depth (r:bp k A):A.depth<recursionLimit:=by have:=r.dp;omega
def B4:TA:=λ_ H Q=>Q [] H
def U0 (ta:TE) (tr:TA):TA:=fun σ H Q=>ta σ H λx Z=>tr σ Z λY X=>Q (x::Y) X
section
variable {X:Cx} {e:ġ} {es:List ġ} {te:TE} {t:TA} {pos:Pos}
def l7:PA X [] B4:=λ_ _ _ _ H Q I h=>Calls.spliced_nil ⟨[],H,I,.nil,h⟩
def jd (ha:PE X e te) (hr:PA X es t) (hs:Ê (e::es) X.env=(false,ĩ e X.env)::Ê es X.env:=by rfl):PA X (e::es) (U0 te t):=by
 intro pos Z s σ H Q I h;rw[hs];show Û _ _ (spliced ((false,ĩ e X.env)::ħ pos (Ê es X.env))) _ _ s;refine aat (aG (ha Z s σ H _ I h) λu Y ⟨x,W,V,U,T⟩=>?_);exact aG (hr pos Z Y σ W _ V T) λM L ⟨S,R,P,O,N⟩=>⟨x::S,R,P,.cons U O,N⟩
def Wt (t:TA):TE:=fun σ H Q=>t σ H λZ Y=>Z.length<=Ú/\∀p,Y p=none->Q (.ref p) (upd Y p (.tup Z))
def Wu (t:TA):TE:=fun σ H Q=>t σ H λZ Y=>Z.length<=Ú/\∀p,Y p=none->Q (.ref p) (upd Y p (.lst Z))
def SX {x1} (h:PA X es t):PE X (.Tuple es x1 pos) (Wt t):=by
 intro V s σ H Q I U;refine wpAny_Tuple_spliced (aG (h pos V s σ H _ I U) λT Z ⟨S,Y,W,r,z,q⟩=>⟨by rw[<- r.length];exact z,?_⟩);have R:Y Z.heap.objs.size=none:=W.aB.fresh (abG _);refine⟨.ref Z.heap.objs.size,upd Y Z.heap.objs.size (.tup S),W.laid (t':=Z.toks) (λb u e=>Á _ e) (abG _) ?_,rfl,q _ R⟩;exact⟨z,T,r,⟨_,Í _ rfl,rfl,_,rfl⟩⟩
def Ic (h:PA X es t):PE X (.List es pos) (Wu t):=by
 intro V s σ H Q I U;refine wpAny_List_spliced (aG (h pos V s σ H _ I U) λT Z ⟨S,Y,W,r,z,q⟩=>⟨by rw[<- r.length];exact z,?_⟩);have R:Y Z.heap.objs.size=none:=W.aB.fresh (abG _);refine⟨.ref Z.heap.objs.size,upd Y Z.heap.objs.size (.lst S),W.laid (t':=Z.toks) (λb u e=>Á _ e) (abG _) ?_,rfl,q _ R⟩;exact⟨z,T,0,r,Í _ rfl⟩
end
abbrev Sp:=List V->Hp->VK->XK->Prop
abbrev i7:=List Env->Hp->Ä->XK->Å->Ä->Prop
structure mx (P:ã) (w:Ă) (K:Ď) (mg:Str->Option Å) (base:ĥ) (A:ê) (outer:List Env) (s:Ä) (H:Hp):Prop where
 frames:A.frames=some outer
 mod:Mod K mg base
 bs:∀b o,base.get? b=some o->s.heap.get? b=some o/\H b=none
 il:base.objs.size<=s.heap.objs.size
 ig:s.heap.FunFrames base outer
 km:∀b∈ck outer,H b=none
 aB:cm P w H s.heap
 bare:aby s.gens
def CE (outer:List Env) (P:ã) (w:Ă) (H:Hp) (s:Ä) (Q:VK) (u:Å) (s':Ä):Prop :=
 ∃v Z,s'.os=s.os/\aby s'.gens/\Un (ck outer) [] H Z s.heap s'.heap/\cm P w Z s'.heap/\RelV v u/\Q v Z
def CR (CX:i7) (outer:List Env) (P:ã) (w:Ă) (H:Hp) (s:Ä) (Q:VK) (E:XK) (r:Result) (s':Ä):Prop :=
 match r with
 | .ok (.ret u)=>CE outer P w H s Q u s'
 | .ok _=>False
 | .error e=>CX outer H s E e s'
structure cB (P:ã) (w:Ă) (K:Ď) (mg:Str->Option Å) (base:ĥ) (CX:i7) (k:Nat) (f:Ø) (fd:Ė) (ps:List Str) (sp:Sp):Prop where
 len:∀vs H Q E,sp vs H Q E->vs.length=ps.length
 run:∀(A:ê) (outer:List Env) (s:Ä) (H:Hp) (args:Args) (us:List Å) (vs:List V) (Q:VK) (E:XK),bp k A->mx P w K mg base A outer s H->BindsTo s fd args (ps.zip us)->Vals vs us->sp vs H Q E ->
  ŷ (ä P w) A (.call (.ref f) args) (CR CX outer P w H s Q E) s
def cB.imp {P:ã} {w:Ă} {K:Ď} {mg:Str->Option Å} {base:ĥ} {CX:i7} {k:Nat} {f:Ø} {fd:Ė} {ps:List Str} {sp KW:Sp} (F:cB P w K mg base CX k f fd ps sp)
  (h:∀vs H Q E,KW vs H Q E->sp vs H Q E):cB P w K mg base CX k f fd ps KW :=
 ⟨λvs H Q E q=>F.len vs H Q E (h _ _ _ _ q),λA outer s H args Z vs Q E Y X W V hs=>F.run A outer s H args Z vs Q E Y X W V (h _ _ _ _ hs)⟩
def mx.make {P:ã} {w:Ă} {K:Ď} {mg:Str->Option Å} {base:ĥ} {A:ê} {outer:List Env} {s:Ä} {H:Hp} (e:mx P w K mg base A outer s H) (C:Ø) (us:List Å) (kw:List (Str×Å)) :
  mx P w K mg base (A.under (.builtin "type.__call__" ⟨.ref C::us,kw⟩)) outer s H:=⟨by first|exact e.frames | (simpa [Around.under,Code.envs,Code.isFrame,pushEnvs] using e.frames),e.mod,e.bs,e.il,e.ig,e.km,e.aB,e.bare⟩
section
variable {X:Cx} {π:List (Ø×Obj)} {σ:St} {H:Hp} {s s':Ä}
def Inv.lh (I:Inv X π σ H s):mx X.prog X.w X.K X.mg X.base X.A X.stack s H :=
 ⟨I.ok.frames,I.ok.mod,I.bs,à I.ok.il I.sz,I.stack,I.sF,I.aB,I.bare⟩
def Inv.after (I:Inv X π σ H s) (h:CE X.stack X.prog X.w H s Q u s'):EP X π σ Q u s':=by
 obtain⟨v,Z,os,bare,un,Y,r,q⟩:=h;obtain⟨W,g,d,t,V⟩:=s';obtain rfl:V=s.os:=os;exact⟨v,Z,I.call (h':=W) (g':=g) (d':=d) (t':=t) (ch:=[]) un Y bare (λb z=>absurd z (by simp)),r,q⟩
end
def Jl (sp:Sp) (ai:List V) (E:XK) (t:TA):TE:=fun σ H Q=>t σ H λZ Y=>sp (Z++ai) Y Q E
def xn (C:Ø) (m:Str) (sp:Sp) (ai:List V) (E:XK) (ta:TE) (t:TA):TE:=fun σ H Q=>ta σ H λx Z=>∃a Y fs,x=.ref a/\Z a=some (.ins C Y fs)/\fs.lookup m=none /\
 t σ Z λX W=>sp (x::(X++ai)) W Q E
def U1 (C:Ø) (sp:Sp) (ai:List V) (E:XK) (t:TA):TE:=fun σ H Q=>t σ H λX Y=>∀x Z,Y x=none->Y Z=none->Z≠x ->
 sp (.ref x::(X++ai)) (upd (upd Y Z (.own x)) x (.ins C Z [])) (λv W=>v=.ar/\Q (.ref x) W) E
def Binds (K:Ď) (fd:Ė) (ps:List Str) (ds:List Å):Prop :=
 ∀(s:Ä) (Z:List Å),K.In s.heap->(Z++ds).length=ps.length->BindsTo s fd ⟨Z,[]⟩ (ps.zip (Z++ds))
def Binds.all {K:Ď} {fd:Ė} {ps:List Str} (h:∀us:List Å,us.length=ps.length->bindArgs fd ⟨us,[]⟩=pure (ps.zip us)):Binds K fd ps []:=λs us _ Z=>by
 rw[û] at Z |-;exact .of_eq (h us Z)
def Passes (CX:i7) (X:Cx) (E:XK):Prop:=∀(Y:List (Ø×Obj)) (σ:St) (H:Hp) (s:Ä) (e:Å) (Z:Ä),Inv X Y σ H s->CX X.stack H s E e Z->X.xe e Z
section
variable {X:Cx} {CX:i7} {k:Nat} {f C:Ø} {fd:Ė} {ps:List Str} {sp:Sp} {ai:List V} {ds:List Å} {E:XK} {x m:Str} {p pos apos:Pos} {e o:ġ} {es:List ġ} {ta:TE} {t:TA}
def Az {π:List (Ø×Obj)} {σ:St} {H:Hp} {s:Ä} {Q:VK} {us:List Å} {vs:List V} (F:cB X.prog X.w X.K X.mg X.base CX k f fd ps sp) (hr:bp k X.A) (hb:Binds X.K fd ps ds) (hd:Vals ai ds) (hx:Passes CX X E)
  (I:Inv X π σ H s) (r:Vals vs us) (h:sp (vs++ai) H Q E):Û (ä X.prog X.w) X.A (call (.ref f) us) (EP X π σ Q) X.xe s:=by
 have Y:Vals (vs++ai) (us++ds):=r.append hd;have W:(us++ds).length=ps.length:=by rw[<- Y.length];exact F.len _ _ _ _ h
 refine aaI (ō (F.run X.A X.stack s H ⟨us,[]⟩ (us++ds) (vs++ai) Q E hr I.lh (hb s us I.eO W) Y h) λr U Z=>?_)
 cases r with
 |error e=>exact hx π σ H s e U I Z
 |ok T =>
  cases T with
  |ret u=>exact I.after Z
  |next=>exact ď Z
  |brk=>exact ď Z
  |cont=>exact ď Z
def He (F:cB X.prog X.w X.K X.mg X.base CX k f fd ps sp) (hr:bp k X.A) (hg:Gl X x) (hm:X.mg x=some (.ref f)) (hk:ľ X.K (.ref f)=true) (hb:Binds X.K fd ps ds) (hd:Vals ai ds) (hx:Passes CX X E)
  (ha:PA X (e::es) t) (dh:(x==("__debug__":Str))=false:=by decide) (he:Ê (e::es) X.env=(false,ĩ e X.env)::Ê es X.env:=by rfl) (bH:(ħ pos (Ê es X.env)).any (·.1)=false:=by rfl) :
  PE X (.Call (.Name x p) (e::es) [] pos) (Jl sp ai E t):=by
 intro Y s σ H Q I h;refine ť (oy I hg hm ?_ dh);refine aau (h₀:=X.base) I.ok.mod.jz hk (aG (ha pos Y s σ H _ I h) λW V ⟨U,T,Z,r,q⟩=>⟨Z.eO,?_⟩) he bH;exact Az F hr hb hd hx Z r q
def Hf {pl:Sem Bool} (he:PE X o ta) (c:i6 X.K C) (hm:Meth X.K C m f) (F:cB X.prog X.w X.K X.mg X.base CX k f fd ps sp) (hr:bp k X.A) (hb:Binds X.K fd ps ds) (hd:Vals ai ds) (hx:Passes CX X E) (ha:PA X (e::es) t)
  (fS:Ê (e::es) X.env=(false,ĩ e X.env)::Ê es X.env:=by rfl) (bH:(ħ pos (Ê es X.env)).any (·.1)=false:=by rfl)
  (ht:ĩ (.Call (.Attribute o m apos) (e::es) [] pos) X.env=(do
   let ov <- ĩ o X.env
   ZZ apos.atName
   let (f,first) <- μ [ov] (abf ov m pl)
   callWith pos f first (ħ pos (Ê (e::es) X.env)) (aav pos (ŗ [] X.env))):=by rfl) :
  PE X (.Call (.Attribute o m apos) (e::es) [] pos) (xn C m sp ai E ta t):=by
 intro Z s σ H Q I h;refine PySem.W.methodCall_KW (pl:=pl) (aG (he Z s σ H _ I h) λu U ⟨x,T,Y,S,a,O,fs,ex,R,l,q⟩=>?_) ht;subst ex;obtain rfl:u=Ļ a:=S;refine Fn Y R c hm l ?_
 refine aau (first:=[.ref a]) (h₀:=X.base) I.ok.mod.jz hm.kp (aG (ha pos Z U σ T _ Y q) λus N ⟨vs,M,V,r,P⟩=>⟨V.eO,?_⟩) fS bH
 exact Az (us:=.ref a::us) (vs:=.ref a::vs) F hr hb hd hx V (.cons rfl r) P
def Gh (he:PE X o ta) (c:i6 X.K C) (hm:Meth X.K C m f) (F:cB X.prog X.w X.K X.mg X.base CX k f fd ps sp) (hr:bp k X.A) (hb:Binds X.K fd ps ds) (hd:Vals ai ds) (hx:Passes CX X E)
 (ht:ĩ (.Call (.Attribute o m apos) [] [] pos) X.env=(do
   let ov <- ĩ o X.env
   ZZ apos.atName
   let (f,first) <- μ [ov] (abf ov m pl)
   callWith pos f first (ħ pos (Ê [] X.env)) (aav pos (ŗ [] X.env))):=by rfl) :
  PE X (.Call (.Attribute o m apos) [] [] pos) (xn C m sp ai E ta B4):=by
 intro Y s σ H Q I h;refine PySem.W.methodCall_KW (pl:=pl) (aG (he Y s σ H _ I h) λu T ⟨x,S,Z,V,a,R,fs,ex,U,l,q⟩=>?_) ht;subst ex;obtain rfl:u=Ļ a:=V;refine Fn Z U c hm l ?_
 exact PySem.W.callWith_K0 (first:=[.ref a]) Z.eO hm.kp (Az (us:=[.ref a]) (vs:=[.ref a]) F hr hb hd hx Z (.cons rfl .nil) q)
structure Mk (K:Ď) (C f:Ø):Prop where
 makes:PySem.W.makesIn K C=true
 init:ĵ K (.ref C) "__init__"=some (some (.ref f))
 fn:PySem.W.isFn K (.ref f)=true
 kp:ľ K (.ref C)=true
def Pe {π:List (Ø×Obj)} {σ:St} {H:Hp} {s:Ä} {Q:VK} {us:List Å} {vs:List V} (M:Mk X.K C f) (F:cB X.prog X.w X.K X.mg X.base CX k f fd ps sp) (hr:bp (k+1) X.A) (hb:Binds X.K fd ps ds) (hd:Vals ai ds)
  (hx:Passes CX X E) (I:Inv X π σ H s) (r:Vals vs us)
  (h:∀x dx,H x=none->H dx=none->dx≠x->sp (.ref x::(vs++ai)) (upd (upd H dx (.own x)) x (.ins C dx [])) (λv H2=>v=.ar/\Q (.ref x) H2) E) :
  Û (ä X.prog X.w) X.A (call (.ref C) us) (EP X π σ Q) X.xe s:=by
 have W:=h (s.heap.objs.size+1) s.heap.objs.size (I.aB.fresh (aaf _)) (I.aB.fresh (abG _)) (â (Ŋ _));have Y:=Inv.made (C:=C) I;have U:Vals (V.ref (s.heap.objs.size+1)::(vs++ai)) (Ļ (s.heap.objs.size+1)::(us++ds)):=.cons rfl (r.append hd);have T:(Ļ (s.heap.objs.size+1)::us++ds).length=ps.length:=by
  have e:=U.length;rw[F.len _ _ _ _ W] at e;exact e.symm
 refine aaI (Pd (f:=f) I.eO M.makes M.init (beq_iff_eq.mp M.fn) (ō (F.run _ X.stack _ _ ⟨Ļ (s.heap.objs.size+1)::us,[]⟩ (Ļ (s.heap.objs.size+1)::(us++ds)) _ _ E (hr.make C us [])
  (Y.lh.make C us []) (hb _ (Ļ (s.heap.objs.size+1)::us) Y.eO T) U W) λr S Z=>?_))
 cases r with
 |error e=>exact hx π σ _ _ e S Y Z
 |ok R =>
  cases R with
  |ret u =>
   obtain⟨v,P,O,N,ev,L⟩:=Y.after Z;subst ev;exact⟨N,⟨V.ref (s.heap.objs.size+1),P,O,rfl,L⟩⟩
  |next=>exact ď Z
  |brk=>exact ď Z
  |cont=>exact ď Z
def Pf (M:Mk X.K C f) (F:cB X.prog X.w X.K X.mg X.base CX k f fd ps sp) (hr:bp (k+1) X.A) (hg:Gl X x) (hm:X.mg x=some (.ref C)) (hb:Binds X.K fd ps ds) (hd:Vals ai ds) (hx:Passes CX X E)
  (dh:(x==("__debug__":Str))=false:=by decide):PE X (.Call (.Name x p) [] [] pos) (U1 C sp ai E B4):=by
 intro Z s σ H Q I h;refine ť (oy I hg hm ?_ dh);exact PySem.W.callWith_K0 I.eO M.kp (Pe (us:=[]) M F hr hb hd hx I .nil h)
end
section
variable {X:Cx} {CX:i7} {k:Nat} {f C:Ø} {fd:Ė} {ps ks:List Str} {sp:Sp} {E:XK} {x m:Str} {p pos apos Wv:Pos} {e o:ġ} {es:List ġ} {ZD:List aa3} {te ta:TE} {t tk:TA} {nm:Option Str}
structure Zq (K:Ď) (fd:Ė) (ps ks:List Str) (g:List Å->List Å->List Å) (gV:List V->List V->List V):Prop where
 to:∀(s:Ä) (us ws:List Å),K.In s.heap->(g us ws).length=ps.length->BindsTo s fd ⟨us,ks.zip ws⟩ (ps.zip (g us ws))
 rel:∀{vs:List V} {us:List Å} {zs:List V} {ws:List Å},Vals vs us->Vals zs ws->Vals (gV vs zs) (g us ws)
variable {g:List Å->List Å->List Å} {gV:List V->List V->List V}
end
structure oz (N P:List Str) (sc:ι):Prop where
 kind:sc.kind=.function
 co:sc.isCoroutine=false
 gen:sc.isGenerator=false
 nd:N.Nodup
 pre:N.take P.length=P
 par:∀x∈P,sc.names.lookup x=some .local\/sc.names.lookup x=some .cell
 SY:∀y∈sc.names,y.2≠.free
theorem FI {kindOf:Str->Option ũ} {x:Str}:∀{binds:List (Str×Å)} {m:Str->Option Å},(∀v,(x,v)∉binds)->bindL kindOf binds m x=m x
 | [],_,_=>rfl
 |(n,v)::r,m,h=>by
  unfold bindL;rw[FI λw hw=>h w (Ó _ hw)];split
  ·have:x≠n:=by rintro rfl;exact h v Ô
   simp[this]
  ·rfl
theorem FJ {kindOf:Str->Option ũ} {x:Str}:∀{binds:List (Str×Å)} {m:Str->Option Å},(∀v,(x,v)∉binds)->bindC kindOf binds m x=m x
 | [],_,_=>rfl
 |(n,v)::r,m,h=>by
  unfold bindC;rw[FJ λw hw=>h w (Ó _ hw)];split
  ·rfl
  ·have:x≠n:=by rintro rfl;exact h v Ô
   simp[this]
theorem FK {kindOf:Str->Option ũ} {x:Str} {v:Å}:∀{P:List Str} {vs:List Å} {i:Nat} {m:Str->Option Å},P.Nodup->P[i]?=some x->vs[i]?=some v->kindOf x=some .local ->
  bindL kindOf (P.zip vs) m x=some v
 | [],_,_,_,_,h,_,_=>by simp at h
 |_::_,[],_,_,_,_,h,_=>by simp at h
 |p::P,w::vs,0,m,X,Z,Y,W=>by
  simp at Z Y;subst Z;subst Y;show bindL kindOf ((p,w)::P.zip vs) m p=_;unfold bindL;rw[FI λv V=>(ξ.mp X).1 (abg V).1,ß W];simp
 |p::P,w::vs,i+1,m,X,Z,Y,W=>by
  show bindL kindOf ((p,w)::P.zip vs) m x=_;unfold bindL;exact FK (i:=i) (ξ.mp X).2 (by simpa using Z) (by simpa using Y) W
theorem FL {kindOf:Str->Option ũ} {x:Str} {v:Å}:∀{P:List Str} {vs:List Å} {i:Nat} {m:Str->Option Å},P.Nodup->P[i]?=some x->vs[i]?=some v->kindOf x≠some .local ->
  bindC kindOf (P.zip vs) m x=some v
 | [],_,_,_,_,h,_,_=>by simp at h
 |_::_,[],_,_,_,_,h,_=>by simp at h
 |p::P,w::vs,0,m,X,Z,Y,W=>by
  simp at Z Y;subst Z;subst Y;show bindC kindOf ((p,w)::P.zip vs) m p=_;unfold bindC;rw[FJ λv V=>(ξ.mp X).1 (abg V).1,è W];simp
 |p::P,w::vs,i+1,m,X,Z,Y,W=>by
  show bindC kindOf ((p,w)::P.zip vs) m x=_;unfold bindC;exact FL (i:=i) (ξ.mp X).2 (by simpa using Z) (by simpa using Y) W
def start (N:List Str) (vs:List V):St:=vs.map some++Ñ (N.length-vs.length) none
def gr (CX:i7) (P:ã) (w:Ă) (K:Ď) (mg:Str->Option Å) (base:ĥ) (N:List Str) (qual:Str) (scope:ι) (f:Ø) (cd:Å) (A:ê) (outer:List Env) (s:Ä) (H:Hp) (E:XK):Cx where
 prog:=P
 w:=w
 K:=K
 mg:=mg
 base:=base
 A:=A.deeper (abB qual scope s.heap.objs.size f cd)
 N:=N
 cL:=s
 lg:=H
 env:=abB qual scope s.heap.objs.size f cd
 outer:=outer
 stack:=abB qual scope s.heap.objs.size f cd::outer
 ex:=[]
 calm:=true
 fn:=λ_=>true
 pn:=[]
 xe:=λe Y=>Û (ä P w) (A.deeper (abB qual scope s.heap.objs.size f cd)) (leaving (abB qual scope s.heap.objs.size f cd) e) (λ_ Z=>CX outer H s E e Z) (λX Z=>CX outer H s E X Z) Y
def Gi {sc:ι} {n:Nat} {x:Str} (h:sc.names.lookup x=some .cell):∃c,(Z1 n sc.names []).lookup x=some c:=by
 have q:=ε sc.names n [] (.inl h);exact aak.mp q
def FN {CX:i7} {P:ã} {w:Ă} {K:Ď} {mg:Str->Option Å} {base:ĥ} {N ps:List Str} {qual:Str} {scope:ι} {f:Ø} {cd:Å} {A:ê} {outer:List Env} {s s1:Ä} {H:Hp} {E:XK} {us:List Å} {vs:List V}
  (S:oz N ps scope) (hd:A.handled=none) (e0:mx P w K mg base A outer s H) (hl:vs.length=ps.length) (r:Vals vs us)
  (x:InCallC s s.heap.objs.size (bindL (abB qual scope s.heap.objs.size f cd).kindOf (ps.zip us) λ_=>none) (Z1 (s.heap.objs.size+1) scope.names []) (bindC (abB qual scope s.heap.objs.size f cd).kindOf (ps.zip us) λ_=>none) s1) :
  Inv (gr CX P w K mg base N qual scope f cd A outer s H E) [] (start N vs) H s1:=by
 have M:ps.length<=N.length:=by have:=Ķ List.length S.pre;rw[aaa] at this;omega
 obtain⟨X,L,rfl,U⟩:=x.done;have W:∀b:Ø,b∉(gr CX P w K mg base N qual scope f cd A outer s H E).ex:=λb z=>absurd (show b∈([]:List Ø) from z) (by simp);refine⟨⟨e0.mod,S.kind,rfl,rfl,abG _,λy z c X Z=>?_,λy hy=>?_,λy c _ h=>?_,λ_=>hd,Around.frames_deeper e0.frames,.inr ⟨rfl,rfl⟩,λb z=>absurd z (W b),e0.bs,e0.il,λb _ _=>W b,λb z=>absurd z (W b),e0.ig,e0.km⟩,
  rfl,e0.bare,Un.kept U,⟨_,x.toInCall.ns,λi y v X Z J=>?_⟩,λy c h=>⟨_,x.cell y c h⟩,e0.aB.fresh (abG _),λy c h=>?_,λp Y=>absurd (show p∈([]:List (Ø×Obj)) from Y) (by simp),e0.aB.kept U,?_⟩
 ·exact name_of_addr x.apart (ĭ X) (ĭ Z)
 ·have hy:scope.names.lookup y=some .cell\/scope.names.lookup y=some .free:=hy
  rcases hy with hy|hy
  ·exact Gi hy
  ·exact absurd rfl (S.SY _ (ĭ hy))
 ·exact Nat.le_of_lt (x.above y c (ĭ h))
 ·have hi:i<vs.length:=by
   unfold start at Z;by_cases hi:i<vs.length
   ·exact hi
   ·rw[í (by simpa using hi)] at Z
    rw[ģ] at Z
    split at Z<;>cases Z
  have Q:vs[i]?=some v:=by
   unfold start at Z;rw[Ü (by simpa using hi),î] at Z
   cases e:vs[i]? with
   |none=>rw[e] at Z;cases Z
   |some a=>rw[e] at Z;cases Z;rfl
  obtain⟨u,T,O⟩:=r.get Q;have Y:ps[i]?=some y:=by
   rw[<- S.pre,List.getElem?_take_of_lt (by omega)];exact X
  have R:ps.Nodup:=by rw[<- S.pre];exact S.nd.sublist (List.take_sublist _ _)
  refine⟨u,O,?_⟩
  rcases S.par y (Ū Y) with k|k
  ·exact .inl ⟨k,FK R Y T k⟩
  ·obtain⟨c,e⟩:=Gi (n:=s.heap.objs.size+1) k
   refine .inr ⟨.inl k,c,e,?_⟩;have q:=x.cell y c e;rw[FL R Y T (by show scope.names.lookup y≠_;rw[k];decide)] at q;exact q
 ·exact e0.aB.fresh (Nat.le_of_lt (x.above y c (ĭ h)))
 ·unfold start
  show _=N.length;rw[Þ,É,ο];omega
def xo {CX:i7} {P:ã} {w:Ă} {K:Ď} {mg:Str->Option Å} {base:ĥ} {k:Nat} {f:Ø} {name qual:Str} {params:abv} {body:List aaX} {scope:ι} {dV kV doc pm aO ct oc:Å} {an od:Option Ø}
  {iL:Array (Option Å)} {N ps:List Str} {sp:Sp} (lk:K.lookup f=some ⟨oc,od,.func (Ŏ name qual params body scope dV kV doc pm an aO ct),iL⟩) (dE:Z2 K aO qual=true) (S:oz N ps scope)
  (len:∀vs H Q E,sp vs H Q E->vs.length=ps.length)
  (jT:∀(A:ê) (outer:List Env) (s:Ä) (H:Hp) (vs:List V) (Q:VK) (E:XK),bp k (A.deeper (abB qual scope s.heap.objs.size f aO))->sp vs H Q E ->
   ∃t,cP (gr CX P w K mg base N qual scope f aO A outer s H E) body t/\t { nx:=λ_ H'=>Q .ar H',rt:=Q } (start N vs) H) :
  cB P w K mg base CX (k+1) f (Ŏ name qual params body scope dV kV doc pm an aO ct) ps sp:=by
 refine⟨len,λA outer s H args L vs Q E X Z G r R=>?_⟩;have F:=len _ _ _ _ R;have O:K.In s.heap:=Z.mod.jz.keeps λb o e=>(Z.bs b o e).1;have lim:s.heap.NoLimit:=Z.mod.nolimit.keeps λb o e=>(Z.bs b o e).1;have D:∀y∈ps.zip L,scope.names.lookup y.1=some .local\/(scope.names.lookup y.1=some .cell/\((Z1 (s.heap.objs.size+1) scope.names []).lookup y.1).isSome=true):=λ⟨n,v⟩ C=>by
  rcases S.par n (abg C).1 with q|q
  ·exact .inl q
  ·exact .inr ⟨q,ε _ _ _ (.inl q)⟩
 refine codeAny_call_function X.depth (O _ _ lk) rfl S.co S.gen rfl (PySem.W.codeRec_of O dE) (G _ _ _ _ ?_);refine wpAny_newFunctionEnv_cells S.kind D λenv B M x=>?_;subst B;refine⟨lim.keeps x.toInCall.keep,codeAny_func ?_⟩;obtain⟨t,z,p⟩:=jT A outer s H vs Q E (X.deeper _) R;have I:Inv (gr CX P w K mg base N qual scope f aO A outer s H E) [] (start N vs) H M:=FN S X.hd Z F r x;refine Ĝ (z [] M (start N vs) H _ I p) (λm U hs=>?_) λe U hs=>hs;have fin:∀{Y:St} {H':Hp} {v:V} {u:Å},Inv (gr CX P w K mg base N qual scope f aO A outer s H E) [] Y H' U->RelV v u->Q v H'->CE outer P w H s Q u U :=
  λ{Y H' v u} J T q=>⟨v,H',J.os,J.bare,J.base,J.aB,T,q⟩
 cases m with
 |ret u =>
  obtain⟨v,Y,H',J,T,q⟩:=hs;exact fin J T q
 |next =>
  obtain⟨Y,H',J,q⟩:=hs;exact fin (v:=V.ar) (u:=Value.none) J rfl q
 |brk =>
  obtain⟨_,_,_,q⟩:=hs;exact ď q
 |cont =>
  obtain⟨_,_,_,q⟩:=hs;exact ď q
section
variable {X:Cx} {x:Str} {p pos:Pos} {e:ġ} {es:List ġ} {t:TA} {id T:String} {r:List V->Hp->VK->Prop}
def CH (r:List V->Hp->VK->Prop) (t:TA):TE:=fun σ H Q=>t σ H λZ Y=>r Z Y Q
def vQ (hc:cS X (.builtin id) r) (hg:Gl X x) (hm:X.mg x=none) (hv:ú x=some (.builtin id)) (ha:PA X (e::es) t) (hn:x≠"__name__":=by decide) (dh:(x==("__debug__":Str))=false:=by decide)
  (he:Ê (e::es) X.env=(false,ĩ e X.env)::Ê es X.env:=by rfl) (bH:(ħ pos (Ê es X.env)).any (·.1)=false:=by rfl):PE X (.Call (.Name x p) (e::es) [] pos) (CH r t):=by
 intro Z s σ H Q I h;refine ť (qB I hg hm hv ?_ hn dh);exact PyProof.Rows.callWith_builtin1 (aG (ha pos Z s σ H _ I h) λY W ⟨V,U,T,S,R⟩=>hc Z W σ U V Y Q T S R) he bH
def FO (hc:cS X (.type T) r) (hg:Gl X x) (hm:X.mg x=none) (hv:ú x=some (.type T)) (ha:PA X (e::es) t) (hn:x≠"__name__":=by decide) (dh:(x==("__debug__":Str))=false:=by decide)
  (he:Ê (e::es) X.env=(false,ĩ e X.env)::Ê es X.env:=by rfl) (bH:(ħ pos (Ê es X.env)).any (·.1)=false:=by rfl):PE X (.Call (.Name x p) (e::es) [] pos) (CH r t):=by
 intro Z s σ H Q I h;refine ť (qB I hg hm hv ?_ hn dh);exact Ŗ (aG (ha pos Z s σ H _ I h) λY W ⟨V,U,S,R,P⟩=>hc Z W σ U V Y Q S R P) he bH
end
end L2
namespace HT
open PySem PyProof.Rows
noncomputable def lexLt:List Int->List Int->Bool
 | [],[]=>false
 | [],_::_=>true
 |_::_,[]=>false
 |x::Z,y::Y=>if x=y then lexLt Z Y else decide (x<y)
def iR (x y:Int) (xs ys:List Int):lexLt (x::xs) (y::ys)=if x=y then lexLt xs ys else decide (x<y):=rfl
def Gj (A:ê) (s:Ä) (a:Int) (t:Tok) (c:Int) (u:Tok) (prog:ã) (w:Ă) (E:Å->Ä->Prop) (Q:Å->Ä->Prop) (h:Q (.bool (decide (a<c))) s) :
  Û (ä prog w) A (richCompare .Lt (.int a t) (.int c u)) Q E s :=
 (PyProof.Rows.lt_int h:Û (ä prog w) A (Ě .Lt (.int a t) (.int c u)) Q E s)
section
open PySem.SeqAt
open PySem.AutoSeq1 (wpAny_loadPart')
open PySem.MeetsSeq PySem.MeetsSeq2 PySem.MeetsSeq3
end
section
variable {prog:ã} {w:Ă} {A:ê} {E:Å->Ä->Prop} {s:Ä}
def Q4 (ht:IsTup s.heap t vs.toArray) (hb:IsTup s.heap b ws.toArray) (hv:vs≠[])
 (h1:ws=[]->Q (.ref t) s) (h2:ws≠[]->Q (.ref s.heap.objs.size) { s with heap:=s.heap.push { cls:=.type "tuple",data:=.seq (vs++ws).toArray } })
 (hsz:vs.length+ws.length<=Ú):Û (ä prog w) A (ĺ .Add (.ref t) (.ref b)) Q E s:=by
 obtain⟨⟨cls,X,data,W⟩,Z,V,n,U⟩:=id ht;obtain⟨⟨O,T,data2,S⟩,Y,R,P,hd2⟩:=id hb;simp only at V U R hd2;subst V U R hd2;have e:vs.toArray++ws.toArray=(vs++ws).toArray:=by simp
 by_cases hw:ws=[]
 ·exact concat_meets ⟨_,Z,rfl⟩ ⟨_,Y,rfl⟩ noFill_tuple_add seq_tuple_add aaF aaw (aal _ _)
   (tuple_addW1 t b vs.toArray ws.toArray n P X T W S (by simpa using hv) (by simp[hw])) ⟨Z,Y,h1 hw⟩
 ·refine concat_meets ⟨_,Z,rfl⟩ ⟨_,Y,rfl⟩ noFill_tuple_add seq_tuple_add aaF aaw (aal _ _)
   (tuple_addW2 t b vs.toArray ws.toArray n P X T W S (by simpa using hv) (by simpa using hw) (by rw[Ù,Ù];exact hsz)) ⟨Z,Y,?_⟩
  rw[e];exact h2 hw
noncomputable def aT (n d:Nat):Option Int->Nat
 |none=>d
 |some v=>if v<0 then (v+(n:Int)).toNat else min v.toNat n
def S0 (n d:Nat) (hd:d<=n) (o:Option Int):aT n d o<=n:=by
 cases o with
 |none=>exact hd
 |some v =>
  show (if v<0 then (v+(n:Int)).toNat else min v.toNat n)<=n
  by_cases Z:v<0
  ·rw[ß Z];omega
  ·rw[è Z];exact Nat.min_le_right _ _
def Hg (v:Int) (n d:Nat):(if v<0 then max (v+(n:Int)) 0 else min v (n:Int))=((aT n d (some v):Nat):Int):=by
 show (if v<0 then max (v+(n:Int)) 0 else min v (n:Int))=(((if v<0 then (v+(n:Int)).toNat else min v.toNat n):Nat):Int)
 by_cases Z:v<0
 ·simp only[ß Z];omega
 ·simp only[è Z];omega
def Np (lo hi:Option Int) (n:Nat):Z3 lo hi 1 (n:Int)=(((aT n 0 lo:Nat):Int),((aT n n hi:Nat):Int)):=by
 have Z:¬ ((1:Int)<0):=by omega
 unfold Z3;simp only[Z,é];refine Prod.ext ?_ ?_
 ·cases lo with
  |none=>rfl
  |some v=>exact Hg v n 0
 ·cases hi with
  |none=>rfl
  |some v=>exact Hg v n n
def Nq (i j:Nat):ŧ (i:Int) (j:Int) 1=j-i:=by
 unfold ŧ;have Z:(1:Int) > 0:=by omega
 simp only[Z,ð,Int.ediv_one]
 split<;>omega
def Fo (p:IsPart v o) (h:Q o s):Û (ä prog w) A (Builtin.Slice.slicePartIndex v) Q E s:=by
 cases p with
 |none=>exact slicePart_none h
 |int i t=>exact slicePart_int h
def EL {lo hi:Option Int} {n:Nat} {Q:Int×Int×Nat->Ä->Prop} (hs:s.heap.IsSliceOf sl vl vu .none) (pl:IsPart vl lo) (pu:IsPart vu hi)
 (h:Q (((aT n 0 lo:Nat):Int),1,aT n n hi-aT n 0 lo) s):Û (ä prog w) A (abm (.ref sl) (pure (n:Int))) Q E s:=by
 obtain⟨os,Z,X,Y⟩:=id hs;unfold abm Builtin.Slice.sliceFields;refine À (À (ķ Z Y (x:=vl) rfl (À (ķ Z Y (x:=vu) rfl (À (ķ Z Y (x:=.none) rfl (Ã ?_)))))));refine À (slicePart_none ?_)
 show Û _ _ (if ((1:Int)==0)=true then _ else _) _ _ s
 rw[è (by decide)];refine À (Fo pl (À (Fo pu (À (Ã ?_)))))
 show Û _ _ (match Z3 lo hi 1 (n:Int) with | (lo,hi)=>pure (lo,(1:Int),ŧ lo hi 1)) _ _ s
 rw[Np lo hi n];show Û _ _ (pure (((aT n 0 lo:Nat):Int),(1:Int),ŧ ((aT n 0 lo:Nat):Int) ((aT n n hi:Nat):Int) 1)) _ _ s;rw[Nq];exact Ã h
def Ph (xs:Array Å) (i k:Nat):((č k).filterMap λ(m:Nat)=>xs[((i:Int)+(m:Int)*1).toNat]?).toArray=((xs.toList.drop i).take k).toArray:=by
 have e:(λ(m:Nat)=>xs[((i:Int)+(m:Int)*1).toNat]?)=λm=>xs[i+m]?:=by
  funext m;have:((i:Int)+(m:Int)*1).toNat=i+m:=by omega
  rw[this]
 rw[e];have:=pick_run xs i k;rw[List.filterMap_map] at this;have e2:((λx=>xs[x]?) ∘ λx=>i+x)=λm=>xs[i+m]?:=rfl;rw[e2] at this;rw[this]
def L3 {lo hi:Option Int} {Q:Å->Ä->Prop} (ht:IsTup s.heap t items) (hs:s.heap.IsSliceOf sl vl vu .none) (pl:IsPart vl lo) (pu:IsPart vu hi)
 (hw:¬ (aT items.size 0 lo=0/\aT items.size items.size hi=items.size))
 (h:Q (.ref s.heap.objs.size) { s with heap:=s.heap.push { cls:=.type "tuple",data:=.seq ((items.toList.drop (aT items.size 0 lo)).take (aT items.size items.size hi-aT items.size 0 lo)).toArray } })
 (hsz:items.size<=Ú):Û (ä prog w) A (getItem (.ref t) (.ref sl)) Q E s:=by
 have Z:sizeOk (.seq ((items.toList.drop (aT items.size 0 lo)).take (aT items.size items.size hi-aT items.size 0 lo)).toArray):=by
  show ((items.toList.drop (aT items.size 0 lo)).take (aT items.size items.size hi-aT items.size 0 lo)).toArray.size<=Ú;rw[Ù,aaa,List.length_drop,ø];omega
 have U:aT items.size items.size hi<=items.size:=S0 _ _ (abG _) hi;obtain⟨os,Y,X,T⟩:=id hs;have W:s.TypeIs (.ref sl) "slice":=⟨os,Y,X⟩;unfold getItem
 try with_reducible refine ĝ ?_
 first|refine À (Ã ?_)|skip
 refine À (wpAny_sequenceKey ht.typeIs (by decide) ?_);refine À (ċ (name:=Ā "__getitem__") ht.typeIs ė
  (ć ė ht.typeIs entry_tuple_getitem ?_ (args_tuple_getitem _ _)))
 show Û _ _ (Ŝ (.ref t) >>= _) _ _ s;refine À (tupleItemsOf_ ht ?_);refine À (aam W ?_);rw[ß (by decide)];refine À (EL hs pl pu ?_);have V:¬ ((((aT items.size 0 lo:Nat):Int)==0&&(1:Int)==1&&(aT items.size items.size hi-aT items.size 0 lo)==items.size)=true):=by
  intro q;rw[Æ,Æ] at q;have S:((aT items.size 0 lo:Nat):Int)=0:=eq_of_beq q.1.1;have R:aT items.size items.size hi-aT items.size 0 lo=items.size:=eq_of_beq q.2;exact hw ⟨by omega,by omega⟩
 show Û _ _ (if (((aT items.size 0 lo:Nat):Int)==0&&(1:Int)==1&&(aT items.size items.size hi-aT items.size 0 lo)==items.size)=true then _ else _) _ _ s
 rw[è V,Ph]
 first
  |exact À (m:=ň _) (þ (Ã ⟨_,rfl,Ã h⟩) Z)
  |exact À (m:=ň _) (þ (À (Ã (Ã ⟨_,rfl,Ã h⟩))) Z)
  |exact À (À (m:=ň _) (þ (Ã (Ã ⟨_,rfl,Ã h⟩)) Z))
  |exact À (À (m:=ň _) (þ (Ã ⟨_,rfl,Ã h⟩) Z))
end
end HT
namespace L2
open PySem PySem.Spec PyProof.Rows
abbrev TO:=St->Hp->(Option Int->Hp->Prop)->Prop
def PO (X:Cx) (e:Option ġ) (t:TO):Prop :=
 ∀(Z:List (Ø×Obj)) (s:Ä) (σ:St) (H:Hp) (Q:Option Int->Hp->Prop),Inv X Z σ H s->t σ H Q ->
  Û (ä X.prog X.w) X.A (evalPart e X.env) (λu W=>∃o Y,Inv X Z σ Y W/\IsPart u o/\Q o Y) X.xe s
def Q5:TO:=λ_ H Q=>Q none H
def U3 (t:TE):TO:=fun σ H Q=>t σ H λx Z=>∃i,x=.int i/\Q (some i) Z
def intsAre_of:∀{us:List Å},Vals (ns.map V.int) us->aaJ us ns:=by
 induction ns with
 |nil=>intro us r;rw[ŏ] at r;cases r;exact .nil
 |cons n ns ih =>
  intro us r;rw[Ý] at r
  cases r with
  |cons Z Y =>
   obtain⟨t,e⟩:=Z;subst e;exact .cons n t (ih Y)
section
variable {X:Cx} {e:ġ} {te:TE} {lo hi:Option ġ} {tl th:TO} {pos p2:Pos}
def Q6:PO X none Q5:=by
 intro Z s σ H Q I h;rw[evalPart_none];exact Ã ⟨none,H,I,.none,h⟩
def Q7 (h:PE X e te):PO X (some e) (U3 te):=by
 intro Z s σ H Q I hw;rw[evalPart_some];refine aG (h Z s σ H _ I hw) λu T ⟨x,Y,W,V,U⟩=>?_;obtain⟨i,rfl,q⟩:=U;obtain⟨t,rfl⟩:=V;exact⟨some i,Y,W,.int i t,q⟩
def uK (X:Cx) (r:V->Option Int->Option Int->Hp->VK->Prop):Prop :=
 ∀(Z:List (Ø×Obj)) (s:Ä) (σ:St) (H:Hp) (x:V) (v Y W:Å) (lo hi:Option Int) (U:Ø) (Q:VK),Inv X Z σ H s->RelV x v->s.heap.IsSliceOf U Y W .none->IsPart Y lo->IsPart W hi->r x lo hi H Q ->
  ∃T id,typeLookup (.type T) "__getitem__"=pure (some (.builtin id))/\s.TypeIs v T/\Û (ä X.prog X.w) X.A (getItem v (.ref U)) (EP X Z σ Q) X.xe s
def Xt (r:V->Option Int->Option Int->Hp->VK->Prop) (te:TE) (tl th:TO):TE:=fun σ H Q=>te σ H λx Z=>tl σ Z λl Y=>th σ Y λu X=>r x l u X Q
def Pj (hr:uK X r) (he:PE X e te) (hl:PO X lo tl) (hu:PO X hi th):PE X (.Subscript e (.Slice lo hi none p2) pos) (Xt r te tl th):=by
 intro Y s σ H Q I h;refine Subscript_ (aG (he Y s σ H _ I h) λv S ⟨x,R,P,O,N⟩=>?_);refine wpAny_Slice (aG (hl Y S σ R _ P N) λW M ⟨l,L,K,J,G⟩=>aG (hu Y M σ L _ K G) λV Z ⟨u,U,F,pu,E⟩=>?_);rw[evalPart_none];refine Ã ?_
 have D:Inv X Y σ U { Z with heap:=Z.heap.push { cls:=.type "slice",data:=.fields #[W,V,.none] } }:=F.kept (t':=Z.toks) λb y q=>Á _ q
 obtain⟨T,id,C,B,z⟩:=hr Y { Z with heap:=Z.heap.push { cls:=.type "slice",data:=.fields #[W,V,.none] } } σ U x v W V l u Z.heap.objs.size Q D O (Heap.IsSliceOf.new ..) J pu E
 show Û (ä X.prog X.w) X.A (subscriptTail e (.Slice lo hi none p2) v (.ref Z.heap.objs.size)) (EP X Y σ Q) X.xe { Z with heap:=Z.heap.push { cls:=.type "slice",data:=.fields #[W,V,.none] } }
 exact tail_any (ops:=[.ref Z.heap.objs.size,v]) B C z (by with_unfolding_all rfl)
noncomputable def j7 (xs:List V) (lo hi:Option Int):List V:=(xs.drop (HT.aT xs.length 0 lo)).take (HT.aT xs.length xs.length hi-HT.aT xs.length 0 lo)
def Fb (xs:List V) (lo hi:Option Int):(j7 xs lo hi).length<=xs.length:=by
 unfold j7;rw[aaa,List.length_drop];omega
def Ww (K:Ď):V->Option Int->Option Int->Hp->VK->Prop:=λx lo hi H Q=>∃a Z,x=.ref a/\bC K H a Z /\
 ¬ (HT.aT Z.length 0 lo=0/\HT.aT Z.length Z.length hi=Z.length)/\∀p,H p=none->Q (.ref p) (upd H p (.tup (j7 Z lo hi)))
def AA:uK X (Ww X.K):=by
 intro R s σ H x v P O lo hi N Q I U hs T pu h;obtain⟨a,Y,rfl,S,hw,q⟩:=h;cases U;obtain⟨its,r,W,V⟩:=I.tuple S;have Z:its.toArray.size=Y.length:=by rw[Ù];exact r.length.symm
 refine⟨"tuple",_,ė.lookup,W.typeIs,?_⟩;refine HT.L3 W hs T pu (by rw[Z];exact hw) ?_ (by rw[Z];exact V);rw[Z];refine⟨.ref s.heap.objs.size,_,I.laid (t':=s.toks) (o:=.tup (j7 Y lo hi)) (λb M q=>Á _ q) (abG _) ?_,rfl,q _ (I.aB.fresh (abG _))⟩;exact⟨à (Fb Y lo hi) V,_,(r.drop (HT.aT Y.length 0 lo)).take (HT.aT Y.length Y.length hi-HT.aT Y.length 0 lo),IsTup.new _ _⟩
def U4 (K:Ď):R2:=λx y H Q=>∃a b Y Z,x=.ref a/\y=.ref b/\bC K H a Y/\bC K H b Z/\Y≠[]/\Y.length+Z.length<=Ú /\
 (Z=[]->Q (.ref a) H)/\(Z≠[]->∀p,H p=none->Q (.ref p) (upd H p (.tup (Y++Z))))
def Vals.zT (r:Vals xs us):us=[]↔xs=[]:=by
 cases r with
 |nil=>simp
 |cons _ _=>simp
def Q8:bG X (ĺ .Add) (U4 X.K):=by
 intro J s σ H x y v u Q I V U h;obtain⟨a,b,T,S,rfl,rfl,R,P,O,W,N,M⟩:=h;cases V;cases U;obtain⟨its,Y,L,_⟩:=I.tuple R;obtain⟨G,Z,p2,_⟩:=I.tuple P;refine HT.Q4 L p2 (λz=>O (Y.zT.mp z)) (λz=>⟨.ref a,H,I,rfl,N (Z.zT.mp z)⟩) (λz=>?_) (by rw[<- Y.length,<- Z.length];exact W);refine⟨.ref s.heap.objs.size,_,I.laid (t':=s.toks) (o:=.tup (T++S)) (λb F q=>Á _ q) (abG _) ?_,rfl,M (λw=>z (Z.zT.mpr w)) _ (I.aB.fresh (abG _))⟩;exact⟨by rw[Þ];exact W,_,Y.append Z,IsTup.new _ _⟩
end
noncomputable def fC (n:Nat) (i:Int):Option Nat:=if 0<=i then (if i<n then some i.toNat else none) else if -(n:Int)<=i then some (i+n).toNat else none
def de {α:Type} (xs:List α) (i:Int):Option α:=(fC xs.length i).bind λj=>xs[j]?
def Hh (h:fC n i=some j):seqIndex? i n=some j/\j<n/\-(n:Int)<=i/\i<n:=by
 unfold fC at h;by_cases Y:0<=i
 ·rw[ß Y] at h
  by_cases Z:i<n
  ·rw[ß Z] at h
   have e:i.toNat=j:=abH h;exact⟨by rw[seqIndex_of Y Z,e],by omega,by omega,Z⟩
  ·rw[è Z] at h;cases h
 ·rw[è Y] at h
  by_cases Z:-(n:Int)<=i
  ·rw[ß Z] at h
   have e:(i+n).toNat=j:=abH h;exact⟨by rw[seqIndex_neg (by omega) Z,e],by omega,Z,by omega⟩
  ·rw[è Z] at h;cases h
def zU {α:Type} {xs:List α} {i:Int} {v:α} (h:de xs i=some v):∃j,seqIndex? i xs.length=some j/\xs[j]?=some v/\j<xs.length/\-(xs.length:Int)<=i/\i<xs.length:=by
 unfold de at h
 cases e:fC xs.length i with
 |none=>rw[e] at h;cases h
 |some j =>
  rw[e] at h;obtain⟨Z,Y,X,W⟩:=Hh e;exact⟨j,Z,h,Y,X,W⟩
def Q9 {α:Type} {xs:List α} {j:Nat} {v:α} (h:xs[j]?=some v):de xs (j:Int)=some v:=by
 have Z:j<xs.length:=(Ç.mp h).1;have e:fC xs.length (j:Int)=some j:=by
  unfold fC;rw[ß (by omega),ß (by omega)];simp
 unfold de;rw[e];exact h
def Pk {α:Type} (xs:List α) (v:α):de (xs++[v]) (-1)=some v:=by
 have Z:(xs++[v]).length=xs.length+1:=by simp
 have e:fC (xs++[v]).length (-1)=some xs.length:=by
  unfold fC;rw[Z,è (by decide),ß (by omega)];congr 1;omega
 unfold de;rw[e];show (xs++[v])[xs.length]?=some v;simp
def Hi (b:ġ):Prop:=∀o i,subscripted b false o i=operate [o,i] (getItem o i)
def uL (X:Cx) (r:R2):Prop :=
 ∀(value slice:ġ) (Z:List (Ø×Obj)) (s:Ä) (σ:St) (H:Hp) (x y:V) (v u:Å) (Q:VK),Inv X Z σ H s->RelV x v->RelV y u->r x y H Q ->
  subscripted slice false v u=operate [v,u] (getItem v u)->Û (ä X.prog X.w) X.A (subscriptTail value slice v u) (EP X Z σ Q) X.xe s
def yn (X:Cx) (id:String) (r:V->List V->Hp->VK->Prop):Prop :=
 ∀(Z:List (Ø×Obj)) (s:Ä) (σ:St) (H:Hp) (x:V) (Y:List V) (v:Å) (W:List Å) (Q:VK),Inv X Z σ H s->RelV x v->Vals Y W->r x Y H Q ->
  Û (ä X.prog X.w) X.A (call (.builtin id) (v::W)) (EP X Z σ Q) X.xe s
section
variable {X:Cx} {a b:ġ} {ta tb:TE} {pos:Pos}
def U5 (hr:uL X r) (ha:PE X a ta) (hb:PE X b tb) (hs:Hi b):PE X (.Subscript a b pos) (uG r ta tb):=by
 intro Z s σ H Q I h;exact Subscript_ (BZ ha hb I h λv u Y x y W V U T q=>hr a b Z Y σ W x y v u Q V U T q (hs _ _))
def Wx (K:Ď):R2:=λx y H Q=>∃p Z i v,x=.ref p/\y=.int i/\bw K H p Z/\de Z i=some v/\Q v H
def Wy (K:Ď):R2:=λx y H Q=>∃p Z i v,x=.ref p/\y=.int i/\bC K H p Z/\de Z i=some v/\Q v H
def Wz:R2:=λx y H Q=>∃z i c,x=.str z/\y=.int i/\z.length<=Ú/\de z.cps.toList i=some c/\Q (.str ⟨#[c]⟩) H
def Hj:uL X (Wx X.K):=by
 intro value slice V s σ H x y v u Q I S R h hs;obtain⟨p,E,i,z,rfl,rfl,P,O,q⟩:=h;cases S;obtain⟨t,rfl⟩:=R;obtain⟨its,r,Y,D⟩:=I.list P;obtain⟨j,Z,N,C,M,L⟩:=zU O;obtain⟨w,U,J⟩:=r.get N;have G:=r.length;have B:=oF;have fin:EP X V σ Q w s:=⟨z,H,I,J,q⟩;by_cases T:0<=i
 ·have W:i.toNat=j:=by
   rw[seqIndex_of T L] at Z;exact abH Z
  exact item_listR Y.isList T (by omega) (by rw[W];simpa using U) fin hs
 ·have W:(i+(its.toArray.size:Int)).toNat=j:=by
   rw[seqIndex_neg (by omega) M] at Z;rw[Ù,<- G];exact abH Z
  exact subscriptTail_builtinR (x:=w) Y.isList.typeIs slot_list_getitem.lookup
   (wpAny_getItem_list_neg (Q:=λr F=>r=w/\EP X V σ Q r F) Y.isList (by omega) (by rw[Ù]<;>omega) (by omega) (by rw[W];simpa using U) ⟨rfl,fin⟩) hs
def S7:uL X (Wy X.K):=by
 intro value slice Z s σ H x y v u Q I W V h hs;obtain⟨p,L,i,z,rfl,rfl,U,T,q⟩:=h;cases W;obtain⟨t,rfl⟩:=V;obtain⟨its,r,Y,J⟩:=I.tuple U;obtain⟨j,S,R,G,F,E⟩:=zU T;obtain⟨w,P,O⟩:=r.get R;have N:=r.length;have D:=oF;have fin:EP X Z σ Q w s:=⟨z,H,I,O,q⟩;exact subscriptTail_builtinR (x:=w) Y.typeIs slot_tuple_getitem.lookup
  (getItem_tuple (j:=j) (Q:=λr M=>r=w/\EP X Z σ Q r M) Y (by omega) (by omega) (by rw[Ù,<- N];exact S) (by simpa using P) ⟨rfl,fin⟩) hs
def S8:uL X Wz:=by
 intro value slice P s σ H x y v u Q I Y W h hs;obtain⟨z,i,c,rfl,rfl,O,V,q⟩:=h;obtain⟨t,rfl⟩:=Y;obtain⟨N,rfl⟩:=W;obtain⟨j,Z,U,M,T,S⟩:=zU V;have R:z.cps.toList.length=z.length:=by simp[Str.length]
 rw[R] at Z T S;have L:=oF;exact tail_any (typeIs_str s z t) slot_str_getitem.lookup (getItem_str (c:=c) (by
  have e1:decide (i < -(2 ^ 63:Int))=false:=ó (by omega);have e2:decide (i ≥ 2 ^ 63)=false:=ó (by omega);rw[e1,e2,Bool.or_false]) (by rw[Z];simpa using U) ⟨.str ⟨#[c]⟩,H,I.tok _,⟨_,rfl⟩,q⟩) hs
def Nr (its:List Å) (n j:Nat) (u:Å):Œ (·.setIfInBounds j u) { cls:=.type "list",data:=.seq its.toArray n }={ cls:=.type "list",data:=.seq (its.set j u).toArray n }:=by
 simp[Œ]
theorem Inv.lst {π:List (Ø×Obj)} {σ:St} {H:Hp} {s:Ä} {p:Ø} {xs:List V} (I:Inv X π σ H s) (h:H p=some (.lst xs)) :
  ∃(its:List Å) (n:Nat),Vals xs its/\s.heap.get? p=some { cls:=.type "list",data:=.seq its.toArray n }/\xs.length<=Ú:=by
 obtain⟨z,its,n,r,e⟩:=I.aB p _ h;exact⟨its,n,r,e,z⟩
def Inv.S9 {π:List (Ø×Obj)} {σ:St} {H:Hp} {s:Ä} {p:Ø} {xs ys:List V} {its its':List Å} {n n':Nat} {f:Obj->Obj} (I:Inv X π σ H s) (h:H p=some (.lst xs))
  (ho:s.heap.get? p=some { cls:=.type "list",data:=.seq its.toArray n }) (hf:f { cls:=.type "list",data:=.seq its.toArray n }={ cls:=.type "list",data:=.seq its'.toArray n' }) (r:Vals ys its') (hz:ys.length<=Ú) (t:Nat) :
  Inv X π σ (upd H p (.lst ys)) { s with heap:=s.heap.update p f,toks:=t }:=by
 have e:(s.heap.update p f).get? p=some { cls:=.type "list",data:=.seq its'.toArray n' }:=by
  rw[ě f ho (by rw[hf]<;>rfl),hf]
 refine I.write (x:=p) (e:=p) (by rw[h];trivial) (.inl rfl) (λb u Z q=>(ζ _ _ (Ŭ Z)).trans q) ⟨_,e⟩ ?_;exact⟨hz,its',n',r,e⟩
def U6:V->V->V->Hp->(Hp->Prop)->Prop:=λo i v H Q=>∃p Z k j,o=.ref p/\i=.int k/\H p=some (.lst Z)/\fC Z.length k=some j/\Q (upd H p (.lst (Z.set j v)))
def set_list:J0 X U6:=by
 intro N s σ H o i v E D u Q I M L K h;obtain⟨p,J,k,j,rfl,rfl,T,G,q⟩:=h;cases M;obtain⟨t,rfl⟩:=L;obtain⟨its,n,r,Y,F⟩:=I.lst T;obtain⟨Z,C,S,R⟩:=Hh G;have V:=r.length;have B:=oF
 have P:Inv X N σ (upd H p (.lst (J.set j v))) { s with heap:=s.heap.update p (Œ (·.setIfInBounds j u)) } :=
  I.S9 T Y (Nr its n j u) (r.set K j) (by rw[ĉ];exact F) s.toks
 by_cases O:0<=k
 ·have U:k.toNat=j:=by
   rw[seqIndex_of O R] at Z;exact abH Z
  exact PySem.W.ki_setAt Y O (by omega) (by rw[Ù,<- V];exact R) (by rw[U];exact⟨_,P,q⟩)
 ·have U:(k+(its.toArray.size:Int)).toNat=j:=by
   rw[seqIndex_neg (by omega) S] at Z;rw[Ù,<- V];exact abH Z
  exact PySem.W.ki_setBack Y (by omega) (by rw[Ù,<- V];exact S) (by omega) (by rw[U];exact⟨_,P,q⟩)
def Mt (lo hi:Option Int) (n:Nat):(aaK lo hi none n).1=((HT.aT n 0 lo:Nat):Int)/\(aaK lo hi none n).2.1=((HT.aT n n hi:Nat):Int)/\(aaK lo hi none n).2.2=1:=by
 refine⟨?_,?_,rfl⟩
 ·cases lo with
  |none=>simp[aaK,HT.aT]
  |some i =>
   simp only[aaK,HT.aT,Option.getD_none,show (1:Int) > 0 by decide,ð];by_cases h:i<0
   ·simp only[h,ð]<;>omega
   ·simp only[h,é]<;>omega
 ·cases hi with
  |none=>simp[aaK,HT.aT]
  |some i =>
   simp only[aaK,HT.aT,Option.getD_none,show (1:Int) > 0 by decide,ð];by_cases h:i<0
   ·simp only[h,ð]<;>omega
   ·simp only[h,é]<;>omega
def Mi (its:List Å) (lo hi:Option Int):slicePick its.toArray lo hi none=((its.drop (HT.aT its.length 0 lo)).take (HT.aT its.length its.length hi-HT.aT its.length 0 lo)).toArray:=by
 obtain⟨Z,Y,X⟩:=Mt lo hi its.toArray.size;unfold slicePick;rw[Z,Y,X]
 simp only[sliceRange_one,pick_run,Ù]<;>rfl
def WA (K:Ď):V->Option Int->Option Int->Hp->VK->Prop:=λx lo hi H Q=>∃a Z,x=.ref a/\bw K H a Z/\∀p,H p=none->Q (.ref p) (upd H p (.lst (j7 Z lo hi)))
def Ra:uK X (WA X.K):=by
 intro R s σ H x v P O lo hi N Q I V hs U pu h;obtain⟨a,Z,rfl,T,q⟩:=h;cases V;obtain⟨its,r,W,S⟩:=I.list T;have Y:=r.length;refine⟨"list",_,slot_list_getitem.lookup,W.isList.typeIs,?_⟩
 refine wpAny_getItem_list_slice W.isList hs U pu .none (by simp) ?_ (by rw[Ù]<;>omega)
 rw[Mi,<- Y];refine⟨.ref s.heap.objs.size,_,I.laid (t':=s.toks) (o:=.lst (j7 Z lo hi)) (λb M q=>Á _ q) (abG _) ?_,rfl,q _ (I.aB.fresh (abG _))⟩;exact⟨à (Fb Z lo hi) S,_,0,(r.drop (HT.aT Z.length 0 lo)).take (HT.aT Z.length Z.length hi-HT.aT Z.length 0 lo),Í _ rfl⟩
def yS:cS X (.builtin "len") (λxs H Q=>∃p ys,xs=[.ref p]/\(bw X.K H p ys\/bC X.K H p ys)/\Q (.int ys.length) H):=by
 intro T s σ H xs S Q I r h;obtain⟨p,ys,rfl,hq,q⟩:=h;obtain⟨u,rfl,V⟩:=vals1 r;cases V;have R:=oF
 rcases hq with hq|hq
 ·obtain⟨its,Y,W,U⟩:=I.list hq
  have Z:=Y.length
  exact Calls.call_len_list W.isList (by simp only[Ù]<;>omega) ⟨.int ys.length,H,I.tok _,⟨s.toks+1,by rw[Ù,Z]⟩,q⟩
 ·obtain⟨its,Y,W,U⟩:=I.tuple hq
  have Z:=Y.length
  exact len_tuple W (by simp only[Ù]<;>omega) ⟨.int ys.length,H,I.tok _,⟨s.toks+1,by rw[Ù,Z]⟩,q⟩
def Mu:cS X (.builtin "len") (λxs H Q=>∃z,xs=[.str z]/\z.length<=Ú/\Q (.int z.length) H):=by
 intro Z s σ H xs Y Q I r h;obtain⟨z,rfl,W,q⟩:=h;obtain⟨u,rfl,t,rfl⟩:=vals1 r;have V:=oF;exact len_str (by omega) ⟨.int z.length,H,I.tok _,⟨_,rfl⟩,q⟩
def EM:cS X (.type "tuple") (λxs H Q=>∃p ys,xs=[.ref p]/\((bw X.K H p ys/\∀l,H l=none->Q (.ref l) (upd H l (.tup ys)))\/(bC X.K H p ys/\Q (.ref p) H))):=by
 intro U s σ H xs N Q I r h;obtain⟨p,ys,rfl,h⟩:=h;obtain⟨u,rfl,P⟩:=vals1 r;cases P
 rcases h with ⟨Y,q⟩ | ⟨Y,q⟩
 ·obtain⟨its,W,V,T⟩:=I.list Y
  have S:=W.length
  refine call_tuple_list V.isList (λZ kp=>?_) (by simp only[Ù]<;>omega)
  have R:Inv X U σ H { s with heap:=Z }:=I.kept (t':=s.toks) kp
  have O:Inv X U σ (upd H Z.objs.size (.tup ys)) { s with heap:=Z.push { cls:=.type "tuple",data:=.seq its.toArray } } :=
   R.laid (t':=s.toks) (λb o e=>Á _ e) (abG _) (show dB X.prog X.w _ _ _ (.tup ys) from ⟨T,its,W,IsTup.new _ _⟩)
  exact⟨.ref Z.objs.size,_,O,rfl,q _ (R.aB.fresh (abG _))⟩
 ·obtain⟨its,W,V,T⟩:=I.tuple Y
  exact call_tuple_same V ⟨.ref p,H,I,rfl,q⟩
def CJ (K:Ď) (T:String) (x:V) (H:Hp):Prop:=match x with
 | .str _=>T="str"
 | .int _=>T="int"
 | .ref p=>(T="list"/\∃Y,bw K H p Y)\/(T="tuple"/\∃o,K.lookup p=some o/\o.cls=.type "tuple"/\o.dict=none) \/
   (T="dict"/\((∃Z,H p=some (.dK Z))\/∃Z,H p=some (.dT Z)))\/(T="set"/\∃S n,H p=some (.set S n))
 |_=>False
def Ie {π:List (Ø×Obj)} {σ:St} {H:Hp} {s:Ä} {T:String} {x:V} {v:Å} (I:Inv X π σ H s) (r:RelV x v) (ty:CJ X.K T x H) :
  s.TypeIs v T/\∀a,v=.ref a->∃ob,s.heap.get? a=some ob/\ob.dict=none:=by
 cases x with
 |str z =>
  obtain⟨t,rfl⟩:=r;cases (show T="str" from ty)
  exact⟨typeIs_str s z t,λ_ e=>nomatch e⟩
 |int i =>
  obtain⟨t,rfl⟩:=r;cases (show T="int" from ty)
  exact⟨typeIs_int s i t,λ_ e=>nomatch e⟩
 |ref p =>
  cases r
  rcases ty with ⟨rfl,P,U⟩ | ⟨rfl,o,Z,R,Y⟩ | ⟨rfl,Z⟩ | ⟨rfl,S,n,Z⟩
  ·obtain⟨its,_,W,_⟩:=I.list U
   refine⟨W.isList.typeIs,λa e=>?_⟩;cases e;obtain⟨o,n,e,c,Y,_⟩:=W;exact⟨o,e,Y⟩
  ·refine⟨⟨o,I.eO p o Z,R⟩,λa e=>?_⟩
   cases e;exact⟨o,I.eO _ o Z,Y⟩
  ·have z:∃o,s.heap.get? p=some o/\o.ExactDict:=by
    rcases Z with ⟨Q,Z⟩ | ⟨Q,Z⟩
    ·obtain⟨_,_,_,_,o,_,_,e,ex,_⟩:=I.aB p _ Z
     exact⟨o,e,ex⟩
    ·obtain⟨_,_,_,_,o,_,_,e,ex,_⟩:=I.aB p _ Z
     exact⟨o,e,ex⟩
   obtain⟨o,e,ex⟩:=z;refine⟨⟨o,e,ex.1⟩,λa e2=>?_⟩;cases e2;exact⟨o,e,ex.2.1⟩
  ·obtain⟨o,_,_,_,e,ex,_⟩:=I.aB p _ Z
   refine⟨⟨o,e,ex.1⟩,λa e2=>?_⟩;cases e2;exact⟨o,e,ex.2.1⟩
 |_=>exact ď ty
def WB (K:Ď) (T:String) (r:V->List V->Hp->VK->Prop) (to:TE):TE:=fun σ H Q=>to σ H λx Z=>CJ K T x Z/\r x [] Z Q
def Xu (K:Ď) (T:String) (r:V->List V->Hp->VK->Prop) (to:TE) (t:TA):TE:=fun σ H Q=>to σ H λx Z=>CJ K T x Z/\t σ Z λY X=>r x Y X Q
variable {o e:ġ} {es:List ġ} {to:TE} {t:TA} {name:Str} {apos bj:Pos} {T id:String} {r:V->List V->Hp->VK->Prop}
def Ta (pa:PlainAttrs T) (slot:Slot T name id) (CK:typeOf (.builtin id)=pure (.type "method_descriptor")) (hm:yn X id r) (ho:PE X o to)
  (jU:Ŀ o name X.env (ĩ o X.env)=ĩ o X.env:=by rfl) (jV:(apos.endLine==bj.line)=true:=by rfl):PE X (.Call (.Attribute o name apos) [] [] bj) (WB X.K T r to):=by
 intro Z s σ H Q I h;refine wpAny_Call_method0_late jU jV (aG (ho Z s σ H _ I h) λv V ⟨x,U,Y,W,ty,S⟩=>?_);obtain⟨R,P⟩:=Ie Y W ty;exact⟨T,id,pa,slot,CK,R,P,Calls.callWith_builtin rfl (PySem.evalArgs_none (hm Z V σ U x [] v [] Q Y W .nil S))⟩
def Bo (pa:PlainAttrs T) (slot:Slot T name id) (CK:typeOf (.builtin id)=pure (.type "method_descriptor")) (hm:yn X id r) (ho:PE X o to) (ha:PA X (e::es) t)
  (jU:Ŀ o name X.env (ĩ o X.env)=ĩ o X.env:=by rfl)
  (o7:((ħ bj (Ê (e::es) X.env)).all (λx=>!x.1)&&(aav bj (ŗ [] X.env)).all (λx=>x.1.isSome)
   && decide ((e::es).length+([]:List aa3).length+(if ([]:List aa3).isEmpty then 0 else 1)<30))=true:=by rfl)
  (jV:(apos.endLine==bj.line)=true:=by rfl) (hs:Ê (e::es) X.env=(false,ĩ e X.env)::Ê es X.env:=by rfl) (jP:(ħ bj (Ê es X.env)).any (·.1)=false:=by rfl) :
  PE X (.Call (.Attribute o name apos) (e::es) [] bj) (Xu X.K T r to t):=by
 intro Z s σ H Q I h;refine wpAny_Call_method_late jU o7 jV rfl (aG (ho Z s σ H _ I h) λv U ⟨x,S,Y,W,ty,R⟩=>?_);obtain⟨P,O⟩:=Ie Y W ty;refine⟨T,id,pa,slot,CK,P,O,?_⟩;have V:=ha bj Z U σ S _ Y R;rw[hs] at V |-
 refine Calls.callWith_builtin (by show (false||(ħ bj (Ê es X.env)).any (·.1))=false;rw[jP]<;>rfl) (Calls.evalArgs_plain ?_)
 exact aG V λN M ⟨L,J,G,F,E⟩=>hm Z M σ J x L v N Q G W F E
end
def KZ (X:Cx) (id:String) (r:V->List V->Hp->VK->Prop):Prop :=
 ∀(Z:List (Ø×Obj)) (s:Ä) (σ:St) (H:Hp) (x:V) (Y:List V) (v:Å) (W:List Å) (Q:VK),Inv X Z σ H s->RelV x v->Vals Y W->r x Y H Q ->
  Û (ä X.prog X.w) X.A (call (.builtin id) (v::W)) (EP X Z σ Q) X.xe s
def Vals.one:∀{x:V} {us:List Å},Vals [x] us->∃u,us=[u]/\RelV x u
 |_,_,.cons r .nil=>⟨_,rfl,r⟩
def Vals.zero:∀{us:List Å},Vals [] us->us=[]
 |_,.nil=>rfl
theorem Vals.dropLast (h:Vals xs us):Vals xs.dropLast us.dropLast:=by
 induction h with
 |nil=>exact .nil
 |cons r t ih =>
  cases t with
  |nil=>exact .nil
  |cons q Z=>exact .cons r ih
theorem Vals.rep (h:Vals xs us):∀k:Nat,Vals (Ñ k xs).flatten (Ñ k us).flatten
 |0=>.nil
 |k+1=>by
  rw[Ģ,Ģ,ļ,ļ];exact Vals.append h (Vals.rep h k)
def Nt {α:Type} (l:List α):l.eraseIdx (l.length-1)=l.dropLast:=by
 induction l with
 |nil=>rfl
 |cons a r ih =>
  cases r with
  |nil=>rfl
  |cons b r =>
   have e:(a::b::r).length-1=((b::r).length-1)+1:=by
    have Z:(a::b::r).length=r.length+2:=rfl;have Y:(b::r).length=r.length+1:=rfl;omega
   rw[e,List.eraseIdx_cons_succ,ih]
   all_goals rfl
theorem foldl_rep (its:List Å):∀(k:Nat) (acc:List Å),
  List.foldl (λx1 x2=>x1++x2) acc.toArray (Ñ k its.toArray)=(acc++(Ñ k its).flatten).toArray
 |0,acc=>by simp
 |k+1,acc=>by
  have e:acc.toArray++its.toArray=(acc++its).toArray:=by simp
  have e2:(acc++its)++(Ñ k its).flatten=acc++(Ñ (k+1) its).flatten:=by
   rw[Ģ,ļ,Ů]
  rw[<- e2,<- foldl_rep its k (acc++its),<- e,Ģ,List.foldl_cons]
section
variable {X:Cx} {π:List (Ø×Obj)} {σ:St} {H:Hp} {s:Ä} {l b:Ø} {xs ys zs:List V}
def Inv.J5 {its its':List Å} {n:Nat} {f:Array Å->Array Å} {t':Nat} (I:Inv X π σ H s) (hH:H l=some (.lst xs))
  (e:s.heap.get? l=some { cls:=.type "list",data:=.seq its.toArray n }) (hf:f its.toArray=its'.toArray) (hv:Vals ys its') (hz:ys.length<=Ú) :
  Inv X π σ (upd H l (.lst ys)) { s with heap:=s.heap.update l (Œ f),toks:=t' }:=by
 have q:=PySem.IsL.update e f;rw[hf] at q;refine I.write (x:=l) (e:=l) (by rw[hH];exact trivial) (.inl rfl) (λW u Z Y=>(ζ s.heap (Œ f) (Ŭ Z)).trans Y) ⟨_,q⟩ ?_;exact⟨hz,its',_,hv,q⟩
def Inv.J6 (I:Inv X π σ H s) (hv:Vals ys its) (hz:ys.length<=Ú) :
  Inv X π σ (upd H s.heap.objs.size (.lst ys)) { s with heap:=s.heap.push { cls:=.type "list",data:=.seq its.toArray },toks:=t' } :=
 I.laid (λ_ _ q=>Á _ q) (abG _) ⟨hz,its,0,hv,Í _ rfl⟩
theorem Inv.fresh (I:Inv X π σ H s):H s.heap.objs.size=none:=I.aB.fresh (abG _)
def Inv.t5 (I:Inv X π σ H s) (hH:H l=some (.lst xs)):xs.length<=Ú/\∃(its:List Å) (n:Nat),Vals xs its/\xs.length=its.length/\s.heap.get? l=some { cls:=.type "list",data:=.seq its.toArray n }:=by
 obtain⟨z,its,n,r,e⟩:=I.aB l _ hH;exact⟨z,its,n,r,r.length,e⟩
def Pl (h:n<=Ú):aan n=false:=by
 unfold aan;exact ó (by omega)
end
section
variable {X:Cx}
def Rb:V->List V->Hp->VK->Prop:=λx Y H Q=>∃l Z y,x=.ref l/\Y=[y]/\H l=some (.lst Z)/\Z.length<Ú/\Q .ar (upd H l (.lst (Z++[y])))
def Od:KZ X "list.append" Rb:=by
 intro U s σ H x T v S Q I Y W h;obtain⟨l,R,y,rfl,rfl,Z,P,q⟩:=h;cases Y;obtain⟨u,rfl,V⟩:=W.one;obtain⟨z,its,n,r,O,e⟩:=I.t5 Z;refine abb F.slot_list_append ⟨_,e,rfl⟩ F.entry_list_append (F.args_list_append_2 _ _) (PySem.list_append l its.toArray n u (by rw[Ù];omega)) ⟨e,?_⟩;refine⟨.ar,_,I.J5 (its':=its++[u]) Z e (by simp) (r.append (.cons V .nil)) ?_,rfl,q⟩;rw[Þ,List.length_singleton];omega
def WC:V->List V->Hp->VK->Prop:=λx Y H Q=>∃l Z y,x=.ref l/\Y=[]/\H l=some (.lst Z)/\Z[Z.length-1]?=some y/\Q y (upd H l (.lst Z.dropLast))
def Tb:KZ X "list.pop" WC:=by
 intro O s σ H x N v M Q I Y W h;obtain⟨l,L,y,rfl,rfl,Z,V,q⟩:=h;cases Y;have U:=W.zero;subst U;obtain⟨z,its,n,r,T,e⟩:=I.t5 Z;obtain⟨u,S,R⟩:=r.get V;have P:its.toArray[its.toArray.size-1]?=some u:=by
  show its.toArray[its.length-1]?=some u;rw[<- Ĳ,<- T];exact S
 refine abb F.slot_list_pop ⟨_,e,rfl⟩ F.entry_list_pop (F.args_list_pop_1 _) (MeetsSeq.list_pop_last l its.toArray n u P (by rw[Ù];omega)) ⟨e,?_⟩;refine⟨y,_,I.J5 (its':=its.dropLast) Z e ?_ r.dropLast ?_,R,q⟩
 ·show its.toArray.eraseIdxIfInBounds (its.toArray.size-1)=its.dropLast.toArray
  rw[Ù,List.eraseIdxIfInBounds_toArray,Nt]
 ·rw[List.length_dropLast]
  omega
def WD:R2:=λx y H Q=>∃l b Z zs,x=.ref l/\y=.ref b/\H l=some (.lst Z)/\H b=some (.lst zs)/\Z.length+zs.length<=Ú/\∀p,H p=none->Q (.ref p) (upd H p (.lst (Z++zs)))
def Ig:bG X (ĺ .Add) WD:=by
 intro R s σ H x y v u Q I Y W h;obtain⟨l,b,O,zs,rfl,rfl,V,U,N,q⟩:=h;cases Y;cases W;obtain⟨z,its,n,r,M,e⟩:=I.t5 V;obtain⟨L,Z,K,T,J,e2⟩:=I.t5 U;refine PySem.P.add_list e e2 ?_ (by rw[Ù,Ù];omega);have S:its.toArray++Z.toArray=(its++Z).toArray:=by simp
 rw[S];exact⟨.ref _,_,I.J6 (t':=s.toks) (r.append T) (by rw[Þ];omega),rfl,q _ I.fresh⟩
def WE:R2:=λx y H Q=>∃l k Z,x=.ref l/\y=.int k/\H l=some (.lst Z)/\-(2 ^ 63)<=k/\k<2 ^ 63/\Z.length*k.toNat<=Ú /\
 ∀p,H p=none->Q (.ref p) (upd H p (.lst (Ñ k.toNat Z).flatten))
def len_rep {α:Type} (xs:List α) (k:Nat):(Ñ k xs).flatten.length=k*xs.length:=by
 induction k with
 |zero=>simp
 |succ k ih=>rw[Ģ,ļ,Þ,ih,Nat.succ_mul,Nat.add_comm]
def Tc:bG X (ĺ .Mult) WE:=by
 intro D s σ H x y v u Q I S R h;obtain⟨l,k,C,rfl,rfl,P,O,N,V,q⟩:=h;cases S;obtain⟨t,rfl⟩:=R;obtain⟨z,its,n,r,M,e⟩:=I.t5 P;have Z:its.toArray.size*k.toNat<=Ú:=by rw[Ù,<- M];exact V
 have L:¬ its.toArray.size*k.toNat > (2 ^ 63-1) / 8:=by
  have:(Ú:Nat)<=(2 ^ 63-1) / 8:=by decide
  omega
 have K:¬ (!Builtin.List.listFitsIndex k)=true:=by
  rw[fitsIndex_both O N];exact Ï
 have J:¬ aan (its.toArray.size*k.toNat)=true:=by
  rw[Pl Z];exact Ï
 have G:List.foldl (λY W=>Y++W) #[] (Ñ (if its.toArray.isEmpty=true then 0 else k.toNat) its.toArray)=(Ñ k.toNat its).flatten.toArray:=by
  have f0:∀m:Nat,List.foldl (λY W=>Y++W) #[] (Ñ m its.toArray)=(Ñ m its).flatten.toArray:=λm=>by
   have:=foldl_rep its m [];rw[ĸ] at this;exact this
  rw[f0]
  cases its with
  |nil=>simp
  |cons a B=>rw[è (by simp)]
 refine wpAny_binaryOp_repeat_ref (T:="list") (U:="int") (by decide) ⟨_,e,rfl⟩ (λE=>typeIs_int E k t) noFill_list_mul F.fills_int_mul abh repeat_list F.slot_int_index.lookup
  (abb abh (typeIs_int s k t) F.entry_int_rmul (F.args_int_rmul_2 _ _) (int___rmul___int_list k t l its.toArray n)
   ⟨e,rfl,⟨_,e,rfl⟩,abb F.slot_list_mul ⟨_,e,rfl⟩ F.entry_list_mul (F.args_list_mul_2 _ _) (AutoListH.list___mul___list_int_3 l its.toArray n k t K L J) ⟨e,?_⟩⟩)
 rw[G];exact⟨.ref _,_,I.J6 (t':=s.toks) (r.rep k.toNat) (by rw[len_rep,Nat.mul_comm];exact V),rfl,q _ I.fresh⟩
end
section
variable {prog:ã} {w:Ă} {A:ê} {E:Å->Ä->Prop} {s:Ä}
set_option maxRecDepth 100000 in
end
section
variable {X:Cx}
end
end L2
namespace K1
open PySem PySem.W PySem.Calls PyProof.Rows
def L7:∀(ns:List Int) (vs:List Å),WellAll P h vs (ns.map WData.int)->aaJ vs ns:=by
 intro ns
 induction ns with
 |nil =>
  intro vs w;rw[ŏ] at w;cases w;exact .nil
 |cons n ns ih =>
  intro vs w;rw[Ý] at w
  cases w with
  |cons a b =>
   cases a;exact .cons _ _ (ih _ b)
def Oe {l:OpenLaw} {n:Nat} (hn:l.most=some n) {P:Params} {h:ĥ} {args:List WData} {vals:List Å}
  (xK:l.row.toRowW.claim.pre args=true) (CL:WellAll P h vals args) :
  ∃a vs ns,vals=[Ļ a]/\args=[WData.list (ns.map WData.int)]/\h.get? a=some { cls:=.type "list",data:=.seq vs.toArray }/\aaJ vs ns/\ns.length<=n:=by
 have V:WShape.hasAll [] args [.list .int]=true:=(pre_splitW xK).1;have W:l.pre.holds [] { args:=args }=true:=(pre_splitW xK).2;obtain⟨d,r,rfl,U,T⟩:=hasAllW_cons V;obtain rfl:=hasAllW_nil T;obtain⟨L,rfl,S⟩:=hasW_list U;obtain⟨ns,rfl⟩:=items_int S;have Z:ns.length<=n:=by
  unfold OpenLaw.pre at W;have Y:(WTm.not (.lt (.lit (.int (n:Int))) (.len (.arg 0)))).holds [] { args:=[.list (ns.map .int)] }=true:=by
   have Y:=(holds_andW W).1;rw[hn] at Y;exact Y
  have X:=condW_of Y (w_not (w_lt w_lit (w_len_list (w_arg rfl))));rw[É] at X;refine Ż λq=>?_;have R:(n:Int)<((ns.length:Nat):Int):=by omega
  first
   |(rw[á R] at X;exact absurd X (by decide))
   |(simp at X;omega)
 cases CL with
 |cons Q O =>
  cases O
  cases Q with
  |list N M=>exact⟨_,_,ns,rfl,rfl,N,L7 ns _ M,Z⟩
def Of (l:OpenLaw) (args:List WData):l.row.toRowW.claim.post args (.bool true) args=true :=
 postW_of (r:=l.row.toRowW) (X:=(true==true))
  (show WShape.has [] (.bool true) .bool=true by first|rfl|decide|simp[WShape.has,WShape.arms,WShape.armsAll])
  (show (WTm.eq .res (.lit (.bool true))).value [] { args:=args,res:=some (.bool true),after:=args }=some (.bool (true==true)) from w_eq_bool (w_res rfl) w_lit) rfl
def MM {l:OpenLaw} {n:Nat} {q:ã} {loose:List Str} {XP:(Str->Option Å)->ĥ->Prop} {YP:Ă->ĥ->Prop} {d:DefRec}
  (hn:l.most=some n) (uM:d.params.defaults=[])
  (call:∀(w:Ă) (cL bB:Ä) (mg mb:Str->Option Å) (fa:Ø) (o:Obj) (pm cd doc:Å) (a:Ø) (vs:List Å) (ns:List Int),
   Ground q loose [] XP w cL mg mb bB.heap->YP w bB.heap ->
   bB.heap.get? fa=some o->o.data=.func (docDef d.name d.params d.body d.scope pm cd doc)->bB.heap.CodeRec cd d.name->mg d.name=some (.ref fa) ->
   bB.heap.get? a=some { cls:=.type "list",data:=.seq vs.toArray }->aaJ vs ns->ns.length<=n->bB.gens=#[] ->
   ŷ (ä l.prog w) callerA (.call (.ref fa) ⟨[.ref a],[]⟩) (λr s'=>r=.ok (.ret (.bool true))/\OldK bB.heap s'.heap/\s'.os=bB.os/\aby s'.gens) bB) :
  WalkO q loose XP YP l.row.toRowW d [] (λf vs=>PySem.call f vs):=by
 intro w cL bB mg mb G Y fa o pm cd doc W kV V U T X S R args vals as Q I H P F;obtain rfl:W=.none:=Dflts.none X uM;obtain rfl:kV=.none:=Dflts.noKw X;obtain⟨a,vs,ns,rfl,rfl,O,hints,Z⟩:=Oe hn Q P;refine enter_call (ō (call w cL bB mg mb fa o pm cd doc a vs ns G Y V (fd_plain U) T S O hints Z R) λr s' N=>?_);obtain⟨rfl,M,L,K⟩:=N
 exact⟨.inl ⟨.bool true,.bool true,[],rfl,λ_=>rfl,.bool true,Of l _,λ_=>⟨List.Pairwise.nil,λ_ J=>(nomatch J)⟩⟩,M,L,K⟩
section
variable {prog:ã} {w:Ă} {A:ê} {E:Å->Ä->Prop} {s:Ä} {K:Ď}
noncomputable def ledger (h:ĥ) (L d:Ø):List (Ø×Obj):=(č h.objs.size).filterMap λa=>if a=L\/a=d then none else (h.get? a).map λo=>(a,o)
end
end K1
namespace L2
open PySem PySem.Spec PyProof.Rows
theorem FP:∀{vs:List Å} {ns:List Int},aaJ vs ns->Vals (ns.map V.int) vs
 |_,_,.nil=>.nil
 |_,_,.cons n t h=>.cons ⟨t,rfl⟩ (FP h)
noncomputable abbrev ZF {K:Ď} {h:ĥ} (_:K.In h):Ď:=K
noncomputable def jL (s:aaX):abv:=match s with
 | .FunctionDef _ a _ _ _ _ _ _ _ _=>a
 |_=>{ posonlyargs:=[],args:=[],vararg:=none,kwonlyargs:=[],kw_defaults:=[],kwarg:=none,defaults:=[] }
noncomputable def fH (s:aaX):List aaX:=match s with
 | .FunctionDef _ _ b _ _ _ _ _ _ _=>b
 |_=>[]
noncomputable def bX (s:aaX):ι:=match s with
 | .FunctionDef _ _ _ _ _ _ sc _ _ _=>sc
 |_=>{ kind:=.function,names:=[],isGenerator:=false,isCoroutine:=false }
abbrev dA:i7:=λ_ _ _ _ _ _=>False
abbrev E0:XK:=λ_ _ _=>False
def U8:Passes dA X E0:=λ_ _ _ _ _ _ _ h=>h.elim
structure nO (K:Ď) (x qual:Str) (st:aaX) (f:Ø) (fd:Ė):Prop where
 ex:∃(oc:Å) (od:Option Ø) (kV doc pm:Å) (an:Option Ø) (aO ct:Å) (iL:Array (Option Å)),
  fd=Ŏ x qual (jL st) (fH st) (bX st) .none kV doc pm an aO ct/\K.lookup f=some ⟨oc,od,.func fd,iL⟩/\Z2 K aO qual=true
 kp:ľ K (.ref f)=true
section
variable {P:ã} {w:Ă} {K:Ď} {mg:Str->Option Å} {base:ĥ}
def nO.ok {x qual:Str} {st:aaX} {f:Ø} {fd:Ė} {N ps:List Str} {k:Nat} {sp:Sp} (F:nO K x qual st f fd) (S:oz N ps (bX st)) (len:∀vs H Q E,sp vs H Q E->vs.length=ps.length)
  (jT:∀(aO:Å) (A:ê) (outer:List Env) (s:Ä) (H:Hp) (vs:List V) (Q:VK) (E:XK),bp k (A.deeper (abB qual (bX st) s.heap.objs.size f aO))->sp vs H Q E ->
   ∃t,cP (gr dA P w K mg base N qual (bX st) f aO A outer s H E).mK (fH st) t/\t { nx:=λ_ H'=>Q .ar H',rt:=Q } (start N vs) H):cB P w K mg base dA (k+1) f fd ps sp:=by
 obtain⟨W,U,kV,doc,pm,an,aO,T,R,rfl,lk,Z⟩:=F.ex;refine xo lk Z S len λA outer s H vs Q E Y X=>?_;obtain⟨t,h,q⟩:=jT aO A outer s H vs Q E Y X;exact⟨t,h.mK,q⟩
def nO.binds {x qual:Str} {st:aaX} {f:Ø} {fd:Ė} {ps:List Str} (F:nO K x qual st f fd)
  (h:∀(kV doc pm:Å) (an:Option Ø) (aO ct:Å) (us:List Å),us.length=ps.length->bindArgs (Ŏ x qual (jL st) (fH st) (bX st) .none kV doc pm an aO ct) ⟨us,[]⟩=pure (ps.zip us)):Binds K fd ps []:=by
 obtain⟨Z,Y,kV,doc,pm,an,aO,ct,X,rfl,lk,W⟩:=F.ex;exact .all (h kV doc pm an aO ct)
def wH {x qual:Str} {st:aaX} {f:Ø} {oc:Å} {od an:Option Ø} {iL:Array (Option Å)} {kV doc pm aO ct:Å} (l:K.lookup f=some ⟨oc,od,.func (Ŏ x qual (jL st) (fH st) (bX st) .none kV doc pm an aO ct),iL⟩)
  (c:Z2 K aO qual=true) (k:ľ K (.ref f)=true):nO K x qual st f (Ŏ x qual (jL st) (fH st) (bX st) .none kV doc pm an aO ct):=⟨⟨oc,od,kV,doc,pm,an,aO,ct,iL,rfl,l,c⟩,k⟩
end
section
variable {X:Cx}
end
def j8 (H H':Hp):Prop:=∀b o,H b=some o->H' b=some o
def j8.refl (H:Hp):j8 H H:=λ_ _ h=>h
def Nu (J:Nat->Ä->Prop)
 (turn:∀n s,J n s->Û (ä P w) A (aaj gy) (λr s1=>match r with
   |none=>R (.ok .next) s1
   |some v=>Û (ä P w) A (ŕ tg gy v) (λ_ s2=>Û (ä P w) A (abn tg ce v) (λ_ s3 =>
     Û (ä P w) A (forIn tests true λc r=>if r=true then do let ok <- isTrue c ce (ĩ c ce);pure (Ĺ ok) else pure (Ĺ r)) (λok s4 =>
      if ok=true then Û (ä P w) A (ĩ el ce) (λy s5=>Û (ä P w) A (call (.builtin "list.append") [av,y]) (λ_ s6=>∃m,m<n/\J m s6) (λ_ _=>False) s5) (λ_ _=>False) s4
      else ∃m,m<n/\J m s4) (λ_ _=>False) s3) (λ_ _=>False) s2) (λ_ _=>False) s1) (λ_ _=>False) s)
 (n:Nat) (h:J n s):ŷ (ä P w) A (.compLoop (.ListComp el [⟨tg,src,tests,0⟩] sc ps) 0 gy av ce) R s:=by
 refine codeAny_loop rfl J (λn s X=>?_) n h
 show Û _ A ((compTurn (.ListComp el [⟨tg,src,tests,0⟩] sc ps) 0 gy av ce).onRaise (λx=>do noteFrame x ce;theTreesLotGoes x)) _ _ s
 refine wpAny_noted ?_;rw[compTurn_list];refine À (Ŷ (À (Ĝ (turn n s X) (λr s1 Z=>?_) λ_ _ z=>z.elim)))
 cases r with
 |none=>exact Ã Z
 |some v =>
  refine À (Ĝ Z (λ_ s2 W=>?_) λ_ _ z=>z.elim);refine À (Ĝ W (λ_ s3 V=>À (Ĝ V (λok s4 Y=>?_) λ_ _ z=>z.elim)) λ_ _ z=>z.elim)
  cases ok with
  |false=>exact Ã ⟨rfl,Y⟩
  |true =>
   exact À (À (Ĝ Y (λy s5 U=>À (Ĝ U (λ_ s6 T=>Ã (Ã ⟨rfl,T⟩)) λ_ _ z=>z.elim)) λ_ _ z=>z.elim))
theorem zu (env:Env):∀(l:List (Str×ũ)) (acc:List (Str×Ø)),(∀n,(n,ì)∈l->∃c,env.cells.lookup n=some c) ->
  ∃cl,(forIn l acc (λ(p:Str×ũ) (cs:List (Str×Ø))=>(do
   if (p.2==ì)=true then do let c <- cellOf env p.1;pure (Ĺ ((p.1,c)::cs)) else pure (Ĺ cs):Sem (ForInStep (List (Str×Ø))))))=pure cl /\
   ∀n c,cl.lookup n=some c↔(((n,ì)∈l/\env.cells.lookup n=some c)\/((n,ì)∉l/\acc.lookup n=some c))
 | [],acc,_=>⟨acc,rfl,λn c=>by simp⟩
 |(x,k)::r,acc,h=>by
  rw[aax]
  cases Y:(k==ì) with
  |false =>
   have U:k≠.free:=by intro e;rw[e] at Y;cases Y
   obtain⟨cl,e,q⟩:=zu env r acc λn X=>h n (Ó _ X);refine⟨cl,?_,λn c=>?_⟩
   ·simp only[Â,é]
    exact e
   ·rw[q n c]
    have:(n,ì)∈(x,k)::r↔(n,ì)∈r:=by
     constructor
     ·intro Z
      rcases Õ.mp Z with z|z
      ·injection z with _ T
       exact absurd T.symm U
      ·exact z
     ·exact Ó _
    rw[this]
  |true =>
   have S:k=.free:=by cases k<;>first|rfl|cases Y
   subst S;obtain⟨R,W⟩:=h x Ô;obtain⟨cl,e,q⟩:=zu env r ((x,R)::acc) λn X=>h n (Ó _ X);refine⟨cl,?_,λn c=>?_⟩
   ·simp only[ð,cellOf,W]
    exact e
   ·rw[q n c]
    by_cases V:n=x
    ·subst V
     constructor
     ·rintro (⟨_,z⟩ | ⟨_,z⟩)
      ·exact .inl ⟨Ô,z⟩
      ·rw[đ,ā] at z
       exact .inl ⟨Ô,W.trans z⟩
     ·rintro (⟨_,z⟩ | ⟨z,_⟩)
      ·by_cases Z:(n,ì)∈r
       ·exact .inl ⟨Z,z⟩
       ·refine .inr ⟨Z,?_⟩
        rw[đ,ā];exact W.symm.trans z
      ·exact absurd Ô z
    ·have:(n,ì)∈(x,ì)::r↔(n,ì)∈r:=by
      constructor
      ·intro Z
       rcases Õ.mp Z with z|z
       ·injection z with Q _
        exact absurd Q V
       ·exact z
      ·exact Ó _
     rw[this,đ,beq_false_of_ne V]
def Ih (h:∀n,(n,ì)∈sc.names->∃c,env.cells.lookup n=some c) :
  ∃cl,closureFor sc env=pure cl/\∀n c,cl.lookup n=some c↔((n,ì)∈sc.names/\env.cells.lookup n=some c):=by
 obtain⟨cl,e,q⟩:=zu env sc.names [] h;refine⟨cl,?_,λn c=>?_⟩
 ·unfold closureFor
  exact(Ķ (λz:Sem (List (Str×Ø))=>z >>= λr=>pure r) e)
 ·rw[q n c]
  simp
theorem Gk (f:Str->ũ->ũ) (x:Str):∀l:List (Str×ũ),(l.map λp=>(p.1,f p.1 p.2)).lookup x=(l.lookup x).map (f x)
 | []=>rfl
 |(n,k)::r=>by
  rw[Ý,đ,đ]
  cases h:x==n with
  |true =>
   have e:x=n:=by simpa using h
   subst e;rfl
  |false=>exact Gk f x r
def vw (sc:ι) (env:Env) (x:Str):(relabel sc env).names.lookup x=(sc.names.lookup x).map λk=>if (k==ì&&env.scope.kind==.function&&env.kindOf x==some .cell)=true then NameKind.cell else k:=by
 rw[<- Gk (λx k=>if (k==ì&&env.scope.kind==.function&&env.kindOf x==some .cell)=true then NameKind.cell else k)]
 show aae x (sc.names.map _)=_;congr 1;apply List.map_congr_left;rintro ⟨n,k⟩ _;dsimp only
 split<;>rfl
abbrev dJ (X:Cx) (N:List Str) (sc:ι) (cl:List (Str×Ø)) (C:Ø) (s:Ä) (H:Hp) (ex:List Ø) (pn:List (Ø×Obj)):Cx where
 prog:=X.prog
 w:=X.w
 K:=X.K
 mg:=X.mg
 base:=X.base
 A:=X.A
 N:=N
 cL:=s
 lg:=H
 env:=compEnvC sc cl C X.env
 outer:=X.stack
 stack:=X.stack
 ex:=ex
 fn:=λ_=>false
 calm:=X.calm
 pn:=pn
 xe:=λ_ _=>False
structure sP (X:Cx) (sc:ι) (N:List Str) (nt:Nat) (cap:List Nat):Prop where
 kind:sc.kind=.function
 sQ:∀x∈sc.names,x.2≠.cell
 names:∀x∈sc.names,x.2=.local->sc.names.lookup x.1=some .local
 frees:∀x∈sc.names,x.2=.free->sc.names.lookup x.1=some .free/\(X.env.scope.names.lookup x.1=some .cell\/X.env.scope.names.lookup x.1=some .free)
 len:N.length=nt+cap.length
 B6:∀(k:Nat) j,cap[k]?=some j->∃x,X.N[j]?=some x/\N[nt+k]?=some x/\(x,ì)∈sc.names
def kP (nt:Nat) (cap:List Nat) (σ:St):St:=Ñ nt none++cap.map λj=>(σ[j]?).getD none
def PF (X:Cx) (tests:List ġ) (t:TT):Prop :=
 ∀(Z:List (Ø×Obj)) (s:Ä) (σ:St) (H:Hp) (Q:Bool->Hp->Prop),Inv X Z σ H s->t σ H Q ->
  Û (ä X.prog X.w) X.A (forIn tests true λc r=>if r=true then do let ok <- isTrue c X.env (ĩ c X.env);pure (Ĺ ok) else pure (Ĺ r)) (TP X Z σ Q) X.xe s
def WJ:TT:=λ_ H Q=>Q true H
def Td:PF X [] WJ:=λ_ _ _ H _ I h=>wpAny_tests_nil ⟨H,I,h⟩
def Te (h:PT X c t):PF X [c] t:=λZ s σ H Q I hw=>wpAny_tests_one (h Z s σ H Q I hw)
def mL (g:TG) (nt:Nat):Prop:=∀(x:V) (o Z:St) (H:Hp) (R:St->Hp->Prop),o.length=nt->g x (o++Z) H R->g x (o++Z) H fun Y W=>(∃X:St,X.length=nt/\Y=X++Z)/\R Y W
def mj (cap:List Nat) (σ:St):St:=cap.map λj=>(σ[j]?).getD none
def K3 (mk:Ø->List V->HO) (ku:List V->Prop) (J:It) (nt:Nat) (caps:St) (g:TG) (tf:TT) (te:TE) (H:Hp) (Q:VK):Prop:=∃W:Nat->Nat->List V->Hp->Prop,(∃m,W 0 m [] H) /\
 ∀i m Z Y,W i m Z Y->(J.stop i Y/\ku Z/\∀D,Y D=none->Q (.ref D) (upd Y D (mk D Z))) \/
  (J.go i Y/\ku Z/\∃N:List V->Hp->Prop,(∀X U,N X U->∃T,T < m/\W (i+1) T X U) /\
   ∀o x S,o.length=nt->J.rK i Y x S->g x (o++caps) S fun R O=>tf R O λb P=>if b=true then te R P λv M=>N (Z++[v]) M else N Z P)
def CW (J:It) (nt:Nat) (caps:St) (g:TG) (tf:TT) (te:TE) (H:Hp) (Q:VK):Prop:=K3 (λ_ Z=>.lst Z) (λZ=>Z.length<=Ú) J nt caps g tf te H Q
def nj (wi:TI) (nt:Nat) (cap:List Nat) (g:TG) (tf:TT) (te:TE):TE:=fun σ H Q=>wi σ H λJ Z=>CW J nt (mj cap σ) g tf te Z Q
section
variable {fs ex:List Ø} {H H':Hp} {h h1 h2:ĥ} {P:ã} {w:Ă}
def Un.adopt {D:Ø} {o:HO} (u:Un fs ex H H' h h1) (hp:h.objs.size<=D) (hn:H' D=none):Un fs ex H (upd H' D o) h h1 where
 keep:=u.keep
 slot:=u.slot
 free:=λb Y q n X=>by rw[aW (â (È (Ë q) hp))];exact u.free b Y q n X
 there:=u.there
 fx:=λb Z q=>by rw[aW (cY (u.fx b Z q) hn)];exact u.fx b Z q
 ei:=λb Y Z q=>by rw[aW (cY (u.ei b Y Z q) hn)];exact u.ei b Y Z q
 fy:=λb W q=>by
  obtain⟨more,e⟩:=u.fy b W q;exact⟨more,by rw[aW (cY e hn)];exact e⟩
def Un.but {C:Ø} (u:Un fs ex H H' h h1) (hp:h.objs.size<=C) (sb:İ C h1 h2):Un fs ex H H' h h2:=by
 have ne:∀b Z,h.get? b=some Z->b≠C:=λb Z q=>â (È (Ë q) hp);refine⟨λb Z q n X Y=>(sb.2 b (ne b Z q)).trans (u.keep b Z q n X Y),λb Z q n X Y=>?_,u.free,λb Z q Y=>?_,u.fx,u.ei,u.fy⟩
 ·obtain⟨W,e⟩:=u.slot b Z q n X Y
  exact⟨W,(sb.2 b (ne b Z q)).trans e⟩
 ·obtain⟨V,e⟩:=u.there b Z q Y
  exact⟨V,(sb.2 b (ne b Z q)).trans e⟩
def cm.but (x:cm P w H h1) (hn:H C=none) (sb:İ C h1 h2):cm P w H h2:=λa o e =>
 (x a o e).dW (λb u Z q=>(sb.2 b (by
  rintro rfl
  rcases Z with z|z
  ·subst z;rw[hn] at e;cases e
  ·rw[hn] at z;cases z)).trans q) (λ_ q=>q) λ_ _ q=>q
def cm.adopt (x:cm P w H h) (hn:H D=none) (new:dB P w (upd H D o) h D o):cm P w (upd H D o) h:=λb u e=>by
 by_cases Z:b=D
 ·subst Z;rw[cx] at e;cases e;exact new
 ·rw[aW Z] at e
  exact(x b u e).dW (λc v _ q=>q) (λc q=>by rw[aW (cY q hn)];exact q) λc Y q=>by rw[aW (cY q hn)];exact q
end
section
variable {X:Cx} {sc:ι} {N:List Str} {nt:Nat} {cap:List Nat} {cl:List (Str×Ø)} {s:Ä} {h1:ĥ} {H:Hp} {σ:St} {π:List (Ø×Obj)} {fp:List Ø} {C:Ø} {t':Nat}
def Inv.block (I:Inv X π σ H s) (S:sP X sc N nt cap) (cQ:∀n c,cl.lookup n=some c↔((n,ì)∈sc.names/\X.env.cells.lookup n=some c)) (hf:∀b∈fp,fO X π H b) (fT:∀b∈fp,b<s.heap.objs.size)
  (hk:∀b o,s.heap.get? b=some o->h1.get? b=some o) (hC:s.heap.objs.size<=C) (nP:∃m,h1.Ns C m):Inv (dJ X N sc cl C s H fp (X.pn++π)) [] (kP nt cap σ) H { s with heap:=h1,toks:=t' }:=by
 have Q:∀b∈ck X.stack,b∈X.env.locals::X.fs:=I.jO;have g:C∉ck X.stack:=λz=>by
  rcases Õ.mp (I.jO C z) with e|e
  ·exact absurd (È I.lt hC) (by rw[e];exact ï _)
  ·exact I.tY hC e
 have M:∀x,(relabel sc X.env).names.lookup x=some .cell\/(relabel sc X.env).names.lookup x=some .free->(x,ì)∈sc.names:=λx Z=>by
  rw[vw] at Z
  cases e:sc.names.lookup x with
  |none=>rw[e] at Z;rcases Z with z|z<;>cases z
  |some k =>
   have Y:(x,k)∈sc.names:=by
    obtain⟨f,a,e1,_⟩:=List.lookup_eq_some_iff.mp e;rw[e1];simp
   rw[e] at Z
   cases k with
   |free=>exact Y
   |cell=>exact absurd rfl (S.sQ _ Y)
   |_=>exfalso;revert Z;simp
 have L:∀x,(x,ì)∈sc.names->∃c,X.env.cells.lookup x=some c:=λx Z=>I.ok.has x (S.frees _ Z rfl).2;have ok:Cx.Ok (dJ X N sc cl C s H fp (X.pn++π)):=by
  refine⟨I.ok.mod,?_,I.ok.glob,I.ok.blt,hC,?_,?_,?_,I.ok.hd,I.ok.frames,.inl rfl,?_,I.bs,à I.ok.il I.sz,?_,?_,I.stack,I.sF⟩
  ·exact S.kind
  ·intro x y c Z K
   exact I.ok.inj x y c ((cQ x c).mp Z).2 ((cQ y c).mp K).2
  ·intro x Z
   have Y:=M x Z;obtain⟨c,e⟩:=L x Y;exact⟨c,(cQ x c).mpr ⟨Y,e⟩⟩
  ·intro x c Z
   cases Z
  ·intro b W
   refine⟨â (È (fT b W) hC),λx c e=>?_⟩;exact(hf b W).2.2.2.2.1 x c ((cQ x c).mp e).2
  ·intro b o e W
   rcases(hf b W).2.2.2.1 with z|z
   ·exact I.ok.nC b o e z
   ·exact absurd (È (Ë e) (à I.ok.il z)) (ï _)
  ·intro b W z
   rcases Õ.mp (Q b z) with e|e
   ·exact(hf b W).2.1 e
   ·exact(hf b W).2.2.1 e
 obtain⟨m,Y⟩:=nP;obtain⟨mX,Xx,J⟩:=I.loc;refine⟨ok,rfl,I.bare,Un.kept hk,⟨m,Y,λi x v e1 e2 e3=>?_⟩,λx c e=>?_,I.aB.fresh hC,λx c e=>I.iF x c ((cQ x c).mp e).2,λp G=>?_,I.aB.kept hk,?_⟩
 ·
  have hi:nt<=i:=by
   apply Ż;intro P;have:(kP nt cap σ)[i]?=some none:=by
    unfold kP;rw[Ü (by simpa using P),ģ,ß P]
   rw[this] at e2;cases e2
  have V:(cap.map λj=>(σ[j]?).getD none)[i-nt]?=some (some v):=by
   have e:=e2;unfold kP at e;rw[í (by simpa using hi)] at e;simpa using e
  rw[î] at V
  cases U:cap[i-nt]? with
  |none=>rw[U] at V;cases V
  |some j =>
   rw[U] at V;have ev:(σ[j]?).getD none=some v:=abH V;have F:σ[j]?=some (some v):=by
    cases q:σ[j]? with
    |none=>rw[q] at ev;cases ev
    |some z=>rw[q] at ev;exact Ķ some ev
   obtain⟨y,f1,f2,O⟩:=S.B6 _ _ U;rw[Nat.add_sub_cancel' hi] at f2;have E:y=x:=abH (f2.symm.trans e1);subst E;obtain⟨g1,g2⟩:=S.frees _ O rfl;have D:pH X.env.scope y:=.inr g2;obtain⟨u,r,l⟩:=J j y v f1 F D;refine⟨u,r,.inr ⟨?_,?_⟩⟩
   ·show (relabel sc X.env).names.lookup y=some .cell\/(relabel sc X.env).names.lookup y=some .free
    rw[vw,g1];simp only[ς];split
    ·exact .inl rfl
    ·exact .inr rfl
   ·rcases l with ⟨k,_⟩ | ⟨_,c,B,A⟩
    ·exfalso
     have w:X.env.scope.names.lookup y=some .local:=k;dsimp only at g2;rw[w] at g2
     rcases g2 with z|z<;>cases z
    ·obtain⟨T,R,hd⟩:=A
     exact⟨c,(cQ y c).mpr ⟨O,B⟩,T,hk _ _ R,hd⟩
 ·obtain⟨v,T,R,hd⟩:=I.cell x c ((cQ x c).mp e).2
  exact⟨v,T,hk _ _ R,hd⟩
 ·have t:p∈X.pn++π:=by simpa using G
  obtain⟨e,n,ne,h,d⟩:=I.pin p t;refine⟨hk _ _ e,n,â (È (Ë e) hC),λz=>?_,d⟩
  rcases Õ.mp (Q p.1 z) with q|q
  ·exact ne q
  ·exact h q
 ·unfold kP
  rw[Þ,ο,É];exact S.len.symm
end
section
variable {X:Cx}
end
inductive Kn where
 |ar|bl|int|str|tup|lst|bQ
 deriving DecidableEq
def nQ (K:Ď) (H:Hp):V->Kn->Prop
 | .ar,.ar=>True
 | .bl _,.bl=>True
 | .int _,.int=>True
 | .str _,.str=>True
 | .ref a,.tup=>∃Z,bC K H a Z
 | .ref a,.lst=>∃Z,bw K H a Z
 | .ref a,.bQ=>∃Y,H a=some (.dK Y)
 |_,_=>False
noncomputable def qY:Kn->String->Bool
 | .int,"int"=>true
 | .bl,"int"=>true
 | .bl,"bool"=>true
 | .str,"str"=>true
 | .tup,"tuple"=>true
 | .lst,"list"=>true
 |_,_=>false
section
variable {X:Cx}
def Inv.qD {π:List (Ø×Obj)} {σ:St} {H:Hp} {s:Ä} {a:Ø} {xs:List V} (I:Inv X π σ H s) (h:bC X.K H a xs):∃o,s.heap.get? a=some o/\o.cls=.type "tuple":=by
 obtain⟨its,r,⟨o,e,c,_⟩,_⟩:=I.tuple h;exact⟨o,e,c⟩
def Inv.qE {π:List (Ø×Obj)} {σ:St} {H:Hp} {s:Ä} {a:Ø} {xs:List V} (I:Inv X π σ H s) (h:bw X.K H a xs):∃o,s.heap.get? a=some o/\o.cls=.type "list":=by
 obtain⟨its,r,⟨o,n,e,c,_⟩,_⟩:=I.list h;exact⟨o,e,c⟩
def Inv.qF {π:List (Ø×Obj)} {σ:St} {H:Hp} {s:Ä} {a:Ø} {aF:List (Key×V)} (I:Inv X π σ H s) (h:H a=some (.dK aF)):∃o,s.heap.get? a=some o/\o.cls=.type "dict":=by
 obtain⟨_,_,W,_,p⟩:=(show dB X.prog X.w H s.heap a (.dK aF) from I.aB a _ h);obtain⟨o,U,T,Z,Y,_⟩:=p;exact⟨o,Z,Y.1⟩
def Mv:cS X (.builtin "isinstance") (λxs H Q=>∃x k,xs=[x,.ty "int"]/\nQ X.K H x k/\Q (.bl (qY k "int")) H):=by
 intro T s σ H xs S Q I r h;obtain⟨x,k,rfl,Z,q⟩:=h;obtain⟨u,c,rfl,Y,rc⟩:=vals2 r;cases rc
 cases k with
 |ar =>
  cases x with
  |ar =>
   cases Y;exact IsiPair.NoneType_int ⟨.bl false,H,I.tok _,rfl,q⟩
  |_=>exact Z.elim
 |bl =>
  cases x with
  |bl b =>
   cases Y;exact IsiPair.bool_int ⟨.bl true,H,I,rfl,q⟩
  |_=>exact Z.elim
 |int =>
  cases x with
  |int i =>
   obtain⟨t,rfl⟩:=Y;exact IsiPair.int_int ⟨.bl true,H,I,rfl,q⟩
  |_=>exact Z.elim
 |str =>
  cases x with
  |str y =>
   obtain⟨t,rfl⟩:=Y;exact IsiPair.str_int ⟨.bl false,H,I.tok _,rfl,q⟩
  |_=>exact Z.elim
 |tup =>
  cases x with
  |ref a =>
   cases Y;obtain⟨z,W⟩:=Z;obtain⟨o,V,U⟩:=I.qD W;exact IsiPair.tuple_int V U ⟨.bl false,H,I.tok _,rfl,q⟩
  |_=>exact Z.elim
 |lst =>
  cases x with
  |ref a =>
   cases Y;obtain⟨z,W⟩:=Z;obtain⟨o,V,U⟩:=I.qE W;exact IsiPair.list_int V U ⟨.bl false,H,I.tok _,rfl,q⟩
  |_=>exact Z.elim
 |bQ =>
  cases x with
  |ref a =>
   cases Y;obtain⟨z,W⟩:=Z;obtain⟨o,V,U⟩:=I.qF W;exact IsiPair.dict_int V U ⟨.bl false,H,I.tok _,rfl,q⟩
  |_=>exact Z.elim
def Mj:cS X (.builtin "isinstance") (λxs H Q=>∃x k,xs=[x,.ty "bool"]/\nQ X.K H x k/\Q (.bl (qY k "bool")) H):=by
 intro T s σ H xs S Q I r h;obtain⟨x,k,rfl,Z,q⟩:=h;obtain⟨u,c,rfl,Y,rc⟩:=vals2 r;cases rc
 cases k with
 |ar =>
  cases x with
  |ar =>
   cases Y;exact IsiPair.NoneType_bool ⟨.bl false,H,I.tok _,rfl,q⟩
  |_=>exact Z.elim
 |bl =>
  cases x with
  |bl b =>
   cases Y;exact IsiPair.bool_bool ⟨.bl true,H,I,rfl,q⟩
  |_=>exact Z.elim
 |int =>
  cases x with
  |int i =>
   obtain⟨t,rfl⟩:=Y;exact IsiPair.int_bool ⟨.bl false,H,I.tok _,rfl,q⟩
  |_=>exact Z.elim
 |str =>
  cases x with
  |str y =>
   obtain⟨t,rfl⟩:=Y;exact IsiPair.str_bool ⟨.bl false,H,I.tok _,rfl,q⟩
  |_=>exact Z.elim
 |tup =>
  cases x with
  |ref a =>
   cases Y;obtain⟨z,W⟩:=Z;obtain⟨o,V,U⟩:=I.qD W;exact IsiPair.tuple_bool V U ⟨.bl false,H,I.tok _,rfl,q⟩
  |_=>exact Z.elim
 |lst =>
  cases x with
  |ref a =>
   cases Y;obtain⟨z,W⟩:=Z;obtain⟨o,V,U⟩:=I.qE W;exact IsiPair.list_bool V U ⟨.bl false,H,I.tok _,rfl,q⟩
  |_=>exact Z.elim
 |bQ =>
  cases x with
  |ref a =>
   cases Y;obtain⟨z,W⟩:=Z;obtain⟨o,V,U⟩:=I.qF W;exact IsiPair.dict_bool V U ⟨.bl false,H,I.tok _,rfl,q⟩
  |_=>exact Z.elim
def Mw:cS X (.builtin "isinstance") (λxs H Q=>∃x k,xs=[x,.ty "str"]/\nQ X.K H x k/\Q (.bl (qY k "str")) H):=by
 intro T s σ H xs S Q I r h;obtain⟨x,k,rfl,Z,q⟩:=h;obtain⟨u,c,rfl,Y,rc⟩:=vals2 r;cases rc
 cases k with
 |ar =>
  cases x with
  |ar =>
   cases Y;exact IsiPair.NoneType_str ⟨.bl false,H,I.tok _,rfl,q⟩
  |_=>exact Z.elim
 |bl =>
  cases x with
  |bl b =>
   cases Y;exact IsiPair.bool_str ⟨.bl false,H,I.tok _,rfl,q⟩
  |_=>exact Z.elim
 |int =>
  cases x with
  |int i =>
   obtain⟨t,rfl⟩:=Y;exact IsiPair.int_str ⟨.bl false,H,I.tok _,rfl,q⟩
  |_=>exact Z.elim
 |str =>
  cases x with
  |str y =>
   obtain⟨t,rfl⟩:=Y;exact IsiPair.str_str ⟨.bl true,H,I,rfl,q⟩
  |_=>exact Z.elim
 |tup =>
  cases x with
  |ref a =>
   cases Y;obtain⟨z,W⟩:=Z;obtain⟨o,V,U⟩:=I.qD W;exact IsiPair.tuple_str V U ⟨.bl false,H,I.tok _,rfl,q⟩
  |_=>exact Z.elim
 |lst =>
  cases x with
  |ref a =>
   cases Y;obtain⟨z,W⟩:=Z;obtain⟨o,V,U⟩:=I.qE W;exact IsiPair.list_str V U ⟨.bl false,H,I.tok _,rfl,q⟩
  |_=>exact Z.elim
 |bQ =>
  cases x with
  |ref a =>
   cases Y;obtain⟨z,W⟩:=Z;obtain⟨o,V,U⟩:=I.qF W;exact IsiPair.dict_str V U ⟨.bl false,H,I.tok _,rfl,q⟩
  |_=>exact Z.elim
def Mc:cS X (.builtin "isinstance") (λxs H Q=>∃x k,xs=[x,.ty "tuple"]/\nQ X.K H x k/\Q (.bl (qY k "tuple")) H):=by
 intro T s σ H xs S Q I r h;obtain⟨x,k,rfl,Z,q⟩:=h;obtain⟨u,c,rfl,Y,rc⟩:=vals2 r;cases rc
 cases k with
 |ar =>
  cases x with
  |ar =>
   cases Y;exact IsiPair.NoneType_tuple ⟨.bl false,H,I.tok _,rfl,q⟩
  |_=>exact Z.elim
 |bl =>
  cases x with
  |bl b =>
   cases Y;exact IsiPair.bool_tuple ⟨.bl false,H,I.tok _,rfl,q⟩
  |_=>exact Z.elim
 |int =>
  cases x with
  |int i =>
   obtain⟨t,rfl⟩:=Y;exact IsiPair.int_tuple ⟨.bl false,H,I.tok _,rfl,q⟩
  |_=>exact Z.elim
 |str =>
  cases x with
  |str y =>
   obtain⟨t,rfl⟩:=Y;exact IsiPair.str_tuple ⟨.bl false,H,I.tok _,rfl,q⟩
  |_=>exact Z.elim
 |tup =>
  cases x with
  |ref a =>
   cases Y;obtain⟨z,W⟩:=Z;obtain⟨o,V,U⟩:=I.qD W;exact IsiPair.tuple_tuple V U ⟨.bl true,H,I,rfl,q⟩
  |_=>exact Z.elim
 |lst =>
  cases x with
  |ref a =>
   cases Y;obtain⟨z,W⟩:=Z;obtain⟨o,V,U⟩:=I.qE W;exact IsiPair.list_tuple V U ⟨.bl false,H,I.tok _,rfl,q⟩
  |_=>exact Z.elim
 |bQ =>
  cases x with
  |ref a =>
   cases Y;obtain⟨z,W⟩:=Z;obtain⟨o,V,U⟩:=I.qF W;exact IsiPair.dict_tuple V U ⟨.bl false,H,I.tok _,rfl,q⟩
  |_=>exact Z.elim
def Ml:cS X (.builtin "isinstance") (λxs H Q=>∃x k,xs=[x,.ty "list"]/\nQ X.K H x k/\Q (.bl (qY k "list")) H):=by
 intro T s σ H xs S Q I r h;obtain⟨x,k,rfl,Z,q⟩:=h;obtain⟨u,c,rfl,Y,rc⟩:=vals2 r;cases rc
 cases k with
 |ar =>
  cases x with
  |ar =>
   cases Y;exact IsiPair.NoneType_list ⟨.bl false,H,I.tok _,rfl,q⟩
  |_=>exact Z.elim
 |bl =>
  cases x with
  |bl b =>
   cases Y;exact IsiPair.bool_list ⟨.bl false,H,I.tok _,rfl,q⟩
  |_=>exact Z.elim
 |int =>
  cases x with
  |int i =>
   obtain⟨t,rfl⟩:=Y;exact IsiPair.int_list ⟨.bl false,H,I.tok _,rfl,q⟩
  |_=>exact Z.elim
 |str =>
  cases x with
  |str y =>
   obtain⟨t,rfl⟩:=Y;exact IsiPair.str_list ⟨.bl false,H,I.tok _,rfl,q⟩
  |_=>exact Z.elim
 |tup =>
  cases x with
  |ref a =>
   cases Y;obtain⟨z,W⟩:=Z;obtain⟨o,V,U⟩:=I.qD W;exact IsiPair.tuple_list V U ⟨.bl false,H,I.tok _,rfl,q⟩
  |_=>exact Z.elim
 |lst =>
  cases x with
  |ref a =>
   cases Y;obtain⟨z,W⟩:=Z;obtain⟨o,V,U⟩:=I.qE W;exact IsiPair.list_list V U ⟨.bl true,H,I,rfl,q⟩
  |_=>exact Z.elim
 |bQ =>
  cases x with
  |ref a =>
   cases Y;obtain⟨z,W⟩:=Z;obtain⟨o,V,U⟩:=I.qF W;exact IsiPair.dict_list V U ⟨.bl false,H,I.tok _,rfl,q⟩
  |_=>exact Z.elim
end
def qO (p:Ø) (Ts:List String):ĥ->Prop:=λh=>h.get? p=some { cls:=.type "tuple",data:=.seq (Ts.map Ş).toArray }
theorem Hk:∀{Ts:List String} {us:List Å},Vals (Ts.map V.ty) us->us=Ts.map Ş
 | [],_,.nil=>rfl
 |_::r,_,.cons h t=>by
  cases h;rw[Hk t];rfl
def Tf (t:TA):TE:=fun σ H Q=>t σ H λZ Y=>∃X:List String,Z=X.map V.ty/\Z.length<=Ú/\∀p,Y p=none->Q (.ref p) (upd Y p (.ext (qO p X)))
section
variable {X:Cx} {es:List ġ} {t:TA} {pos:Pos}
def Pn {x1} (h:PA X es t):PE X (.Tuple es x1 pos) (Tf t):=by
 intro V s σ H Q I U;refine wpAny_Tuple_spliced (aG (h pos V s σ H _ I U) λP Z ⟨O,Y,W,r,T,e,z,q⟩=>⟨by rw[<- r.length];exact z,?_⟩);subst e;have S:=Hk r;subst S;have R:Y Z.heap.objs.size=none:=W.aB.fresh (abG _);refine⟨.ref Z.heap.objs.size,upd Y Z.heap.objs.size (.ext (qO Z.heap.objs.size T)),W.laid (t':=Z.toks) (λb u e=>Á _ e) (abG _) ?_,rfl,q _ R⟩;refine⟨Í _ rfl,⟨_,Í _ rfl⟩,λN M e k=>k _ e⟩
def Ti {K:Ď} {π:List (Ø×Obj)} {σ:St} {H:Hp} {s:Ä} {x:V} {u:Å} {k:Kn} (I:Inv X π σ H s) (hk:nQ X.K H x k) (r:RelV x u) :
  ∃Tx vs,AnswersAll (λs=>s.TypeIs u Tx) u [.type "tuple",.type "list"] vs/\s.TypeIs u Tx/\vs.any id=(decide (k=.tup)||decide (k=.lst)):=by
 cases k with
 |ar =>
  cases x with
  |ar=>cases r;exact⟨"NoneType",[false,false],.cons (.of_false_none (by decide +kernel) Š F.sub_NoneType_tuple) (.cons (.of_false_none (by decide +kernel) ů F.sub_NoneType_list) .nil),rfl,rfl⟩
  |_=>exact hk.elim
 |bl =>
  cases x with
  |bl b=>cases r;exact⟨"bool",[false,false],.cons (.of_false_bool (by decide +kernel) Š F.sub_bool_tuple) (.cons (.of_false_bool (by decide +kernel) ů F.sub_bool_list) .nil),rfl,rfl⟩
  |_=>exact hk.elim
 |int =>
  cases x with
  |int b=>obtain⟨t,rfl⟩:=r;exact⟨"int",[false,false],.cons (.of_false_int (by decide +kernel) Š F.sub_int_tuple) (.cons (.of_false_int (by decide +kernel) ů F.sub_int_list) .nil),rfl,rfl⟩
  |_=>exact hk.elim
 |str =>
  cases x with
  |str b=>obtain⟨t,rfl⟩:=r;exact⟨"str",[false,false],.cons (.of_false_str (by decide +kernel) Š F.sub_str_tuple) (.cons (.of_false_str (by decide +kernel) ů F.sub_str_list) .nil),rfl,rfl⟩
  |_=>exact hk.elim
 |tup =>
  cases x with
  |ref a =>
   cases r;obtain⟨z,Z⟩:=hk;exact⟨"tuple",[true,false],.cons (.of_true Š F.sub_tuple_tuple) (.cons (.of_false_tuple (by decide +kernel) ů F.sub_tuple_list) .nil),I.qD Z,rfl⟩
  |_=>exact hk.elim
 |lst =>
  cases x with
  |ref a =>
   cases r;obtain⟨z,Z⟩:=hk;exact⟨"list",[false,true],.cons (.of_false_list (by decide +kernel) Š F.sub_list_tuple) (.cons (.of_true ů F.sub_list_list) .nil),I.qE Z,rfl⟩
  |_=>exact hk.elim
 |bQ =>
  cases x with
  |ref a =>
   cases r;obtain⟨z,Z⟩:=hk;exact⟨"dict",[false,false],.cons (.of_false_dict (by decide +kernel) Š F.sub_dict_tuple) (.cons (.of_false_dict (by decide +kernel) ů F.sub_dict_list) .nil),I.qF Z,rfl⟩
  |_=>exact hk.elim
def Gn {bs:List Bool} (r:Vals (bs.map V.bl) its):TruthOf X.prog X.w A (λi v=>its.toArray[i]?=some v) (λi=>bs.getD i false):=by
 intro i v s Q E T S;have Z:its[i]?=some v:=by simpa using T
 have hi:i<its.length:=(Ç.mp Z).1;have Y:i<bs.length:=by
  have e:=r.length;rw[É] at e;omega
 have R:(bs.map V.bl)[i]?=some (.bl (bs[i])):=by rw[î,Ð Y];rfl
 obtain⟨u,W,P⟩:=Vals.get r R;rw[Z] at W;cases W;cases P;have e:bs.getD i false=bs[i]:=by simp[Ű,Ð Y]
 have U:Q (bs.getD i false) s:=S;rw[e] at U;exact ő U
def range_all (bs:List Bool):(č bs.length).all (λi=>bs.getD i false)=bs.all id:=by
 rw[Ł,ë,ë];constructor
 ·intro h b Z
  obtain⟨i,hi,e⟩:=aag Z;have:=h i (ö.mpr hi);simpa [Ű,Ð hi,e] using this
 ·intro h i hi
  have hi:=ö.mp hi;have:=h _ (aa4 hi);simpa [Ű,Ð hi] using this
def range_any (bs:List Bool):(č bs.length).any (λi=>bs.getD i false)=bs.any id:=by
 rw[Ł,š,š];constructor
 ·rintro ⟨i,hi,h⟩
  have hi:=ö.mp hi;exact⟨bs[i],aa4 hi,by simpa [Ű,Ð hi] using h⟩
 ·rintro ⟨b,Z,h⟩
  obtain⟨i,hi,e⟩:=aag Z;exact⟨i,ö.mpr hi,by simpa [Ű,Ð hi,e] using h⟩
def Po (hc:X.calm=true):cS X (.builtin "all") (λxs H Q=>∃(p:Ø) (bs:List Bool),xs=[.ref p]/\bw X.K H p (bs.map V.bl)/\Q (.bl (bs.all id)) H):=by
 intro O s σ H xs N Q I r h;obtain⟨p,bs,rfl,W,q⟩:=h;obtain⟨u,rfl,U⟩:=vals1 r;cases U;obtain⟨its,Y,Z,M⟩:=I.list W;have T:its.toArray.size=bs.length:=by
  have e:=Y.length;rw[É] at e;simpa using e.symm
 have S:X.A.in1.handled=none:=I.ok.hd hc;refine call_all_walk (ω Z.isList ?_);have old:p≠s.heap.objs.size:=â (by obtain⟨o,n,e,_⟩:=Z;exact Ë e);refine⟨s.heap.objs.size,[s.heap.objs.size,p],[s.heap.objs.size],its.toArray.size,_,_,λi=>bs.getD i false,rfl,Walks.list S s.heap.objs.size p old its.toArray,⟨⟨_,Í _ rfl,rfl,rfl⟩,Z.isList.at λo e=>Á _ e⟩,Gn Y,λL R P=>?_⟩;rw[T,range_all];exact⟨.bl _,H,I.kept (t':=R) λb o e=>P b o (by simpa using â (Ë e)) (Á _ e),rfl,q⟩
def Pp (hc:X.calm=true):cS X (.builtin "any") (λxs H Q=>∃(p:Ø) (bs:List Bool),xs=[.ref p]/\bw X.K H p (bs.map V.bl)/\Q (.bl (bs.any id)) H):=by
 intro O s σ H xs N Q I r h;obtain⟨p,bs,rfl,W,q⟩:=h;obtain⟨u,rfl,U⟩:=vals1 r;cases U;obtain⟨its,Y,Z,M⟩:=I.list W;have T:its.toArray.size=bs.length:=by
  have e:=Y.length;rw[É] at e;simpa using e.symm
 have S:X.A.in1.handled=none:=I.ok.hd hc;refine call_any_walk (ω Z.isList ?_);have old:p≠s.heap.objs.size:=â (by obtain⟨o,n,e,_⟩:=Z;exact Ë e);refine⟨s.heap.objs.size,[s.heap.objs.size,p],[s.heap.objs.size],its.toArray.size,_,_,λi=>bs.getD i false,rfl,Walks.list S s.heap.objs.size p old its.toArray,⟨⟨_,Í _ rfl,rfl,rfl⟩,Z.isList.at λo e=>Á _ e⟩,Gn Y,λL R P=>?_⟩;rw[T,range_any];exact⟨.bl _,H,I.kept (t':=R) λb o e=>P b o (by simpa using â (Ë e)) (Á _ e),rfl,q⟩
end
def t6:Key->aao
 | .inl i=>.int i
 | .inr x=>.str x
mutual
def DV (K:Ď) (Z:Ø->Prop) (H:Hp):aao->V->Prop
 | .none,v=>v=.ar
 | .bool b,v=>v=.bl b
 | .int i,v=>v=.int i
 | .str x,v=>v=.str x
 | .tuple X,v=>∃a Y,v=.ref a/\bC K H a Y/\aq K Z H X Y
 | .list X,v=>∃a Y,v=.ref a/\¬ Z a/\H a=some (.lst Y)/\aq K Z H X Y
 | .dict U,v=>∃a W,v=.ref a/\¬ Z a/\H a=some (.dK W)/\∃l:List (Key×Int),W=l.map (λp=>(p.1,V.int p.2))/\U=l.map λp=>(t6 p.1,PyData.int p.2)
def aq (K:Ď) (Z:Ø->Prop) (H:Hp):List aao->List V->Prop
 | [],Y=>Y=[]
 |d::X,Y=>∃v r,Y=v::r/\DV K Z H d v/\aq K Z H X r
end
structure J8 (K:Ď) (Z:Ø->Prop) (H H':Hp):Prop where
 tup:∀b xs,bC K H b xs->bC K H' b xs
 lst:∀b xs,¬ Z b->H b=some (.lst xs)->H' b=some (.lst xs)
 bQ:∀b es,¬ Z b->H b=some (.dK es)->H' b=some (.dK es)
mutual
theorem DV.dW {K:Ď} {Z:Ø->Prop} {H H':Hp} (S:J8 K Z H H'):∀{d:aao} {v:V},DV K Z H d v->DV K Z H' d v
 | .none,_,h=>h
 | .bool _,_,h=>h
 | .int _,_,h=>h
 | .str _,_,h=>h
 | .tuple T,v,h=>by
  simp only[DV] at h |-;obtain⟨a,Y,e,X,r⟩:=h;exact⟨a,Y,e,S.tup a Y X,aq.dW S r⟩
 | .list T,v,h=>by
  simp only[DV] at h |-;obtain⟨a,Y,e,W,X,r⟩:=h;exact⟨a,Y,e,W,S.lst a Y W X,aq.dW S r⟩
 | .dict R,v,h=>by
  simp only[DV] at h |-;obtain⟨a,U,e,W,X,r⟩:=h;exact⟨a,U,e,W,S.bQ a U W X,r⟩
theorem aq.dW {K:Ď} {Z:Ø->Prop} {H H':Hp} (S:J8 K Z H H'):∀{ds:List aao} {vs:List V},aq K Z H ds vs->aq K Z H' ds vs
 | [],_,h=>h
 |d::ds,vs,h=>by
  simp only[aq] at h |-;obtain⟨v,r,e,Y,X⟩:=h;exact⟨v,r,e,DV.dW S Y,aq.dW S X⟩
end
mutual
theorem DV.more {K:Ď} {Z:Ø->Prop} {H:Hp} {p:Ø} (hp:H p=none):∀{d:aao} {v:V},DV K Z H d v->DV K (λa=>Z a\/a=p) H d v
 | .none,_,h=>h
 | .bool _,_,h=>h
 | .int _,_,h=>h
 | .str _,_,h=>h
 | .tuple U,v,h=>by
  simp only[DV] at h |-;obtain⟨a,X,e,Y,r⟩:=h;exact⟨a,X,e,Y,aq.more hp r⟩
 | .list U,v,h=>by
  simp only[DV] at h |-;obtain⟨a,X,e,W,Y,r⟩:=h;exact⟨a,X,e,(λz=>z.elim W λe=>by subst e;rw[hp] at Y;cases Y),Y,aq.more hp r⟩
 | .dict S,v,h=>by
  simp only[DV] at h |-;obtain⟨a,T,e,W,Y,r⟩:=h;exact⟨a,T,e,(λz=>z.elim W λe=>by subst e;rw[hp] at Y;cases Y),Y,r⟩
theorem aq.more {K:Ď} {Z:Ø->Prop} {H:Hp} {p:Ø} (hp:H p=none):∀{ds:List aao} {vs:List V},aq K Z H ds vs->aq K (λa=>Z a\/a=p) H ds vs
 | [],_,h=>h
 |d::ds,vs,h=>by
  simp only[aq] at h |-;obtain⟨v,r,e,Y,X⟩:=h;exact⟨v,r,e,DV.more hp Y,aq.more hp X⟩
end
mutual
theorem DV.less {K:Ď} {Z Z':Ø->Prop} {H:Hp} (gY:∀a,Z' a->Z a):∀{d:aao} {v:V},DV K Z H d v->DV K Z' H d v
 | .none,_,h=>h
 | .bool _,_,h=>h
 | .int _,_,h=>h
 | .str _,_,h=>h
 | .tuple U,v,h=>by
  simp only[DV] at h |-;obtain⟨a,X,e,Y,r⟩:=h;exact⟨a,X,e,Y,aq.less gY r⟩
 | .list U,v,h=>by
  simp only[DV] at h |-;obtain⟨a,X,e,W,Y,r⟩:=h;exact⟨a,X,e,λz=>W (gY _ z),Y,aq.less gY r⟩
 | .dict S,v,h=>by
  simp only[DV] at h |-;obtain⟨a,T,e,W,Y,r⟩:=h;exact⟨a,T,e,λz=>W (gY _ z),Y,r⟩
theorem aq.less {K:Ď} {Z Z':Ø->Prop} {H:Hp} (gY:∀a,Z' a->Z a):∀{ds:List aao} {vs:List V},aq K Z H ds vs->aq K Z' H ds vs
 | [],_,h=>h
 |d::ds,vs,h=>by
  simp only[aq] at h |-;obtain⟨v,r,e,Y,X⟩:=h;exact⟨v,r,e,DV.less gY Y,aq.less gY X⟩
end
section
variable {X:Cx} {π:List (Ø×Obj)} {σ:St} {H:Hp} {s:Ä} {Z:Ø->Prop}
theorem yV:∀{l:List (Key×Int)} {vs:List (Key×Å)} {es:List DictEntry},KV (l.map λp=>(p.1,V.int p.2)) vs->Pairs (v9 P w) es vs ->
  ReadsAll h (es.map (·.key)) ((l.map λp=>(t6 p.1,PyData.int p.2)).map (·.1)) []/\ReadsAll h (es.map (·.val)) ((l.map λp=>(t6 p.1,PyData.int p.2)).map (·.2)) []
 | [],_,_,.nil,.nil=>⟨.nil,.nil⟩
 |(k,i)::l,_,_,.cons (b:=q) r t,.cons (e:=e) U T S=>by
  obtain⟨a1,a2⟩:=yV (h:=h) t S;obtain⟨Z,X,Y⟩:=r;have Z:k=q.1:=Z;have Y:q.2=abc i X:=Y;refine⟨?_,?_⟩
  ·have W:Bj q.1 e.key=true:=U
   rw[<- Z] at W;have:Reads h e.key (t6 k) []:=by
    rcases kK W with ⟨j,u,e1,e2⟩ | ⟨x,u,e1,e2⟩
    ·rw[e1,e2];exact .int j u
    ·rw[e1,e2];exact .str x u
   exact ReadsAll.cons (as:=[]) (bs:=[]) this a1
  ·have:Reads h e.val (.int i) []:=by rw[T,Y];exact .int i X
   exact ReadsAll.cons (as:=[]) (bs:=[]) this a2
mutual
theorem DV.reads (I:Inv X π σ H s):∀{d:aao} {v:V} {u:Å},DV X.K Z H d v->RelV v u->∃as,Reads s.heap u d as
 | .none,v,u,h,r=>by
  have e:v=.ar:=h;subst e;cases r;exact⟨[],.none⟩
 | .bool b,v,u,h,r=>by
  have e:v=.bl b:=h;subst e;cases r;exact⟨[],.bool b⟩
 | .int i,v,u,h,r=>by
  have e:v=.int i:=h;subst e;obtain⟨t,rfl⟩:=r;exact⟨[],.int i t⟩
 | .str x,v,u,h,r=>by
  have e:v=.str x:=h;subst e;obtain⟨t,rfl⟩:=r;exact⟨[],.str x t⟩
 | .tuple R,v,u,h,r=>by
  simp only[DV] at h;obtain⟨a,Q,e,Y,W⟩:=h;subst e;cases r;obtain⟨its,U,⟨o,e,c,n,T⟩,_⟩:=I.tuple Y;obtain⟨as,S⟩:=aq.reads I W U;exact⟨as,.tuple e c T (by simpa using S)⟩
 | .list R,v,u,h,r=>by
  simp only[DV] at h;obtain⟨a,Q,e,_,Y,W⟩:=h;subst e;cases r;obtain⟨its,U,⟨o,n,e,c,_,T⟩,_⟩:=I.list (bw.of Y);obtain⟨as,S⟩:=aq.reads I W U;exact⟨a::as,.list e c T (by simpa using S)⟩
 | .dict L,v,u,h,r=>by
  simp only[DV] at h;obtain⟨a,J,e,_,Y,l,e1,e2⟩:=h;subst e e1 e2;cases r;obtain⟨_,_,G,P,o,F,E,g1,g2,g3,_,O,_⟩:=(show dB X.prog X.w H s.heap a (.dK _) from I.aB a _ Y);obtain⟨N,M⟩:=yV (h:=s.heap) P O;exact⟨a::[]++[],.dict g1 g2.1 g3 N M⟩
theorem aq.reads (I:Inv X π σ H s):∀{ds:List aao} {vs:List V} {us:List Å},aq X.K Z H ds vs->Vals vs us->∃as,ReadsAll s.heap us ds as
 | [],vs,us,h,r=>by
  have e:vs=[]:=h;subst e;cases r;exact⟨[],.nil⟩
 |d::ds,vs,us,h,r=>by
  obtain⟨v,S,e,Y,W⟩:=h;subst e
  cases r with
  |cons U T =>
   obtain⟨as,a1⟩:=DV.reads I Y U;obtain⟨bs,a2⟩:=aq.reads I W T;exact⟨as++bs,.cons a1 a2⟩
end
def J9 (K:Ď) (neg:Bool):R2:=λx y H Q=>∃(d e:aao) (Z:Ø->Prop),DV K Z H d x/\DV K Z H e y/\d.canLay0=true/\e.canLay0=true/\min d.depth e.depth<=100/\Q (.bl (if neg then !PyData.eqv d e else Ġ d e)) H
def Tj (hr:bp k X.A):bG X (Ě .Eq) (J9 X.K false):=by
 intro O s σ H x y v u Q I Y W h;obtain⟨d,e,Z,V,U,T,S,N,q⟩:=h;obtain⟨as,R⟩:=V.reads I Y;obtain⟨bs,P⟩:=U.reads I W;exact SeqAt.eqOverData _ _ _ _ _ _ _ _ _ _ _ _ R P T S (by have:=hr.un;omega) ⟨.bl _,H,I,rfl,q⟩
def Tn (hr:bp k X.A):bG X (Ě .NotEq) (J9 X.K true):=by
 intro O s σ H x y v u Q I Y W h;obtain⟨d,e,Z,V,U,T,S,N,q⟩:=h;obtain⟨as,R⟩:=V.reads I Y;obtain⟨bs,P⟩:=U.reads I W;exact SeqAt.neOverData _ _ _ _ _ _ _ _ _ _ _ _ R P T S (by have:=hr.un;omega) ⟨.bl _,H,I,rfl,q⟩
end
end L2
namespace HT
open PySem PySem.Spec PyProof.Rows
section
variable {prog:ã} {w:Ă} {A:ê} {E:Å->Ä->Prop} {s:Ä}
def FQ (ht:IsTup s.heap t items) (h:Q true s):Û (ä prog w) A (ZY (.ref t)) Q E s:=by
 unfold ZY;exact À (aam ht.typeIs (Ã h))
def Md {lo hi:Option Int} {Q:Å->Ä->Prop} (ht:IsTup s.heap t items) (hs:s.heap.IsSliceOf sl vl vu .none) (pl:IsPart vl lo) (pu:IsPart vu hi)
 (hw:aT items.size 0 lo=0/\aT items.size items.size hi=items.size) (h:Q (.ref t) s):Û (ä prog w) A (getItem (.ref t) (.ref sl)) Q E s:=by
 obtain⟨os,Z,Y,U⟩:=id hs;have X:s.TypeIs (.ref sl) "slice":=⟨os,Z,Y⟩;unfold getItem
 try with_reducible refine ĝ ?_
 first|refine À (Ã ?_)|skip
 refine À (wpAny_sequenceKey ht.typeIs (by decide) ?_);refine À (ċ (name:=Ā "__getitem__") ht.typeIs ė
  (ć ė ht.typeIs entry_tuple_getitem ?_ (args_tuple_getitem _ _)))
 show Û _ _ (Ŝ (.ref t) >>= _) _ _ s;refine À (tupleItemsOf_ ht ?_);refine À (aam X ?_);rw[ß (by decide)];refine À (EL hs pl pu ?_);obtain⟨W,V⟩:=hw
 show Û _ _ (if (((aT items.size 0 lo:Nat):Int)==0&&(1:Int)==1&&(aT items.size items.size hi-aT items.size 0 lo)==items.size)=true then _ else _) _ _ s
 rw[W,V,ß (by simp)]
 first
  |exact À (FQ ht (by simp only[ð];exact À (ş (Ã ⟨_,rfl,Ã h⟩))))
  |exact À (FQ ht (by simp only[ð];exact À (ş (À (Ã (Ã ⟨_,rfl,Ã h⟩))))))
end
end HT
namespace L2
open PySem PySem.Spec PyProof.Rows
def j8.Xy {K:Ď} {H H':Hp} {a:Ø} {xs:List V} (e:j8 H H') (h:bC K H a xs):bC K H' a xs:=by
 rcases h with (h | ⟨o,h⟩)|h
 ·exact .inl (.inl (e _ _ h))
 ·exact .inl (.inr ⟨o,e _ _ h⟩)
 ·exact .inr h
theorem j8.upd (hn:H p=none):j8 H (upd H p o):=λb u e=>by rw[aW (cY e hn)];exact e
def nD (K:Ď) (H:Hp) (ys:List V) (Q:VK):Prop:=∀a Z,j8 H Z->bC K Z a ys->Q (.ref a) Z
def nD.here {K:Ď} {H:Hp} {ys:List V} {Q:VK} {a:Ø} (h:nD K H ys Q) (hs:bC K H a ys):Q (.ref a) H:=h a H (j8.refl H) hs
def nD.new {K:Ď} {H:Hp} {ys:List V} {Q:VK} {p:Ø} (h:nD K H ys Q) (hn:H p=none):Q (.ref p) (L2.upd H p (.tup ys)):=h p _ (j8.upd hn) (bC.of cx)
section
variable {X:Cx} {e:ġ} {te:TE} {pos p2 p3 p4:Pos}
def Pq {lo hi:Option Int} (h:HT.aT xs.length 0 lo=0/\HT.aT xs.length xs.length hi=xs.length):j7 xs lo hi=xs:=by
 unfold j7;rw[h.1,h.2];simp
def WK (K:Ď):V->Option Int->Option Int->Hp->VK->Prop:=λx lo hi H Q=>∃a Z,x=.ref a/\bC K H a Z/\nD K H (j7 Z lo hi) Q
def Rc:uK X (WK X.K):=by
 intro S s σ H x v R P lo hi O Q I V hs U pu h;obtain⟨a,Z,rfl,W,q⟩:=h;by_cases hw:HT.aT Z.length 0 lo=0/\HT.aT Z.length Z.length hi=Z.length
 ·cases V
  obtain⟨its,r,T,M⟩:=I.tuple W;have Y:its.toArray.size=Z.length:=by rw[Ù];exact r.length.symm
  rw[Pq hw] at q;exact⟨"tuple",_,ė.lookup,T.typeIs,HT.Md T hs U pu (by rw[Y];exact hw) ⟨.ref a,H,I,rfl,q.here W⟩⟩
 ·exact AA S s σ H _ v R P lo hi O Q I V hs U pu ⟨a,Z,rfl,W,hw,λp N=>q.new N⟩
def U9 (K:Ď):R2:=λx y H Q=>∃a b Z Y,x=.ref a/\y=.ref b/\bC K H a Z/\bC K H b Y/\Z.length+Y.length<=Ú/\nD K H (Z++Y) Q
def Rf:bG X (ĺ .Add) (U9 X.K):=by
 intro M s σ H x y v u Q I W V h;obtain⟨a,b,U,L,rfl,rfl,Z,Y,J,q⟩:=h;by_cases T:U=[]
 ·subst T
  cases W;cases V;obtain⟨its,G,F,_⟩:=I.tuple Z;obtain⟨E,t,p2,_⟩:=I.tuple Y;cases G;obtain⟨⟨cls,D,data,C⟩,S,R,n,P⟩:=id F;obtain⟨⟨r,B,data2,A⟩,O,N,z,hd2⟩:=id p2;simp only at R P N hd2;subst R P N hd2;exact concat_meets ⟨_,S,rfl⟩ ⟨_,O,rfl⟩ noFill_tuple_add seq_tuple_add aaF aaw (aal _ _)
   (tuple_addW0 a b _ E.toArray n z D B C A (by simp)) ⟨S,O,⟨.ref b,H,I,rfl,q.here Y⟩⟩
 ·refine Q8 M s σ H _ _ v u Q I W V ⟨a,b,U,L,rfl,rfl,Z,Y,T,J,λe=>?_,λ_ p w=>q.new w⟩
  subst e;rw[û] at q;exact q.here Z
end
end L2
namespace HZ
open PySem PySem.Spec PyProof.Rows
structure kA (P:ã) (w:Ă) (A:ê) (i l:Ø) (tn:Nat->ĥ->Prop) (val:Nat->Option Å):Prop where
 keep:∀k h h',tn k h->(∀o,h.get? i=some o->h'.get? i=some o)->(∀o,h.get? l=some o->h'.get? l=some o)->tn k h'
 item:∀k (s:Ä) (Q:Å->Ä->Prop) (E:Å->Ä->Prop) x,tn k s.heap->val k=some x->(∀h',tn (k+1) h'->İ i s.heap h'->Q x { s with heap:=h' })->Û (ä P w) A (Ć (.ref i)) Q E s
 stop:∀k (s:Ä) (Q:Å->Ä->Prop) (E:Å->Ä->Prop),tn k s.heap->val k=none->(∀h' e,aaL i s.heap h'->(∃o,h'.get? e=some o/\o.cls=.type "StopIteration")->E (.ref e) { s with heap:=h' })->Û (ä P w) A (Ć (.ref i)) Q E s
 obj:∀k h,tn k h->∃o,h.get? i=some o/\∀v,o.data≠.cell v
section
variable {P:ã} {w:Ă} {A:ê} {E:Å->Ä->Prop} {s:Ä}
def Nv (g:s.heap.IsTupleIter it t k) (gt:s.heap.IsTuple t its) (gx:its[k]?=some x)
 (q:∀h',h'.IsTupleIter it t (k+1)->İ it s.heap h'->Q x { s with heap:=h' }):Û (ä P w) A (Ć (.ref it)) Q E s:=by
 obtain⟨o,go,Y,Z⟩:=id g;obtain⟨ol,X,_,nl,W⟩:=gt;unfold Ć;refine À (ċ (name:=Ā "__next__") g.typeIs ŝ
  (ć ŝ g.typeIs F.entry_tuple_iterator_next ?_ (F.args_tuple_iterator_next_1 _)))
 show Û _ _ (field (.ref it) 0 >>= _) _ _ _;refine À (ķ go Z (x:=.ref t) rfl ?_)
 show Û _ _ (if (Ļ t==Value.none)=true then _ else _) _ _ _
 rw[è (λz:(Ļ t==Value.none)=true=>Ï z)];show Û _ _ (field (.ref it) 1 >>= _) _ _ _;refine À (ķ go Z (x:=.int k 0) rfl ?_);show Û _ _ (seqItems? (.ref t) >>= _) _ _ _;refine À (Ī X W ?_);simp only[Ľ,gx];refine À (δ go Z (by simp) (Ã ⟨x,rfl,Ã (q _ ?_ (Ğ ..))⟩));exact⟨_,ě _ go (ł (Đ Z _)),(aaM ..).trans Y,by rw[Đ Z];simp[ZX]⟩
def Me (gh:A.handled=none) (g:s.heap.IsTupleIter it t k) (gt:s.heap.IsTuple t its) (gx:its[k]?=none)
 (q:∀h' e,aaL it s.heap h'->(∃o,h'.get? e=some o/\o.cls=.type "StopIteration")->E (.ref e) { s with heap:=h' }):Û (ä P w) A (Ć (.ref it)) Q E s:=by
 obtain⟨o,go,W,Z⟩:=id g;obtain⟨ol,Y,_,nl,X⟩:=gt;unfold Ć;refine À (ċ (name:=Ā "__next__") g.typeIs ŝ
  (ć ŝ g.typeIs F.entry_tuple_iterator_next ?_ (F.args_tuple_iterator_next_1 _)))
 show Û _ _ (field (.ref it) 0 >>= _) _ _ _;refine À (ķ go Z (x:=.ref t) rfl ?_)
 show Û _ _ (if (Ļ t==Value.none)=true then _ else _) _ _ _
 rw[è (λz:(Ļ t==Value.none)=true=>Ï z)];show Û _ _ (field (.ref it) 1 >>= _) _ _ _;refine À (ķ go Z (x:=.int k 0) rfl ?_);show Û _ _ (seqItems? (.ref t) >>= _) _ _ _;refine À (Ī Y X ?_);simp only[Ľ,gx];refine À (ş (À (δ go Z (by simp) ?_)));show Û _ _ (newExc (.type "StopIteration") [] >>= _) _ _ (_:Ä);refine À ?_;simp only[newExc,newTuple];refine À (þ ?_ (by size_fits))
 refine À (m:=firstArgMember _ _) (wpAny_of_eq (a:=Value.none) (by first|rfl | (unfold firstArgMember;rfl)) ?_)
 refine þ ?_ (by size_fits);simp only[raiseNew];refine À (wpAny_handled ?_)
 first|rw[gh]|rw[show A.in1.handled=none from gh]
 refine À (Ã (wpAny_throw ?_));exact q _ _ (((Ğ ..).extBut.push _).push _) ⟨_,Í _ rfl,rfl⟩
def Rg (gh:A.handled=none) (i l:Ø) (its:Array Å):kA P w A i l (λk h=>h.IsTupleIter i l k/\h.IsTuple l its) (λk=>its[k]?) where
 keep:=λk h Y Z U T=>⟨Z.1.at U,by obtain⟨o,e,r⟩:=Z.2;exact⟨o,T o e,r⟩⟩
 item:=λk s Q E x Z e q=>Nv Z.1 Z.2 e λY g X=>by
  by_cases W:l=i
  ·exfalso
   subst W;obtain⟨o,e1,S,_⟩:=Z.1;obtain⟨R,e2,V,_⟩:=Z.2;rw[e1] at e2;cases e2;rw[S] at V;simp at V
  ·obtain⟨o,e2,r⟩:=Z.2
   exact q Y ⟨g,o,(X.2 l W).trans e2,r⟩ X
 stop:=λk s Q E Z e q=>Me gh Z.1 Z.2 e q
 obj:=λk h Z=>by
  obtain⟨o,e,_,d⟩:=Z.1;exact⟨o,e,λv z=>by rw[d] at z;cases z⟩
def Rh (gh:A.handled=none) (i l:Ø) (its:Array Å):kA P w A i l (λk h=>h.IsListIter i l k/\h.IsList l its) (λk=>its[k]?) where
 keep:=λk h Y Z U T=>⟨Z.1.at U,Z.2.at T⟩
 item:=λk s Q E x Z e q=>wpAny_nextOf_list_item Z.1 Z.2 e λY g X=>by
  by_cases W:l=i
  ·exfalso
   subst W;obtain⟨o,e1,S,_⟩:=Z.1;obtain⟨R,e2,V,_⟩:=Z.2;rw[e1] at e2;cases e2;rw[S] at V;simp at V
  ·exact q Y ⟨g,Z.2.at λo e2=>(X.2 l W).trans e2⟩ X
 stop:=λk s Q E Z e q=>wpAny_nextOf_list_end gh Z.1 Z.2 e q
 obj:=λk h Z=>by
  obtain⟨o,e,_,d⟩:=Z.1;exact⟨o,e,λv z=>by rw[d] at z;cases z⟩
structure Apart (z ti to j1 j2 m1 m2:Ø):Prop where
 a1:ti≠z
 a2:to≠z
 a3:j1≠z
 a4:j2≠z
 a5:ti≠to
 a6:ti≠j1
 a7:ti≠j2
 a8:to≠j1
 a9:to≠j2
 b0:j1≠j2
 b1:m1≠z
 b2:m1≠to
 b3:m1≠j1
 b4:m1≠j2
 b5:m2≠z
 b6:m2≠to
 b7:m2≠j1
 b8:m2≠j2
def Pt {t1 t2:Nat->ĥ->Prop} {v1 v2:Nat->Option Å} {k:Nat} {Q:Å->Ä->Prop} (D:Apart z ti to j1 j2 m1 m2) (S1:kA P w A j1 m1 t1 v1) (S2:kA P w A j2 m2 t2 v2)
 (gz:IsZip s.heap z ti to .none) (gi:Z4 s.heap ti (.ref j1) (.ref j2)) (go:Z4 s.heap to a b) (h1:t1 k s.heap) (h2:t2 k s.heap) (hx:v1 k=some x) (hy:v2 k=some y)
 (q:∀h',IsZip h' z ti to (ZX s.heap.objs.size)->Z4 h' to x y->t1 (k+1) h'->t2 (k+1) h'->Z4 h' s.heap.objs.size x y->h'.objs.size=s.heap.objs.size+1 ->
 (∀c o,c≠z->c≠to->c≠j1->c≠j2->s.heap.get? c=some o->h'.get? c=some o)->Q (.ref s.heap.objs.size) { s with heap:=h' }) :
  Û (ä P w) A (ű.«zip.__next__» ⟨[.ref z],[]⟩) (λfin s'=>∃v,fin=.done (.ret v)/\Q v s') E s:=by
 show Û _ _ (field (.ref z) 2 >>= _) _ _ (_:Ä);refine À (ķ gz rfl (x:=.bool false) rfl ?_);show Û _ _ (field (.ref z) 3 >>= _) _ _ (_:Ä);refine À (ķ gz rfl (x:=.ref ti) rfl ?_);refine À (Ī gi rfl ?_);show Û _ _ (Į (.ref z) >>= _) _ _ (_:Ä);refine À ?_;unfold Į;refine À (ķ gz rfl (x:=.none) rfl (Ã ?_));simp only[ð];refine À (ş ?_);refine À (ķ gz rfl (x:=.ref to) rfl ?_);refine À (Ŧ gz (by simp) λp N Y=>?_)
 replace N:IsZip p z ti to .ellipsis:=N
 refine À ?_;simp only[List.zipIdx_cons,List.zipIdx_nil,aax,List.forIn_nil];refine À (À (wpAny_onRaise ?_));show Û _ _ (Ć (.ref j1) >>= _) _ _ (_:Ä);refine À (S1.item k _ _ _ x (S1.keep k _ _ h1 (λo e=>Y.extBut _ _ D.a3 e) (λo e=>Y.extBut _ _ D.b1 e)) hx λn m V=>Ã ?_);have G:Z4 n to a b:=V.extBut _ _ D.a8 (Y.extBut _ _ D.a2 go);refine À (Ī G rfl ?_);refine À (wpAny_updateSeq_pair G λl M X=>?_)
 replace M:Z4 l to x b:=M
 refine À (wpAny_letGo (Ã ?_));refine À (À (wpAny_onRaise ?_));show Û _ _ (Ć (.ref j2) >>= _) _ _ (_:Ä);refine À (S2.item k _ _ _ y (S2.keep k _ _ h2 (λo e=>X.extBut _ _ D.a9.symm (V.extBut _ _ D.b0.symm (Y.extBut _ _ D.a4 e))) (λo e=>X.extBut _ _ D.b6 (V.extBut _ _ D.b7 (Y.extBut _ _ D.b5 e)))) hy λj i U=>Ã ?_);have F:Z4 j to x b:=U.extBut _ _ D.a9 M;refine À (Ī F rfl ?_);refine À (wpAny_updateSeq_pair F λZ S s5=>?_)
 replace S:Z4 Z to x y:=S
 refine À (wpAny_letGo (Ã (Ã ?_)));refine À (Ī S rfl ?_);refine À (wpAny_newTuple ?_);have C:Z.objs.size=s.heap.objs.size:=by rw[s5.1,U.1,X.1,V.1,Y.1]
 have B:IsZip Z z ti to .ellipsis:=s5.extBut _ _ D.a2.symm (U.extBut _ _ D.a4.symm (X.extBut _ _ D.a2.symm (V.extBut _ _ D.a3.symm N)));have h:∀c o,c≠z->c≠to->c≠j1->c≠j2->s.heap.get? c=some o->Z.get? c=some o:=λc o W R L K e=>s5.extBut _ _ R (U.extBut _ _ K (X.extBut _ _ R (V.extBut _ _ L (Y.extBut _ _ W e))));have g:t1 (k+1) Z:=S1.keep _ _ _ m (λo e=>s5.extBut _ _ D.a8.symm (U.extBut _ _ D.b0 (X.extBut _ _ D.a8.symm e))) (λo e=>s5.extBut _ _ D.b2 (U.extBut _ _ D.b4 (X.extBut _ _ D.b2 e)));have f:t2 (k+1) Z:=S2.keep _ _ _ i (λo e=>s5.extBut _ _ D.a9.symm e) (λo e=>s5.extBut _ _ D.b6 e);have u:z<Z.objs.size:=Ë B;show Û _ _ (Z5 (.ref z) (.ref Z.objs.size) >>= _) _ _ (_:Ä);refine À ?_;unfold Z5;have d:IsZip (Z.push { cls:=.type "tuple",data:=.seq #[x,y] }) z ti to .ellipsis:=Á _ B;refine À (Ŧ d (by simp) λp7 J I=>?_)
 replace J:IsZip p7 z ti to (ZX Z.objs.size):=J
 refine Ŧ J (by simp) λT O H=>?_
 replace O:IsZip T z ti to (ZX Z.objs.size):=O
 have up:∀c o,c≠z->Z.get? c=some o->T.get? c=some o:=λc o W e=>H.extBut _ _ W (I.extBut _ _ W (Á _ e));have t:Z4 T Z.objs.size x y:=H.extBut _ _ (Ť u) (I.extBut _ _ (Ť u) (Í _ rfl));have r:T.objs.size=Z.objs.size+1:=by rw[H.1,I.1,ă]
 rw[C] at O t r;refine Ã ⟨_,rfl,?_⟩;show Q (.ref Z.objs.size) _;rw[C];exact q T O (up _ _ D.a2 S) (S1.keep _ _ _ g (λo e=>up _ o D.a3 e) (λo e=>up _ o D.b1 e)) (S2.keep _ _ _ f (λo e=>up _ o D.a4 e) (λo e=>up _ o D.b5 e)) t r λc o W R L K e=>up c o W (h c o W R L K e)
def Ri (D:Apart z ti to j1 j2 m1 m2) (S1:kA P w A j1 m1 t1 v1) (S2:kA P w A j2 m2 t2 v2)
 (gz:IsZip s.heap z ti to .none) (gi:Z4 s.heap ti (.ref j1) (.ref j2)) (go:Z4 s.heap to a b) (h1:t1 k s.heap) (h2:t2 k s.heap) (B7:v1 k=none\/v2 k=none)
 (q:∀h' e,(∀c o,c≠z->c≠to->c≠j1->c≠j2->s.heap.get? c=some o->h'.get? c=some o)->(∃o,h'.get? e=some o/\o.cls=.type "StopIteration")->E (.ref e) { s with heap:=h' }) :
  Û (ä P w) A (ű.«zip.__next__» ⟨[.ref z],[]⟩) Q E s:=by
 show Û _ _ (field (.ref z) 2 >>= _) _ _ (_:Ä);refine À (ķ gz rfl (x:=.bool false) rfl ?_);show Û _ _ (field (.ref z) 3 >>= _) _ _ (_:Ä);refine À (ķ gz rfl (x:=.ref ti) rfl ?_);refine À (Ī gi rfl ?_);show Û _ _ (Į (.ref z) >>= _) _ _ (_:Ä);refine À ?_;unfold Į;refine À (ķ gz rfl (x:=.none) rfl (Ã ?_));simp only[ð];refine À (ş ?_);refine À (ķ gz rfl (x:=.ref to) rfl ?_);refine À (Ŧ gz (by simp) λN V Y=>?_)
 replace V:IsZip N z ti to .ellipsis:=V
 refine À ?_;simp only[List.zipIdx_cons,List.zipIdx_nil,aax,List.forIn_nil];refine À (À (wpAny_onRaise ?_));show Û _ _ (Ć (.ref j1) >>= _) _ _ (_:Ä);have M:t1 k N:=S1.keep k _ _ h1 (λo e=>Y.extBut _ _ D.a3 e) (λo e=>Y.extBut _ _ D.b1 e)
 cases U:v1 k with
 |none =>
  refine À (S1.stop k _ _ _ M U λT e Z S=>?_);obtain⟨R,g1,g2⟩:=S;have L:IsZip T z ti to .ellipsis:=Z _ _ D.a3.symm V;have ne:e≠z:=λu=>by subst u;rw[L] at g1;cases g1;simp at g2
  refine Ŧ L (by simp) λK _ X=>q K e (λc o W _ O _ u=>X.extBut _ _ W (Z _ _ O (Y.extBut _ _ W u))) ⟨R,X.extBut _ _ ne g1,g2⟩
 |some x =>
  have G:v2 k=none:=by
   rcases B7 with h|h
   ·rw[U] at h;cases h
   ·exact h
  refine À (S1.item k _ _ _ x M U λT v Z=>Ã ?_);have J:Z4 T to a b:=Z.extBut _ _ D.a8 (Y.extBut _ _ D.a2 go);refine À (Ī J rfl ?_);refine À (wpAny_updateSeq_pair J λK t X=>?_);refine À (wpAny_letGo (Ã ?_));refine À (À (wpAny_onRaise ?_));show Û _ _ (Ć (.ref j2) >>= _) _ _ (_:Ä);refine À (S2.stop k _ _ _ (S2.keep k _ _ h2 (λo e=>X.extBut _ _ D.a9.symm (Z.extBut _ _ D.b0.symm (Y.extBut _ _ D.a4 e))) (λo e=>X.extBut _ _ D.b6 (Z.extBut _ _ D.b7 (Y.extBut _ _ D.b5 e)))) G λF e I S=>?_);obtain⟨R,g1,g2⟩:=S;have H:IsZip F z ti to .ellipsis:=I _ _ D.a4.symm (X.extBut _ _ D.a2.symm (Z.extBut _ _ D.a3.symm V));have ne:e≠z:=λu=>by subst u;rw[H] at g1;cases g1;simp at g2
  refine Ŧ H (by simp) λC _ s5=>q C e (λc o W B O y u=>s5.extBut _ _ W (I _ _ y (X.extBut _ _ B (Z.extBut _ _ O (Y.extBut _ _ W u))))) ⟨R,s5.extBut _ _ ne g1,g2⟩
def next_item (D:Apart z ti to j1 j2 m1 m2) (S1:kA P w A.in1 j1 m1 t1 v1) (S2:kA P w A.in1 j2 m2 t2 v2)
 (gz:IsZip s.heap z ti to .none) (gi:Z4 s.heap ti (.ref j1) (.ref j2)) (go:Z4 s.heap to a b) (h1:t1 k s.heap) (h2:t2 k s.heap) (hx:v1 k=some x) (hy:v2 k=some y)
 (q:∀h',IsZip h' z ti to (ZX s.heap.objs.size)->Z4 h' to x y->t1 (k+1) h'->t2 (k+1) h'->Z4 h' s.heap.objs.size x y->h'.objs.size=s.heap.objs.size+1 ->
 (∀c o,c≠z->c≠to->c≠j1->c≠j2->s.heap.get? c=some o->h'.get? c=some o)->Q (some (.ref s.heap.objs.size)) { s with heap:=h' }):Û (ä P w) A (aaj (.ref z)) Q E s:=by
 have Z:s.TypeIs (.ref z) "zip":=⟨_,gz,rfl⟩;unfold aaj;exact À (Ÿ (ċ (name:=Ā "__next__") Z abi
  (ć abi Z F.entry_zip_next (Pt D S1 S2 gz gi go h1 h2 hx hy λh' a1 a2 Y X W V U=>Ã (q h' a1 a2 Y X W V U)) (F.args_zip_next_1 _))))
def next_end (D:Apart z ti to j1 j2 m1 m2) (S1:kA P w A.in1 j1 m1 t1 v1) (S2:kA P w A.in1 j2 m2 t2 v2)
 (gz:IsZip s.heap z ti to .none) (gi:Z4 s.heap ti (.ref j1) (.ref j2)) (go:Z4 s.heap to a b) (h1:t1 k s.heap) (h2:t2 k s.heap) (B7:v1 k=none\/v2 k=none)
 (q:∀h',(∀c o,c≠z->c≠to->c≠j1->c≠j2->s.heap.get? c=some o->h'.get? c=some o)->Q none { s with heap:=h' }):Û (ä P w) A (aaj (.ref z)) Q E s:=by
 have Z:s.TypeIs (.ref z) "zip":=⟨_,gz,rfl⟩;unfold aaj;refine À (Ÿ (ċ (name:=Ā "__next__") Z abi
  (ć abi Z F.entry_zip_next (Ri D S1 S2 gz gi go h1 h2 B7 λh' e Y X=>?_) (F.args_zip_next_1 _))))
 obtain⟨o,W,V⟩:=X;exact À (aa5 (T:="StopIteration") (b:=true) ⟨o,W,V⟩ isSubtype_stop (Ã (q _ Y)))
end
end HZ
namespace L2
open PySem PySem.Spec PyProof.Rows
def To {X:Cx} {π:List (Ø×Obj)} {σ:St} {H:Hp} {s:Ä} {a b:Ø} {xs:List V} (I:Inv X π σ H s) (h:bC X.K H a xs) (f:fO X π H b):a≠b:=by
 rintro rfl;obtain⟨f0,_,_,Y,_⟩:=f
 rcases h with (h | ⟨o,h⟩) | ⟨o,its,n,W,_⟩
 ·rw[f0] at h;cases h
 ·rw[f0] at h;cases h
 ·have Z:=I.mod.jz a o W
  rcases Y with z|z
  ·exact I.ok.nC a o Z z
  ·exact absurd (È (Ë Z) (à I.ok.il z)) (ï _)
def Tp {X:Cx} {π:List (Ø×Obj)} {σ:St} {H:Hp} {s:Ä} {a b:Ø} {xs:List V} (I:Inv X π σ H s) (h:bw X.K H a xs) (f:fO X π H b):a≠b:=by
 rintro rfl;obtain⟨f0,_,_,Y,_⟩:=f
 rcases h with (h | ⟨o,h⟩) | ⟨o,its,n,W,_⟩
 ·rw[f0] at h;cases h
 ·rw[f0] at h;cases h
 ·have Z:=I.mod.jz a o W
  rcases Y with z|z
  ·exact I.ok.nC a o Z z
  ·exact absurd (È (Ë Z) (à I.ok.il z)) (ï _)
def Inv.FR {X:Cx} {π:List (Ø×Obj)} {σ:St} {H:Hp} {s:Ä} {h':ĥ} {t':Nat} {ch:List Ø} (I:Inv X π σ H s) (k:∀b o,b∉ch->s.heap.get? b=some o->h'.get? b=some o) (hf:∀b∈ch,fO X π H b) :
  Inv X π σ H { s with heap:=h',toks:=t' }:=by
 have Y:∀b u,H b=some u->b∉ch:=λb u e z=>by rw[(hf b z).1] at e;cases e
 refine I.step (g':=s.gens) (d':=s.drawn) (ch:=ch) (λb W=>?_) (λb o _ _ Z e _=>k b o Z e) (λb o _ _ Z e _=>⟨o.slots,k b o Z e⟩) (λ_ _ _ _ n=>n) (λb o Z e=>⟨o,k b o Z e⟩) (λ_ _ e=>e) (λ_ _ _ e=>e)
  (λb P e=>⟨#[],by rw[e];simp⟩) (λm V=>?_) (λb u e=>?_) I.bare
 ·obtain⟨_,f1,_,U,f4,T⟩:=hf b W
  exact⟨U,f1,f4,T⟩
 ·obtain⟨o,S,R,Q,r⟩:=V
  exact⟨o,S,R,k _ o (λz=>(hf _ z).2.1 rfl) Q,r⟩
 ·refine(I.aB b u e).dW (λc v Z q=>k c v ?_ q) (λ_ q=>q) λ_ _ q=>q
  rcases Z with z|z
  ·rw[z];exact Y b u e
  ·exact Y c _ z
def Inv.Og {X:Cx} {π:List (Ø×Obj)} {σ:St} {H:Hp} {s:Ä} {h':ĥ} {t':Nat} {ch:List Ø} {p:Ø} {u:HO} (I:Inv X π σ H s) (k:∀b o,b∉ch->s.heap.get? b=some o->h'.get? b=some o) (hf:∀b∈ch,fO X π H b)
  (hp:s.heap.objs.size<=p) (new:dB X.prog X.w (upd H p u) h' p u):Inv X π σ (upd H p u) { s with heap:=h',toks:=t' }:=by
 have Y:H p=none:=I.aB.fresh hp;have aB:cm X.prog X.w (upd H p u) h':=(I.FR (t':=t') k hf).aB.adopt Y new;refine I.step (g':=s.gens) (d':=s.drawn) (ch:=ch) (λb W=>?_) (λb o _ _ Z e _=>k b o Z e) (λb o _ _ Z e _=>⟨o.slots,k b o Z e⟩) (λb o _ e n=>?_) (λb o Z e=>⟨o,k b o Z e⟩) (λc P e=>by rw[aW (cY e Y)];exact e) (λc o v e=>by rw[aW (cY e Y)];exact e)
  (λc O e=>⟨#[],by rw[aW (cY e Y),e];simp⟩) (λm V=>?_) aB I.bare
 ·obtain⟨_,f1,_,U,f4,T⟩:=hf b W
  exact⟨U,f1,f4,T⟩
 ·rw[aW (â (È (Ë e) hp))]
  exact n
 ·obtain⟨o,S,R,Q,r⟩:=V
  exact⟨o,S,R,k _ o (λz=>(hf _ z).2.1 rfl) Q,r⟩
@[reducible] def ja:Bool->Ď->Hp->Ø->List V->Prop
 |true=>bC
 |false=>bw
@[reducible] def kB:Bool->ĥ->Ø->Array Å->Prop
 |true=>Heap.IsTuple
 |false=>Heap.IsList
@[reducible] def mM:Bool->ĥ->Ø->Ø->Nat->Prop
 |true=>Heap.IsTupleIter
 |false=>Heap.IsListIter
def Inv.qZ {X:Cx} {π:List (Ø×Obj)} {σ:St} {H:Hp} {s:Ä} {a:Ø} {xs:List V} (I:Inv X π σ H s):∀{k},ja k X.K H a xs->∃its,Vals xs its/\kB k s.heap a its.toArray
 |true,h=>by obtain⟨i,r,p,_⟩:=I.tuple h;exact⟨i,r,p⟩
 |false,h=>by obtain⟨i,r,p,_⟩:=I.list h;exact⟨i,r,p.isList⟩
def Inv.Gp {X:Cx} {π:List (Ø×Obj)} {σ:St} {H:Hp} {s:Ä} {a:Ø} {xs ys:List V} (I:Inv X π σ H s):∀{k},ja k X.K H a xs->ja k X.K H a ys->xs=ys
 |true,h,g=>I.FG h g
 |false,h,g=>I.Gf h g
def wI {X:Cx} {π:List (Ø×Obj)} {σ:St} {H:Hp} {s:Ä} {a b:Ø} {xs:List V} (I:Inv X π σ H s):∀{k},ja k X.K H a xs->fO X π H b->a≠b
 |true,h,f=>To I h f
 |false,h,f=>Tp I h f
def xM (gh:A.handled=none) (i l:Ø) (its:Array Å):∀k,HZ.kA P w A i l (λn h=>mM k h i l n/\kB k h l its) (λn=>its[n]?)
 |true=>HZ.Rg gh i l its
 |false=>HZ.Rh gh i l its
def wJ (k:∀o,h.get? i=some o->h'.get? i=some o):∀{b},mM b h i l n->mM b h' i l n
 |true,x=>x.at k
 |false,x=>x.at k
def wc:∀{b},mM b h i l n->∃o,h.get? i=some o/\∀v,o.data≠.cell v
 |true,x=>by obtain⟨o,e,_,d⟩:=x;exact⟨o,e,λv q=>by rw[d] at q;cases q⟩
 |false,x=>by obtain⟨o,e,_,d⟩:=x;exact⟨o,e,λv q=>by rw[d] at q;cases q⟩
def t9 (k l:Bool) (K:Ď) (a b:Ø):It :=
 ⟨λi H=>∃Z Y x y,ja k K H a Z/\ja l K H b Y/\Z[i]?=some x/\Y[i]?=some y,λi H v X=>∃p x y,H p=none/\v=.ref p/\X=upd H p (.tup [x,y])/\∀Z Y,ja k K H a Z->ja l K H b Y->Z[i]?=some x/\Y[i]?=some y,
  λi H=>∃Z Y,ja k K H a Z/\ja l K H b Y/\(Z.length<=i\/Y.length<=i)⟩
abbrev WL:=t9 true true
abbrev WM:=t9 false false
structure Va (it:Nat->ĥ->Prop) (iM:Nat->ĥ->Prop) (z ti to j1 j2:Ø) (i:Nat) (h:ĥ):Prop where
 z:IsZip h z ti to .none
 ti:Z4 h ti (.ref j1) (.ref j2)
 to:∃u v,Z4 h to u v
 h1:it i h
 h2:iM i h
structure Ka (z ti to j1 j2:Ø):Prop where
 a1:ti≠z
 a2:to≠z
 a3:j1≠z
 a4:j2≠z
 a5:ti≠to
 a6:ti≠j1
 a7:ti≠j2
 a8:to≠j1
 a9:to≠j2
 b0:j1≠j2
def Oh {k1 k2:Bool} {P:ã} {w:Ă} {K:Ď} {elts:List ġ} {kk:Nat} {pos:Pos} (a b z ti to j1 j2:Ø) (F:Ka z ti to j1 j2) :
  Turn P w K (.Tuple elts kk pos) (t9 k1 k2 K a b) [z,ti,to,j1,j2] z (Va (λi h=>mM k1 h j1 a i) (λi h=>mM k2 h j2 b i) z ti to j1 j2) where
 mem:=by simp
 obj:=λi h Z c S=>by
  have M:c=z\/c=ti\/c=to\/c=j1\/c=j2:=by simpa using S
  rcases M with rfl|rfl|rfl|rfl|rfl
  ·exact⟨_,Z.z,λv q=>nomatch q⟩
  ·exact⟨_,Z.ti,λv q=>nomatch q⟩
  ·obtain⟨u,v,q⟩:=Z.to;exact⟨_,q,λv q=>nomatch q⟩
  ·exact wc Z.h1
  ·exact wc Z.h2
 keep:=λi h l Z k=>⟨k z (by simp) _ Z.z,k ti (by simp) _ Z.ti,by obtain⟨u,v,q⟩:=Z.to;exact⟨u,v,k to (by simp) _ q⟩,wJ (λo e=>k j1 (by simp) o e) Z.h1,wJ (λo e=>k j2 (by simp) o e) Z.h2⟩
 item:=by
  intro X L hw J S i j s σ H E I Y Z G;subst L hw J;obtain⟨f,d,x,y,V,U,ex,g⟩:=G;obtain⟨C,B,t⟩:=I.qZ V;obtain⟨r,p,n⟩:=I.qZ U;obtain⟨u,eu,ru⟩:=B.get ex;obtain⟨v,ev,rv⟩:=p.get g;have ne:∀c∈[z,ti,to,j1,j2],a≠c/\b≠c:=λc W=>⟨wI I V (Y c W),wI I U (Y c W)⟩;have D:HZ.Apart z ti to j1 j2 a b:=⟨F.a1,F.a2,F.a3,F.a4,F.a5,F.a6,F.a7,F.a8,F.a9,F.b0,(ne z (by simp)).1,(ne to (by simp)).1,(ne j1 (by simp)).1,(ne j2 (by simp)).1,(ne z (by simp)).2,(ne to (by simp)).2,(ne j1 (by simp)).2,(ne j2 (by simp)).2⟩;obtain⟨w1,w2,O⟩:=Z.to;have R:X.A.in1.handled=none:=I.ok.hd S;refine HZ.next_item D (xM R j1 a C.toArray k1) (xM R j2 b r.toArray k2) Z.z Z.ti O ⟨Z.h1,t⟩ ⟨Z.h2,n⟩ (by simpa using eu) (by simpa using ev) λl c1 c2 c3 c4 c5 c6 N=>⟨_,rfl,?_⟩;refine wpAny_letOwnedTupleGo_zip c1 λh2 d1 T=>?_;have hn:H s.heap.objs.size=none:=I.aB.fresh (abG _);have XB:z<s.heap.objs.size:=Ë Z.z;have ua:IsTup h2 s.heap.objs.size #[u,v]:=⟨_,T.extBut _ _ (Ť XB) c5,rfl,_,rfl⟩
  have I2:Inv X j σ (upd H s.heap.objs.size (.tup [x,y])) { s with heap:=h2,toks:=s.toks }:=I.Og (ch:=[z,ti,to,j1,j2]) (λc o m e=>by
   have q:c≠z/\c≠ti/\c≠to/\c≠j1/\c≠j2:=by simpa using m
   exact T.extBut c o q.1 (N c o q.1 q.2.2.1 q.2.2.2.1 q.2.2.2.2 e)) Y (abG _) ⟨by show 2<=Ú;decide,[u,v],.cons ru (.cons rv .nil),ua⟩
  refine⟨.ref s.heap.objs.size,_,I2,rfl,⟨_,x,y,hn,rfl,rfl,λyp yq q1 q2=>?_⟩,?_,λc W=>?_⟩
  ·rw[I.Gp q1 V,I.Gp q2 U];exact⟨ex,g⟩
  ·refine⟨d1,T.extBut _ _ F.a1 (N _ _ F.a1 F.a5 F.a6 F.a7 Z.ti),⟨_,_,T.extBut _ _ F.a2 c2⟩,wJ (λo e=>T.extBut _ _ F.a3 e) c3.1,wJ (λo e=>T.extBut _ _ F.a4 e) c4.1⟩
  ·rw[aW]
   ·exact(Y c W).1
   ·intro e
    obtain⟨o,eo⟩:∃o,s.heap.get? c=some o:=by
     have M:c=z\/c=ti\/c=to\/c=j1\/c=j2:=by simpa using W
     rcases M with q|q|q|q|q
     ·rw[q];exact⟨_,Z.z⟩
     ·rw[q];exact⟨_,Z.ti⟩
     ·rw[q];exact⟨_,O⟩
     ·rw[q];obtain⟨o,e,_⟩:=wc Z.h1;exact⟨o,e⟩
     ·rw[q];obtain⟨o,e,_⟩:=wc Z.h2;exact⟨o,e⟩
    exact absurd (Ë eo) (by rw[e];exact ï _)
 done:=by
  intro X L hw J S i j s σ H E I Y Z G;subst L hw J;obtain⟨f,d,V,U,hle⟩:=G;obtain⟨C,B,t⟩:=I.qZ V;obtain⟨r,p,n⟩:=I.qZ U;have ne:∀c∈[z,ti,to,j1,j2],a≠c/\b≠c:=λc W=>⟨wI I V (Y c W),wI I U (Y c W)⟩;have D:HZ.Apart z ti to j1 j2 a b:=⟨F.a1,F.a2,F.a3,F.a4,F.a5,F.a6,F.a7,F.a8,F.a9,F.b0,(ne z (by simp)).1,(ne to (by simp)).1,(ne j1 (by simp)).1,(ne j2 (by simp)).1,(ne z (by simp)).2,(ne to (by simp)).2,(ne j1 (by simp)).2,(ne j2 (by simp)).2⟩;obtain⟨w1,w2,O⟩:=Z.to;have R:X.A.in1.handled=none:=I.ok.hd S;have l1:=B.length;have l2:=p.length;refine HZ.next_end D (xM R j1 a C.toArray k1) (xM R j2 b r.toArray k2) Z.z Z.ti O ⟨Z.h1,t⟩ ⟨Z.h2,n⟩ ?_ λl N=>⟨rfl,I.FR (t':=s.toks) (ch:=[z,ti,to,j1,j2]) (λc o m e=>by
   have q:c≠z/\c≠ti/\c≠to/\c≠j1/\c≠j2:=by simpa using m
   exact N c o q.1 q.2.2.1 q.2.2.2.1 q.2.2.2.2 e) Y⟩
  rcases hle with q|q
  ·left;simp;omega
  ·right;simp;omega
 self:=λA i s Q E Z h=>wpAny_pyIter_zip Z.z h
end L2
namespace HZ
open PySem PySem.Spec PyProof.Rows L2
@[reducible] noncomputable def uQ:Bool->String
 |true=>"tuple_iterator"
 |false=>"list_iterator"
abbrev y1 (k:Bool) (h:ĥ) (m1:Ø):ĥ:=h.push { cls:=.type (uQ k),data:=.fields #[.ref m1,.int 0 0] }
abbrev y2 (k l:Bool) (h:ĥ) (m1 m2:Ø):ĥ:=(y1 k h m1).push { cls:=.type (uQ l),data:=.fields #[.ref m2,.int 0 0] }
abbrev y3 (k l:Bool) (h:ĥ) (m1 m2:Ø):ĥ:=(y2 k l h m1 m2).push { cls:=.type "tuple",data:=.seq #[.ref h.objs.size,.ref (y1 k h m1).objs.size] }
abbrev y4 (k l:Bool) (h:ĥ) (m1 m2:Ø):ĥ:=(y3 k l h m1 m2).push { cls:=.type "tuple",data:=.seq #[.none,.none] }
abbrev y5 (k l:Bool) (h:ĥ) (m1 m2:Ø):ĥ:=(y4 k l h m1 m2).push { cls:=.type "zip",data:=.fields #[.none,.bool false,.bool false,.ref (y2 k l h m1 m2).objs.size,.ref (y3 k l h m1 m2).objs.size] }
def Jm:∀{k},kB k s.heap m xs->Q (.ref s.heap.objs.size) { s with heap:=s.heap.push { cls:=.type (uQ k),data:=.fields #[.ref m,.int 0 0] } }->Û (ä P w) A (pyIter (.ref m)) Q E s
 |true,h,q=>wpAny_pyIter_tuple h q
 |false,h,q=>ω h q
def Pu (o:Obj):∀{k},kB k h m xs->kB k (h.push o) m xs
 |true,x=>Heap.IsTuple.push x o
 |false,x=>Heap.IsList.push x o
def Rj (k l:Bool) (m1 m2:Ø) (xs ys:Array Å) :
  Meets (ű.«zip.__new__» ⟨[.type "zip",.ref m1,.ref m2],[]⟩) (λ_ R s=>kB k s.heap m1 xs/\kB l s.heap m2 ys/\R (.ok (.ret (.ref (y4 k l s.heap m1 m2).objs.size))) { s with heap:=y5 k l s.heap m1 m2 }) :=
 .of_wp λprog w A R s h=>by
  obtain⟨Z,g,d,Y,os⟩:=s;obtain⟨X,W,h⟩:=h;have U:=sub_zip;have V:kB k (Shared.heap ⟨Z,g,d,Y,os⟩) m1 xs:=X;have L2:kB l (Shared.heap ⟨Z.push { cls:=.type (uQ k),data:=.fields #[.ref m1,.int 0 0] },g,d,Y,os⟩) m2 ys:=Pu _ W
  wp_walk using Jm V,Jm L2
  exact⟨_,rfl,h⟩
section
variable {P:ã} {w:Ă} {A:ê} {E:Å->Ä->Prop} {s:Ä}
def Hl:∀{k},h.get? i=some { cls:=.type (uQ k),data:=.fields #[.ref m,.int 0 0] }->mM k h i m 0
 |true,e=>⟨_,e,rfl,rfl⟩
 |false,e=>⟨_,e,rfl,rfl⟩
def Oi (h1:kB k s.heap m1 xs) (h2:kB l s.heap m2 ys)
 (h:∀h',IsZip h' (s.heap.objs.size+4) (s.heap.objs.size+2) (s.heap.objs.size+3) .none->Z4 h' (s.heap.objs.size+2) (.ref s.heap.objs.size) (.ref (s.heap.objs.size+1)) ->
   Z4 h' (s.heap.objs.size+3) .none .none->mM k h' s.heap.objs.size m1 0->mM l h' (s.heap.objs.size+1) m2 0->h'.objs.size=s.heap.objs.size+5 ->
 (∀c o,s.heap.get? c=some o->h'.get? c=some o)->Q (.ref (s.heap.objs.size+4)) { s with heap:=h' }):Û (ä P w) A (call (.type "zip") [.ref m1,.ref m2]) Q E s:=by
 refine callType_new F.called_zip (by decide) (F.typeCall_zip_2 _ _) (F.newCall_zip_2 _ _) (λobj=>F.args_object_init_3 obj _ _) F.entry_zip_new (Rj k l m1 m2 xs ys) ⟨h1,h2,?_⟩;have e1:(y1 k s.heap m1).objs.size=s.heap.objs.size+1:=ă ..;have e2:(y2 k l s.heap m1 m2).objs.size=s.heap.objs.size+2:=by rw[ă,e1]
 have Z:(y3 k l s.heap m1 m2).objs.size=s.heap.objs.size+3:=by rw[ă,e2]
 have Y:(y4 k l s.heap m1 m2).objs.size=s.heap.objs.size+4:=by rw[ă,Z]
 have V:(y5 k l s.heap m1 m2).objs.size=s.heap.objs.size+5:=by rw[ă,Y]
 have X:(y5 k l s.heap m1 m2).get? (y4 k l s.heap m1 m2).objs.size=some _:=Í _ rfl;have W:(y5 k l s.heap m1 m2).get? (y3 k l s.heap m1 m2).objs.size=some _:=Á _ (Í _ rfl);have g3:(y5 k l s.heap m1 m2).get? (y2 k l s.heap m1 m2).objs.size=some _:=Á _ (Á _ (Í _ rfl));have g2:(y5 k l s.heap m1 m2).get? (y1 k s.heap m1).objs.size=some _:=Á _ (Á _ (Á _ (Í _ rfl)));have g1:(y5 k l s.heap m1 m2).get? s.heap.objs.size=some _:=Á _ (Á _ (Á _ (Á _ (Í _ rfl))));show _/\_;rw[e2,Z,Y] at X;rw[e1,e2] at g3;rw[Z] at W;rw[e1] at g2;rw[Y];exact⟨⟨_,X,rfl⟩,h _ X g3 W (Hl g1) (Hl g2) V λc o q=>Á _ (Á _ (Á _ (Á _ (Á _ q))))⟩
end
end HZ
namespace L2
open PySem PySem.Spec PyProof.Rows
def Pw (n:Nat):Ka (n+4) (n+2) (n+3) n (n+1):=by constructor<;>(show (_:Nat)≠_)<;>omega
section
variable {X:Cx} {elts:List ġ} {kk:Nat} {tp:Pos}
def Bq (k l:Bool) (K:Ď) (ta:TA):TI:=fun σ H R=>ta σ H λY Z=>∃a b X W,Y=[.ref a,.ref b]/\ja k K Z a X/\ja l K Z b W/\R (t9 k l K a b) Z
noncomputable abbrev Vb:=Bq true true
noncomputable abbrev Vc:=Bq false false
def Oj:ú "zip"=some (.type "zip"):=by decide +kernel
def Tq {π:List (Ø×Obj)} {σ:St} {H:Hp} {s:Ä} (I:Inv X π σ H s):∀b∈[s.heap.objs.size+4,s.heap.objs.size+2,s.heap.objs.size+3,s.heap.objs.size,s.heap.objs.size+1],fO X π H b:=λb Y=>by
 have Z:s.heap.objs.size<=b:=by
  have q:b=s.heap.objs.size+4\/b=s.heap.objs.size+2\/b=s.heap.objs.size+3\/b=s.heap.objs.size\/b=s.heap.objs.size+1:=by simpa using Y
  omega
 exact I.xI Z (I.aB.fresh Z)
def Hm {k l:Bool} {a b:ġ} {ta:TA} {p pos:Pos} (hg:Gl X "zip") (hm:X.mg "zip"=none) (ha:PA X [a,b] ta) (hs:Ê [a,b] X.env=[(false,ĩ a X.env),(false,ĩ b X.env)]:=by rfl) (cI:Ê [b] X.env=[(false,ĩ b X.env)]:=by rfl) :
  PI X (.Tuple elts kk tp) (.Call (.Name "zip" p) [a,b] [] pos) (Bq k l X.K ta):=by
 intro V s σ H R I h;refine Call_ (qB I hg hm Oj (Ŗ (aG (ha pos V s σ H _ I h) λz Z ⟨y,U,Y,T,S⟩=>?_) (by rw[hs,cI]) (by rw[cI];rfl)));obtain⟨a,b,xs,ys,e,Q,P,q⟩:=S;subst e;obtain⟨u,v,rfl,O,N⟩:=vals2 T;cases O;cases N;obtain⟨M,_,L⟩:=Y.qZ Q;obtain⟨J,_,G⟩:=Y.qZ P;refine HZ.Oi (xs:=M.toArray) (ys:=J.toArray) L G λF W E D C B x A=>?_
 refine wpAny_pyIter_zip (s:={ Z with heap:=F }) W ?_
 exact⟨_,[Z.heap.objs.size+4,Z.heap.objs.size+2,Z.heap.objs.size+3,Z.heap.objs.size,Z.heap.objs.size+1],_,_,U,rfl,Y.kept (t':=Z.toks) A,Oh a b _ _ _ _ _ (Pw _),⟨W,E,⟨_,_,D⟩,C,B⟩,Tq Y,q⟩
def zW {a b:ġ} {ta:TA} {p pos:Pos} (hg:Gl X "zip") (hm:X.mg "zip"=none) (ha:PA X [a,b] ta) (hs:Ê [a,b] X.env=[(false,ĩ a X.env),(false,ĩ b X.env)]:=by rfl) (cI:Ê [b] X.env=[(false,ĩ b X.env)]:=by rfl) :
  PI X (.Tuple elts kk tp) (.Call (.Name "zip" p) [a,b] [] pos) (Vb X.K ta):=Hm hg hm ha hs cI
def Rk {a b:ġ} {ta:TA} {p pos:Pos} (hg:Gl X "zip") (hm:X.mg "zip"=none) (ha:PA X [a,b] ta) (hs:Ê [a,b] X.env=[(false,ĩ a X.env),(false,ĩ b X.env)]:=by rfl) (cI:Ê [b] X.env=[(false,ĩ b X.env)]:=by rfl) :
  PI X (.Tuple elts kk tp) (.Call (.Name "zip" p) [a,b] [] pos) (Vc X.K ta):=Hm hg hm ha hs cI
end
end L2
namespace PySem
section
variable {P:ã} {w:Ă} {A:ê} {E:Å->Ä->Prop} {s:Ä}
end
end PySem
namespace L2
open PySem PySem.Spec PyProof.Rows
def map_getD (ns:List Int):(č ns.length).map (λi=>ns.getD i 0)=ns:=by
 apply Ų;intro i;rw[î];by_cases h:i<ns.length
 ·rw[aah h,Ð h]
  simp[Ű,Ð h]
 ·rw[ĳ (by simpa using h),ĳ (by omega)]
  rfl
section
variable {X:Cx}
end
section
variable {κ:Type} [DecidableEq κ]
end
section
variable {P:ã} {w:Ă} {H:Hp} {h:ĥ} {a:Ø}
end
section
variable {X:Cx} {π:List (Ø×Obj)} {σ:St} {H:Hp} {s:Ä} {a:Ø} {y v:V} {u r:Å} {o:Option V} {A:ê} {E:Å->Ä->Prop}
end
section
variable {X:Cx} {π:List (Ø×Obj)} {σ:St} {H:Hp} {s:Ä} {a:Ø} {aF:List (Key×V)} {k:Key} {u:Å} {A:ê} {E:Å->Ä->Prop}
end
section
variable {X:Cx} {o i e value:ġ} {pos pos' oY:Pos} {td ty tv:TE}
end
section
variable {X:Cx} {pos:Pos}
end
structure M1 (X:Cx) (o:ġ) (m:Str) (apos:Pos) (e:ġ) (bj:Pos):Prop where
 base:Ŀ o m X.env (ĩ o X.env)=ĩ o X.env
 lJ:((ħ bj (Ê [e] X.env)).all (λx=>!x.1)&&(aav bj (ŗ [] X.env)).all (λx=>x.1.isSome)
  && decide (([e]:List ġ).length+([]:List aa3).length+(if ([]:List aa3).isEmpty then 0 else 1)<30))=true
 line:(apos.endLine==bj.line)=true
 trees:ħ bj (Ê [e] X.env)=[(false,ĩ e X.env)]
structure M2 (X:Cx) (o:ġ) (m:Str) (apos:Pos) (e f:ġ) (bj:Pos):Prop where
 base:Ŀ o m X.env (ĩ o X.env)=ĩ o X.env
 lJ:((ħ bj (Ê [e,f] X.env)).all (λx=>!x.1)&&(aav bj (ŗ [] X.env)).all (λx=>x.1.isSome)
  && decide (([e,f]:List ġ).length+([]:List aa3).length+(if ([]:List aa3).isEmpty then 0 else 1)<30))=true
 line:(apos.endLine==bj.line)=true
 trees:ħ bj (Ê [e,f] X.env)=[(false,ĩ e X.env),(false,ĩ f X.env)]
section
variable {X:Cx} {π:List (Ø×Obj)} {σ:St} {H:Hp} {s:Ä} {a:Ø} {y d:V} {u r:Å} {o:Option V} {A:ê} {E:Å->Ä->Prop}
end
section
variable {X:Cx} {o e f:ġ} {apos bj:Pos} {td ty tx:TE}
end
section
variable {X:Cx} {π:List (Ø×Obj)} {σ:St} {H:Hp} {s:Ä} {a:Ø} {aF:List (Key×V)} {A:ê} {E:Å->Ä->Prop}
end
section
variable {X:Cx} {π:List (Ø×Obj)} {σ:St} {H:Hp} {s:Ä} {a:Ø} {y:V} {u:Å} {A:ê} {E:Å->Ä->Prop}
end
section
variable {K:Ď} {caps:St} {H:Hp} {tf:TT} {te:TE} {Q:VK}
end
noncomputable def Ii (sc:ι) (on:List (Str×ũ)) (oN N:List Str) (nt:Nat) (cap:List Nat):Bool :=
 decide (sc.kind=.function)&&sc.names.all (λx=>decide (x.2≠.cell))&&sc.names.all (λx=>decide (x.2=.local->sc.names.lookup x.1=some .local)) &&
 sc.names.all (λx=>decide (x.2=.free->sc.names.lookup x.1=some .free/\(on.lookup x.1=some .cell\/on.lookup x.1=some .free)))&&decide (N.length=nt+cap.length) &&
 (č cap.length).all (λk=>match cap[k]? with
  |some j=>match oN[j]? with
   |some x=>decide (N[nt+k]?=some x)&&decide ((x,ì)∈sc.names)
   |none=>false
  |none=>true)
def Jn (h:Ii sc X.env.scope.names X.N N nt cap=true):sP X sc N nt cap:=by
 unfold Ii at h;simp only[Æ,ë,Ì] at h;obtain⟨⟨⟨⟨⟨Z,Y⟩,W⟩,V⟩,U⟩,T⟩:=h;refine⟨Z,Y,W,λx S e=>V x S e,U,λk j e=>?_⟩;have R:k<cap.length:=(Ç.mp e).1;have:=T k (ö.mpr R);rw[e] at this;dsimp only at this
 cases ex:X.N[j]? with
 |none=>rw[ex] at this;cases this
 |some x =>
  rw[ex] at this;simp only[Æ,Ì] at this;exact⟨x,rfl,this.1,this.2⟩
end L2
namespace TS
open PySem
abbrev j9 (l:List Nat):Prop:=l.Pairwise (· < ·)
def Px (xs:Array Nat) (k d:Nat):xs.getD k d=xs.toList.getD k d:=by
 cases xs with
 |mk l =>
  by_cases h:k<l.length
  ·simp[abw,Ű,h]
  ·simp[abw,Ű,h]
def we (h:j9 l) (iy:a<b) (hb:b<l.length):l.getD a 0<l.getD b 0:=by
 have:=List.pairwise_iff_getElem.mp h a b (by omega) hb iy;simpa [Ű,Ð hb,Ð (show a<l.length by omega)] using this
theorem Py (l:List Nat) (hk:k<l.length) (d e:Nat):l.getD k d=l.getD k e:=by
 simp[Ű,Ð hk]
theorem zX (xs:Array Nat) (j:Nat) (hr:j9 xs.toList):∀(fuel lo hi:Nat),hi-lo<=fuel->lo<=hi->hi<=xs.toList.length->(∀k,k<lo->xs.toList.getD k 0<j)->(∀k,hi<=k->k<xs.toList.length->j<=xs.toList.getD k 0) ->
  aaN xs j fuel lo hi<=xs.toList.length/\(∀k,k<aaN xs j fuel lo hi->xs.toList.getD k 0<j)/\(∀k,aaN xs j fuel lo hi<=k->k<xs.toList.length->j<=xs.toList.getD k 0)
 |0,lo,hi,S,R,Z,Y,X=>by
  have e:lo=hi:=by omega
  subst e;exact⟨Z,Y,X⟩
 |fuel+1,lo,hi,S,R,Z,Y,X=>by
  unfold aaN;by_cases U:lo<hi
  ·rw[ß U]
   dsimp only;have T:(lo+hi) / 2<xs.toList.length:=by omega
   rw[Px,Py _ T j 0];by_cases W:xs.toList.getD ((lo+hi) / 2) 0<j
   ·rw[ß W]
    refine zX xs j hr fuel _ _ (by omega) (by omega) Z (λk Q=>?_) X;by_cases V:k=(lo+hi) / 2
    ·rw[V];exact W
    ·exact Nat.lt_trans (we hr (by omega) T) W
   ·rw[è W]
    refine zX xs j hr fuel _ _ (by omega) (by omega) (by omega) Y (λk Q V=>?_);by_cases P:k=(lo+hi) / 2
    ·rw[P];omega
    ·have:=we hr (show (lo+hi) / 2<k by omega) V
     omega
  ·rw[è U]
   have e:lo=hi:=by omega
   subst e;exact⟨Z,Y,X⟩
def Fp (xs:Array Nat) (j:Nat) (hr:j9 xs.toList):Č xs j<=xs.toList.length/\(∀k,k<Č xs j->xs.toList.getD k 0<j)/\(∀k,Č xs j<=k->k<xs.toList.length->j<=xs.toList.getD k 0):=by
 unfold Č;exact zX xs j hr xs.size 0 xs.size (by omega) (Ċ _) (by simp) (λk Z=>by omega) (λk Z Y=>by simp at Y;omega)
def MN {l:List Nat} {p j:Nat} (h:∀k,k<p->l.getD k 0<j):∀x∈l.take p,x<j:=by
 intro x Y;obtain⟨k,X,e⟩:=aag Y;have Z:k<p/\k<l.length:=by rw[aaa] at X;omega
 have:=h k Z.1;rw[List.getElem_take] at e;rw[<- e];simpa [Ű,Ð Z.2] using this
def MO {l:List Nat} {p j:Nat} (h:∀k,p<=k->k<l.length->j<=l.getD k 0):∀x∈l.drop p,j<=x:=by
 intro x Y;obtain⟨k,X,e⟩:=aag Y;have Z:p+k<l.length:=by rw[List.length_drop] at X;omega
 have:=h (p+k) (by omega) Z;rw[List.getElem_drop] at e;rw[<- e];simpa [Ű,Ð Z] using this
def Pz {xs:Array Nat} {j:Nat} (hr:j9 xs.toList) (hn:xs[Č xs j]?≠some j):j9 (SetTable.insertAt xs (Č xs j) j).toList:=by
 obtain⟨T,V,U⟩:=Fp xs j hr;rw[SetTable.toList_insertAt];have a1:=MN V;have a2:∀x∈xs.toList.drop (Č xs j),j<x:=by
  intro x hx;have Y:=MO U;have X:j9 (xs.toList.drop (Č xs j)):=aaY (List.drop_sublist _ _) hr
  cases Z:xs.toList.drop (Č xs j) with
  |nil=>rw[Z] at hx;cases hx
  |cons y r =>
   rw[Z] at X hx Y;have hy:j≠y:=by
    intro e;apply hn;have:(xs.toList.drop (Č xs j))[0]?=some y:=by rw[Z];rfl
    rw[List.getElem?_drop] at this;have e2:xs.toList[Č xs j]?=some y:=by simpa using this
    rw[<- Ĳ,e2,e]
   have W:j<y:=Nat.lt_of_le_of_ne (Y y Ô) hy
   rcases Õ.mp hx with e|hx
   ·rw[e];exact W
   ·exact Nat.lt_trans W ((ò.mp X).1 x hx)
 first
  |(refine List.pairwise_append.mpr ⟨aaY (List.take_sublist _ _) hr,ò.mpr ⟨a2,aaY (List.drop_sublist _ _) hr⟩,λx hx y hy=>?_⟩
    rcases Õ.mp hy with e|hy
    ·rw[e];exact a1 x hx
    ·exact Nat.lt_trans (a1 x hx) (a2 y hy))
  |trace_state
theorem zY (t:SetTable) (h:Int):∀(fuel:Nat) (p:SetTable.Probe) (j:Nat) (dm:Option Nat),(∀d,p.dummy=some d->t.slot d=.dummy)->abx t (λ_=>h+1) h fuel p=some (.empty j dm)->t.slot j=.empty/\∀d,dm=some d->t.slot d=.dummy
 |0,p,j,dm,Y,e=>by simp[abx] at e
 |fuel+1,p,j,dm,Y,e=>by
  unfold abx at e
  cases hs:t.slot p.j with
  |empty =>
   rw[hs] at e;simp at e;rw[<- e.1,<- e.2];exact⟨hs,Y⟩
  |dummy =>
   rw[hs] at e;refine zY t h fuel _ j dm (λd Z=>?_) e;unfold SetTable.advance at Z;split at Z
   ·simp at Z;rw[<- Z];exact hs
   ·simp at Z;rw[<- Z];exact hs
  |live i =>
   rw[hs] at e;have X:(h+1==h)=false:=by simp;omega
   simp only[X,Â,é] at e;refine zY t h fuel _ j dm (λd Z=>?_) e;unfold SetTable.advance at Z;split at Z
   ·exact Y d Z
   ·exact Y d Z
def FT {t:SetTable} {j:Nat} (h:t.slot j=.empty\/t.slot j=.dummy):t.place[Č t.place j]?≠some j:=by
 intro e;have:t.slot j=.live (Č t.place j):=by
  unfold SetTable.slot;simp[e]
 rw[this] at h
 rcases h with h|h<;>cases h
def Ol {t:SetTable} {h:Int} {j:Nat} {b:Bool} (e:t.freeSlot h=some (j,b)):t.place[Č t.place j]?≠some j:=by
 unfold SetTable.freeSlot SetTable.probe at e;split at e
 ·rename_i Y Z X
  have k:=zY t h _ _ Y Z (λd W=>by simp[SetTable.probeStart] at W) X;simp at e;rw[<- e.1]
  cases Z with
  |none=>exact FT (.inl k.1)
  |some d=>exact FT (.inr (k.2 d rfl))
 ·cases e
structure iG (led:Bool) (t:SetTable):Prop where
 led:t.led=led
 rise:t.plain=true->j9 t.place.toList
def vA (h:iG led t) (n:Nat):iG led (t.standIn n):=⟨h.led,λz=>by simp[SetTable.standIn] at z⟩
def Nw {led:Bool} {t:SetTable} (h:iG led t) (es:Array (Int×Å)) (hs:Int) (x:Å):iG led (layNew t es hs x).2.1:=by
 unfold layNew;split
 ·rename_i slot Y e
  dsimp only;unfold SetTable.orStandIn;have Z:iG led (t.put slot).1:=⟨h.led,λz=>Pz (h.rise z) (Ol e)⟩;split
  ·exact Z
  ·exact vA Z _
 ·exact vA h _
def PB {mask finger moves:Nat} {led plain:Bool} {hs:Array Int} {o:Array Nat} (e:SetTable.laid mask finger moves led plain hs=some (t,o)):iG led t/\t.plain=plain:=by
 unfold SetTable.laid at e
 cases X:SetTable.layClean mask hs with
 |none=>rw[X] at e;simp at e
 |some owner =>
  rw[X] at e;simp at e;obtain⟨e1,e2⟩:=e;subst e1;refine⟨⟨rfl,λ_=>?_⟩,rfl⟩;show j9 (aaZ _).toList;simp only[List.map_filterMap];refine List.pairwise_filterMap.mpr ?_;refine List.Pairwise.imp (R:=(· < ·)) ?_ (aaG);intro a b U x Z y Y
  cases W:(owner[a]?.getD none) with
  |none=>rw[W] at Z;simp at Z
  |some q =>
   cases V:(owner[b]?.getD none) with
   |none=>rw[V] at Y;simp at Y
   |some r =>
    rw[W] at Z;rw[V] at Y;simp at Z Y;omega
def Om (h:iG led t) (es:Array (Int×Å)) (n:Nat):iG led (relayAll t es n).2.1:=by
 unfold relayAll;split
 ·rename_i Z o e
  dsimp only;split
  ·unfold SetTable.relaid at e
   have k:=PB e;exact⟨k.1.led.trans h.led,k.1.rise⟩
  ·exact vA h _
 ·exact vA h _
def Oo (led:Bool):iG led (.fresh 0 0 led):=⟨rfl,λ_=>List.Pairwise.nil⟩
open PySem.Spec PyProof.Rows
section
variable {P:ã} {w:Ă} {A:ê} {E:Å->Ä->Prop} {s:Ä} {led:Bool}
def gu (P:ã) (w:Ă) (led:Bool) (h:ĥ) (a:Ø) (S:Int->Bool) (n:Nat):Prop :=
 ∃o Z Y t,h.get? a=some o/\o.ExactSet/\o.data=.set Z Y t/\ElemsOf (ś P w) Z.toList/\(∀k,S k=true↔∃e∈Z.toList,(ś P w).is k e.2=true)/\Z.size<Z6/\t.fits Z.size=true/\Z.size=n/\iG led t
def gu.at (x:gu P w led h a S n) (k:∀o,h.get? a=some o->h'.get? a=some o):gu P w led h' a S n:=by
 obtain⟨o,Z,Y,t,X,r⟩:=x;exact⟨o,Z,Y,t,k o X,r⟩
def gu.congr (x:gu P w led h a S n) (e:∀k,S k=S' k) (en:n=n'):gu P w led h a S' n':=by
 obtain rfl:S=S':=funext e;subst en;exact x
def zZ {a:Ø} {u:Obj} {es ip:Array (Int×Å)} {ep:Nat} {t t':SetTable} {h:ĥ} (hu:h.get? a=some u) (hx:u.ExactSet) (hd:u.data=.set es ep t) {S:Int->Bool}
  (c1:ElemsOf (ś P w) ip.toList) (c2:∀k,S k=true↔∃e∈ip.toList,(ś P w).is k e.2=true) (c3:ip.size<Z6) (c4:t'.fits ip.size=true) (c5:iG led t') :
  (h.update a (Obj.putSet ip t')).get? a=some { u with data:=.set ip (ep+1) t' }/\gu P w led (h.update a (Obj.putSet ip t')) a S ip.size:=by
 have g:=(SetOf_store (knd:=ś P w) hu hx hd c1 c2 c3 c4).1;exact⟨g,_,ip,ep+1,t',g,hx,rfl,c1,c2,c3,c4,rfl,c5⟩
def Rl {a:Ø} {S:Int->Bool} {n:Nat} {k:Int} {tk:Tok} {Q:Bool->Ä->Prop} (hS:gu P w led s.heap a S n) (Vd:n+1<Z6)
  (h:∀h',İ a s.heap h'->gu P w led h' a (λj=>S j||decide (j=k)) (if S k then n else n+1)->Q (!S k) { s with heap:=h' }) :
  Û (ä P w) A (setAddHashed a (.int k tk) ((ś P w).hash k)) Q E s:=by
 obtain⟨u,W,d,t,R,H,O,G,F,m,B,y,i⟩:=hS;have ky:(ś P w).is k (.int k tk)=true:=intKind_is _ _ _ _;have sc:(abc k tk).scannable=true:=rfl;have uR:W.size+1<Z6:=by rw[y];exact Vd
 unfold setAddHashed setAddHashedIn;refine ĝ ?_;refine À (ų R O B ?_);dsimp only;rw[byScan_of sc m G,ß rfl];unfold setAddByScan;refine À (À (ş ?_));refine À (wpAny_setScan_of ky R O B G ?_)
 cases g:W.toList.findIdx? (λe=>(ś P w).is k e.2) with
 |some j =>
  dsimp only;obtain⟨c,pj,_⟩:=List.findIdx?_eq_some_iff_getElem.mp g;have K:S k=true:=(F k).mpr ⟨W.toList[j],aa4 c,pj⟩;have q:=h s.heap (Heap.SameBut.refl a s.heap) ⟨u,W,d,t,R,H,O,G,λj'=>by
   rw[aay,Ì,<- F j'];exact⟨λz=>z.elim id λe=>by rw[e];exact K,aap⟩,m,B,by rw[K];exact y,i⟩
  rw[K] at q;exact Ã (Ã q)
 |none =>
  dsimp only;have K:S k=false:=by
   rw[<- ż,F k];rintro ⟨e,X,pe⟩;have z:=List.findIdx?_eq_none_iff.mp g e X;rw[pe] at z;cases z
  have way:∀(b:Bool) {x:Ä} {v:Unit->Ä->Prop},v () x->Û (ä P w) A (match b with|true=>rule "set.scan.the-table-gave-way"|false=>pure ()) v E x :=
   λb x v q=>by cases b<;>first|exact Ã q|exact ş q
  have pm:=layNew_perm t W ((ś P w).hash k) (.int k tk);have r:=layNew_fits t W ((ś P w).hash k) (.int k tk);have D:=Nw i W ((ś P w).hash k) (.int k tk);generalize layNew t W ((ś P w).hash k) (.int k tk)=L at pm r D |-;obtain⟨Z,t1,Zp,Zt⟩:=L;dsimp only at pm r D |-;rw[aaO] at pm;have p:ElemsOf (ś P w) Z.toList:=(G.push ky sc).perm pm;have o:∀j,(S j||decide (j=k))=true↔∃e∈Z.toList,(ś P w).is j e.2=true:=mem_push_iff ky F pm;have z1:Z.size=n+1:=by
   have l:=pm.length_eq;rw[Þ,ø,ø,y] at l;exact l
  have V:Z.size<Z6:=by omega
  refine À (way _ ?_);obtain⟨g1,f⟩:=zZ (S:=λj=>S j||decide (j=k)) R H O p o V r D;have C:=Ğ s.heap a (Obj.putSet Z t1)
  have fin:∀h',İ a s.heap h'->gu P w led h' a (λj=>S j||decide (j=k)) Z.size->Q true { s with heap:=h' }:=λh' sb T=>by
   have q:=h h' sb;rw[K] at q;rw[z1] at T;exact q T
  have Y:=relayAll_perm t1 Z (aaV Z.size);have N:=relayAll_fits t1 Z (aaV Z.size);have M:=Om D Z (aaV Z.size);have hv:hashByValue 8 (abc k tk)=pure true:=rfl;split
  ·refine À ?_
   rw[hv];refine Ã ?_;simp only[ð];refine À (aaP R O ?_ (ZV V));split
   ·generalize relayAll t1 Z (aaV Z.size)=L2 at Y N M |-
    obtain⟨J,t2,Ve⟩:=L2;dsimp only at Y N M |-;have U:J.size=Z.size:=by
     have l:=Y.length_eq;rwa [ø,ø] at l
    have f2:∀j,(S j||decide (j=k))=true↔∃e∈J.toList,(ś P w).is j e.2=true:=λj=>(o j).trans ⟨λ⟨e,X,q⟩=>⟨e,Y.mem_iff.mpr X,q⟩,λ⟨e,X,q⟩=>⟨e,Y.mem_iff.mp X,q⟩⟩;refine À (way _ ?_);refine À (aaP g1 rfl ?_ (ZV (by rw[U];exact V)));obtain⟨g2,I⟩:=zZ (S:=λj=>S j||decide (j=k)) (led:=led) g1 H rfl (p.perm Y) f2 (by rw[U];exact V) N M;rw[U] at I;exact Ã (Ã (fin _ (C.trans (Ğ _ a _)) I))
   ·exact Ã (Ã (fin _ C f))
  ·refine À (Ã ?_)
   simp only[ð];refine À (aaP R O ?_ (ZV V));split
   ·generalize relayAll t1 Z (aaV Z.size)=L2 at Y N M |-
    obtain⟨J,t2,Ve⟩:=L2;dsimp only at Y N M |-;have U:J.size=Z.size:=by
     have l:=Y.length_eq;rwa [ø,ø] at l
    have f2:∀j,(S j||decide (j=k))=true↔∃e∈J.toList,(ś P w).is j e.2=true:=λj=>(o j).trans ⟨λ⟨e,X,q⟩=>⟨e,Y.mem_iff.mpr X,q⟩,λ⟨e,X,q⟩=>⟨e,Y.mem_iff.mp X,q⟩⟩;refine À (way _ ?_);refine À (aaP g1 rfl ?_ (ZV (by rw[U];exact V)));obtain⟨g2,I⟩:=zZ (S:=λj=>S j||decide (j=k)) (led:=led) g1 H rfl (p.perm Y) f2 (by rw[U];exact V) N M;rw[U] at I;exact Ã (Ã (fin _ (C.trans (Ğ _ a _)) I))
   ·exact Ã (Ã (fin _ C f))
end
def Mf:entryFor table "set.__iter__"=some ű.«frozenset.__iter__»:=entryFor_alias (id':="frozenset.__iter__") (by kernel_rfl) rfl (by decide +kernel) (by kernel_rfl)
def jJ:Slot "set_iterator" "__next__" "set_iterator.__next__" :=
 .of (owner:="set_iterator") (n:="__next__") (by rw[typeLookup_type,builtinLookup_eq_fast];kernel_rfl) (by decide +kernel) (by decide +kernel) (by decide +kernel)
  (by first|exact .inl (by decide +kernel)|exact .inr (by decide +kernel)) (by rw[isSubtype_type];kernel_rfl)
def vt:entryFor table "set_iterator.__next__"=some ű.«set_iterator.__next__»:=entryFor_of_tree (by kernel_rfl)
def vz (a:Å):argsOk "set_iterator.__next__" ⟨[a],[]⟩:=by unfold argsOk;kernel_rfl
def EV:Slot "set_iterator" "__iter__" "set_iterator.__iter__" :=
 .of (owner:="set_iterator") (n:="__iter__") (by rw[typeLookup_type,builtinLookup_eq_fast];kernel_rfl) (by decide +kernel) (by decide +kernel) (by decide +kernel)
  (by first|exact .inl (by decide +kernel)|exact .inr (by decide +kernel)) (by rw[isSubtype_type];kernel_rfl)
def i3 (h:ĥ) (I a:Ø) (first:Å) (i n ep:Nat):Prop:=∃o,h.get? I=some o/\o.cls=.type "set_iterator"/\o.data=.fields #[first,.int i 0,.ref a,.int n 0,.int ep 0]
section
variable {P:ã} {w:Ă} {A:ê} {E:Å->Ä->Prop} {s:Ä}
def Hn {slot i n ep nx:Nat} {es:Array (Int×Å)} {Q:Option Å->Ä->Prop} (hit:i3 s.heap I a (.int slot 0) i n ep)
 (hu:s.heap.get? a=some u) (hd:u.data=.set es ep t) (hf:t.fits es.size=true) (hn:es.size=n)
 (hs:∀(A':ê) (Q':Option (Å×Nat)->Ä->Prop) (E':Å->Ä->Prop),Q' (some (x,nx)) s->Û (ä P w) A' (setNext a slot i ep) Q' E' s)
 (hQ:∀h',i3 h' I a (.int nx 0) (i+1) n ep->İ I s.heap h'->Q (some x) { s with heap:=h' }):Û (ä P w) A (aaj (.ref I)) Q E s:=by
 obtain⟨o,Y,X,Z⟩:=id hit;have W:s.TypeIs (.ref I) "set_iterator":=⟨o,Y,X⟩;unfold aaj;refine À (Ÿ (ċ (name:=Ā "__next__") W jJ
  (ć jJ W vt ?_ (vz _))))
 unfold ű.«set_iterator.__next__» slotArgs;simp only[aab,ô,Â,↓reduceIte,bind_assoc,ē,Ē];refine À (Ã ?_);refine À (wpAny_fieldsOf Y Z ?_);dsimp only;refine À (Ź hu hd hf ?_);rw[hn];simp only[Ē,Â,↓reduceIte,Ľ];refine À (hs _ _ _ ?_);dsimp only;refine À (δ Y Z (by simp) ?_);refine À (δ (ě _ Y (ł (Đ Z _))) (Đ Z _) (by simp) ?_);refine Ã ⟨x,rfl,Ã (hQ _ ⟨_,ě _ (ě _ Y (ł (Đ Z _))) (ł (Đ (Đ Z _) _)),(aaM ..).trans ((aaM ..).trans X),?_⟩ ((Ğ ..).trans (Ğ ..)))⟩;rw[Đ (Đ Z _)];simp[ZX]
def Nx (hm:m≠0) (h:Q (w.draws src (s.drawn.get src) % m) { s with drawn:=s.drawn.bump src }):Û (ä P w) A (choose src m) Q E s:=fun Z p Y=>by
 unfold choose;rw[Sem.wp_choose];exact⟨hm,h⟩
def FU (hh:A.handled=none) (ho:s.heap.get? I=some o) (dZ:o.data=.fields vs) (h2:2<vs.size)
 (hQ:∀h',aaL I s.heap h'->Q none { s with heap:=h' }) :
  Û (ä P w) A.in1 (setField (.ref I) 2 .none >>= λ_=>newExc (.type "StopIteration") [] >>= λe=>(raiseNew e:Sem Fin)) (λfin s'=>∃v,fin=Fin.done (Flow.ret v)/\Û (ä P w) A (pure (some v)) Q E s')
   (λe s'=>Û (ä P w) A (isInstance e (Ş "StopIteration") >>= λb=>if b=true then pure none else throw e) Q E s') s:=by
 refine À (δ ho dZ h2 ?_);refine À ?_;simp only[newExc,newTuple];refine À (þ ?_ (by size_fits))
 refine À (m:=firstArgMember _ _) (wpAny_of_eq (a:=Value.none) (by first|rfl | (simp only[firstArgMember];rfl)) ?_)
 refine þ ?_ (by size_fits);simp only[raiseNew];refine À (wpAny_handled ?_)
 first|rw[show A.in1.handled=none from hh]|rw[hh]
 refine À (Ã (wpAny_throw ?_));refine À (aa5 (T:="StopIteration") (b:=true) ⟨_,Í _ rfl,rfl⟩ isSubtype_stop ?_);exact Ã (hQ _ (((Ğ ..).extBut.push _).push _))
def Ij {slot i n ep:Nat} {es:Array (Int×Å)} {Q:Option Å->Ä->Prop} (hh:A.handled=none) (hit:i3 s.heap I a (.int slot 0) i n ep)
 (hu:s.heap.get? a=some u) (hd:u.data=.set es ep t) (hf:t.fits es.size=true) (hn:es.size=n)
 (hs:∀(A':ê) (Q':Option (Å×Nat)->Ä->Prop) (E':Å->Ä->Prop),Q' none s->Û (ä P w) A' (setNext a slot i ep) Q' E' s)
 (hQ:∀h',aaL I s.heap h'->Q none { s with heap:=h' }):Û (ä P w) A (aaj (.ref I)) Q E s:=by
 obtain⟨o,Z,W,Y⟩:=id hit;have X:s.TypeIs (.ref I) "set_iterator":=⟨o,Z,W⟩;unfold aaj;refine À (Ÿ (ċ (name:=Ā "__next__") X jJ
  (ć jJ X vt ?_ (vz _))))
 unfold ű.«set_iterator.__next__» slotArgs;simp only[aab,ô,Â,↓reduceIte,bind_assoc,ē,Ē];refine À (Ã ?_);refine À (wpAny_fieldsOf Z Y ?_);dsimp only;refine À (Ź hu hd hf ?_);rw[hn];simp only[Ē,Â,↓reduceIte,Ľ];refine À (hs _ _ _ ?_);dsimp only;exact FU hh Z Y (by simp) hQ
def PC {i n ep pl:Nat} {es:Array (Int×Å)} {x:Int×Å} {Q:Option Å->Ä->Prop} (hit:i3 s.heap I a (.ref tp) i n ep)
 (hu:s.heap.get? a=some u) (hd:u.data=.set es ep t) (hf:t.fits es.size=true) (hn:es.size=n) (uU:s.heap.IsTuple tp places) (bH:places[i]?=some (.int pl tk)) (hx:es[pl]?=some x)
 (hQ:∀h',i3 h' I a (.ref tp) (i+1) n ep->İ I s.heap h'->Q (some x.2) { s with heap:=h' }):Û (ä P w) A (aaj (.ref I)) Q E s:=by
 obtain⟨o,Z,X,Y⟩:=id hit;obtain⟨op,V,T,np,U⟩:=uU;have W:s.TypeIs (.ref I) "set_iterator":=⟨o,Z,X⟩;unfold aaj;refine À (Ÿ (ċ (name:=Ā "__next__") W jJ
  (ć jJ W vt ?_ (vz _))))
 unfold ű.«set_iterator.__next__» slotArgs;simp only[aab,ô,Â,↓reduceIte,bind_assoc,ē,Ē];refine À (Ã ?_);refine À (wpAny_fieldsOf Z Y ?_);dsimp only;refine À (Ź hu hd hf ?_);rw[hn];simp only[Ē,Â,↓reduceIte,Ľ];refine À (Ī V U ?_);dsimp only;rw[bH];dsimp only;unfold setNextDrawn;refine À (À (ų hu hd hf ?_));dsimp only;simp only[Ē,Â,↓reduceIte,Ľ];rw[hx];dsimp only;refine Ã ?_;refine À (δ Z Y (by simp) ?_);refine Ã ⟨x.2,rfl,Ã (hQ _ ⟨_,ě _ Z (ł (Đ Y _)),(aaM ..).trans X,?_⟩ (Ğ ..))⟩;rw[Đ Y];simp[ZX]
def Rm (hh:A.handled=none) (hit:i3 s.heap I a (.ref tp) i n ep)
 (hu:s.heap.get? a=some u) (hd:u.data=.set es ep t) (hf:t.fits es.size=true) (hn:es.size=n) (uU:s.heap.IsTuple tp places) (bH:places[i]?=none)
 (hQ:∀h',aaL I s.heap h'->Q none { s with heap:=h' }):Û (ä P w) A (aaj (.ref I)) Q E s:=by
 obtain⟨o,Z,W,Y⟩:=id hit;obtain⟨op,V,T,np,U⟩:=uU;have X:s.TypeIs (.ref I) "set_iterator":=⟨o,Z,W⟩;unfold aaj;refine À (Ÿ (ċ (name:=Ā "__next__") X jJ
  (ć jJ X vt ?_ (vz _))))
 unfold ű.«set_iterator.__next__» slotArgs;simp only[aab,ô,Â,↓reduceIte,bind_assoc,ē,Ē];refine À (Ã ?_);refine À (wpAny_fieldsOf Z Y ?_);dsimp only;refine À (Ź hu hd hf ?_);rw[hn];simp only[Ē,Â,↓reduceIte,Ľ];refine À (Ī V U ?_);dsimp only;rw[bH];dsimp only;refine À (δ Z Y (by simp) ?_)
 exact FU (s:={ s with heap:=_ }) hh (ě _ Z (ł (Đ Y _))) (Đ Y _) (by simp) λh' e=>hQ h' (Heap.ExtBut.trans (Ğ ..).extBut e)
end
def Mm:entryFor table "set_iterator.__iter__"=some ű.«dict_keyiterator.__iter__»:=entryFor_alias (id':="dict_keyiterator.__iter__") (by kernel_rfl) rfl (by decide +kernel) (by kernel_rfl)
def Mx (a:Å):argsOk "set_iterator.__iter__" ⟨[a],[]⟩:=by unfold argsOk;kernel_rfl
section
variable {P:ã} {w:Ă} {A:ê} {E:Å->Ä->Prop} {s:Ä}
def z3 (hit:i3 s.heap I a f i n ep) (h:Q (.ref I) s):Û (ä P w) A (pyIter (.ref I)) Q E s:=by
 obtain⟨o,Y,X,W⟩:=id hit;have Z:s.TypeIs (.ref I) "set_iterator":=⟨o,Y,X⟩;refine wpAny_pyIter_slot Z EV (ć EV Z Mm ?_ (Mx _));show Û _ _ (ret (.ref I)) _ _ s;exact Ã ⟨_,rfl,"set_iterator",_,Z,jJ.lookup,h⟩
def i3.at (x:i3 h I a f i n ep) (k:∀o,h.get? I=some o->h'.get? I=some o):i3 h' I a f i n ep:=by
 obtain⟨o,Z,r⟩:=x;exact⟨o,k o Z,r⟩
def FV (iz:w.params.followText "set-order"=true) (hu:s.heap.get? a=some u) (hd:u.data=.set es ep t) (hf:t.fits es.size=true)
 (h:Q' (((Ž (w.params.setOrder a ep) es)[i]?).map λe=>(e.2,slot)) s):Û (ä P w) A (setNext a slot i ep) Q' E s:=by
 unfold setNext;refine À (ų hu hd hf ?_);dsimp only;unfold setsByText;refine À (À (Ţ (Ã ?_)))
 show Û _ _ (if w.params.followText "set-order"=true then _ else _) _ _ _
 rw[ß iz];simp only[Ē,Â,↓reduceIte];unfold setWalk;refine À (À (ų hu hd hf ?_));dsimp only;unfold setsByText;refine À (À (Ţ (Ã ?_)))
 show Û _ _ (if w.params.followText "set-order"=true then _ else _) _ _ _
 rw[ß iz];refine À (Ţ (Ã ?_));exact Ã h
def qh (hr:j9 xs.toList) (hi:i<=xs.toList.length) (h1:∀k,k<i->xs.toList.getD k 0<slot) (h2:∀k,i<=k->k<xs.toList.length->slot<=xs.toList.getD k 0):Č xs slot=i:=by
 obtain⟨V,a1,a2⟩:=Fp xs slot hr;by_cases Z:Č xs slot<i
 ·have Y:=a2 _ (abG _) (by omega)
  have X:=h1 _ Z;omega
 ·by_cases W:i<Č xs slot
  ·have Y:=a1 i W
   have X:=h2 i (abG _) (by omega);omega
  ·omega
def Fq (iz:w.params.followText "set-order"=false) (hu:s.heap.get? a=some u) (hd:u.data=.set es ep t) (hf:t.fits es.size=true)
 (hl:t.led=true) (hp:t.plain=true\/es.size<=1) (hb:Č t.place slot=i)
 (h:Q' (match es[i]?,t.place[i]? with|some (_,x),some j=>some (x,j+1) | _,_=>none) s):Û (ä P w) A (setNext a slot i ep) Q' E s:=by
 unfold setNext;refine À (ų hu hd hf ?_);dsimp only;unfold setsByText;refine À (À (Ţ (Ã ?_)))
 show Û _ _ (if w.params.followText "set-order"=true then _ else _) _ _ _
 rw[è (by rw[iz];decide)];split
 ·rename_i Y
  have Z:(!t.plain&&decide (es.size > 1))=true:=Y
  rcases hp with hp|hp
  ·rw[hp] at Z;cases Z
  ·simp at Z;omega
 ·refine À ?_
  show Û _ _ (if (!t.led&&!es.isEmpty)=true then _ else _) _ _ _
  rw[hl];simp only[ô,aaU,Â,↓reduceIte];refine Ã ?_;rw[hb];exact Ã h
def zb (sb:İ I s.heap h'):Moved [I] (λa b=>b=a) s { s with heap:=h' }:=⟨λb o Z e=>by rw[sb.2 b (λz=>Z (by simp[z]))];exact e,rfl,rfl,rfl,abG _⟩
def zg (sb:aaL I s.heap h'):Moved [I] (λa b=>b=a) s { s with heap:=h' }:=⟨λb o Z e=>sb b o (λz=>Z (by simp[z])) e,rfl,rfl,rfl,abG _⟩
end
def Ny (hh:A.handled=none) (iw:a≠I) (iz:w.params.followText "set-order"=true) (hd:u.data=.set es ep t) (hf:t.fits es.size=true) (hsz:(Ž (w.params.setOrder a ep) es).size=es.size) :
  WalksS P w A I [I,a] [I] (λa b=>b=a) es.size (λi v=>((Ž (w.params.setOrder a ep) es).map (·.2))[i]?=some v) (λi s=>i3 s.heap I a (.int 0 0) i es.size ep/\s.heap.get? a=some u) where
 sub:=λb W=>by simp at W;simp[W]
 grefl:=λ_=>rfl
 gtrans:=λ_ _ _ T S=>S.trans T
 frame:=λi s V L Z _ U=>⟨Z.1.at λo e=>U I (by simp) o e,U a (by simp) _ Z.2⟩
 item:=λi s Q E hi Z Y=>by
  have R:i<(Ž (w.params.setOrder a ep) es).size:=by rw[hsz];exact hi
  have ex:(Ž (w.params.setOrder a ep) es)[i]?=some (Ž (w.params.setOrder a ep) es)[i]:=by simp[R]
  refine Hn (nx:=0) (x:=(Ž (w.params.setOrder a ep) es)[i].2) (slot:=0) Z.1 Z.2 hd hf rfl (λO N M q=>FV iz Z.2 hd hf (by rw[ex];exact q)) λV it X=>?_;exact Y _ _ (by simp[ex]) ⟨it,by rw[X.2 a iw];exact Z.2⟩ (zb X)
 done:=λs Q E Z Y=>by
  refine Ij (slot:=0) hh Z.1 Z.2 hd hf rfl (λO N M q=>FV iz Z.2 hd hf (by
   rw[show (Ž (w.params.setOrder a ep) es)[es.size]?=none by simp[hsz]];exact q)) λV X=>Y _ (zg X)
 self:=λi s Q E Z Y=>z3 Z.1 Y
def MP (hh:A.handled=none) (iw:a≠I) (iz:w.params.followText "set-order"=false) (hd:u.data=.set es ep t) (hf:t.fits es.size=true) (hl:t.led=true) (hp:t.plain=true\/es.size<=1) (hr:j9 t.place.toList) :
  WalksS P w A I [I,a] [I] (λa b=>b=a) es.size (λi v=>(es.map (·.2))[i]?=some v) (λi s=>∃slot:Nat,i3 s.heap I a (.int slot 0) i es.size ep/\s.heap.get? a=some u/\i<=es.size/\(∀k,k<i->t.place.toList.getD k 0<slot)/\∀k,i<=k->k<t.place.toList.length->slot<=t.place.toList.getD k 0) where
 sub:=λb N=>by simp at N;simp[N]
 grefl:=λ_=>rfl
 gtrans:=λ_ _ _ L K=>K.trans L
 frame:=λi s M B Y _ V=>by
  obtain⟨slot,X,Z,T⟩:=Y;exact⟨slot,X.at λo e=>V I (by simp) o e,V a (by simp) _ Z,T⟩
 item:=λi s Q E hi Y W=>by
  obtain⟨slot,X,Z,T,S,R⟩:=Y;have J:t.place.toList.length=es.size:=by
   simp only[SetTable.fits,Æ,beq_iff_eq,Ì] at hf;simpa using hf.1
  have O:i<t.place.toList.length:=by omega
  have e1:es[i]?=some es[i]:=by simp[hi]
  have e2:t.place[i]?=some (t.place.toList.getD i 0):=by
   rw[<- Ĳ,Ð O];simp[Ű,Ð O]
  refine Hn (nx:=t.place.toList.getD i 0+1) (x:=es[i].2) (slot:=slot) X Z hd hf rfl (λH G F q=>Fq iz Z hd hf hl hp (qh hr (by omega) S R) (by rw[e1,e2];exact q)) λM it U=>?_;refine W _ _ (by simp[e1]) ⟨_,it,by rw[U.2 a iw];exact Z,hi,λk V=>?_,λk V D=>?_⟩ (zb U)
  ·by_cases C:k=i
   ·rw[C];omega
   ·have:=we hr (show k<i by omega) O
    omega
  ·have:=we hr (show i<k by omega) D
   omega
 done:=λs Q E Y W=>by
  obtain⟨slot,X,Z,T,S,R⟩:=Y;have J:t.place.toList.length=es.size:=by
   simp only[SetTable.fits,Æ,beq_iff_eq,Ì] at hf;simpa using hf.1
  refine Ij (slot:=slot) hh X Z hd hf rfl (λH G F q=>Fq iz Z hd hf hl hp (qh hr (by omega) S R) (by
   rw[show es[es.size]?=none by simp];exact q)) λM U=>W _ (zg U)
 self:=λi s Q E Y W=>by
  obtain⟨slot,X,_⟩:=Y;exact z3 X W
def MQ (hh:A.handled=none) (iw:a≠I) (XG:tp≠I) (hd:u.data=.set es ep t) (hf:t.fits es.size=true) (pl:List Nat) (bH:pl.length=es.size) (uV:∀x∈pl,x<es.size) :
  WalksS P w A I [I,a,tp] [I] (λa b=>b=a) es.size (λi v=>(pl.map λk=>(es.getD k (0,Value.none)).2)[i]?=some v) (λi s=>i3 s.heap I a (.ref tp) i es.size ep/\s.heap.get? a=some u/\s.heap.IsTuple tp (pl.map λ(k:Nat)=>ZX k).toArray) where
 sub:=λb U=>by simp at U;simp[U]
 grefl:=λ_=>rfl
 gtrans:=λ_ _ _ R O=>O.trans R
 frame:=λi s T tk Z _ Y=>⟨Z.1.at λo e=>Y I (by simp) o e,Y a (by simp) _ Z.2.1,let ⟨o,V,r⟩:=Z.2.2;⟨o,Y tp (by simp) o V,r⟩⟩
 item:=λi s Q E hi Z X=>by
  have S:i<pl.length:=by omega
  have e1:pl[i]?=some pl[i]:=Ð S;have Y:=uV _ (aa4 S);refine PC (pl:=pl[i]) (x:=es.getD pl[i] (0,Value.none)) (tk:=0) Z.1 Z.2.1 hd hf rfl Z.2.2 (by simp[e1,ZX]) (by simp[Y,abw]) λT it W=>?_
  refine X _ _ (by simp[e1]) ⟨it,by rw[W.2 a iw];exact Z.2.1,let ⟨o,V,r⟩:=Z.2.2;⟨o,by rw[W.2 tp XG];exact V,r⟩⟩ (zb W)
 done:=λs Q E Z X=>Rm hh Z.1 Z.2.1 hd hf rfl Z.2.2 (by simp[bH]) λT W=>X _ (zg W)
 self:=λi s Q E Z X=>z3 Z.1 X
noncomputable def fc (w:Ă):Bool:=!(w.params.followText "set-order")
section
variable {P:ã} {w:Ă} {A:ê} {E:Å->Ä->Prop} {s:Ä}
def PD (a:Å)
 (hq:Q₁ (.ref s.heap.objs.size) { s with heap:=s.heap.push { cls:=.type "set",dict:=none,data:=.set #[] 0 (.fresh 0 0 (fc w)) } }) :
  ŷ (ä P w) A (.call (.builtin "set.__new__") ⟨[.type "set",a],[]⟩) (wants Q₁ E) s:=by
 refine codeAny_of_tree ?_;show Û _ A.in1 (checkBuiltinCall "set.__new__" ⟨[.type "set",a],[]⟩ >>= λ_=>again (.builtin "set.__new__" ⟨[.type "set",a],[]⟩)) _ _ s;refine À ?_;refine wpAny_of_eq (F.newCall_set_1 a) ?_;refine Ã ⟨plainId_quiet F.plain_set_new _,Ń F.entry_set_new ?_⟩;rw[ū F.plain_set_new _];unfold ű.«set.__new__» Builtin.Frozenset.newClass;have ss:=sub_set_self;obtain⟨Z,Y,X,W,V⟩:=s;dsimp only
 wp_walk
 refine Ţ (Ã ?_);dsimp only;simp only[newObj];refine À (wpAny_alloc ?_);exact Ã (Ã hq)
end
section
variable {P:ã} {w:Ă} {A:ê} {R:Result->Ä->Prop} {I:Ø} {fp wr:List Ø} {G:Array GenState->Array GenState->Prop} {n:Nat} {Pv:Nat->Å->Prop} {St:Nat->Ä->Prop} {led:Bool}
def PH (val:Nat->Int) {i n:Nat} (h:i<=n):(Ō val i).length<=(Ō val n).length:=by
 induction h with
 |refl=>exact abG _
 |step _ ih =>
  refine à ih ?_;rw[firstMet_succ,step_length]
  split<;>omega
def PJ (W:WalksS P w A.in1 I fp wr G n Pv St) (S:Ø) (uW:S∉fp)
  (val:Nat->Int) (WN:∀i v,Pv i v->∃t,v=.int (val i) t) (hb:(Ō val n).length+1<Z6) :
  ∀(k i:Nat) (s:Ä),n-i=k->i<=n->St i s ->
   gu P w led s.heap S (λj=>(Ō val i).any (·==j)) (Ō val i).length ->
   (∀s',Moved (S::wr) G s s'->gu P w led s'.heap S (λj=>(Ō val n).any (·==j)) (Ō val n).length->R (.ok (.ret .none)) s') ->
   ŷ (ä P w) A (.builtin "set.update.loop" ⟨[.ref S,.ref I],[]⟩) R s:=by
 have nw:S∉wr:=λz=>uW (W.sub _ z);have sw:∀b∈wr,b∈S::wr:=λb z=>Ó _ z;intro k
 induction k with
 |zero =>
  intro i s U hi Z T Y;obtain rfl:i=n:=by omega
  refine Ń F.entry_set_update_loop ?_;rw[ū aaz _];show Û _ A.in1 (aaj (.ref I) >>= _) _ _ s;refine À (W.done s _ _ Z λs' m=>?_);show Û _ A.in1 (ret Value.none) _ _ s';exact Ã (Y s' (m.mono sw) (T.at λo e=>m.heap S o nw e))
 |succ k ih =>
  intro i s U hi Z T Y;have lt:i<n:=by omega
  refine Ń F.entry_set_update_loop ?_;rw[ū aaz _];show Û _ A.in1 (aaj (.ref I) >>= _) _ _ s;refine À (W.item i s _ _ lt Z λv s' pv Q m=>?_);obtain⟨t,rfl⟩:=WN i v pv;have O:=T.at (h':=s'.heap) λo e=>m.heap S o nw e;show Û _ A.in1 (μ [abc (val i) t] (setAdd S (.int (val i) t)) >>= _) _ _ s';refine À (ĝ ?_);unfold setAdd;refine ĝ ?_;refine À ((ś P w).pyHash (k:=val i) (intKind_is _ _ _ _) ?_);have room:(Ō val i).length+1<Z6:=by have:=PH val hi;omega
  refine Rl (s:={ s' with toks:=s'.toks+1 }) O room λh' V N=>?_
  have M:gu P w led h' S (λj=>(Ō val (i+1)).any (·==j)) (Ō val (i+1)).length:=N.congr (λj=>by rw[firstMet_succ,step_any]) (by rw[firstMet_succ,step_length]);refine Ã ⟨plainId_quiet aaz _,ih (i+1) _ (by omega) lt (W.frame _ s' _ _ Q (aaf _) λb X o e=>?_) M λL K J=>?_⟩
  ·rw[V.2 b λz:b=S=>uW (z ▸ X)];exact e
  ·refine Y L (Moved.trans W.gtrans ((m.mono sw).then_heap (aaf _) λb o X e=>?_) K) J
   rw[V.2 b λz:b=S=>X (by rw[z];exact Ô)];exact e
end
section
variable {P:ã} {w:Ă} {A:ê} {E:Å->Ä->Prop} {s:Ä}
def Nz   
 (hh:A.handled=none) (hl:s.heap.IsList l its) (hi:aaJ its.toList ns) (hb:(Ō (λi=>ns.getD i 0) its.size).length+1<Z6)
 (h:∀(h':ĥ) (tk:Nat),gu P w (fc w) h' s.heap.objs.size (λk'=>(Ō (λi=>ns.getD i 0) its.size).any (·==k')) (Ō (λi=>ns.getD i 0) its.size).length ->
 (∀b o,b<s.heap.objs.size->s.heap.get? b=some o->h'.get? b=some o)->Q (.ref s.heap.objs.size) { s with heap:=h',toks:=tk }) :
  Û (ä P w) A (call (.type "set") [.ref l]) Q E s:=by
 obtain⟨c,tl,ur⟩:=υ.mro;have um:=υ.made;have ub:=υ.sub;refine aaI (codeAny_of_tree ?_);show Û _ _ (callAny (.type "set") _) _ _ _;refine Ã ⟨Code.quiet_builtin _ (by decide +kernel),Ń F.entry_type_call ?_⟩;rw[Around.under_plain (weight_type_call_type "set" [.ref l] []) rfl];have h1:=υ.notType;have h2:=υ.canCreate;have ZH:=F.typeCall_set_1 (.ref l)
 repeat (any_goals (first|assumption|wp_step))
 refine ō (PD (.ref l) (E:=E) (Q₁:=λobj V=>obj=.ref s.heap.objs.size/\V={ s with heap:=s.heap.push { cls:=.type "set",dict:=none,data:=.set #[] 0 (.fresh 0 0 (fc w)) } }) ⟨rfl,rfl⟩) λr V Y=>?_
 cases r with
 |error e=>exact Y
 |ok M =>
  cases M with
  |ret obj =>
   obtain⟨rfl,rfl⟩:=Y;have v:(s.heap.push { cls:=.type "set",dict:=none,data:=.set #[] 0 (.fresh 0 0 (fc w)) }).get? s.heap.objs.size=some { cls:=.type "set",dict:=none,data:=.set #[] 0 (.fresh 0 0 (fc w)) }:=Í _ rfl
   have L:Shared.TypeIs { s with heap:=s.heap.push { cls:=.type "set",dict:=none,data:=.set #[] 0 (.fresh 0 0 (fc w)) } } (.ref s.heap.objs.size) "set":=⟨_,v,rfl⟩
   have vl:=υ.init.lookup;have vb:=υ.init.bind (.ref s.heap.objs.size)
   repeat (any_goals (first|assumption|wp_step))
   refine ō (codeAny_call_builtin (R:=wants (λr U=>r=.none/\∃h' tk,U={ s with heap:=h',toks:=tk } /\
     gu P w (fc w) h' s.heap.objs.size (λk'=>(Ō (λi=>ns.getD i 0) its.size).any (·==k')) (Ō (λi=>ns.getD i 0) its.size).length /\
     (∀b o,b<s.heap.objs.size->s.heap.get? b=some o->h'.get? b=some o)) E) υ.init.plain F.entry_set_init (check_set_init_1 L ?_)) λK U X=>?_
   ·obtain⟨ol,T,S,nn,O⟩:=hl
    obtain⟨oc,J,oa,I⟩:=ol;simp only at S O;subst S;subst O;have H:(s.heap.push { cls:=.type "set",dict:=none,data:=.set #[] 0 (.fresh 0 0 (fc w)) }).get? l=some { cls:=.type "list",dict:=J,data:=.seq its nn,slots:=I }:=Á _ T;have u1:=F.sub_list_set;have u2:=F.sub_list_frozenset;have iw:(Ş "list"==Ş "dict")=false:=by decide
    have ul:(s.heap.push { cls:=.type "set",dict:=none,data:=.set #[] 0 (.fresh 0 0 (fc w)) }).IsList l its:=⟨_,H,rfl,nn,rfl⟩;unfold ű.«set.__init__» noKeywords Builtin.Frozenset.updateFrom;generalize G:pyIter=PI
    wp_walk
    subst G;refine ω ul ?_;refine À (wpAny_runValue ?_);have N:l<s.heap.objs.size:=Ë T;have D:A.in1.in1.in1.handled=none:=by simp[hh]
    have C:l≠(s.heap.push { cls:=.type "set",dict:=none,data:=.set #[] 0 (.fresh 0 0 (fc w)) }).objs.size:=by
     rw[ă];exact â (Ĥ N)
    have B:s.heap.objs.size∉[(s.heap.push { cls:=.type "set",dict:=none,data:=.set #[] 0 (.fresh 0 0 (fc w)) }).objs.size,l]:=by
     rw[ă];simp only[Õ,Ę,Ĉ,or_false,not_or];exact⟨â (Ŋ _),Ť N⟩
    have z:∀(i:Nat) (v:Å),its[i]?=some v->∃t,v=.int ((λi=>ns.getD i 0) i) t:=λi v y =>
     IntsAre.int_at hi i v (by rw[Ĳ];exact y)
    refine PJ (led:=fc w) ((Walks.list D _ l C its).toS) s.heap.objs.size
     B (λi=>ns.getD i 0) z hb (its.size-0) 0 _ (by omega) (Ċ _)
     ⟨⟨_,Í _ rfl,rfl,rfl⟩,(ul.push _)⟩ ?v0 ?vR
    case v0 =>
     have x:((s.heap.push { cls:=.type "set",dict:=none,data:=.set #[] 0 (.fresh 0 0 (fc w)) }).push { cls:=.type "list_iterator",data:=.fields #[.ref l,.int 0 0] }).get? s.heap.objs.size
       = some { cls:=.type "set",dict:=none,data:=.set #[] 0 (.fresh 0 0 (fc w)) }:=Á _ v
     exact⟨_,#[],0,_,x,⟨rfl,rfl,rfl⟩,rfl,λe u=>by simp at u,λk=>by simp[firstMet_zero],by unfold Z6;simp,by rfl,rfl,Oo _⟩
    case vR =>
     intro q Z W;obtain⟨h',p,n,m,j⟩:=q;have g:p=s.gens:=Z.gens;have f:n=s.drawn:=Z.drawn;have d:j=s.os:=Z.os;subst g;subst f;subst d;show Û _ _ _ _ _ _;refine Ã ?_;show Û _ _ (ret Value.none) _ _ _;refine Ã ⟨rfl,h',m,rfl,W,λb o hb e=>?_⟩;have v1:b≠s.heap.objs.size:=â hb;have v2:b≠(s.heap.push { cls:=.type "set",dict:=none,data:=.set #[] 0 (.fresh 0 0 (fc w)) }).objs.size:=by
      rw[ă];exact â (Ĥ hb)
     exact Z.heap b o (by simp only[Õ,Ę,Ĉ,or_false,not_or];exact⟨v1,v2⟩) (Á _ (Á _ e))
   ·cases K with
    |error e=>exact X
    |ok a =>
     cases a with
     |ret r =>
      obtain⟨rfl,h',tk,rfl,W,vk⟩:=X
      repeat (any_goals (first|assumption|wp_step))
      exact h _ _ W vk
     |_=>exact X.elim
  |_=>exact Y.elim
end
theorem zc {α:Type}:∀{l:List α} {i:Nat} {x:α},l[i]?=some x->(x::l.eraseIdx i).Perm l
 | [],i,x,h=>by simp at h
 |y::l,0,x,h=>by
  have:y=x:=by simpa using h
  subst this;exact List.Perm.refl _
 |y::l,i+1,x,h=>by
  have ih:=zc (l:=l) (i:=i) (x:=x) (by simpa using h);rw[List.eraseIdx_cons_succ];exact(List.Perm.swap y x _).trans (List.Perm.cons y ih)
theorem Ho {α:Type} (next:Nat->Nat):∀(fuel k:Nat) (left:List α) (out:Array α),left.length=fuel->(pickOrder.go next fuel k left out).toList.Perm (out.toList++left)
 |0,k,left,out,h=>by
  have:left=[]:=aaA.mp h;subst this;unfold pickOrder.go;simp
 |fuel+1,k,left,out,h=>by
  unfold pickOrder.go
  have Z:next k % left.length<left.length:=Nat.mod_lt _ (by omega)
  rw[Ð Z];dsimp only;have Y:=zc (Ð Z)
  have ih:=Ho next fuel (k+1) (left.eraseIdx (next k % left.length)) (out.push left[next k % left.length]) (by rw[List.length_eraseIdx_of_lt Z];omega)
  refine ih.trans ?_;rw[aaO,Ů];exact List.Perm.append_left _ Y
def FW {α:Type} (next:Nat->Nat) (xs:Array α):(Ž next xs).toList.Perm xs.toList:=by
 unfold Ž
 have:=Ho next xs.size 0 xs.toList #[] (by simp)
 simpa using this
section
variable {P:ã} {w:Ă} {A:ê} {E:Å->Ä->Prop}
def NA {α:Type} (n:Nat):∀(xs:List α) (s:Ä) (Q:List α->Ä->Prop),xs.length=n->(∀ys d,ys.Perm xs->Q ys { s with drawn:=d })->Û (ä P w) A (drawOrder n xs) Q E s:=by
 induction n with
 |zero =>
  intro xs s Q h Z;have:xs=[]:=aaA.mp h;subst this;unfold drawOrder;exact Ã (Z [] s.drawn (List.Perm.refl _))
 |succ n ih =>
  intro xs s Q h Z
  cases xs with
  |nil=>simp at h
  |cons x xs =>
   unfold drawOrder;refine À (Nx (by simp) ?_);have Y:w.draws .order (s.drawn.get .order) % (x::xs).length<(x::xs).length:=Nat.mod_lt _ (by simp);rw[Ð Y];dsimp only;refine À (ih _ _ _ (by rw[List.length_eraseIdx_of_lt Y];omega) λys d X=>?_);refine Ã (Z _ d ?_);exact(List.Perm.cons _ X).trans (zc (Ð Y))
def PK {s:Ä} {a:Ø} {u:Obj} {es:Array (Int×Å)} {ep:Nat} {t:SetTable} {Q:Å->Ä->Prop} (hu:s.heap.get? a=some u) (hx:u.ExactSet) (hd:u.data=.set es ep t) (hf:t.fits es.size=true) (ht:iG (fc w) t)
  (hsz:es.size<=Ú)
  (hQ:∀(h':ĥ) (d':Drawn) (I:Ø) (fp:List Ø) (St:Nat->Ä->Prop) (order:List Å),(∀b o,s.heap.get? b=some o->h'.get? b=some o)->(∀b∈fp,b<h'.objs.size)->(∀b∈fp,b=a\/s.heap.objs.size<=b)->I∈fp->s.heap.objs.size<=I->order.Perm (es.toList.map (·.2)) ->
   (∀A':ê,A'.handled=none->WalksS P w A' I fp [I] (λa b=>b=a) es.size (λi v=>order[i]?=some v) St)->St 0 { s with heap:=h',drawn:=d' }->Q (.ref I) { s with heap:=h',drawn:=d' }) :
  Û (ä P w) A (pyIter (.ref a)) Q E s:=by
 have O:s.TypeIs (.ref a) "set":=⟨u,hu,hx.1⟩;have X:a<s.heap.objs.size:=Ë hu;refine wpAny_pyIter_slot O F.slot_set_iter (ć F.slot_set_iter O Mf ?_ (F.args_set_iter_1 _));unfold ű.«frozenset.__iter__» Builtin.Frozenset.slot0 slotArgs;simp only[aab,ô,Â,↓reduceIte,bind_assoc,ē,Ē];unfold Builtin.Frozenset.addrOf Builtin.Frozenset.sizeOf;refine À (Ã ?_)
 try dsimp only
 refine À (Ã ?_);refine À (À (Ź hu hd hf (Ã ?_)));unfold setDrawn;refine À (À (ų hu hd hf ?_));dsimp only;unfold setsByText;refine À (À (Ţ (Ã ?_)));refine Ã ?_
 show Û _ _ (if (!(w.params.followText "set-order")&&(!t.plain&&decide (es.size > 1)))=true then _ else _) _ _ _
 have H:∀(W:Obj) b o,s.heap.get? b=some o->(s.heap.push W).get? b=some o:=λW b o e=>Á _ e;by_cases V:(!w.params.followText "set-order"&&(!t.plain&&decide (es.size > 1)))=true
 ·rw[ß V]
  refine À (NA _ _ _ _ (by simp) λU d hp=>?_);refine À ?_;simp only[newTuple];refine þ ?_ (by have:=hp.length_eq;rw[Ŵ] at this;show (aaZ _).size<=Ú;rw[Ù,É,this];exact hsz);have M:∀x∈U,x<es.size:=λx hx=>by simpa using hp.mem_iff.mp hx
  have R:U.length=es.size:=by simpa using hp.length_eq
  refine À (wpAny_setEpoch_of (Á _ hu) hd hf ?_);refine À (þ ?_);refine Ã ⟨_,rfl,"set_iterator",_,⟨_,Í _ rfl,rfl⟩,jJ.lookup,?_⟩;have Y:(s.heap.push { cls:=.type "tuple",data:=.seq (U.map λ(i:Nat)=>ZX i).toArray }).objs.size=s.heap.objs.size+1:=by simp[ă]
  refine hQ _ d _ [_,a,s.heap.objs.size] _ (U.map λk=>(es.getD k (0,Value.none)).2) (λb o e=>Á _ (Á _ e)) ?_ ?_ (by simp) (by rw[Y];exact aaf _) ?_ (λA' T=>MQ (u:=u) (t:=t) (ep:=ep) T (I:=_) (a:=a) (tp:=s.heap.objs.size) (by rw[Y];exact â (Ĥ X)) (by rw[Y];exact â (Ŋ _)) hd hf U R M) ⟨⟨_,Í _ rfl,rfl,rfl⟩,Á _ (Á _ hu),⟨_,Á _ (Í _ rfl),rfl,_,rfl⟩⟩
  ·intro b Z
   simp only[Õ,Ĉ,or_false] at Z;rw[ă]
   rcases Z with e|e|e
   ·rw[e];exact Ŋ _
   ·rw[e,Y];exact Ĥ (Ĥ X)
   ·rw[e,Y];exact Ĥ (Ŋ _)
  ·intro b Z
   simp only[Õ,Ĉ,or_false] at Z
   rcases Z with e|e|e
   ·right;rw[e,Y];exact aaf _
   ·exact .inl e
   ·right;rw[e];exact abG _
  ·refine(List.Perm.map _ hp).trans ?_
   have:(č es.size).map (λk=>(es.getD k (0,Value.none)).2)=es.toList.map (·.2):=by
    apply Ų;intro i;rw[î,î];by_cases hi:i<es.size
    ·rw[aah hi,Ĳ]
     simp[abw,hi]
    ·rw[ĳ (by simpa using hi),ĳ (by simpa using hi)]
     rfl
   rw[this]
 ·rw[è V]
  refine À (Ã ?_);refine À (wpAny_setEpoch_of hu hd hf ?_);refine À (þ ?_);refine Ã ⟨_,rfl,"set_iterator",_,⟨_,Í _ rfl,rfl⟩,jJ.lookup,?_⟩;have ao:∀(W:Obj),∀b∈[s.heap.objs.size,a],b<(s.heap.push W).objs.size:=λW b Z=>by
   simp only[Õ,Ĉ,or_false] at Z;rw[ă]
   rcases Z with e|e
   ·rw[e];exact Ŋ _
   ·rw[e];exact Ĥ X
  have N:∀b∈[s.heap.objs.size,a],b=a\/s.heap.objs.size<=b:=λb Z=>by
   simp only[Õ,Ĉ,or_false] at Z
   rcases Z with e|e
   ·right;rw[e];exact abG _
   ·exact .inl e
  cases S:w.params.followText "set-order" with
  |true =>
   have L:(Ž (w.params.setOrder a ep) es).size=es.size:=by
    have:=(FW (w.params.setOrder a ep) es).length_eq;simpa using this
   have hw:∀A':ê,A'.handled=none->WalksS P w A' s.heap.objs.size [s.heap.objs.size,a] [s.heap.objs.size] (λa b=>b=a) es.size (λi v=>((Ž (w.params.setOrder a ep) es).toList.map (·.2))[i]?=some v) _:=λA' T=>by
    have:=Ny (P:=P) (u:=u) (t:=t) T (I:=s.heap.objs.size) (a:=a) (â X) S hd hf L;simpa using this
   exact hQ _ s.drawn _ [_,a] _ ((Ž (w.params.setOrder a ep) es).toList.map (·.2)) (λb o e=>Á _ e) (ao _) N (by simp) (abG _) (List.Perm.map _ (FW _ _)) hw ⟨⟨_,Í _ rfl,rfl,rfl⟩,Á _ hu⟩
  |false =>
   have hp:t.plain=true\/es.size<=1:=by
    rw[S] at V;simp at V
    cases K:t.plain with
    |true=>exact .inl rfl
    |false=>exact .inr (V K)
   have R:t.led=true:=by rw[ht.led];unfold fc;rw[S];rfl
   have J:j9 t.place.toList:=by
    rcases hp with hp|hp
    ·exact ht.rise hp
    ·simp only[SetTable.fits,Æ,beq_iff_eq,Ì] at hf
     have hle:t.place.toList.length<=1:=by simp[hf.1];exact hp
     match t.place.toList,hle with
     | [],_=>exact List.Pairwise.nil
     | [x],_=>exact List.pairwise_singleton _ _
   have hw:∀A':ê,A'.handled=none->WalksS P w A' s.heap.objs.size [s.heap.objs.size,a] [s.heap.objs.size] (λa b=>b=a) es.size (λi v=>(es.toList.map (·.2))[i]?=some v) _:=λA' T=>by
    have:=MP (P:=P) (u:=u) (t:=t) (ep:=ep) T (I:=s.heap.objs.size) (a:=a) (â X) S hd hf R hp J;simpa using this
   exact hQ _ s.drawn _ [_,a] _ (es.toList.map (·.2)) (λb o e=>Á _ e) (ao _) N (by simp) (abG _) (List.Perm.refl _) hw ⟨0,⟨_,Í _ rfl,rfl,rfl⟩,Á _ hu,Ċ _,λk G=>by omega,λk _ _=>Ċ _⟩
end
section
variable {P:ã} {w:Ă} {A:ê} {E:Å->Ä->Prop} {s:Ä}
def split_len:splitId "set.__len__"=some ("set","__len__"):=by decide +kernel
def ints_of (h:ElemsOf (ś P w) es) (hp:vs.Perm (es.map (·.2))):∃ns,aaJ vs ns:=by
 have Z:∀v∈vs,∃k t,v=.int k t:=λv Z=>by
  obtain⟨e,W,rfl⟩:=Ĕ.mp (hp.mem_iff.mp Z);obtain⟨⟨k,X,_⟩,_⟩:=h e W
  cases Y:e.2 with
  |int i t=>exact⟨i,t,rfl⟩
  |_=>rw[Y] at X;simp[ś,Value.isInt] at X
 clear hp
 induction vs with
 |nil=>exact⟨[],.nil⟩
 |cons v vs ih =>
  obtain⟨k,t,rfl⟩:=Z v Ô;obtain⟨ns,V⟩:=ih λx Y=>Z x (Ó _ Y);exact⟨k::ns,.cons k t V⟩
def Ik {α:Type} {c:Bool} {x y:Sem α} {Q:α->Ä->Prop} (hc:c=true) (h:Û (ä P w) A x Q E s):Û (ä P w) A (if c=true then x else y) Q E s:=by
 rw[ß hc];exact h
def MR {a:Ø} {u:Obj} {es:Array (Int×Å)} {ep:Nat} {t:SetTable} {Q:List Å->Ä->Prop} (hh:A.handled=none) (hu:s.heap.get? a=some u) (hx:u.ExactSet) (hd:u.data=.set es ep t) (hf:t.fits es.size=true) (ht:iG (fc w) t) (hsz:es.size<Z6)
  (hQ:∀(h':ĥ) (d':Drawn) (tk:Nat) (vs:List Å),s.heap.objs.size<=h'.objs.size->(∀b o,s.heap.get? b=some o->h'.get? b=some o)->vs.Perm (es.toList.map (·.2))->Q vs { s with heap:=h',drawn:=d',toks:=tk }):Û (ä P w) A (collect (.ref a)) Q E s:=by
 have O:es.size<=Ú:=ZV hsz;have N:a<s.heap.objs.size:=Ë hu;unfold collect;refine À (wpAny_runValue (Ń F.entry_proto_collect ?_));rw[ū F.plain_proto_collect _];show Û _ A.in1 (newList [] >>= λl=>again (.builtin "list.__iadd__" ⟨[l,.ref a],[]⟩)) _ _ s;refine À (þ ?_);refine Ã ⟨plainId_quiet F.plain_list_iadd _,Ń F.entry_list_iadd ?_⟩;rw[ū F.plain_list_iadd _];show Û _ A.in1 (Ř (.ref s.heap.objs.size) (.ref a) (.ref s.heap.objs.size)) _ _ _
 generalize U:({ s with heap:=s.heap.push { cls:=.type "list",data:=.seq ([]:List Å).toArray } }:Ä)=Y
 have M:Y.heap.objs.size=s.heap.objs.size+1:=by rw[<- U];simp[ă]
 have r:∀b o,s.heap.get? b=some o->Y.heap.get? b=some o:=λb o e=>by rw[<- U];exact Á _ e
 have T:Y.heap.get? a=some u:=by rw[<- U];exact Á _ hu
 have p:Y.TypeIs (.ref a) "set":=⟨u,T,hx.1⟩;have n:Y.heap.get? s.heap.objs.size=some { cls:=.type "list",data:=.seq ([]:List Å).toArray }:=by rw[<- U];exact Í _ rfl
 unfold Ř;refine À (aam p ?_);have k:Builtin.List.listSameRef (.ref s.heap.objs.size) (.ref a)=false:=by
  simp[Builtin.List.listSameRef];exact Ť N
 have i:(Ş "set"==Ş "list")=false:=by decide
 have h:(Ş "set"==Ş "tuple")=false:=by decide
 simp only[k,i,h,Bool.or_false,Â,é];refine À (PK T hx hd hf ht O λh' d' I g St order S k2 f k3 L K W d=>?_)
 have R:Shared.TypeIs { Y with heap:=h',drawn:=d' } (.ref a) "set":=⟨u,S _ _ T,hx.1⟩
 have J:=S _ _ n;refine À (ĝ ?_);unfold Builtin.List.listLengthHint;refine À (abj R F.slot_set_len.lookup ?_);dsimp only;rw[split_len];dsimp only;refine À (aa5 R sub_set_self ?_);rw[è (by decide)];refine Ik (by decide +kernel) ?_;refine À (aam R ?_);dsimp only;refine Ã ?_;refine Ik (by decide +kernel) ?_
 ··refine À (ş ?_)
   refine À ?_;show Û _ A.in1 (updateSeq s.heap.objs.size (·.push .none) >>= λ_=>updateSeq s.heap.objs.size (·.pop)) _ _ _;refine À (wpAny_updateSeq J rfl ?_);have H:=ě (Œ (·.push Value.none)) J rfl;refine wpAny_updateSeq H rfl ?_;have XO:=ě (Œ (·.pop)) H rfl;have G:s.heap.objs.size∉g:=λhm=>by
    rcases f _ hm with e|e
    ·exact Ť N e
    ·rw[M] at e;exact Nat.not_succ_le_self _ e
   have D:∀b o,b≠s.heap.objs.size->h'.get? b=some o->((h'.update s.heap.objs.size (Œ (·.push Value.none))).update s.heap.objs.size (Œ (·.pop))).get? b=some o :=
    λb o X e=>(ζ _ _ (Ŭ X)).trans ((ζ _ _ (Ŭ X)).trans e)
   refine Ã ⟨plainId_quiet F.plain_extend_loop _,codeAny_extend_loopS (W A.in1 (by simp[hh])) O _ G _ es.size 0 _ _ _ rfl (Ċ _) ((W A.in1 (by simp[hh])).frame 0 ({ Y with heap:=h',drawn:=d' }:Ä) _ Y.toks d (abG _) λb X o e=>D b o (λz=>G (z ▸ X)) e) XO (ItemsOf.nil _) λC Z c m B y=>?_⟩
   show Û _ A (load s.heap.objs.size >>= _) _ _ C;refine À (wpAny_load B ?_);refine Ã ?_;have XQ:order.length=es.size:=by simpa using K.length_eq
   have WQ:Z.toList=order:=by
    apply Ų;intro j;by_cases x:j<Z.size
    ·have e1:Z[j]?=some Z[j]:=by simp[x]
     rw[Ĳ,e1,y.2 j _ e1]
    ·rw[ĳ (by simpa using x),ĳ (by rw[XQ,<- y.1];omega)]
   obtain⟨h2,g2,v,t2,o2⟩:=C;have eg:g2=Y.gens:=m.gens;have ed:v=d':=m.drawn;have eo:o2=Y.os:=m.os;subst eg ed eo;have q:=hQ h2 v t2 Z.toList (Nat.le_of_lt (Ë B)) (λb o e=>m.heap b o (λX=>by
    simp only[Õ,Ĉ,or_false] at X;have V:=Ë e
    rcases X with z|z
    ·rw[z] at V;exact ï _ V
    ·rw[M] at L;rw[z] at V;exact ï _ (È V (Nat.le_of_succ_le L))) (D b o (λz=>by
     have V:=Ë e;rw[z] at V;exact ï _ V) (S b o (r b o e)))) (by rw[WQ];exact K)
   rw[<- U];exact q
end
section
variable {P:ã} {w:Ă} {A:ê} {E:Å->Ä->Prop} {s:Ä}
def NB (hh:A.handled=none) (hu:s.heap.get? a=some u) (hx:u.ExactSet) (hd:u.data=.set es ep t) (hf:t.fits es.size=true) (ht:iG (fc w) t) (C4:ElemsOf (ś P w) es.toList) (ZI:es.size<64)
 (h:∀(h':ĥ) (d':Drawn) (tk:Nat) (p:Ø) (vs:List Å) (ns:List Int) (out:List Å) (ms:List Int) (e:Nat),(∀b o,s.heap.get? b=some o->h'.get? b=some o)->s.heap.objs.size<=p->vs.Perm (es.toList.map (·.2))->aaJ vs ns->h'.get? p=some { cls:=.type "list",data:=.seq out.toArray e }->aaJ out ms->ms.Perm ns->ms.Pairwise (·<=·)->Q (.ref p) { s with heap:=h',drawn:=d',toks:=tk }) :
  Û (ä P w) A (call (.builtin "sorted") [.ref a]) Q E s:=by
 refine Calls.call_function_entry kind_sorted plain_sorted entry_sorted (args_sorted1 _) ?_;unfold ű.«sorted»;refine À (m:=checkCount "sorted" 1 1 _) (Ã ?_);refine À (MR (by simp[hh]) hu hx hd hf ht (by unfold Z6;omega) λh' d' tk vs U T Z=>?_);obtain⟨ns,X⟩:=ints_of C4 Z;have S:vs.length<64:=by have:=Z.length_eq;simp at this;omega
 refine À (wpAny_newList ?_);have Y:(h'.push (aaH "list" vs.toArray 0)).get? h'.objs.size=some (aaH "list" vs.toArray 0):=Í _ rfl;refine À (ĝ (ć slot_list_sort ⟨_,Y,rfl⟩ entry_list_sort (list_sort_tree Y X S λout ms a1 a2 R=>⟨_,rfl,?_⟩) (args_list_sort _)));obtain⟨e,O⟩:=sortedHeap_at (out:=out) Y;refine Ã ⟨_,rfl,h _ d' tk h'.objs.size vs ns out.toList ms e (λb o N=>?_) ?_ Z X (by simpa [aaH] using O) a1 a2 R⟩
 ·have W:=T b o N
  have V:=Ë W;rw[sortedHeap_old (â V) (by rw[size_push'];exact Ĥ V)];exact Á _ W
 ·exact U
end
end TS
namespace L2
open PySem PySem.Spec PyProof.Rows
def lj (P:ã) (w:Ă) (p:Ø) (ns:List Int):ĥ->Prop:=λh=>∃(S:Int->Bool) (n:Nat),TS.gu P w (TS.fc w) h p S n/\(∀k,S k=true↔k∈ns)/\n<=ns.length/\n=(ns.foldl step_dedup []).length
section
variable {X:Cx}
def sG (l:List Int) (k:Int):(l.any (·==k))=true↔k∈l:=by
 rw[š];exact⟨λ⟨x,Z,Y⟩=>by rw[<- beq_iff_eq.mp Y];exact Z,λh=>⟨k,h,by simp⟩⟩
def Rn (hm:m=ns.length) (hS:TS.gu X.prog X.w (TS.fc X.w) h p (λk'=>(Ō (λi=>ns.getD i 0) m).any (·==k')) (Ō (λi=>ns.getD i 0) m).length):lj X.prog X.w p ns h:=by
 subst hm;refine⟨_,_,hS,λk=>?_,firstMet_length_le _ _,?_⟩
 ·rw[firstMet_any,map_getD]
  exact sG ns k
 ·unfold Ō
  rw[map_getD]
def Ro (hx:lj X.prog X.w p ns h):dB X.prog X.w (upd H p (.ext (lj X.prog X.w p ns))) h p (.ext (lj X.prog X.w p ns)):=by
 refine⟨hx,?_,λY W q k=>?_⟩
 ·obtain⟨_,_,⟨o,_,_,_,Z,_⟩,_⟩:=hx
  exact⟨o,Z⟩
 ·obtain⟨S,n,T,r⟩:=q
  exact⟨S,n,T.at k,r⟩
def NC (hc:X.calm=true):cS X (.type "set") (λxs H Q=>∃(a:Ø) (ns:List Int),xs=[.ref a]/\bw X.K H a (ns.map V.int)/\(ns.foldl step_dedup []).length<4000/\∀p,H p=none->Q (.ref p) (upd H p (.ext (lj X.prog X.w p ns)))):=by
 intro P s σ H xs O Q I r h;obtain⟨a,ns,rfl,W,N,q⟩:=h;obtain⟨u,rfl,U⟩:=vals1 r;cases U;obtain⟨its,Z,p,_⟩:=I.list W;have Y:its.toArray.size=ns.length:=by
  have e:=Z.length;rw[É] at e;simpa using e.symm
 refine TS.Nz (its:=its.toArray) (ns:=ns) (I.ok.hd hc) p.isList (by simpa using intsAre_of Z) (by rw[Y];unfold Ō;rw[map_getD];show _ + 1<4096;omega) λM T S R=>?_;exact⟨.ref _,_,I.laid (t':=T) (λb o e=>R b o (Ë e) e) (abG _) (Ro (Rn Y S)),rfl,q _ (I.aB.fresh (abG _))⟩
theorem EW:∀{out:List Å} {ms:List Int},aaJ out ms->Vals (ms.map V.int) out
 |_,_,.nil=>.nil
 |_,_,.cons n t h=>.cons ⟨t,rfl⟩ (EW h)
theorem yW:∀(ns acc:List Int),acc.Nodup->(ns.foldl step_dedup acc).Nodup
 | [],acc,h=>h
 |n::ns,acc,h=>by
  refine yW ns _ ?_;unfold step_dedup;split
  ·exact h
  ·rename_i Z
   rw[ż] at Z;refine ZW.mpr ⟨h,by simp,λa Y b X=>?_⟩;have:b=n:=by simpa using X
   subst this;intro e;subst e;rw[(sG acc a).mpr Y] at Z;cases Z
theorem Gq:∀{vs:List Å} {ns:List Int},aaJ vs ns->∀k,k∈ns↔∃t,abc k t∈vs
 |_,_,.nil,k=>by simp
 |_,_,.cons n t h,k=>by
  rw[Õ,Gq h k];constructor
  ·rintro (e | ⟨Z,h'⟩)
   ·subst e;exact⟨t,Ô⟩
   ·exact⟨Z,Ó _ h'⟩
  ·rintro ⟨Z,h'⟩
   rcases Õ.mp h' with e|h'
   ·injection e with e _;exact .inl e
   ·exact .inr ⟨Z,h'⟩
theorem sub_len:∀{m l:List Int},m.Nodup->(∀k,k∈m->k∈l)->m.length<=l.length
 | [],l,_,_=>Ċ _
 |x::m,l,h,Z=>by
  obtain⟨W,V⟩:=ξ.mp h;have Y:=Z x Ô;have ih:=sub_len (m:=m) (l:=l.erase x) V λk X=>(List.mem_erase_of_ne (λ(e:k=x)=>W (by rw[<- e];exact X))).mpr (Z k (Ó _ X));rw[List.length_erase_of_mem Y] at ih;have:=List.length_pos_of_mem Y;rw[ñ];omega
theorem EX:∀{l m:List Int},m.Nodup->(∀k,k∈m↔k∈l)->l.length<=m.length->l.Nodup
 | [],m,_,_,_=>List.nodup_nil
 |a::r,m,Z,Y,X=>by
  have W:a∉r:=λh=>by
   have:=sub_len Z λk V=>(Õ.mp ((Y k).mp V)).elim (λe=>e ▸ h) id;rw[ñ] at X;omega
  have U:a∈m:=(Y a).mpr Ô;refine ξ.mpr ⟨W,EX (m:=m.erase a) (Z.erase a) (λk=>?_) ?_⟩
  ·rw[Z.mem_erase_iff,Y k,Õ]
   constructor
   ·rintro ⟨T,h2|h2⟩
    ·exact absurd h2 T
    ·exact h2
   ·intro h
    exact⟨λe=>W (e ▸ h),.inr h⟩
  ·rw[List.length_erase_of_mem U]
   rw[ñ] at X;omega
def FX (ns:List Int) (k:Int):k∈ns.foldl step_dedup []↔k∈ns:=by
 have:=firstMet_any (λi=>ns.getD i 0) ns.length k;unfold Ō at this;rw[map_getD] at this;rw[<- sG,<- sG,this]
def My (hc:X.calm=true):cS X (.builtin "sorted") (λxs H Q=>∃(p:Ø) (ns:List Int),xs=[.ref p]/\H p=some (.ext (lj X.prog X.w p ns))/\(ns.foldl step_dedup []).length<64 /\
  ∀(l:Ø) (ms:List Int),H l=none->ms.Pairwise (· < ·)->(∀k,k∈ms↔k∈ns)->Q (.ref l) (upd H l (.lst (ms.map V.int)))):=by
 intro π s σ H xs us Q I r h;obtain⟨p,ns,rfl,K,hl,q⟩:=h;obtain⟨v,rfl,G⟩:=vals1 r;cases G;obtain⟨⟨S,n,⟨u,es,ep,t,F,E,hd,D,C,P,B,A,z⟩,y,C5,m⟩,_⟩:=I.aB p _ K;refine TS.NB (I.ok.hd hc) F E hd B z D (by omega) λj g O l vs ks out ms e f N Y W d c U k8=>?_;have M:∀k,k∈ms↔k∈ns:=λk=>by
  rw[U.mem_iff,Gq W k,<- y k,C k];constructor
  ·rintro ⟨t',C7⟩
   obtain⟨x,T,Z⟩:=Ĕ.mp (Y.mem_iff.mp C7);exact⟨x,T,by rw[Z];exact intKind_is _ _ _ _⟩
  ·rintro ⟨x,T,Z⟩
   obtain⟨i,t',L⟩:∃i t',x.2=.int i t':=by
    cases hv:x.2 with
    |int i t'=>exact⟨i,t',rfl⟩
    |_=>rw[hv] at Z;simp[ś,Value.isInt] at Z
   have pQ:k=i:=(ś X.prog X.w).inj (.int i t') k i (by rw[<- L];exact Z) (intKind_is _ _ _ _);subst pQ;exact⟨t',Y.mem_iff.mpr (Ĕ.mpr ⟨x,T,L⟩)⟩
 have WS:ms.Nodup:=by
  have Lc:=yW ns [] List.nodup_nil;refine EX Lc (λk=>?_) ?_
  ·rw[M k,FX]
  ·rw[<- m,<- A]
   have e1:=U.length_eq;have e2:=W.length;have R:=Y.length_eq;simp at R;omega
 have bo:ms.Pairwise (· < ·):=by
  have:=List.pairwise_and_iff.mpr ⟨k8,WS⟩;exact this.imp λ⟨a,b⟩=>by omega
 have J:=I.laid (t':=O) (a:=l) (o:=.lst (ms.map V.int)) f N ⟨by
  rw[É,ν];have e1:=U.length_eq;have e2:=W.length;have R:=Y.length_eq;simp at R;omega,out,e,EW c,d⟩
 exact⟨.ref l,_,J.tu (s':={ s with heap:=j,drawn:=g,toks:=O }) (ch:=[]) rfl Un.refl J.aB J.bare (λb P=>by cases P),rfl,q l ms (I.aB.fresh N) bo M⟩
end
section
variable {X:Cx}
end
mutual
noncomputable def yt:aao->Bool
 | .tuple Z=>xO Z
 | .list _=>false
 |_=>true
noncomputable def xO:List aao->Bool
 | []=>true
 |d::Z=>yt d&&xO Z
end
section
variable {X:Cx} {π:List (Ø×Obj)} {σ:St} {H:Hp} {s:Ä} {Z:Ø->Prop}
mutual
theorem DV.sR (I:Inv X π σ H s):∀{d:aao} {v:V} {u:Å},DV X.K Z H d v->RelV v u->yt d=true->∃as,Reads s.heap u d as/\aba∉as
 | .none,v,u,h,r,_=>by
  have e:v=.ar:=h;subst e;cases r;exact⟨[],.none,by simp⟩
 | .bool b,v,u,h,r,_=>by
  have e:v=.bl b:=h;subst e;cases r;exact⟨[],.bool b,by simp⟩
 | .int i,v,u,h,r,_=>by
  have e:v=.int i:=h;subst e;obtain⟨t,rfl⟩:=r;exact⟨[],.int i t,by simp⟩
 | .str x,v,u,h,r,_=>by
  have e:v=.str x:=h;subst e;obtain⟨t,rfl⟩:=r;exact⟨[],.str x t,by simp⟩
 | .tuple U,v,u,h,r,Y=>by
  simp only[DV] at h;obtain⟨a,G,e,W,T⟩:=h;subst e;cases r;obtain⟨its,S,⟨o,e,c,n,R⟩,_⟩:=I.tuple W;obtain⟨as,Q,hs⟩:=aq.sR I T S (by simpa only [yt] using Y);exact⟨as,.tuple e c R (by simpa using Q),hs⟩
 | .list U,v,u,h,r,Y=>by
  simp only[yt] at Y;cases Y
 | .dict F,v,u,h,r,_=>by
  simp only[DV] at h;obtain⟨a,E,e,_,W,l,e1,e2⟩:=h;subst e e1 e2;cases r;obtain⟨_,P,D,O,o,C,B,g1,g2,g3,_,N,_⟩:=(show dB X.prog X.w H s.heap a (.dK _) from I.aB a _ W);obtain⟨M,L⟩:=yV (h:=s.heap) O N;refine⟨a::[]++[],.dict g1 g2.1 g3 M L,λJ=>?_⟩;have e:aba=a:=by simpa using J
  subst e;simp at P
theorem aq.sR (I:Inv X π σ H s):∀{ds:List aao} {vs:List V} {us:List Å},aq X.K Z H ds vs->Vals vs us->xO ds=true->∃as,ReadsAll s.heap us ds as/\aba∉as
 | [],vs,us,h,r,_=>by
  have e:vs=[]:=h;subst e;cases r;exact⟨[],.nil,by simp⟩
 |d::ds,vs,us,h,r,Y=>by
  obtain⟨v,O,e,W,U⟩:=h;subst e;simp only[xO,Æ] at Y
  cases r with
  |cons T S =>
   obtain⟨as,a1,R⟩:=DV.sR I W T Y.1;obtain⟨bs,a2,Q⟩:=aq.sR I U S Y.2;refine⟨as++bs,.cons a1 a2,λP=>?_⟩
   rcases Ą.mp P with z|z
   ·exact R z
   ·exact Q z
end
end
section
variable {X:Cx}
end
end L2
namespace HZ
open PySem PySem.Spec PyProof.Rows
open AutoSeq1 (wpAny_loadPart')
section
variable {P:ã} {w:Ă} {A:ê} {E:Å->Ä->Prop} {s:Ä}
end
end HZ
namespace L2
open PySem PySem.Spec PyProof.Rows
section
variable {X:Cx} {elts:List ġ} {kk:Nat} {tp:Pos}
end
section
variable {K:Ď} {caps:St} {H:Hp} {tf:TT} {te:TE} {Q:VK}
end
end L2
namespace HZ
open PySem PySem.Spec PyProof.Rows
def L4:fillsNumberSlot (.type "tuple") "mul"=pure false:=by
 first|rfl | (unfold fillsNumberSlot;kernel_rfl)|kernel_rfl
def Mz:seqRepeat? (.type "tuple")=pure (some (.builtin "tuple.__mul__")):=by
 first|rfl|kernel_rfl
def ND (a:Int) (t:Tok) (l:Ø) (items:Array Å) (n:Nat) (d:Option Ø) (sl:Array (Option Å)) :
  Meets (ű.«int.__rmul__» ⟨[.int a t,.ref l],[]⟩) (λ_ R s=>s.heap.get? l=some { cls:=.type "tuple",dict:=d,data:=.seq items n,slots:=sl }/\R (.ok (.ret Value.notImplemented)) s) :=
 .of_wp λprog w A R s h=>by
  obtain⟨Z,Y,X,W,V⟩:=s;obtain⟨U,h⟩:=h;wp_walk;exact⟨_,rfl,h⟩
section
variable {P:ã} {w:Ă} {A:ê} {E:Å->Ä->Prop} {s:Ä}
def Rp (ht:IsTup s.heap t vs.toArray) (hv:vs≠[]) (hk:1<=k) (hz:vs.length*k.toNat<=Ú)
 (h1:k=1->Q (.ref t) s) (h2:k≠1->Q (.ref s.heap.objs.size) { s with heap:=s.heap.push { cls:=.type "tuple",data:=.seq (Ñ k.toNat vs).flatten.toArray } }) :
  Û (ä P w) A (ĺ .Mult (.ref t) (.int k tk)) Q E s:=by
 obtain⟨⟨cls,V,data,S⟩,Z,Y,n,X⟩:=id ht;simp only at Y X;subst Y X;have K:k<=16777216:=by
  have R:1<=vs.length:=by
   cases vs with
   |nil=>exact absurd rfl hv
   |cons a r=>simp
  have J:vs.length*k.toNat<=16777216:=by rw[<- ν];exact hz
  have:1*k.toNat<=vs.length*k.toNat:=Nat.mul_le_mul_right _ R;omega
 refine wpAny_binaryOp_repeat_ref (T:="tuple") (U:="int") (by decide) ⟨_,Z,rfl⟩ (λO=>typeIs_int O k tk) L4 F.fills_int_mul abh Mz F.slot_int_index.lookup
  (abb abh (typeIs_int s k tk) F.entry_int_rmul (F.args_int_rmul_2 _ _) (ND k tk t vs.toArray n V S) ⟨Z,rfl,⟨_,Z,rfl⟩,?_⟩)
 refine ć F.slot_tuple_mul ⟨_,Z,rfl⟩ F.entry_tuple_mul ?_ (F.args_tuple_mul_2 _ _);show Û _ _ (asIndex (.int k tk) >>= _) _ _ _;refine À ?_
 refine wpAny_of_eq (a:=k) (by first|rfl | (unfold asIndex;rfl)) ?_
 dsimp only;rw[è (by simp;omega)];unfold Ŝ;refine À (À (Ī Z rfl ?_));refine Ã ?_;have ne:vs.toArray.isEmpty=false:=by
  cases vs with
  |nil=>exact absurd rfl hv
  |cons a r=>simp
 by_cases h:k=1
 ·rw[ß (by rw[h];simp)]
  unfold ZY;refine À (À (aam (T:="tuple") ⟨_,Z,rfl⟩ (Ã ?_)));rw[ß (by decide)];exact À (ş (Ã ⟨_,rfl,h1 h⟩))
 ·rw[è (by rw[ne];simp[h])]
  rw[è (by rw[ne];simp;omega)];have W:(vs.toArray.size:Int)*k=((vs.length*k.toNat:Nat):Int):=by
   rw[Ù,Int.natCast_mul];congr 1;omega
  have N:vs.length*k.toNat<=16777216:=by rw[<- ν];exact hz
  rw[è (by rw[W];omega)];rw[è (by
   unfold Builtin.Tuple.tupleTooMany;rw[W,ν,Ì];generalize vs.length*k.toNat=q at N;omega)]
  unfold ň;have e:List.foldl (λM L=>M++L) #[] (Ñ k.toNat vs.toArray)=(Ñ k.toNat vs).flatten.toArray:=by
   have:=L2.foldl_rep vs k.toNat [];rw[ĸ] at this;exact this
  rw[e];refine À (þ ?_ (by
   show (aaZ _).size<=Ú;rw[Ù,L2.len_rep,Nat.mul_comm];exact hz))
  exact Ã ⟨_,rfl,h2 h⟩
end
end HZ
namespace L2
open PySem PySem.Spec PyProof.Rows
section
variable {X:Cx}
def Vg (K:Ď):R2:=λx y H Q=>∃a Z k,x=.ref a/\y=.int k/\bC K H a Z/\Z≠[]/\1<=k/\Z.length*k.toNat<=Ú/\nD K H (Ñ k.toNat Z).flatten Q
def Rq:bG X (ĺ .Mult) (Vg X.K):=by
 intro P s σ H x y v u Q I V U h;obtain⟨a,Z,k,rfl,rfl,hs,T,S,W,q⟩:=h;cases V;obtain⟨t,rfl⟩:=U;obtain⟨its,r,p,z⟩:=I.tuple hs;have Y:=r.length;refine HZ.Rp p (λe=>T (by rw[e] at Y;exact aaA.mp Y)) S (by rw[<- Y];exact W) (λe=>?_) (λ_=>?_)
 ·have e1:(Ñ k.toNat Z).flatten=Z:=by rw[e];simp
  rw[e1] at q;exact⟨.ref a,H,I,rfl,q.here hs⟩
 ·have R:(Ñ k.toNat Z).flatten.length<=Ú:=by rw[len_rep,Nat.mul_comm];exact W
  exact⟨.ref _,_,I.laid (t':=s.toks) (o:=.tup (Ñ k.toNat Z).flatten) (λb o e=>Á _ e) (abG _) ⟨R,_,r.rep k.toNat,⟨_,Í _ rfl,rfl,_,rfl⟩⟩,rfl,q.new (I.aB.fresh (abG _))⟩
end
end L2
namespace HZ
open PySem PySem.Spec PyProof.Rows
section
variable {P:ã} {w:Ă} {A:ê} {E:Å->Ä->Prop} {s:Ä}
end
end HZ
namespace L2
open PySem PySem.Spec PyProof.Rows
section
variable {X:Cx} {tg:ġ}
end
end L2
namespace HZ
open PySem PySem.Spec PyProof.Rows
section
variable {P:ã} {w:Ă} {A:ê} {R:Result->Ä->Prop} {I:Ø} {fp wr:List Ø} {n:Nat} {Pv:Nat->Å->Prop} {St:Nat->ĥ->Prop} {kw:List (Str×Å)}
end
section
variable {P:ã} {w:Ă} {A:ê} {E:Å->Ä->Prop} {s:Ä}
end
end HZ
namespace L2
open PySem PySem.Spec PyProof.Rows
section
variable {X:Cx} {p pos kp:Pos} {e d:ġ} {ta tk:TA}
end
end L2
namespace DI
open PySem L2
set_option genInjectivity true in
inductive D where
 |ar|bl (b:Bool)|int (i:Int)|str (x:Str)|tup (ds:List D)|lst (ds:List D)|bQ (aF:List (Key×Int))|aj (k:Nat)|ty (n:String)|bO (ns:List Int)|exc (c:Str) (m:Option Int)|cD (a:Ø) (vs:List V) (ds:List D)
set_option genInjectivity true in
inductive Cell where
 |dead|lst (ds:List D)|dK (aF:List (Key×D))|dT (aF:List (D×Int))|tb (x:Str)|ins (c:Str) (fs:List (Str×D))
noncomputable abbrev aa:=List Cell
noncomputable abbrev Env:=List (Option D)
structure aR where
 c:Str
 many:Option Int
abbrev Res (α:Type):=Option (Except aR α×aa)
abbrev abC (α:Type):=Env->aa->Res α
abbrev ok {α:Type} (a:α) (s:aa):Res α:=some (.ok a,s)
def ao {α β:Type} (r:Res α) (k:α->aa->Res β):Res β:=match r with
 |some (.ok a,s)=>k a s
 |some (.error x,s)=>some (.error x,s)
 |none=>none
@[simp] theorem dG {α β:Type} {a:α} {s:aa} {k:α->aa->Res β}:ao (some (.ok a,s)) k=k a s:=rfl
structure Wd where
 ρ:List Ø
 ay:aa
 H:Hp
def Wd.Z (w:Wd) (a:Ø):Prop:=∃(k:Nat) (c:Cell),w.ρ[k]?=some a/\w.ay[k]?=some c/\c≠.dead
def LstAt (w:Wd) (a:Ø) (xs:List V):Prop:=¬ w.Z a/\w.H a=some (.lst xs)
def LstAt.sq (h:LstAt w a xs):bw K w.H a xs:=bw.of h.2
def tB (K:Ď) (w:Wd) (a:Ø) (xs:List V):Prop:=(¬ w.Z a/\Rd w.H a (.lst xs)) \/
 ∃(o:Obj) (its:Array Å) (n:Nat),K.lookup a=some o/\o.cls=.type "list"/\o.dict=none/\o.data=.seq its n/\its.size<=Ú/\Vals xs its.toList
def tB.sq (h:tB K w a xs):bw K w.H a xs:=by
 rcases h with ⟨_,h⟩|h
 ·exact .inl h
 ·exact .inr h
mutual
def DV (K:Ď) (w:Wd):D->V->Prop
 | .ar,v=>v=.ar
 | .bl b,v=>v=.bl b
 | .int i,v=>v=.int i
 | .str x,v=>v=.str x
 | .tup Y,v=>∃a X,v=.ref a/\bC K w.H a X/\aq K w Y X
 | .lst Y,v=>∃a X,v=.ref a/\LstAt w a X/\aq K w Y X
 | .bQ S,v=>∃a,v=.ref a/\¬ w.Z a/\w.H a=some (.dK (S.map λp=>(p.1,V.int p.2)))
 | .aj k,v=>∃a,w.ρ[k]?=some a/\v=.ref a
 | .ty n,v=>v=.ty n
 | .bO R,v=>∃a,v=.ref a/\tB K w a (R.map V.int)
 | .exc c m,v=>∃a o C,v=.ref a/\(¬ w.Z a/\w.H a=some (.aX o (.own a)))/\(o.cls=.ref C/\õ K Ò c=some (some (.ref C)))/\∀i,m=some i->PySem.W.notCls o=true/\∃U T t,o.dict=some U/\(¬ w.Z U/\w.H U=some (.aX T (.own U)))/\Z0 "many" T=some (some (.int i t))
 | .cD a Q Y,v=>v=.ref a/\aq K w Y Q
def aq (K:Ď) (w:Wd):List D->List V->Prop
 | [],Z=>Z=[]
 |d::Y,Z=>∃v r,Z=v::r/\DV K w d v/\aq K w Y r
end
structure Fw (K:Ď) (w w':Wd):Prop where
 C8:∀(k:Nat) a,w.ρ[k]?=some a->w'.ρ[k]?=some a
 tup:∀a xs,bC K w.H a xs->bC K w'.H a xs
 lst:∀a xs,¬ w.Z a->w.H a=some (.lst xs)->¬ w'.Z a/\w'.H a=some (.lst xs)
 aX:∀a o u,¬ w.Z a->w.H a=some (.aX o u)->¬ w'.Z a/\w'.H a=some (.aX o u)
 bQ:∀a es,¬ w.Z a->w.H a=some (.dK es)->¬ w'.Z a/\w'.H a=some (.dK es)
def Fw.Jp (S:Fw K w w') (h:LstAt w a xs):LstAt w' a xs:=S.lst a xs h.1 h.2
def Fw.Vh (S:Fw K w w') (h:tB K w a xs):tB K w' a xs:=by
 rcases h with ⟨Y,Z | ⟨o,Z⟩⟩|h
 ·have q:=S.lst a xs Y Z
  exact .inl ⟨q.1,.inl q.2⟩
 ·have q:=S.aX a o _ Y Z
  exact .inl ⟨q.1,.inr ⟨o,q.2⟩⟩
 ·exact .inr h
mutual
theorem DV.fw (S:Fw K w w'):∀{d:D} {v:V},DV K w d v->DV K w' d v
 | .ar,_,h=>h
 | .bl _,_,h=>h
 | .int _,_,h=>h
 | .str _,_,h=>h
 | .tup X,v,h=>by
  simp only[DV] at h |-;obtain⟨a,Y,e,Z,r⟩:=h;exact⟨a,Y,e,S.tup a Y Z,aq.fw S r⟩
 | .lst X,v,h=>by
  simp only[DV] at h |-;obtain⟨a,Y,e,Z,r⟩:=h;exact⟨a,Y,e,S.Jp Z,aq.fw S r⟩
 | .bQ L,v,h=>by
  simp only[DV] at h |-;obtain⟨a,e,R,Z⟩:=h;obtain⟨Q,P⟩:=S.bQ a _ R Z;exact⟨a,e,Q,P⟩
 | .aj k,v,h=>by
  simp only[DV] at h |-;obtain⟨a,e,e2⟩:=h;exact⟨a,S.C8 k a e,e2⟩
 | .ty _,_,h=>h
 | .bO J,v,h=>by
  simp only[DV] at h |-;obtain⟨a,e,Z⟩:=h;exact⟨a,e,S.Vh Z⟩
 | .exc c m,v,h=>by
  simp only[DV] at h |-;obtain⟨a,o,C,e,Z,r,k⟩:=h;refine⟨a,o,C,e,S.aX a o _ Z.1 Z.2,r,λi hi=>?_⟩;obtain⟨O,W,U,t,N,T,M⟩:=k i hi;exact⟨O,W,U,t,N,S.aX W U _ T.1 T.2,M⟩
 | .cD a I X,v,h=>by
  simp only[DV] at h |-;exact⟨h.1,aq.fw S h.2⟩
theorem aq.fw (S:Fw K w w'):∀{ds:List D} {vs:List V},aq K w ds vs->aq K w' ds vs
 | [],_,h=>h
 |d::ds,vs,h=>by
  simp only[aq] at h |-;obtain⟨v,r,e,Z,Y⟩:=h;exact⟨v,r,e,DV.fw S Z,aq.fw S Y⟩
end
structure Le (K:Ď) (w w':Wd):Prop where
 dv:∀d v,DV K w d v->DV K w' d v
 lst:∀a xs,LstAt w a xs->LstAt w' a xs
 tup:∀a xs,bC K w.H a xs->bC K w'.H a xs
 aX:∀a o u,¬ w.Z a->w.H a=some (.aX o u)->¬ w'.Z a/\w'.H a=some (.aX o u)
noncomputable instance {K:Ď} {w w':Wd}:CoeFun (Le K w w') (λ_=>∀d v,DV K w d v->DV K w' d v):=⟨Le.dv⟩
def Le.refl (w:Wd):Le K w w:=⟨λ_ _ h=>h,λ_ _ h=>h,λ_ _ h=>h,λ_ _ _ h g=>⟨h,g⟩⟩
def Le.trans (h:Le K a b) (g:Le K b c):Le K a c:=⟨λd v x=>g.dv d v (h.dv d v x),λp Z x=>g.lst p Z (h.lst p Z x),λp Z x=>g.tup p Z (h.tup p Z x),λp o u z x=>let q:=h.aX p o u z x;g.aX p o u q.1 q.2⟩
def Fw.le (S:Fw K w w'):Le K w w':=⟨λ_ _ h=>h.fw S,λ_ _ h=>S.Jp h,S.tup,S.aX⟩
theorem Le.all (h:Le K w w'):∀{ds:List D} {vs:List V},aq K w ds vs->aq K w' ds vs
 | [],_,x=>x
 |d::ds,vs,x=>by
  simp only[aq] at x |-;obtain⟨v,r,e,Z,Y⟩:=x;exact⟨v,r,e,h d v Z,Le.all h Y⟩
theorem aq.length:∀{ds:List D} {vs:List V},aq K w ds vs->ds.length=vs.length
 | [],vs,h=>by
  have e:vs=[]:=h;subst e;rfl
 |d::ds,vs,h=>by
  obtain⟨v,r,e,_,Z⟩:=h;subst e;simp[aq.length Z]
theorem aq.get:∀{ds:List D} {vs:List V},aq K w ds vs->∀(i:Nat) v,vs[i]?=some v->∃d,ds[i]?=some d/\DV K w d v
 | [],vs,h,i,v,e=>by
  have Z:vs=[]:=h;subst Z;simp at e
 |d::ds,vs,h,i,v,e=>by
  obtain⟨u,r,Z,Y,X⟩:=h;subst Z
  cases i with
  |zero =>
   have:u=v:=by simpa using e
   subst this;exact⟨d,rfl,Y⟩
  |succ i=>exact aq.get X i v (by simpa using e)
theorem aq.get':∀{ds:List D} {vs:List V},aq K w ds vs->∀(i:Nat) d,ds[i]?=some d->∃v,vs[i]?=some v/\DV K w d v
 | [],vs,h,i,d,e=>by simp at e
 |d::ds,vs,h,i,Z,e=>by
  obtain⟨u,r,Y,X,W⟩:=h;subst Y
  cases i with
  |zero =>
   have:d=Z:=by simpa using e
   subst this;exact⟨u,rfl,X⟩
  |succ i=>exact aq.get' W i Z (by simpa using e)
theorem aq.append:∀{ds es:List D} {vs ws:List V},aq K w ds vs->aq K w es ws->aq K w (ds++es) (vs++ws)
 | [],es,vs,ws,h,Z=>by
  have e:vs=[]:=h;subst e;exact Z
 |d::ds,es,vs,ws,h,Z=>by
  obtain⟨v,r,e,Y,X⟩:=h;subst e;exact⟨v,r++ws,rfl,Y,aq.append X Z⟩
theorem aq.take:∀{ds:List D} {vs:List V} (n:Nat),aq K w ds vs->aq K w (ds.take n) (vs.take n)
 | [],vs,n,h=>by
  have e:vs=[]:=h;subst e;simp[aq]
 |d::ds,vs,0,h=>by simp[aq]
 |d::ds,vs,n+1,h=>by
  obtain⟨v,r,e,Z,Y⟩:=h;subst e;exact⟨v,r.take n,rfl,Z,aq.take n Y⟩
theorem aq.drop:∀{ds:List D} {vs:List V} (n:Nat),aq K w ds vs->aq K w (ds.drop n) (vs.drop n)
 | [],vs,n,h=>by
  have e:vs=[]:=h;subst e;simp[aq]
 |d::ds,vs,0,h=>h
 |d::ds,vs,n+1,h=>by
  obtain⟨v,r,e,Y,Z⟩:=h;subst e;exact aq.drop n Z
theorem aq.reverse:∀{ds:List D} {vs:List V},aq K w ds vs->aq K w ds.reverse vs.reverse
 | [],vs,h=>by
  have e:vs=[]:=h;subst e;simp[aq]
 |d::ds,vs,h=>by
  obtain⟨v,r,e,Z,Y⟩:=h;subst e;rw[List.reverse_cons,List.reverse_cons];exact aq.append (aq.reverse Y) ⟨v,[],rfl,Z,rfl⟩
theorem aq.set (hd:DV K w d v):∀{ds:List D} {vs:List V} (i:Nat),aq K w ds vs->aq K w (ds.set i d) (vs.set i v)
 | [],vs,i,h=>by
  have e:vs=[]:=h;subst e;simp[aq]
 |d'::ds,vs,0,h=>by
  obtain⟨u,r,e,Y,Z⟩:=h;subst e;exact⟨v,r,rfl,hd,Z⟩
 |d'::ds,vs,i+1,h=>by
  obtain⟨u,r,e,Y,Z⟩:=h;subst e;exact⟨u,r.set i v,rfl,Y,aq.set hd i Z⟩
def aq.one (h:DV K w d v):aq K w [d] [v]:=⟨v,[],rfl,h,rfl⟩
def aq.two (h:DV K w d v) (h':DV K w d' v'):aq K w [d,d'] [v,v']:=⟨v,_,rfl,h,aq.one h'⟩
theorem aq.ints:∀(ns:List Int),aq K w (ns.map D.int) (ns.map V.int)
 | []=>rfl
 |n::ns=>⟨.int n,_,rfl,rfl,aq.ints ns⟩
theorem aq.Gr:∀{ns:List Int} {vs:List V},aq K w (ns.map D.int) vs->vs=ns.map V.int
 | [],_,h=>h
 |n::ns,vs,h=>by
  obtain⟨v,r,e,Z,Y⟩:=h;have e1:v=.int n:=Z;rw[e,e1,aq.Gr Y];rfl
theorem aq.sH:∀{bs:List Bool} {vs:List V},aq K w (bs.map D.bl) vs->vs=bs.map V.bl
 | [],_,h=>h
 |n::X,vs,h=>by
  obtain⟨v,r,e,Z,Y⟩:=h;have e1:v=.bl n:=Z;rw[e,e1,aq.sH Y];rfl
def DX (a:Ø) (es:List (Int×Ø)) (h:ĥ):Prop:=(a==aba)=false/\∃(o:Obj) (Z:Array DictEntry) (Y:Nat),h.get? a=some o/\o.ExactDict/\o.data=.dict Z Y/\Z.toList=es.map λp=>(⟨p.1,.ref p.2,.bool true⟩:DictEntry)
def Vi (w:Wd) (q:Str) (cv:Å):Prop:=∃Y X W t,cv=.ref Y/\(¬ w.Z Y/\w.H Y=some (.aX X (.own Y)))/\X.data=.fields W/\W[1]?=some (.str q t)
def WU (K:Ď) (w:Wd) (a:Ø) (x:Str):Prop:=∃c Z,aa8 K x=some (c,a)/\w.H a=some (.dD Z)/\PySem.TriplesOk Z.toList/\∀pos Y,PySem.codeAmong pos Z.toList=some Y->Vi w (x++".<locals>."++"<lambda>") Y
def qG (K:Ď) (w:Wd) (a:Ø):Cell->Prop
 | .dead=>True
 | .lst U=>∃W,w.H a=some (.lst W)/\aq K w U W
 | .dK Z=>∃Y:List (Key×V),w.H a=some (.dK Y)/\Y.map (·.1)=Z.map (·.1)/\aq K w (Z.map (·.2)) (Y.map (·.2))
 | .dT Z=>∃as:List Ø,w.H a=some (.ext (DX a ((Z.map (·.2)).zip as)))/\aq K w (Z.map (·.1)) (as.map V.ref)/\(Z.map (·.1)).Nodup
 | .tb x=>WU K w a x
 | .ins c fs=>∃(C T:Ø) (X:List (Str×V)),õ K Ò c=some (some (.ref C))/\w.H a=some (.ins C T X)/\X.map (·.1)=fs.map (·.1)/\aq K w (fs.map (·.2)) (X.map (·.2))
structure aI (K:Ď) (w:Wd):Prop where
 len:w.ρ.length=w.ay.length
 nd:w.ρ.Nodup
 there:∀(k:Nat) a,w.ρ[k]?=some a->w.H a≠none
 cell:∀(k:Nat) a c,w.ρ[k]?=some a->w.ay[k]?=some c->qG K w a c
theorem qG.le (h:qG K w a c) (le:Le K w w') (e:c≠.dead->w'.H a=w.H a):qG K w' a c:=by
 cases c with
 |dead=>trivial
 |lst I =>
  obtain⟨R,Z,Y⟩:=h;exact⟨R,(e (by intro z;cases z)).trans Z,le.all Y⟩
 |dK Q =>
  obtain⟨P,Z,Y,X⟩:=h;exact⟨P,(e (by intro z;cases z)).trans Z,Y,le.all X⟩
 |dT Q =>
  obtain⟨as,Z,Y,X⟩:=h;exact⟨as,(e (by intro z;cases z)).trans Z,le.all Y,X⟩
 |tb x =>
  obtain⟨c,O,Z,Y,X,W⟩:=h
  exact⟨c,O,Z,(e (by intro z;cases z)).trans Y,X,λpos N q=>let ⟨U,T,V,t,M,S,L⟩:=W pos N q;⟨U,T,V,t,M,le.aX U T _ S.1 S.2,L⟩⟩
 |ins c fs =>
  obtain⟨C,J,V,Z,Y,X,W⟩:=h;exact⟨C,J,V,Z,(e (by intro z;cases z)).trans Y,X,le.all W⟩
section
variable {K:Ď} {w:Wd}
def Wd.grow (w:Wd) (p:Ø) (o:HO):Wd:={ w with H:=upd w.H p o }
def Rd.grow (hp:H p=none) (h:Rd H a u):Rd (upd H p o) a u:=by
 rcases h with h | ⟨Z,h⟩
 ·exact .inl (by rw[aW (cY h hp)];exact h)
 ·exact .inr ⟨Z,by rw[aW (cY h hp)];exact h⟩
theorem bC.grow (hp:H p=none) (h:bC K H a xs):bC K (upd H p o) a xs:=by
 rcases h with h|h
 ·exact .inl (Rd.grow hp h)
 ·exact .inr h
theorem Fw.grow (hp:w.H p=none):Fw K w (w.grow p o) where
 C8:=λ_ _ e=>e
 tup:=λa Y h=>bC.grow hp h
 lst:=λa Y Z h=>⟨Z,by show upd w.H p o a=_;rw[aW (cY h hp)];exact h⟩
 aX:=λa X Y Z h=>⟨Z,by show upd w.H p o a=_;rw[aW (cY h hp)];exact h⟩
 bQ:=λa W Z h=>⟨Z,by show upd w.H p o a=_;rw[aW (cY h hp)];exact h⟩
theorem aI.grow (S:aI K w) (hp:w.H p=none):aI K (w.grow p o) where
 len:=S.len
 nd:=S.nd
 there:=λk a e=>by
  have h:=S.there k a e;show upd w.H p o a≠none;unfold upd;split
  ·intro z;cases z
  ·exact h
 cell:=λk a c e1 e2=>(S.cell k a c e1 e2).le (Fw.grow hp).le λ_=>by
  have h:=S.there k a e1;show upd w.H p o a=w.H a;rw[aW];intro z;rw[z] at h;exact h hp
def Wd.cell (w:Wd) (p:Ø) (o:HO) (c:Cell):Wd:=⟨w.ρ++[p],w.ay++[c],upd w.H p o⟩
def Wd.AB (S:aI K w) (h:(w.cell p o c).Z a):w.Z a\/a=p:=by
 obtain⟨k,Y,e1,e2,V⟩:=h;have e1:(w.ρ++[p])[k]?=some a:=e1;have e2:(w.ay++[c])[k]?=some Y:=e2;by_cases X:k<w.ρ.length
 ·rw[Ü X] at e1
  rw[Ü (by rw[<- S.len];exact X)] at e2;exact .inl ⟨k,Y,e1,e2,V⟩
 ·rw[í (by omega)] at e1
  right
  cases W:k-w.ρ.length with
  |zero=>rw[W] at e1;exact(abH e1).symm
  |succ j=>rw[W] at e1;cases e1
theorem Fw.cell (S:aI K w) (hp:w.H p=none):Fw K w (w.cell p o c) where
 C8:=λk a e=>by
  show (w.ρ++[p])[k]?=some a;rw[Ü (Ç.mp e).1];exact e
 tup:=λa Y h=>bC.grow hp h
 lst:=λa Y Z h=>⟨λz=>(Wd.AB S z).elim Z (λe=>by (subst e;rw[hp] at h;cases h)),by show upd w.H p o a=_;rw[aW (cY h hp)];exact h⟩
 aX:=λa X Y Z h=>⟨λz=>(Wd.AB S z).elim Z (λe=>by (subst e;rw[hp] at h;cases h)),by show upd w.H p o a=_;rw[aW (cY h hp)];exact h⟩
 bQ:=λa W Z h=>⟨λz=>(Wd.AB S z).elim Z (λe=>by (subst e;rw[hp] at h;cases h)),by show upd w.H p o a=_;rw[aW (cY h hp)];exact h⟩
def aI.Br (S:aI K w) (hp:w.H p=none) (hc:qG K (w.cell p o c) p c):aI K (w.cell p o c) where
 len:=by show (w.ρ++[p]).length=(w.ay++[c]).length;simp[S.len]
 nd:=by
  show (w.ρ++[p]).Nodup;rw[ZW];refine⟨S.nd,by simp,λa W b V=>?_⟩;obtain⟨k,e⟩:=List.getElem?_of_mem W;have h:=S.there k a e;have U:b=p:=by simpa using V
  rw[U];intro z;rw[z] at h;exact h hp
 there:=λk a e=>by
  have e:(w.ρ++[p])[k]?=some a:=e;show upd w.H p o a≠none;unfold upd;split
  ·intro z;cases z
  ·rename_i T
   by_cases Y:k<w.ρ.length
   ·rw[Ü Y] at e
    exact S.there k a e
   ·rw[í (by omega)] at e
    cases Z:k-w.ρ.length with
    |zero=>rw[Z] at e;exact absurd (abH e).symm T
    |succ j=>rw[Z] at e;cases e
 cell:=λk a X e1 e2=>by
  have e1:(w.ρ++[p])[k]?=some a:=e1;have e2:(w.ay++[c])[k]?=some X:=e2;by_cases Y:k<w.ρ.length
  ·rw[Ü Y] at e1
   rw[Ü (by rw[<- S.len];exact Y)] at e2;refine(S.cell k a X e1 e2).le (Fw.cell S hp).le λ_=>?_;have h:=S.there k a e1;show upd w.H p o a=w.H a;rw[aW];intro z;rw[z] at h;exact h hp
  ·rw[í (by omega)] at e1
   rw[í (by rw[<- S.len];omega)] at e2;rw[<- S.len] at e2
   cases Z:k-w.ρ.length with
   |zero =>
    rw[Z] at e1 e2;have e1:p=a:=abH e1;have e2:c=X:=abH e2;subst e1 e2;exact hc
   |succ j=>rw[Z] at e1;cases e1
def Wd.same (w:Wd) (H':Hp):Wd:={ w with H:=H' }
theorem Fw.same (e:j8 w.H H'):Fw K w (w.same H') :=
 ⟨λ_ _ e=>e,λa Y h=>e.Xy h,λa Y Z h=>⟨Z,e _ _ h⟩,λa o Y Z h=>⟨Z,e _ _ h⟩,λa X Z h=>⟨Z,e _ _ h⟩⟩
theorem aI.same (S:aI K w) (e:j8 w.H H'):aI K (w.same H') where
 len:=S.len
 nd:=S.nd
 there:=λk a q=>by
  have h:=S.there k a q;show H' a≠none
  cases Z:w.H a with
  |none=>exact absurd Z h
  |some o=>rw[e _ _ Z];intro z;cases z
 cell:=λk a c e1 e2=>(S.cell k a c e1 e2).le (Fw.same e).le λ_=>by
  have h:=S.there k a e1;show H' a=w.H a
  cases Z:w.H a with
  |none=>exact absurd Z h
  |some o=>exact e _ _ Z
def Wd.put (w:Wd) (k:Nat) (a:Ø) (o:HO) (c:Cell):Wd:=⟨w.ρ,w.ay.set k c,upd w.H a o⟩
def MA {α:Type} {l:List α} (nd:l.Nodup) {i j:Nat} {a:α} (h1:l[i]?=some a) (h2:l[j]?=some a):i=j:=by
 exact(List.getElem?_inj (Ç.mp h1).1 nd).mp (h1.trans h2.symm)
def Wd.Bs (h0:w.ρ[k]?=some a) (h1:w.ay[k]?=some c0) (h2:c0≠.dead) (h:(w.put k a o c).Z b):w.Z b:=by
 obtain⟨j,Y,e1,e2,W⟩:=h;have e1:w.ρ[j]?=some b:=e1;have e2:(w.ay.set k c)[j]?=some Y:=e2;by_cases X:k=j
 ·subst X
  exact⟨k,c0,e1,h1,h2⟩
 ·rw[Ö X] at e2
  exact⟨j,Y,e1,e2,W⟩
theorem Fw.put (S:aI K w) (h0:w.ρ[k]?=some a) (h1:w.ay[k]?=some c0) (h2:c0≠.dead):Fw K w (w.put k a o c):=by
 have W:w.Z a:=⟨k,c0,h0,h1,h2⟩;have T:∀X,¬ Rd w.H a (.tup X):=λX h=>by
  have q:=S.cell k a c0 h0 h1
  cases c0 with
  |dead=>exact h2 rfl
  |lst Q=>obtain⟨V,e,_⟩:=q;rcases h with h | ⟨_,h⟩<;>(rw[e] at h;cases h)
  |dK R=>obtain⟨V,e,_⟩:=q;rcases h with h | ⟨_,h⟩<;>(rw[e] at h;cases h)
  |dT R=>obtain⟨V,e,_⟩:=q;rcases h with h | ⟨_,h⟩<;>(rw[e] at h;cases h)
  |tb x=>obtain⟨_,V,_,e,_⟩:=q;rcases h with h | ⟨_,h⟩<;>(rw[e] at h;cases h)
  |ins c fs=>obtain⟨_,_,_,_,e,_⟩:=q;rcases h with h | ⟨_,h⟩<;>(rw[e] at h;cases h)
 refine⟨λ_ _ e=>e,λb X h=>?_,λb X Y h=>⟨λz=>Y (Wd.Bs h0 h1 h2 z),?_⟩,λb U X Y h=>⟨λz=>Y (Wd.Bs h0 h1 h2 z),?_⟩,λb P Y h=>⟨λz=>Y (Wd.Bs h0 h1 h2 z),?_⟩⟩
 ·rcases h with h|h
  ·have ne:b≠a:=λe=>by subst e;exact T X h
   refine .inl ?_
   rcases h with h | ⟨U,h⟩
   ·exact .inl (by show upd w.H a o b=_;rw[aW ne];exact h)
   ·exact .inr ⟨U,by show upd w.H a o b=_;rw[aW ne];exact h⟩
  ·exact .inr h
 ·have ne:b≠a:=λe=>by subst e;exact Y W
  show upd w.H a o b=_;rw[aW ne];exact h
 ·have ne:b≠a:=λe=>by subst e;exact Y W
  show upd w.H a o b=_;rw[aW ne];exact h
 ·have ne:b≠a:=λe=>by subst e;exact Y W
  show upd w.H a o b=_;rw[aW ne];exact h
def aI.ue {k:Nat} {a:Ø} {o:HO} {c c0:Cell} (S:aI K w) (h0:w.ρ[k]?=some a) (h1:w.ay[k]?=some c0) (h2:c0≠.dead) (hc:qG K (w.put k a o c) a c):aI K (w.put k a o c) where
 len:=by show w.ρ.length=(w.ay.set k c).length;rw[ĉ];exact S.len
 nd:=S.nd
 there:=λj b e=>by
  show upd w.H a o b≠none;unfold upd;split
  ·intro z;cases z
  ·exact S.there j b e
 cell:=λj b Z e1 e2=>by
  have e1:w.ρ[j]?=some b:=e1;have e2:(w.ay.set k c)[j]?=some Z:=e2;by_cases Y:k=j
  ·subst Y
   rw[h0] at e1;have e1:a=b:=abH e1;rw[å (Ç.mp h1).1] at e2;have e2:c=Z:=abH e2;subst e1 e2;exact hc
  ·rw[Ö Y] at e2
   refine(S.cell j b Z e1 e2).le (Fw.put S h0 h1 h2).le λ_=>?_;show upd w.H a o b=w.H b;rw[aW];intro z;subst z;exact Y (MA S.nd h0 e1)
end
structure bK (K:Ď) (w:Wd) (env:Env) (σ:St):Prop where
 len:env.length=σ.length
 val:∀(i:Nat) d,env[i]?=some (some d)->∃v,σ[i]?=some (some v)/\DV K w d v
theorem bK.le (h:bK K w env σ) (le:Le K w w'):bK K w' env σ :=
 ⟨h.len,λi d e=>by obtain⟨v,e1,e2⟩:=h.val i d e;exact⟨v,e1,le d v e2⟩⟩
theorem bK.set (h:bK K w env σ) (hd:DV K w d v) (i:Nat):bK K w (env.set i (some d)) (σ.set i (some v)):=by
 refine⟨by rw[ĉ,ĉ];exact h.len,λj X e=>?_⟩;by_cases Z:i=j
 ·subst Z
  have Y:=(Ç.mp e).1;rw[ĉ] at Y;rw[å Y] at e;have e:d=X:=abH (abH e);subst e;exact⟨v,by rw[å (by rw[<- h.len];exact Y)],hd⟩
 ·rw[Ö Z] at e
  rw[Ö Z];exact h.val j X e
def Out (K:Ď) (Ξ:Wd->aR->Prop) (w:Wd) {α:Type} (r:Res α) (k:Wd->α->Prop):Prop:=match r with
 |none=>False
 |some (.ok a,s)=>∀Z,Le K w Z->aI K Z->Z.ay=s->k Z a
 |some (.error x,s)=>∀Z,Le K w Z->aI K Z->Z.ay=s->Ξ Z x
section
variable {K:Ď} {Ξ:Wd->aR->Prop} {w w':Wd} {α β:Type} {r:Res α} {k k':Wd->α->Prop}
def Out.from (h:Out K Ξ w r k) (le:Le K w w'):Out K Ξ w' r k:=by
 unfold Out at h |-
 split<;>simp only at h
 ·exact λZ Y X e2=>h Z (le.trans Y) X e2
 ·exact λZ Y X e2=>h Z (le.trans Y) X e2
def Out.mono (h:Out K Ξ w r k) (hk:∀w2 a,Le K w w2->aI K w2->k w2 a->k' w2 a):Out K Ξ w r k':=by
 unfold Out at h |-
 split<;>simp only at h
 ·exact λw2 Z Y e2=>hk w2 _ Z Y (h w2 Z Y e2)
 ·exact h
theorem Out.ao {q:Wd->β->Prop} (h:Out K Ξ w (DI.ao r g) q):Out K Ξ w r (λw2 a=>Out K Ξ w2 (g a w2.ay) q):=by
 match r,h with
 |some (.ok a,s),h =>
  intro w2 Z Y e2;rw[e2];exact Out.from h Z
 |some (.error x,s),h=>exact h
def Out.done (h:Out K Ξ w (some (.ok a,w.ay)) k) (S:aI K w):k w a:=h w (Le.refl w) S rfl
end
end DI
namespace DI
open PySem L2
def tE (K:Ď) (Ξ:Wd->aR->Prop) (f:abC D):TE:=fun σ H Q=>∃w env,w.H=H/\aI K w/\bK K w env σ/\Out K Ξ w (f env w.ay) λZ d=>∀v,DV K Z d v->Q v Z.H
def tT (K:Ď) (Ξ:Wd->aR->Prop) (f:abC Bool):TT:=fun σ H Q=>∃w env,w.H=H/\aI K w/\bK K w env σ/\Out K Ξ w (f env w.ay) λZ b=>Q b Z.H
def tA (K:Ď) (Ξ:Wd->aR->Prop) (f:abC (List D)):TA:=fun σ H Q=>∃w env,w.H=H/\aI K w/\bK K w env σ/\Out K Ξ w (f env w.ay) λZ X=>∀Y,aq K Z X Y->Q Y Z.H
def rO (K:Ď) (Ξ:Wd->aR->Prop) (o:D->D->aa->Res D):R2:=λx y H Q=>∃w Z Y,w.H=H/\aI K w/\DV K w Z x/\DV K w Y y/\Out K Ξ w (o Z Y w.ay) λX d=>∀v,DV K X d v->Q v X.H
def rU (K:Ď) (Ξ:Wd->aR->Prop) (o:D->aa->Res D):V->Hp->VK->Prop:=λx H Q=>∃w Z,w.H=H/\aI K w/\DV K w Z x/\Out K Ξ w (o Z w.ay) λY d=>∀v,DV K Y d v->Q v Y.H
def rC (K:Ď) (Ξ:Wd->aR->Prop) (o:List D->aa->Res D):List V->Hp->VK->Prop:=λX H Q=>∃w Z,w.H=H/\aI K w/\aq K w Z X/\Out K Ξ w (o Z w.ay) λY d=>∀v,DV K Y d v->Q v Y.H
def ae (i:Nat):abC D:=λenv s=>match env[i]? with
 |some (some d)=>ok d s
 |_=>none
def eC (d:D):abC D:=λ_ s=>ok d s
def e1 (o:D->aa->Res D) (f:abC D):abC D:=λenv s=>ao (f env s) λx s=>o x s
def e2 (o:D->D->aa->Res D) (f g:abC D):abC D:=λenv s=>ao (f env s) λx s=>ao (g env s) λy s=>o x y s
def ah:abC (List D):=λ_ s=>ok [] s
def af (f:abC D) (g:abC (List D)):abC (List D):=λenv s=>ao (f env s) λx s=>ao (g env s) λZ s=>ok (x::Z) s
def eB (o:List D->aa->Res D) (f:abC (List D)):abC D:=λenv s=>ao (f env s) λZ s=>o Z s
def hZ {α:Type} (ds:List D) (r:Res α):Res α:=if ds.length<=Ú then r else none
def bZ (f:abC (List D)):abC D:=λenv s=>ao (f env s) λZ s=>hZ Z (ok (.tup Z) s)
def dX (f:abC (List D)):abC D:=λenv s=>ao (f env s) λZ s=>hZ Z (ok (.lst Z) s)
def eNew (f:abC (List D)):abC D:=λenv s=>ao (f env s) λZ s=>hZ Z (ok (.aj s.length) (s++[.lst Z]))
def aX:D->aa->Res D:=λd s=>match d with
 | .aj k=>match s[k]? with
  |some (.lst Z)=>ok (.lst Z) (s.set k .dead)
  |_=>none
 |_=>none
def Kc (f:abC D):abC D:=λenv s=>ao (f env s) aX
def ij (d:D) (s:aa):Res Bool:=match d with
 | .bl b=>ok b s
 |_=>none
def aU (f:abC D):abC Bool:=λenv s=>ao (f env s) ij
def truth (d:D) (s:aa):Res Bool:=match d with
 | .ar=>ok false s
 | .bl b=>ok b s
 | .int i=>ok (i != 0) s
 | .str x=>if x.length<=Ú then ok ((x.length:Int) != 0) s else none
 | .tup Z=>ok (!Z.isEmpty) s
 | .lst Z=>ok (!Z.isEmpty) s
 | .bQ Y=>ok (!Y.isEmpty) s
 | .aj k=>match s[k]? with
  |some (.lst Z)=>ok (!Z.isEmpty) s
  |some (.dK Y)=>ok (!Y.isEmpty) s
  |_=>none
 | .ty _=>none
 | .bO _=>none
 | .exc _ _=>none
 | .cD _ _ _=>none
def dY (f:abC D):abC Bool:=λenv s=>ao (f env s) truth
def fN (f g:abC Bool):abC Bool:=λenv s=>ao (f env s) λb s=>if b=true then g env s else ok false s
def iJ (f g:abC Bool):abC Bool:=λenv s=>ao (f env s) λb s=>if b=true then ok true s else g env s
def gp (f:abC Bool):abC Bool:=λenv s=>ao (f env s) λb s=>ok (!b) s
def eD (f g:abC D):abC D:=λenv s=>ao (f env s) λx s=>ao (ij x s) λb s=>if b=true then g env s else ok (.bl false) s
def uX (f g:abC D):abC D:=λenv s=>ao (f env s) λx s=>ao (ij x s) λb s=>if b=true then ok (.bl true) s else g env s
def ug (f:abC D):abC D:=λenv s=>ao (f env s) λx s=>ao (ij x s) λb s=>ok (.bl (!b)) s
def rT (c:abC Bool) (f g:abC D):abC D:=λenv s=>ao (c env s) λb s=>if b=true then f env s else g env s
def uY (o o':D->D->aa->Res D) (f g h:abC D):abC D:=λenv s=>ao (f env s) λx s=>ao (g env s) λy s=>ao (o x y s) λz s=>ao (ij z s) λb s =>
 if b=true then ao (h env s) λu s=>o' y u s else ok (.bl false) s
section
variable {X:Cx} {Ξ:Wd->aR->Prop} {e a b c:ġ} {es rest:List ġ} {pos:Pos} {f g h:abC D} {fa:abC (List D)} {ft gt:abC Bool}
def b9 {t t':TE} (h:PE X e t) (i:∀ σ H Q,t' σ H Q->t σ H Q):PE X e t':=λZ s σ H Q I Y=>h Z s σ H Q I (i σ H Q Y)
def AD {t t':TT} (h:PT X e t) (i:∀ σ H Q,t' σ H Q->t σ H Q):PT X e t':=λZ s σ H Q I Y=>h Z s σ H Q I (i σ H Q Y)
def Il {t t':TT} (h:PW X e t) (i:∀ σ H Q,t' σ H Q->t σ H Q):PW X e t':=λZ Y s σ H Q I W=>h Z Y s σ H Q I (i σ H Q W)
def Im {t t':TA} (h:PA X es t) (i:∀ σ H Q,t' σ H Q->t σ H Q):PA X es t':=λp Z s σ H Q I Y=>h p Z s σ H Q I (i σ H Q Y)
def jf (h:PS X st t) (i:∀D σ H,t' D σ H->t D σ H):PS X st t':=λZ s σ H D I Y=>h Z s σ H D I (i D σ H Y)
def Hq (h:cP X st t) (i:∀D σ H,t' D σ H->t D σ H):cP X st t':=λZ s σ H D I Y=>h Z s σ H D I (i D σ H Y)
def aA {α:Type} {K:Ď} {w:Wd} {a:α} {k:Wd->α->Prop} (S:aI K w) (h:Out K Ξ w (ok a w.ay) k):k w a:=h w (Le.refl w) S rfl
def ag (i:Nat) {x:Str} (hN:X.N[i]?=some x:=by rfl) (hv:pH X.env.scope x:=by first|exact aap rfl|exact Or.inr (aap rfl)|exact Or.inr (Or.inr rfl)) (hd:(x==("__debug__":Str))=false:=by decide)
  (dE:(x==("__classdict__":Str))=false:=by decide):PE X (.Name x pos) (tE X.K Ξ (ae i)):=b9 (HY hN hv hd dE) fun σ H Q Z=>by
 obtain⟨w,env,Y,S,W,h⟩:=Z;unfold ae at h;split at h
 ·rename_i d V
  obtain⟨v,e1,e2⟩:=W.val i d V;subst Y;exact⟨v,e1,aA S h v e2⟩
 ·exact h.elim
def qP {d:D} {v:V} (h:PE X e (tC v)) (hd:∀w,DV X.K w d v):PE X e (tE X.K Ξ (eC d)):=b9 h fun σ H Q Z=>by
 obtain⟨w,env,Y,S,W,h⟩:=Z;subst Y;exact aA S h v (hd w)
def aw {i j}:PE X (.Constant (.int i) j pos) (tE X.K Ξ (eC (.int i))):=qP Sv λ_=>rfl
def eG {b j}:PE X (.Constant (.bool b) j pos) (tE X.K Ξ (eC (.bl b))):=qP Bl λ_=>rfl
def tD {j}:PE X (.Constant .none j pos) (tE X.K Ξ (eC .ar)):=qP Sw λ_=>rfl
def bM {x j}:PE X (.Constant (.str x) j pos) (tE X.K Ξ (eC (.str x))):=qP Sx λ_=>rfl
def wg (σ:St) (H:Hp) (Q:VK):tE K Ξ (e2 o f g) σ H Q->uG (rO K Ξ o) (tE K Ξ f) (tE K Ξ g) σ H Q:=by
 rintro ⟨w,env,rfl,S,Z,h⟩;exact⟨w,env,rfl,S,Z,(Out.ao h).mono λY x X W V v1 U=>⟨Y,env,rfl,W,Z.le X,(Out.ao V).mono λT y R P O v2 N=>⟨T,x,y,rfl,P,R _ _ U,N,O⟩⟩⟩
def bV (ho:bG X (ĺ op) (rO X.K Ξ o)) (ha:PE X a (tE X.K Ξ f)) (hb:PE X b (tE X.K Ξ g)):PE X (.BinOp a op b pos) (tE X.K Ξ (e2 o f g)):=b9 (US ho ha hb) wg
def fY (ho:bG X (Ě op) (rO X.K Ξ o)) (ha:PE X a (tE X.K Ξ f)) (hb:PE X b (tE X.K Ξ g)) (hm:aas op b=false):PE X (.Compare a [op] [b] pos) (tE X.K Ξ (e2 o f g)):=b9 (QZ ho ha hb hm) wg
def Tr {K:Ď} (σ:St) (H:Hp) (Q:Bool->Hp->Prop):tT K Ξ (aU f) σ H Q->xm (tE K Ξ f) σ H Q:=by
 rintro ⟨w,env,rfl,S,Y,h⟩;refine⟨w,env,rfl,S,Y,(Out.ao h).mono λV x U X Z v1 W=>?_⟩
 cases x with
 |bl b =>
  have e:v1=.bl b:=W;exact⟨b,e,aA X Z⟩
 |_=>exact Z.elim
def NF (i:∀ σ H Q,t' σ H Q->t σ H Q) (σ:St) (H:Hp) (Q:Bool->Hp->Prop):xm t' σ H Q->xm t σ H Q:=λh=>i _ _ _ h
def bz (ho:bG X (Ě op) (rO X.K Ξ o)) (ha:PE X a (tE X.K Ξ f)) (hb:PE X b (tE X.K Ξ g)) (hm:aas op b=false):PT X (.Compare a [op] [b] pos) (tT X.K Ξ (aU (e2 o f g))) :=
 AD (Q0 ho ha hb hm) fun σ H Q h=>NF wg σ H Q (Tr σ H Q h)
def Tt {K:Ď} {o o':D->D->aa->Res D} (σ:St) (H:Hp) (Q:VK):tE K Ξ (uY o o' f g h) σ H Q->Ia (rO K Ξ o) (rO K Ξ o') (tE K Ξ f) (tE K Ξ g) (tE K Ξ h) σ H Q:=by
 rintro ⟨w,env,rfl,S,Y,h⟩;refine⟨w,env,rfl,S,Y,(Out.ao h).mono λP x W O N v1 M=>⟨P,env,rfl,O,Y.le W,(Out.ao N).mono λL y V J I v2 U=>⟨L,x,y,rfl,J,V _ _ M,U,(Out.ao I).mono λG z T X F E C=>?_⟩⟩⟩;have R:=Out.ao F
 cases z with
 |bl b =>
  have e:E=.bl b:=C;have Z:=aA X R;refine⟨b,e,?_⟩
  cases b with
  |true =>
   rw[ß rfl] at Z |-;exact⟨G,env,rfl,X,Y.le (W.trans (V.trans T)),(Out.ao Z).mono λB u A v t v4 s=>⟨B,y,u,rfl,v,(T.trans A) _ _ U,s,t⟩⟩
  |false =>
   rw[è Ï] at Z |-;exact aA X Z _ rfl
 |_=>exact R.elim
def Rr (ho:bG X (Ě op) (rO X.K Ξ o)) (fQ:bG X (Ě rL) (rO X.K Ξ o')) (ha:PE X a (tE X.K Ξ f)) (hb:PE X b (tE X.K Ξ g)) (hc:PE X c (tE X.K Ξ h))
 (hm:lastMarks [op,rL] [b,c]=false:=by with_unfolding_all rfl):PE X (.Compare a [op,rL] [b,c] pos) (tE X.K Ξ (uY o o' f g h)):=b9 (Pa ho fQ ha hb hc hm) Tt
def nE (ho:uF X (unaryOp op) (rU X.K Ξ o)) (ha:PE X a (tE X.K Ξ f)):PE X (.UnaryOp op a pos) (tE X.K Ξ (e1 o f)):=b9 (UT ho ha) fun σ H Q Z=>by
 obtain⟨w,env,Y,S,W,h⟩:=Z;subst Y;exact⟨w,env,rfl,S,W,(Out.ao h).mono λV x P U T v1 R=>⟨V,x,rfl,U,R,T⟩⟩
def dU:PA X [] (tA X.K Ξ ah):=Im l7 fun σ H Q Z=>by
 obtain⟨w,env,Y,S,W,h⟩:=Z;subst Y;exact aA S h _ rfl
def ba (ha:PE X e (tE X.K Ξ f)) (hr:PA X es (tA X.K Ξ fa)) (hs:Ê (e::es) X.env=(false,ĩ e X.env)::Ê es X.env:=by rfl):PA X (e::es) (tA X.K Ξ (af f fa)):=Im (jd ha hr hs) fun σ H Q Y=>by
 obtain⟨w,env,W,S,Z,h⟩:=Y;subst W;exact⟨w,env,rfl,S,Z,(Out.ao h).mono λV x U T R v1 P=>⟨V,env,rfl,T,Z.le U,(Out.ao R).mono λI G O N M L J=>aA N M _ ⟨v1,L,rfl,O _ _ P,J⟩⟩⟩
def qi {α:Type} {K:Ď} {w:Wd} {ds:List D} {r:Res α} {k:Wd->α->Prop} (h:Out K Ξ w (hZ ds r) k):ds.length<=Ú/\Out K Ξ w r k:=by
 unfold hZ at h;split at h
 ·exact⟨by assumption,h⟩
 ·exact h.elim
def cG {x1} (ha:PA X es (tA X.K Ξ fa)):PE X (.Tuple es x1 pos) (tE X.K Ξ (bZ fa)):=b9 (SX ha) fun σ H Q V=>by
 obtain⟨w,env,U,S,T,h⟩:=V;subst U;refine⟨w,env,rfl,S,T,(Out.ao h).mono λR L J P O Y W=>?_⟩;obtain⟨N,M⟩:=qi O;refine⟨by rw[<- W.length];exact N,λp Z=>?_⟩;exact M (R.grow p (.tup Y)) (Fw.grow Z).le (P.grow Z) rfl (.ref p) ⟨p,Y,rfl,bC.of cx,(Fw.grow Z).le.all W⟩
def l8 {K:Ď} {w:Wd} {p:Ø} (S:aI K w) (hp:w.H p=none):¬ w.Z p:=λ⟨k,c,e1,_,_⟩=>S.there k p e1 hp
def fZ (ha:PA X es (tA X.K Ξ fa)):PE X (.List es pos) (tE X.K Ξ (dX fa)):=b9 (Ic ha) fun σ H Q R=>by
 obtain⟨w,env,P,S,O,h⟩:=R;subst P;refine⟨w,env,rfl,S,O,(Out.ao h).mono λW J I V N U T=>?_⟩;obtain⟨M,L⟩:=qi N;refine⟨by rw[<- T.length];exact M,λp Y=>?_⟩;exact L (W.grow p (.lst U)) (Fw.grow Y).le (V.grow Y) rfl (.ref p) ⟨p,U,rfl,⟨(show ¬ W.Z p from l8 V Y),cx⟩,(Fw.grow Y).le.all T⟩
def tF (ha:PA X es (tA X.K Ξ fa)):PE X (.List es pos) (tE X.K Ξ (eNew fa)):=b9 (Ic ha) fun σ H Q R=>by
 obtain⟨w,env,P,S,O,h⟩:=R;subst P;refine⟨w,env,rfl,S,O,(Out.ao h).mono λZ V J Y N W U=>?_⟩;obtain⟨M,L⟩:=qi N;refine⟨by rw[<- U.length];exact M,λp T=>?_⟩;have le:=(Fw.cell (o:=.lst W) (c:=.lst V) Y T).le;refine L (Z.cell p (.lst W) (.lst V)) le (Y.Br T ⟨W,cx,le.all U⟩) rfl (.ref p) ⟨p,?_,rfl⟩;show (Z.ρ++[p])[Z.ay.length]?=some p;rw[<- Y.len];simp
theorem oW.of {K:Ď} {w:Wd} {d:D} {v:V} {k:Wd->Bool->Prop} (S:aI K w) (hd:DV K w d v) (h:Out K Ξ w (truth d w.ay) k):∃b,oW K v w.H b/\k w b:=by
 cases d with
 |ar=>have e:v=.ar:=hd;subst e;exact⟨_,rfl,aA S h⟩
 |bl b=>have e:v=.bl b:=hd;subst e;exact⟨_,rfl,aA S h⟩
 |int i=>have e:v=.int i:=hd;subst e;exact⟨_,rfl,aA S h⟩
 |str x =>
  have e:v=.str x:=hd;subst e;unfold truth at h
  split at h<;>first|contradiction|skip
  all_goals (rename_i e;cases e)
  split at h
  ·exact⟨_,⟨by assumption,rfl⟩,aA S h⟩
  ·exact h.elim
 |tup Y =>
  simp only[DV] at hd;obtain⟨a,Z,rfl,X,r⟩:=hd;refine⟨_,.inr (.inl ⟨Z,X,?_⟩),aA S h⟩;have e:=r.length
  cases Y<;>cases Z<;>first|rfl|cases e
 |lst Y =>
  simp only[DV] at hd;obtain⟨a,Z,rfl,X,r⟩:=hd;refine⟨_,.inl ⟨Z,X.sq,?_⟩,aA S h⟩;have e:=r.length
  cases Y<;>cases Z<;>first|rfl|cases e
 |bQ W =>
  simp only[DV] at hd;obtain⟨a,rfl,_,X⟩:=hd;refine⟨_,.inr (.inr ⟨_,X,?_⟩),aA S h⟩
  cases W<;>rfl
 |aj j =>
  simp only[DV] at hd;obtain⟨a,e1,rfl⟩:=hd;simp only[truth] at h;split at h
  ·rename_i Y U
   obtain⟨Z,T,R⟩:=S.cell j a _ e1 U;refine⟨_,.inl ⟨Z,bw.of T,?_⟩,aA S h⟩;have e:=R.length
   cases Y<;>cases Z<;>first|rfl|cases e
  ·rename_i W U
   obtain⟨es,T,R,Q⟩:=S.cell j a _ e1 U;refine⟨_,.inr (.inr ⟨es,T,?_⟩),aA S h⟩;have e:=Ķ List.length R
   cases W<;>cases es<;>first|rfl|simp at e
  ·exact h.elim
 |ty n=>exact h.elim
 |bO P=>exact h.elim
 |exc o _=>exact h.elim
 |cD o _ _=>exact h.elim
def gM (ha:PE X a (tE X.K Ξ f)) (he:∀whole,isTrue a X.env whole=(do let v <- whole;ZZ a.pos;μ [v] (truthy v)):=by intro _;rfl):PT X a (tT X.K Ξ (dY f)):=AD (Pb ha he) fun σ H Q Z=>by
 obtain⟨w,env,Y,S,W,h⟩:=Z;subst Y;exact⟨w,env,rfl,S,W,(Out.ao h).mono λR x P V U v1 T=>oW.of V T U⟩
def jW (ha:PT X a (tT X.K Ξ ft)):PT X (.UnaryOp .Not a pos) (tT X.K Ξ (gp ft)):=AD (SA ha) fun σ H Q Z=>by
 obtain⟨w,env,Y,S,W,h⟩:=Z;subst Y;exact⟨w,env,rfl,S,W,(Out.ao h).mono λT b R V U=>aA V U⟩
def kQ (ha:PT X a (tT X.K Ξ ft)):PW X (.BoolOp .And [a] pos) (tT X.K Ξ ft):=QT ha
def nk (ha:PT X a (tT X.K Ξ ft)):PW X (.BoolOp .Or [a] pos) (tT X.K Ξ ft):=Sy ha
def w_and (ha:PT X a (tT X.K Ξ ft)) (hb:PW X (.BoolOp .And (b::rest) pos) (tT X.K Ξ gt)):PW X (.BoolOp .And (a::b::rest) pos) (tT X.K Ξ (fN ft gt)):=Il (Sz ha hb) fun σ H Q V=>by
 obtain⟨w,env,U,S,Z,h⟩:=V;subst U;refine⟨w,env,rfl,S,Z,(Out.ao h).mono λT b R Y W=>?_⟩
 cases b with
 |true=>exact⟨T,env,rfl,Y,Z.le R,W⟩
 |false=>exact aA Y W
def w_or (ha:PT X a (tT X.K Ξ ft)) (hb:PW X (.BoolOp .Or (b::rest) pos) (tT X.K Ξ gt)):PW X (.BoolOp .Or (a::b::rest) pos) (tT X.K Ξ (iJ ft gt)):=Il (UJ ha hb) fun σ H Q V=>by
 obtain⟨w,env,U,S,Z,h⟩:=V;subst U;refine⟨w,env,rfl,S,Z,(Out.ao h).mono λT b R Y W=>?_⟩
 cases b with
 |false=>exact⟨T,env,rfl,Y,Z.le R,W⟩
 |true=>exact aA Y W
def jX {op} (ha:PE X a (tE X.K Ξ f)):PE X (.BoolOp op [a] pos) (tE X.K Ξ f):=SD ha
def z9 {K:Ď} {w:Wd} {d:D} {v:V} {k:Wd->Bool->Prop} (S:aI K w) (hd:DV K w d v) (h:Out K Ξ w (ij d w.ay) k):∃b,v=.bl b/\k w b:=by
 cases d with
 |bl b=>exact⟨b,hd,aA S h⟩
 |_=>exact h.elim
def ia (ha:PE X a (tE X.K Ξ f)) (hb:PE X (.BoolOp .And (b::rest) pos) (tE X.K Ξ g)):PE X (.BoolOp .And (a::b::rest) pos) (tE X.K Ξ (eD f g)):=b9 (SE ha hb) fun σ H Q V=>by
 obtain⟨w,env,U,S,Y,h⟩:=V;subst U;refine⟨w,env,rfl,S,Y,(Out.ao h).mono λT x R Z P v1 O=>?_⟩;obtain⟨b,e,W⟩:=z9 Z O (Out.ao P);refine⟨b,e,?_⟩
 cases b with
 |true=>exact⟨T,env,rfl,Z,Y.le R,W⟩
 |false=>exact aA Z W _ rfl
def WV (ha:PE X a (tE X.K Ξ f)) (hb:PE X (.BoolOp .Or (b::rest) pos) (tE X.K Ξ g)):PE X (.BoolOp .Or (a::b::rest) pos) (tE X.K Ξ (uX f g)):=b9 (UM ha hb) fun σ H Q V=>by
 obtain⟨w,env,U,S,Y,h⟩:=V;subst U;refine⟨w,env,rfl,S,Y,(Out.ao h).mono λT x R Z P v1 O=>?_⟩;obtain⟨b,e,W⟩:=z9 Z O (Out.ao P);refine⟨b,e,?_⟩
 cases b with
 |false=>exact⟨T,env,rfl,Z,Y.le R,W⟩
 |true=>exact aA Z W _ rfl
def Jq (ha:PE X a (tE X.K Ξ f)):PE X (.UnaryOp .Not a pos) (tE X.K Ξ (ug f)):=b9 (SF ha) fun σ H Q Y=>by
 obtain⟨w,env,W,S,V,h⟩:=Y;subst W;refine⟨w,env,rfl,S,V,(Out.ao h).mono λP x O Z U v1 T=>?_⟩;obtain⟨b,e,R⟩:=z9 Z T (Out.ao U);exact⟨b,e,aA Z R _ rfl⟩
def Kd (hc:PT X c (tT X.K Ξ ft)) (ha:PE X a (tE X.K Ξ f)) (hb:PE X b (tE X.K Ξ g)):PE X (.IfExp c a b pos) (tE X.K Ξ (rT ft f g)):=b9 (O8 hc ha hb) fun σ H Q T=>by
 obtain⟨w,env,R,S,Z,h⟩:=T;subst R;refine⟨w,env,rfl,S,Z,(Out.ao h).mono λY b W V U=>?_⟩
 cases b with
 |true=>exact⟨Y,env,rfl,V,Z.le W,U⟩
 |false=>exact⟨Y,env,rfl,V,Z.le W,U⟩
def Io (σ:St) (H:Hp) (Q:VK):tE K Ξ (eB o fa) σ H Q->CH (rC K Ξ o) (tA K Ξ fa) σ H Q:=by
 rintro ⟨w,env,rfl,S,Z,h⟩;exact⟨w,env,rfl,S,Z,(Out.ao h).mono λY X T W V R U=>⟨Y,X,rfl,W,U,V⟩⟩
def cy {x:Str} {p:Pos} {id:String} {o:List D->aa->Res D} (hc:cS X (.builtin id) (rC X.K Ξ o)) (hg:Gl X x) (hm:X.mg x=none) (hv:ú x=some (.builtin id)) (ha:PA X (e::es) (tA X.K Ξ fa)) (hn:x≠"__name__":=by decide) (dh:(x==("__debug__":Str))=false:=by decide)
  (he:Ê (e::es) X.env=(false,ĩ e X.env)::Ê es X.env:=by rfl) (bH:(ħ pos (Ê es X.env)).any (·.1)=false:=by rfl):PE X (.Call (.Name x p) (e::es) [] pos) (tE X.K Ξ (eB o fa)):=b9 (vQ hc hg hm hv ha hn dh he bH) Io
def jK {x:Str} {p:Pos} {T:String} {o:List D->aa->Res D} (hc:cS X (.type T) (rC X.K Ξ o)) (hg:Gl X x) (hm:X.mg x=none) (hv:ú x=some (.type T)) (ha:PA X (e::es) (tA X.K Ξ fa)) (hn:x≠"__name__":=by decide) (dh:(x==("__debug__":Str))=false:=by decide)
  (he:Ê (e::es) X.env=(false,ĩ e X.env)::Ê es X.env:=by rfl) (bH:(ħ pos (Ê es X.env)).any (·.1)=false:=by rfl):PE X (.Call (.Name x p) (e::es) [] pos) (tE X.K Ξ (eB o fa)):=b9 (FO hc hg hm hv ha hn dh he bH) Io
end
set_option genInjectivity true in
inductive Fl where
 |nx (env:Env)|rt (d:D)|bk (env:Env)|ct (env:Env)
def xP (K:Ď) (D:Ends) (w:Wd):Fl->Prop
 | .nx env=>∀ σ,bK K w env σ->D.nx σ w.H
 | .rt d=>∀v,DV K w d v->D.rt v w.H
 | .bk env=>∀ σ,bK K w env σ->D.bk σ w.H
 | .ct env=>∀ σ,bK K w env σ->D.ct σ w.H
def tS (K:Ď) (Ξ:Wd->aR->Prop) (f:abC Fl):TS:=λD σ H=>∃w env,w.H=H/\aI K w/\bK K w env σ/\Out K Ξ w (f env w.ay) (xP K D)
def bN:abC Fl:=λenv s=>ok (.nx env) s
def ax (f g:abC Fl):abC Fl:=λenv s=>ao (f env s) λfl s=>match fl with
 | .nx env=>g env s
 |fl=>ok fl s
def aM (f:abC D):abC Fl:=λenv s=>ao (f env s) λd s=>ok (.rt d) s
def gO (f:abC D):abC Fl:=λenv s=>ao (f env s) λ_ s=>ok (.nx env) s
def aZ (c:abC Bool) (f g:abC Fl):abC Fl:=λenv s=>ao (c env s) λb s=>if b=true then f env s else g env s
def Jr:abC Fl:=λenv s=>ok (.ct env) s
def bt (f:abC D) (g:D->Env->Option Env):abC Fl:=λenv s=>ao (f env s) λd s=>match g d env with
 |some Z=>ok (.nx Z) s
 |none=>none
def gN (i:Nat):D->Env->Option Env:=λd env=>some (env.set i (some d))
def gR:List (D->Env->Option Env)->List D->Env->Option Env
 | [],[],env=>some env
 |g::Z,d::Y,env=>match g d env with
  |some X=>gR Z Y X
  |none=>none
 |_,_,_=>none
def gT (gs:List (D->Env->Option Env)):D->Env->Option Env:=λd env=>match d with
 | .tup Z=>gR gs Z env
 |_=>none
def kW (g:D->Env->Option Env) (b:abC Fl):List D->abC Fl
 | [],env,s=>ok (.nx env) s
 |d::Z,env,s=>match g d env with
  |none=>none
  |some Y=>ao (b Y s) λX s=>match X with
   | .nx e=>kW g b Z e s
   | .ct e=>kW g b Z e s
   | .bk e=>ok (.nx e) s
   | .rt d=>ok (.rt d) s
def ju (it:abC (List D)) (g:D->Env->Option Env) (b:abC Fl):abC Fl:=λenv s=>ao (it env s) λZ s=>kW g b Z env s
def ne {α:Type} (r:Res α):Res α:=match r with
 |some (.ok a,s)=>some (.ok a,s)
 |_=>none
@[simp] theorem ml {α:Type} {a:α} {s:aa}:ne (some (.ok a,s))=some (.ok a,s):=rfl
def gk (cap:List Nat) (env:Env):Env:=cap.map λj=>(env[j]?).getD none
def fq (nt:Nat) (caps:Env) (g:D->Env->Option Env) (t:abC Bool) (f:abC D):List D->aa->Res (List D)
 | [],s=>ok [] s
 |d::Z,s=>match g d (Ñ nt none++caps) with
  |none=>none
  |some env=>ao (ne (t env s)) λb s=>if b=true then ao (ne (f env s)) λx s=>ao (fq nt caps g t f Z s) λY s=>ok (x::Y) s
   else fq nt caps g t f Z s
def eh (nt:Nat) (cap:List Nat) (it:abC (List D)) (g:D->Env->Option Env) (t:abC Bool) (f:abC D):abC D:=λenv s =>
 ao (it env s) λZ s=>hZ Z (ao (fq nt (gk cap env) g t f Z s) λY s=>ok (.lst Y) s)
def gC:abC Bool:=λ_ s=>ok true s
def aN (np ns:Nat) (b:abC Fl):List D->aa->Res D:=λZ s=>if Z.length=np then ao (b (Z.map some++Ñ (ns-np) none) s) λY s=>match Y with
 | .rt d=>ok d s
 | .nx _=>ok .ar s
 |_=>none else none
abbrev bR:Wd->aR->Prop:=λ_ _=>False
def jF (K:Ď) (f:List D->aa->Res D):Sp:=λX H Q _=>∃w Z,w.H=H/\aI K w/\aq K w Z X/\Out K bR w (f Z w.ay) λY d=>∀v,DV K Y d v->Q v Y.H
section
variable {X:Cx} {Ξ:Wd->aR->Prop} {e a b c tg:ġ} {es rest:List ġ} {pos:Pos} {f g h:abC D} {fa:abC (List D)} {ft gt:abC Bool} {st:aaX} {pR Ca:List aaX} {fs gs:abC Fl}
def cf:cP X [] (tS X.K Ξ bN):=Hq QU λD σ H Z=>by
 obtain⟨w,env,Y,S,W,h⟩:=Z;subst Y;exact aA S h σ W
def aK (h1:PS X st (tS X.K Ξ fs)) (h2:cP X pR (tS X.K Ξ gs)):cP X (st::pR) (tS X.K Ξ (ax fs gs)):=Hq (O9 h1 h2) λD σ H W=>by
 obtain⟨w,env,V,S,U,h⟩:=W;subst V;refine⟨w,env,rfl,S,U,(Out.ao h).mono λT R P Z h1=>?_⟩
 cases R with
 |nx Y=>exact fun O Q=>⟨T,Y,rfl,Z,Q,h1⟩
 |rt d=>have q:=aA Z h1;exact q
 |bk Y=>have q:=aA Z h1;exact q
 |ct Y=>have q:=aA Z h1;exact q
def aH (h1:PS X st (tS X.K Ξ fs)):cP X [st] (tS X.K Ξ fs):=QV h1
def aY (he:PE X e (tE X.K Ξ f)):PS X (.Return (some e) pos) (tS X.K Ξ (aM f)):=jf (SG he) λD σ H Z=>by
 obtain⟨w,env,Y,S,W,h⟩:=Z;subst Y;exact⟨w,env,rfl,S,W,(Out.ao h).mono λT d R V U=>aA V U⟩
def l9 (he:PE X e (tE X.K Ξ f)) (hs:abd e none pos.line X.env=pure false:=by rfl):PS X (.Expr e pos) (tS X.K Ξ (gO f)):=jf (QW he hs) λD σ H Y=>by
 obtain⟨w,env,W,S,Z,h⟩:=Y;subst W;exact⟨w,env,rfl,S,Z,(Out.ao h).mono λR d V U T _ _=>aA U T σ (Z.le V)⟩
def cj (hc:PT X c (tT X.K Ξ ft)) (ha:cP X pR (tS X.K Ξ fs)) (hb:cP X Ca (tS X.K Ξ gs)):PS X (.If c pR Ca pos) (tS X.K Ξ (aZ ft fs gs)):=jf (UP hc ha hb) λD σ H T=>by
 obtain⟨w,env,R,S,Z,h⟩:=T;subst R;refine⟨w,env,rfl,S,Z,(Out.ao h).mono λY b W V U=>?_⟩
 cases b with
 |true=>exact⟨Y,env,rfl,V,Z.le W,U⟩
 |false=>exact⟨Y,env,rfl,V,Z.le W,U⟩
def gD (K:Ď) (g:D->Env->Option Env):TG:=λv σ H Q=>∃w env d Z,w.H=H/\aI K w/\bK K w env σ/\DV K w d v/\g d env=some Z/\∀ Y,bK K w Z Y->Q Y H
def u0 (K:Ď) (g:List D->Env->Option Env):ko:=λW σ H Q=>∃w env Z Y,w.H=H/\aI K w/\bK K w env σ/\aq K w Z W/\g Z env=some Y/\∀ X,bK K w Y X->Q X H
def Ip {t t':TG} (h:PG X e t) (i:∀v σ H Q,t' v σ H Q->t v σ H Q):PG X e t':=λZ s σ H v u Q I r Y=>h Z s σ H v u Q I r (i v σ H Q Y)
def Hr {t t':ko} (h:lD X es t) (i:∀v σ H Q,t' v σ H Q->t v σ H Q):lD X es t':=λZ s σ H v u Q I r Y=>h Z s σ H v u Q I r (i v σ H Q Y)
def fX (i:Nat) {x:Str} (hN:X.N.Nodup) (hi:X.N[i]?=some x:=by rfl) (hx:Loc X.env.scope x:=by first|exact aap rfl|exact Or.inr rfl) (hf:X.fn x=true\/X.env.scope.names.lookup x=some .local:=by first|exact .inl rfl|exact .inr rfl):PG X (.Name x pos) (gD X.K (gN i)) :=
 Ip (iT hN hi hx hf) λv σ H Q Z=>by
  obtain⟨w,env,d,Y,T,S,W,V,U,k⟩:=Z;have e:env.set i (some d)=Y:=abH U;subst e;exact k _ (W.set V i)
def wK:lD X [] (u0 X.K (gR [])):=Hr wb λR σ H Q W=>by
 obtain⟨w,env,Z,V,P,S,U,T,Y,k⟩:=W
 cases Z with
 |nil =>
  have e:env=V:=abH Y;subst e;exact⟨T,k _ U⟩
 |cons d Z=>cases Y
def kN {g:D->Env->Option Env} {gl:List (D->Env->Option Env)} (h1:PG X e (gD X.K g)) (h2:lD X es (u0 X.K (gR gl)))
  (hs:(ŭ (e::es) X.env).map (·.2)=abn e X.env::(ŭ es X.env).map (·.2):=by rfl):lD X (e::es) (u0 X.K (gR (g::gl))):=Hr (ox h1 h2 hs) λL σ H Q T=>by
 obtain⟨w,env,Y,R,V,S,P,O,Z,k⟩:=T
 cases Y with
 |nil=>cases Z
 |cons d Y =>
  obtain⟨v,r,rfl,N,dr⟩:=O;simp only[gR] at Z
  cases W:g d env with
  |none=>rw[W] at Z;cases Z
  |some U =>
   rw[W] at Z;refine⟨v,r,rfl,w,env,d,U,V,S,P,N,W,fun J M=>⟨w,U,Y,R,V,S,M,dr,Z,k⟩⟩
theorem zv:∀{gl:List (D->Env->Option Env)} {ds:List D} {env aD:Env},gR gl ds env=some aD->ds.length=gl.length
 | [],[],_,_,_=>rfl
 |g::gl,d::ds,env,aD,h=>by
  simp only[gR] at h
  cases Z:g d env with
  |none=>rw[Z] at h;cases h
  |some e1=>rw[Z] at h;simp[zv h]
 | [],_::_,_,_,h=>by cases h
 |_::_,[],_,_,h=>by cases h
def xq {gl:List (D->Env->Option Env)} {k:Nat} (hc:X.calm=true) (h:lD X es (u0 X.K (gR gl))) (hn:(ŭ es X.env).length=gl.length:=by rfl) (fS:(ŭ es X.env).findIdx? (·.1)=none:=by rfl):PG X (.Tuple es k pos) (gD X.K (gT gl)) :=
 Ip (oE hc h hn fS) λv σ H Q V=>by
  obtain⟨w,env,d,U,T,S,R,Y,Z,k⟩:=V
  cases d with
  |tup P =>
   simp only[DV] at Y;obtain⟨p,O,e1,N,W⟩:=Y;subst T;exact⟨p,O,e1,N,by rw[<- W.length];exact zv Z,w,env,P,U,rfl,S,R,W,Z,k⟩
  |_=>cases Z
def Aa {K:Ď} {g:D->Env->Option Env} (D:Ends) (σ:St) (H:Hp):tS K Ξ (bt f g) D σ H->qW (tE K Ξ f) (gD K g) D σ H:=by
 rintro ⟨w,env,rfl,S,X,h⟩;refine⟨w,env,rfl,S,X,(Out.ao h).mono λV d U W Z v T=>?_⟩
 cases Y:g d env with
 |none=>rw[Y] at Z;exact Z.elim
 |some R =>
  rw[Y] at Z;exact⟨V,env,d,R,rfl,W,X.le U,T,Y,aA W Z⟩
def xr {g:D->Env->Option Env} (he:PE X e (tE X.K Ξ f)) (hg:PG X tg (gD X.K g)) (hs:χ [tg] e pos.line X.env=pure false:=by rfl) (hw:ψ [tg] e X.env=pure none:=by rfl)
  (h1:(ŭ [tg] X.env).map (·.2)=[abn tg X.env]:=by rfl):PS X (.Assign [tg] e pos) (tS X.K Ξ (bt f g)):=jf (H0 he hg hs hw h1) Aa
def FY {K:Ď} {te:TE} {i:Nat} (D:Ends) (σ:St) (H:Hp):qW (tE K Ξ f) (gD K (gN i)) D σ H->qW (tE K Ξ f) (mi i) D σ H:=by
 rintro ⟨w,env,rfl,S,Z,h⟩;refine⟨w,env,rfl,S,Z,h.mono λP d O N Y v X=>?_⟩;obtain⟨M,W,V,U,L,J,T,R,Q,k⟩:=Y v X;have e:W.set i (some V)=U:=abH Q;subst e;exact k _ (T.set R i)
def cA (i:Nat) {x:Str} {pos':Pos} (hN:X.N.Nodup) (he:PE X e (tE X.K Ξ f)) (hi:X.N[i]?=some x:=by rfl) (hx:Loc X.env.scope x:=by first|exact aap rfl|exact Or.inr rfl) (hs:abd e (some (.Name x pos')) pos.line X.env=pure false:=by rfl) (hf:X.fn x=true\/X.env.scope.names.lookup x=some .local:=by first|exact .inl rfl|exact .inr rfl) :
  PS X (.Assign [.Name x pos'] e pos) (tS X.K Ξ (bt f (gN i))):=jf (SI hN hi hx he hs hf) λD σ H h=>FY (te:=tE X.K Ξ f) D σ H (Aa D σ H h)
def pS (K:Ď) (w:Wd) (J:It) (ds:List D):Prop:=∀Z,Le K w Z->aI K Z->∀i,
 (∀d,ds[i]?=some d->J.go i Z.H/\∀x X,J.rK i Z.H x X->∃Y,Y.H=X/\Le K Z Y/\aI K Y/\Y.ay=Z.ay/\DV K Y d x)/\(ds.length<=i->J.stop i Z.H)
def fF (K:Ď) (Ξ:Wd->aR->Prop) (f:abC (List D)):TI:=fun σ H R=>∃w env,w.H=H/\aI K w/\bK K w env σ/\Out K Ξ w (f env w.ay) λZ Y=>∀J,pS K Z J Y->R J Z.H
def wL {t t':TI} (h:PI X tg e t) (i:∀ σ H R,t' σ H R->t σ H R):PI X tg e t':=λZ s σ H R I Y=>h Z s σ H R I (i σ H R Y)
def Rt {K:Ď} {it:abC (List D)} {g:D->Env->Option Env} (D0:Ends) (σ:St) (H:Hp):tS K Ξ (ju it g fs) D0 σ H->J2 (fF K Ξ it) (gD K g) (tS K Ξ fs) D0 σ H:=by
 rintro ⟨w,env,rfl,S,B,h⟩;refine⟨w,env,rfl,S,B,(Out.ao h).mono λM Y p o n J A=>?_⟩;refine⟨λi m L z=>m=Y.length-i/\i<=Y.length/\∃X V,X.H=z/\Le K M X/\aI K X/\bK K X V L/\Out K Ξ X (kW g fs (Y.drop i) V X.ay) (xP K D0),
  ⟨Y.length,rfl,Ċ _,M,env,rfl,Le.refl _,o,B.le p,n⟩,?_⟩
 rintro i m L z ⟨rfl,hi,X,V,rfl,U,I,v,W⟩;by_cases G:i<Y.length
 ·right
  obtain⟨l,k⟩:=(A X U I i).1 _ (Ð G);rw[Ũ G] at W;simp only[kW] at W
  cases F:g Y[i] V with
  |none=>rw[F] at W;exact W.elim
  |some u =>
   rw[F] at W;refine⟨l,fun E T=>∃Z R,Z.H=T/\Le K M Z/\aI K Z/\bK K Z R E/\Out K Ξ Z (kW g fs (Y.drop (i+1)) R Z.ay) (xP K D0),fun E T ⟨Z,R,q⟩=>⟨Y.length-(i+1),by omega,rfl,G,Z,R,q⟩,λx T y=>?_⟩;obtain⟨Z,rfl,Q,t,es,j⟩:=k x T y;refine⟨Z,V,Y[i],u,rfl,t,v.le Q,j,F,fun E f=>⟨Z,u,rfl,t,f,?_⟩⟩;rw[<- es] at W;refine(Out.ao (W.from Q)).mono λs c r P O=>?_
   cases c with
   |nx N=>exact fun b C=>⟨s,N,rfl,U.trans (Q.trans r),P,C,O⟩
   |ct N=>exact fun b C=>⟨s,N,rfl,U.trans (Q.trans r),P,C,O⟩
   |bk N=>have q:=aA P O;exact q
   |rt d=>have q:=aA P O;exact q
 ·left
  have e:i=Y.length:=by omega
  subst e;rw[aa6] at W;exact⟨(A X U I _).2 (abG _),aA I W L v⟩
def nq {iter:ġ} {it:abC (List D)} {g:D->Env->Option Env} (hp:PassesOwn (ä X.prog X.w) X.A X.env X.xe) (hc:X.calm=true) (hi:PI X tg iter (fF X.K Ξ it)) (hg:PG X tg (gD X.K g)) (hb:cP X pR (tS X.K Ξ fs))
  (hs:∀x,ù iter X.env x=pure x:=by intro _;rfl):PS X (.For tg iter pR [] pos) (tS X.K Ξ (ju it g fs)):=jf (SM hp hc hi hg hb hs) Rt
theorem Out.ne {α:Type} {K:Ď} {w:Wd} {r:Res α} {k:Wd->α->Prop} (h:Out K Ξ w (DI.ne r) k):Out K bR w r k:=by
 match r,h with
 |some (.ok a,s),h=>exact h
def bK.block {K:Ď} {w:Wd} {env:Env} {σ:St} (h:bK K w env σ) (nt:Nat) (cap:List Nat) (o:St) (ho:o.length=nt):bK K w (Ñ nt none++gk cap env) (o++mj cap σ):=by
 refine⟨by simp[gk,mj,ho],λi d e=>?_⟩;by_cases hi:i<nt
 ·rw[Ü (by simpa using hi),ģ,ß hi] at e
  cases e
 ·rw[í (by simpa using Ż hi)] at e
  rw[í (by omega),ho];simp only[ο] at e;unfold gk at e;unfold mj;rw[î] at e |-
  cases Z:cap[i-nt]? with
  |none=>rw[Z] at e;cases e
  |some j =>
   rw[Z] at e;have ev:(env[j]?).getD none=some d:=abH e;have Y:env[j]?=some (some d):=by
    cases q:env[j]? with
    |none=>rw[q] at ev;cases ev
    |some z=>rw[q] at ev;exact Ķ some ev
   obtain⟨v,e1,e2⟩:=h.val j d Y;exact⟨v,by rw[ς,e1];rfl,e2⟩
def Oq {K:Ď} {nt:Nat} {cap:List Nat} {it:abC (List D)} {g:D->Env->Option Env} {fin:List D->aa->Res D} (σ:St) (H:Hp) (Q:VK)
  (Cb:∀(w2:Wd) (xs:List D) (vs:List V),aI K w2->aq K w2 xs vs->Out K Ξ w2 (fin xs w2.ay) (λw' d=>∀v,DV K w' d v->Q v w'.H)->∀p,w2.H p=none->Q (.ref p) (upd w2.H p (.lst vs))) :
  tE K Ξ (λenv s=>ao (it env s) λds s=>hZ ds (ao (fq nt (gk cap env) g ft f ds s) fin)) σ H Q->nj (fF K Ξ it) nt cap (gD K g) (tT K bR ft) (tE K bR f) σ H Q:=by
 rintro ⟨w,env,rfl,S,B,h⟩;refine⟨w,env,rfl,S,B,(Out.ao h).mono λN ds j c M J A=>?_⟩;obtain⟨hz,M⟩:=qi M;refine⟨λi m Y z=>m=ds.length-i/\i<=ds.length/\Y.length<=i/\∃w' Z,w'.H=z/\Le K N w'/\aI K w'/\aq K w' Z Y/\Out K Ξ w' (fq nt (gk cap env) g ft f (ds.drop i) w'.ay) λw2 xs=>∀vs,aq K w2 (Z++xs) vs->∀p,w2.H p=none->Q (.ref p) (upd w2.H p (.lst vs)),
  ⟨ds.length,rfl,Ċ _,Ċ _,N,[],rfl,Le.refl _,c,rfl,(Out.ao M).mono λw2 xs W P a vs O p U=>?_⟩,?_⟩
 ·exact Cb w2 xs vs P O a p U
 rintro i m Y z ⟨rfl,hi,ha,w',Z,rfl,T,L,I,X⟩;by_cases G:i<ds.length
 ·right
  obtain⟨fV,hy⟩:=(A w' T L i).1 _ (Ð G);rw[Ũ G] at X;simp only[fq] at X
  cases F:g ds[i] (Ñ nt none++gk cap env) with
  |none=>rw[F] at X;exact X.elim
  |some E =>
   rw[F] at X;refine⟨fV,by omega,λC u=>C.length<=i+1/\∃w' Z,w'.H=u/\Le K N w'/\aI K w'/\aq K w' Z C/\Out K Ξ w' (fq nt (gk cap env) g ft f (ds.drop (i+1)) w'.ay) λw2 xs=>∀vs,aq K w2 (Z++xs) vs->∀p,w2.H p=none->Q (.ref p) (upd w2.H p (.lst vs)),
    λC u ⟨De,q⟩=>⟨ds.length-(i+1),by omega,rfl,G,De,q⟩,λo x H3 ho y=>?_⟩
   obtain⟨w2,rfl,W,P,es,dv⟩:=hy x H3 y;refine⟨w2,_,ds[i],E,rfl,P,(B.le (j.trans (T.trans W))).block nt cap o ho,dv,F,fun lE t=>?_⟩;rw[<- es] at X;refine⟨w2,E,rfl,P,t,(Out.ao (X.from W)).ne.mono λr b R n l=>?_⟩
   cases b with
   |true =>
    refine⟨r,E,rfl,n,t.le R,(Out.ao l).ne.mono λw4 d k S4 h4 v uZ=>⟨by rw[Þ];simp;omega,w4,Z++[d],rfl,T.trans (W.trans (R.trans k)),S4,aq.append ((W.trans (R.trans k)).all I) (aq.one uZ),(Out.ao h4).mono λw5 xs l5 S5 h5 vs O p U=>?_⟩⟩;exact aA S5 h5 vs (by rw[Ů] at O;exact O) p U
   |false =>
    exact⟨by omega,r,Z,rfl,T.trans (W.trans R),n,(W.trans R).all I,l⟩
 ·left
  have e:i=ds.length:=by omega
  subst e;rw[aa6] at X;refine⟨(A w' T L _).2 (abG _),by omega,λp U=>aA L X Y (by rw[û];exact I) p U⟩
def Gs {K:Ď} {nt:Nat} {cap:List Nat} {it:abC (List D)} {g:D->Env->Option Env} (σ:St) (H:Hp) (Q:VK) :
  tE K Ξ (eh nt cap it g ft f) σ H Q->nj (fF K Ξ it) nt cap (gD K g) (tT K bR ft) (tE K bR f) σ H Q :=
 Oq σ H Q λX S W V U T p Y=>T (X.grow p (.lst W)) (Fw.grow Y).le (V.grow Y) rfl (.ref p) ⟨p,W,rfl,⟨(show ¬ X.Z p from l8 V Y),cx⟩,(Fw.grow Y).le.all U⟩
end
def Hs {o caps:St} {v:V} {i nt:Nat} (ho:o.length=nt) (hi:i<nt):(o++caps).set i (some v)=o.set i (some v)++caps:=by
 rw[List.set_append_left _ _ (by omega)]
def Ot {i nt:Nat} (hi:i<nt):mL (mi i) nt:=by
 intro x o Z H R Y h;exact⟨⟨o.set i (some x),by rw[ĉ];exact Y,Hs Y hi⟩,h⟩
def uh (g:ko) (nt:Nat):Prop:=∀(Y:List V) (o Z:St) (H:Hp) (R:St->Hp->Prop),o.length=nt->g Y (o++Z) H R->g Y (o++Z) H fun X U=>(∃W:St,W.length=nt/\X=W++Z)/\R X U
def PL:uh BX nt:=λX o Z H R Y h=>⟨h.1,⟨o,Y,rfl⟩,h.2⟩
def Ou {i nt:Nat} {g:ko} (hi:i<nt) (hg:uh g nt):uh (Bm (mi i) g) nt:=by
 rintro X o Z H R Y ⟨v,r,e,h⟩;refine⟨v,r,e,?_⟩;have h:g r ((o++Z).set i (some v)) H R:=h;show g r ((o++Z).set i (some v)) H _;rw[Hs Y hi] at h |-;exact hg r _ Z H R (by rw[ĉ];exact Y) h
def PM (hg:uh g nt):mL (BY K n g) nt:=by
 rintro x o Z H R X ⟨a,Y,e,W,V,h⟩;exact⟨a,Y,e,W,V,hg Y o Z H R X h⟩
structure Tg (K:Ď) (g0:TG) (g:D->Env->Option Env) (nt:Nat):Prop where
 kD:mL g0 nt
 imp:∀v σ H Q,gD K g v σ H Q->g0 v σ H Q
structure yu (K:Ď) (g0:ko) (g:List (D->Env->Option Env)) (nt:Nat):Prop where
 kD:uh g0 nt
 imp:∀v σ H Q,u0 K (gR g) v σ H Q->g0 v σ H Q
def qt (i:Nat) (hi:i<nt:=by decide):Tg K (mi i) (gN i) nt:=⟨Ot hi,λv σ H Q Z=>by
 obtain⟨w,env,d,Y,U,S,X,W,V,k⟩:=Z;have e:env.set i (some d)=Y:=abH V;subst e;exact k _ (X.set W i)⟩
def Ab:yu K BX [] nt:=⟨PL,λT σ H Q X=>by
 obtain⟨w,env,Z,W,R,S,V,U,Y,k⟩:=X
 cases Z with
 |nil =>
  have e:env=W:=abH Y;subst e;exact⟨U,k _ V⟩
 |cons d Z=>cases Y⟩
def qj (i:Nat) (h:yu K g0 gl nt) (hi:i<nt:=by decide):yu K (Bm (mi i) g0) (gN i::gl) nt:=⟨Ou hi h.kD,λP σ H Q X=>by
 obtain⟨w,env,Z,W,V,S,U,T,Y,k⟩:=X
 cases Z with
 |nil=>cases Y
 |cons d Z =>
  obtain⟨v,r,rfl,R,dr⟩:=T;exact⟨v,r,rfl,h.imp _ _ _ _ ⟨w,_,Z,W,V,S,U.set R i,dr,Y,k⟩⟩⟩
def AE (h:yu K g0 gl nt) (hn:gl.length=n:=by rfl):Tg K (BY K n g0) (gT gl) nt:=⟨PM h.kD,λv σ H Q W=>by
 obtain⟨w,env,d,V,U,S,T,Y,Z,k⟩:=W
 cases d with
 |tup R =>
  simp only[DV] at Y;obtain⟨p,P,e1,O,X⟩:=Y;subst U;exact⟨p,P,e1,O,by rw[<- X.length,zv Z];exact hn,h.imp _ _ _ _ ⟨w,env,R,V,rfl,S,T,X,Z,k⟩⟩
 |_=>cases Z⟩
section
variable {X:Cx} {Ξ:Wd->aR->Prop} {e a b c tg el src:ġ} {es rest tests:List ġ} {pos:Pos} {f g h:abC D} {fa:abC (List D)} {ft gt:abC Bool} {st:aaX} {pR Ca:List aaX} {fs gs:abC Fl}
def Tu (h:PF X tests t) (i:∀ σ H Q,t' σ H Q->t σ H Q):PF X tests t':=λZ s σ H Q I Y=>h Z s σ H Q I (i σ H Q Y)
def jm:PF X [] (tT K Ξ gC):=Tu Td fun σ H Q Z=>by
 obtain⟨w,env,Y,S,W,h⟩:=Z;subst Y;exact aA S h
def oP (h:PT X c (tT K Ξ ft)):PF X [c] (tT K Ξ ft):=Te h
def zd (i_:∀v σ H Q,g1 v σ H Q->g0 v σ H Q) (wm:∀R R':It->Hp->Prop,(∀J H',R J H'->R' J H')->wi σ H R->wi σ H R') (h:nj wi nt cap g1 tf te σ H Q):nj wi nt cap g0 tf te σ H Q:=by
 refine wm _ _ (λJ H' Y=>?_) h;obtain⟨W,X,step⟩:=Y;refine⟨W,X,λi m Z V hw=>?_⟩
 rcases step i m Z V hw with q | ⟨U,T,N,S,P⟩
 ·exact .inl q
 ·exact .inr ⟨U,T,N,S,λo x O M y=>i_ _ _ _ _ (P o x O M y)⟩
def Gu (R R':It->Hp->Prop) (i:∀J H',R J H'->R' J H') (h:fF K Ξ it σ H R):fF K Ξ it σ H R':=by
 obtain⟨w,env,Z,S,Y,h⟩:=h;exact⟨w,env,Z,S,Y,h.mono λV U _ _ X J W=>i J _ (X J W)⟩
def fe (f:abC D):abC (List D):=λenv s=>ao (f env s) λd s=>match d with
 | .lst Z=>ok Z s
 | .tup Z=>ok Z s
 |_=>none
def PN {K:Ď} {w:Wd} {a:Ø} {ds:List D} (h:DV K w (.lst ds) (.ref a)):pS K w (CD K a) ds:=λV U T i=>by
 have X:=U _ _ h;simp only[DV] at X;obtain⟨p,Z,e,Y,W⟩:=X;cases e;refine⟨λd S=>?_,λR=>⟨Z,Y.sq,by rw[<- W.length];exact R⟩⟩;obtain⟨v,ev,Q⟩:=W.get' i d S;exact⟨⟨Z,v,Y.sq,ev⟩,λx P ⟨e1,e2⟩=>⟨V,e1.symm,Le.refl _,T,rfl,by
  have q:=e2 Z Y.sq;rw[ev] at q;cases q;exact Q⟩⟩
def Ru {K:Ď} {w:Wd} {a:Ø} {ds:List D} (h:DV K w (.tup ds) (.ref a)):pS K w (CF K a) ds:=λV U T i=>by
 have X:=U _ _ h;simp only[DV] at X;obtain⟨p,Z,e,Y,W⟩:=X;cases e;refine⟨λd S=>?_,λR=>⟨Z,Y,by rw[<- W.length];exact R⟩⟩;obtain⟨v,ev,Q⟩:=W.get' i d S;exact⟨⟨Z,v,Y,ev⟩,λx P ⟨e1,e2⟩=>⟨V,e1.symm,Le.refl _,T,rfl,by
  have q:=e2 Z Y;rw[ev] at q;cases q;exact Q⟩⟩
def jn (hl:PE X a (tE X.K Ξ f)):PI X tg a (fF X.K Ξ (fe f)):=by
 have both:PI X tg a (fun σ H R=>Jj X.K (tE X.K Ξ f) σ H R\/J1 X.K (tE X.K Ξ f) σ H R):=λN s σ H R I h=>h.elim (QX hl N s σ H R I) (SK hl N s σ H R I);refine wL both fun σ H R ⟨w,env,M,S,W,h⟩=>?_;subst M;simp only[fe] at h
 cases Y:f env w.ay with
 |none=>rw[Y] at h;exact h.elim
 |some r =>
  obtain⟨r,s⟩:=r;rw[Y] at h
  cases r with
  |error x=>exact .inl ⟨w,env,rfl,S,W,by rw[Y];exact h⟩
  |ok d =>
   rw[dG] at h
   cases d with
   |lst L =>
    refine .inl ⟨w,env,rfl,S,W,?_⟩;rw[Y];intro V U T e1 v Z;have Q:=Z;simp only[DV] at Z;obtain⟨p,P,rfl,O,J⟩:=Z;exact⟨p,rfl,⟨P,O.sq⟩,h V U T e1 _ (PN Q)⟩
   |tup L =>
    refine .inr ⟨w,env,rfl,S,W,?_⟩;rw[Y];intro V U T e1 v Z;have Q:=Z;simp only[DV] at Z;obtain⟨p,P,rfl,O,J⟩:=Z;exact⟨p,rfl,⟨P,O⟩,h V U T e1 _ (Ru Q)⟩
   |_=>exact h.elim
noncomputable def dw (lo:Int) (n:Nat):List D:=(č n).map λ(i:Nat)=>D.int (lo+(i:Int))
def mZ:(dw lo n)[i]?=if i<n then some (.int (lo+i)) else none:=by
 unfold dw;rw[î];by_cases h:i<n
 ·rw[aah h,ß h];rfl
 ·rw[ĳ (by simp;omega),è h];rfl
def je:(dw lo n).length=n:=by simp[dw]
def Ht:pS K w (uC lo n) (dw lo n):=λX V W i=>by
 refine⟨λd Z=>?_,λY=>by rw[je] at Y;exact Y⟩;rw[mZ] at Z;split at Z
 ·cases Z
  exact⟨by assumption,λx U ⟨e1,e2⟩=>⟨X,e1.symm,Le.refl _,W,rfl,e2⟩⟩
 ·cases Z
noncomputable def kX (j:Int):Bool:=decide (-(2 ^ 62)<=j)&&decide (j<2 ^ 62)
def f9 (fa:abC (List D)):abC (List D):=λenv s=>ao (fa env s) λZ s=>match Z with
 | [.int j]=>if kX j=true then ok (dw 0 j.toNat) s else none
 |_=>none
def yv (fa:abC (List D)):abC (List D):=λenv s=>ao (fa env s) λZ s=>match Z with
 | [.int i,.int j]=>if (kX i&&kX j)=true then ok (dw i (j-i).toNat) s else none
 |_=>none
def jg (hg:Gl X "range") (hm:X.mg "range"=none) (ha:PA X [a] (tA X.K Ξ fa)) (hs:Ê [a] X.env=[(false,ĩ a X.env)]:=by rfl):PI X tg (.Call (.Name "range" p) [a] [] pos) (fF X.K Ξ (f9 fa)) :=
 wL (N7 hg hm ha hs) fun σ H R W=>by
  obtain⟨w,env,V,S,U,h⟩:=W;subst V;refine⟨w,env,rfl,S,U,(Out.ao h).mono λO N M T Z L Q=>?_⟩;split at Z
  ·rename_i j
   split at Z
   ·rename_i Y
    simp only[kX,Æ,Ì] at Y;obtain⟨v,r,rfl,P,dr⟩:=Q;have e1:v=.int j:=P;have e2:r=[]:=dr;subst e1 e2;exact⟨j,rfl,Y.1,Y.2,aA T Z _ Ht⟩
   ·exact Z.elim
  ·exact Z.elim
def Tv {p:Pos} (hg:Gl X "range") (hm:X.mg "range"=none) (ha:PA X [a,b] (tA X.K Ξ fa)) (hs:Ê [a,b] X.env=[(false,ĩ a X.env),(false,ĩ b X.env)]:=by rfl) (cI:Ê [b] X.env=[(false,ĩ b X.env)]:=by rfl):PI X tg (.Call (.Name "range" p) [a,b] [] pos) (fF X.K Ξ (yv fa)) :=
 wL (N8 hg hm ha hs cI) fun σ H R W=>by
  obtain⟨w,env,V,S,U,h⟩:=W;subst V;refine⟨w,env,rfl,S,U,(Out.ao h).mono λL J I T Z G Q=>?_⟩;split at Z
  ·rename_i i j
   split at Z
   ·rename_i Y
    simp only[kX,Æ,Ì] at Y;obtain⟨v,r,rfl,P,v2,O,rfl,N,dr⟩:=Q;have e1:v=.int i:=P;have e2:v2=.int j:=N;have M:O=[]:=dr;subst e1 e2 M;exact⟨i,j,rfl,⟨Y.1.1,Y.1.2,Y.2.1,Y.2.2⟩,aA T Z _ Ht⟩
   ·exact Z.elim
  ·exact Z.elim
noncomputable def fz (xs ys:List D):List D:=(xs.zip ys).map λp=>.tup [p.1,p.2]
def Gv {i:Nat} (h:(fz xs ys)[i]?=some d):∃x y,xs[i]?=some x/\ys[i]?=some y/\d=.tup [x,y]:=by
 unfold fz at h;rw[î] at h
 cases Z:(xs.zip ys)[i]? with
 |none=>rw[Z] at h;cases h
 |some p =>
  rw[Z] at h;obtain⟨Y,X⟩:=List.getElem?_zip_eq_some.mp Z;exact⟨p.1,p.2,Y,X,(abH h).symm⟩
def sv:(fz xs ys).length=min xs.length ys.length:=by simp[fz]
def FZ (S':aI K w') (hp:w'.H p=none) (h1:DV K w' d x) (h2:DV K w' d2 y) :
  ∃w2,w2.H=upd w'.H p (.tup [x,y])/\Le K w' w2/\aI K w2/\w2.ay=w'.ay/\DV K w2 (.tup [d,d2]) (.ref p) :=
 ⟨w'.grow p (.tup [x,y]),rfl,(Fw.grow hp).le,S'.grow hp,rfl,p,[x,y],rfl,bC.of cx,(Fw.grow hp).le.all (aq.two h1 h2)⟩
@[reducible] noncomputable def Dg:Bool->List D->D
 |true=>.tup
 |false=>.lst
def Js {K:Ď} {w:Wd} {a:Ø} {ds:List D}:∀{k},DV K w (Dg k ds) (.ref a)->∃xs,ja k K w.H a xs/\aq K w ds xs
 |true,h=>by
  simp only[DV] at h;obtain⟨p,xs,e,Z,Y⟩:=h;cases e;exact⟨xs,Z,Y⟩
 |false,h=>by
  simp only[DV] at h;obtain⟨p,xs,e,Z,Y⟩:=h;cases e;exact⟨xs,Z.sq,Y⟩
def PQ {k l:Bool} {K:Ď} {w:Wd} {a b:Ø} {ds es:List D} (h:DV K w (Dg k ds) (.ref a)) (g:DV K w (Dg l es) (.ref b)):pS K w (t9 k l K a b) (fz ds es):=λF V P i=>by
 obtain⟨Z,Y,U⟩:=Js (V _ _ h);obtain⟨X,W,T⟩:=Js (V _ _ g);refine⟨λd O=>?_,λN=>⟨Z,X,Y,W,?_⟩⟩
 ·obtain⟨x,y,e1,e2,rfl⟩:=Gv O
  obtain⟨v,ev,M⟩:=U.get' i x e1;obtain⟨u,S,L⟩:=T.get' i y e2;refine⟨⟨Z,X,v,u,Y,W,ev,S⟩,λz E ⟨r,C,y1,J,I,H,G⟩=>?_⟩;obtain⟨R,Q⟩:=G Z X Y W;rw[ev] at R;rw[S] at Q;cases R;cases Q;subst I H;exact FZ P J M L
 ·rw[sv] at N
  have:=U.length;have:=T.length;omega
def Gw {K:Ď} {w:Wd} {a b:Ø} {ds es:List D} (h:DV K w (.tup ds) (.ref a)) (g:DV K w (.tup es) (.ref b)):pS K w (WL K a b) (fz ds es):=PQ (k:=true) (l:=true) h g
def o9 (fa:abC (List D)):abC (List D):=λenv s=>ao (fa env s) λZ s=>match Z with
 | [.tup Y,.tup X]=>ok (fz Y X) s
 |_=>none
def Vj {p:Pos} {elts:List ġ} {kk:Nat} {oY:Pos} (hg:Gl X "zip") (hm:X.mg "zip"=none) (ha:PA X [a,b] (tA X.K Ξ fa)) (hs:Ê [a,b] X.env=[(false,ĩ a X.env),(false,ĩ b X.env)]:=by rfl) (cI:Ê [b] X.env=[(false,ĩ b X.env)]:=by rfl) :
  PI X (.Tuple elts kk oY) (.Call (.Name "zip" p) [a,b] [] pos) (fF X.K Ξ (o9 fa)):=by
 refine wL (zW hg hm ha hs cI) fun σ H R U=>?_;obtain⟨w,env,T,S,Q,h⟩:=U;subst T;refine⟨w,env,rfl,S,Q,(Out.ao h).mono λF E D P h C O=>?_⟩;split at h
 ·obtain⟨v,r,rfl,Z,v2,N,rfl,Y,dr⟩:=O
  have M:N=[]:=dr;subst M;have W:=Z;have V:=Y;simp only[DV] at W V;obtain⟨p,L,rfl,J,_⟩:=W;obtain⟨q,I,rfl,G,_⟩:=V;exact⟨p,q,L,I,rfl,J,G,aA P h _ (Gw Z Y)⟩
 ·exact h.elim
def aS (fn:List D->aa->Res D) (fa:abC (List D)):abC D:=λenv s=>ao (fa env s) λZ s=>ne (fn Z s)
def AF {k:Nat} {fA:Ø} {fd:Ė} {u5:List Str} {fn:List D->aa->Res D} {x:Str} {p:Pos} (F:cB X.prog X.w X.K X.mg X.base dA k fA fd u5 (jF X.K fn)) (hr:bp k X.A) (hg:Gl X x) (hm:X.mg x=some (.ref fA)) (hk:ľ X.K (.ref fA)=true) (hb:Binds X.K fd u5 [])
  (ha:PA X (e::es) (tA X.K Ξ fa)) (dh:(x==("__debug__":Str))=false:=by decide) (he:Ê (e::es) X.env=(false,ĩ e X.env)::Ê es X.env:=by rfl) (bH:(ħ pos (Ê es X.env)).any (·.1)=false:=by rfl) :
  PE X (.Call (.Name x p) (e::es) [] pos) (tE X.K Ξ (aS fn fa)):=b9 (He F hr hg hm hk hb .nil U8 ha dh he bH) fun σ H Q Y=>by
 obtain⟨w,env,W,S,V,h⟩:=Y;subst W;refine⟨w,env,rfl,S,V,(Out.ao h).mono λZ U N T R P O=>?_⟩;show jF X.K fn (P++[]) Z.H Q E0;rw[û];exact⟨Z,U,rfl,T,O,R.ne⟩
def aq.env (h:aq K w ds vs) (n:Nat):bK K w (ds.map some++Ñ (n-ds.length) none) (vs.map some++Ñ (n-vs.length) none):=by
 have Y:=h.length;refine⟨by simp[Y],λi d e=>?_⟩;by_cases hi:i<ds.length
 ·rw[Ü (by simpa using hi),î] at e
  rw[Ü (by simp;omega),î]
  cases Z:ds[i]? with
  |none=>rw[Z] at e;cases e
  |some W =>
   rw[Z] at e;cases e;obtain⟨v,ev,X⟩:=h.get' i d Z;exact⟨v,by rw[ev];rfl,X⟩
 ·rw[í (by simpa using Ż hi),ģ] at e
  split at e<;>cases e
end
def Jt (F:nO K x qual st f fd) (S:oz N ps (bX st))
 (hb:∀(aO:Å) (A:ê) (outer:List PySem.Env) (s:Ä) (H:Hp) (E:XK),bp k (A.deeper (į qual (bX st) s.heap.objs.size f aO))->cP (gr dA P w K mg base N qual (bX st) f aO A outer s H E).mK (fH st) (tS K bR b)) :
  cB P w K mg base dA (k+1) f fd ps (jF K (aN ps.length N.length b)):=by
 refine F.ok S (λW H Q E h=>?_) (λaO A outer s H W Q E V h=>?_)
 ·obtain⟨w,U,rfl,S,Y,h⟩:=h
  rw[<- Y.length];unfold aN at h;split at h
  ·assumption
  ·exact h.elim
 ·obtain⟨w,U,rfl,S,Y,h⟩:=h
  refine⟨_,hb aO A outer s w.H E V,?_⟩;unfold aN at h;split at h
  ·rename_i T
   rw[<- T] at h;refine⟨w,_,rfl,S,Y.env N.length,(Out.ao h).mono λO R M X Z=>?_⟩
   cases R with
   |nx env=>intro L _;exact aA X Z _ rfl
   |rt d=>have q:=aA X Z;exact q
   |bk env=>exact Z.elim
   |ct env=>exact Z.elim
  ·exact h.elim
mutual
noncomputable def py:D->aao
 | .ar=>.none
 | .bl b=>.bool b
 | .int i=>.int i
 | .str x=>.str x
 | .tup Z=>.tuple (ff Z)
 | .lst Z=>.list (ff Z)
 | .bQ Y=>.dict (Y.map λp=>(t6 p.1,PyData.int p.2))
 | .aj _=>.none
 | .ty _=>.none
 | .bO _=>.none
 | .exc _ _=>.none
 | .cD _ _ _=>.none
noncomputable def ff:List D->List aao
 | []=>[]
 |d::Z=>py d::ff Z
end
mutual
noncomputable def plain:D->Bool
 | .ar=>true
 | .bl _=>true
 | .int _=>true
 | .str _=>true
 | .tup Z=>oG Z
 | .lst Z=>oG Z
 | .bQ _=>true
 | .aj _=>false
 | .ty _=>false
 | .bO _=>false
 | .exc _ _=>false
 | .cD _ _ _=>false
noncomputable def oG:List D->Bool
 | []=>true
 |d::Z=>plain d&&oG Z
end
mutual
noncomputable def lay:D->Bool
 | .ar=>true
 | .bl _=>true
 | .int _=>true
 | .str x=>ŵ x
 | .tup Z=>cM Z
 | .lst Z=>cM Z
 | .bQ _=>false
 | .aj _=>false
 | .ty _=>false
 | .bO _=>false
 | .exc _ _=>false
 | .cD _ _ _=>false
noncomputable def cM:List D->Bool
 | []=>true
 |d::Z=>lay d&&cM Z
end
mutual
noncomputable def dep:D->Nat
 | .tup Z=>cH Z+1
 | .lst Z=>cH Z+1
 | .bQ Y=>1
 | .ar=>0
 | .bl _=>0
 | .int _=>0
 | .str _=>0
 | .aj _=>0
 | .ty _=>0
 | .bO _=>0
 | .exc _ _=>0
 | .cD _ _ _=>0
noncomputable def cH:List D->Nat
 | []=>0
 |d::Z=>max (dep d) (cH Z)
end
mutual
noncomputable def beq:D->D->Bool
 | .ar,.ar=>true
 | .bl a,.bl b=>a==b
 | .bl a,.int j=>(if a then 1 else 0)==j
 | .int i,.bl b=>i==(if b then 1 else 0)
 | .int i,.int j=>i==j
 | .str x,.str y=>x==y
 | .tup Z,.tup Y=>dH Z Y
 | .lst Z,.lst Y=>dH Z Y
 |_,_=>false
noncomputable def dH:List D->List D->Bool
 | [],[]=>true
 |x::Z,y::Y=>beq x y&&dH Z Y
 |_,_=>false
end
mutual
theorem ou:∀(d:D),lay d=true->plain d=true
 | .ar,_=>rfl
 | .bl _,_=>rfl
 | .int _,_=>rfl
 | .str _,_=>rfl
 | .tup Z,h=>by simp only[lay,plain] at h |-;exact oq Z h
 | .lst Z,h=>by simp only[lay,plain] at h |-;exact oq Z h
 | .bQ _,h=>by simp[lay] at h
 | .aj _,h=>by simp[lay] at h
 | .ty _,h=>by simp[lay] at h
 | .bO _,h=>by simp[lay] at h
 | .exc _ _,h=>by simp[lay] at h
 | .cD _ _ _,h=>by simp[lay] at h
theorem oq:∀(ds:List D),cM ds=true->oG ds=true
 | [],_=>rfl
 |d::ds,h=>by
  simp only[cM,oG,Æ] at h |-;exact⟨ou d h.1,oq ds h.2⟩
end
mutual
theorem jQ:∀(d:D),lay d=true->(py d).canLay0=true/\(py d).depth=dep d
 | .ar,_=>⟨rfl,by simp[py,dep,PyData.depth]⟩
 | .bl _,_=>⟨rfl,by simp[py,dep,PyData.depth]⟩
 | .int _,_=>⟨rfl,by simp[py,dep,PyData.depth]⟩
 | .str _,h=>⟨h,by simp[py,dep,PyData.depth]⟩
 | .tup Z,h=>by
  obtain⟨Y,X⟩:=sy Z (by simpa [lay] using h);simp only[py,dep,PyData.depth,PyData.canLay0];exact⟨Y,by rw[X]⟩
 | .lst Z,h=>by
  obtain⟨Y,X⟩:=sy Z (by simpa [lay] using h);simp only[py,dep,PyData.depth,PyData.canLay0];exact⟨Y,by rw[X]⟩
 | .bQ _,h=>by simp[lay] at h
 | .aj _,h=>by simp[lay] at h
 | .ty _,h=>by simp[lay] at h
 | .bO _,h=>by simp[lay] at h
 | .exc _ _,h=>by simp[lay] at h
 | .cD _ _ _,h=>by simp[lay] at h
theorem sy:∀(ds:List D),cM ds=true->PyData.canLayAll0 (ff ds)=true/\ń (ff ds)=cH ds
 | [],_=>⟨rfl,rfl⟩
 |d::ds,h=>by
  simp only[cM,Æ] at h;obtain⟨a1,a2⟩:=jQ d h.1;obtain⟨Z,Y⟩:=sy ds h.2;simp only[ff,cH,PyData.canLayAll0,ń,a1,Z,a2,Y,ī,Ĭ]
end
mutual
theorem qH:∀(d e:D),lay d=true->lay e=true->Ġ (py d) (py e)=beq d e
 | .tup Z,.tup Y,h,g=>by
  simp only[py,beq,Ġ];exact zw Z Y (by simpa [lay] using h) (by simpa [lay] using g)
 | .lst Z,.lst Y,h,g=>by
  simp only[py,beq,Ġ];exact zw Z Y (by simpa [lay] using h) (by simpa [lay] using g)
 | .ar,e,_,g=>by cases e<;>simp_all [py,beq,Ġ,lay]
 | .bl _,e,_,g=>by cases e<;>simp_all [py,beq,Ġ,lay]
 | .int _,e,_,g=>by cases e<;>simp_all [py,beq,Ġ,lay]
 | .str _,e,_,g=>by cases e<;>simp_all [py,beq,Ġ,lay]
 | .tup _,.ar,_,_=>by simp[py,beq,Ġ]
 | .tup _,.bl _,_,_=>by simp[py,beq,Ġ]
 | .tup _,.int _,_,_=>by simp[py,beq,Ġ]
 | .tup _,.str _,_,_=>by simp[py,beq,Ġ]
 | .tup _,.lst _,_,_=>by simp[py,beq,Ġ]
 | .lst _,.ar,_,_=>by simp[py,beq,Ġ]
 | .lst _,.bl _,_,_=>by simp[py,beq,Ġ]
 | .lst _,.int _,_,_=>by simp[py,beq,Ġ]
 | .lst _,.str _,_,_=>by simp[py,beq,Ġ]
 | .lst _,.tup _,_,_=>by simp[py,beq,Ġ]
 | .bQ _,_,h,_=>by simp[lay] at h
 | .aj _,_,h,_=>by simp[lay] at h
 | .ty _,_,h,_=>by simp[lay] at h
 | .bO _,_,h,_=>by simp[lay] at h
 | .exc _ _,_,h,_=>by simp[lay] at h
 | .cD _ _ _,_,h,_=>by simp[lay] at h
 |_,.bQ _,_,h=>by simp[lay] at h
 |_,.aj _,_,h=>by simp[lay] at h
 |_,.ty _,_,h=>by simp[lay] at h
 |_,.bO _,_,h=>by simp[lay] at h
 |_,.exc _ _,_,h=>by simp[lay] at h
 |_,.cD _ _ _,_,h=>by simp[lay] at h
theorem zw:∀(ds es:List D),cM ds=true->cM es=true->PyData.eqvAll (ff ds) (ff es)=dH ds es
 | [],[],_,_=>rfl
 | [],_::_,_,_=>rfl
 |_::_,[],_,_=>rfl
 |d::ds,e::es,h,g=>by
  simp only[cM,Æ] at h g;simp only[ff,dH,PyData.eqvAll,qH d e h.1 g.1,zw ds es h.2 g.2]
end
mutual
theorem DV.py:∀{d:D} {v:V},DV K w d v->plain d=true->L2.DV K (λ_=>False) w.H (DI.py d) v
 | .ar,_,h,_=>h
 | .bl _,_,h,_=>h
 | .int _,_,h,_=>h
 | .str _,_,h,_=>h
 | .tup X,v,h,p=>by
  simp only[DV] at h;obtain⟨a,Y,e,Z,r⟩:=h;simp only[DI.py,L2.DV];exact⟨a,Y,e,Z,aq.py r (by simpa [plain] using p)⟩
 | .lst X,v,h,p=>by
  simp only[DV] at h;obtain⟨a,Y,e,Z,r⟩:=h;simp only[DI.py,L2.DV];exact⟨a,Y,e,not_false,Z.2,aq.py r (by simpa [plain] using p)⟩
 | .bQ W,v,h,p=>by
  simp only[DV] at h;obtain⟨a,e,U,Z⟩:=h;simp only[DI.py,L2.DV];exact⟨a,_,e,not_false,Z,W,rfl,rfl⟩
 | .aj _,_,_,p=>by simp[plain] at p
 | .ty _,_,_,p=>by simp[plain] at p
 | .bO _,_,_,p=>by simp[plain] at p
 | .exc _ _,_,_,p=>by simp[plain] at p
 | .cD _ _ _,_,_,p=>by simp[plain] at p
theorem aq.py:∀{ds:List D} {vs:List V},aq K w ds vs->oG ds=true->L2.aq K (λ_=>False) w.H (DI.ff ds) vs
 | [],_,h,_=>h
 |d::ds,vs,h,p=>by
  simp only[aq] at h;obtain⟨v,r,e,Z,Y⟩:=h;simp only[oG,Æ] at p;exact⟨v,r,e,DV.py Z p.1,aq.py Y p.2⟩
end
def res (d:D) (s:aa):D:=match d with
 | .aj k=>match s[k]? with
  |some (.lst Z)=>.lst Z
  |_=>d
 |_=>d
theorem DV.res (S:aI K w) (h:DV K w d v) (p:plain (DI.res d w.ay)=true):L2.DV K (λ_=>False) w.H (DI.py (DI.res d w.ay)) v:=by
 cases d with
 |aj k =>
  unfold DI.res at p |-;simp only at p |-
  split at p<;>rename_i Z
  ·rename_i V
   obtain⟨a,e1,rfl⟩:=h;obtain⟨Y,X,W⟩:=S.cell k a _ e1 Z;simp only[DI.py,L2.DV];exact⟨a,Y,rfl,not_false,X,W.py (by simpa [plain] using p)⟩
  ·simp[plain] at p
 |_=>exact h.py p
noncomputable def iO:D->Bool
 | .str _=>true
 |_=>false
def Tw (h:iO d=true):∃x,d=.str x:=by cases d<;>first|exact⟨_,rfl⟩|cases h
def gm (x y:D):Option Bool:=if (iO x&&iO y)=true then some (beq x y) else if (lay x&&lay y&&decide (min (dep x) (dep y)<=100))=true then some (beq x y) else none
def bq (x y:D) (s:aa):Res D:=match gm (res x s) (res y s) with
 |some b=>ok (.bl b) s
 |none=>none
def bP (x y:D) (s:aa):Res D:=match gm (res x s) (res y s) with
 |some b=>ok (.bl (!b)) s
 |none=>none
def Hu (S:aI K w) (hx:DV K w x v) (hy:DV K w y u) (h:gm (res x w.ay) (res y w.ay)=some b) :
  (B1 v u=true/\decide (v=u)=b)\/∃(d e:aao),L2.DV K (λ_=>False) w.H d v/\L2.DV K (λ_=>False) w.H e u/\d.canLay0=true/\e.canLay0=true/\min d.depth e.depth<=100/\Ġ d e=b:=by
 have str:∀{d:D} {v:V},iO (res d w.ay)=true->DV K w d v->∃x,res d w.ay=.str x/\v=.str x:=λ{d v} hs W=>by
  obtain⟨x,e⟩:=Tw hs
  cases d with
  |str y=>cases e;exact⟨x,rfl,W⟩
  |aj k =>
   unfold res at e;simp only at e
   split at e<;>cases e
  |_=>cases e
 unfold gm at h;split at h
 ·rename_i hs
  rw[Æ] at hs;obtain⟨a,U,rfl⟩:=str hs.1 hx;obtain⟨c,T,rfl⟩:=str hs.2 hy;rw[U,T] at h;exact .inl ⟨rfl,by rw[<- abH h];exact zR⟩
 split at h
 ·rename_i X
  right;simp only[Æ,Ì] at X;obtain⟨⟨Z,Y⟩,R⟩:=X;obtain⟨Q,P⟩:=jQ _ Z;obtain⟨O,N⟩:=jQ _ Y;exact⟨_,_,hx.res S (ou _ Z),hy.res S (ou _ Y),Q,O,by rw[P,N];exact R,by rw[qH _ _ Z Y];exact abH h⟩
 ·cases h
section
variable {X:Cx} {Ξ:Wd->aR->Prop}
def cU (hr:bp k X.A):bG X (Ě .Eq) (rO X.K Ξ bq):=by
 rintro W s σ H x y v u Q I V U ⟨w,J,G,rfl,S,T,R,h⟩;unfold bq at h;split at h
 ·rename_i b P
  rcases Hu S T R P with ⟨Z,Y⟩ | ⟨d,e,Z,Y,O,N,M,L⟩
  ·exact UU W s σ w.H x y v u Q I V U ⟨Z,by rw[Y];exact aA S h _ rfl⟩
  exact Tj hr W s σ w.H x y v u Q I V U ⟨d,e,_,Z,Y,O,N,M,by simp only[Â,é];rw[L];exact aA S h _ rfl⟩
 ·exact h.elim
def gU (hr:bp k X.A):bG X (Ě .NotEq) (rO X.K Ξ bP):=by
 rintro W s σ H x y v u Q I V U ⟨w,J,G,rfl,S,T,R,h⟩;unfold bP at h;split at h
 ·rename_i b P
  rcases Hu S T R P with ⟨Z,Y⟩ | ⟨d,e,Z,Y,O,N,M,L⟩
  ·exact Jk W s σ w.H x y v u Q I V U ⟨Z,by rw[Y];exact aA S h _ rfl⟩
  exact Tn hr W s σ w.H x y v u Q I V U ⟨d,e,_,Z,Y,O,N,M,by simp only[ð];rw[L];exact aA S h _ rfl⟩
 ·exact h.elim
end
end DI
namespace DI
open PySem L2
def bT (r:Option D) (s:aa):Res D:=match r with
 |some d=>ok d s
 |none=>none
def fm (h:Out K Ξ w (bT r w.ay) k):∃d,r=some d/\Out K Ξ w (ok d w.ay) k:=by
 unfold bT at h;split at h
 ·exact⟨_,rfl,h⟩
 ·exact h.elim
noncomputable def lp (xs ys:List D):Bool:=decide (xs.length+ys.length<=Ú)
def rb:D->D->Option D
 | .int i,.int j=>some (.int (i+j))
 | .tup Z,.tup Y=>if lp Z Y=true then some (.tup (Z++Y)) else none
 | .lst Z,.lst Y=>if lp Z Y=true then some (.lst (Z++Y)) else none
 | .str x,.str y=>if decide (x.length+y.length<=Ú)=true then some (.str (x++y)) else none
 |_,_=>none
def cE (x y:D) (s:aa):Res D:=bT (rb (res x s) (res y s)) s
noncomputable def Ke:D->D->Option D
 | .int i,.int j=>some (.int (i-j))
 |_,_=>none
def tG (x y:D) (s:aa):Res D:=bT (Ke x y) s
noncomputable def tH (i j:Int):Bool:=(decide (-(2 ^ 64)<i)&&decide (i<2 ^ 64))||(decide (-(2 ^ 64)<j)&&decide (j<2 ^ 64))
def Cc:D->D->Option D
 | .int i,.int j=>if tH i j=true then some (.int (i*j)) else none
 | .tup Z,.int k=>if (!Z.isEmpty&&decide (1<=k)&&decide (Z.length*k.toNat<=Ú))=true then some (.tup (Ñ k.toNat Z).flatten) else none
 | .lst Z,.int k=>if (decide (-(2 ^ 63)<=k)&&decide (k<2 ^ 63)&&decide (Z.length*k.toNat<=Ú))=true then some (.lst (Ñ k.toNat Z).flatten) else none
 |_,_=>none
def df (x y:D) (s:aa):Res D:=bT (Cc x y) s
noncomputable def Cd:D->D->Option D
 | .int i,.int j=>if decide (0<j)=true then some (.int (i % j)) else none
 |_,_=>none
def gP (x y:D) (s:aa):Res D:=bT (Cd x y) s
noncomputable def Ce:D->D->Option D
 | .int i,.int j=>if (decide (0<j)&&decide (j<1073741824))=true then some (.int (i / j)) else none
 |_,_=>none
def oQ (x y:D) (s:aa):Res D:=bT (Ce x y) s
noncomputable def Cf:D->D->Option D
 | .int i,.int j=>if (decide (0<=j)&&decide (j<=1000000)&&decide (i.natAbs<2 ^ 64))=true then some (.int (i ^ j.toNat)) else none
 |_,_=>none
def qQ (x y:D) (s:aa):Res D:=bT (Cf x y) s
noncomputable def Kf:D->Option D
 | .int i=>some (.int (-i))
 |_=>none
def kY (x:D) (s:aa):Res D:=bT (Kf x) s
theorem aq.flat (h:aq K w ds vs):∀n:Nat,aq K w (Ñ n ds).flatten (Ñ n vs).flatten
 |0=>rfl
 |n+1=>by
  rw[Ģ,Ģ,ļ,ļ];exact aq.append h (aq.flat h n)
def gK (S:aI K w) (h:DV K w d v) (e:res d w.ay=.lst ds):∃a xs,v=.ref a/\w.H a=some (.lst xs)/\aq K w ds xs:=by
 unfold res at e;split at e
 ·rename_i k
  split at e
  ·rename_i V Z
   cases e;obtain⟨a,e1,rfl⟩:=h;obtain⟨xs,Y,X⟩:=S.cell k a _ e1 Z;exact⟨a,xs,rfl,Y,X⟩
  ·cases e
 ·subst e
  simp only[DV] at h;obtain⟨a,xs,e,W,r⟩:=h;exact⟨a,xs,e,W.2,r⟩
def dP (h:res d s=e) (hl:∀ds,e≠.lst ds):d=e:=by
 unfold res at h;split at h
 ·split at h
  ·exact absurd h.symm (hl _)
  ·exact h
 ·exact h
section
variable {X:Cx} {Ξ:Wd->aR->Prop}
def ua (S:aI K w) (ai:aq K w ds vs) (h:Out K Ξ w (ok (D.tup ds) w.ay) λw' d=>∀v,DV K w' d v->Q v w'.H):nD K w.H vs Q:=λa Z e Y =>
 h (w.same Z) (Fw.same e).le (S.same e) rfl (.ref a) ⟨a,vs,rfl,Y,(Fw.same e).le.all ai⟩
def xS {K:Ď} {w:Wd} {ds:List D} {vs:List V} {Q:VK} (S:aI K w) (ai:aq K w ds vs) (h:Out K Ξ w (ok (D.lst ds) w.ay) λw' d=>∀v,DV K w' d v->Q v w'.H):∀p,w.H p=none->Q (.ref p) (upd w.H p (.lst vs)):=λp Y =>
 h (w.grow p (.lst vs)) (Fw.grow Y).le (S.grow Y) rfl (.ref p) ⟨p,vs,rfl,⟨(show ¬ w.Z p from l8 S Y),cx⟩,(Fw.grow Y).le.all ai⟩
def Tz {K:Ď} {w:Wd} {ds:List D} {vs:List V} {Q:VK} (S:aI K w) (ai:aq K w ds vs) (h:Out K Ξ w (ok (D.tup ds) w.ay) λw' d=>∀v,DV K w' d v->Q v w'.H):∀p,w.H p=none->Q (.ref p) (upd w.H p (.tup vs)):=λp Z =>
 h (w.grow p (.tup vs)) (Fw.grow Z).le (S.grow Z) rfl (.ref p) ⟨p,vs,rfl,bC.of cx,(Fw.grow Z).le.all ai⟩
def ib:bG X (ĺ .Add) (rO X.K Ξ cE):=by
 rintro T s σ H x y v u Q I R P ⟨w,J,G,rfl,S,Z,Y,h⟩;obtain⟨d,e,h⟩:=fm h;unfold rb at e;split at e
 ·rename_i i j e1 e2
  rw[dP e1 (by intro _ z;cases z)] at Z;rw[dP e2 (by intro _ z;cases z)] at Y;cases e;cases Z;cases Y;exact SN T s σ w.H _ _ v u Q I R P ⟨i,j,rfl,rfl,aA S h _ rfl⟩
 ·rename_i M L e1 e2
  rw[dP e1 (by intro _ z;cases z)] at Z;rw[dP e2 (by intro _ z;cases z)] at Y;split at e
  ·rename_i W
   cases e;simp only[DV] at Z Y;obtain⟨a,as,rfl,O,V⟩:=Z;obtain⟨b,bs,rfl,N,U⟩:=Y;exact Rf T s σ w.H _ _ v u Q I R P ⟨a,b,as,bs,rfl,rfl,O,N,by rw[<- V.length,<- U.length];exact ÿ W,ua S (V.append U) h⟩
  ·cases e
 ·rename_i M L e1 e2
  split at e
  ·rename_i W
   cases e;obtain⟨a,as,rfl,O,V⟩:=gK S Z e1;obtain⟨b,bs,rfl,N,U⟩:=gK S Y e2;exact Ig T s σ w.H _ _ v u Q I R P ⟨a,b,as,bs,rfl,rfl,O,N,by rw[<- V.length,<- U.length];exact ÿ W,xS S (V.append U) h⟩
  ·cases e
 ·rename_i i j e1 e2
  rw[dP e1 (by intro _ z;cases z)] at Z;rw[dP e2 (by intro _ z;cases z)] at Y;split at e
  ·rename_i W
   cases e;cases Z;cases Y;exact Nj T s σ w.H _ _ v u Q I R P ⟨i,j,rfl,rfl,ÿ W,aA S h _ rfl⟩
  ·cases e
 ·cases e
def Vk:bG X (ĺ .Sub) (rO X.K Ξ tG):=by
 rintro Z s σ H x y v u Q I Y W ⟨w,T,R,rfl,S,V,U,h⟩;obtain⟨d,e,h⟩:=fm h;unfold Ke at e;split at e
 ·rename_i i j
  cases e;cases V;cases U;exact SO Z s σ w.H _ _ v u Q I Y W ⟨i,j,rfl,rfl,aA S h _ rfl⟩
 ·cases e
def mq:bG X (ĺ .Mult) (rO X.K Ξ df):=by
 rintro V s σ H x y v u Q I U T ⟨w,M,L,rfl,S,Y,R,h⟩;obtain⟨d,e,h⟩:=fm h;unfold Cc at e;split at e
 ·rename_i i j
  split at e
  ·rename_i Z
   cases e;cases Y;cases R;refine SQ V s σ w.H _ _ v u Q I U T ⟨i,j,rfl,rfl,?_,aA S h _ rfl⟩;unfold xJ;simpa [tH] using Z
  ·cases e
 ·rename_i O k
  split at e
  ·rename_i Z
   cases e;cases R;simp only[Æ,Ì] at Z;simp only[DV] at Y;obtain⟨a,as,rfl,P,W⟩:=Y;have N:=W.length;refine Rq V s σ w.H _ _ v u Q I U T ⟨a,as,k,rfl,rfl,P,?_,Z.1.2,by rw[<- N];exact Z.2,ua S (W.flat _) h⟩;intro z;subst z
   cases O with
   |nil=>simp at Z
   |cons _ _=>cases N
  ·cases e
 ·rename_i O k
  split at e
  ·rename_i Z
   cases e;cases R;simp only[Æ,Ì] at Z;simp only[DV] at Y;obtain⟨a,as,rfl,P,W⟩:=Y;exact Tc V s σ w.H _ _ v u Q I U T ⟨a,k,as,rfl,rfl,P.2,Z.1.1,Z.1.2,by rw[<- W.length];exact Z.2,xS S (W.flat _) h⟩
  ·cases e
 ·cases e
def oR:bG X (ĺ .Mod) (rO X.K Ξ gP):=by
 rintro Z s σ H x y v u Q I Y W ⟨w,R,P,rfl,S,V,U,h⟩;obtain⟨d,e,h⟩:=fm h;unfold Cd at e;split at e
 ·rename_i i j
  split at e
  ·rename_i T
   cases e;cases V;cases U;exact SR Z s σ w.H _ _ v u Q I Y W ⟨i,j,rfl,rfl,ÿ T,aA S h _ rfl⟩
  ·cases e
 ·cases e
def Ju:bG X (ĺ .FloorDiv) (rO X.K Ξ oQ):=by
 rintro Y s σ H x y v u Q I W V ⟨w,R,P,rfl,S,U,T,h⟩;obtain⟨d,e,h⟩:=fm h;unfold Ce at e;split at e
 ·rename_i i j
  split at e
  ·rename_i Z
   simp only[Æ,Ì] at Z;cases e;cases U;cases T;exact QY Y s σ w.H _ _ v u Q I W V ⟨i,j,rfl,rfl,Z,aA S h _ rfl⟩
  ·cases e
 ·cases e
def Jv:bG X (ĺ .Pow) (rO X.K Ξ qQ):=by
 rintro Y s σ H x y v u Q I W V ⟨w,R,P,rfl,S,U,T,h⟩;obtain⟨d,e,h⟩:=fm h;unfold Cf at e;split at e
 ·rename_i i j
  split at e
  ·rename_i Z
   simp only[Æ,Ì] at Z;cases e;cases U;cases T;exact SS Y s σ w.H _ _ v u Q I W V ⟨i,j,rfl,rfl,⟨Z.1.1,Z.1.2,Z.2⟩,aA S h _ rfl⟩
  ·cases e
 ·cases e
def nr:uF X (unaryOp .USub) (rU X.K Ξ kY):=by
 rintro Z s σ H x v Q I Y ⟨w,V,rfl,S,W,h⟩;obtain⟨d,e,h⟩:=fm h;unfold Kf at e;split at e
 ·rename_i i
  cases e;cases W;exact SU Z s σ w.H _ v Q I Y ⟨i,rfl,aA S h _ rfl⟩
 ·cases e
noncomputable def rf (p:Int->Int->Bool):D->D->Option D
 | .int i,.int j=>some (.bl (p i j))
 |_,_=>none
def ui (x y:D) (s:aa):Res D:=bT (rf (λi j=>decide (i<=j)) x y) s
def pb (x y:D) (s:aa):Res D:=bT (rf (λi j=>decide (j<i)) x y) s
def uj (x y:D) (s:aa):Res D:=bT (rf (λi j=>decide (j<=i)) x y) s
def Kg:bG X (Ě .LtE) (rO X.K Ξ ui):=by
 rintro Z s σ H x y v u Q I Y W ⟨w,T,R,rfl,S,V,U,h⟩;obtain⟨d,e,h⟩:=fm h;unfold rf at e;split at e
 ·rename_i i j
  cases e;cases V;cases U;exact UW Z s σ w.H _ _ v u Q I Y W ⟨i,j,rfl,rfl,aA S h _ rfl⟩
 ·cases e
def Cg:bG X (Ě .Gt) (rO X.K Ξ pb):=by
 rintro Z s σ H x y v u Q I Y W ⟨w,T,R,rfl,S,V,U,h⟩;obtain⟨d,e,h⟩:=fm h;unfold rf at e;split at e
 ·rename_i i j
  cases e;cases V;cases U;exact UX Z s σ w.H _ _ v u Q I Y W ⟨i,j,rfl,rfl,aA S h _ rfl⟩
 ·cases e
def Kh:bG X (Ě .GtE) (rO X.K Ξ uj):=by
 rintro Z s σ H x y v u Q I Y W ⟨w,T,R,rfl,S,V,U,h⟩;obtain⟨d,e,h⟩:=fm h;unfold rf at e;split at e
 ·rename_i i j
  cases e;cases V;cases U;exact UY Z s σ w.H _ _ v u Q I Y W ⟨i,j,rfl,rfl,aA S h _ rfl⟩
 ·cases e
def lL (d i:D) (s:aa):Option D:=match res d s,i with
 | .lst Z,.int i=>de Z i
 | .tup Z,.int i=>de Z i
 | .bO Y,.int i=>(de Y i).map D.int
 | .str x,.int i=>if decide (x.length<=Ú)=true then (de x.cps.toList i).map λc=>.str ⟨#[c]⟩ else none
 |_,_=>none
def az (x y:D) (s:aa):Res D:=bT (lL x y s) s
theorem aq.at (h:aq K w ds vs) (e:de ds i=some d):∃v,de vs i=some v/\DV K w d v:=by
 unfold de at e |-;rw[h.length] at e
 cases hi:fC vs.length i with
 |none=>rw[hi] at e;cases e
 |some j =>
  rw[hi] at e;exact h.get' j d e
def WW:uL X (rO X.K Ξ az):=by
 rintro value slice T s σ H x y v u Q I R P ⟨w,B,A,rfl,S,Z,O,h⟩ hs;obtain⟨d,e,N⟩:=fm h;clear h;unfold lL at e;split at e
 ·rename_i D i e1
  cases O;obtain⟨a,M,rfl,W,L⟩:=gK S Z e1;obtain⟨z,J,G⟩:=L.at e;exact Hj value slice T s σ w.H _ _ v u Q I R P ⟨a,M,i,z,rfl,rfl,bw.of W,J,aA S N _ G⟩ hs
 ·rename_i D i e1
  cases O;rw[dP e1 (by intro _ z;cases z)] at Z;simp only[DV] at Z;obtain⟨a,M,rfl,W,L⟩:=Z;obtain⟨z,J,G⟩:=L.at e;exact S7 value slice T s σ w.H _ _ v u Q I R P ⟨a,M,i,z,rfl,rfl,W,J,aA S N _ G⟩ hs
 ·rename_i U i e1
  cases O;rw[dP e1 (by intro _ z;cases z)] at Z;simp only[DV] at Z;obtain⟨a,rfl,W⟩:=Z
  cases Y:de U i with
  |none=>rw[Y] at e;cases e
  |some n =>
   rw[Y] at e;cases e;refine Hj value slice T s σ w.H _ _ v u Q I R P ⟨a,U.map V.int,i,.int n,rfl,rfl,W.sq,?_,aA S N _ rfl⟩ hs;unfold de at Y |-;rw[É]
   cases E:fC U.length i with
   |none=>rw[E] at Y;cases Y
   |some j =>
    rw[E] at Y;show (U.map V.int)[j]?=some (.int n);rw[î,show U[j]?=some n from Y];rfl
 ·rename_i z i e1
  cases O;rw[dP e1 (by intro _ z;cases z)] at Z;cases Z;split at e
  ·rename_i C
   cases F:de z.cps.toList i with
   |none=>rw[F] at e;cases e
   |some c =>
    rw[F] at e;cases e;exact S8 value slice T s σ w.H _ _ v u Q I R P ⟨z,i,c,rfl,rfl,ÿ C,F,aA S N _ rfl⟩ hs
  ·cases e
 ·cases e
def bJ (ha:PE X a (tE X.K Ξ f)) (hb:PE X b (tE X.K Ξ g)) (hs:Hi b:=by intro _ _;rfl):PE X (.Subscript a b pos) (tE X.K Ξ (e2 az f g)):=b9 (U5 WW ha hb hs) wg
def my (d:D) (s:aa):Option D:=match res d s with
 | .lst Z=>some (.int Z.length)
 | .tup Z=>some (.int Z.length)
 | .bO Y=>some (.int Y.length)
 | .str x=>if decide (x.length<=Ú)=true then some (.int x.length) else none
 |_=>none
def cN (ds:List D) (s:aa):Res D:=match ds with
 | [d]=>bT (my d s) s
 |_=>none
def oH (h:aq K w [d] vs):∃v,vs=[v]/\DV K w d v:=by
 obtain⟨v,r,rfl,Z,dr⟩:=h;have e:r=[]:=dr;subst e;exact⟨v,rfl,Z⟩
def oI (h:aq K w [d,e] vs):∃v u,vs=[v,u]/\DV K w d v/\DV K w e u:=by
 obtain⟨v,r,rfl,Z,h⟩:=h;obtain⟨u,rfl,Y⟩:=oH h;exact⟨v,u,rfl,Z,Y⟩
def jo:cS X (.builtin "len") (rC X.K Ξ cN):=by
 rintro U s σ H T R Q I r ⟨w,M,rfl,S,Y,h⟩;unfold cN at h;split at h
 ·obtain⟨v,rfl,Z⟩:=oH Y
  obtain⟨d,e,h⟩:=fm h;unfold my at e;split at e
  ·rename_i P e1
   cases e;obtain⟨a,T,rfl,W,Y⟩:=gK S Z e1;exact yS U s σ w.H _ R Q I r ⟨a,T,rfl,.inl (bw.of W),by rw[<- Y.length];exact aA S h _ rfl⟩
  ·rename_i P e1
   cases e;rw[dP e1 (by intro _ z;cases z)] at Z;simp only[DV] at Z;obtain⟨a,T,rfl,W,Y⟩:=Z;exact yS U s σ w.H _ R Q I r ⟨a,T,rfl,.inr W,by rw[<- Y.length];exact aA S h _ rfl⟩
  ·rename_i O e1
   cases e;rw[dP e1 (by intro _ z;cases z)] at Z;simp only[DV] at Z;obtain⟨a,rfl,W⟩:=Z;exact yS U s σ w.H _ R Q I r ⟨a,O.map V.int,rfl,.inl W.sq,by rw[É];exact aA S h _ rfl⟩
  ·rename_i z e1
   rw[dP e1 (by intro _ z;cases z)] at Z;cases Z;split at e
   ·rename_i N
    cases e;exact Mu U s σ w.H _ R Q I r ⟨z,rfl,ÿ N,aA S h _ rfl⟩
   ·cases e
  ·cases e
 ·exact h.elim
noncomputable def gE:List D->Option (List Bool)
 | []=>some []
 | .bl b::Z=>(gE Z).map λr=>b::r
 |_::_=>none
theorem sS:∀{ds:List D} {bs:List Bool},gE ds=some bs->ds=bs.map D.bl
 | [],bs,h=>by cases h;rfl
 | .bl b::ds,bs,h=>by
  simp only[gE] at h
  cases Z:gE ds with
  |none=>rw[Z] at h;cases h
  |some r=>rw[Z] at h;cases h;rw[sS Z];rfl
 | .ar::_,_,h=>by cases h
 | .int _::_,_,h=>by cases h
 | .str _::_,_,h=>by cases h
 | .tup _::_,_,h=>by cases h
 | .lst _::_,_,h=>by cases h
 | .bQ _::_,_,h=>by cases h
 | .aj _::_,_,h=>by cases h
 | .ty _::_,_,h=>by cases h
 | .bO _::_,_,h=>by cases h
 | .exc _ _::_,_,h=>by cases h
 | .cD _ _ _::_,_,h=>by cases h
def Rv:gE (bs.map D.bl)=some bs:=by
 induction bs with
 |nil=>rfl
 |cons b bs ih=>simp only[Ý,gE,ih,ς]
def pd (ds:List D) (s:aa):Res D:=match ds with
 | [d]=>match res d s with
  | .lst Z=>bT ((gE Z).map λbs=>.bl (bs.all id)) s
  |_=>none
 |_=>none
def rg (ds:List D) (s:aa):Res D:=match ds with
 | [d]=>match res d s with
  | .lst Z=>bT ((gE Z).map λbs=>.bl (bs.any id)) s
  |_=>none
 |_=>none
def Bt (hc:X.calm=true):cS X (.builtin "all") (rC X.K Ξ pd):=by
 rintro V s σ H U T Q I r ⟨w,O,rfl,S,Z,h⟩;unfold pd at h;split at h
 ·obtain⟨v,rfl,R⟩:=oH Z
  split at h
  ·rename_i P e1
   obtain⟨d,e,h⟩:=fm h
   cases Y:gE P with
   |none=>rw[Y] at e;cases e
   |some bs =>
    rw[Y] at e;cases e;obtain⟨a,U,rfl,W,Z⟩:=gK S R e1;rw[sS Y] at Z;rw[Z.sH] at W;exact Po hc V s σ w.H _ T Q I r ⟨a,bs,rfl,bw.of W,aA S h _ rfl⟩
  ·exact h.elim
 ·exact h.elim
def Jw (hc:X.calm=true):cS X (.builtin "any") (rC X.K Ξ rg):=by
 rintro V s σ H U T Q I r ⟨w,O,rfl,S,Z,h⟩;unfold rg at h;split at h
 ·obtain⟨v,rfl,R⟩:=oH Z
  split at h
  ·rename_i P e1
   obtain⟨d,e,h⟩:=fm h
   cases Y:gE P with
   |none=>rw[Y] at e;cases e
   |some bs =>
    rw[Y] at e;cases e;obtain⟨a,U,rfl,W,Z⟩:=gK S R e1;rw[sS Y] at Z;rw[Z.sH] at W;exact Pp hc V s σ w.H _ T Q I r ⟨a,bs,rfl,bw.of W,aA S h _ rfl⟩
  ·exact h.elim
 ·exact h.elim
def qR (ds:List D) (s:aa):Res D:=match ds with
 | [.int i,.int j]=>ok (.int (if j > i then j else i)) s
 |_=>none
def tI (ds:List D) (s:aa):Res D:=match ds with
 | [.int i,.int j]=>ok (.int (if j<i then j else i)) s
 |_=>none
def TB (hc:X.calm=true):cS X (.builtin "max") (rC X.K Ξ qR):=by
 rintro Z s σ H T Y Q I r ⟨w,R,rfl,S,W,h⟩;unfold qR at h;split at h
 ·rename_i i j
  obtain⟨v,u,rfl,V,U⟩:=oI W;cases V;cases U;exact N9 hc Z s σ w.H _ Y Q I r ⟨i,j,rfl,aA S h _ rfl⟩
 ·exact h.elim
def TC (hc:X.calm=true):cS X (.builtin "min") (rC X.K Ξ tI):=by
 rintro Z s σ H T Y Q I r ⟨w,R,rfl,S,W,h⟩;unfold tI at h;split at h
 ·rename_i i j
  obtain⟨v,u,rfl,V,U⟩:=oI W;cases V;cases U;exact Oa hc Z s σ w.H _ Y Q I r ⟨i,j,rfl,aA S h _ rfl⟩
 ·exact h.elim
def gg (ds:List D) (s:aa):Res D:=match ds with
 | [d]=>match res d s with
  | .lst Z=>ok (.tup Z) s
  | .tup Z=>ok (.tup Z) s
  |_=>none
 |_=>none
def oA:cS X (.type "tuple") (rC X.K Ξ gg):=by
 rintro U s σ H Y T Q I r ⟨w,O,rfl,S,W,h⟩;unfold gg at h;split at h
 ·obtain⟨v,rfl,Z⟩:=oH W
  split at h
  ·rename_i R e1
   obtain⟨a,Y,rfl,V,W⟩:=gK S Z e1;exact EM U s σ w.H _ T Q I r ⟨a,Y,rfl,.inl ⟨bw.of V,Tz S W h⟩⟩
  ·rename_i R e1
   rw[dP e1 (by intro _ z;cases z)] at Z;have P:=Z;simp only[DV] at Z;obtain⟨a,Y,rfl,V,W⟩:=Z;exact EM U s σ w.H _ T Q I r ⟨a,Y,rfl,.inr ⟨V,aA S h _ P⟩⟩
  ·exact h.elim
 ·exact h.elim
end
def nu (n:Nat) (x:D) (ds:List D):Bool:=lay x&&cM ds&&decide (dep x<=n)
def inD (x:D) (ds:List D):Option Bool:=if nu 100 x ds=true then some (ds.any λy=>beq y x) else none
def kZ (d:D) (s:aa):Option (List D):=match res d s with
 | .lst Z=>some Z
 | .tup Z=>some Z
 |_=>none
def eI (x y:D) (s:aa):Res D:=match kZ y s with
 |some Z=>bT ((inD x Z).map D.bl) s
 |none=>none
def iU (x y:D) (s:aa):Res D:=match kZ y s with
 |some Z=>bT ((inD x Z).map λb=>D.bl (!b)) s
 |none=>none
def Gx (S:aI K w) (h:DV K w d v) (e:kZ d w.ay=some ds):∃a xs,v=.ref a/\(w.H a=some (.lst xs)\/bC K w.H a xs)/\aq K w ds xs:=by
 unfold kZ at e;split at e
 ·rename_i X e1
  cases e;obtain⟨a,xs,rfl,Z,Y⟩:=gK S h e1;exact⟨a,xs,rfl,.inl Z,Y⟩
 ·rename_i X e1
  cases e;rw[dP e1 (by intro _ z;cases z)] at h;simp only[DV] at h;obtain⟨a,xs,rfl,Z,Y⟩:=h;exact⟨a,xs,rfl,.inr Z,Y⟩
 ·cases e
section
variable {X:Cx} {Ξ:Wd->aR->Prop} {π:List (Ø×Obj)} {σ:St} {s:Ä}
theorem AG (lx:lay x=true):∀{ds:List D},cM ds=true->((ff ds).any λy=>Ġ y (py x))=ds.any λy=>beq y x
 | [],_=>rfl
 |d::ds,h=>by
  simp only[cM,Æ] at h;simp only[ff,List.any_cons,qH d x h.1 lx,AG lx h.2]
def Iq (h:inD x ds=some b):lay x=true/\cM ds=true/\dep x<=100/\(ds.any λy=>beq y x)=b:=by
 unfold inD nu at h;split at h
 ·rename_i Z
  simp only[Æ,Ì] at Z;exact⟨Z.1.1,Z.1.2,Z.2,abH h⟩
 ·cases h
def kc (hr:bp k X.A):bG X (Ě .In) (rO X.K Ξ eI):=by
 rintro π s σ H x y v u Q I J T ⟨w,W,B,rfl,S,G,F,h⟩;unfold eI at h;split at h
 ·rename_i Z E
  obtain⟨d,e,h⟩:=fm h
  cases V:inD W Z with
  |none=>rw[V] at e;cases e
  |some b =>
   rw[V] at e;cases e;obtain⟨U,Y,z,D⟩:=Iq V;obtain⟨R,C⟩:=jQ _ U;obtain⟨P,t⟩:=sy _ Y;obtain⟨bs,O⟩:=(G.py (ou _ U)).reads I J;have N:X.A.units+1+min (ń (ff Z)) (py W).depth<abz:=by
    have:=hr.un;rw[C];omega
   obtain⟨a,M,rfl,ha,L⟩:=Gx S F E;have fin:EP X π σ Q (.bool ((ff Z).any λy=>Ġ y (py W))) s:=⟨.bl b,w.H,I,by rw[AG U Y,D];rfl,aA S h _ rfl⟩
   rcases ha with ha|ha
   ·obtain⟨cs,rc⟩:=(show L2.DV X.K (λ_=>False) w.H (.list (ff Z)) (.ref a) by simp only[L2.DV];exact⟨a,M,rfl,not_false,ha,L.py (oq _ Y)⟩).reads I T
    exact SeqAt.in_list_reads rc O P R N fin
   ·obtain⟨cs,rc⟩:=(show L2.DV X.K (λ_=>False) w.H (.tuple (ff Z)) (.ref a) by simp only[L2.DV];exact⟨a,M,rfl,ha,L.py (oq _ Y)⟩).reads I T
    exact SeqAt.in_tuple_reads rc O P R N fin
 ·exact h.elim
def Ad (hr:bp k X.A):bG X (Ě .NotIn) (rO X.K Ξ iU):=by
 rintro π s σ H x y v u Q I J T ⟨w,W,B,rfl,S,G,F,h⟩;unfold iU at h;split at h
 ·rename_i Z E
  obtain⟨d,e,h⟩:=fm h
  cases V:inD W Z with
  |none=>rw[V] at e;cases e
  |some b =>
   rw[V] at e;cases e;obtain⟨U,Y,z,D⟩:=Iq V;obtain⟨R,C⟩:=jQ _ U;obtain⟨P,t⟩:=sy _ Y;obtain⟨bs,O⟩:=(G.py (ou _ U)).reads I J;have N:X.A.units+1+min (ń (ff Z)) (py W).depth<abz:=by
    have:=hr.un;rw[C];omega
   obtain⟨a,M,rfl,ha,L⟩:=Gx S F E;have fin:EP X π σ Q (.bool (!(ff Z).any λy=>Ġ y (py W))) s:=⟨.bl (!b),w.H,I,by rw[AG U Y,D];rfl,aA S h _ rfl⟩
   rcases ha with ha|ha
   ·obtain⟨cs,rc⟩:=(show L2.DV X.K (λ_=>False) w.H (.list (ff Z)) (.ref a) by simp only[L2.DV];exact⟨a,M,rfl,not_false,ha,L.py (oq _ Y)⟩).reads I T
    exact SeqAt.notIn_list_reads rc O P R N fin
   ·obtain⟨cs,rc⟩:=(show L2.DV X.K (λ_=>False) w.H (.tuple (ff Z)) (.ref a) by simp only[L2.DV];exact⟨a,M,rfl,ha,L.py (oq _ Y)⟩).reads I T
    exact SeqAt.notIn_tuple_reads rc O P R N fin
 ·exact h.elim
def tP (K:Ď) (Ξ:Wd->aR->Prop) (f:abC (Option Int)):TO:=fun σ H Q=>∃w env,w.H=H/\aI K w/\bK K w env σ/\Out K Ξ w (f env w.ay) λZ i=>Q i Z.H
def pT:abC (Option Int):=λ_ s=>ok none s
def pf (f:abC D):abC (Option Int):=λenv s=>ao (f env s) λd s=>match d with
 | .int i=>ok (some i) s
 |_=>none
variable {e a b:ġ} {lo hi:Option ġ} {pos p2 p3 p4:Pos} {f g:abC D}
def Ir (h:PO X lo t) (i:∀ σ H Q,t' σ H Q->t σ H Q):PO X lo t':=λπ s σ H Q I Z=>h π s σ H Q I (i σ H Q Z)
def Ki:PO X none (tP X.K Ξ pT):=Ir Q6 fun σ H Q Z=>by
 obtain⟨w,env,Y,S,W,h⟩:=Z;subst Y;exact aA S h
def Jx (he:PE X e (tE X.K Ξ f)):PO X (some e) (tP X.K Ξ (pf f)):=Ir (Q7 he) fun σ H Q Y=>by
 obtain⟨w,env,W,S,V,h⟩:=Y;subst W;refine⟨w,env,rfl,S,V,(Out.ao h).mono λR d P U Z v T=>?_⟩
 cases d with
 |int i=>exact⟨i,T,aA U Z⟩
 |_=>exact Z.elim
noncomputable def cutD (xs:List D) (lo hi:Option Int):List D:=(xs.drop (HT.aT xs.length 0 lo)).take (HT.aT xs.length xs.length hi-HT.aT xs.length 0 lo)
def oJ (d:D) (lo hi:Option Int) (s:aa):Res D:=match res d s with
 | .tup Z=>ok (.tup (cutD Z lo hi)) s
 | .lst Z=>ok (.lst (cutD Z lo hi)) s
 |_=>none
def pU (f:abC D) (l h:abC (Option Int)):abC D:=λenv s=>ao (f env s) λd s=>ao (l env s) λlo s=>ao (h env s) λhi s=>oJ d lo hi s
def XU (K:Ď) (Ξ:Wd->aR->Prop):V->Option Int->Option Int->Hp->VK->Prop:=λx lo hi H Q=>∃w Z,w.H=H/\aI K w/\DV K w Z x/\Out K Ξ w (oJ Z lo hi w.ay) λY d=>∀v,DV K Y d v->Q v Y.H
def TF:uK X (XU X.K Ξ):=by
 rintro π s σ H x v U T lo hi R Q I P hs O pu ⟨w,M,rfl,S,Y,h⟩;unfold oJ at h;split at h
 ·rename_i N e1
  rw[dP e1 (by intro _ z;cases z)] at Y;simp only[DV] at Y;obtain⟨a,W,rfl,V,Z⟩:=Y;refine Rc π s σ w.H _ v U T lo hi R Q I P hs O pu ⟨a,W,rfl,V,ua S ?_ h⟩;unfold cutD j7;rw[Z.length];exact(Z.drop _).take _
 ·rename_i N e1
  obtain⟨a,W,rfl,V,Z⟩:=gK S Y e1;refine Ra π s σ w.H _ v U T lo hi R Q I P hs O pu ⟨a,W,rfl,bw.of V,xS S ?_ h⟩;unfold cutD j7;rw[Z.length];exact(Z.drop _).take _
 ·exact h.elim
def Kj (he:PE X e (tE X.K Ξ f)) (hl:PO X lo (tP X.K Ξ fl)) (hu:PO X hi (tP X.K Ξ fh)):PE X (.Subscript e (.Slice lo hi none p2) pos) (tE X.K Ξ (pU f fl fh)) :=
 b9 (Pj TF he hl hu) fun σ H Q V=>by
  obtain⟨w,env,U,S,Z,h⟩:=V;subst U;exact⟨w,env,rfl,S,Z,(Out.ao h).mono λT d Y R P v O=>⟨T,env,rfl,R,Z.le Y,(Out.ao P).mono λN i W M L=>⟨N,env,rfl,M,Z.le (Y.trans W),(Out.ao L).mono λJ j I G F=>⟨J,d,rfl,G,(W.trans I) _ _ O,F⟩⟩⟩⟩
def rj (d x:D) (s:aa):Res D:=match d with
 | .aj k=>match s[k]? with
  |some (.lst Z)=>if decide (Z.length<Ú)=true then ok .ar (s.set k (.lst (Z++[x]))) else none
  |_=>none
 |_=>none
def ph (d:D) (s:aa):Bool:=match d with
 | .aj k=>match s[k]? with
  |some (.lst _)=>true
  |_=>false
 |_=>false
def rk (f g:abC D):abC D:=λenv s=>ao (f env s) λd s=>if ph d s=true then ao (g env s) λx s=>rj d x s else none
def Rw (S:aI K w) (dv:DV K w d v) (h:ph d w.ay=true):∃k a ds xs,d=.aj k/\v=.ref a/\w.ρ[k]?=some a/\w.ay[k]?=some (.lst ds)/\w.H a=some (.lst xs)/\aq K w ds xs:=by
 unfold ph at h;split at h
 ·rename_i k
  split at h
  ·rename_i ds Z
   obtain⟨a,e1,rfl⟩:=dv;obtain⟨xs,Y,X⟩:=S.cell k a _ e1 Z;exact⟨k,a,ds,xs,rfl,rfl,e1,Z,Y,X⟩
  ·cases h
 ·cases h
def TH (S:aI K w) (dv:DV K w d v) (du:DV K w y u) (h:Out K Ξ w (rj d y w.ay) q):∃a xs,v=.ref a/\w.H a=some (.lst xs)/\xs.length<Ú/\∃w',w'.H=upd w.H a (.lst (xs++[u]))/\q w' .ar:=by
 unfold rj at h;split at h
 ·rename_i k
  split at h
  ·rename_i Z Y
   split at h
   ·rename_i V
    obtain⟨a,e1,rfl⟩:=dv;obtain⟨xs,U,X⟩:=S.cell k a _ e1 Y;have W:(Cell.lst Z)≠.dead:=by intro z;cases z
    have le:=(Fw.put (K:=K) (o:=.lst (xs++[u])) (c:=.lst (Z++[y])) S e1 Y W).le;refine⟨a,xs,rfl,U,by rw[<- X.length];exact ÿ V,w.put k a (.lst (xs++[u])) (.lst (Z++[y])),rfl,?_⟩;exact h _ le (S.ue e1 Y W ⟨_,cx,le.all (X.append (aq.one du))⟩) rfl
   ·exact h.elim
  ·exact h.elim
 ·exact h.elim
def Bu {o:ġ} {apos bj:Pos} (ho:PE X o (tE X.K Ξ f)) (ha:PE X a (tE X.K Ξ g))
  (jU:Ŀ o "append" X.env (ĩ o X.env)=ĩ o X.env:=by rfl)
  (o7:((ħ bj (Ê [a] X.env)).all (λx=>!x.1)&&(aav bj (ŗ [] X.env)).all (λx=>x.1.isSome)
   && decide (([a]:List ġ).length+([]:List aa3).length+(if ([]:List aa3).isEmpty then 0 else 1)<30))=true:=by rfl)
  (jV:(apos.endLine==bj.line)=true:=by rfl) (hs:Ê [a] X.env=(false,ĩ a X.env)::Ê [] X.env:=by rfl) (jP:(ħ bj (Ê [] X.env)).any (·.1)=false:=by rfl) :
  PE X (.Call (.Attribute o "append" apos) [a] [] bj) (tE X.K Ξ (rk f g)) :=
 b9 (Bo ź PySem.F.slot_list_append PySem.F.type_list_append Od ho (jd ha l7 hs) jU o7 jV hs jP) fun σ H Q T=>by
  obtain⟨w,env,Z,S,W,h⟩:=T;subst Z;refine⟨w,env,rfl,S,W,(Out.ao h).mono λR d P V Y v U=>?_⟩;split at Y
  ·rename_i O
   obtain⟨k,p,t,N,rfl,rfl,e1,e2,M,s⟩:=Rw V U O;refine⟨.inl ⟨rfl,N,bw.of M⟩,R,env,rfl,V,W.le P,(Out.ao Y).mono λr y L J I u G=>?_⟩;obtain⟨E,D,C,B,A,q,Z,z⟩:=TH J (L _ _ U) G I;refine⟨E,D,u,C,rfl,B,A,?_⟩;rw[<- Z];exact z _ rfl
  ·exact Y.elim
def ke (d i x:D) (s:aa):Option aa:=match d,i with
 | .aj k,.int n=>match s[k]? with
  |some (.lst Z)=>(fC Z.length n).map λj=>s.set k (.lst (Z.set j x))
  |_=>none
 |_,_=>none
def mz (f o i:abC D):abC Fl:=λenv s=>ao (f env s) λx s=>ao (o env s) λd s=>ao (i env s) λn s=>match ke d n x s with
 |some Z=>ok (.nx env) Z
 |none=>none
def TJ (S:aI K w) (dv:DV K w d v) (dn:DV K w i n) (du:DV K w x u) (h:ke d i x w.ay=some s'):∃a xs k j,v=.ref a/\n=.int k/\w.H a=some (.lst xs)/\fC xs.length k=some j/\∃w',w'.H=upd w.H a (.lst (xs.set j u))/\w'.ay=s'/\Le K w w'/\aI K w':=by
 unfold ke at h;split at h
 ·rename_i k m
  split at h
  ·rename_i Z Y
   cases X:fC Z.length m with
   |none=>rw[X] at h;cases h
   |some j =>
    rw[X] at h;cases h;obtain⟨a,e1,rfl⟩:=dv;obtain⟨xs,U,W⟩:=S.cell k a _ e1 Y;have V:(Cell.lst Z)≠.dead:=by intro z;cases z
    have le:=(Fw.put (K:=K) (o:=.lst (xs.set j u)) (c:=.lst (Z.set j x)) S e1 Y V).le;exact⟨a,xs,m,j,rfl,dn,U,by rw[<- W.length];exact X,w.put k a (.lst (xs.set j u)) (.lst (Z.set j x)),rfl,rfl,le,S.ue e1 Y V ⟨_,cx,le.all (W.set du j)⟩⟩
  ·cases h
 ·cases h
def Jy (he:PE X e (tE X.K Ξ f)) (ho:PE X o (tE X.K Ξ fo)) (hi:PE X i (tE X.K Ξ fi))
 (ha:∀v,abn (.Subscript o i nG) X.env v=(do
   let ov <- μ [v] (ĩ o X.env)
   let iv <- μ [v,ov] (ĩ i X.env)
   ZZ nG
   μ [v,ov,iv] (setItem ov iv v)
   release [v,ov,iv] []):=by intro _;rfl)
 (hs:χ [.Subscript o i nG] e pos.line X.env=pure false:=by rfl) (hw:ψ [.Subscript o i nG] e X.env=pure none:=by rfl)
 (h1:(ŭ [.Subscript o i nG] X.env).map (·.2)=[abn (.Subscript o i nG) X.env]:=by rfl):PS X (.Assign [.Subscript o i nG] e pos) (tS X.K Ξ (mz f fo fi)) :=
 jf (H0 he (SH ho hi set_list ha) hs hw h1) λt σ H Q=>by
  obtain⟨w,env,W,S,Z,h⟩:=Q;subst W;refine⟨w,env,rfl,S,Z,(Out.ao h).mono λP x V O h1 u N=>?_⟩;refine⟨P,env,rfl,O,Z.le V,(Out.ao h1).mono λM d U L J v I=>?_⟩;refine⟨M,env,rfl,L,Z.le (V.trans U),(Out.ao J).mono λG n T F Y m E=>?_⟩
  cases R:ke d n x G.ay with
  |none=>rw[R] at Y;exact Y.elim
  |some s =>
   rw[R] at Y;obtain⟨a,D,k,j,e1,e2,C,B,A,W,z,le,y⟩:=TJ F (T _ _ I) E ((U.trans T) _ _ N) R;refine⟨a,D,k,j,e1,e2,C,B,?_⟩;rw[<- W];exact Y A le y z σ (Z.le (V.trans (U.trans (T.trans le))))
end
def kd (d:D) (s:aa):Option Kn:=match res d s with
 | .ar=>some .ar
 | .bl _=>some .bl
 | .int _=>some .int
 | .str _=>some .str
 | .tup _=>some .tup
 | .lst _=>some .lst
 | .bQ _=>some .bQ
 |_=>none
def Jz (S:aI K w) (h:DV K w d v) (e:kd d w.ay=some k):nQ K w.H v k:=by
 unfold kd at e
 split at e<;>rename_i e1<;>first | (cases e;done) | (try cases e)
 ·rw[dP e1 (by intro _ z;cases z)] at h;cases h;trivial
 ·rw[dP e1 (by intro _ z;cases z)] at h;cases h;trivial
 ·rw[dP e1 (by intro _ z;cases z)] at h;cases h;trivial
 ·rw[dP e1 (by intro _ z;cases z)] at h;cases h;trivial
 ·rw[dP e1 (by intro _ z;cases z)] at h
  simp only[DV] at h;obtain⟨a,Y,rfl,Z,_⟩:=h;exact⟨Y,Z⟩
 ·obtain⟨a,Y,rfl,Z,_⟩:=gK S h e1
  exact⟨Y,bw.of Z⟩
 ·rw[dP e1 (by intro _ z;cases z)] at h
  simp only[DV] at h;obtain⟨a,rfl,_,Z⟩:=h;exact⟨_,Z⟩
noncomputable def JA (T:String):Bool:=T=="int"||T=="bool"||T=="str"||T=="tuple"||T=="list"
def cO (ds:List D) (s:aa):Res D:=match ds with
 | [d,.ty T]=>if JA T=true then bT ((kd d s).map λk=>.bl (qY k T)) s else none
 |_=>none
section
variable {X:Cx} {Ξ:Wd->aR->Prop} {e a b:ġ} {es:List ġ} {pos:Pos} {f g:abC D} {fa:abC (List D)}
def jq:cS X (.builtin "isinstance") (rC X.K Ξ cO):=by
 rintro Z s σ H M Y Q I r ⟨w,L,rfl,S,R,h⟩;unfold cO at h;split at h
 ·rename_i d T
  obtain⟨v,u,rfl,P,O⟩:=oI R;have N:u=.ty T:=O;subst N;split at h
  ·rename_i U
   obtain⟨J,e,h⟩:=fm h
   cases V:kd d w.ay with
   |none=>rw[V] at e;cases e
   |some k =>
    rw[V] at e;cases e;have W:=Jz S P V;simp only[JA,aay,beq_iff_eq] at U
    rcases U with (((rfl|rfl)|rfl)|rfl)|rfl
    ·exact Mv Z s σ w.H _ Y Q I r ⟨v,k,rfl,W,aA S h _ rfl⟩
    ·exact Mj Z s σ w.H _ Y Q I r ⟨v,k,rfl,W,aA S h _ rfl⟩
    ·exact Mw Z s σ w.H _ Y Q I r ⟨v,k,rfl,W,aA S h _ rfl⟩
    ·exact Mc Z s σ w.H _ Y Q I r ⟨v,k,rfl,W,aA S h _ rfl⟩
    ·exact Ml Z s σ w.H _ Y Q I r ⟨v,k,rfl,W,aA S h _ rfl⟩
  ·exact h.elim
 ·exact h.elim
def jv (hv:ú x=some (.type T)) (hg:Gl X x) (hm:X.mg x=none) (hn:x≠"__name__":=by decide) (hd:(x==("__debug__":Str))=false:=by decide):PE X (.Name x pos) (tE X.K Ξ (eC (.ty T))):=qP (v:=.ty T) (wa hg hm hv rfl hn hd) λ_=>rfl
def mB (g:∃t,X.mg x=some (.int i t)) (hg:Gl X x) (hd:(x==("__debug__":Str))=false:=by decide):PE X (.Name x pos) (tE X.K Ξ (eC (.int i))):=by
 obtain⟨t,e⟩:=g;exact qP (v:=.int i) (Hb hg e ⟨t,rfl⟩ hd) λ_=>rfl
def rl (d:D) (s:aa):Res D:=bT ((kd d s).map λk=>.bl (decide (k=.tup)||decide (k=.lst))) s
noncomputable def oS:List D->Option (List Int)
 | []=>some []
 | .int i::Z=>(oS Z).map λr=>i::r
 |_::_=>none
theorem Gy:∀{ds:List D} {ns:List Int},oS ds=some ns->ds=ns.map D.int
 | [],ns,h=>by cases h;rfl
 | .int b::ds,ns,h=>by
  simp only[oS] at h
  cases Z:oS ds with
  |none=>rw[Z] at h;cases h
  |some r=>rw[Z] at h;cases h;rw[Gy Z];rfl
 | .ar::_,_,h=>by cases h
 | .bl _::_,_,h=>by cases h
 | .str _::_,_,h=>by cases h
 | .tup _::_,_,h=>by cases h
 | .lst _::_,_,h=>by cases h
 | .bQ _::_,_,h=>by cases h
 | .aj _::_,_,h=>by cases h
 | .ty _::_,_,h=>by cases h
 | .bO _::_,_,h=>by cases h
 | .exc _ _::_,_,h=>by cases h
 | .cD _ _ _::_,_,h=>by cases h
def Ov:oS (ns.map D.int)=some ns:=by
 induction ns with
 |nil=>rfl
 |cons b bs ih=>simp only[Ý,oS,ih,ς]
noncomputable def lq (i:Int):List Int->List Int
 | []=>[i]
 |j::r=>if i<j then i::j::r else if i=j then j::r else j::lq i r
def fL:List Int->List Int
 | []=>[]
 |i::r=>lq i (fL r)
theorem zx:∀{l:List Int},k∈lq i l↔k=i\/k∈l
 | []=>by simp[lq]
 |j::r=>by
  unfold lq;split
  ·simp
  ·split
   ·rename_i h;subst h;simp
   ·rw[Õ,zx,Õ]
    constructor
    ·rintro (h|h|h)
     ·exact .inr (.inl h)
     ·exact .inl h
     ·exact .inr (.inr h)
    ·rintro (h|h|h)
     ·exact .inr (.inl h)
     ·exact .inl h
     ·exact .inr (.inr h)
theorem Fc:∀{l:List Int},l.Pairwise (· < ·)->(lq i l).Pairwise (· < ·)
 | [],_=>by simp[lq]
 |j::r,h=>by
  obtain⟨Z,Y⟩:=ò.mp h;unfold lq;split
  ·rename_i X
   refine ò.mpr ⟨λk hk=>?_,h⟩
   rcases Õ.mp hk with rfl|hk
   ·exact X
   ·have:=Z k hk;omega
  ·split
   ·exact h
   ·refine ò.mpr ⟨λk hk=>?_,Fc Y⟩
    rcases zx.mp hk with rfl|hk
    ·omega
    ·exact Z k hk
theorem ow:∀{l:List Int},k∈fL l↔k∈l
 | []=>by simp[fL]
 |i::r=>by simp[fL,zx,ow]
theorem EY:∀(l:List Int),(fL l).Pairwise (· < ·)
 | []=>List.Pairwise.nil
 |i::r=>Fc (EY r)
theorem EN:∀{l m:List Int},l.Pairwise (· < ·)->m.Pairwise (· < ·)->(∀k,k∈l↔k∈m)->l=m
 | [],[],_,_,_=>rfl
 | [],j::m,_,_,h=>by have:=(h j).mpr Ô;cases this
 |i::l,[],_,_,h=>by have:=(h i).mp Ô;cases this
 |i::l,j::m,W,V,h=>by
  obtain⟨Y,U⟩:=ò.mp W;obtain⟨X,T⟩:=ò.mp V;have e:i=j:=by
   rcases Õ.mp ((h i).mp Ô) with e|e
   ·exact e
   ·rcases Õ.mp ((h j).mpr Ô) with e'|e'
    ·exact e'.symm
    ·have:=X i e;have:=Y j e';omega
  subst e;congr 1;refine EN U T λk=>?_;constructor
  ·intro Z
   rcases Õ.mp ((h k).mp (Ó _ Z)) with e|e
   ·subst e;have:=Y k Z;omega
   ·exact e
  ·intro Z
   rcases Õ.mp ((h k).mpr (Ó _ Z)) with e|e
   ·subst e;have:=X k Z;omega
   ·exact e
def zh (l:List Int):(fL l).length<=l.length:=by
 induction l with
 |nil=>exact abG _
 |cons x l ih =>
  have:(fL (x::l)).length<=(fL l).length+1:=by
   show (lq x (fL l)).length<=_;generalize fL l=m
   induction m with
   |nil=>exact abG _
   |cons y m Z =>
    unfold lq;split
    ·simp
    ·split
     ·simp
     ·simp only[ñ];omega
  simp only[ñ];omega
def PR (ns:List Int):(ns.foldl PyProof.Rows.step_dedup []).length<=(fL ns).length:=sub_len (yW ns [] List.nodup_nil) λk Z=>ow.mpr ((FX ns k).mp Z)
def qk (d:D) (s:aa):Res D:=match d with
 | .lst Y=>match oS Y with
  |some Z=>if decide ((fL Z).length<64)=true then ok (.lst ((fL Z).map D.int)) s else none
  |none=>none
 |_=>none
def NG {p p2 xT:Pos} (ha:PE X a (tE X.K Ξ f)) (hc:X.calm=true) (hg:Gl X "sorted") (hm:X.mg "sorted"=none) (hv:ú "sorted"=some (.builtin "sorted")) (XW:Gl X "set") (XX:X.mg "set"=none) (XY:ú "set"=some (.type "set"))
  (he:Ê [a] X.env=(false,ĩ a X.env)::Ê [] X.env:=by rfl) (bH:(ħ xT (Ê [] X.env)).any (·.1)=false:=by rfl)
  (Ld:Ê [.Call (.Name "set" p2) [a] [] xT] X.env=(false,ĩ (.Call (.Name "set" p2) [a] [] xT) X.env)::Ê [] X.env:=by rfl) (WX:(ħ pos (Ê [] X.env)).any (·.1)=false:=by rfl) :
  PE X (.Call (.Name "sorted" p) [.Call (.Name "set" p2) [a] [] xT] [] pos) (tE X.K Ξ (e1 qk f)) :=
 b9 (vQ (My hc) hg hm hv (jd (FO (NC hc) XW XX XY (jd ha l7 he) (by decide) (by decide) he bH) l7 Ld) (by decide) (by decide) Ld WX) fun σ H Q J=>by
  obtain⟨w,env,I,S,G,h⟩:=J;subst I;refine⟨w,env,rfl,S,G,(Out.ao h).mono λU d A F W v P=>?_⟩;unfold qk at W;split at W
  ·rename_i z
   split at W
   ·rename_i Y E
    split at W
    ·rename_i T
     have T:=ÿ T;simp only[DV] at P;obtain⟨p,y,rfl,O,N⟩:=P;rw[Gy E] at N;rw[N.Gr] at O;have D:=Nat.lt_of_le_of_lt (PR Y) T;refine⟨p,Y,rfl,O.sq,by omega,λq M=>?_⟩;refine⟨q,Y,rfl,cx,D,λl x C hs B=>?_⟩;have e:=EN hs (EY Y) λk=>(B k).trans ow.symm;subst e;have R:(U.grow q (.ext (lj X.prog X.w q Y))).H l=none:=C;have L:=F.grow (o:=.ext (lj X.prog X.w q Y)) M;exact W ((U.grow q (.ext (lj X.prog X.w q Y))).grow l (.lst ((fL Y).map V.int))) ((Fw.grow M).le.trans (Fw.grow R).le) (L.grow R) rfl (.ref l) ⟨l,_,rfl,⟨(show ¬ (U.grow q (.ext (lj X.prog X.w q Y))).Z l from l8 L R),cx⟩,aq.ints _⟩
    ·exact W.elim
   ·exact W.elim
  ·exact W.elim
def pk (i j:Nat) (fa:abC (List D)):abC Fl:=λenv s=>ao (fa env s) λZ s=>match Z with
 | [x,y]=>ok (.nx ((env.set i (some x)).set j (some y))) s
 |_=>none
def AH (i j:Nat) {x y:Str} {px py pt:Pos} {kt k2 iu} (hc:X.calm=true) (hN:X.N.Nodup) (ha:PA X [a,b] (tA X.K Ξ fa)) (hi:X.N[i]?=some x:=by rfl) (hj:X.N[j]?=some y:=by rfl) (eQ:i≠j:=by decide)
  (hx:X.env.scope.names.lookup x=some .local:=by rfl) (hy:X.env.scope.names.lookup y=some .local:=by rfl)
  (hw:ψ [.Tuple [.Name x px,.Name y py] kt pt] (.Tuple [a,b] k2 iu) X.env=pure (some [x,y]):=by rfl)
  (hs:χ [.Tuple [.Name x px,.Name y py] kt pt] (.Tuple [a,b] k2 iu) pos.line X.env=pure false:=by rfl) :
  PS X (.Assign [.Tuple [.Name x px,.Name y py] kt pt] (.Tuple [a,b] k2 iu) pos) (tS X.K Ξ (pk i j fa)):=jf (SJ hc hN hi hj eQ hx hy ha hw hs) λO σ H W=>by
 obtain⟨w,env,V,S,Y,h⟩:=W;subst V;refine⟨w,env,rfl,S,Y,(Out.ao h).mono λM L U T Z J R=>?_⟩;split at Z
 ·obtain⟨v,u,rfl,Q,P⟩:=oI R
  exact⟨v,u,rfl,aA T Z _ (((Y.le U).set Q i).set P j)⟩
 ·exact Z.elim
end
end DI
namespace L2
open PySem PySem.Spec PyProof.Rows
structure DS (Y:Cx) (D:Ø) (π:List (Ø×Obj)):Prop where
 loc:D≠Y.env.locals
 fs:D∉Y.fs
 new:Y.cL.heap.objs.size<=D
 cell:∀x c,Y.env.cells.lookup x=some c->c≠D
 pin:∀p∈Y.pn++π,p.1≠D
structure pV (Y:Cx) (D:Ø) (nt:Nat) (caps:St) (π:List (Ø×Obj)) (o:St) (H:Hp) (s:Ä) (acc:List V):Prop where
 inv:Inv Y π (o++caps) H s
 len:o.length=nt
 lst:∃ys,s.heap.PlainList D ys/\Vals acc ys.toList
 free:H D=none
 lJ:acc.length<=Ú
abbrev kf:=St->Hp->List V->(St->List V->Hp->Prop)->Prop
def uk (Y:Cx) (D:Ø) (nt:Nat) (caps:St) (c:Code) (m:Sem PySem.Fin) (ta:kf):Prop :=
 ∀(X:List (Ø×Obj)) (o:St) (H:Hp) (s:Ä) (Z:List V) (Q:St->List V->Hp->Prop),DS Y D X->pV Y D nt caps X o H s Z->ta (o++caps) H Z Q ->
  Û (ä Y.prog Y.w) Y.A m (λfn S=>fn=.again c/\∃W U T,pV Y D nt caps X W U S T/\Q (W++caps) T U) (λ_ _=>False) s
def CA (J:It) (g:TG) (tf:TT) (ta:kf) (τ:St) (acc:List V) (H:Hp) (Q:St->List V->Hp->Prop):Prop:=∃W:Nat->Nat->St->List V->Hp->Prop,(∃m,W 0 m τ acc H) /\
 ∀i m τ acc Z,W i m τ acc Z->(J.stop i Z/\Q τ acc Z) \/
  (J.go i Z/\∃N:St->List V->Hp->Prop,(∀ X U T,N X U T->∃S,S < m/\W (i+1) S X U T) /\
   ∀x R,J.rK i Z x R->g x τ R fun Y O=>tf Y O λb P=>if b=true then ta Y P acc N else N Y acc P)
def JB (te:TE):kf:=fun Y H Z Q=>Z.length+1<=Ú/\te Y H λv X=>Q Y (Z++[v]) X
def JC (wi:TI) (g:TG) (tf:TT) (ta:kf):kf:=fun Y H Z Q=>wi Y H λJ X=>CA J g tf ta Y Z X Q
section
variable {Y:Cx} {D:Ø} {nt:Nat} {caps:St}
def DS.obj (ds:DS Y D π) (B:pV Y D nt caps π o H s acc):∃oD ys nn,s.heap.get? D=some oD/\oD={ cls:=.type "list",data:=.seq ys nn }/\Vals acc ys.toList/\Inv Y (π++[(D,oD)]) (o++caps) H s:=by
 obtain⟨ys,⟨nn,Z⟩,X⟩:=B.lst;refine⟨_,ys,nn,Z,rfl,X,B.inv.lX λp W=>?_⟩
 rcases Ą.mp W with z|z
 ·exact B.inv.pin p (Î _ z)
 ·have e:p=(D,{ cls:=.type "list",data:=.seq ys nn }):=by simpa using z
  subst e;exact⟨Z,B.free,ds.loc,ds.fs,λv z=>by cases z⟩
def Gz (hx:Y.xe=λ_ _=>False) (hE:PE Y el te):uk Y D nt caps c ((do let _ <- call (.builtin "list.append") [.ref D,<- ĩ el Y.env]:Sem Unit) >>= λ_=>again c) (JB te):=by
 intro S o H s W Q Z B h;obtain⟨O,h⟩:=h;obtain⟨N,V,nn,u,M,R,I⟩:=Z.obj B;have q:=hE _ s _ H _ I h;rw[hx] at q;refine À (À (aG q λy X L=>?_));obtain⟨v,U,P,K,J⟩:=L;have T:=P.pin (D,N) (Î _ (Î _ (by simp)));have G:X.heap.PlainList D V:=⟨nn,by rw[<- M];exact T.1⟩;have F:V.size<=Ú:=by
  have e:=R.length;simp only[ø] at e;omega
 refine À (wpAny_list_append_plain (hsz:=F) G λE C A=>Ã (Ã ⟨rfl,?_⟩));have z:Inv Y S (o++caps) U X:=P.lV
 have x:Inv Y S (o++caps) U { X with heap:=E,toks:=X.toks }:=z.turned (it:=D) (λb o w e=>(A.2 b w).trans e) T.2.1 Z.loc (.inr Z.new) Z.cell Z.pin
 refine⟨o,U,W++[v],⟨x,B.len,⟨V.push y,C,?_⟩,T.2.1,by rw[Þ];simpa using O⟩,J⟩;rw[aaO];exact Vals.append R (.cons K .nil)
def Fs (hx:Y.xe=λ_ _=>False) (hc:Y.calm=true)
 (T:Turn Y.prog Y.w Y.K tg J fp it tn) (X0:tn 0 s.heap) (hf:∀b∈fp,fO Y π H b) (mQ:D∉fp) (hG:PG Y tg g) (fV:mL g nt) (hF:PF Y tests tf) (hA:uk Y D nt caps (.compLoop e d (.ref it) (.ref D) Y.env) act ta) (ds:DS Y D π) (B:pV Y D nt caps π o H s acc) (hq:(Code.compLoop e d (.ref it) (.ref D) Y.env).quiet=true)
 (WY:∀(M:Model) (A:ê) (Q':Fin->Ä->Prop) (E':Å->Ä->Prop) (s':Ä),Û (ä Y.prog Y.w) A (compTurn e d (.ref it) (.ref D) Y.env) Q' (λ_ _=>False) s'->Û (ä Y.prog Y.w) (A.under (.compLoop e d (.ref it) (.ref D) Y.env)) ((ä Y.prog Y.w).den (.compLoop e d (.ref it) (.ref D) Y.env)) Q' E' s')
 (ht:compTurn e d (.ref it) (.ref D) Y.env=(do
   ZZ p0
   match <- aaj (.ref it) with
   |none=>pure (.done .next)
   |some v =>
    ŕ tg (.ref it) v
    abn tg Y.env v
    let mut ok:=true
    for c in tests do
     if ok then ok <- isTrue c Y.env (ĩ c Y.env)
    if ok then act else again (.compLoop e d (.ref it) (.ref D) Y.env)))
 (h:CA J g tf ta (o++caps) acc H Q) :
  ŷ (ä Y.prog Y.w) Y.A (.compLoop e d (.ref it) (.ref D) Y.env) (λr s'=>r=.ok .next/\∃o' H' iZ,pV Y D nt caps π o' H' s' iZ/\Q (o'++caps) iZ H') s:=by
 obtain⟨W,⟨m0,w0⟩,turn⟩:=h;have F:∀{H':Hp} {pl:List (Ø×Obj)},(∀b∈fp,H' b=none)->(∀p∈pl,p.1∉fp)->∀b∈fp,fO Y (π++pl) H' b:=λ{H' pl} hn X b Z=>by
  obtain⟨_,f1,pW,f3,f4,f5⟩:=hf b Z;refine⟨hn b Z,f1,pW,f3,f4,λp u7=>?_⟩
  rcases Ą.mp u7 with z|z
  ·exact f5 p (ý _ z)
  ·rcases Ą.mp z with z|z
   ·exact f5 p (Î _ z)
   ·exact λe=>X p z (e ▸ Z)
 refine codeAny_loop hq (λn s'=>∃i acc o H',pV Y D nt caps π o H' s' acc/\tn i s'.heap/\(∀b∈fp,H' b=none)/\W i n (o++caps) acc H') (λn s3 hJ=>?_) m0 ⟨0,acc,o,H,B,X0,λb Z=>(hf b Z).1,w0⟩;obtain⟨i,acc,o3,O,U,nK,nL,w3⟩:=hJ;refine WY (ä Y.prog Y.w) _ _ _ _ ?_;rw[ht];obtain⟨N,L,nn,ho,eo,E,u9⟩:=ds.obj U;have C:∀p∈[(D,N)],p.1∉fp:=λp X=>by
  have e:p=(D,N):=by simpa using X
  subst e;exact mQ
 have rW:∀{pl:List (Ø×Obj)} {R:St} {H':Hp} {s':Ä},Inv Y (π++[(D,N)]++pl) R H' s'->s'.heap.PlainList D L/\H' D=none:=λ{pl R H' s'} I=>by
  have q:=I.pin (D,N) (Î _ (ý _ (Î _ (by simp))));exact⟨⟨nn,by rw[<- eo];exact q.1⟩,q.2.1⟩
 refine À (Ŷ (À ?_))
 rcases turn i n _ acc O w3 with ⟨stop,q⟩ | ⟨go,N',hN,step⟩
 ·have y:=T.done Y rfl rfl rfl hc i _ s3 _ O (λ_ _=>False) u9 (F nL C) nK stop
  refine aG y λr s4 P=>?_;obtain⟨t,I4⟩:=P;subst t;obtain⟨Ds,n4⟩:=rW (pl:=[]) (by simpa using I4);exact Ã ⟨rfl,o3,O,acc,⟨I4.lV,U.len,⟨L,Ds,E⟩,n4,U.lJ⟩,q⟩
 ·have y:=T.item Y rfl rfl rfl hc i _ s3 _ O (λ_ _=>False) u9 (F nL C) nK go
  refine aG y λr s4 P=>?_;obtain⟨u,t,P⟩:=P;subst t;refine À (aG P λ_ s5 h5=>?_);obtain⟨x,m,I5,r5,y5,l,uD⟩:=h5;have uE:=I5.pinned (F uD C) (T.obj _ _ l);have q5:=hG _ s5 _ m x u _ uE r5 (fV x o3 _ m _ U.len (step x m y5));rw[hx] at q5;refine À (aG q5 λ_ s6 h6=>?_);obtain⟨rX,H6,I6,⟨k,va,xU⟩,q6⟩:=h6;have V:=hF _ s6 rX H6 _ I6 q6;rw[hx] at V;refine À (aG V λb s7 h7=>?_);obtain⟨j,G,V⟩:=h7;subst xU;obtain⟨yx,n7⟩:=rW G;have f:Inv Y (π++m7 fp s5.heap) (k++caps) j s7:=G.lX λp X=>by
   rcases Ą.mp X with z|z
   ·exact G.pin p (Î _ (ý _ (ý _ z)))
   ·exact G.pin p (Î _ (Î _ z))
  have uq:∀{R:St} {H':Hp} {s':Ä},Inv Y (π++m7 fp s5.heap) R H' s'->tn (i+1) s'.heap/\∀b∈fp,H' b=none:=λ{R H' s'} I=>by
   refine⟨T.keep _ _ _ l λb Z o e=>(I.pin (b,o) (Î _ (Î _ (qe Z e)))).1,λb Z=>?_⟩;obtain⟨o,e,_⟩:=T.obj _ _ l b Z;exact(I.pin (b,o) (Î _ (Î _ (qe Z e)))).2.1
  cases b with
  |false =>
   rw[è Ï] at V;obtain⟨a,hm,w7⟩:=hN _ _ _ V;obtain⟨t7,f7⟩:=uq f;exact Ã ⟨rfl,a,hm,i+1,acc,k,j,⟨f.lV,va,⟨L,yx,E⟩,n7,U.lJ⟩,t7,f7,w7⟩
  |true =>
   rw[ß rfl] at V;have Du:DS Y D (π++m7 fp s5.heap):=⟨ds.loc,ds.fs,ds.new,ds.cell,λp X=>by
    rcases Ą.mp X with z|z
    ·exact ds.pin p (ý _ z)
    ·rcases Ą.mp z with z|z
     ·exact ds.pin p (Î _ z)
     ·exact λe=>mQ (e ▸ (FH z).1)⟩
   refine aG (hA _ k j s7 acc N' Du ⟨f,va,⟨L,yx,E⟩,n7,U.lJ⟩ V) λfn s8 h8=>?_;obtain⟨X1,o8,H8,WZ,S,q8⟩:=h8;subst X1;obtain⟨a,hm,w8⟩:=hN _ _ _ q8;obtain⟨t8,f8⟩:=uq S.inv;exact⟨rfl,a,hm,i+1,WZ,o8,H8,⟨S.inv.lV,S.len,S.lst,S.free,S.lJ⟩,t8,f8,w8⟩
end
def Iu (A:ê) (Q':Fin->Ä->Prop) (E':Å->Ä->Prop) (s':Ä)
 (h:Û (ä P w) A (compTurn (.ListComp el gens sc ps) d gy av ce) Q' (λ_ _=>False) s'):Û (ä P w) (A.under (.compLoop (.ListComp el gens sc ps) d gy av ce)) ((ä P w).den (.compLoop (.ListComp el gens sc ps) d gy av ce)) Q' E' s':=by
 show Û _ A ((compTurn (.ListComp el gens sc ps) d gy av ce).onRaise (λx=>do noteFrame x ce;theTreesLotGoes x)) _ _ s'
 exact wpAny_noted (Ĝ h (λ_ _ q=>q) λ_ _ z=>z.elim)
def PU (hd:gens[d]?=some ⟨target,iter,ifs,0⟩)
 (h0:ŷ (ä P w) A (.compLoop (.ListComp el gens sc ps) d it acc env) R s)
 (h:Û (ä P w) A (pyIter it) (λlM s'=>ŷ (ä P w) A (.compLoop (.ListComp el gens sc ps) d lM acc env) R s') (λ_ _=>False) s) :
  ŷ (ä P w) A (.compStart (.ListComp el gens sc ps) d it acc env) R s:=by
 refine codeAny_of_tree ?_
 show Û _ _ ((compStart (.ListComp el gens sc ps) d it acc env).onRaise (λx=>do noteFrame x env;ZZ theWindowsPlace)) _ _ s
 refine wpAny_notedAt ?_;have Z:(clausesOf (.ListComp el gens sc ps))[d]?=some ⟨target,iter,ifs,0⟩:=hd;unfold compStart;rw[Z];show Û _ _ (ask >>= _) _ _ s;refine À (Ţ (wpAny_ite ?_));split
 ·first
   |exact À (Ã (Ã (And.intro rfl h0)))
   |exact Ã (And.intro rfl h0)
 ·refine À (ş ?_)
  show Û _ _ (ZZ iter.pos >>= _) _ _ s;exact À (Ŷ (À (Ĝ h (λlM s' Y=>Ã (And.intro rfl Y)) λ_ _ x=>x.elim)))
section
variable {Y:Cx} {D:Ø} {nt:Nat} {caps:St}
def zy {el tg src:ġ} {gens:List Comprehension} {sc:ι} {ps:Pos} {tests:List ġ} {d:Nat} {wi:TI} {g:TG} {tf:TT} {ta:kf} {act:Ø->Sem PySem.Fin} {c:Code} (hx:Y.xe=λ_ _=>False) (hc:Y.calm=true) (hd:gens[d]?=some ⟨tg,src,tests,0⟩)
  (hi:PI Y tg src wi) (hG:PG Y tg g) (fV:mL g nt) (hF:PF Y tests tf) (hA:∀it:Ø,uk Y D nt caps (.compLoop (.ListComp el gens sc ps) d (.ref it) (.ref D) Y.env) (act it) ta)
  (ht:∀it:Ø,compTurn (.ListComp el gens sc ps) d (.ref it) (.ref D) Y.env=(do
   ZZ src.pos
   match <- aaj (.ref it) with
   |none=>pure (.done .next)
   |some v =>
    ŕ tg (.ref it) v
    abn tg Y.env v
    let mut ok:=true
    for c in tests do
     if ok then ok <- isTrue c Y.env (ĩ c Y.env)
    if ok then act it else again (.compLoop (.ListComp el gens sc ps) d (.ref it) (.ref D) Y.env)))
  (hs:∀x,ù src Y.env x=pure x) :
  uk Y D nt caps c (do
   let x <- ĩ src Y.env
   ZZ src.pos
   let x <- ù src Y.env x
   let _ <- runOwn (.compStart (.ListComp el gens sc ps) d (<- μ [x] (pyIter x)) (.ref D) Y.env) Y.env
   again c) (JC wi g tf ta):=by
 intro X o H s Z Q W B h;obtain⟨V,M,nn,a,L,K,I⟩:=W.obj B;have q:=hi _ s _ H _ I h;rw[hx] at q;refine À (aG q λv s1 G=>À (Ŷ ?_));rw[hs];refine À (Ã (À (ĝ (aG G λgy F E=>?_))));obtain⟨it,U,tn,J,S,e,R,T,P,f2,ca⟩:=E;subst e;have O:=R.pin (D,V) (Î _ (Î _ (by simp)));have C:D∉U:=λz=>(f2 D z).2.2.2.2.2 (D,V) (Î _ (Î _ (by simp))) rfl;have y:∀b∈U,fO Y X S b:=λb w=>by
  obtain⟨a1,a2,u,t,n,m⟩:=f2 b w;refine⟨a1,a2,u,t,n,λp l=>m p ?_⟩
  rcases Ą.mp l with z|z
  ·exact ý _ z
  ·exact Î _ (ý _ z)
 have k:pV Y D nt caps X o S F Z:=⟨R.lV,B.len,⟨M,⟨nn,by rw[<- L];exact O.1⟩,K⟩,O.2.1,B.lJ⟩;have loop:=Fs (e:=.ListComp el gens sc ps) (d:=d) hx hc T P y C hG fV hF (hA it) W k rfl (λ_ A j i N h=>Iu A j i N h) (ht it) ca;refine À (wpAny_runOwn ?_);refine ō (PU hd loop (T.self _ _ _ _ _ P loop)) λr N f=>?_;obtain⟨e,q⟩:=f;subst e;exact Ã ⟨rfl,q⟩
end
def Iv (wi:TI) (nt:Nat) (cap:List Nat) (g:TG) (tf:TT) (ta:kf):TE:=fun σ H Q=>wi σ H λJ X=>CA J g tf ta (Ñ nt none++mj cap σ) [] X λ_ Z Y=>∀D,Y D=none->Q (.ref D) (upd Y D (.lst Z))
section
variable {X:Cx}
def GA {el tg src:ġ} {tests:List ġ} {rest:List Comprehension} {sc:ι} {ps:Pos} {N:List Str} {nt:Nat} {cap:List Nat} {wi:TI} {g:TG} {tf:TT} {ta:kf} {act:Env->Ø->Ø->Sem PySem.Fin} (hc:X.calm=true) (S:sP X sc N nt cap) (fV:mL g nt) (hi:PI X tg src wi)
  (hY:∀(cl:List (Str×Ø)) (C:Ø) (s:Ä) (H:Hp) (ex:List Ø) (pn:List (Ø×Obj)),PG (dJ X N sc cl C s H ex pn) tg g/\PF (dJ X N sc cl C s H ex pn) tests tf/\∀D caps it,uk (dJ X N sc cl C s H ex pn) D nt caps (.compLoop (.ListComp el (⟨tg,src,tests,0⟩::rest) sc ps) 0 (.ref it) (.ref D) (compEnvC sc cl C X.env)) (act (compEnvC sc cl C X.env) D it) ta)
  (ht:∀(it D:Ø) (ce:Env),compTurn (.ListComp el (⟨tg,src,tests,0⟩::rest) sc ps) 0 (.ref it) (.ref D) ce=(do
   ZZ src.pos
   match <- aaj (.ref it) with
   |none=>pure (.done .next)
   |some v =>
    ŕ tg (.ref it) v
    abn tg ce v
    let mut ok:=true
    for c in tests do
     if ok then ok <- isTrue c ce (ĩ c ce)
    if ok then act ce D it else again (.compLoop (.ListComp el (⟨tg,src,tests,0⟩::rest) sc ps) 0 (.ref it) (.ref D) ce)))
  (hs:∀x,ù src X.env x=pure x:=by intro _;rfl):PE X (.ListComp el (⟨tg,src,tests,0⟩::rest) sc ps) (Iv wi nt cap g tf ta):=by
 intro π s σ H Q I h;obtain⟨cl,Bv,j⟩:=Ih (env:=X.env) (sc:=sc) λn F=>I.ok.has n (S.frees _ F rfl).2;rw[eval_ListComp];refine wpAny_comprehension_free (use:=none) rfl hs Bv S.kind S.names (aG (hi π s σ H _ I h) λxv s1 h1=>aG h1 λgy Z h2=>?_);obtain⟨it,R,tn,J,E,e,U,T,i,f2,ca⟩:=h2;subst e;refine þ (wpAny_newFunctionEnv S.sQ (by intro y hy;simp at hy) (λh3 B L=>?_) S.kind);dsimp only at B L |-;generalize f:Z.heap.objs.size=D at B L |-;generalize a:Z.heap.push { cls:=.type "list",dict:=none,data:=.seq ([]:List Å).toArray }=G at B L |-;generalize Dv:G.objs.size=C at B L |-;have hC:C=D+1:=by rw[<- Dv,<- a,ă,f]
 have pY:D≠C:=by omega
 have P:Z.heap.objs.size<=D:=abo f;have t:Z.heap.objs.size<=C:=by omega
 have old:∀b o,Z.heap.get? b=some o->h3.get? b=some o:=λb o e=>L.extBut b o (â (È (Ë e) t)) (Á _ (a ▸ Á _ e));have ra:h3.PlainList D #[]:=⟨_,L.extBut _ _ pY (Á _ (a ▸ f ▸ Í _ rfl))⟩;have fT:∀b∈R,b<Z.heap.objs.size:=λb O=>by
  obtain⟨o,e,_⟩:=T.obj _ _ i b O;exact Ë e
 have IB:=U.block (t':=Z.toks+([]:List (Str×Å)).length) S j f2 fT old t ⟨_,B⟩;have Dw:D∉ck X.stack:=λz=>by
  rcases Õ.mp (U.jO D z) with e|e
  ·exact absurd (È U.lt P) (by rw[e];exact ï _)
  ·exact U.tY P e
 have mQ:D∉R:=λz=>absurd (È (fT D z) P) (ï _);have AI:∀x c,cl.lookup x=some c->c≠D:=λx c e z=>by
  obtain⟨v,o,ho,_⟩:=U.cell x c ((j x c).mp e).2;exact absurd (È (Ë ho) (by rw[z];exact P)) (ï _)
 have Bw:∀p∈X.pn++π,p.1≠D:=λp hp z=>absurd (È (Ë (U.pin p hp).1) (by rw[z];exact P)) (ï _);have fin:∀(s':Ä) (τ:St) (W:Hp) (acc:List V) (M:Array Å),Inv (dJ X N sc cl C Z E R (X.pn++π)) [] τ W s'->s'.heap.PlainList D M->Vals acc M.toList->W D=none->acc.length<=Ú->(∀D,W D=none->Q (.ref D) (upd W D (.lst acc))) ->
   compPost (ä X.prog X.w) X.A X.xe none (EP X π σ Q) (.ref D) C (.ok .next) s':=by
  intro s' τ W acc M K pl rv F hz q;obtain⟨m,hm,_⟩:=id K.loc;refine⟨m,hm,λl sb=>?_⟩;have Ci:cm X.prog X.w W l:=K.aB.but K.free sb;obtain⟨n,ho⟩:=pl;have fQ:l.get? D=some { cls:=.type "list",data:=.seq M n }:=(sb.2 D pY).trans ho;have new:dB X.prog X.w (upd W D (.lst acc)) l D (.lst acc):=⟨hz,M.toList,n,rv,by simpa using fQ⟩;have u:=(K.base.but t sb).adopt (o:=.lst acc) P F
  refine⟨.ref D,upd W D (.lst acc),U.tu (s':={ s' with heap:=l }) (ch:=R) K.os u (Ci.adopt F new) K.bare (λb O=>?_),rfl,q D F⟩
  obtain⟨_,f1,_,f3,f4,f5⟩:=f2 b O;exact⟨f3,f1,f4,f5⟩
 have mR:∀b∈R,fO (dJ X N sc cl C Z E R (X.pn++π)) [] E b:=λb O=>by
  obtain⟨f0,f1,pW,f3,f4,f5⟩:=f2 b O;refine⟨f0,â (È (fT b O) t),λz=>?_,.inl O,λx c e=>f4 x c ((j x c).mp e).2,λp u7=>?_⟩
  ·rcases Õ.mp (U.jO b z) with e|e
   ·exact f1 e
   ·exact pW e
  ·exact f5 p (by simpa using u7)
 obtain⟨Dx,Dy,X2⟩:=hY cl C Z E R (X.pn++π);have loop:=Fs (Y:=dJ X N sc cl C Z E R (X.pn++π)) (D:=D) (nt:=nt) (caps:=mj cap σ) (e:=.ListComp el (⟨tg,src,tests,0⟩::rest) sc ps) (d:=0) (π:=[]) (o:=Ñ nt none) (acc:=[]) rfl hc T
  (T.keep _ _ _ i λb _ o e=>old b o e) mR mQ Dx fV Dy (X2 D _ it) ⟨pY,Dw,P,AI,λp hp=>Bw p (by simpa using hp)⟩ ⟨IB,by simp,⟨#[],ra,.nil⟩,U.aB.fresh P,Ċ _⟩ rfl (λ_ A Q' E' s' h=>Iu A Q' E' s' h) (ht it D _) ca
 have JD:=ō loop (R':=compPost (ä X.prog X.w) X.A X.xe none (EP X π σ Q) (.ref D) C) λr s' hr=>by
  obtain⟨e,o',W,iZ,k,q'⟩:=hr;subst e;obtain⟨M,pl,rv⟩:=k.lst;exact fin s' _ W iZ M k.inv pl rv k.free k.lJ q'
 exact codeAny_compStart_list JD (T.self _ _ _ _ _ (T.keep _ _ _ i λb _ o e=>old b o e) JD)
end
end L2
namespace DI
open PySem L2
def hV:ú "isinstance"=some (.builtin "isinstance"):=by decide +kernel
def tJ:ú "int"=some (.type "int"):=by decide +kernel
def AJ:ú "bool"=some (.type "bool"):=by decide +kernel
def iE:ú "tuple"=some (.type "tuple"):=by decide +kernel
def AK:ú "list"=some (.type "list"):=by decide +kernel
def Vl:ú "set"=some (.type "set"):=by decide +kernel
def Bx:ú "all"=some (.builtin "all"):=by decide +kernel
def JE:ú "any"=some (.builtin "any"):=by decide +kernel
def jr:ú "len"=some (.builtin "len"):=by decide +kernel
def Vm:ú "max"=some (.builtin "max"):=by decide +kernel
def Vn:ú "min"=some (.builtin "min"):=by decide +kernel
def zz:ú "sorted"=some (.builtin "sorted"):=by decide +kernel
structure Gd (K:Ď) (mg:Str->Option Å) (x:Str) (st:aaX) (ps:List Str) (f:Ø) (fd:Ė):Prop where
 mg:mg x=some (.ref f)
 fn:nO K x x st f fd
 b:Binds K fd ps []
def Vo {P:ã} {w:Ă} {K:Ď} {mg:Str->Option Å} {base:ĥ} {k:Nat} {f:Ø} {fd:Ė} {ps:List Str} {g:List D->aa->Res D} (h:∀ds s,g ds s=none):cB P w K mg base dA k f fd ps (jF K g) :=
 ⟨λY H Q E Z=>by obtain⟨w,ds,_,_,_,q⟩:=Z;rw[h] at q;exact q.elim,λA outer s H args X Y Q E _ _ _ _ Z=>by obtain⟨w,ds,_,_,_,q⟩:=Z;rw[h] at q;exact q.elim⟩
def jw (g:D->Env->Option Env) (t:abC Bool) (act:abC (List D)) (lh:Env):List D->aa->Res (List D)
 | [],s=>ok [] s
 |d::Z,s=>match g d lh with
  |none=>none
  |some env=>ao (ne (t env s)) λb s=>if b=true then ao (ne (act env s)) λY s=>ao (jw g t act lh Z s) λX s=>ok (Y++X) s
   else jw g t act lh Z s
def emit (f:abC D):abC (List D):=λenv s=>ao (f env s) λx s=>ok [x] s
def more (it:abC (List D)) (g:D->Env->Option Env) (t:abC Bool) (act:abC (List D)):abC (List D):=λenv s=>ao (it env s) λZ s=>jw g t act env Z s
def sT (nt:Nat) (cap:List Nat) (it:abC (List D)) (g:D->Env->Option Env) (t:abC Bool) (act:abC (List D)):abC D:=λenv s =>
 ao (it env s) λY s=>ao (ne (jw g t act (Ñ nt none++gk cap env) Y s)) λZ s=>hZ Z (ok (.lst Z) s)
def Sl (g:D->Env->Option Env) (sl:List Nat):Prop:=∀d env Z,g d env=some Z->Z.length=env.length/\∀i,i∉sl->Z[i]?=env[i]?
def wj (i:Nat):Sl (gN i) [i]:=λd env Z h=>by
 have e:env.set i (some d)=Z:=abH h;subst e;refine⟨ĉ ..,λj Y=>?_⟩;rw[Ö (λz=>Y (by simp[z]))]
theorem JF:∀(is:List Nat) (ds:List D) (env aD:Env),gR (is.map gN) ds env=some aD->aD.length=env.length/\∀i,i∉is->aD[i]?=env[i]?
 | [],[],env,aD,h=>by
  have e:env=aD:=abH h;rw[e];exact⟨rfl,λ_ _=>rfl⟩
 | [],_::_,_,_,h=>by cases h
 |_::_,[],_,_,h=>by cases h
 |j::is,d::ds,env,aD,h=>by
  have Z:gR (is.map gN) ds (env.set j (some d))=some aD:=h;obtain⟨Y,X⟩:=JF is ds _ aD Z;refine⟨by rw[Y,ĉ],λi hi=>?_⟩;rw[X i (λz=>hi (Ó _ z)),Ö (λz=>hi (by rw[z];exact Ô ..))]
def AA (is:List Nat):Sl (gT (is.map gN)) is:=λd env Z h=>by
 cases d with
 |tup Y=>exact JF is Y env Z h
 |_=>cases h
def len_same {g:D->Env->Option Env} {sl:List Nat} {d:D} {env aD:Env} (hs:Sl g sl) (hg:g d env=some aD):aD.length=env.length:=(hs d env aD hg).1
def hU (sl:List Nat) (env:Env):Prop:=∀i∈sl,∀d,env[i]?≠some (some d)
def bK.back {K:Ď} {w:Wd} {env aD:Env} {σ:St} {g:D->Env->Option Env} {sl:List Nat} {d:D} (hs:Sl g sl) (hf:hU sl env) (hg:g d env=some aD) (hl:env.length=σ.length) (h:bK K w aD σ):bK K w env σ :=
 ⟨hl,λi x e=>by
  by_cases hi:i∈sl
  ·exact absurd e (hf i hi x)
  ·exact h.val i x (by rw[(hs d env aD hg).2 i hi];exact e)⟩
def tK (K:Ď) (Pre:Env->Prop) (ta:kf) (act:abC (List D)):Prop:=∀(w:Wd) (env:Env) (U:St) (Y:List V) (Z W:List D) (T:aa) (Q:St->List V->Hp->Prop),Pre env->aI K w->bK K w env U->aq K w Z Y ->
 act env w.ay=some (.ok W,T)->Y.length+W.length<=Ú->(∀X S R,Le K w X->aI K X->X.ay=T->bK K X env S->aq K X (Z++W) R->Q S R X.H)->ta U w.H Y Q
def ql {α β:Type} {r:Res α} {k:α->aa->Res β} {b:β} {s':aa} (h:ao r k=some (.ok b,s')):∃a s,r=some (.ok a,s)/\k a s=some (.ok b,s'):=by
 match r,h with
 |some (.ok a,s),h=>exact⟨a,s,rfl,h⟩
def Ae {α:Type} {r:Res α} {a:α} {s:aa} (h:ne r=some (.ok a,s)):r=some (.ok a,s):=by
 match r,h with
 |some (.ok b,Z),h=>exact h
def Fd {K:Ď} {f:abC D}:tK K (λ_=>True) (JB (tE K bR f)) (emit f):=by
 intro w env W Z Y J I Q _ S X V h U T;obtain⟨x,H,R,P⟩:=ql h;cases P;refine⟨by simpa using U,w,env,rfl,S,X,?_⟩;rw[R];intro O le N M v L;exact T O W (Z++[v]) le N M (X.le le) (aq.append (le.all V) (aq.one L))
def F0 {K:Ď} {Pre:Env->Prop} {g0:TG} {g:D->Env->Option Env} {nt:Nat} {sl:List Nat} {t:abC Bool} {act:abC (List D)} {ta:kf} {env:Env} {w1:Wd} {J:It} {ds xs accD:List D} {s':aa} {τ:St} {acc:List V} {Q:St->List V->Hp->Prop}
  (T:Tg K g0 g nt) (hs:Sl g sl) (hf:hU sl env) (hp:∀d aD,g d env=some aD->Pre aD) (hA:tK K Pre ta act) (hJ:pS K w1 J ds) (S1:aI K w1) (eo:bK K w1 env τ) (da:aq K w1 accD acc)
  (h:jw g t act env ds w1.ay=some (.ok xs,s')) (hl:acc.length+xs.length<=Ú) (hQ:∀w' cV vs,Le K w1 w'->aI K w'->w'.ay=s'->bK K w' env cV->aq K w' (accD++xs) vs->Q cV vs w'.H) :
  CA J g0 (tT K bR t) ta τ acc w1.H Q:=by
 refine⟨λi m τ acc r=>m=ds.length-i/\i<=ds.length/\∃w' accD xs,w'.H=r/\Le K w1 w'/\aI K w'/\bK K w' env τ/\aq K w' accD acc/\jw g t act env (ds.drop i) w'.ay=some (.ok xs,s')/\acc.length+xs.length<=Ú /\
   (∀Z cV vs,Le K w' Z->aI K Z->Z.ay=s'->bK K Z env cV->aq K Z (accD++xs) vs->Q cV vs Z.H),
  ⟨ds.length,rfl,Ċ _,w1,accD,xs,rfl,Le.refl _,S1,eo,da,h,hl,hQ⟩,?_⟩
 rintro i m τ acc r ⟨rfl,hi,w',accD,xs,rfl,P,L,p,O,Y,I,G⟩;by_cases F:i<ds.length
 ·right
  obtain⟨fV,hy⟩:=(hJ w' P L i).1 _ (Ð F);rw[Ũ F] at Y;simp only[jw] at Y
  cases X:g ds[i] env with
  |none=>rw[X] at Y;cases Y
  |some S =>
   rw[X] at Y;obtain⟨b,s2,E,N⟩:=ql Y;have E:=Ae E;refine⟨fV,fun τ acc o=>∃w' accD xs,w'.H=o/\Le K w1 w'/\aI K w'/\bK K w' env τ/\aq K w' accD acc/\jw g t act env (ds.drop (i+1)) w'.ay=some (.ok xs,s')/\acc.length+xs.length<=Ú /\
    (∀Z cV vs,Le K w' Z->aI K Z->Z.ay=s'->bK K Z env cV->aq K Z (accD++xs) vs->Q cV vs Z.H),fun pM nF o q=>⟨ds.length-(i+1),by omega,rfl,F,q⟩,λx H3 y=>?_⟩
   obtain⟨Z,rfl,U,n,es,dv⟩:=hy x H3 y;refine T.imp _ _ _ _ ⟨Z,env,ds[i],S,rfl,n,p.le U,dv,X,fun l R=>⟨Z,S,rfl,n,R,?_⟩⟩;have k:∀{j:St},j.length=l.length->S.length=j.length:=λe=>by rw[R.len,e]
   have el:env.length=S.length\/True:=.inr trivial;rw[es,E];intro f W c a
   cases b with
   |true =>
    rw[ß rfl] at N |-;obtain⟨ys,s3,M,h3⟩:=ql N;have M:=Ae M;obtain⟨zs,s4,hz,h4⟩:=ql h3;cases h4;rw[<- a] at M;refine hA f S l acc accD ys s3 _ (hp _ _ X) c (R.le W) ((U.trans W).all O) M (by rw[Þ] at I;omega) λw4 ZK vs l4 S4 e4 Lf Kk=>?_;have lv:=Kk.length;refine⟨w4,accD++ys,zs,rfl,P.trans (U.trans (W.trans l4)),S4,Lf.back hs hf X ?_,Kk,by rw[e4];exact hz,?_,λC B A z w v u s=>G C B A (U.trans (W.trans (l4.trans z))) w v u (by rw[<- Ů];exact s)⟩
    ·rw[<- Lf.len]
     exact(len_same hs X).symm
    ·rw[Þ] at I lv
     have:=O.length;omega
   |false =>
    rw[è Ï] at N |-;exact⟨f,accD,xs,rfl,P.trans (U.trans W),c,(R.le W).back hs hf X (by rw[<- R.len];exact(len_same hs X).symm),(U.trans W).all O,by rw[a];exact N,I,λC B A z w v u s=>G C B A (U.trans (W.trans z)) w v u s⟩
 ·left
  have e:i=ds.length:=by omega
  subst e;rw[aa6] at Y;cases Y;exact⟨(hJ w' P L _).2 (abG _),G w' τ acc (Le.refl _) L rfl p (by rw[û];exact O)⟩
def yX {K:Ď} {Pre Pre':Env->Prop} {g0:TG} {g:D->Env->Option Env} {nt:Nat} {sl:List Nat} {it:abC (List D)} {t:abC Bool} {act:abC (List D)} {ta:kf} (T:Tg K g0 g nt) (hs:Sl g sl) (hA:tK K Pre ta act)
  (h1:∀env,Pre' env->hU sl env) (h2:∀d env aD,Pre' env->g d env=some aD->Pre aD):tK K Pre' (JC (fF K bR it) g0 (tT K bR t) ta) (more it g t act):=by
 intro w env y V Y x v Q X S W U h R P;obtain⟨u,s,O,N⟩:=ql h;refine⟨w,env,rfl,S,W,?_⟩;rw[O];intro r Z M e1 J L;exact F0 T hs (h1 env X) (λd aD I=>h2 d env aD X I) hA L M (W.le Z) (Z.all U) (by rw[e1];exact N) R λH G F E C B A z=>P H G F (Z.trans E) C B A z
def F1 (T:Tg K g0 g nt) (hs:Sl g sl) (Lg:∀i∈sl,i<nt) (hA:tK K Pre ta act)
 (hp:∀d caps aD,g d (Ñ nt none++caps)=some aD->Pre aD) (σ:St) (H:Hp) (Q:VK) :
  tE K Ξ (sT nt cap it g t act) σ H Q->Iv (fF K Ξ it) nt cap g0 (tT K bR t) ta σ H Q:=by
 rintro ⟨w,env,rfl,S,U,h⟩;refine⟨w,env,rfl,S,U,(Out.ao h).mono λR M L I Y J G=>?_⟩
 cases V:jw g t act (Ñ nt none++gk cap env) M R.ay with
 |none=>rw[V] at Y;exact Y.elim
 |some r =>
  obtain⟨r,F⟩:=r;rw[V] at Y
  cases r with
  |error x=>exact Y.elim
  |ok P =>
   have Y:Out K Ξ R (hZ P (ok (D.lst P) F)) (λX d=>∀v,DV K X d v->Q v X.H):=Y;obtain⟨E,Y⟩:=qi Y;have C:=(U.le L).block nt cap (Ñ nt none) (by simp);refine F0 T hs (λi hi d e=>?_) (λd aD B=>hp d _ aD B) hA G I C (accD:=[]) rfl V (by simpa using E) λX u O A N z s y p W=>?_
   ·rw[Ü (by simpa using Lg i hi),ģ,ß (Lg i hi)] at e
    cases e
   ·exact Y (X.grow p (.lst O)) (A.trans (Fw.grow W).le) (N.grow W) z (.ref p) ⟨p,O,rfl,⟨(show ¬ X.Z p from l8 N W),cx⟩,(Fw.grow W).le.all y⟩
def hU.of {nt:Nat} {g:D->Env->Option Env} {sl cC:List Nat} (hs:Sl g sl) (hd:∀i∈cC,i<nt/\i∉sl) {d:D} {caps aD:Env} (hg:g d (Ñ nt none++caps)=some aD):hU cC aD:=λi hi x e=>by
 obtain⟨Z,Y⟩:=hd i hi;rw[(hs _ _ _ hg).2 i Y,Ü (by simpa using Z),ģ,ß Z] at e;cases e
def hU.on (hs:Sl g sl) (hd:∀i∈cC,i∉sl) (hf:hU cC env) (hg:g d env=some aD):hU cC aD:=λi hi x e=>by
 rw[(hs _ _ _ hg).2 i (hd i hi)] at e;exact hf i hi x e
section
variable {X:Cx} {Ξ:Wd->aR->Prop} {el tg src jG iH rY pq:ġ} {tests kR sU:List ġ} {sc:ι} {ps pos:Pos} {N:List Str} {nt:Nat} {cap:List Nat} {it iM yA:abC (List D)} {gd pZ DC:D->Env->Option Env} {g0 vc Lh:TG} {sl cC mS:List Nat} {ft jD Li:abC Bool} {f:abC D}
abbrev Iw (nt:Nat) (cap:List Nat) (it:abC (List D)) (g:D->Env->Option Env) (t:abC Bool) (iM:abC (List D)) (g2:D->Env->Option Env) (t2:abC Bool) (f:abC D):abC D:=sT nt cap it g t (more iM g2 t2 (emit f))
abbrev Iy (nt:Nat) (cap:List Nat) (it:abC (List D)) (g:D->Env->Option Env) (t:abC Bool) (iM:abC (List D)) (g2:D->Env->Option Env) (t2:abC Bool) (yA:abC (List D)) (g3:D->Env->Option Env) (t3:abC Bool) (f:abC D):abC D:=sT nt cap it g t (more iM g2 t2 (more yA g3 t3 (emit f)))
noncomputable def apart (nt:Nat) (sl cC:List Nat):Bool:=cC.all (λi=>decide (i<nt)&&!sl.contains i)
def qm (h:apart nt sl cC=true):∀i∈cC,i<nt/\i∉sl:=λi hi=>by
 have:=ë.mp h i hi;simp only[Æ,Ì,Ĵ,List.contains_eq_mem,decide_eq_false_iff_not] at this;exact this
noncomputable abbrev Kl (e el:ġ) (d:Nat):PySem.Env->Ø->Ø->Sem PySem.Fin:=λce D it=>(do let _ <- call (.builtin "list.append") [.ref D,<- ĩ el ce]:Sem Unit) >>= λ_=>again (.compLoop e d (.ref it) (.ref D) ce)
noncomputable abbrev Ck (e src:ġ) (d:Nat):PySem.Env->Ø->Ø->Sem PySem.Fin:=λce D it=>do
 let x <- ĩ src ce
 ZZ src.pos
 let x <- ù src ce x
 let _ <- runOwn (.compStart e (d+1) (<- μ [x] (pyIter x)) (.ref D) ce) ce
 again (.compLoop e d (.ref it) (.ref D) ce)
def Rx (hc:X.calm=true) (S:sP X sc N nt cap) (T:Tg X.K g0 gd nt) (fE:Sl gd sl) (T2:Tg X.K vc pZ nt) (cI:Sl pZ cC) (hi:PI X tg src (fF X.K Ξ it))
  (hY:∀(cl:List (Str×Ø)) (C:Ø) (s:Ä) (H:Hp) (ex:List Ø) (pn:List (Ø×Obj)),PG (dJ X N sc cl C s H ex pn) tg g0/\PF (dJ X N sc cl C s H ex pn) tests (tT X.K bR ft)/\PI (dJ X N sc cl C s H ex pn) jG iH (fF X.K bR iM)/\PG (dJ X N sc cl C s H ex pn) jG vc/\PF (dJ X N sc cl C s H ex pn) kR (tT X.K bR jD)/\PE (dJ X N sc cl C s H ex pn) el (tE X.K bR f))
  (rN:apart nt sl cC=true:=by rfl) (rP:apart nt [] sl=true:=by rfl)
  (hs:∀x,ù src X.env x=pure x:=by intro _;rfl) (DD:∀ce x,ù iH ce x=pure x:=by intro _ _;rfl):PE X (.ListComp el [⟨tg,src,tests,0⟩,⟨jG,iH,kR,0⟩] sc ps) (tE X.K Ξ (Iw nt cap it gd ft iM pZ jD f)) :=
 b9 (GA (act:=Ck (.ListComp el [⟨tg,src,tests,0⟩,⟨jG,iH,kR,0⟩] sc ps) iH 0) hc S T.kD hi (λcl C s H ex pn=>by
   obtain⟨y1,y2,y3,y4,y5,W⟩:=hY cl C s H ex pn;exact⟨y1,y2,λD Z it=>zy (d:=1) (act:=λY=>Kl (.ListComp el [⟨tg,src,tests,0⟩,⟨jG,iH,kR,0⟩] sc ps) el 1 _ D Y) rfl hc rfl y3 y4 T2.kD y5 (λY=>Gz rfl W) (λ_=>rfl) (DD _)⟩) (λ_ _ _=>rfl) hs)
  (F1 (Pre:=hU cC) T fE (λi hi=>(qm rP i hi).1) (yX T2 cI Fd (λ_ h=>h) (λ_ _ _ _ _=>trivial)) λd Z U V=>hU.of fE (qm rN) V)
def Ry (hc:X.calm=true) (S:sP X sc N nt cap) (T:Tg X.K g0 gd nt) (fE:Sl gd sl) (T2:Tg X.K vc pZ nt) (cI:Sl pZ cC) (T3:Tg X.K Lh DC nt) (X3:Sl DC mS) (hi:PI X tg src (fF X.K Ξ it))
  (hY:∀(cl:List (Str×Ø)) (C:Ø) (s:Ä) (H:Hp) (ex:List Ø) (pn:List (Ø×Obj)),PG (dJ X N sc cl C s H ex pn) tg g0/\PF (dJ X N sc cl C s H ex pn) tests (tT X.K bR ft)/\PI (dJ X N sc cl C s H ex pn) jG iH (fF X.K bR iM)/\PG (dJ X N sc cl C s H ex pn) jG vc/\PF (dJ X N sc cl C s H ex pn) kR (tT X.K bR jD) /\
   PI (dJ X N sc cl C s H ex pn) rY pq (fF X.K bR yA)/\PG (dJ X N sc cl C s H ex pn) rY Lh/\PF (dJ X N sc cl C s H ex pn) sU (tT X.K bR Li)/\PE (dJ X N sc cl C s H ex pn) el (tE X.K bR f))
  (rN:apart nt sl cC=true:=by rfl) (X4:apart nt sl mS=true:=by rfl) (X5:apart nt cC mS=true:=by rfl) (rP:apart nt [] sl=true:=by rfl)
  (hs:∀x,ù src X.env x=pure x:=by intro _;rfl) (DD:∀ce x,ù iH ce x=pure x:=by intro _ _;rfl) (X6:∀ce x,ù pq ce x=pure x:=by intro _ _;rfl):PE X (.ListComp el [⟨tg,src,tests,0⟩,⟨jG,iH,kR,0⟩,⟨rY,pq,sU,0⟩] sc ps) (tE X.K Ξ (Iy nt cap it gd ft iM pZ jD yA DC Li f)) :=
 b9 (GA (act:=Ck (.ListComp el [⟨tg,src,tests,0⟩,⟨jG,iH,kR,0⟩,⟨rY,pq,sU,0⟩] sc ps) iH 0) hc S T.kD hi (λcl C s H ex pn=>by
   obtain⟨y1,y2,y3,y4,y5,V,U,R,Q⟩:=hY cl C s H ex pn;exact⟨y1,y2,λD Z it=>zy (d:=1) (act:=λW=>Ck (.ListComp el [⟨tg,src,tests,0⟩,⟨jG,iH,kR,0⟩,⟨rY,pq,sU,0⟩] sc ps) pq 1 _ D W) rfl hc rfl y3 y4 T2.kD y5 (λW=>zy (d:=2) (act:=λiM=>Kl (.ListComp el [⟨tg,src,tests,0⟩,⟨jG,iH,kR,0⟩,⟨rY,pq,sU,0⟩] sc ps) el 2 _ D iM) rfl hc rfl V U T3.kD R (λiM=>Gz rfl Q) (λ_=>rfl) (X6 _)) (λ_=>rfl) (DD _)⟩) (λ_ _ _=>rfl) hs)
  (F1 (Pre:=λenv=>hU cC env/\hU mS env) T fE (λi hi=>(qm rP i hi).1) (yX T2 cI (yX (Pre':=hU mS) T3 X3 Fd (λ_ h=>h) (λ_ _ _ _ _=>trivial)) (λ_ h=>h.1) (λd env P h Y=>hU.on cI (λi hi=>(qm X5 i hi).2) h.2 Y)) λd Z P Y=>⟨hU.of fE (qm rN) Y,hU.of fE (qm X4) Y⟩)
end
end DI
namespace L2
open PySem PySem.Spec PyProof.Rows
end L2
namespace HT
open PySem PyProof.Rows
def Cm (A:ê) (s:Ä) (y x:Å) (b:Bool):Prop:=∀(prog:ã) (w:Ă) (E:Å->Ä->Prop) (Q:Å->Ä->Prop),Q (.bool b) s->Û (ä prog w) A (richCompare .Lt y x) Q E s
inductive iW (A:ê) (s:Ä):List Å->List Å->Bool->Prop where
 |nn:iW A s [] [] false
 |nc (y:Å) (ys:List Å):iW A s [] (y::ys) true
 |cn (x:Å) (xs:List Å):iW A s (x::xs) [] false
 |eq {x y:Å} {xs ys:List Å} {b:Bool}:SeqAt.EqAt A s x y true->iW A s xs ys b->iW A s (x::xs) (y::ys) b
 |lt {x y:Å} {xs ys:List Å} {b:Bool}:SeqAt.EqAt A s x y false->Cm A s x y b->iW A s (x::xs) (y::ys) b
section
open PySem.SeqAt
open PySem.AutoSeq1 (wpAny_loadPart')
open PySem.MeetsSeq PySem.MeetsSeq2 PySem.MeetsSeq3
def NH (l b:Ø) (items m8:Array Å) (n n2:Nat) (dd nM:Option Ø) (sl cC:Array (Option Å)) (mT:Bool) :
  Meets (ű.«tuple.__lt__» ⟨[.ref l,.ref b],[]⟩)
   (λA R s=>s.heap.get? l=some { cls:=.type "tuple",dict:=dd,data:=.seq items n,slots:=sl }/\s.heap.get? b=some { cls:=.type "tuple",dict:=nM,data:=.seq m8 n2,slots:=cC } /\
    iW A.in1 s items.toList m8.toList mT/\R (.ok (.ret (.bool mT))) s) :=
 .of_wp λprog w A R s h=>by
  obtain⟨N,g,d,M,os⟩:=s;obtain⟨K,J,I,h⟩:=h;have f2:=AutoSeq1.sub_tuple_tuple
  wp_walk using wpAny_loadPart' K,wpAny_loadPart' J,wpAny_forIn_list _ (λrest b W=>b.1=none/\W=⟨N,g,d,M,os⟩/\∃(X ws:List Å),rest=X.zip ws /\
   iW A.in1 ⟨N,g,d,M,os⟩ X ws mT/\X.length+m8.size=ws.length+items.size) _
  case turn =>
   rintro ⟨y,x⟩ rest b W ⟨V,rfl,X,ws,Y,U,Z⟩
   cases U with
   |nn=>cases Y
   |nc _ _=>cases Y
   |cn _ _=>cases Y
   |eq T S =>
    rw[ę] at Y
    injection Y with Q L
    injection Q with P O
    subst P O;simp only[ñ] at Z;refine À (T prog w _ _ ?_)
    wp_walk
    exact⟨rfl,rfl,_,_,L,S,by omega⟩
   |lt T S =>
    rw[ę] at Y
    injection Y with Q L
    injection Q with P O
    subst P O;refine À (T prog w _ _ ?_);have H:=S prog w
    wp_walk using H
    exact⟨_,rfl,by simpa using h⟩
  case fin =>
   rintro ⟨F,E⟩ W ⟨V,rfl,X,ws,Y,U,Z⟩;simp only at V;subst V;have G:mT=decide (items.size<m8.size):=by
    cases U with
    |nn=>simp only[ē] at Z;exact(ó (by omega)).symm
    |nc _ _=>simp only[ē,ñ] at Z;exact(á (by omega)).symm
    |cn _ _=>simp only[ē,ñ] at Z;exact(ó (by omega)).symm
    |eq _ _=>rw[ę] at Y;cases Y
    |lt _ _=>rw[ę] at Y;cases Y
   rw[G] at h
   wp_walk
   exact⟨_,rfl,by simpa [Builtin.Tuple.tupleCompareSizes] using h⟩
  case h =>
   exact⟨rfl,rfl,items.toList,m8.toList,rfl,I,by simp only[ø];omega⟩
end
open PySem.SeqAt PySem.MeetsSeq
section
variable {prog:ã} {w:Ă} {A:ê} {E:Å->Ä->Prop} {s:Ä}
def Hv (hl:IsTup s.heap l items) (hb:IsTup s.heap b m8) (hA:∀A':ê,A'.units<=A.units+4->iW A' s items.toList m8.toList mT)
 (hu:A.units<abz) (h:Q (.bool mT) s):Û (ä prog w) A (richCompare .Lt (.ref l) (.ref b)) Q E s:=by
 obtain⟨⟨cls,U,data,T⟩,Z,Y,n,X⟩:=id hl;obtain⟨⟨O,S,data2,R⟩,W,V,P,hd2⟩:=id hb;simp only at Y X V hd2;subst Y X V hd2;refine richCompare_meets_room (op:=.Lt) ⟨_,Z,rfl⟩ ⟨_,W,rfl⟩ PySem.F.slot_tuple_lt PySem.F.entry_tuple_lt (PySem.F.args_tuple_lt_2 _ _) (NH l b items m8 n P U S T R mT)
  ⟨Z,W,hA _ ?_,show Ő mT≠Value.notImplemented/\Q (.bool mT) s from ⟨(λx=>nomatch x),h⟩⟩ hu
 show A.units+1<=A.units+4;omega
end
end HT
namespace DI
open PySem L2 HT
mutual
noncomputable def iP:D->D->Option Bool
 | .int i,.int j=>some (decide (i<j))
 | .str x,.str y=>some (decide (x.cps.toList<y.cps.toList))
 | .tup Z,.tup Y=>i4 Z Y
 |_,_=>none
noncomputable def i4:List D->List D->Option Bool
 | [],[]=>some false
 | [],_::_=>some true
 |_::_,[]=>some false
 |x::Z,y::Y=>if beq x y=true then i4 Z Y else iP x y
end
section
variable {X:Cx} {Ξ:Wd->aR->Prop} {π:List (Ø×Obj)} {σ:St} {s:Ä} {w:Wd}
def Vp (I:Inv X π σ w.H s) (A:ê) (lx:lay x=true) (ly:lay y=true) (hu:A.units+dep x<abz) (hx:DV X.K w x v) (hy:DV X.K w y u) (rx:RelV v vx) (ry:RelV u vy):SeqAt.EqAt A s vx vy (beq x y):=by
 obtain⟨as,Z⟩:=(hx.py (ou _ lx)).reads I rx;obtain⟨bs,Y⟩:=(hy.py (ou _ ly)).reads I ry;obtain⟨W,V⟩:=jQ _ lx;obtain⟨U,T⟩:=jQ _ ly;have:=SeqAt.eqAt_reads _ _ A s vx vy as bs Z Y W U (by rw[V];omega);rw[qH _ _ lx ly] at this;exact this
mutual
theorem JH (I:Inv X π σ w.H s):∀(A:ê) (x y:D) (b:Bool) (v u:V) (vx vy:Å),iP x y=some b->lay x=true->lay y=true->A.units+5*dep x+5<abz->DV X.K w x v->DV X.K w y u->RelV v vx->RelV u vy->Cm A s vx vy b
 |A,.int i,.int j,b,v,u,vx,vy,h,_,_,_,Z,Y,W,U=>by
  cases h;cases Z;cases Y;obtain⟨t,rfl⟩:=W;obtain⟨T,rfl⟩:=U;intro prog w E Q q;exact Gj A s i t j T prog w E Q q
 |A,.str i,.str j,b,v,u,vx,vy,h,_,_,S,Z,Y,W,U=>by
  cases h;cases Z;cases Y;obtain⟨t,rfl⟩:=W;obtain⟨T,rfl⟩:=U;intro prog w E Q q;exact(PyProof.Rows.lt_str q:Û (ä prog w) A (Ě .Lt (.str i t) (.str j T)) Q E s)
 |A,.tup R,.tup P,b,v,u,vx,vy,h,O,N,S,Z,Y,W,U=>by
  simp only[iP] at h;simp only[DV] at Z Y;obtain⟨a,as,rfl,M,L⟩:=Z;obtain⟨c,cs,rfl,J,G⟩:=Y;cases W;cases U;obtain⟨its,F,C,_⟩:=I.tuple M;obtain⟨B,z,r,_⟩:=I.tuple J;intro prog o E Q q;simp only[dep] at S;exact Hv C r (λp n=>by
   have:=Iz I p R P b as cs its B h (by simpa [lay] using O) (by simpa [lay] using N) (by omega) L G F z;simpa using this) (by omega) q
 |_,.ar,_,_,_,_,_,_,h,_,_,_,_,_,_,_=>by cases h
 |_,.bl _,_,_,_,_,_,_,h,_,_,_,_,_,_,_=>by cases h
 |_,.lst _,_,_,_,_,_,_,h,_,_,_,_,_,_,_=>by cases h
 |_,.bQ _,_,_,_,_,_,_,h,_,_,_,_,_,_,_=>by cases h
 |_,.aj _,_,_,_,_,_,_,h,_,_,_,_,_,_,_=>by cases h
 |_,.ty _,_,_,_,_,_,_,h,_,_,_,_,_,_,_=>by cases h
 |_,.bO _,_,_,_,_,_,_,h,_,_,_,_,_,_,_=>by cases h
 |_,.exc _ _,_,_,_,_,_,_,h,_,_,_,_,_,_,_=>by cases h
 |_,.cD _ _ _,_,_,_,_,_,_,h,_,_,_,_,_,_,_=>by cases h
 |_,.int _,.ar,_,_,_,_,_,h,_,_,_,_,_,_,_=>by cases h
 |_,.int _,.bl _,_,_,_,_,_,h,_,_,_,_,_,_,_=>by cases h
 |_,.int _,.str _,_,_,_,_,_,h,_,_,_,_,_,_,_=>by cases h
 |_,.int _,.tup _,_,_,_,_,_,h,_,_,_,_,_,_,_=>by cases h
 |_,.int _,.lst _,_,_,_,_,_,h,_,_,_,_,_,_,_=>by cases h
 |_,.int _,.bQ _,_,_,_,_,_,h,_,_,_,_,_,_,_=>by cases h
 |_,.int _,.aj _,_,_,_,_,_,h,_,_,_,_,_,_,_=>by cases h
 |_,.int _,.ty _,_,_,_,_,_,h,_,_,_,_,_,_,_=>by cases h
 |_,.int _,.bO _,_,_,_,_,_,h,_,_,_,_,_,_,_=>by cases h
 |_,.int _,.exc _ _,_,_,_,_,_,h,_,_,_,_,_,_,_=>by cases h
 |_,.int _,.cD _ _ _,_,_,_,_,_,h,_,_,_,_,_,_,_=>by cases h
 |_,.str _,.ar,_,_,_,_,_,h,_,_,_,_,_,_,_=>by cases h
 |_,.str _,.bl _,_,_,_,_,_,h,_,_,_,_,_,_,_=>by cases h
 |_,.str _,.int _,_,_,_,_,_,h,_,_,_,_,_,_,_=>by cases h
 |_,.str _,.tup _,_,_,_,_,_,h,_,_,_,_,_,_,_=>by cases h
 |_,.str _,.lst _,_,_,_,_,_,h,_,_,_,_,_,_,_=>by cases h
 |_,.str _,.bQ _,_,_,_,_,_,h,_,_,_,_,_,_,_=>by cases h
 |_,.str _,.aj _,_,_,_,_,_,h,_,_,_,_,_,_,_=>by cases h
 |_,.str _,.ty _,_,_,_,_,_,h,_,_,_,_,_,_,_=>by cases h
 |_,.str _,.bO _,_,_,_,_,_,h,_,_,_,_,_,_,_=>by cases h
 |_,.str _,.exc _ _,_,_,_,_,_,h,_,_,_,_,_,_,_=>by cases h
 |_,.str _,.cD _ _ _,_,_,_,_,_,h,_,_,_,_,_,_,_=>by cases h
 |_,.tup _,.ar,_,_,_,_,_,h,_,_,_,_,_,_,_=>by cases h
 |_,.tup _,.bl _,_,_,_,_,_,h,_,_,_,_,_,_,_=>by cases h
 |_,.tup _,.int _,_,_,_,_,_,h,_,_,_,_,_,_,_=>by cases h
 |_,.tup _,.str _,_,_,_,_,_,h,_,_,_,_,_,_,_=>by cases h
 |_,.tup _,.lst _,_,_,_,_,_,h,_,_,_,_,_,_,_=>by cases h
 |_,.tup _,.bQ _,_,_,_,_,_,h,_,_,_,_,_,_,_=>by cases h
 |_,.tup _,.aj _,_,_,_,_,_,h,_,_,_,_,_,_,_=>by cases h
 |_,.tup _,.ty _,_,_,_,_,_,h,_,_,_,_,_,_,_=>by cases h
 |_,.tup _,.bO _,_,_,_,_,_,h,_,_,_,_,_,_,_=>by cases h
 |_,.tup _,.exc _ _,_,_,_,_,_,h,_,_,_,_,_,_,_=>by cases h
 |_,.tup _,.cD _ _ _,_,_,_,_,_,h,_,_,_,_,_,_,_=>by cases h
theorem Iz (I:Inv X π σ w.H s):∀(A:ê) (xs ys:List D) (b:Bool) (vs us:List V) (ps qs:List Å),i4 xs ys=some b->cM xs=true->cM ys=true->A.units+5*cH xs+5<abz->aq X.K w xs vs->aq X.K w ys us->Vals vs ps->Vals us qs->iW A s ps qs b
 |A,[],[],b,vs,us,ps,qs,h,_,_,_,W,U,Z,Y=>by
  cases h;cases W;cases U;cases Z;cases Y;exact .nn
 |A,[],y::ys,b,vs,us,ps,qs,h,_,_,_,W,U,Z,Y=>by
  cases h;cases W;cases Z;obtain⟨u,r,rfl,_,_⟩:=U;cases Y;exact .nc _ _
 |A,x::xs,[],b,vs,us,ps,qs,h,_,_,_,W,U,Z,Y=>by
  cases h;cases U;cases Y;obtain⟨u,r,rfl,_,_⟩:=W;cases Z;exact .cn _ _
 |A,x::xs,y::ys,b,vs,us,ps,qs,h,T,S,N,W,U,Z,Y=>by
  obtain⟨v,r,rfl,P,dr⟩:=W;obtain⟨u,G,rfl,O,M⟩:=U;simp only[cM,Æ] at T S;simp only[cH] at N;have F:=aaB (dep x) (cH xs);have E:=ž (dep x) (cH xs)
  cases Z with
  |cons Z L =>
   cases Y with
   |cons Y J =>
    have R:=Vp I A T.1 S.1 (by omega) P O Z Y;simp only[i4] at h;split at h
    ·rename_i Q
     rw[Q] at R;exact .eq R (Iz I A xs ys b _ _ _ _ h T.2 S.2 (by omega) dr M L J)
    ·rename_i Q
     rw[ż] at Q;rw[Q] at R;exact .lt R (JH I A x y b _ _ _ _ h T.1 S.1 (by omega) P O Z Y)
end
def lr (x y:D) (s:aa):Res D:=if (lay x&&lay y&&decide (dep x<=30))=true then bT ((iP x y).map D.bl) s else none
def xV (hr:bp k X.A):bG X (Ě .Lt) (rO X.K Ξ lr):=by
 rintro O s σ H x y v u Q I U T ⟨w,W,V,rfl,S,R,P,h⟩;unfold lr at h;split at h
 ·rename_i Z
  simp only[Æ,Ì] at Z;obtain⟨d,e,h⟩:=fm h
  cases Y:iP W V with
  |none=>rw[Y] at e;cases e
  |some b =>
   rw[Y] at e;cases e;exact JH I X.A W V b x y v u Y Z.1.1 Z.1.2 (by have:=hr.un;have:=Z.2;have:abz=9900:=rfl;omega) R P U T _ _ _ _ ⟨.bl b,w.H,I,rfl,aA S h _ rfl⟩
 ·exact h.elim
end
end DI
namespace DI
open PySem L2
section
variable {X:Cx} {Ξ:Wd->aR->Prop} {e:ġ} {p pos ZM ZN Wv Zu:Pos} {f:abC D}
end
def qf:List D->aa->Res D:=aN 2 2 (ax (aZ (aU (e2 lr (ae 1) (eB cN (af (ae 0) ah)))) (aM (e2 az (ae 0) (ae 1))) bN) (aM (eC (.int 0))))
def sA:List D->aa->Res D:=aN 2 3 (ax (bt (aS qf (af (ae 0) (af (ae 1) ah))) (gN 2)) (aM (eNew (af (eB qR (af (eC (.int 0)) (af (e2 tG (ae 2) (e2 qQ (eC (.int 10)) (eC (.int 18)))) ah))) (af (e2 gP (ae 2) (eC (.int 2147483647))) ah)))))
def dQ:List D->aa->Res D:=aN 2 4 (ax (aZ (aU (e2 pb (e2 az (ae 0) (eC (.int 0))) (eC (.int 0)))) (ax (bt (e2 gP (e2 az (ae 0) (eC (.int 0))) (ae 1)) (gN 2)) (ax (mz (e2 oQ (e2 az (ae 0) (eC (.int 0))) (ae 1)) (ae 0) (eC (.int 0))) (aM (ae 2)))) bN) (ax (mz (e2 gP (e2 cE (e2 df (e2 az (ae 0) (eC (.int 1))) (eC (.int 48271))) (eC (.int 29))) (eC (.int 2147483647))) (ae 0) (eC (.int 1))) (ax (bt (e2 gP (e2 cE (e2 cE (e2 df (e2 az (ae 0) (eC (.int 1))) (e2 az (ae 0) (eC (.int 1)))) (e2 df (eC (.int 39373)) (e2 az (ae 0) (eC (.int 1))))) (eC (.int 7))) (eC (.int 2147483629))) (gN 3)) (ax (bt (e2 gP (e2 cE (e2 df (ae 3) (ae 3)) (e2 df (eC (.int 16807)) (ae 3))) (eC (.int 2147483587))) (gN 3)) (aM (e2 gP (e2 oQ (ae 3) (eC (.int 8))) (ae 1)))))))
def hW:Nat->List D->aa->Res D
 |0=>λ_ _=>none
 |n+1=>aN 2 2 (ax (aZ (dY (e1 rl (ae 1))) (ax (aZ (iJ (aU (e2 bP (eB cO (af (ae 0) (af (eC (.ty "tuple")) ah))) (eB cO (af (ae 1) (af (eC (.ty "tuple")) ah))))) (aU (e2 bP (eB cO (af (ae 0) (af (eC (.ty "list")) ah))) (eB cO (af (ae 1) (af (eC (.ty "list")) ah)))))) (aM (eC (.bl false))) bN) (aM (eD (e2 bq (eB cN (af (ae 0) ah)) (eB cN (af (ae 1) ah))) (eB pd (af (eh 2 [] (o9 (af (ae 0) (af (ae 1) ah))) (gT [gN 0,gN 1]) gC (aS (hW n) (af (ae 0) (af (ae 1) ah)))) ah))))) bN) (aM (eD (e2 bq (eB cO (af (ae 0) (af (eC (.ty "bool")) ah))) (eB cO (af (ae 1) (af (eC (.ty "bool")) ah)))) (e2 bq (ae 0) (ae 1)))))
def ot:List D->aa->Res D:=aN 1 1 (aM (eB pd (af (eh 2 [] (o9 (af (ae 0) (af (pU (ae 0) (pf (eC (.int 1))) pT) ah))) (gT [gN 0,gN 1]) gC (e2 lr (ae 0) (ae 1))) ah)))
def yY:List D->aa->Res D:=aN 1 1 (aM (eD (eB cO (af (ae 0) (af (eC (.ty "int")) ah))) (eD (ug (eB cO (af (ae 0) (af (eC (.ty "bool")) ah)))) (e2 uj (ae 0) (eC (.int 0))))))
def qg:List D->aa->Res D:=aN 2 2 (aM (eD (aS yY (af (ae 0) ah)) (e2 lr (ae 0) (ae 1))))
def sm:List D->aa->Res D:=aN 1 1 (aM (aS qg (af (ae 0) (af (eC (.int (8))) ah))))
def sk:List D->aa->Res D:=aN 1 1 (aM (eD (eB cO (af (ae 0) (af (eC (.ty "tuple")) ah))) (eD (eB pd (af (eh 1 [] (fe (ae 0)) (gN 0) gC (aS sm (af (ae 0) ah))) ah)) (aS ot (af (ae 0) ah)))))
end DI
namespace ST
open PySem PySem.W PyProof.Rows
structure Ord (α:Type) where
 lt:α->α->Bool
 rZ:∀a,lt a a=false
 tr:∀a b c,lt a b=true->lt b c=true->lt a c=true
 vd:∀a b,lt a b=false->lt b a=false->a=b
section
variable {α:Type} (O:Ord α)
def Ord.le (a b:α):Prop:=O.lt b a=false
variable {O}
def Ord.le_refl (a:α):O.le a a:=O.rZ a
def Ord.le_of_lt (h:O.lt a b=true):O.le a b:=by
 unfold Ord.le
 cases Z:O.lt b a with
 |false=>rfl
 |true=>have:=O.tr _ _ _ h Z;rw[O.rZ] at this;cases this
def Ord.qS (h:O.le a b) (g:O.le b c):O.le a c:=by
 unfold Ord.le at *
 cases Z:O.lt c a with
 |false=>rfl
 |true =>
  cases Y:O.lt a b with
  |true=>have:=O.tr _ _ _ Z Y;rw[g] at this;cases this
  |false =>
   have e:=O.vd a b Y h;subst e;rw[g] at Z;cases Z
def Ord.JI (h:O.le a b) (g:O.le b a):a=b:=O.vd _ _ g h
end
def ok {β:Type} (c:Nat->Nat->Bool) (n:Nat):KasT β->(β->Prop)->Prop
 | .ret a,Q=>Q a
 | .ask i j k,Q=>i<n/\j<n/\ok c n (k (c i j)) Q
theorem jM {β:Type} {c:Nat->Nat->Bool} {n:Nat} {Q R:β->Prop}:∀{t:KasT β},ok c n t Q->(∀a,Q a->R a)->ok c n t R
 | .ret a,h,i=>i a h
 | .ask _ _ k,h,i=>⟨h.1,h.2.1,jM (t:=k _) h.2.2 i⟩
theorem qu {β γ:Type} {c:Nat->Nat->Bool} {n:Nat} {f:β->KasT γ} {Q:γ->Prop}:∀{t:KasT β},ok c n t (λa=>ok c n (f a) Q)->ok c n (t.bind f) Q
 | .ret _,h=>h
 | .ask _ _ k,h=>⟨h.1,h.2.1,qu (t:=k _) h.2.2⟩
theorem JJ {β:Type} {c:Nat->Nat->Bool} {n:Nat} {cmp:Nat->Nat->(Bool->Ä->Prop)->Ä->Prop} (hc:∀i j C,i<n->j<n->C (c i j) s->cmp i j C s) {Q:β->Ä->Prop}:∀{t:KasT β},ok c n t (λa=>Q a s)->t.kasWp cmp Q s
 | .ret _,h=>h
 | .ask _ _ k,h=>hc _ _ _ h.1 h.2.1 (JJ hc (t:=k _) h.2.2)
section
variable {α:Type} {O:Ord α} {x:Nat->α} {n:Nat}
noncomputable def ky (x:Nat->α) (p:Array Nat) (i:Nat):α:=x (p.getD i 0)
def Pm (n:Nat) (p:Array Nat):Prop:=p.size=n/\p.toList.Perm (č n)
def Up (O:Ord α) (f:Nat->α) (k:Nat):Prop:=∀i j,i<j->j<k->O.le (f i) (f j)
def Dn (O:Ord α) (f:Nat->α) (k:Nat):Prop:=∀i j,i<j->j<k->O.le (f j) (f i)
def Up.more (h:Up O f k) (hk:1<=k) (h1:O.le (f (k-1)) (f k)):Up O f (k+1):=λi j Z X=>by
 by_cases e:j=k
 ·subst e
  by_cases Y:i=j-1
  ·subst Y;exact h1
  ·exact Ord.qS (h i (j-1) (by omega) (by omega)) h1
 ·exact h i j Z (by omega)
def Dn.more (h:Dn O f k) (hk:1<=k) (h1:O.le (f k) (f (k-1))):Dn O f (k+1):=λi j Z X=>by
 by_cases e:j=k
 ·subst e
  by_cases Y:i=j-1
  ·subst Y;exact h1
  ·exact Ord.qS h1 (h i (j-1) (by omega) (by omega))
 ·exact h i j Z (by omega)
def Pm.lt (h:Pm n p) (hi:i<n):p.getD i 0<n:=by
 have hs:i<p.size:=by rw[h.1];exact hi
 have:p[i]∈p.toList:=by simp
 have e:p.getD i 0=p[i]:=by simp[abw,hs]
 rw[e];exact ö.mp (h.2.mem_iff.mp this)
def Pm.rev (h:Pm n p) (i j:Nat):Pm n (kas_rev p i j):=⟨by rw[kas_rev_size];exact h.1,(Array.perm_iff_toList_perm.mp (mirror_perm p i j _)).trans h.2⟩
def Pm.Yc (h:Pm n p) (i j:Nat):Pm n (bubble p i j):=⟨by rw[bubble_size];exact h.1,(Array.perm_iff_toList_perm.mp (bubble_perm p i j)).trans h.2⟩
def sI {p q:Array Nat} {i j:Nat} (h:p[i]?=q[j]?):p.getD i 0=q.getD j 0:=by
 rw[Array.getD_eq_getD_getElem?,Array.getD_eq_getD_getElem?,h]
def AL {p:Array Nat} {i j:Nat} (hj:j<=p.size) (k:Nat):ky x (kas_rev p i j) k=if i<=k/\k<j then ky x p (i+j-1-k) else ky x p k:=by
 have e:=getElem?_mirror_all (i:=i) hj k;unfold ky kas_rev
 split<;>rename_i h
 ·rw[ß h] at e;rw[sI e]
 ·rw[è h] at e;rw[sI e]
def IA {p:Array Nat} {k d:Nat} (hk:k<p.size) (hd:d<=k) (i:Nat):ky x (bubble p k d) i=if i=k-d then ky x p k else if k-d<i/\i<=k then ky x p (i-1) else ky x p i:=by
 have e:=getElem?_bubble hk d hd i;by_cases h:i=k-d
 ·rw[ß h] at e |-;exact Ķ x (sI e)
 ·rw[è h] at e |-
  by_cases Z:k-d<i/\i<=k
  ·rw[ß Z] at e |-;exact Ķ x (sI e)
  ·rw[è Z] at e |-;exact Ķ x (sI e)
def Hw (hj:j<=p.size) (he:∀k,i<=k->k<j->ky x p k=ky x p (j-1)):ky x (kas_rev p i j)=ky x p:=funext λk=>by
 rw[AL hj];split
 ·rw[he _ (by omega) (by omega),he k (by omega) (by omega)]
 ·rfl
noncomputable abbrev asks (O:Ord α) (x:Nat->α) (i j:Nat):Bool:=O.lt (x i) (x j)
theorem AM {p:Array Nat} (hp:Pm n p):∀(f m:Nat),1<=m->m+f<=n->Up O (ky x p) m->ok (asks O x) n (kas_asc p f m) λr=>m<=r/\r<=m+f/\Up O (ky x p) r/\(r<m+f->O.lt (ky x p r) (ky x p (r-1))=true)
 |0,m,Y,V,Z=>⟨abG _,abG _,Z,λz=>absurd z (ï _)⟩
 |f+1,m,Y,V,Z=>by
  refine⟨hp.lt (by omega),hp.lt (by omega),?_⟩
  show ok _ _ (if O.lt (ky x p m) (ky x p (m-1))=true then _ else _) _
  cases X:O.lt (ky x p m) (ky x p (m-1)) with
  |true =>
   rw[ß rfl];exact⟨abG _,by omega,Z,λ_=>X⟩
  |false =>
   rw[è Ï];refine jM (AM hp f (m+1) (by omega) (by omega) (Z.more Y X)) λr W=>⟨by omega,by omega,W.2.2.1,λz=>W.2.2.2 (by omega)⟩
structure DS (O:Ord α) (x:Nat->α) (n:Nat) (p:Array Nat) (m q:Nat):Prop where
 pm:Pm n p
 q1:q+1<=m
 mn:m<=n
 dn:Dn O (ky x p) m
 bl:∀k,m-(q+1)<=k->k<m->ky x p k=ky x p (m-1)
def DS.turn (D:DS O x n p m q):Pm n (kas_rev p (m-(q+1)) m)/\ky x (kas_rev p (m-(q+1)) m)=ky x p :=
 ⟨D.pm.rev _ _,Hw (by rw[D.pm.1];exact D.mn) D.bl⟩
theorem wk:∀(f:Nat) (p:Array Nat) (m q:Nat),m+f<=n->DS O x n p m q->ok (asks O x) n (kas_desc f p m q) λr=>m<=r.2.1/\DS O x n r.1 r.2.1 r.2.2
 |0,p,m,q,_,D=>⟨abG _,D⟩
 |f+1,p,m,q,P,D=>by
  have q1:=D.q1;refine⟨D.pm.lt (by omega),D.pm.lt (by omega),?_⟩
  show ok _ _ (if O.lt (ky x p m) (ky x p (m-1))=true then _ else _) _
  cases X:O.lt (ky x p m) (ky x p (m-1)) with
  |true =>
   rw[ß rfl];have one:∀Y,Pm n Y->ky x Y=ky x p->DS O x n Y (m+1) 0:=λY V U=>⟨V,by omega,by omega,by rw[U];exact D.dn.more (by omega) (Ord.le_of_lt X),λk T S=>by rw[show k=m+1-1 by omega]⟩;by_cases W:q > 0
   ·rw[ß W]
    exact jM (wk f _ (m+1) 0 (by omega) (one _ D.turn.1 D.turn.2)) λr Z=>⟨by omega,Z.2⟩
   ·rw[è W]
    exact jM (wk f _ (m+1) 0 (by omega) (one _ D.pm rfl)) λr Z=>⟨by omega,Z.2⟩
  |false =>
   rw[è Ï];refine⟨D.pm.lt (by omega),D.pm.lt (by omega),?_⟩
   show ok _ _ (if O.lt (ky x p (m-1)) (ky x p m)=true then _ else _) _
   cases R:O.lt (ky x p (m-1)) (ky x p m) with
   |true =>
    rw[ß rfl];exact⟨abG _,D⟩
   |false =>
    rw[è Ï];have e:ky x p m=ky x p (m-1):=O.vd _ _ X R;refine jM (wk f p (m+1) (q+1) (by omega) ⟨D.pm,by omega,by omega,D.dn.more (by omega) (by rw[e];exact Ord.le_refl _),λk T S=>?_⟩) λr Z=>⟨by omega,Z.2⟩;show _=ky x p m;by_cases Q:k=m
    ·rw[Q]
    ·rw[D.bl k (by omega) (by omega),e]
def Hx {p:Array Nat} {m:Nat} (hp:Pm n p) (h1:1<=m) (hm:m<=n) (hd:Dn O (ky x p) m):ok (asks O x) n (kas_tail3 m n p) λr=>1<=r.1/\r.1<=n/\Pm n r.2/\Up O (ky x r.2) r.1:=by
 refine qu ?_;have Z:Up O (ky x (kas_rev p 0 m)) m:=λi j W Y=>by
  rw[AL (by rw[hp.1];exact hm),AL (by rw[hp.1];exact hm),ß ⟨by omega,by omega⟩,ß ⟨by omega,Y⟩];exact hd _ _ (by omega) (by omega)
 exact jM (AM (hp.rev 0 m) (n-m) m h1 (by omega) Z) λr X=>⟨by show 1<=r;omega,by show r<=n;omega,hp.rev 0 m,X.2.2.1⟩
def Fe {p:Array Nat} {m:Nat} (hp:Pm n p) (h1:1<=m) (hm:m+1<=n) (hd:Dn O (ky x p) (m+1)):ok (asks O x) n (kas_descPart m n p) λr=>1<=r.1/\r.1<=n/\Pm n r.2/\Up O (ky x r.2) r.1:=by
 refine qu (jM (wk (n-(m+1)) p (m+1) 0 (by omega) ⟨hp,by omega,hm,hd,λk Y X=>by rw[show k=m+1-1 by omega]⟩) λr Z=>?_);obtain⟨W,D⟩:=Z;split
 ·exact Hx D.turn.1 (by have:=D.q1;omega) D.mn (by rw[D.turn.2];exact D.dn)
 ·exact Hx D.pm (by have:=D.q1;omega) D.mn D.dn
def PV {p:Array Nat} (hp:Pm n p) (hn:1<=n):ok (asks O x) n (kas_count n p) λr=>1<=r.1/\r.1<=n/\Pm n r.2/\Up O (ky x r.2) r.1:=by
 refine qu (jM (AM hp (n-1) 1 (abG _) (by omega) λi j U X=>by omega) λm S=>?_);obtain⟨Z,Q,Y,R⟩:=S;split
 ·rename_i e
  rw[beq_iff_eq] at e;exact⟨Z,by omega,hp,Y⟩
 ·rename_i e
  have P:m≠n:=λz=>e (by rw[z];exact ā n);have hs:=R (by omega);split
  ·refine⟨hp.lt (by omega),hp.lt (by omega),?_⟩
   show ok _ _ (if O.lt (ky x p 0) (ky x p (m-1))=true then _ else _) _
   cases T:O.lt (ky x p 0) (ky x p (m-1)) with
   |true =>
    rw[ß rfl];exact⟨Z,by omega,hp,Y⟩
   |false =>
    rw[è Ï];have W:∀k,0<=k->k<m->ky x p k=ky x p (m-1):=λk _ V=>by
     have a1:O.le (ky x p k) (ky x p (m-1)):=by
      by_cases e:k=m-1
      ·rw[e];exact Ord.le_refl _
      ·exact Y k (m-1) (by omega) (by omega)
     have a2:O.le (ky x p (m-1)) (ky x p k):=by
      by_cases e:k=0
      ·rw[e];exact T
      ·exact Ord.qS T (Y 0 k (by omega) V)
     exact Ord.JI a1 a2
    have V:=Hw (x:=x) (p:=p) (i:=0) (j:=m) (by rw[hp.1];omega) W;refine Fe (hp.rev 0 m) Z (by omega) ?_;rw[V];refine Dn.more (λi j U X=>?_) Z (Ord.le_of_lt hs);rw[W i (by omega) (by omega),W j (by omega) X];exact Ord.le_refl _
  ·refine Fe hp Z (by omega) (Dn.more (λi j U X=>by omega) Z (Ord.le_of_lt hs))
theorem zA (hp:Pm n p) (hk:k<n) (hu:Up O (ky x p) k):∀(f l r:Nat),r-l<=f->l<=r->r<=k->(∀i,i<l->O.le (ky x p i) (ky x p k))->(∀i,r<=i->i<k->O.le (ky x p k) (ky x p i)) ->
  ok (asks O x) n (kas_place p k f l r) λm=>m<=k/\(∀i,i<m->O.le (ky x p i) (ky x p k))/\(∀i,m<=i->i<k->O.le (ky x p k) (ky x p i))
 |0,l,r,X,W,Y,a,b=>⟨by omega,a,λi hi=>b i (by omega)⟩
 |f+1,l,r,X,W,Y,a,b=>by
  unfold kas_place;by_cases h:l ≥ r
  ·rw[ß h]
   exact⟨by omega,a,λi hi=>b i (by omega)⟩
  ·rw[è h]
   refine⟨hp.lt hk,hp.lt (by omega),?_⟩
   show ok _ _ (if O.lt (ky x p k) (ky x p ((l+r) / 2))=true then _ else _) _
   cases Z:O.lt (ky x p k) (ky x p ((l+r) / 2)) with
   |true =>
    rw[ß rfl];refine zA hp hk hu f l ((l+r) / 2) (by omega) (by omega) (by omega) a λi hi V=>?_;by_cases e:i=(l+r) / 2
    ·rw[e];exact Ord.le_of_lt Z
    ·exact Ord.qS (Ord.le_of_lt Z) (hu _ _ (by omega) V)
   |false =>
    rw[è Ï];refine zA hp hk hu f ((l+r) / 2+1) r (by omega) (by omega) Y (λi hi=>?_) b;by_cases e:i=(l+r) / 2
    ·rw[e];exact Z
    ·exact Ord.qS (hu _ _ (by omega) (by omega)) Z
theorem IC:∀(f:Nat) (p:Array Nat) (k:Nat),Pm n p->k+f=n->Up O (ky x p) k->ok (asks O x) n (kas_bin f p k) λq=>Pm n q/\Up O (ky x q) n
 |0,p,k,Y,X,Z=>⟨Y,by rw[<- X];exact Z⟩
 |f+1,p,k,Y,X,Z=>by
  refine qu (jM (zA Y (by omega) Z k 0 k (by omega) (Ċ _) (abG _) (λi hi=>by omega) λi Q W=>by omega) λm P=>?_);obtain⟨Q,W,N⟩:=P;refine IC f _ (k+1) (Y.Yc _ _) (by omega) λi j M K=>?_;have V:k<p.size:=by rw[Y.1];omega
  have L:k-(k-m)=m:=by omega
  rw[IA V (by omega),IA V (by omega),L];by_cases U:i=m
  ·rw[ß U,è (by omega),ß (by omega)]
   exact N _ (by omega) (by omega)
  ·rw[è U]
   by_cases T:m<i/\i<=k
   ·rw[ß T,è (by omega),ß (by omega)]
    exact Z _ _ (by omega) (by omega)
   ·rw[è T]
    by_cases S:j=m
    ·rw[ß S];exact W _ (by omega)
    ·rw[è S]
     by_cases R:m<j/\j<=k
     ·rw[ß R]
      by_cases e:i=j-1
      ·rw[e];exact Ord.le_refl _
      ·exact Z _ _ (by omega) (by omega)
     ·rw[è R];exact Z _ _ M (by omega)
def Rz (hn:1<=n):ok (asks O x) n (kas_sort n) λq=>Pm n q/\Up O (ky x q) n:=by
 refine qu (jM (PV (p:=aaZ (č n)) ⟨by simp,by simp⟩ hn) λr X=>?_);obtain⟨W,V,Y,Z⟩:=X;split
 ·rw[Nat.max_eq_left W]
  exact IC _ _ _ Y (by omega) Z
 ·rw[show r.1=n by omega] at Z
  exact⟨Y,Z⟩
end
section
variable {α:Type} {O:Ord α} {x:Nat->α} {prog:ã} {w:Ă} {A:ê} {E:Å->Ä->Prop} {s:Ä}
def xW (prog:ã) (w:Ă) (A:ê) (O:Ord α) (x:Nat->α) (us:List Å) (t:Ä):Prop :=
 Û (ä prog w) A (keyKind' us.toArray) (fun Z Y=>Y=t/\∀i j (C:Bool->Ä->Prop),i<us.length->j<us.length->C (O.lt (x i) (x j)) t->Û (ä prog w) A (keyLt' Z (us.getD i Value.none) (us.getD j Value.none)) C (λ_ _=>False) t) (λ_ _=>False) t
def lJ (us:List Å) (h:us.length<2):(us.toArray.zip us.toArray).map (·.2)=((aaZ (č us.length)).toList.map λi=>us.getD i Value.none).toArray:=by
 rcases us with _ | ⟨u,_ | ⟨v,r⟩⟩
 ·exact Array.toList_inj.mp (by simp)
 ·exact Array.toList_inj.mp (by simp)
 ·(simp at h;omega)
def MB (hb:s.heap.get? b=some (aaH "list" us.toArray m)) (hz:us.length<64)
 (hk:2<=us.length->∀h1,(∀c o,c≠b->s.heap.get? c=some o->h1.get? c=some o)->xW prog w A O x us { s with heap:=h1 })
 (hR:∀(q:Array Nat) h' e,Pm us.length q->Up O (ky x q) us.length->(∀c o,c≠b->s.heap.get? c=some o->h'.get? c=some o)->h'.get? b=some (aaH "list" (q.toList.map λi=>us.getD i Value.none).toArray e)->R (.done (.ret .none)) { s with heap:=h' }) :
  Û (ä prog w) A (ű.«list.sort» ⟨[.ref b],[]⟩) R E s:=by
 have B:b<s.heap.objs.size:=Ë hb;have line:us.length<=Ú:=by rw[ν];omega
 obtain⟨e1,N⟩:∃e1,(s.heap.update b (Œ λ_=>(#[]:Array Å))).get? b=some (aaH "list" #[] e1):=⟨_,get?_update_seq hb λ_=>#[]⟩;generalize U:((s.heap.update b (Œ λ_=>(#[]:Array Å))).push (aaH "tuple" us.toArray 0)).push (aaH "list" #[] 0)=Z;have X:Z.get? b=some (aaH "list" #[] e1):=by rw[<- U];exact Á _ (Á _ N)
 have old:∀c o,c≠b->s.heap.get? c=some o->Z.get? c=some o:=λc o W e=>by
  rw[<- U];exact Á _ (Á _ (by rw[aai _ _ _ _ W];exact e))
 have last:∀(q:Array Nat),Pm us.length q->Up O (ky x q) us.length->R (.done (.ret .none)) { s with heap:=Z.update b (Œ λ_=>(q.toList.map λi=>us.getD i Value.none).toArray) }:=λq h1 T =>
  hR q _ _ h1 T (λc o W e=>by rw[aai _ _ _ _ W];exact old c o W e) (get?_update_seq X λ_=>(q.toList.map λi=>us.getD i Value.none).toArray)
 rw[list_sort_plain];refine À (listItems_at hb rfl (À (listUpdate_at hb rfl ?_ (by rw[Ù];exact line) (Ċ _))));refine À (seqEpoch_at N rfl (À (wpAny_newTuple (À (wpAny_newList (ĝ ?_) (Ċ _))) (by show us.length<=_;exact line))))
 show Û (ä prog w) A _ R E { s with heap:=_ }
 rw[U];dsimp only;by_cases Y:us.toArray.size<2
 ·rw[ß Y,ß Y]
  refine À (Ã ?_);rw[StateT.run_pure];refine À (Ã ?_);dsimp only;have L:(us.toArray.zip us.toArray).map (·.2)=((aaZ (č us.length)).toList.map λi=>us.getD i Value.none).toArray:=by
   exact lJ us (by rw[<- Ù];exact Y)
  refine À (seqEpoch_at X rfl (À (listUpdate_at X rfl ?_ (Ċ _) ?_)))
  ·simp only[Ē,Â,é]
   show Û _ _ _ _ _ { s with heap:=Z.update b (Œ λ_=>(us.toArray.zip us.toArray).map (·.2)) }
   rw[L];refine Ã (last _ ⟨by simp,by simp⟩ λi j y M=>?_);rw[Ù] at Y;omega
  ·show ((us.toArray.zip us.toArray).map (·.2)).size<=Ú+1
   simp;omega
 ·rw[è Y,è Y]
  rw[Ù] at Y;refine À (Ĝ (hk (by omega) Z old) (fun K t S=>?_) λ_ _ z=>z.elim);obtain⟨rfl,S⟩:=S
  have tree:(kas_sort us.length).kasWp (kas_ask prog w A K us) (λq t=>t={ s with heap:=Z }/\Pm us.length q/\Up O (ky x q) us.length) { s with heap:=Z } :=
   JJ (c:=asks O x) (n:=us.length) (λi j C hi M J=>S i j C hi M J) (jM (Rz (by omega)) λq P=>⟨rfl,P⟩)
  refine À (Ĝ (kat_run (Q:=λV t=>∃q:Array Nat,q.size=us.length/\arrOf V=q.map (kas_item (us.toArray.zip us.toArray))/\failedOf V=none/\t={ s with heap:=Z }/\Pm us.length q/\Up O (ky x q) us.length)
   rfl (by omega) hz (λq V t a1 a2 I H=>⟨q,a1,a2,I,H⟩) tree) ?_ λ_ _ z=>z)
  rintro ⟨⟨⟩,V⟩ t ⟨q,P,G,F,rfl,T,D⟩;dsimp only;rw[kat_snds rfl G];refine À (seqEpoch_at X rfl (À (listUpdate_at X rfl ?_ (Ċ _) ?_)))
  ·rw[F]
   simp only[Ē,Â,é];exact Ã (last q T D)
  ·show ((q.toList.map λi=>us.getD i Value.none).toArray).size<=Ú+1
   rw[Ù,É,ø,P];omega
end
open HT
def Af:∀a:List Int,lexLt a a=false:=λa=>by
 induction a with
 |nil=>rfl
 |cons i r ih=>rw[iR,ß rfl];exact ih
def TL:∀a b c:List Int,lexLt a b=true->lexLt b c=true->lexLt a c=true:=λa=>by
 induction a with
 |nil =>
  intro b c h g
  cases b with
  |nil=>cases h
  |cons j s=>cases c with
   |nil=>cases g
   |cons k t=>rfl
 |cons i r ih =>
  intro b c h g
  cases b with
  |nil=>cases h
  |cons j s =>
   cases c with
   |nil=>cases g
   |cons k t =>
    rw[iR] at h g |-;by_cases e1:i=j
    ·subst e1
     rw[ß rfl] at h;by_cases e2:i=k
     ·rw[ß e2] at g |-;exact ih s t h g
     ·rw[è e2] at g |-;exact g
    ·rw[è e1] at h
     have h:=ÿ h;by_cases e2:j=k
     ·subst e2
      rw[è e1];exact á h
     ·rw[è e2] at g
      have g:=ÿ g;rw[è (by omega)];exact á (by omega)
def RA:∀a b:List Int,lexLt a b=false->lexLt b a=false->a=b:=λa=>by
 induction a with
 |nil =>
  intro b h g
  cases b with
  |nil=>rfl
  |cons j s=>cases h
 |cons i r ih =>
  intro b h g
  cases b with
  |nil=>cases g
  |cons j s =>
   rw[iR] at h g;by_cases e:i=j
   ·subst e
    rw[ß rfl] at h g;rw[ih s h g]
   ·rw[è e] at h
    rw[è (Ŭ e)] at g;have h:=of_decide_eq_false h;have g:=of_decide_eq_false g;omega
section
variable {prog:ã} {w:Ă} {A:ê} {E:Å->Ä->Prop} {s:Ä}
inductive nH (h:ĥ):List Å->List (List Int)->Prop where
 |nil:nH h [] []
 |cons {a:Ø} {its:Array Å} {ns:List Int} {us:List Å} {jH:List (List Int)}:IsTup h a its->aaJ its.toList ns->nH h us jH->nH h (.ref a::us) (ns::jH)
def nH.keep (k:∀c o,h.get? c=some o->h'.get? c=some o) (t:nH h us jH):nH h' us jH:=by
 induction t with
 |nil=>exact .nil
 |cons a b _ ih =>
  obtain⟨o,Z,r⟩:=a;exact .cons ⟨o,k _ _ Z,r⟩ b ih
theorem nH.at (t:nH h us jH):∀i,i<us.length->∃a its,us.getD i Value.none=.ref a/\IsTup h a its/\aaJ its.toList (jH.getD i []):=by
 induction t with
 |nil=>intro i hi;simp at hi
 |cons a b _ ih =>
  intro i hi
  cases i with
  |zero=>exact⟨_,_,rfl,a,b⟩
  |succ i =>
   obtain⟨c,its,e,r⟩:=ih i (by simpa using hi);exact⟨c,its,by simpa using e,r⟩
inductive ve:List (Option Å)->List (List Int)->Prop where
 |nil:ve [] []
 |ar {fs:List (Option Å)} {jH:List (List Int)}:ve fs jH->ve (none::fs) ([]::jH)
 |one {fs:List (Option Å)} {jH:List (List Int)} {n:Int} {t:Tok} {r:List Int}:ve fs jH->ve (some (.int n t)::fs) ((n::r)::jH)
noncomputable def ins {α:Type} (O:Ord α) (a:α):List α->List α
 | []=>[a]
 |b::r=>if O.lt b a=true then b::ins O a r else a::b::r
def cK {α:Type} (O:Ord α):List α->List α
 | []=>[]
 |a::r=>ins O a (cK O r)
end
section
variable {α:Type} {O:Ord α}
def GB (a:α) (l:List α):(ins O a l).Perm (a::l):=by
 induction l with
 |nil=>exact .refl _
 |cons b r ih =>
  unfold ins;split
  ·exact(List.Perm.cons b ih).trans (List.Perm.swap a b r)
  ·exact .refl _
def lT (l:List α):(cK O l).Perm l:=by
 induction l with
 |nil=>exact .refl _
 |cons a r ih=>exact(GB a _).trans (ih.cons a)
def TM (a:α) (l:List α) (h:l.Pairwise O.le):(ins O a l).Pairwise O.le:=by
 induction l with
 |nil=>exact List.pairwise_singleton _ _
 |cons b r ih =>
  obtain⟨X,W⟩:=ò.mp h;unfold ins
  split<;>rename_i Z
  ·refine ò.mpr ⟨λc Y=>?_,ih W⟩
   rcases Õ.mp ((GB a r).mem_iff.mp Y) with e|e
   ·rw[e];exact Ord.le_of_lt Z
   ·exact X c e
  ·have Z:O.le a b:=by rw[ż] at Z;exact Z
   refine ò.mpr ⟨λc Y=>?_,h⟩
   rcases Õ.mp Y with e|e
   ·rw[e];exact Z
   ·exact Ord.qS Z (X c e)
def sC (l:List α):(cK O l).Pairwise O.le:=by
 induction l with
 |nil=>exact .nil
 |cons a r ih=>exact TM a _ ih
def F2:∀{l m:List α},l.Perm m->l.Pairwise O.le->m.Pairwise O.le->l=m:=by
 intro l
 induction l with
 |nil=>intro m h _ _;exact h.nil_eq
 |cons a r ih =>
  intro m h Z Y
  cases m with
  |nil=>exact absurd h.length_eq (by simp)
  |cons b t =>
   obtain⟨a1,a2⟩:=ò.mp Z;obtain⟨X,W⟩:=ò.mp Y;have e:a=b:=by
    rcases Õ.mp (h.mem_iff.mp Ô) with e|e
    ·exact e
    ·rcases Õ.mp (h.mem_iff.mpr Ô) with e'|e'
     ·exact e'.symm
     ·exact Ord.JI (a1 b e') (X a e)
   subst e;rw[ih h.cons_inv a2 W]
def Ow (hp:Pm xs.length q) (hu:Up O (ky (λi=>xs.getD i d) q) xs.length):q.toList.map (λi=>xs.getD i d)=cK O xs:=by
 refine F2 ?_ ?_ (sC xs)
 ·refine(hp.2.map _).trans ?_
  have:(č xs.length).map (λi=>xs.getD i d)=xs:=by
   apply Ų;intro i;by_cases hi:i<xs.length
   ·simp[hi]
   ·simp[hi,Ż hi]
  rw[this];exact(lT xs).symm
 ·rw[List.pairwise_iff_getElem]
  intro i j hi W Z;have V:(q.toList.map λi=>xs.getD i d).length=xs.length:=by rw[É,ø,hp.1]
  have Y:j<q.size:=by rw[hp.1];omega
  have X:i<q.size:=by omega
  have:=hu i j Z (by omega);unfold ky at this;simpa [abw,X,Y] using this
end
end ST
namespace DI
open PySem L2
section
variable {X:Cx} {Ξ:Wd->aR->Prop} {a e tg:ġ} {p pos:Pos} {f:abC D} {fa:abC (List D)}
end
end DI
namespace L2
open PySem PySem.Spec PyProof.Rows
structure ID (sc:ι) (cl gF:List (Str×Ø)) (C:Nat) (h:ĥ):Prop where
 old:∀n c,gF.lookup n=some c->(C<c/\(n,NameKind.cell)∈sc.names/\∃v,h.IsCell c v)\/cl.lookup n=some c
 own:∀n,sc.names.lookup n=some .cell\/(cl.lookup n).isSome=true->∃c,gF.lookup n=some c
 inj:(∀x y c,cl.lookup x=some c->cl.lookup y=some c->x=y)->(∀x c,cl.lookup x=some c->c<C)->∀x y c,gF.lookup x=some c->gF.lookup y=some c->x=y
theorem zi:∀(names:List (Str×ũ)) (n:Nat) (acc:List (Str×Ø)),(Z1 n names acc).lookup x=some c->((x,NameKind.cell)∈names/\n<=c)\/acc.lookup x=some c
 | [],n,acc,h=>.inr h
 |(y,k)::r,n,acc,h=>by
  unfold Z1 at h;split at h
  ·rename_i Z
   have Z:k=.cell:=by simpa using Z
   subst Z
   rcases zi r (n+1) _ h with ⟨h1,Y⟩|h1
   ·exact .inl ⟨Ó _ h1,by omega⟩
   ·rw[đ] at h1
    split at h1
    ·rename_i e
     have e:x=y:=by simpa using e
     subst e;cases h1;exact .inl ⟨Ô,abG _⟩
    ·exact .inr h1
  ·rcases zi r n acc h with ⟨h1,Y⟩|h1
   ·exact .inl ⟨Ó _ h1,Y⟩
   ·exact .inr h1
theorem zj:∀(names:List (Str×ũ)) (n:Nat) (acc:List (Str×Ø)),(∀x y c,acc.lookup x=some c->acc.lookup y=some c->x=y)->(∀x c,acc.lookup x=some c->c<n)->∀x y c,(Z1 n names acc).lookup x=some c->(Z1 n names acc).lookup y=some c->x=y
 | [],n,acc,hi,X=>hi
 |(z,k)::r,n,acc,hi,X=>by
  unfold Z1;split
  ·refine zj r (n+1) _ (λx y c Z Y=>?_) λx c Z=>?_
   ·rw[đ] at Z Y
    split at Z
    ·rename_i e1
     split at Y
     ·rename_i e2
      exact(by simpa using e1:x=z).trans (by simpa using e2:y=z).symm
     ·cases Z
      exact absurd (X y _ Y) (ï _)
    ·split at Y
     ·cases Y
      exact absurd (X x _ Z) (ï _)
     ·exact hi x y c Z Y
   ·rw[đ] at Z
    split at Z
    ·cases Z;exact Ŋ _
    ·exact Ĥ (X x c Z)
  ·exact zj r n acc hi X
theorem zB {lo:Nat}:∀(names:List (Str×ũ)) (h:ĥ) (acc:List (Str×Ø)),lo<=h.objs.size->(∀x c,acc.lookup x=some c->lo<=c->h.IsCell c none)->(Z1 h.objs.size names acc).lookup x=some c->lo<=c->(pushCells h names).IsCell c none
 | [],h,acc,_,Z,e,Y=>Z x c e Y
 |(z,k)::r,h,acc,V,Z,e,Y=>by
  unfold Z1 at e;unfold pushCells;split at e
  ·rename_i W
   rw[ß W];have U:(h.push { cls:=.type "cell",data:=.cell none }).objs.size=h.objs.size+1:=ă ..;refine zB (lo:=lo) r _ ((z,h.objs.size)::acc) (by omega) (λy d X T=>?_) (by rw[U];exact e) Y;rw[đ] at X;split at X
   ·cases X
    exact⟨_,Í _ rfl,rfl⟩
   ·exact(Z y d X T).keeps λb o q=>Á _ q
  ·rename_i W
   rw[è W];exact zB r h acc V Z e Y
def Mn {E:Å->Ä->Prop} {Q:Env->Ä->Prop}
 (hQ:∀gF h3,((∀x c,cl.lookup x=some c->c<s.heap.objs.size)->ID scope cl gF s.heap.objs.size h3)->h3.Ns s.heap.objs.size (λ_=>none)->(∀b o,s.heap.get? b=some o->h3.get? b=some o)->Q (newEnv scope s.heap.objs.size globals gF qual none .none (some env) bi) { s with heap:=h3 }) :
  Û M A (newFunctionEnv scope globals cl [] qual none .none (some env) bi) Q E s:=by
 simp only[newFunctionEnv,Option.isSome_some,ð];refine À (wpAny_alloc ?_)
 refine À (wpAny_layCells _ (λname kind cells=>by cases Z:kind==NameKind.cell<;>simp[Z]) _ _ _ _ ?_)
 rw[show ({ s with heap:=s.heap.push { cls:=.type "dict",data:=.dict #[] } }:Ä).heap.objs.size=s.heap.objs.size+1 from ă ..]
 simp only[List.forIn_nil];refine À (Ã (Ã ?_));have Y:(s.heap.push { cls:=.type "dict",data:=.dict #[] }).objs.size=s.heap.objs.size+1:=ă ..;refine hQ (Z1 (s.heap.objs.size+1) scope.names cl) _ (λX=>⟨λn c e=>?_,λn W=>?_,λhi V=>zj _ _ _ hi λx c e=>Ĥ (V x c e)⟩) ((Heap.Ns.new s.heap (.type "dict")).keeps (pushCells_keeps _ _)) λb o e=>pushCells_keeps _ _ b o (Á _ e)
 ·rcases zi _ _ _ e with ⟨h1,U⟩|h1
  ·exact .inl ⟨by omega,h1,none,zB (lo:=s.heap.objs.size+1) scope.names _ cl (by omega) (λx d q T=>absurd (X x d q) (Nat.not_lt.mpr (Nat.le_of_succ_le T))) (by rw[Y];exact e) U⟩
  ·exact .inr h1
 ·exact aak.mp (ε scope.names _ cl W)
abbrev dM (X:Cx) (N:List Str) (sc:ι) (cl:List (Str×Ø)) (C:Ø) (s:Ä) (H:Hp) (ex:List Ø) (pn:List (Ø×Obj)):Cx:={ dJ X N sc cl C s H ex pn with fn:=λx=>sc.names.lookup x==some .cell }
structure m9 (X:Cx) (sc:ι) (N:List Str) (nt:Nat) (cap:List Nat):Prop where
 kind:sc.kind=.function
 names:∀x∈sc.names,x.2=.local->sc.names.lookup x.1=some .local
 cells:∀x∈sc.names,x.2=.cell->sc.names.lookup x.1=some .cell
 frees:∀x∈sc.names,x.2=.free->sc.names.lookup x.1=some .free/\(X.env.scope.names.lookup x.1=some .cell\/X.env.scope.names.lookup x.1=some .free)
 len:N.length=nt+cap.length
 B6:∀(k:Nat) j,cap[k]?=some j->∃x,X.N[j]?=some x/\N[nt+k]?=some x/\(x,ì)∈sc.names
section
variable {X:Cx} {sc:ι} {N:List Str} {nt:Nat} {cap:List Nat} {cl gF:List (Str×Ø)} {s:Ä} {h1:ĥ} {H:Hp} {σ:St} {π:List (Ø×Obj)} {fp:List Ø} {C:Ø} {t':Nat}
def Inv.TN (I:Inv X π σ H s) (S:m9 X sc N nt cap) (cQ:∀n c,cl.lookup n=some c↔((n,ì)∈sc.names/\X.env.cells.lookup n=some c)) (gX:ID sc cl gF C h1) (hf:∀b∈fp,fO X π H b) (fT:∀b∈fp,b<s.heap.objs.size)
  (hk:∀b o,s.heap.get? b=some o->h1.get? b=some o) (hC:s.heap.objs.size<=C) (nP:∃m,h1.Ns C m):Inv (dM X N sc gF C s H fp (X.pn++π)) [] (kP nt cap σ) H { s with heap:=h1,toks:=t' }:=by
 have O:∀b∈ck X.stack,b∈X.env.locals::X.fs:=I.jO;have J:∀x c,cl.lookup x=some c->c<s.heap.objs.size:=λx c e=>by
  obtain⟨v,o,V,_⟩:=I.cell x c ((cQ x c).mp e).2;exact Ë V
 have G:∀x,(relabel sc X.env).names.lookup x=some .cell\/(relabel sc X.env).names.lookup x=some .free->(x,ì)∈sc.names\/sc.names.lookup x=some .cell:=λx Z=>by
  rw[vw] at Z
  cases e:sc.names.lookup x with
  |none=>rw[e] at Z;rcases Z with z|z<;>cases z
  |some k =>
   have hm:(x,k)∈sc.names:=by
    obtain⟨l1,l2,e1,_⟩:=List.lookup_eq_some_iff.mp e;rw[e1];simp
   rw[e] at Z
   cases k with
   |free=>exact .inl hm
   |cell=>exact .inr rfl
   |_=>exfalso;revert Z;simp
 have F:∀x,(x,ì)∈sc.names->∃c,X.env.cells.lookup x=some c:=λx Z=>I.ok.has x (S.frees _ Z rfl).2;have M:∀x c,(x,ì)∈sc.names->X.env.cells.lookup x=some c->gF.lookup x=some c:=λx c Z R=>by
  have e:=(cQ x c).mpr ⟨Z,R⟩;obtain⟨d,hd⟩:=gX.own x (.inr (by rw[e];rfl))
  rcases gX.old x d hd with ⟨_,q,_⟩|q
  ·have T:=S.cells _ q rfl
   have W:=(S.frees _ Z rfl).1;dsimp only at T W;rw[T] at W;cases W
  ·rw[e] at q
   cases q;exact hd
 have ok:Cx.Ok (dM X N sc gF C s H fp (X.pn++π)):=by
  refine⟨I.ok.mod,?_,I.ok.glob,I.ok.blt,hC,?_,?_,?_,I.ok.hd,I.ok.frames,.inl rfl,?_,I.bs,à I.ok.il I.sz,?_,?_,I.stack,I.sF⟩
  ·exact S.kind
  ·exact gX.inj (λx y c Z E=>I.ok.inj x y c ((cQ x c).mp Z).2 ((cQ y c).mp E).2) λx c e=>È (J x c e) hC
  ·intro x Z
   rcases G x Z with hm|hm
   ·obtain⟨c,e⟩:=F x hm
    exact⟨c,M x c hm e⟩
   ·exact gX.own x (.inl hm)
  ·intro x c Z e
   rcases gX.old x c e with ⟨q,_,_⟩|q
   ·exact à hC (Nat.le_of_lt q)
   ·have W:=(S.frees _ ((cQ x c).mp q).1 rfl).1
    have T:sc.names.lookup x=some .cell:=by simpa using Z
    dsimp only at W;rw[T] at W;cases W
  ·intro b Y
   refine⟨â (È (fT b Y) hC),λx c e=>?_⟩
   rcases gX.old x c e with ⟨q,_,_⟩|q
   ·exact Ť (È (fT b Y) (à hC (Nat.le_of_lt q)))
   ·exact(hf b Y).2.2.2.2.1 x c ((cQ x c).mp q).2
  ·intro b o e Y
   rcases(hf b Y).2.2.2.1 with z|z
   ·exact I.ok.nC b o e z
   ·exact absurd (È (Ë e) (à I.ok.il z)) (ï _)
  ·intro b Y z
   rcases Õ.mp (O b z) with e|e
   ·exact(hf b Y).2.1 e
   ·exact(hf b Y).2.2.1 e
 obtain⟨m,hm⟩:=nP;obtain⟨mX,Xx,D⟩:=I.loc;refine⟨ok,rfl,I.bare,Un.kept hk,⟨m,hm,λi x v e1 e2 e3=>?_⟩,λx c e=>?_,I.aB.fresh hC,λx c e=>?_,λp B=>?_,I.aB.kept hk,?_⟩
 ·
  have hi:nt<=i:=by
   apply Ż;intro L;have:(kP nt cap σ)[i]?=some none:=by
    unfold kP;rw[Ü (by simpa using L),ģ,ß L]
   rw[this] at e2;cases e2
  have U:(cap.map λj=>(σ[j]?).getD none)[i-nt]?=some (some v):=by
   have e:=e2;unfold kP at e;rw[í (by simpa using hi)] at e;simpa using e
  rw[î] at U
  cases Q:cap[i-nt]? with
  |none=>rw[Q] at U;cases U
  |some j =>
   rw[Q] at U;have ev:(σ[j]?).getD none=some v:=abH U;have A:σ[j]?=some (some v):=by
    cases q:σ[j]? with
    |none=>rw[q] at ev;cases ev
    |some z=>rw[q] at ev;exact Ķ some ev
   obtain⟨y,f1,f2,K⟩:=S.B6 _ _ Q;rw[Nat.add_sub_cancel' hi] at f2;have w:y=x:=abH (f2.symm.trans e1);subst w;obtain⟨g1,g2⟩:=S.frees _ K rfl;have t:pH X.env.scope y:=.inr g2;obtain⟨u,r,l⟩:=D j y v f1 A t;refine⟨u,r,.inr ⟨?_,?_⟩⟩
   ·show (relabel sc X.env).names.lookup y=some .cell\/(relabel sc X.env).names.lookup y=some .free
    rw[vw,g1];simp only[ς];split
    ·exact .inl rfl
    ·exact .inr rfl
   ·rcases l with ⟨k,_⟩ | ⟨_,c,R,h⟩
    ·exfalso
     have g:X.env.scope.names.lookup y=some .local:=k;dsimp only at g2;rw[g] at g2
     rcases g2 with z|z<;>cases z
    ·obtain⟨P,V,hd⟩:=h
     exact⟨c,M y c K R,P,hk _ _ V,hd⟩
 ·rcases gX.old x c e with ⟨_,_,q⟩|q
  ·exact q
  ·obtain⟨v,P,V,hd⟩:=I.cell x c ((cQ x c).mp q).2
   exact⟨v,P,hk _ _ V,hd⟩
 ·rcases gX.old x c e with ⟨q,_,_⟩|q
  ·exact I.aB.fresh (by omega)
  ·exact I.iF x c ((cQ x c).mp q).2
 ·have f:p∈X.pn++π:=by simpa using B
  obtain⟨e,n,ne,a,d⟩:=I.pin p f;refine⟨hk _ _ e,n,â (È (Ë e) hC),λz=>?_,d⟩
  rcases Õ.mp (O p.1 z) with q|q
  ·exact ne q
  ·exact a q
 ·unfold kP
  rw[Þ,ο,É];exact S.len.symm
end
structure JK (P:ã) (w:Ă) (E el tg src:ġ) (tests:List ġ) (new:Sem Å) (ap:String) (mk:Ø->List V->HO) (ku:List V->Prop) where
 o0:Obj
 live:o0.isFreed=false
 Ac:Ø->List V->ĥ->Prop
 clauses:clausesOf E=[⟨tg,src,tests,0⟩]
 turns:∀{A:ê} {R:Result->Ä->Prop} {s:Ä} {gy av:Å} {ce:Env} (J:Nat->Ä->Prop)
  (turn:∀n s,J n s->Û (ä P w) A (aaj gy) (λr s1=>match r with
   |none=>R (.ok .next) s1
   |some v=>Û (ä P w) A (ŕ tg gy v) (λ_ s2=>Û (ä P w) A (abn tg ce v) (λ_ s3 =>
     Û (ä P w) A (forIn tests true λc r=>if r=true then do let ok <- isTrue c ce (ĩ c ce);pure (Ĺ ok) else pure (Ĺ r)) (λok s4 =>
      if ok=true then Û (ä P w) A (ĩ el ce) (λy s5=>Û (ä P w) A (call (.builtin ap) [av,y]) (λ_ s6=>∃m,m<n/\J m s6) (λ_ _=>False) s5) (λ_ _=>False) s4
      else ∃m,m<n/\J m s4) (λ_ _=>False) s3) (λ_ _=>False) s2) (λ_ _=>False) s1) (λ_ _=>False) s)
  (n:Nat) (_:J n s),ŷ (ä P w) A (.compLoop E 0 gy av ce) R s
 new:∀{A:ê} {X:Å->Ä->Prop} {s:Ä} {Q:Å->Ä->Prop},Q (.ref s.heap.objs.size) { s with heap:=s.heap.push o0 }->Û (ä P w) A new Q X s
 start:∀{A:ê} {R:Result->Ä->Prop} {s:Ä} {it acc:Å} {env:Env},ŷ (ä P w) A (.compLoop E 0 it acc env) R s->Û (ä P w) A (pyIter it) (λlM s'=>ŷ (ä P w) A (.compLoop E 0 lM acc env) R s') (notedBy (ä P w) A env λx s'=>R (.error x) s') s->ŷ (ä P w) A (.compStart E 0 it acc env) R s
 init:∀{D:Ø} {h:ĥ},h.get? D=some o0->Ac D [] h
 obj:∀{D:Ø} {acc:List V} {h:ĥ},Ac D acc h->∃o,h.get? D=some o/\∀v,o.data≠.cell v
 dW:∀{D:Ø} {acc:List V} {h h':ĥ},Ac D acc h->(∀o,h.get? D=some o->h'.get? D=some o)->Ac D acc h'
 IE:∀{D:Ø} {acc:List V} {h:ĥ} {H:Hp},ku acc->Ac D acc h->dB P w (upd H D (mk D acc)) h D (mk D acc)
 add:∀{A:ê} {s:Ä} {D:Ø} {acc:List V} {v:V} {y:Å} {Q:Å->Ä->Prop},Ac D acc s.heap->RelV v y->ku acc->ku (acc++[v])->(∀h' tk,İ D s.heap h'->Ac D (acc++[v]) h'->Q .none { s with heap:=h',toks:=tk })->Û (ä P w) A (call (.builtin ap) [.ref D,y]) Q (λ_ _=>False) s
section
variable {X:Cx}
def Fu {E el tg src:ġ} {tests:List ġ} {sc:ι} {N:List Str} {nt:Nat} {cap:List Nat} {wi:TI} {g:TG} {tf:TT} {te:TE} {p1:Pos} {use:Option (Å->Sem Unit)} {R:Å->Ä->Prop} {π:List (Ø×Obj)} {s:Ä} {σ:St} {H:Hp} {Q:VK} {new:Sem Å} {ap:String} {mk:Ø->List V->HO} {ku:List V->Prop} (B:JK X.prog X.w E el tg src tests new ap mk ku) (hc:X.calm=true) (S:m9 X sc N nt cap) (fV:mL g nt) (hi:PI X tg src wi)
  (hY:∀(cl:List (Str×Ø)) (C:Ø) (s:Ä) (H:Hp) (ex:List Ø) (pn:List (Ø×Obj)),PG (dM X N sc cl C s H ex pn) tg g/\PF (dM X N sc cl C s H ex pn) tests tf/\PE (dM X N sc cl C s H ex pn) el te)
  (hs:∀x,ù src X.env x=pure x) (I:Inv X π σ H s) (h:wi σ H λJ H1=>K3 mk ku J nt (mj cap σ) g tf te H1 Q)
  (Cb:∀(s':Ä) (H1:Hp) (D C:Ø) (m:Str->Option Å),(∀h',İ C s'.heap h'->Inv X π σ H1 { s' with heap:=h' })->s'.heap.Ns C m->H1 C=none->C≠X.env.locals->C∉X.fs->X.cL.heap.objs.size<=C->(∀x c,X.env.cells.lookup x=some c->c≠C)->(∀p∈X.pn++π,p.1≠C)->Q (.ref D) H1->compPost (ä X.prog X.w) X.A X.xe use R (.ref D) C (.ok .next) s') :
  Û (ä X.prog X.w) X.A (comprehension E sc X.env p1 new false (ĩ src X.env) use) R X.xe s:=by
 obtain⟨cl,Bv,cQ⟩:=Ih (env:=X.env) (sc:=sc) λn hn=>I.ok.has n (S.frees _ hn rfl).2;refine wpAny_comprehension_free (use:=use) B.clauses hs Bv S.kind S.names (aG (hi π s σ H _ I h) λxv s1 h1=>aG h1 λgy k h2=>?_);obtain⟨it,t,tn,J,H2,e,M,T,jB,f2,W,⟨m0,w0⟩,turn⟩:=h2;subst e;refine B.new (Mn λgF h3 j kg nT=>?_);dsimp only at j kg nT |-;generalize hD:k.heap.objs.size=D at j kg nT |-;generalize hG:k.heap.push B.o0=G at j kg nT |-;generalize Dv:G.objs.size=C at j kg nT |-;have hC:C=D+1:=by rw[<- Dv,<- hG,ă,hD]
 have pY:D≠C:=by omega
 have d:k.heap.objs.size<=D:=abo hD;have l:k.heap.objs.size<=C:=by omega
 have old:∀b o,k.heap.get? b=some o->h3.get? b=some o:=λb o e=>nT b o (hG ▸ Á _ e);have ra:B.Ac D [] h3:=B.init (nT _ _ (hG ▸ hD ▸ Í _ B.live));have fT:∀b∈t,b<k.heap.objs.size:=λb P=>by
  obtain⟨o,e,_⟩:=T.obj _ _ jB b P;exact Ë e
 have j:=j λx c e=>by
  obtain⟨v,o,ho,_⟩:=M.cell x c ((cQ x c).mp e).2;exact È (Ë ho) l
 have IB:=M.TN (t':=k.toks) S cQ j f2 fT old l ⟨_,kg⟩;have Dw:D∉ck X.stack:=λz=>by
  rcases Õ.mp (M.jO D z) with e|e
  ·exact absurd (È M.lt d) (by rw[e];exact ï _)
  ·exact M.tY d e
 have mQ:D∉t:=λz=>absurd (È (fT D z) d) (ï _);have AI:∀x c,gF.lookup x=some c->c≠D:=λx c e z=>by
  rcases j.old x c e with ⟨q,_,_⟩|e
  ·rw[z] at q
   exact absurd q (by rw[hC];exact Nat.not_lt.mpr (aaf D))
  ·obtain⟨v,o,ho,_⟩:=M.cell x c ((cQ x c).mp e).2
   exact absurd (È (Ë ho) (by rw[z];exact d)) (ï _)
 have Bw:∀p∈X.pn++π,p.1≠D:=λp L z=>absurd (È (Ë (M.pin p L).1) (by rw[z];exact d)) (ï _);generalize O:dM X N sc gF C k H2 t (X.pn++π)=Y at IB;have mR:∀{U:Hp} {pl:List (Ø×Obj)},(∀b∈t,U b=none)->(∀p∈pl,p.1∉t)->∀b∈t,fO Y pl U b:=λ{U pl} hn L b P=>by
  subst O;obtain⟨_,f1,pW,f3,f4,f5⟩:=f2 b P;refine⟨hn b P,â (È (fT b P) l),λz=>?_,.inl P,λx c e=>(j.old x c e).elim (λq z=>Ť (È (fT b P) (à l (Nat.le_of_lt q.1))) z) λe=>f4 x c ((cQ x c).mp e).2,λp u7=>?_⟩
  ·rcases Õ.mp (M.jO b z) with e|e
   ·exact f1 e
   ·exact pW e
  ·rcases Ą.mp u7 with z|z
   ·exact f5 p z
   ·exact λe=>L p z (e ▸ P)
 have Dx:PG Y tg g:=by subst O;exact(hY _ _ _ _ _ _).1
 have Dy:PF Y tests tf:=by subst O;exact(hY _ _ _ _ _ _).2.1
 have Yf:PE Y el te:=by subst O;exact(hY _ _ _ _ _ _).2.2
 have eP:Y.prog=X.prog:=by subst O;rfl
 have eW:Y.w=X.w:=by subst O;rfl
 have eA:Y.A=X.A:=by subst O;rfl
 have eK:Y.K=X.K:=by subst O;rfl
 have eE:Y.env=compEnvC sc gF C X.env:=by subst O;rfl
 have eX:Y.xe=λ_ _=>False:=by subst O;rfl
 have eC:Y.calm=true:=by subst O;exact hc
 have eS:Y.cL.heap.objs.size<=D:=by subst O;exact d
 have eF:D∉Y.fs:=by subst O;exact Dw
 have eL:D≠Y.env.locals:=by subst O;exact pY
 have Yg:∀x c,Y.env.cells.lookup x=some c->c≠D:=by subst O;exact AI
 have eN:∀p∈Y.pn,p.1≠D:=by subst O;exact Bw
 have fin:∀(s':Ä) (a:St) (U:Hp) (Z:List V),Inv Y [] a U s'->B.Ac D Z s'.heap->U D=none->ku Z->(∀D,U D=none->Q (.ref D) (upd U D (mk D Z))) ->
   compPost (ä X.prog X.w) X.A X.xe use R (.ref D) C (.ok .next) s':=by
  intro s' a U Z F pl hn hz q;subst O;obtain⟨m,hm,_⟩:=id F.loc;refine Cb s' (upd U D (mk D Z)) D C m (λh' sb=>?_) hm ?_ (λz=>absurd (È M.lt l) (by rw[z];exact ï _)) (M.tY l) (à M.sz l) (λx c e z=>?_) (λp L z=>absurd (È (Ë (M.pin p L).1) (by rw[z];exact l)) (ï _)) (q D hn)
  ·have Ci:cm X.prog X.w U h':=F.aB.but F.free sb
   have u:=(F.base.but l sb).adopt (o:=mk D Z) d hn
   refine M.tu (s':={ s' with heap:=h' }) (ch:=t) F.os u (Ci.adopt hn (B.IE hz (B.dW pl λo e=>(sb.2 D pY).trans e))) F.bare (λb P=>?_)
   obtain⟨_,f1,_,f3,f4,f5⟩:=f2 b P;exact⟨f3,f1,f4,f5⟩
  ·rw[aW (Ŭ pY)]
   exact F.free
  ·obtain⟨v,o,gW,_⟩:=M.cell x c e
   exact absurd (È (Ë gW) (by rw[z];exact l)) (ï _)
 have loop:ŷ (ä X.prog X.w) X.A (.compLoop E 0 (.ref it) (.ref D) (compEnvC sc gF C X.env)) (compPost (ä X.prog X.w) X.A X.xe use R (.ref D) C)
   { k with heap:=h3 }:=by
  refine B.turns (λn s'=>∃i Z o U,Inv Y [] (o++mj cap σ) U s'/\o.length=nt/\tn i s'.heap/\(∀b∈t,U b=none)/\B.Ac D Z s'.heap/\U D=none/\W i n Z U) ?_ m0
   ⟨0,[],Ñ nt none,H2,IB,by simp,T.keep _ _ _ jB λb _ o e=>old b o e,λb P=>(f2 b P).1,ra,M.aB.fresh d,w0⟩
  rintro n s3 ⟨i,Z,o3,H3,I3,Lj,nK,nL,Lk,Yh,w3⟩;generalize Yi:o3++mj cap σ=a at I3;obtain⟨f,ho,Vq⟩:=B.obj Lk;have u9:Inv Y [(D,f)] a H3 s3:=I3.lX λp L=>by
   have e:p=(D,f):=by simpa using L
   subst e;exact⟨ho,Yh,eL,eF,Vq⟩
  have pX:∀p∈[(D,f)],p.1∉t:=λp L=>by
   have e:p=(D,f):=by simpa using L
   subst e;exact mQ
  have rW:∀{pl:List (Ø×Obj)} {cV:St} {U:Hp} {s':Ä},Inv Y ([(D,f)]++pl) cV U s'->B.Ac D Z s'.heap/\U D=none:=λ{pl cV U s'} F=>by
   have q:=F.pin (D,f) (Î _ (ý _ (by simp)));exact⟨B.dW Lk λo e=>by rw[ho] at e;cases e;exact q.1,q.2.1⟩
  rcases turn i n Z H3 w3 with ⟨stop,hz,q⟩ | ⟨go,hz,N',hN,step⟩
  ·have hd:=T.done Y eP eW eK eC i [(D,f)] s3 a H3 (λ_ _=>False) u9 (mR nL pX) nK stop
   rw[eA] at hd;refine aG hd λr s4 h4=>?_;obtain⟨hr,I4⟩:=h4;subst hr;obtain⟨Ds,n4⟩:=rW (pl:=[]) (by simpa using I4);exact fin s4 a H3 Z (Inv.lV (π:=[]) I4) Ds n4 hz q
  ·have hd:=T.item Y eP eW eK eC i [(D,f)] s3 a H3 (λ_ _=>False) u9 (mR nL pX) nK go
   rw[eA] at hd;refine aG hd λr s4 h4=>?_;obtain⟨u,hr,h4⟩:=h4;subst hr;refine aG h4 λ_ s5 h5=>?_;obtain⟨x,H5,I5,r5,y5,iK,uD⟩:=h5;have uE:=I5.pinned (mR uD pX) (T.obj _ _ iK);have q5:=Dx _ s5 a H5 x u _ uE r5 (Yi ▸ fV x o3 _ H5 _ Lj (step o3 x H5 Lj y5));rw[eP,eW,eA,eE,eX] at q5;refine aG q5 λ_ s6 h6=>?_;obtain⟨rX,H6,I6,⟨o6,va,xU⟩,q6⟩:=h6;have q7:=Dy _ s6 rX H6 _ I6 q6;rw[eP,eW,eA,eE,eX] at q7;refine aG q7 λb s7 h7=>?_;obtain⟨H7,I7,q7⟩:=h7;have uq:∀{cV:St} {U:Hp} {s':Ä},Inv Y ([(D,f)]++m7 t s5.heap) cV U s'->tn (i+1) s'.heap/\∀b∈t,U b=none:=λ{cV U s'} F=>by
    refine⟨T.keep _ _ _ iK λb P o e=>(F.pin (b,o) (Î _ (Î _ (qe P e)))).1,λb P=>?_⟩;obtain⟨o,e,_⟩:=T.obj _ _ iK b P;exact(F.pin (b,o) (Î _ (Î _ (qe P e)))).2.1
   cases b with
   |false =>
    rw[è Ï] at q7 |-;obtain⟨m',hm,w7⟩:=hN _ _ q7;obtain⟨yx,n7⟩:=rW I7;obtain⟨t7,f7⟩:=uq I7;exact⟨m',hm,i+1,Z,o6,H7,xU ▸ I7.lX (λp L=>by simp at L),va,t7,f7,yx,n7,w7⟩
   |true =>
    rw[ß rfl] at q7 |-;have q8:=Yf _ s7 rX H7 _ I7 q7;rw[eP,eW,eA,eE,eX] at q8;refine aG q8 λy s8 h8=>?_;obtain⟨v,H8,I8,r8,q9⟩:=h8;obtain⟨m',hm,w8⟩:=hN _ _ q9;obtain⟨Dl,n8⟩:=rW I8;obtain⟨t8,f8⟩:=uq I8;have gY:ku (Z++[v]):=by
     rcases turn (i+1) m' (Z++[v]) H8 w8 with q|q
     ·exact q.2.1
     ·exact q.2.1
    refine B.add Dl r8 hz gY λh9 Yj yw Dp=>?_;have Dq:Inv Y [] rX H8 s8:=I8.lX (λp L=>by simp at L)
    have I9:Inv Y [] rX H8 { s8 with heap:=h9,toks:=Yj }:=Dq.turned (it:=D) (λb o P e=>(yw.2 b P).trans e) n8 eL (.inr eS) Yg (λp L=>eN p (by simpa using L))
    exact⟨m',hm,i+1,Z++[v],o6,H8,xU ▸ I9,va,T.keep _ _ _ t8 λb P o e=>(yw.2 b (λz=>mQ (z ▸ P))).trans e,f8,Dp,n8,w8⟩
 exact B.start loop (T.self _ _ _ _ _ (T.keep _ _ _ jB λb _ o e=>old b o e) loop)
def Ko {P:ã} {w:Ă} {el tg src:ġ} {tests:List ġ} {sc:ι} {ps:Pos}:JK P w (.ListComp el [⟨tg,src,tests,0⟩] sc ps) el tg src tests (newList []) "list.append" (λ_ acc=>.lst acc) (λacc=>acc.length<=Ú) where
 o0:={ cls:=.type "list",dict:=none,data:=.seq ([]:List Å).toArray }
 live:=rfl
 Ac:=λD acc h=>∃Z,h.PlainList D Z/\Vals acc Z.toList
 clauses:=rfl
 turns:=Nu
 new:=λh=>þ h
 start:=codeAny_compStart_list
 init:=λe=>⟨#[],⟨_,e⟩,.nil⟩
 obj:=λ⟨_,⟨_,e⟩,_⟩=>⟨_,e,λ_ z=>by cases z⟩
 dW:=λ⟨Z,⟨n,e⟩,r⟩ k=>⟨Z,⟨n,k _ e⟩,r⟩
 IE:=λY ⟨Z,⟨n,e⟩,r⟩=>⟨Y,Z.toList,n,r,by simpa using e⟩
 add:=λ{A s D acc v y Q} ⟨Z,X,r⟩ W Y _ q=>wpAny_list_append_plain (hsz:=by have e:=r.length;simp only[ø] at e;omega) X λV U T=>q V s.toks T ⟨Z.push y,U,by rw[aaO];exact Vals.append r (.cons W .nil)⟩
def GC (hc:X.calm=true) (S:m9 X sc N nt cap) (fV:mL g nt) (hi:PI X tg src wi)
 (hY:∀(cl:List (Str×Ø)) (C:Ø) (s:Ä) (H:Hp) (ex:List Ø) (pn:List (Ø×Obj)),PG (dM X N sc cl C s H ex pn) tg g/\PF (dM X N sc cl C s H ex pn) tests tf/\PE (dM X N sc cl C s H ex pn) el te)
 (hs:∀x,ù src X.env x=pure x:=by intro _;rfl):PE X (.ListComp el [⟨tg,src,tests,0⟩] sc ps) (nj wi nt cap g tf te):=by
 intro T s σ H Q I h;rw[eval_ListComp];exact Fu Ko (use:=none) hc S fV hi hY hs I h λR Z D C m Y W _ _ _ _ _ _ q=>⟨m,W,λV U=>⟨.ref D,Z,Y V U,rfl,q⟩⟩
def PX {el tg src:ġ} {tests:List ġ} {sc:ι} {ps pos pos':Pos} {N:List Str} {nt:Nat} {cap:List Nat} {wi:TI} {g:TG} {tf:TT} {te:TE} {i0:Nat} {x0:Str} (DG:X.N.Nodup) (DH:X.N[i0]?=some x0) (DJ:Loc X.env.scope x0) (hc:X.calm=true) (S:m9 X sc N nt cap) (fV:mL g nt) (hi:PI X tg src wi)
  (hY:∀(cl:List (Str×Ø)) (C:Ø) (s:Ä) (H:Hp) (ex:List Ø) (pn:List (Ø×Obj)),PG (dM X N sc cl C s H ex pn) tg g/\PF (dM X N sc cl C s H ex pn) tests tf/\PE (dM X N sc cl C s H ex pn) el te)
  (hs:∀x,ù src X.env x=pure x:=by intro _;rfl)
  (DK:abd (.ListComp el [⟨tg,src,tests,0⟩] sc ps) (some (.Name x0 pos')) pos.line X.env=pure true:=by rfl)
  (DL:X.fn x0=true\/X.env.scope.names.lookup x0=some .local:=by first|exact .inl rfl|exact .inr rfl|assumption):PS X (.Assign [.Name x0 pos'] (.ListComp el [⟨tg,src,tests,0⟩] sc ps) pos) (qW (nj wi nt cap g tf te) (mi i0)):=by
 intro W s σ H V I h;rw[exec_Assign_Name_used _ _ _ _ DK];refine À (Ŷ (À ?_));obtain⟨Q,P⟩:∃Q:VK,Q=λv Z=>mi i0 v σ Z V.nx:=⟨_,rfl⟩;have h:nj wi nt cap g tf te σ H Q:=by rw[P];exact h
 have G:∀v Z,Q v Z->V.nx (σ.set i0 (some v)) Z:=λv Z q=>by rw[P] at q;exact q
 unfold evalThenUse
 refine À (Ĝ (Q:=λ_ Y=>SP X W V .next Y) ?_ (λ_ Y q=>Ã (Ã q)) (λ_ _ z=>z))
 refine Fu Ko (use:=some (abn (.Name x0 pos') X.env)) hc S fV hi hY hs I h λY Z D C m F E O M B A y w q=>?_;have L:Inv X W σ Z Y:=F Y.heap (Heap.SameBut.refl _ _);obtain⟨U,u,t,r,K,n⟩:=id E;have l:Inv X ((C,U)::W) σ Z Y:=L.lX λp T=>by
  rcases Õ.mp T with e|e
  ·subst e
   exact⟨r,O,M,B,λv z=>by rw[K] at z;cases z⟩
  ·exact L.pin p (Î _ e)
 show Û _ _ (abn (.Name x0 pos') X.env (.ref D)) _ _ Y;refine wpAny_assign_Name (lU l DG DH DJ (show RelV (.ref D) (.ref D) from rfl) (λJ R=>?_) DL);have k:=(R.pin (C,U) (Î _ (Ô ..))).1;refine⟨m,⟨U,u,t,k,K,n⟩,λd j=>⟨_,Z,?_,G _ _ q⟩⟩;have i:Inv X W (σ.set i0 (some (.ref D))) Z J:=R.lX λp T=>R.pin p (Î _ (Ó _ T));exact i.turned (it:=C) (t':=J.toks) (λb o f e=>(j.2 b f).trans e) O M (.inr A) y w
end
noncomputable def AN (sc:ι) (on:List (Str×ũ)) (oN N:List Str) (nt:Nat) (cap:List Nat):Bool :=
 decide (sc.kind=.function)&&sc.names.all (λx=>decide (x.2=.local->sc.names.lookup x.1=some .local))&&sc.names.all (λx=>decide (x.2=.cell->sc.names.lookup x.1=some .cell)) &&
 sc.names.all (λx=>decide (x.2=.free->sc.names.lookup x.1=some .free/\(on.lookup x.1=some .cell\/on.lookup x.1=some .free)))&&decide (N.length=nt+cap.length) &&
 (č cap.length).all (λk=>match cap[k]? with
  |some j=>match oN[j]? with
   |some x=>decide (N[nt+k]?=some x)&&decide ((x,ì)∈sc.names)
   |none=>false
  |none=>true)
def xt (h:AN sc X.env.scope.names X.N N nt cap=true):m9 X sc N nt cap:=by
 unfold AN at h;simp only[Æ,ë,Ì] at h;obtain⟨⟨⟨⟨⟨Z,Y⟩,W⟩,V⟩,U⟩,T⟩:=h;refine⟨Z,Y,W,λx S e=>V x S e,U,λk j e=>?_⟩;have R:k<cap.length:=(Ç.mp e).1;have:=T k (ö.mpr R);rw[e] at this;dsimp only at this
 cases ex:X.N[j]? with
 |none=>rw[ex] at this;cases this
 |some x =>
  rw[ex] at this;simp only[Æ,Ì] at this;exact⟨x,rfl,this.1,this.2⟩
end L2
namespace DI
open PySem L2
section
variable {X:Cx} {Ξ:Wd->aR->Prop} {e a b c tg el src:ġ} {es rest tests:List ġ} {pos:Pos} {f g h:abC D} {fa:abC (List D)} {ft gt:abC Bool}
def Hy (hc:X.calm=true) (S:m9 X sc N nt cap) (T:Tg X.K g0 gd nt) (hi:PI X tg src (fF X.K Ξ it))
 (hY:∀(cl:List (Str×Ø)) (C:Ø) (s:Ä) (H:Hp) (ex:List Ø) (pn:List (Ø×Obj)),PG (dM X N sc cl C s H ex pn) tg g0/\PF (dM X N sc cl C s H ex pn) tests (tT X.K bR ft)/\PE (dM X N sc cl C s H ex pn) el (tE X.K bR f))
 (hs:∀x,ù src X.env x=pure x:=by intro _;rfl):PE X (.ListComp el [⟨tg,src,tests,0⟩] sc ps) (tE X.K Ξ (eh nt cap it gd ft f)) :=
 b9 (GC hc S T.kD hi hY hs) fun σ H Q h=>zd T.imp (λR Z i h=>Gu R Z i h) (Gs σ H Q h)
def RB {sc:ι} {ps pos':Pos} {N:List Str} {nt:Nat} {cap:List Nat} {it:abC (List D)} {gd:D->Env->Option Env} {g0:TG} (i0:Nat) {x0:Str} (DG:X.N.Nodup) (hc:X.calm=true) (S:m9 X sc N nt cap) (T:Tg X.K g0 gd nt) (hi:PI X tg src (fF X.K Ξ it))
  (hY:∀(cl:List (Str×Ø)) (C:Ø) (s:Ä) (H:Hp) (ex:List Ø) (pn:List (Ø×Obj)),PG (dM X N sc cl C s H ex pn) tg g0/\PF (dM X N sc cl C s H ex pn) tests (tT X.K bR ft)/\PE (dM X N sc cl C s H ex pn) el (tE X.K bR f))
  (DH:X.N[i0]?=some x0:=by rfl) (DJ:Loc X.env.scope x0:=by first|exact aap rfl|exact Or.inr rfl)
  (hs:∀x,ù src X.env x=pure x:=by intro _;rfl)
  (DK:abd (.ListComp el [⟨tg,src,tests,0⟩] sc ps) (some (.Name x0 pos')) pos.line X.env=pure true:=by rfl)
  (DL:X.fn x0=true\/X.env.scope.names.lookup x0=some .local:=by first|exact .inl rfl|exact .inr rfl):PS X (.Assign [.Name x0 pos'] (.ListComp el [⟨tg,src,tests,0⟩] sc ps) pos) (tS X.K Ξ (bt (eh nt cap it gd ft f) (gN i0))) :=
 jf (PX DG DH DJ hc S T.kD hi hY hs DK DL) λD σ H h=>by
  have Z:=FY (te:=tE X.K Ξ f) D σ H (Aa D σ H h);exact zd T.imp (λR Y i h=>Gu R Y i h) (Gs σ H _ Z)
end
end DI
namespace L2
open PySem PySem.Spec PyProof.Rows
section
variable {X:Cx} {tg:ġ}
end
end L2
namespace DI
open PySem L2
section
variable {X:Cx} {Ξ:Wd->aR->Prop} {a b c tg:ġ} {pos:Pos} {fa:abC (List D)}
end
end DI
namespace L2
open PySem PySem.Spec PyProof.Rows
section
variable {X:Cx}
end
end L2
namespace DI
open PySem L2
section
variable {X:Cx} {Ξ:Wd->aR->Prop} {a:ġ} {p pos:Pos} {fa:abC (List D)}
end
section
variable {X:Cx} {Ξ:Wd->aR->Prop} {a:ġ} {p pos:Pos} {f g:abC D} {fa:abC (List D)}
theorem aq.erase:∀{ds:List D} {xs:List V} (j:Nat),aq K w ds xs->aq K w (ds.eraseIdx j) (xs.eraseIdx j)
 | [],xs,j,h=>by
  have e:xs=[]:=h;subst e;exact h
 |d::ds,xs,0,h=>by
  obtain⟨v,r,rfl,_,dr⟩:=h;exact dr
 |d::ds,xs,j+1,h=>by
  obtain⟨v,r,rfl,Z,dr⟩:=h;exact⟨v,r.eraseIdx j,rfl,Z,aq.erase j dr⟩
end
open HT PyProof.Rows
section
variable {X:Cx} {Ξ:Wd->aR->Prop}
def Ox (h:Vals xs us):∀{q:List Nat},(∀i∈q,i<us.length)->Vals (q.map λi=>xs.getD i .ar) (q.map λi=>us.getD i Value.none):=by
 intro q
 induction q with
 |nil=>intro _;exact .nil
 |cons i q ih =>
  intro Z;refine .cons ?_ (ih λj Y=>Z j (Ó _ Y));have hi:=Z i Ô;clear ih Z
  induction h generalizing i with
  |nil=>simp at hi
  |cons a _ ih =>
   cases i with
   |zero=>exact a
   |succ i=>simpa using ih i (by simpa using hi)
def PY {K:Ď} {w:Wd} {ds:List D} {xs:List V} (h:aq K w ds xs):∀{q:List Nat},(∀i∈q,i<ds.length)->aq K w (q.map λi=>ds.getD i .ar) (q.map λi=>xs.getD i .ar):=by
 intro q
 induction q with
 |nil=>intro _;exact rfl
 |cons i q ih =>
  intro Z;have hi:=Z i Ô;obtain⟨v,e,Y⟩:=h.get' i _ (Ð hi);refine⟨_,_,rfl,?_,ih λj X=>Z j (Ó _ X)⟩;have e1:ds.getD i .ar=ds[i]:=by simp[hi]
  have e2:xs.getD i .ar=v:=by simp[e]
  show DV K w (ds.getD i .ar) (xs.getD i .ar);rw[e1,e2];exact Y
def PZ {α:Type} {O:ST.Ord α} {ks:List α} {f:α->D} {d:α} {q:Array Nat} (hp:ST.Pm ks.length q) (hu:ST.Up O (ST.ky (λi=>ks.getD i d) q) ks.length):q.toList.map (λi=>(ks.map f).getD i .ar)=(ST.cK O ks).map f:=by
 rw[<- ST.Ow hp hu,Ņ];refine List.map_congr_left λi hi=>?_;have:i<ks.length:=ö.mp (hp.2.mem_iff.mp hi);simp[this]
end
end DI
namespace TK
open PySem PySem.W PyProof.Rows DI
mutual
noncomputable def kd:D->Bool
 | .int _=>true
 | .str x=>ŵ x
 | .tup Z=>dF Z
 |_=>false
noncomputable def dF:List D->Bool
 | []=>true
 |k::Z=>kd k&&dF Z
end
mutual
def KA (h:ĥ):D->Å->Prop
 | .int i,v=>∃t,v=.int i t
 | .str x,v=>∃t,v=.str x t
 | .tup Z,v=>∃a o its n,v=.ref a/\h.get? a=some o/\o.cls=.type "tuple"/\o.data=.seq its n/\cW h Z its.toList
 |_,_=>False
def cW (h:ĥ):List D->List Å->Prop
 | [],Z=>Z=[]
 |k::Y,Z=>∃v r,Z=v::r/\KA h k v/\cW h Y r
end
mutual
theorem oK:∀k:D,kd k=true->lay k=true
 | .int _,_=>rfl
 | .str _,h=>h
 | .tup Z,h=>by simp only[kd] at h;simp only[lay];exact vU Z h
 | .ar,h=>by cases h
 | .bl _,h=>by cases h
 | .lst _,h=>by cases h
 | .bQ _,h=>by cases h
 | .aj _,h=>by cases h
 | .ty _,h=>by cases h
 | .bO _,h=>by cases h
 | .exc _ _,h=>by cases h
 | .cD _ _ _,h=>by cases h
theorem vU:∀ks:List D,dF ks=true->cM ks=true
 | [],_=>rfl
 |k::ks,h=>by
  simp only[dF,cM,Æ] at h |-;exact⟨oK k h.1,vU ks h.2⟩
end
mutual
theorem wM:∀x y:D,kd x=true->kd y=true->(beq x y=true↔x=y)
 | .int i,.int j,_,_=>by simp[beq]
 | .str i,.str j,_,_=>by simp[beq]
 | .tup Z,.tup Y,h,g=>by
  simp only[kd] at h g;simp only[beq,zC Z Y h g];exact⟨λe=>by rw[e],λe=>by injection e⟩
 | .int _,.str _,_,_=>by simp[beq]
 | .int _,.tup _,_,_=>by simp[beq]
 | .str _,.int _,_,_=>by simp[beq]
 | .str _,.tup _,_,_=>by simp[beq]
 | .tup _,.int _,_,_=>by simp[beq]
 | .tup _,.str _,_,_=>by simp[beq]
 | .ar,_,h,_=>by cases h
 | .bl _,_,h,_=>by cases h
 | .lst _,_,h,_=>by cases h
 | .bQ _,_,h,_=>by cases h
 | .aj _,_,h,_=>by cases h
 | .ty _,_,h,_=>by cases h
 | .bO _,_,h,_=>by cases h
 | .exc _ _,_,h,_=>by cases h
 | .cD _ _ _,_,h,_=>by cases h
 |_,.ar,_,h=>by cases h
 |_,.bl _,_,h=>by cases h
 |_,.lst _,_,h=>by cases h
 |_,.bQ _,_,h=>by cases h
 |_,.aj _,_,h=>by cases h
 |_,.ty _,_,h=>by cases h
 |_,.bO _,_,h=>by cases h
 |_,.exc _ _,_,h=>by cases h
 |_,.cD _ _ _,_,h=>by cases h
theorem zC:∀xs ys:List D,dF xs=true->dF ys=true->(dH xs ys=true↔xs=ys)
 | [],[],_,_=>by simp[dH]
 | [],_::_,_,_=>by simp[dH]
 |_::_,[],_,_=>by simp[dH]
 |x::xs,y::ys,h,g=>by
  simp only[dF,Æ] at h g;simp only[dH,Æ,wM x y h.1 g.1,zC xs ys h.2 g.2,ř]
end
mutual
theorem KA.reads:∀(k:D) (v:Å),KA h k v->∃as,Reads h v (py k) as
 | .int i,v,q=>by obtain⟨t,rfl⟩:=q;exact⟨_,.int i t⟩
 | .str x,v,q=>by obtain⟨t,rfl⟩:=q;exact⟨_,.str x t⟩
 | .tup Z,v,q=>by
  simp only[KA] at q;obtain⟨a,o,its,n,rfl,Y,X,W,r⟩:=q;obtain⟨as,r⟩:=cW.reads Z _ r;exact⟨as,.tuple Y X W r⟩
 | .ar,_,q=>by cases q
 | .bl _,_,q=>by cases q
 | .lst _,_,q=>by cases q
 | .bQ _,_,q=>by cases q
 | .aj _,_,q=>by cases q
 | .ty _,_,q=>by cases q
 | .bO _,_,q=>by cases q
 | .exc _ _,_,q=>by cases q
 | .cD _ _ _,_,q=>by cases q
theorem cW.reads:∀(ks:List D) (vs:List Å),cW h ks vs->∃as,ReadsAll h vs (ff ks) as
 | [],vs,q=>by cases q;exact⟨_,.nil⟩
 |k::ks,vs,q=>by
  obtain⟨v,r,rfl,Z,Y⟩:=q;obtain⟨as,Z⟩:=KA.reads k v Z;obtain⟨bs,Y⟩:=cW.reads ks r Y;exact⟨_,.cons Z Y⟩
end
def TQ (q:KA h y (.int i t)):y=.int i:=by
 cases y with
 |int j=>obtain⟨_,e⟩:=q;cases e;rfl
 |str j=>obtain⟨_,e⟩:=q;cases e
 |tup Z=>simp only[KA] at q;obtain⟨_,_,_,_,e,_⟩:=q;cases e
 |_=>cases q
def TR (q:KA h y (.str i t)):y=.str i:=by
 cases y with
 |str j=>obtain⟨_,e⟩:=q;cases e;rfl
 |int j=>obtain⟨_,e⟩:=q;cases e
 |tup Z=>simp only[KA] at q;obtain⟨_,_,_,_,e,_⟩:=q;cases e
 |_=>cases q
def TU (q:KA h y (.ref a)):∃ks o its n,y=.tup ks/\h.get? a=some o/\o.cls=.type "tuple"/\o.data=.seq its n/\cW h ks its.toList:=by
 cases y with
 |str j=>obtain⟨_,e⟩:=q;cases e
 |int j=>obtain⟨_,e⟩:=q;cases e
 |tup ks =>
  simp only[KA] at q;obtain⟨_,o,its,n,e,r⟩:=q;cases e;exact⟨ks,o,its,n,rfl,r⟩
 |_=>cases q
mutual
theorem KA.inj:∀(x y:D) (v:Å),KA h x v->KA h y v->x=y
 | .int i,y,v,p,q=>by
  obtain⟨t,rfl⟩:=p;exact(TQ q).symm
 | .str i,y,v,p,q=>by
  obtain⟨t,rfl⟩:=p;exact(TR q).symm
 | .tup Y,y,v,p,q=>by
  simp only[KA] at p;obtain⟨a,o,its,n,rfl,X,S,W,r⟩:=p;obtain⟨R,Q,Z,P,rfl,V,O,U,T⟩:=TU q;cases X.symm.trans V;cases W.symm.trans U;rw[cW.inj Y _ _ r T]
 | .ar,_,_,q,_=>by cases q
 | .bl _,_,_,q,_=>by cases q
 | .lst _,_,_,q,_=>by cases q
 | .bQ _,_,_,q,_=>by cases q
 | .aj _,_,_,q,_=>by cases q
 | .ty _,_,_,q,_=>by cases q
 | .bO _,_,_,q,_=>by cases q
 | .exc _ _,_,_,q,_=>by cases q
 | .cD _ _ _,_,_,q,_=>by cases q
theorem cW.inj:∀(xs ys:List D) (vs:List Å),cW h xs vs->cW h ys vs->xs=ys
 | [],ys,vs,p,q=>by
  cases p
  cases ys with
  |nil=>rfl
  |cons y ys=>obtain⟨_,_,e,_⟩:=q;cases e
 |x::xs,ys,vs,p,q=>by
  obtain⟨v,r,rfl,Z,Y⟩:=p
  cases ys with
  |nil=>cases q
  |cons y ys =>
   obtain⟨X,W,e,g1,g2⟩:=q;cases e;rw[KA.inj x y v Z g1,cW.inj xs ys r Y g2]
end
mutual
theorem KA.keep (hk:∀a o,h.get? a=some o->o.cls=.type "tuple"->(∃its n,o.data=.seq its n)->h'.get? a=some o):∀(x:D) (v:Å),KA h x v->KA h' x v
 | .int i,v,p=>p
 | .str i,v,p=>p
 | .tup X,v,p=>by
  simp only[KA] at p |-;obtain⟨a,o,its,n,e,W,Z,Y,r⟩:=p;exact⟨a,o,its,n,e,hk a o W Z ⟨its,n,Y⟩,Z,Y,cW.keep hk X _ r⟩
 | .ar,_,q=>by cases q
 | .bl _,_,q=>by cases q
 | .lst _,_,q=>by cases q
 | .bQ _,_,q=>by cases q
 | .aj _,_,q=>by cases q
 | .ty _,_,q=>by cases q
 | .bO _,_,q=>by cases q
 | .exc _ _,_,q=>by cases q
 | .cD _ _ _,_,q=>by cases q
theorem cW.keep (hk:∀a o,h.get? a=some o->o.cls=.type "tuple"->(∃its n,o.data=.seq its n)->h'.get? a=some o):∀(xs:List D) (vs:List Å),cW h xs vs->cW h' xs vs
 | [],vs,p=>p
 |x::xs,vs,p=>by
  obtain⟨v,r,e,Z,Y⟩:=p;exact⟨v,r,e,KA.keep hk x v Z,cW.keep hk xs r Y⟩
end
def Hz (h:k∈ks):dep k<=cH ks:=by
 induction ks with
 |nil=>cases h
 |cons x Z ih =>
  simp only[cH]
  rcases Õ.mp h with rfl|h
  ·exact aaB _ _
  ·exact à (ih h) (ž _ _)
mutual
noncomputable def hs (w:Ă):D->Int
 | .int i=>hashInt i
 | .str x=>hashStr w x
 | .tup Z=>reduceHash (Z7 (lO w Z))
 |_=>0
noncomputable def lO (w:Ă):List D->List Int
 | []=>[]
 |k::Z=>hs w k::lO w Z
end
mutual
noncomputable def dr:D->Nat
 | .int _=>1
 | .str _=>1
 | .tup Z=>kF Z+1
 |_=>0
noncomputable def kF:List D->Nat
 | []=>0
 |k::Z=>dr k+kF Z
end
def HA (w:Ă) (xs ys:List D):lO w (xs++ys)=lO w xs++lO w ys:=by
 induction xs with
 |nil=>rfl
 |cons x xs ih=>simp only[ğ,lO,ih]
def HB (xs ys:List D):kF (xs++ys)=kF xs+kF ys:=by
 induction xs with
 |nil=>simp[kF]
 |cons x xs ih=>simp only[ğ,kF,ih,aa9]
section
variable {prog:ã} {w:Ă}
def P0 (hu:A.units<abz) (ho:s.heap.get? a=some o) (hc:o.cls=.type "tuple") (hd:o.data=.seq items m) (hi:cW s.heap ks items.toList)
 (ih:∀k∈ks,∀(A':ê) (s':Ä) (v:Å) (E':Å->Ä->Prop) (Q':Int->Ä->Prop),A'.units<=A.units+1->KA s'.heap k v->Q' (hs w k) { s' with toks:=s'.toks+dr k }->Û (ä prog w) A' (pyHash v) Q' E' s')
 (h:Q (hs w (.tup ks)) { s with toks:=s.toks+dr (.tup ks) }):Û (ä prog w) A (pyHash (.ref a)) Q E s:=by
 have Z:s.TypeIs (.ref a) "tuple":=⟨o,ho,hc⟩;unfold pyHash
 first|unfold pyHashByItsType|skip
 first|refine À (wpAny_cRoomFor_or (.inr hu) ?_)|skip
 refine À (abj Z aaQ.lookup ?_)
 show Û _ _ (if (some (Value.builtin "tuple.__hash__")==some Value.none)=true then _ else _) Q E s
 rw[è (by rw[beq_builtin_none];exact Ï)];refine À (abj Z aaQ.lookup ?_);show Û _ _ (callSpecialIfBoundUnlessNone? (.ref a) "__hash__" _ >>= _) Q E s;refine À (wpAny_callSpecialIfBoundUnlessNone?_slot Z aaQ (ć aaQ Z F.entry_tuple_hash ?_ (F.args_tuple_hash_1 _)));show Û _ _ (Ŝ (.ref a) >>= _) _ _ s;refine À (wpAny_tupleItemsOf ho hd ?_);refine À ?_;rw[<- Array.forIn_toList];refine wpAny_forIn_list _
  (λrest (b:Array Int) s'=>∃done left,ks=done++left/\cW s.heap left rest/\b.toList=lO w done/\s'={ s with toks:=s.toks+kF done })
  _ ?_ ?_ _ _ ⟨[],ks,rfl,hi,rfl,rfl⟩
 ·rintro x rest b s' ⟨done,left,e,Y,X,rfl⟩
  cases left with
  |nil=>cases Y
  |cons k left =>
   obtain⟨T,S,ex,U,V⟩:=Y;cases ex
   refine À (ih k (by rw[e];simp) _ { s with toks:=s.toks+kF done } _ _ _ ?_ U ?_)
   ·exact abG _
   ·first
     |exact Ã ⟨done++[k],left,by simp[e],V,by simp[X,HA,lO],by simp[aa9,HB,kF]⟩
     |exact À (Ã (Ã ⟨done++[k],left,by simp[e],V,by simp[X,HA,lO],by simp[aa9,HB,kF]⟩))
 ·rintro b s' ⟨done,left,e,Y,X,rfl⟩
  cases left with
  |cons k left=>obtain⟨_,_,ex,_⟩:=Y;cases ex
  |nil =>
  rw[û] at e;subst e;simp only[hs,dr] at h;show Û _ _ (retInt (Z7 b.toList)) _ _ _;rw[X];generalize Z7 (lO w ks)=z at h |-;refine wpAny_ret_mkInt ?_
  show Û _ _ (if (decide (-(2:Int) ^ 63<=z)&&decide (z<2 ^ 63))=true then _ else _) Q E _
  unfold reduceHash at h;by_cases W:(decide (-(2:Int) ^ 63<=z)&&decide (z<2 ^ 63))=true
  ·rw[ß W]
   rw[ß W] at h;exact Ã (by simpa [aa9] using h)
  ·rw[è W]
   rw[è W] at h;exact À (ş (Ã (by simpa [aa9] using h)))
def RC:∀(n:Nat) (k:D),dep k<=n->∀(A:ê) (s:Ä) (v:Å) (E:Å->Ä->Prop) (Q:Int->Ä->Prop),KA s.heap k v->A.units+n<abz->Q (hs w k) { s with toks:=s.toks+dr k }->Û (ä prog w) A (pyHash v) Q E s:=by
 intro n
 induction n with
 |zero =>
  intro k Z A s v E Q q Y h
  cases k with
  |int i=>obtain⟨t,rfl⟩:=q;exact wpAny_pyHash_int h
  |str i=>obtain⟨t,rfl⟩:=q;exact wpAny_pyHash_str h
  |tup X=>simp[dep] at Z
  |_=>cases q
 |succ n ih =>
  intro k Z A s v E Q q Y h
  cases k with
  |int i=>obtain⟨t,rfl⟩:=q;exact wpAny_pyHash_int h
  |str i=>obtain⟨t,rfl⟩:=q;exact wpAny_pyHash_str h
  |tup X =>
   simp only[dep] at Z;simp only[KA] at q;obtain⟨a,o,items,m,rfl,W,V,U,hi⟩:=q;exact P0 (by omega) W V U hi (λk T S R v P O L N M=>ih k (by have:=Hz T;omega) S R v P O N (by omega) M) h
  |_=>cases q
def P1:∀(n:Nat) (k:D),dep k<=n->∀{A:ê} {s:Ä} {v:Å} {E:Å->Ä->Prop} {Q:Bool->Ä->Prop},KA s.heap k v->Q true s->Û (ä prog w) A (eqIsQuiet n v) Q E s:=by
 intro n
 induction n with
 |zero =>
  intro k Z A s v E Q q h
  cases k with
  |int i=>obtain⟨t,rfl⟩:=q;rw[aaR _ rfl];exact Ã h
  |str i=>obtain⟨t,rfl⟩:=q;rw[aaR _ rfl];exact Ã h
  |tup W=>simp[dep] at Z
  |_=>cases q
 |succ n ih =>
  intro k Z A s v E Q q h
  cases k with
  |int i=>obtain⟨t,rfl⟩:=q;rw[aaR _ rfl];exact Ã h
  |str i=>obtain⟨t,rfl⟩:=q;rw[aaR _ rfl];exact Ã h
  |tup W =>
   simp only[dep] at Z;simp only[KA] at q;obtain⟨a,o,items,m,rfl,V,R,P,hi⟩:=q;have U:s.TypeIs (.ref a) "tuple":=⟨o,V,R⟩;unfold eqIsQuiet;refine À (abj U F.slot_tuple_eq.lookup ?_);show Û _ _ (isInstance (.ref a) (.type "tuple") >>= _) _ _ s;refine À (aa5 U isSubtype_tuple_tuple ?_);simp only[ô,Â,é];refine À (Ī V P ?_);refine À ?_;show Û _ _ (forIn items _ _) _ _ s;rw[<- Array.forIn_toList];refine wpAny_forIn_list _ (λrest r Y=>r.1=none/\Y=s/\∃left,cW s.heap left rest/\∀k∈left,dep k<=n) _ ?_ ?_ _ _ ⟨rfl,rfl,W,hi,λk O=>by have:=Hz O;omega⟩
   ·rintro v rest r Y ⟨X,rfl,left,T,S⟩
    cases left with
    |nil=>cases T
    |cons k left =>
     obtain⟨K,J,ex,N,M⟩:=T;cases ex;refine À (ih k (S k Ô) N ?_);simp only[ô,Â,é];exact Ã ⟨rfl,rfl,left,M,λu L=>S u (Ó _ L)⟩
   ·rintro ⟨I,H⟩ Y ⟨X,rfl,_⟩
    simp only at X;subst X;exact Ã h
  |_=>cases q
def DM (h:ĥ) (ks:List D) (a:Ø):Prop:=dF ks=true/\cH ks<=6/\KA h (.tup ks) (.ref a)
noncomputable instance Zv:DecidableEq (List D):=λa b=>Classical.propDecidable (a=b)
def TV (hu:A.units+10<abz) (hx:DM s.heap x a) (hy:DM s.heap y b) (h:Q (decide (x=y)) s):Û (ä prog w) A (PySem.eqBool (.ref a) (.ref b)) Q E s:=by
 obtain⟨W,N,Z⟩:=hx;obtain⟨V,M,Y⟩:=hy;obtain⟨as,Z⟩:=KA.reads _ _ Z;obtain⟨bs,Y⟩:=KA.reads _ _ Y;have U:lay (.tup x)=true:=by simp only[lay];exact vU x W
 have T:lay (.tup y)=true:=by simp only[lay];exact vU y V
 obtain⟨S,R⟩:=jQ _ U;obtain⟨P,O⟩:=jQ _ T;have e:=SeqAt.eqAt_reads _ _ A s _ _ as bs Z Y S P (by rw[R,O];simp only[dep];omega);rw[qH _ _ U T] at e;refine e prog w E Q ?_;have:beq (.tup x) (.tup y)=decide (x=y):=by
  have:=zC x y W V;simp only[beq]
  cases X:dH x y with
  |true=>exact(á (this.mp X)).symm
  |false=>exact(ó λz=>by rw[this.mpr z] at X;cases X).symm
 rw[this];exact h
def kind (prog:ã) (w:Ă):HeapKind prog w (List D) where
 is:=DM
 hash:=λX=>hs w (.tup X)
 draws:=λX=>dr (.tup X)
 room:=λA=>A.units+10<abz
 inj:=λW V=>by have:=KA.inj _ _ _ W.2.2 V.2.2;injection this
 keeps:=λ{h Q k a d o P O} x S R hs=>⟨x.1,x.2.1,KA.keep (λb u U N Y=>(hs.2 b (λe=>by
  subst e;rw[S] at U;cases U;obtain⟨_,_,Y⟩:=Y;rw[R] at Y;cases Y)).trans U) _ _ x.2.2⟩
 pyHash:=λT Z h=>RC 7 _ (by simp only[dep];have:=Z.2.1;omega) _ _ _ _ _ Z.2.2 (by omega) h
 eqBool:=λT W V h=>TV T W V h
 quiet:=λZ h=>P1 8 _ (by simp only[dep];have:=Z.2.1;omega) Z.2.2 h
end
end TK
namespace TK
open PySem PySem.W PyProof.Rows DI L2
def DX.dW (h1 h2:ĥ) (h:DX a es h1) (k:∀o,h1.get? a=some o->h2.get? a=some o):DX a es h2:=by
 obtain⟨z,o,Z,Y,X,r⟩:=h;exact⟨z,o,Z,Y,k o X,r⟩
def AllK (w:Ă) (aF:List (D×Int)):Prop:=∀p∈aF,∃Z,p.1=.tup Z/\dF Z=true/\cH Z<=6/\p.2=hs w p.1
noncomputable def its:D->List D
 | .tup Z=>Z
 |_=>[]
section
variable {X:Cx} {π:List (Ø×Obj)} {σ:L2.St} {s:Ä} {w:Wd}
mutual
theorem Vr (I:Inv X π σ w.H s):∀(d:D) (v:V) (u:Å),kd d=true->DI.DV X.K w d v->RelV v u->KA s.heap d u
 | .int i,v,u,_,h,r=>by cases h;exact r
 | .str x,v,u,_,h,r=>by cases h;exact r
 | .tup Z,v,u,k,h,r=>by
  simp only[DI.DV] at h;obtain⟨a,Y,rfl,W,U⟩:=h;cases r;obtain⟨its,T,⟨o,S,R,n,Q⟩,_⟩:=I.tuple W;simp only[kd] at k;simp only[KA];exact⟨a,o,_,n,rfl,S,R,Q,AO I Z Y _ k U (by simpa using T)⟩
 | .ar,_,_,k,_,_=>by cases k
 | .bl _,_,_,k,_,_=>by cases k
 | .lst _,_,_,k,_,_=>by cases k
 | .bQ _,_,_,k,_,_=>by cases k
 | .aj _,_,_,k,_,_=>by cases k
 | .ty _,_,_,k,_,_=>by cases k
 | .bO _,_,_,k,_,_=>by cases k
 | .exc _ _,_,_,k,_,_=>by cases k
 | .cD _ _ _,_,_,k,_,_=>by cases k
theorem AO (I:Inv X π σ w.H s):∀(ds:List D) (vs:List V) (us:List Å),dF ds=true->DI.aq X.K w ds vs->Vals vs us->cW s.heap ds us
 | [],vs,us,_,h,r=>by cases h;cases r;rfl
 |d::ds,vs,us,k,h,r=>by
  obtain⟨v,Z,rfl,Y,W⟩:=h;simp only[dF,Æ] at k
  cases r with
  |cons r U=>exact⟨_,_,rfl,Vr I d v _ k.1 Y r,AO I ds Z _ k.2 W U⟩
end
end
def xX (w:Ă) (aF:List (D×Int)) (k:D):List (D×Int):=if (aF.any λp=>beq p.1 k)=true then aF else aF++[(k,hs w k)]
def keyOk (w:Ă) (p:D×Int):Bool:=match p.1 with
 | .tup Z=>dF Z&&decide (cH Z<=6)&&decide (p.2=hs w p.1)
 |_=>false
def sG (k:AllK w aF) (hk:dF ks=true):(aF.any λp=>beq p.1 (.tup ks))=true↔D.tup ks∈aF.map (·.1):=by
 rw[š,Ĕ];constructor
 ·rintro ⟨p,Z,Y⟩
  obtain⟨ls,e,X,_⟩:=k p Z;refine⟨p,Z,?_⟩;exact(wM p.1 (.tup ks) (by rw[e];simpa only [kd] using X) (by simpa only [kd] using hk)).mp Y
 ·rintro ⟨p,Z,e⟩
  exact⟨p,Z,by rw[e];exact(wM _ _ (by simpa only [kd] using hk) (by simpa only [kd] using hk)).mpr rfl⟩
def Cn (w:Ă) (d k x:D) (s:aa):Option aa:=match d,k,x with
 | .aj j,.tup Z,.bl true=>match s[j]? with
  |some (.dT Y)=>if (dF Z&&decide (cH Z<=6)&&Y.all (keyOk w)&&decide (Y.length<Ú))=true then some (s.set j (.dT (xX w Y (.tup Z)))) else none
  |_=>none
 |_,_,_=>none
section
variable {X:Cx} {Ξ:Wd->aR->Prop} {e o i:ġ} {pos nG:Pos} {f fo fi:DI.abC D}
end
end TK
namespace TK
open PySem PySem.W PyProof.Rows DI L2
def pw (h:ĥ) (d:Ø) (es:Array DictEntry) (ep:Nat):Prop:=∃o,h.get? d=some o/\o.ExactDict/\o.data=.dict es ep
section
variable {prog:ã} {w:Ă} {A:ê} {E:Å->Ä->Prop} {s:Ä} {d it:Ø} {es:Array DictEntry} {ep i:Nat}
def pw.ty (r:pw s.heap d es ep):s.TypeIs (.ref d) "dict":=by obtain⟨o,Z,x,_⟩:=r;exact⟨o,Z,x.1⟩
def pw.lt (r:pw h d es ep):d<h.objs.size:=by obtain⟨o,Z,_⟩:=r;exact Ë Z
def pw.at (r:pw h d es ep) (k:∀o,h.get? d=some o->h'.get? d=some o):pw h' d es ep:=by obtain⟨o,Z,x⟩:=r;exact⟨o,k o Z,x⟩
end
section
variable {X:Cx} {Ξ:Wd->aR->Prop}
end
open HT
section
variable {s:Ä}
def Vs (kx:kd x=true) (ky:kd y=true) (hu:A.units+dep x<abz) (hx:KA s.heap x vx) (hy:KA s.heap y vy):SeqAt.EqAt A s vx vy (beq x y):=by
 obtain⟨as,Z⟩:=KA.reads _ _ hx;obtain⟨bs,Y⟩:=KA.reads _ _ hy;obtain⟨X,W⟩:=jQ _ (oK _ kx);obtain⟨V,U⟩:=jQ _ (oK _ ky);have:=SeqAt.eqAt_reads _ _ A s vx vy as bs Z Y X V (by rw[W];omega);rw[qH _ _ (oK _ kx) (oK _ ky)] at this;exact this
mutual
theorem Vt:∀(A:ê) (x y:D) (b:Bool) (vx vy:Å),iP x y=some b->kd x=true->kd y=true->A.units+5*dep x+5<abz->KA s.heap x vx->KA s.heap y vy->Cm A s vx vy b
 |A,.int i,y,b,vx,vy,h,_,_,_,Z,Y=>by
  cases y with
  |int j =>
   cases h;obtain⟨t,rfl⟩:=Z;obtain⟨X,rfl⟩:=Y;exact λprog w E Q q=>Gj A s i t j X prog w E Q q
  |_=>cases h
 |A,.str i,y,b,vx,vy,h,_,_,_,Z,Y=>by
  cases y with
  |str j =>
   cases h;obtain⟨t,rfl⟩:=Z;obtain⟨X,rfl⟩:=Y;exact λprog w E Q q=>(PyProof.Rows.lt_str q:Û (ä prog w) A (Ě .Lt (.str i t) (.str j X)) Q E s)
  |_=>cases h
 |A,.tup U,y,b,vx,vy,h,W,ky,T,Z,Y=>by
  cases y with
  |tup S =>
   simp only[iP] at h;simp only[KA] at Z Y;obtain⟨a,o,its,n,rfl,R,P,O,r⟩:=Z;obtain⟨G,N,V,M,rfl,L,K,J,I⟩:=Y;simp only[dep] at T;simp only[kd] at W ky;exact λprog w E Q q=>Hv ⟨o,R,P,n,O⟩ ⟨N,L,K,M,J⟩ (λH F=>AQ H U S b _ _ h W ky (by omega) r I) (by omega) q
  |_=>cases h
 |_,.ar,_,_,_,_,_,k,_,_,_,_=>by cases k
 |_,.bl _,_,_,_,_,_,k,_,_,_,_=>by cases k
 |_,.lst _,_,_,_,_,_,k,_,_,_,_=>by cases k
 |_,.bQ _,_,_,_,_,_,k,_,_,_,_=>by cases k
 |_,.aj _,_,_,_,_,_,k,_,_,_,_=>by cases k
 |_,.ty _,_,_,_,_,_,k,_,_,_,_=>by cases k
 |_,.bO _,_,_,_,_,_,k,_,_,_,_=>by cases k
 |_,.exc _ _,_,_,_,_,_,k,_,_,_,_=>by cases k
 |_,.cD _ _ _,_,_,_,_,_,k,_,_,_,_=>by cases k
theorem AQ:∀(A:ê) (xs ys:List D) (b:Bool) (ps qs:List Å),i4 xs ys=some b->dF xs=true->dF ys=true->A.units+5*cH xs+5<abz->cW s.heap xs ps->cW s.heap ys qs->iW A s ps qs b
 |A,[],ys,b,ps,qs,h,_,_,_,V,Z=>by
  cases V
  cases ys with
  |nil=>cases h;cases Z;exact .nn
  |cons y ys=>cases h;obtain⟨v,r,rfl,_⟩:=Z;exact .nc _ _
 |A,x::xs,ys,b,ps,qs,h,Y,ky,T,V,Z=>by
  obtain⟨v,r,rfl,U,S⟩:=V
  cases ys with
  |nil=>cases h;cases Z;exact .cn _ _
  |cons y ys =>
   obtain⟨u,R,rfl,g1,g2⟩:=Z;simp only[dF,Æ] at Y ky;simp only[cH] at T;have Q:=aaB (dep x) (cH xs);have P:=ž (dep x) (cH xs);have X:=Vs (A:=A) Y.1 ky.1 (by omega) U g1;simp only[i4] at h;split at h
   ·rename_i W
    rw[W] at X;exact .eq X (AQ A xs ys b _ _ h Y.2 ky.2 (by omega) S g2)
   ·rename_i W
    rw[ż] at W;rw[W] at X;exact .lt X (Vt A x y b _ _ h Y.1 ky.1 (by omega) U g1)
end
end
section
variable {prog:ã} {w:Ă} {A:ê} {E:Å->Ä->Prop} {s:Ä}
def Oy (h:iW A s xs ys b):∀(i:Nat),fin=decide (xs.length<ys.length)->Q b s->KatLex prog w A t fin Q (xs.zip ys) (i+1) s:=by
 induction h with
 |nn=>intro i Z q;rw[Z];exact q
 |nc y ys=>intro i Z q;rw[Z];exact q
 |cn x xs=>intro i Z q;rw[Z];exact q
 |eq Y _ ih =>
  intro i Z q;rw[ę];exact kat_cons (Y prog w _ _ (kat_yes (ih (i+1) (by rw[Z];simp) q)))
 |lt Y X =>
  intro i Z q;rw[ę];refine kat_cons (Y prog w _ _ (kat_no ?_));rw[show (t&&(i+1==0))=false by simp];exact kat_one _ _ (X prog w _ _ q)
def Oz (hs:x=y->iW A s xs ys b) (hf:fin=decide (xs.length<ys.length)) (q:Q (if x=y then b else decide (x.cps.toList<y.cps.toList)) s) :
  KatLex prog w A true fin Q ((.str x t::xs).zip (.str y u::ys)) 0 s:=by
 rw[ę];refine kat_cons (wpAny_eqBool_str ?_);by_cases e:x=y
 ·rw[ß e] at q
  rw[á e];exact kat_yes (Oy (hs e) 0 hf q)
 ·rw[è e] at q
  rw[ó e];exact kat_no (oneLt_str q)
end
inductive Pg where
 |made (m d:Int) (h l:List Int)
 |bW (m d k:Int)
noncomputable def ti (l:List Int):D:=.tup (l.map D.int)
def Pg.d:Pg->D
 | .made m d h l=>.tup [.str "made",.int m,.int d,.tup [ti h,ti l]]
 | .bW m d k=>.tup [.str "mended",.int m,.int d,.int k]
def IF (h:ti a=ti b):a=b:=by
 injection h with h
 exact List.map_inj_right (λx y e=>by injection e) |>.mp h
def Pg.Vu {p q:Pg} (h:p.d=q.d):p=q:=by
 cases p<;>cases q<;>simp only[Pg.d,D.tup.injEq,ř,D.int.injEq,and_true,reduceCtorEq,and_false,false_and] at h
 ·obtain⟨_,Z,Y,X,W⟩:=h
  rw[Z,Y,IF X,IF W]
 ·obtain⟨_,Z,Y,X⟩:=h
  rw[Z,Y,X]
noncomputable def encL:List Int->List Int
 | []=>[0]
 |x::Z=>1::x::encL Z
def Pg.enc:Pg->List Int
 | .made m d h l=>0::m::d::(encL h++encL l)
 | .bW m d k=>[1,m,d,k]
theorem zD:∀{a b u v:List Int},encL a++u=encL b++v->a=b/\u=v
 | [],[],u,v,h=>by simpa [encL] using h
 | [],y::b,u,v,h=>by simp[encL] at h
 |x::a,[],u,v,h=>by simp[encL] at h
 |x::a,y::b,u,v,h=>by
  simp only[encL,ğ,ř,true_and] at h;obtain⟨Z,Y⟩:=zD h.2;exact⟨by rw[h.1,Z],Y⟩
def Pg.RD {p q:Pg} (h:p.enc=q.enc):p=q:=by
 cases p<;>cases q<;>simp only[Pg.enc,ř,and_true,true_and,reduceCtorEq,false_and,Int.reduceEq] at h
 ·obtain⟨Y,X,W⟩:=h
  have Z:=zD (u:=encL _++[]) (v:=encL _++[]) (by simpa using W);have V:=zD Z.2;rw[Y,X,Z.1,V.1]
 ·rw[h.1,h.2.1,h.2.2]
def bE:ST.Ord Pg where
 lt p q:=lexLt p.enc q.enc
 rZ p:=ST.Af _
 tr _ _ _ h g:=ST.TL _ _ _ h g
 vd _ _ h g:=Pg.RD (ST.RA _ _ h g)
theorem vJ:∀a b:List Int,dH (a.map D.int) (b.map D.int)=decide (a=b)
 | [],[]=>rfl
 | [],_::_=>rfl
 |_::_,[]=>rfl
 |x::a,y::b=>by
  simp only[Ý,dH,beq,vJ a b]
  by_cases e:x=y<;>simp[e]
theorem F5:∀a b:List Int,i4 (a.map D.int) (b.map D.int)=some (lexLt a b)
 | [],[]=>rfl
 | [],_::_=>rfl
 |_::_,[]=>rfl
 |x::a,y::b=>by
  simp only[Ý,i4,beq,iP,iR,F5 a b]
  by_cases e:x=y<;>simp[e]
theorem Ag:∀a b u v:List Int,lexLt (encL a++u) (encL b++v)=if a=b then lexLt u v else lexLt a b
 | [],[],u,v=>by simp[encL,iR]
 | [],y::b,u,v=>by simp[encL,iR];rfl
 |x::a,[],u,v=>by simp[encL,iR];rfl
 |x::a,y::b,u,v=>by
  simp only[encL,ğ,iR,ð,Ag a b u v,ř]
  by_cases e:x=y<;>simp[e]
def JL (p q:Pg):iP p.d q.d=some (bE.lt p q):=by
 have T:¬ ((Ā "made")=Ā "mended"):=by decide +kernel
 have S:¬ ((Ā "mended")=Ā "made"):=by decide +kernel
 have R:decide ((Ā "made").cps.toList<(Ā "mended").cps.toList)=true:=by decide +kernel
 have Q:decide ((Ā "mended").cps.toList<(Ā "made").cps.toList)=false:=by decide +kernel
 show _=some (lexLt p.enc q.enc)
 cases p with
 |made m d h l =>
  cases q with
  |made Z Y V X =>
   simp only[Pg.d,Pg.enc,iP,i4,beq,dH,ti,iR,vJ,F5,Ag,ā,ð,Bool.and_true];have:=Ag l X [] [];simp only[û] at this;rw[this]
   by_cases e1:m=Z<;>by_cases e2:d=Y<;>by_cases W:h=V<;>by_cases P:l=X<;>simp[e1,e2,W,P,ST.Af]
  |bW Z Y U=>simp only[Pg.d,Pg.enc,iP,i4,beq,iR,beq_iff_eq,T,R,é];simp
 |bW m d k =>
  cases q with
  |made Z Y V X=>simp only[Pg.d,Pg.enc,iP,i4,beq,iR,beq_iff_eq,S,Q,é];simp
  |bW Z Y U =>
   simp only[Pg.d,Pg.enc,iP,i4,beq,iR,ā,ð]
   by_cases e1:m=Z<;>by_cases e2:d=Y<;>by_cases W:k=U<;>simp[e1,e2,W,ST.Af]
def RE (l:List Int):dF (l.map D.int)=true:=by
 induction l with
 |nil=>rfl
 |cons x l ih=>simpa only [Ý,dF,kd,ü] using ih
def P2 (l:List Int):cH (l.map D.int)=0:=by
 induction l with
 |nil=>rfl
 |cons x l ih=>simp only[Ý,cH,dep,ih];rfl
def oT (p:Pg):kd p.d=true:=by
 have Z:ŵ "made"=true:=by decide +kernel
 have Y:ŵ "mended"=true:=by decide +kernel
 cases p<;>simp only[Pg.d,kd,dF,ti,RE,Z,Y,ī]
def qI (p:Pg):dep p.d<=3:=by
 cases p<;>simp only[Pg.d,dep,cH,ti,P2]<;>decide
def GD (p:Pg):∃(x:Str) (r:List D),p.d=.tup (.str x::r):=by
 cases p<;>exact⟨_,_,rfl⟩
def By {h:ĥ} {p:Pg} {v:Å} (q:KA h p.d v):∃(x:Str) (r:List D) (a:Ø) (o:Obj) (its:Array Å) (n:Nat) (t:Tok) (us:List Å),p.d=.tup (.str x::r)/\v=.ref a/\h.get? a=some o/\o.cls=.type "tuple"/\o.data=.seq its n/\its.toList=.str x t::us/\cW h r us/\dF r=true:=by
 obtain⟨x,r,e⟩:=GD p;have k:=oT p;rw[e] at q k;simp only[KA] at q;obtain⟨a,o,its,n,e1,Z,Y,X,u,us,e2,⟨t,W⟩,V⟩:=q;simp only[kd,dF,Æ] at k;exact⟨x,r,a,o,its,n,t,us,e,e1,Z,Y,X,by rw[e2,W],V,k.2⟩
section
variable {prog:ã} {w:Ă} {A:ê} {E:Å->Ä->Prop} {s:Ä}
def OA:∀{ps:List Pg} {us:List Å},cW s.heap (ps.map Pg.d) us->∃fs,KatTups s.heap us fs/\(∀v∈fs,∃x t,v=Value.str x t)/\fs.length=us.length:=by
 intro ps
 induction ps with
 |nil=>intro us h;cases h;exact⟨[],KatTups.nil,λv (hv:v∈[])=>(Ĉ hv).elim,rfl⟩
 |cons p ps ih =>
  intro us h;obtain⟨v,r,rfl,Z,Y⟩:=h;obtain⟨fs,X,W,V⟩:=ih Y;obtain⟨x,_,a,o,its,n,t,R,_,rfl,U,T,S,hi,_⟩:=By Z;refine⟨.str x t::fs,.cons U T S (by rw[<- Ĳ,hi];rfl) X,λv hv=>?_,by simp[V]⟩
  rcases Õ.mp hv with rfl|hv
  ·exact⟨x,t,rfl⟩
  ·exact W v hv
def kas_get:∀{ds:List D} {us:List Å},cW h ds us->∀i,i<us.length->KA h (ds.getD i .ar) (us.getD i Value.none):=by
 intro ds
 induction ds with
 |nil=>intro us h i hi;cases h;cases hi
 |cons d ds ih =>
  intro us h i hi;obtain⟨v,r,rfl,Z,Y⟩:=h
  cases i with
  |zero=>exact Z
  |succ i=>exact ih Y i (by simpa using hi)
def RF:∀{ds:List D} {us:List Å},cW h ds us->ds.length=us.length:=by
 intro ds
 induction ds with
 |nil=>intro us h;cases h;rfl
 |cons d ds ih=>intro us h;obtain⟨v,r,rfl,Y,Z⟩:=h;simp[ih Z]
def TX (hu:A.units+100<abz) (h1:KA s.heap p.d v) (h2:KA s.heap q.d u) (hC:C (bE.lt p q) s):Û (ä prog w) A (keyLt' (tuples' true) v u) C E s:=by
 obtain⟨x,r,a,o,its,n,t,N,e,rfl,W,M,V,hi,U,k⟩:=By h1;obtain⟨Z,T,L,K,Y,J,I,H,S,rfl,R,G,Q,X,P,O⟩:=By h2;have dl:=qI p;rw[e] at dl;simp only[dep,cH] at dl;have lt:=JL p q;rw[e,S] at lt;simp only[iP,i4] at lt;have be:beq (.str x) (.str Z)=true↔x=Z:=by simp[beq]
 refine kat_lt W V R Q ?_;rw[hi,X];refine Oz (b:=bE.lt p q) (λex=>?_) ?_ ?_
 ·rw[ß (be.mpr ex)] at lt
  exact AQ A r T _ _ _ lt k O (by have:=ž (0:Nat) (cH r);omega) U P
 ·simp[<- ø,hi,X]
 ·by_cases ex:x=Z
  ·rw[ß ex];exact hC
  ·rw[è λz=>ex (be.mp z)] at lt
   rw[è ex,abH lt];exact hC
def P4 {us:List Å} {ps:List Pg} (t:cW s.heap (ps.map Pg.d) us) (h2:2<=us.length) (hu:A.units+100<abz) (d:Pg):ST.xW prog w A bE (λi=>ps.getD i d) us s:=by
 obtain⟨fs,Z,Y,S⟩:=OA t;have X:=RF t;rw[É] at X;have at_:∀i,i<us.length->KA s.heap (ps.getD i d).d (us.getD i Value.none):=λi hi=>by
  have:=kas_get t i hi;rwa [show (ps.map Pg.d).getD i .ar=(ps.getD i d).d by simp[Ű,î,Ð (show i<ps.length by omega)]] at this
 unfold ST.xW;refine kat_kind (T:=.type "str") Z (by omega) (λv W=>?_) (by decide) ⟨rfl,λi j C hi V U=>?_⟩
 ·obtain⟨x,R,rfl⟩:=Y v W
  exact .of_pure rfl
 ·exact TX hu (at_ i hi) (at_ j V) U
end
end TK
namespace TK
open PySem PySem.W PyProof.Rows DI L2
open Classical in
def qT (xs:List D):Option D:=if h:∃Z:List Pg,xs=Z.map Pg.d then some (.lst ((ST.cK bE (Classical.choose h)).map Pg.d)) else none
def NI:∀{a b:List Pg},a.map Pg.d=b.map Pg.d->a=b:=λh=>List.map_inj_right (λ_ _ e=>Pg.Vu e) |>.mp h
def zE (ps:List Pg):qT (ps.map Pg.d)=some (.lst ((ST.cK bE ps).map Pg.d)):=by
 unfold qT;have h:∃Z:List Pg,ps.map Pg.d=Z.map Pg.d:=⟨ps,rfl⟩;rw[dif_pos h];have:=NI (Classical.choose_spec h);rw[<- this]
section
variable {X:Cx} {Ξ:Wd->aR->Prop}
def RG (ps:List Pg):dF (ps.map Pg.d)=true:=by
 induction ps with
 |nil=>rfl
 |cons p ps ih=>simp only[Ý,dF,oT,ih,ī]
end
section
variable {prog:ã} {w:Ă} {A:ê} {E:Å->Ä->Prop} {s:Ä}
end
section
variable {X:Cx} {Ξ:Wd->aR->Prop} {e:ġ} {te:TE} {pos p2 p4:Pos} {f:DI.abC D}
end
def Bz (f:DI.abC D):DI.abC D:=λenv s=>ao (f env s) λx s=>ao (truth x s) λb s=>ok (.bl (!b)) s
def TY (ha:PE X a (tE X.K Ξ f)):PE X (.UnaryOp .Not a pos) (tE X.K Ξ (Bz f)):=by
 rintro Y s σ H Q I ⟨w,env,rfl,S,U,h⟩;refine UnaryOp_ (aG (ha Y s σ w.H (λv W=>∃b,oW X.K v W b/\Q (.bl (!b)) W) I ⟨w,env,rfl,S,U,(Out.ao h).mono λE x D V T v R=>?_⟩) λv P ⟨x,O,N,M,b,L,J⟩=>?_)
 ·obtain⟨b,t,G⟩:=oW.of V R (Out.ao T)
  exact⟨b,t,aA V G _ rfl⟩
 ·refine not_of (Ĝ (Ib Y P σ O x v (λc Z=>Q (.bl (!c)) Z) N M ⟨b,L,J⟩) (λc C ⟨Z,F,q⟩=>⟨.bl (!c),Z,F,rfl,q⟩) λ_ _ z=>z)
end TK
namespace ST
open PySem PySem.Spec PyProof.Rows
section
variable {prog:ã} {w:Ă} {A:ê} {E:Å->Ä->Prop} {s:Ä}
end
end ST
namespace DI
open PySem L2
section
variable {X:Cx} {Ξ:Wd->aR->Prop}
end
section
variable {X:Cx} {Ξ:Wd->aR->Prop} {e o i:ġ} {pos nG:Pos} {f fo fi:abC D}
end
end DI
namespace L2
open PySem PySem.Spec PyProof.Rows
section
variable {X:Cx}
end
end L2
namespace DI
open PySem L2
section
variable {X:Cx} {Ξ:Wd->aR->Prop}
end
end DI
namespace L2
open PySem PySem.Spec PyProof.Rows
section
variable {X:Cx}
end
end L2
namespace DI
open PySem L2
section
variable {X:Cx} {Ξ:Wd->aR->Prop} {a:ġ} {pos:Pos} {f:abC D}
end
end DI
namespace L2
open PySem PySem.Spec PyProof.Rows
section
variable {X:Cx}
end
end L2
namespace DI
open PySem L2
section
variable {X:Cx} {Ξ:Wd->aR->Prop} {pos:Pos}
def ng (x y:D) (s:aa):Res D:=match res x s,res y s with
 | .lst Z,.lst Y=>if lp Z Y=true then ok (.aj s.length) (s++[.lst (Z++Y)]) else none
 |_,_=>none
def W3 {K:Ď} {w:Wd} {ds:List D} {vs:List V} {Q:VK} (S:aI K w) (ai:aq K w ds vs) (h:Out K Ξ w (ok (D.aj w.ay.length) (w.ay++[.lst ds])) λw' d=>∀v,DV K w' d v->Q v w'.H):∀p,w.H p=none->Q (.ref p) (upd w.H p (.lst vs)):=λp Z=>by
 have le:=(Fw.cell (K:=K) (o:=.lst vs) (c:=.lst ds) S Z).le;refine h (w.cell p (.lst vs) (.lst ds)) le (S.Br Z ⟨_,cx,le.all ai⟩) rfl (.ref p) ⟨p,?_,rfl⟩;show (w.ρ++[p])[w.ay.length]?=some p;rw[<- S.len];simp
def wN:bG X (ĺ .Add) (rO X.K Ξ ng):=by
 rintro W s σ H x y v u Q I V U ⟨w,M,L,rfl,S,T,R,h⟩;unfold ng at h;split at h
 ·rename_i J G e1 e2
  split at h
  ·rename_i P
   obtain⟨a,as,rfl,O,Z⟩:=gK S T e1;obtain⟨b,bs,rfl,N,Y⟩:=gK S R e2;exact Ig W s σ w.H _ _ v u Q I V U ⟨a,b,as,bs,rfl,rfl,O,N,by rw[<- Z.length,<- Y.length];exact ÿ P,W3 S (Z.append Y) h⟩
  ·exact h.elim
 ·exact h.elim
end
end DI
namespace L2
open PySem PySem.Spec PyProof.Rows
end L2
namespace DI
open PySem L2
section
variable {X:Cx} {Ξ:Wd->aR->Prop}
end
end DI
namespace L2
open PySem PySem.Spec PyProof.Rows
open AutoSeq1 (wpAny_loadPart')
section
variable {prog:ã} {w:Ă} {A:ê} {E:Å->Ä->Prop} {s:Ä}
end
section
variable {X:Cx}
end
end L2
namespace DI
open PySem L2
section
variable {X:Cx} {Ξ:Wd->aR->Prop} {a:ġ} {p pos:Pos} {fa:abC (List D)}
end
end DI
namespace L2
open PySem PySem.Spec PyProof.Rows
section
variable {X:Cx} {pos:Pos}
def Vv (i j k:Nat) (ta:TA):TS:=λD σ H=>ta σ H λZ Y=>∃v w u,Z=[v,w,u]/\D.nx (((σ.set i (some v)).set j (some w)).set k (some u)) Y
def vals3 (r:Vals [v,w,u] us):∃a b c,us=[a,b,c]/\RelV v a/\RelV w b/\RelV u c:=by
 cases r with
 |cons p q =>
  obtain⟨b,c,rfl,Z,Y⟩:=vals2 q;exact⟨_,b,c,rfl,p,Z,Y⟩
def RH {kt k2 iu} (hc:X.calm=true) (hN:X.N.Nodup) (hi:X.N[i]?=some x) (hj:X.N[j]?=some y) (hk:X.N[k]?=some z) (eQ:i≠j) (pQ:i≠k) (DN:j≠k)
 (hx:X.env.scope.names.lookup x=some .local) (hy:X.env.scope.names.lookup y=some .local) (hz:X.env.scope.names.lookup z=some .local) (ha:PA X [a,b,c] ta)
 (hw:ψ [.Tuple [.Name x px,.Name y py,.Name z pz] kt pt] (.Tuple [a,b,c] k2 iu) X.env=pure (some [x,y,z]))
 (hs:χ [.Tuple [.Name x px,.Name y py,.Name z pz] kt pt] (.Tuple [a,b,c] k2 iu) pos.line X.env=pure false) :
  PS X (.Assign [.Tuple [.Name x px,.Name y py,.Name z pz] kt pt] (.Tuple [a,b,c] k2 iu) pos) (Vv i j k ta):=by
 intro U s σ H D I h;rw[exec_Assign_arm];refine À (Ŷ ?_);rw[hs];refine À (Ã ?_);rw[è (by decide)];refine À (Tuple_ (aG (ha _ U s σ H _ I h) λB Z R=>?_));obtain⟨t,T,Q,P,v,w,u,e1,O⟩:=R;subst e1;obtain⟨Y,W,V,rfl,M,L,K⟩:=vals3 P;refine þ ?_ (by show 3<=Ú;decide)
 have J:Inv X U σ T { Z with heap:=Z.heap.push { cls:=.type "tuple",data:=.seq [Y,W,V].toArray } }:=Q.kept (t':=Z.toks) λb o e=>Á _ e
 rw[hw];refine À (Ã ?_)
 show Û (ä X.prog X.w) X.A (do rule "assign.swapped-stores";let items <- unpackItems (.ref Z.heap.objs.size) 3 none;aa7 [λv=>aaS X.env z v,λv=>aaS X.env y v,λv=>aaS X.env x v] items.reverse;pure Flow.next) _ _ _
 refine À (ş (À (unpackItems_tuple (items:=#[Y,W,V]) (I.ok.hd hc) (IsTup.new Z.heap _) λh' G=>?_)));have F:=J.kept (h':=h') (t':=Z.toks) λb o e=>G b o (â (Ë e)) e
 show Û _ _ (aa7 [λv=>aaS X.env z v,λv=>aaS X.env y v,λv=>aaS X.env x v] [V,W,Y] >>= λ_=>pure Flow.next) _ _ _
 refine À (ţ (aaT (lU F hN hk (.inl hz) K (λr E=>?_) (.inr hz))));refine ţ (aaT (lU E hN hj (.inl hy) L (λq C=>?_) (.inr hy)));refine ţ (aaT (lU C hN hi (.inl hx) M (λp S=>assignInOrder_nil (Ã ?_)) (.inr hx)));rw[List.set_comm _ _ (Ŭ DN),List.set_comm _ _ (Ŭ pQ),List.set_comm _ _ (Ŭ eQ)] at S;exact⟨_,T,S,O⟩
end
end L2
namespace DI
open PySem L2
section
variable {X:Cx} {Ξ:Wd->aR->Prop} {a b c:ġ} {pos:Pos} {fa:abC (List D)}
def Co (i j k:Nat) (fa:abC (List D)):abC Fl:=λenv s=>ao (fa env s) λZ s=>match Z with
 | [x,y,z]=>ok (.nx (((env.set i (some x)).set j (some y)).set k (some z))) s
 |_=>none
def TZ (i j k:Nat) {x y z:Str} {px py pz pt:Pos} {kt k2 iu} (hc:X.calm=true) (hN:X.N.Nodup) (ha:PA X [a,b,c] (tA X.K Ξ fa)) (hi:X.N[i]?=some x:=by rfl) (hj:X.N[j]?=some y:=by rfl) (hk:X.N[k]?=some z:=by rfl) (eQ:i≠j:=by decide) (pQ:i≠k:=by decide) (DN:j≠k:=by decide)
  (hx:X.env.scope.names.lookup x=some .local:=by rfl) (hy:X.env.scope.names.lookup y=some .local:=by rfl) (hz:X.env.scope.names.lookup z=some .local:=by rfl)
  (hw:ψ [.Tuple [.Name x px,.Name y py,.Name z pz] kt pt] (.Tuple [a,b,c] k2 iu) X.env=pure (some [x,y,z]):=by rfl)
  (hs:χ [.Tuple [.Name x px,.Name y py,.Name z pz] kt pt] (.Tuple [a,b,c] k2 iu) pos.line X.env=pure false:=by rfl) :
  PS X (.Assign [.Tuple [.Name x px,.Name y py,.Name z pz] kt pt] (.Tuple [a,b,c] k2 iu) pos) (tS X.K Ξ (Co i j k fa)):=jf (RH hc hN hi hj hk eQ pQ DN hx hy hz ha hw hs) λM σ H W=>by
 obtain⟨w,env,V,S,Y,h⟩:=W;subst V;refine⟨w,env,rfl,S,Y,(Out.ao h).mono λL J U T Z I R=>?_⟩;split at Z
 ·obtain⟨v,r,rfl,Q,dr⟩:=R
  obtain⟨u,t,rfl,P,O⟩:=oI dr;exact⟨v,u,t,rfl,aA T Z _ ((((Y.le U).set Q i).set P j).set O k)⟩
 ·exact Z.elim
end
def vB:List D->aa->Res D:=aN 2 2 (aM (ug (eB rg (af (eh 1 [1] (fe (ae 0)) (gN 0) gC (e2 eI (ae 0) (ae 1))) ah))))
def vD:List D->aa->Res D:=aN 1 3 (ax (aZ (iJ (gp (dY (eB cO (af (ae 0) (af (eC (.ty "tuple")) ah))))) (aU (e2 bP (eB cN (af (ae 0) ah)) (eC (.int 2))))) (aM (eC (.bl false))) bN) (ax (bt (ae 0) (gT [(gN 1),(gN 2)])) (aM (eD (aS sk (af (ae 1) ah)) (eD (aS sk (af (ae 2) ah)) (aS vB (af (ae 1) (af (ae 2) ah))))))))
def vE:List D->aa->Res D:=aN 1 1 (aM (aS qg (af (ae 0) (af (eC (.int (4))) ah))))
def vV:List D->aa->Res D:=aN 1 1 (aM (aS qg (af (ae 0) (af (eC (.int (31))) ah))))
def so:List D->aa->Res D:=aN 1 5 (ax (aZ (iJ (gp (dY (eB cO (af (ae 0) (af (eC (.ty "tuple")) ah))))) (aU (e2 bP (eB cN (af (ae 0) ah)) (eC (.int 4))))) (aM (eC (.bl false))) bN) (ax (bt (ae 0) (gT [(gN 1),(gN 2),(gN 3),(gN 4)])) (ax (aZ (iJ (gp (dY (aS vE (af (ae 2) ah)))) (gp (dY (aS vV (af (ae 3) ah))))) (aM (eC (.bl false))) bN) (ax (aZ (aU (e2 bq (ae 1) (eC (.str "made")))) (aM (aS vD (af (ae 4) ah))) bN) (aM (eD (e2 bq (ae 1) (eC (.str "mended"))) (aS sm (af (ae 4) ah))))))))
def vF:List D->aa->Res D:=aN 1 1 (aM (eD (eB cO (af (ae 0) (af (eC (.ty "tuple")) ah))) (eD (e2 ui (eB cN (af (ae 0) ah)) (eC (.int (24)))) (eD (eB pd (af (eh 1 [] (fe (ae 0)) (gN 0) gC (aS so (af (ae 0) ah))) ah)) (aS ot (af (ae 0) ah))))))
def mY:List D->aa->Res D:=aN 4 4 (aM (eh 1 [1,2,3] (fe (ae 0)) (gN 0) (fN (aU (e2 bq (e2 az (ae 0) (eC (.int 0))) (eC (.str "made")))) (fN (aU (e2 bq (e2 az (ae 0) (eC (.int 1))) (ae 1))) (aU (e2 eI (ae 2) (e2 az (e2 az (ae 0) (eC (.int 3))) (ae 3)))))) (e2 az (ae 0) (eC (.int 2)))))
def vv:List D->aa->Res D:=aN 3 3 (aM (eh 1 [1,2] (fe (ae 0)) (gN 0) (fN (aU (e2 bq (e2 az (ae 0) (eC (.int 0))) (eC (.str "mended")))) (fN (aU (e2 bq (e2 az (ae 0) (eC (.int 1))) (ae 1))) (aU (e2 bq (e2 az (ae 0) (eC (.int 3))) (ae 2))))) (e2 az (ae 0) (eC (.int 2)))))
def vp:List D->aa->Res D:=aN 3 3 (aM (eB rg (af (eh 1 [1,2] (fe (ae 0)) (gN 0) gC (uY lr ui (ae 1) (ae 0) (ae 2))) ah)))
def sr:List D->aa->Res D:=aN 3 5 (ax (bt (aS mY (af (ae 0) (af (ae 1) (af (ae 2) (af (eC (.int (1))) ah))))) (gN 3)) (ax (bt (aS vv (af (ae 0) (af (ae 1) (af (ae 2) ah)))) (gN 4)) (aM (Iw 2 [3,4] (fe (e1 qk (aS mY (af (ae 0) (af (ae 1) (af (ae 2) (af (eC (.int (0))) ah))))))) (gN 0) gC (yv (af (ae 0) (af (eC (.int (31))) ah))) (gN 1) (fN (iJ (aU (e2 eI (ae 1) (ae 2))) (fN (aU (e2 bq (ae 1) (ae 0))) (aU (e2 eI (ae 0) (ae 3))))) (gp (dY (aS vp (af (ae 3) (af (ae 0) (af (ae 1) ah))))))) (bZ (af (ae 0) (af (ae 1) ah)))))))
def vC:List D->aa->Res D:=aN 1 1 (aM (Iy 4 [0] (f9 (af (eC (.int (4))) ah)) (gN 0) gC (f9 (af (eC (.int (8))) ah)) (gN 1) gC (fe (aS sr (af (ae 4) (af (ae 0) (af (ae 1) ah))))) (gT [gN 2,gN 3]) gC (bZ (af (ae 0) (af (ae 1) (af (ae 2) (af (ae 3) ah)))))))
def su:List D->aa->Res D:=aN 1 1 (aM (eD (aS vF (af (ae 0) ah)) (TK.Bz (aS vC (af (ae 0) ah)))))
section
variable {X:Cx} {Ξ:Wd->aR->Prop} {a b:ġ} {pos:Pos} {fa:abC (List D)}
end
noncomputable def notStar:ġ->Bool
 | .Starred ..=>false
 |_=>true
def RJ (h:notStar e=true):Ê (e::es) env=(false,ĩ e env)::Ê es env:=by
 cases e<;>first|rfl|cases h
section
variable {X:Cx} {Ξ:Wd->aR->Prop} {e:ġ} {es:List ġ} {f:abC D} {fa:abC (List D)} {pos:Pos}
def RK (ha:PE X e (tE X.K Ξ f)) (hr:PA X es (tA X.K Ξ fa)) (h:notStar e=true):PA X (e::es) (tA X.K Ξ (af f fa)):=ba ha hr (RJ h)
end
section
variable {X:Cx} {Ξ:Wd->aR->Prop} {pos:Pos}
end
end DI
namespace L2
open PySem
def cg {α:Type}:Sem α->Prop
 | .pure _=>True
 | .raise _=>True
 | .unsupported _=>True
 | .finish _=>True
 | .rule _ k=>cg (k ())
 | .at _ k=>cg (k ())
 | .load _ _ k=>∀o,cg (k o)
 | .update _ _ f k=>(∀o,(f o).dict=o.dict)/\cg (k ())
 | .loadIfAlive _ k=>∀o,cg (k o)
 | .point _ k=>cg (k ())
 | .register _ _=>True
 | .alloc _ k=>∀a,cg (k a)
 | .fresh k=>∀t,cg (k t)
 | .ask k=>∀t,cg (k t)
 | .choose _ _ k=>∀n,cg (k n)
 | .os _ _ k=>∀r,cg (k r)
 | .call ..=>False
 | .handled _ k=>∀v,cg (k v)
 | .genState _ k=>∀v,cg (k v)
 | .newGen _ k=>∀v,cg (k v)
 | .resume ..=>False
 | .yield ..=>True
 | .stack k=>∀v,cg (k v)
 | .fork ..=>True
 | .thread k=>∀v,cg (k v)
 | .await ..=>True
def Dk (h0 h:ĥ):Prop:=h0.objs.size<=h.objs.size/\∀b o,h0.get? b=some o->∀Z,h.get? b=some Z->Z.dict=o.dict
def Dk.refl (h:ĥ):Dk h h:=⟨abG _,λb o e Y Z=>by rw[e] at Z;cases Z;rfl⟩
theorem Dk.push {h0 h:ĥ} (k:Dk h0 h) (o:Obj):Dk h0 (h.push o):=by
 refine⟨à k.1 (by rw[ă];exact aaf _),λb p e X W=>k.2 b p e X ?_⟩;have Z:=È (Ë e) k.1;obtain⟨Y,V⟩:=aaC.mp W;refine aaC.mpr ⟨?_,V⟩;have:(h.push o).objs[b]?=h.objs[b]?:=by
  show (h.objs.push o)[b]?=_;rw[Array.getElem?_push_lt Z,Array.getElem?_eq_getElem Z]
 rw[this] at Y;exact Y
def Dk.upd {h0 h:ĥ} (k:Dk h0 h) {a:Ø} {f:Obj->Obj} (hf:∀o,(f o).dict=o.dict) (ha:(h.get? a).isSome):Dk h0 (h.update a f):=by
 refine⟨by rw[Heap.size_update];exact k.1,λb p e Y X=>?_⟩;by_cases U:b=a
 ·subst U
  obtain⟨W,e1⟩:=aak.mp ha;have T:=k.2 b p e W e1;obtain⟨Z,S⟩:=aaC.mp X;obtain⟨V,R⟩:=aaC.mp e1;have:Y=f W:=by
   obtain⟨objs,l⟩:=h;have Z:(objs.modify b f)[b]?=some Y:=Z;have V:objs[b]?=some W:=V;rw[Array.getElem?_modify,ß rfl,V] at Z;exact(abH Z).symm
  rw[this,hf,T]
 ·rw[aai _ _ _ _ U] at X
  exact k.2 b p e Y X
def P5 {α:Type} (M:Model) (Γ:Ctx) (t:Sem α):∀{Q:α->Pos->Ä->Prop} {E:Å->Pos->Ä->Prop} {p:Pos} {s:Ä},cg t->ſ M Γ t Q E p s->∀{h0:ĥ},Dk h0 s.heap ->
  ſ M Γ t (λa p' s'=>Q a p' s'/\Dk h0 s'.heap) (λe p' s'=>E e p' s'/\Dk h0 s'.heap) p s:=by
 induction t with
 |pure a=>intro Q E p s d h h0 k;rw[ſ] at h |-;exact⟨h,k⟩
 |raise e=>intro Q E p s d h h0 k;rw[ſ] at h |-;exact⟨h,k⟩
 |unsupported w=>intro Q E p s d h h0 k;rw[ſ] at h;exact h.elim
 |finish w=>intro Q E p s d h h0 k;rw[ſ] at h;exact h.elim
 |rule t Z ih=>intro Q E p s d h h0 k;rw[ſ] at h |-;exact ih () d h k
 | «at» t Z ih=>intro Q E p s d h h0 k;rw[ſ] at h |-;exact ih () d h k
 |load a pt Z ih=>intro Q E p s d h h0 k;rw[ſ] at h |-;obtain⟨o,e,h⟩:=h;exact⟨o,e,ih o (d o) h k⟩
 |loadIfAlive a Z ih=>intro Q E p s d h h0 k;rw[ſ] at h |-;exact ih _ (d _) h k
 |point a Z ih=>intro Q E p s d h h0 k;rw[ſ] at h |-;exact ih () d h k
 |register a Z ih=>intro Q E p s d h h0 k;rw[ſ] at h;exact h.elim
 |fresh Z ih=>intro Q E p s d h h0 k;rw[ſ] at h |-;exact ih _ (d _) h k
 |ask Z ih=>intro Q E p s d h h0 k;rw[ſ] at h |-;exact ih _ (d _) h k
 |choose a n Z ih=>intro Q E p s d h h0 k;rw[ſ] at h |-;exact⟨h.1,ih _ (d _) h.2 k⟩
 |os a n Z ih=>intro Q E p s d h h0 k;rw[ſ] at h |-;exact ih _ (d _) h k
 |call a b c n Z ih=>intro Q E p s d h h0 k;exact ď d
 |handled a Z ih=>intro Q E p s d h h0 k;rw[ſ] at h |-;exact ih _ (d _) h k
 |genState a Z ih=>intro Q E p s d h h0 k;rw[ſ] at h |-;obtain⟨o,e,h⟩:=h;exact⟨o,e,ih _ (d _) h k⟩
 |newGen a Z ih=>intro Q E p s d h h0 k;rw[ſ] at h |-;exact ih _ (d _) h k
 |resume a b c Z ih=>intro Q E p s d h h0 k;exact ď d
 |yield a b c Z ih=>intro Q E p s d h h0 k;rw[ſ] at h;exact h.elim
 |stack Z ih=>intro Q E p s d h h0 k;rw[ſ] at h |-;exact ih _ (d _) h k
 |fork a Z ih=>intro Q E p s d h h0 k;rw[ſ] at h;exact h.elim
 |thread Z ih=>intro Q E p s d h h0 k;rw[ſ] at h |-;exact ih _ (d _) h k
 |await a b c e Z ih=>intro Q E p s d h h0 k;rw[ſ] at h;exact h.elim
 |alloc o Z ih=>intro Q E p s d h h0 k;rw[ſ] at h |-;exact ih _ (d _) h (k.push o)
 |update a pt f Z ih=>intro Q E p s d h h0 k;rw[ſ] at h |-;exact⟨h.1,ih () d.2 h.2 (k.upd d.1 h.1)⟩
def vW {α:Type} {M:Model} {A:ê} {t:Sem α} {Q:α->Ä->Prop} {E:Å->Ä->Prop} {s:Ä} (d:cg t) (h:Û M A t Q E s):Û M A t (λa s'=>Q a s'/\Dk s.heap s'.heap) (λe s'=>E e s'/\Dk s.heap s'.heap) s :=
 fun Z p i=>P5 M Z t d (h Z p i) (Dk.refl _)
def fk {α β:Type} {t:Sem α} {f:α->Sem β} (h:cg t) (g:∀a,cg (f a)):cg (t >>= f):=by
 show cg (t.bind f)
 induction t with
 |pure a=>exact g a
 |raise e=>trivial
 |unsupported w=>trivial
 |finish w=>trivial
 |rule t k ih=>exact ih () h
 | «at» t k ih=>exact ih () h
 |load a p k ih=>exact λo=>ih o (h o)
 |loadIfAlive a k ih=>exact λo=>ih o (h o)
 |point a k ih=>exact ih () h
 |register a k ih=>trivial
 |fresh k ih=>exact λo=>ih o (h o)
 |ask k ih=>exact λo=>ih o (h o)
 |choose a n k ih=>exact λo=>ih o (h o)
 |os a n k ih=>exact λo=>ih o (h o)
 |call a b c n k ih=>exact h.elim
 |handled a k ih=>exact λo=>ih o (h o)
 |genState a k ih=>exact λo=>ih o (h o)
 |newGen a k ih=>exact λo=>ih o (h o)
 |resume a b c k ih=>exact h.elim
 |yield a b c k ih=>trivial
 |stack k ih=>exact λo=>ih o (h o)
 |fork a k ih=>trivial
 |thread k ih=>exact λo=>ih o (h o)
 |await a b c e k ih=>trivial
 |alloc o k ih=>exact λo=>ih o (h o)
 |update a p f k ih=>exact⟨h.1,ih () h.2⟩
def vX (v:Å) (i:Nat):cg (field v i):=by
 unfold field fieldsOf;refine fk ?_ λa=>?_
 ·cases v with
  |ref a =>
   refine fk (λo=>trivial) λo=>?_
   split<;>trivial
  |_=>trivial
 ·split<;>trivial
def P6 (g:Array Å->Array Å) (o:Obj):(Obj.mapFields g o).dict=o.dict:=by
 unfold Obj.mapFields
 split<;>rfl
def AR (v:Å) (i:Nat) (x:Å):cg (setField v i x):=by
 unfold setField
 cases v with
 |ref a =>
  show cg (updateField a i x);unfold updateField;refine fk (λo=>trivial) λo=>?_;split
  ·split
   ·exact⟨P6 _,trivial⟩
   ·trivial
  ·trivial
 |_=>trivial
def T4 (ty:String) (vs:List Å):cg (newFields ty vs):=by
 show cg (if vs.toArray.size > Ú+2 then _ else newObjAsIs (.type ty) (.fields vs.toArray))
 split
 ·trivial
 ·exact λ_=>trivial
def zk (e:Å) (f:Option Ø):cg (setFlight e f):=by
 unfold setFlight;refine fk (vX _ _) λa=>?_;split
 ·exact AR _ _ _
 ·trivial
theorem GF:∀l:List PySem.Env,cg (readyFrames l)
 | []=>trivial
 |env::outer=>by
  unfold readyFrames;split
  ·refine fk (λo=>trivial) λo=>?_
   split
   ·trivial
   ·refine fk ?_ λb=>fk ?_ λv=>fk ⟨λ_=>rfl,trivial⟩ λ_=>GF outer
    ·unfold behindIsImport
     split
     ·trivial
     ·split
      ·trivial
      ·exact fk (vX _ _) λ_=>trivial
    ·cases outer with
     |nil =>
      show cg (if (env.scope.isGenerator||env.scope.isCoroutine)=true then pure Value.none else _)
      split
      ·trivial
      ·exact λ_=>trivial
     |cons _ _=>trivial
  ·trivial
def P7 (env:PySem.Env):cg (frameOf env):=by
 unfold frameOf frameEnvs;refine fk (λ_=>trivial) λl=>fk ?_ λr=>?_
 ·generalize l.dropWhile _=Z
  cases Z with
  |nil=>trivial
  |cons a r=>exact fk (GF _) λ_=>trivial
 ·split<;>trivial
def P8 (f:Ø) (b:Bool):cg (entryPlaceOf f b):=by
 unfold entryPlaceOf;refine fk (λ_=>trivial) λa=>?_
 split<;>trivial
def HC (e:Å) (env:PySem.Env):cg (noteFrame e env):=by
 unfold noteFrame;split
 ·refine fk (vX _ _) λZ=>?_
  rename_i L _;have jp:cg (frameOf env >>= λf=>entryPlaceOf L (Z != Value.none) >>= λY=>EntryCells.newEntry Z f Value.none (ZX L) Value.none Y >>= λb=>setField e 1 b) :=
   fk (P7 env) λf=>fk (P8 _ _) λY=>fk (T4 _ _) λb=>AR _ _ _
  show cg (if (Z != Value.none)=true then _ else _)
  split
  ·refine fk (vX _ _) λx=>?_
   split
   ·trivial
   ·exact fk (AR _ _ _) λ_=>jp
  ·exact jp
 ·trivial
def P9 (env:PySem.Env) (e:Å):cg (leaving env e):=by
 unfold leaving;exact fk (HC e env) λ_=>zk _ _
open PySem.Spec PyProof.Rows
structure lP (P:ã) (w:Ă) (outer:List Env) (H:Hp) (s:Ä) (H':Hp) (B:ĥ) (a:Ø) (cls a0:Å) (h:ĥ):Prop where
 fl:aa0 B outer a cls a0 h
 old:∀b o,s.heap.get? b=some o->H b=none->b∉ck outer->B.get? b=some o
 there:∀b o,s.heap.get? b=some o->b∉ck outer->∃o',B.get? b=some o'
 slot:∀b o,s.heap.get? b=some o->b∈ck outer->∃sl,h.get? b=some { o with slots:=sl }
 aB:cm P w H' B
 free:∀b o,s.heap.get? b=some o->H b=none->H' b=none
 fx:∀b xs,H b=some (.tup xs)->H' b=some (.tup xs)
 ei:∀b o u,H b=some (.aX o u)->H' b=some (.aX o u)
 fy:∀b ps,H b=some (.dD ps)->∃more,H' b=some (.dD (ps++more))
def Dm (h:ĥ) (a:Ø) (m:Option Ø):Prop:=∀Z,m=some Z->∃o,h.get? a=some o/\o.dict=some Z
def Dm.ar (h:ĥ) (a:Ø):Dm h a none:=λ_ z=>by cases z
def Dm.on {h h':ĥ} {a:Ø} {m:Option Ø} (x:Dm h a m) (k:Dk h h') (t:∃o,h'.get? a=some o):Dm h' a m:=λX e=>by
 obtain⟨o,e1,e2⟩:=x X e;obtain⟨Z,Y⟩:=t;exact⟨Z,Y,(k.2 a o e1 Z Y).trans e2⟩
def eR (P:ã) (w:Ă):i7:=λouter H s E e Z=>∃a cls X Y B m,e=.ref a/\Z.os=s.os/\aby Z.gens/\lP P w outer H s Y B a cls X Z.heap/\Dm Z.heap a m/\E cls m Y
section
variable {P:ã} {w:Ă} {outer:List Env} {H H':Hp} {s:Ä} {B h h':ĥ} {a:Ø} {cls a0:Å}
def lP.un (F:lP P w outer H s H' B a cls a0 h):Un (ck outer) [] H H' s.heap h where
 keep:=λb o e n Z _=>F.fl.1 b o (F.old b o e n Z)
 slot:=λb o e n Z _=>F.slot b o e Z
 free:=λb o e n _=>F.free b o e n
 there:=λb o e _=>by
  by_cases Z:b∈ck outer
  ·obtain⟨X,q⟩:=F.slot b o e Z
   exact⟨_,q⟩
  ·obtain⟨Y,q⟩:=F.there b o e Z
   exact⟨Y,F.fl.1 b Y q⟩
 fx:=F.fx
 ei:=F.ei
 fy:=F.fy
def lP.held (F:lP P w outer H s H' B a cls a0 h):cm P w H' h:=F.aB.kept λb o e=>F.fl.1 b o e
def lP.on (F:lP P w outer H s H' B a cls a0 h) (hf:aa0 B outer a cls a0 h') (hs:h.UpToSlots h'):lP P w outer H s H' B a cls a0 h' :=
 { F with
  fl:=hf
  slot:=λb o e Z=>by
   obtain⟨U,q⟩:=F.slot b o e Z;obtain⟨_,T,Y,X⟩:=F.fl.2.2.1.mem Z;rw[q] at Y;cases Y;obtain⟨W,V⟩:=hs b _ q X;exact⟨W,V⟩ }
def dB.Vw {o:HO} (x:dB P w H h a o):∃ob,h.get? a=some ob:=by
 cases o with
 |lst Z=>obtain⟨_,_,_,_,e⟩:=x;exact⟨_,e⟩
 |tup Z=>obtain⟨_,_,_,ob,e,_⟩:=x;exact⟨ob,e⟩
 |dK Y=>obtain⟨_,_,_,_,o,_,_,e,_⟩:=x;exact⟨_,e⟩
 |dT Y=>obtain⟨_,_,_,_,o,_,_,e,_⟩:=x;exact⟨_,e⟩
 |set S n=>obtain⟨o,_,_,_,e,_⟩:=x;exact⟨_,e⟩
 |ins C X fs=>obtain⟨_,_,_,e,_⟩:=x;exact⟨_,e⟩
 |own y=>exact x
 |xd fs=>obtain⟨_,⟨_,_,_,e,_⟩,_⟩:=x;exact⟨_,e⟩
 |dw lo hi=>obtain⟨_,_,_,e⟩:=x;exact⟨_,e⟩
 |aX ob u=>obtain⟨e,_⟩:=x;exact⟨_,e⟩
 |dD W=>exact⟨_,x⟩
 |met f y=>exact⟨_,x⟩
 |ext V=>obtain⟨_,e,_⟩:=x;exact e
def lP.new (F:lP P w outer H s H' B a cls a0 h):H' a=none:=by
 cases e:H' a with
 |none=>rfl
 |some o =>
  obtain⟨Y,Z⟩:=(F.aB a o e).Vw;rw[F.fl.2.1] at Z;cases Z
end
structure Lv (X:Cx) (E:XK):Prop where
 xe:X.xe=λe s'=>Û (ä X.prog X.w) X.A (leaving X.env e) (λ_ i8=>eR X.prog X.w X.outer X.lg X.cL E e i8) (λe' i8=>eR X.prog X.w X.outer X.lg X.cL E e' i8) s'
 lA:X.stack=X.env::X.outer
 fr:X.env.frame=some X.env.locals
 ex:X.ex=[]
section
variable {X:Cx} {E:XK} {π:List (Ø×Obj)} {σ:St} {H:Hp} {s:Ä}
def Inv.wO (I:Inv X π σ H s) (L:Lv X E) {b:Ø} {o:Obj} (e:X.cL.heap.get? b=some o) (hb:b∉ck X.outer):b∉ck X.stack:=λz=>by
 rcases Õ.mp (I.jO b z) with q|q
 ·exact absurd (Ë e) (by rw[q];exact Nat.not_lt.mpr I.ok.above)
 ·exact hb q
def zF (L:Lv X E) {b:Ø} (hb:b∈ck X.outer):b∈ck X.stack:=by
 rw[L.lA];unfold ck;rw[aad,L.fr];exact Ó _ hb
def ma (L:Lv X E):Passes (eR X.prog X.w) X E:=by
 intro π σ H s e S I h;obtain⟨a,cls,R,M,B,m,rfl,os,bare,F,K,q⟩:=h;rw[L.xe];have fl:=F.fl;rw[L.lA] at fl
 refine Ĝ (vW (P9 _ _) (wpAny_leaves_onW (E:=λ_ _=>False) (Q:=λ_ P=>∃Y,P={ S with heap:=Y }/\aa0 B X.outer a cls R Y/\S.heap.UpToSlots Y) (by rw[I.ok.frames,L.lA]) L.fr fl λY V U=>⟨Y,rfl,V,U⟩)) (λ_ P z=>?_) λ_ _ z=>z.1.elim
 obtain⟨⟨Y,rfl,V,U⟩,J⟩:=z
 refine⟨a,cls,R,M,B,m,rfl,os.trans I.os,bare,⟨V,λb o e n Z=>?_,λb o e Z=>?_,λb o e Z=>?_,F.aB,λb o e n=>?_,λb O e=>F.fx b O (I.base.fx b O e),λb o u e=>F.ei b o u (I.base.ei b o u e),λb G e=>?_⟩,K.on J (let ⟨o,e,_⟩:=V.there;⟨o,e⟩),q⟩
 ·exact F.old b o (I.base.keep b o e n Z (by rw[L.ex];simp)) (I.base.free b o e n (by rw[L.ex];simp)) (I.wO L e Z)
 ·obtain⟨T,W⟩:=I.base.there b o e (by rw[L.ex];simp)
  exact F.there b T W (I.wO L e Z)
 ·obtain⟨v,W⟩:=I.base.slot b o e (I.ok.km b Z) Z (by rw[L.ex];simp)
  obtain⟨t,e2⟩:=F.slot b _ W (zF L Z);obtain⟨_,r,N,D⟩:=F.fl.2.2.1.mem (zF L Z);rw[e2] at N;cases N;obtain⟨C,A⟩:=U b _ e2 D;exact⟨C,A⟩
 ·obtain⟨T,W⟩:=I.base.there b o e (by rw[L.ex];simp)
  exact F.free b T W (I.base.free b o e n (by rw[L.ex];simp))
 ·obtain⟨y,e1⟩:=I.base.fy b G e
  obtain⟨x,e2⟩:=F.fy b _ e1;exact⟨y++x,by rw[e2,Array.append_assoc]⟩
def NJ (L:Lv X E) (I:Inv X π σ H s) {h1:ĥ} {e:Ø} {cls:Å} {us:List Å} (hm:Heap.MadeExcOf s.heap h1 e cls us) (q:E cls none H):X.xe (.ref e) { s with heap:=h1 }:=by
 rw[L.xe];have V:=I.stack;have U:∀b u,H b=some u->b∉ck X.stack:=λb u e z=>by rw[I.sF b z] at e;cases e
 refine wpAny_leaves_madeW (base:=PySem.W.hideAll s.heap (ck X.stack)) (h:=s.heap) (env:=X.env) (outer:=X.outer) (by rw[I.ok.frames,L.lA]) L.fr (λb o e=>PySem.W.of_hideAll _ e) ?_ hm λJ t S _ _ R=>⟨e,cls,_,H,PySem.W.hideAll s.heap (ck X.stack),none,rfl,I.os,I.bare,⟨S,λb o e n Z=>?_,λb o e Z=>?_,λb o e Z=>?_,λb u e=>?_,λb o e n=>I.base.free b o e n (by rw[L.ex];simp),I.base.fx,I.base.ei,I.base.fy⟩,Dm.ar _ _,q⟩
 ·rw[<- L.lA]
  refine PySem.W.funFrames_hide V λenv Q a P=>?_;unfold ck;exact aaq.mpr ⟨env,Q,P⟩
 ·exact aac _ (I.base.keep b o e n Z (by rw[L.ex];simp)) (I.wO L e Z)
 ·obtain⟨O,Y⟩:=I.base.there b o e (by rw[L.ex];simp)
  exact⟨O,aac _ Y (I.wO L e Z)⟩
 ·obtain⟨G,Y⟩:=I.base.slot b o e (I.ok.km b Z) Z (by rw[L.ex];simp)
  obtain⟨_,F,T,N⟩:=V.mem (zF L Z);rw[Y] at T;cases T;obtain⟨M,K⟩:=R b _ (hm.keeps b _ Y) N;exact⟨M,K⟩
 ·refine(I.aB b u e).dW (λc v hc z=>aac _ z ?_) (λ_ z=>z) λ_ _ z=>z
  rcases hc with rfl|hc
  ·exact U c _ e
  ·exact U c _ hc
def T5 (X:Cx) (M:Mod X.K X.mg X.base) {x:Str} {C:Ø} {p6:List Å} {newId:String} (eC:õ X.K Ò x=some (some (.ref C))) (qC:abA X.K C p6 newId=true):OwnCls x C p6 newId X.mg X.base:=by
 have KB:=M.jz;refine⟨ŀ KB M.glob eC,?_⟩;unfold abA at qC;split at qC
 case h_2=>cases qC
 rename_i P cd Y O;split at qC
 case h_2=>cases qC
 rename_i H bm V a1 a2 U nw T S hs;simp only[Æ,beq_iff_eq,Ĵ] at qC;obtain⟨⟨⟨⟨⟨N,L⟩,R⟩,J⟩,Z⟩,Q⟩:=qC;subst N L;cases cd;dsimp only at S R Z Q;subst S R;have I:Y=#[V,a1,a2,U,some (.builtin nw),T]:=by cases Y;simp only at hs;rw[hs]
 subst I;exact⟨bm,_,_,_,_,_,_,_,_,_,P,V,a1,a2,U,T,_,KB _ _ O,.of_isNs (PySem.W.isNs_of_in KB Z),PySem.W.nsMap_none_of_in KB Z Q,PySem.W.tail_of_in KB J⟩
def Qa {x:Str} {C:Ø} {p6:List Å} {B newId IG:String} {np bj pos:Pos} {mE:ġ} {rest:List ġ} {t:TA} (L:Lv X E) (eC:õ X.K Ò x=some (some (.ref C))) (qC:abA X.K C p6 newId=true) (FB:ExcBaseFacts B newId IG p6) (hc:X.calm=true) (hg:Gl X x) (ha:PA X (mE::rest) t) (hd:(x==("__debug__":Str))=false:=by decide)
  (he:Ê (mE::rest) X.env=(false,ĩ mE X.env)::Ê rest X.env:=by rfl) (jP:(ħ bj (Ê rest X.env)).any (·.1)=false:=by rfl) :
  PS X (.Raise (some (.Call (.Name x np) (mE::rest) [] bj)) none pos) (λ_ σ H=>t σ H λvs H1=>vs.length<=Ú/\E (.ref C) none H1):=by
 intro π s σ H D I h;have O:OwnCls x C p6 newId X.mg X.base:=T5 X I.ok.mod eC qC;obtain⟨W,N,nm,q,bs,hdct,sn,sub,ab,col,dd,k0,k1,k2,k3,k5,mN,V,U,S,T⟩:=O.obj;refine wpAny_Raise_call_subT (C:=C) (nm:=nm) (q:=q) (N:=N) (bs:=bs) (bm:=W) (hdct:=hdct) (sn:=sn) (sub:=sub) (ab:=ab) (col:=col) (dd:=dd) (k0:=k0) (k1:=k1) (k2:=k2) (k3:=k3) (k5:=k5)
  FB (mN:=mN) (T.hasType FB.hasBase) (I.ok.hd hc) (by rw[he];show (false||(ħ bj (Ê rest X.env)).any (·.1))=false;rw[jP];rfl) S (oy I hg O.bound ⟨rfl,?_⟩ hd)
 have Y:=ha bj π s σ H _ I h;rw[he] at Y |-;refine Calls.evalArgs_plain (aG Y λP M ⟨vs,H1,Z,r,z,R⟩=>⟨rfl,by rw[<- r.length];exact z,Z.bk _ _ V,U.keeps Z.bk,T.keeps Z.bk,λJ e Q=>?_⟩);exact NJ L Z Q R
end
end L2
namespace DI
open PySem L2
abbrev GG (K:Ď) (mg:Str->Option Å) (x:Str) (st:aaX) (ps:List Str):Prop:=∃f fd,Gd K mg x st ps f fd
abbrev cR (P:ã) (w:Ă) (K:Ď) (mg:Str->Option Å) (base:ĥ) (x:Str) (st:aaX) (ps:List Str) (k:Nat) (fn:List D->aa->Res D):Prop:=∀{f:Ø} {fd:Ė},Gd K mg x st ps f fd->cB P w K mg base dA k f fd ps (jF K fn)
noncomputable def nI (N ps:List Str) (sc:ι):Bool:=decide (sc.kind=.function)&&!sc.isCoroutine&&!sc.isGenerator&&decide N.Nodup&&decide (N.take ps.length=ps)&&ps.all (λx=>decide (sc.names.lookup x=some .local\/sc.names.lookup x=some .cell))&&sc.names.all (λy=>decide (y.2≠.free))
def jh (h:nI N ps sc=true):oz N ps sc:=by
 unfold nI at h;simp only[Æ,Ĵ,Ì,ë] at h;obtain⟨⟨⟨⟨⟨⟨Z,Y⟩,X⟩,W⟩,V⟩,U⟩,T⟩:=h;exact⟨Z,Y,X,W,V,U,T⟩
def cZ (G:Gd K mg x st ps f fd) (N:List Str) (S:nI N ps (bX st)=true)
 (hb:N.Nodup->∀(aO:Å) (A:ê) (outer:List PySem.Env) (s:Ä) (H:Hp) (E:XK),bp k (A.deeper (į x (bX st) s.heap.objs.size f aO))->cP (gr dA P w K mg base N x (bX st) f aO A outer s H E).mK (fH st) (tS K bR b)) :
  cB P w K mg base dA (k+1) f fd ps (jF K (aN ps.length N.length b)):=Jt G.fn (jh S) (hb (jh S).nd)
section
variable {X:Cx} {Ξ:Wd->aR->Prop} {e a b c tg el src:ġ} {es rest tests:List ġ} {pos:Pos} {f g h:abC D} {fa:abC (List D)} {ft gt:abC Bool}
def bu {k n:Nat} {x:Str} {st:aaX} {ps:List Str} {fn:List D->aa->Res D} {p:Pos} (G:GG X.K X.mg x st ps) (F:cR X.prog X.w X.K X.mg X.base x st ps k fn) (hr:bp n X.A) (ha:PA X (e::es) (tA X.K Ξ fa)) (hk:k<=n:=by decide) (hg:Gl X x:=by rfl) (dh:(x==("__debug__":Str))=false:=by decide)
  (he:Ê (e::es) X.env=(false,ĩ e X.env)::Ê es X.env:=by rfl) (bH:(ħ pos (Ê es X.env)).any (·.1)=false:=by rfl):PE X (.Call (.Name x p) (e::es) [] pos) (tE X.K Ξ (aS fn fa)):=by
 obtain⟨f,fd,G⟩:=G;exact AF (F G) (hr.mono hk) hg G.mg G.fn.kp G.b ha dh he bH
def aL (ha:PE X a (tE X.K Ξ f)) (hs:Ê [a] X.env=(false,ĩ a X.env)::Ê [] X.env:=by rfl):PA X [a] (tA X.K Ξ (af f ah)):=ba ha dU hs
def aP (ha:PE X a (tE X.K Ξ f)) (hb:PE X b (tE X.K Ξ g)) (h1:Ê [a,b] X.env=(false,ĩ a X.env)::Ê [b] X.env:=by rfl) (h2:Ê [b] X.env=(false,ĩ b X.env)::Ê [] X.env:=by rfl):PA X [a,b] (tA X.K Ξ (af f (af g ah))):=ba ha (ba hb dU h2) h1
def ji (ha:PE X a (tE X.K Ξ f)) (hb:PE X b (tE X.K Ξ g)) (hc:PE X c (tE X.K Ξ h)) (h1:Ê [a,b,c] X.env=(false,ĩ a X.env)::Ê [b,c] X.env:=by rfl) (h2:Ê [b,c] X.env=(false,ĩ b X.env)::Ê [c] X.env:=by rfl) (h3:Ê [c] X.env=(false,ĩ c X.env)::Ê [] X.env:=by rfl):PA X [a,b,c] (tA X.K Ξ (af f (af g (af h ah)))):=ba ha (ba hb (ba hc dU h3) h2) h1
def kh {x:Str} {px:Pos} {sc:ι} {ps:Pos} (N:List Str) {cap:List Nat} {it:abC (List D)} (hi:PI X (.Name x px) src (fF X.K Ξ it))
  (hY:∀(cl:List (Str×Ø)) (C:Ø) (s:Ä) (H:Hp) (ex:List Ø) (pn:List (Ø×Obj)),PF (dM X N sc cl C s H ex pn) tests (tT X.K bR ft)/\PE (dM X N sc cl C s H ex pn) el (tE X.K bR f))
  (hc:X.calm=true:=by rfl) (S:AN sc X.env.scope.names X.N N 1 cap=true:=by kernel_rfl) (nd:N.Nodup:=by decide +kernel) (h0:N[0]?=some x:=by rfl) (hx:∀cl C s H ex pn,(dM X N sc cl C s H ex pn).env.scope.names.lookup x=some .local:=by intros;rfl) (hs:∀x,ù src X.env x=pure x:=by intro _;rfl) :
  PE X (.ListComp el [⟨.Name x px,src,tests,0⟩] sc ps) (tE X.K Ξ (eh 1 cap it (gN 0) ft f)) :=
 Hy hc (xt S) (qt 0) hi (λcl C s H ex pn=>⟨iT nd h0 (.inl (hx cl C s H ex pn)) (.inr (hx cl C s H ex pn)),hY cl C s H ex pn⟩) hs
end
def eT (mg:Str->Option Å) (E:XK):Wd->aR->Prop:=λw x=>∃C,mg x.c=some (.ref C)/\match x.many with
 |none=>E (.ref C) none w.H
 |some i=>∀Z Y t,w.H Z=none->Z0 "many" Y=some (some (.int i t))->E (.ref C) (some Z) (upd w.H Z (.aX Y (.own Z)))
def nX (mg:Str->Option Å) (K:Ď) (f:List D->aa->Res D):Sp:=λX H Q E=>∃w Z,w.H=H/\aI K w/\aq K w Z X/\Out K (eT mg E) w (f Z w.ay) λY d=>∀v,DV K Y d v->Q v Y.H
def sV (c:Str) (fa:abC (List D)):abC Fl:=λenv s=>ao (fa env s) λZ s=>if decide (Z.length<=10)=true then some (.error ⟨c,none⟩,s) else none
def uu (K:Ď) (mg:Str->Option Å) (x:Str):Prop:=∃C,õ K Ò x=some (some (.ref C))/\mg x=some (.ref C)/\abA K C [.type "ValueError",.type "Exception",.type "BaseException",.type "object"] "ValueError.__new__"=true
def qJ (fn:List D->aa->Res D) (fa:abC (List D)):abC D:=λenv s=>ao (fa env s) fn
section
variable {X:Cx} {E:XK} {Ξ:Wd->aR->Prop} {e a b c:ġ} {es rest:List ġ} {pos:Pos} {f g h:abC D} {fa:abC (List D)}
def wo {x:Str} {np bj:Pos} {mE:ġ} (L:Lv X E) (hO:uu X.K X.mg x) (ha:PA X (mE::rest) (tA X.K (eT X.mg E) fa)) (hc:X.calm=true:=by rfl) (hg:Gl X x:=by rfl) (hd:(x==("__debug__":Str))=false:=by decide)
  (he:Ê (mE::rest) X.env=(false,ĩ mE X.env)::Ê rest X.env:=by rfl) (jP:(ħ bj (Ê rest X.env)).any (·.1)=false:=by rfl) :
  PS X (.Raise (some (.Call (.Name x np) (mE::rest) [] bj)) none pos) (tS X.K (eT X.mg E) (sV x fa)) :=
 let ⟨C,eC,V,U⟩:=hO
 jf (Qa L eC U PySem.F.excBase_ValueError hc hg ha hd he jP) λN σ H T=>by
  obtain⟨w,env,R,S,Q,h⟩:=T;subst R;refine⟨w,env,rfl,S,Q,(Out.ao h).mono λW M J P Z I O=>?_⟩;split at Z
  ·rename_i Y
   have Y:=ÿ Y;obtain⟨G,e1,q⟩:=Z W (Le.refl W) P rfl;rw[V] at e1;cases e1;exact⟨à (by rw[<- O.length];exact Y) (by decide),q⟩
  ·exact Z.elim
def RL {k:Nat} {fA:Ø} {fd:Ė} {u5:List Str} {fn:List D->aa->Res D} {x:Str} {p:Pos} (L:Passes (eR X.prog X.w) X E) (F:cB X.prog X.w X.K X.mg X.base (eR X.prog X.w) k fA fd u5 (nX X.mg X.K fn)) (hr:bp k X.A) (hg:Gl X x) (hm:X.mg x=some (.ref fA)) (hk:ľ X.K (.ref fA)=true) (hb:Binds X.K fd u5 [])
  (ha:PA X (e::es) (tA X.K (eT X.mg E) fa)) (dh:(x==("__debug__":Str))=false:=by decide) (he:Ê (e::es) X.env=(false,ĩ e X.env)::Ê es X.env:=by rfl) (bH:(ħ pos (Ê es X.env)).any (·.1)=false:=by rfl) :
  PE X (.Call (.Name x p) (e::es) [] pos) (tE X.K (eT X.mg E) (qJ fn fa)):=b9 (He F hr hg hm hk hb .nil L ha dh he bH) fun σ H Q Y=>by
 obtain⟨w,env,W,S,V,h⟩:=Y;subst W;refine⟨w,env,rfl,S,V,(Out.ao h).mono λZ U N T R P O=>?_⟩;show nX X.mg X.K fn (P++[]) Z.H Q E;rw[û];exact⟨Z,U,rfl,T,O,R⟩
def IH {α:Type} {K:Ď} {w:Wd} {r:Res α} {k:Wd->α->Prop} (h:Out K bR w r k):Out K Ξ w r k:=by
 match r,h with
 |some (.ok a,s),h=>exact h
 |some (.error x,s),h=>exact λZ l S e=>(h Z l S e).elim
def AS:Passes (eR X.prog X.w) X E0:=λ_ _ _ _ _ _ _ ⟨_,_,_,_,_,_,_,_,_,_,_,q⟩=>q.elim
end
def T6 {P:ã} {w:Ă} {K:Ď} {mg:Str->Option Å} {base:ĥ} {x:Str} {st:aaX} {f:Ø} {fd:Ė} {ps:List Str} {k:Nat} {b:abC Fl} (G:Gd K mg x st ps f fd) (N:List Str) (S:nI N ps (bX st)=true)
  (hb:N.Nodup->∀(aO:Å) (A:ê) (outer:List PySem.Env) (s:Ä) (H:Hp) (E:XK),bp k (A.deeper (į x (bX st) s.heap.objs.size f aO))->Lv (gr (eR P w) P w K mg base N x (bX st) f aO A outer s H E) E->cP (gr (eR P w) P w K mg base N x (bX st) f aO A outer s H E) (fH st) (tS K (eT mg E) b)) :
  cB P w K mg base (eR P w) (k+1) f fd ps (nX mg K (aN ps.length N.length b)):=by
 obtain⟨J,I,kV,doc,pm,an,aO,ct,F,rfl,lk,V⟩:=G.fn.ex;refine xo lk V (jh S) (λU H Q E h=>?_) λA outer s H U Q E T h=>?_
 ·obtain⟨w,R,rfl,S,Y,h⟩:=h
  rw[<- Y.length];unfold aN at h;split at h
  ·assumption
  ·exact h.elim
 ·obtain⟨X,R,rfl,O,Y,h⟩:=h
  refine⟨_,hb (jh S).nd aO A outer s X.H E T ⟨rfl,rfl,rfl,rfl⟩,?_⟩;unfold aN at h;split at h
  ·rename_i M
   rw[<- M] at h;refine⟨X,_,rfl,O,Y.env N.length,(Out.ao h).mono λD L C W Z=>?_⟩
   cases L with
   |nx env=>intro B _;exact aA W Z _ rfl
   |rt d=>have q:=aA W Z;exact q
   |bk env=>exact Z.elim
   |ct env=>exact Z.elim
  ·exact h.elim
end DI
namespace L2
open PySem PySem.Spec PyProof.Rows PySem.W
structure Vx (env:Env) (names:List (Str×ũ)) (cl:List (Str×Ø)):Prop where
 tL:∀x c,cl.lookup x=some c->env.cells.lookup x=some c
 all:∀x,(x,ì)∈names->∃c,cl.lookup x=some c
theorem zG {env:Env}:∀(names:List (Str×ũ)) (acc:List (Str×Ø)),(∀x,(x,ì)∈names->∃c,env.cells.lookup x=some c)->(∀x c,acc.lookup x=some c->env.cells.lookup x=some c) ->
  ∃cl,(forIn names acc λ(p:Str×ũ) (r:List (Str×Ø))=>(match p with | (name,kind)=>if kind==.free then (do let c <- cellOf env name;pure (Ĺ ((name,c)::r))) else pure (Ĺ r):Sem (ForInStep (List (Str×Ø)))))=pure cl /\
   (∀x c,cl.lookup x=some c->env.cells.lookup x=some c)/\(∀x,(x,ì)∈names->∃c,cl.lookup x=some c)/\∀x c,acc.lookup x=some c->∃c,cl.lookup x=some c
 | [],acc,_,Y=>⟨acc,by simp,Y,λ_ h=>(Ĉ h).elim,λx c h=>⟨c,h⟩⟩
 |(y,k)::r,acc,W,Y=>by
  by_cases V:k=.free
  ·subst V
   obtain⟨c,e⟩:=W y Ô;have Q:∀x Z,((y,c)::acc).lookup x=some Z->env.cells.lookup x=some Z:=λx Z h=>by
    rw[đ] at h;split at h
    ·rename_i q
     have q:x=y:=by simpa using q
     cases h;rw[q];exact e
    ·exact Y x Z h
   obtain⟨cl,U,T,S,X⟩:=zG r ((y,c)::acc) (λx h=>W x (Ó _ h)) Q;have R:∃c,cl.lookup y=some c:=X y c (by rw[đ];simp);refine⟨cl,?_,T,λx h=>?_,λx Z h=>?_⟩
   ·rw[aax]
    simp only[ā,ð,cellOf,e,pure_bind];exact U
   ·rcases Õ.mp h with q|q
    ·cases q;exact R
    ·exact S x q
   ·by_cases q:x=y
    ·rw[q];exact R
    ·exact X x Z (by rw[đ,show (x==y)=false by simpa using q];exact h)
  ·obtain⟨cl,U,T,S,X⟩:=zG r acc (λx h=>W x (Ó _ h)) Y
   refine⟨cl,?_,T,λx h=>?_,X⟩
   ·rw[aax]
    have P:(k==ì)=false:=by simpa using V
    simp only[P,Â,é,pure_bind];exact U
   ·rcases Õ.mp h with q|q
    ·cases q;exact absurd rfl V
    ·exact S x q
def Qb {env:Env} {scope:ι} (hc:∀x,(x,ì)∈scope.names->∃c,env.cells.lookup x=some c):∃cl,closureFor scope env=pure cl/\Vx env scope.names cl:=by
 obtain⟨cl,Z,Y,X,_⟩:=zG scope.names [] hc (λx c h=>by cases h);refine⟨cl,?_,Y,X⟩;unfold closureFor;simp only[pure_bind,bind_pure];exact Z
noncomputable abbrev wQ (q:Str) (params:abv) (body:ġ) (scope:ι) (cl:List (Str×Ø)) (pm:Å) (c':Ø) (iA:Å):Obj:=kla_obj "<lambda>" q params body scope cl pm c' iA
section
variable {X:Cx} {π:List (Ø×Obj)} {σ:St} {H:Hp} {s:Ä}
def Inv.table {P c':Ø} {ps yB:Array Å} {oc:Obj} {h':ĥ} {t':Nat} (I:Inv X π σ H s) (hP:H P=some (.dD ps)) (hx:aaL P s.heap h') (hc:s.heap.objs.size<=c') (mJ:h'.get? c'=some oc) (ht:h'.get? P=some (tabObj (ps++yB))) :
  Inv X π σ (upd (upd H c' (.aX oc (.own c'))) P (.dD (ps++yB))) { s with heap:=h',toks:=t' }:=by
 have Y:H c'=none:=I.aB.fresh hc;have U:c'≠P:=λz=>by rw[z,hP] at Y;cases Y
 have ne:∀b u,H b=u->u≠some (.dD ps)->b≠P:=λb u e d z=>by rw[z,hP] at e;exact d e.symm
 have at_:∀b u,H b=some u->b≠P->upd (upd H c' (.aX oc (.own c'))) P (.dD (ps++yB)) b=some u:=λb u e n=>by rw[aW n,aW (cY e Y)];exact e
 refine I.un ⟨λb o e n _ _=>hx b o (ne b _ n (by intro z;cases z)) e,λb o e n _ _=>⟨o.slots,hx b o (ne b _ n (by intro z;cases z)) e⟩,λb o e n _=>?_,λb o e _=>?_,λb V e=>at_ b _ e (ne b _ e (by intro z;cases z)),λb o u e=>at_ b _ e (ne b _ e (by intro z;cases z)),λb T e=>?_⟩ λb u e=>?_
 ·rw[aW (ne b _ n (by intro z;cases z)),aW (â (È (Ë e) hc))];exact n
 ·by_cases Z:b=P
  ·exact⟨_,Z ▸ ht⟩
  ·exact⟨o,hx b o Z e⟩
 ·by_cases Z:b=P
  ·subst Z
   rw[hP] at e;cases e;exact⟨yB,cx⟩
  ·exact⟨#[],by rw[at_ b _ e Z];simp⟩
 ·by_cases Z:b=P
  ·subst Z
   rw[cx] at e;cases e;exact ht
  ·rw[aW Z] at e
   by_cases W:b=c'
   ·subst W
    rw[cx] at e;cases e;exact⟨mJ,oc,mJ⟩
   ·rw[aW W] at e
    refine(I.aB b u e).dW (λc v hc q=>hx c v ?_ q) (λc q=>at_ c _ q (ne c _ q (by intro z;cases z))) λc V q=>at_ c _ q (ne c _ q (by intro z;cases z))
    rcases hc with z|z
    ·rw[z];exact Z
    ·exact ne c _ z (by intro z;cases z)
def Qc {params:abv} {body:ġ} {scope:ι} {gw:Pos} {cl:List (Str×Ø)} {c P:Ø} {ps:Array Å} {E:Å->Ä->Prop} {A:ê} {Q:Å->Ä->Prop} (I:Inv X π σ H s) (cQ:closureFor scope X.env=pure cl) (xu:X.env.code=.ref c) (C:CodeHd X.base c P) (hb:X.base.BuiltinsAt X.mg P)
  (hP:H P=some (.dD ps)) (ht:TriplesOk ps.toList) (Cp:defaultsOf params X.env=([],[]))
  (W4:∀cv,codeAmong gw ps.toList=some cv->∃c' oc vs t,cv=.ref c'/\H c'=some (.aX oc (.own c'))/\oc.data=.fields vs/\vs[1]?=some (.str (X.env.qual++"<lambda>") t))
  (h:∀(f c':Ø) (iA:Å) (oc:Obj) (vs:Array Å) (t:Tok) (H1:Hp) (s1:Ä),Inv X π σ H1 s1->s.heap.objs.size<=f->H1 f=none->s1.heap.get? f=some (wQ (X.env.qual++"<lambda>") params body scope cl ((X.mg "__name__").getD .none) c' iA)->H1 c'=some (.aX oc (.own c'))->oc.data=.fields vs->vs[1]?=some (.str (X.env.qual++"<lambda>") t) ->
   (H1=H\/(H c'=none/\c'≠P/\H1=upd (upd H c' (.aX oc (.own c'))) P (.dD (ps++#[ZX gw.line,ZX gw.col,.ref c']))/\TriplesOk (ps++#[ZX gw.line,ZX gw.col,.ref c']).toList))->Q (.ref f) s1) :
  Û (ä X.prog X.w) A (ĩ (.Lambda params body scope gw) X.env) Q E s:=by
 have Y:s.heap.get? P=some (tabObj ps):=I.aB P _ hP;have M:CodeHd s.heap c P:=C.keeps I.bk
 have L:s.heap.BuiltinsAt X.mg P:=let ⟨bm,o,a1,a2,G,F,D,r⟩:=hb;⟨bm,o,a1,a2,G,F,I.bk _ _ D,r⟩
 have W:s.heap.Ns Ò X.mg:=I.ok.mod.glob.keeps I.bk;have B:Ò≠P:=λq=>by
  obtain⟨o,g,d,e,V,_⟩:=W;rw[q,Y] at e;cases e;cases V
 refine kla_eval Cp ?_
 cases U:codeAmong gw ps.toList with
 |some cv =>
  obtain⟨c',oc,vs,t,rfl,y,x,v⟩:=W4 cv U;refine kla_makeFunctionHit cQ I.ok.glob W xu M Y ht U L λiA h' T u Z=>?_
  have S:Inv X π σ H { s with heap:=h'.push (wQ (X.env.qual++"<lambda>") params body scope cl ((X.mg "__name__").getD .none) c' iA),toks:=T }:=I.kept λb o e=>Á _ (u b o e)
  exact h _ c' iA oc vs t H _ S Z (I.aB.fresh Z) (Í _ rfl) y x v (.inl rfl)
 |none =>
  refine kla_makeFunction cQ I.ok.glob W xu M Y ht U B L λc' iA h' T p R K m l=>?_;obtain⟨c₂,oc,vs,t,e2,k,V,j⟩:=m;cases e2;have O:H c'=none:=I.aB.fresh R;have J:c'≠P:=λz=>by rw[z,hP] at O;cases O
  have S:=I.table (t':=T) hP (h':=h'.push (wQ (X.env.qual++"<lambda>") params body scope cl ((X.mg "__name__").getD .none) c' iA)) (λb o n e=>Á _ (p b o n e)) R (Á _ k) (Á _ l);have N:s.heap.objs.size<=h'.objs.size:=à R (Nat.le_of_lt K);have i:h'.objs.size≠P:=λz=>by have:=Ë Y;rw[<- z] at this;exact absurd (È this N) (ï _)
  refine h _ c' iA oc vs t _ _ S N ?_ (Í _ rfl) ?_ V j (.inr ⟨O,J,rfl,?_⟩)
  ·rw[aW i,aW (Ť K)];exact I.aB.fresh N
  ·rw[aW J,cx]
  ·rw[Array.toList_append]
   exact TriplesOk_snoc _ _ _ _ ht
end
def OB {pos:Pos} {c cv:Å} {a b:Int} (l:List Å) (h:TriplesOk l) (e:codeAmong pos (l++[ZX a,ZX b,c])=some cv):codeAmong pos l=some cv\/cv=c:=by
 fun_induction TriplesOk l with
 |case1 =>
  simp only[ĸ,codeAmong,ZX] at e;split at e
  ·cases e;exact .inr rfl
  ·cases e
 |case2 a t b u x rest ih =>
  simp only[ğ,codeAmong] at e |-;split
  ·rename_i q;rw[ß q] at e;exact .inl e
  ·rename_i q;rw[è q] at e;exact ih h e
 |case3 l Z Y=>exact h.elim
def se (P:ã) (w:Ă) (K:Ď) (mg:Str->Option Å) (base:ĥ) (N:List Str) (qual:Str) (scope:ι) (f:Ø) (cd:Å) (cl:List (Str×Ø)) (A:ê) (outer:List Env) (s:Ä) (H:Hp) (E:XK):Cx where
 prog:=P
 w:=w
 K:=K
 mg:=mg
 base:=base
 A:=A.deeper (envX qual scope s.heap.objs.size f cd cl)
 N:=N
 cL:=s
 lg:=H
 env:=envX qual scope s.heap.objs.size f cd cl
 outer:=outer
 stack:=envX qual scope s.heap.objs.size f cd cl::outer
 ex:=[]
 calm:=true
 fn:=λ_=>false
 pn:=[]
 xe:=λe Y=>Û (ä P w) (A.deeper (envX qual scope s.heap.objs.size f cd cl)) (leaving (envX qual scope s.heap.objs.size f cd cl) e) (λ_ Z=>eR P w outer H s E e Z) (λX Z=>eR P w outer H s E X Z) Y
structure Qd (N:List Str) (scope:ι):Prop where
 co:scope.isCoroutine=false
 gen:scope.isGenerator=false
 kind:scope.kind=.function
 sQ:∀x∈scope.names,x.2≠.cell
def T7 {P:ã} {w:Ă} {K:Ď} {mg:Str->Option Å} {base:ĥ} {k:Nat} {f c':Ø} {N:List Str} {q:Str} {params:abv} {body:ġ} {scope:ι} {cl:List (Str×Ø)} {pm iA:Å} {vs:List V} {t:XK->TE} {oc:Obj} {fs:Array Å} {tq:Tok}
  (S:Qd N scope) (ho:base.get? f=some (wQ q params body scope cl pm c' iA)) (hl:N.length=vs.length)
  (inj:∀x y c,cl.lookup x=some c->cl.lookup y=some c->x=y) (has:∀x,scope.names.lookup x=some .free->∃c,cl.lookup x=some c) (jS:∀x c,cl.lookup x=some c->∃v,base.IsCell c v)
  (hv:∀(i:Nat) x v,N[i]?=some x->vs[i]?=some v->scope.names.lookup x=some .free/\∃c u,cl.lookup x=some c/\base.IsCell c (some u)/\RelV v u)
  (mU:oc.data=.fields fs) (fT:fs[1]?=some (.str q tq))
  (jT:∀(A:ê) (outer:List Env) (s:Ä) (H:Hp) (E:XK),bp k (A.deeper (envX q scope s.heap.objs.size f (.ref c') cl))->Lv (se P w K mg base N q scope f (.ref c') cl A outer s H E) E->PE (se P w K mg base N q scope f (.ref c') cl A outer s H E) body (t E)) :
  cB P w K mg base (eR P w) (k+1) f (kla_fn "<lambda>" q params body scope cl pm (.ref c') iA) [] (λus H Q E=>us=[]/\H c'=some (.aX oc (.own c'))/\t E (vs.map some) H Q):=by
 refine⟨λus H Q E h=>by rw[h.1];rfl,λA outer s H args us Yo Q E W Z R r O=>?_⟩;obtain⟨_,M,L⟩:=O;have lim:s.heap.NoLimit:=Z.mod.nolimit.keeps λb o e=>(Z.bs b o e).1;have bk:∀b o,base.get? b=some o->s.heap.get? b=some o:=λb o e=>(Z.bs b o e).1;have G:s.heap.CodeRec (.ref c') q:=⟨c',oc,fs,tq,rfl,(Z.aB c' _ M).1,mU,fT⟩;refine kla_callFunE W.depth (bk _ _ ho) rfl S.co S.gen rfl G (R _ _ _ _ ?_);refine wpAny_newFunctionEnv S.sQ (λx F=>absurd F (by simp)) (λT D C=>?_) S.kind;have Y:∀b o,s.heap.get? b=some o->T.get? b=some o:=λb o e=>C.extBut b o (â (Ë e)) (Á _ e);refine⟨lim.keeps Y,?_⟩;show ŷ _ _ (.expr body (envX q scope s.heap.objs.size f (.ref c') cl)) _ _;have B:bp k (A.deeper (envX q scope s.heap.objs.size f (.ref c') cl)):=W.deeper _;have n:∀c v,base.IsCell c v->H c=none:=λc v ⟨o,e,_⟩=>(Z.bs c o e).2;have U:∀b:Ø,b∉(se P w K mg base N q scope f (.ref c') cl A outer s H E).ex:=λb z=>absurd (show b∈([]:List Ø) from z) (by simp)
 have I:Inv (se P w K mg base N q scope f (.ref c') cl A outer s H E) [] (vs.map some) H { s with heap:=T,toks:=s.toks+([]:List (Str×Å)).length }:=by
  refine⟨⟨Z.mod,S.kind,rfl,rfl,abG _,inj,λy hy=>?_,λy c h=>absurd h Ï,λ_=>W.hd,Around.frames_deeper Z.frames,.inr ⟨rfl,rfl⟩,λb z=>absurd z (U b),Z.bs,Z.il,λb _ _=>U b,λb z=>absurd z (U b),Z.ig,Z.km⟩,
   rfl,Z.bare,Un.kept Y,⟨_,D,λi y v m X h3=>?_⟩,λy c h=>?_,Z.aB.fresh (abG _),λy c h=>?_,λp l=>absurd (show p∈([]:List (Ø×Obj)) from l) (by simp),Z.aB.kept Y,?_⟩
  ·have hy:scope.names.lookup y=some .cell\/scope.names.lookup y=some .free:=hy
   rcases hy with hy|hy
   ·exact absurd rfl (S.sQ _ (ĭ hy))
   ·exact has y hy
  ·have j:vs[i]?=some v:=by
    rw[î] at X
    cases e:vs[i]? with
    |none=>rw[e] at X;cases X
    |some a=>rw[e] at X;cases X;rfl
   obtain⟨g,c,u,e1,e2,d⟩:=hv i y v m j;exact⟨u,d,.inr ⟨.inr g,c,e1,(e2.keeps bk).keeps Y⟩⟩
  ·obtain⟨v,e⟩:=jS y c h
   exact⟨v,(e.keeps bk).keeps Y⟩
  ·obtain⟨v,e⟩:=jS y c h
   exact n c v e
  ·rw[É];exact hl.symm
 refine kla_codeExpr (Ĝ (jT A outer s H E B ⟨rfl,rfl,rfl,rfl⟩ [] _ (vs.map some) H Q I L) (λu s' h=>?_) λe s' h=>h);obtain⟨v,H',J,rv,z⟩:=h;exact⟨v,H',J.os,J.bare,J.base,J.aB,rv,z⟩
end L2
namespace DI
open PySem L2 PySem.W
def Vz (pre:Hp->Prop):Prop:=∀H Z:Hp,(∀b o u,H b=some (.aX o u)->Z b=some (.aX o u))->pre H->pre Z
def yE (P:ã) (w:Ă) (K:Ď) (mg:Str->Option Å) (base:ĥ) (k:Nat) (pre:Hp->Prop) (f:Ø) (vs:List V) (ds:List D) (th:aa->Res D):Prop :=
 Vz pre/\∃fd,(∃o,base.get? f=some o/\o.data=.func fd)/\Binds K fd [] [] /\
  cB P w K mg base (eR P w) k f fd [] (λX H Q E=>X=[]/\pre H/\∃Z:Wd,Z.H=H/\aI K Z/\aq K Z ds vs/\Out K (eT mg E) Z (th Z.ay) λY d=>∀v,DV K Y d v->Q v Y.H)
def sg (cl:D) (th:aa->Res D) (i:Nat):abC D:=λenv s=>open Classical in if env[i]?=some (some cl) then th s else none
section
variable {X:Cx} {E:XK} {Ξ:Wd->aR->Prop} {pos:Pos}
end
def spT (K:Ď) (pre:Hp->Prop) (cl:D) (fn:List D->aa->Res D):Sp:=λY H Q _=>pre H/\∃w:Wd,w.H=H/\aI K w/\aq K w [cl] Y/\Out K bR w (fn [cl] w.ay) λZ d=>∀v,DV K Z d v->Q v Z.H
def VA {P:ã} {w:Ă} {K:Ď} {mg:Str->Option Å} {base:ĥ} {x:Str} {st:aaX} {f:Ø} {fd:Ė} {ps:List Str} {k:Nat} {b:abC Fl} {pre:Hp->Prop} {cl:D} (G:Gd K mg x st ps f fd) (N:List Str) (S:nI N ps (bX st)=true)
  (hb:N.Nodup->∀(aO:Å) (A:ê) (outer:List PySem.Env) (s:Ä) (H:Hp) (E:XK),pre H->bp k (A.deeper (į x (bX st) s.heap.objs.size f aO))->cP (gr dA P w K mg base N x (bX st) f aO A outer s H E).mK (fH st) (tS K bR b)) :
  cB P w K mg base dA (k+1) f fd ps (spT K pre cl (aN ps.length N.length b)):=by
 refine G.fn.ok (jh S) (λW H Q E h=>?_) (λaO A outer s H W Q E V h=>?_)
 ·obtain⟨_,w,rfl,S,Y,h⟩:=h
  rw[<- Y.length];unfold aN at h;split at h
  ·assumption
  ·exact h.elim
 ·obtain⟨U,w,rfl,T,Y,h⟩:=h
  refine⟨_,hb (jh S).nd aO A outer s w.H E U V,?_⟩;unfold aN at h;split at h
  ·rename_i R
   rw[<- R] at h;refine⟨w,_,rfl,T,Y.env N.length,(Out.ao h).mono λM O L X Z=>?_⟩
   cases O with
   |nx env=>intro J _;exact aA X Z _ rfl
   |rt d=>have q:=aA X Z;exact q
   |bk env=>exact Z.elim
   |ct env=>exact Z.elim
  ·exact h.elim
def nv (env:Env):List Nat->Option (List D)
 | []=>some []
 |i::r=>match env[i]?,nv env r with
  |some (some d),some Z=>some (d::Z)
  |_,_=>none
theorem GH {K:Ď} {w:Wd} {env:Env} {σ:St} (eo:bK K w env σ):∀{caps:List Nat} {ds:List D},nv env caps=some ds->∃vs,aq K w ds vs/\∀(i:Nat) j v,caps[i]?=some j->vs[i]?=some v->σ[j]?=some (some v)
 | [],ds,h=>by cases h;exact⟨[],rfl,λi j v h=>by simp at h⟩
 |j::r,ds,h=>by
  unfold nv at h;split at h
  ·rename_i d R e1 e2
   cases h;obtain⟨v,X,W⟩:=eo.val j d e1;obtain⟨vs,V,U⟩:=GH eo e2;refine⟨v::vs,⟨v,vs,rfl,W,V⟩,λi T S Z Y=>?_⟩
   cases i with
   |zero=>cases Z;cases Y;exact X
   |succ i=>exact U i T S (by simpa using Z) (by simpa using Y)
  ·cases h
def pA (x:Str) (caps:List Nat) (fb:abC D) (g:D->(aa->Res D)->List D->aa->Res D):abC D:=λenv s=>match (nv env caps:Option (List D)) with
 |some Z=>match (s[0]?:Option Cell) with
  |some (.tb y)=>if decide (y=x)=true then ne (g .ar (fb (Z.map some)) [.ar] s) else none
  |_=>none
 |none=>none
noncomputable def II (dN N:List Str) (caps:List Nat) (Ls sc:ι):Bool:=decide (sc.kind=.function)&&!sc.isCoroutine&&!sc.isGenerator&&sc.names.all (λy=>decide (y.2≠.cell))&&decide (N.length=caps.length) &&
 (N.zip caps).all (λp=>decide (dN[p.2]?=some p.1)&&decide (Ls.names.lookup p.1=some .cell)&&decide (sc.names.lookup p.1=some .free))&&sc.names.all (λy=>decide (y.2≠.free)||decide (Ls.names.lookup y.1=some .cell))
abbrev Lu (P:ã) (w:Ă) (K:Ď) (mg:Str->Option Å) (x:Str) (st:aaX) (ps:List Str) (k kt:Nat) (g:D->(aa->Res D)->List D->aa->Res D):Prop :=
 ∀{base:ĥ} {pre:Hp->Prop} {f:Ø} {vs:List V} {ds:List D} {th:aa->Res D},yE P w K mg base kt pre f vs ds th->∀{gA:Ø} {fd:Ė},Gd K mg x st ps gA fd->cB P w K mg base dA k gA fd ps (spT K pre (.cD f vs ds) (g (.cD f vs ds) th))
section
variable {X:Cx} {Ξ:Wd->aR->Prop} {pos:Pos}
def ny (X:Cx) (H:Hp) (s:Ä):ĥ:=hideAll s.heap (ck X.stack++rF s.heap H)
def vK {H:Hp} {s:Ä} {b:Ø} {o:Obj} (e:s.heap.get? b=some o) (n:H b=none) (hf:b∉ck X.stack):(ny X H s).get? b=some o:=hideAll_get _ e λz=>by
 rcases Ą.mp z with z|z
 ·exact hf z
 ·unfold rF at z
  have:=(Ĩ.mp z).2;rw[n] at this;cases this
def GI {H:Hp} {s:Ä} {b:Ø} {o:Obj} (e:(ny X H s).get? b=some o):s.heap.get? b=some o/\H b=none/\b∉ck X.stack:=by
 have e1:=of_hideAll _ e;refine⟨e1,?_,λz=>?_⟩
 ·cases q:H b with
  |none=>rfl
  |some u =>
   have:(ny X H s).get? b=none:=hideAll_none _ (Î _ (Ĩ.mpr ⟨ö.mpr (Ë e1),by rw[q];rfl⟩));rw[e] at this;cases this
 ·have:(ny X H s).get? b=none:=hideAll_none _ (ý _ z)
  rw[e] at this;cases this
def _root_.L2.Inv.T8 {π:List (Ø×Obj)} {σ:St} {H:Hp} {s:Ä} (I:Inv X π σ H s):∀b o,X.base.get? b=some o->(ny X H s).get? b=some o:=λb o e=>vK (I.bs b o e).1 (I.bs b o e).2 λz=>by
 have:=(I.stack.mem z).1;rw[e] at this;cases this
def _root_.L2.Inv.VB {π:List (Ø×Obj)} {σ:St} {H:Hp} {s:Ä} (I:Inv X π σ H s):mx X.prog X.w X.K X.mg (ny X H s) X.A X.stack s H:=by
 have k:=I.T8;refine⟨I.ok.frames,⟨I.ok.mod.jz.keeps k,I.ok.mod.glob.keeps k,?_,I.ok.mod.nolimit.keeps k⟩,λb o e=>⟨(GI e).1,(GI e).2.1⟩,abo (hideAll_size _ _),?_,I.sF,I.aB,I.bare⟩
 ·obtain⟨Z,Y,W⟩:=I.ok.mod.blt
  exact⟨Z,Y.keeps k,W⟩
 ·refine funFrames_hide I.stack λenv V a U=>ý _ ?_
  unfold ck;exact aaq.mpr ⟨env,V,U⟩
def BA {x g:Str} {p gw:Pos} {params:abv} {body:ġ} {sc:ι} {c P:Ø} {Lw:aaX} {Lx:List Str} {k n kb:Nat} {gf:D->(aa->Res D)->List D->aa->Res D} {fb:abC D} (N:List Str) {caps:List Nat}
  (xu:X.env.code=.ref c) (JM:X.env.qual=x++".<locals>.") (ht:tabIn X.K x=some (c,P)) (hC:codeHdIn X.K c P=true) (hb:X.base.BuiltinsAt X.mg P)
  (G:GG X.K X.mg g Lw Lx) (F:Lu X.prog X.w X.K X.mg g Lw Lx k (kb+1) gf) (W7:∀cl th s,gf cl th [cl] s=gf .ar th [.ar] s) (hr:bp n X.A)
  (jT:∀(base:ĥ) (q:Str) (f:Ø) (cd:Å) (cl:List (Str×Ø)) (A:ê) (outer:List PySem.Env) (s:Ä) (H:Hp) (E:XK),bp kb (A.deeper (envX q sc s.heap.objs.size f cd cl))->Lv (se X.prog X.w X.K X.mg base N q sc f cd cl A outer s H E) E->PE (se X.prog X.w X.K X.mg base N q sc f cd cl A outer s H E) body (tE X.K (eT X.mg E) fb))
  (hk:k<=n:=by decide) (Cq:II X.N N caps X.env.scope sc=true:=by kernel_rfl) (uB:∀x,X.fn x=true:=by intro _;rfl) (BB:∀(cl:List (Str×Ø)) (pm:Å) (c':Ø) (iA:Å),bindArgs (kla_fn "<lambda>" (x++".<locals>."++"<lambda>") params body sc cl pm (.ref c') iA) ⟨[],[]⟩=pure []:=by intros;rfl)
  (Cp:defaultsOf params X.env=([],[]):=by rfl) (hg:Gl X g:=by rfl) (dh:(g==("__debug__":Str))=false:=by decide)
  (he:Ê [.Lambda params body sc gw] X.env=(false,ĩ (.Lambda params body sc gw) X.env)::Ê [] X.env:=by rfl) (bH:(ħ pos (Ê [] X.env)).any (·.1)=false:=by rfl) :
  PE X (.Call (.Name g p) [.Lambda params body sc gw] [] pos) (tE X.K Ξ (pA x caps fb gf)):=by
 intro π s σ H Q I au;have C:=codeHd_of_K I.ok.mod.jz hC;obtain⟨w,env,eH,S,eo,h⟩:=au;subst eH;unfold pA at h
 cases lG:nv env caps with
 |none=>rw[lG] at h;exact h.elim
 |some W =>
 rw[lG] at h
 cases U:w.ay[0]? with
 |none=>simp only[U] at h;exact h.elim
 |some c0 =>
 simp only[U] at h
 cases c0 with
 |dead=>exact h.elim
 |lst _=>exact h.elim
 |dK _=>exact h.elim
 |dT _=>exact h.elim
 |ins _ _=>exact h.elim
 |tb y =>
 dsimp only at h;by_cases hy:y=x
 case neg=>rw[è (by simpa using hy)] at h;exact h.elim
 rw[ß (by simpa using hy)] at h;subst hy;obtain⟨vs,ai,Yv⟩:=GH eo lG;obtain⟨a,ha⟩:∃a,w.ρ[0]?=some a:=by
  have:=S.len
  cases Yw:w.ρ with
  |nil=>rw[Yw] at this;have h0:=(Ç.mp U).1;rw[<- this] at h0;simp at h0
  |cons a r=>exact⟨a,rfl⟩
 have W8:=S.cell 0 a _ ha U;obtain⟨c2,ps,t1,t2,t3,t4⟩:=W8;rw[ht] at t1;cases t1;unfold II at Cq;simp only[Æ,aay,Ĵ,Ì,ë] at Cq;obtain⟨⟨⟨⟨⟨⟨k1,k2⟩,k3⟩,k4⟩,k5⟩,k6⟩,k7⟩:=Cq;obtain⟨cl,cQ,R⟩:=Qb (env:=X.env) (scope:=sc) λz hz=>by
  rcases k7 _ hz with q|q
  ·exact absurd rfl q
  ·exact I.ok.has z (.inl q)
 obtain⟨gA,ZO,G⟩:=G;refine ť (oy I hg G.mg ?_ dh);refine aau (h₀:=X.base) I.ok.mod.jz G.fn.kp ?_ he bH;rw[he];show Û _ _ (spliced ((false,ĩ (.Lambda params body sc gw) X.env)::ħ pos (Ê [] X.env))) _ _ s;refine aat (Qc I cQ xu C hb t2 t3 Cp (λcv q=>?_) λf c' iA oc fs tq H1 J Y hf Kr DQ iq mU fT hH=>?_)
 ·rw[JM]
  obtain⟨c',oc,fs,t,r1,r2,r3,r4⟩:=t4 gw cv q;exact⟨c',oc,fs,t,r1,r2.2,r3,r4⟩
 rw[JM] at DQ fT;refine Calls.spliced_nil ⟨Y.eO,?_⟩;have W1:∃V:Wd,V.H=H1/\aI X.K V/\Le X.K w V/\V.ay=w.ay:=by
  rcases hH with rfl | ⟨hn,yC,rfl,C7⟩
  ·exact⟨w,rfl,S,Le.refl w,rfl⟩
  ·have S2:=S.grow (o:=.aX oc (.own c')) hn
   have O:=(Fw.grow (K:=X.K) (o:=.aX oc (.own c')) hn).le;have l2:=(Fw.put (o:=.dD (ps++#[ZX gw.line,ZX gw.col,.ref c'])) (c:=.tb y) S2 ha U (by intro z;cases z)).le;refine⟨(w.grow c' (.aX oc (.own c'))).put 0 P (.dD (ps++#[ZX gw.line,ZX gw.col,.ref c'])) (.tb y),rfl,S2.ue ha U (by intro z;cases z) ⟨c,_,ht,cx,C7,λpos cv e=>?_⟩,O.trans l2,?_⟩
   ·rw[Array.toList_append] at e
    rcases OB _ t3 e with e|e
    ·obtain⟨c3,o3,v3,Yx,r1,r2,r3⟩:=t4 pos cv e
     exact⟨c3,o3,v3,Yx,r1,(O.trans l2).aX c3 o3 _ r2.1 r2.2,r3⟩
    ·refine⟨c',oc,fs,tq,e,?_,mU,fT⟩
     exact l2.aX c' oc _ (λz=>l8 S hn z) cx
   ·exact Ų λi=>by
     show (w.ay.set 0 (.tb y))[i]?=w.ay[i]?
     cases i with
     |zero=>rw[å (Ç.mp U).1,U]
     |succ i=>rw[Ö (by omega)]
 obtain⟨V,rfl,S1,O,es⟩:=W1;have cells:∀z Z,cl.lookup z=some Z->∀v,J.heap.IsCell Z v->(ny X V.H J).IsCell Z v:=λz Z e v ⟨o,ho,hd⟩=>by
  have e2:=R.tL z Z e;refine⟨o,vK ho (Y.iF z Z e2) λq=>?_,hd⟩
  rcases Õ.mp (Y.jO _ q) with q|q
  ·exact Y.jA z Z e2 q
  ·obtain⟨_,o2,gW,_⟩:=Y.ok.ig.mem q
   exact absurd (Ë gW) (Nat.not_lt.mpr (Y.ok.rG z Z (uB z) e2))
 have Ks:f∉ck X.stack:=λq=>by
  obtain⟨_,o2,gW,_⟩:=I.stack.mem q;exact absurd (Ë gW) (Nat.not_lt.mpr hf)
 have nl:N.length=vs.length:=by
  have e1:=ai.length;have e2:∀(cs:List Nat) (W:List D),nv env cs=some W->W.length=cs.length:=λcs=>by
   induction cs with
   |nil=>intro W h;cases h;rfl
   |cons i r ih =>
    intro W h;unfold nv at h;split at h
    ·cases h;rename_i e;simp[ih _ e]
    ·cases h
  rw[k5,<- e2 caps W lG,e1]
 have T:yE X.prog X.w X.K X.mg (ny X V.H J) (kb+1) (λH=>H c'=some (.aX oc (.own c'))) f vs W (fb (W.map some)):=by
  refine⟨λH H' st q=>st _ _ _ q,_,⟨_,vK DQ Kr Ks,rfl⟩,Binds.all λus hl=>?_,(T7 (t:=λE=>tE X.K (eT X.mg E) fb) (vs:=vs) (oc:=oc) ⟨k2,k3,k1,k4⟩ (vK DQ Kr Ks) nl (λz1 z2 Z M B=>Y.ok.inj z1 z2 Z (R.tL _ _ M) (R.tL _ _ B)) (λz hz=>R.all z (ĭ hz)) (λz Z e=>?_) (λi z v M B=>?_) mU fT
   (λA outer s H E hr L=>jT _ _ f (.ref c') cl A outer s H E hr L)).imp λus H Q E h=>?_⟩
  ·have:us=[]:=List.eq_nil_of_length_eq_zero (by simpa using hl)
   subst this;exact BB _ _ _ _
  ·obtain⟨v,q⟩:=Y.cell z Z (R.tL z Z e)
   exact⟨v,cells z Z e v q⟩
  ·have hi:i<caps.length:=by
    have:=(Ç.mp M).1;rw[k5] at this;exact this
   obtain⟨j,hj⟩:∃j,caps[i]?=some j:=⟨caps[i],Ð hi⟩;have hm:(z,j)∈N.zip caps:=by
    refine Ū (i:=i) ?_;rw[List.getElem?_zip_eq_some];exact⟨M,hj⟩
   obtain⟨⟨q1,q2⟩,q3⟩:=k6 _ hm;obtain⟨m,hn,hl⟩:=Y.loc;obtain⟨u,r,lk⟩:=hl j z v q1 (Yv i j v hj B) (.inr (.inl q2));refine⟨q3,?_⟩
   rcases lk with ⟨lk,_⟩ | ⟨_,Z,e1,e2⟩
   ·rw[show X.env.kindOf z=X.env.scope.names.lookup z from rfl,q2] at lk;cases lk
   ·obtain⟨c3,e3⟩:=R.all z (ĭ q3)
    have e4:=R.tL z c3 e3;rw[e1] at e4;cases e4;exact⟨Z,u,e3,cells z Z e3 _ e2,r⟩
  ·obtain⟨M,B,w',rfl,S',lK,hh⟩:=h
   refine⟨M,B,w',W.map some,rfl,S',⟨?_,λi d e=>?_⟩,hh⟩
   ·rw[É,É];exact lK.length
   ·rw[î] at e
    cases q:W[i]? with
    |none=>rw[q] at e;cases e
    |some d' =>
     rw[q] at e;cases e;obtain⟨v,e1,e2⟩:=lK.get' i d q;exact⟨v,by rw[î,e1];rfl,e2⟩
 have hq:=(h.from O).ne;rw[<- es,<- W7 (.cD f vs W)] at hq;refine aaI (ō ((F T G).run X.A X.stack J V.H ⟨[.ref f],[]⟩ [.ref f] [.ref f] Q (λ_ _ _=>False) (hr.mono hk) Y.VB (G.b J [.ref f] Y.eO ?_) (.cons rfl .nil) ⟨iq,V,rfl,S1,⟨.ref f,[],rfl,⟨rfl,O.all ai⟩,rfl⟩,hq⟩) λr s' l=>?_)
 ·have:=(F T G).len [.ref f] V.H Q (λ_ _ _=>False) ⟨iq,V,rfl,S1,⟨.ref f,[],rfl,⟨rfl,O.all ai⟩,rfl⟩,hq⟩
  simpa using this
 ·cases r with
  |error e=>exact l.elim
  |ok fl =>
   cases fl with
   |ret u=>exact Y.after l
   |next=>exact ď l
   |brk=>exact ď l
   |cont=>exact ď l
end
end DI
namespace L2
open PySem PySem.Spec PyProof.Rows PySem.W
section
variable {X:Cx} {π:List (Ø×Obj)} {σ:St} {H:Hp} {s:Ä}
def wq {M:Model} {A:ê} {E:Å->Ä->Prop} {i:Nat} {x:Str} {pos:Pos} {Q:Unit->Ä->Prop} (I:Inv X π σ H s) (hN:X.N.Nodup) (hi:X.N[i]?=some x) (hk:X.env.scope.names.lookup x=some .local) (h:∀s',Inv X π (σ.set i none) H s'->Q () s') :
  Û M A (do aaS X.env x .none;unbindBehindTheSuite X.env x pos) Q E s:=by
 obtain⟨m,V,S⟩:=id I.loc;have R:(X.env.scope.kind==.class||(X.env.scope.kind==.module&&X.env.locals != X.env.globals))=false:=by rw[I.ok.kind];rfl
 have jA:=I.jA;refine wpAny_nameGoes_keeps hk V R λu v P hs=>?_;obtain⟨t,_,_,r,_⟩:=id V;refine h _ ⟨I.ok,I.os,I.bare,⟨λb o e n Y Z=>?_,λb o e n Y Z=>?_,I.base.free,λb o e Z=>?_,I.base.fx,I.base.ei,I.base.fy⟩,⟨_,P,λj y O e1 e2 L=>?_⟩,λy c e=>?_,I.free,I.iF,λp K=>?_,λb J e=>?_,by rw[ĉ];exact I.len⟩
 ·exact(hs.2 b (â (È (Ë e) I.ok.above))).trans (I.base.keep b o e n Y Z)
 ·obtain⟨G,e1⟩:=I.base.slot b o e n Y Z
  exact⟨G,(hs.2 b (â (È (Ë e) I.ok.above))).trans e1⟩
 ·obtain⟨F,e1⟩:=I.base.there b o e Z
  exact⟨F,(hs.2 b (â (È (Ë e) I.ok.above))).trans e1⟩
 ·by_cases W:j=i
  ·subst W
   have U:=(Ç.mp e2).1;rw[ĉ] at U;rw[å U] at e2;cases e2
  ·rw[Ö (Ŭ W)] at e2
   obtain⟨D,C,q⟩:=S j y O e1 e2 L;refine⟨D,C,?_⟩
   rcases q with ⟨k,e⟩ | ⟨k,c,e,z⟩
   ·refine .inl ⟨k,?_⟩
    have:y≠x:=λe=>W (zt hN e1 (e ▸ hi));simp[this,e]
   ·exact .inr ⟨k,c,e,z.sameBut hs (jA y c e)⟩
 ·obtain⟨T,z⟩:=I.cell y c e
  exact⟨T,z.sameBut hs (jA y c e)⟩
 ·obtain⟨e,n,ne,B,d⟩:=I.pin p K
  exact⟨(hs.2 p.1 ne).trans e,n,ne,B,d⟩
 ·refine(I.aB b J e).dW (λc T w q=>(hs.2 c ?_).trans q) (λ_ q=>q) λ_ _ q=>q
  rintro rfl
  rcases w with z|z
  ·have:=I.free;rw[z,e] at this;cases this
  ·have:=I.free;rw[z] at this;cases this
noncomputable abbrev Cx.held (X:Cx) (a:Ø):Cx:={ X with A:=X.A.mark (some (.ref a)),calm:=false,xe:=λ_ _=>False }
theorem Inv.held (I:Inv X π σ H s) (a:Ø):Inv (X.held a) π σ H s:=by
 obtain⟨⟨a1,a2,Z,Y,W,V,U,T,w,S,R,Q,P,O,N,M,L,K⟩,J,G,F,E,D,C,B,A,y,x⟩:=I;exact⟨⟨a1,a2,Z,Y,W,V,U,T,λz=>absurd z Ï,S,R,Q,P,O,N,M,L,K⟩,J,G,F,E,D,C,B,A,y,x⟩
def Inv.wR {a:Ø} (ok:X.Ok) (I:Inv (X.held a) π σ H s):Inv X π σ H s:=by
 obtain⟨_,Z,Y,W,V,U,T,S,R,Q,P⟩:=I;exact⟨ok,Z,Y,W,V,U,T,S,R,Q,P⟩
def wU (X:Cx) (π:List (Ø×Obj)) (σ:St) (E:XK) (e:Å) (s':Ä):Prop:=∃Z Y,Inv X π σ Z Y/\eR X.prog X.w X.stack Z Y E e s'
def iX {E:XK} {E':Å->Ä->Prop} {e:Å} {s':Ä} {cn n:Str} {np rn:Pos} {uw:aaX} {tN:List aaX} {j:Nat} {CM:Ø} {D:Ends} (Th:wU X π σ E e s') (L:X.stack=X.env::X.outer) (hf:X.env.frame=some X.env.locals)
  (hN:X.N.Nodup) (hj:X.N[j]?=some n) (nZ:X.env.scope.names.lookup n=some .local) (hg:Gl X cn) (hm:X.mg cn=some (.ref CM)) (hd:(cn==("__debug__":Str))=false)
  (h:∀cls m H' ,E cls m H'->exmOne X.K cls (.ref CM)=some true/\∀(a:Ø) (o:Obj),H' a=none->o.cls=cls->(notCls o=true/\∀dx,m=some dx->o.dict=some dx)->∀s5,Inv (X.held a) π (σ.set j (some (.ref a))) (upd H' a (.aX o (.own a))) s5 ->
   Û (ä X.prog X.w) (X.held a).A (execs (uw::tN) X.env) (SP (X.held a) π { nx:=fun aJ H'=>D.nx (aJ.set j none) H',rt:=D.rt,bk:=fun aJ H'=>D.bk (aJ.set j none) H',ct:=fun aJ H'=>D.ct (aJ.set j none) H' }) (λ_ _=>False) s5) :
  Û (ä X.prog X.w) X.A (noteFrame e X.env) (λ_ qX=>Û (ä X.prog X.w) X.A (setFlight e none) (λ_ W9=>Û (ä X.prog X.w) X.A (handleBy e X.env [.ExceptHandler (some (.Name cn np)) (some n) (uw::tN) rn]) (SP X π D) E' W9) E' qX) E' s':=by
 obtain⟨H1,t,W,a,cls,O,H',B,m,rfl,os,bare,F,dm,hE⟩:=Th;obtain⟨p,hh⟩:=h cls m H' hE
 refine Ĝ (vW (HC _ _) (wpAny_looks_onW (E:=λ_ _=>False) (Q:=λ_ i=>∃V,i={ s' with heap:=V }/\Heap.HeldW B (X.env::X.outer) a cls O X.env.locals V/\s'.heap.UpToSlots V) (by rw[W.ok.frames,L]) hf (by have:=F.fl;rw[L] at this;exact this) λV x y=>⟨V,rfl,x,y⟩)) (λ_ i z=>?_) λ_ _ z=>z.1.elim
 obtain⟨⟨V,rfl,g,Yy⟩,Yz⟩:=z
 refine Ĝ (vW (zk _ _) (wpAny_landsW (E:=λ_ _=>False) (Q:=λ_ d=>∃Z,d={ s' with heap:=Z }/\aa0 B (X.env::X.outer) a cls O Z/\V.UpToSlots Z) g λZ x y=>⟨Z,rfl,x,y⟩)) (λ_ d z=>?_) λ_ _ z=>z.1.elim
 obtain⟨⟨Z,rfl,Kt,YA⟩,YB⟩:=z
 have vi:Dm Z a m:=(dm.on Yz (let ⟨o,e,_⟩:=g.there;⟨o,e⟩)).on YB (let ⟨o,e,_⟩:=Kt.there;⟨o,e⟩)
 have P:aa0 B X.stack a cls O Z:=by rw[L];exact Kt
 have I:=F.on P (Yy.trans YA);have Xa:t.heap.get? a=none:=by
  cases q:t.heap.get? a with
  |none=>rfl
  |some o =>
   by_cases S:a∈ck X.stack
   ·obtain⟨sl,e1⟩:=I.slot a o q S
    obtain⟨_,o2,e2,hd2⟩:=P.2.2.1.mem S
    obtain⟨H,ws,e3,_,e4,_⟩:=P.first
    rw[e3] at e2;cases e2;exact absurd e4 (hd2 _)
   ·obtain⟨o',e1⟩:=F.there a o q S
    rw[F.fl.2.1] at e1;cases e1
 have I3:Inv X π σ H' { s' with heap:=Z }:=W.tu (s':={ s' with heap:=Z }) (ch:=[]) os I.un I.held bare (λb z=>absurd z (by simp))
 refine wpAny_handleBy_cons (codeAny_handlers_test ?_) (by intro q;cases q);refine(show Û (ä X.prog X.w) (X.held a).A (ĩ (.Name cn np) (X.held a).env) _ _ _ from oy (I3.held a) hg hm ?_ hd);obtain⟨ob,YC,tZ⟩:=P.there;have LT:Looks (ä X.prog X.w) Z (typeOf (.ref a)) cls:=by subst tZ;exact(Looks.ld YC).andThen .now
 refine(exm_one (M:=ä X.prog X.w) (K:=X.K) (h:=Z) I3.eO LT p).here ?_;refine codeAny_handlers_suite_as ?_
 refine Ĝ (vW (zk _ _) (lands_againW (s:={ s' with heap:=Z }) (E:=λ_ _=>False) (Q:=λ_ s4=>∃Y,s4={ s' with heap:=Y }/\aa0 B X.stack a cls O Y/\Z.UpToSlots Y) P λY x y=>⟨Y,rfl,x,y⟩)) (λ_ s4 z=>?_) λ_ _ z=>z.1.elim
 obtain⟨⟨Y,rfl,G,YD⟩,YE⟩:=z
 have vj:Dm Y a m:=vi.on YE (let ⟨o,e,_⟩:=G.there;⟨o,e⟩)
 have l:=I.on G YD;obtain⟨H,C,Xb⟩:=G.there;have R:H' a=none:=l.new
 have I4:Inv X π σ (upd H' a (.aX H (.own a))) { s' with heap:=Y }:=by
  have u:=l.un;have iw:∀b o,t.heap.get? b=some o->b≠a:=λb o e z=>by rw[z,Xa] at e;cases e
  refine W.tu (s':={ s' with heap:=Y }) (ch:=[]) os ⟨u.keep,u.slot,λb o e n p=>?_,u.there,λb xs e=>?_,λb o v e=>?_,λb ps e=>?_⟩ (λb v e=>?_) bare (λb z=>absurd z (by simp))
  ·rw[aW (iw b o e)];exact u.free b o e n p
  ·have:=u.fx b xs e;rw[aW (cY this R)];exact this
  ·have:=u.ei b o v e;rw[aW (cY this R)];exact this
  ·obtain⟨more,this⟩:=u.fy b ps e;exact⟨more,by rw[aW (cY this R)];exact this⟩
  ·by_cases S:b=a
   ·subst S
    rw[cx] at e;cases e;exact⟨C,H,C⟩
   ·rw[aW S] at e
    refine(l.held b v e).dW (λ_ _ _ q=>q) (λc q=>?_) λc xs q=>?_
    ·rw[aW (cY q R)];exact q
    ·rw[aW (cY q R)];exact q
 refine lU I4 hN hj (.inl nZ) (v:=.ref a) (u:=.ref a) rfl (λs5 I5=>?_) (.inr nZ)
 refine Ĝ (hh a H R Xb ⟨by obtain⟨o2,vs,e1,_,e2,_⟩:=G.first;rw[C] at e1;cases e1;unfold notCls;rw[e2],λdx e=>by obtain⟨o,e1,e2⟩:=vj dx e;rw[C] at e1;cases e1;exact e2⟩ s5 (I5.held a)) (λf s6 q=>?_) λ_ _ z=>z.elim
 cases f with
 |next =>
  obtain⟨aJ,U,J,q⟩:=q;exact wq (J.wR W.ok) hN hj nZ λk T=>⟨_,U,T,q⟩
 |brk =>
  obtain⟨aJ,U,J,q⟩:=q;exact wq (J.wR W.ok) hN hj nZ λk T=>⟨_,U,T,q⟩
 |cont =>
  obtain⟨aJ,U,J,q⟩:=q;exact wq (J.wR W.ok) hN hj nZ λk T=>⟨_,U,T,q⟩
 |ret u =>
  obtain⟨v,aJ,U,J,r,q⟩:=q;exact wq (J.wR W.ok) hN hj nZ λk T=>⟨v,_,U,T,r,q⟩
end
end L2
namespace DI
open PySem L2 PySem.W
def bK.unset {K:Ď} {w:Wd} {env:Env} {σ:St} (h:bK K w env σ) (i:Nat):bK K w (env.set i none) (σ.set i none):=by
 refine⟨by rw[ĉ,ĉ];exact h.len,λj X e=>?_⟩;by_cases Z:i=j
 ·subst Z
  have Y:=(Ç.mp e).1;rw[ĉ] at Y;rw[å Y] at e;cases e
 ·rw[Ö Z] at e
  rw[Ö Z];exact h.val j X e
section
variable {X:Cx} {E:XK} {pos:Pos}
def T9 {π:List (Ø×Obj)} {σ:St} {s:Ä} {w:Wd} {env:Env} {Q:VK} {k i:Nat} {x:Str} {p:Pos} {pre:Hp->Prop} {f:Ø} {vs:List V} {ds:List D} {th:aa->Res D} (T:yE X.prog X.w X.K X.mg X.base k pre f vs ds th) (h0:pre X.lg) (hr:bp k X.A)
  (hN:X.N[i]?=some x) (hv:pH X.env.scope x) (hd:(x==("__debug__":Str))=false) (dE:(x==("__classdict__":Str))=false)
  (I:Inv X π σ w.H s) (S:aI X.K w) (eo:bK X.K w env σ) (he:env[i]?=some (some (.cD f vs ds))) (h:Out X.K (eT X.mg E) w (th w.ay) λw' d=>∀v,DV X.K w' d v->Q v w'.H) :
  Û (ä X.prog X.w) X.A (ĩ (.Call (.Name x p) [] [] pos) X.env) (EP X π σ Q) (wU X π σ E) s:=by
 obtain⟨M,fd,⟨o,L,J⟩,G,F⟩:=T;obtain⟨v,e1,e2⟩:=eo.val i _ he;obtain⟨rfl,C⟩:=e2;refine PySem.wpAny_Call_Name_kw ?_;have U:=(HY (X:=X.js λe O=>wU X π σ E e O) (pos:=p) hN hv hd dE π s σ w.H (λv B=>v=.ref f/\B=w.H) (I.js _) ⟨_,e1,rfl,rfl⟩);refine aG U λu R U=>?_;obtain⟨v,t,Z,r,rfl,rfl⟩:=U;have Z:=Z.lY;have r:u=.ref f:=r;subst r;have z:∀h:ĥ,h.get? f=some o->∃k,(k=Keeper.frame\/k=Keeper.machine\/k=Keeper.boundFrame)/\Looks (ä X.prog X.w) h (keeperOf (.ref f)) k:=λh e=>by
  obtain⟨q,n,m,os⟩:=o;cases J;exact⟨.frame,.inl rfl,(Looks.ld (part:=none) e).andThen .now⟩
 refine PySem.W.callWith_of (P:=λh=>h.get? f=some o) rfl z (PyProof.Rows.evalArgs_nil3 ⟨Z.bk _ _ L,?_⟩);refine aaI (ō (F.run X.A X.stack R w.H ⟨[],[]⟩ [] [] Q E hr Z.lh (G R [] Z.eO rfl) .nil ⟨rfl,M _ _ (λb o u e=>Z.base.ei b o u e) h0,w,rfl,S,C,h⟩) λr O Y=>?_)
 cases r with
 |error e=>exact⟨w.H,R,Z,Y⟩
 |ok y =>
  cases y with
  |ret u=>exact Z.after Y
  |next=>exact ď Y
  |brk=>exact ď Y
  |cont=>exact ď Y
end
end DI
namespace L2
open PySem PySem.Spec PySem.Calls PyProof.Rows PySem.W PySem.Builtin PySem.Builtin.ObjectAttr PySem.Builtin.Getset_descriptor
section
variable {prog:ã} {w:Ă} {A:ê} {E:Å->Ä->Prop} {s:Ä} {K:Ď} {x C:Ø}
noncomputable def nA (K:Ď) (C:Ø):Bool:=(findIn K (.ref C) "__getattribute__"==some (some (.builtin "BaseException.__getattribute__")))&&(findIn K (.ref C) "__getattr__"==some none)&&(clsIn K C).isSome&&(findIn K (.ref C) "__class__"==some (some (.builtin "object.__class__")))&&(specialIn K (.builtin "object.__class__") "__get__"==some (some (.builtin "getset_descriptor.__get__")))&&(takesIn K (.builtin "object.__class__")==some true)&&(mroIn K C (.type "object")==some true)&&(mroIn K C (.type "BaseException")==some true)
def Ua {M:Model} {JO:Å} {Q:Unit->Ä->Prop} (LT:Looks M s.heap (typeOf (.ref x)) (.ref C)) (M5:Looks M s.heap (isSubtype (.ref C) (.type "BaseException")) true) (hq:Q () s):Û M A (checkBuiltinCall "BaseException.__getattribute__" ⟨[.ref x,JO],[]⟩) Q E s:=by
 have Z:builtinKind "BaseException.__getattribute__"=some .slot:=by decide +kernel
 have Y:splitId "BaseException.__getattribute__"=some ("BaseException","__getattribute__"):=by decide +kernel
 have X:=F.args_bexc_ga (.ref x) JO;simp only[checkBuiltinCall,Z,Y];refine À ?_;unfold isInstance
 repeat (first|with_reducible refine LT.at ?_|with_reducible refine M5.at ?_|wp_step)
 exact hq
def cls_read {Q:Option Å->Ä->Prop} (X:K.In s.heap) (LT:Looks (ä prog w) s.heap (typeOf (.ref x)) (.ref C)) (hc:nA K C=true) (h:Q (some (.ref C)) { s with toks:=s.toks+1 }) :
  Û (ä prog w) A (getAttr? (.ref x) "__class__") Q E s:=by
 unfold nA at hc;simp only[Æ,beq_iff_eq] at hc;obtain⟨⟨⟨⟨⟨⟨⟨Y,W⟩,_⟩,V⟩,U⟩,T⟩,S⟩,R⟩:=hc;obtain⟨Z,g,d,t,os⟩:=s;have M1:=looks_findIn (M:=ä prog w) X Y;have M2:=looks_findIn (M:=ä prog w) X W;have P:Looks (ä prog w) Z (find (.ref x) (.ref C) "__class__") (.bind (.builtin "getset_descriptor.__get__") (.builtin "object.__class__")) :=
  (looks_findIn X V).andThen ((looks_specialIn X U).andThen ((show Looks (ä prog w) Z (dataDescriptor? (some (.builtin "object.__class__")) (some (.builtin "getset_descriptor.__get__"))) (some (.builtin "getset_descriptor.__get__",.builtin "object.__class__")) from (looks_takesIn X T).andThen .now).andThen (Looks.tag .now)))
 have L:=looks_mroIn (M:=ä prog w) X S;have O:=looks_mroIn (M:=ä prog w) X R;have N:=F.attr_ValueError.ga.bind (.ref x);unfold getAttr? getAttrBy? getAttrBy;refine À (wpAny_mkText (À (Ÿ (ĝ (À (LT.at (À (M1.at ?_))))))));show Û _ _ (getAttrByItsOwn (.ref x) _ (.ref C) (.builtin "BaseException.__getattribute__") false false) _ _ _;unfold getAttrByItsOwn;refine À (M2.at (À (Ÿ (ĝ ?_))));show Û _ _ (boundAndCalled (.builtin "BaseException.__getattribute__") (.ref x) _) _ _ _;unfold boundAndCalled;rw[N];refine À (Ã (aaI (codeAny_call_builtin F.attr_ValueError.ga.plain F.entry_bexc_ga ?_)));refine Ua LT O ?_;unfold ű.«object.__getattribute__»;rw[show slotArgs "__getattribute__" 1 ⟨[.ref x]++[.str "__class__" t],[]⟩=pure (.ref x,[.str "__class__" t]) from rfl];refine À (Ã ?_);dsimp only;rw[show attrName (.str "__class__" t)=pure ("__class__":Str) from rfl];refine À (Ã (À (LT.at (À (P.at ?_)))));show Û _ _ (μ [Value.builtin "object.__class__"] (call (.builtin "getset_descriptor.__get__") [.builtin "object.__class__",.ref x,.ref C]) >>= ret) _ _ _;refine À (ĝ (aaI ?_));refine codeAny_call_builtin KF.slot_gs.plain KF.entry_gs (KF.slot_gs.check _ _ _ _ _ _ _ _ KF.type_class (KF.args_gs _ _ _) ?_);unfold ű.«getset_descriptor.__get__» descrGet;rw[dga_obj];refine À (Ã ?_);unfold descrGetter descrCheckInstance descrNameAndClass isInstance;simp only[KF.owner_class]
 repeat lk
 refine⟨Code.quiet_builtin _ (by decide +kernel),Ń KF.entry_class ?_⟩;unfold ű.«object.__class__» shownTypeOf
 repeat lk
 exact h
def Qe {o:Obj} (ho:o.cls=.ref C) (hc:nA K C=true):KitX K (.ref x) (.ref C) (λh=>h.get? x=some o) where
 ty:=λM h _ e=>ho ▸ (Looks.ld e).andThen .now
 it:=λM h X _=>by
  unfold nA at hc;simp only[Æ] at hc;have z:=hc.1.1.1.1.1.2;unfold clsIn at z;split at z
  ·rename_i q
   intro W V U T k r;unfold isType loadHead;exact À (wpAny_loadPart (k _ _ (X _ _ q)) (Ã r))
  ·cases z
 ne:=λh Z S its n R X Y=>by
  unfold nA at hc;simp only[Æ] at hc;have z:=hc.1.1.1.1.1.2;refine Bool.eq_false_iff.mpr λq=>?_;have e:C=Z:=Value.ref.inj (beq_iff_eq.mp q);subst e;unfold clsIn at z;split at z
  ·rename_i r
   have z:=(X _ _ r).symm.trans Y;cases z
  ·cases z
 ca:=λX e k=>cls_read X (ho ▸ (Looks.ld e).andThen .now) hc k
end
end L2
namespace DI
open PySem L2 PySem.W
def dC (cs:List Str) (yes:Str->Bool) (d:D) (s:aa):Res D:=match d with
 | .ar=>ok (.bl false) s
 | .exc c _=>if decide (c∈cs)=true then ok (.bl (yes c)) s else none
 |_=>none
def qv (K:Ď) (cs:List Str) (T:Å) (yes:Str->Bool):Prop:=kitOne K (.type "NoneType") T=some false/\∀c∈cs,∃C,nsIn K Ò c=some (some (.ref C))/\nA K C=true/\kitOne K (.ref C) T=some (yes c)
section
variable {X:Cx} {Ξ:Wd->aR->Prop} {a:ġ} {pos:Pos} {f:abC D}
def Uc {cs:List Str} {T:Å} {yes:Str->Bool} (hc:qv X.K cs T yes) {vT:V} (hT:∀u,RelV vT u->u=T):cS X (.builtin "isinstance") (λxs H Q=>∃(w:Wd) (d:D) (x:V),w.H=H/\aI X.K w/\DV X.K w d x/\xs=[x,vT]/\Out X.K Ξ w (dC cs yes d w.ay) λw' d=>∀v,DV X.K w' d v->Q v w'.H):=by
 rintro A s σ H y N Q I r ⟨w,d,x,rfl,S,U,rfl,h⟩;obtain⟨Y,W,R,Z⟩:∃Y,RelV x Y/\∃R,N=[Y,R]/\RelV vT R:=by
  cases r with
  |cons W Z=>cases Z with|cons Z M=>cases M;exact⟨_,W,_,rfl,Z⟩
 obtain⟨rfl,Z⟩:=Z;cases hT _ Z
 cases d with
 |ar =>
  have e:x=.ar:=U;subst e;have e:Y=Value.none:=W;subst e;exact kia_one kitx_none I.eO trivial hc.1 (by intro z;cases z) λP=>⟨.bl false,w.H,I.tok P,rfl,aA S h _ rfl⟩
 |exc c _ =>
  simp only[DV] at U;obtain⟨b,o,C,rfl,L,⟨J,G⟩,_⟩:=U;have e:Y=Ļ b:=W;subst e;unfold dC at h;dsimp only at h;split at h
  ·rename_i F
   obtain⟨t,O,E,B⟩:=hc.2 c (ÿ F);rw[G] at O;cases O;exact kia_one (Qe J E) I.eO (I.aB b _ L.2).1 B (by intro z;cases z) λP=>⟨.bl (yes c),w.H,I.tok P,rfl,aA S h _ rfl⟩
  ·exact h.elim
 |_=>exact h.elim
def IJ {cs:List Str} {T:Å} {yes:Str->Bool} {vT:V} {cn:Str} {p np:Pos} (hc:qv X.K cs T yes) (hT:∀u,RelV vT u->u=T) (h1:PE X (.Name cn np) (tC vT)) (ha:PE X a (tE X.K Ξ f)) (hm:X.mg "isinstance"=none) (hv:ú "isinstance"=some (.builtin "isinstance")) (hg:Gl X "isinstance":=by rfl)
  (hs:Ê [a,.Name cn np] X.env=(false,ĩ a X.env)::Ê [.Name cn np] X.env:=by rfl) (fE:Ê [.Name cn np] X.env=(false,ĩ (.Name cn np) X.env)::Ê [] X.env:=by rfl) (bH:(ħ pos (Ê [.Name cn np] X.env)).any (·.1)=false:=by rfl) :
  PE X (.Call (.Name "isinstance" p) [a,.Name cn np] [] pos) (tE X.K Ξ (e1 (dC cs yes) f)) :=
 b9 (vQ (Uc (Ξ:=Ξ) hc hT) hg hm hv (jd ha (jd h1 l7 fE) hs) (by decide) (by decide) hs bH) fun σ H Q Z=>by
  obtain⟨w,env,Y,S,W,h⟩:=Z;subst Y;exact⟨w,env,rfl,S,W,(Out.ao h).mono λU x O R h1 v1 P=>⟨U,x,v1,rfl,R,P,rfl,h1⟩⟩
end
open PyProof.Rows PySem.SeqAt
def Cr (d:D) (s:aa):Res D:=match d with
 | .lst Z=>match gE Z with
  |some bs=>ok (.int (bs.count true:Nat)) s
  |none=>none
 |_=>none
def D6 (d:D) (s:aa):Res D:=match d with
 | .lst Z=>match gE Z with
  |some bs=>if (decide (bs.idxOf true<bs.length)&&decide (bs.length<=100))=true then ok (.int (bs.idxOf true:Nat)) s else none
  |none=>none
 |_=>none
theorem JP:∀(bs:List Bool) (m:Nat) (h:m<bs.length),m<bs.idxOf true->bs[m]=false
 | [],m,h,_=>absurd h (abk _)
 |true::r,m,h,g=>by simp at g
 |false::r,0,h,g=>rfl
 |false::r,m+1,h,g=>by
  have e:(false::r).idxOf true=r.idxOf true+1:=by rw[List.idxOf_cons];rfl
  rw[e] at g;exact JP r m (by simpa using h) (by omega)
noncomputable def rp:Å->Bool
 | .bool b=>b
 |_=>false
theorem zl:∀{bs:List Bool} {its:List Å},Vals (bs.map V.bl) its->its=bs.map Ő
 | [],_,.nil=>rfl
 |b::r,_,.cons e t=>by
  have e:_=Ő b:=e;rw[e,zl t];rfl
theorem HD:∀bs:List Bool,(bs.map Ő).countP rp=bs.count true
 | []=>rfl
 |b::r=>by
  rw[Ý,List.countP_cons,List.count_cons,HD r]
  cases b<;>rfl
def IK {A:ê} {s:Ä} {bs:List Bool} (y:Å) (hy:y∈(bs.map Ő).toArray):EqAt A s y (.bool true) (rp y):=by
 have hy:y∈bs.map Ő:=by simpa using hy
 obtain⟨b,_,rfl⟩:=Ĕ.mp hy;have h:=EqAt.bool_bool (A:=A) (s:=s) b true
 cases b<;>exact h
section
variable {X:Cx} {Ξ:Wd->aR->Prop} {o:ġ} {f:abC D} {p apos bj:Pos} {j:Nat}
def Qf:yn X "list.count" (λx xs H Q=>∃(a:Ø) (bs:List Bool),x=.ref a/\xs=[.bl true]/\bw X.K H a (bs.map V.bl)/\Q (.int (bs.count true:Nat)) H):=by
 rintro E s σ H x xs v U Q I T S ⟨a,bs,rfl,rfl,R,h⟩;have e:v=Ļ a:=T;subst e;obtain⟨u,rfl,rfl⟩:∃u,U=[u]/\u=Ő true:=by
  cases S with|cons P O=>cases O;exact⟨_,rfl,P⟩
 obtain⟨its,N,M,_⟩:=I.list R;cases zl N;obtain⟨⟨cls,L,data,J⟩,n,Z,Y,_,W⟩:=M;simp only at Y W;subst Y W;refine abb PySem.F.slot_list_count ⟨_,Z,rfl⟩ PySem.F.entry_list_count (PySem.F.args_list_count_2 _ _) (list_countAt a _ n L J (.bool true) rp) ⟨Z,λy G=>IK y G,?_⟩;rw[show (bs.map Ő).toArray.toList=bs.map Ő from rfl,HD];exact⟨.int _,H,I.tok _,⟨_,rfl⟩,h⟩
def Qg:yn X "list.index" (λx xs H Q=>∃(a:Ø) (bs:List Bool),x=.ref a/\xs=[.bl true]/\bw X.K H a (bs.map V.bl)/\bs.idxOf true<bs.length/\bs.length<=100/\Q (.int (bs.idxOf true:Nat)) H):=by
 rintro A s σ H x xs v T Q I S R ⟨a,bs,rfl,rfl,P,O,z,h⟩;have e:v=Ļ a:=S;subst e;obtain⟨u,rfl,rfl⟩:∃u,T=[u]/\u=Ő true:=by
  cases R with|cons N M=>cases M;exact⟨_,rfl,N⟩
 obtain⟨its,L,J,_⟩:=I.list P;cases zl L;obtain⟨⟨cls,G,data,E⟩,n,Z,Y,_,W⟩:=J;simp only at Y W;subst Y W;have sz:(bs.map Ő).toArray.size=bs.length:=by simp
 refine abb PySem.F.slot_list_index ⟨_,Z,rfl⟩ PySem.F.entry_list_index (PySem.F.args_list_index_2 _ _) (list_indexAt a _ n G E (.bool true) rp (bs.idxOf true) (by rw[sz];exact O) (by omega) ?_ ?_) ⟨Z,λy D=>IK y D,?_⟩
 ·simp[rp,List.getElem_idxOf]
 ·intro m U C
  have B:=JP bs m (by rw[sz] at U;exact U) C;simp[rp,B]
 ·exact⟨.int _,H,I.tok _,⟨_,rfl⟩,h⟩
def Ud (ho:PE X o (tE X.K Ξ f))
  (jU:Ŀ o "count" X.env (ĩ o X.env)=ĩ o X.env:=by rfl)
  (o7:((ħ bj (Ê [.Constant (.bool true) j p] X.env)).all (λx=>!x.1)&&(aav bj (ŗ [] X.env)).all (λx=>x.1.isSome)
   && decide (([.Constant (.bool true) j p]:List ġ).length+([]:List aa3).length+(if ([]:List aa3).isEmpty then 0 else 1)<30))=true:=by rfl)
  (jV:(apos.endLine==bj.line)=true:=by rfl) (hs:Ê [.Constant (.bool true) j p] X.env=(false,ĩ (.Constant (.bool true) j p) X.env)::Ê [] X.env:=by rfl) (jP:(ħ bj (Ê [] X.env)).any (·.1)=false:=by rfl) :
  PE X (.Call (.Attribute o "count" apos) [.Constant (.bool true) j p] [] bj) (tE X.K Ξ (e1 Cr f)) :=
 b9 (Bo ź PySem.F.slot_list_count PySem.F.type_list_count Qf ho (jd Bl l7 hs) jU o7 jV hs jP) fun σ H Q V=>by
  obtain⟨w,env,U,S,T,h⟩:=V;subst U;refine⟨w,env,rfl,S,T,(Out.ao h).mono λO d N R Z v Y=>?_⟩
  cases d with
  |lst M =>
   unfold Cr at Z;dsimp only at Z;split at Z
   ·rename_i bs P
    simp only[DV] at Y;obtain⟨a,L,rfl,W,r⟩:=Y;cases sS P;cases r.sH;exact⟨.inl ⟨rfl,_,W.sq⟩,a,bs,rfl,rfl,W.sq,aA R Z _ rfl⟩
   ·exact Z.elim
  |_=>exact Z.elim
def VD (ho:PE X o (tE X.K Ξ f))
  (jU:Ŀ o "index" X.env (ĩ o X.env)=ĩ o X.env:=by rfl)
  (o7:((ħ bj (Ê [.Constant (.bool true) j p] X.env)).all (λx=>!x.1)&&(aav bj (ŗ [] X.env)).all (λx=>x.1.isSome)
   && decide (([.Constant (.bool true) j p]:List ġ).length+([]:List aa3).length+(if ([]:List aa3).isEmpty then 0 else 1)<30))=true:=by rfl)
  (jV:(apos.endLine==bj.line)=true:=by rfl) (hs:Ê [.Constant (.bool true) j p] X.env=(false,ĩ (.Constant (.bool true) j p) X.env)::Ê [] X.env:=by rfl) (jP:(ħ bj (Ê [] X.env)).any (·.1)=false:=by rfl) :
  PE X (.Call (.Attribute o "index" apos) [.Constant (.bool true) j p] [] bj) (tE X.K Ξ (e1 D6 f)) :=
 b9 (Bo ź PySem.F.slot_list_index PySem.F.type_list_index Qg ho (jd Bl l7 hs) jU o7 jV hs jP) fun σ H Q U=>by
  obtain⟨w,env,T,S,R,h⟩:=U;subst T;refine⟨w,env,rfl,S,R,(Out.ao h).mono λN d M P Z v W=>?_⟩
  cases d with
  |lst L =>
   unfold D6 at Z;dsimp only at Z;split at Z
   ·rename_i bs O
    split at Z
    ·rename_i Y
     rw[Æ,Ì,Ì] at Y;simp only[DV] at W;obtain⟨a,J,rfl,V,r⟩:=W;cases sS O;cases r.sH;exact⟨.inl ⟨rfl,_,V.sq⟩,a,bs,rfl,rfl,V.sq,Y.1,Y.2,aA P Z _ rfl⟩
    ·exact Z.elim
   ·exact Z.elim
  |_=>exact Z.elim
end
end DI
namespace L2
open PySem PySem.Spec PyProof.Rows PySem.W
def OC {Pr:ã} {w:Ă} {K:Ď} {mg mb:Str->Option Å} {CX:i7} {k:Nat} {fa a c P:Ø} {fd:Ė} {x:Str} {sp:Sp} {bB:Ä} {vs:List Å} {ns:List Int}
  (KX:K.In bB.heap) (nP:bB.heap.Ns Ò mg) (hb:bB.heap.Ns builtinsNs mb) (YF:∀x:Str,x≠"__name__"->mb x=ú x) (Xc:bB.heap.NoLimit) (hg:bB.gens=#[])
  (ha:bB.heap.get? a=some { cls:=.type "list",data:=.seq vs.toArray }) (hi:aaJ vs ns) (hl:ns.length<=Ú) (hr:bp k callerA)
  (CT:CodeHd bB.heap c P) (hP:bB.heap.get? P=some (tabObj #[])) (D7:K.lookup P=none) (D8:bB.heap.BuiltinsAt mg P)
  (F:∀base:ĥ,K.In base->base.Ns Ò mg->base.BuiltinsAt mg P->cB Pr w K mg base CX k fa fd [x] sp) (BB:∀(s:Ä) (u:Å),BindsTo s fd ⟨[u],[]⟩ [(x,u)])
  (i9:∀H:Hp,H P=some (.dD #[])->bw K H a (ns.map V.int)->sp [.ref a] H (λv _=>v=.bl true) λ_ _ _=>False)
  (D9:∀H e s',CX [] H bB (λ_ _ _=>False) e s'->False) :
  ŷ (ä Pr w) callerA (.call (.ref fa) ⟨[.ref a],[]⟩) (λr s'=>r=.ok (.ret (.bool true))/\OldK bB.heap s'.heap/\s'.os=bB.os/\aby s'.gens) bB:=by
 have Q:=FP hi;have D:=hi.length;have O:a≠P:=λz=>by rw[z,hP] at ha;cases ha
 have core:∀H:Hp,H P=some (.dD #[])->(∀b,H b=none\/b=P\/(b=a/\∃o U,H b=some (.aX o (.lst U))))->bw K H a (ns.map V.int)->cm Pr w H bB.heap->(H a≠none->K.lookup a=none) ->
   ŷ (ä Pr w) callerA (.call (.ref fa) ⟨[.ref a],[]⟩) (λr s'=>r=.ok (.ret (.bool true))/\OldK bB.heap s'.heap/\s'.os=bB.os/\aby s'.gens) bB:=by
  intro H N T C M B;have free:∀{b:Ø} {o:Obj},bB.heap.get? b=some o->o≠tabObj #[]->o≠{ cls:=.type "list",data:=.seq vs.toArray }->H b=none:=λ{b o} e A y=>by
   rcases T b with z|z | ⟨z,_⟩
   ·exact z
   ·rw[z,hP] at e;exact absurd (abH e).symm A
   ·rw[z,ha] at e;exact absurd (abH e).symm y
  have X:∀{b:Ø} {m:Str->Option Å},bB.heap.Ns b m->(mw bB.heap H).Ns b m:=λ{b m} ⟨o,t,p,e,d,r⟩=>⟨o,t,p,zr e (free e (λz=>by rw[z] at d;cases d) λz=>by rw[z] at d;cases d),d,r⟩;have L:K.In (mw bB.heap H):=λb o e=>zr (KX b o e) (by
   rcases T b with z|z | ⟨z,J,U,W⟩
   ·exact z
   ·rw[z,D7] at e;cases e
   ·subst z;rw[B (by rw[W];intro z;cases z)] at e;cases e)
  have l:Mod K mg (mw bB.heap H):=⟨L,X nP,⟨mb,X hb,YF⟩,let ⟨j,i,g⟩:=Xc;⟨j,X i,g⟩⟩
  have f:(mw bB.heap H).BuiltinsAt mg P:=let ⟨bm,o,b1,b2,b3,b4,I,S,r⟩:=D8;⟨bm,o,b1,b2,b3,b4,zr I (free I (λz=>by rw[z] at S;cases S) λz=>by rw[z] at r;cases r.2),S,r⟩
  have e0:mx Pr w K mg (mw bB.heap H) callerA [] bB H:=⟨rfl,l,λb o e=>QR e,abo (N4 _ _),trivial,λb hb=>absurd (show b∈([]:List Ø) from hb) (by simp),M,.of_eq hg⟩;refine ō ((F _ L (X nP) f).run callerA [] bB H ⟨[.ref a],[]⟩ [.ref a] [.ref a] _ _ hr e0 (BB bB (.ref a)) (.cons rfl .nil) (i9 H N C)) λr s' h=>?_
  cases r with
  |error e=>exact(D9 H e s' h).elim
  |ok fl =>
   cases fl with
   |next=>exact ď h
   |brk=>exact ď h
   |cont=>exact ď h
   |ret u =>
    obtain⟨v,H',os,bare,un,G,r',q⟩:=h;have q':v=.bl true:=q;subst q';obtain rfl:u=Ő true:=r';have keep:∀b o,bB.heap.get? b=some o->b≠P->s'.heap.get? b=some o:=λb o e n=>by
     rcases T b with z|z | ⟨z,J,U,W⟩
     ·exact un.keep b o e z (by intro z;exact absurd (show b∈([]:List Ø) from z) (by simp)) (by simp)
     ·exact absurd z n
     ·obtain⟨e1,_⟩:=M b _ W
      obtain⟨e2,_⟩:=G b _ (un.ei b J _ W);rw[e] at e1;cases e1;exact e2
    obtain⟨more,hm⟩:=un.fy P _ N;have E:s'.heap.get? P=some (tabObj (#[]++more)):=G P _ hm;refine⟨rfl,⟨λb o e=>?_,λb o e=>?_⟩,os,bare⟩
    ·by_cases hb:b=P
     ·subst hb
      rw[hP] at e;cases e;exact .inr (.inl ⟨(CT.tab hP).isCodeTable,rfl,#[],more,rfl,E⟩)
     ·exact .inl (keep b o e hb)
    ·by_cases hb:b=P
     ·subst hb;exact⟨_,E⟩
     ·exact⟨o,keep b o e hb⟩
 cases R:K.lookup a with
 |some o =>
  have e:=KX a o R;rw[ha] at e;cases e
  refine core (λb=>if b=P then some (.dD #[]) else none) (ß rfl) (λb=>?_) (.inr ⟨_,vs.toArray,_,R,rfl,rfl,rfl,by rw[Ù,D];exact hl,by simpa using Q⟩) (λb u z=>?_) (λz=>absurd (è O) z)
  ·by_cases hb:b=P
   ·exact .inr (.inl hb)
   ·exact .inl (è hb)
  ·by_cases hb:b=P
   ·have Z:=(ß hb).symm.trans z
    cases Z;subst hb;exact hP
   ·have Z:=(è hb).symm.trans z
    cases Z
 |none =>
  refine core (λb=>if b=P then some (.dD #[]) else if b=a then some (.aX { cls:=.type "list",data:=.seq vs.toArray } (.lst (ns.map V.int))) else none) (ß rfl) (λb=>?_) (.inl (.inr ⟨{ cls:=.type "list",data:=.seq vs.toArray },(è O).trans (ß rfl)⟩)) (λb u z=>?_) (λ_=>R)
  ·by_cases hb:b=P
   ·exact .inr (.inl hb)
   ·by_cases Y:b=a
    ·exact .inr (.inr ⟨Y,_,_,(è hb).trans (ß Y)⟩)
    ·exact .inl ((è hb).trans (è Y))
  ·by_cases hb:b=P
   ·have Z:=(ß hb).symm.trans z
    cases Z;subst hb;exact hP
   ·by_cases Y:b=a
    ·have Z:=((è hb).trans (ß Y)).symm.trans z
     cases Z;subst Y;exact⟨ha,by rw[É];exact hl,vs,_,Q,ha⟩
    ·have Z:=((è hb).trans (è Y)).symm.trans z
     cases Z
end L2
namespace DI
open PySem L2 PySem.W
def VE {P:ã} {w:Ă} {K:Ď} {mg:Str->Option Å} {base:ĥ} {x:Str} {st:aaX} {f c T:Ø} {fd:Ė} {ps:List Str} {k:Nat} {b:abC Fl} (G:Gd K mg x st ps f fd) (hx:nsIn K Ò x=some (some (.ref f))) (ht:tabIn K x=some (c,T)) (N:List Str) (S:nI N ps (bX st)=true)
  (hb:N.Nodup->∀(A:ê) (outer:List PySem.Env) (s:Ä) (H:Hp) (E:XK),bp k (A.deeper (į x (bX st) s.heap.objs.size f (.ref c)))->cP (gr dA P w K mg base N x (bX st) f (.ref c) A outer s H E).mK (fH st) (tS K bR b)) :
  cB P w K mg base dA (k+1) f fd ps (jF K (aN ps.length N.length b)):=by
 obtain⟨D,C,kV,doc,pm,an,X,ct,B,rfl,lk,U⟩:=G.fn.ex;have R:X=.ref c:=by
  unfold tabIn at ht;rw[hx] at ht;dsimp only at ht;rw[lk] at ht;dsimp only at ht
  cases X with
  |ref z =>
   dsimp only at ht;split at ht
   ·split at ht
    ·cases ht;rfl
    ·cases ht
   ·cases ht
  |_=>cases ht
 subst R;refine xo lk U (jh S) (λO H Q E h=>?_) λA outer s H O Q E M h=>?_
 ·obtain⟨w,L,rfl,S,Y,h⟩:=h
  rw[<- Y.length];unfold aN at h;split at h
  ·assumption
  ·exact h.elim
 ·obtain⟨W,L,rfl,J,Y,h⟩:=h
  refine⟨_,(hb (jh S).nd A outer s W.H E M).mK,?_⟩;unfold aN at h;split at h
  ·rename_i I
   rw[<- I] at h;refine⟨W,_,rfl,J,Y.env N.length,(Out.ao h).mono λy F v V Z=>?_⟩
   cases F with
   |nx env=>intro u _;exact aA V Z _ rfl
   |rt d=>have q:=aA V Z;exact q
   |bk env=>exact Z.elim
   |ct env=>exact Z.elim
  ·exact h.elim
def wV (K:Ď) (T:Ø):Sp:=λY H Q _=>∃(a:Ø) (Z:List Int),Y=[.ref a]/\bw K H a (Z.map V.int)/\Z.length<=63/\H T=some (.dD #[])/\∀X,Q (.bl true) X
def RM {P:ã} {w:Ă} {K:Ď} {mg:Str->Option Å} {base:ĥ} {k:Nat} {f c T:Ø} {fd:Ė} {x y:Str} {g:List D->aa->Res D} (F:cB P w K mg base dA k f fd [x] (jF K g)) (ht:tabIn K y=some (c,T))
  (h:∀ns:List Int,ns.length<=63->∃s,g [.bO ns] [.tb y]=some (.ok (.bl true),s)):cB P w K mg base dA k f fd [x] (wV K T):=F.imp λU H Q E ⟨a,ns,e,hS,X,Y,q⟩=>by
 subst e;obtain⟨s,hs⟩:=h ns X;have W:∀b,(⟨[T],[.tb y],H⟩:Wd).Z b->b=T:=λb ⟨k,c,e1,_,_⟩=>by
  cases k with
  |zero=>exact(abH e1).symm
  |succ k=>cases e1
 have S:aI K ⟨[T],[.tb y],H⟩:=by
  refine⟨rfl,by simp,λk a e=>?_,λk a R e1 e2=>?_⟩
  ·cases k with
   |zero=>cases e;show H T≠none;rw[Y];intro z;cases z
   |succ k=>cases e
  ·cases k with
   |zero=>cases e1;cases e2;exact⟨c,#[],ht,Y,trivial,λpos O z=>by cases z⟩
   |succ k=>cases e1
 refine⟨⟨[T],[.tb y],H⟩,[.bO ns],rfl,S,aq.one ⟨a,rfl,?_⟩,?_⟩
 ·rcases hS with hS|hS
  ·refine .inl ⟨λz=>?_,hS⟩
   rw[W a z] at hS
   rcases hS with hS | ⟨_,hS⟩<;>(rw[Y] at hS;cases hS)
  ·exact .inr hS
 ·show Out K bR _ (g [.bO ns] [.tb y]) _
  rw[hs];intro N _ _ _ v V;have e:v=.bl true:=V;subst e;exact q _
def MC:ú "ValueError"=some (.type "ValueError"):=by decide +kernel
noncomputable def isNm (n c:Str):Bool:=decide (c=n)
noncomputable def anyS (_:Str):Bool:=true
abbrev LC (P:ã) (w:Ă) (K:Ď) (mg:Str->Option Å) (base:ĥ) (x:Str) (st:aaX) (ps:List Str) (k:Nat) (fn:List D->aa->Res D):Prop:=∀{f:Ø} {fd:Ė},Gd K mg x st ps f fd->cB P w K mg base (eR P w) k f fd ps (nX mg K fn)
def fj (K:Ď) (mg:Str->Option Å) (cs:List Str) (n:Str):Prop:=∃C,mg n=some (.ref C)/\qv K cs (.ref C) (isNm n)
def LD (K:Ď) (mg:Str->Option Å) (cs:List Str) (n:Str):Prop:=∃Z,mg n=some (.ref Z)/\∀c∈cs,∃C,nsIn K Ò c=some (some (.ref C))/\mg c=some (.ref C)/\exmOne K (.ref C) (.ref Z)=some true
section
variable {X:Cx} {E:XK} {Ξ:Wd->aR->Prop} {e a b c:ġ} {es rest:List ġ} {pos:Pos} {f g h:abC D} {fa:abC (List D)}
def JQ {k n:Nat} {x:Str} {st:aaX} {ps:List Str} {fn:List D->aa->Res D} {p:Pos} (G:GG X.K X.mg x st ps) (F:LC X.prog X.w X.K X.mg X.base x st ps k fn) (L:Passes (eR X.prog X.w) X E) (hr:bp n X.A) (ha:PA X (e::es) (tA X.K (eT X.mg E) fa)) (hk:k<=n:=by decide) (hg:Gl X x:=by rfl) (dh:(x==("__debug__":Str))=false:=by decide)
  (he:Ê (e::es) X.env=(false,ĩ e X.env)::Ê es X.env:=by rfl) (bH:(ħ pos (Ê es X.env)).any (·.1)=false:=by rfl):PE X (.Call (.Name x p) (e::es) [] pos) (tE X.K (eT X.mg E) (qJ fn fa)):=by
 obtain⟨f,fd,G⟩:=G;exact RL L (F G) (hr.mono hk) hg G.mg G.fn.kp G.b ha dh he bH
def fI {cs:List Str} {cn:Str} {p np:Pos} (hc:fj X.K X.mg cs cn) (ha:PE X a (tE X.K Ξ f)) (hm:X.mg "isinstance"=none) (hg:Gl X "isinstance":=by rfl) (Ea:Gl X cn:=by rfl) (hd:(cn==("__debug__":Str))=false:=by decide)
  (hs:Ê [a,.Name cn np] X.env=(false,ĩ a X.env)::Ê [.Name cn np] X.env:=by rfl) (fE:Ê [.Name cn np] X.env=(false,ĩ (.Name cn np) X.env)::Ê [] X.env:=by rfl) (bH:(ħ pos (Ê [.Name cn np] X.env)).any (·.1)=false:=by rfl) :
  PE X (.Call (.Name "isinstance" p) [a,.Name cn np] [] pos) (tE X.K Ξ (e1 (dC cs (isNm cn)) f)):=by
 obtain⟨C,Z,h⟩:=hc;exact IJ (vT:=.ref C) h (λu r=>r) (Hb Ea Z rfl hd) ha hm hV hg hs fE bH
def Ue {cs:List Str} {p np:Pos} (hc:qv X.K cs (.type "ValueError") anyS) (ha:PE X a (tE X.K Ξ f)) (hm:X.mg "isinstance"=none) (YG:X.mg "ValueError"=none) (hg:Gl X "isinstance":=by rfl) (Ea:Gl X "ValueError":=by rfl)
  (hs:Ê [a,.Name "ValueError" np] X.env=(false,ĩ a X.env)::Ê [.Name "ValueError" np] X.env:=by rfl) (fE:Ê [.Name "ValueError" np] X.env=(false,ĩ (.Name "ValueError" np) X.env)::Ê [] X.env:=by rfl) (bH:(ħ pos (Ê [.Name "ValueError" np] X.env)).any (·.1)=false:=by rfl) :
  PE X (.Call (.Name "isinstance" p) [a,.Name "ValueError" np] [] pos) (tE X.K Ξ (e1 (dC cs anyS) f)) :=
 IJ (vT:=.ty "ValueError") hc (λu r=>r) (wa Ea YG MC rfl) ha hm hV hg hs fE bH
end
def kS (K:Ď) (cs asked:List Str) (iX:Str):Bool :=
 cs.all (λc=>match nsIn K Ò c with
  |some (some (.ref C))=>excIn K C [.type "ValueError",.type "Exception",.type "BaseException",.type "object"] "ValueError.__new__"&&nA K C&&(kitOne K (.ref C) (.type "ValueError")==some true) &&
   (match nsIn K Ò iX with|some (some (.ref Z))=>exmOne K (.ref C) (.ref Z)==some true | _=>false) &&
   asked.all (λn=>match nsIn K Ò n with|some (some (.ref A))=>kitOne K (.ref C) (.ref A)==some (isNm n c) | _=>false)
  |_=>false) &&
 asked.all (λn=>match nsIn K Ò n with|some (some (.ref A))=>kitOne K (.type "NoneType") (.ref A)==some false | _=>false)&&(kitOne K (.type "NoneType") (.type "ValueError")==some false) &&
 (match nsIn K Ò iX with|some (some (.ref _))=>true | _=>false)
noncomputable def AU (K:Ď) (x:Str):Bool:=match tabIn K x with
 |some (c,P)=>codeHdIn K c P&&(K.lookup P).isNone
 |none=>false
def RN {K:Ď} {x:Str} (h:AU K x=true):∃c P,tabIn K x=some (c,P)/\codeHdIn K c P=true/\K.lookup P=none:=by
 unfold AU at h;split at h
 ·rename_i c P e
  rw[Æ] at h;exact⟨c,P,e,h.1,Z8.mp h.2⟩
 ·cases h
def sW {K:Ď} {x:Str} {p:Ø->Bool} (h:(match nsIn K Ò x with|some (some (.ref C))=>p C | _=>false)=true):∃C,nsIn K Ò x=some (some (.ref C))/\p C=true:=by
 split at h
 ·rename_i C e
  exact⟨C,e,h⟩
 ·cases h
section
variable {K:Ď} {cs asked:List Str} {iX:Str} {h:ĥ} {mg:Str->Option Å}
def x_at (f:kS K cs asked iX=true) {c:Str} (hc:c∈cs):∃C,nsIn K Ò c=some (some (.ref C))/\excIn K C [.type "ValueError",.type "Exception",.type "BaseException",.type "object"] "ValueError.__new__"=true/\nA K C=true/\kitOne K (.ref C) (.type "ValueError")=some true /\
  (∃CM,nsIn K Ò iX=some (some (.ref CM))/\exmOne K (.ref C) (.ref CM)=some true)/\∀n∈asked,∃A,nsIn K Ò n=some (some (.ref A))/\kitOne K (.ref C) (.ref A)=some (isNm n c):=by
 unfold kS at f;simp only[Æ] at f;obtain⟨C,e,q⟩:=sW (ë.mp f.1.1.1 c hc);simp only[Æ,beq_iff_eq] at q;obtain⟨⟨⟨⟨X,W⟩,V⟩,Z⟩,Y⟩:=q;obtain⟨CM,U,Z⟩:=sW Z;refine⟨C,e,X,W,V,⟨CM,U,beq_iff_eq.mp Z⟩,λn T=>?_⟩;obtain⟨A,S,Y⟩:=sW (ë.mp Y n T);exact⟨A,S,beq_iff_eq.mp Y⟩
def Ct (X:K.In h) (G:h.Ns Ò mg) (f:kS K cs asked iX=true) {c:Str} (hc:c∈cs):uu K mg c:=by
 obtain⟨C,e,q,_⟩:=x_at f hc;exact⟨C,e,mg_of X G e,q⟩
def Xe (X:K.In h) (G:h.Ns Ò mg) (f:kS K cs asked iX=true):LD K mg cs iX:=by
 have Z:=f;unfold kS at Z;simp only[Æ] at Z;obtain⟨Y,e,_⟩:=sW Z.2;refine⟨Y,mg_of X G e,λc W=>?_⟩;obtain⟨C,e1,_,_,_,⟨V,e2,q⟩,_⟩:=x_at f W;rw[e] at e2;cases e2;exact⟨C,e1,mg_of X G e1,q⟩
def fP (X:K.In h) (G:h.Ns Ò mg) (f:kS K cs asked iX=true) {n:Str} (hn:n∈asked):fj K mg cs n:=by
 have Z:=f;unfold kS at Z;simp only[Æ] at Z;obtain⟨A,e,q⟩:=sW (ë.mp Z.1.1.2 n hn);refine⟨A,mg_of X G e,beq_iff_eq.mp q,λc Y=>?_⟩;obtain⟨C,e1,_,W,_,_,V⟩:=x_at f Y;obtain⟨T,e2,U⟩:=V n hn;rw[e] at e2;cases e2;exact⟨C,e1,W,U⟩
def VF (f:kS K cs asked iX=true):qv K cs (.type "ValueError") anyS:=by
 have Z:=f;unfold kS at Z;simp only[Æ,beq_iff_eq] at Z;refine⟨Z.1.2,λc Y=>?_⟩;obtain⟨C,e1,_,X,W,_⟩:=x_at f Y;exact⟨C,e1,X,W⟩
end
end DI
namespace L2
open PySem PySem.Spec PyProof.Rows PySem.W
structure gn (k:Nat) (A:ê):Prop where
 dp:A.depth+3*k+5<recursionLimit
 un:A.units+16*k+200<abz
def bp.h {k:Nat} {A:ê} (r:bp k A):gn k A:=⟨r.dp,r.un⟩
def gn.mono {j k:Nat} {A:ê} (r:gn k A) (h:j<=k):gn j A:=⟨by have:=r.dp;omega,by have:=r.un;omega⟩
theorem gn.deeper {k:Nat} {A:ê} (r:gn (k+1) A) (env:Env):gn k (A.deeper env) :=
 ⟨by have:=r.dp;show A.depth+1+3*k+5 < _;omega,by have:=r.un;show A.units+3+16*k+200 < _;omega⟩
theorem gn.depth {k:Nat} {A:ê} (r:gn k A):A.depth<recursionLimit:=by have:=r.dp;omega
def gn.held {k:Nat} {A:ê} (r:gn k A) (v:Option Å):gn k (A.mark v):=⟨r.dp,r.un⟩
structure xw (P:ã) (w:Ă) (K:Ď) (mg:Str->Option Å) (base:ĥ) (k:Nat) (f:Ø) (fd:Ė) (ps:List Str) (sp:Sp):Prop where
 len:∀vs H Q E,sp vs H Q E->vs.length=ps.length
 run:∀(A:ê) (outer:List Env) (s:Ä) (H:Hp) (args:Args) (us:List Å) (vs:List V) (Q:VK) (E:XK),gn k A->mx P w K mg base A outer s H->BindsTo s fd args (ps.zip us)->Vals vs us->sp vs H Q E ->
  ŷ (ä P w) A (.call (.ref f) args) (CR dA outer P w H s Q E) s
noncomputable abbrev _root_.PySem.Around.xx (A:ê):ê:={ A with handled:=none }
noncomputable abbrev Cx.loud (X:Cx) (A:ê):Cx:={ X with A:=A,calm:=false,xe:=λ_ _=>False }
theorem Inv.loud {X:Cx} {π:List (Ø×Obj)} {σ:St} {H:Hp} {s:Ä} (I:Inv X π σ H s) (A:ê) (h:A.frames=X.A.frames):Inv (X.loud A) π σ H s:=by
 obtain⟨⟨a1,a2,Z,Y,W,V,U,T,v,S,R,Q,P,O,N,M,L,K⟩,J,G,F,E,D,C,B,y,x,w⟩:=I;exact⟨⟨a1,a2,Z,Y,W,V,U,T,λz=>absurd z Ï,h.trans S,R,Q,P,O,N,M,L,K⟩,J,G,F,E,D,C,B,y,x,w⟩
def Ug {P:ã} {w:Ă} {K:Ď} {mg:Str->Option Å} {base:ĥ} {k:Nat} {f:Ø} {name qual:Str} {params:abv} {body:List aaX} {scope:ι} {dV kV doc pm aO ct oc:Å} {an od:Option Ø}
  {iL:Array (Option Å)} {N ps:List Str} {sp:Sp} (lk:K.lookup f=some ⟨oc,od,.func (Ŏ name qual params body scope dV kV doc pm an aO ct),iL⟩) (dE:Z2 K aO qual=true) (S:oz N ps scope)
  (len:∀vs H Q E,sp vs H Q E->vs.length=ps.length)
  (jT:∀(A:ê) (outer:List Env) (s:Ä) (H:Hp) (vs:List V) (Q:VK) (E:XK),gn k (A.deeper (abB qual scope s.heap.objs.size f aO))->sp vs H Q E ->
   ∃t,cP ((gr dA P w K mg base N qual scope f aO A.xx outer s H E).loud (A.deeper (abB qual scope s.heap.objs.size f aO))) body t/\t { nx:=λ_ H'=>Q .ar H',rt:=Q } (start N vs) H) :
  xw P w K mg base (k+1) f (Ŏ name qual params body scope dV kV doc pm an aO ct) ps sp:=by
 refine⟨len,λA outer s H args p vs Q E T Z M r R=>?_⟩;have L:=len _ _ _ _ R;have O:K.In s.heap:=Z.mod.jz.keeps λb o e=>(Z.bs b o e).1;have lim:s.heap.NoLimit:=Z.mod.nolimit.keeps λb o e=>(Z.bs b o e).1;refine codeAny_call_function T.depth (O _ _ lk) rfl S.co S.gen rfl (PySem.W.codeRec_of O dE) (M _ _ _ _ ?_);refine wpAny_newFunctionEnv_cells S.kind (λy G=>?_) λenv F D x=>?_
 ·rcases S.par y.1 (abg G).1 with q|q
  ·exact .inl q
  ·exact .inr ⟨q,ε _ _ _ (.inl q)⟩
 subst F;refine⟨lim.keeps x.toInCall.keep,codeAny_func ?_⟩;obtain⟨t,C,B⟩:=jT A outer s H vs Q E (T.deeper _) R;have I:=(FN (CX:=dA) (P:=P) (w:=w) (A:=A.xx) (E:=E) S rfl ⟨Z.frames,Z.mod,Z.bs,Z.il,Z.ig,Z.km,Z.aB,Z.bare⟩ L r x).loud (A.deeper (abB qual scope s.heap.objs.size f aO)) rfl;refine Ĝ (C [] D (start N vs) H _ I B) (λz X hs=>?_) λe X hs=>hs.elim;have fin:∀{Y:St} {H':Hp} {v:V} {u:Å},Inv ((gr dA P w K mg base N qual scope f aO A.xx outer s H E).loud (A.deeper (abB qual scope s.heap.objs.size f aO))) [] Y H' X->RelV v u->Q v H'->CE outer P w H s Q u X :=
  λ{Y H' v u} J U q=>⟨v,H',J.os,J.bare,J.base,J.aB,U,q⟩
 cases z with
 |ret u=>obtain⟨v,Y,H',J,U,q⟩:=hs;exact fin J U q
 |next=>obtain⟨Y,H',J,q⟩:=hs;exact fin (v:=V.ar) (u:=Value.none) J rfl q
 |brk=>obtain⟨_,_,_,q⟩:=hs;exact q.elim
 |cont=>obtain⟨_,_,_,q⟩:=hs;exact q.elim
section
variable {X:Cx} {k:Nat} {f:Ø} {fd:Ė} {ps:List Str} {sp:Sp} {E:XK} {x:Str} {p pos:Pos} {e:ġ} {es:List ġ} {t:TA}
def Qh (F:xw X.prog X.w X.K X.mg X.base k f fd ps sp) (hr:gn k X.A) (hg:Gl X x) (hm:X.mg x=some (.ref f)) (hk:ľ X.K (.ref f)=true) (hb:Binds X.K fd ps [])
  (ha:PA X (e::es) t) (dh:(x==("__debug__":Str))=false:=by decide) (he:Ê (e::es) X.env=(false,ĩ e X.env)::Ê es X.env:=by rfl) (bH:(ħ pos (Ê es X.env)).any (·.1)=false:=by rfl) :
  PE X (.Call (.Name x p) (e::es) [] pos) (Jl sp [] E0 t):=by
 intro S s σ H Q I h;refine ť (oy I hg hm ?_ dh);refine aau (h₀:=X.base) I.ok.mod.jz hk (aG (ha pos S s σ H _ I h) λZ V ⟨U,R,W,r,q⟩=>⟨W.eO,?_⟩) he bH;have T:Vals (U++[]) (Z++[]):=r.append .nil;have P:(Z++[]).length=ps.length:=by rw[<- T.length];exact F.len _ _ _ _ q
 refine aaI (ō (F.run X.A X.stack V R ⟨Z,[]⟩ (Z++[]) (U++[]) Q E0 hr W.lh (hb V Z W.eO P) T q) λr N Y=>?_)
 cases r with
 |error e=>exact ď Y
 |ok O =>
  cases O with
  |ret u=>exact W.after Y
  |next=>exact ď Y
  |brk=>exact ď Y
  |cont=>exact ď Y
end
end L2
namespace DI
open PySem L2 PySem.W
abbrev LF (P:ã) (w:Ă) (K:Ď) (mg:Str->Option Å) (base:ĥ) (x:Str) (st:aaX) (ps:List Str) (k:Nat) (fn:List D->aa->Res D):Prop:=∀{f:Ø} {fd:Ė},Gd K mg x st ps f fd->xw P w K mg base k f fd ps (jF K fn)
def VG {P:ã} {w:Ă} {K:Ď} {mg:Str->Option Å} {base:ĥ} {x:Str} {st:aaX} {f:Ø} {fd:Ė} {ps:List Str} {k:Nat} {b:abC Fl} (G:Gd K mg x st ps f fd) (N:List Str) (S:nI N ps (bX st)=true)
  (hb:N.Nodup->∀(aO:Å) (A:ê) (outer:List PySem.Env) (s:Ä) (H:Hp) (E:XK),gn k (A.deeper (į x (bX st) s.heap.objs.size f aO))->cP ((gr dA P w K mg base N x (bX st) f aO A.xx outer s H E).loud (A.deeper (į x (bX st) s.heap.objs.size f aO))) (fH st) (tS K bR b)) :
  xw P w K mg base (k+1) f fd ps (jF K (aN ps.length N.length b)):=by
 obtain⟨L,J,kV,doc,pm,an,aO,ct,I,rfl,lk,W⟩:=G.fn.ex;refine Ug lk W (jh S) (λV H Q E h=>?_) λA outer s H V Q E U h=>?_
 ·obtain⟨w,T,rfl,S,Y,h⟩:=h
  rw[<- Y.length];unfold aN at h;split at h
  ·assumption
  ·exact h.elim
 ·obtain⟨w,T,rfl,R,Y,h⟩:=h
  refine⟨_,hb (jh S).nd aO A outer s w.H E U,?_⟩;unfold aN at h;split at h
  ·rename_i O
   rw[<- O] at h;refine⟨w,_,rfl,R,Y.env N.length,(Out.ao h).mono λF M D X Z=>?_⟩
   cases M with
   |nx env=>intro C _;exact aA X Z _ rfl
   |rt d=>have q:=aA X Z;exact q
   |bk env=>exact Z.elim
   |ct env=>exact Z.elim
  ·exact h.elim
def nB (cs:List Str) (told:Str) (f:abC D) (j:Nat) (b:abC Fl):abC Fl:=λenv s=>match f env s with
 |none=>none
 |some (.ok d,s)=>ok (.rt (.tup [.str told,d])) s
 |some (.error x,s)=>if decide (x.c∈cs)=true then ao (b (env.set j (some (.exc x.c x.many))) s) λZ s=>match Z with
   | .nx env=>ok (.nx (env.set j none)) s
   | .rt d=>ok (.rt d) s
   |_=>none else none
section
variable {X:Cx} {E:XK} {Ξ:Wd->aR->Prop} {e a b c:ġ} {es rest:List ġ} {pos:Pos} {f g h:abC D} {fa:abC (List D)}
def VH {k n:Nat} {x:Str} {st:aaX} {ps:List Str} {fn:List D->aa->Res D} {p:Pos} (G:GG X.K X.mg x st ps) (F:LF X.prog X.w X.K X.mg X.base x st ps k fn) (hr:gn n X.A) (ha:PA X (e::es) (tA X.K Ξ fa)) (hk:k<=n:=by decide) (hg:Gl X x:=by rfl) (dh:(x==("__debug__":Str))=false:=by decide)
  (he:Ê (e::es) X.env=(false,ĩ e X.env)::Ê es X.env:=by rfl) (bH:(ħ pos (Ê es X.env)).any (·.1)=false:=by rfl):PE X (.Call (.Name x p) (e::es) [] pos) (tE X.K Ξ (aS fn fa)):=by
 obtain⟨f,fd,G⟩:=G;refine b9 (Qh (F G) (hr.mono hk) hg G.mg G.fn.kp G.b ha dh he bH) fun σ H Q Y=>?_;obtain⟨w,env,W,S,V,h⟩:=Y;subst W;refine⟨w,env,rfl,S,V,(Out.ao h).mono λZ U N T R P O=>?_⟩;show jF X.K fn (P++[]) Z.H Q E0;rw[û];exact⟨Z,U,rfl,T,O,R.ne⟩
def Eb:abC D:=λ_ _=>none
def Kv:PE X e (tE X.K Ξ Eb):=λ_ _ _ _ _ _ ⟨_,_,_,_,_,h⟩=>h.elim
def BC (x y:D) (s:aa):Res D:=match x,y with
 | .int i,.int j=>ok (.bl (!(i==j))) s
 |_,_=>none
def VI:bG X (Ě .NotEq) (rO X.K Ξ BC):=by
 rintro Z s σ H x y v u Q I Y W ⟨w,R,P,rfl,S,U,T,h⟩;unfold BC at h;split at h
 ·rename_i i j
  cases U;cases T;refine Jk Z s σ w.H _ _ v u Q I Y W ⟨rfl,?_⟩;have:(!decide (V.int i=V.int j))=!(i==j):=by
   congr 1;rw[Ł];simp
  rw[this];exact aA S h _ rfl
 ·exact h.elim
def Uh {k i j:Nat} {x cn n told:Str} {p bj oY Xf np rn c0:Pos} {k0 k1} {pre:Hp->Prop} {f:Ø} {vs:List V} {ds:List D} {th:aa->Res D} {uw:aaX} {tN:List aaX} {b:abC Fl} {cs:List Str} (T:yE X.prog X.w X.K X.mg X.base k pre f vs ds th) (h0:pre X.lg) (hr:bp k X.A)
  (hc:∃CM,X.mg cn=some (.ref CM)/\∀c∈cs,∃C,nsIn X.K Ò c=some (some (.ref C))/\X.mg c=some (.ref C)/\exmOne X.K (.ref C) (.ref CM)=some true)
  (hs:∀a,cP (X.held a) (uw::tN) (tS X.K bR b)) (C6:X.N.Nodup)
  (L:X.stack=X.env::X.outer:=by rfl) (hf:X.env.frame=some X.env.locals:=by rfl) (hj:X.N[j]?=some n:=by rfl) (nZ:X.env.scope.names.lookup n=some .local:=by rfl) (hg:Gl X cn:=by rfl) (YH:(cn==("__debug__":Str))=false:=by decide)
  (hN:X.N[i]?=some x:=by rfl) (hv:pH X.env.scope x:=by first|exact aap rfl|exact Or.inr (aap rfl)|exact Or.inr (Or.inr rfl)) (hd:(x==("__debug__":Str))=false:=by decide) (dE:(x==("__classdict__":Str))=false:=by decide)
  (h1:Ê [.Constant (.str told) k0 c0,.Call (.Name x p) [] [] bj] X.env=(false,ĩ (.Constant (.str told) k0 c0) X.env)::Ê [.Call (.Name x p) [] [] bj] X.env:=by rfl) (h2:Ê [.Call (.Name x p) [] [] bj] X.env=(false,ĩ (.Call (.Name x p) [] [] bj) X.env)::Ê [] X.env:=by rfl) :
  PS X (.Try [.Return (some (.Tuple [.Constant (.str told) k0 c0,.Call (.Name x p) [] [] bj] k1 oY)) Xf] [.ExceptHandler (some (.Name cn np)) (some n) (uw::tN) rn] [] [] pos) (tS X.K bR (nB cs told (sg (.cD f vs ds) th i) j b)):=by
 intro g s σ H D I au;obtain⟨w,env,eH,S,eo,h⟩:=au;subst eH;obtain⟨CM,lH,gX⟩:=hc;unfold nB sg at h;by_cases he:env[i]?=some (some (.cD f vs ds))
 case neg=>rw[è he] at h;exact h.elim
 rw[ß he] at h;refine wpAny_Try_except ?_
 let E:XK:=λcls m U=>∃(Y:Wd) (c:Str) (C:Ø) (G:Option Int),Y.H=U/\aI X.K Y/\bK X.K Y env σ/\cls=.ref C/\c∈cs/\X.mg c=some (.ref C)/\(∀i,G=some i->∃W R t,m=some W/\(¬ Y.Z W/\Y.H W=some (.aX R (.own W)))/\lookIn "many" R=some (some (.int i t)))/\Out X.K bR Y (ao (b (env.set j (some (.exc c G))) Y.ay) λF s=>match F with
   | .nx env=>ok (.nx (env.set j none)) s
   | .rt d=>ok (.rt d) s
   |_=>none) (xP X.K D)
 have YI:Out X.K (eT X.mg E) w (th w.ay) λY d=>∀v,DV X.K Y d v->∀q,Y.H q=none->D.rt (.ref q) (upd Y.H q (.tup [.str told,v])):=by
  cases hr:th w.ay with
  |none=>rw[hr] at h;exact h.elim
  |some q =>
   obtain⟨q,s2⟩:=q;rw[hr] at h
   cases q with
   |ok d =>
    intro Y l P e v dv q hq;have l2:=(Fw.grow (K:=X.K) (o:=.tup [.str told,v]) hq).le;exact h (Y.grow q (.tup [.str told,v])) (l.trans l2) (P.grow hq) e (.ref q) ⟨q,_,rfl,bC.of cx,⟨.str told,[v],rfl,rfl,l2.all ⟨v,[],rfl,dv,rfl⟩⟩⟩
   |error y =>
    intro Y l P e;dsimp only at h;split at h
    ·rename_i B
     have B:=ÿ B;obtain⟨C,_,h2,_⟩:=gX _ B;refine⟨C,h2,?_⟩
     cases hm:y.many with
     |none =>
      refine⟨Y,y.c,C,none,rfl,P,eo.le l,rfl,B,h2,(λi z=>by cases z),?_⟩;rw[hm] at h;rw[e];exact h.from l
     |some i =>
      intro W R t O hl;have le:=(Fw.grow (K:=X.K) (o:=.aX R (.own W)) O).le;refine⟨Y.grow W (.aX R (.own W)),y.c,C,some i,rfl,P.grow O,(eo.le l).le le,rfl,B,h2,λi' z=>?_,?_⟩
      ·cases z
       exact⟨W,R,t,rfl,⟨λz=>l8 P O z,cx⟩,hl⟩
      ·rw[hm] at h
       show Out X.K bR _ (ao (b (env.set j (some (.exc y.c (some i)))) Y.ay) _) _;rw[e];exact(h.from l).from le
    ·exact h.elim
 have jT:=λ{M:Ä} (I:Inv X g σ w.H M)=>T9 (pos:=bj) (p:=p) (Q:=λv U=>∀q,U q=none->D.rt (.ref q) (upd U q (.tup [.str told,v]))) T h0 hr hN hv hd dE I S eo he YI;refine wpAny_execs_cons (Ĝ (wpAny_Return_some (Q:=SP X g { nx:=λ_ _=>False,rt:=D.rt }) (E:=wU X g σ E) (wpAny_Tuple_spliced ?_)) (λF M q=>?_) λe M q=>?_)
 ·rw[h1]
  refine aat (Calls.Constant_str (k:=k0) (pos:=c0) ?_);rw[h2];refine aat (aG (jT (I.tok _)) λu M hq=>Calls.spliced_nil ?_);obtain⟨v,H1,I1,r,q⟩:=hq;refine⟨show 2<=Ú by decide,?_⟩;have hf:H1 M.heap.objs.size=none:=I1.aB.fresh (abG _);refine⟨.ref M.heap.objs.size,σ,upd H1 M.heap.objs.size (.tup [.str told,v]),I1.laid (t':=M.toks) (λb u e=>Á _ e) (abG _) ?_,rfl,q _ hf⟩;exact⟨show 2<=Ú by decide,_,.cons ⟨_,rfl⟩ (.cons r .nil),⟨_,Í _ rfl,rfl,_,rfl⟩⟩
 ·cases F with
  |next=>obtain⟨_,_,_,z⟩:=q;exact ď z
  |ret v=>exact q
  |brk=>obtain⟨_,_,_,z⟩:=q;exact ď z
  |cont=>obtain⟨_,_,_,z⟩:=q;exact ď z
 ·refine iX (D:=D) q L hf C6 hj nZ hg lH YH λcls m U hE=>?_
  obtain⟨Y,c,C,G,rfl,P,iN,rfl,yi,YJ,YK,ho⟩:=hE;obtain⟨C2,k1,k2,k3⟩:=gX c yi;rw[YJ] at k2;cases k2;refine⟨k3,λa o O mJ mU s5 I5=>?_⟩;have le:=(Fw.grow (K:=X.K) (o:=.aX o (.own a)) O).le;have S5:=P.grow (o:=.aX o (.own a)) O;have dv:DV X.K (Y.grow a (.aX o (.own a))) (.exc c G) (.ref a):=by
   simp only[DV];refine⟨a,o,C,rfl,⟨λz=>l8 P O z,cx⟩,⟨mJ,k1⟩,λi hi=>?_⟩;obtain⟨W,R,t,q1,q2,q3⟩:=YK i hi;exact⟨mU.1,W,R,t,mU.2 W q1,(Fw.grow (K:=X.K) (o:=.aX o (.own a)) O).aX W R _ q2.1 q2.2,q3⟩
  have hd:=hs a g s5 (σ.set j (some (.ref a))) _ { nx:=fun J U=>D.nx (J.set j none) U,rt:=D.rt,bk:=fun J U=>D.bk (J.set j none) U,ct:=fun J U=>D.ct (J.set j none) U } I5
   ⟨Y.grow a (.aX o (.own a)),env.set j (some (.exc c G)),rfl,S5,(iN.le le).set dv j,(Out.ao (ho.from le)).mono λw6 F l6 S6 q=>?_⟩
  ·exact hd
  ·cases F with
   |nx aD=>exact fun J e'=>aA S6 q (J.set j none) (e'.unset j)
   |rt d=>have z:=aA S6 q;exact z
   |bk aD=>exact q.elim
   |ct aD=>exact q.elim
end
end DI
namespace L2
open PySem PySem.Spec PyProof.Rows
def MD {X:Cx}:cS X (.builtin "isinstance") (λxs H Q=>∃x k p,xs=[x,.ref p]/\nQ X.K H x k/\H p=some (.ext (qO p ["list","tuple"]))/\Q (.bl (decide (k=.tup)||decide (k=.lst))) H):=by
 intro P s σ H xs O Q I r h;obtain⟨x,k,p,rfl,W,V,q⟩:=h;obtain⟨u,c,rfl,U,rc⟩:=vals2 r;cases rc;obtain⟨N,T,Z,S,Y⟩:=Ti (K:=X.K) I W U;have R:dB X.prog X.w H s.heap p (.ext (qO p ["list","tuple"])):=I.aB p _ V
 match T,Z,Y with
 | [M,y1],Z,Y =>
  refine IsiPair.tupleOfB (.cons Z.2.1 (.cons Z.1 .nil)) S R.1 ?_ λL=>⟨.bl _,H,I.tok _,rfl,q⟩;rw[<- Y];simp only[List.any_cons,List.any_nil,Bool.or_false,id];exact Bool.or_comm _ _
end L2
namespace DI
open PySem L2
def RO {X:Cx} {Ξ:Wd->aR->Prop} {a:ġ} {pos:Pos} {f:abC D} {p p1 p2 p3:Pos} {x1} (ha:PE X a (tE X.K Ξ f)) (hg:Gl X "isinstance") (hm:X.mg "isinstance"=none) (hv:ú "isinstance"=some (.builtin "isinstance")) (h1:PE X (.Name "tuple" p1) (tC (.ty "tuple"))) (h2:PE X (.Name "list" p2) (tC (.ty "list")))
  (he:Ê (a::[.Tuple [.Name "list" p2,.Name "tuple" p1] x1 p3]) X.env=(false,ĩ a X.env)::Ê [.Tuple [.Name "list" p2,.Name "tuple" p1] x1 p3] X.env:=by rfl) :
  PE X (.Call (.Name "isinstance" p) [a,.Tuple [.Name "list" p2,.Name "tuple" p1] x1 p3] [] pos) (tE X.K Ξ (e1 rl f)) :=
 b9 (vQ MD hg hm hv (jd ha (jd (Pn (jd h2 (jd h1 l7))) l7) he) (by decide) (by decide) he) fun σ H Q T=>by
  obtain⟨w,env,R,S,P,h⟩:=T;subst R;refine⟨w,env,rfl,S,P,(Out.ao h).mono λY d M O h1 v N=>?_⟩;refine⟨["list","tuple"],rfl,(by show 2<=Ú;decide),λp W=>?_⟩;obtain⟨L,e,h1⟩:=fm h1
  cases Z:kd d Y.ay with
  |none=>rw[Z] at e;cases e
  |some k =>
   rw[Z] at e;cases e;have V:=O.grow (o:=.ext (qO p ["list","tuple"])) W;have U:=(Fw.grow (K:=X.K) (o:=.ext (qO p ["list","tuple"])) W).le;exact⟨v,k,p,rfl,Jz (w:=Y.grow p _) V (U _ _ N) Z,cx,h1 _ U V rfl _ rfl⟩
end DI
namespace L2
open PySem PySem.Spec PyProof.Rows
section
variable {X:Cx} {π:List (Ø×Obj)} {σ:St} {H:Hp} {s:Ä} {Z:Ø->Prop}
mutual
theorem DV.tQ (I:Inv X π σ H s):∀{d:aao} {v:V} {u:Å},DV X.K Z H d v->RelV v u->d.showable=true->d.shown.length<=Ú->∃bs,ReadAtMost s.heap d.depth bs/\ReprK X.prog X.w bs s.heap d.depth u d.shown
 | .none,v,u,h,r,hs,W=>by
  obtain⟨as,Y⟩:=h.reads I r;exact aaW Y hs (λz=>by simp[abq] at z) W
 | .bool b,v,u,h,r,hs,W=>by
  obtain⟨as,Y⟩:=h.reads I r;exact aaW Y hs (λz=>by simp[abq] at z) W
 | .int i,v,u,h,r,hs,W=>by
  obtain⟨as,Y⟩:=h.reads I r;exact aaW Y hs (λz=>by simp[abq] at z) W
 | .str x,v,u,h,r,hs,W=>by
  obtain⟨as,Y⟩:=h.reads I r;exact aaW Y hs (λz=>by simp[abq] at z) W
 | .dict F,v,u,h,r,hs,W=>by
  obtain⟨as,Y,G⟩:=h.sR I r rfl;exact aaW Y hs (λ_=>G) W
 | .tuple U,v,u,h,r,hs,W=>by
  have O:(tupleText (ņ U)).length<=Ú:=by simpa only [PyData.shown] using W
  obtain⟨as,Y⟩:=h.reads I r;simp only[DV] at h;obtain⟨a,J,e,N,S⟩:=h;subst e;cases r;obtain⟨its,R,⟨o,e,c,n,Q⟩,_⟩:=I.tuple N;obtain⟨bs,T,P⟩:=aq.tQ I S R (by simpa [PyData.showable] using hs) (λt M=>à (tupleText_mem_le M) O);have L:a∉bs:=not_mem_of_deeper Y (by simp only[PyData.depth];omega) T;refine⟨a::bs,ReadAtMost.cons Y (by simp only[PyData.depth];omega) T,?_⟩;simp only[PyData.depth,PyData.shown];exact ReprK.tuple e c Q L P
 | .list U,v,u,h,r,hs,W=>by
  have O:(listText (ņ U)).length<=Ú:=by simpa only [PyData.shown] using W
  obtain⟨as,Y⟩:=h.reads I r;simp only[DV] at h;obtain⟨a,J,e,_,N,S⟩:=h;subst e;cases r;obtain⟨its,R,⟨o,n,e,c,_,Q⟩,_⟩:=I.list (bw.of N);obtain⟨bs,T,P⟩:=aq.tQ I S R (by simpa [PyData.showable] using hs) (λt M=>à (listText_mem_le M) O);have L:a∉bs:=not_mem_of_deeper Y (by simp only[PyData.depth];omega) T;refine⟨a::bs,ReadAtMost.cons Y (by simp only[PyData.depth];omega) T,?_⟩;simp only[PyData.depth,PyData.shown]
  cases its with
  |nil =>
   have:J=[]:=by cases R;rfl
   subst this
   have:U=[]:=by cases U with
    |nil=>rfl
    |cons d U=>obtain⟨_,_,z,_⟩:=S;cases z
   subst this;simp only[ņ,listText_nil];exact ReprK.listEmpty e c Q
  |cons x l=>exact ReprK.list e c Q L (by simpa using P.length_eq) (λi y e=>P.item i y (by simpa using e))
theorem aq.tQ (I:Inv X π σ H s):∀{ds:List aao} {vs:List V} {us:List Å},aq X.K Z H ds vs->Vals vs us->abp ds=true->(∀t∈ņ ds,t.length<=Ú) ->
  ∃bs,ReadAtMost s.heap (ń ds) bs/\ReprAllK X.prog X.w bs s.heap (ń ds) us (ņ ds)
 | [],vs,us,h,r,_,_=>by
  have e:vs=[]:=h;subst e;cases r
  exact⟨[],(λ_ h=>nomatch h),by simp only[ņ];exact .nil⟩
 |d::ds,vs,us,h,r,hs,W=>by
  obtain⟨v,F,e,T,S⟩:=h;subst e;have U:d.showable=true/\abp ds=true:=by simpa [abp] using hs
  cases r with
  |cons R Q =>
   obtain⟨P,O,N⟩:=DV.tQ I T R U.1 (W _ (by simp only[ņ];exact Ô ..));obtain⟨M,L,J⟩:=aq.tQ I S Q U.2 (λt G=>W t (by simp only[ņ];exact Ó _ G));refine⟨P++M,(O.mono (by simp only[ń];exact aaB _ _)).append (L.mono (by simp only[ń];exact ž _ _)),?_⟩;simp only[ń,ņ];exact .cons ((N.more λb Y=>ý _ Y).level_le (aaB _ _)) (J.more_le (λb Y=>Î _ Y) (ž _ _))
end
end
end L2
namespace DI
open PySem L2
def ki (ds:List D) (s:aa):Res D:=match ds with
 | [.bl b]=>ok (.int (if b then 1 else 0)) s
 |_=>none
def xy {X:Cx} {Ξ:Wd->aR->Prop}:cS X (.type "int") (rC X.K Ξ ki):=by
 rintro V s σ H U T Q I r ⟨w,R,rfl,S,Z,h⟩;unfold ki at h;split at h
 ·rename_i b
  obtain⟨v,rfl,Y⟩:=oH Z;have e:v=.bl b:=Y;subst e;obtain⟨u,rfl,W⟩:=vals1 r;have e:u=.bool b:=W;subst e;exact call_int_bool ⟨.int _,w.H,I.tok _,⟨_,rfl⟩,aA S h _ rfl⟩
 ·exact h.elim
def rq (f:ġ->Option D):List ġ->Option (List D)
 | []=>some []
 |e::Z=>match f e,rq f Z with
  |some d,some Y=>if notStar e=true then some (d::Y) else none
  |_,_=>none
def cst:Nat->ġ->Option D
 |0,_=>none
 |n+1,e=>match e with
  | .Constant (.str x) _ _=>some (.str x)
  | .Constant (.int i) _ _=>some (.int i)
  | .Constant (.bool b) _ _=>some (.bl b)
  | .Constant .none _ _=>some .ar
  | .UnaryOp .USub (.Constant (.int i) _ _) _=>some (.int (-i))
  | .Tuple Y _ _=>match rq (cst n) Y with
   |some Z=>if Z.length<=100 then some (.tup Z) else none
   |none=>none
  | .List Y _=>match rq (cst n) Y with
   |some Z=>if Z.length<=100 then some (.lst Z) else none
   |none=>none
  |_=>none
def aC (ds:List D):abC (List D):=λ_ s=>ok ds s
def VJ {ds:List D} (h:ds.length<=100):bZ (aC ds)=eC (.tup ds):=by
 funext env s;show hZ ds (ok (D.tup ds) s)=_;exact ß (à h (by decide))
def VL {ds:List D} (h:ds.length<=100):dX (aC ds)=eC (.lst ds):=by
 funext env s;show hZ ds (ok (D.lst ds) s)=_;exact ß (à h (by decide))
section
variable {X:Cx} {Ξ:Wd->aR->Prop}
theorem xA {f:ġ->Option D} (hf:∀e d,f e=some d->PE X e (tE X.K Ξ (eC d))):∀{es:List ġ} {ds:List D},rq f es=some ds->PA X es (tA X.K Ξ (aC ds))
 | [],ds,h=>by cases h;exact dU
 |e::es,ds,h=>by
  unfold rq at h;split at h
  ·rename_i d Z e1 e2
   split at h
   ·rename_i hs
    cases h;exact RK (hf e d e1) (xA hf e2) hs
   ·cases h
  ·cases h
theorem oU:∀(n:Nat) {e:ġ} {d:D},cst n e=some d->PE X e (tE X.K Ξ (eC d))
 |0,e,d,h=>by cases h
 |n+1,e,d,h=>by
  unfold cst at h;split at h
  ·cases h;exact bM
  ·cases h;exact aw
  ·cases h;exact eG
  ·cases h;exact tD
  ·cases h;exact nE nr aw
  ·split at h
   ·rename_i W Z
    split at h
    ·rename_i Y
     cases h;rw[<- VJ Y];exact cG (xA (λe d=>oU n) Z)
    ·cases h
   ·cases h
  ·split at h
   ·rename_i W Z
    split at h
    ·rename_i Y
     cases h;rw[<- VL Y];exact fZ (xA (λe d=>oU n) Z)
    ·cases h
   ·cases h
  ·cases h
end
end DI
namespace L2
open PySem PySem.Spec PySem.Calls PyProof.Rows PySem.W PySem.Builtin PySem.Builtin.ObjectAttr PySem.Builtin.Getset_descriptor
section
variable {prog:ã} {w:Ă} {A:ê} {E:Å->Ä->Prop} {s:Ä} {K:Ď} {x C:Ø}
end
end L2
namespace DI
open PySem L2 PySem.W
end DI
namespace L2
open PySem PySem.Spec PyProof.Rows PySem.W
section
variable {prog:ã} {w:Ă} {A:ê} {E:Å->Ä->Prop} {h:ĥ} {g:Array GenState} {d:Drawn} {t:Nat} {os:OsState}
variable {nm q:Str} {C N fi:Ø} {bs bm p6:List Å} {hdct:Bool} {sn:List Str} {sub:List Å} {ab:Bool} {col:Option Bool} {dd:Option Ø} {k0 k1 k2 k3 k5:Option Å} {B newId IG:String}
end
section
variable {X:Cx} {E:XK} {π:List (Ø×Obj)} {σ:St} {H:Hp} {s:Ä}
end
end L2
namespace DI
open PySem L2 PySem.W
section
variable {K:Ď} {cs aE asked:List Str} {iX:Str} {h:ĥ} {mg:Str->Option Å}
end
section
variable {X:Cx} {Ξ:Wd->aR->Prop} {el tg src jG iH:ġ} {tests kR:List ġ} {sc:ι} {ps pos:Pos} {N:List Str} {nt:Nat} {cap:List Nat} {it iM:abC (List D)} {gd pZ:D->Env->Option Env} {g0 vc:TG} {sl cC:List Nat} {ft jD:abC Bool} {f:abC D}
end
open Classical in
def jN (nt:Nat) (caps:Env) (g:D->Env->Option Env) (t:abC Bool) (f:abC D) (γ:aa->Prop):List D->aa->Res (List D)
 | [],s=>if γ s then ok [] s else none
 |d::Z,s=>if γ s then (match g d (Ñ nt none++caps) with
  |none=>none
  |some env=>ao (ne (t env s)) λb s=>if b=true then ao (ne (f env s)) λx s=>ao (jN nt caps g t f γ Z s) λY s=>ok (x::Y) s
   else jN nt caps g t f γ Z s) else none
def sX (nt:Nat) (cap:List Nat) (it:abC (List D×(aa->Prop))) (g:D->Env->Option Env) (t:abC Bool) (f:abC D):abC D:=λenv s =>
 ao (it env s) λp s=>hZ p.1 (ao (jN nt (gk cap env) g t f p.2 p.1 s) λZ s=>ok (.lst Z) s)
def LH (K:Ď) (w:Wd) (J:It) (ds:List D) (γ:aa->Prop):Prop:=∀Z,Le K w Z->aI K Z->γ Z.ay->∀i,
 (∀d,ds[i]?=some d->J.go i Z.H/\∀x X,J.rK i Z.H x X->∃Y,Y.H=X/\Le K Z Y/\aI K Y/\Y.ay=Z.ay/\DV K Y d x)/\(ds.length<=i->J.stop i Z.H)
def ux (K:Ď) (Ξ:Wd->aR->Prop) (f:abC (List D×(aa->Prop))):TI:=fun σ H R=>∃w env,w.H=H/\aI K w/\bK K w env σ/\Out K Ξ w (f env w.ay) λZ p=>∀J,LH K Z J p.1 p.2->R J Z.H
section
variable {K:Ď} {Ξ:Wd->aR->Prop}
def NK (σ:St) (H:Hp) (Q:VK) :
  tE K Ξ (sX nt cap it g ft f) σ H Q->nj (ux K Ξ it) nt cap (gD K g) (tT K bR ft) (tE K bR f) σ H Q:=by
 rintro ⟨w,env,rfl,S,r,h⟩;refine⟨w,env,rfl,S,r,(Out.ao h).mono λD p l1 S1 C J n=>?_⟩;obtain⟨U,F⟩:=p;obtain⟨l,C⟩:=qi C;have l:U.length<=Ú:=l;refine⟨λi m R k=>m=U.length-i/\i<=U.length/\R.length<=i/\∃X Y,X.H=k/\Le K D X/\aI K X/\aq K X Y R/\Out K Ξ X (jN nt (gk cap env) g ft f F (U.drop i) X.ay) λV M=>∀T,aq K V (Y++M) T->∀p,V.H p=none->Q (.ref p) (upd V.H p (.lst T)),
  ⟨U.length,rfl,Ċ _,Ċ _,D,[],rfl,Le.refl _,S1,rfl,(Out.ao C).mono λV M O L h2 T E p P=>?_⟩,?_⟩
 ·exact h2 (V.grow p (.lst T)) (Fw.grow P).le (L.grow P) rfl (.ref p) ⟨p,T,rfl,⟨(show ¬ V.Z p from l8 L P),cx⟩,(Fw.grow P).le.all E⟩
 rintro i m R k ⟨rfl,hi,ha,X,Y,rfl,I,B,A,W⟩;by_cases z:i<U.length
 ·right
  rw[Ũ z] at W;unfold jN at W;by_cases N:F X.ay
  ·rw[ß N] at W
   obtain⟨fV,hy⟩:=(n X I B N i).1 _ (Ð z)
   cases u:g U[i] (Ñ nt none++gk cap env) with
   |none=>rw[u] at W;exact W.elim
   |some t =>
    rw[u] at W;refine⟨fV,by omega,λs j=>s.length<=i+1/\∃X Y,X.H=j/\Le K D X/\aI K X/\aq K X Y s/\Out K Ξ X (jN nt (gk cap env) g ft f F (U.drop (i+1)) X.ay) λV M=>∀T,aq K V (Y++M) T->∀p,V.H p=none->Q (.ref p) (upd V.H p (.lst T)),
     λs j ⟨De,q⟩=>⟨U.length-(i+1),by omega,rfl,z,De,q⟩,λo x H3 ho y=>?_⟩
    obtain⟨V,rfl,O,L,es,dv⟩:=hy x H3 y;refine⟨V,_,U[i],t,rfl,L,(r.le (l1.trans (I.trans O))).block nt cap o ho,dv,u,fun lE c=>?_⟩;rw[<- es] at W;refine⟨V,t,rfl,L,c,(Out.ao (W.from O)).ne.mono λa b G S3 h3=>?_⟩
    cases b with
    |true =>
     refine⟨a,t,rfl,S3,c.le G,(Out.ao h3).ne.mono λw4 d l4 S4 h4 v uZ=>⟨by rw[Þ];simp;omega,w4,Y++[d],rfl,I.trans (O.trans (G.trans l4)),S4,aq.append ((O.trans (G.trans l4)).all A) (aq.one uZ),(Out.ao h4).mono λw5 M l5 S5 h5 T E p P=>?_⟩⟩;exact aA S5 h5 T (by rw[Ů] at E;exact E) p P
    |false =>
     exact⟨by omega,a,Y,rfl,I.trans (O.trans G),S3,(O.trans G).all A,h3⟩
  ·rw[è N] at W
   exact W.elim
 ·left
  have e:i=U.length:=by omega
  subst e;rw[aa6] at W;unfold jN at W;by_cases N:F X.ay
  ·rw[ß N] at W
   exact⟨(n X I B N _).2 (abG _),by omega,λp P=>aA B W R (by rw[û];exact A) p P⟩
  ·rw[è N] at W
   exact W.elim
def OD (R R':It->Hp->Prop) (i:∀J H',R J H'->R' J H') (h:ux K Ξ it σ H R):ux K Ξ it σ H R':=by
 obtain⟨w,env,Z,S,Y,h⟩:=h;exact⟨w,env,Z,S,Y,h.mono λV p _ _ X J W=>i J _ (X J W)⟩
def RP (h:DV K w x (.ref a)) (g:DV K w y (.ref b)):LH K w (WM K a b) (fz ds es) λs=>res x s=.lst ds/\res y s=.lst es:=λD U Z T i=>by
 obtain⟨p,Y,e,X,S⟩:=gK Z (U _ _ h) T.1;obtain⟨q,W,N,V,R⟩:=gK Z (U _ _ g) T.2;cases e;cases N;refine⟨λd M=>?_,λL=>⟨Y,W,bw.of X,bw.of V,?_⟩⟩
 ·obtain⟨x,y,e1,e2,rfl⟩:=Gv M
  obtain⟨v,ev,J⟩:=S.get' i x e1;obtain⟨u,Q,I⟩:=R.get' i y e2;refine⟨⟨Y,W,v,u,bw.of X,bw.of V,ev,Q⟩,λz C ⟨r,B,y1,H,G,F,E⟩=>?_⟩;obtain⟨P,O⟩:=E Y W (bw.of X) (bw.of V);rw[ev] at P;rw[Q] at O;cases P;cases O;subst G F;exact FZ Z H J I
 ·rw[sv] at L
  have:=S.length;have:=R.length;omega
end
def Cu (ds:List D) (s:aa):Res (List D×(aa->Prop)):=match ds with
 | [x,y]=>match res x s,res y s with
  | .tup Z,.tup Y=>ok (fz Z Y,λ_=>True) s
  | .lst Z,.lst Y=>ok (fz Z Y,λs=>res x s=.lst Z/\res y s=.lst Y) s
  |_,_=>none
 |_=>none
def mr (fa:abC (List D)):abC (List D×(aa->Prop)):=λenv s=>ao (fa env s) Cu
section
variable {X:Cx} {Ξ:Wd->aR->Prop} {a b:ġ} {fa:abC (List D)} {pos:Pos}
def Ui {p:Pos} {elts:List ġ} {kk:Nat} {oY:Pos} (hg:Gl X "zip") (hm:X.mg "zip"=none) (ha:PA X [a,b] (tA X.K Ξ fa)) (hs:Ê [a,b] X.env=[(false,ĩ a X.env),(false,ĩ b X.env)]:=by rfl) (cI:Ê [b] X.env=[(false,ĩ b X.env)]:=by rfl) :
  PI X (.Tuple elts kk oY) (.Call (.Name "zip" p) [a,b] [] pos) (ux X.K Ξ (mr fa)):=by
 intro Q s σ H R I V;obtain⟨w,env,C,S,P,h⟩:=V;subst C
 cases Z:fa env w.ay with
 |none=>rw[show mr fa env w.ay=none by unfold mr;rw[Z];rfl] at h;exact h.elim
 |some r =>
  obtain⟨r,F⟩:=r
  cases r with
  |error x =>
   rw[show mr fa env w.ay=some (.error x,F) by unfold mr;rw[Z];rfl] at h;refine zW hg hm ha hs cI Q s σ w.H R I ⟨w,env,rfl,S,P,?_⟩;rw[Z];exact h
  |ok B =>
   have A:mr fa env w.ay=Cu B F:=by unfold mr;rw[Z];rfl
   rw[A] at h;unfold Cu at h;split at h
   ·rename_i x y
    split at h
    ·rename_i t o ex O
     have e1:=dP ex (by intro _ z;cases z);have e2:=dP O (by intro _ z;cases z);refine zW hg hm ha hs cI Q s σ w.H R I ⟨w,env,rfl,S,P,?_⟩;rw[Z];intro N le U T n M;obtain⟨v,u,rfl,Y,W⟩:=oI M;rw[e1] at Y;rw[e2] at W;have E:=Y;have D:=W;simp only[DV] at E D;obtain⟨p,L,rfl,V,_⟩:=E;obtain⟨q,J,rfl,G,_⟩:=D;exact⟨p,q,L,J,rfl,V,G,h N le U T _ λm l k _ i=>Gw Y W m l k i⟩
    ·rename_i t o ex O
     refine Rk hg hm ha hs cI Q s σ w.H R I ⟨w,env,rfl,S,P,?_⟩;rw[Z];intro N le U T n M;obtain⟨v,u,rfl,Y,W⟩:=oI M;obtain⟨p,L,rfl,V,_⟩:=gK U Y (by rw[T];exact ex);obtain⟨q,J,rfl,G,_⟩:=gK U W (by rw[T];exact O);exact⟨p,q,L,J,rfl,bw.of V,bw.of G,h N le U T _ (RP Y W)⟩
    ·exact h.elim
   ·exact h.elim
def Qi (hc:X.calm=true) (S:m9 X sc N nt cap) (T:Tg X.K g0 gd nt) (hi:PI X tg src (ux X.K Ξ it))
 (hY:∀(cl:List (Str×Ø)) (C:Ø) (s:Ä) (H:Hp) (ex:List Ø) (pn:List (Ø×Obj)),PG (dM X N sc cl C s H ex pn) tg g0/\PF (dM X N sc cl C s H ex pn) tests (tT X.K bR ft)/\PE (dM X N sc cl C s H ex pn) el (tE X.K bR f))
 (hs:∀x,ù src X.env x=pure x:=by intro _;rfl):PE X (.ListComp el [⟨tg,src,tests,0⟩] sc ps) (tE X.K Ξ (sX nt cap it gd ft f)) :=
 b9 (GC hc S T.kD hi hY hs) fun σ H Q h=>zd T.imp (λR Z i h=>OD R Z i h) (NK σ H Q h)
end
noncomputable def pB {α:Type} (f:Str) (v:α):List (Str×α)->List (Str×α)
 | []=>[(f,v)]
 |(g,x)::r=>if g=f then (g,v)::r else (g,x)::pB f v r
def mF (c:Str) (d:D) (s:aa):Option (Nat×List (Str×D)):=match d with
 | .aj k=>(match s[k]? with
  |some (.ins Z fs)=>if decide (Z=c)=true then some (k,fs) else none
  |_=>none)
 |_=>none
def wu {c:Str} {d:D} {s:aa} {k:Nat} {fs:List (Str×D)} (h:mF c d s=some (k,fs)):d=.aj k/\s[k]?=some (.ins c fs):=by
 unfold mF at h;split at h
 ·split at h
  ·rename_i e
   split at h
   ·rename_i Z
    cases h;rw[ÿ Z] at e;exact⟨rfl,e⟩
   ·cases h
  ·cases h
 ·cases h
section
variable {K:Ď} {w:Wd}
theorem HE:∀{fs:List (Str×D)} {vs:List (Str×V)} {f:Str} {d:D},vs.map (·.1)=fs.map (·.1)->aq K w (fs.map (·.2)) (vs.map (·.2))->fs.lookup f=some d->∃v,vs.lookup f=some v/\DV K w d v
 | [],vs,f,d,_,_,h=>by cases h
 |(g,x)::fs,vs,f,d,e,Y,h=>by
  cases vs with
  |nil=>cases e
  |cons p vs =>
   obtain⟨X,v⟩:=p;simp only[Ý,ř] at e;obtain⟨rfl,e⟩:=e;obtain⟨T,r,e1,W,U⟩:=Y;cases e1;rw[đ] at h |-
   cases Z:f==X with
   |true =>
    rw[Z] at h;cases h;exact⟨v,rfl,W⟩
   |false =>
    rw[Z] at h;exact HE e U h
theorem Ah:∀{fs:List (Str×D)} {vs:List (Str×V)} {f:Str},vs.map (·.1)=fs.map (·.1)->fs.lookup f=none->vs.lookup f=none
 | [],vs,f,e,_=>by
  cases vs with
  |nil=>rfl
  |cons _ _=>cases e
 |(g,x)::fs,vs,f,e,h=>by
  cases vs with
  |nil=>cases e
  |cons p vs =>
   obtain⟨Y,v⟩:=p;simp only[Ý,ř] at e;obtain⟨rfl,e⟩:=e;rw[đ] at h |-
   cases Z:f==Y with
   |true=>rw[Z] at h;cases h
   |false =>
    rw[Z] at h;exact Ah e h
theorem IL {f:Str} {d:D} {v:V} (dv:DV K w d v):∀{fs:List (Str×D)} {vs:List (Str×V)},vs.map (·.1)=fs.map (·.1)->aq K w (fs.map (·.2)) (vs.map (·.2))->(eZ f v vs).map (·.1)=(pB f d fs).map (·.1)/\aq K w ((pB f d fs).map (·.2)) ((eZ f v vs).map (·.2))
 | [],vs,e,_=>by
  cases vs with
  |nil=>exact⟨rfl,aq.one dv⟩
  |cons _ _=>cases e
 |(g,x)::fs,vs,e,X=>by
  cases vs with
  |nil=>cases e
  |cons p vs =>
   obtain⟨W,u⟩:=p;simp only[Ý,ř] at e;obtain⟨rfl,e⟩:=e;obtain⟨R,r,e1,U,Y⟩:=X;cases e1;unfold eZ pB;by_cases Z:W=f
   ·rw[ß Z,ß Z]
    exact⟨by simp only[Ý,e],⟨v,_,rfl,dv,Y⟩⟩
   ·rw[è Z,è Z]
    obtain⟨T,S⟩:=IL dv e Y;exact⟨by simp only[Ý,T],⟨u,_,rfl,U,S⟩⟩
def wW {c:Str} {k:Nat} {fs:List (Str×D)} {v:V} (S:aI K w) (dv:DV K w (.aj k) v) (e:w.ay[k]?=some (.ins c fs)):∃a C dx vs,w.ρ[k]?=some a/\v=.ref a/\nsIn K Ò c=some (some (.ref C))/\w.H a=some (.ins C dx vs)/\vs.map (·.1)=fs.map (·.1)/\aq K w (fs.map (·.2)) (vs.map (·.2)):=by
 simp only[DV] at dv;obtain⟨a,e1,rfl⟩:=dv;obtain⟨C,dx,vs,Z,Y,X,W⟩:=S.cell k a _ e1 e;exact⟨a,C,dx,vs,e1,rfl,Z,Y,X,W⟩
end
def xZ (K:Ď) (c f:Str):Prop:=∃C,nsIn K Ò c=some (some (.ref C))/\i6 K C/\lZ K C f
def mG (c f:Str) (d:D) (s:aa):Res D:=match mF c d s with
 |some (_,fs)=>(match fs.lookup f with
  |some x=>ok x s
  |none=>none)
 |none=>none
def xB (c f:Str) (fv fo:abC D):abC Fl:=λenv s=>ao (fv env s) λv s=>ao (fo env s) λo s=>match mF c o s with
 |some (k,fs)=>if decide (fs.length<1000)=true then ok (.nx env) (s.set k (.ins c (pB f v fs))) else none
 |none=>none
section
variable {X:Cx} {Ξ:Wd->aR->Prop} {e o value:ġ} {pos pos':Pos} {g fo fv:abC D} {c f:Str}
def xC (hF:xZ X.K c f) (he:PE X e (tE X.K Ξ g)) (hb:Ŀ e f X.env (ĩ e X.env)=ĩ e X.env:=by rfl):PE X (.Attribute e f pos) (tE X.K Ξ (e1 (mG c f) g)) :=
 b9 (SV he hb) fun σ H Q V=>by
  obtain⟨w,env,U,S,T,h⟩:=V;subst U;refine⟨w,env,rfl,S,T,(Out.ao h).mono λB d A Y Z v R=>?_⟩;obtain⟨C,P,O,N⟩:=hF;unfold mG at Z;split at Z
  ·rename_i k fs e1
   obtain⟨rfl,M⟩:=wu e1;split at Z
   ·rename_i x e2
    obtain⟨a,z,L,J,_,rfl,W,I,G,F⟩:=wW Y R M;rw[P] at W;cases W;obtain⟨u,E,D⟩:=HE G F e2;exact⟨a,C,L,J,u,rfl,I,O,N,E,aA Y Z _ D⟩
   ·exact Z.elim
  ·exact Z.elim
def VM (hF:xZ X.K c f) (ho:PE X o (tE X.K Ξ fo)) (hv:PE X value (tE X.K Ξ fv)) (hs:abd value (some (.Attribute o f pos')) pos.line X.env=pure false:=by rfl):PS X (.Assign [.Attribute o f pos'] value pos) (tS X.K Ξ (xB c f fv fo)) :=
 jf (SW ho hv hs) λj σ H F=>by
  obtain⟨w,env,E,S,U,h⟩:=F;subst E;refine⟨w,env,rfl,S,U,(Out.ao h).mono λD y O B A u x=>?_⟩;refine⟨D,env,rfl,B,U.le O,(Out.ao A).mono λi d N T Z v t=>?_⟩;obtain⟨C,M,s,r⟩:=hF;split at Z
  ·rename_i k fs e1
   obtain⟨rfl,R⟩:=wu e1;split at Z
   ·rename_i Q
    have Q:=ÿ Q;obtain⟨a,g,W,V,L,rfl,J,q,I,p⟩:=wW T t R;rw[M] at J;cases J;have Y:V.length=fs.length:=by have:=Ķ List.length I;simpa using this
    refine⟨a,C,W,V,rfl,q,s,r,by rw[Y];exact Q,?_⟩;have G:(Cell.ins c fs)≠.dead:=by intro z;cases z
    have P:=(Fw.put (K:=X.K) (o:=.ins C W (eZ f u V)) (c:=.ins c (pB f y fs)) T L R G).le;obtain⟨n,m⟩:=IL (N _ _ x) I p;have l:=T.ue (o:=.ins C W (eZ f u V)) (c:=.ins c (pB f y fs)) L R G ⟨C,W,_,M,cx,n,P.all m⟩;exact Z _ P l rfl σ (U.le (O.trans (N.trans P)))
   ·exact Z.elim
  ·exact Z.elim
end
theorem aq.rep {K:Ď} {w:Wd} {ds:List D} {vs:List V} (h:aq K w ds vs):∀k:Nat,aq K w (Ñ k ds).flatten (Ñ k vs).flatten
 |0=>rfl
 |k+1=>by
  rw[Ģ,Ģ,ļ,ļ];exact h.append (aq.rep h k)
structure Gm (K:Ď) (c m q:Str) (st:aaX) (ps:List Str) (f:Ø) (fd:Ė):Prop where
 fn:nO K m q st f fd
 b:Binds K fd ps []
def GM (K:Ď) (c m q:Str) (st:aaX) (ps:List Str):Prop:=∃C f fd,nsIn K Ò c=some (some (.ref C))/\i6 K C/\Meth K C m f/\Gm K c m q st ps f fd
abbrev kG (P:ã) (w:Ă) (K:Ď) (mg:Str->Option Å) (base:ĥ) (c m q:Str) (st:aaX) (ps:List Str) (k:Nat) (fn:List D->aa->Res D):Prop:=∀{f:Ø} {fd:Ė},Gm K c m q st ps f fd->cB P w K mg base (eR P w) k f fd ps (nX mg K fn)
def qK {P:ã} {w:Ă} {K:Ď} {mg:Str->Option Å} {base:ĥ} {c m q:Str} {st:aaX} {f:Ø} {fd:Ė} {ps:List Str} {k:Nat} {b:abC Fl} (G:Gm K c m q st ps f fd) (N:List Str) (S:nI N ps (bX st)=true)
  (hb:N.Nodup->∀(aO:Å) (A:ê) (outer:List PySem.Env) (s:Ä) (H:Hp) (E:XK),bp k (A.deeper (į q (bX st) s.heap.objs.size f aO))->Lv (gr (eR P w) P w K mg base N q (bX st) f aO A outer s H E) E->cP (gr (eR P w) P w K mg base N q (bX st) f aO A outer s H E) (fH st) (tS K (eT mg E) b)) :
  cB P w K mg base (eR P w) (k+1) f fd ps (nX mg K (aN ps.length N.length b)):=by
 obtain⟨J,I,kV,doc,pm,an,aO,ct,F,rfl,lk,V⟩:=G.fn.ex;refine xo lk V (jh S) (λU H Q E h=>?_) λA outer s H U Q E T h=>?_
 ·obtain⟨w,R,rfl,S,Y,h⟩:=h
  rw[<- Y.length];unfold aN at h;split at h
  ·assumption
  ·exact h.elim
 ·obtain⟨X,R,rfl,O,Y,h⟩:=h
  refine⟨_,hb (jh S).nd aO A outer s X.H E T ⟨rfl,rfl,rfl,rfl⟩,?_⟩;unfold aN at h;split at h
  ·rename_i M
   rw[<- M] at h;refine⟨X,_,rfl,O,Y.env N.length,(Out.ao h).mono λD L C W Z=>?_⟩
   cases L with
   |nx env=>intro B _;exact aA W Z _ rfl
   |rt d=>have q:=aA W Z;exact q
   |bk env=>exact Z.elim
   |ct env=>exact Z.elim
  ·exact h.elim
def fu (c m:Str) (fn:List D->aa->Res D) (fo:abC D) (fa:abC (List D)):abC D:=λenv s=>ao (fo env s) λo s=>match mF c o s with
 |some (_,fs)=>if (fs.lookup m).isNone=true then ao (fa env s) λZ s=>fn (o::Z) s else none
 |none=>none
def jR (c m:Str) (fn:List D->aa->Res D) (fo:abC D) (fa:abC (List D)):abC D:=fu c m (λZ s=>ne (fn Z s)) fo fa
def tR (c:Str) (fn:List D->aa->Res D):abC D:=λ_ s=>ao (ne (fn [.aj s.length] (s++[.ins c []]))) λd Z=>match d with
 | .ar=>ok (.aj s.length) Z
 |_=>none
def GK (K:Ď) (mg:Str->Option Å) (c q:Str) (st:aaX) (ps:List Str):Prop:=∃C f fd,nsIn K Ò c=some (some (.ref C))/\mg c=some (.ref C)/\Mk K C f/\Gm K c "__init__" q st ps f fd
section
variable {X:Cx} {E:XK} {Ξ:Wd->aR->Prop} {e o:ġ} {es:List ġ} {pos apos:Pos} {fo:abC D} {fa:abC (List D)} {c m q:Str} {st:aaX} {ps:List Str} {k n:Nat} {fn:List D->aa->Res D} {pl:Sem Bool}
def GJ {C:Ø} {σ:St} {H:Hp} {Q:VK} {t:TA} (hC:nsIn X.K Ò c=some (some (.ref C))) (ht:∀w' env (R:List V->Hp->Prop),aI X.K w'->bK X.K w' env σ->Out X.K (eT X.mg E) w' (fa env w'.ay) (λw1 ds=>∀vs,aq X.K w1 ds vs->R vs w1.H)->t σ w'.H R)
  (au:tE X.K (eT X.mg E) (fu c m fn fo fa) σ H Q):xn C m (nX X.mg X.K fn) [] E (tE X.K (eT X.mg E) fo) t σ H Q:=by
 obtain⟨w,env,P,S,Y,h⟩:=au;subst P;refine⟨w,env,rfl,S,Y,(Out.ao h).mono λw1 d O W Z v U=>?_⟩;split at Z
 ·rename_i k fs e1
  obtain⟨rfl,N⟩:=wu e1;split at Z
  ·rename_i M
   obtain⟨a,z,L,vs,y,rfl,T,J,I,x⟩:=wW W U N;rw[hC] at T;cases T;refine⟨a,L,vs,rfl,J,Ah I (Z8.mp M),?_⟩;refine ht w1 env _ W (Y.le O) ((Out.ao Z).mono λG ds F D B u A=>?_);rw[û];exact⟨G,.aj k::ds,rfl,D,⟨_,_,rfl,F _ _ U,A⟩,B⟩
  ·exact Z.elim
 ·exact Z.elim
def xD (hM:GM X.K c m q st ps) (F:kG X.prog X.w X.K X.mg X.base c m q st ps k fn) (L:Passes (eR X.prog X.w) X E) (hr:bp n X.A) (ho:PE X o (tE X.K (eT X.mg E) fo)) (ha:PA X (e::es) (tA X.K (eT X.mg E) fa)) (hk:k<=n:=by decide)
  (fS:Ê (e::es) X.env=(false,ĩ e X.env)::Ê es X.env:=by rfl) (bH:(ħ pos (Ê es X.env)).any (·.1)=false:=by rfl)
  (ht:ĩ (.Call (.Attribute o m apos) (e::es) [] pos) X.env=(do
   let ov <- ĩ o X.env
   ZZ apos.atName
   let (f,first) <- μ [ov] (abf ov m pl)
   callWith pos f first (ħ pos (Ê (e::es) X.env)) (aav pos (ŗ [] X.env))):=by rfl) :
  PE X (.Call (.Attribute o m apos) (e::es) [] pos) (tE X.K (eT X.mg E) (fu c m fn fo fa)):=by
 obtain⟨C,f,fd,Z,Y,W,G⟩:=hM;exact b9 (Hf ho Y W (F G) (hr.mono hk) G.b .nil L ha fS bH ht) fun σ H Q h=>GJ Z (λV env R U T S=>⟨V,env,rfl,U,T,S⟩) h
def AV (hM:GM X.K c m q st ps) (F:kG X.prog X.w X.K X.mg X.base c m q st ps k fn) (L:Passes (eR X.prog X.w) X E) (hr:bp n X.A) (ho:PE X o (tE X.K (eT X.mg E) fo)) (hk:k<=n:=by decide)
  (ht:ĩ (.Call (.Attribute o m apos) [] [] pos) X.env=(do
   let ov <- ĩ o X.env
   ZZ apos.atName
   let (f,first) <- μ [ov] (abf ov m pl)
   callWith pos f first (ħ pos (Ê [] X.env)) (aav pos (ŗ [] X.env))):=by rfl) :
  PE X (.Call (.Attribute o m apos) [] [] pos) (tE X.K (eT X.mg E) (fu c m fn fo ah)):=by
 obtain⟨C,f,fd,Z,Y,W,G⟩:=hM;exact b9 (Gh ho Y W (F G) (hr.mono hk) G.b .nil L ht) fun σ H Q h=>GJ Z (λT env R V S U=>aA V (a:=([]:List D)) U _ rfl) h
def F6 {C:Ø} {σ:St} {H:Hp} {Q:VK} {t:TA} (hC:nsIn X.K Ò c=some (some (.ref C))) (ht:∀w' env (R:List V->Hp->Prop),aI X.K w'->bK X.K w' env σ->Out X.K Ξ w' (fa env w'.ay) (λw1 ds=>∀vs,aq X.K w1 ds vs->R vs w1.H)->t σ w'.H R)
  (au:tE X.K Ξ (jR c m fn fo fa) σ H Q):xn C m (nX X.mg X.K fn) [] E0 (tE X.K Ξ fo) t σ H Q:=by
 obtain⟨w,env,P,S,Y,h⟩:=au;subst P;unfold jR fu at h;refine⟨w,env,rfl,S,Y,(Out.ao h).mono λw1 d O W Z v U=>?_⟩;split at Z
 ·rename_i k fs e1
  obtain⟨rfl,N⟩:=wu e1;split at Z
  ·rename_i M
   obtain⟨a,A,L,vs,z,rfl,T,J,I,y⟩:=wW W U N;rw[hC] at T;cases T;refine⟨a,L,vs,rfl,J,Ah I (Z8.mp M),?_⟩;refine ht w1 env _ W (Y.le O) ((Out.ao Z).mono λG ds F E D x B=>?_);rw[û];exact⟨G,.aj k::ds,rfl,E,⟨_,_,rfl,F _ _ U,B⟩,IH D.ne⟩
  ·exact Z.elim
 ·exact Z.elim
def VN (hM:GM X.K c m q st ps) (F:kG X.prog X.w X.K X.mg X.base c m q st ps k fn) (hr:bp n X.A) (ho:PE X o (tE X.K Ξ fo)) (ha:PA X (e::es) (tA X.K Ξ fa)) (hk:k<=n:=by decide)
  (fS:Ê (e::es) X.env=(false,ĩ e X.env)::Ê es X.env:=by rfl) (bH:(ħ pos (Ê es X.env)).any (·.1)=false:=by rfl)
  (ht:ĩ (.Call (.Attribute o m apos) (e::es) [] pos) X.env=(do
   let ov <- ĩ o X.env
   ZZ apos.atName
   let (f,first) <- μ [ov] (abf ov m pl)
   callWith pos f first (ħ pos (Ê (e::es) X.env)) (aav pos (ŗ [] X.env))):=by rfl) :
  PE X (.Call (.Attribute o m apos) (e::es) [] pos) (tE X.K Ξ (jR c m fn fo fa)):=by
 obtain⟨C,f,fd,Z,Y,W,G⟩:=hM;exact b9 (Hf ho Y W (F G) (hr.mono hk) G.b .nil AS ha fS bH ht) fun σ H Q h=>F6 Z (λV env R U T S=>⟨V,env,rfl,U,T,S⟩) h
def wX (hM:GM X.K c m q st ps) (F:kG X.prog X.w X.K X.mg X.base c m q st ps k fn) (hr:bp n X.A) (ho:PE X o (tE X.K Ξ fo)) (hk:k<=n:=by decide)
  (ht:ĩ (.Call (.Attribute o m apos) [] [] pos) X.env=(do
   let ov <- ĩ o X.env
   ZZ apos.atName
   let (f,first) <- μ [ov] (abf ov m pl)
   callWith pos f first (ħ pos (Ê [] X.env)) (aav pos (ŗ [] X.env))):=by rfl) :
  PE X (.Call (.Attribute o m apos) [] [] pos) (tE X.K Ξ (jR c m fn fo ah)):=by
 obtain⟨C,f,fd,Z,Y,W,G⟩:=hM;exact b9 (Gh ho Y W (F G) (hr.mono hk) G.b .nil AS ht) fun σ H Q h=>F6 Z (λT env R V S U=>aA V (a:=([]:List D)) U _ rfl) h
def JR {p:Pos} (hM:GK X.K X.mg c q st ps) (F:kG X.prog X.w X.K X.mg X.base c "__init__" q st ps k fn) (hr:bp n X.A) (hk:k+1<=n:=by decide) (hg:Gl X c:=by rfl) (dh:(c==("__debug__":Str))=false:=by decide) :
  PE X (.Call (.Name c p) [] [] pos) (tE X.K Ξ (tR c fn)):=by
 obtain⟨C,f,fd,R,P,M,G⟩:=hM;refine b9 (Pf M (F G) (hr.mono hk) hg P G.b .nil AS dh) fun σ H Q O=>?_;obtain⟨w,env,N,S,u,h⟩:=O;subst N;intro x Z L Y ne;have W:(w.grow Z (.own x)).H x=none:=by show upd w.H Z _ x=none;rw[aW (Ŭ ne)];exact L
 have V:=S.grow (o:=.own x) Y;have J:=(Fw.grow (K:=X.K) (o:=.own x) Y).le;have I:=(Fw.cell (K:=X.K) (o:=.ins C Z []) (c:=.ins c []) V W).le;have E:=V.Br (o:=.ins C Z []) (c:=.ins c []) W ⟨C,Z,[],R,cx,rfl,rfl⟩;have U:DV X.K ((w.grow Z (.own x)).cell x (.ins C Z []) (.ins c [])) (.aj w.ay.length) (.ref x):=by
  refine⟨x,?_,rfl⟩;show (w.ρ++[x])[w.ay.length]?=some x;rw[<- S.len];simp
 refine⟨_,[.aj w.ay.length],rfl,E,aq.one U,?_⟩;have D:Out X.K Ξ ((w.grow Z (.own x)).cell x (.ins C Z []) (.ins c [])) _ _:=(Out.ao h).from (J.trans I);refine IH (D.ne.mono λt d B z T v y=>?_)
 cases d with
 |ar=>exact⟨y,aA z T _ (B _ _ U)⟩
 |_=>exact T.elim
end
end DI
namespace ST
open PySem PySem.W PyProof.Rows
section
variable {α:Type} {O:Ord α} {x:Nat->α} {prog:ã} {w:Ă} {A:ê} {E:Å->Ä->Prop} {s:Ä}
def Qj {l:Ø} {us:List Å} {Q:List Å->Ä->Prop} (ht:IsTup s.heap l us.toArray) (hz:us.length<=Ú)
  (h:∀h1,s.heap.objs.size<=h1.objs.size->(∀c o,s.heap.get? c=some o->h1.get? c=some o)->Q us { s with heap:=h1 }):Û (ä prog w) A (collect (.ref l)) Q E s:=by
 obtain⟨o,X,W,n,V⟩:=ht;have Y:(s.heap.push (aaH "list" #[] 0)).get? l=some o:=Á _ X;have Z:(s.heap.push (aaH "list" #[] 0)).get? s.heap.objs.size=some (aaH "list" #[] 0):=Í _ rfl;unfold collect;refine À (wpAny_runValue (Ń entry_proto_collect' ?_));show Û _ _ (newList [] >>= λm=>again (.builtin "list.__iadd__" ⟨[m,.ref l],[]⟩)) _ _ s;refine À (wpAny_newList (Ã ⟨Code.quiet_builtin _ (by decide +kernel),Ń entry_list_iadd' ?_⟩))
 show Û _ _ (Ř (.ref s.heap.objs.size) (.ref l) _) _ _ { s with heap:=s.heap.push (aaH "list" #[] 0) }
 unfold Ř;refine À (aam (T:="tuple") ⟨o,Y,W⟩ ?_);rw[ß (by rw[show (Ş "tuple"==Ş "tuple")=true from rfl];simp)];refine À (listItems_at Y V (À (listItems_at (xs:=#[]) (n:=0) Z rfl ?_)));rw[è (by simp)];refine À (listUpdate_at (xs:=#[]) (n:=0) Z rfl (Ã ?_) (Ċ _) (by show (#[]++us.toArray).size<=Ú+1;simp only[Array.size_append,Ù,ē];omega))
 show Û (ä prog w) A (load s.heap.objs.size >>= _) Q E { s with heap:=(s.heap.push (aaH "list" #[] 0)).update s.heap.objs.size (Œ (·++us.toArray)) }
 refine À (wpAny_load (get?_update_seq Z _) ?_);show Û _ _ (pure ((#[]:Array Å)++us.toArray).toList) Q E _;rw[show ((#[]:Array Å)++us.toArray).toList=us by simp];refine Ã (h _ ?_ λc o e=>?_)
 ·rw[Heap.size_update,size_push'];exact aaf _
 ·rw[aai _ _ _ _ (â (Ë e))]
  exact Á _ e
def NL {l:Ø} {us:List Å} {Q:Å->Ä->Prop} (hl:IsTup s.heap l us.toArray) (hz:us.length<64)
  (hk:2<=us.length->∀h1,(∀c o,s.heap.get? c=some o->h1.get? c=some o)->xW prog w A.in1.in1 O x us { s with heap:=h1 })
  (hQ:∀(q:Array Nat) h' b e,Pm us.length q->Up O (ky x q) us.length->(∀c o,s.heap.get? c=some o->h'.get? c=some o)->s.heap.objs.size<=b->h'.get? b=some (aaH "list" (q.toList.map λi=>us.getD i Value.none).toArray e)->Q (.ref b) { s with heap:=h' }) :
  Û (ä prog w) A (call (.builtin "sorted") [.ref l]) Q E s:=by
 have line:us.length<=Ú:=by rw[ν];omega
 refine Calls.call_function_entry kind_sorted plain_sorted entry_sorted (args_sorted1 _) ?_;unfold ű.«sorted»;refine À (m:=checkCount "sorted" 1 1 _) (Ã (À (Qj hl line λh1 W Y=>À (wpAny_newList ?_ line))))
 show Û _ _ _ _ _ { s with heap:=h1.push (aaH "list" us.toArray 0) }
 have X:(h1.push (aaH "list" us.toArray 0)).get? h1.objs.size=some (aaH "list" us.toArray 0):=Í _ rfl;have old:∀c o,s.heap.get? c=some o->c≠h1.objs.size/\(h1.push (aaH "list" us.toArray 0)).get? c=some o:=λc o e=>⟨â (Ë (Y c o e)),Á _ (Y c o e)⟩;refine À (ĝ (ć slot_list_sort ⟨_,X,rfl⟩ entry_list_sort (MB X hz (λz h' Z=>hk z h' λc o e=>Z c o (old c o e).1 (old c o e).2) λq h' e V U Z T=>⟨_,rfl,?_⟩) (args_list_sort _)));exact Ã ⟨_,rfl,hQ q h' _ e V U (λc o e=>Z c o (old c o e).1 (old c o e).2) W T⟩
end
end ST
namespace TK
open PySem PySem.W PyProof.Rows DI L2
def oB (ds:List D) (s:aa):Res D:=match ds with
 | [.tup Z]=>if Z.length<64 then bT (qT Z) s else none
 |_=>none
def GN {X:Cx} {Ξ:Wd->aR->Prop} {k:Nat} (hr:bp k X.A):cS X (.builtin "sorted") (rC X.K Ξ oB):=by
 rintro n s σ H N m Q I r ⟨w,l,rfl,S,Y,h⟩;unfold oB at h;split at h
 ·rename_i F
  obtain⟨v,rfl,M⟩:=oH Y;simp only[DI.DV] at M;obtain⟨a,N,rfl,E,Y⟩:=M;split at h
  ·rename_i j
   obtain⟨g,e2,h⟩:=fm h;obtain⟨u,rfl,D⟩:=vals1 r;cases D;obtain⟨its,W,C,B⟩:=I.tuple E;have R:its.length=F.length:=W.length.symm.trans Y.length.symm;have V:=e2;unfold qT at V;split at V
   ·rename_i Z
    obtain⟨U,z⟩:=Z;clear V;subst z;rw[zE] at e2;cases e2;have L:U.length=its.length:=by rw[R,É]
    refine ST.NL (O:=bE) (x:=λi=>U.getD i (.bW 0 0 0)) C (by omega) (λy f P=>P4 (cW.keep (λb o T _ _=>P b o T) _ _ (AO I _ _ _ (RG U) Y W)) y (by have:=hr.un;show X.A.units+1+1+100<abz;have:abz=9900:=rfl;omega) _) λq c b e Z J P T t=>?_;have G:∀i∈q.toList,i<(U.map Pg.d).length:=λi hi=>by rw[<- R];exact ö.mp (Z.2.mem_iff.mp hi)
    rw[<- L] at Z J;have p:=I.aB.fresh T;refine⟨.ref b,_,I.laid (o:=.lst (q.toList.map λi=>N.getD i .ar)) (t':=s.toks) P T ⟨?_,_,e,Ox W (by rw[R];exact G),t⟩,rfl,?_⟩
    ·rw[É,ø,Z.1,L,W.length.symm];exact B
    ·refine xS S ?_ h b p
     rw[<- PZ Z J];exact PY Y G
   ·cases V
  ·exact h.elim
 ·exact h.elim
end TK
namespace DI
open PySem L2
section
variable {X:Cx} {Ξ:Wd->aR->Prop} {f:abC D}
def uy (d:D) (s:aa):Res D:=match d with
 | .aj k=>match s[k]? with
  |some (.lst Z)=>match Z[Z.length-1]? with
   |some x=>ok x (s.set k (.lst Z.dropLast))
   |none=>none
  |_=>none
 |_=>none
theorem aq.dropLast {K:Ď} {w:Wd} {ds:List D} {xs:List V} (h:aq K w ds xs):aq K w ds.dropLast xs.dropLast:=by
 rw[List.dropLast_eq_take,List.dropLast_eq_take,h.length];exact h.take _
def Uj {o:ġ} {apos bj:Pos} (ho:PE X o (tE X.K Ξ f)) (jU:Ŀ o "pop" X.env (ĩ o X.env)=ĩ o X.env:=by rfl) (jV:(apos.endLine==bj.line)=true:=by rfl) :
  PE X (.Call (.Attribute o "pop" apos) [] [] bj) (tE X.K Ξ (e1 uy f)) :=
 b9 (Ta ź PySem.F.slot_list_pop PySem.F.type_list_pop Tb ho jU jV) fun σ H Q N=>by
  obtain⟨w,env,M,S,L,h⟩:=N;subst M;refine⟨w,env,rfl,S,L,(Out.ao h).mono λE d D Y Z v J=>?_⟩;unfold uy at Z;split at Z
  ·rename_i k
   split at Z
   ·rename_i T W
    split at Z
    ·rename_i x I
     obtain⟨a,e1,rfl⟩:=J;obtain⟨V,R,U⟩:=Y.cell k a _ e1 W;obtain⟨y,P,G⟩:=U.get' _ x I;rw[U.length] at P;refine⟨.inl ⟨rfl,V,bw.of R⟩,a,V,y,rfl,rfl,R,P,?_⟩;have O:(Cell.lst T)≠.dead:=by intro z;cases z
     have le:=(Fw.put (K:=X.K) (o:=.lst V.dropLast) (c:=.lst T.dropLast) Y e1 W O).le;exact Z _ le (Y.ue e1 W O ⟨_,cx,le.all U.dropLast⟩) rfl _ (le _ _ G)
    ·exact Z.elim
   ·exact Z.elim
  ·exact Z.elim
end
end DI
namespace L2
open PySem PySem.Spec PyProof.Rows PySem.W
def RQ {l:OpenLaw} {n k:Nat} {q:ã} {loose:List Str} {XP:(Str->Option Å)->ĥ->Prop} {YP:Ă->ĥ->Prop} {d dy:DefRec} {K:Params->Ď} {CX:Ă->i7} {sp:Ă->Ø->Sp} {x:Str} (y:Str)
  (hn:l.most=some n) (ym:n<=Ú) (uM:d.params.defaults=[]) (hr:bp k callerA)
  (hY:∀(w:Ă) (h:ĥ),YP w h->(K w.params).In h) (hd:(recsOf q).find? (λe=>e.name==y)=some dy)
  (F:∀(w:Ă) (mg:Str->Option Å) (fa:Ø) (h:ĥ),(K w.params).In h->h.Ns Ò mg->mg d.name=some (.ref fa) ->
   ∃(c P:Ø) (fd:Ė),tabIn (K w.params) y=some (c,P)/\(K w.params).lookup P=none/\(∀(s:Ä) (u:Å),BindsTo s fd ⟨[u],[]⟩ [(x,u)]) /\
    ∀base:ĥ,(K w.params).In base->base.Ns Ò mg->base.BuiltinsAt mg P->cB l.prog w (K w.params) mg base (CX w) k fa fd [x] (sp w P))
  (i9:∀(w:Ă) (P:Ø) (H:Hp) (a:Ø) (ns:List Int),ns.length<=n->H P=some (.dD #[])->bw (K w.params) H a (ns.map V.int)->sp w P [.ref a] H (λv _=>v=.bl true) λ_ _ _=>False)
  (D9:∀(w:Ă) (H:Hp) (s:Ä) (e:Å) (s':Ä),CX w [] H s (λ_ _ _=>False) e s'->False) :
  WalkO q loose XP YP l.row.toRowW d [] (λf vs=>PySem.call f vs):=by
 refine K1.MM hn uM λw i S mg mb fa o pm cd doc a vs ns G Y ho Lc dE O N hints Z M=>?_;have W:=hY w _ Y;obtain⟨c,P,fd,L,J,I,E⟩:=F w mg fa _ W G.T.g O;have D:dy.name=y:=by simpa using List.find?_some hd
 subst D;obtain⟨C,R⟩:=tab_of G.T W hd L;have B:S.heap.BuiltinsAt mg P:=by
  obtain⟨bm,A,t,r,X,Q,p,U⟩:=G.T.bmain;refine⟨bm,A,t,r,λz=>?_,λz=>?_,X,Q,p,U⟩
  ·obtain⟨o,es,ep,e,hd,_⟩:=G.T.g
   rw[z,e] at X;cases X;rw[hd] at U;cases U
  ·rw[z,R] at X;cases X;cases Q
 exact OC W G.T.g G.T.b G.T.builtins G.T.nolimit M N hints (à Z ym) hr C R J B E I (λH m j=>i9 w P H a ns Z m j) λH e s'=>D9 w H S e s'
end L2
namespace DI
open PySem L2 PySem.W
def Ee (K:Ď) (mg:Str->Option Å) (x:Str):Prop:=∃f,nsIn K Ò x=some (some (.ref f))/\mg x=some (.ref f)
def VO {K:Ď} {mg:Str->Option Å} {x:Str} {st:aaX} {ps:List Str} {f:Ø} {fd:Ė} (h:Ee K mg x) (G:Gd K mg x st ps f fd):nsIn K Ò x=some (some (.ref f)):=by
 obtain⟨X,Z,Y⟩:=h;have e:=G.mg;rw[Y] at e;cases e;exact Z
def Uk {X:Cx} {Ξ:Wd->aR->Prop} (n:Nat) {es:List ġ} {ds:List D} {pos:Pos} (h:rq (cst n) es=some ds):PE X (.List es pos) (tE X.K Ξ (eNew (aC ds))):=tF (xA (λe d=>oU n) h)
end DI
namespace DI.bU
open PySem L2 DI
noncomputable section
noncomputable def bI:List Str:=["NoPage","Clash","NoDeed"]
def sA:List D->aa->Res D:=aN 2 3 (ax (bt (aS qf (af (ae 0) (af (ae 1) ah))) (gN 2)) (ax (aZ (aU (e2 uj (ae 2) (e2 qQ (eC (.int 10)) (eC (.int 18))))) (aM (eNew (af (e2 tG (ae 2) (e2 qQ (eC (.int 10)) (eC (.int 18)))) (af (eC (.bl true)) ah)))) bN) (aM (eNew (af (e2 gP (ae 2) (eC (.int 2147483647))) (af (eC (.bl false)) ah))))))
def dQ:List D->aa->Res D:=aN 2 4 (ax (aZ (dY (e2 az (ae 0) (eC (.int 1)))) (ax (bt (e2 gP (e2 az (ae 0) (eC (.int 0))) (ae 1)) (gN 2)) (ax (mz (e2 oQ (e2 az (ae 0) (eC (.int 0))) (ae 1)) (ae 0) (eC (.int 0))) (aM (ae 2)))) bN) (ax (mz (e2 gP (e2 cE (e2 df (e2 az (ae 0) (eC (.int 0))) (eC (.int 48271))) (eC (.int 29))) (eC (.int 2147483647))) (ae 0) (eC (.int 0))) (ax (bt (e2 gP (e2 cE (e2 cE (e2 df (e2 az (ae 0) (eC (.int 0))) (e2 az (ae 0) (eC (.int 0)))) (e2 df (eC (.int 39373)) (e2 az (ae 0) (eC (.int 0))))) (eC (.int 7))) (eC (.int 2147483629))) (gN 3)) (ax (bt (e2 gP (e2 cE (e2 df (ae 3) (ae 3)) (e2 df (eC (.int 16807)) (ae 3))) (eC (.int 2147483587))) (gN 3)) (aM (e2 gP (e2 oQ (ae 3) (eC (.int 8))) (ae 1)))))))
def vY:List D->aa->Res D:=aN 1 4 (ax (bt (e2 az (dX (af (eC (.int 2)) (af (eC (.int 4)) (af (eC (.int 8)) ah)))) (aS dQ (af (ae 0) (af (eC (.int 3)) ah)))) (gN 1)) (ax (bt (eh 1 [0] (f9 (af (ae 1) ah)) (gN 0) gC (aS dQ (af (ae 1) (af (eC (.int 3)) ah)))) (gN 2)) (ax (bt (eB gg (af (eh 1 [2] (f9 (af (ae 1) ah)) (gN 0) (aU (e2 bq (e2 az (ae 1) (ae 0)) (eC (.int 1)))) (ae 0)) ah)) (gN 3)) (aM (bZ (af (ae 3) (af (eB gg (af (eh 1 [2] (f9 (af (ae 1) ah)) (gN 0) (aU (e2 bq (e2 az (ae 1) (ae 0)) (eC (.int 2)))) (ae 0)) ah)) ah)))))))
def wx:List D->aa->Res D:=aN 2 4 (ax (pk 2 3 (af (e2 az (dX (af (eC (.int 0)) (af (aS dQ (af (ae 0) (af (eC (.int 4)) ah))) ah))) (aS dQ (af (ae 0) (af (eC (.int 2)) ah)))) (af (aS dQ (af (ae 0) (af (ae 1) ah))) ah))) (ax (aZ (aU (e2 bq (aS dQ (af (ae 0) (af (eC (.int 3)) ah))) (eC (.int 0)))) (aM (bZ (af (eC (.str "mended")) (af (ae 2) (af (ae 3) (af (aS dQ (af (ae 0) (af (e2 az (dX (af (eC (.int 2)) (af (eC (.int 4)) (af (eC (.int 8)) ah)))) (aS dQ (af (ae 0) (af (eC (.int 3)) ah)))) ah))) ah)))))) bN) (aM (bZ (af (eC (.str "made")) (af (ae 2) (af (ae 3) (af (aS vY (af (ae 0) ah)) ah))))))))
def wy:List D->aa->Res D:=aN 2 4 (ax (bt (e2 az (dX (af (eC (.str "tell")) (af (eC (.str "tell")) (af (eC (.str "tell")) (af (eC (.str "strike")) (af (eC (.str "undo")) ah)))))) (aS dQ (af (ae 0) (af (eC (.int 5)) ah)))) (gN 2)) (ax (bt (aS wx (af (ae 0) (af (e2 az (dX (af (eC (.int 6)) (af (eC (.int 31)) ah))) (aS dQ (af (ae 0) (af (eC (.int 2)) ah)))) ah))) (gN 3)) (ax (aZ (fN (aU (e2 bP (ae 2) (eC (.str "undo")))) (fN (aU (e2 bP (ae 1) (bZ ah))) (aU (e2 pb (aS dQ (af (ae 0) (af (eC (.int 5)) ah))) (e2 cE (eC (.int 1)) (e2 df (eC (.int 2)) (eB ki (af (e2 bq (ae 2) (eC (.str "tell"))) ah)))))))) (bt (e2 az (ae 1) (aS dQ (af (ae 0) (af (eB cN (af (ae 1) ah)) ah)))) (gN 3)) bN) (aM (bZ (af (ae 2) (af (ae 3) ah)))))))
def vG:List D->aa->Res D:=aN 1 2 (ax (bt (eNew (aC [.ar,.tup [],.tup [.str "made",.int 0,.int 0],.tup [.str "made",.int 4,.int 0,.tup [.tup [],.tup []]],.tup [.str "made",.int (-1),.int 0,.tup [.tup [],.tup []]],.tup [.str "made",.int 0,.int 31,.tup [.tup [],.tup []]]])) (gN 1)) (ax (bt (e2 ng (ae 1) (eC (.lst [.tup [.str "made",.int 0,.int 0,.tup [.tup [.int 0],.tup [.int 0]]],.tup [.str "made",.int 0,.int 0,.tup [.tup [.int 1,.int 0],.tup []]],.tup [.str "made",.int 0,.int 0,.tup [.tup [.int 8],.tup []]],.str "made"]))) (gN 1)) (ax (bt (e2 ng (ae 1) (eC (.lst [.tup [.str "made",.int 0,.int 0,.tup [.tup [],.tup [],.tup []]],.tup [.str "made",.int 0,.int 0,.lst [.tup [],.tup []]],.tup [.str "made",.int 0,.int 0,.tup [.tup [.int 0,.int 0],.tup []]]]))) (gN 1)) (ax (gO (rk (ae 1) (bZ (af (eC (.str "made")) (af (eC (.int 0)) (af (eC (.int 0)) (af (eC (.int 1)) ah))))))) (ax (bt (e2 ng (ae 1) (eC (.lst [.tup [.str "mended",.int 0,.int 0,.int 8],.tup [.str "mended",.int 0,.int 0,.int (-1)],.tup [.str "mended",.int 0,.int 0,.bl true],.tup [.str "mended",.bl true,.int 0,.int 1]]))) (gN 1)) (ax (bt (e2 ng (ae 1) (eC (.lst [.tup [.str "mended",.int 0,.int 0,.tup [.tup [],.tup []]],.lst [.str "mended",.int 0,.int 0,.int 1],.tup [.str "Mended",.int 0,.int 0,.int 1],.tup [.str "mended",.int 0,.int 0,.int 1,.int 0]]))) (gN 1)) (aM (e2 az (ae 1) (aS dQ (af (ae 0) (af (eB cN (af (ae 1) ah)) ah)))))))))))
def yQ:abC Fl:=(ax (aZ (fN (aU (e2 bq (e2 az (ae 6) (eC (.int 0))) (eC (.str "mended")))) (fN (aU (e2 bq (e2 az (ae 6) (eC (.int 1))) (ae 1))) (aU (e2 bq (e2 az (ae 6) (eC (.int 3))) (ae 2))))) (gO (rk (ae 5) (e2 az (ae 6) (eC (.int 2))))) bN) (aZ (fN (aU (e2 bq (e2 az (ae 6) (eC (.int 0))) (eC (.str "made")))) (aU (e2 bq (e2 az (ae 6) (eC (.int 1))) (ae 1)))) (ax (bt (e2 cE (ae 3) (e2 df (dX (af (e2 az (ae 6) (eC (.int 2))) ah)) (eB ki (af (e2 eI (ae 2) (e2 az (e2 az (ae 6) (eC (.int 3))) (eC (.int 0)))) ah)))) (gN 3)) (bt (e2 cE (ae 4) (e2 df (dX (af (e2 az (ae 6) (eC (.int 2))) ah)) (eB ki (af (e2 eI (ae 2) (e2 az (e2 az (ae 6) (eC (.int 3))) (eC (.int 1)))) ah)))) (gN 4))) bN))
def yR:abC Fl:=(ax (aZ (fN (aU (e2 eI (ae 8) (ae 5))) (aU (e2 eI (ae 8) (ae 3)))) (aM (eC (.bl false))) bN) (ax (bt (uX (e2 eI (ae 8) (ae 3)) (eD (ae 7) (e2 iU (ae 8) (ae 5)))) (gN 7)) (aZ (fN (dY (ae 7)) (aU (e2 eI (ae 8) (ae 4)))) (aM (eC (.bl false))) bN)))
def vq:List D->aa->Res D:=aN 3 9 (ax (Co 3 4 5 (af (dX ah) (af (dX ah) (af (eNew ah) ah)))) (ax (ju (fe (ae 0)) (gN 6) yQ) (ax (bt (eC (.bl false)) (gN 7)) (ax (ju (f9 (af (eC (.int 31)) ah)) (gN 8) yR) (aM (eC (.bl true)))))))
def Ff:abC Fl:=(aZ (gp (dY (aS vq (af (ae 0) (af (ae 1) (af (ae 2) ah)))))) (aM (eC (.bl false))) bN)
def Fg:abC Fl:=(ju (f9 (af (eC (.int 8)) ah)) (gN 2) Ff)
def vH:List D->aa->Res D:=aN 1 3 (ax (aZ (aU (e2 pb (eB cN (af (ae 0) ah)) (eC (.int 24)))) (aM (eC (.bl false))) bN) (ax (ju (f9 (af (eC (.int 4)) ah)) (gN 1) Fg) (aM (eC (.bl true)))))
def wz:List D->aa->Res D:=aN 3 5 (ax (pk 3 4 (af (e2 az (ae 0) (e1 kY (eC (.int 1)))) (af (eC .ar) ah))) (ax (aZ (aU (e2 bq (ae 1) (eC (.str "undo")))) (aM (rT (aU (e2 pb (eB cN (af (ae 0) ah)) (eC (.int 1)))) (bZ (af (pU (ae 0) pT (pf (e1 kY (eC (.int 1))))) (af (bZ (af (eC (.str "told")) (af (eC .ar) ah))) ah))) (bZ (af (ae 0) (af (bZ (af (eC (.str "refused")) (af (eC (.int 14)) ah))) ah))))) bN) (ax (aZ (aU (e2 bq (e2 eI (ae 2) (ae 3)) (e2 bq (ae 1) (eC (.str "tell"))))) (aM (bZ (af (ae 0) (af (bZ (af (eC (.str "refused")) (af (eC (.int 13)) ah))) ah)))) bN) (ax (bt (eB gg (af (eh 1 [2] (fe (ae 3)) (gN 0) (aU (e2 bP (ae 0) (ae 1))) (ae 0)) ah)) (gN 4)) (ax (aZ (aU (e2 bq (ae 1) (eC (.str "tell")))) (bt (eB gg (af (eB TK.oB (af (e2 cE (ae 3) (bZ (af (ae 2) ah))) ah)) ah)) (gN 4)) bN) (ax (aZ (gp (dY (aS vH (af (ae 4) ah)))) (aM (bZ (af (ae 0) (af (bZ (af (eC (.str "refused")) (af (eC (.int 13)) ah))) ah)))) bN) (aM (bZ (af (e2 cE (ae 0) (dX (af (ae 4) ah))) (af (bZ (af (eC (.str "told")) (af (eC .ar) ah))) ah))))))))))
def Fv:List D->aa->Res D:=aN 1 2 (ax (bt (dX (af (e1 (dC bI (isNm "NoMarks")) (ae 0)) (af (e1 (dC bI (isNm "NoSheet")) (ae 0)) (af (e1 (dC bI (isNm "NoPage")) (ae 0)) (af (e1 (dC bI (isNm "NoBook")) (ae 0)) ah))))) (gN 1)) (ax (bt (e2 cE (ae 1) (dX (af (e1 (dC bI (isNm "NoMould")) (ae 0)) (af (e1 (dC bI (isNm "NoDay")) (ae 0)) (af (e1 (dC bI (isNm "NoSort")) (ae 0)) (af (e1 (dC bI (isNm "NoNumber")) (ae 0)) ah)))))) (gN 1)) (ax (bt (e2 cE (ae 1) (dX (af (e1 (dC bI (isNm "NoSheets")) (ae 0)) (af (e1 (dC bI (isNm "NoRun")) (ae 0)) (af (e1 (dC bI (isNm "NoLaying")) (ae 0)) (af (e1 (dC bI (isNm "NoHeap")) (ae 0)) ah)))))) (gN 1)) (ax (bt (e2 cE (ae 1) (dX (af (e1 (dC bI (isNm "NoCount")) (ae 0)) (af (e1 (dC bI (isNm "Clash")) (ae 0)) (af (e1 (dC bI (isNm "NoDeed")) (ae 0)) (af (e1 (dC bI (isNm "NoText")) (ae 0)) ah)))))) (gN 1)) (aM (e2 cE (ae 1) (dX (af (e1 (dC bI (isNm "NoRow")) (ae 0)) (af (e1 (dC bI (isNm "TooMany")) (ae 0)) (af (e1 (dC bI (isNm "Lacking")) (ae 0)) ah))))))))))
def kL:List D->aa->Res D:=aN 1 1 (aZ (gp (dY (aS so (af (ae 0) ah)))) (sV "NoPage" (af (eC (.str "a page is a tuple of made or mended, a mould, a day, and a sheet or a mark")) ah)) bN)
def iQ:List D->aa->Res D:=aN 1 1 (aM (e2 az (e1 (mG "Diary" "books") (ae 0)) (e1 kY (eC (.int 1)))))
def sj:List D->aa->Res D:=aN 2 2 (ax (aZ (gp (dY (aS su (af (ae 1) ah)))) (sV "Clash" (af (eC (.str "no book comes of this deed")) ah)) bN) (gO (rk (e1 (mG "Diary" "books") (ae 0)) (ae 1))))
def oo:List D->aa->Res D:=aN 2 3 (ax (gO (qJ kL (af (ae 1) ah))) (ax (bt (fu "Diary" "book_now" iQ (ae 0) ah) (gN 2)) (ax (aZ (aU (e2 iU (ae 1) (ae 2))) (sV "Clash" (af (eC (.str "the page isn't there")) ah)) bN) (gO (fu "Diary" "keep" sj (ae 0) (af (eB gg (af (eh 1 [1] (fe (ae 2)) (gN 0) (aU (e2 bP (ae 0) (ae 1))) (ae 0)) ah)) ah))))))
def qc:List D->aa->Res D:=aN 1 1 (ax (aZ (aU (e2 bq (eB cN (af (e1 (mG "Diary" "books") (ae 0)) ah)) (eC (.int 1)))) (sV "NoDeed" (af (eC (.str "no deed stands")) ah)) bN) (gO (e1 uy (e1 (mG "Diary" "books") (ae 0)))))
def lS:List D->aa->Res D:=aN 2 2 (ax (gO (qJ kL (af (ae 1) ah))) (gO (fu "Diary" "keep" sj (ae 0) (af (eB gg (af (eB TK.oB (af (e2 cE (fu "Diary" "book_now" iQ (ae 0) ah) (bZ (af (ae 1) ah))) ah)) ah)) ah))))
def eU (cl:D) (th:aa->Res D):List D->aa->Res D:=aN 1 3 (nB bI "told" (sg cl th 0) 1 (ax (bt (aS Fv (af (ae 1) ah)) (gN 2)) (ax (aZ (iJ (gp (dY (e1 (dC bI anyS) (ae 1)))) (aU (e2 BC (e1 Cr (ae 2)) (eC (.int 1))))) (aM (bZ (af (eC (.str "other")) (af (eC .ar) ah)))) bN) (ax (aZ (dY (e2 az (ae 2) (eC (.int 17)))) (aM (bZ (af (eC (.str "many")) (af Eb ah)))) bN) (ax (aZ (dY (e2 az (ae 2) (eC (.int 18)))) (aM (bZ (af (eC (.str "lacking")) (af Eb ah)))) bN) (aM (bZ (af (eC (.str "refused")) (af (e1 D6 (ae 2)) ah)))))))))
def iV:List D->aa->Res D:=aN 3 3 (ax (aZ (aU (e2 bq (ae 1) (eC (.str "undo")))) (aM (pA  abI [0] (fu "Diary" "undo" qc (ae 0) ah) eU)) bN) (ax (aZ (aU (e2 bq (ae 1) (eC (.str "tell")))) (aM (pA  abI [2,0] (fu "Diary" "tell" lS (ae 1) (af (ae 0) ah)) eU)) bN) (aM (pA  abI [2,0] (fu "Diary" "strike" oo (ae 1) (af (ae 0) ah)) eU))))
def hW:Nat->List D->aa->Res D
 |0=>λ_ _=>none
 |n+1=>aN 2 2 (ax (aZ (dY (e1 rl (ae 1))) (ax (aZ (iJ (aU (e2 bP (eB cO (af (ae 0) (af (eC (.ty "list")) ah))) (eB cO (af (ae 1) (af (eC (.ty "list")) ah))))) (aU (e2 bP (eB cO (af (ae 0) (af (eC (.ty "tuple")) ah))) (eB cO (af (ae 1) (af (eC (.ty "tuple")) ah)))))) (aM (eC (.bl false))) bN) (ax (aZ (aU (e2 bP (eB cN (af (ae 0) ah)) (eB cN (af (ae 1) ah)))) (aM (eC (.bl false))) bN) (aM (e2 iU (eC (.bl false)) (sX 2 [] (mr (af (ae 0) (af (ae 1) ah))) (gT [gN 0,gN 1]) gC (aS (hW n) (af (ae 0) (af (ae 1) ah)))))))) bN) (aM (eD (e2 bq (eB cO (af (ae 0) (af (eC (.ty "bool")) ah))) (eB cO (af (ae 1) (af (eC (.ty "bool")) ah)))) (e2 bq (ae 0) (ae 1)))))
def qd:List D->aa->Res D:=aN 1 1 (xB "Diary" "books" (eNew (af (bZ ah) ah)) (ae 0))
def AW:abC Fl:=(ax (bt (rT (aU (e2 bq (ae 8) (eC (.int 1)))) (eC (.str "undo")) (ae 6)) (gN 9)) (ax (bt (aS wz (af (ae 4) (af (ae 9) (af (ae 7) ah)))) (gT [(gN 4),(gN 10)])) (aZ (aU (e2 bP (aS iV (af (ae 3) (af (ae 9) (af (ae 7) ah)))) (ae 10))) (aM (eC (.bl false))) bN)))
def AX:abC Fl:=(ax (bt (aS wy (af (ae 2) (af (e2 az (ae 4) (e1 kY (eC (.int 1)))) ah))) (gT [(gN 6),(gN 7)])) (ax (ju (f9 (af (e2 cE (eC (.int 1)) (e2 df (eC (.int 2)) (eB ki (af (eD (e2 bP (ae 6) (eC (.str "undo"))) (e2 bq (aS dQ (af (ae 2) (af (eC (.int 6)) ah))) (eC (.int 0)))) ah)))) ah)) (gN 8) AW) (ax (bt (aS vG (af (ae 2) ah)) (gN 11)) (ax (aZ (fN (aU (e2 bq (aS dQ (af (ae 2) (af (eC (.int 3)) ah))) (eC (.int 0)))) (aU (e2 bP (aS iV (af (ae 3) (af (e2 az (dX (af (eC (.str "tell")) (af (eC (.str "strike")) ah))) (e2 gP (ae 5) (eC (.int 2)))) (af (ae 11) ah)))) (bZ (af (eC (.str "refused")) (af (eC (.int 2)) ah)))))) (aM (eC (.bl false))) bN) (aZ (iJ (gp (dY (aS (hW 8) (af (jR "Diary" "book_now" iQ (ae 3) ah) (af (e2 az (ae 4) (e1 kY (eC (.int 1)))) ah))))) (aU (e2 bP (jR "Diary" "book_now" iQ (ae 3) ah) (e2 az (ae 4) (e1 kY (eC (.int 1))))))) (aM (eC (.bl false))) bN)))))
def AY:abC Fl:=(gO (jR "Diary" "tell" lS (ae 13) (af (ae 7) ah)))
def AZ:abC Fl:=(ax (bt (aS sA (af (ae 0) (af (ae 1) ah))) (gN 2)) (ax (pk 3 4 (af (tR "Diary" qd) (af (dX (af (bZ ah) ah)) ah))) (ax (ju (f9 (af (aS dQ (af (ae 2) (af (eC (.int 31)) ah))) ah)) (gN 5) AX) (ax (bt (eh 1 [] (f9 (af (eC (.int 24)) ah)) (gN 0) gC (bZ (af (eC (.str "mended")) (af (eC (.int 3)) (af (ae 0) (af (eC (.int 5)) ah)))))) (gN 12)) (ax (bt (tR "Diary" qd) (gN 13)) (ax (ju (fe (ae 12)) (gN 7) AY) (ax (aZ (iJ (aU (e2 bP (aS iV (af (ae 13) (af (eC (.str "tell")) (af (bZ (af (eC (.str "mended")) (af (eC (.int 2)) (af (eC (.int 0)) (af (eC (.int 0)) ah))))) ah)))) (bZ (af (eC (.str "refused")) (af (eC (.int 13)) ah))))) (aU (e2 bP (jR "Diary" "book_now" iQ (ae 13) ah) (eB gg (af (ae 12) ah))))) (aM (eC (.bl false))) bN) (aZ (aU (e2 bP (jR "Diary" "book_now" iQ (ae 3) ah) (e2 az (ae 4) (e1 kY (eC (.int 1)))))) (aM (eC (.bl false))) bN))))))))
def xE:List D->aa->Res D:=aN 1 14 (ax (ju (f9 (af (eB qR (af (eC (.int 1)) (af (eB tI (af (eB cN (af (ae 0) ah)) (af (eC (.int 2)) ah))) ah))) ah)) (gN 1) AZ) (aM (eC (.bl true))))
end
end DI.bU
namespace DI
open PySem L2
def Wp {α:Type} (r:Res α) (Q:α->aa->Prop):Prop:=∃a s,r=some (.ok a,s)/\Q a s
section
variable {α β:Type} {r:Res α} {k:α->aa->Res β} {Q Q':α->aa->Prop} {R:β->aa->Prop} {env:Env} {s:aa}
theorem Wp.ok {a:α} (h:Q a s):Wp (DI.ok a s) Q:=⟨a,s,rfl,h⟩
def Wp.mono (h:Wp r Q) (i:∀a s,Q a s->Q' a s):Wp r Q':=by
 obtain⟨a,s,e,q⟩:=h;exact⟨a,s,e,i a s q⟩
theorem Wp.ao (h:Wp r λa s=>Wp (k a s) R):Wp (DI.ao r k) R:=by
 obtain⟨a,s,e,b,Z,Y,q⟩:=h;exact⟨b,Z,by rw[e];exact Y,q⟩
theorem Wp.ne (h:Wp r Q):Wp (DI.ne r) Q:=by
 obtain⟨a,s,e,q⟩:=h;exact⟨a,s,by rw[e];rfl,q⟩
def abD (e:r=some (.ok a,s)) (h:Q a s):Wp r Q:=⟨a,s,e,h⟩
def Wp.seq {f g:abC Fl} {Q:Fl->aa->Prop} (h:Wp (f env s) λfl s=>match fl with
  | .nx env=>Wp (g env s) Q
  |fl=>Q fl s):Wp (ax f g env s) Q:=by
 obtain⟨fl,Z,e,h⟩:=h;unfold ax;rw[e]
 cases fl with
 |nx env=>exact h
 |rt d=>exact⟨_,_,rfl,h⟩
 |bk e=>exact⟨_,_,rfl,h⟩
 |ct e=>exact⟨_,_,rfl,h⟩
def Wp.nJ {Q:Fl->aa->Prop} (I:Nat->Env->aa->Prop) (all:List D) (h0:I 0 env s)
 (step:∀i d env s,all[i]?=some d->I i env s->∃aD,g d env=some aD/\Wp (b aD s) λfl s=>match fl with
   | .nx e=>I (i+1) e s
   | .ct e=>I (i+1) e s
   | .bk e=>Q (.nx e) s
   | .rt d=>Q (.rt d) s) (fin:∀env s,I all.length env s->Q (.nx env) s):Wp (kW g b all env s) Q:=by
 have key:∀(Z:List D) (i:Nat) (env:Env) (s:aa),all.drop i=Z->i<=all.length->I i env s->Wp (kW g b Z env s) Q:=by
  intro Z
  induction Z with
  |nil =>
   intro i env s Y hi h;have e:i=all.length:=by
    have:=Ķ List.length Y;simp at this;omega
   subst e;exact Wp.ok (fin _ _ h)
  |cons d Z ih =>
   intro i env s Y hi h;have X:all[i]?=some d:=by
    have:=Ķ (λl=>l[0]?) Y;simpa using this
   have W:all.drop (i+1)=Z:=by
    have:=Ķ (List.drop 1) Y;simpa [List.drop_drop] using this
   obtain⟨aD,U,T⟩:=step i d env s X h;have V:=(Ç.mp X).1;unfold kW;rw[U];refine Wp.ao (T.mono λfl s q=>?_)
   cases fl with
   |nx e=>exact ih (i+1) e s W V q
   |ct e=>exact ih (i+1) e s W V q
   |bk e=>exact Wp.ok q
   |rt d=>exact Wp.ok q
 exact key all 0 env s rfl (Ċ _) h0
theorem F7 (p:D->Bool) (h:D->D):∀{ds:List D} {s:aa},(∀d∈ds,∃env,g d (Ñ nt none++caps)=some env/\t env s=ok (p d) s/\(p d=true->f env s=ok (h d) s)) ->
  fq nt caps g t f ds s=ok ((ds.filter p).map h) s
 | [],s,_=>rfl
 |d::ds,s,Y=>by
  obtain⟨env,X,W,V⟩:=Y d Ô;have ih:=F7 (nt:=nt) (caps:=caps) (g:=g) (t:=t) (f:=f) p h (ds:=ds) (s:=s) λU T=>Y U (Ó _ T);unfold fq;rw[X];simp only[W,ml,dG]
  cases Z:p d with
  |true=>simp only[ð,V Z,ml,dG,ih,ŋ,Z,Ý]
  |false=>simp only[Â,é,ih,ŋ,Z]
def RR {nt:Nat} {t:abC Bool} {Q:List D->aa->Prop} (I:Nat->List D->aa->Prop) (all:List D) (h0:I 0 [] s)
 (step:∀i d acc s,all[i]?=some d->I i acc s->∃env,g d (Ñ nt none++caps)=some env/\Wp (t env s) λb s=>if b=true then Wp (f env s) λx s=>I (i+1) (acc++[x]) s else I (i+1) acc s)
 (fin:∀acc s,I all.length acc s->Q acc s):Wp (fq nt caps g t f all s) Q:=by
 have key:∀(Z:List D) (i:Nat) (acc:List D) (s:aa),all.drop i=Z->i<=all.length->I i acc s->Wp (fq nt caps g t f Z s) λX s=>Q (acc++X) s:=by
  intro Z
  induction Z with
  |nil =>
   intro i acc s Y hi h;have e:i=all.length:=by
    have:=Ķ List.length Y;simp at this;omega
   subst e;exact Wp.ok (by rw[û];exact fin _ _ h)
  |cons d Z ih =>
   intro i acc s Y hi h;have W:all[i]?=some d:=by
    have:=Ķ (λl=>l[0]?) Y;simpa using this
   have V:all.drop (i+1)=Z:=by
    have:=Ķ (List.drop 1) Y;simpa [List.drop_drop] using this
   obtain⟨R,T,S⟩:=step i d acc s W h;have U:=(Ç.mp W).1;unfold fq;rw[T];refine Wp.ao (Wp.ne (S.mono λb s q=>?_))
   cases b with
   |true =>
    rw[ß rfl] at q |-;refine Wp.ao (Wp.ne (q.mono λx s q=>?_));refine Wp.ao ((ih (i+1) (acc++[x]) s V U q).mono λX s q=>Wp.ok ?_);rw[Ů] at q;exact q
   |false =>
    rw[è Ï] at q |-;exact ih (i+1) acc s V U q
 have:=key all 0 [] s rfl (Ċ _) h0;simpa using this
end
section
variable {α β:Type} {Q:D->aa->Prop} {QL:List D->aa->Prop} {QB:Bool->aa->Prop} {QF:Fl->aa->Prop} {QO:Option Int->aa->Prop} {env:Env} {s:aa} {f g h:abC D} {fa:abC (List D)} {c c':abC Bool} {st dg:abC Fl} {o o':D->D->aa->Res D} {u:D->aa->Res D} {bf:List D->aa->Res D}
def bh {a:α} {Q:α->aa->Prop}:Wp (ok a s) Q=Q a s:=propext ⟨λ⟨b,Z,e,q⟩=>by cases e;exact q,λq=>⟨a,s,rfl,q⟩⟩
def IM {Q:α->aa->Prop}:Wp (some (Except.ok a,s)) Q=Q a s:=bh
def bS {r:Res α} {k:α->aa->Res β} {R:β->aa->Prop}:Wp (ao r k) R=Wp r λa s=>Wp (k a s) R:=propext ⟨λ⟨b,Z,e,q⟩=>by
 obtain⟨a,s,e1,e2⟩:=ql e;exact⟨a,s,e1,b,Z,e2,q⟩,λh=>Wp.ao h⟩
def xF {Q:α->aa->Prop}:Wp (ne r) Q=Wp r Q:=propext ⟨λ⟨b,Z,e,q⟩=>⟨b,Z,Ae e,q⟩,λh=>h.ne⟩
def aV {a:D} {r:Env}:Wp (ae 0 (some a::r) s) Q=Q a s:=by rw[show ae 0 (some a::r) s=ok a s from rfl,bh]
def bx {i:Nat} {a:Option D} {r:Env}:Wp (ae (i+1) (a::r) s) Q=Wp (ae i r s) Q:=by rw[show ae (i+1) (a::r) s=ae i r s from rfl]
def bb:Wp (eC d env s) Q=Q d s:=by rw[show eC d env s=ok d s from rfl,bh]
def iY:Wp (e1 u f env s) Q=Wp (f env s) λx s=>Wp (u x s) Q:=by unfold e1;rw[bS]
def bA:Wp (e2 o f g env s) Q=Wp (f env s) λx s=>Wp (g env s) λy s=>Wp (o x y s) Q:=by unfold e2;simp only[bS]
def bF:Wp (ah env s) QL=QL [] s:=by unfold ah;rw[bh]
def bc:Wp (af f fa env s) QL=Wp (f env s) λx s=>Wp (fa env s) λxs s=>QL (x::xs) s:=by unfold af;simp only[bS,bh]
def gQ:Wp (eB bf fa env s) Q=Wp (fa env s) λds s=>Wp (bf ds s) Q:=by unfold eB;rw[bS]
def wp_call:Wp (aS fn fa env s) Q=Wp (fa env s) λds s=>Wp (fn ds s) Q:=by unfold aS;simp only[bS,xF]
def qo {Q:α->aa->Prop}:Wp (hZ ds r) Q=(ds.length<=Ú/\Wp r Q):=propext ⟨λ⟨b,Z,e,q⟩=>by
 unfold hZ at e;split at e
 ·exact⟨by assumption,b,Z,e,q⟩
 ·(cases e),λ⟨Y,b,Z,e,q⟩=>⟨b,Z,by unfold hZ;rw[ß Y];exact e,q⟩⟩
def fJ:Wp (bZ fa env s) Q=Wp (fa env s) λds s=>ds.length<=Ú/\Q (.tup ds) s:=by unfold bZ;simp only[bS,qo,bh]
def md:Wp (dX fa env s) Q=Wp (fa env s) λds s=>ds.length<=Ú/\Q (.lst ds) s:=by unfold dX;simp only[bS,qo,bh]
def A5:Wp (eNew fa env s) Q=Wp (fa env s) λds s=>ds.length<=Ú/\Q (.aj s.length) (s++[.lst ds]):=by unfold eNew;simp only[bS,qo,bh]
def IQ:Wp (Kc f env s) Q=Wp (f env s) λd s=>Wp (aX d s) Q:=by unfold Kc;rw[bS]
def dq:Wp (aU f env s) QB=Wp (f env s) λd s=>Wp (ij d s) QB:=by unfold aU;rw[bS]
def cz {b:Bool}:Wp (ij (.bl b) s) QB=QB b s:=by rw[show ij (.bl b) s=ok b s from rfl,bh]
def qL:Wp (dY f env s) QB=Wp (f env s) λd s=>Wp (truth d s) QB:=by unfold dY;rw[bS]
def qw {b:Bool}:Wp (truth (.bl b) s) QB=QB b s:=by rw[show truth (.bl b) s=ok b s from rfl,bh]
def qx:Wp (fN c c' env s) QB=Wp (c env s) λb s=>if b=true then Wp (c' env s) QB else QB false s:=by
 unfold fN;rw[bS];congr 1;funext b s
 cases b<;>simp[bh]
def wY:Wp (iJ c c' env s) QB=Wp (c env s) λb s=>if b=true then QB true s else Wp (c' env s) QB:=by
 unfold iJ;rw[bS];congr 1;funext b s
 cases b<;>simp[bh]
def sJ:Wp (gp c env s) QB=Wp (c env s) λb s=>QB (!b) s:=by unfold gp;simp only[bS,bh]
def wA:Wp (eD f g env s) Q=Wp (f env s) λx s=>Wp (ij x s) λb s=>if b=true then Wp (g env s) Q else Q (.bl false) s:=by
 unfold eD;rw[bS];congr 1;funext x s;rw[bS];congr 1;funext b s
 cases b<;>simp[bh]
def A6:Wp (uX f g env s) Q=Wp (f env s) λx s=>Wp (ij x s) λb s=>if b=true then Q (.bl true) s else Wp (g env s) Q:=by
 unfold uX;rw[bS];congr 1;funext x s;rw[bS];congr 1;funext b s
 cases b<;>simp[bh]
def HF:Wp (ug f env s) Q=Wp (f env s) λx s=>Wp (ij x s) λb s=>Q (.bl (!b)) s:=by unfold ug;simp only[bS,bh]
def sY:Wp (rT c f g env s) Q=Wp (c env s) λb s=>if b=true then Wp (f env s) Q else Wp (g env s) Q:=by
 unfold rT;rw[bS];congr 1;funext b s
 cases b<;>simp
def IS:Wp (uY o o' f g h env s) Q=Wp (f env s) λx s=>Wp (g env s) λy s=>Wp (o x y s) λz s=>Wp (ij z s) λb s=>if b=true then Wp (h env s) λu s=>Wp (o' y u s) Q else Q (.bl false) s:=by
 unfold uY;simp only[bS];congr 1;funext x s;congr 1;funext y s;congr 1;funext z s;congr 1;funext b s
 cases b<;>simp[bh,bS]
def dj:Wp (bN env s) QF=QF (.nx env) s:=by unfold bN;rw[bh]
def dR:Wp (aM f env s) QF=Wp (f env s) λd s=>QF (.rt d) s:=by unfold aM;simp only[bS,bh]
def qp:Wp (gO f env s) QF=Wp (f env s) λ_ s=>QF (.nx env) s:=by unfold gO;simp only[bS,bh]
def GO:Wp (Jr env s) QF=QF (.ct env) s:=by unfold Jr;rw[bh]
def lR (st:abC Fl) (Q:Fl->aa->Prop):Fl->aa->Prop:=λfl s=>match fl with
 | .nx env=>Wp (st env s) Q
 |fl=>Q fl s
def Ai:Wp (ax st dg env s) QF=Wp (st env s) (lR dg QF):=propext ⟨λh=>by
 unfold ax at h;rw[bS] at h;refine h.mono λZ s q=>?_
 cases Z with
 |nx e=>exact q
 |rt d=>have q:Wp (ok (Fl.rt d) s) QF:=q;rw[bh] at q;exact q
 |bk d=>have q:Wp (ok (Fl.bk d) s) QF:=q;rw[bh] at q;exact q
 |ct d=>have q:Wp (ok (Fl.ct d) s) QF:=q;rw[bh] at q;exact q,λh=>Wp.seq (h.mono λZ s q=>by cases Z<;>exact q)⟩
def abF (h:∀R,R=dg->Wp (st env s) (lR R QF)):Wp (ax st dg env s) QF:=by rw[Ai];exact h _ rfl
def bL:lR st QF (.nx env) s=Wp (st env s) QF:=rfl
def oM:lR st QF (.rt d) s=QF (.rt d) s:=rfl
def IT:lR st QF (.ct env) s=QF (.ct env) s:=rfl
def ef:Wp (aZ c st dg env s) QF=Wp (c env s) λb s=>if b=true then Wp (st env s) QF else Wp (dg env s) QF:=by
 unfold aZ;rw[bS];congr 1;funext b s
 cases b<;>simp
def dS {gd:D->Env->Option Env}:Wp (bt f gd env s) QF=Wp (f env s) λd s=>∃e,gd d env=some e/\QF (.nx e) s:=by
 unfold bt;rw[bS];congr 1;funext d s
 cases h:gd d env with
 |none=>exact propext ⟨λ⟨_,_,e,_⟩=>(by cases e),λ⟨_,e,_⟩=>(by cases e)⟩
 |some e=>rw[bh];exact propext ⟨λq=>⟨e,rfl,q⟩,λ⟨Z,z,q⟩=>by cases z;exact q⟩
def eV {i:Nat} {P:Env->Prop}:(∃e,gN i d env=some e/\P e)=P (env.set i (some d)):=propext ⟨λ⟨e,z,q⟩=>by cases z;exact q,λq=>⟨_,rfl,q⟩⟩
def xG {P:Env->Prop}:(∃e,gT gs (.tup ds) env=some e/\P e)=∃e,gR gs ds env=some e/\P e:=rfl
def wB {P:Env->Prop}:(∃e,gR [] [] env=some e/\P e)=P env:=propext ⟨λ⟨e,z,q⟩=>by cases z;exact q,λq=>⟨_,rfl,q⟩⟩
def vZ {i:Nat} {P:Env->Prop}:(∃e,gR (gN i::gs) (d::ds) env=some e/\P e)=∃e,gR gs ds (env.set i (some d))=some e/\P e:=rfl
def sL {i j:Nat}:Wp (pk i j fa env s) QF=Wp (fa env s) λds s=>∃x y,ds=[x,y]/\QF (.nx ((env.set i (some x)).set j (some y))) s:=by
 unfold pk;rw[bS];congr 1;funext ds s
 match ds with
 | [x,y] =>
  show Wp (ok (Fl.nx ((env.set i (some x)).set j (some y))) s) QF=_;rw[bh];exact propext ⟨λq=>⟨x,y,rfl,q⟩,λ⟨Z,Y,e,q⟩=>by cases e;exact q⟩
 | []=>exact propext ⟨λ⟨_,_,e,_⟩=>(by cases e),λ⟨_,_,e,_⟩=>(by cases e)⟩
 | [_]=>exact propext ⟨λ⟨_,_,e,_⟩=>(by cases e),λ⟨_,_,e,_⟩=>(by cases e)⟩
 |_::_::_::_=>exact propext ⟨λ⟨_,_,e,_⟩=>(by cases e),λ⟨_,_,e,_⟩=>(by cases e)⟩
def IU {P:D->D->Prop}:(∃x' y',[x,y]=[x',y']/\P x' y')=P x y:=propext ⟨λ⟨_,_,e,q⟩=>by cases e;exact q,λq=>⟨x,y,rfl,q⟩⟩
def kO:Wp (ju it gd st env s) QF=Wp (it env s) λds s=>Wp (kW gd st ds env s) QF:=by unfold ju;rw[bS]
def HG {fo fi:abC D}:Wp (mz f fo fi env s) QF=Wp (f env s) λx s=>Wp (fo env s) λd s=>Wp (fi env s) λn s=>∃s',ke d n x s=some s'/\QF (.nx env) s':=by
 unfold mz;simp only[bS];congr 1;funext x s;congr 1;funext d s;congr 1;funext n s
 cases h:ke d n x s with
 |none=>exact propext ⟨λ⟨_,_,e,_⟩=>(by cases e),λ⟨_,e,_⟩=>(by cases e)⟩
 |some e=>simp only[bh];exact propext ⟨λq=>⟨e,rfl,q⟩,λ⟨Z,z,q⟩=>by cases z;exact q⟩
def wZ:Wp (rk f g env s) Q=Wp (f env s) λd s=>ph d s=true/\Wp (g env s) λx s=>Wp (rj d x s) Q:=by
 unfold rk;rw[bS];congr 1;funext d s
 cases h:ph d s with
 |true=>rw[ß rfl,bS];simp
 |false=>rw[è Ï];exact propext ⟨λ⟨_,_,e,_⟩=>(by cases e),λ⟨e,_⟩=>(by cases e)⟩
def x8 (Q:D->aa->Prop):Fl->aa->Prop:=λZ s=>match Z with
 | .rt d=>Q d s
 | .nx _=>Q .ar s
 |_=>False
def ic:Wp (aN np ns st ds s) Q=(ds.length=np/\Wp (st (ds.map some++Ñ (ns-np) none) s) (x8 Q)):=by
 unfold aN;by_cases h:ds.length=np
 ·rw[ß h,bS]
  refine propext ⟨λq=>⟨h,q.mono λZ s q=>?_⟩,λ⟨_,q⟩=>q.mono λZ s q=>?_⟩
  ·cases Z with
   |rt d=>exact(show Wp (ok d s) Q from q) |> λz=>by rw[bh] at z;exact z
   |nx e=>exact(show Wp (ok D.ar s) Q from q) |> λz=>by rw[bh] at z;exact z
   |bk e=>obtain⟨_,_,e,_⟩:=q;cases e
   |ct e=>obtain⟨_,_,e,_⟩:=q;cases e
  ·cases Z with
   |rt d=>exact Wp.ok q
   |nx e=>exact Wp.ok q
   |bk e=>exact q.elim
   |ct e=>exact q.elim
 ·rw[è h]
  exact propext ⟨λ⟨_,_,e,_⟩=>(by cases e),λ⟨e,_⟩=>absurd e h⟩
def nh:x8 Q (.rt d) s=Q d s:=rfl
def IV:x8 Q (.nx env) s=Q .ar s:=rfl
def qy:Wp (eh nt cap it gd c f env s) Q=Wp (it env s) λds s=>ds.length<=Ú/\Wp (fq nt (gk cap env) gd c f ds s) λxs s=>Q (.lst xs) s:=by
 unfold eh;simp only[bS,qo,bh]
def BD:Wp (pU f l' h' env s) Q=Wp (f env s) λd s=>Wp (l' env s) λlo s=>Wp (h' env s) λhi s=>Wp (oJ d lo hi s) Q:=by unfold pU;simp only[bS]
def A7:Wp (pT env s) QO=QO none s:=by unfold pT;rw[bh]
def Aj {i:Int} (hi:f env s=ok (.int i) s):Wp (pf f env s) QO=QO (some i) s:=by unfold pf;rw[hi,dG,bh]
end
open DI.bU
def RS {cl:D} {th:aa->Res D} {r:Env} {s:aa}:sg cl th 0 (some cl::r) s=th s:=ß rfl
def JS (b:abC Fl) (cl:D) (r:Res D) (s:aa):Res D:=ao (nB bI "told" (λ_ _=>r) 1 b [some cl,none,none] s) λZ s=>match Z with
 | .rt d=>ok d s
 | .nx _=>ok .ar s
 |_=>none
def m6 {cl:D} {th:aa->Res D} {s:aa} {b:abC Fl}:aN 1 3 (nB bI "told" (sg cl th 0) 1 b) [cl] s=JS b cl (th s) s:=by
 show ao (nB bI "told" (sg cl th 0) 1 b [some cl,none,none] s) _=_;unfold nB;rw[RS];rfl
def sZ {cl d:D} {th:aa->Res D} {s s':aa} (h:th s=some (.ok d,s')):eU cl th [cl] s=ok (.tup [.str "told",d]) s':=by
 unfold eU;rw[m6,h];rfl
def vI {cl:D} {th:aa->Res D} {s s':aa} {m:Option Int} (h:th s=some (.error ⟨"NoPage",m⟩,s')):eU cl th [cl] s=ok (.tup [.str "refused",.int 2]) s':=by
 unfold eU;rw[m6,h]
 kernel_rfl
def vL {cl:D} {th:aa->Res D} {s s':aa} {m:Option Int} (h:th s=some (.error ⟨"Clash",m⟩,s')):eU cl th [cl] s=ok (.tup [.str "refused",.int 13]) s':=by
 unfold eU;rw[m6,h]
 kernel_rfl
def ze {cl:D} {th:aa->Res D} {s s':aa} {m:Option Int} (h:th s=some (.error ⟨"NoDeed",m⟩,s')):eU cl th [cl] s=ok (.tup [.str "refused",.int 14]) s':=by
 unfold eU;rw[m6,h]
 kernel_rfl
def zH (cl:D) (th:aa->Res D) (s:aa):eU cl th [cl] s=eU .ar th [.ar] s:=by
 cases h:th s with
 |none=>unfold eU;rw[m6,m6,h];rfl
 |some q =>
  obtain⟨q,Y⟩:=q
  cases q with
  |ok d=>rw[sZ h,sZ h]
  |error x =>
   obtain⟨c,m⟩:=x;by_cases Z:decide (c∈bI)=true
   ·rw[Ì] at Z
    have e1:c="NoPage"\/c="Clash"\/c="NoDeed":=by simpa [bI] using Z
    rcases e1 with rfl|rfl|rfl
    ·rw[vI h,vI h]
    ·rw[vL h,vL h]
    ·rw[ze h,ze h]
   ·unfold eU
    rw[m6,m6,h];unfold JS nB;dsimp only;rw[è Z,è Z]
end DI
namespace DI.bU
open PySem L2 DI
noncomputable def top (i:Nat):aaX:=PySem.Challenge.pw_twinmoulds_k47_a_diary_and_its_deeds.main.body.getD i (.Pass ⟨0,0,0,0⟩)
noncomputable def gb (c:aaX) (j:Nat):aaX:=match c with
 | .ClassDef _ _ _ b _ _ _ _ _ _ _=>b.getD j (.Pass ⟨0,0,0,0⟩)
 |_=>.Pass ⟨0,0,0,0⟩
noncomputable abbrev uz:List Str:=[abK,"_law_k"]
noncomputable abbrev Kw:List Str:=[abJ,"_law_many"]
noncomputable abbrev x9:List Str:=[abJ]
noncomputable abbrev Kx:List Str:=[abJ,"_law_days"]
noncomputable abbrev Ky:List Str:=[abJ,"_law_book"]
noncomputable abbrev Kz:List Str:=[abP,abS,abM]
noncomputable abbrev KC:List Str:=[abP]
noncomputable abbrev KD:List Str:=[abT,abN,abL]
noncomputable abbrev KG:List Str:=["_law_e"]
noncomputable abbrev Cv:List Str:=["things"]
noncomputable abbrev c8:List Str:=["thing"]
noncomputable abbrev BE:List Str:=["thing","many"]
noncomputable abbrev BF:List Str:=["marks","others"]
noncomputable abbrev mv:List Str:=["self"]
noncomputable abbrev BG:List Str:=["pages","mould","mark","half"]
noncomputable abbrev tU:List Str:=["pages","mould","mark"]
noncomputable abbrev BH:List Str:=["days","day","later"]
noncomputable abbrev BJ:List Str:=["pages"]
noncomputable abbrev BK:List Str:=["self","pages"]
noncomputable abbrev tV:List Str:=["self","page"]
noncomputable abbrev JT:List Str:=["_law_call"]
noncomputable abbrev BL:List Str:=[abQ,abN,abL]
noncomputable abbrev VP:List Str:=[abR,abO]
noncomputable abbrev VQ:List Str:=[abK]
structure bY (K:Ď) (mg:Str->Option Å):Prop where
 Mo:mg "ValueError"=none
 A8:mg "all"=none
 IW:mg "any"=none
 Ak:mg "bool"=none
 s9:mg "int"=none
 cw:mg "isinstance"=none
 jj:mg "len"=none
 Al:mg "list"=none
 Ul:mg "max"=none
 Um:mg "min"=none
 iS:mg "range"=none
 Uo:mg "set"=none
 zm:mg "sorted"=none
 iD:mg "tuple"=none
 IY:mg "zip"=none
 NM:fj K mg bI "NoMarks"
 NN:fj K mg bI "NoSheet"
 OE:fj K mg bI "NoPage"
 OF:fj K mg bI "NoBook"
 NO:fj K mg bI "NoMould"
 Qk:fj K mg bI "NoDay"
 OG:fj K mg bI "NoSort"
 MS:fj K mg bI "NoNumber"
 MT:fj K mg bI "NoSheets"
 Ql:fj K mg bI "NoRun"
 MU:fj K mg bI "NoLaying"
 OH:fj K mg bI "NoHeap"
 NP:fj K mg bI "NoCount"
 Qm:fj K mg bI "Clash"
 OI:fj K mg bI "NoDeed"
 OJ:fj K mg bI "NoText"
 Qn:fj K mg bI "NoRow"
 NQ:fj K mg bI "TooMany"
 NR:fj K mg bI "Lacking"
 Mp:qv K bI (.type "ValueError") anyS
 lx:Ee K mg  abI
 OK:uu K mg "NoPage"
 GP:uu K mg "Clash"
 OL:uu K mg "NoDeed"
 Mq:LD K mg bI "MouldError"
 v5:∃t,mg "MARKS"=some (.int (8) t)
 vM:∃t,mg "MOULDS"=some (.int (4) t)
 wC:∃t,mg "DAYS"=some (.int (31) t)
 zI:∃t,mg "PAGES"=some (.int (24) t)
 A9:∃t,mg "HAS"=some (.int (0) t)
 zJ:∃t,mg "LACKS"=some (.int (1) t)
 si:xZ K "Diary" "books"
 qa:GM K "Diary" "book_now" "Diary.book_now" (gb (top 48) 4) mv
 EO:GM K "Diary" "keep" "Diary.keep" (gb (top 48) 5) BK
 L8:GM K "Diary" "strike" "Diary.strike" (gb (top 48) 2) tV
 Mr:GM K "Diary" "undo" "Diary.undo" (gb (top 48) 3) mv
 ER:GM K "Diary" "tell" "Diary.tell" (gb (top 48) 1) tV
 GQ:GK K mg "Diary" "Diary.__init__" (gb (top 48) 0) mv
 MV:GG K mg "_law_cell_at" (top 50) uz
 OM:GG K mg "_law_state" (top 51) uz
 gI:GG K mg "_law_take" (top 52) Kw
 ON:GG K mg "_law_sheet" (top 53) x9
 Qo:GG K mg "_law_page" (top 54) Kx
 Qp:GG K mg "_law_deed" (top 61) Ky
 MW:GG K mg "_law_no_page" (top 62) x9
 L9:GG K mg  abV (top 55) Kz
 MX:GG K mg "_law_is_book" (top 56) KC
 Qq:GG K mg "_law_step" (top 60) KD
 MY:GG K mg "_law_classes" (top 57) KG
 EZ:GG K mg "is_rising" (top 30) Cv
 ME:GG K mg "is_number" (top 25) c8
 yZ:GG K mg "is_below" (top 26) BE
 Fx:GG K mg "is_mark" (top 27) c8
 E1:GG K mg "are_marks" (top 35) c8
 MF:GG K mg "are_apart" (top 37) BF
 MZ:GG K mg "is_sheet" (top 36) c8
 M0:GG K mg "is_mould" (top 28) c8
 OO:GG K mg "is_day" (top 29) c8
 Fy:GG K mg "is_page" (top 38) c8
 E2:GG K mg "need_page" (top 46) c8
 M6:GG K mg "are_laid" (top 39) c8
 E3:GG K mg "days_seen" (top 44) BG
 Mg:GG K mg "days_mended" (top 45) tU
 L5:GG K mg "is_any_behind" (top 43) BH
 NS:GG K mg "clashes" (top 42) tU
 MG:GG K mg "faults_of" (top 41) BJ
 NT:GG K mg "is_book" (top 40) c8
 Am:GG K mg "_law_met" (top 58) JT
 zK:GG K mg  abI (top 63) BL
 Qr:GG K mg "_law_same" (top 59) VP
section
variable {P:ã} {w:Ă} {K:Ď} {mg:Str->Option Å} {base:ĥ}
def M7 (F:bY K mg):cR P w K mg base "_law_cell_at" (top 50) uz 1 qf:=λ{_ _} G =>
 cZ G uz (by kernel_rfl) λY _ _ _ _ _ _ Z=>(aK (cj (bz (xV Z) (ag 1) (cy jo rfl F.jj jr (aL (ag 0))) (bg _)) (aH (aY (bJ (ag 0) (ag 1)))) cf) (aH (aY aw)))
def OP (F:bY K mg):cR P w K mg base "_law_state" (top 51) uz 2 sA:=λ{_ _} G =>
 cZ G [abK,"_law_k","_law_cell"] (by kernel_rfl) λZ _ _ _ _ _ _ Y=>(aK (cA 2 Z (bu F.MV (M7 F) Y (aP (ag 0) (ag 1)))) (aK (cj (bz Kh (ag 2) (bV Jv aw aw) (bg _)) (aH (aY (tF (aP (bV Vk (ag 2) (bV Jv aw aw)) eG)))) cf) (aH (aY (tF (aP (bV oR (ag 2) aw) eG))))))
def gJ (F:bY K mg):cR P w K mg base "_law_take" (top 52) Kw 1 dQ:=λ{_ _} G =>
 cZ G [abJ,"_law_many","_law_found","_law_mixed"] (by kernel_rfl) λZ _ _ _ _ _ _ Y=>(aK (cj (gM (bJ (ag 0) aw)) (aK (cA 2 Z (bV oR (bJ (ag 0) aw) (ag 1))) (aK (Jy (bV Ju (bJ (ag 0) aw) (ag 1)) (ag 0) aw) (aH (aY (ag 2))))) cf) (aK (Jy (bV oR (bV ib (bV mq (bJ (ag 0) aw) aw) aw) aw) (ag 0) aw) (aK (cA 3 Z (bV oR (bV ib (bV ib (bV mq (bJ (ag 0) aw) (bJ (ag 0) aw)) (bV mq aw (bJ (ag 0) aw))) aw) aw)) (aK (cA 3 Z (bV oR (bV ib (bV mq (ag 3) (ag 3)) (bV mq aw (ag 3))) aw)) (aH (aY (bV oR (bV Ju (ag 3) aw) (ag 1))))))))
def OQ (F:bY K mg):cR P w K mg base "_law_sheet" (top 53) x9 2 vY:=λ{_ _} G =>
 cZ G [abJ,"_law_many","_law_parts","_law_has"] (by kernel_rfl) λY _ _ _ _ _ _ Z=>(aK (cA 1 Y (bJ (fZ (ji aw aw aw)) (bu F.gI (gJ F) Z (aP (ag 0) aw)))) (aK (cA 2 Y (kh [abM,abJ] (jg rfl F.iS (aL (ag 1))) (λ_ _ _ _ _ _=>⟨jm,(bu F.gI (gJ F) Z (aP (ag 1) aw))⟩))) (aK (cA 3 Y (jK oA rfl F.iD iE (aL (kh [abM,"_law_parts"] (jg rfl F.iS (aL (ag 1))) (λ_ _ _ _ _ _=>⟨(oP (bz (cU Z) (bJ (ag 1) (ag 0)) aw (bg _))),(ag 0)⟩))))) (aH (aY (cG (aP (ag 3) (jK oA rfl F.iD iE (aL (kh [abM,"_law_parts"] (jg rfl F.iS (aL (ag 1))) (λ_ _ _ _ _ _=>⟨(oP (bz (cU Z) (bJ (ag 1) (ag 0)) aw (bg _))),(ag 0)⟩)))))))))))
def Qs (F:bY K mg):cR P w K mg base "_law_page" (top 54) Kx 3 wx:=λ{_ _} G =>
 cZ G [abJ,"_law_days",abS,"_law_day"] (by kernel_rfl) λY _ _ _ _ _ _ Z=>(aK (AH 2 3 rfl Y (aP (bJ (fZ (aP aw (bu F.gI (gJ F) Z (aP (ag 0) aw)))) (bu F.gI (gJ F) Z (aP (ag 0) aw))) (bu F.gI (gJ F) Z (aP (ag 0) (ag 1))))) (aK (cj (bz (cU Z) (bu F.gI (gJ F) Z (aP (ag 0) aw)) aw (bg _)) (aH (aY (cG (ba bM (ba (ag 2) (ba (ag 3) (ba (bu F.gI (gJ F) Z (aP (ag 0) (bJ (fZ (ji aw aw aw)) (bu F.gI (gJ F) Z (aP (ag 0) aw))))) dU))))))) cf) (aH (aY (cG (ba bM (ba (ag 2) (ba (ag 3) (ba (bu F.ON (OQ F) Z (aL (ag 0))) dU)))))))))
def Qt (F:bY K mg):cR P w K mg base "_law_deed" (top 61) Ky 4 wy:=λ{_ _} G =>
 cZ G [abJ,"_law_book",abN,abL] (by kernel_rfl) λY _ _ _ _ _ _ Z=>(aK (cA 2 Y (bJ (fZ (ba bM (ba bM (ba bM (ba bM (ba bM dU)))))) (bu F.gI (gJ F) Z (aP (ag 0) aw)))) (aK (cA 3 Y (bu F.Qo (Qs F) Z (aP (ag 0) (bJ (fZ (aP aw aw)) (bu F.gI (gJ F) Z (aP (ag 0) aw)))))) (aK (cj (PW.pt (w_and (bz (gU Z) (ag 2) bM (bg _)) (w_and (bz (gU Z) (ag 1) (cG dU) (bg _)) (kQ (bz Cg (bu F.gI (gJ F) Z (aP (ag 0) aw)) (bV ib aw (bV mq aw (jK xy rfl F.s9 tJ (aL (fY (cU Z) (ag 2) bM (bg _)))))) (bg _)))))) (aH (cA 3 Y (bJ (ag 1) (bu F.gI (gJ F) Z (aP (ag 0) (cy jo rfl F.jj jr (aL (ag 1)))))))) cf) (aH (aY (cG (aP (ag 2) (ag 3))))))))
def M8 (F:bY K mg):cR P w K mg base "_law_no_page" (top 62) x9 2 vG:=λ{_ _} G =>
 cZ G [abJ,"_law_some"] (by kernel_rfl) λZ _ _ _ _ _ _ Y=>(@aK _ _ _ _ _ _ (@cA _ _ _ _ _ 1 _ _ Z (@Uk _ _ 3 _ _ _ rfl) rfl (aap rfl) rfl (aap rfl)) (aK (cA 1 Z (bV wN (ag 1) (@oU _ _ 5 _ _ rfl))) (aK (cA 1 Z (bV wN (ag 1) (@oU _ _ 5 _ _ rfl))) (aK (l9 (Bu (ag 1) (cG (ba bM (ba aw (ba aw (ba aw dU))))))) (aK (cA 1 Z (bV wN (ag 1) (@oU _ _ 3 _ _ rfl))) (aK (cA 1 Z (bV wN (ag 1) (@oU _ _ 4 _ _ rfl))) (aH (aY (bJ (ag 1) (bu F.gI (gJ F) Y (aP (ag 0) (cy jo rfl F.jj jr (aL (ag 1))))))))))))))
def Ma (F:bY K mg):cR P w K mg base  abV (top 55) Kz 1 vq:=λ{_ _} G =>
 cZ G [abP,abS,abM,"_law_shown","_law_lacked","_law_mended",abL,"_law_sure","_law_day"] (by kernel_rfl) λY _ _ _ _ _ _ Z=>(aK (TZ 3 4 5 rfl Y (ji (fZ dU) (fZ dU) (tF dU))) (aK (nq Ś rfl (jn (ag 0)) (fX 6 Y) (aK (cj (PW.pt (w_and (bz (cU Z) (bJ (ag 6) aw) bM (bg _)) (w_and (bz (cU Z) (bJ (ag 6) aw) (ag 1) (bg _)) (kQ (bz (cU Z) (bJ (ag 6) aw) (ag 2) (bg _)))))) (aH (l9 (Bu (ag 5) (bJ (ag 6) aw)))) cf) (aH (cj (PW.pt (w_and (bz (cU Z) (bJ (ag 6) aw) bM (bg _)) (kQ (bz (cU Z) (bJ (ag 6) aw) (ag 1) (bg _))))) (aK (cA 3 Y (bV ib (ag 3) (bV mq (fZ (aL (bJ (ag 6) aw))) (jK xy rfl F.s9 tJ (aL (fY (kc Z) (ag 2) (bJ (bJ (ag 6) aw) aw) rfl)))))) (aH (cA 4 Y (bV ib (ag 4) (bV mq (fZ (aL (bJ (ag 6) aw))) (jK xy rfl F.s9 tJ (aL (fY (kc Z) (ag 2) (bJ (bJ (ag 6) aw) aw) rfl)))))))) cf)))) (aK (cA 7 Y eG) (aK (nq Ś rfl (jg rfl F.iS (aL aw)) (fX 8 Y) (aK (cj (PW.pt (w_and (bz (kc Z) (ag 8) (ag 5) rfl) (kQ (bz (kc Z) (ag 8) (ag 3) rfl)))) (aH (aY eG)) cf) (aK (cA 7 Y (WV (fY (kc Z) (ag 8) (ag 3) rfl) (jX (ia (ag 7) (jX (fY (Ad Z) (ag 8) (ag 5) rfl)))))) (aH (cj (PW.pt (w_and (gM (ag 7)) (kQ (bz (kc Z) (ag 8) (ag 4) rfl)))) (aH (aY eG)) cf))))) (aH (aY eG))))))
def M9 (F:bY K mg):cR P w K mg base "_law_is_book" (top 56) KC 2 vH:=λ{_ _} G =>
 cZ G [abP,abS,abM] (by kernel_rfl) λZ _ _ _ _ _ _ Y=>(aK (cj (bz Cg (cy jo rfl F.jj jr (aL (ag 0))) aw (bg _)) (aH (aY eG)) cf) (aK (nq Ś rfl (jg rfl F.iS (aL aw)) (fX 1 Z) (aH (nq Ś rfl (jg rfl F.iS (aL aw)) (fX 2 Z) (aH (cj (jW (gM (bu F.L9 (Ma F) Y (ji (ag 0) (ag 1) (ag 2))))) (aH (aY eG)) cf))))) (aH (aY eG))))
def Qu (F:bY K mg):cR P w K mg base "_law_step" (top 60) KD 3 wz:=λ{_ _} G =>
 cZ G [abT,abN,abL,"_law_book",abU] (by kernel_rfl) λY _ _ _ _ _ _ Z=>(aK (AH 3 4 rfl Y (aP (bJ (ag 0) (nE nr aw)) tD)) (aK (cj (bz (cU Z) (ag 1) bM (bg _)) (aH (aY (Kd (bz Cg (cy jo rfl F.jj jr (aL (ag 0))) aw (bg _)) (cG (aP (Kj (ag 0) Ki (Jx (nE nr aw))) (cG (aP bM tD)))) (cG (aP (ag 0) (cG (aP bM aw))))))) cf) (aK (cj (bz (cU Z) (fY (kc Z) (ag 2) (ag 3) rfl) (fY (cU Z) (ag 1) bM (bg _)) (bg _)) (aH (aY (cG (aP (ag 0) (cG (aP bM aw)))))) cf) (aK (cA 4 Y (jK oA rfl F.iD iE (aL (kh ["_law_one",abL] (jn (ag 3)) (λ_ _ _ _ _ _=>⟨(oP (bz (gU Z) (ag 0) (ag 1) (bg _))),(ag 0)⟩))))) (aK (cj (bz (cU Z) (ag 1) bM (bg _)) (aH (cA 4 Y (jK oA rfl F.iD iE (aL (cy (TK.GN Z) rfl F.zm zz (aL (bV ib (ag 3) (cG (aL (ag 2)))))))))) cf) (aK (cj (jW (gM (bu F.MX (M9 F) Z (aL (ag 4))))) (aH (aY (cG (aP (ag 0) (cG (aP bM aw)))))) cf) (aH (aY (cG (aP (bV ib (ag 0) (fZ (aL (ag 4)))) (cG (aP bM tD))))))))))))
def Na (F:bY K mg):LF P w K mg base "_law_classes" (top 57) KG 1 Fv:=λ{_ _} G =>
 VG G ["_law_e","_law_found"] (by kernel_rfl) λZ _ _ _ _ _ _ Y=>(aK (cA 1 Z (fZ (ba (fI F.NM (ag 0) F.cw) (ba (fI F.NN (ag 0) F.cw) (ba (fI F.OE (ag 0) F.cw) (ba (fI F.OF (ag 0) F.cw) dU)))))) (aK (cA 1 Z (bV ib (ag 1) (fZ (ba (fI F.NO (ag 0) F.cw) (ba (fI F.Qk (ag 0) F.cw) (ba (fI F.OG (ag 0) F.cw) (ba (fI F.MS (ag 0) F.cw) dU))))))) (aK (cA 1 Z (bV ib (ag 1) (fZ (ba (fI F.MT (ag 0) F.cw) (ba (fI F.Ql (ag 0) F.cw) (ba (fI F.MU (ag 0) F.cw) (ba (fI F.OH (ag 0) F.cw) dU))))))) (aK (cA 1 Z (bV ib (ag 1) (fZ (ba (fI F.NP (ag 0) F.cw) (ba (fI F.Qm (ag 0) F.cw) (ba (fI F.OI (ag 0) F.cw) (ba (fI F.OJ (ag 0) F.cw) dU))))))) (aH (aY (bV ib (ag 1) (fZ (ji (fI F.Qn (ag 0) F.cw) (fI F.NQ (ag 0) F.cw) (fI F.NR (ag 0) F.cw))))))))))
def E4 (F:bY K mg):cR P w K mg base "is_rising" (top 30) Cv 1 ot:=λ{_ _} G=>by
 have Z:(["ahead","behind"]:List Str).Nodup:=by decide +kernel
 exact cZ G Cv (by kernel_rfl) λX _ _ _ _ _ _ Y=>(aH (aY (cy (Bt rfl) rfl F.A8 Bx (aL (Hy (N:=["ahead","behind"]) (nt:=2) (cap:=[]) rfl (xt (by kernel_rfl)) (AE (qj 0 (qj 1 Ab))) (Vj rfl F.IY (aP (ag 0) (Kj (ag 0) (Jx aw) Ki))) (λcl C s H ex W=>⟨(oE rfl (ox (iT (i:=0) Z rfl (aap rfl)) (ox (iT (i:=1) Z rfl (aap rfl)) wb))),jm,(fY (xV Y) (ag 0) (ag 1) (bg _))⟩))))))
def MH (F:bY K mg):cR P w K mg base "is_number" (top 25) c8 1 yY:=λ{_ _} G =>
 cZ G c8 (by kernel_rfl) λZ _ _ _ _ _ _ Y=>(aH (aY (ia (cy jq rfl F.cw hV (aP (ag 0) (jv tJ rfl F.s9))) (ia (Jq (cy jq rfl F.cw hV (aP (ag 0) (jv AJ rfl F.Ak)))) (jX (fY Kh (ag 0) aw (bg _)))))))
def za (F:bY K mg):cR P w K mg base "is_below" (top 26) BE 2 qg:=λ{_ _} G =>
 cZ G BE (by kernel_rfl) λY _ _ _ _ _ _ Z=>(aH (aY (ia (bu F.ME (MH F) Z (aL (ag 0))) (jX (fY (xV Z) (ag 0) (ag 1) (bg _))))))
def Fz (F:bY K mg):cR P w K mg base "is_mark" (top 27) c8 3 sm:=λ{_ _} G =>
 cZ G c8 (by kernel_rfl) λY _ _ _ _ _ _ Z=>(aH (aY (bu F.yZ (za F) Z (aP (ag 0) (mB F.v5 rfl)))))
def E5 (F:bY K mg):cR P w K mg base "are_marks" (top 35) c8 4 sk:=λ{_ _} G =>
 cZ G c8 (by kernel_rfl) λY _ _ _ _ _ _ Z=>(aH (aY (ia (cy jq rfl F.cw hV (aP (ag 0) (jv iE rfl F.iD))) (ia (cy (Bt rfl) rfl F.A8 Bx (aL (kh ["mark"] (jn (ag 0)) (λ_ _ _ _ _ _=>⟨jm,(bu F.Fx (Fz F) Z (aL (ag 0)))⟩)))) (jX (bu F.EZ (E4 F) Z (aL (ag 0))))))))
def MI (F:bY K mg):cR P w K mg base "are_apart" (top 37) BF 1 vB:=λ{_ _} G =>
 cZ G BF (by kernel_rfl) λY _ _ _ _ _ _ Z=>(aH (aY (Jq (cy (Jw rfl) rfl F.IW JE (aL (kh ["mark","others"] (jn (ag 0)) (λ_ _ _ _ _ _=>⟨jm,(fY (kc Z) (ag 0) (ag 1) rfl)⟩)))))))
def Nb (F:bY K mg):cR P w K mg base "is_sheet" (top 36) c8 5 vD:=λ{_ _} G =>
 cZ G ["thing","has","lacks"] (by kernel_rfl) λY _ _ _ _ _ _ Z=>(aK (cj (PW.pt (w_or (jW (gM (cy jq rfl F.cw hV (aP (ag 0) (jv iE rfl F.iD))))) (nk (bz (gU Z) (cy jo rfl F.jj jr (aL (ag 0))) aw (bg _))))) (aH (aY eG)) cf) (aK (xr (ag 0) (xq rfl (kN (fX 1 Y) (kN (fX 2 Y) wK)))) (aH (aY (ia (bu F.E1 (E5 F) Z (aL (ag 1))) (ia (bu F.E1 (E5 F) Z (aL (ag 2))) (jX (bu F.MF (MI F) Z (aP (ag 1) (ag 2))))))))))
def Nc (F:bY K mg):cR P w K mg base "is_mould" (top 28) c8 3 vE:=λ{_ _} G =>
 cZ G c8 (by kernel_rfl) λY _ _ _ _ _ _ Z=>(aH (aY (bu F.yZ (za F) Z (aP (ag 0) (mB F.vM rfl)))))
def OR (F:bY K mg):cR P w K mg base "is_day" (top 29) c8 3 vV:=λ{_ _} G =>
 cZ G c8 (by kernel_rfl) λY _ _ _ _ _ _ Z=>(aH (aY (bu F.yZ (za F) Z (aP (ag 0) (mB F.wC rfl)))))
def FA (F:bY K mg):cR P w K mg base "is_page" (top 38) c8 6 so:=λ{_ _} G =>
 cZ G ["thing","word","mould","day","what"] (by kernel_rfl) λY _ _ _ _ _ _ Z=>(aK (cj (PW.pt (w_or (jW (gM (cy jq rfl F.cw hV (aP (ag 0) (jv iE rfl F.iD))))) (nk (bz (gU Z) (cy jo rfl F.jj jr (aL (ag 0))) aw (bg _))))) (aH (aY eG)) cf) (aK (xr (ag 0) (xq rfl (kN (fX 1 Y) (kN (fX 2 Y) (kN (fX 3 Y) (kN (fX 4 Y) wK)))))) (aK (cj (PW.pt (w_or (jW (gM (bu F.M0 (Nc F) Z (aL (ag 2))))) (nk (jW (gM (bu F.OO (OR F) Z (aL (ag 3)))))))) (aH (aY eG)) cf) (aK (cj (bz (cU Z) (ag 1) bM (bg _)) (aH (aY (bu F.MZ (Nb F) Z (aL (ag 4))))) cf) (aH (aY (ia (fY (cU Z) (ag 1) bM (bg _)) (jX (bu F.Fx (Fz F) Z (aL (ag 4)))))))))))
def E6 (F:bY K mg):LC P w K mg base "need_page" (top 46) c8 7 kL:=λ{_ _} G =>
 T6 G c8 (by kernel_rfl) λY _ _ _ _ _ _ Z L=>(aH (cj (jW (gM (bu F.Fy (FA F) Z (aL (ag 0))))) (aH (wo L F.OK (aL bM))) cf))
def qb (F:bY K mg):kG P w K mg base "Diary" "book_now" "Diary.book_now" (gb (top 48) 4) mv 1 iQ:=λ{_ _} G =>
 qK G mv (by kernel_rfl) λZ _ _ _ _ _ _ Y L=>(aH (aY (bJ (xC F.si (ag 0)) (nE nr aw))))
def Nd (F:bY K mg):cR P w K mg base "are_laid" (top 39) c8 7 vF:=λ{_ _} G =>
 cZ G c8 (by kernel_rfl) λY _ _ _ _ _ _ Z=>(aH (aY (ia (cy jq rfl F.cw hV (aP (ag 0) (jv iE rfl F.iD))) (ia (fY Kg (cy jo rfl F.jj jr (aL (ag 0))) (mB F.zI rfl) (bg _)) (ia (cy (Bt rfl) rfl F.A8 Bx (aL (kh ["page"] (jn (ag 0)) (λ_ _ _ _ _ _=>⟨jm,(bu F.Fy (FA F) Z (aL (ag 0)))⟩)))) (jX (bu F.EZ (E4 F) Z (aL (ag 0)))))))))
def E7 (F:bY K mg):cR P w K mg base "days_seen" (top 44) BG 1 mY:=λ{_ _} G =>
 cZ G BG (by kernel_rfl) λY _ _ _ _ _ _ Z=>(aH (aY (kh ["page","mould","mark","half"] (jn (ag 0)) (λ_ _ _ _ _ _=>⟨(oP (PW.pt (w_and (bz (cU Z) (bJ (ag 0) aw) bM (bg _)) (w_and (bz (cU Z) (bJ (ag 0) aw) (ag 1) (bg _)) (kQ (bz (kc Z) (ag 2) (bJ (bJ (ag 0) aw) (ag 3)) rfl)))))),(bJ (ag 0) aw)⟩))))
def Mh (F:bY K mg):cR P w K mg base "days_mended" (top 45) tU 1 vv:=λ{_ _} G =>
 cZ G tU (by kernel_rfl) λY _ _ _ _ _ _ Z=>(aH (aY (kh ["page","mould","mark"] (jn (ag 0)) (λ_ _ _ _ _ _=>⟨(oP (PW.pt (w_and (bz (cU Z) (bJ (ag 0) aw) bM (bg _)) (w_and (bz (cU Z) (bJ (ag 0) aw) (ag 1) (bg _)) (kQ (bz (cU Z) (bJ (ag 0) aw) (ag 2) (bg _))))))),(bJ (ag 0) aw)⟩))))
def L6 (F:bY K mg):cR P w K mg base "is_any_behind" (top 43) BH 1 vp:=λ{_ _} G =>
 cZ G BH (by kernel_rfl) λY _ _ _ _ _ _ Z=>(aH (aY (cy (Jw rfl) rfl F.IW JE (aL (kh ["other","day","later"] (jn (ag 0)) (λ_ _ _ _ _ _=>⟨jm,(Rr (xV Z) Kg (ag 1) (ag 0) (ag 2))⟩))))))
def NU (F:bY K mg):cR P w K mg base "clashes" (top 42) tU 2 sr:=λ{_ _} G=>by
 have Y:(["day","later","lacked","mended"]:List Str).Nodup:=by decide +kernel
 exact cZ G ["pages","mould","mark","lacked","mended"] (by kernel_rfl) λX _ _ _ _ _ _ Z=>(aK (cA 3 X (bu F.E3 (E7 F) Z (ba (ag 0) (ba (ag 1) (ba (ag 2) (ba (mB F.zJ rfl) dU)))))) (aK (cA 4 X (bu F.Mg (Mh F) Z (ji (ag 0) (ag 1) (ag 2)))) (aH (aY (Rx (N:=["day","later","lacked","mended"]) (nt:=2) (cap:=[3,4]) rfl (Jn (by kernel_rfl)) (qt 0) (wj 0) (qt 1) (wj 1) (jn (NG (bu F.E3 (E7 F) Z (ba (ag 0) (ba (ag 1) (ba (ag 2) (ba (mB F.A9 rfl) dU))))) rfl rfl F.zm zz rfl F.Uo Vl)) (λcl C s H ex W=>⟨(iT (i:=0) Y rfl (aap rfl)),jm,(Tv rfl F.iS (aP (ag 0) (mB F.wC rfl))),(iT (i:=1) Y rfl (aap rfl)),(oP (PW.pt (w_and (PW.pt (w_or (bz (kc Z) (ag 1) (ag 2) rfl) (nk (PW.pt (w_and (bz (cU Z) (ag 1) (ag 0) (bg _)) (kQ (bz (kc Z) (ag 0) (ag 3) rfl))))))) (kQ (jW (gM (bu F.L5 (L6 F) Z (ji (ag 3) (ag 0) (ag 1))))))))),(cG (aP (ag 0) (ag 1)))⟩))))))
def MJ (F:bY K mg):cR P w K mg base "faults_of" (top 41) BJ 3 vC:=λ{_ _} G=>by
 have Z:(["mould","mark","day","later","pages"]:List Str).Nodup:=by decide +kernel
 exact cZ G BJ (by kernel_rfl) λX _ _ _ _ _ _ Y=>(aH (aY (Ry (N:=["mould","mark","day","later","pages"]) (nt:=4) (cap:=[0]) rfl (Jn (by kernel_rfl)) (qt 0) (wj 0) (qt 1) (wj 1) (AE (qj 2 (qj 3 Ab))) (AA [2,3]) (jg rfl F.iS (aL (mB F.vM rfl))) (λcl C s H ex W=>⟨(iT (i:=0) Z rfl (aap rfl)),jm,(jg rfl F.iS (aL (mB F.v5 rfl))),(iT (i:=1) Z rfl (aap rfl)),jm,(jn (bu F.NS (NU F) Y (ji (ag 4) (ag 0) (ag 1)))),(oE rfl (ox (iT (i:=2) Z rfl (aap rfl)) (ox (iT (i:=3) Z rfl (aap rfl)) wb))),jm,(cG (ba (ag 0) (ba (ag 1) (ba (ag 2) (ba (ag 3) dU)))))⟩))))
def NV (F:bY K mg):cR P w K mg base "is_book" (top 40) c8 8 su:=λ{_ _} G =>
 cZ G c8 (by kernel_rfl) λY _ _ _ _ _ _ Z=>(aH (aY (ia (bu F.M6 (Nd F) Z (aL (ag 0))) (jX (TK.TY (bu F.MG (MJ F) Z (aL (ag 0))))))))
def ES (F:bY K mg):kG P w K mg base "Diary" "keep" "Diary.keep" (gb (top 48) 5) BK 9 sj:=λ{_ _} G =>
 qK G BK (by kernel_rfl) λY _ _ _ _ _ _ Z L=>(aK (cj (jW (gM (bu F.NT (NV F) Z (aL (ag 1))))) (aH (wo L F.GP (aL bM))) cf) (aH (l9 (Bu (xC F.si (ag 0)) (ag 1)))))
def Mb (F:bY K mg):kG P w K mg base "Diary" "strike" "Diary.strike" (gb (top 48) 2) tV 10 oo:=λ{_ _} G =>
 qK G ["self","page","book"] (by kernel_rfl) λY _ _ _ _ _ _ Z L=>(aK (l9 (JQ F.E2 (E6 F) (ma L) Z (aL (ag 1)))) (aK (cA 2 Y (AV F.qa (qb F) (ma L) Z (ag 0))) (aK (cj (bz (Ad Z) (ag 1) (ag 2) rfl) (aH (wo L F.GP (aL bM))) cf) (aH (l9 (xD F.EO (ES F) (ma L) Z (ag 0) (aL (jK oA rfl F.iD iE (aL (kh ["other","page"] (jn (ag 2)) (λ_ _ _ _ _ _=>⟨(oP (bz (gU Z) (ag 0) (ag 1) (bg _))),(ag 0)⟩)))))))))))
def Ms (F:bY K mg):kG P w K mg base "Diary" "undo" "Diary.undo" (gb (top 48) 3) mv 1 qc:=λ{_ _} G =>
 qK G mv (by kernel_rfl) λY _ _ _ _ _ _ Z L=>(aK (cj (bz (cU Z) (cy jo rfl F.jj jr (aL (xC F.si (ag 0)))) aw (bg _)) (aH (wo L F.OL (aL bM))) cf) (aH (l9 (Uj (xC F.si (ag 0))))))
def ET (F:bY K mg):kG P w K mg base "Diary" "tell" "Diary.tell" (gb (top 48) 1) tV 10 lS:=λ{_ _} G =>
 qK G tV (by kernel_rfl) λY _ _ _ _ _ _ Z L=>(aK (l9 (JQ F.E2 (E6 F) (ma L) Z (aL (ag 1)))) (aH (l9 (xD F.EO (ES F) (ma L) Z (ag 0) (aL (jK oA rfl F.iD iE (aL (cy (TK.GN Z) rfl F.zm zz (aL (bV ib (AV F.qa (qb F) (ma L) Z (ag 0)) (cG (aL (ag 1)))))))))))))
def An (F:bY K mg):Lu P w K mg "_law_met" (top 58) JT 12 11 eU:=λ{_ _ _ _ _ _} T {_ _} G =>
 VA G ["_law_call","_law_e","_law_some"] (by kernel_rfl) λZ _ _ _ _ _ _ X Y=>(aH (Uh T X (Y.mono (by decide)) F.Mq (λ_=>(aK (cA 2 Z (VH F.MY (Na F) (Y.h.held _) (aL (ag 1)))) (aK (cj (PW.pt (w_or (jW (gM (Ue F.Mp (ag 1) F.cw F.Mo))) (nk (bz VI (Ud (ag 2)) aw (bg _))))) (aH (aY (cG (aP bM tD)))) cf) (aK (cj (gM (bJ (ag 2) aw)) (aH (aY (cG (aP bM Kv)))) cf) (aK (cj (gM (bJ (ag 2) aw)) (aH (aY (cG (aP bM Kv)))) cf) (aH (aY (cG (aP bM (VD (ag 2))))))))))) Z))
def zL (F:bY K mg) {c T:Ø} (ht:aa8 K  abI=some (c,T)) (hC:PySem.W.codeHdIn K c T=true) (hB:base.BuiltinsAt mg T):cR P w K mg base  abI (top 63) BL 13 iV:=λ{_ _} G=>by
 exact VE G (VO F.lx G) ht BL (by kernel_rfl) λY _ _ _ _ _ Z=>(aK (cj (bz (cU Z) (ag 1) bM (bg _)) (aH (aY (BA [abQ] rfl rfl ht hC hB F.Am (An F) zH Z (λ_ _ _ _ _ _ _ _ _ _ Z L=>(AV F.Mr (Ms F) (ma L) Z (ag 0)))))) cf) (aK (cj (bz (cU Z) (ag 1) bM (bg _)) (aH (aY (BA [abL,abQ] rfl rfl ht hC hB F.Am (An F) zH Z (λ_ _ _ _ _ _ _ _ _ _ Z L=>(xD F.ER (ET F) (ma L) Z (ag 1) (aL (ag 0))))))) cf) (aH (aY (BA [abL,abQ] rfl rfl ht hC hB F.Am (An F) zH Z (λ_ _ _ _ _ _ _ _ _ _ Z L=>(xD F.L8 (Mb F) (ma L) Z (ag 1) (aL (ag 0)))))))))
def GR:oz [abR,abO] [abR,abO] (bX (top 59)):=⟨rfl,rfl,rfl,by decide +kernel,rfl,by decide +kernel,by decide +kernel⟩
theorem GS (F:bY K mg) {f:Ø} {fd:Ė} (G:Gd K mg "_law_same" (top 59) [abR,abO] f fd):∀n,cB P w K mg base dA (1+n) f fd [abR,abO] (jF K (hW n))
 |0=>Vo λ_ _=>rfl
 |n+1=>by
  have Y:(["_law_one",abU]:List Str).Nodup:=by decide +kernel
  have X:=GR.nd;have ih:=GS F G n;exact Jt G.fn GR λW A outer s H E Z=>(aK (cj (gM (RO (ag 1) rfl F.cw hV (wa rfl F.iD iE rfl) (wa rfl F.Al AK rfl))) (aK (cj (PW.pt (w_or (bz (gU Z) (cy jq rfl F.cw hV (aP (ag 0) (jv AK rfl F.Al))) (cy jq rfl F.cw hV (aP (ag 1) (jv AK rfl F.Al))) (bg _)) (nk (bz (gU Z) (cy jq rfl F.cw hV (aP (ag 0) (jv iE rfl F.iD))) (cy jq rfl F.cw hV (aP (ag 1) (jv iE rfl F.iD))) (bg _))))) (aH (aY eG)) cf) (aK (cj (bz (gU Z) (cy jo rfl F.jj jr (aL (ag 0))) (cy jo rfl F.jj jr (aL (ag 1))) (bg _)) (aH (aY eG)) cf) (aH (aY (fY (Ad Z) eG (Qi (N:=["_law_one",abU]) (nt:=2) (cap:=[]) rfl (xt (by kernel_rfl)) (AE (qj 0 (qj 1 Ab))) (Ui rfl F.IY (aP (ag 0) (ag 1))) (λcl C s H ex V=>⟨(oE rfl (ox (iT (i:=0) Y rfl (aap rfl)) (ox (iT (i:=1) Y rfl (aap rfl)) wb))),jm,(AF ih Z rfl G.mg G.fn.kp G.b (aP (ag 0) (ag 1)))⟩)) rfl))))) cf) (aH (aY (ia (fY (cU Z) (cy jq rfl F.cw hV (aP (ag 0) (jv AJ rfl F.Ak))) (cy jq rfl F.cw hV (aP (ag 1) (jv AJ rfl F.Ak))) (bg _)) (jX (fY (cU Z) (ag 0) (ag 1) (bg _)))))))
def EU (F:bY K mg):kG P w K mg base "Diary" "__init__" "Diary.__init__" (gb (top 48) 0) mv 1 qd:=λ{_ _} G =>
 qK G mv (by kernel_rfl) λZ _ _ _ _ _ _ Y L=>(aH (VM F.si (ag 0) (tF (aL (cG dU)))))
def Uq (F:bY K mg) {c T:Ø} (ht:aa8 K  abI=some (c,T)) (hC:PySem.W.codeHdIn K c T=true) (hB:base.BuiltinsAt mg T):cR P w K mg base "law" (top 64) VQ 14 xE:=λ{_ _} G=>by
 obtain⟨_,_,X⟩:=F.Qr;have V:(["_law_day"]:List Str).Nodup:=by decide +kernel
 exact cZ G [abK,"_law_k",abJ,abQ,abT,"_law_turn",abN,abL,"_law_lap","_law_now",abO,"_law_bad","_law_full",abU] (by kernel_rfl) λY _ _ _ _ _ _ Z=>(aK (nq Ś rfl (jg rfl F.iS (aL (cy (TB rfl) rfl F.Ul Vm (aP aw (cy (TC rfl) rfl F.Um Vn (aP (cy jo rfl F.jj jr (aL (ag 0))) aw)))))) (fX 1 Y) (aK (cA 2 Y (bu F.OM (OP F) Z (aP (ag 0) (ag 1)))) (aK (AH 3 4 rfl Y (aP (JR F.GQ (EU F) Z) (fZ (aL (cG dU))))) (aK (nq Ś rfl (jg rfl F.iS (aL (bu F.gI (gJ F) Z (aP (ag 2) aw)))) (fX 5 Y) (aK (xr (bu F.Qp (Qt F) Z (aP (ag 2) (bJ (ag 4) (nE nr aw)))) (xq rfl (kN (fX 6 Y) (kN (fX 7 Y) wK)))) (aK (nq Ś rfl (jg rfl F.iS (aL (bV ib aw (bV mq aw (jK xy rfl F.s9 tJ (aL (ia (fY (gU Z) (ag 6) bM (bg _)) (jX (fY (cU Z) (bu F.gI (gJ F) Z (aP (ag 2) aw)) aw (bg _)))))))))) (fX 8 Y) (aK (cA 9 Y (Kd (bz (cU Z) (ag 8) aw (bg _)) bM (ag 6))) (aK (xr (bu F.Qq (Qu F) Z (ji (ag 4) (ag 9) (ag 7))) (xq rfl (kN (fX 4 Y) (kN (fX 10 Y) wK)))) (aH (cj (bz (gU Z) (bu F.zK (zL F ht hC hB) Z (ji (ag 3) (ag 9) (ag 7))) (ag 10) (bg _)) (aH (aY eG)) cf))))) (aK (cA 11 Y (bu F.MW (M8 F) Z (aL (ag 2)))) (aK (cj (PW.pt (w_and (bz (cU Z) (bu F.gI (gJ F) Z (aP (ag 2) aw)) aw (bg _)) (kQ (bz (gU Z) (bu F.zK (zL F ht hC hB) Z (ji (ag 3) (bJ (fZ (aP bM bM)) (bV oR (ag 5) aw)) (ag 11))) (cG (aP bM aw)) (bg _))))) (aH (aY eG)) cf) (aH (cj (PW.pt (w_or (jW (gM (AF (GS F X 8) (Z.mono (by decide)) rfl X.mg X.fn.kp X.b (aP (wX F.qa (qb F) Z (ag 3)) (bJ (ag 4) (nE nr aw)))))) (nk (bz (gU Z) (wX F.qa (qb F) Z (ag 3)) (bJ (ag 4) (nE nr aw)) (bg _))))) (aH (aY eG)) cf))))))) (aK (RB 12 (N:=["_law_day"]) (nt:=1) (cap:=[]) Y rfl (xt (by kernel_rfl)) (qt 0) (jg rfl F.iS (aL aw)) (λcl C s H ex U=>⟨(iT (i:=0) V rfl (aap rfl)),jm,(cG (ba bM (ba aw (ba (ag 0) (ba aw dU)))))⟩)) (aK (cA 13 Y (JR F.GQ (EU F) Z)) (aK (nq Ś rfl (jn (ag 12)) (fX 7 Y) (aH (l9 (VN F.ER (ET F) Z (ag 13) (aL (ag 7)))))) (aK (cj (PW.pt (w_or (bz (gU Z) (bu F.zK (zL F ht hC hB) Z (ji (ag 13) bM (cG (ba bM (ba aw (ba aw (ba aw dU))))))) (cG (aP bM aw)) (bg _)) (nk (bz (gU Z) (wX F.qa (qb F) Z (ag 13)) (jK oA rfl F.iD iE (aL (ag 12))) (bg _))))) (aH (aY eG)) cf) (aH (cj (bz (gU Z) (wX F.qa (qb F) Z (ag 3)) (bJ (ag 4) (nE nr aw)) (bg _)) (aH (aY eG)) cf)))))))))) (aH (aY eG)))
end
end DI.bU
namespace DI
open PySem L2
def jx (s:aa) (k:Nat):Prop:=∃a b:Int,s[k]?=some (.lst [.int a,.int b])/\0<=a/\0<=b/\b<2147483647
structure Ex (k:Nat) (s s':aa):Prop where
 len:s.length<=s'.length
 val:∀j,j<s.length->j≠k->s'[j]?=s[j]?
def Ex.refl (k:Nat) (s:aa):Ex k s s:=⟨abG _,λ_ _ _=>rfl⟩
theorem Ex.trans (h:Ex k a b) (g:Ex k b c):Ex k a c:=⟨à h.len g.len,λj Z Y=>(g.val j (È Z h.len) Y).trans (h.val j Z Y)⟩
theorem Ex.set (k:Nat) (s:aa) (c:Cell):Ex k s (s.set k c):=⟨by simp,λj _ Z=>Ö (Ŭ Z)⟩
def Ex.app (k:Nat) (s:aa) (c:List Cell):Ex k s (s++c):=⟨by simp,λj Z _=>Ü Z⟩
def jx.lt (h:jx s k):k<s.length:=by
 obtain⟨a,b,e,_⟩:=h;exact(Ç.mp e).1
def jx.app (h:jx s k) (c:List Cell):jx (s++c) k:=by
 obtain⟨a,b,e,r⟩:=h;exact⟨a,b,by rw[Ü (Ç.mp e).1];exact e,r⟩
theorem jx.set (h:jx s k) (hj:j≠k) (c:Cell):jx (s.set j c) k:=by
 obtain⟨a,b,e,r⟩:=h;exact⟨a,b,by rw[Ö hj];exact e,r⟩
def yH (x y:D) (k:Nat) (s:aa) (h:s[k]?=some (.lst [x,y])):az (.aj k) (.int 0) s=ok x s:=by
 simp[az,lL,res,h,de,fC,bT]
def Ef (x y:D) (k:Nat) (s:aa) (h:s[k]?=some (.lst [x,y])):az (.aj k) (.int 1) s=ok y s:=by
 simp[az,lL,res,h,de,fC,bT]
def Cw (x y z:D) (k:Nat) (s:aa) (h:s[k]?=some (.lst [x,y])):ke (.aj k) (.int 0) z s=some (s.set k (.lst [z,y])):=by
 simp[ke,h,fC]
def Xg (x y z:D) (k:Nat) (s:aa) (h:s[k]?=some (.lst [x,y])):ke (.aj k) (.int 1) z s=some (s.set k (.lst [x,z])):=by
 simp[ke,h,fC]
@[simp] theorem w9 {a:D} {r:Env} {s:aa}:ae 0 (some a::r) s=ok a s:=rfl
@[simp] theorem xa {i:Nat} {a:Option D} {r:Env} {s:aa}:ae (i+1) (a::r) s=ae i r s:=rfl
def ltI (i j:Int) (s:aa):lr (.int i) (.int j) s=ok (.bl (decide (i<j))) s:=rfl
def YM (i j:Int) (s:aa):pb (.int i) (.int j) s=ok (.bl (decide (j<i))) s:=rfl
def YN (i j:Int) (s:aa):uj (.int i) (.int j) s=ok (.bl (decide (j<=i))) s:=rfl
def YO (i j:Int) (s:aa):ui (.int i) (.int j) s=ok (.bl (decide (i<=j))) s:=rfl
def KH (i j:Int) (s:aa):cE (.int i) (.int j) s=ok (.int (i+j)) s:=rfl
def Xh (i j:Int) (s:aa):tG (.int i) (.int j) s=ok (.int (i-j)) s:=rfl
def YQ (i j:Int) (s:aa):bq (.int i) (.int j) s=ok (.bl (i==j)) s:=rfl
def YR (i j:Int) (s:aa):bP (.int i) (.int j) s=ok (.bl (!(i==j))) s:=rfl
def pC {i j:Int} (s:aa) (h:0<j):gP (.int i) (.int j) s=ok (.int (i % j)) s:=by
 simp[gP,Cd,h,bT]
def KI (s:aa) (h:0<j) (h2:j<1073741824):oQ (.int i) (.int j) s=ok (.int (i / j)) s:=by
 simp[oQ,Ce,h,h2,bT]
def rz (s:aa) (h:tH i j=true):df (.int i) (.int j) s=ok (.int (i*j)) s:=by
 simp[df,Cc,h,bT]
def mulOk_of (h1:-(2 ^ 64)<i) (h2:i<2 ^ 64):tH i j=true:=by
 unfold tH;rw[á h1,á h2];rfl
def le_size (h:n<=1000000):n<=Ú:=à h (by decide)
def zM (h1:-1000000<=j) (h2:j<=1000000):kX j=true:=by
 unfold kX;rw[á (show -(2 ^ 62)<=j by omega),á (show j<2 ^ 62 by omega)];rfl
def RT {α β:Type} (f:α->β) (xs:List α) (i:Int):de (xs.map f) i=(de xs i).map f:=by
 unfold de;rw[É]
 cases fC xs.length i with
 |none=>rfl
 |some j=>simp
def xb {α:Type} {xs:List α} {i:Int} (h0:0<=i) (h1:i<xs.length):∃x,de xs i=some x/\xs[i.toNat]?=some x:=by
 have Z:i.toNat<xs.length:=by omega
 refine⟨xs[i.toNat],?_,Ð Z⟩;unfold de fC;rw[ß h0,ß h1];exact Ð Z
def RU {ns:List Int} {i:Int} {s:aa} (h0:0<=i):∃c:Int,qf [.bO ns,.int i] s=ok (.int c) s:=by
 by_cases h:i<(ns.length:Int)
 ·obtain⟨x,Z,_⟩:=xb h0 h
  refine⟨x,?_⟩;have Y:az (.bO ns) (.int i) s=ok (.int x) s:=by simp[az,lL,res,Z,bT]
  simp only[qf,aN,ax,aZ,aU,e2,eB,af,ah,cN,my,res,bT,w9,xa,eC,dG,Ý,ŏ,ğ,ĸ,ñ,ē,ð,ltI,ij,á h,aM,Y,Ñ]
 ·refine⟨0,?_⟩
  simp only[qf,aN,ax,aZ,aU,e2,eB,af,ah,cN,my,res,bT,w9,xa,eC,dG,Ý,ŏ,ğ,ĸ,ñ,ē,ð,ltI,ij,ó h,Â,é,bN,aM,Ñ]
structure dO (m:Nat) (ns:List Int):Prop where
 lo:∀x∈ns,0<=x/\x<m
 up:ns.Pairwise (· < ·)
noncomputable abbrev mD (ns:List Int):D:=.tup (ns.map D.int)
def dO.len (h:dO m ns):ns.length<=m:=by
 have key:∀(l:List Int) (b:Int),l.Pairwise (· < ·)->(∀x∈l,b<=x/\x<m)->(l.length:Int)<=m-b\/l=[]:=by
  intro l
  induction l with
  |nil=>intro b _ _;exact .inr rfl
  |cons x l ih =>
   intro b X Z;obtain⟨W,V⟩:=ò.mp X;have U:=Z x Ô;left
   rcases ih (x+1) V (λy Y=>⟨by have:=W y Y;omega,(Z y (Ó _ Y)).2⟩) with h|h
   ·rw[ñ];omega
   ·subst h
    simp;omega
 rcases key ns 0 h.up h.lo with h'|h'
 ·omega
 ·subst h';simp
def jk (h:fa env s=ok [.int n] s1) (hn:n<=1000000):f9 fa env s=ok (dw 0 n) s1:=by
 unfold f9;rw[h,dG]
 show (if kX (n:Int)=true then ok (dw 0 (n:Int).toNat) s1 else none)=_
 rw[ß (zM (by omega) (by omega)),Ľ]
def RV {n:Nat} {i:Int} (h:fa env s=ok [.int i] s1) (hi:i=n) (hn:n<=1000000):f9 fa env s=ok (dw 0 n) s1:=by
 subst hi;exact jk h hn
def Ur (h:fa env s=ok [.int i,.int j] s1) (h1:-1000000<=i) (h2:i<=1000000) (h3:-1000000<=j) (h4:j<=1000000):yv fa env s=ok (dw i (j-i).toNat) s1:=by
 unfold yv;rw[h,dG]
 show (if (kX i&&kX j)=true then ok (dw i (j-i).toNat) s1 else none)=_
 rw[ß (by rw[zM h1 h2,zM h3 h4];rfl)]
def IZ:Wp (lr (.int i) (.int j) s) Q=Q (.bl (decide (i<j))) s:=by rw[ltI,bh]
def xc:Wp (pb (.int i) (.int j) s) Q=Q (.bl (decide (j<i))) s:=by rw[YM,bh]
def I0:Wp (uj (.int i) (.int j) s) Q=Q (.bl (decide (j<=i))) s:=by rw[YN,bh]
def Ba:Wp (ui (.int i) (.int j) s) Q=Q (.bl (decide (i<=j))) s:=by rw[YO,bh]
def Ao:Wp (cE (.int i) (.int j) s) Q=Q (.int (i+j)) s:=by rw[KH,bh]
def HH:Wp (tG (.int i) (.int j) s) Q=Q (.int (i-j)) s:=by rw[Xh,bh]
def qM:Wp (bq (.int i) (.int j) s) Q=Q (.bl (i==j)) s:=by rw[YQ,bh]
def Ja:Wp (bP (.int i) (.int j) s) Q=Q (.bl (!(i==j))) s:=by rw[YR,bh]
end DI
local macro_rules | `(tactic| simp only[VC])=>`(tactic| simp only[DI.bh,DI.IM,DI.xF,DI.aV,DI.bx,DI.bb,DI.iY,DI.bA,DI.bF,DI.bc,DI.gQ,DI.wp_call,DI.fJ,DI.md,DI.A5,DI.IQ,DI.dq,DI.cz,DI.qL,DI.qw,DI.qx,DI.wY,DI.sJ,DI.wA,DI.A6,DI.HF,DI.sY,DI.IS,DI.dj,DI.dR,DI.qp,DI.GO,DI.Ai,DI.bL,DI.oM,DI.IT,DI.ef,DI.dS,DI.eV,DI.xG,DI.wB,DI.vZ,DI.sL,DI.IU,DI.kO,DI.HG,DI.wZ,DI.ic,DI.nh,DI.IV,DI.qy,DI.BD,DI.A7,List.map_cons,List.map_nil,List.cons_append,List.nil_append,List.length_cons,List.length_nil,List.set_cons_succ,List.set_cons_zero,List.replicate,true_and,Nat.reduceSub,Nat.reduceAdd,DI.IZ,DI.xc,DI.I0,DI.Ba,DI.Ao,DI.HH,DI.qM,DI.Ja])
local macro_rules | `(tactic| simp only[VC,$xs,*])=>`(tactic| simp only[DI.bh,DI.IM,DI.xF,DI.aV,DI.bx,DI.bb,DI.iY,DI.bA,DI.bF,DI.bc,DI.gQ,DI.wp_call,DI.fJ,DI.md,DI.A5,DI.IQ,DI.dq,DI.cz,DI.qL,DI.qw,DI.qx,DI.wY,DI.sJ,DI.wA,DI.A6,DI.HF,DI.sY,DI.IS,DI.dj,DI.dR,DI.qp,DI.GO,DI.Ai,DI.bL,DI.oM,DI.IT,DI.ef,DI.dS,DI.eV,DI.xG,DI.wB,DI.vZ,DI.sL,DI.IU,DI.kO,DI.HG,DI.wZ,DI.ic,DI.nh,DI.IV,DI.qy,DI.BD,DI.A7,List.map_cons,List.map_nil,List.cons_append,List.nil_append,List.length_cons,List.length_nil,List.set_cons_succ,List.set_cons_zero,List.replicate,true_and,Nat.reduceSub,Nat.reduceAdd,DI.IZ,DI.xc,DI.I0,DI.Ba,DI.Ao,DI.HH,DI.qM,DI.Ja,$xs,*])
namespace DI
open PySem L2
def abE {α:Type} {r:Res α} {d:α} {s:aa} (h:Wp r λa s'=>a=d/\s'=s):r=DI.ok d s:=by
 obtain⟨a,s',e,rfl,rfl⟩:=h;exact e
def kM {f:abC D} {env:Env} {s s1:aa} {ds:List D} (h:f env s=ok (.tup ds) s1):fe f env s=ok ds s1:=by
 unfold fe;rw[h];rfl
def v7 (h:f env s=ok (.lst ds) s1):fe f env s=ok ds s1:=by
 unfold fe;rw[h];rfl
theorem vN:∀(ns:List Int),cM (ns.map D.int)=true
 | []=>rfl
 |n::ns=>by simp only[Ý,cM,lay,vN ns,ī]
def HI (x:Int) (ns:List Int):((ns.map D.int).any λy=>beq y (.int x))=decide (x∈ns):=by
 induction ns with
 |nil=>simp
 |cons n ns ih =>
  simp only[Ý,List.any_cons,ih,beq];by_cases h:n=x
  ·subst h;simp
  ·have Z:¬ x=n:=λe=>h e.symm
   simp[h,Z]
def qz {x:Int} {ns:List Int} {s:aa}:eI (.int x) (mD ns) s=ok (.bl (decide (x∈ns))) s:=by
 have Z:nu 100 (.int x) (ns.map D.int)=true:=by simp only[nu,lay,vN,dep,ī,Ċ,Ħ]
 have e:inD (.int x) (ns.map D.int)=some (decide (x∈ns)):=by unfold inD;rw[ß Z,HI]
 unfold eI;rw[show kZ (mD ns) s=some (ns.map D.int) from rfl];simp only[e];rfl
noncomputable def sub (a b:List Int):Bool:=a.all λx=>decide (x∈b)
def wF {α:Type} (p:α->Bool) (xs:List α) (s:aa):pd [.lst (xs.map λx=>D.bl (p x))] s=ok (.bl (xs.all p)) s:=by
 have e:gE (xs.map λx=>D.bl (p x))=some (xs.map p):=by
  have:=Rv (bs:=xs.map p);rw[Ņ] at this;exact this
 show bT ((gE (xs.map λx=>D.bl (p x))).map λ(bs:List Bool)=>D.bl (bs.all id)) s=_;rw[e];show ok (D.bl ((xs.map p).all id)) s=_;rw[List.all_map];rfl
def filter_tt {α:Type} (xs:List α):xs.filter (λ_=>true)=xs:=by simp
def zo {nt:Nat} {caps:Env} {g:D->Env->Option Env} {t:abC Bool} {f:abC D} {s:aa} (p:Int->Bool) (h:Int->D) (ns:List Int) (hh:∀n∈ns,∃env,g (.int n) (Ñ nt none++caps)=some env/\t env s=ok (p n) s/\(p n=true->f env s=ok (h n) s)) :
  fq nt caps g t f (ns.map D.int) s=ok ((ns.filter p).map h) s:=by
 induction ns with
 |nil=>rfl
 |cons n ns ih =>
  obtain⟨env,Y,X,W⟩:=hh n Ô;have ih:=ih λV U=>hh V (Ó _ U);rw[Ý];unfold fq;rw[Y];simp only[X,ml,dG]
  cases Z:p n with
  |true=>simp only[ð,W Z,ml,dG,ih,ŋ,Z,Ý]
  |false=>simp only[Â,é,ih,ŋ,Z]
def comp_map {α:Type} (d:α->D) (p:α->Bool) (h:α->D) (xs:List α) (hh:∀x∈xs,∃env,g (d x) (Ñ nt none++caps)=some env/\t env s=ok (p x) s/\(p x=true->f env s=ok (h x) s)) :
  fq nt caps g t f (xs.map d) s=ok ((xs.filter p).map h) s:=by
 induction xs with
 |nil=>rfl
 |cons n T ih =>
  obtain⟨env,Y,X,W⟩:=hh n Ô;have ih:=ih λV U=>hh V (Ó _ U);rw[Ý];unfold fq;rw[Y];simp only[X,ml,dG]
  cases Z:p n with
  |true=>simp only[ð,W Z,ml,dG,ih,ŋ,Z,Ý]
  |false=>simp only[Â,é,ih,ŋ,Z]
def OS:yY [.int i] s=ok (.bl (decide (0<=i))) s:=by
 rfl
def qh:qg [.int i,.int m] s=ok (.bl (decide (0<=i)&&decide (i<m))) s:=by
 refine abE ?_;unfold qg;simp only[VC,OS];by_cases h:0<=i
 ·simp[h]
 ·simp[h]
def HJ:sm [.int i] s=ok (.bl (decide (0<=i)&&decide (i<8))) s:=by
 refine abE ?_;unfold sm;simp only[VC,qh,true_and]
def GU (xs:List D):cutD xs (some 1) none=xs.drop 1:=by
 unfold cutD HT.aT
 cases xs with
 |nil=>simp
 |cons x xs =>
  simp only[ñ]
  have e:(if (1:Int)<0 then (1+((xs.length+1:Nat):Int)).toNat else min (1:Int).toNat (xs.length+1))=1:=by simp
  simp
noncomputable def rise:List Int->Bool
 | []=>true
 | [_]=>true
 |a::b::r=>decide (a<b)&&rise (b::r)
def RW (h:ns.Pairwise (· < ·)):rise ns=true:=by
 induction ns with
 |nil=>rfl
 |cons a ns ih =>
  cases ns with
  |nil=>rfl
  |cons b r =>
   obtain⟨Z,Y⟩:=ò.mp h;simp only[rise,ih Y,Bool.and_true];exact á (Z b Ô)
theorem GV:∀(ns:List Int),((ns.zip (ns.drop 1)).all λp=>decide (p.1<p.2))=rise ns
 | []=>rfl
 | [_]=>rfl
 |a::b::r=>by
  have ih:=GV (b::r);simp only[abl,abr,ę,List.all_cons,rise] at ih |-;rw[ih]
def OT (xs ys:List Int):fz (xs.map D.int) (ys.map D.int)=(xs.zip ys).map λp=>D.tup [.int p.1,.int p.2]:=by
 unfold fz;rw[List.zip_map,Ņ];rfl
def GW (h:fa env s=ok [.tup xs,.tup ys] s1):o9 fa env s=ok (fz xs ys) s1:=by
 unfold o9;rw[h];rfl
def OU (hl:ns.length<=1000000):ot [mD ns] s=ok (.bl (rise ns)) s:=by
 refine abE ?_;unfold ot;simp only[VC];have Z:o9 (af (ae 0) (af (pU (ae 0) (pf (eC (.int 1))) pT) ah)) [some (mD ns)] s=ok (fz (ns.map D.int) ((ns.drop 1).map D.int)) s:=by
  refine GW (abE ?_);simp only[VC];rw[Aj (i:=1) rfl]
  try simp only[VC]
  refine abD (show oJ (mD ns) (some 1) none s=ok (.tup (cutD (ns.map D.int) (some 1) none)) s from rfl) ⟨?_,rfl⟩;rw[GU,List.map_drop]
 refine abD Z ⟨le_size (by rw[sv];simp only[É];omega),?_⟩;rw[OT];refine abD (comp_map (λp:Int×Int=>D.tup [.int p.1,.int p.2]) (λ_=>true) (λp=>.bl (decide (p.1<p.2))) _ λp _=>⟨[some (.int p.1),some (.int p.2)],rfl,rfl,λ_=>rfl⟩) ?_;rw[filter_tt];exact abD (wF _ _ _) ⟨by rw[GV],rfl⟩
structure Zw (rs:List (List Int)):Prop where
 lo:1<=rs.length
 hi:rs.length<=10
 yI:∀r∈rs,dO 8 r
def getD_some {α:Type} {xs:List α} {i:Nat} {d:α} (h:i<xs.length):xs[i]?=some (xs.getD i d):=by
 rw[List.getD_eq_getElem?_getD,Ð h];rfl
def HK (lo:Int) (n:Nat):dw lo n=(č n).map λi:Nat=>D.int (lo+i):=rfl
def Us (rs:List (List Int)) (laid:List Int) (m:Int):Bool:=((č laid.length).filter λi=>laid.getD i 0==m).all λi=>sub (rs.getD i []) (rs.getD laid.length [])
def tj {α:Type} (d:α->D) (p:α->Bool) (h:α->List D) (xs:List α) (hh:∀x∈xs,∃env,g (d x) lh=some env/\t env s=ok (p x) s/\(p x=true->act env s=ok (h x) s)) :
  jw g t act lh (xs.map d) s=ok ((xs.filter p).flatMap h) s:=by
 induction xs with
 |nil=>rfl
 |cons n T ih =>
  obtain⟨env,Y,X,W⟩:=hh n Ô;have ih:=ih λV U=>hh V (Ó _ U);rw[Ý];unfold jw;rw[Y];simp only[X,ml,dG]
  cases Z:p n with
  |true=>simp only[ð,W Z,ml,dG,ih,ŋ,Z,List.flatMap_cons]
  |false=>simp only[Â,é,ih,ŋ,Z]
def GX :
  Wp (sT nt cap it gd c act env s) Q=Wp (it env s) λds s=>Wp (jw gd c act (Ñ nt none++gk cap env) ds s) λxs s=>xs.length<=Ú/\Q (.lst xs) s:=by
 unfold sT;simp only[bS,xF,qo,bh]
def step (rs:List (List Int)) (told:List (List Int)):List (List Int):=told.flatMap λlaid=>([0,1].filter λm=>Us rs laid m).map λm=>laid++[m]
def xX (h:a.length+b.length<=1000000):cE (mD a) (mD b) s=ok (mD (a++b)) s:=by
 have e:rb (mD a) (mD b)=some (mD (a++b)):=by
  show (if lp (a.map D.int) (b.map D.int)=true then some (D.tup (a.map D.int++b.map D.int)) else none)=_
  have Z:lp (a.map D.int) (b.map D.int)=true:=by
   unfold lp;rw[É,É];exact á (le_size h)
  rw[ß Z];show some (D.tup (a.map D.int++b.map D.int))=some (D.tup ((a++b).map D.int));rw[ĕ]
 show bT (rb (mD a) (mD b)) s=_;rw[e];rfl
noncomputable def brk (l:List Int):List Int:=((č (l.length-1)).filter λi=>l.getD (i+1) 0==l.getD i 0).map λi:Nat=>1+(i:Int)
def Ut (h:xs≠[]):az (.lst xs) (.int (-1)) s=ok (xs.getLast h) s:=by
 have e:de xs (-1)=some (xs.getLast h):=by
  conv=>lhs;rw[<- η h]
  exact Pk _ _
 unfold az lL;rw[show res (.lst xs) s=.lst xs from rfl];simp only[e];rfl
def Cy (h:xs.length+ys.length<=1000000):cE (.lst xs) (.lst ys) s=ok (.lst (xs++ys)) s:=by
 have e:rb (.lst xs) (.lst ys)=some (.lst (xs++ys)):=by
  show (if lp xs ys=true then some (D.lst (xs++ys)) else none)=_
  have Z:lp xs ys=true:=á (le_size h);rw[ß Z]
 show bT (rb (.lst xs) (.lst ys)) s=_;rw[e];rfl
def Ex.get (h:Ex k s s') (e:s[j]?=some c) (hj:j≠k):s'[j]?=some c:=by
 rw[h.val j (Ç.mp e).1 hj];exact e
theorem Ex.hi (h:Ex k s s') (hj:s.length<=j) (c:Cell):Ex k s (s'.set j c):=⟨by rw[ĉ];exact h.len,λi hi Z=>by rw[Ö (by omega)];exact h.val i hi Z⟩
structure RI (s0:aa) (k rh mh:Nat) (rs:List (List Int)) (s:aa):Prop where
 st:jx s k
 ex:Ex k s0 s
 run:s[rh]?=some (.lst (rs.map mD))
 mo:∃a b,s[mh]?=some (.lst [mD a,mD b])/\dO 8 a/\dO 8 b
 yI:∀r∈rs,dO 8 r
 k1:k<s0.length
 r1:s0.length<=rh
 m1:s0.length<=mh
 ne:rh≠mh
def RI.draw (h:RI s0 k rh mh rs s) (g:jx s' k) (x:Ex k s s'):RI s0 k rh mh rs s':=by
 have:=h.k1;have:=h.r1;have:=h.m1;obtain⟨a,b,e,Z,Y⟩:=h.mo;exact⟨g,h.ex.trans x,x.get h.run (by omega),⟨a,b,x.get e (by omega),Z,Y⟩,h.yI,h.k1,h.r1,h.m1,h.ne⟩
def RI.push (h:RI s0 k rh mh rs s) (hr:dO 8 r):RI s0 k rh mh (rs++[r]) (s.set rh (.lst (rs.map mD++[mD r]))):=by
 have:=h.k1;have:=h.r1;have:=h.m1;have:=h.ne;obtain⟨a,b,e,Z,Y⟩:=h.mo;refine⟨h.st.set (by omega) _,h.ex.hi (by omega) _,?_,⟨a,b,by rw[Ö (by omega)];exact e,Z,Y⟩,λx hx=>?_,h.k1,h.r1,h.m1,h.ne⟩
 ·rw[å (Ç.mp h.run).1,ĕ]
  rfl
 ·rcases Ą.mp hx with hx|hx
  ·exact h.yI x hx
  ·rw[Ę.mp hx];exact hr
def RI.put (h:RI s0 k rh mh rs s) (h0:at_=0\/at_=1):(∃a,az (.aj mh) (.int at_) s=ok (mD a) s/\dO 8 a)/\∀c,dO 8 c->∃s',ke (.aj mh) (.int at_) (mD c) s=some s'/\RI s0 k rh mh rs s':=by
 have:=h.k1;have:=h.r1;have:=h.m1;have:=h.ne;obtain⟨a,b,e,Z,Y⟩:=h.mo;have key:∀a b,dO 8 a->dO 8 b->RI s0 k rh mh rs (s.set mh (.lst [mD a,mD b])):=λa b Z Y=>⟨h.st.set (by omega) _,h.ex.hi (by omega) _,by rw[Ö (by omega)];exact h.run,⟨a,b,å (Ç.mp e).1,Z,Y⟩,h.yI,h.k1,h.r1,h.m1,h.ne⟩
 rcases h0 with rfl|rfl
 ·exact⟨⟨a,yH _ _ _ _ e,Z⟩,λc X=>⟨_,Cw _ _ _ _ _ e,key _ _ X Y⟩⟩
 ·exact⟨⟨b,Ef _ _ _ _ e,Y⟩,λc X=>⟨_,Xg _ _ _ _ _ e,key _ _ Z X⟩⟩
def dO.LK (h:dO n l) (hn:n<=8):dO 8 l:=⟨λx Z=>by have:=h.lo x Z;omega,h.up⟩
structure Ft (n W:Nat) (d:D):Prop where
 pl:plain d=true
 sh:(py d).showable=true
 nd:(py d).hasDict=false
 dp:(py d).depth<=n
 wt:(py d).weight<=W
 lv:(py d).leavesShort 40=true
def ne_str:bP (.str x) (.str x) s=ok (.bl false) s:=by
 show (match gm (.str x) (.str x) with|some b=>ok (D.bl (!b)) s|none=>none)=_
 have e:gm (.str x) (.str x)=some true:=by
  unfold gm;rw[ß (show (iO (.str x)&&iO (.str x))=true from rfl)];simp[beq]
 rw[e];rfl
open TK
noncomputable def markB (i:Int):Bool:=decide (0<=i)&&decide (i<8)
noncomputable def ni (i:Int):Bool:=decide (0<=i)&&decide (i<4)
noncomputable def mH (i:Int):Bool:=decide (0<=i)&&decide (i<31)
def jl (ns:List Int):Bool:=ns.all markB&&rise ns
noncomputable def xg (a b:List Int):Bool:=!(a.any λx=>decide (x∈b))
def cq:Pg->Bool
 | .made m d h l=>ni m&&mH d&&(jl h&&(jl l&&xg h l))
 | .bW m d k=>ni m&&mH d&&markB k
def rA:Pg->Prop
 | .made _ _ h l=>h.length<=1000/\l.length<=1000
 | .bW _ _ _=>True
def Qv:gE (bs.map D.bl)=some bs:=by
 induction bs with
 |nil=>rfl
 |cons b bs ih=>simp only[Ý,gE,ih];rfl
def GY {α:Type} (p:α->Bool) (xs:List α) (s:aa):rg [.lst (xs.map λx=>D.bl (p x))] s=ok (.bl (xs.any p)) s:=by
 have e:gE (xs.map λx=>D.bl (p x))=some (xs.map p):=by
  have:=Qv (bs:=xs.map p);rw[Ņ] at this;exact this
 simp only[rg,res,e,bT,ς,List.any_map,œ,id]
def GZ (hl:ns.length<=1000):sk [mD ns] s=ok (.bl (jl ns)) s:=by
 refine abE ?_;unfold sk;simp only[VC];refine abD (show cO [mD ns,.ty "tuple"] s=ok (.bl true) s from rfl) ?_;simp only[VC,ð];refine abD (kM rfl) ⟨le_size (by rw[É];omega),?_⟩;refine abD (zo (λ_=>true) (λx=>.bl (markB x)) ns λn _=>⟨[some (.int n)],rfl,rfl,λ_=>?_⟩) ?_
 ·refine abE ?_
  simp only[VC,HJ,markB,true_and]
 ·rw[filter_tt]
  refine abD (wF _ _ _) ?_;simp only[VC];unfold jl
  cases e:ns.all markB with
  |true =>
   simp only[ð,ü];exact abD (OU (by omega)) ⟨rfl,rfl⟩
  |false=>simp
def Qw (ha:a.length<=1000):vB [mD a,mD b] s=ok (.bl (xg a b)) s:=by
 refine abE ?_;unfold vB;simp only[VC];refine abD (kM rfl) ⟨le_size (by rw[É];omega),?_⟩;refine abD (zo (λ_=>true) (λx=>.bl (decide (x∈b))) a λn _=>⟨[some (.int n),some (mD b)],rfl,rfl,λ_=>?_⟩) ?_
 ·refine abE ?_
  simp only[VC,qz,true_and]
 ·rw[filter_tt]
  refine abD (GY _ _ _) ?_;simp only[VC];exact⟨rfl,trivial⟩
def Qx (h1:h.length<=1000) (h2:l.length<=1000):vD [.tup [mD h,mD l]] s=ok (.bl (jl h&&(jl l&&xg h l))) s:=by
 refine abE ?_;unfold vD;simp only[VC];refine abD (show cO [.tup [mD h,mD l],.ty "tuple"] s=ok (.bl true) s from rfl) ?_;simp only[VC,ô,Â,é];refine abD (show cN [.tup [mD h,mD l]] s=ok (.int 2) s from rfl) ?_;simp only[VC];simp only[VC,ā,ô,Â,é];refine abD (GZ h1) ?_;simp only[VC]
 cases jl h with
 |false=>simp
 |true =>
  simp only[ð,ü];refine abD (GZ h2) ?_;simp only[VC]
  cases jl l with
  |false=>simp
  |true =>
   simp only[ð,ü];exact abD (Qw h1) ⟨rfl,rfl⟩
def G0:vE [.int i] s=ok (.bl (ni i)) s:=by
 refine abE ?_;unfold vE;simp only[VC,qh,ni,Ĭ]
def Jb:vV [.int i] s=ok (.bl (mH i)) s:=by
 refine abE ?_;unfold vV;simp only[VC,qh,mH,Ĭ]
def kH:bq (.str x) (.str y) s=ok (.bl (decide (x=y))) s:=by
 show ok (D.bl (x==y)) s=_
 by_cases e:x=y<;>simp[e]
def RX:¬ (Ā "made"=Ā "mended"):=by decide +kernel
def Ap:¬ (Ā "mended"=Ā "made"):=by decide +kernel
def HL (hf:rA p):so [p.d] s=ok (.bl (cq p)) s:=by
 refine abE ?_;unfold so;have key:∀(a b c d:D),p.d=.tup [a,b,c,d]->cO [p.d,.ty "tuple"] s=ok (.bl true) s/\cN [p.d] s=ok (.int 4) s:=λa b c d e=>by rw[e];exact⟨rfl,rfl⟩
 cases p with
 |made m d h l =>
  obtain⟨Z,Y⟩:=key _ _ _ _ rfl;simp only[VC];refine abD Z ?_;simp only[VC,ô,Â,é];refine abD Y ?_;simp only[VC];simp only[VC,ā,ô,Â,é,Pg.d];refine abD G0 ?_;simp only[VC,cq]
  cases ni m with
  |false=>simp[oM,nh,dR,bb]
  |true =>
   simp only[ô,Â,é,ü];refine abD Jb ?_;simp only[VC]
   cases mH d with
   |false=>simp[oM,nh,dR,bb]
   |true =>
    simp only[VC,ô,Â,é,ü];refine abD kH ?_;simp only[VC,Ħ,ð];exact abD (Qx hf.1 hf.2) ⟨rfl,rfl⟩
 |bW m d k =>
  obtain⟨Z,Y⟩:=key _ _ _ _ rfl;simp only[VC];refine abD Z ?_;simp only[VC,ô,Â,é];refine abD Y ?_;simp only[VC];simp only[VC,ā,ô,Â,é,Pg.d];refine abD G0 ?_;simp only[VC,cq]
  cases ni m with
  |false=>simp[oM,nh,dR,bb]
  |true =>
   simp only[ô,Â,é,ü];refine abD Jb ?_;simp only[VC]
   cases mH d with
   |false=>simp[oM,nh,dR,bb]
   |true =>
    simp only[VC,ô,Â,é,ü];refine abD kH ?_;simp only[VC,ó Ap,Â,é];refine abD kH ?_;simp only[VC,Ħ,ð];exact abD HJ ⟨rfl,rfl⟩
abbrev bD (ps:List Pg):D:=.tup (ps.map Pg.d)
def Uu:lr p.d q.d s=ok (.bl (bE.lt p q)) s:=by
 unfold lr;rw[ß (by rw[oK _ (oT p),oK _ (oT q)];simp only[ī,ü,Ì];have:=qI p;omega),JL];rfl
noncomputable def oV (ps:List Pg):Bool:=(ps.zip (ps.drop 1)).all λp=>bE.lt p.1 p.2
def Qy (xs ys:List Pg):fz (xs.map Pg.d) (ys.map Pg.d)=(xs.zip ys).map λp=>D.tup [p.1.d,p.2.d]:=by
 unfold fz;rw[List.zip_map,Ņ];rfl
def NW (hl:ps.length<=1000):ot [bD ps] s=ok (.bl (oV ps)) s:=by
 refine abE ?_;unfold ot;simp only[VC];have Z:o9 (af (ae 0) (af (pU (ae 0) (pf (eC (.int 1))) pT) ah)) [some (bD ps)] s=ok (fz (ps.map Pg.d) ((ps.drop 1).map Pg.d)) s:=by
  refine GW (abE ?_);simp only[VC];rw[Aj (i:=1) rfl]
  try simp only[VC]
  refine abD (show oJ (bD ps) (some 1) none s=ok (.tup (cutD (ps.map Pg.d) (some 1) none)) s from rfl) ⟨?_,rfl⟩;rw[GU,List.map_drop]
 refine abD Z ⟨le_size (by rw[sv];simp only[É];omega),?_⟩;rw[Qy];refine abD (comp_map (λp:Pg×Pg=>D.tup [p.1.d,p.2.d]) (λ_=>true) (λp=>.bl (bE.lt p.1 p.2)) _ λp _=>⟨[some p.1.d,some p.2.d],rfl,rfl,λ_=>?_⟩) ?_
 ·refine abE ?_
  simp only[VC,Uu,Ĭ]
 rw[filter_tt];exact abD (wF _ _ _) ⟨rfl,rfl⟩
def ie (ps:List Pg):Bool:=decide (ps.length<=24)&&(ps.all cq&&oV ps)
def RY (hl:ps.length<=1000) (hf:∀p∈ps,rA p):vF [bD ps] s=ok (.bl (ie ps)) s:=by
 refine abE ?_;unfold vF ie;simp only[VC];refine abD (show cO [bD ps,.ty "tuple"] s=ok (.bl true) s from rfl) ?_;simp only[VC,ð];refine abD (show cN [bD ps] s=ok (.int ps.length) s from by show ok (D.int (ps.map Pg.d).length) s=_;rw[É]) ?_;simp only[VC];by_cases h:ps.length<=24
 ·have Z:(ps.length:Int)<=24:=by omega
  simp only[h,Z,Ħ,ð,ü];refine abD (kM rfl) ⟨le_size (by rw[É];omega),?_⟩;refine abD (comp_map Pg.d (λ_=>true) (λp=>.bl (cq p)) ps λp Y=>⟨[some p.d],rfl,rfl,λ_=>?_⟩) ?_
  ·refine abE ?_
   simp only[VC,HL (hf p Y),Ĭ]
  ·rw[filter_tt]
   refine abD (wF _ _ _) ?_;simp only[VC]
   cases ps.all cq with
   |false=>simp
   |true =>
    simp only[ð,ü];exact abD (NW hl) ⟨rfl,rfl⟩
 ·have Z:¬ (ps.length:Int)<=24:=by omega
  simp[h,Z]
noncomputable def _root_.TK.Pg.day:Pg->Int
 | .made _ d _ _=>d
 | .bW _ d _=>d
noncomputable def n5 (m k:Int):Pg->Bool
 | .made Z _ h _=>decide (Z=m)&&decide (k∈h)
 |_=>false
noncomputable def n6 (m k:Int):Pg->Bool
 | .made Z _ _ l=>decide (Z=m)&&decide (k∈l)
 |_=>false
noncomputable def mV (m k:Int):Pg->Bool
 | .bW Z _ Y=>decide (Z=m)&&decide (Y=k)
 |_=>false
def shown (ps:List Pg) (m k:Int):List Int:=(ps.filter (n5 m k)).map Pg.day
def hX (ps:List Pg) (m k:Int):List Int:=(ps.filter (n6 m k)).map Pg.day
def gj (ps:List Pg) (m k:Int):List Int:=(ps.filter (mV m k)).map Pg.day
noncomputable abbrev lI (ns:List Int):D:=.lst (ns.map D.int)
def jI (a b c d:D) (s:aa):az (.tup [a,b,c,d]) (.int 0) s=ok a s/\az (.tup [a,b,c,d]) (.int 1) s=ok b s/\az (.tup [a,b,c,d]) (.int 2) s=ok c s/\az (.tup [a,b,c,d]) (.int 3) s=ok d s:=⟨rfl,rfl,rfl,rfl⟩
def LL (a b:D) (s:aa):az (.tup [a,b]) (.int 0) s=ok a s/\az (.tup [a,b]) (.int 1) s=ok b s:=⟨rfl,rfl⟩
def Eg (p:Pg) (s:aa):az p.d (.int 1) s=ok (.int (match p with | .made m _ _ _=>m | .bW m _ _=>m)) s/\az p.d (.int 2) s=ok (.int p.day) s:=by cases p<;>exact⟨rfl,rfl⟩
def HM (hl:ps.length<=1000):mY [bD ps,.int m,.int k,.int 0] s=ok (lI (shown ps m k)) s/\mY [bD ps,.int m,.int k,.int 1] s=ok (lI (hX ps m k)) s:=by
 constructor
 ·refine abE ?_
  unfold mY;simp only[VC];refine abD (kM rfl) ⟨le_size (by rw[É];omega),?_⟩;refine abD (comp_map Pg.d (n5 m k) (λp=>.int p.day) ps λp Y=>⟨[some p.d,some (.int m),some (.int k),some (.int 0)],rfl,?_,λ_=>?_⟩) ?_
  ·refine abE ?_
   cases p with
   |made Z d h l =>
    simp only[VC,Pg.d];rw[(jI _ _ _ _ s).1];simp only[VC,kH,Ħ,ð];rw[(jI _ _ _ _ s).2.1];simp only[VC,n5];by_cases e:Z=m
    ·simp only[e,ā,ð,Ħ,ü]
     rw[(jI _ _ _ _ s).2.2.2];simp only[VC];rw[(LL _ _ s).1];simp only[VC];refine abD (qz (ns:=h)) ?_;simp only[VC,Ĭ]
    ·simp[e]
   |bW Z d X =>
    simp only[VC,Pg.d];rw[(jI _ _ _ _ s).1];simp only[VC,kH,ó Ap,Â,é,n5,Ĭ]
  ·refine abE ?_
   simp only[VC,(Eg p s).2,Ĭ]
  ·simp only[shown,lI,Ņ,œ,Ĭ]
 ·refine abE ?_
  unfold mY;simp only[VC];refine abD (kM rfl) ⟨le_size (by rw[É];omega),?_⟩;refine abD (comp_map Pg.d (n6 m k) (λp=>.int p.day) ps λp Y=>⟨[some p.d,some (.int m),some (.int k),some (.int 1)],rfl,?_,λ_=>?_⟩) ?_
  ·refine abE ?_
   cases p with
   |made Z d h l =>
    simp only[VC,Pg.d];rw[(jI _ _ _ _ s).1];simp only[VC,kH,Ħ,ð];rw[(jI _ _ _ _ s).2.1];simp only[VC,n6];by_cases e:Z=m
    ·simp only[e,ā,ð,Ħ,ü]
     rw[(jI _ _ _ _ s).2.2.2];simp only[VC];rw[(LL _ _ s).2];simp only[VC];refine abD (qz (ns:=l)) ?_;simp only[VC,Ĭ]
    ·simp[e]
   |bW Z d X =>
    simp only[VC,Pg.d];rw[(jI _ _ _ _ s).1];simp only[VC,kH,ó Ap,Â,é,n6,Ĭ]
  ·refine abE ?_
   simp only[VC,(Eg p s).2,Ĭ]
  ·simp only[hX,lI,Ņ,œ,Ĭ]
def RZ (hl:ps.length<=1000):vv [bD ps,.int m,.int k] s=ok (lI (gj ps m k)) s:=by
 refine abE ?_;unfold vv;simp only[VC];refine abD (kM rfl) ⟨le_size (by rw[É];omega),?_⟩;refine abD (comp_map Pg.d (mV m k) (λp=>.int p.day) ps λp X=>⟨[some p.d,some (.int m),some (.int k)],rfl,?_,λ_=>?_⟩) ?_
 ·refine abE ?_
  cases p with
  |bW Z d Y =>
   simp only[VC,Pg.d];rw[(jI _ _ _ _ s).1];simp only[VC,kH,Ħ,ð];rw[(jI _ _ _ _ s).2.1];simp only[VC,mV];by_cases e:Z=m
   ·simp only[e,ā,ð,Ħ,ü]
    rw[(jI _ _ _ _ s).2.2.2];simp only[VC]
    by_cases e:Y=k<;>simp[e]
   ·simp[e]
  |made Z d h l =>
   simp only[VC,Pg.d];rw[(jI _ _ _ _ s).1];simp only[VC,kH,ó RX,Â,é,mV,Ĭ]
 ·refine abE ?_
  simp only[VC,(Eg p s).2,Ĭ]
 ·simp only[gj,lI,Ņ,œ,Ĭ]
def Jc (h:n<=1000):n<=Ú:=le_size (by omega)
def VR:eI (.int x) (lI ns) s=ok (.bl (decide (x∈ns))) s:=by
 show eI (.int x) (mD ns) s=_;exact qz
noncomputable def yd (ds:List Int) (a b:Int):Bool:=ds.any λx=>decide (a<x)&&decide (x<=b)
def OV (hl:ds.length<=1000):vp [lI ds,.int a,.int b] s=ok (.bl (yd ds a b)) s:=by
 refine abE ?_;unfold vp;simp only[VC];refine abD (v7 rfl) ⟨Jc (by rw[É];omega),?_⟩;refine abD (zo (λ_=>true) (λx=>.bl (decide (a<x)&&decide (x<=b))) ds λn _=>⟨[some (.int n),some (.int a),some (.int b)],rfl,rfl,λ_=>?_⟩) ?_
 ·refine abE ?_
  simp only[VC]
  by_cases e:a<n<;>simp[e,bh,Ba,bx,aV]
 ·rw[filter_tt]
  exact abD (GY _ _ _) ⟨rfl,rfl⟩
def n9 (ps:List Pg) (m k d l:Int):Bool:=(decide (l∈hX ps m k)||(decide (l=d)&&decide (d∈gj ps m k)))&&!yd (gj ps m k) d l
noncomputable def oO (d:Int):List Int:=(č (31-d).toNat).map λi:Nat=>d+(i:Int)
def kT (ps:List Pg) (m k:Int):List (Int×Int):=(fL (shown ps m k)).flatMap λd=>((oO d).filter (n9 ps m k d)).map λl=>(d,l)
def v8 {ps:List Pg} {f:Pg->Bool}:((ps.filter f).map Pg.day).length<=ps.length:=by rw[É];exact Ň _ _
theorem sD {α β:Type} {f:α->List β} {b:Nat}:∀{l:List α},(∀x∈l,(f x).length<=b)->(l.flatMap f).length<=l.length*b
 | [],_=>by simp
 |x::l,h=>by
  rw[List.flatMap_cons,Þ,ñ,Nat.succ_mul];have Y:=h x Ô;have X:=sD (l:=l) λy Z=>h y (Ó _ Z);omega
def FC (d:Int) (h:0<=d):(oO d).length<=31:=by unfold oO;rw[É,Ŵ];omega
structure pE (ps:List Pg):Prop where
 len:ps.length<=24
 lo:∀p∈ps,0<=p.day/\p.day<31
def pE.of (h:pE ps) (hx:x∈(ps.filter f).map Pg.day):0<=x/\x<31:=by
 obtain⟨p,Z,rfl⟩:=Ĕ.mp hx;exact h.lo p (Ĩ.mp Z).1
def NX {ps:List Pg} {m k:Int} {s:aa} (h:pE ps):sr [bD ps,.int m,.int k] s=ok (.lst ((kT ps m k).map λp=>D.tup [.int p.1,.int p.2])) s:=by
 have Y:=h.len;have S:(shown ps m k).length<=24:=à v8 Y;have R:(hX ps m k).length<=24:=à v8 Y;have Q:(gj ps m k).length<=24:=à v8 Y;refine abE ?_;unfold sr;simp only[VC];refine abD (HM (by omega)).2 ?_;refine abD (RZ (by omega)) ?_;rw[GX];have hs:fe (e1 qk (aS mY (af (ae 0) (af (ae 1) (af (ae 2) (af (eC (.int (0))) ah)))))) [some (bD ps),some (.int m),some (.int k),some (lI (hX ps m k)),some (lI (gj ps m k))] s=ok ((fL (shown ps m k)).map D.int) s:=by
  refine v7 (abE ?_);simp only[VC];refine abD (HM (by omega)).1 ?_;refine abD (show qk (lI (shown ps m k)) s=ok (lI (fL (shown ps m k))) s from ?_) ⟨rfl,rfl⟩;unfold qk;simp only[Ov];rw[ß (by have:=zh (shown ps m k);rw[Ì];omega)]
 refine abD hs ?_;have day:∀d∈fL (shown ps m k),0<=d/\d<31:=λd Z=>h.of (ow.mp Z);refine abD (tj D.int (λ_=>true) (λd=>((oO d).filter (n9 ps m k d)).map λl=>D.tup [.int d,.int l]) _ λd Z=>⟨[some (.int d),none,some (lI (hX ps m k)),some (lI (gj ps m k))],rfl,rfl,λ_=>?_⟩) ?_
 ·have Z:=day d Z
  unfold more;rw[Ur (i:=d) (j:=31) rfl (by omega) (by omega) (by omega) (by omega),dG];have T:dw d (31-d).toNat=(oO d).map D.int:=by unfold oO;rw[HK,Ņ];rfl
  rw[T];rw[tj D.int (n9 ps m k d) (λl=>[D.tup [.int d,.int l]]) (oO d) λl Y=>⟨[some (.int d),some (.int l),some (lI (hX ps m k)),some (lI (gj ps m k))],rfl,?_,λ_=>?_⟩]
  ·rw[<- List.map_eq_flatMap]
  ·refine abE ?_
   simp only[VC,VR];unfold n9;have X:=OV (ds:=gj ps m k) (a:=d) (b:=l) (s:=s) (by omega);by_cases W:l∈hX ps m k
   ·simp only[VC,W,Ħ,ð,Bool.true_or,ü]
    exact abD X (by simp only[VC,Ĭ])
   ·simp only[W,decide_false,Â,é,Bool.false_or]
    by_cases V:l=d
    ·subst V
     simp only[VC,ā,ð,Ħ,ü];by_cases U:l∈gj ps m k
     ·simp only[U,Ħ,ð,ü]
      exact abD X (by simp only[VC,Ĭ])
     ·simp[U]
    ·simp[V]
  ·refine abE ?_
   unfold emit;rw[bS];simp only[VC];exact⟨by decide,trivial⟩
 ·rw[filter_tt]
  refine⟨?_,?_,rfl⟩
  ·refine Jc (à (sD (b:=31) λd Z=>?_) ?_)
   ·rw[É]
    exact à (Ň _ _) (FC d (day d Z).1)
   ·have:=zh (shown ps m k)
    have:(fL (shown ps m k)).length<=24:=by omega
    omega
  ·unfold kT
   simp only[List.map_flatMap,Ņ,œ]
noncomputable def m4:List Int:=(č 4).map λi:Nat=>(i:Int)
noncomputable def k8:List Int:=(č 8).map λi:Nat=>(i:Int)
def kU (ps:List Pg):List (Int×Int×Int×Int):=m4.flatMap λm=>k8.flatMap λk=>(kT ps m k).map λp=>(m,k,p.1,p.2)
noncomputable def fD (p:Int×Int×Int×Int):D:=.tup [.int p.1,.int p.2.1,.int p.2.2.1,.int p.2.2.2]
def OW {ps:List Pg} (h:pE ps) (m k:Int):(kT ps m k).length<=744:=by
 have Y:(shown ps m k).length<=24:=à v8 h.len;have:=zh (shown ps m k);refine à (sD (b:=31) λd Z=>?_) (by omega);rw[É];exact à (Ň _ _) (FC d (h.of (ow.mp Z)).1)
def OX {ps:List Pg} {s:aa} (h:pE ps):vC [bD ps] s=ok (.lst ((kU ps).map fD)) s:=by
 refine abE ?_;unfold vC;simp only[ic,dR,nh,Ý,ŏ,ğ,ĸ,ñ,ē,Ñ,true_and,Nat.reduceSub,Nat.reduceAdd];rw[GX];refine abD (jk (n:=4) rfl (by decide)) ?_;have Z:dw 0 4=m4.map D.int:=rfl;have Y:dw 0 8=k8.map D.int:=rfl;rw[Z];refine abD (tj D.int (λ_=>true) (λm=>k8.flatMap λk=>(kT ps m k).map λp=>fD (m,k,p.1,p.2)) m4 λm X=>⟨[some (.int m),none,none,none,some (bD ps)],rfl,rfl,λ_=>?_⟩) ?_
 ·unfold more
  rw[jk (n:=8) rfl (by decide),dG,Y];rw[tj D.int (λ_=>true) (λk=>(kT ps m k).map λp=>fD (m,k,p.1,p.2)) k8 λk W=>⟨[some (.int m),some (.int k),none,none,some (bD ps)],rfl,rfl,λ_=>?_⟩]
  ·rw[filter_tt]
  ·have hi:fe (aS sr (af (ae 4) (af (ae 0) (af (ae 1) ah)))) [some (.int m),some (.int k),none,none,some (bD ps)] s=ok ((kT ps m k).map λp=>D.tup [.int p.1,.int p.2]) s:=by
    refine v7 (abE ?_);simp only[VC];exact abD (NX h) ⟨rfl,rfl⟩
   rw[hi,dG];rw[tj (λp:Int×Int=>D.tup [.int p.1,.int p.2]) (λ_=>true) (λp=>[fD (m,k,p.1,p.2)]) (kT ps m k) λp V=>⟨[some (.int m),some (.int k),some (.int p.1),some (.int p.2),some (bD ps)],rfl,rfl,λ_=>?_⟩]
   ·rw[filter_tt,<- List.map_eq_flatMap]
   ·refine abE ?_
    unfold emit;rw[bS];simp only[VC];exact⟨by decide,rfl,trivial⟩
 ·rw[filter_tt]
  refine⟨?_,?_,rfl⟩
  ·refine le_size (à (sD (b:=8*744) λm X=>?_) (by decide))
   refine à (sD (b:=744) λk W=>?_) (by decide);rw[É];exact OW h m k
  ·unfold kU
   simp only[List.map_flatMap,Ņ,œ]
def cT (ps:List Pg):Bool:=ie ps&&(kU ps).isEmpty
def zp (h:ie ps=true):pE ps:=by
 unfold ie at h;simp only[Æ,Ì,ë] at h;refine⟨h.1,λp Z=>?_⟩;have:=h.2.1 p Z
 cases p<;>simp only[cq,mH,Æ,Ì] at this<;>exact this.1.2
def R0 (hl:ps.length<=1000) (hf:∀p∈ps,rA p):su [bD ps] s=ok (.bl (cT ps)) s:=by
 refine abE ?_;unfold su;simp only[VC];refine abD (RY hl hf) ?_;simp only[VC];unfold cT
 cases h:ie ps with
 |false=>simp
 |true =>
  simp only[ð,ü];unfold Bz;simp only[VC,bS];refine abD (OX (zp h)) ?_;refine abD (show truth (.lst ((kU ps).map fD)) s=ok (!((kU ps).map fD).isEmpty) s from rfl) ?_;simp only[bh];refine⟨?_,trivial⟩
  cases kU ps<;>rfl
def xh:m∈m4↔0<=m/\m<4:=by
 unfold m4;rw[Ĕ];constructor
 ·rintro ⟨i,hi,rfl⟩
  have:=ö.mp hi;omega
 ·rintro ⟨Z,Y⟩
  exact⟨m.toNat,ö.mpr (by omega),by omega⟩
def xi:m∈k8↔0<=m/\m<8:=by
 unfold k8;rw[Ĕ];constructor
 ·rintro ⟨i,hi,rfl⟩
  have:=ö.mp hi;omega
 ·rintro ⟨Z,Y⟩
  exact⟨m.toNat,ö.mpr (by omega),by omega⟩
def Qz (h:cT ps=true) (hm:0<=m/\m<4) (hk:0<=k/\k<8) (hd:d∈shown ps m k) (h1:d<=l) (h2:l<31):n9 ps m k d l=false:=by
 unfold cT at h;rw[Æ,List.isEmpty_iff] at h
 cases Z:n9 ps m k d l with
 |false=>rfl
 |true =>
  exfalso;have Y:(d,l)∈kT ps m k:=by
   refine List.mem_flatMap.mpr ⟨d,ow.mpr hd,Ĕ.mpr ⟨l,Ĩ.mpr ⟨?_,Z⟩,rfl⟩⟩;exact Ĕ.mpr ⟨(l-d).toNat,ö.mpr (by omega),by omega⟩
  have:(m,k,d,l)∈kU ps:=List.mem_flatMap.mpr ⟨m,xh.mpr hm,List.mem_flatMap.mpr ⟨k,xi.mpr hk,Ĕ.mpr ⟨(d,l),Y,rfl⟩⟩⟩;rw[h.2] at this;cases this
theorem HN:∀{ns:List Int},rise ns=true->ns.Pairwise (· < ·)
 | [],_=>.nil
 | [a],_=>by simp
 |a::b::r,h=>by
  simp only[rise,Æ,Ì] at h;have ih:=HN h.2;refine ò.mpr ⟨λx hx=>?_,ih⟩
  rcases Õ.mp hx with rfl|hx
  ·exact h.1
  ·have:=(ò.mp ih).1 x hx
   omega
def FD (h:jl ns=true):dO 8 ns:=by
 unfold jl at h;rw[Æ,ë] at h;refine⟨λx Z=>?_,HN h.2⟩;have:=h.1 x Z;unfold markB at this;simp only[Æ,Ì] at this;exact this
def FE (h:dO n ns) (hn:n<=8):jl ns=true:=by
 unfold jl;rw[Æ,ë];refine⟨λx Z=>?_,RW h.up⟩;have:=h.lo x Z;unfold markB;simp only[Æ,Ì];omega
theorem dO.filter (h:dO n ns) (p:Int->Bool):dO n (ns.filter p):=⟨λx Z=>h.lo x (Ĩ.mp Z).1,h.up.filter p⟩
def vO (hm:0<=m/\m<4) (hd:0<=d/\d<31) (hk:0<=k/\k<8):cq (.bW m d k)=true:=by
 simp only[cq,ni,mH,markB,Æ,Ì];omega
def OY (hm:0<=m/\m<4) (hd:0<=d/\d<31) (h1:dO n h) (h2:dO n l) (hn:n<=8) (ha:∀x∈h,x∉l):cq (.made m d h l)=true:=by
 simp only[cq,ni,mH,Æ,Ì,xg,Ĵ,List.any_eq_false];exact⟨⟨hm,hd⟩,FE h1 hn,FE h2 hn,ha⟩
def zq (h:cq p=true):rA p:=by
 cases p with
 |made m d Z l =>
  simp only[cq,Æ] at h;exact⟨by have:=(FD h.2.1).len;omega,by have:=(FD h.2.2.1).len;omega⟩
 |bW m d k=>trivial
def fG (W:Ă) (R:Pg->Prop) (s:aa) (j n:Nat):Prop:=∃Z:List Pg,s[j]?=some (.dT (Z.map λp=>(p.d,hs W p.d)))/\(Z.Nodup/\∀p∈Z,R p)/\Z.length<=n
def fG.lt (h:fG W R s j n):j<s.length:=by
 obtain⟨Z,e,_⟩:=h;exact(Ç.mp e).1
def fG.ex (h:fG W R s j n) (x:Ex k s s') (hj:j≠k):fG W R s' j n:=by
 have Z:=h.lt;obtain⟨Y,e,r⟩:=h;exact⟨Y,(x.val j Z hj).trans e,r⟩
def fG.more (h:fG W R s j n) (hm:n<=m):fG W R s j m:=by
 obtain⟨Z,e,r,l⟩:=h;exact⟨Z,e,r,by omega⟩
def fG.app (h:fG W R s j n) (c:List Cell):fG W R (s++c) j n:=by
 have Z:=h.lt;obtain⟨Y,e,r⟩:=h;exact⟨Y,by rw[Ü Z];exact e,r⟩
theorem fG.set (h:fG W R s j n) (hi:i≠j) (c:Cell):fG W R (s.set i c) j n:=by
 obtain⟨Z,e,r⟩:=h;exact⟨Z,by rw[Ö hi];exact e,r⟩
def fG.mono (h:fG W R s j n) (hR:∀p,R p->R' p):fG W R' s j n:=by
 obtain⟨Z,e,r,l⟩:=h;exact⟨Z,e,⟨r.1,λp Y=>hR p (r.2 p Y)⟩,l⟩
def Ex.YS (h:Ex k s s') (hj:s.length<=j) (c:Cell):Ex k s (s'.set j c) :=
 ⟨by rw[ĉ];exact h.len,λi hi Z=>by rw[Ö (by omega)];exact h.val i hi Z⟩
def oE (p:Pg):∃ks,p.d=.tup ks/\dF ks=true/\cH ks<=6:=by
 have Z:=oT p;have Y:=qI p;obtain⟨x,r,e⟩:=GD p;rw[e] at Z Y;simp only[kd,dep] at Z Y;exact⟨_,e,Z,by omega⟩
def Uv (W:Ă) (ps:List Pg):(ps.map λp=>(p.d,hs W p.d)).all (keyOk W)=true:=by
 rw[List.all_map,ë];intro p _;obtain⟨X,e,Z,Y⟩:=oE p;simp only[Function.comp,keyOk];rw[e];simp only[Z,á Y,Ħ,ī]
def Uw (h:fG W R s j n) (hf:R p) (hn:n<1000):∃c,Cn W (.aj j) p.d (.bl true) s=some (s.set j c)/\fG W R (s.set j c) j (n+1):=by
 have T:=h.lt;obtain⟨Z,e,X,len⟩:=h;obtain⟨Q,V,P,O⟩:=oE p;have S:=Uv W Z;generalize Y:(Z.map λp=>(p.d,hs W p.d))=U at e S;have K:U.length=Z.length:=by rw[<- Y,É]
 refine⟨.dT (TK.xX W U (.tup Q)),?_,?_⟩
 ·rw[V]
  unfold Cn;simp only[e];rw[ß];rw[P,á O,S,á (È (show U.length<1000 by omega) (le_size (by decide)))];rfl
 ·unfold TK.xX
  split
  ·exact⟨Z,by rw[Y];exact å T,X,by omega⟩
  ·rename_i N
   refine⟨Z++[p],?_,⟨ZW.mpr ⟨X.1,by simp,λa M b L=>?_⟩,λq hq=>?_⟩,by simp;omega⟩
   ·rw[å T,ĕ,Y]
    simp only[Ý,ŏ,V]
   ·rw[Ę.mp L]
    rintro rfl;refine N (š.mpr ⟨(a.d,hs W a.d),?_,?_⟩)
    ·rw[<- Y];exact Ĕ.mpr ⟨a,M,rfl⟩
    ·rw[<- V];exact(wM _ _ (oT a) (oT a)).mpr rfl
   ·rcases Ą.mp hq with hq|hq
    ·exact X.2 q hq
    ·rw[Ę.mp hq];exact hf
theorem HP:∀{ps:List Pg},ps.Pairwise (λa b=>bE.lt a b=true)->oV ps=true
 | [],_=>rfl
 | [a],_=>rfl
 |a::b::r,h=>by
  obtain⟨Z,Y⟩:=ò.mp h;have ih:=HP Y;unfold oV at ih |-;simp only[abl,abr,ę,List.all_cons,Æ] at ih |-;exact⟨Z b Ô,ih⟩
def QA (h:ps.Nodup):(ST.cK bE ps).Pairwise λa b=>bE.lt a b=true:=by
 have Y:=ST.sC (O:=bE) ps;have X:(ST.cK bE ps).Nodup:=(ST.lT ps).nodup_iff.mpr h;refine(Y.and X).imp λ{a b} Z=>?_
 cases W:bE.lt a b with
 |true=>rfl
 |false=>exact(Z.2 (bE.vd a b W Z.1)).elim
abbrev YT (p:Pg):Prop:=cq p=true
structure Laid (ps:List Pg):Prop where
 pg:∀p∈ps,cq p=true
 up:ps.Pairwise λa b=>bE.lt a b=true
theorem Laid.ie (h:Laid ps) (hl:ps.length<=24):ie ps=true:=by
 unfold DI.ie;rw[á hl,ë.mpr h.pg,HP h.up];rfl
def Laid.sub (h:Laid ps) (hs:qs.Sublist ps):Laid qs:=⟨λp Z=>h.pg p (hs.subset Z),h.up.sublist hs⟩
def Sf (s:aa) (k:Nat):Prop:=∃(a:Int) (b:Bool),s[k]?=some (.lst [.int a,.bl b])/\0<=a/\(b=false->a<2147483647)
def Sf.lt {s:aa} {k:Nat} (h:Sf s k):k<s.length:=by
 obtain⟨a,b,e,_⟩:=h;exact(Ç.mp e).1
def gL {s:aa} {k:Nat} {m:Int} (h:Sf s k) (h1:0<m) (h2:m<1073741824):Wp (bU.dQ [.aj k,.int m] s) λd s'=>∃r:Int,d=.int r/\0<=r/\r<m/\Sf s' k/\Ex k s s':=by
 obtain⟨a,b,e,V,Y⟩:=h;have X:=(Ç.mp e).1
 cases b with
 |true =>
  have Z:(s.set k (.lst [.int (a / m),.bl true]))[k]?=some (.lst [.int (a / m),.bl true]):=å X;refine⟨.int (a % m),s.set k (.lst [.int (a / m),.bl true]),?_,a % m,rfl,aaD _ (by omega),θ _ h1,⟨a / m,true,Z,Int.ediv_nonneg V (by omega),λz=>by cases z⟩,Ex.set _ _ _⟩;simp only[bU.dQ,aN,ax,aZ,dY,truth,e2,w9,xa,eC,dG,Ý,ŏ,ğ,ĸ,yH _ _ k s e,Ef _ _ k s e,ñ,ē,ð,bt,gN,pC s h1,mz,KI s h1 h2,Cw _ _ _ k s e,aM,æ,ç,Ñ]
 |false =>
  have Y:=Y rfl;have ex:0<=(a*48271+29) % 2147483647/\(a*48271+29) % 2147483647<2147483647:=⟨aaD _ (by decide),θ _ (by decide)⟩;generalize U:(a*48271+29) % 2147483647=x at ex;have Z:(s.set k (.lst [.int x,.bl false]))[k]?=some (.lst [.int x,.bl false]):=å X;generalize W:(x*x+39373*x+7) % 2147483629=y;have N:0<=y/\y<2147483629:=by rw[<- W];exact⟨aaD _ (by decide),θ _ (by decide)⟩
  generalize T:(y*y+16807*y) % 2147483587=z;refine⟨.int (z / 8 % m),s.set k (.lst [.int x,.bl false]),?_,_,rfl,aaD _ (by omega),θ _ h1,⟨x,false,Z,ex.1,λ_=>ex.2⟩,Ex.set _ _ _⟩;have S:df (.int a) (.int 48271) s=ok (.int (a*48271)) s:=rz s (mulOk_of (by omega) (by omega));have R:∀s',df (.int x) (.int x) s'=ok (.int (x*x)) s':=λs'=>rz s' (mulOk_of (by omega) (by omega));have Q:∀s',df (.int 39373) (.int x) s'=ok (.int (39373*x)) s':=λs'=>rz s' (mulOk_of (by decide) (by decide));have m4:∀s',df (.int y) (.int y) s'=ok (.int (y*y)) s':=λs'=>rz s' (mulOk_of (by omega) (by omega));have P:∀s',df (.int 16807) (.int y) s'=ok (.int (16807*y)) s':=λs'=>rz s' (mulOk_of (by decide) (by decide));have O:∀n:Int,az (.aj k) (.int 0) (s.set k (.lst [.int x,.bl false]))=ok (.int x) (s.set k (.lst [.int x,.bl false])):=λ_=>yH _ _ k _ Z;simp only[bU.dQ,aN,ax,aZ,dY,truth,e2,w9,xa,eC,dG,Ý,ŏ,ğ,ĸ,yH _ _ k s e,Ef _ _ k s e,ñ,ē,Â,é,ð,bN,bt,gN,mz,Cw _ _ _ k s e,aM,æ,ç,Ñ,S,R,Q,m4,P,KH,pC _ (show (0:Int)<2147483647 by decide),pC _ (show (0:Int)<2147483629 by decide),pC _ (show (0:Int)<2147483587 by decide),KI _ (show (0:Int)<8 by decide) (by decide),pC _ h1,U,W,T,O 0]
def R1 {ns:List Int} {i:Int} {s:aa} (h0:0<=i):Wp (bU.sA [.bO ns,.int i] s) λd s'=>d=.aj s.length/\Sf s' s.length/\∃c,s'=s++[c]:=by
 obtain⟨c,Y⟩:=RU (ns:=ns) (s:=s) h0;have Z:∀s,qQ (.int 10) (.int 18) s=ok (.int (10 ^ 18)) s:=λs=>by
  have e:Cf (.int 10) (.int 18)=some (.int (10 ^ 18)):=by
   show (if (decide ((0:Int)<=18)&&decide ((18:Int)<=1000000)&&decide ((10:Int).natAbs<2 ^ 64))=true then some (D.int (10 ^ (18:Int).toNat)) else none)=_
   rw[ß (by decide)];rfl
  simp only[qQ,e,bT]
 unfold bU.sA;simp only[VC,Y,Z];by_cases h:(10:Int) ^ 18<=c
 ·rw[á h]
  simp only[VC,Z,ð];exact⟨by decide,⟨_,true,by simp;rfl,by omega,λz=>by cases z⟩,_,rfl⟩
 ·rw[ó h]
  simp only[VC,Â,é,pC _ (show (0:Int)<2147483647 by decide)];exact⟨by decide,⟨_,false,by simp;rfl,aaD _ (by decide),λ_=>θ _ (by decide)⟩,_,rfl⟩
def JU {ds:List D} {r:Int} {s:aa} (h0:0<=r) (h1:r<ds.length):∃d∈ds,az (.lst ds) (.int r) s=ok d s:=by
 obtain⟨x,e,e2⟩:=xb h0 h1;exact⟨x,Ū e2,by simp only[az,lL,res,e,bT]⟩
def LN {k:Int} {s:aa} (h0:0<=k) (h1:k<3):∃n:Nat,az (.lst [.int 2,.int 4,.int 8]) (.int k) s=ok (.int n) s/\2<=n/\n<=8:=by
 obtain⟨d,Z,e⟩:=JU (ds:=[.int 2,.int 4,.int 8]) (s:=s) h0 h1;simp only[Õ,Ĉ,or_false] at Z
 rcases Z with rfl|rfl|rfl
 ·exact⟨2,e,by decide,by decide⟩
 ·exact⟨4,e,by decide,by decide⟩
 ·exact⟨8,e,by decide,by decide⟩
def QC {s:aa} {k n:Nat} (h:Sf s k):Wp (fq 1 [some (.aj k)] (gN 0) gC (aS bU.dQ (af (ae 1) (af (eC (.int 3)) ah))) (dw 0 n) s) λxs s'=>∃ns:List Int,xs=ns.map D.int/\ns.length=n/\Sf s' k/\Ex k s s':=by
 refine RR (λi Z s'=>∃ns:List Int,Z=ns.map D.int/\ns.length=i/\Sf s' k/\Ex k s s') (dw 0 n) ⟨[],rfl,rfl,h,Ex.refl _ _⟩ (λi d Z s' Y X=>?_) λZ s' X=>?_
 ·obtain⟨ns,rfl,W,V,U⟩:=X
  rw[mZ] at Y;split at Y
  ·cases Y
   refine⟨[some (.int (0+i)),some (.aj k)],rfl,?_⟩;simp only[VC];refine abD (show gC _ s'=ok true s' from rfl) ?_;simp only[ð];refine(gL V (by decide) (by decide)).mono λd R Y=>?_;obtain⟨r,rfl,Q,P,T,S⟩:=Y;exact⟨ns++[r],by simp,by rw[Þ,W];rfl,T,U.trans S⟩
  ·cases Y
 ·rw[je] at X
  exact X
noncomputable def pick (ns:List Int) (c:Int) (n:Nat):List Int:=((č n).filter λi=>decide (ns.getD i 0=c)).map λi:Nat=>(i:Int)
def G1 (ns:List Int) (c:Int) (n:Nat):dO n (pick ns c n):=by
 refine⟨λx Z=>?_,?_⟩
 ·obtain⟨i,hi,rfl⟩:=Ĕ.mp Z
  have:=ö.mp (Ĩ.mp hi).1;omega
 ·unfold pick
  rw[List.pairwise_map];exact(aaG.filter _).imp λh=>by omega
def HQ {ns:List Int} {c:Int} {s:aa}:fq 1 [some (.lst (ns.map D.int))] (gN 0) (aU (DI.e2 bq (DI.e2 az (ae 1) (ae 0)) (eC (.int c)))) (ae 0) (dw 0 ns.length) s=ok ((pick ns c ns.length).map D.int) s:=by
 rw[HK];have:=comp_map (nt:=1) (caps:=[some (.lst (ns.map D.int))]) (g:=gN 0) (t:=aU (DI.e2 bq (DI.e2 az (ae 1) (ae 0)) (eC (.int c)))) (f:=ae 0) (s:=s) (λi:Nat=>D.int (0+(i:Int))) (λi=>decide (ns.getD i 0=c)) (λi:Nat=>D.int i) (č ns.length) λi hi=>⟨[some (.int (0+(i:Int))),some (.lst (ns.map D.int))],rfl,?_,λ_=>?_⟩
 ·rw[this]
  unfold pick;rw[Ņ];rfl
 ·have hi:=ö.mp hi
  rw[aa1];refine abE ?_;simp only[VC];refine abD (show az (.lst (ns.map D.int)) (.int i) s=ok (.int (ns.getD i 0)) s from ?_) ?_
  ·unfold az lL res
   simp only[];rw[Q9 (by rw[î,getD_some (d:=0) hi];rfl)];rfl
  ·simp only[VC]
   exact⟨by rw[Ł];simp,trivial⟩
 ·rw[aa1];rfl
def R3 {ns:List Int} {n:Nat} {x:Int} (h:x∈pick ns 1 n) (g:x∈pick ns 2 n):False:=by
 unfold pick at h g;obtain⟨i,hi,rfl⟩:=Ĕ.mp h;obtain⟨j,Z,e⟩:=Ĕ.mp g;have:i=j:=by omega
 subst this;have Y:=(Ĩ.mp hi).2;have X:=(Ĩ.mp Z).2;simp only[Ì] at Y X;omega
def R4 {s:aa} {k:Nat} (h:Sf s k):Wp (bU.vY [.aj k] s) λd s'=>∃a b,d=.tup [mD a,mD b]/\dO 8 a/\dO 8 b/\(∀x∈a,x∉b)/\Sf s' k/\Ex k s s':=by
 unfold bU.vY;refine ic.symm ▸ ⟨rfl,abF λR Y=>?_⟩;simp only[VC];refine⟨by decide,?_⟩;refine(gL h (by decide) (by decide)).mono λd T S=>?_;obtain⟨r,rfl,Q,P,W,O⟩:=S;obtain⟨n,e,K,U⟩:=LN (s:=T) Q P;refine abD e ?_;subst Y;refine abF λR Y=>?_;simp only[VC];refine abD (jk (n:=n) rfl (by omega)) ⟨by rw[je];exact le_size (by omega),?_⟩;refine(QC W).mono λJ X N=>?_;obtain⟨Z,rfl,M,V,L⟩:=N;subst Y;subst M;refine abF λR Y=>?_;simp only[VC];refine abD (jk (n:=Z.length) rfl (by omega)) ⟨by rw[je];exact le_size (by omega),?_⟩;refine abD HQ ?_;refine abD (show gg [.lst ((pick Z 1 Z.length).map D.int)] X=ok (mD (pick Z 1 Z.length)) X from rfl) ?_;subst Y;simp only[VC];refine abD (jk (n:=Z.length) rfl (by omega)) ⟨by rw[je];exact le_size (by omega),?_⟩;refine abD HQ ?_;refine abD (show gg [.lst ((pick Z 2 Z.length).map D.int)] X=ok (mD (pick Z 2 Z.length)) X from rfl) ?_;exact⟨by decide,_,_,rfl,(G1 Z 1 _).LK U,(G1 Z 2 _).LK U,λx W V=>R3 W V,V,O.trans L⟩
def Ux {s:aa} {k:Nat} {n:Int} (h:Sf s k) (h0:0<n) (h1:n<=31):Wp (bU.wx [.aj k,.int n] s) λd s'=>∃p,d=p.d/\cq p=true/\Sf s' k/\Ex k s s':=by
 unfold bU.wx;refine ic.symm ▸ ⟨rfl,abF λR X=>?_⟩;simp only[Ý,ŏ,Ñ,Nat.reduceSub,ğ,ĸ,sL,bc,bF,bA,md,bb,wp_call,aV,bx];refine(gL h (by decide) (by decide)).mono λd A Z=>?_;obtain⟨m,rfl,m0,K,g1,T⟩:=Z;refine⟨le_size (n:=2) (by decide),?_⟩;refine(gL g1 (by decide) (by decide)).mono λd J Z=>?_;obtain⟨r,rfl,I,H,g2,S⟩:=Z;obtain⟨d,Z,e⟩:=JU (ds:=[.int 0,.int m]) (s:=J) I H;refine abD e ?_;have W:∃Y:Int,d=.int Y/\0<=Y/\Y < 4:=by
  simp only[Õ,Ĉ,or_false] at Z
  rcases Z with rfl|rfl
  ·exact⟨0,rfl,by decide,by decide⟩
  ·exact⟨m,rfl,m0,K⟩
 obtain⟨Y,rfl,W⟩:=W;refine(gL g2 h0 (by omega)).mono λd x Z=>?_;obtain⟨y,rfl,Q,y1,g3,P⟩:=Z;refine⟨_,_,rfl,?_⟩;simp only[æ,ç,bL];subst X;refine abF λR X=>?_;simp only[VC];refine(gL g3 (by decide) (by decide)).mono λd w Z=>?_;obtain⟨z,rfl,O,N,M,L⟩:=Z;simp only[VC];split
 ·refine⟨by decide,?_⟩
  refine(gL M (by decide) (by decide)).mono λd s5 Z=>?_;obtain⟨z,rfl,O,N,V,U⟩:=Z;obtain⟨n,e,v,u⟩:=LN (s:=s5) O N;refine abD e ?_;refine(gL V (by omega) (by omega)).mono λd t Z=>?_;obtain⟨c,rfl,G,q,F,E⟩:=Z;refine⟨by decide,?_⟩;subst X;exact⟨.bW Y y c,rfl,vO W ⟨Q,by omega⟩ ⟨G,by omega⟩,F,((((T.trans S).trans P).trans L).trans U).trans E⟩
 ·subst X
  simp only[VC];refine(R4 M).mono λd s5 Z=>?_;obtain⟨a,b,rfl,D,C,B,V,U⟩:=Z;exact⟨by decide,.made Y y a b,rfl,OY W ⟨Q,by omega⟩ D C (by decide) B,V,(((T.trans S).trans P).trans L).trans U⟩
def qq {n:Nat} {i:Int} {s:aa}:bU.hW (n+1) [.int i,.int i] s=ok (.bl true) s:=by
 refine abE ?_;unfold bU.hW;simp only[VC];refine abD (show rl (.int i) s=ok (.bl false) s from rfl) ?_;simp only[VC,Â,é];refine abD (show cO [.int i,.ty "bool"] s=ok (.bl false) s from rfl) ?_;refine abD (show cO [.int i,.ty "bool"] s=ok (.bl false) s from rfl) ?_;refine abD (show bq (.bl false) (.bl false) s=ok (.bl true) s from rfl) ?_;simp only[VC,ð,ā,Ĭ]
def eq_str {x:Str} {s:aa}:bq (.str x) (.str x) s=ok (.bl true) s:=by
 show (match gm (.str x) (.str x) with|some b=>ok (D.bl b) s|none=>none)=_
 have e:gm (.str x) (.str x)=some true:=by
  unfold gm;rw[ß (show (iO (.str x)&&iO (.str x))=true from rfl)];simp[beq]
 rw[e]
def G2 {n:Nat} {x:Str} {s:aa}:bU.hW (n+1) [.str x,.str x] s=ok (.bl true) s:=by
 refine abE ?_;unfold bU.hW;simp only[VC];refine abD (show rl (.str x) s=ok (.bl false) s from rfl) ?_;simp only[VC,Â,é];refine abD (show cO [.str x,.ty "bool"] s=ok (.bl false) s from rfl) ?_;refine abD (show cO [.str x,.ty "bool"] s=ok (.bl false) s from rfl) ?_;refine abD (show bq (.bl false) (.bl false) s=ok (.bl true) s from rfl) ?_;simp only[VC,ð];exact abD eq_str ⟨rfl,rfl⟩
def QD {α:Type} {f:α->Bool} (xs:List α):DI.cM (xs.map λx=>D.bl (f x))=true:=by
 induction xs with
 |nil=>rfl
 |cons a r ih=>simp only[Ý,DI.cM,lay,ih,ī]
def R5 {α:Type} {f:α->Bool} {xs:List α} {s:aa}:iU (.bl false) (.lst (xs.map λx=>D.bl (f x))) s=ok (.bl (xs.all f)) s:=by
 unfold iU inD;rw[show kZ (.lst (xs.map λx=>D.bl (f x))) s=some (xs.map λx=>D.bl (f x)) from rfl];simp only[];rw[ß (by unfold nu;rw[QD];rfl)];show ok (D.bl (!(xs.map λx=>D.bl (f x)).any λy=>beq y (.bl false))) s=_;congr 3
 have e:∀b,beq (.bl b) (.bl false)=!b:=λb=>by cases b<;>rfl
 rw[List.any_map];simp only[œ,e,List.not_any_eq_all_not,Bool.not_not]
def QE {nt:Nat} {cap:List Nat} {it:abC (List D×(aa->Prop))} {gd:D->Env->Option Env} {c:abC Bool} {f:abC D} {env:Env} {s:aa} {Q:D->aa->Prop} :
  Wp (sX nt cap it gd c f env s) Q=Wp (it env s) λp s=>p.1.length<=Ú/\Wp (jN nt (gk cap env) gd c f p.2 p.1 s) λxs s=>Q (.lst xs) s:=by
 unfold sX;simp only[bS,qo,bh]
def OZ {α:Type} (d:α->D) {nt:Nat} {caps:Env} {g:D->Env->Option Env} {t:abC Bool} {f:abC D} {γ:aa->Prop} {s:aa} (lQ:γ s) (h:α->D) (xs:List α) (hh:∀x∈xs,∃env,g (d x) (Ñ nt none++caps)=some env/\t env s=ok true s/\f env s=ok (h x) s) :
  jN nt caps g t f γ (xs.map d) s=ok (xs.map h) s:=by
 induction xs with
 |nil=>rw[ŏ];unfold jN;rw[ß lQ];rfl
 |cons n U ih =>
  obtain⟨env,Z,Y,X⟩:=hh n Ô;have ih:=ih λW V=>hh W (Ó _ V);rw[Ý];unfold jN;rw[ß lQ,Z];simp only[Y,ml,dG,ð,X,ih,Ý]
theorem F8:∀ds:List D,fz ds ds=ds.map λd=>D.tup [d,d]
 | []=>rfl
 |d::ds=>by
  have:=F8 ds;unfold fz at this |-;simp only[ę,Ý,this]
def sE {n:Nat} {ds:List D} {s:aa} (hl:ds.length<=1000) (h:∀d∈ds,bU.hW n [d,d] s=ok (.bl true) s):bU.hW (n+1) [.tup ds,.tup ds] s=ok (.bl true) s:=by
 have Z:cO [.tup ds,.ty "list"] s=ok (.bl false) s/\cO [.tup ds,.ty "tuple"] s=ok (.bl true) s:=⟨rfl,rfl⟩;have len:cN [.tup ds] s=ok (.int ds.length) s:=rfl;refine abE ?_;unfold bU.hW;simp only[VC];refine abD (show rl (.tup ds) s=ok (.bl true) s from rfl) ?_;simp only[VC,ð];refine abD Z.1 (abD Z.1 ?_);refine abD (show bP (.bl false) (.bl false) s=ok (.bl false) s from rfl) ?_;simp only[VC,Â,é];refine abD Z.2 (abD Z.2 ?_);refine abD (show bP (.bl true) (.bl true) s=ok (.bl false) s from rfl) ?_;simp only[VC,Â,é];refine abD len (abD len ?_);simp only[VC,ā,ô,Â,é,QE];refine abD (show mr (af (ae 0) (af (ae 1) ah)) [some (.tup ds),some (.tup ds)] s=ok (fz ds ds,λ_=>True) s from rfl) ⟨le_size (by rw[sv];omega),?_⟩;rw[F8];refine abD (OZ (γ:=λ_=>True) (λd:D=>D.tup [d,d]) trivial (λ_=>.bl true) ds λd Y=>⟨[some d,some d],rfl,rfl,?_⟩) ?_
 ·refine abE ?_
  simp only[VC,h d Y,Ĭ]
 ·exact abD (R5 (f:=λ_=>true)) ⟨by simp,rfl⟩
section
variable (s l m:Nat->Bool)
noncomputable def pr:Nat->Bool
 |0=>s 0
 |d+1=>s (d+1)||(pr d&&!m (d+1))
noncomputable def LO:Nat->Bool
 |0=>false
 |n+1=>(LO n||l (30-n))&&!m (30-n)
def br (d:Nat):Bool:=LO l m (31-d)
def ab (d:Nat):Bool:=br l m (d+1)||(l d||m d)
noncomputable def f0 (d:Nat):Bool:=!s d
noncomputable def t0 (d:Nat):Bool:=!m d&&!l d
def fw:Nat->Bool×Bool
 |0=>(f0 s 0,t0 l m 0)
 |d+1=>(f0 s (d+1)&&((fw d).1||(m (d+1)&&((fw d).1||(fw d).2))),t0 l m (d+1)&&((fw d).1||(fw d).2))
def wG:Prop:=∀d e,s d=true->d<=e->e<=30->(l e=true\/(e=d/\m d=true))->∃x,d<x/\x<=e/\m x=true
variable {s l m}
theorem Bb:∀{d:Nat},pr s m d=true↔∃e,e<=d/\s e=true/\∀x,e<x->x<=d->m x=false
 |0=>by
  simp only[pr];constructor
  ·intro h;exact⟨0,abG _,h,λx Y Z=>by omega⟩
  ·rintro ⟨e,Y,Z,_⟩
   have:e=0:=by omega
   rw[<- this];exact Z
 |d+1=>by
  simp only[pr,aay,Æ,Ĵ];rw[Bb (d:=d)];constructor
  ·rintro (h | ⟨⟨e,Y,Z,X⟩,V⟩)
   ·exact⟨d+1,abG _,h,λx Y Z=>by omega⟩
   ·refine⟨e,by omega,Z,λx W U=>?_⟩
    by_cases T:x=d+1
    ·rw[T];exact V
    ·exact X x W (by omega)
  ·rintro ⟨e,Y,Z,X⟩
   by_cases S:e=d+1
   ·left;rw[<- S];exact Z
   ·right
    exact⟨⟨e,by omega,Z,λx W U=>X x W (by omega)⟩,X (d+1) (by omega) (abG _)⟩
section
variable (N:wG s l m)
include N
end
end
def iC (s:aa) (j n:Nat):Prop:=∃Z:List Int,s[j]?=some (.lst (Z.map D.int))/\Z.length<=n
def iC.lt (h:iC s j n):j<s.length:=by
 obtain⟨Z,e,_⟩:=h;exact(Ç.mp e).1
def iC.ex (h:iC s j n) (x:Ex k s s') (hj:j≠k):iC s' j n:=by
 have Z:=h.lt;obtain⟨Y,e,r⟩:=h;exact⟨Y,(x.val j Z hj).trans e,r⟩
theorem iC.set (h:iC s j n) (hi:i≠j) (c:Cell):iC (s.set i c) j n:=by
 obtain⟨Z,e,r⟩:=h;exact⟨Z,by rw[Ö hi];exact e,r⟩
def iC.app (h:iC s j n) (c:List Cell):iC (s++c) j n:=by
 have Z:=h.lt;obtain⟨Y,e,r⟩:=h;exact⟨Y,by rw[Ü Z];exact e,r⟩
def iC.more (h:iC s j n) (hm:n<=m):iC s j m:=by
 obtain⟨Z,e,l⟩:=h;exact⟨Z,e,by omega⟩
def og (s:aa) (j n:Nat):Prop:=∃ls:List (List Int),s[j]?=some (.lst (ls.map lI))/\ls.length=n
def og.lt (h:og s j n):j<s.length:=by
 obtain⟨Z,e,_⟩:=h;exact(Ç.mp e).1
def og.ex (h:og s j n) (x:Ex k s s') (hj:j≠k):og s' j n:=by
 have Z:=h.lt;obtain⟨Y,e,r⟩:=h;exact⟨Y,(x.val j Z hj).trans e,r⟩
theorem og.set (h:og s j n) (hi:i≠j) (c:Cell):og (s.set i c) j n:=by
 obtain⟨Z,e,r⟩:=h;exact⟨Z,by rw[Ö hi];exact e,r⟩
structure BI (W:Ă) (k j b n q:Nat) (s0 s:aa):Prop where
 st:jx s k
 dict:fG W YT s j n
 bW:∀i,i<8->iC s (b+i) q
 ext:Ex k s0 s
section
variable {W:Ă} {k j b n q:Nat} {s0 s:aa}
def BI.draw (h:BI W k j b n q s0 s) (hj:j≠k) (hb:∀i,i<8->b+i≠k) (x:Ex k s s') (hs:jx s' k):BI W k j b n q s0 s' :=
 ⟨hs,h.dict.ex x hj,λi hi=>(h.bW i hi).ex x (hb i hi),h.ext.trans x⟩
def BI.put (h:BI W k j b n q s0 s) (hj:j≠k) (YU:∀i,i<8->b+i≠j) (hl:s0.length<=j) (hf:cq p=true) (hn:n<1000):∃s',Cn W (.aj j) p.d (.bl true) s=some s'/\BI W k j b (n+1) q s0 s'/\Ex j s s':=by
 obtain⟨c,e,d⟩:=Uw h.dict hf hn;exact⟨_,e,⟨h.st.set hj c,d,λi hi=>(h.bW i hi).set (Ŭ (YU i hi)) c,h.ext.YS hl c⟩,Ex.set j s c⟩
end
section
variable (ps:List Pg) (m k:Int)
def sN (d:Nat):Bool:=decide ((d:Int)∈shown ps m k)
def lN (d:Nat):Bool:=decide ((d:Int)∈hX ps m k)
def mN (d:Nat):Bool:=decide ((d:Int)∈gj ps m k)
end
def R6 (h:cT ps=true) (hm:0<=m/\m<4) (hk:0<=k/\k<8):wG (sN ps m k) (lN ps m k) (mN ps m k):=by
 intro d e hs U T Z;simp only[sN,lN,mN,Ì] at hs Z;have c:=Qz h hm hk hs (l:=(e:Int)) (by omega) (by omega);unfold n9 at c;have Y:(decide ((e:Int)∈hX ps m k)||(decide ((e:Int)=(d:Int))&&decide ((d:Int)∈gj ps m k)))=true:=by
  rcases Z with Z | ⟨S,X⟩
  ·rw[á Z];rfl
  ·rw[á (show (e:Int)=d by omega),á X];simp
 rw[Y,ü,Bool.not_eq_false'] at c;unfold yd at c;obtain⟨x,W,V⟩:=š.mp c;simp only[Æ,Ì] at V;refine⟨x.toNat,by omega,by omega,?_⟩;simp only[mN,Ì];rw[show ((x.toNat:Nat):Int)=x by omega];exact W
def pv (s m:Nat->Bool):Nat->Bool
 |0=>false
 |i+1=>pr s m i
open DI.bU
def Kp (s s':aa):Prop:=s.length<=s'.length/\∀j,j<s.length->s'[j]?=s[j]?
def Kp.refl (s:aa):Kp s s:=⟨abG _,λ_ _=>rfl⟩
theorem Kp.trans {a b c:aa} (h:Kp a b) (g:Kp b c):Kp a c:=⟨à h.1 g.1,λj Z=>(g.2 j (È Z h.1)).trans (h.2 j Z)⟩
def Kp.app (s c:aa):Kp s (s++c):=⟨by simp,λj Z=>Ü Z⟩
def Kp.get {s s':aa} (h:Kp s s') {k:Nat} {c:Cell} (e:s[k]?=some c):s'[k]?=some c:=by rw[h.2 k (Ç.mp e).1];exact e
def Kp.sf {s s':aa} {k:Nat} (h:Kp s s') (g:Sf s k):Sf s' k:=by
 obtain⟨a,b,e,r⟩:=g;exact⟨a,b,h.get e,r⟩
theorem Kp.set {s s':aa} (h:Kp s s') {j:Nat} (hj:s.length<=j) (c:Cell):Kp s (s'.set j c):=⟨by rw[ĉ];exact h.1,λi hi=>by rw[Ö (by omega)];exact h.2 i hi⟩
def Bc {x:Int} {ns:List Int} {d:D} {s:aa} (h:kZ d s=some (ns.map D.int)):eI (.int x) d s=ok (.bl (decide (x∈ns))) s/\iU (.int x) d s=ok (.bl (!decide (x∈ns))) s:=by
 have Z:nu 100 (.int x) (ns.map D.int)=true:=by simp only[nu,lay,vN,dep,ī,Ċ,Ħ]
 have e:inD (.int x) (ns.map D.int)=some (decide (x∈ns)):=by unfold inD;rw[ß Z,HI]
 unfold eI iU;rw[h];simp only[e];exact⟨rfl,rfl⟩
def R7 {ds:List D} {j:Nat} {s:aa} (h:s[j]?=some (.lst ds)):kZ (.aj j) s=some ds:=by unfold kZ res;simp only[h]
def Aq {ds:List D} {x:D} {j:Nat} {s:aa} (h:s[j]?=some (.lst ds)) (hl:ds.length<=1000):ph (.aj j) s=true/\rj (.aj j) x s=ok .ar (s.set j (.lst (ds++[x]))):=by
 refine⟨by simp only[ph,h],?_⟩;unfold rj;simp only[h,á (Nat.lt_of_le_of_lt hl (show 1000<Ú by decide)),ð]
section
variable {s:aa} {ps:List Pg} {p:Pg} {m k:Int} {Q:Fl->aa->Prop} {e0 e1 e2 e3 e4 e5 e6 e7 e8:Option D}
def G3 {x:Int} {b:Bool}:df (.lst [.int x]) (.int (if b then 1 else 0)) s=ok (.lst ((if b=true then [x] else []).map D.int)) s:=by
 cases b<;>rfl
def Jd {a b:List Int} (h:a.length+b.length<=1000000):cE (.lst (a.map D.int)) (.lst (b.map D.int)) s=ok (.lst ((a++b).map D.int)) s:=by
 rw[Cy (by simpa only [É] using h),ĕ]
def one_le (x:Int) (b:Bool):(if b=true then [x] else []).length<=1:=by cases b<;>simp
def oh (m k:Int) (p:Pg):List Int:=if n5 m k p=true then [p.day] else []
def oi (m k:Int) (p:Pg):List Int:=if n6 m k p=true then [p.day] else []
def kI (m k:Int) (p:Pg):List Int:=if mV m k p=true then [p.day] else []
def O0:shown (ps++[p]) m k=shown ps m k++oh m k p:=by
 unfold shown oh;rw[List.filter_append,ĕ];congr 1
 cases h:n5 m k p<;>simp[List.filter,h]
def NY:hX (ps++[p]) m k=hX ps m k++oi m k p:=by
 unfold hX oi;rw[List.filter_append,ĕ];congr 1
 cases h:n6 m k p<;>simp[List.filter,h]
def NZ:gj (ps++[p]) m k=gj ps m k++kI m k p:=by
 unfold gj kI;rw[List.filter_append,ĕ];congr 1
 cases h:mV m k p<;>simp[List.filter,h]
def Uy {a b c:List Int} {j:Nat} (hj:s[j]?=some (.lst (c.map D.int))) (la:a.length<=900) (lb:b.length<=900) (lc:c.length<=900)
  (hQ:∀s',s'[j]?=some (.lst ((c++kI m k p).map D.int))->(s'=s\/∃x,s'=s.set j x)->Q (.nx [e0,some (.int m),some (.int k),some (.lst ((a++oh m k p).map D.int)),some (.lst ((b++oi m k p).map D.int)),some (.aj j),some p.d,e7,e8]) s') :
  Wp (yQ [e0,some (.int m),some (.int k),some (.lst (a.map D.int)),some (.lst (b.map D.int)),some (.aj j),some p.d,e7,e8] s) Q:=by
 unfold yQ
 cases p with
 |bW Y Z V =>
  have P:oh m k (.bW Y Z V)=[]:=rfl;have O:oi m k (.bW Y Z V)=[]:=rfl;rw[P,O,û,û] at hQ;refine abF λR N=>?_;simp only[VC,Pg.d];refine abD (show az (.tup [.str "mended",.int Y,.int Z,.int V]) (.int 0) s=ok (.str "mended") s from rfl) ?_;refine abD (show bq (.str "mended") (.str "mended") s=ok (.bl true) s from rfl) ?_;simp only[VC,ð];refine abD (show az (.tup [.str "mended",.int Y,.int Z,.int V]) (.int 1) s=ok (.int Y) s from rfl) ?_;have rest:∀s',s'[j]?=some (.lst ((c++kI m k (.bW Y Z V)).map D.int))->(s'=s\/∃x,s'=s.set j x)->lR R Q (.nx [e0,some (.int m),some (.int k),some (.lst (a.map D.int)),some (.lst (b.map D.int)),some (.aj j),some (.tup [.str "mended",.int Y,.int Z,.int V]),e7,e8]) s':=λs' e x=>by
   rw[bL];subst N;simp only[VC];refine abD (show az (.tup [.str "mended",.int Y,.int Z,.int V]) (.int 0) s'=ok (.str "mended") s' from rfl) ?_;refine abD (show bq (.str "mended") (.str "made") s'=ok (.bl false) s' from rfl) ?_;simp only[VC,Â,é];exact hQ s' e x
  simp only[VC];split
  ·rename_i U
   refine abD (show az (.tup [.str "mended",.int Y,.int Z,.int V]) (.int 3) s=ok (.int V) s from rfl) ?_;simp only[VC];split
   ·rename_i T
    have S:kI m k (.bW Y Z V)=[Z]:=by
     unfold kI mV;rw[ß (by simp at U T;simp[U,T])];rfl
    rw[S] at rest;obtain⟨U,T⟩:=Aq (x:=.int Z) hj (by rw[É];omega);refine⟨U,?_⟩;refine abD (show az (.tup [.str "mended",.int Y,.int Z,.int V]) (.int 2) s=ok (.int Z) s from rfl) ?_;refine abD T (rest _ ?_ (.inr ⟨_,rfl⟩));rw[å (Ç.mp hj).1];simp
   ·rename_i T
    have S:kI m k (.bW Y Z V)=[]:=by
     unfold kI mV;rw[è (by simp at U T;simp[U,T])]
    rw[S,û] at rest;exact rest s hj (.inl rfl)
  ·rename_i U
   have S:kI m k (.bW Y Z V)=[]:=by
    unfold kI mV;rw[è (by simp at U;simp[U])]
   rw[S,û] at rest;simp only[Â,é];exact rest s hj (.inl rfl)
 |made Y Z X W =>
  have S:kI m k (.made Y Z X W)=[]:=rfl;rw[S,û] at hQ;refine abF λR N=>?_;simp only[VC,Pg.d];refine abD (show az (.tup [.str "made",.int Y,.int Z,.tup [ti X,ti W]]) (.int 0) s=ok (.str "made") s from rfl) ?_;refine abD (show bq (.str "made") (.str "mended") s=ok (.bl false) s from rfl) ?_;simp only[VC,Â,é];subst N;simp only[VC];refine abD (show az (.tup [.str "made",.int Y,.int Z,.tup [ti X,ti W]]) (.int 0) s=ok (.str "made") s from rfl) ?_;refine abD (show bq (.str "made") (.str "made") s=ok (.bl true) s from rfl) ?_;simp only[VC,ð];refine abD (show az (.tup [.str "made",.int Y,.int Z,.tup [ti X,ti W]]) (.int 1) s=ok (.int Y) s from rfl) ?_;simp only[VC];split
  ·rename_i U
   have e1:(Y==m)=true:=U
   have P:oh m k (.made Y Z X W)=if decide (k∈X)=true then [Z] else []:=by
    unfold oh n5;simp only[beq_iff_eq] at e1;simp only[e1,Ħ,ü];rfl
   have O:oi m k (.made Y Z X W)=if decide (k∈W)=true then [Z] else []:=by
    unfold oi n6;simp only[beq_iff_eq] at e1;simp only[e1,Ħ,ü];rfl
   rw[P,O] at hQ;refine abD (show az (.tup [.str "made",.int Y,.int Z,.tup [ti X,ti W]]) (.int 2) s=ok (.int Z) s from rfl) ?_;refine⟨by decide,?_⟩;refine abD (show az (.tup [.str "made",.int Y,.int Z,.tup [ti X,ti W]]) (.int 3) s=ok (.tup [ti X,ti W]) s from rfl) ?_;refine abD (show az (.tup [ti X,ti W]) (.int 0) s=ok (ti X) s from rfl) ?_;refine abD (qz (ns:=X)) ?_
   refine abD (show ki [.bl (decide (k∈X))] s=ok (.int (if decide (k∈X) then 1 else 0)) s from rfl) ?_
   refine abD G3 ?_;have M:=one_le Z (decide (k∈X));have L:=one_le Z (decide (k∈W));refine abD (Jd (by omega)) ?_;refine abD (show az (.tup [.str "made",.int Y,.int Z,.tup [ti X,ti W]]) (.int 2) s=ok (.int Z) s from rfl) ?_;refine⟨by decide,?_⟩;refine abD (show az (.tup [.str "made",.int Y,.int Z,.tup [ti X,ti W]]) (.int 3) s=ok (.tup [ti X,ti W]) s from rfl) ?_;refine abD (show az (.tup [ti X,ti W]) (.int 1) s=ok (ti W) s from rfl) ?_;refine abD (qz (ns:=W)) ?_
   refine abD (show ki [.bl (decide (k∈W))] s=ok (.int (if decide (k∈W) then 1 else 0)) s from rfl) ?_
   refine abD G3 ?_;refine abD (Jd (by omega)) ?_;exact hQ s hj (.inl rfl)
  ·rename_i U
   have e1:¬ Y=m:=by simpa using U
   have P:oh m k (.made Y Z X W)=[]:=by unfold oh n5;simp[e1]
   have O:oi m k (.made Y Z X W)=[]:=by unfold oi n6;simp[e1]
   rw[P,O,û,û] at hQ;exact hQ s hj (.inl rfl)
def oj (sh la me:Nat->Bool) (d:Nat):Bool:=!(me d&&sh d)&&!(pr sh me d&&la d)
def mf (ps:List Pg) (m k:Int):Bool:=(č 31).all (oj (sN ps m k) (lN ps m k) (mN ps m k))
def Uz {a b c:List Int} {j y:Nat} {t:Bool} (hj:s[j]?=some (.lst (c.map D.int)))
  (hR:(decide ((y:Int)∈c)&&decide ((y:Int)∈a))=true\/((decide ((y:Int)∈a)||(t&&!decide ((y:Int)∈c)))&&decide ((y:Int)∈b))=true->Q (.rt (.bl false)) s)
  (hQ:(decide ((y:Int)∈c)&&decide ((y:Int)∈a))=false->((decide ((y:Int)∈a)||(t&&!decide ((y:Int)∈c)))&&decide ((y:Int)∈b))=false->Q (.nx [e0,e1,e2,some (.lst (a.map D.int)),some (.lst (b.map D.int)),some (.aj j),e6,some (.bl (decide ((y:Int)∈a)||(t&&!decide ((y:Int)∈c)))),some (.int y)]) s) :
  Wp (yR [e0,e1,e2,some (.lst (a.map D.int)),some (.lst (b.map D.int)),some (.aj j),e6,some (.bl t),some (.int y)] s) Q:=by
 have W:=Bc (x:=y) (R7 hj);have V:=Bc (x:=y) (d:=.lst (a.map D.int)) (s:=s) (ns:=a) rfl;have S:=Bc (x:=y) (d:=.lst (b.map D.int)) (s:=s) (ns:=b) rfl;generalize O:decide ((y:Int)∈a)=Z at *;generalize N:decide ((y:Int)∈b)=P at *;generalize M:decide ((y:Int)∈c)=Y at *;unfold yR;refine abF λR X=>?_;simp only[ef,qx,aV,bx,dq,bA,W.1,V.1,bh,cz]
 have next:(Y&&Z)=false->lR R Q (.nx [e0,e1,e2,some (.lst (a.map D.int)),some (.lst (b.map D.int)),some (.aj j),e6,some (.bl t),some (.int y)]) s:=λU=>by
  rw[bL];subst X;have e:(uX (DI.e2 eI (ae 8) (ae 3)) (eD (ae 7) (DI.e2 iU (ae 8) (ae 5)))) [e0,e1,e2,some (.lst (a.map D.int)),some (.lst (b.map D.int)),some (.aj j),e6,some (.bl t),some (.int y)] s=ok (.bl (Z||(t&&!Y))) s:=by
   refine abE ?_;simp only[A6,wA,bA,aV,bx,V.1,W.2,bh,cz]
   cases Z<;>cases t<;>simp
  refine abF λR X=>?_;rw[dS];refine abD e ?_;rw[eV];simp only[æ,ç];rw[bL];subst X;simp only[ef,qx,qL,aV,bx,qw,dq,bA,S.1,bh,cz]
  cases T:(Z||(t&&!Y)) with
  |false =>
   rw[T] at hQ;simp only[Â,é,dj];exact hQ U rfl
  |true =>
   rw[T] at hQ hR;simp only[ð]
   cases P with
   |true=>simp only[ð,dR,bb];exact hR (.inr rfl)
   |false=>simp only[Â,é,dj];exact hQ U rfl
 cases Y with
 |true =>
  simp only[ð]
  cases Z with
  |true=>simp only[ð,dR,bb,oM];exact hR (.inl rfl)
  |false=>simp only[Â,é,dj];exact next rfl
 |false =>
  simp only[Â,é,dj]
  exact next rfl
def yK (sh me:Nat->Bool):Nat->Bool
 |0=>false
 |d+1=>pr sh me d
def QG (sh me:Nat->Bool) (d:Nat):(sh d||(yK sh me d&&!me d))=pr sh me d:=by
 cases d with
 |zero=>simp[yK,pr]
 |succ d=>rfl
def O1 (hl:ps.length<=100):Wp (vq [bD ps,.int m,.int k] s) λd s'=>d=.bl (mf ps m k)/\Kp s s':=by
 unfold vq;refine ic.symm ▸ ⟨rfl,abF λR Y=>?_⟩;refine abD (show Co 3 4 5 (af (dX ah) (af (dX ah) (af (eNew ah) ah))) _ s=ok (.nx [some (bD ps),some (.int m),some (.int k),some (.lst []),some (.lst []),some (.aj s.length),none,none,none]) (s++[.lst []]) from rfl) ?_;rw[bL];subst Y;refine abF λR Y=>?_;rw[kO];refine abD (kM rfl) ?_;have O:=Kp.app s [.lst []];have N:(s++[Cell.lst []])[s.length]?=some (.lst (([]:List Int).map D.int)):=by simp
 generalize s++[Cell.lst []]=S at O N;have len:∀{U:List Pg} {f:Pg->Bool},U.length<=100->((U.filter f).map Pg.day).length<=900:=λ{U f} h=>by
  rw[É];exact à (Ň _ _) (by omega)
 refine Wp.nJ (λi env s'=>∃e6:Option D,env=[some (bD ps),some (.int m),some (.int k),some (.lst ((shown (ps.take i) m k).map D.int)),some (.lst ((hX (ps.take i) m k).map D.int)),some (.aj s.length),e6,none,none]/\s'[s.length]?=some (.lst ((gj (ps.take i) m k).map D.int))/\Kp s s') _ ⟨_,rfl,N,O⟩ (λi d env s' Z X=>?_) (λenv s' X=>?_)
 ·obtain⟨e6,rfl,W,kp⟩:=X
  rw[î] at Z;obtain⟨p,M,rfl⟩:=Option.map_eq_some_iff.mp Z;have hi:=(Ç.mp M).1;have K:ps.take (i+1)=ps.take i++[p]:=by rw[List.take_add_one,M];rfl
  have T:(ps.take i).length<=100:=by rw[aaa];omega
  refine⟨_,rfl,?_⟩;refine Uy W (len T) (len T) (len T) λV J I=>?_;rw[K,O0,NY,NZ];refine⟨_,rfl,J,?_⟩
  rcases I with rfl | ⟨x,rfl⟩
  ·exact kp
  ·exact kp.set (abG _) _
 obtain⟨e6,rfl,W,kp⟩:=X;rw[É,List.take_length] at W |-;subst Y;refine abF λR Y=>?_;simp only[dS,eV,bb,æ,ç,bL];subst Y;refine abF λR Y=>?_;rw[kO];refine abD (jk (n:=31) rfl (by decide)) ?_;refine Wp.nJ (λi env V=>V=s'/\(∀d<i,oj (sN ps m k) (lN ps m k) (mN ps m k) d=true)/\∃e8,env=[some (bD ps),some (.int m),some (.int k),some (.lst ((shown ps m k).map D.int)),some (.lst ((hX ps m k).map D.int)),some (.aj s.length),e6,some (.bl (yK (sN ps m k) (mN ps m k) i)),e8]) _ ⟨rfl,λd h=>absurd h (abk _),_,rfl⟩ (λi d env V Z X=>?_) (λenv V X=>?_)
 ·obtain⟨rfl,Q,e8,rfl⟩:=X
  rw[mZ] at Z;split at Z
  ·rename_i hi
   cases Z;rw[aa1];refine⟨_,rfl,?_⟩;have L:(decide ((i:Int)∈shown ps m k)||(yK (sN ps m k) (mN ps m k) i&&!decide ((i:Int)∈gj ps m k)))=pr (sN ps m k) (mN ps m k) i:=QG (sN ps m k) (mN ps m k) i;refine Uz W ?_ ?_
   ·rw[L]
    intro H;subst Y;refine⟨?_,kp⟩;congr 1;symm;unfold mf;rw[List.all_eq_false];refine⟨i,ö.mpr hi,?_⟩
    rcases H with h|h
    ·have P:(mN ps m k i&&sN ps m k i)=true:=h
     unfold oj;rw[P];simp
    ·have P:(pr (sN ps m k) (mN ps m k) i&&lN ps m k i)=true:=h
     unfold oj;rw[P];simp
   ·rw[L]
    intro G F;refine⟨rfl,λd Z=>?_,_,rfl⟩;by_cases e:d=i
    ·subst e
     have E:(mN ps m k d&&sN ps m k d)=false:=G;have C:(pr (sN ps m k) (mN ps m k) d&&lN ps m k d)=false:=F;unfold oj;rw[E,C];rfl
    ·exact Q d (by omega)
  ·cases Z
 ·obtain⟨rfl,Q,e8,rfl⟩:=X
  subst Y;simp only[VC];refine⟨?_,kp⟩;congr 1;symm;exact ë.mpr λd Z=>Q d (by rw[je];exact ö.mp Z)
def F9 {ps:List Pg} {m k:Int}:mf ps m k=true↔wG (sN ps m k) (lN ps m k) (mN ps m k):=by
 unfold mf;rw[ë];constructor
 ·intro h d e hs Q P Z
  have O:∀x,x<=30->oj (sN ps m k) (lN ps m k) (mN ps m k) x=true:=λx U=>h x (ö.mpr (by omega));have Y:=O e P;unfold oj at Y;simp only[Æ,Ĵ,Bool.and_eq_false_iff] at Y
  rcases Z with Z | ⟨rfl,Z⟩
  ·apply Classical.byContradiction
   intro M;have:pr (sN ps m k) (mN ps m k) e=true:=Bb.mpr ⟨d,Q,hs,λx W V=>by
    cases U:mN ps m k x with
    |false=>rfl
    |true=>exact(M ⟨x,W,V,U⟩).elim⟩
   rcases Y.2 with z|z
   ·rw[this] at z;cases z
   ·rw[Z] at z;cases z
  ·rcases Y.1 with z|z
   ·rw[Z] at z;cases z
   ·rw[hs] at z;cases z
 ·intro N d X
  have X:d<=30:=by have:=ö.mp X;omega
  unfold oj;simp only[Æ,Ĵ,Bool.and_eq_false_iff];constructor
  ·cases L:mN ps m k d with
   |false=>exact .inl rfl
   |true =>
    right
    cases hs:sN ps m k d with
    |false=>rfl
    |true =>
     obtain⟨x,T,S,_⟩:=N d d hs (abG _) X (.inr ⟨rfl,L⟩);omega
  ·cases K:pr (sN ps m k) (mN ps m k) d with
   |false=>exact .inl rfl
   |true =>
    right
    cases J:lN ps m k d with
    |false=>rfl
    |true =>
     obtain⟨e,W,V,I⟩:=Bb.mp K;obtain⟨x,T,S,R⟩:=N e d V W X (.inl J);rw[I x T S] at R;cases R
end
noncomputable def yL:List Int:=(č 31).map λi:Nat=>(i:Int)
noncomputable abbrev iF (F:Nat->Bool):Cell:=.lst ((č 32).map λd=>D.bl (F d))
def Fh (hd:pE ps) (h:∀m∈m4,∀k∈k8,wG (sN ps m k) (lN ps m k) (mN ps m k)):kU ps=[]:=by
 unfold kU;rw[aaE];intro m W;rw[aaE];intro k V;rw[List.map_eq_nil_iff];unfold kT;rw[aaE];intro d U;rw[List.map_eq_nil_iff,List.filter_eq_nil_iff];intro e T Z;have hs:d∈shown ps m k:=ow.mp U;obtain⟨i,hi,rfl⟩:=Ĕ.mp T;rw[ö] at hi;have R:=hd.of hs;unfold n9 at Z;simp only[Æ,aay,Ì,Ĵ] at Z;have e1:((d.toNat:Nat):Int)=d:=by omega
 have e2:(((d+(i:Int)).toNat:Nat):Int)=d+(i:Int):=by omega
 obtain⟨x,Q,P,X⟩:=h m W k V d.toNat (d+(i:Int)).toNat (by simp only[sN,e1,Ì];exact hs) (by omega) (by omega) (by
  rcases Z.1 with z | ⟨O,S⟩
  ·exact .inl (by simp only[lN,e2,Ì];exact z)
  ·exact .inr ⟨by omega,by simp only[mN,e1,Ì];exact S⟩)
 have Y:=Z.2;unfold yd at Y;rw[List.any_eq_false] at Y;simp only[mN,Ì] at X;refine Y _ X ?_;simp only[Æ,Ì];omega
section
variable {s s':aa} {ps qs:List Pg} {p q:Pg} {a b:Nat} {bs:List (List Pg)} {env aD:Env} {st dg:abC Fl} {d x:D} {y:aR}
def om (ps:List Pg):Bool:=decide (ps.length<=24)&&m4.all λm=>k8.all λk=>mf ps m k
def Je (hl:ps.length<=100):Wp (bU.vH [bD ps] s) λd s'=>d=.bl (om ps)/\Kp s s':=by
 unfold bU.vH;refine ic.symm ▸ ⟨rfl,abF λR V=>?_⟩;simp only[VC];refine abD (show cN [bD ps] s=ok (.int ps.length) s from by show ok (D.int ((ps.map Pg.d).length:Nat)) s=_;rw[É]) ?_;simp only[VC];by_cases S:(24:Int)<ps.length
 ·rw[á S,ß rfl]
  refine⟨?_,Kp.refl s⟩;unfold om;rw[ó (by omega)];rfl
 ·rw[ó S,è Ï]
  have N:om ps=m4.all λm=>k8.all λk=>mf ps m k:=by unfold om;rw[á (by omega)];rfl
  rw[N];subst V;refine abF λR V=>?_;rw[kO];refine abD (jk (n:=4) rfl (by decide)) ?_;refine Wp.nJ (λi env s'=>Kp s s'/\(∀m:Nat,m<i->∀k∈k8,mf ps m k=true)/\∃e1 e2,env=[some (bD ps),e1,e2]) _ ⟨Kp.refl s,λm h=>absurd h (abk _),_,_,rfl⟩ (λi d env s' Z Y=>?_) (λenv s' Y=>?_)
  ·obtain⟨kp,U,e1,e2,rfl⟩:=Y
   rw[mZ] at Z;split at Z
   ·rename_i hi
    cases Z;refine⟨_,rfl,?_⟩;rw[aa1];unfold Fg;rw[kO];refine abD (jk (n:=8) rfl (by decide)) ?_;refine Wp.nJ (λX env s'=>Kp s s'/\(∀k:Nat,k<X->mf ps i k=true)/\∃e2,env=[some (bD ps),some (.int (i:Int)),e2]) _ ⟨kp,λk h=>absurd h (abk _),_,rfl⟩ (λX d env M Z Y=>?_) (λenv M Y=>?_)
    ·obtain⟨kp,T,e2,rfl⟩:=Y
     rw[mZ] at Z;split at Z
     ·rename_i L
      cases Z;refine⟨_,rfl,?_⟩;rw[aa1];unfold Ff;simp only[VC];refine(O1 hl).mono λd K Z=>?_;obtain⟨rfl,Q⟩:=Z;simp only[VC]
      cases P:mf ps i X with
      |false =>
       simp only[Z9,ð,dR,bb];subst V;refine⟨?_,kp.trans Q⟩;congr 1;symm;rw[List.all_eq_false];refine⟨(i:Int),xh.mpr (by omega),?_⟩;rw[ż,List.all_eq_false];exact⟨(X:Int),xi.mpr (by omega),by rw[P];decide⟩
      |true =>
       simp only[ô,Â,é,dj];refine⟨kp.trans Q,λk W=>?_,_,rfl⟩;by_cases e:k=X
       ·subst e;exact P
       ·exact T k (by omega)
     ·cases Z
    ·obtain⟨kp,T,e2,rfl⟩:=Y
     refine⟨kp,λm O k W=>?_,_,_,rfl⟩;by_cases e:m=i
     ·subst e
      have J:=xi.mp W;have:=T k.toNat (by rw[je];omega);rw[show ((k.toNat:Nat):Int)=k by omega] at this;exact this
     ·exact U m (by omega) k W
   ·cases Z
  ·obtain⟨kp,U,e1,e2,rfl⟩:=Y
   subst V;simp only[VC];refine⟨?_,kp⟩;congr 1;symm;refine ë.mpr λm O=>ë.mpr λk W=>?_;have I:=xh.mp O;have:=U m.toNat (by rw[je];omega) k W;rw[show ((m.toNat:Nat):Int)=m by omega] at this;exact this
def HR (h:Laid ps):om ps=cT ps:=by
 by_cases Z:ps.length<=24
 ·have W:=h.ie Z
  rw[Ł];unfold om;rw[á Z,ü];constructor
  ·intro hs
   have e:=Fh (zp W) λm Y k X=>F9.mp (ë.mp (ë.mp hs m Y) k X);unfold cT;rw[W,e];rfl
  ·intro V
   exact ë.mpr λm Y=>ë.mpr λk X=>F9.mpr (R6 V (xh.mp Y) (xi.mp X))
 ·have U:om ps=false:=by unfold om;rw[ó Z];rfl
  have T:cT ps=false:=by unfold cT ie;rw[ó Z];rfl
  rw[U,T]
def eqB (p q:Pg):Bool:=beq p.d q.d
def zN:eqB p p=true:=by
 unfold eqB
 cases p<;>simp[Pg.d,ti,beq,dH,vJ]
def eqB_iff:eqB p q=true↔p=q:=by
 have Z:(Ā "made"==Ā "mended")=false:=by decide +kernel
 have Y:(Ā "mended"==Ā "made")=false:=by decide +kernel
 constructor
 ·unfold eqB
  cases p<;>cases q<;>intro h
  ·simp[Pg.d,ti,beq,dH,vJ] at h
   obtain⟨rfl,rfl,rfl,rfl⟩:=h;rfl
  ·simp[Pg.d,ti,beq,dH,Z] at h
  ·simp[Pg.d,ti,beq,dH,Y] at h
  ·simp[Pg.d,ti,beq,dH] at h
   obtain⟨rfl,rfl,rfl⟩:=h;rfl
 ·intro h
  rw[h];exact zN
def xj (p:Pg):lay p.d=true:=by
 have Z:ŵ "made"=true:=by decide +kernel
 have Y:ŵ "mended"=true:=by decide +kernel
 cases p with
 |made m d a b=>simp only[Pg.d,lay,DI.cM,ti,vN,Z,ī]
 |bW m d k=>simp only[Pg.d,lay,DI.cM,Y,ī]
def zO (ps:List Pg):DI.cM (ps.map Pg.d)=true:=by
 induction ps with
 |nil=>rfl
 |cons p r ih=>simp only[Ý,DI.cM,xj,ih,ī]
def kJ (p:Pg) (ps:List Pg):Bool:=ps.any λq=>eqB q p
def HS:kJ p ps=true↔p∈ps:=by
 unfold kJ;rw[š];exact⟨λ⟨q,Z,Y⟩=>eqB_iff.mp Y ▸ Z,λh=>⟨p,h,zN⟩⟩
def Ar:eI p.d (bD ps) s=ok (.bl (kJ p ps)) s/\iU p.d (bD ps) s=ok (.bl (!kJ p ps)) s:=by
 have e:inD p.d (ps.map Pg.d)=some (kJ p ps):=by
  unfold inD;have Z:=qI p;rw[ß (by unfold nu;rw[zO,xj,á (show dep p.d<=100 by omega)];rfl),List.any_map];rfl
 unfold eI iU;rw[show kZ (bD ps) s=some (ps.map Pg.d) from rfl];simp only[e];exact⟨rfl,rfl⟩
def Jf:res p.d s=p.d:=by cases p<;>rfl
def UA:iO p.d=false:=by cases p<;>rfl
def VS:bP p.d q.d s=ok (.bl (!eqB p q)) s:=by
 unfold bP gm;have Z:=qI p;rw[Jf,Jf,UA,aaU,è Ï,ß (by rw[xj,xj,á (show min (dep p.d) (dep q.d)<=100 by omega)];rfl)];rfl
theorem Ga:∀ps:List Pg,dH (ps.map Pg.d) (ps.map Pg.d)=true
 | []=>rfl
 |p::ps=>by
  have:=zN (p:=p);unfold eqB at this;simp only[Ý,dH,this,Ga ps,ī]
theorem G4:∀ps:List Pg,cH (ps.map Pg.d)<=10
 | []=>Ċ _
 |p::ps=>by
  have Z:=qI p;have Y:=G4 ps;simp only[Ý,cH];omega
def As:bP (bD ps) (bD ps) s=ok (.bl false) s:=by
 unfold bP gm;have Z:=G4 ps;have Y:dep (bD ps)<=100:=by show cH (ps.map Pg.d)+1<=100;omega
 rw[show res (bD ps) s=bD ps from rfl,è (by rw[show iO (bD ps)=false from rfl];exact Ï),ß (by
  rw[show lay (bD ps)=true from zO ps,á (show min (dep (bD ps)) (dep (bD ps))<=100 by omega)];rfl)]
 rw[show beq (bD ps) (bD ps)=true from Ga ps];rfl
def ne_nil:bP (bD ps) (.tup []) s=ok (.bl (!ps.isEmpty)) s:=by
 unfold bP gm;rw[show res (bD ps) s=bD ps from rfl,show res (.tup []) s=.tup [] from rfl,è (by rw[show iO (bD ps)=false from rfl];exact Ï),ß (by
  rw[show lay (bD ps)=true from zO ps];have:min (dep (bD ps)) (dep (.tup []))<=100:=by have:dep (.tup [])=1:=rfl;omega
  rw[á this];rfl)]
 cases ps<;>rfl
def G5 (hl:ps.length<=1000):cE (bD ps) (.tup [p.d]) s=ok (bD (ps++[p])) s:=by
 have e:cE (.tup (ps.map Pg.d)) (.tup [p.d]) s=ok (.tup (ps.map Pg.d++[p.d])) s:=by
  show bT (if lp (ps.map Pg.d) [p.d]=true then some (D.tup (ps.map Pg.d++[p.d])) else none) s=_
  rw[ß (show lp (ps.map Pg.d) [p.d]=true from á (le_size (by rw[É];show ps.length+1<=1000000;omega)))];rfl
 rw[show bD (ps++[p])=.tup (ps.map Pg.d++[p.d]) by show D.tup _=_;rw[ĕ];rfl];exact e
structure Bk (ps:List Pg):Prop where
 laid:Laid ps
 book:cT ps=true
def Bk.len (h:Bk ps):ps.length<=24:=by
 have:=h.book;unfold cT ie at this;simp only[Æ,Ì] at this;exact this.1.1
theorem Bk.nil:Bk []:=⟨⟨λ_ h=>absurd h Ĉ,.nil⟩,by decide +kernel⟩
def QH (h:Laid ps):ps.Nodup:=h.up.imp λ{a b} Z e=>by
 subst e;rw[bE.rZ] at Z;cases Z
def Gb (h:Laid ps) (hp:cq p=true) (hi:p∉ps):Laid (ST.cK bE (ps++[p])):=by
 refine⟨λq Y=>?_,QA ?_⟩
 ·rcases Ą.mp ((ST.lT _).mem_iff.mp Y) with h'|h'
  ·exact h.pg q h'
  ·rw[Ę.mp h'];exact hp
 ·rw[ZW]
  exact⟨QH h,by simp,λx X y Z e=>hi (by rw[Ę] at Z;rw[<- Z,<- e];exact X)⟩
theorem G6:∀{ps:List Pg},oV ps=true->ps.Pairwise λa b=>bE.lt a b=true
 | [],_=>.nil
 | [a],_=>by simp
 |a::b::r,h=>by
  unfold oV at h;simp only[abl,abr,ę,List.all_cons,Æ] at h;have ih:=G6 (ps:=b::r) (by unfold oV;exact h.2);refine ò.mpr ⟨λx hx=>?_,ih⟩
  rcases Õ.mp hx with rfl|hx
  ·exact h.1
  ·exact bE.tr _ _ _ h.1 ((ò.mp ih).1 x hx)
def FF (hi:p∈ps):cT (ST.cK bE (ps++[p]))=false:=by
 cases h:cT (ST.cK bE (ps++[p])) with
 |false=>rfl
 |true =>
  exfalso;unfold cT ie at h;simp only[Æ,Ì] at h;have up:=G6 h.1.2.2;have Z:(ST.cK bE (ps++[p])).Nodup:=up.imp λ{a b} Y e=>by
   subst e;rw[bE.rZ] at Y;cases Y
  rw[(ST.lT _).nodup_iff,ZW] at Z;exact Z.2.2 p hi p (by simp) rfl
def Fi (h:Laid ps):Laid (ps.filter λq=>!eqB q p):=h.sub List.filter_sublist
def QI (h:∀p∈ps,cq p=true):∀p∈ps,rA p:=λp Z=>zq (h p Z)
end
section
variable {s s':aa} {ps book:List Pg} {p q:Pg} {a b:Nat} {aE bs:List (List Pg)} {env aD:Env} {st dg:abC Fl} {d x:D} {y:aR}
def qN (h:st env s=ok (.nx aD) s'):ax st dg env s=dg aD s':=by unfold ax;rw[h];rfl
def tm (h:st env s=some (.error y,s')):ax st dg env s=some (.error y,s'):=by unfold ax;rw[h];rfl
structure Di (s:aa) (a b:Nat) (aE:List (List Pg)) (book:List Pg):Prop where
 ha:s[a]?=some (.ins "Diary" [("books",.aj b)])
 hb:s[b]?=some (.lst ((aE++[book]).map bD))
 ln:aE.length<=500
 bk:∀ps∈aE++[book],Bk ps
def Di.last (h:Di s a b aE book):Bk book:=h.bk book (by simp)
def Di.ex {k:Nat} (h:Di s a b aE book) (x:Ex k s s') (ka:a≠k) (kb:b≠k):Di s' a b aE book:=⟨x.get h.ha ka,x.get h.hb kb,h.ln,h.bk⟩
def Di.kp (h:Di s a b aE book) (x:Kp s s'):Di s' a b aE book:=⟨x.get h.ha,x.get h.hb,h.ln,h.bk⟩
def KL (ha:s[a]?=some (.ins "Diary" [("books",.aj b)])):mF "Diary" (.aj a) s=some (a,([("books",.aj b)]:List (Str×D))):=by
 unfold mF;dsimp only;rw[ha];dsimp only;rw[ß (á rfl)]
def xk (ha:s[a]?=some (.ins "Diary" [("books",.aj b)])):mG "Diary" "books" (.aj a) s=ok (.aj b) s:=by
 unfold mG;rw[KL ha];rfl
def jY {f:Str} {fn:List D->aa->Res D} {fo:abC D} {fa:abC (List D)} {ds:List D} (ha:s[a]?=some (.ins "Diary" [("books",.aj b)])) (hm:(([("books",D.aj b)]:List (Str×D)).lookup f).isNone=true) (he:fo env s=ok (.aj a) s) (hf:fa env s=ok ds s):fu "Diary" f fn fo fa env s=fn (.aj a::ds) s:=by
 unfold fu;rw[he,dG,KL ha];dsimp only;rw[hm,ß rfl,hf,dG]
def sM {ds:List D} (h:s[b]?=some (.lst ds)):res (.aj b) s=.lst ds:=by unfold res;dsimp only;rw[h]
def R8 {xs:List D} {x:D}:az (.lst (xs++[x])) (.int (-1)) s=ok x s:=by
 rw[Ut (xs:=xs++[x]) (by simp),List.getLast_append_of_ne_nil _ (by simp)];rfl
def qA:az (.lst ((aE++[book]).map bD)) (.int (-1)) s=ok (bD book) s:=by
 rw[ĕ];exact R8
def VT (h:Di s a b aE book):az (.aj b) (.int (-1)) s=ok (bD book) s:=by
 have e:az (.aj b) (.int (-1)) s=az (.lst ((aE++[book]).map bD)) (.int (-1)) s:=by
  unfold az lL;rw[sM h.hb];rfl
 rw[e,qA]
def rB:kY (.int 1) s=ok (.int (-1)) s:=rfl
def Bd (h:Di s a b aE book):iQ [.aj a] s=ok (bD book) s:=by
 refine abE ?_;unfold iQ;refine ic.symm ▸ ⟨rfl,?_⟩;show Wp (aM _ [some (.aj a)] s) _;rw[dR,bA,iY,aV];refine abD (xk h.ha) ?_;rw[iY,bb];refine abD rB (abD (VT h) ?_);exact⟨rfl,rfl⟩
def R9 (h:cq p=true):kL [p.d] s=ok .ar s:=by
 refine abE ?_;unfold kL;simp only[VC,HL (zq h),h,ô,Â,é,Ĭ]
def G7 {r:Env} {z:Option D} (h:cq p=true):gO (qJ kL (af (ae 1) ah)) (z::some p.d::r) s=ok (.nx (z::some p.d::r)) s:=by
 show ao (kL [p.d] s) _=_;rw[R9 h];rfl
def HU (h:Di s a b aE book) (hl:ps.length<=100) (hp:∀p∈ps,cq p=true):sj [.aj a,bD ps] s=if cT ps=true then ok .ar (s.set b (.lst ((aE++[book]++[ps]).map bD))) else some (.error ⟨"Clash",none⟩,s):=by
 have e:gp (dY (aS su (af (ae 1) ah))) [some (.aj a),some (bD ps)] s=ok (!cT ps) s:=by
  refine abE ?_;simp only[VC,R0 (show ps.length<=1000 by omega) (QI hp),Ĭ]
 unfold sj aN;show ao (ax _ _ [some (.aj a),some (bD ps)] s) _=_
 cases hb:cT ps with
 |true =>
  rw[hb] at e;rw[ß rfl];rw[qN (show aZ _ _ _ [some (.aj a),some (bD ps)] s=ok (.nx [some (.aj a),some (bD ps)]) s from ?_)]
  ·refine abE ?_
   obtain⟨Z,Y⟩:=Aq (x:=bD ps) h.hb (by rw[É,Þ];have:=h.ln;simp;omega);rw[bS,qp,wZ,iY,aV];refine abD (xk h.ha) ⟨Z,?_⟩;simp only[bx,aV];refine abD Y ?_;rw[bh,ĕ (l₂:=[ps])];exact⟨rfl,rfl⟩
  ·unfold aZ
   rw[e];rfl
 |false =>
  rw[hb] at e;rw[è Ï];rw[tm (show aZ _ _ _ [some (.aj a),some (bD ps)] s=some (.error ⟨"Clash",none⟩,s) from ?_)]
  ·rfl
  ·unfold aZ
   rw[e];rfl
def HV (h:Di s a b aE book) (hp:cq p=true):lS [.aj a,p.d] s=if cT (ST.cK bE (book++[p]))=true then ok .ar (s.set b (.lst ((aE++[book]++[ST.cK bE (book++[p])]).map bD))) else some (.error ⟨"Clash",none⟩,s):=by
 have W:=h.last.len;unfold lS aN;show ao (ax _ _ [some (.aj a),some p.d] s) _=_;rw[qN (G7 hp)];have Z:af (eB gg (af (eB TK.oB (af (e2 cE (fu "Diary" "book_now" iQ (ae 0) ah) (bZ (af (ae 1) ah))) ah)) ah)) ah [some (.aj a),some p.d] s=ok [bD (ST.cK bE (book++[p]))] s:=by
  refine abE ?_;rw[bc,gQ,bc,gQ,bc,bA];refine abD (show fu "Diary" "book_now" iQ (ae 0) ah [some (.aj a),some p.d] s=ok (bD book) s from (jY h.ha (by rfl) (ds:=[]) rfl rfl).trans (Bd h)) ?_;simp only[fJ,bc,bF,bx,aV];refine⟨le_size (n:=1) (by decide),?_⟩;refine abD (G5 (show book.length<=1000 by omega)) ?_;refine abD (show oB [bD (book++[p])] s=ok (.lst ((ST.cK bE (book++[p])).map Pg.d)) s from ?_) ?_
  ·show (if ((book++[p]).map Pg.d).length<64 then bT (qT ((book++[p]).map Pg.d)) s else none)=_
   rw[É,ß (by rw[Þ];show book.length+1<64;omega),zE];rfl
  exact⟨_,_,rfl,rfl,rfl⟩
 have Y:∀q∈ST.cK bE (book++[p]),cq q=true:=λq X=>by
  rcases Ą.mp ((ST.lT _).mem_iff.mp X) with h'|h'
  ·exact h.last.laid.pg q h'
  ·rw[Ę.mp h'];exact hp
 unfold gO;rw[jY h.ha (by rfl) rfl Z,HU h (by rw[(ST.lT _).length_eq,Þ];show book.length+1<=100;omega) Y];generalize cT (ST.cK bE (book++[p]))=c
 cases c<;>rfl
def Be {caps:Env} (hc:caps=[some p.d]) (hl:ps.length<=100):fq 1 caps (gN 0) (aU (e2 bP (ae 0) (ae 1))) (ae 0) (ps.map Pg.d) s=ok ((ps.filter λq=>!eqB q p).map Pg.d) s:=by
 subst hc;refine comp_map Pg.d (λq=>!eqB q p) Pg.d ps λq _=>⟨[some q.d,some p.d],rfl,?_,λ_=>rfl⟩;refine abE ?_;simp only[dq,bA,aV,bx,VS,bh,cz,Ĭ]
def O2 (h:Di s a b aE book) (hp:cq p=true):oo [.aj a,p.d] s=if (kJ p book&&cT (book.filter λq=>!eqB q p))=true then ok .ar (s.set b (.lst ((aE++[book]++[book.filter λq=>!eqB q p]).map bD))) else some (.error ⟨"Clash",none⟩,s):=by
 have W:=h.last.len;unfold oo aN;show ao (ax _ _ [some (.aj a),some p.d,none] s) _=_;rw[qN (G7 hp)];rw[qN (show bt _ _ [some (.aj a),some p.d,none] s=ok (.nx [some (.aj a),some p.d,some (bD book)]) s from ?_)]
 rotate_left
 ·refine abE ?_
  rw[dS];refine abD (show fu "Diary" "book_now" iQ (ae 0) ah [some (.aj a),some p.d,none] s=ok (bD book) s from (jY h.ha (by rfl) (ds:=[]) rfl rfl).trans (Bd h)) ?_;rw[eV];exact⟨rfl,rfl⟩
 have Z:aU (e2 iU (ae 1) (ae 2)) [some (.aj a),some p.d,some (bD book)] s=ok (!kJ p book) s:=by
  refine abE ?_;simp only[dq,bA,aV,bx,Ar.2,bh,cz,Ĭ]
 cases hi:kJ p book with
 |false =>
  rw[hi] at Z;rw[è (by rw[aaU];exact Ï)];rw[tm (show aZ _ _ _ [some (.aj a),some p.d,some (bD book)] s=some (.error ⟨"Clash",none⟩,s) from ?_)]
  ·rfl
  ·unfold aZ
   rw[Z];rfl
 |true =>
  rw[hi] at Z;rw[ü];rw[qN (show aZ _ _ _ [some (.aj a),some p.d,some (bD book)] s=ok (.nx [some (.aj a),some p.d,some (bD book)]) s from ?_)]
  rotate_left
  ·unfold aZ
   rw[Z];rfl
  have Y:af (eB gg (af (eh 1 [1] (fe (ae 2)) (gN 0) (aU (e2 bP (ae 0) (ae 1))) (ae 0)) ah)) ah [some (.aj a),some p.d,some (bD book)] s=ok [bD (book.filter λq=>!eqB q p)] s:=by
   refine abE ?_;rw[bc,gQ,bc,qy];refine abD (kM rfl) ⟨le_size (by rw[É];omega),?_⟩;refine abD (Be rfl (show book.length<=100 by omega)) ?_;simp only[bF];exact⟨_,_,rfl,rfl,rfl⟩
  unfold gO;have sub:(book.filter λq=>!eqB q p).length<=100:=à (Ň _ _) (by omega);rw[jY h.ha (by rfl) rfl Y,HU h sub λq X=>h.last.laid.pg q (Ĩ.mp X).1];generalize cT (book.filter λq=>!eqB q p)=c
  cases c<;>rfl
def UB (h:Di s a b aE book):cN [.aj b] s=ok (.int (aE.length+1)) s:=by
 show bT (my (.aj b) s) s=_;have:my (.aj b) s=some (.int (aE.length+1)):=by
  unfold my;rw[sM h.hb];dsimp only;rw[É,Þ];rfl
 rw[this];rfl
def Sa (h:Di s a b aE book):qc [.aj a] s=if aE=[] then some (.error ⟨"NoDeed",none⟩,s) else ok .ar (s.set b (.lst (aE.map bD))):=by
 have Z:aU (e2 bq (eB cN (af (e1 (mG "Diary" "books") (ae 0)) ah)) (eC (.int 1))) [some (.aj a)] s=ok ((aE.length+1:Int)==1) s:=by
  refine abE ?_;simp only[dq,bA,gQ,bc,bF,iY,aV];refine abD (xk h.ha) (abD (UB h) ?_);simp only[VC,Ĭ]
 unfold qc aN;show ao (ax _ _ [some (.aj a)] s) _=_;by_cases Y:aE=[]
 ·subst Y
  rw[ß rfl];rw[tm (show aZ _ _ _ [some (.aj a)] s=some (.error ⟨"NoDeed",none⟩,s) from ?_)]
  ·rfl
  ·unfold aZ
   rw[Z];rfl
 ·rw[è Y]
  have V:0<aE.length:=List.length_pos_iff.mpr Y;have X:((aE.length+1:Int)==1)=false:=beq_eq_false_iff_ne.mpr (by omega);rw[X] at Z;rw[qN (show aZ _ _ _ [some (.aj a)] s=ok (.nx [some (.aj a)]) s from ?_)]
  rotate_left
  ·unfold aZ
   rw[Z];rfl
  have W:uy (.aj b) s=ok (bD book) (s.set b (.lst (aE.map bD))):=by
   unfold uy;dsimp only;rw[h.hb];dsimp only;rw[ĕ,Ý,ŏ,Þ,ñ,ē,Nat.add_sub_cancel,í (abG _),Nat.sub_self];simp
  refine abE ?_;rw[bS,qp,iY,iY,aV];refine abD (xk h.ha) (abD W ?_);rw[bh];exact⟨rfl,rfl⟩
end
inductive Dd where
 |tell|fK|eJ
noncomputable def Dd.w:Dd->Str
 | .tell=>"tell"
 | .fK=>"strike"
 | .eJ=>"undo"
noncomputable abbrev tW:D:=.tup [.str "told",.ar]
noncomputable abbrev kj (i:Int):D:=.tup [.str "refused",.int i]
def fM (aE:List (List Pg)) (book:List Pg) (w:Dd) (p:Pg):List (List Pg)×D:=match w with
 | .eJ=>if aE=[] then (aE++[book],kj 14) else (aE,tW)
 | .tell=>if cT (ST.cK bE (book++[p]))=true then (aE++[book]++[ST.cK bE (book++[p])],tW) else (aE++[book],kj 13)
 | .fK=>if (kJ p book&&cT (book.filter λq=>!eqB q p))=true then (aE++[book]++[book.filter λq=>!eqB q p],tW) else (aE++[book],kj 13)
section
variable {s s':aa} {ps book:List Pg} {p q:Pg} {a b:Nat} {aE bs:List (List Pg)} {w:Dd} {d:D}
def QJ (h:Di s a b aE book) (hp:cq p=true):∃i' b',(fM aE book w p).1=i'++[b']/\i'.length<=aE.length+1/\∀ps∈i'++[b'],Bk ps:=by
 unfold fM
 cases w with
 |eJ =>
  dsimp only;split
  ·exact⟨aE,book,rfl,by omega,h.bk⟩
  ·rename_i X
   refine⟨aE.dropLast,aE.getLast X,(η X).symm,by rw[List.length_dropLast];omega,λps Z=>?_⟩;rw[η X] at Z;exact h.bk ps (ý _ Z)
 |tell =>
  dsimp only;split
  ·rename_i Y
   refine⟨aE++[book],_,rfl,by simp,λps Z=>?_⟩
   rcases Ą.mp Z with z|z
   ·exact h.bk ps z
   ·rw[Ę.mp z]
    refine⟨Gb h.last.laid hp λhi=>?_,Y⟩;rw[FF hi] at Y;cases Y
  ·exact⟨aE,book,rfl,by omega,h.bk⟩
 |fK =>
  dsimp only;split
  ·rename_i Y
   rw[Æ] at Y;refine⟨aE++[book],_,rfl,by simp,λps Z=>?_⟩
   rcases Ą.mp Z with z|z
   ·exact h.bk ps z
   ·rw[Ę.mp z]
    exact⟨Fi h.last.laid,Y.2⟩
  ·exact⟨aE,book,rfl,by omega,h.bk⟩
def G8 {c:Cell} (h:s[b]?=some c):List.set s b c=s:=Ų λj=>by
 by_cases e:j=b
 ·subst e
  rw[å (Ç.mp h).1,h]
 ·rw[Ö (Ŭ e)]
def Bf {caps:List Nat} {env:Env} {ds:List D} {fb:abC D} {r:D} (h0:s[0]?=some (.tb  abI)) (ht:nv env caps=some ds) (h:eU .ar (fb (ds.map some)) [.ar] s=ok r s'):pA  abI caps fb eU env s=ok r s':=by
 unfold pA;rw[ht];dsimp only;rw[h0];dsimp only;rw[ß (á rfl),h];rfl
def lu {v:Dd}:bq (.str w.w) (.str v.w) s=ok (.bl (match w,v with | .tell,.tell=>true | .fK,.fK=>true | .eJ,.eJ=>true | _,_=>false)) s:=by
 rw[kH];congr 2
 cases w<;>cases v<;>decide +kernel
def O3 {x r:D} (h0:s[0]?=some (.tb  abI)) (hm:eU .ar (fu "Diary" "undo" qc (ae 0) ah [some (.aj a)]) [.ar] s=ok r s'):iV [.aj a,.str Dd.eJ.w,x] s=ok r s':=by
 refine abE ?_;unfold iV;refine ic.symm ▸ ⟨rfl,abF λR Z=>?_⟩;show Wp (aZ _ _ _ [some (.aj a),some (.str Dd.eJ.w),some x] s) _;simp only[ef,dq,bA,aV,bx,bb];refine abD (lu (w:=.eJ) (v:=.eJ)) ?_;simp only[cz,ð,dR];refine abD (Bf h0 (ds:=[.aj a]) rfl hm) ?_;exact⟨rfl,rfl⟩
def Ge {x r:D} (h0:s[0]?=some (.tb  abI)) (hm:eU .ar (fu "Diary" "tell" lS (ae 1) (af (ae 0) ah) [some x,some (.aj a)]) [.ar] s=ok r s'):iV [.aj a,.str Dd.tell.w,x] s=ok r s':=by
 refine abE ?_;unfold iV;refine ic.symm ▸ ⟨rfl,abF λR Z=>?_⟩;show Wp (aZ _ _ _ [some (.aj a),some (.str Dd.tell.w),some x] s) _;simp only[ef,dq,bA,aV,bx,bb];refine abD (lu (w:=.tell) (v:=.eJ)) ?_;simp only[cz,Â,é,dj];rw[bL];subst Z;refine abF λR Z=>?_;simp only[ef,dq,bA,aV,bx,bb];refine abD (lu (w:=.tell) (v:=.tell)) ?_;simp only[cz,ð,dR];refine abD (Bf h0 (ds:=[x,.aj a]) rfl hm) ?_;exact⟨rfl,rfl⟩
def Fj {x r:D} (h0:s[0]?=some (.tb  abI)) (hm:eU .ar (fu "Diary" "strike" oo (ae 1) (af (ae 0) ah) [some x,some (.aj a)]) [.ar] s=ok r s'):iV [.aj a,.str Dd.fK.w,x] s=ok r s':=by
 refine abE ?_;unfold iV;refine ic.symm ▸ ⟨rfl,abF λR Z=>?_⟩;show Wp (aZ _ _ _ [some (.aj a),some (.str Dd.fK.w),some x] s) _;simp only[ef,dq,bA,aV,bx,bb];refine abD (lu (w:=.fK) (v:=.eJ)) ?_;simp only[cz,Â,é,dj];rw[bL];subst Z;refine abF λR Z=>?_;simp only[ef,dq,bA,aV,bx,bb];refine abD (lu (w:=.fK) (v:=.tell)) ?_;simp only[cz,Â,é,dj];rw[bL];subst Z;rw[dR];refine abD (Bf h0 (ds:=[x,.aj a]) rfl hm) ?_;exact⟨rfl,rfl⟩
def HW (h:Di s a b aE book) (h0:s[0]?=some (.tb  abI)) (hp:cq p=true):iV [.aj a,.str w.w,p.d] s=ok (fM aE book w p).2 (s.set b (.lst ((fM aE book w p).1.map bD))):=by
 have same:List.set s b (.lst ((aE++[book]).map bD))=s:=G8 h.hb;unfold fM
 cases w with
 |eJ =>
  refine O3 h0 ?_;have e:=(jY (env:=[some (.aj a)]) (fn:=qc) (f:="undo") (fo:=ae 0) (fa:=ah) h.ha (by rfl) (ds:=[]) rfl rfl).trans (Sa h);dsimp only;split
  ·rename_i Z
   rw[ß Z] at e;rw[same];exact ze e
  ·rename_i Z
   rw[è Z] at e;exact sZ e
 |tell =>
  refine Ge h0 ?_;have e:=(jY (env:=[some p.d,some (.aj a)]) (fn:=lS) (f:="tell") (fo:=ae 1) (fa:=af (ae 0) ah) h.ha (by rfl) (ds:=[p.d]) rfl rfl).trans (HV h hp);dsimp only;split
  ·rename_i Z
   rw[ß Z] at e;exact sZ e
  ·rename_i Z
   rw[è Z] at e;rw[same];exact vL e
 |fK =>
  refine Fj h0 ?_;have e:=(jY (env:=[some p.d,some (.aj a)]) (fn:=oo) (f:="strike") (fo:=ae 1) (fa:=af (ae 0) ah) h.ha (by rfl) (ds:=[p.d]) rfl rfl).trans (O2 h hp);dsimp only;split
  ·rename_i Z
   rw[ß Z] at e;exact sZ e
  ·rename_i Z
   rw[è Z] at e;rw[same];exact vL e
def QK {xs:List D} {x:D}:oJ (.lst (xs++[x])) none (some (-1)) s=ok (.lst xs) s:=by
 show ok (D.lst (cutD (xs++[x]) none (some (-1)))) s=_;have:cutD (xs++[x]) none (some (-1))=xs:=by
  unfold cutD;have e1:HT.aT (xs++[x]).length 0 none=0:=rfl;have e2:HT.aT (xs++[x]).length (xs++[x]).length (some (-1))=xs.length:=by
   unfold HT.aT;dsimp only;rw[ß (by decide),Þ];show (-1+((xs.length+1:Nat):Int)).toNat=_;omega
  rw[e1,e2,abr,Nat.sub_zero,List.take_left'];rfl
 rw[this]
def KN {x y:Bool}:bq (.bl x) (.bl y) s=ok (.bl (x==y)) s:=by cases x<;>cases y<;>rfl
def step_eq (h:∀ps∈aE++[book],Bk ps) (hl:aE.length<=500) (hp:cq p=true):Wp (wz [.lst ((aE++[book]).map bD),.str w.w,p.d] s) λd s'=>d=.tup [.lst ((fM aE book w p).1.map bD),(fM aE book w p).2]/\Kp s s':=by
 have Y:Bk book:=h book (by simp);have S:=Y.len;have em:(aE++[book]).map bD=aE.map bD++[bD book]:=by rw[ĕ];rfl
 unfold wz;refine ic.symm ▸ ⟨rfl,abF λR Z=>?_⟩;show Wp (pk _ _ _ [some (.lst ((aE++[book]).map bD)),some (.str w.w),some p.d,none,none] s) _;rw[sL,bc,bA,aV,iY,bb];refine abD rB (abD qA ?_);simp only[bc,bF,bb];refine⟨_,_,rfl,?_⟩;simp only[æ,ç];rw[bL];subst Z;refine abF λR Z=>?_;simp only[ef,dq,bA,aV,bx,bb];refine abD (lu (v:=.eJ)) ?_;have V:cN [.lst ((aE++[book]).map bD)] s=ok (.int (aE.length+1)) s:=by
  show ok (D.int (((aE++[book]).map bD).length:Nat)) s=_;rw[É,Þ];rfl
 cases w with
 |eJ =>
  simp only[cz,ð,dR,sY,dq,bA,gQ,bc,bF,aV,bb];refine abD V ?_;simp only[xc,cz];unfold fM;dsimp only;by_cases X:aE=[]
  ·subst X
   rw[ß rfl,è (by decide)];simp only[fJ,bc,bF,aV,bb];exact⟨le_size (n:=2) (by decide),le_size (n:=2) (by decide),rfl,Kp.refl s⟩
  ·have Q:0<aE.length:=List.length_pos_iff.mpr X
   rw[è X,á (show (1:Int)<aE.length+1 by omega),ß rfl];rw[fJ,bc,BD,aV,A7];rw[Aj (show e1 kY (eC (.int 1)) _ s=ok (.int (-1)) s from rfl),em];refine abD QK ?_;simp only[fJ,bc,bF,bb];exact⟨le_size (n:=2) (by decide),le_size (n:=2) (by decide),rfl,Kp.refl s⟩
 |tell =>
  simp only[cz,Â,é,dj];rw[bL];subst Z;refine abF λR Z=>?_;simp only[ef,dq,bA,aV,bx,bb,Ar.1,bh];refine abD (lu (w:=.tell) (v:=.tell)) (abD KN ?_);simp only[cz];unfold fM;dsimp only
  cases hi:kJ p book with
  |true =>
   rw[FF (HS.mp hi),è Ï];simp only[ā,ð,dR,fJ,bc,bF,aV,bb];exact⟨le_size (n:=2) (by decide),le_size (n:=2) (by decide),rfl,Kp.refl s⟩
  |false =>
   have U:p∉book:=λz=>by rw[HS.mpr z] at hi;cases hi
   rw[è (by decide),dj,bL];subst Z;refine abF λR Z=>?_;rw[dS,gQ,bc,qy];refine abD (kM rfl) ⟨le_size (by rw[É];omega),?_⟩;refine abD (Be rfl (show book.length<=100 by omega)) ?_;rw[bF];refine abD (show gg [.lst ((book.filter λq=>!eqB q p).map Pg.d)] s=ok (bD (book.filter λq=>!eqB q p)) s from rfl) ?_;rw[eV];simp only[æ,ç];rw[bL];subst Z;refine abF λR Z=>?_;simp only[ef,dq,bA,aV,bx,bb];refine abD (lu (w:=.tell) (v:=.tell)) ?_;simp only[cz,ð];rw[dS,gQ,bc,gQ,bc,bA];simp only[bx,aV,fJ,bc,bF];refine⟨le_size (n:=1) (by decide),?_⟩;refine abD (G5 (show book.length<=1000 by omega)) ?_;refine abD (show oB [bD (book++[p])] s=ok (.lst ((ST.cK bE (book++[p])).map Pg.d)) s from ?_) ?_
   ·show (if ((book++[p]).map Pg.d).length<64 then bT (qT ((book++[p]).map Pg.d)) s else none)=_
    rw[É,ß (by rw[Þ];show book.length+1<64;omega),zE];rfl
   refine abD (show gg [.lst ((ST.cK bE (book++[p])).map Pg.d)] s=ok (bD (ST.cK bE (book++[p]))) s from rfl) ?_;rw[eV];simp only[æ,ç];rw[bL];subst Z;refine abF λR Z=>?_;simp only[ef,sJ,qL,wp_call,bc,bF,bx,aV];refine(Je (ps:=ST.cK bE (book++[p])) (by rw[(ST.lT _).length_eq,Þ];show book.length+1<=100;omega)).mono λd T W=>?_;obtain⟨rfl,kp⟩:=W;rw[HR (Gb Y.laid hp U)];simp only[qw]
   cases cT (ST.cK bE (book++[p])) with
   |false =>
    simp only[Z9,ð,dR,fJ,bc,bF,aV,bb];exact⟨le_size (n:=2) (by decide),le_size (n:=2) (by decide),rfl,kp⟩
   |true =>
    simp only[ô,Â,é,dj];rw[bL];subst Z;simp only[dR,fJ,bc,bF,bA,md,aV,bx,bb];refine⟨le_size (n:=1) (by decide),?_⟩;refine abD (Cy (by rw[É,Þ];show aE.length+1+1<=_;omega)) ?_;refine⟨le_size (n:=2) (by decide),le_size (n:=2) (by decide),?_,kp⟩;rw[ß trivial,ĕ (l₂:=[ST.cK bE (book++[p])])];rfl
 |fK =>
  simp only[cz,Â,é,dj];rw[bL];subst Z;refine abF λR Z=>?_;simp only[ef,dq,bA,aV,bx,bb,Ar.1,bh];refine abD (lu (w:=.fK) (v:=.tell)) (abD KN ?_);simp only[cz];unfold fM;dsimp only
  cases hi:kJ p book with
  |false =>
   rw[aaU,è Ï];simp only[ā,ð,dR,fJ,bc,bF,aV,bb];exact⟨le_size (n:=2) (by decide),le_size (n:=2) (by decide),rfl,Kp.refl s⟩
  |true =>
   rw[è (by decide),dj,bL,ü];subst Z;refine abF λR Z=>?_;rw[dS,gQ,bc,qy];refine abD (kM rfl) ⟨le_size (by rw[É];omega),?_⟩;refine abD (Be rfl (show book.length<=100 by omega)) ?_;rw[bF];refine abD (show gg [.lst ((book.filter λq=>!eqB q p).map Pg.d)] s=ok (bD (book.filter λq=>!eqB q p)) s from rfl) ?_;rw[eV];simp only[æ,ç];rw[bL];subst Z;refine abF λR Z=>?_;simp only[ef,dq,bA,aV,bx,bb];refine abD (lu (w:=.fK) (v:=.tell)) ?_;simp only[cz,Â,é,dj];rw[bL];subst Z;refine abF λR Z=>?_;simp only[ef,sJ,qL,wp_call,bc,bF,bx,aV];refine(Je (ps:=book.filter λq=>!eqB q p) (à (Ň _ _) (by omega))).mono λd T W=>?_;obtain⟨rfl,kp⟩:=W;rw[HR (Fi Y.laid)];simp only[qw]
   cases cT (book.filter λq=>!eqB q p) with
   |false =>
    simp only[Z9,ð,dR,fJ,bc,bF,aV,bb];exact⟨le_size (n:=2) (by decide),le_size (n:=2) (by decide),rfl,kp⟩
   |true =>
    simp only[ô,Â,é,dj];rw[bL];subst Z;simp only[dR,fJ,bc,bF,bA,md,aV,bx,bb];refine⟨le_size (n:=1) (by decide),?_⟩;refine abD (Cy (by rw[É,Þ];show aE.length+1+1<=_;omega)) ?_;refine⟨le_size (n:=2) (by decide),le_size (n:=2) (by decide),?_,kp⟩;rw[ß trivial,ĕ (l₂:=[book.filter λq=>!eqB q p])];rfl
end
section
variable {s s':aa} {ps book:List Pg} {p q:Pg} {a b k:Nat} {aE bs:List (List Pg)} {w:Dd} {d x:D}
noncomputable def Dd.same:Dd->Dd->Bool
 | .tell,.tell=>true
 | .fK,.fK=>true
 | .eJ,.eJ=>true
 |_,_=>false
def JV {v:Dd}:bq (.str w.w) (.str v.w) s=ok (.bl (w.same v)) s:=by
 rw[kH];congr 2
 cases w<;>cases v<;>decide +kernel
def KO {v:Dd}:bP (.str w.w) (.str v.w) s=ok (.bl (!w.same v)) s:=by
 have e:=JV (w:=w) (v:=v) (s:=s);unfold bq at e;unfold bP
 cases h:gm (res (.str w.w) s) (res (.str v.w) s) with
 |none=>rw[h] at e;cases e
 |some c =>
  rw[h] at e
  injection e with e
  injection e with e1 _
  injection e1 with e1
  injection e1 with e1
  rw[e1]
def Sb {r:Int} (h0:0<=r) (h1:r<5):∃w:Dd,az (.lst [.str "tell",.str "tell",.str "tell",.str "strike",.str "undo"]) (.int r) s=ok (.str w.w) s:=by
 rcases(show r=0\/r=1\/r=2\/r=3\/r=4 by omega) with rfl|rfl|rfl|rfl|rfl
 ·exact⟨.tell,rfl⟩
 ·exact⟨.tell,rfl⟩
 ·exact⟨.tell,rfl⟩
 ·exact⟨.fK,rfl⟩
 ·exact⟨.eJ,rfl⟩
def Sd {r:Int} (h0:0<=r) (h1:r<2):∃n:Int,az (.lst [.int 6,.int 31]) (.int r) s=ok (.int n) s/\0<n/\n<=31:=by
 rcases(show r=0\/r=1 by omega) with rfl|rfl
 ·exact⟨6,rfl,by decide,by decide⟩
 ·exact⟨31,rfl,by decide,by decide⟩
def VU {r:Int} (h0:0<=r) (h1:r<ps.length):∃p∈ps,az (bD ps) (.int r) s=ok p.d s:=by
 obtain⟨p,e1,e2⟩:=xb (xs:=ps) h0 h1;refine⟨p,Ū e2,?_⟩;show bT (de (ps.map Pg.d) r) s=_;rw[RT,e1];rfl
def Se (h:Sf s k) (hp:∀p∈ps,cq p=true) (hl:ps.length<=24):Wp (wy [.aj k,bD ps] s) λd s'=>∃(w:Dd) (p:Pg),d=.tup [.str w.w,p.d]/\cq p=true/\Sf s' k/\Ex k s s':=by
 unfold wy;refine ic.symm ▸ ⟨rfl,abF λR W=>?_⟩;show Wp (bt _ _ [some (.aj k),some (bD ps),none,none] s) _;simp only[dS,eV,bA,md,wp_call,bc,bF,aV,bb,æ,ç];refine⟨le_size (n:=5) (by decide),?_⟩;refine(gL h (by decide) (by decide)).mono λd N Y=>?_;obtain⟨r,rfl,X,V,M,L⟩:=Y;obtain⟨w,e⟩:=Sb (s:=N) X V;refine abD e ?_;rw[bL];subst W;refine abF λR W=>?_;simp only[dS,eV,bA,md,wp_call,bc,bF,aV,bb,æ,ç];refine⟨le_size (n:=2) (by decide),?_⟩;refine(gL M (by decide) (by decide)).mono λd K Y=>?_;obtain⟨r,rfl,X,V,J,I⟩:=Y;obtain⟨n,e,H,G⟩:=Sd (s:=K) X V;refine abD e ?_;refine(Ux J H G).mono λd P Y=>?_;obtain⟨p,rfl,U,Q,F⟩:=Y;have x:=(L.trans I).trans F;rw[bL];subst W;refine abF λR W=>?_;have go:∀(p:Pg) (Z:aa),cq p=true->Sf Z k->Ex k s Z->lR R (x8 λd s'=>∃(w:Dd) (p:Pg),d=.tup [.str w.w,p.d]/\cq p=true/\Sf s' k/\Ex k s s') (.nx [some (.aj k),some (bD ps),some (.str w.w),some p.d]) Z:=λp Z U T S=>by
  rw[bL];subst W;simp only[dR,fJ,bc,bF,aV,bx,nh];exact⟨le_size (n:=2) (by decide),w,p,rfl,U,T,S⟩
 simp only[ef,qx,dq,bA,aV,bx,bb];refine abD (KO (v:=.eJ)) ?_;simp only[cz]
 cases hw:w.same .eJ with
 |true=>simp only[ô,Â,é,dj];exact go p P U Q x
 |false =>
  simp only[Z9,ð,fJ,bF];refine⟨le_size (n:=0) (by decide),?_⟩;refine abD ne_nil ?_;simp only[cz]
  cases E:ps.isEmpty with
  |true=>simp only[ô,Â,é,dj];exact go p P U Q x
  |false =>
   have y:0<ps.length:=by cases ps with|nil=>cases E|cons _ _=>simp
   simp only[Z9,ð,wp_call,bc,bF,aV,bb];refine(gL Q (by decide) (by decide)).mono λd Z Y=>?_;obtain⟨r,rfl,X,V,T,S⟩:=Y;simp only[gQ,bc,bF,bA,aV,bx,bb];refine abD (JV (v:=.tell)) ?_
   refine abD (show ki [.bl (w.same .tell)] Z=ok (.int (if w.same .tell then 1 else 0)) Z from rfl) ?_
   generalize (if w.same .tell=true then (1:Int) else 0)=z
   refine abD (rz Z (mulOk_of (by decide) (by decide))) ?_;simp only[Ao,xc,cz];split
   ·simp only[dS,eV,bA,wp_call,gQ,bc,bF,aV,bx,æ,ç]
    refine abD (show cN [bD ps] Z=ok (.int ps.length) Z from by show ok (D.int ((ps.map Pg.d).length:Nat)) Z=_;rw[É]) ?_;refine(gL T (by omega) (by omega)).mono λd s5 Y=>?_;obtain⟨r,rfl,X,V,C,B⟩:=Y;obtain⟨O,A,e⟩:=VU (s:=s5) (ps:=ps) X (by omega);refine abD e ?_;exact go O s5 (hp O A) C ((x.trans S).trans B)
   ·rw[dj]
    exact go p Z U T (x.trans S)
noncomputable def c9:List D:=[.ar,.tup [],.tup [.str "made",.int 0,.int 0],.tup [.str "made",.int 4,.int 0,.tup [.tup [],.tup []]],.tup [.str "made",.int (-1),.int 0,.tup [.tup [],.tup []]],.tup [.str "made",.int 0,.int 31,.tup [.tup [],.tup []]]]
noncomputable def dI:List D:=[.tup [.str "made",.int 0,.int 0,.tup [.tup [.int 0],.tup [.int 0]]],.tup [.str "made",.int 0,.int 0,.tup [.tup [.int 1,.int 0],.tup []]],.tup [.str "made",.int 0,.int 0,.tup [.tup [.int 8],.tup []]],.str "made"]
noncomputable def fB:List D:=[.tup [.str "made",.int 0,.int 0,.tup [.tup [],.tup [],.tup []]],.tup [.str "made",.int 0,.int 0,.lst [.tup [],.tup []]],.tup [.str "made",.int 0,.int 0,.tup [.tup [.int 0,.int 0],.tup []]]]
noncomputable def jy:List D:=[.tup [.str "made",.int 0,.int 0,.int 1]]
def pF:List D:=[.tup [.str "mended",.int 0,.int 0,.int 8],.tup [.str "mended",.int 0,.int 0,.int (-1)],.tup [.str "mended",.int 0,.int 0,.bl true],.tup [.str "mended",.bl true,.int 0,.int 1]]
def Cz:List D:=[.tup [.str "mended",.int 0,.int 0,.tup [.tup [],.tup []]],.lst [.str "mended",.int 0,.int 0,.int 1],.tup [.str "Mended",.int 0,.int 0,.int 1],.tup [.str "mended",.int 0,.int 0,.int 1,.int 0]]
def mI:List D:=c9++dI++fB++jy++pF++Cz
def Sg (h:x∈mI) (s:aa):kL [x] s=some (.error ⟨"NoPage",none⟩,s):=by
 simp only[mI,c9,dI,fB,jy,pF,Cz,ğ,ĸ,Õ,Ĉ,or_false] at h
 rcases h with rfl|rfl|rfl|rfl|rfl|rfl|rfl|rfl|rfl|rfl|rfl|rfl|rfl|rfl|rfl|rfl|rfl|rfl|rfl|rfl|rfl|rfl<;>kernel_rfl
def ye {j:Nat} {xs ys:List D} (h:s[j]?=some (.lst xs)) (hl:xs.length+ys.length<=1000):ng (.aj j) (.lst ys) s=ok (.aj s.length) (s++[.lst (xs++ys)]):=by
 unfold ng;rw[sM h,show res (.lst ys) s=.lst ys from rfl];dsimp only
 rw[ß (by first|exact á (le_size (by omega)) | (simp only[Ì];exact le_size (by omega)))]
def sO (s:aa) (c:Cell):(s++[c])[s.length]?=some c:=by simp
def Sh {j:Nat} {xs:List D} {r:Int} (h:s[j]?=some (.lst xs)) (h0:0<=r) (h1:r<xs.length):∃d∈xs,az (.aj j) (.int r) s=ok d s:=by
 obtain⟨d,e1,e2⟩:=xb (xs:=xs) h0 h1;refine⟨d,Ū e2,?_⟩;unfold az lL;rw[sM h];dsimp only;rw[e1];rfl
def O4 (h:Sf s k):Wp (vG [.aj k] s) λd s'=>d∈mI/\Sf s' k/\Ex k s s':=by
 unfold vG;refine ic.symm ▸ ⟨rfl,abF λR Y=>?_⟩;rw[dS];refine abD (show eNew (aC _) _ s=ok (.aj s.length) (s++[.lst c9]) from rfl) ?_;rw[eV];show lR R _ (.nx [some (.aj k),some (.aj s.length)]) _;rw[bL];subst Y;have M:Ex k s (s++[.lst c9]):=Ex.app k s _;have L:Sf (s++[.lst c9]) k:=(Kp.app s _).sf h;have a1:=sO s (.lst c9);generalize s++[Cell.lst c9]=X at M L a1;generalize s.length=o at a1;refine abF λR Y=>?_;rw[dS,bA];simp only[aV,bx,bb];refine abD (ye (ys:=dI) a1 (by decide)) ?_;rw[eV];simp only[æ,ç];rw[bL];subst Y;have T:=M.trans (Ex.app k X [.lst (c9++dI)]);have S:Sf (X++[.lst (c9++dI)]) k:=(Kp.app X _).sf L;have a2:=sO X (.lst (c9++dI));generalize X++[Cell.lst (c9++dI)]=Z at T S a2;generalize X.length=n at a2;refine abF λR Y=>?_;rw[dS,bA];simp only[aV,bx,bb];refine abD (ye (ys:=fB) a2 (by decide)) ?_;rw[eV];simp only[æ,ç];rw[bL];subst Y;have C:=T.trans (Ex.app k Z [.lst (c9++dI++fB)]);have B:Sf (Z++[Cell.lst (c9++dI++fB)]) k:=(Kp.app Z _).sf S;have A:=sO Z (.lst (c9++dI++fB));have m:s.length<=Z.length:=T.len;have z:k≠Z.length:=by have:=S.lt;omega
 refine abF λR Y=>?_;rw[qp,wZ];simp only[aV,bx];obtain⟨y,w⟩:=Aq (x:=.tup [.str "made",.int 0,.int 0,.int 1]) A (by decide);refine⟨y,?_⟩;refine abD (show bZ _ _ _=ok (.tup [.str "made",.int 0,.int 0,.int 1]) _ from rfl) (abD w ?_);rw[bL];subst Y;have K:=C.hi (j:=Z.length) (by omega) (.lst (c9++dI++fB++jy));have J:Sf ((Z++[Cell.lst (c9++dI++fB)]).set Z.length (Cell.lst (c9++dI++fB++jy))) k:=by
  obtain⟨u,v,e,r⟩:=B;exact⟨u,v,by rw[Ö z.symm];exact e,r⟩
 have Q:((Z++[Cell.lst (c9++dI++fB)]).set Z.length (Cell.lst (c9++dI++fB++jy)))[Z.length]?=some (.lst (c9++dI++fB++jy)):=å (by simp);show Wp (ax _ _ _ ((Z++[Cell.lst (c9++dI++fB)]).set Z.length (Cell.lst (c9++dI++fB++jy)))) _;generalize (Z++[Cell.lst (c9++dI++fB)]).set Z.length (Cell.lst (c9++dI++fB++jy))=W at K J Q;generalize Z.length=l at Q;refine abF λR Y=>?_;rw[dS,bA];simp only[aV,bx,bb];refine abD (ye (ys:=pF) Q (by decide)) ?_;rw[eV];simp only[æ,ç];rw[bL];subst Y;have I:=K.trans (Ex.app k W [.lst (c9++dI++fB++jy++pF)]);have P:Sf (W++[.lst (c9++dI++fB++jy++pF)]) k:=(Kp.app W _).sf J;have O:=sO W (.lst (c9++dI++fB++jy++pF));generalize W++[Cell.lst (c9++dI++fB++jy++pF)]=s5 at I P O;generalize W.length=i at O;refine abF λR Y=>?_;rw[dS,bA];simp only[aV,bx,bb];refine abD (ye (ys:=Cz) O (by decide)) ?_;rw[eV];simp only[æ,ç];rw[bL];subst Y;have H:=I.trans (Ex.app k s5 [.lst mI]);have G:Sf (s5++[.lst mI]) k:=(Kp.app s5 _).sf P;have V:=sO s5 (.lst mI);have F:s5.length≠k:=by have:=P.lt;omega
 show Wp (aM _ _ (s5++[.lst mI])) _;generalize s5++[Cell.lst mI]=U at H G V;generalize s5.length=E at V F;rw[dR,bA];simp only[wp_call,gQ,bc,bF,aV,bx];refine abD (show cN [.aj E] U=ok (.int 22) U from ?_) ?_
 ·show bT (my (.aj E) U) U=_
  unfold my;rw[sM V];rfl
 refine(gL G (by decide) (by decide)).mono λd g N=>?_;obtain⟨r,rfl,t,q,p,D⟩:=N;obtain⟨d,N,e⟩:=Sh (D.get V F) t (by show r<22;exact q);refine abD e ?_;exact⟨N,p,H.trans D⟩
def QM (h0:s[0]?=some (.tb  abI)) (h:Di s a b aE book) (hx:x∈mI) (hw:w=.tell\/w=.fK):iV [.aj a,.str w.w,x] s=ok (kj 2) s:=by
 have Z:∀{r:Env} {z:Option D},gO (qJ kL (af (ae 1) ah)) (z::some x::r) s=some (.error ⟨"NoPage",none⟩,s):=λ{r z}=>by
  show ao (kL [x] s) _=_;rw[Sg hx];rfl
 rcases hw with rfl|rfl
 ·refine Ge h0 (vI (m:=none) (s':=s) ?_)
  rw[jY h.ha (by rfl) (ds:=[x]) rfl rfl];unfold lS aN;show ao (ax _ _ [some (.aj a),some x] s) _=_;rw[tm Z];rfl
 ·refine Fj h0 (vI (m:=none) (s':=s) ?_)
  rw[jY h.ha (by rfl) (ds:=[x]) rfl rfl];unfold oo aN;show ao (ax _ _ [some (.aj a),some x,none] s) _=_;rw[tm Z];rfl
end
section
variable {s s':aa} {e0 e1 Ei e3 e4 e5 e6 e7 e8 e9 cX ee fW gH:Option D} {ps book:List Pg} {p q:Pg} {a b k:Nat} {aE bs:List (List Pg)} {w:Dd} {d x:D} {Q:Fl->aa->Prop}
def UC {aE:List (List Pg)} {book:List Pg} {w:Dd} {p:Pg}:bP (fM aE book w p).2 (fM aE book w p).2 s=ok (.bl false) s:=by
 have e1:ŵ "told"=true:=by decide +kernel
 have e2:ŵ "refused"=true:=by decide +kernel
 have Z:bP tW tW s=ok (.bl false) s:=by unfold bP gm;simp[res,iO,beq,dH,lay,DI.cM,dep,cH,e1]
 have Y:∀i,bP (kj i) (kj i) s=ok (.bl false) s:=λi=>by unfold bP gm;simp[res,iO,beq,dH,lay,DI.cM,dep,cH,e2]
 unfold fM
 cases w<;>dsimp only<;>split<;>first|exact Z|exact Y _
def Jg {i:Int}:bP (kj i) (kj i) s=ok (.bl false) s:=by
 have e2:ŵ "refused"=true:=by decide +kernel
 unfold bP gm;simp[res,iO,beq,dH,lay,DI.cM,dep,cH,e2]
def Di.step (h:Di s a b aE book) (hp:cq p=true) (ab:a≠b) (hl:aE.length<500):∃i' b',(fM aE book w p).1=i'++[b']/\i'.length<=aE.length+1/\Di (s.set b (.lst ((fM aE book w p).1.map bD))) a b i' b':=by
 obtain⟨i',b',e,l,bk⟩:=QJ (w:=w) h hp;refine⟨i',b',e,l,?_,?_,by omega,bk⟩
 ·rw[Ö (Ŭ ab)];exact h.ha
 ·rw[å (Ç.mp h.hb).1,e]
theorem Sf.set (h:Sf s k) (kb:b≠k) (c:Cell):Sf (s.set b c) k:=by
 obtain⟨u,v,e,r⟩:=h;exact⟨u,v,by rw[Ö kb];exact e,r⟩
structure At (s:aa) (k a b:Nat) (aE:List (List Pg)) (book:List Pg):Prop where
 tb:s[0]?=some (.tb  abI)
 sf:Sf s k
 di:Di s a b aE book
structure yM (k a b:Nat):Prop where
 k0:(0:Nat)≠k
 b0:(0:Nat)≠b
 ab:a≠b
 ak:a≠k
 bk:b≠k
theorem At.ex (h:At s k a b aE book) (n:yM k a b) (x:Ex k s s') (g:Sf s' k):At s' k a b aE book:=⟨x.get h.tb n.k0,g,h.di.ex x n.ak n.bk⟩
def QN (A:At s k a b aE book) (n:yM k a b) (hl:aE.length<500) (hp:cq p=true) {yN:Int}
  (hQ:∀e9 cX i' b' s',i'.length<=aE.length+1->At s' k a b i' b'->Q (.nx [e0,e1,some (.aj k),some (.aj a),some (.lst ((i'++[b']).map bD)),e5,some (.str w.w),some p.d,some (.int yN),e9,cX,ee,fW,gH]) s') :
  Wp (AW [e0,e1,some (.aj k),some (.aj a),some (.lst ((aE++[book]).map bD)),e5,some (.str w.w),some p.d,some (.int yN),e9,cX,ee,fW,gH] s) Q:=by
 unfold AW;refine abF λR Z=>?_;have Y:∃v:Dd,rT (aU (e2 bq (ae 8) (eC (.int 1)))) (eC (.str "undo")) (ae 6) [e0,e1,some (.aj k),some (.aj a),some (.lst ((aE++[book]).map bD)),e5,some (.str w.w),some p.d,some (.int yN),e9,cX,ee,fW,gH] s=ok (.str v.w) s:=by
  by_cases X:yN=1
  ·refine⟨.eJ,abE ?_⟩
   simp only[sY,dq,bA,aV,bx,bb,qM,cz,X,ā,ð];exact⟨rfl,trivial⟩
  ·refine⟨w,abE ?_⟩
   simp only[sY,dq,bA,aV,bx,bb,qM,cz,beq_eq_false_iff_ne.mpr X,Â,é,Ĭ]
 obtain⟨v,Y⟩:=Y;rw[dS];refine abD Y ?_;rw[eV];simp only[æ,ç];rw[bL];subst Z;refine abF λR Z=>?_;simp only[dS,wp_call,bc,bF,aV,bx];refine(step_eq (w:=v) A.di.bk A.di.ln hp).mono λd W O=>?_;obtain⟨rfl,kp⟩:=O;simp only[xG,vZ,wB,æ,ç];rw[bL];subst Z;have V:=kp.get A.tb;have N:=kp.sf A.sf;have U:=A.di.kp kp;simp only[ef,dq,bA,wp_call,bc,bF,aV,bx];refine abD (HW U V hp) ?_;refine abD UC ?_;simp only[cz,Â,é,dj];obtain⟨i',b',e,l,T⟩:=U.step (w:=v) hp n.ab hl;have S:(W.set b (.lst ((fM aE book v p).1.map bD)))[0]?=some (.tb  abI):=by rw[Ö n.b0.symm];exact V
 have P:Sf (W.set b (.lst ((fM aE book v p).1.map bD))) k:=Sf.set N n.bk _;rw[e] at T S P |-;exact hQ _ _ i' b' _ l ⟨S,P,T⟩
def Si {n:Nat} (hf:rA p):bU.hW (n+4) [p.d,p.d] s=ok (.bl true) s:=by
 have Y:∀(l:List Int),l.length<=1000->bU.hW (n+2) [ti l,ti l] s=ok (.bl true) s:=λl X=>sE (by rw[É];exact X) λd Z=>by
  obtain⟨i,_,rfl⟩:=Ĕ.mp Z;exact qq
 cases p with
 |made m y h l =>
  refine sE (show 4<=1000 by decide) λd Z=>?_;simp only[Õ,Ĉ,or_false] at Z
  rcases Z with rfl|rfl|rfl|rfl
  ·exact G2
  ·exact qq
  ·exact qq
  ·refine sE (show 2<=1000 by decide) λd Z=>?_
   simp only[Õ,Ĉ,or_false] at Z
   rcases Z with rfl|rfl
   ·exact Y h hf.1
   ·exact Y l hf.2
 |bW m y c =>
  refine sE (show 4<=1000 by decide) λd Z=>?_;simp only[Õ,Ĉ,or_false] at Z
  rcases Z with rfl|rfl|rfl|rfl
  ·exact G2
  ·exact qq
  ·exact qq
  ·exact qq
def O5 (hb:Bk book):bU.hW 8 [bD book,bD book] s=ok (.bl true) s:=by
 have:=hb.len;refine sE (by rw[É];omega) λd Z=>?_;obtain⟨p,Y,rfl⟩:=Ĕ.mp Z;exact Si (n:=3) (zq (hb.laid.pg p Y))
def xl {env:Env} {i:Nat} (h:Di s a b aE book) (he:ae i env s=ok (.aj a) s):jR "Diary" "book_now" iQ (ae i) ah env s=ok (bD book) s:=by
 refine(jY h.ha (by rfl) (ds:=[]) he rfl).trans ?_;rw[Bd h];rfl
def UD {t:Int} (h0:0<=t):∃v:Dd,(v=.tell\/v=.fK)/\az (.lst [.str "tell",.str "strike"]) (.int (t % 2)) s=ok (.str v.w) s:=by
 rcases(show t % 2=0\/t % 2=1 by omega) with h|h
 ·rw[h];exact⟨.tell,.inl rfl,rfl⟩
 ·rw[h];exact⟨.fK,.inr rfl,rfl⟩
def Sj {env:Env} (h:Sf s k) (h2:env[2]?=some (some (.aj k))) (h6:env[6]?=some (some (.str w.w))):Wp (af (e2 cE (eC (.int 1)) (e2 df (eC (.int 2)) (eB ki (af (eD (e2 bP (ae 6) (eC (.str "undo"))) (e2 bq (aS bU.dQ (af (ae 2) (af (eC (.int 6)) ah))) (eC (.int 0)))) ah)))) ah env s) λds s'=>∃n:Nat,ds=[.int n]/\n<=3/\Sf s' k/\Ex k s s':=by
 have X:∀s,ae 2 env s=ok (.aj k) s:=λs=>by unfold ae;rw[h2]
 have W:∀s,ae 6 env s=ok (.str w.w) s:=λs=>by unfold ae;rw[h6]
 have bin:∀(c:Bool) (s:aa),Wp (ki [.bl c] s) λd s'=>s'=s/\(d=.int 0\/d=.int 1):=λc s=>by
  cases c
  ·exact⟨_,_,rfl,rfl,.inl rfl⟩
  ·exact⟨_,_,rfl,rfl,.inr rfl⟩
 have fin:∀(d:D) (s':aa),(d=.int 0\/d=.int 1)->Sf s' k->Ex k s s'->Wp (df (.int 2) d s') λy t=>Wp (cE (.int 1) y t) λx Y=>Wp (ah env Y) λV Y=>∃n:Nat,x::V=[.int n]/\n<=3/\Sf Y k/\Ex k s Y:=λd s' Z g x=>by
  rcases Z with rfl|rfl
  ·refine abD (show df (.int 2) (.int 0) s'=ok (.int 0) s' from rfl) (abD (show cE (.int 1) (.int 0) s'=ok (.int 1) s' from rfl) ?_)
   rw[bF];exact⟨1,rfl,by decide,g,x⟩
  ·refine abD (show df (.int 2) (.int 1) s'=ok (.int 2) s' from rfl) (abD (show cE (.int 1) (.int 2) s'=ok (.int 3) s' from rfl) ?_)
   rw[bF];exact⟨3,rfl,by decide,g,x⟩
 rw[bc,bA,bb,bA,bb,gQ,bc,wA,bA];refine abD (W s) ?_;rw[bb];refine abD (KO (v:=.eJ)) ?_;simp only[cz]
 cases w.same .eJ with
 |true =>
  simp only[ô,Â,é,bF];refine(bin false s).mono λd t Z=>?_;obtain⟨rfl,Z⟩:=Z;have:=fin d t Z h (Ex.refl _ _);simpa only [bF] using this
 |false =>
  simp only[Z9,ð];rw[bA,wp_call,bc];refine abD (X s) ?_;simp only[bc,bF,bb];refine(gL h (by decide) (by decide)).mono λd U Z=>?_;obtain⟨r,rfl,_,_,T,S⟩:=Z;simp only[qM];refine(bin _ U).mono λd t Z=>?_;obtain⟨rfl,Z⟩:=Z;have:=fin d t Z T S;simpa only [bF] using this
def UE (A:At s k a b aE book) (n:yM k a b) (hl:aE.length+3<500) {t:Int} (ht:0<=t)
  (hQ:∀e6 e7 e8 e9 cX ee i' b' s',i'.length<=aE.length+3->At s' k a b i' b'->Q (.nx [e0,e1,some (.aj k),some (.aj a),some (.lst ((i'++[b']).map bD)),some (.int t),e6,e7,e8,e9,cX,ee,fW,gH]) s') :
  Wp (AX [e0,e1,some (.aj k),some (.aj a),some (.lst ((aE++[book]).map bD)),some (.int t),e6,e7,e8,e9,cX,ee,fW,gH] s) Q:=by
 unfold AX;refine abF λR W=>?_;simp only[dS,wp_call,bc,bF,bA,iY,bb,aV,bx];refine abD rB (abD qA ?_);refine(Se A.sf (λp T=>A.di.last.laid.pg p T) A.di.last.len).mono λd z Z=>?_;obtain⟨w,p,rfl,T,O,N⟩:=Z;simp only[xG,vZ,wB,æ,ç];rw[bL];have S:=A.ex n N O;clear A N O;subst W;refine abF λR W=>?_;rw[kO];obtain⟨y,H,e,m,rfl,u,M,L⟩:=Sj (w:=w) (env:=[e0,e1,some (.aj k),some (.aj a),some (.lst ((aE++[book]).map bD)),some (.int t),some (.str w.w),some p.d,e8,e9,cX,ee,fW,gH]) S.sf rfl rfl;refine abD (jk e (by omega)) ?_;have U:=S.ex n L M;clear S L M;refine Wp.nJ (λi env s'=>i<=m->∃i' b' e8 e9 cX,i'.length<=aE.length+i/\At s' k a b i' b'/\env=[e0,e1,some (.aj k),some (.aj a),some (.lst ((i'++[b']).map bD)),some (.int t),some (.str w.w),some p.d,e8,e9,cX,ee,fW,gH]) _ (λ_=>⟨aE,book,_,_,_,by omega,U,rfl⟩) (λi d env s' Z P=>?_) (λenv s' P=>?_)
 ·rw[mZ] at Z
  split at Z
  ·rename_i hi
   cases Z;obtain⟨i',b',e8,e9,cX,l,V,rfl⟩:=P (by omega);refine⟨_,rfl,?_⟩;exact QN V n (by omega) T λe9 cX G F H q U _=>⟨G,F,_,_,_,by omega,U,rfl⟩
  ·cases Z
 obtain⟨i',b',e8,e9,cX,l,V,rfl⟩:=P (by rw[je];omega);rw[je] at l;clear U;subst W;rw[bL];refine abF λR W=>?_;simp only[dS,eV,wp_call,bc,bF,aV,bx,æ,ç];refine(O4 V.sf).mono λx o Z=>?_;obtain⟨E,K,J⟩:=Z;have I:=V.ex n J K;clear V J K;rw[bL];subst W;refine abF λR W=>?_;have go:∀X,At X k a b i' b'->lR R Q (.nx [e0,e1,some (.aj k),some (.aj a),some (.lst ((i'++[b']).map bD)),some (.int t),some (.str w.w),some p.d,e8,e9,cX,some x,fW,gH]) X:=λX Y=>by
  rw[bL];subst W;rw[ef,wY,sJ,qL,wp_call,bc];refine abD (xl Y.di rfl) ?_;simp only[bc,bF,bA,iY,bb,aV,bx];refine abD rB (abD qA ?_);refine abD (O5 Y.di.last) ?_;simp only[qw,ô,Â,é];rw[dq,bA];refine abD (xl Y.di rfl) ?_;simp only[bA,iY,bb,aV,bx];refine abD rB (abD qA ?_);refine abD As ?_;simp only[cz,Â,é,dj];exact hQ _ _ _ _ _ _ _ _ _ (by omega) Y
 simp only[ef,qx,dq,bA,wp_call,bc,bF,aV,bx,bb];refine(gL I.sf (by decide) (by decide)).mono λd X Z=>?_;obtain⟨r,rfl,_,_,D,C⟩:=Z;have Y:=I.ex n C D;simp only[qM,cz]
 cases (r==0) with
 |false=>simp only[Â,é,dj];exact go X Y
 |true =>
  simp only[ð,md,bc,bF,bb,fJ,aV,bx];refine⟨le_size (n:=2) (by decide),?_⟩;refine abD (pC X (show (0:Int)<2 by decide)) ?_;obtain⟨v,B,e⟩:=UD (s:=X) ht;refine abD e ?_;refine abD (QM Y.tb Y.di E B) ?_;refine⟨le_size (n:=2) (by decide),?_⟩;refine abD Jg ?_;simp only[cz,Â,é,dj];exact go X Y
noncomputable def cu (n:Nat):List Pg:=(č n).map λj:Nat=>Pg.bW 3 j 5
def N0 (n:Nat):cu (n+1)=cu n++[.bW 3 n 5]:=by unfold cu;rw[List.range_succ,ĕ];rfl
def G9 (n:Nat):(cu n).Pairwise λa b=>bE.lt a b=true:=by
 unfold cu;rw[List.pairwise_map];refine aaG.imp λ{i j} h=>?_;show HT.lexLt ([1,3,(i:Int),5]:List Int) [1,3,(j:Int),5]=true;have Z:¬ (i:Int)=j:=by omega
 have Y:(i:Int)<j:=by omega
 simp[HT.iR,Z,Y]
def N1 {n:Nat} (h:n<=31):Laid (cu n):=⟨λp Z=>by
 obtain⟨j,Y,rfl⟩:=Ĕ.mp Z;have:=ö.mp Y;exact vO (by omega) (by omega) (by omega),G9 n⟩
def Nf (n:Nat) (m k:Int):shown (cu n) m k=[]:=by
 unfold shown;rw[List.filter_eq_nil_iff.mpr λp Z=>?_]
 ·rfl
 ·obtain⟨j,_,rfl⟩:=Ĕ.mp Z
  exact Ï
def Ha {n:Nat} (h:n<=24):Bk (cu n):=by
 have L:=N1 (n:=n) (by omega);have Z:=L.ie (by unfold cu;rw[É,Ŵ];exact h);refine⟨L,?_⟩;have e:kU (cu n)=[]:=Fh (zp Z) λm _ k _ d e hs=>by
  unfold sN at hs;rw[Nf] at hs;simp at hs
 unfold cT;rw[Z,e];rfl
theorem sC {l:List Pg} (h:l.Pairwise λa b=>bE.lt a b=true):ST.cK bE l=l:=ST.F2 (ST.lT l) (ST.sC l) (h.imp λ{a b} Z=>by
  show bE.lt b a=false
  cases Y:bE.lt b a with
  |false=>rfl
  |true =>
   have:=bE.tr _ _ _ Z Y;rw[bE.rZ] at this;cases this)
def N2 (n:Nat):ST.cK bE (cu n++[.bW 3 n 5])=cu (n+1):=by rw[<- N0];exact sC (G9 _)
def Sm {q:Pg}:cT (ST.cK bE (cu 24++[q]))=false:=by
 unfold cT ie;rw[ó (by rw[(ST.lT _).length_eq,Þ];unfold cu;rw[É,Ŵ];show ¬ 24+1<=24;decide)];rfl
def Jh {env:Env} {s:aa}:tR "Diary" qd env s=ok (.aj s.length) (s++[.ins "Diary" [("books",.aj (s.length+1))],.lst [.tup []]]):=by
 have e:qd [.aj s.length] (s++[.ins "Diary" []])=ok .ar (s++[.ins "Diary" [("books",.aj (s.length+1))],.lst [.tup []]]):=by
  unfold qd aN;show ao (xB _ _ _ _ [some (.aj s.length)] (s++[.ins "Diary" []])) _=_;unfold xB;have e1:eNew (af (bZ ah) ah) [some (.aj s.length)] (s++[.ins "Diary" []])=ok (.aj (s.length+1)) (s++[.ins "Diary" [],.lst [.tup []]]):=by
   refine abE ?_;simp only[A5,fJ,bc,bF];refine⟨le_size (n:=0) (by decide),le_size (n:=1) (by decide),?_,?_⟩
   ·simp
   ·simp
  rw[e1,dG];show ao (ao (ok (D.aj s.length) _) _) _=_;rw[dG];have e2:mF "Diary" (.aj s.length) (s++[.ins "Diary" [],.lst [.tup []]])=some (s.length,[]):=by
   unfold mF;dsimp only;rw[í (abG _),Nat.sub_self];rw[List.getElem?_cons_zero];dsimp only;rw[ß (á rfl)]
  rw[e2];dsimp only;rw[ß (by decide)];have Z:∀(x y z:Cell),List.set (s++[x,y]) s.length z=s++[z,y]:=λx y z=>by simp
  rw[Z];rfl
 unfold tR;rw[e];rfl
def HX (s:aa):Di (s++[.ins "Diary" [("books",.aj (s.length+1))],.lst [.tup []]]) s.length (s.length+1) [] []:=by
 refine⟨by simp,?_,by decide,λps Z=>?_⟩
 ·rw[í (by omega),show s.length+1-s.length=1 by omega]
  rfl
 ·have:ps=[]:=by simpa using Z
  subst this;exact Bk.nil
theorem Di.set {c:Nat} {z:Cell} (h:Di s a b aE book) (ca:c≠a) (cb:c≠b):Di (s.set c z) a b aE book:=⟨by rw[Ö ca];exact h.ha,by rw[Ö cb];exact h.hb,h.ln,h.bk⟩
def O6 {a2 b2 i:Nat} {i5:List (List Pg)} (h:Di s a2 b2 i5 (cu i)) (YX:a2≠b2) (hi:i<24) (hl:i5.length=i)
  (hQ:Di (s.set b2 (.lst ((i5++[cu i]++[cu (i+1)]).map bD))) a2 b2 (i5++[cu i]) (cu (i+1))->Q (.nx [e0,e1,Ei,e3,e4,e5,e6,some (Pg.bW 3 i 5).d,e8,e9,cX,ee,fW,some (.aj a2)]) (s.set b2 (.lst ((i5++[cu i]++[cu (i+1)]).map bD)))) :
  Wp (AY [e0,e1,Ei,e3,e4,e5,e6,some (Pg.bW 3 i 5).d,e8,e9,cX,ee,fW,some (.aj a2)] s) Q:=by
 have bk:cT (cu (i+1))=true:=(Ha (by omega)).book;have e:=HV h (p:=.bW 3 i 5) (vO (by omega) (by omega) (by omega));rw[N2,ß bk] at e;unfold AY;rw[qp];refine abD (show jR "Diary" "tell" lS (ae 13) (af (ae 7) ah) _ s=ok .ar _ from ?_) (hQ ?_)
 ·refine(jY h.ha (by rfl) (ds:=[(Pg.bW 3 i 5).d]) rfl rfl).trans ?_
  rw[e];rfl
 ·refine⟨by rw[Ö YX.symm];exact h.ha,å (Ç.mp h.hb).1,by simp;omega,λps Z=>?_⟩
  rcases Ą.mp Z with z|z
  ·exact h.bk ps z
  ·rw[Ę.mp z];exact Ha (by omega)
def N3 {env:Env}:eh 1 [] (f9 (af (eC (.int 24)) ah)) (gN 0) gC (bZ (af (eC (.str "mended")) (af (eC (.int 3)) (af (ae 0) (af (eC (.int 5)) ah))))) env s=ok (.lst ((cu 24).map Pg.d)) s:=by
 refine abE ?_;rw[qy];refine abD (jk (n:=24) rfl (by decide)) ⟨by rw[je];exact le_size (by decide),?_⟩;refine abD (F7 (nt:=1) (caps:=[]) (λ_=>true) (λd=>.tup [.str "mended",.int 3,d,.int 5]) (ds:=dw 0 24) (s:=s) λd _=>⟨[some d],rfl,rfl,λ_=>rfl⟩) ?_;rw[List.filter_eq_self.mpr (λ_ _=>rfl)];exact⟨rfl,rfl⟩
def O7 {ns:List Int} {i:Int} (hi:0<=i) (h0:s[0]?=some (.tb  abI)) (hQ:∀e2 e3 e4 e5 e6 e7 e8 e9 cX ee fW gH s',s'[0]?=some (.tb  abI)->Q (.nx [some (.bO ns),some (.int i),e2,e3,e4,e5,e6,e7,e8,e9,cX,ee,fW,gH]) s') :
  Wp (AZ [some (.bO ns),some (.int i),Ei,e3,e4,e5,e6,e7,e8,e9,cX,ee,fW,gH] s) Q:=by
 have u:0<s.length:=(Ç.mp h0).1;unfold AZ;refine abF λR Z=>?_;simp only[dS,eV,wp_call,bc,bF,aV,bx,æ,ç];refine(R1 hi).mono λd s1 V=>?_;obtain⟨rfl,K,G,rfl⟩:=V;have E:(0:Nat)≠s.length:=by omega
 have g1:(s++[G])[0]?=some (.tb  abI):=by rw[Ü u];exact h0
 have D:(s++[G]).length=s.length+1:=by simp
 generalize s++[G]=Y at K g1 D;generalize s.length=k at K E D;rw[bL];subst Z;refine abF λR Z=>?_;rw[sL,bc];refine abD Jh ?_;simp only[md,fJ,bc,bF];refine⟨le_size (n:=0) (by decide),le_size (n:=1) (by decide),_,_,rfl,?_⟩;simp only[æ,ç];rw[bL];subst Z;have C:=HX Y;have N:At (Y++[.ins "Diary" [("books",.aj (Y.length+1))],.lst [.tup []]]) k Y.length (Y.length+1) [] []:=⟨(Kp.app Y _).get g1,(Kp.app Y _).sf K,C⟩;have J:yM k Y.length (Y.length+1):=⟨E,by omega,by omega,by omega,by omega⟩;generalize Y++[Cell.ins "Diary" [("books",.aj (Y.length+1))],Cell.lst [.tup []]]=S2 at N;generalize t:Y.length=a at N J;generalize r:a+1=b at N J;clear C r t g1 K;refine abF λR Z=>?_;rw[kO];obtain⟨d,s5,B,n,rfl,n0,n1,A,z⟩:=gL N.sf (m:=31) (by decide) (by decide);have y:=N.ex J z A;refine abD (RV (n:=n.toNat) (s1:=s5) (i:=n) (abE (by simp only[bc,wp_call,bF,aV,bx,bb];exact abD B ⟨rfl,rfl⟩)) (by omega) (by omega)) ?_;refine Wp.nJ (λj env s'=>j<=31->∃U M e5 e6 e7 e8 e9 cX ee,U.length<=3*j/\At s' k a b U M/\env=[some (.bO ns),some (.int i),some (.aj k),some (.aj a),some (.lst ((U++[M]).map bD)),e5,e6,e7,e8,e9,cX,ee,fW,gH]) _ (λ_=>⟨[],[],_,_,_,_,_,_,_,by simp,y,rfl⟩) (λj d env s' V T=>?_) (λenv s' T=>?_)
 ·rw[mZ] at V
  split at V
  ·rename_i F
   cases V;obtain⟨U,M,e5,e6,e7,e8,e9,cX,ee,l,S,rfl⟩:=T (by omega);refine⟨_,rfl,?_⟩;exact UE S J (by omega) (by omega) λ_ _ _ _ _ _ q o s2 I h _=>⟨q,o,_,_,_,_,_,_,_,by omega,h,rfl⟩
  ·cases V
 obtain⟨U,M,e5,e6,e7,e8,e9,cX,ee,l,S,rfl⟩:=T (by rw[je];omega);clear N y z A B l;subst Z;rw[bL];refine abF λR Z=>?_;rw[dS];refine abD N3 ?_;rw[eV];simp only[æ,ç];rw[bL];subst Z;refine abF λR Z=>?_;rw[dS];refine abD Jh ?_;rw[eV];simp only[æ,ç];rw[bL];subst Z;have X:=HX s';have P:=(Kp.app s' [.ins "Diary" [("books",.aj (s'.length+1))],.lst [.tup []]]).get S.tb;have L:=S.di.kp (Kp.app s' [.ins "Diary" [("books",.aj (s'.length+1))],.lst [.tup []]]);have g:a<s'.length:=(Ç.mp S.di.ha).1;have f:b<s'.length:=(Ç.mp S.di.hb).1;generalize s'++[Cell.ins "Diary" [("books",.aj (s'.length+1))],Cell.lst [.tup []]]=S3 at X P L;have e:0<s'.length:=by omega
 generalize s'.length=a2 at X g f e;clear S;refine abF λR Z=>?_;rw[kO];refine abD (v7 rfl) ?_;refine Wp.nJ (λj env W=>j<=24->∃O e7,O.length=j/\Di W a2 (a2+1) O (cu j)/\W[0]?=some (.tb  abI)/\Di W a b U M/\env=[some (.bO ns),some (.int i),some (.aj k),some (.aj a),some (.lst ((U++[M]).map bD)),e5,e6,e7,e8,e9,cX,ee,some (.lst ((cu 24).map Pg.d)),some (.aj a2)]) _ (λ_=>⟨[],_,rfl,X,P,L,rfl⟩) (λj d env W V T=>?_) (λenv W T=>?_)
 ·rw[î] at V
  obtain⟨p,H,rfl⟩:=Option.map_eq_some_iff.mp V;have F:j<24:=by have:=(Ç.mp H).1;unfold cu at this;rw[É,Ŵ] at this;exact this
  have c:p=.bW 3 j 5:=by
   unfold cu at H;rw[î,aah F] at H;exact(abH H).symm
  subst c;obtain⟨O,e7,I,X,P,L,rfl⟩:=T (by omega);refine⟨_,rfl,?_⟩;refine O6 X (by omega) F I λD' _=>⟨_,_,?_,D',?_,L.set (by omega) (by omega),rfl⟩
  ·rw[Þ,I];rfl
  ·rw[Ö (by omega)];exact P
 have x:((cu 24).map Pg.d).length=24:=by unfold cu;rw[É,É,Ŵ]
 obtain⟨O,e7,I,X,P,L,rfl⟩:=T (by rw[x];exact abG _);rw[x] at X;subst Z;rw[bL];refine abF λR Z=>?_;simp only[ef,wY,dq,bA,wp_call,fJ,bc,bF,aV,bx,bb];refine⟨le_size (n:=4) (by decide),?_⟩;have v:=HW (w:=.tell) (p:=.bW 2 0 0) X P (vO (by decide) (by decide) (by decide));have es:fM O (cu 24) .tell (.bW 2 0 0)=(O++[cu 24],kj 13):=by unfold fM;dsimp only;rw[Sm,è Ï]
 rw[es] at v;have YZ:iV [.aj a2,.str "tell",.tup [.str "mended",.int 2,.int 0,.int 0]] W=ok (kj 13) W:=by
  refine Eq.trans v ?_;show ok (kj 13) (List.set W (a2+1) (.lst ((O++[cu 24]).map bD)))=_;rw[G8 X.hb]
 refine abD YZ ?_;refine⟨le_size (n:=2) (by decide),?_⟩;refine abD Jg ?_;simp only[cz,Â,é];refine abD (xl X rfl) ?_;simp only[gQ,bc,bF,aV,bx];refine abD (show gg [.lst ((cu 24).map Pg.d)] W=ok (bD (cu 24)) W from rfl) ?_;refine abD As ?_;simp only[cz,Â,é,dj];rw[bL];subst Z;rw[ef,dq,bA];refine abD (xl L rfl) ?_;simp only[bA,iY,bb,aV,bx];refine abD rB (abD qA ?_);refine abD As ?_;simp only[cz,Â,é,dj];exact hQ _ _ _ _ _ _ _ _ _ _ _ _ _ P
end
def QP (ns:List Int) (hn:ns.length<=63):∃s,bU.xE [.bO ns] [.tb  abI]=some (.ok (.bl true),s):=by
 suffices h:Wp (bU.xE [.bO ns] [.tb  abI]) λd _=>d=.bl true by
  obtain⟨d,s,e,rfl⟩:=h;exact⟨s,e⟩
 unfold bU.xE;refine ic.symm ▸ ⟨rfl,abF λR K=>?_⟩;rw[kO];have M:∃n:Nat,f9 (af (eB qR (af (eC (.int 1)) (af (eB tI (af (eB cN (af (ae 0) ah)) (af (eC (.int 2)) ah))) ah))) ah) [some (.bO ns),none,none,none,none,none,none,none,none,none,none,none,none,none] [.tb  abI]=ok (dw 0 n) [.tb  abI]:=by
  have e:∃n:Nat,n<=1000/\(af (eB qR (af (eC (.int 1)) (af (eB tI (af (eB cN (af (ae 0) ah)) (af (eC (.int 2)) ah))) ah))) ah) [some (.bO ns),none,none,none,none,none,none,none,none,none,none,none,none,none] [.tb  abI]=ok [.int n] [.tb  abI]:=by
   refine⟨(if (if (2:Int)<ns.length then (2:Int) else ns.length) > 1 then (if (2:Int)<ns.length then (2:Int) else ns.length) else 1).toNat,by split<;>split<;>omega,?_⟩
   rw[Int.toNat_of_nonneg (by split<;>split<;>omega)]
   rfl
  obtain⟨n,H,J⟩:=e;exact⟨n,jk J (by omega)⟩
 obtain⟨n,M⟩:=M;refine abD M ?_;refine Wp.nJ (λi env s=>s[0]?=some (.tb  abI)/\∃e1 e2 Z Y X W V U T S Q P O,env=[some (.bO ns),e1,e2,Z,Y,X,W,V,U,T,S,Q,P,O]) _ ⟨rfl,_,_,_,_,_,_,_,_,_,_,_,_,_,rfl⟩ (λi d env s N L=>?_) (λenv s L=>?_)
 ·obtain⟨g,e1,e2,Z,Y,X,W,V,U,T,S,Q,P,O,rfl⟩:=L
  rw[mZ] at N;split at N
  ·cases N
   refine⟨_,rfl,?_⟩;rw[aa1];exact O7 (by omega) g λe2 Z Y X W V U T S Q P O G I=>⟨I,_,_,_,_,_,_,_,_,_,_,_,_,_,rfl⟩
  ·cases N
 ·obtain⟨g,e1,e2,Z,Y,X,W,V,U,T,S,Q,P,O,rfl⟩:=L
  subst K;simp only[VC]
open PySem.W
noncomputable def qr (K:Ď) (c:Str) (fs:List Str):Bool:=match nsIn K Ò c with
 |some (some (.ref C))=>plainGet K C Str.empty&&hasDictIn K C&&plainOver K C&&(match findIn K (.ref C) "__setattr__" with|some (some (.builtin x))=>decide (x="object.__setattr__") | _=>false)&&fs.all (λf=>match findIn K (.ref C) f with|some none=>true | _=>false)&&makesIn K C&&keepIn K (.ref C)
 |_=>false
section
variable {K:Ď} {c m q f:Str} {fs ps:List Str} {st:aaX} {h:ĥ} {mg:Str->Option Å}
def CB (e:qr K c fs=true):∃C,nsIn K Ò c=some (some (.ref C))/\i6 K C/\(∀f∈fs,lZ K C f)/\makesIn K C=true/\keepIn K (.ref C)=true:=by
 unfold qr at e;split at e
 ·rename_i C Y
  simp only[Æ,ë] at e;obtain⟨⟨⟨⟨⟨⟨X,W⟩,V⟩,Z⟩,U⟩,T⟩,S⟩:=e;refine⟨C,Y,⟨X,W,V,?_⟩,λf R=>?_,T,S⟩
  ·split at Z
   ·rename_i x Q
    rw[Q,ÿ Z]
   ·cases Z
  ·have q:=U f R
   unfold lZ;split at q
   ·assumption
   ·cases q
 ·cases e
def VV (e:qr K c fs=true) (hf:f∈fs):xZ K c f:=by
 obtain⟨C,Z,Y,X,_⟩:=CB e;exact⟨C,Z,Y,X f hf⟩
def Dm (K:Ď) (c m q:Str) (st:aaX):Prop:=∃(C f:Ø) (Z:Å) (Y:Option Ø) (X:Array (Option Å)) (kV W pm:Å) (an:Option Ø) (cd V:Å),nsIn K Ò c=some (some (.ref C))/\findIn K (.ref C) m=some (some (.ref f))/\K.lookup f=some ⟨Z,Y,.func (fnOf m q (jL st) (fH st) (bX st) .none kV W pm an cd V),X⟩/\codeIn K cd q=true/\keepIn K (.ref f)=true/\isFn K (.ref f)=true
def VW {C f:Ø} {oc:Å} {od:Option Ø} {sl:Array (Option Å)} {kV dc pm:Å} {an:Option Ø} {cd ct:Å} (a:nsIn K Ò c=some (some (.ref C))) (b:findIn K (.ref C) m=some (some (.ref f))) (l:K.lookup f=some ⟨oc,od,.func (fnOf m q (jL st) (fH st) (bX st) .none kV dc pm an cd ct),sl⟩) (d:codeIn K cd q=true) (k:keepIn K (.ref f)=true) (i:isFn K (.ref f)=true):Dm K c m q st:=⟨C,f,oc,od,sl,kV,dc,pm,an,cd,ct,a,b,l,d,k,i⟩
def tX (e:qr K c fs=true) (D:Dm K c m q st) (hb:∀(kV doc pm:Å) (an:Option Ø) (aO ct:Å) (us:List Å),us.length=ps.length->bindArgs (fnOf m q (jL st) (fH st) (bX st) .none kV doc pm an aO ct) ⟨us,[]⟩=pure (ps.zip us)):GM K c m q st ps:=by
 obtain⟨C,f,X,W,V,kV,U,pm,an,cd,ct,a,b,l,d,k,i⟩:=D;obtain⟨T,Z,Y,_⟩:=CB e;rw[a] at Z;cases Z;have F:=wH (st:=st) l d k;exact⟨C,f,_,a,Y,⟨b,i,k⟩,⟨F,F.binds hb⟩⟩
def VX (X:K.In h) (G:h.Ns Ò mg) (e:qr K c fs=true) (D:Dm K c "__init__" q st) (hb:∀(kV doc pm:Å) (an:Option Ø) (aO ct:Å) (us:List Å),us.length=ps.length->bindArgs (fnOf "__init__" q (jL st) (fH st) (bX st) .none kV doc pm an aO ct) ⟨us,[]⟩=pure (ps.zip us)):GK K mg c q st ps:=by
 obtain⟨C,f,V,U,T,kV,S,pm,an,cd,ct,a,b,l,d,k,i⟩:=D;obtain⟨R,Z,_,_,Y,W⟩:=CB e;rw[a] at Z;cases Z;have F:=wH (st:=st) l d k;exact⟨C,f,_,a,mg_of X G a,⟨Y,b,i,W⟩,⟨F,F.binds hb⟩⟩
end
end DI
end
namespace DI.bU
open PySem L2 DI
noncomputable def VY:List Str:=["NoMarks","NoSheet","NoPage","NoBook","NoMould","NoDay","NoSort","NoNumber","NoSheets","NoRun","NoLaying","NoHeap","NoCount","Clash","NoDeed","NoText","NoRow","TooMany","Lacking"]
def Df (K:Ď) (x:Str) (st:aaX):Prop:=∃(f:Ø) (Z:Å) (Y:Option Ø) (X:Array (Option Å)) (kV W pm:Å) (an:Option Ø) (cd V:Å),õ K Ò x=some (some (.ref f))/\K.lookup f=some ⟨Z,Y,.func (Ŏ x x (jL st) (fH st) (bX st) .none kV W pm an cd V),X⟩/\Z2 K cd x=true/\ľ K (.ref f)=true
def VZ {K:Ď} {x:Str} {st:aaX} {f:Ø} {oc:Å} {od:Option Ø} {sl:Array (Option Å)} {kV dc pm:Å} {an:Option Ø} {cd ct:Å} (a:õ K Ò x=some (some (.ref f))) (l:K.lookup f=some ⟨oc,od,.func (Ŏ x x (jL st) (fH st) (bX st) .none kV dc pm an cd ct),sl⟩) (c:Z2 K cd x=true) (k:ľ K (.ref f)=true):Df K x st:=⟨f,oc,od,sl,kV,dc,pm,an,cd,ct,a,l,c,k⟩
def qU {K:Ď} {x:Str} {i:Int} {t:Tok} (e:õ K Ò x=some (some (.int i t))):∃t,õ K Ò x=some (some (.int i t)):=⟨t,e⟩
def cF {K:Ď} {h:ĥ} {mg:Str->Option Å} {x:Str} {st:aaX} {ps:List Str} (X:K.In h) (G:h.Ns Ò mg) (D:Df K x st) (hb:∀(kV doc pm:Å) (an:Option Ø) (aO ct:Å) (us:List Å),us.length=ps.length->bindArgs (Ŏ x x (jL st) (fH st) (bX st) .none kV doc pm an aO ct) ⟨us,[]⟩=pure (ps.zip us)):∃f fd,Gd K mg x st ps f fd:=by
 obtain⟨f,Z,Y,W,kV,V,pm,an,cd,ct,a,l,c,k⟩:=D;have F:=wH (st:=st) l c k;exact⟨f,_,ŀ X G a,F,F.binds hb⟩
def eY {P:List Å->Prop} (h:∀a0:Å,P [a0]) (us:List Å) (hl:us.length=1):P us:=by
 cases us with
 |nil=>simp at hl
 |cons a0 Z =>
 cases Z with
 |cons _ _=>simp at hl
 |nil =>
 exact h a0
def jZ {P:List Å->Prop} (h:∀a0 a1:Å,P [a0,a1]) (us:List Å) (hl:us.length=2):P us:=by
 cases us with
 |nil=>simp at hl
 |cons a0 Z =>
 cases Z with
 |nil=>simp at hl
 |cons a1 Y =>
 cases Y with
 |cons _ _=>simp at hl
 |nil =>
 exact h a0 a1
def qV {P:List Å->Prop} (h:∀a0 a1 a2:Å,P [a0,a1,a2]) (us:List Å) (hl:us.length=3):P us:=by
 cases us with
 |nil=>simp at hl
 |cons a0 Z =>
 cases Z with
 |nil=>simp at hl
 |cons a1 Y =>
 cases Y with
 |nil=>simp at hl
 |cons a2 X =>
 cases X with
 |cons _ _=>simp at hl
 |nil =>
 exact h a0 a1 a2
def V0 {P:List Å->Prop} (h:∀a0 a1 a2 a3:Å,P [a0,a1,a2,a3]) (us:List Å) (hl:us.length=4):P us:=by
 cases us with
 |nil=>simp at hl
 |cons a0 Z =>
 cases Z with
 |nil=>simp at hl
 |cons a1 Y =>
 cases Y with
 |nil=>simp at hl
 |cons a2 X =>
 cases X with
 |nil=>simp at hl
 |cons a3 W =>
 cases W with
 |cons _ _=>simp at hl
 |nil =>
 exact h a0 a1 a2 a3
def all_mk {P:ã} {w:Ă} {K:Ď} {h:ĥ} {mg:Str->Option Å} {fa:Ø} (X:K.In h) (G:h.Ns Ò mg) (Y1:mg "law"=some (.ref fa))
  (d0:Df K "_law_cell_at" (top 50))
  (d1:Df K "_law_state" (top 51))
  (d2:Df K "_law_take" (top 52))
  (d3:Df K "_law_sheet" (top 53))
  (d4:Df K "_law_page" (top 54))
  (d5:Df K "_law_deed" (top 61))
  (d6:Df K "_law_no_page" (top 62))
  (d7:Df K  abV (top 55))
  (d8:Df K "_law_is_book" (top 56))
  (d9:Df K "_law_step" (top 60))
  (Ek:Df K "_law_classes" (top 57))
  (El:Df K "is_rising" (top 30))
  (Em:Df K "is_number" (top 25))
  (En:Df K "is_below" (top 26))
  (Eo:Df K "is_mark" (top 27))
  (Ep:Df K "are_marks" (top 35))
  (Er:Df K "are_apart" (top 37))
  (Es:Df K "is_sheet" (top 36))
  (Et:Df K "is_mould" (top 28))
  (Eu:Df K "is_day" (top 29))
  (Ew:Df K "is_page" (top 38))
  (Ey:Df K "need_page" (top 46))
  (Ez:Df K "are_laid" (top 39))
  (EA:Df K "days_seen" (top 44))
  (EB:Df K "days_mended" (top 45))
  (EC:Df K "is_any_behind" (top 43))
  (ED:Df K "clashes" (top 42))
  (EE:Df K "faults_of" (top 41))
  (EF:Df K "is_book" (top 40))
  (EG:Df K "_law_met" (top 58))
  (yP:Df K  abI (top 63))
  (yL:Df K "_law_same" (top 59))
  (lW:qr K "Diary" ["books"]=true)
  (EH:Dm K "Diary" "book_now" "Diary.book_now" (gb (top 48) 4))
  (EI:Dm K "Diary" "keep" "Diary.keep" (gb (top 48) 5))
  (EJ:Dm K "Diary" "strike" "Diary.strike" (gb (top 48) 2))
  (vi:Dm K "Diary" "undo" "Diary.undo" (gb (top 48) 3))
  (vj:Dm K "Diary" "tell" "Diary.tell" (gb (top 48) 1))
  (EK:Dm K "Diary" "__init__" "Diary.__init__" (gb (top 48) 0))
  (dl:Df K "law" (top 64))
  (Au:∃t,õ K Ò "MARKS"=some (some (.int (8) t)))
  (zP:∃t,õ K Ò "MOULDS"=some (some (.int (4) t)))
  (Bg:∃t,õ K Ò "DAYS"=some (some (.int (31) t)))
  (Av:∃t,õ K Ò "PAGES"=some (some (.int (24) t)))
  (BM:∃t,õ K Ò "HAS"=some (some (.int (0) t)))
  (Aw:∃t,õ K Ò "LACKS"=some (some (.int (1) t)))
  (yT:õ K Ò "ValueError"=some none)
  (BN:õ K Ò "all"=some none)
  (BO:õ K Ò "any"=some none)
  (Bh:õ K Ò "bool"=some none)
  (BP:õ K Ò "int"=some none)
  (yU:õ K Ò "isinstance"=some none)
  (BQ:õ K Ò "len"=some none)
  (Bi:õ K Ò "list"=some none)
  (BR:õ K Ò "max"=some none)
  (BS:õ K Ò "min"=some none)
  (Ax:õ K Ò "range"=some none)
  (BU:õ K Ò "set"=some none)
  (zQ:õ K Ò "sorted"=some none)
  (Ay:õ K Ò "tuple"=some none)
  (BV:õ K Ò "zip"=some none)
  (xf:kS K bI VY "MouldError"=true) (tf:AU K  abI=true)
  : ∃(c T:Ø) (fd:Ė),aa8 K  abI=some (c,T)/\K.lookup T=none/\(∀(s:Ä) (v:Å),BindsTo s fd ⟨[v],[]⟩ [(abK,v)])/\∀base:ĥ,K.In base->base.Ns Ò mg->base.BuiltinsAt mg T->cB P w K mg base dA 14 fa fd [abK] (wV K T):=by
 have W:=cF (ps:=[abK,"_law_k"]) X G d0 λ_ _ _ _ _ _=>jZ λ_ _=>rfl;have g1:=cF (ps:=[abK,"_law_k"]) X G d1 λ_ _ _ _ _ _=>jZ λ_ _=>rfl;have g2:=cF (ps:=[abJ,"_law_many"]) X G d2 λ_ _ _ _ _ _=>jZ λ_ _=>rfl;have g3:=cF (ps:=[abJ]) X G d3 λ_ _ _ _ _ _=>eY λ_=>rfl;have V:=cF (ps:=[abJ,"_law_days"]) X G d4 λ_ _ _ _ _ _=>jZ λ_ _=>rfl;have U:=cF (ps:=[abJ,"_law_book"]) X G d5 λ_ _ _ _ _ _=>jZ λ_ _=>rfl;have S:=cF (ps:=[abJ]) X G d6 λ_ _ _ _ _ _=>eY λ_=>rfl;have R:=cF (ps:=[abP,abS,abM]) X G d7 λ_ _ _ _ _ _=>qV λ_ _ _=>rfl;have Q:=cF (ps:=[abP]) X G d8 λ_ _ _ _ _ _=>eY λ_=>rfl;have O:=cF (ps:=[abT,abN,abL]) X G d9 λ_ _ _ _ _ _=>qV λ_ _ _=>rfl;have N:=cF (ps:=["_law_e"]) X G Ek λ_ _ _ _ _ _=>eY λ_=>rfl;have M:=cF (ps:=["things"]) X G El λ_ _ _ _ _ _=>eY λ_=>rfl;have L:=cF (ps:=["thing"]) X G Em λ_ _ _ _ _ _=>eY λ_=>rfl;have J:=cF (ps:=["thing","many"]) X G En λ_ _ _ _ _ _=>jZ λ_ _=>rfl;have I:=cF (ps:=["thing"]) X G Eo λ_ _ _ _ _ _=>eY λ_=>rfl;have H:=cF (ps:=["thing"]) X G Ep λ_ _ _ _ _ _=>eY λ_=>rfl;have E:=cF (ps:=["marks","others"]) X G Er λ_ _ _ _ _ _=>jZ λ_ _=>rfl;have D:=cF (ps:=["thing"]) X G Es λ_ _ _ _ _ _=>eY λ_=>rfl;have C:=cF (ps:=["thing"]) X G Et λ_ _ _ _ _ _=>eY λ_=>rfl;have B:=cF (ps:=["thing"]) X G Eu λ_ _ _ _ _ _=>eY λ_=>rfl;have A:=cF (ps:=["thing"]) X G Ew λ_ _ _ _ _ _=>eY λ_=>rfl;have z:=cF (ps:=["thing"]) X G Ey λ_ _ _ _ _ _=>eY λ_=>rfl;have y:=cF (ps:=["thing"]) X G Ez λ_ _ _ _ _ _=>eY λ_=>rfl;have x:=cF (ps:=["pages","mould","mark","half"]) X G EA λ_ _ _ _ _ _=>V0 λ_ _ _ _=>rfl;have u:=cF (ps:=["pages","mould","mark"]) X G EB λ_ _ _ _ _ _=>qV λ_ _ _=>rfl;have r:=cF (ps:=["days","day","later"]) X G EC λ_ _ _ _ _ _=>qV λ_ _ _=>rfl;have q:=cF (ps:=["pages","mould","mark"]) X G ED λ_ _ _ _ _ _=>qV λ_ _ _=>rfl;have p:=cF (ps:=["pages"]) X G EE λ_ _ _ _ _ _=>eY λ_=>rfl;have o:=cF (ps:=["thing"]) X G EF λ_ _ _ _ _ _=>eY λ_=>rfl;have n:=cF (ps:=["_law_call"]) X G EG λ_ _ _ _ _ _=>eY λ_=>rfl;have m:=cF (ps:=[abQ,abN,abL]) X G yP λ_ _ _ _ _ _=>qV λ_ _ _=>rfl;have j:=cF (ps:=[abR,abO]) X G yL λ_ _ _ _ _ _=>jZ λ_ _=>rfl;have i:∃t,mg "MARKS"=some (.int (8) t):=by obtain⟨t,e⟩:=Au;exact⟨t,ŀ X G e⟩
 have g:∃t,mg "MOULDS"=some (.int (4) t):=by obtain⟨t,e⟩:=zP;exact⟨t,ŀ X G e⟩
 have d:∃t,mg "DAYS"=some (.int (31) t):=by obtain⟨t,e⟩:=Bg;exact⟨t,ŀ X G e⟩
 have b:∃t,mg "PAGES"=some (.int (24) t):=by obtain⟨t,e⟩:=Av;exact⟨t,ŀ X G e⟩
 have A9:∃t,mg "HAS"=some (.int (0) t):=by obtain⟨t,e⟩:=BM;exact⟨t,ŀ X G e⟩
 have zJ:∃t,mg "LACKS"=some (.int (1) t):=by obtain⟨t,e⟩:=Aw;exact⟨t,ŀ X G e⟩
 have MK:=ą X G yT;have V1:=ą X G BN;have V2:=ą X G BO;have UG:=ą X G Bh;have V3:=ą X G BP;have ML:=ą X G yU;have V4:=ą X G BQ;have UH:=ą X G Bi;have V5:=ą X G BR;have V6:=ą X G BS;have Sn:=ą X G Ax;have V7:=ą X G BU;have QQ:=ą X G zQ;have So:=ą X G Ay;have V8:=ą X G BV;have m0:=tX (ps:=["self"]) lW EH λ_ _ _ _ _ _=>eY λ_=>rfl;have m1:=tX (ps:=["self","pages"]) lW EI λ_ _ _ _ _ _=>jZ λ_ _=>rfl;have m2:=tX (ps:=["self","page"]) lW EJ λ_ _ _ _ _ _=>jZ λ_ _=>rfl;have m3:=tX (ps:=["self"]) lW vi λ_ _ _ _ _ _=>eY λ_=>rfl;have m4:=tX (ps:=["self","page"]) lW vj λ_ _ _ _ _ _=>jZ λ_ _=>rfl;have m5:=VX (ps:=["self"]) X G lW EK λ_ _ _ _ _ _=>eY λ_=>rfl;obtain⟨f,oc,od,sl,kV,dc,pm,an,cd,ct,a,l,c,k⟩:=dl;have e:=Y1.symm.trans (ŀ X G a);cases e;have F:=wH (st:=(top 64)) l c k;have GL:Gd K mg "law" (top 64) [abK] _ _:=⟨ŀ X G a,F,F.binds λ_ _ _ _ _ _=>eY λ_=>rfl⟩;have Zo:Ee K mg  abI:=by
  obtain⟨f',_,_,_,_,_,_,_,_,_,Y,_⟩:=yP;exact⟨f',Y,ŀ X G Y⟩
 obtain⟨c0,T0,Z,hC,hT⟩:=RN tf;exact⟨c0,T0,_,Z,hT,λs v=>.of_eq rfl,λbase _ _ hB=>RM (Uq ⟨MK,V1,V2,UG,V3,ML,V4,UH,V5,V6,Sn,V7,QQ,So,V8,fP X G xf (by decide +kernel),fP X G xf (by decide +kernel),fP X G xf (by decide +kernel),fP X G xf (by decide +kernel),fP X G xf (by decide +kernel),fP X G xf (by decide +kernel),fP X G xf (by decide +kernel),fP X G xf (by decide +kernel),fP X G xf (by decide +kernel),fP X G xf (by decide +kernel),fP X G xf (by decide +kernel),fP X G xf (by decide +kernel),fP X G xf (by decide +kernel),fP X G xf (by decide +kernel),fP X G xf (by decide +kernel),fP X G xf (by decide +kernel),fP X G xf (by decide +kernel),fP X G xf (by decide +kernel),fP X G xf (by decide +kernel),VF xf,Zo,Ct X G xf (by decide +kernel),Ct X G xf (by decide +kernel),Ct X G xf (by decide +kernel),Xe X G xf,i,g,d,b,A9,zJ,VV lW (by decide),m0,m1,m2,m3,m4,m5,W,g1,g2,g3,V,U,S,R,Q,O,N,M,L,J,I,H,E,D,C,B,A,z,y,x,u,r,q,p,o,n,m,j⟩ Z hC hB GL) Z QP⟩
def walk {l:PySem.W.OpenLaw} {q:ã} {loose:List Str} {XP:(Str->Option Å)->ĥ->Prop} {YP:Ă->ĥ->Prop} {d:DefRec} {K:Params->Ď} (hn:l.most=some 63) (uM:d.params.defaults=[]) {dy:DefRec} (hd:(PyProof.Rows.recsOf q).find? (λe=>e.name==(abI:Str))=some dy)
  (hY:∀(w:Ă) (h:ĥ),YP w h->(K w.params).In h)
  (F:∀(w:Ă) (mg:Str->Option Å) (fa:Ø) (h:ĥ),(K w.params).In h->h.Ns Ò mg->mg d.name=some (.ref fa) ->
   ∃(c T:Ø) (fd:Ė),aa8 (K w.params)  abI=some (c,T)/\(K w.params).lookup T=none/\(∀(s:Ä) (u:Å),BindsTo s fd ⟨[u],[]⟩ [(abK,u)])/\∀base:ĥ,(K w.params).In base->base.Ns Ò mg->base.BuiltinsAt mg T->cB l.prog w (K w.params) mg base dA 14 fa fd [abK] (wV (K w.params) T)) :
  PySem.W.WalkO q loose XP YP l.row.toRowW d [] (λf vs=>PySem.call f vs) :=
 L2.RQ (n:=63) (k:=14) (x:= abK) (CX:=λ_=>dA) (sp:=λw=>wV (K w.params))  abI hn (by decide) uM ⟨rfl,by decide,by decide,rfl⟩ hY hd F (λ_ _ _ a Z Y X V=>⟨a,Z,rfl,V,Y,X,λ_=>rfl⟩) λ_ _ _ _ _ z=>z
end DI.bU
open PySem PySem.W PyProof.Rows
namespace PySem.W.Fast
def te14939396579063600526:=trivial
def te463980458423899805:=trivial
def te12002667139801266824:=trivial
def te8403559534865787773:=trivial
def te15500001179271910561:=trivial
def te4678103353419205127:=trivial
end PySem.W.Fast
set_option maxRecDepth 100000 in
set_option maxHeartbeats 0 in
theorem PySem.Challenge.cw_twinmoulds_k47_a_diary_and_its_deeds_holds : PySem.Challenge.rw_twinmoulds_k47_a_diary_and_its_deeds.Holds := by
 w_on;o_law;k_head;(case hw=>w_witness2)
 k_fill
 refine DI.bU.walk (l:=PySem.Challenge.rw_twinmoulds_k47_a_diary_and_its_deeds) rfl rfl rfl (λw h Y=>PySem.W.km_in_of Y) ?F
 case F =>
  intro w V U h Z G X;refine' DI.bU.all_mk Z G X ?d0 ?d1 ?d2 ?d3 ?d4 ?d5 ?d6 ?d7 ?d8 ?d9 ?Ek ?El ?Em ?En ?Eo ?Ep ?Er ?Es ?Et ?Eu ?Ew ?Ey ?Ez ?EA ?EB ?EC ?ED ?EE ?EF ?EG ?yP ?yL ?lW ?EH ?EI ?EJ ?vi ?vj ?EK ?dl ?Au ?zP ?Bg ?Av ?BM ?Aw ?yT ?BN ?BO ?Bh ?BP ?yU ?BQ ?Bi ?BR ?BS ?Ax ?BU ?zQ ?Ay ?BV ?xf ?tf
  (case d0|d1|d2|d3|d4|d5|d6|d7|d8|d9|Ek|El|Em|En|Eo|Ep|Er|Es|Et|Eu|Ew|Ey|Ez|EA|EB|EC|ED|EE|EF|EG|yP|yL|dl=>refine' DI.bU.VZ ?a ?l ?c ?k;(case a=>k_is);(case l=>k_is);(case c=>k_is);(case k=>k_is))
  (case Au=>refine' DI.bU.qU ?e;(case e=>k_is))
  (case zP=>refine' DI.bU.qU ?e;(case e=>k_is))
  (case Bg=>refine' DI.bU.qU ?e;(case e=>k_is))
  (case Av=>refine' DI.bU.qU ?e;(case e=>k_is))
  (case BM=>refine' DI.bU.qU ?e;(case e=>k_is))
  (case Aw=>refine' DI.bU.qU ?e;(case e=>k_is))
  (case yT|BN|BO|Bh|BP|yU|BQ|Bi|BR|BS|Ax|BU|zQ|Ay|BV=>k_is)
  (case lW=>kernel_rfl)
  (case EH|EI|EJ|vi|vj|EK=>refine' DI.VW ?a ?b ?l ?c ?k ?f;(case a=>k_is);(case b=>k_is);(case l=>k_is);(case c=>k_is);(case k=>k_is);(case f=>k_is))
  (case xf=>kernel_rfl)
  (case tf=>kernel_rfl)
