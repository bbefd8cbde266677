import PyProof.Rows.All
import Wide.All
import OpenK.AllK
import Wide.FinOn
import Lean
import PyProof.EqAt
import PyProof.EqKinds
import PyProof.TupleCall
import PyProof.NeData
import PyProof.P3In
import PyProof.FactsAll.set
import PyProof.CollectWalk
import PyProof.FactsAll.range
import PyProof.MinMaxWalk
import KE.KMinKey
import PyProof.WalkInts
import PyProof.Rows.CallKwBuiltin
import KE.KSortTup
import PyProof.Rows.Range3
import PyProof.ListRange
import PyProof.DictRoadsH
import KE.KDictList
import PyProof.Rows.SortKeyStr
import PyProof.DictCompW
import PyProof.DictWalks
import PyProof.Rows.CompDC
import PyProof.SumAny
import PyProof.TupleOfGen
import PyProof.CollectIter
import PySem.Challenge.RW_twinmoulds_k08_datings_looked_at
set_option bootstrap.genMatcherCode false
set_option genInjectivity false
set_option genSizeOfSpec false
set_option Elab.async false
set_option linter.all false
set_option maxRecDepth 100000
set_option maxHeartbeats 4000000
open PySem renaming wpAny_bind→À,wpAny_pure→Â,Shared→É,Value→Í,sizeLine→Õ,starEach→Þ,wpAny→à,Addr→á,mainGlobals→ò,wpAny_newObj_type→ó,foldedSetIterable→ô,model→ø,Program→ù,wpAny_call_entry→Ą,bootBuiltins→ą,wpAny_callSpecial?_slot→Ĉ,compareOp→Č,World→ď,Around→đ,wpAny_holding→ė,wpAny_seqItems→Ě,codeAny_builtin→ī,wpAny_truthy_bool→Į,wpAny_mono→ĳ,wpAny_field→Ĵ,Expr→ļ,wpAny_tryCatch→ŀ,plainId_quiet→Ł,sysModules→ł,Builtin→ň,rawInt→Ŋ,binaryOp→ŋ,Heap→ŏ,wpAny_typeNameOfWhole_keyiter→Œ,wpAny_standAt→Ŕ,FuncData→Ŗ,wpAny_setField→Ś,wpAny_rule→Ŝ,letOwnedTupleGo→ş,wpAny_of_eq→š,wpAny_updateSeq→Ţ,eval→Ť,pyNext→ť,intKind→ŧ,assignEach→Ū,wpAny_askSetting→Ŭ,codeAny_mono→ů,wpAny_setField_rec→ű,wpAny_letGo→ŵ,wpAny_pyIter_list→Ÿ,wpAny_setState_of→ż,swapsWithSole→ε,swappedStores→ζ,sizeLine_eq→η,mem_of_lookup→θ,wpAny_attempt→ι,wpAny_setEntries_of→μ,pickOrder→ς,wpAny_pyIter_tuple→ω,backTo→aab,holding→aac,IsPair→aag,NameKind→aal,fits_of_scanBound→aau,cellsFrom→aaB,PyData→aaD,firstArgMember→aaE,scanBound→aaG,wpAny_fieldsOf→aaH,wpAny_isInstance→aaL,codeAny→aaO,assign→aaR,wpAny_comprehension_free→aaU,wpAny_passesOwn→aaW,behindInMarks→aaX,wpAny_Call_Name_kw→aaY,wpAny_pyIter_rangeiter→aa9,codeAny_compStart_list→abc,Scope→abf,standAt→abg,sliceBounds→abi,wpAny_storeSet_of→abm,eqIsQuiet_byValue→abo,wpAny_bindName→abq,swapsWith→abw,wpAny_typeOf→abx,builtinLookup_eq_fast→abB,wpAny_pyIter_zip→abE,assignInOrder→abJ,bindName→abK,wpAny_newList→abL,cLine→abQ,keywordEach→abR,seqItems?→abT,codeAny_of_tree→abV,wpAny_specialOf→abX,DictEntry→ab9,Keyword→acd,Fin→acf
open PySem.Heap renaming get?_push_of_some→Á,get?_push_size→Ì,lt_size→Î,size_push→ú,get?_update_other→ÿ,get?_update_self→ă,SameBut→ĸ,ExtBut→abj,get?_update_ne→abY
open Bool renaming false_eq_true→Ã,and_eq_true→Ç,false_ne_true→Ë,not_true→ë,true_and→í,not_eq_true'→ē,and_self→Ĥ,and_true→Ř,not_false→ś,eq_iff_iff→Š,or_eq_true→Ž,false_and→aaA,not_eq_true→aaM,false_or→abN
open List renaming length_map→Ä,getElem?_eq_some_iff→Å,mem_append_right→Æ,replicate→Ï,getElem?_eq_getElem→Ð,mem_cons_of_mem→Ñ,mem_cons_self→Ò,mem_cons→Ó,size_toArray→Ô,map_cons→Ö,getElem?_set_ne→Ø,mem_append→Ù,mem_singleton→Ü,range→ß,length_append→â,getElem?_set_self→ã,getElem?_append_left→ä,length_cons→å,getElem?_map→ç,length_nil→î,set_cons_succ→ï,set_cons_zero→ð,mem_map→ö,getElem?_append_right→ü,all_eq_true→ý,mem_range→Ā,pairwise_cons→Ă,mem_filter→ć,getElem?_eq_none→Ċ,cons_append→ċ,map_append→č,map_map→Ē,getElem?_range→Ĕ,not_mem_nil→ĕ,length_set→Ĝ,nil_append→ģ,mem_append_left→ħ,getElem?_replicate→ĭ,map_nil→İ,zip_cons_cons→ı,length_filter_le→Ķ,append_assoc→ķ,replicate_succ→ĺ,length_range→ľ,lookup_cons→ń,any_eq_true→Ņ,filter_cons→ņ,append_nil→Ō,length_take→ő,mem_of_getElem?→œ,flatten_cons→ŝ,mem_flatMap→ŭ,length_replicate→Ű,set_append_right→Ų,getD→ź,ext_getElem?→Ż,range_succ→ſ,length_drop→ξ,nodup_cons→aad,of_mem_zip→aae,getElem?_toArray→aaj,nodup_append→aav,any_eq_false→aaw,pairwise_append→aay,drop_eq_getElem_cons→aaI,getElem_mem→aaK,isEmpty_nil→aaN,map_congr_left→aaP,getElem_of_mem→aaQ,length_eq_zero_iff→aa2,pairwise_singleton→aa3,filter_append→aa7,flatMap_eq_nil_iff→aa8,filter_eq_nil_iff→abd,nodup_nil→abv,length_singleton→aby,toArray→abA,isEmpty_iff→abG,mem_of_mem_drop→abH,mem_of_mem_take→abI,filterMap_cons→abP,map_eq_flatMap→abZ,map_eq_nil_iff→ab0,drop_drop→ab7
open Nat renaming lt_of_lt_of_le→Ê,le_trans→Û,ne_of_lt→è,lt_irrefl→é,zero_le→Ę,lt_succ_of_lt→Ģ,ne_of_gt→Ń,le_of_eq→ō,le_succ→Ŷ,le_of_not_lt→ο,lt_succ_self→υ,mul_le_mul_right→aaz,add_assoc→aa5,le_max_right→abF
open PySem.Str renaming ofString→ì
open Int renaming toNat_natCast→õ,emod_lt_of_pos→aaa,zero_add→aaV,emod_nonneg→aa6
open Array renaming length_toList→þ,getElem?_toList→ĵ,toList_push→abl,getD→aca
open PySem.NameKind renaming free→ā
open PySem.W renaming nsIn→Ć,mg_none_of→ĉ,Frag→Ĳ,mg_of→ř,keepIn→ų,fnOf→δ,cellsFrom_some→aba,findIn→abr,codeIn→abt,methodObj→ab8
open PySem.Obj renaming data_mapFields→Ď,mapSeq→Ī,isFreed_of_fields→Ľ,cls_mapFields→aam
open PySem.Builtin.SmallTypes renaming nextOf→Đ,ownedTupleIsFree→Ļ,ownedTupleHandOut→aaF
open PySem.Around renaming under_plainId→Ė
open PySem.SetTable renaming below→ě,grown→abu
open PySem.Heap.SameBut renaming update→ĝ
open PySem.Builtin.Range renaming rangeFitsLong→Ğ,rangeSize→ŕ,rangeFields→ab6
open PySem.PassesOwn renaming never→ĥ
open PySem.F renaming plain_min_loop→Ħ,slot_dict_keyiterator_next→Ŀ,slot_tuple_iterator_next→ũ,isi_meta_tuple→ū,isi_meta_list→Ź,entry_min_loop→ψ,called_set→aah,slot_range_reversed→aai,args_tuple_add_2→aaS,entry_tuple_add→aaZ,slot_tuple_add→abb,slot_tuple_hash→abn,slot_int_rmul→abS,slot_zip_next→abU
open PyProof.Rows renaming callWith_type1→Ĩ,slot_tuple_getitem→ĩ,firstMet→ŗ,assignInOrder_cons→Ů,IntsAre→abh,seqObj→ab2
open PySem.PyData renaming eqv→į,depthAll→ž,weightAll→χ,showable→aa0,hasDictAll→abp,strOk→abC,leavesShortAll→abD,showableAll→ab4,leavesShort→ab5,weight→ace
open Ne renaming symm→Ň
open Option renaming map_some→Ŏ
open PySem.Builtin.Tuple renaming tupleExact→Ő,tupleItemsOf→Ũ,tupleIsExact→aax,tupleHashOf→aaJ
open Function renaming comp_def→Ş
open PySem.Builtin.Builtins renaming bindParams→ţ
open Or renaming inl→Ŧ
open PySem.Builtin.Slice renaming slicePlaces→Ŵ,sliceAdjust→aaC,sliceApplied→ab1
open PySem.Value renaming type→ŷ,ref→ν,int→abO
open ForInStep renaming yield→aaf
open False renaming elim→aak
open PySem.Builtin.List renaming listTooLong→aaT,listExtendWith→abW
open PyProof.Rows.F renaming plain_set_update_loop→aa1
open List.cons renaming injEq→aa4
open Sum renaming inr→abe
open PySem.SetTable.below renaming go→abk
open List.Pairwise renaming sublist→abz
open PySem.Builtin.Dict_items renaming ownsTuple→abM
open PySem.SetTable.probe renaming go→acb
def È:=@decide_eq_true_eq
def Ú:=@if_pos
def Ý:=@decide_eq_true
def æ:=@if_neg
def ê:=@if_false
def ñ:=@decide_eq_false
def û:=@if_true
def ę:=@decide_true
def ğ:=@and_self
def Ġ:=@beq_self_eq_true
def ġ:=@bne_self_eq_false
def Ĭ:=@of_decide_eq_true
def Ĺ:=@congrArg
def ab3:=@decide_false
noncomputable section
local macro_rules | `(tactic| omega) => `(tactic| lia)
open PySem.W (Frag)
namespace L2
open PySem PySem.Spec PyProof.Rows
noncomputable abbrev Key:=Sum Int Str
def pd:Key->Í->Bool
 | .inl k,v=>Value.isInt k v
 | .inr x,v=>Value.isStrOf x v
def Wy (w:ď):Key->Int
 | .inl k=>hashInt k
 | .inr x=>hashStr w x
def lB:∀{k:Key} {v:Í},pd k v=true->(∃i t,k=Sum.inl i/\v=abO i t)\/(∃x t,k=abe x/\v=Value.str x t)
 | .inl i,v,h=>by
  obtain⟨t,e⟩:=Value.isInt_shape (k:=i) (v:=v) h;exact .inl ⟨i,t,rfl,e⟩
 | .inr x,v,h=>by
  obtain⟨t,e⟩:=Value.isStrOf_shape (x:=x) (v:=v) h;exact .inr ⟨x,t,rfl,e⟩
def OI (i:Int) (t:Tok):pd (.inl i) (.int i t)=true:=by simp[pd,Value.isInt]
def OJ (x:Str) (t:Tok):pd (.inr x) (.str x t)=true:=by simp[pd,Value.isStrOf]
def Tp (a b:Int):decide ((Sum.inl a:Key)=Sum.inl b)=(a==b):=by
 by_cases e:a=b
 ·subst e;simp
 ·have h:¬ (Sum.inl a:Key)=Sum.inl b:=λq=>e (Sum.inl.inj q)
  rw[ñ h];exact(beq_eq_false_iff_ne.mpr e).symm
def Tq (a b:Str):decide ((abe a:Key)=abe b)=decide (a=b):=by
 by_cases e:a=b
 ·subst e;simp
 ·have h:¬ (abe a:Key)=abe b:=λq=>e (Sum.inr.inj q)
  rw[ñ h,ñ e]
def Tr (a:Int) (b:Str):decide ((Sum.inl a:Key)=abe b)=false:=ñ (λq=>nomatch q)
def Tt (a:Str) (b:Int):decide ((abe a:Key)=Sum.inl b)=false:=ñ (λq=>nomatch q)
def jK (prog:ù) (w:ď):PySem.KeyKind prog w Key where
 is:=pd
 hash:=Wy w
 inj:=λv a b ha hb=>by
  rcases lB ha with ⟨i,t,rfl,rfl⟩ | ⟨x,t,rfl,rfl⟩
  ·rcases lB hb with ⟨j,u,rfl,e⟩ | ⟨y,u,rfl,e⟩
   ·injection e with e1 _;rw[e1]
   ·exact nomatch e
  ·rcases lB hb with ⟨j,u,rfl,e⟩ | ⟨y,u,rfl,e⟩
   ·exact nomatch e
   ·injection e with e1 _;rw[e1]
 byValue:=λk v h=>by
  rcases lB h with ⟨i,t,rfl,rfl⟩ | ⟨x,t,rfl,rfl⟩<;>rfl
 pyHash:=λhv h=>by
  rcases lB hv with ⟨i,t,rfl,rfl⟩ | ⟨x,t,rfl,rfl⟩
  ·exact wpAny_pyHash_int h
  ·exact wpAny_pyHash_str h
 eqBool:=λhu hv h=>by
  rcases lB hu with ⟨i,t,rfl,rfl⟩ | ⟨x,t,rfl,rfl⟩
  ·rcases lB hv with ⟨j,u,rfl,rfl⟩ | ⟨y,u,rfl,rfl⟩
   ·rw[Tp] at h;exact wpAny_eqBool_int h
   ·rw[Tr] at h;exact SeqAt.EqAt.int_str i t y u _ _ _ _ h
  ·rcases lB hv with ⟨j,u,rfl,rfl⟩ | ⟨y,u,rfl,rfl⟩
   ·rw[Tt] at h;exact SeqAt.EqAt.str_int x t j u _ _ _ _ h
   ·rw[Tq] at h;exact wpAny_eqBool_str h
 «strs»:=λk x t v h=>by
  rcases lB h with ⟨i,u,rfl,e⟩ | ⟨y,u,rfl,e⟩
  ·exact nomatch e
  ·injection e with e1 _
   subst e1
   cases v<;>rfl
def Nh (prog:ù) (w:ď) (i:Int) (t:Tok):(jK prog w).is (.inl i) (.int i t)=true:=OI i t
def Ni (prog:ù) (w:ď) (x:Str) (t:Tok):(jK prog w).is (.inr x) (.str x t)=true:=OJ x t
set_option genInjectivity true in
inductive V where
 |au|bl (b:Bool)|int (i:Int)|str (x:Str)|jy (b:Array UInt8)|uP (b:UInt64)|ref (a:á)|ty (n:String)
 deriving DecidableEq
def RelV:V->Í->Prop
 | .au,u=>u=Value.none
 | .bl b,u=>u=Value.bool b
 | .int i,u=>∃t,u=abO i t
 | .str x,u=>∃t,u=Value.str x t
 | .jy b,u=>∃t,u=Value.bytes b t
 | .uP b,u=>∃t,u=Value.float b t
 | .ref a,u=>u=ν a
 | .ty n,u=>u=ŷ n
abbrev Vals:List V->List Í->Prop:=Paired RelV
def Vals.length (r:Vals xs us):xs.length=us.length:=Paired.length r
def Vals.get:∀{xs:List V} {us:List Í} {i:Nat} {x:V},Vals xs us->xs[i]?=some x->∃u,us[i]?=some u/\RelV x u
 |_,_,_,_,.nil,e=>by simp at e
 |_,_,0,_,.cons r _,e=>by simp at e;subst e;exact⟨_,rfl,r⟩
 |_,_,i+1,x,.cons _ t,e=>by
  obtain⟨u,h1,h2⟩:=Vals.get (i:=i) (x:=x) t (by simpa using e);exact⟨u,by simpa using h1,h2⟩
def Vals.set (r:RelV x u):∀{xs:List V} {us:List Í} (i:Nat),Vals xs us->Vals (xs.set i x) (us.set i u)
 |_,_,_,.nil=>.nil
 |_,_,0,.cons _ t=>.cons r t
 |_,_,i+1,.cons q t=>.cons q (Vals.set r i t)
def Vals.append:∀{xs ys:List V} {us ws:List Í},Vals xs us->Vals ys ws->Vals (xs++ys) (us++ws)
 |_,_,_,_,.nil,s=>s
 |_,_,_,_,.cons r t,s=>.cons r (Vals.append t s)
def Vals.take:∀{xs:List V} {us:List Í} (n:Nat),Vals xs us->Vals (xs.take n) (us.take n)
 |_,_,0,_=>.nil
 |_,_,_ + 1,.nil=>.nil
 |_,_,n+1,.cons r t=>.cons r (Vals.take n t)
def Vals.drop:∀{xs:List V} {us:List Í} (n:Nat),Vals xs us->Vals (xs.drop n) (us.drop n)
 |_,_,0,r=>r
 |_,_,_ + 1,.nil=>.nil
 |_,_,n+1,.cons _ t=>Vals.drop n t
def Kx:Option V->Option Í->Prop
 |some v,some u=>RelV v u
 |none,none=>True
 |_,_=>False
def KV {κ:Type}:List (κ×V)->List (κ×Í)->Prop:=Paired λ(p:κ×V) (q:κ×Í)=>p.1=q.1/\RelV p.2 q.2
def kV:Key->V
 | .inl i=>.int i
 | .inr x=>.str x
inductive HO where
 |lst (xs:List V)
 |tup (xs:List V)
 |dK (ai:List (Key×V))|dT (ai:List (List Key×V))
 |set (S:Int->Bool) (n:Nat)
 |ins (C dx:á) (fs:List (Str×V))
 |own (x:á)
 |xd (fs:List (Str×V))
 |met (f x:á)
 |bP (lo hi:Int)
 |cO (o:Obj) (u:HO)
 |pW (ps:Array Í)
 |ext (φ:ŏ->Prop)
noncomputable abbrev Hp:=á->Option HO
def upd (H:Hp) (a:á) (o:HO):Hp:=λb=>if b=a then some o else H b
def dw:upd H a o a=some o:=by unfold upd;rw[Ú rfl]
def bt (h:b≠a):upd H a o b=H b:=by unfold upd;rw[æ h]
def ff {H:Hp} {a b:á} {o:HO} (h:H a=some o) (h':H b=none):a≠b:=by
 intro e;subst e;rw[h] at h';cases h'
section
variable (P:ù) (w:ď)
def cJ (H:Hp) (h:ŏ) (a:á):HO->Prop
 | .lst xs=>xs.length<=Õ/\∃(its:List Í) (n:Nat),Vals xs its/\h.get? a=some { cls:=.type "list",data:=.seq its.toArray n }
 | .tup xs=>xs.length<=Õ/\∃its:List Í,Vals xs its/\IsTup h a its.toArray
 | .dK ai=>ai.length<=Õ/\(a==ł)=false/\∃vs,KV ai vs/\h.DictOf (jK P w) a vs
 | .dT ai=>ai.length<=Õ/\(a==ł)=false/\∃xs:List (List Key×á×Í),
   Paired (λ(p:List Key×V) (q:List Key×á×Í)=>p.1=q.1/\H q.2.1=some (.tup (p.1.map kV))/\RelV p.2 q.2.2) ai xs /\
   ∃o es ep,h.get? a=some o/\o.ExactDict/\o.data=.dict es ep/\es.toList=xs.map (entryOfKey (tupleKind (jK P w)))/\(xs.map (·.1)).Nodup
 | .set S n=>h.SetOf (ŧ P w) a S n
 | .ins C dx fs=>H dx=some (.own a)/\fs.length<=1000/\dx≠a/\h.get? a=some (PySem.W.instObj C dx) /\
   ∃mA,h.Ns1 dx mA/\(∀f,Kx (fs.lookup f) (mA f))/\PySem.Within mA (fs.map (·.1))
 | .own _=>∃o,h.get? a=some o
 | .xd fs=>∃mA,h.Ns1 a mA/\∀f,Kx (fs.lookup f) (mA f)
 | .bP lo hi=>∃t u v,h.get? a=some { cls:=.type "range",data:=.fields #[.int lo t,.int hi u,.int 1 v] }
 | .cO o u=>h.get? a=some o/\cJ H h a u
 | .pW ps=>h.get? a=some { cls:=.none,data:=.fields ps }
 | .met f x=>h.get? a=some (ab8 (.ref f) (.ref x))
 | .ext φ=>φ h/\(∃o,h.get? a=some o)/\∀h1 h2:ŏ,φ h1->(∀o,h1.get? a=some o->h2.get? a=some o)->φ h2
def cc (H:Hp) (h:ŏ):Prop:=∀a o,H a=some o->cJ P w H h a o
end
section
variable {P:ù} {w:ď} {H H':Hp} {h h':ŏ} {a:á} {o:HO}
def cJ.lt (x:cJ P w H h a o):a<h.objs.size:=by
 cases o with
 |lst xs=>obtain⟨_,_,_,_,e⟩:=x;exact Î e
 |tup xs=>obtain⟨_,_,_,p⟩:=x;exact p.lt
 |dK ai=>obtain⟨_,_,_,_,o,_,_,e,_⟩:=x;exact Î e
 |dT ai=>obtain⟨_,_,_,_,o,_,_,e,_⟩:=x;exact Î e
 |set S n=>obtain⟨o,_,_,_,e,_⟩:=x;exact Î e
 |ins C dx fs=>obtain⟨_,_,_,e,_⟩:=x;exact Î e
 |own y=>obtain⟨_,e⟩:=x;exact Î e
 |xd fs=>obtain⟨_,⟨_,_,_,e,_⟩,_⟩:=x;exact Î e
 |bP lo hi=>obtain⟨_,_,_,e⟩:=x;exact Î e
 |cO ob u=>obtain⟨e,_⟩:=x;exact Î e
 |pW ps=>exact Î (show h.get? a=some _ from x)
 |met f y=>exact Î (show h.get? a=some _ from x)
 |ext φ=>obtain⟨_,⟨_,e⟩,_⟩:=x;exact Î e
def Paired.Ky {α β:Type} {F G:α->β->Prop}:∀{Kz:List α} {KC:List β},Paired F Kz KC->(∀a b,F a b->G a b)->Paired G Kz KC
 |_,_,.nil,_=>.nil
 |_,_,.cons r t,f=>.cons (f _ _ r) (Paired.Ky t f)
def cJ.ie (x:cJ P w H h a o) (k:∀b u,(b=a\/H b=some (.own a))->h.get? b=some u->h'.get? b=some u)
  (ho:∀b,H b=some (.own a)->H' b=some (.own a)) (ht:∀b xs,H b=some (.tup xs)->H' b=some (.tup xs)):cJ P w H' h' a o:=by
 induction o with
 |lst xs=>obtain⟨z,its,n,r,e⟩:=x;exact⟨z,its,n,r,k _ _ (.inl rfl) e⟩
 |tup xs=>obtain⟨z,its,r,ob,e,c⟩:=x;exact⟨z,its,r,ob,k _ _ (.inl rfl) e,c⟩
 |dK ai=>obtain⟨z,y,vs,r,ob,es,ep,e,c⟩:=x;exact⟨z,y,vs,r,ob,es,ep,k _ _ (.inl rfl) e,c⟩
 |dT ai =>
  obtain⟨z,y,xs,r,ob,es,ep,e,c⟩:=x;exact⟨z,y,xs,Paired.Ky r λp q z=>⟨z.1,ht _ _ z.2.1,z.2.2⟩,ob,es,ep,k _ _ (.inl rfl) e,c⟩
 |set S n=>obtain⟨ob,es,ep,t,e,c⟩:=x;exact⟨ob,es,ep,t,k _ _ (.inl rfl) e,c⟩
 |ins C dx fs =>
  obtain⟨d,z,ne,e,mA,⟨od,es,ep,e2,c⟩,r⟩:=x;exact⟨ho _ d,z,ne,k _ _ (.inl rfl) e,mA,⟨od,es,ep,k _ _ (.inr d) e2,c⟩,r⟩
 |own y=>obtain⟨ob,e⟩:=x;exact⟨ob,k _ _ (.inl rfl) e⟩
 |xd fs=>obtain⟨mA,⟨od,es,ep,e,c⟩,r⟩:=x;exact⟨mA,⟨od,es,ep,k _ _ (.inl rfl) e,c⟩,r⟩
 |bP lo hi=>obtain⟨t,u,v,e⟩:=x;exact⟨t,u,v,k _ _ (.inl rfl) e⟩
 |cO ob u ih=>obtain⟨e,q⟩:=x;exact⟨k _ _ (.inl rfl) e,ih q⟩
 |pW ps =>
  have e:h.get? a=some { cls:=.none,data:=.fields ps }:=x;show h'.get? a=some { cls:=.none,data:=.fields ps };exact k a _ (.inl rfl) e
 |met f y =>
  have e:h.get? a=some (ab8 (.ref f) (.ref y)):=x;show h'.get? a=some (ab8 (.ref f) (.ref y));exact k a _ (.inl rfl) e
 |ext φ=>obtain⟨p,⟨o,e⟩,st⟩:=x;exact⟨st _ _ p λo q=>k _ _ (.inl rfl) q,⟨o,k _ _ (.inl rfl) e⟩,st⟩
def cc.lt (x:cc P w H h) (e:H a=some o):a<h.objs.size:=(x a o e).lt
def cc.fresh (x:cc P w H h) (e:h.objs.size<=a):H a=none:=by
 cases q:H a with
 |none=>rfl
 |some u=>exact absurd (Ê (x.lt q) e) (é _)
def cc.kept (x:cc P w H h) (k:∀b u,h.get? b=some u->h'.get? b=some u):cc P w H h':=λa o e =>
 (x a o e).ie (λb u _ q=>k b u q) (λ_ q=>q) λ_ _ q=>q
def cc.laid (x:cc P w H h) (k:∀b u,h.get? b=some u->h'.get? b=some u) (hp:h.objs.size<=a) (new:cJ P w (upd H a o) h' a o):cc P w (upd H a o) h':=λb u e=>by
 have hn:=x.fresh hp;by_cases hb:b=a
 ·subst hb;rw[dw] at e;cases e;exact new
 ·rw[bt hb] at e
  exact(x b u e).ie (λc v _ q=>k c v q) (λc q=>by rw[bt (ff q hn)];exact q) λc xs q=>by rw[bt (ff q hn)];exact q
end
def Rd (H:Hp) (a:á) (u:HO):Prop:=H a=some u\/∃o,H a=some (.cO o u)
def Rd.ok (r:Rd H a u) (x:cc P w H h):cJ P w H h a u:=by
 rcases r with r | ⟨o,r⟩
 ·exact x a u r
 ·obtain⟨_,q⟩:=x a _ r
  exact q
def uQ:Option HO->Prop
 |some (.lst _)=>True
 |some (.dK _)=>True
 |some (.dT _)=>True
 |some (.set _ _)=>True
 |some (.ins _ _ _)=>True
 |some (.ext _)=>True
 |_=>False
section
variable {P:ù} {w:ď} {H:Hp} {h h':ŏ} {x e:á} {o':HO}
def cc.write (ok:cc P w H h) (mu:uQ (H x)) (he:e=x\/H e=some (.own x)) (k:∀b u,b≠e->h.get? b=some u->h'.get? b=some u) (sj:∃u,h'.get? e=some u)
  (new:cJ P w (upd H x o') h' x o'):cc P w (upd H x o') h':=λb u q=>by
 have KD:∀c y,H c=some (.own y)->c≠x:=λc y r z=>by subst z;rw[r] at mu;exact mu
 have Wz:∀c xs,H c=some (.tup xs)->c≠x:=λc xs r z=>by subst z;rw[r] at mu;exact mu
 by_cases hb:b=x
 ·subst hb;rw[dw] at q;cases q;exact new
 ·rw[bt hb] at q
  by_cases pX:b=e
  ·have q':H b=some (.own x):=by
    rcases he with z|z
    ·exact absurd (pX.trans z) hb
    ·rw[pX];exact z
   rw[q] at q';cases q';obtain⟨v,hv⟩:=sj;exact⟨v,by rw[pX];exact hv⟩
  ·refine(ok b u q).ie (λc v hc r=>k c v ?_ r) (λc r=>by rw[bt (KD c b r)];exact r) λc xs r=>by rw[bt (Wz c xs r)];exact r
   rcases hc with rfl|hc
   ·exact pX
   ·rintro rfl
    rcases he with z|z
    ·exact KD c b hc z
    ·rw[hc] at z;cases z;exact hb rfl
end
structure Un (fs ex:List á) (H H':Hp) (h h':ŏ):Prop where
 keep:∀b o,h.get? b=some o->H b=none->b∉fs->b∉ex->h'.get? b=some o
 slot:∀b o,h.get? b=some o->H b=none->b∈fs->b∉ex->∃sl,h'.get? b=some { o with slots:=sl }
 free:∀b o,h.get? b=some o->H b=none->b∉ex->H' b=none
 there:∀b o,h.get? b=some o->b∉ex->∃o',h'.get? b=some o'
 jV:∀b xs,H b=some (.tup xs)->H' b=some (.tup xs)
 jr:∀b o u,H b=some (.cO o u)->H' b=some (.cO o u)
 kD:∀b ps,H b=some (.pW ps)->∃more,H' b=some (.pW (ps++more))
section
variable {fs Xy ex ex':List á} {H H1 H2:Hp} {h h1 h2 h':ŏ} {a x e:á} {o:HO}
def Un.any (u:Un fs ex H H1 h h1) (q:h.get? b=some ob) (n:H b=none) (hx:b∉ex):∃sl,h1.get? b=some { ob with slots:=sl }:=by
 by_cases hb:b∈fs
 ·exact u.slot b ob q n hb hx
 ·exact⟨ob.slots,u.keep b ob q n hb hx⟩
def Un.kept (k:∀b u,h.get? b=some u->h'.get? b=some u):Un fs ex H H h h' :=
 ⟨λb ob q _ _ _=>k b ob q,λb ob q _ _ _=>⟨ob.slots,k b ob q⟩,λ_ _ _ n _=>n,λb ob q _=>⟨ob,k b ob q⟩,λ_ _ q=>q,λ_ _ _ q=>q,λ_ ps q=>⟨#[],by rw[q];simp⟩⟩
def Un.refl:Un fs ex H H h h:=Un.kept λ_ _ q=>q
def Un.laid (k:∀b u,h.get? b=some u->h'.get? b=some u) (hp:h.objs.size<=a) (hn:H a=none):Un fs ex H (upd H a o) h h' where
 keep:=λb u q _ _ _=>k b u q
 slot:=λb u q _ _ _=>⟨u.slots,k b u q⟩
 free:=λb u q n _=>by rw[bt (è (Ê (Î q) hp))];exact n
 there:=λb u q _=>⟨u,k b u q⟩
 jV:=λb xs q=>by rw[bt (ff q hn)];exact q
 jr:=λb u xs q=>by rw[bt (ff q hn)];exact q
 kD:=λb ps q=>⟨#[],by rw[bt (ff q hn),q];simp⟩
def Un.write (mu:uQ (H x)) (he:e=x\/H e=some (.own x)) (k:∀b u,b≠e->h.get? b=some u->h'.get? b=some u) (sj:∃u,h'.get? e=some u):Un fs ex H (upd H x o) h h':=by
 have hx:∀b,H b=none->b≠x:=λb n z=>by subst z;rw[n] at mu;exact mu
 have hb:∀b,H b=none->b≠e:=λb n z=>by
  subst z
  rcases he with r|r
  ·exact hx b n r
  ·rw[n] at r;cases r
 have hm:∀b u,H b=some u->¬ uQ (some u)->b≠x:=λb u q nm z=>by subst z;rw[q] at mu;exact nm mu
 refine⟨λb u q n _ _=>k b u (hb b n) q,λb u q n _ _=>⟨u.slots,k b u (hb b n) q⟩,λb u q n _=>by rw[bt (hx b n)];exact n,λb u q _=>?_,
  λb xs q=>by rw[bt (hm b _ q λz=>z)];exact q,λb u xs q=>by rw[bt (hm b _ q λz=>z)];exact q,λb ps q=>⟨#[],by rw[bt (hm b _ q λz=>z),q];simp⟩⟩
 by_cases pX:b=e
 ·subst pX;exact sj
 ·exact⟨u,k b u pX q⟩
end
def yK (h:ŏ) (H:Hp):List á:=(ß h.objs.size).filter λa=>(H a).isSome
def mG (h:ŏ) (H:Hp):ŏ:=PySem.W.hideAll h (yK h H)
def OK (h:ŏ) (H:Hp):(mG h H).objs.size=h.objs.size:=PySem.W.hideAll_size _ _
def P7 (e:h.get? b=some o) (n:H b=none):(mG h H).get? b=some o :=
 PySem.W.hideAll_get _ e λhm=>by
  have q:(H b).isSome=true:=(ć.mp hm).2;rw[n] at q;simp at q
def RA (e:(mG h H).get? b=some o):h.get? b=some o/\H b=none:=by
 have e':h.get? b=some o:=PySem.W.of_hideAll (yK h H) e;refine⟨e',?_⟩
 cases q:H b with
 |none=>rfl
 |some x =>
  have hm:b∈yK h H:=ć.mpr ⟨Ā.mpr (Î e'),by simp[q]⟩;have z:(mG h H).get? b=none:=PySem.W.hideAll_none (yK h H) hm;rw[z] at e;cases e
noncomputable def RC (g h:ŏ) (L:á):List (á×Obj):=(ß h.objs.size).filterMap λa=>if a=L\/(g.get? a).isSome=true then none else (h.get? a).map λo=>(a,o)
def rest (g h:ŏ) (L d:á):List (á×Obj):=(RC g h L).filter λp=>decide (p.1≠d)
structure Mod (K:Ĳ) (mg:Str->Option Í) (base:ŏ):Prop where
 uR:K.In base
 glob:base.Ns ò mg
 blt:∃mb,base.Ns builtinsNs mb/\∀x:Str,x≠"__name__"->mb x=ą x
 nolimit:base.NoLimit
structure Cx where
 prog:ù
 w:ď
 K:Ĳ
 mg:Str->Option Í
 base:ŏ
 A:đ
 N:List Str
 dQ:É
 uD:Hp
 env:Env
 outer:List Env
 stack:List Env
 ex:List á
 fn:Str->Bool
 calm:Bool
 pn:List (á×Obj)
 xe:Í->É->Prop
noncomputable def gU (l:List Env):List á:=l.filterMap (·.frame)
abbrev Cx.fs (X:Cx):List á:=gU X.outer
def uT (sc:abf) (x:Str):Prop:=sc.names.lookup x=some .local\/sc.names.lookup x=some .cell\/sc.names.lookup x=some .free
def Loc (sc:abf) (x:Str):Prop:=sc.names.lookup x=some .local\/sc.names.lookup x=some .cell
def Look (env:Env) (h:ŏ) (m:Str->Option Í) (x:Str) (u:Í):Prop :=
 (env.kindOf x=some .local/\m x=some u)\/((env.kindOf x=some .cell\/env.kindOf x=some .free)/\∃c,env.cells.lookup x=some c/\h.IsCell c (some u))
structure Cx.Ok (X:Cx):Prop where
 mod:Mod X.K X.mg X.base
 kind:X.env.scope.kind=.function
 glob:X.env.globals=ò
 blt:X.env.builtins=builtinsNs
 above:X.dQ.heap.objs.size<=X.env.locals
 inj:∀x y c,X.env.cells.lookup x=some c->X.env.cells.lookup y=some c->x=y
 has:∀x,(X.env.kindOf x=some .cell\/X.env.kindOf x=some .free)->∃c,X.env.cells.lookup x=some c
 pY:∀x c,X.fn x=true->X.env.cells.lookup x=some c->X.dQ.heap.objs.size<=c
 hd:X.calm=true->X.A.handled=none
 frames:X.A.frames=some X.stack
 sk:X.stack=X.outer\/(X.stack=X.env::X.outer/\X.env.frame=some X.env.locals)
 yL:∀b∈X.ex,b≠X.env.locals/\∀x c,X.env.cells.lookup x=some c->c≠b
 bs:∀b o,X.base.get? b=some o->X.dQ.heap.get? b=some o/\X.uD b=none
 i8:X.base.objs.size<=X.dQ.heap.objs.size
 lO:∀b o,X.base.get? b=some o->b∉X.ex
 rP:∀b∈X.ex,b∉X.fs
 js:X.dQ.heap.FunFrames X.base X.outer
 oh:∀b∈X.fs,X.uD b=none
structure Inv (X:Cx) (π:List (á×Obj)) (σ:List (Option V)) (H:Hp) (s:É):Prop where
 ok:X.Ok
 os:s.os=X.dQ.os
 bare:AllBare s.gens
 base:Un X.fs X.ex X.uD H X.dQ.heap s.heap
 loc:∃m,s.heap.Ns X.env.locals m/\∀(i:Nat) (x:Str) (v:V),X.N[i]?=some x->σ[i]?=some (some v)->uT X.env.scope x->∃u,RelV v u/\Look X.env s.heap m x u
 cell:∀x c,X.env.cells.lookup x=some c->∃v,s.heap.IsCell c v
 free:H X.env.locals=none
 fj:∀x c,X.env.cells.lookup x=some c->H c=none
 pin:∀p∈X.pn++π,s.heap.get? p.1=some p.2/\H p.1=none/\p.1≠X.env.locals/\p.1∉X.fs/\∀v,p.2.data≠.cell v
 aF:cc X.prog X.w H s.heap
 len:σ.length=X.N.length
section
variable {X:Cx} {π:List (á×Obj)} {σ:List (Option V)} {H H':Hp} {s:É} {h':ŏ}
def Cx.Ok.WA (ok:X.Ok) (e:X.base.get? b=some o):b∉X.fs:=λhb=>by
 have:=(ok.js.mem hb).1;rw[e] at this;cases this
def Inv.bs (I:Inv X π σ H s):∀b o,X.base.get? b=some o->s.heap.get? b=some o/\H b=none:=λb o e =>
 ⟨I.base.keep b o (I.ok.bs b o e).1 (I.ok.bs b o e).2 (I.ok.WA e) (I.ok.lO b o e),I.base.free b o (I.ok.bs b o e).1 (I.ok.bs b o e).2 (I.ok.lO b o e)⟩
def Inv.bk (I:Inv X π σ H s):∀b o,X.base.get? b=some o->s.heap.get? b=some o:=λb o e=>(I.bs b o e).1
def Inv.mod (I:Inv X π σ H s):Mod X.K X.mg X.base:=I.ok.mod
def Inv.sm (I:Inv X π σ H s):X.K.In s.heap:=I.ok.mod.uR.keeps I.bk
def Inv.lt (I:Inv X π σ H s):X.env.locals<s.heap.objs.size:=let ⟨_,hn,_⟩:=I.loc;hn.lt
def Inv.sz (I:Inv X π σ H s):X.dQ.heap.objs.size<=s.heap.objs.size:=Û I.ok.above (Nat.le_of_lt I.lt)
def Inv.pG (I:Inv X π σ H s) {a:á} (h:s.heap.objs.size<=a):a∉X.fs:=λhb=>by
 obtain⟨_,o,ho,_⟩:=I.ok.js.mem hb;exact absurd (Ê (Î ho) (Û I.sz h)) (é _)
def Inv.pZ (I:Inv X π σ H s):∀x c,X.env.cells.lookup x=some c->c≠X.env.locals:=λx c e z=>by
 obtain⟨v,o,ho,hd⟩:=I.cell x c e;obtain⟨m,⟨o',es,ep,dg,ei,_⟩,_⟩:=I.loc;rw[z,dg] at ho;cases ho;rw[ei] at hd;cases hd
def Inv.js (I:Inv X π σ H s):s.heap.FunFrames X.base X.outer:=by
 have all:∀(l:List Env),(∀b∈gU l,b∈X.fs)->X.dQ.heap.FunFrames X.base l->s.heap.FunFrames X.base l:=by
  intro l
  induction l with
  |nil=>intro _ _;trivial
  |cons env r ih =>
   intro hs hl;obtain⟨hk,⟨L,o,hf,hn,ho,hd⟩,hr⟩:=hl;have hL:L∈X.fs:=hs L (by unfold gU;rw[abP,hf];exact Ò);obtain⟨sl,e⟩:=I.base.slot L o ho (I.ok.oh L hL) hL λz=>I.ok.rP L z hL;exact⟨hk,⟨L,_,hf,hn,e,hd⟩,ih (λb hb=>hs b (by unfold gU;rw[abP,hf];exact Ñ _ hb)) hr⟩
 exact all X.outer (λ_ hb=>hb) I.ok.js
def Inv.stack (I:Inv X π σ H s):s.heap.FunFrames X.base X.stack:=by
 rcases I.ok.sk with e | ⟨e,hf⟩
 ·rw[e];exact I.js
 ·rw[e]
  obtain⟨m,hn,_⟩:=I.loc;refine .cons (by rw[I.ok.kind];decide) hf hn ?_ I.js;exact Heap.get?_none_of_le (Û I.ok.i8 I.ok.above)
def Inv.ki (I:Inv X π σ H s):∀b∈gU X.stack,b∈X.env.locals::X.fs:=λb hb=>by
 rcases I.ok.sk with e | ⟨e,hf⟩
 ·rw[e] at hb;exact Ñ _ hb
 ·rw[e] at hb
  unfold gU at hb;rw[abP,hf] at hb;exact hb
def Inv.AB (I:Inv X π σ H s):∀b∈gU X.stack,H b=none:=λb hb=>by
 rcases Ó.mp (I.ki b hb) with e|hb
 ·rw[e];exact I.free
 ·obtain⟨_,o,ho,_⟩:=I.ok.js.mem hb
  exact I.base.free b o ho (I.ok.oh b hb) λz=>I.ok.rP b z hb
def Inv.step {g':Array GenState} {t':Nat} {d':Drawn} {ch:List á} (I:Inv X π σ H s)
  (lU:∀b∈ch,(b∈X.ex\/X.dQ.heap.objs.size<=b)/\b≠X.env.locals/\(∀x c,X.env.cells.lookup x=some c->c≠b)/\∀p∈X.pn++π,p.1≠b)
  (keep:∀b o,b≠X.env.locals->b∉X.fs->b∉ch->s.heap.get? b=some o->H b=none->h'.get? b=some o)
  (slot:∀b o,b≠X.env.locals->b∈X.fs->b∉ch->s.heap.get? b=some o->H b=none->∃sl,h'.get? b=some { o with slots:=sl }) (free:∀b o,b∉ch->s.heap.get? b=some o->H b=none->H' b=none)
  (there:∀b o,b∉ch->s.heap.get? b=some o->∃o',h'.get? b=some o')
  (jV:∀b xs,H b=some (.tup xs)->H' b=some (.tup xs)) (jr:∀b o u,H b=some (.cO o u)->H' b=some (.cO o u)) (kD:∀b ps,H b=some (.pW ps)->∃more,H' b=some (.pW (ps++more)))
  (ns:∀m,s.heap.Ns X.env.locals m->h'.Ns X.env.locals m) (aF:cc X.prog X.w H' h') (hg:AllBare g') :
  Inv X π σ H' { s with heap:=h',gens:=g',drawn:=d',toks:=t' }:=by
 have La:∀b o,X.dQ.heap.get? b=some o->b≠X.env.locals:=λb o e=>è (Ê (Î e) I.ok.above);have yM:∀b o,X.dQ.heap.get? b=some o->b∉X.ex->b∉ch:=λb o e hx hb=>by
  rcases(lU b hb).1 with z|z
  ·exact hx z
  ·exact absurd (Ê (Î e) z) (é _)
 have cellK:∀x c,X.env.cells.lookup x=some c->∀v,s.heap.IsCell c v->h'.IsCell c v:=λx c e v ⟨o,ho,hd⟩=>by
  have uU:c∉ch:=λz=>(lU c z).2.2.1 x c e rfl;by_cases hc:c∈X.fs
  ·obtain⟨sl,q⟩:=slot c o (I.pZ x c e) hc uU ho (I.fj x c e)
   exact⟨_,q,hd⟩
  ·exact⟨o,keep c o (I.pZ x c e) hc uU ho (I.fj x c e),hd⟩
 refine⟨I.ok,I.os,hg,⟨λb o e n hb hx=>?_,λb o e n hb hx=>?_,λb o e n hx=>?_,λb o e hx=>?_,λb xs e=>jV b xs (I.base.jV b xs e),λb o xs e=>jr b o xs (I.base.jr b o xs e),λb ps e=>?_⟩,?_,λx c e=>?_,?_,λx c e=>?_,λp hp=>?_,aF,I.len⟩
 ·exact keep b o (La b o e) hb (yM b o e hx) (I.base.keep b o e n hb hx) (I.base.free b o e n hx)
 ·obtain⟨sl,e1⟩:=I.base.slot b o e n hb hx
  obtain⟨Xz,e2⟩:=slot b _ (La b o e) hb (yM b o e hx) e1 (I.base.free b o e n hx);exact⟨Xz,e2⟩
 ·obtain⟨o',e1⟩:=I.base.there b o e hx
  exact free b o' (yM b o e hx) e1 (I.base.free b o e n hx)
 ·obtain⟨o',e1⟩:=I.base.there b o e hx
  exact there b o' (yM b o e hx) e1
 ·obtain⟨m1,e1⟩:=I.base.kD b ps e
  obtain⟨m2,e2⟩:=kD b _ e1;exact⟨m1++m2,by rw[e2,Array.append_assoc]⟩
 ·obtain⟨m,hn,hl⟩:=I.loc
  refine⟨m,ns m hn,λi x v e1 e2 e3=>?_⟩;obtain⟨u,r,l⟩:=hl i x v e1 e2 e3;refine⟨u,r,?_⟩
  rcases l with l | ⟨k,c,e,z⟩
  ·exact .inl l
  ·exact .inr ⟨k,c,e,cellK x c e _ z⟩
 ·obtain⟨v,z⟩:=I.cell x c e
  exact⟨v,cellK x c e v z⟩
 ·obtain⟨m,⟨o,_,_,ho,_⟩,_⟩:=I.loc
  exact free _ o (λz=>(lU _ z).2.1 rfl) ho I.free
 ·obtain⟨v,o,ho,hd⟩:=I.cell x c e
  exact free c o (λz=>(lU c z).2.2.1 x c e rfl) ho (I.fj x c e)
 ·obtain⟨e,n,ne,nf,d⟩:=I.pin p hp
  have uU:p.1∉ch:=λz=>(lU p.1 z).2.2.2 p hp rfl;exact⟨keep p.1 p.2 ne nf uU e n,free p.1 p.2 uU e n,ne,nf,d⟩
def Inv.un {t':Nat} (I:Inv X π σ H s) (u:Un X.fs [] H H' s.heap h') (aF:cc X.prog X.w H' h'):Inv X π σ H' { s with heap:=h',toks:=t' }:=by
 obtain⟨m,⟨o,es,ep,ho,r⟩,_⟩:=id I.loc;obtain⟨sl,hL⟩:=u.any ho I.free (by simp)
 exact I.step (g':=s.gens) (d':=s.drawn) (ch:=[]) (λ_ z=>nomatch z) (λb o _ hb _ e n=>u.keep b o e n hb (by simp)) (λb o _ hb _ e n=>u.slot b o e n hb (by simp)) (λb o _ e n=>u.free b o e n (by simp)) (λb o _ e=>u.there b o e (by simp)) u.jV u.jr u.kD (λm' hm=>by
  obtain⟨o',gu,uV,dg,r'⟩:=hm;rw[ho] at dg;cases dg;exact⟨_,gu,uV,hL,r'⟩) aF I.bare
def Inv.call {g':Array GenState} {t':Nat} {d':Drawn} {ch:List á} (I:Inv X π σ H s) (u:Un (gU X.stack) ch H H' s.heap h') (aF:cc X.prog X.w H' h') (hg:AllBare g')
  (lU:∀b∈ch,(b∈X.ex\/X.dQ.heap.objs.size<=b)/\b≠X.env.locals/\(∀x c,X.env.cells.lookup x=some c->c≠b)/\∀p∈X.pn++π,p.1≠b) :
  Inv X π σ H' { s with heap:=h',gens:=g',drawn:=d',toks:=t' }:=by
 obtain⟨m,⟨o,es,ep,ho,r⟩,_⟩:=id I.loc;obtain⟨sl,hL⟩:=u.any ho I.free λz=>(lU _ z).2.1 rfl;exact I.step (ch:=ch) lU (λb o hL hb hc e n=>u.keep b o e n (λz=>(Ó.mp (I.ki b z)).elim hL hb) hc) (λb o _ _ hc e n=>u.any e n hc) (λb o hc e n=>u.free b o e n hc) (λb o hc e=>u.there b o e hc) u.jV u.jr u.kD (λm' hm=>by
  obtain⟨o',gu,uV,dg,r'⟩:=hm;rw[ho] at dg;cases dg;exact⟨_,gu,uV,hL,r'⟩) aF hg
def Inv.turned {t':Nat} {it:á} (I:Inv X π σ H s) (k:∀b o,b≠it->s.heap.get? b=some o->h'.get? b=some o) (hn:H it=none) (hL:it≠X.env.locals)
  (h1:it∈X.ex\/X.dQ.heap.objs.size<=it) (h2:∀x c,X.env.cells.lookup x=some c->c≠it) (h3:∀p∈X.pn++π,p.1≠it):Inv X π σ H { s with heap:=h',toks:=t' }:=by
 have Lb:∀b u,H b=some u->b≠it:=λb u e z=>by rw[z,hn] at e;cases e
 refine I.step (g':=s.gens) (d':=s.drawn) (ch:=[it]) (λb hb=>?_) (λb o _ _ hc e _=>k b o (λz=>hc (by simp[z])) e) (λb o _ _ hc e _=>⟨o.slots,k b o (λz=>hc (by simp[z])) e⟩) (λ_ _ _ _ n=>n)
  (λb o hc e=>⟨o,k b o (λz=>hc (by simp[z])) e⟩) (λ_ _ e=>e) (λ_ _ _ e=>e) (λb ps e=>⟨#[],by rw[e];simp⟩) (λm hm=>?_) (λb u e=>?_) I.bare
 ·have e:b=it:=by simpa using hb
  subst e;exact⟨h1,hL,h2,h3⟩
 ·obtain⟨o,es,ep,ho,r⟩:=hm
  exact⟨o,es,ep,k _ o (Ň hL) ho,r⟩
 ·refine(I.aF b u e).ie (λc v hc q=>k c v ?_ q) (λ_ q=>q) λ_ _ q=>q
  rcases hc with z|z
  ·rw[z];exact Lb b u e
  ·exact Lb c _ z
def Inv.tok (I:Inv X π σ H s) (t:Nat):Inv X π σ H { s with toks:=t }:=I.un (h':=s.heap) (t':=t) Un.refl I.aF
def Inv.kept (I:Inv X π σ H s) (k:∀b u,s.heap.get? b=some u->h'.get? b=some u):Inv X π σ H { s with heap:=h',toks:=t' }:=I.un (Un.kept k) (I.aF.kept k)
def Inv.laid {a:á} {o:HO} {t':Nat} (I:Inv X π σ H s) (k:∀b u,s.heap.get? b=some u->h'.get? b=some u) (hp:s.heap.objs.size<=a) (new:cJ X.prog X.w (upd H a o) h' a o) :
  Inv X π σ (upd H a o) { s with heap:=h',toks:=t' }:=I.un (Un.laid k hp (I.aF.fresh hp)) (I.aF.laid k hp new)
def Inv.write (I:Inv X π σ H s) (mu:uQ (H x)) (he:e=x\/H e=some (.own x)) (k:∀b u,b≠e->s.heap.get? b=some u->h'.get? b=some u) (sj:∃u,h'.get? e=some u)
 (new:cJ X.prog X.w (upd H x o) h' x o):Inv X π σ (upd H x o) { s with heap:=h',toks:=t' }:=I.un (Un.write mu he k sj) (I.aF.write mu he k sj new)
def Inv.ix (I:Inv X π σ H s) (h:∀p∈pins',s.heap.get? p.1=some p.2/\H p.1=none/\p.1≠X.env.locals/\p.1∉X.fs/\∀v,p.2.data≠.cell v):Inv X pins' σ H s :=
 ⟨I.ok,I.os,I.bare,I.base,I.loc,I.cell,I.free,I.fj,λp hp=>(Ù.mp hp).elim (λz=>I.pin p (ħ _ z)) (h p),I.aF,I.len⟩
def GV {N:List Str} (hN:N.Nodup) {i j:Nat} {x:Str} (a:N[i]?=some x) (b:N[j]?=some x):i=j:=by
 obtain⟨h1,e1⟩:=Å.mp a;obtain⟨h2,e2⟩:=Å.mp b;exact(List.getElem_inj hN).mp (e1.trans e2.symm)
def OL {M:Model} {A:đ} {E:Í->É->Prop} {i:Nat} {x:Str} {v:V} {u:Í} {Q:Unit->É->Prop} (I:Inv X π σ H s) (hN:X.N.Nodup) (hi:X.N[i]?=some x) (hx:Loc X.env.scope x) (r:RelV v u)
  (h:∀s',Inv X π (σ.set i (some v)) H s'->(∃a,ĸ a s.heap s'.heap/\(a=X.env.locals\/X.env.cells.lookup x=some a))->Q () s') (hf:X.fn x=true\/X.env.scope.names.lookup x=some .local:=by first|exact .inl rfl|exact .inr rfl|assumption):à M A (storeName X.env x u) Q E s:=by
 obtain⟨m,hn,hl⟩:=id I.loc;have WB:(X.env.scope.kind==.class||(X.env.scope.kind==.module&&X.env.locals != X.env.globals))=false:=by rw[I.ok.kind];rfl
 have KG:i < σ.length:=by rw[I.len];exact(Å.mp hi).1
 have pZ:=I.pZ;have tracked:∀{a:á} {h':ŏ},(∃o,s.heap.get? a=some o/\H a=none)->ĸ a s.heap h'->cc X.prog X.w H h':=λ{a h'} ha hs b ob e=>by
  obtain⟨_,_,JT⟩:=ha;refine(I.aF b ob e).ie (λc w' hc q=>(hs.2 c ?_).trans q) (λ_ q=>q) λ_ _ q=>q;rintro rfl
  rcases hc with rfl|hc
  ·rw[JT] at e;cases e
  ·rw[JT] at hc;cases hc
 rcases hx with hk|hk
 ·refine wpAny_storeName_local hk hn (λh' Lc hs=>?_) WB
  obtain⟨oL,_,_,uW,_⟩:=id hn;refine h _ ⟨I.ok,I.os,I.bare,⟨λb o e n hb hx=>?_,λb o e n hb hx=>?_,I.base.free,λb o e hx=>?_,I.base.jV,I.base.jr,I.base.kD⟩,⟨_,Lc,λj y v' e1 e2 e3=>?_⟩,λy c e=>?_,I.free,I.fj,λp hp=>?_,tracked ⟨oL,uW,I.free⟩ hs,by simpa using I.len⟩ ⟨_,hs,.inl rfl⟩
  ·exact(hs.2 b (è (Ê (Î e) I.ok.above))).trans (I.base.keep b o e n hb hx)
  ·obtain⟨sl,e1⟩:=I.base.slot b o e n hb hx
   exact⟨sl,(hs.2 b (è (Ê (Î e) I.ok.above))).trans e1⟩
  ·obtain⟨o',e1⟩:=I.base.there b o e hx
   exact⟨o',(hs.2 b (è (Ê (Î e) I.ok.above))).trans e1⟩
  ·by_cases hj:j=i
   ·subst hj
    rw[hi] at e1;cases e1;rw[ã KG] at e2;cases e2;exact⟨u,r,.inl ⟨hk,by simp⟩⟩
   ·rw[Ø (Ň hj)] at e2
    obtain⟨u',r',q⟩:=hl j y v' e1 e2 e3;refine⟨u',r',?_⟩
    rcases q with ⟨k,e⟩ | ⟨k,c,e,z⟩
    ·refine .inl ⟨k,?_⟩
     have:y≠x:=λe=>hj (GV hN e1 (e ▸ hi));simp[this,e]
    ·exact .inr ⟨k,c,e,z.sameBut hs (pZ y c e)⟩
  ·obtain⟨w',z⟩:=I.cell y c e
   exact⟨w',z.sameBut hs (pZ y c e)⟩
  ·obtain⟨e,n,ne,nf,d⟩:=I.pin p hp
   exact⟨(hs.2 p.1 ne).trans e,n,ne,nf,d⟩
 ·have Dd:X.fn x=true:=by
   rcases hf with z|z
   ·exact z
   ·rw[z] at hk;cases hk
  obtain⟨c,hc⟩:=I.ok.has x (.inl hk);obtain⟨w',z⟩:=I.cell x c hc;refine wpAny_storeName_cell I.ok.kind hk hc z (λh' i9 hs=>?_);obtain⟨oc,j4,WC⟩:=id z
  refine h { s with heap:=h' } ⟨I.ok,I.os,I.bare,⟨λb o e n hb hx=>?_,λb o e n hb hx=>?_,I.base.free,λb o e hx=>?_,I.base.jV,I.base.jr,I.base.kD⟩,⟨m,hn.sameBut hs (Ň (pZ x c hc)),λj y v' e1 e2 e3=>?_⟩,λy c' e=>?_,I.free,I.fj,λp hp=>?_,tracked ⟨oc,j4,I.fj x c hc⟩ hs,by simpa using I.len⟩ ⟨c,hs,.inr hc⟩
  ·exact(hs.2 b (è (Ê (Î e) (I.ok.pY x c Dd hc)))).trans (I.base.keep b o e n hb hx)
  ·obtain⟨sl,e1⟩:=I.base.slot b o e n hb hx
   exact⟨sl,(hs.2 b (è (Ê (Î e) (I.ok.pY x c Dd hc)))).trans e1⟩
  ·obtain⟨o',e1⟩:=I.base.there b o e hx
   exact⟨o',(hs.2 b (è (Ê (Î e) (I.ok.pY x c Dd hc)))).trans e1⟩
  ·by_cases hj:j=i
   ·subst hj
    rw[hi] at e1;cases e1;rw[ã KG] at e2;cases e2;exact⟨u,r,.inr ⟨.inl hk,c,hc,i9⟩⟩
   ·rw[Ø (Ň hj)] at e2
    obtain⟨u',r',q⟩:=hl j y v' e1 e2 e3;refine⟨u',r',?_⟩
    rcases q with q | ⟨k,c',e,z'⟩
    ·exact .inl q
    ·refine .inr ⟨k,c',e,z'.sameBut hs ?_⟩
     rintro rfl;exact hj (GV hN e1 (I.ok.inj _ _ _ e hc ▸ hi))
  ·by_cases Ld:c'=c
   ·subst Ld;exact⟨_,i9⟩
   ·obtain⟨w2,z2⟩:=I.cell y c' e
    exact⟨w2,z2.sameBut hs Ld⟩
  ·obtain⟨e,n,ne,nf,d⟩:=I.pin p hp
   refine⟨(hs.2 p.1 ?_).trans e,n,ne,nf,d⟩;intro q;rw[q,j4] at e;have q':oc=p.2:=Option.some.inj e;exact d w' (by rw[<- q'];exact WC)
def mq (I:Inv X π σ H s) (hN:X.N.Nodup) (hi:X.N[i]?=some x) (hx:Loc X.env.scope x) (r:RelV v u)
 (h:∀s',Inv X π (σ.set i (some v)) H s'->Q () s') (hf:X.fn x=true\/X.env.scope.names.lookup x=some .local:=by first|exact .inl rfl|exact .inr rfl|assumption):à M A (storeName X.env x u) Q E s :=
 OL I hN hi hx r (λs' I' _=>h s' I') hf
def Inv.xO (I:Inv X π σ H s) (ho:s'.os=s.os) (u:Un (gU X.stack) ch H H' s.heap s'.heap) (aF:cc X.prog X.w H' s'.heap) (hg:AllBare s'.gens)
 (lU:∀b∈ch,(b∈X.ex\/X.dQ.heap.objs.size<=b)/\b≠X.env.locals/\(∀x c,X.env.cells.lookup x=some c->c≠b)/\∀p∈X.pn++π,p.1≠b):Inv X π σ H' s':=by
 obtain⟨h',g',d',t',o'⟩:=s';have e:o'=s.os:=ho;subst e;exact I.call (g':=g') (t':=t') (d':=d') u aF hg lU
end
abbrev XK:=Í->Option á->Hp->Prop
noncomputable abbrev St:=List (Option V)
abbrev VK:=V->Hp->Prop
abbrev TE:=St->Hp->VK->Prop
abbrev TT:=St->Hp->(Bool->Hp->Prop)->Prop
abbrev TA:=St->Hp->(List V->Hp->Prop)->Prop
structure Ends where
 nx:St->Hp->Prop
 rt:VK
 bk:St->Hp->Prop:=λ_ _=>False
 ct:St->Hp->Prop:=λ_ _=>False
abbrev TS:=Ends->St->Hp->Prop
def EP (X:Cx) (π:List (á×Obj)) (σ:St) (Q:VK) (u:Í) (s':É):Prop:=∃v H',Inv X π σ H' s'/\RelV v u/\Q v H'
def TP (X:Cx) (π:List (á×Obj)) (σ:St) (Q:Bool->Hp->Prop) (b:Bool) (s':É):Prop:=∃H',Inv X π σ H' s'/\Q b H'
def AP (X:Cx) (π:List (á×Obj)) (σ:St) (Q:List V->Hp->Prop) (us:List Í) (s':É):Prop:=∃vs H',Inv X π σ H' s'/\Vals vs us/\Q vs H'
def SP (X:Cx) (π:List (á×Obj)) (D:Ends) (f:Flow) (s':É):Prop :=
 match f with
 | .next=>∃ ba H',Inv X π ba H' s'/\D.nx ba H'
 | .brk=>∃ ba H',Inv X π ba H' s'/\D.bk ba H'
 | .cont=>∃ ba H',Inv X π ba H' s'/\D.ct ba H'
 | .ret u=>∃v ba H',Inv X π ba H' s'/\RelV v u/\D.rt v H'
def PE (X:Cx) (e:ļ) (t:TE):Prop :=
 ∀(π:List (á×Obj)) (s:É) (σ:St) (H:Hp) (Q:VK),Inv X π σ H s->t σ H Q->à (ø X.prog X.w) X.A (Ť e X.env) (EP X π σ Q) X.xe s
def PT (X:Cx) (e:ļ) (t:TT):Prop :=
 ∀(π:List (á×Obj)) (s:É) (σ:St) (H:Hp) (Q:Bool->Hp->Prop),Inv X π σ H s->t σ H Q->à (ø X.prog X.w) X.A (isTrue e X.env (Ť e X.env)) (TP X π σ Q) X.xe s
def PW (X:Cx) (e:ļ) (t:TT):Prop :=
 ∀(whole:Sem Í) (π:List (á×Obj)) (s:É) (σ:St) (H:Hp) (Q:Bool->Hp->Prop),Inv X π σ H s->t σ H Q->à (ø X.prog X.w) X.A (isTrue e X.env whole) (TP X π σ Q) X.xe s
def PW.pt (h:PW X e t):PT X e t:=h _
def PA (X:Cx) (es:List ļ) (t:TA):Prop :=
 ∀(pos:Pos) (π:List (á×Obj)) (s:É) (σ:St) (H:Hp) (Q:List V->Hp->Prop),Inv X π σ H s->t σ H Q->à (ø X.prog X.w) X.A (spliced (aab pos (Þ es X.env))) (AP X π σ Q) X.xe s
def PS (X:Cx) (st:Stmt) (t:TS):Prop :=
 ∀(π:List (á×Obj)) (s:É) (σ:St) (H:Hp) (D:Ends),Inv X π σ H s->t D σ H->à (ø X.prog X.w) X.A (exec st X.env) (SP X π D) X.xe s
def eT (X:Cx) (st:List Stmt) (t:TS):Prop :=
 ∀(π:List (á×Obj)) (s:É) (σ:St) (H:Hp) (D:Ends),Inv X π σ H s->t D σ H->à (ø X.prog X.w) X.A (execs st X.env) (SP X π D) X.xe s
def aE {α:Type} {t:Sem α} {Q Q':α->É->Prop} {M:Model} {A:đ} {E:Í->É->Prop} {s:É} (h:à M A t Q E s) (hQ:∀a s,Q a s->Q' a s):à M A t Q' E s:=ĳ h hQ λ_ _ x=>x
section
variable {X:Cx}
def WD (i:Nat):TE:=fun σ H Q=>∃v,σ[i]?=some (some v)/\Q v H
def tC (v:V):TE:=λ_ H Q=>Q v H
def Tu {i:Nat} {x:Str} {pos:Pos} (hN:X.N[i]?=some x) (hv:uT X.env.scope x) (hd:(x==("__debug__":Str))=false:=by decide) (kO:(x==("__classdict__":Str))=false:=by decide):PE X (.Name x pos) (WD i):=by
 intro π s σ H Q I h;obtain⟨v,e,h⟩:=h;obtain⟨m,hn,hl⟩:=I.loc;obtain⟨u,r,l⟩:=hl i x v hN e hv;have fin:EP X π σ Q u s:=⟨v,H,I,r,h⟩
 rcases l with ⟨hk,hm⟩ | ⟨hk,c,hc,nL⟩
 ·exact wpAny_Name (wpAny_loadName_local I.ok.kind hk hn hm fin) hd
 ·rcases hk with hk|hk
  ·exact wpAny_Name (wpAny_loadName_cell I.ok.kind hk hc nL fin) hd
  ·exact wpAny_Name (wpAny_loadName_free I.ok.kind hk hc nL fin kO) hd
def IT {i j pos}:PE X (.Constant (.int i) j pos) (tC (.int i)):=λ_ _ _ H _ I h=>wpAny_Constant_int ⟨.int i,H,I.tok _,⟨_,rfl⟩,h⟩
def Vj {b j pos}:PE X (.Constant (.bool b) j pos) (tC (.bl b)):=λ_ _ _ H _ I h=>Constant_bool ⟨.bl b,H,I,rfl,h⟩
def IU {j pos}:PE X (.Constant .none j pos) (tC .au):=λ_ _ _ H _ I h=>Constant_none ⟨.au,H,I,rfl,h⟩
def IV {x j pos}:PE X (.Constant (.str x) j pos) (tC (.str x)):=λ_ _ _ H _ I h=>Calls.Constant_str ⟨.str x,H,I.tok _,⟨_,rfl⟩,h⟩
def Gl (X:Cx) (x:Str):Prop:=X.env.kindOf x=some .globalImplicit
def HF {E:Í->É->Prop} {π:List (á×Obj)} {s:É} {σ:St} {H:Hp} {x:Str} {u:Í} {pos:Pos} {Q:Í->É->Prop} (I:Inv X π σ H s) (hg:Gl X x) (hm:X.mg x=some u) (h:Q u s)
  (hd:(x==("__debug__":Str))=false:=by decide):à (ø X.prog X.w) X.A (Ť (.Name x pos) X.env) Q E s :=
 Calls.Name_function_global I.ok.kind hg (Calls.loadGlobal_global (by rw[I.ok.glob];exact I.mod.glob.keeps I.bk) hm h) hd
def lJ {E:Í->É->Prop} {π:List (á×Obj)} {s:É} {σ:St} {H:Hp} {x:Str} {u:Í} {pos:Pos} {Q:Í->É->Prop} (I:Inv X π σ H s) (hg:Gl X x) (hm:X.mg x=none) (hv:ą x=some u) (h:Q u s)
  (hn:x≠"__name__":=by decide) (hd:(x==("__debug__":Str))=false:=by decide):à (ø X.prog X.w) X.A (Ť (.Name x pos) X.env) Q E s:=by
 obtain⟨mb,h1,h2⟩:=I.mod.blt;exact Calls.Name_function_global I.ok.kind hg (Calls.loadGlobal_builtin (by rw[I.ok.glob];exact I.mod.glob.keeps I.bk) hm (by rw[I.ok.blt];exact h1.keeps I.bk) ((h2 x hn).trans hv) h) hd
def HG (hg:Gl X x) (hm:X.mg x=some u) (r:RelV v u) (hd:(x==("__debug__":Str))=false:=by decide):PE X (.Name x pos) (tC v) :=
 λ_ _ _ H _ I h=>HF I hg hm ⟨v,H,I,r,h⟩ hd
def AD {x:Str} {v:V} {u:Í} {pos:Pos} (hg:Gl X x) (hm:X.mg x=none) (hv:ą x=some u) (r:RelV v u) (hn:x≠"__name__":=by decide) (hd:(x==("__debug__":Str))=false:=by decide):PE X (.Name x pos) (tC v) :=
 λ_ _ _ H _ I h=>lJ I hg hm hv ⟨v,H,I,r,h⟩ hn hd
variable {a b:ļ} {ta tb:TE} {pos:Pos}
variable {tA yN:TT} {rest:List ļ}
def cK (t u:TT):TT:=fun σ H Q=>t σ H λc H1=>if c=true then u σ H1 Q else Q false H1
def fQ (t u:TT):TT:=fun σ H Q=>t σ H λc H1=>if c=true then Q true H1 else u σ H1 Q
def fk (t:TT):TT:=fun σ H Q=>t σ H λc H1=>Q (!c) H1
def RD (ha:PT X a tA):PW X (.BoolOp .And [a] pos) tA:=by
 intro wh π s σ H Q I h;refine isTrue_and (aE (ha π s σ H Q I h) λc s1 e=>?_)
 cases c with
 |true=>exact isTrue_and_nil e
 |false=>exact e
def Tv (ha:PT X a tA):PW X (.BoolOp .Or [a] pos) tA:=by
 intro wh π s σ H Q I h;refine isTrue_or (aE (ha π s σ H Q I h) λc s1 e=>?_)
 cases c with
 |false=>exact isTrue_or_nil e
 |true=>exact e
def Tw (ha:PT X a tA) (hb:PW X (.BoolOp .And (b::rest) pos) yN):PW X (.BoolOp .And (a::b::rest) pos) (cK tA yN):=by
 intro wh π s σ H Q I h;refine isTrue_and (aE (ha π s σ H _ I h) λc s1 ⟨H1,I1,q1⟩=>?_)
 cases c with
 |true=>exact hb wh π s1 σ H1 Q I1 q1
 |false=>exact⟨H1,I1,q1⟩
def Vk (ha:PT X a tA) (hb:PW X (.BoolOp .Or (b::rest) pos) yN):PW X (.BoolOp .Or (a::b::rest) pos) (fQ tA yN):=by
 intro wh π s σ H Q I h;refine isTrue_or (aE (ha π s σ H _ I h) λc s1 ⟨H1,I1,q1⟩=>?_)
 cases c with
 |true=>exact⟨H1,I1,q1⟩
 |false=>exact hb wh π s1 σ H1 Q I1 q1
def Tz (ha:PT X a tA):PT X (.UnaryOp .Not a pos) (fk tA):=by
 intro π s σ H Q I h;exact isTrue_not (ha π s σ H (λc H1=>Q (!c) H1) I h)
def Vl (ta tb:TE):TE:=fun σ H Q=>ta σ H λx H1=>∃c,x=.bl c/\if c=true then tb σ H1 Q else Q (.bl false) H1
def WE (ta tb:TE):TE:=fun σ H Q=>ta σ H λx H1=>∃c,x=.bl c/\if c=true then Q (.bl true) H1 else tb σ H1 Q
def Vm (ta:TE):TE:=fun σ H Q=>ta σ H λx H1=>∃c,x=.bl c/\Q (.bl (!c)) H1
def TC {op} (h:PE X a t):PE X (.BoolOp op [a] pos) t:=λπ s σ H Q I hw=>BoolOp_one (h π s σ H Q I hw)
def TF (ha:PE X a ta) (hb:PE X (.BoolOp .And (b::rest) pos) tb):PE X (.BoolOp .And (a::b::rest) pos) (Vl ta tb):=by
 intro π s σ H Q I h;refine BoolOp_and (aE (ha π s σ H _ I h) λv s1 ⟨x,H1,I1,r1,q1⟩=>?_);obtain⟨c,rfl,q1⟩:=q1;cases r1;refine Į ?_
 cases c with
 |true=>exact hb π s1 σ H1 Q I1 q1
 |false=>exact⟨.bl false,H1,I1,rfl,q1⟩
def Vn (ha:PE X a ta) (hb:PE X (.BoolOp .Or (b::rest) pos) tb):PE X (.BoolOp .Or (a::b::rest) pos) (WE ta tb):=by
 intro π s σ H Q I h;refine BoolOp_or (aE (ha π s σ H _ I h) λv s1 ⟨x,H1,I1,r1,q1⟩=>?_);obtain⟨c,rfl,q1⟩:=q1;cases r1;refine Į ?_
 cases c with
 |false=>exact hb π s1 σ H1 Q I1 q1
 |true=>exact⟨.bl true,H1,I1,rfl,q1⟩
def TH (ha:PE X a ta):PE X (.UnaryOp .Not a pos) (Vm ta):=by
 intro π s σ H Q I h;refine UnaryOp_ (aE (ha π s σ H _ I h) λv s1 ⟨x,H1,I1,r1,q1⟩=>?_);obtain⟨c,rfl,q1⟩:=q1;cases r1;exact not_of (Į ⟨.bl (!c),H1,I1,rfl,q1⟩)
def XA (t:TT) (ta tb:TE):TE:=fun σ H Q=>t σ H λc H1=>if c=true then ta σ H1 Q else tb σ H1 Q
def P8 {c:ļ} (hc:PT X c tA) (ha:PE X a ta) (hb:PE X b tb):PE X (.IfExp c a b pos) (XA tA ta tb):=by
 intro π s σ H Q I h;refine wpAny_IfExp (aE (hc π s σ H _ I h) λd s1 ⟨H1,I1,q1⟩=>?_)
 cases d with
 |true=>exact ha π s1 σ H1 Q I1 q1
 |false=>exact hb π s1 σ H1 Q I1 q1
end
def bu (K:Ĳ) (H:Hp) (a:á) (xs:List V):Prop :=
 Rd H a (.lst xs) \/
  ∃(o:Obj) (its:Array Í) (n:Nat),K.lookup a=some o/\o.cls=.type "list"/\o.dict=none/\o.data=.seq its n/\its.size<=Õ/\Vals xs its.toList
def aT (K:Ĳ) (H:Hp) (a:á) (xs:List V):Prop :=
 Rd H a (.tup xs) \/
  ∃(o:Obj) (its:Array Í) (n:Nat),K.lookup a=some o/\o.cls=.type "tuple"/\o.data=.seq its n/\its.size<=Õ/\Vals xs its.toList
noncomputable def WG:Í->Option V
 | .none=>some .au
 | .bool b=>some (.bl b)
 | .int i _=>some (.int i)
 | .str x _=>some (.str x)
 | .bytes b _=>some (.jy b)
 | .float b _=>some (.uP b)
 | .ref a=>some (.ref a)
 | .type n=>some (.ty n)
 |_=>none
def RelV.abs (r:RelV x u):WG u=some x:=by
 cases x with
 |au=>cases r;rfl
 |bl _=>cases r;rfl
 |int _=>obtain⟨t,rfl⟩:=r;rfl
 |str _=>obtain⟨t,rfl⟩:=r;rfl
 |jy _=>obtain⟨t,rfl⟩:=r;rfl
 |uP _=>obtain⟨t,rfl⟩:=r;rfl
 |ref _=>cases r;rfl
 |ty _=>cases r;rfl
def RelV.inj (r:RelV x u) (q:RelV y u):x=y:=Option.some.inj (r.abs.symm.trans q.abs)
def Vals.inj:∀{xs ys:List V} {us:List Í},Vals xs us->Vals ys us->xs=ys
 |_,_,_,.nil,.nil=>rfl
 |_,_,_,.cons r t,.cons r' t'=>by rw[r.inj r',Vals.inj t t']
section
variable {X:Cx} {π:List (á×Obj)} {σ:St} {H:Hp} {s:É} {a:á} {xs ys:List V}
def bu.of {K:Ĳ} (h:H a=some (.lst xs)):bu K H a xs:=.inl (.inl h)
def aT.of {K:Ĳ} (h:H a=some (.tup xs)):aT K H a xs:=.inl (.inl h)
def Inv.list (I:Inv X π σ H s) (h:bu X.K H a xs):∃its:List Í,Vals xs its/\PlainL s.heap a its.toArray/\xs.length<=Õ:=by
 rcases h with h | ⟨o,its,n,hk,hc,hd,hs,hz,r⟩
 ·obtain⟨z,its,n,r,e⟩:=h.ok I.aF
  exact⟨its,r,⟨_,n,e,rfl,rfl,rfl⟩,z⟩
 ·refine⟨its.toList,r,⟨o,n,I.sm a o hk,hc,hd,by simpa using hs⟩,?_⟩
  have e:=r.length;simp only[þ] at e;omega
def Inv.tuple (I:Inv X π σ H s) (h:aT X.K H a xs):∃its:List Í,Vals xs its/\IsTup s.heap a its.toArray/\xs.length<=Õ:=by
 rcases h with h | ⟨o,its,n,hk,hc,hs,hz,r⟩
 ·obtain⟨z,its,r,p⟩:=h.ok I.aF
  exact⟨its,r,p,z⟩
 ·refine⟨its.toList,r,⟨o,I.sm a o hk,hc,n,by simpa using hs⟩,?_⟩
  have e:=r.length;simp only[þ] at e;omega
def Inv.GW (I:Inv X π σ H s) (h:bu X.K H a xs) (h':bu X.K H a ys):xs=ys:=by
 obtain⟨its,r,⟨o,n,e,_,_,d⟩,_⟩:=I.list h;obtain⟨its',r',⟨o',n',e',_,_,d'⟩,_⟩:=I.list h';rw[e] at e';cases e';rw[d] at d'
 injection d' with d1 _
 have:its=its':=by simpa using Ĺ Array.toList d1
 subst this;exact r.inj r'
def Inv.wO (I:Inv X π σ H s) (h:aT X.K H a xs) (h':aT X.K H a ys):xs=ys:=by
 obtain⟨its,r,⟨o,e,_,n,d⟩,_⟩:=I.tuple h;obtain⟨its',r',⟨o',e',_,n',d'⟩,_⟩:=I.tuple h';rw[e] at e';cases e';rw[d] at d'
 injection d' with d1 _
 have:its=its':=by simpa using Ĺ Array.toList d1
 subst this;exact r.inj r'
end
noncomputable abbrev Cx.lP (X:Cx) (E:Í->É->Prop):Cx:={ X with xe:=E }
noncomputable abbrev Cx.so (X:Cx):Cx:=X.lP λ_ _=>False
def Cx.Ok.lP {X:Cx} (ok:X.Ok) (E:Í->É->Prop):(X.lP E).Ok :=
 ⟨ok.mod,ok.kind,ok.glob,ok.blt,ok.above,ok.inj,ok.has,ok.pY,ok.hd,ok.frames,ok.sk,ok.yL,ok.bs,ok.i8,ok.lO,ok.rP,ok.js,ok.oh⟩
def Cx.Ok.nv {X:Cx} {E:Í->É->Prop} (ok:(X.lP E).Ok):X.Ok :=
 ⟨ok.mod,ok.kind,ok.glob,ok.blt,ok.above,ok.inj,ok.has,ok.pY,ok.hd,ok.frames,ok.sk,ok.yL,ok.bs,ok.i8,ok.lO,ok.rP,ok.js,ok.oh⟩
section
variable {X:Cx} {π:List (á×Obj)} {σ:St} {H:Hp} {s:É} {E:Í->É->Prop}
def Inv.lP (I:Inv X π σ H s) (E:Í->É->Prop):Inv (X.lP E) π σ H s:=⟨I.ok.lP E,I.os,I.bare,I.base,I.loc,I.cell,I.free,I.fj,I.pin,I.aF,I.len⟩
def Inv.nv (I:Inv (X.lP E) π σ H s):Inv X π σ H s:=⟨I.ok.nv,I.os,I.bare,I.base,I.loc,I.cell,I.free,I.fj,I.pin,I.aF,I.len⟩
def SP.nv (h:SP (X.lP E) π D f s'):SP X π D f s':=by
 cases f with
 |next=>obtain⟨ba,H',I,q⟩:=h;exact⟨ba,H',I.nv,q⟩
 |brk=>obtain⟨ba,H',I,q⟩:=h;exact⟨ba,H',I.nv,q⟩
 |cont=>obtain⟨ba,H',I,q⟩:=h;exact⟨ba,H',I.nv,q⟩
 |ret u=>obtain⟨v,ba,H',I,r,q⟩:=h;exact⟨v,ba,H',I.nv,r,q⟩
def eT.so {st:List Stmt} {t:TS} (h:eT X.so st t):eT X st t:=λπ s σ H D I hw =>
 ĳ (h π s σ H D (I.lP _) hw) (λ_ _ q=>q.nv) λ_ _ z=>aak z
end
section
variable {X:Cx} {st:Stmt} {rest:List Stmt} {t u:TS} {e:ļ} {te:TE} {pos:Pos}
def Vo:TS:=λD σ H=>D.nx σ H
def WH (t u:TS):TS:=λD σ H=>t { D with nx:=u D } σ H
def RE:eT X [] Vo:=λ_ _ σ H _ I h=>wpAny_execs_nil ⟨σ,H,I,h⟩
def P9 (h1:PS X st t) (h2:eT X rest u):eT X (st::rest) (WH t u):=by
 intro π s σ H D I h
 refine wpAny_execs_cons (aE (h1 π s σ H { D with nx:=u D } I h) λf s1 q=>?_)
 cases f with
 |next =>
  obtain⟨ba,H',I',q⟩:=q;exact h2 π s1 ba H' D I' q
 |ret v=>exact q
 |brk=>exact q
 |cont=>exact q
def RF (h1:PS X st t):eT X [st] t:=by
 intro π s σ H D I h;refine wpAny_execs_cons (aE (h1 π s σ H D I h) λf s1 q=>?_)
 cases f with
 |next=>exact wpAny_execs_nil q
 |ret v=>exact q
 |brk=>exact q
 |cont=>exact q
def Inv.quiet {π:List (á×Obj)} {σ:St} {H:Hp} {s:É} (I:Inv X π σ H s):interactive X.env=false:=by simp[interactive,I.ok.kind]
def Vp (te:TE):TS:=λD σ H=>te σ H λ_ H1=>D.nx σ H1
def RG (he:PE X e te) (hs:abw e none pos.line X.env=pure false:=by rfl):PS X (.Expr e pos) (Vp te):=by
 intro π s σ H D I h;exact wpAny_Expr_any (aE (he π s σ H _ I h) λv s1 ⟨x,H1,I1,r1,q1⟩=>⟨σ,H1,I1,q1⟩) I.quiet hs
def WI (te:TE):TS:=λD σ H=>te σ H D.rt
def TJ (he:PE X e te):PS X (.Return (some e) pos) (WI te):=by
 intro π s σ H D I h;exact wpAny_Return_some (aE (he π s σ H _ I h) λv s1 ⟨x,H1,I1,r1,q1⟩=>⟨x,σ,H1,I1,r1,q1⟩)
def WJ (c:TT) (t u:TS):TS:=λD σ H=>c σ H λb H1=>if b=true then t D σ H1 else u D σ H1
def Vq {c:ļ} {a b:List Stmt} {tc:TT} (hc:PT X c tc) (ha:eT X a t) (hb:eT X b u):PS X (.If c a b pos) (WJ tc t u):=by
 intro π s σ H D I h;refine wpAny_If (aE (hc π s σ H _ I h) λd s1 ⟨H1,I1,q1⟩=>?_)
 cases d with
 |true=>exact ha π s1 σ H1 D I1 q1
 |false=>exact hb π s1 σ H1 D I1 q1
end
abbrev TG:=V->St->Hp->(St->Hp->Prop)->Prop
abbrev kP:=List V->St->Hp->(St->Hp->Prop)->Prop
def PG (X:Cx) (target:ļ) (t:TG):Prop :=
 ∀(π:List (á×Obj)) (s:É) (σ:St) (H:Hp) (v:V) (u:Í) (Q:St->Hp->Prop),Inv X π σ H s->RelV v u->t v σ H Q ->
  à (ø X.prog X.w) X.A (aaR target X.env u) (λ_ s'=>∃ ba H',Inv X π ba H' s'/\Q ba H') X.xe s
def lV (X:Cx) (ts:List ļ) (t:kP):Prop :=
 ∀(π:List (á×Obj)) (s:É) (σ:St) (H:Hp) (vs:List V) (us:List Í) (Q:St->Hp->Prop),Inv X π σ H s->Vals vs us->t vs σ H Q ->
  à (ø X.prog X.w) X.A (abJ ((Ū ts X.env).map (·.2)) us) (λ_ s'=>∃ ba H',Inv X π ba H' s'/\Q ba H') X.xe s
abbrev yn:=V->V->V->Hp->(Hp->Prop)->Prop
def Cr (X:Cx) (t:yn):Prop :=
 ∀(π:List (á×Obj)) (s:É) (σ:St) (H:Hp) (o i v:V) (ov iv u:Í) (Q:Hp->Prop),Inv X π σ H s->RelV o ov->RelV i iv->RelV v u->t o i v H Q ->
  à (ø X.prog X.w) X.A (setItem ov iv u) (λ_ s'=>∃H',Inv X π σ H' s'/\Q H') X.xe s
section
variable {X:Cx} {pos:Pos}
def kz (i:Nat):TG:=λv σ H Q=>Q (σ.set i (some v)) H
def dM (hN:X.N.Nodup) (hi:X.N[i]?=some x) (hx:Loc X.env.scope x) (hf:X.fn x=true\/X.env.scope.names.lookup x=some .local:=by first|exact .inl rfl|exact .inr rfl|assumption):PG X (.Name x pos) (kz i):=by
 intro π s σ H v u Q I r h;exact wpAny_assign_Name (mq I hN hi hx r (λs' I'=>⟨_,H,I',h⟩) hf)
def Cs:kP:=λvs σ H Q=>vs=[]/\Q σ H
def BD (t:TG) (u:kP):kP:=λvs σ H Q=>∃v r,vs=v::r/\t v σ H fun ba H'=>u r ba H' Q
def oS:lV X [] Cs:=by
 intro π s σ H vs us Q I r h;obtain⟨e,h⟩:=h;subst e;cases r;exact assignInOrder_nil ⟨σ,H,I,h⟩
def jg {e:ļ} {es:List ļ} {t:TG} {u:kP} (h1:PG X e t) (h2:lV X es u)
  (hs:(Ū (e::es) X.env).map (·.2)=aaR e X.env::(Ū es X.env).map (·.2):=by rfl):lV X (e::es) (BD t u):=by
 intro π s σ H vs us Q I r h;obtain⟨v,vr,e1,h⟩:=h;subst e1
 cases r with
 |cons r rr =>
  rw[hs];refine Ů (aE (h1 π s σ H _ _ _ I r h) λ_ s1 ⟨Lg,H1,I1,q1⟩=>?_);exact h2 π s1 Lg H1 _ _ Q I1 rr q1
def Ct (K:Ĳ) (n:Nat) (t:kP):TG:=λv σ H Q=>∃a xs,v=.ref a/\aT K H a xs/\xs.length=n/\t xs σ H Q
def kj {k:Nat} {n:Nat} (hc:X.calm=true) (h:lV X es t)
 (hn:(Ū es X.env).length=n:=by rfl) (p9:(Ū es X.env).findIdx? (·.1)=none:=by rfl):PG X (.Tuple es k pos) (Ct X.K n t):=by
 intro π s σ H v u Q I r hw;obtain⟨a,xs,e1,hq,hl,hw⟩:=hw;subst e1;cases r;obtain⟨its,rv,ht,hz⟩:=I.tuple hq;refine assign_Tuple_tuple (I.ok.hd hc) ht (by simp[hn,<- hl,rv.length]) p9 λh' hx=>?_
 have I1:Inv X π σ H { s with heap:=h' }:=I.kept (t':=s.toks) λb o e=>hx b o (è (Î e)) e
 exact h π _ σ H xs _ Q I1 (by simpa using rv) hw
def WK (to ti:TE) (t:yn):TG:=λv σ H Q=>to σ H λo H1=>ti σ H1 λi H2=>t o i v H2 λH3=>Q σ H3
def IW {o i:ļ} {to ti:TE} {t:yn} (ho:PE X o to) (hi:PE X i ti) (hs:Cr X t)
  (ha:∀v,aaR (.Subscript o i pos) X.env v=(do
   let ov <- aac [v] (Ť o X.env)
   let iv <- aac [v,ov] (Ť i X.env)
   abg pos
   aac [v,ov,iv] (setItem ov iv v)
   release [v,ov,iv] []):=by intro _;rfl):PG X (.Subscript o i pos) (WK to ti t):=by
 intro π s σ H v u Q I r h;rw[ha];refine À (ė (aE (ho π s σ H _ I h) λov s1 ⟨x,H1,I1,r1,q1⟩=>?_));refine À (ė (aE (hi π s1 σ H1 _ I1 q1) λiv s2 ⟨y,H2,I2,r2,q2⟩=>?_));refine À (Ŕ (À (ė (aE (hs π s2 σ H2 x y v ov iv u _ I2 r1 r2 r q2) λ_ s3 ⟨H3,I3,q3⟩=>?_))));exact wpAny_release ⟨σ,H3,I3,q3⟩
def pH (te:TE) (g:TG):TS:=λD σ H=>te σ H λx H1=>g x σ H1 D.nx
def A4 {tg e:ļ} {te:TE} {g:TG} (he:PE X e te) (hg:PG X tg g) (hs:ε [tg] e pos.line X.env=pure false:=by rfl) (hw:ζ [tg] e X.env=pure none:=by rfl)
  (h1:(Ū [tg] X.env).map (·.2)=[aaR tg X.env]:=by rfl):PS X (.Assign [tg] e pos) (pH te g):=by
 intro π s σ H D I h;refine wpAny_Assign_stores (aE (he π s σ H _ I h) λv s1 ⟨x,H1,I1,r1,q1⟩=>?_) hs hw;rw[h1];exact aE (hg π s1 σ H1 x v _ I1 r1 q1) λ_ s2 q=>q
def TL {i:Nat} {x:Str} {e:ļ} {te:TE} {pos':Pos} (hN:X.N.Nodup) (hi:X.N[i]?=some x) (hx:Loc X.env.scope x) (he:PE X e te) (hs:abw e (some (.Name x pos')) pos.line X.env=pure false:=by rfl) (hf:X.fn x=true\/X.env.scope.names.lookup x=some .local:=by first|exact .inl rfl|exact .inr rfl|assumption) :
  PS X (.Assign [.Name x pos'] e pos) (pH te (kz i)):=by
 intro π s σ H D I h;refine wpAny_Assign_Name (aE (he π s σ H _ I h) λv s1 ⟨y,H1,I1,r1,q1⟩=>?_) hs;exact mq I1 hN hi hx r1 (λs2 I2=>⟨_,H1,I2,q1⟩) hf
def WL (i j:Nat) (ta:TA):TS:=λD σ H=>ta σ H λvs H1=>∃v w,vs=[v,w]/\D.nx ((σ.set i (some v)).set j (some w)) H1
def TM {i j:Nat} {x y:Str} {a b:ļ} {ta:TA} {px py pt:Pos} {kt k2 iG} (hc:X.calm=true) (hN:X.N.Nodup) (hi:X.N[i]?=some x) (hj:X.N[j]?=some y) (fm:i≠j)
  (hx:X.env.scope.names.lookup x=some .local) (hy:X.env.scope.names.lookup y=some .local) (ha:PA X [a,b] ta)
  (hw:ζ [.Tuple [.Name x px,.Name y py] kt pt] (.Tuple [a,b] k2 iG) X.env=pure (some [x,y]))
  (hs:ε [.Tuple [.Name x px,.Name y py] kt pt] (.Tuple [a,b] k2 iG) pos.line X.env=pure false:=by rfl) :
  PS X (.Assign [.Tuple [.Name x px,.Name y py] kt pt] (.Tuple [a,b] k2 iG) pos) (WL i j ta):=by
 intro π s σ H D I h;rw[exec_Assign_arm];refine À (Ŕ ?_);rw[hs];refine À (Â ?_);rw[æ (by decide)];refine À (Tuple_ (aE (ha _ π s σ H _ I h) λus s1 ⟨vs,H1,I1,r1,q1⟩=>?_));obtain⟨v,w,e1,q1⟩:=q1;subst e1;obtain⟨u1,u2,rfl,rv,qa⟩:∃u1 u2,us=[u1,u2]/\RelV v u1/\RelV w u2:=by
  cases r1 with
  |cons p q =>
   cases q with
   |cons p' q' =>
    cases q';exact⟨_,_,rfl,p,p'⟩
 refine ó ?_ (by show 2<=Õ;decide)
 have I2:Inv X π σ H1 { s1 with heap:=s1.heap.push { cls:=.type "tuple",data:=.seq [u1,u2].toArray } }:=I1.kept (t':=s1.toks) λb o e=>Á _ e
 rw[hw];refine À (Â ?_)
 show à (ø X.prog X.w) X.A (do rule "assign.swapped-stores";let items <- unpackItems (.ref s1.heap.objs.size) 2 none;abJ [λv=>abK X.env y v,λv=>abK X.env x v] items.reverse;pure Flow.next) _ _ _
 refine À (Ŝ (À (unpackItems_tuple (items:=#[u1,u2]) (I.ok.hd hc) (IsTup.new s1.heap _) λh' De=>?_)));have I3:=I2.kept (h':=h') (t':=s1.toks) λb o e=>De b o (è (Î e)) e
 show à _ _ (abJ [λv=>abK X.env y v,λv=>abK X.env x v] [u2,u1] >>= λ_=>pure Flow.next) _ _ _
 refine À (Ů (abq (mq I3 hN hj (.inl hy) qa (λs2 I4=>?_) (.inr hy))));refine Ů (abq (mq I4 hN hi (.inl hx) rv (λs3 I5=>assignInOrder_nil (Â ?_)) (.inr hx)));rw[List.set_comm _ _ (Ň fm)] at I5;exact⟨_,H1,I5,q1⟩
end
section
variable {X:Cx} {pos:Pos}
end
structure It where
 go:Nat->Hp->Prop
 uX:Nat->Hp->V->Hp->Prop
 stop:Nat->Hp->Prop
def cu (X:Cx) (π:List (á×Obj)) (H:Hp) (b:á):Prop :=
 H b=none/\b≠X.env.locals/\b∉X.fs/\(b∈X.ex\/X.dQ.heap.objs.size<=b)/\(∀x c,X.env.cells.lookup x=some c->c≠b)/\∀p∈X.pn++π,p.1≠b
def Inv.lQ {X:Cx} {π:List (á×Obj)} {σ:St} {H H':Hp} {s:É} {b:á} (I:Inv X π σ H s) (hb:s.heap.objs.size<=b) (hn:H' b=none):cu X π H' b:=by
 refine⟨hn,Ń (Ê I.lt hb),I.pG hb,.inr (Û I.sz hb),λx c e z=>?_,λp hp z=>?_⟩
 ·obtain⟨v,q⟩:=I.cell x c e
  exact absurd (Ê q.lt (by rw[z];exact hb)) (é _)
 ·exact absurd (Ê (Î (I.pin p hp).1) (by rw[z];exact hb)) (é _)
structure Turn (P:ù) (w:ď) (K:Ĳ) (tg:ļ) (J:It) (fp:List á) (it:á) (tn:Nat->ŏ->Prop):Prop where
 mem:it∈fp
 obj:∀i h,tn i h->∀b∈fp,∃o,h.get? b=some o/\∀v,o.data≠.cell v
 keep:∀i h h',tn i h->(∀b∈fp,∀o,h.get? b=some o->h'.get? b=some o)->tn i h'
 item:∀(X:Cx),X.prog=P->X.w=w->X.K=K->X.calm=true->∀(i:Nat) (π:List (á×Obj)) (s:É) (σ:St) (H:Hp) (E:Í->É->Prop),Inv X π σ H s->(∀b∈fp,cu X π H b)->tn i s.heap->J.go i H ->
  à (ø P w) X.A (ť (.ref it)) (λr s1=>∃u,r=some u /\
   à (ø P w) X.A (ş tg (.ref it) u) (λ_ s2=>∃x H',Inv X π σ H' s2/\RelV x u/\J.uX i H x H'/\tn (i+1) s2.heap/\∀b∈fp,H' b=none) E s1) E s
 done:∀(X:Cx),X.prog=P->X.w=w->X.K=K->X.calm=true->∀(i:Nat) (π:List (á×Obj)) (s:É) (σ:St) (H:Hp) (E:Í->É->Prop),Inv X π σ H s->(∀b∈fp,cu X π H b)->tn i s.heap->J.stop i H ->
  à (ø P w) X.A (ť (.ref it)) (λr s1=>r=none/\Inv X π σ H s1) E s
 self:∀(A:đ) (i:Nat) (s:É) (Q:Í->É->Prop) (E:Í->É->Prop),tn i s.heap->Q (.ref it) s->à (ø P w) A (pyIter (.ref it)) Q E s
abbrev TI:=St->Hp->(It->Hp->Prop)->Prop
def Lh (X:Cx) (π:List (á×Obj)) (σ:St) (tg:ļ) (R:It->Hp->Prop) (ja:Í) (s2:É):Prop :=
 ∃(it:á) (fp:List á) (tn:Nat->ŏ->Prop) (J:It) (H':Hp),ja=.ref it/\Inv X π σ H' s2/\Turn X.prog X.w X.K tg J fp it tn/\tn 0 s2.heap/\(∀b∈fp,cu X π H' b)/\R J H'
def PI (X:Cx) (tg iter:ļ) (wi:TI):Prop :=
 ∀(π:List (á×Obj)) (s:É) (σ:St) (H:Hp) (R:It->Hp->Prop),Inv X π σ H s->wi σ H R ->
  à (ø X.prog X.w) X.A (Ť iter X.env) (λv s1=>à (ø X.prog X.w) X.A (pyIter v) (Lh X π σ tg R) X.xe s1) X.xe s
def xP (ho:s.heap.get? it=some o) (hc:o.cls=.type n) (hd:o.data=.fields vs)
 (hn:["enumerate","zip","dict_itemiterator","dict_reverseitemiterator","odict_iterator","itertools.zip_longest","itertools.pairwise"].contains n=false) (hQ:Q () s):à M A (ş tg (.ref it) u) Q E s:=by
 unfold ş
 cases tg<;>first
  |exact Â hQ
  |(cases u<;>first
    |exact Â hQ
    |(refine À (wpAny_load ho ?_)
      rw[hc,hd]
      show à M A (if (["enumerate","zip","dict_itemiterator","dict_reverseitemiterator","odict_iterator","itertools.zip_longest","itertools.pairwise"].contains n&&vs[0]?==some (Ŋ _))=true then _ else _) Q E s
      rw[æ (by intro h;rw[hn,aaA] at h;cases h)];exact Â hQ))
noncomputable def Dg (K:Ĳ) (a:á):It :=
 ⟨λi H=>∃xs x,bu K H a xs/\xs[i]?=some x,λi H x H'=>H'=H/\∀xs,bu K H a xs->xs[i]?=some x,λi H=>∃xs,bu K H a xs/\xs.length<=i⟩
noncomputable def Dh (K:Ĳ) (a:á):It :=
 ⟨λi H=>∃xs x,aT K H a xs/\xs[i]?=some x,λi H x H'=>H'=H/\∀xs,aT K H a xs->xs[i]?=some x,λi H=>∃xs,aT K H a xs/\xs.length<=i⟩
noncomputable def uY (lo:Int) (n:Nat):It:=⟨λi _=>i<n,λi H x H'=>H'=H/\x=.int (lo+i),λi _=>n<=i⟩
def OM {P:ù} {w:ď} {K:Ĳ} {tg:ļ} (a it:á):Turn P w K tg (Dg K a) [it] it (λi h=>h.IsListIter it a i) where
 mem:=by simp
 obj:=λi h st b hb=>by
  have e:b=it:=by simpa using hb
  subst e;obtain⟨o,e,c,d⟩:=st;exact⟨o,e,λv z=>by rw[d] at z;cases z⟩
 keep:=λi h h' st k=>st.at λo e=>k it (by simp) o e
 item:=by
  intro X hP hw hK hc i π s σ H E I hf st hg;subst hP hw hK;obtain⟨xs,x,hq,hx⟩:=hg;obtain⟨its,rv,p,hz⟩:=I.list hq;obtain⟨u,hu,ru⟩:=rv.get hx;obtain⟨f0,f1,f2,f3,f4,f5⟩:=hf it (by simp);refine wpAny_pyNext_list_item st p.isList (x:=u) (by simpa using hu) λh' dD sb=>?_
  have I1:Inv X π σ H { s with heap:=h' }:=I.turned (t':=s.toks) (λb o hb e=>(sb.2 b hb).trans e) f0 f1 f3 f4 f5
  obtain⟨o,e,c,d⟩:=id dD
  exact⟨u,rfl,xP (s:={ s with heap:=h' }) e c d (by decide) ⟨x,H,I1,ru,⟨rfl,λys hy=>by rw[I.GW hy hq];exact hx⟩,dD,λb hb=>(hf b hb).1⟩⟩
 done:=by
  intro X hP hw hK hc i π s σ H E I hf st hg;subst hP hw hK;obtain⟨xs,hq,hx⟩:=hg;obtain⟨its,rv,p,hz⟩:=I.list hq;obtain⟨f0,f1,f2,f3,f4,f5⟩:=hf it (by simp);have hl:=rv.length;exact wpAny_pyNext_list_end (I.ok.hd hc) st p.isList (by simp;omega) λh' eb=>⟨rfl,I.turned (t':=s.toks) (λb o hb e=>eb b o hb e) f0 f1 f3 f4 f5⟩
 self:=λ_ _ _ _ _ st h=>wpAny_pyIter_listiter st h
def NK {P:ù} {w:ď} {K:Ĳ} {tg:ļ} (a it:á):Turn P w K tg (Dh K a) [it] it (λi h=>h.IsTupleIter it a i) where
 mem:=by simp
 obj:=λi h st b hb=>by
  have e:b=it:=by simpa using hb
  subst e;obtain⟨o,e,c,d⟩:=st;exact⟨o,e,λv z=>by rw[d] at z;cases z⟩
 keep:=λi h h' st k=>st.at λo e=>k it (by simp) o e
 item:=by
  intro X hP hw hK hc i π s σ H E I hf st hg;subst hP hw hK;obtain⟨xs,x,hq,hx⟩:=hg;obtain⟨its,rv,p,hz⟩:=I.tuple hq;obtain⟨u,hu,ru⟩:=rv.get hx;obtain⟨f0,f1,f2,f3,f4,f5⟩:=hf it (by simp);refine wpAny_pyNext_tuple_item st (show s.heap.IsTuple a its.toArray from p) (x:=u) (by simpa using hu) λh' dD sb=>?_
  have I1:Inv X π σ H { s with heap:=h' }:=I.turned (t':=s.toks) (λb o hb e=>(sb.2 b hb).trans e) f0 f1 f3 f4 f5
  obtain⟨o,e,c,d⟩:=id dD
  exact⟨u,rfl,xP (s:={ s with heap:=h' }) e c d (by decide) ⟨x,H,I1,ru,⟨rfl,λys hy=>by rw[I.wO hy hq];exact hx⟩,dD,λb hb=>(hf b hb).1⟩⟩
 done:=by
  intro X hP hw hK hc i π s σ H E I hf st hg;subst hP hw hK;obtain⟨xs,hq,hx⟩:=hg;obtain⟨its,rv,p,hz⟩:=I.tuple hq;obtain⟨f0,f1,f2,f3,f4,f5⟩:=hf it (by simp);have hl:=rv.length;exact wpAny_pyNext_tuple_end (I.ok.hd hc) st (show s.heap.IsTuple a its.toArray from p) (by simp;omega) λh' eb=>⟨rfl,I.turned (t':=s.toks) (λb o hb e=>eb b o hb e) f0 f1 f3 f4 f5⟩
 self:=λ_ _ _ _ _ st h=>wpAny_pyIter_tupleiter st h
def NL {P:ù} {w:ď} {K:Ĳ} {tg:ļ} (it:á) (lo:Int) (n:Nat):Turn P w K tg (uY lo n) [it] it (λi h=>IsRangeIter h it (lo+(i:Nat)*1) ((n:Int)-(i:Nat)) 1) where
 mem:=by simp
 obj:=λi h st b hb=>by
  have e:b=it:=by simpa using hb
  subst e;exact⟨_,st,λv z=>by
   have z':Data.fields _=Data.cell v:=z;cases z'⟩
 keep:=λi h h' st k=>k it (by simp) _ st
 item:=by
  intro X hP hw hK hc i π s σ H E I hf st hg;subst hP hw hK;obtain⟨f0,f1,f2,f3,f4,f5⟩:=hf it (by simp);have W:=Walks.range (prog:=X.prog) (w:=X.w) (I.ok.hd hc) it lo 1 n;refine W.item i s _ _ hg st λv h' tk hv dD kk=>?_;obtain⟨t,rfl⟩:=hv
  have I1:Inv X π σ H { s with heap:=h',toks:=tk }:=I.turned (λb o hb e=>kk b o (by simpa using hb) e) f0 f1 f3 f4 f5
  refine⟨_,rfl,xP (s:={ s with heap:=h',toks:=tk }) (n:="range_iterator") dD rfl rfl (by decide) ⟨.int (lo+i),H,I1,⟨t,?_⟩,⟨rfl,rfl⟩,dD,λb hb=>(hf b hb).1⟩⟩
  rw[Int.mul_one]
 done:=by
  intro X hP hw hK hc i π s σ H E I hf st hg;subst hP hw hK;obtain⟨f0,f1,f2,f3,f4,f5⟩:=hf it (by simp);exact wpAny_pyNext_range_end (I.ok.hd hc) st (by have:n<=i:=hg;omega) λh' eb=>⟨rfl,I.turned (t':=s.toks) (λb o hb e=>eb b o hb e) f0 f1 f3 f4 f5⟩
 self:=λ_ _ _ _ _ st h=>aa9 st h
section
variable {X:Cx} {tg:ļ}
def JU (K:Ĳ) (tl:TE):TI:=fun σ H R=>tl σ H λx H1=>∃a,x=.ref a/\(∃xs,bu K H1 a xs)/\R (Dg K a) H1
def KH (K:Ĳ) (tl:TE):TI:=fun σ H R=>tl σ H λx H1=>∃a,x=.ref a/\(∃xs,aT K H1 a xs)/\R (Dh K a) H1
def RH {l:ļ} {tl:TE} (hl:PE X l tl):PI X tg l (JU X.K tl):=by
 intro π s σ H R I h;refine aE (hl π s σ H _ I h) λv s1 ⟨x,H1,I1,r1,q1⟩=>?_;obtain⟨a,e,⟨xs,hq⟩,q⟩:=q1;subst e;cases r1;obtain⟨its,rv,p,hz⟩:=I1.list hq;refine Ÿ p.isList ?_;refine⟨s1.heap.objs.size,[s1.heap.objs.size],_,_,H1,rfl,I1.kept (t':=s1.toks) λb o e=>Á _ e,OM a _,⟨_,Ì _ rfl,rfl,rfl⟩,λb hb=>?_,q⟩;have e:b=s1.heap.objs.size:=by simpa using hb
 subst e;exact I1.lQ (Nat.le_refl _) (I1.aF.fresh (Nat.le_refl _))
def TN {l:ļ} {tl:TE} (hl:PE X l tl):PI X tg l (KH X.K tl):=by
 intro π s σ H R I h;refine aE (hl π s σ H _ I h) λv s1 ⟨x,H1,I1,r1,q1⟩=>?_;obtain⟨a,e,⟨xs,hq⟩,q⟩:=q1;subst e;cases r1;obtain⟨its,rv,p,hz⟩:=I1.tuple hq;refine ω (show s1.heap.IsTuple a its.toArray from p) ?_;refine⟨s1.heap.objs.size,[s1.heap.objs.size],_,_,H1,rfl,I1.kept (t':=s1.toks) λb o e=>Á _ e,NK a _,⟨_,Ì _ rfl,rfl,rfl⟩,λb hb=>?_,q⟩;have e:b=s1.heap.objs.size:=by simpa using hb
 subst e;exact I1.lQ (Nat.le_refl _) (I1.aF.fresh (Nat.le_refl _))
def GX {π:List (á×Obj)} {σ:St} {H:Hp} {s:É} {R:It->Hp->Prop} {E:Í->É->Prop} {lo hi:Int} {t u v:Tok} {tk:Nat} (I:Inv X π σ H s) (h1:-(2 ^ 62)<=lo) (h2:lo<2 ^ 62) (h3:-(2 ^ 62)<=hi) (h4:hi<2 ^ 62)
  (q:R (uY lo (hi-lo).toNat) H):à (ø X.prog X.w) X.A (pyIter (.ref s.heap.objs.size)) (Lh X π σ tg R) E { s with heap:=s.heap.push { cls:=.type "range",data:=.fields #[.int lo t,.int hi u,.int 1 v] },toks:=tk }:=by
 refine wpAny_pyIter_range (IsRange.new ..) (small_one h1 h2 h3 h4) ?_
 have I1:Inv X π σ H { s with heap:=s.heap.push { cls:=.type "range",data:=.fields #[.int lo t,.int hi u,.int 1 v] },toks:=tk }:=I.kept λb o e=>Á _ e
 refine⟨(s.heap.push { cls:=.type "range",data:=.fields #[.int lo t,.int hi u,.int 1 v] }).objs.size,[(s.heap.push { cls:=.type "range",data:=.fields #[.int lo t,.int hi u,.int 1 v] }).objs.size],_,_,H,rfl,
  I1.kept (t':=tk) λb o e=>Á _ e,NL _ lo (hi-lo).toNat,?_,λb hb=>?_,q⟩
 ·have e1:lo+((0:Nat):Int)*1=lo:=by simp
  have e2:(((hi-lo).toNat:Nat):Int)-((0:Nat):Int)=ŕ lo hi 1:=by rw[rangeSize_one];split<;>omega
  show IsRangeIter _ _ (lo+((0:Nat):Int)*1) ((((hi-lo).toNat:Nat):Int)-((0:Nat):Int)) 1;rw[e1,e2];exact Ì _ rfl
 ·have e:b=(s.heap.push { cls:=.type "range",data:=.fields #[.int lo t,.int hi u,.int 1 v] }).objs.size:=by simpa using hb
  subst e;exact I1.lQ (Nat.le_refl _) (I1.aF.fresh (Nat.le_refl _))
def Vr (ta:TA):TI:=fun σ H R=>ta σ H λvs H1=>∃j:Int,vs=[.int j]/\-(2 ^ 62)<=j/\j<2 ^ 62/\R (uY 0 j.toNat) H1
def Vs (ta:TA):TI:=fun σ H R=>ta σ H λvs H1=>∃i j:Int,vs=[.int i,.int j]/\(-(2 ^ 62)<=i/\i<2 ^ 62/\-(2 ^ 62)<=j/\j<2 ^ 62)/\R (uY i (j-i).toNat) H1
def ON {a:ļ} {ta:TA} {p pos:Pos} (hg:Gl X "range") (hm:X.mg "range"=none) (ha:PA X [a] ta) (hs:Þ [a] X.env=[(false,Ť a X.env)]:=by rfl):PI X tg (.Call (.Name "range" p) [a] [] pos) (Vr ta):=by
 intro π s σ H R I h;refine Call_ (lJ I hg hm boot_range (Ĩ (aE (ha pos π s σ H _ I h) λus s1 ⟨vs,H1,I1,r1,q1⟩=>?_) hs rfl));obtain⟨j,e,q1,q2,q⟩:=q1;subst e
 cases r1 with
 |cons r rr =>
  cases rr;obtain⟨t,rfl⟩:=r;exact call_range_1 (GX I1 (by omega) (by omega) q1 q2 (by simpa using q))
def OO {a b:ļ} {ta:TA} {p pos:Pos} (hg:Gl X "range") (hm:X.mg "range"=none) (ha:PA X [a,b] ta) (hs:Þ [a,b] X.env=[(false,Ť a X.env),(false,Ť b X.env)]:=by rfl) (cf:Þ [b] X.env=[(false,Ť b X.env)]:=by rfl) :
  PI X tg (.Call (.Name "range" p) [a,b] [] pos) (Vs ta):=by
 intro π s σ H R I h;refine Call_ (lJ I hg hm boot_range (Ĩ (aE (ha pos π s σ H _ I h) λus s1 ⟨vs,H1,I1,r1,q1⟩=>?_) (by rw[hs,cf]) (by rw[cf];rfl)));obtain⟨i,j,e,⟨q1,q2,q3,q4⟩,q⟩:=q1;subst e
 cases r1 with
 |cons r rr =>
  cases rr with
  |cons r' rr =>
   cases rr;obtain⟨t,rfl⟩:=r;obtain⟨t',rfl⟩:=r';exact call_range_2 (GX I1 q1 q2 q3 q4 q)
def KI (wi:TI) (g:TG) (tb:TS):TS:=λD σ H=>wi σ H λJ H1=>∃W:Nat->Nat->St->Hp->Prop,(∃m,W 0 m σ H1)/\∀i m σ H,W i m σ H ->
 (J.stop i H/\D.nx σ H)\/(J.go i H/\∃N:St->Hp->Prop,(∀ ba H',N ba H'->∃m',m' < m/\W (i+1) m' ba H')/\∀x H',J.uX i H x H'->g x σ H' fun mK H2=>tb { D with nx:=N,ct:=N,bk:=D.nx } mK H2)
noncomputable def ny (fp:List á) (h:ŏ):List (á×Obj):=fp.filterMap λb=>(h.get? b).map λo=>(b,o)
def qG (hb:b∈fp) (e:h.get? b=some o):(b,o)∈ny fp h:=List.mem_filterMap.mpr ⟨b,hb,by rw[e];rfl⟩
def Ge (hp:p∈ny fp h):p.1∈fp/\h.get? p.1=some p.2:=by
 obtain⟨b,hb,e⟩:=List.mem_filterMap.mp hp
 cases q:h.get? b with
 |none=>rw[q] at e;cases e
 |some o =>
  rw[q] at e;have e':(b,o)=p:=Option.some.inj e;subst e';exact⟨hb,q⟩
def Inv.pinned {π:List (á×Obj)} {σ:St} {H:Hp} {s:É} {fp:List á} (I:Inv X π σ H s) (hf:∀b∈fp,cu X π H b) (ho:∀b∈fp,∃o,s.heap.get? b=some o/\∀v,o.data≠.cell v):Inv X (π++ny fp s.heap) σ H s :=
 I.ix λp hp=>(Ù.mp hp).elim (λz=>I.pin p (Æ _ z)) λz=>by
  obtain⟨hb,e⟩:=Ge z;obtain⟨f0,f1,f2,_⟩:=hf p.1 hb;obtain⟨o,e',d⟩:=ho p.1 hb;rw[e] at e';cases e';exact⟨e,f0,f1,f2,d⟩
def Inv.jh {π pl:List (á×Obj)} {σ:St} {H:Hp} {s:É} (I:Inv X (π++pl) σ H s):Inv X π σ H s:=I.ix λp hp=>I.pin p (Æ _ (ħ _ hp))
def TQ {iter:ļ} {body:List Stmt} {wi:TI} {g:TG} {tb:TS} {pos:Pos} (hp:PassesOwn (ø X.prog X.w) X.A X.env X.xe) (hc:X.calm=true) (hi:PI X tg iter wi) (hg:PG X tg g) (hb:eT X body tb)
  (hs:∀x,ô iter X.env x=pure x:=by intro _;rfl):PS X (.For tg iter body [] pos) (KI wi g tb):=by
 intro π s σ H D I h;refine wpAny_For (aE (hi π s σ H _ I h) λv s1 h1=>aE h1 λja s2 h2=>?_) hs;obtain⟨it,fp,tn,J,H2,e,I2,T,dS,f2,W,⟨m0,w0⟩,turn⟩:=h2;subst e;have stat:∀{H':Hp},(∀b∈fp,H' b=none)->∀b∈fp,cu X π H' b:=λhn b hb=>⟨hn b hb,(f2 b hb).2⟩;refine codeAny_forLoop_any (λn s'=>∃i ba H',Inv X π ba H' s'/\tn i s'.heap/\(∀b∈fp,H' b=none)/\W i n ba H') ?_ m0 ⟨0,σ,H2,I2,dS,λb hb=>(f2 b hb).1,w0⟩;rintro n s3 ⟨i,lW,H3,I3,gv,oj,w3⟩
 rcases turn i n lW H3 w3 with ⟨stop,qn⟩ | ⟨go,N,hN,step⟩
 ·refine aaW hp (aE (T.done X rfl rfl rfl hc i π s3 lW H3 X.xe I3 (stat oj) gv stop) λr s4 ⟨hr,I4⟩=>?_)
  subst hr;exact wpAny_execs_nil ⟨lW,H3,I4,qn⟩
 ·refine aaW hp (aE (T.item X rfl rfl rfl hc i π s3 lW H3 X.xe I3 (stat oj) gv go) λr s4 ⟨u,hr,h4⟩=>?_)
  subst hr;refine aaW hp (aE h4 λ_ s5 ⟨x,H5,I5,r5,y5,iH,uZ⟩=>?_);have u0:=I5.pinned (stat uZ) (T.obj _ _ iH);refine aaW hp (aE (hg _ s5 lW H5 x u _ u0 r5 (step x H5 y5)) λ_ s6 ⟨XB,H6,I6,q6⟩=>?_);refine aaW hp (aE (hb _ s6 XB H6 _ I6 q6) λf s7 q7=>?_);have again:∀{kQ:St} {H7:Hp},Inv X (π++ny fp s5.heap) kQ H7 s7->N kQ H7->∃m,m<n/\∃i ba H',Inv X π ba H' s7/\tn i s7.heap/\(∀b∈fp,H' b=none)/\W i m ba H':=λ{kQ H7} I7 n7=>by
   obtain⟨m',hm,w7⟩:=hN kQ H7 n7;refine⟨m',hm,i+1,kQ,H7,I7.jh,T.keep _ _ _ iH λb hb o e=>(I7.pin (b,o) (Æ _ (Æ _ (qG hb e)))).1,λb hb=>?_,w7⟩;obtain⟨o,e,d⟩:=T.obj _ _ iH b hb;exact(I7.pin (b,o) (Æ _ (Æ _ (qG hb e)))).2.1
  cases f with
  |next=>obtain⟨kQ,H7,I7,n7⟩:=q7;exact again I7 n7
  |cont=>obtain⟨kQ,H7,I7,n7⟩:=q7;exact again I7 n7
  |brk=>obtain⟨kQ,H7,I7,q7⟩:=q7;exact⟨kQ,H7,I7.jh,q7⟩
  |ret v=>obtain⟨x7,kQ,H7,I7,r7,q7⟩:=q7;exact⟨x7,kQ,H7,I7.jh,r7,q7⟩
end
abbrev R2:=V->V->Hp->VK->Prop
def aY (X:Cx) (f:Í->Í->Sem Í) (r:R2):Prop :=
 ∀(π:List (á×Obj)) (s:É) (σ:St) (H:Hp) (x y:V) (v u:Í) (Q:VK),Inv X π σ H s->RelV x v->RelV y u->r x y H Q ->
  à (ø X.prog X.w) X.A (f v u) (EP X π σ Q) X.xe s
def u4 (X:Cx) (f:Í->Sem Í) (r:V->Hp->VK->Prop):Prop :=
 ∀(π:List (á×Obj)) (s:É) (σ:St) (H:Hp) (x:V) (v:Í) (Q:VK),Inv X π σ H s->RelV x v->r x H Q ->
  à (ø X.prog X.w) X.A (f v) (EP X π σ Q) X.xe s
def bY (X:Cx) (f:Í) (r:List V->Hp->VK->Prop):Prop :=
 ∀(π:List (á×Obj)) (s:É) (σ:St) (H:Hp) (xs:List V) (us:List Í) (Q:VK),Inv X π σ H s->Vals xs us->r xs H Q ->
  à (ø X.prog X.w) X.A (call f us) (EP X π σ Q) X.xe s
def WM (X:Cx) (r:V->Hp->(Bool->Hp->Prop)->Prop):Prop :=
 ∀(π:List (á×Obj)) (s:É) (σ:St) (H:Hp) (x:V) (v:Í) (Q:Bool->Hp->Prop),Inv X π σ H s->RelV x v->r x H Q ->
  à (ø X.prog X.w) X.A (truthy v) (TP X π σ Q) X.xe s
def u5 (r:R2) (ta tb:TE):TE:=fun σ H Q=>ta σ H λx H1=>tb σ H1 λy H2=>r x y H2 Q
def XC (r:V->Hp->VK->Prop) (ta:TE):TE:=fun σ H Q=>ta σ H λx H1=>r x H1 Q
def rI (C:Int->Int->Prop) (g:Int->Int->V):R2:=λx y H Q=>∃i j,x=.int i/\y=.int j/\C i j/\Q (g i j) H
def om (g:Int->Int->V):R2:=λx y H Q=>∃i j,x=.int i/\y=.int j/\Q (g i j) H
def rU (g:Int->V):V->Hp->VK->Prop:=λx H Q=>∃i,x=.int i/\Q (g i) H
section
variable {X:Cx} {a b c:ļ} {ta tb tc:TE} {pos:Pos}
def Cu (ha:PE X a ta) (hb:PE X b tb) {π:List (á×Obj)} {s:É} {σ:St} {H:Hp} {R:V->V->Hp->Prop} (I:Inv X π σ H s)
  (h:ta σ H λx H1=>tb σ H1 λy H2=>R x y H2) {Q:Í->É->Prop} {f:Í->Í->Sem Í}
  (hf:∀v u s2 x y H2,Inv X π σ H2 s2->RelV x v->RelV y u->R x y H2->à (ø X.prog X.w) X.A (f v u) Q X.xe s2) :
  à (ø X.prog X.w) X.A (Ť a X.env) (λv bL=>à (ø X.prog X.w) X.A (Ť b X.env) (λu yo=>à (ø X.prog X.w) X.A (f v u) Q X.xe yo) X.xe bL) X.xe s:=by
 refine aE (ha π s σ H _ I h) λv s1 ⟨x,H1,I1,r1,q1⟩=>?_;refine aE (hb π s1 σ H1 _ I1 q1) λu s2 ⟨y,H2,I2,r2,q2⟩=>?_;exact hf v u s2 x y H2 I2 r1 r2 q2
def Vt (ho:aY X (ŋ op) r) (ha:PE X a ta) (hb:PE X b tb):PE X (.BinOp a op b pos) (u5 r ta tb):=by
 intro π s σ H Q I h;exact wpAny_BinOp (Cu ha hb I h λv u s2 x y H2 I2 rx ry q=>ho π s2 σ H2 x y v u Q I2 rx ry q)
def Vu {op:UnaryOp} {r:V->Hp->VK->Prop} (ho:u4 X (unaryOp op) r) (ha:PE X a ta):PE X (.UnaryOp op a pos) (XC r ta):=by
 intro π s σ H Q I h;exact UnaryOp_ (aE (ha π s σ H _ I h) λv s1 ⟨x,H1,I1,r1,q1⟩=>ho π s1 σ H1 x v Q I1 r1 q1)
def yO {C:Int->Int->Prop} {g:Int->Int->Int}
 (rule:∀(i j:Int) (t u:Tok) (s:É) (Q:Í->É->Prop) (E:Í->É->Prop),C i j->Q (.int (g i j) s.toks) { s with toks:=s.toks+1 }->à (ø X.prog X.w) X.A (f (.int i t) (.int j u)) Q E s) :
  aY X f (rI C λi j=>.int (g i j)):=by
 intro π s σ H x y v u Q I rx ry h;obtain⟨i,j,rfl,rfl,hc,q⟩:=h;obtain⟨t,rfl⟩:=rx;obtain⟨t',rfl⟩:=ry;exact rule i j t t' s _ _ hc ⟨.int (g i j),H,I.tok _,⟨_,rfl⟩,q⟩
def KJ {g:Int->Int->Int}
 (rule:∀(i j:Int) (t u:Tok) (s:É) (Q:Í->É->Prop) (E:Í->É->Prop),Q (.int (g i j) s.toks) { s with toks:=s.toks+1 }->à (ø X.prog X.w) X.A (f (.int i t) (.int j u)) Q E s) :
  aY X f (om λi j=>.int (g i j)):=by
 intro π s σ H x y v u Q I rx ry h;obtain⟨i,j,rfl,rfl,q⟩:=h;obtain⟨t,rfl⟩:=rx;obtain⟨t',rfl⟩:=ry;exact rule i j t t' s _ _ ⟨.int (g i j),H,I.tok _,⟨_,rfl⟩,q⟩
def yp {g:Int->Int->Bool}
 (rule:∀(i j:Int) (t u:Tok) (s:É) (Q:Í->É->Prop) (E:Í->É->Prop),Q (.bool (g i j)) s->à (ø X.prog X.w) X.A (f (.int i t) (.int j u)) Q E s) :
  aY X f (om λi j=>.bl (g i j)):=by
 intro π s σ H x y v u Q I rx ry h;obtain⟨i,j,rfl,rfl,q⟩:=h;obtain⟨t,rfl⟩:=rx;obtain⟨t',rfl⟩:=ry;exact rule i j t t' s _ _ ⟨.bl (g i j),H,I,rfl,q⟩
def WN (i j:Int):Prop:=0<j/\j<1073741824
def WO (i j:Int):Prop:=0<=j/\j<=1000000/\i.natAbs<2 ^ 64
def yq (i j:Int):Prop:=(-(2 ^ 64)<i/\i<2 ^ 64)\/(-(2 ^ 64)<j/\j<2 ^ 64)
def yq.ok (h:yq i j):IntMulOk i j:=by
 rcases h with ⟨h1,h2⟩ | ⟨h1,h2⟩
 ·exact .of_left (intBits_le_64 h1 h2)
 ·exact .of_right (intBits_le_64 h1 h2)
def TR:aY X (ŋ .Add) (om λi j=>.int (i+j)):=KJ λ_ _ _ _ _ _ _ q=>add_int q
def TU:aY X (ŋ .Sub) (om λi j=>.int (i-j)):=KJ λ_ _ _ _ _ _ _ q=>sub_int q
def TV:aY X (ŋ .Mult) (rI yq λi j=>.int (i*j)):=yO λ_ _ _ _ _ _ _ hc q=>mul_int q hc.ok
def RJ:aY X (ŋ .FloorDiv) (rI WN λi j=>.int (i / j)):=yO λi j _ _ _ _ _ hc q=>by
 have h1:(0:Int)<j:=hc.1;have h2:j<1073741824:=hc.2;exact floordiv_int (by omega) (by rw[Int.fdiv_eq_ediv_of_nonneg i (by omega)];exact q) (.inl (PyProof.noPylong_small (by omega)))
def TX:aY X (ŋ .Mod) (rI (λ_ j=>0<j) λi j=>.int (i % j)):=yO λi j _ _ _ _ _ hc q=>by
 have h1:(0:Int)<j:=hc;exact mod_int' (by omega) (by rw[Int.fmod_eq_emod_of_nonneg i (by omega)];exact q)
def TY:aY X (ŋ .Pow) (rI WO λi j=>.int (i ^ j.toNat)):=yO λ_ _ _ _ _ _ _ hc q=>pow_int_small hc.1 hc.2.1 hc.2.2 q
def XD {g:Int->Int}
 (rule:∀(i:Int) (t:Tok) (s:É) (Q:Í->É->Prop) (E:Í->É->Prop),Q (.int (g i) s.toks) { s with toks:=s.toks+1 }->à (ø X.prog X.w) X.A (f (.int i t)) Q E s) :
  u4 X f (rU λi=>.int (g i)):=by
 intro π s σ H x v Q I rx h;obtain⟨i,rfl,q⟩:=h;obtain⟨t,rfl⟩:=rx;exact rule i t s _ _ ⟨.int (g i),H,I.tok _,⟨_,rfl⟩,q⟩
def TZ:u4 X (unaryOp .USub) (rU λi=>.int (-i)):=XD λ_ _ _ _ _ q=>neg_int q
end
noncomputable def Cv:V->V->Bool
 | .au,.au=>true | .au,.int _=>true | .int _,.au=>true | .au,.bl _=>true | .bl _,.au=>true | .au,.str _=>true | .str _,.au=>true
 | .int _,.int _=>true | .bl _,.bl _=>true | .str _,.str _=>true | .jy _,.jy _=>true
 | .int _,.str _=>true | .str _,.int _=>true | .bl _,.str _=>true | .str _,.bl _=>true
 |_,_=>false
def XE:R2:=λx y H Q=>Cv x y=true/\Q (.bl (decide (x=y))) H
def XF:R2:=λx y H Q=>Cv x y=true/\Q (.bl (!decide (x=y))) H
def HH:decide (V.int i=V.int j)=(i==j):=by
 rw[Š];simp
def IY:decide (V.bl i=V.bl j)=(i==j):=by
 rw[Š];simp
def AE:decide (V.str i=V.str j)=(i==j):=by
 rw[Š];simp
def HI:decide (V.jy i=V.jy j)=(i.toList==j.toList):=by
 rw[Š];cases i;cases j;simp
section
variable {X:Cx} {a b c:ļ} {ta tb tc:TE} {pos:Pos}
def cH {π:List (á×Obj)} {σ:St} {H:Hp} {s:É} {Q:VK} {k k':Bool} (I:Inv X π σ H s) (q:Q (.bl k) H) (e:k=k'):EP X π σ Q (.bool k') s:=by
 subst e;exact⟨.bl k,H,I,rfl,q⟩
def Vv:aY X (Č .Eq) XE:=by
 intro π s σ H x y v u Q I rx ry h;obtain⟨hs,q⟩:=h
 cases x with
 |au =>
  cases rx
  cases y with
  |au=>cases ry;exact PySem.EqNone.eq_none_none (cH I q (by simp))
  |bl j=>cases ry;exact PySem.EqNone.eq_none_bool (cH I q (by simp))
  |int j=>obtain⟨t',rfl⟩:=ry;exact PySem.EqNone.eq_none_int (cH I q (by simp))
  |str j=>obtain⟨t',rfl⟩:=ry;exact PySem.EqNone.eq_none_str (cH I q (by simp))
  |_=>exact absurd (show false=true from hs) Ë
 |bl i =>
  cases rx
  cases y with
  |au=>cases ry;exact PySem.EqNone.eq_bool_none (cH I q (by simp))
  |bl j=>cases ry;exact eq_bool (cH I q IY)
  |str j=>obtain⟨t',rfl⟩:=ry;exact PySem.EqMixed.eq_bool_str (cH I q (by simp))
  |_=>exact absurd (show false=true from hs) Ë
 |int i =>
  obtain⟨t,rfl⟩:=rx
  cases y with
  |au=>cases ry;exact PySem.EqNone.eq_int_none (cH I q (by simp))
  |int j=>obtain⟨t',rfl⟩:=ry;exact eq_int (cH I q HH)
  |str j=>obtain⟨t',rfl⟩:=ry;exact PySem.EqMixed.eq_int_str (cH I q (by simp))
  |_=>exact absurd (show false=true from hs) Ë
 |str i =>
  obtain⟨t,rfl⟩:=rx
  cases y with
  |au=>cases ry;exact PySem.EqNone.eq_str_none (cH I q (by simp))
  |bl j=>cases ry;exact PySem.EqMixed.eq_str_bool (cH I q (by simp))
  |int j=>obtain⟨t',rfl⟩:=ry;exact PySem.EqMixed.eq_str_int (cH I q (by simp))
  |str j=>obtain⟨t',rfl⟩:=ry;exact eq_str (cH I q AE)
  |_=>exact absurd (show false=true from hs) Ë
 |jy i =>
  obtain⟨t,rfl⟩:=rx
  cases y with
  |jy j=>obtain⟨t',rfl⟩:=ry;exact PySem.W.eq_bytes (cH I q HI)
  |_=>exact absurd (show false=true from hs) Ë
 |_=>cases y<;>exact absurd (show false=true from hs) Ë
def Vw:aY X (Č .NotEq) XF:=by
 intro π s σ H x y v u Q I rx ry h;obtain⟨hs,q⟩:=h
 cases x with
 |au =>
  cases rx
  cases y with
  |au=>cases ry;exact PySem.EqNone.ne_none_none (cH I q (by simp))
  |bl j=>cases ry;exact PySem.EqNone.ne_none_bool (cH I q (by simp))
  |int j=>obtain⟨t',rfl⟩:=ry;exact PySem.EqNone.ne_none_int (cH I q (by simp))
  |str j=>obtain⟨t',rfl⟩:=ry;exact PySem.EqNone.ne_none_str (cH I q (by simp))
  |_=>exact absurd (show false=true from hs) Ë
 |bl i =>
  cases rx
  cases y with
  |au=>cases ry;exact PySem.EqNone.ne_bool_none (cH I q (by simp))
  |bl j=>cases ry;exact ne_bool (cH I q (Ĺ not IY))
  |str j=>obtain⟨t',rfl⟩:=ry;exact PySem.EqMixed.ne_bool_str (cH I q (by simp))
  |_=>exact absurd (show false=true from hs) Ë
 |int i =>
  obtain⟨t,rfl⟩:=rx
  cases y with
  |au=>cases ry;exact PySem.EqNone.ne_int_none (cH I q (by simp))
  |int j=>obtain⟨t',rfl⟩:=ry;exact ne_int (cH I q (Ĺ not HH))
  |str j=>obtain⟨t',rfl⟩:=ry;exact PySem.EqMixed.ne_int_str (cH I q (by simp))
  |_=>exact absurd (show false=true from hs) Ë
 |str i =>
  obtain⟨t,rfl⟩:=rx
  cases y with
  |au=>cases ry;exact PySem.EqNone.ne_str_none (cH I q (by simp))
  |bl j=>cases ry;exact PySem.EqMixed.ne_str_bool (cH I q (by simp))
  |int j=>obtain⟨t',rfl⟩:=ry;exact PySem.EqMixed.ne_str_int (cH I q (by simp))
  |str j=>obtain⟨t',rfl⟩:=ry;exact ne_str (cH I q (Ĺ not AE))
  |_=>exact absurd (show false=true from hs) Ë
 |jy i =>
  obtain⟨t,rfl⟩:=rx
  cases y with
  |jy j=>obtain⟨t',rfl⟩:=ry;exact PySem.W.ne_bytes (cH I q (Ĺ not HI))
  |_=>exact absurd (show false=true from hs) Ë
 |_=>cases y<;>exact absurd (show false=true from hs) Ë
def Vx:aY X (Č .Lt) (om λi j=>.bl (decide (i<j))):=yp λ_ _ _ _ _ _ _ q=>lt_int q
def Vy:aY X (Č .LtE) (om λi j=>.bl (decide (i<=j))):=yp λ_ _ _ _ _ _ _ q=>le_int q
def Vz:aY X (Č .Gt) (om λi j=>.bl (decide (j<i))):=yp λ_ _ _ _ _ _ _ q=>gt_int q
def VA:aY X (Č .GtE) (om λi j=>.bl (decide (j<=i))):=yp λ_ _ _ _ _ _ _ q=>ge_int q
def RK:aY X (Č .IsNot) (λx y H Q=>y=.au/\Q (.bl (!decide (x=.au))) H):=by
 intro π s σ H x y v u Q I rx ry h;obtain⟨rfl,q⟩:=h;cases ry;refine isnot_none_gen (cH I q ?_)
 cases x<;>first
  |(cases rx;rfl)
  |(obtain⟨t,rfl⟩:=rx;rfl)
def bz (b:ļ) (h:op≠.In:=by decide) (h2:op≠.NotIn:=by decide):aaX op b=false:=by
 have e1:(op==CmpOp.In)=false:=by cases op<;>first|rfl|exact absurd rfl h
 have e2:(op==CmpOp.NotIn)=false:=by cases op<;>first|rfl|exact absurd rfl h2
 cases b<;>simp[aaX,e1,e2]
def RL (ho:aY X (Č op) r) (ha:PE X a ta) (hb:PE X b tb) (hm:aaX op b=false):PE X (.Compare a [op] [b] pos) (u5 r ta tb):=by
 intro π s σ H Q I h;exact wpAny_Compare1 (Cu ha hb I h λv u s2 x y H2 I2 rx ry q=>ho π s2 σ H2 x y v u Q I2 rx ry q) hm
def t4 (t:TE):TT:=fun σ H Q=>t σ H λx H'=>∃k,x=.bl k/\Q k H'
def RM {op:CmpOp} {r:R2} (ho:aY X (Č op) r) (ha:PE X a ta) (hb:PE X b tb) (hm:aaX op b=false):PT X (.Compare a [op] [b] pos) (t4 (u5 r ta tb)):=by
 intro π s σ H Q I h;refine wpAny_isTrue_Compare1 (aE (ha π s σ H _ I h) λv s1 ⟨x,H1,I1,r1,q1⟩=>aE (hb π s1 σ H1 _ I1 q1) λu s2 ⟨y,H2,I2,r2,q2⟩ =>
  aE (ho π s2 σ H2 x y v u _ I2 r1 r2 q2) λc s3 ⟨z,H3,I3,r3,k,e,q3⟩=>?_) hm
 subst e;cases r3;exact Į ⟨H3,I3,q3⟩
def A5 (r r':R2) (ta tb tc:TE):TE:=fun σ H Q=>ta σ H λx H1=>tb σ H1 λy H2=>r x y H2 λz H3=>∃k,z=.bl k /\
 (if k=true then tc σ H3 λw' H4=>r' y w' H4 Q else Q (.bl false) H3)
def Qa {op jz:CmpOp} {r r':R2} (ho:aY X (Č op) r) (dg:aY X (Č jz) r') (ha:PE X a ta) (hb:PE X b tb) (hc:PE X c tc)
  (hm:lastMarks [op,jz] [b,c]=false:=by with_unfolding_all rfl):PE X (.Compare a [op,jz] [b,c] pos) (A5 r r' ta tb tc):=by
 intro π s σ H Q I h;refine Compare_chain (aE (ha π s σ H _ I h) λv s1 ⟨x,H1,I1,r1,q1⟩=>chain_link (aE (hb π s1 σ H1 _ I1 q1) λu s2 ⟨y,H2,I2,r2,q2⟩ =>
  aE (ho π s2 σ H2 x y v u _ I2 r1 r2 q2) λd s3 ⟨z,H3,I3,r3,k,e,q3⟩=>?_)) hm
 subst e;cases r3;refine Į ?_
 cases k with
 |false=>exact ite_ff ⟨.bl false,H3,I3,rfl,q3⟩
 |true=>exact ite_tt (chain_last (aE (hc π s3 σ H3 _ I3 q3) λw' s4 ⟨z',H4,I4,r4,q4⟩=>dg π s4 σ H4 y z' u w' Q I4 r2 r4 q4))
def Qb {op jz:CmpOp} {r r':R2} (ho:aY X (Č op) r) (dg:aY X (Č jz) r') (ha:PE X a ta) (hb:PE X b tb) (hc:PE X c tc)
  (hm:lastMarks [op,jz] [b,c]=false:=by with_unfolding_all rfl):PT X (.Compare a [op,jz] [b,c] pos) (t4 (A5 r r' ta tb tc)):=by
 intro π s σ H Q I h;refine isTrue_chain (aE (ha π s σ H _ I h) λv s1 ⟨x,H1,I1,r1,q1⟩=>test_link (aE (hb π s1 σ H1 _ I1 q1) λu s2 ⟨y,H2,I2,r2,q2⟩ =>
  aE (ho π s2 σ H2 x y v u _ I2 r1 r2 q2) λd s3 ⟨z,H3,I3,r3,k,e,q3⟩=>?_)) hm
 subst e;cases r3;refine Į ?_
 cases k with
 |false =>
  obtain⟨k',e',q'⟩:=q3;cases e';exact ite_ff ⟨H3,I3,q'⟩
 |true =>
  refine ite_tt (test_last (aE (hc π s3 σ H3 _ I3 q3) λw' s4 ⟨z',H4,I4,r4,q4⟩=>aE (dg π s4 σ H4 y z' u w' _ I4 r2 r4 q4) λd' s5 ⟨z2,H5,I5,r5,k2,e2,q5⟩=>?_));subst e2;cases r5;exact Į ⟨H5,I5,q5⟩
def pJ (K:Ĳ) (x:V) (H:Hp) (k:Bool):Prop :=
 match x with
 | .au=>k=false
 | .bl b=>k=b
 | .int i=>k=(i != 0)
 | .str y=>y.length<=Õ/\k=((y.length:Int) != 0)
 | .jy y=>y.size<=Õ/\k=((y.size:Int) != 0)
 | .ref p=>(∃xs,bu K H p xs/\k=!xs.isEmpty)\/(∃xs,aT K H p xs/\k=!xs.isEmpty)\/∃ai,H p=some (.dK ai)/\k=!ai.isEmpty
 |_=>False
def NM {κ:Type} {ai:List (κ×V)} {vs:List (κ×Í)} (r:KV ai vs):(!vs.isEmpty)=!ai.isEmpty:=by
 cases r<;>rfl
def FZ (r:Vals xs its):(!its.toArray.isEmpty)=!xs.isEmpty:=by
 cases r<;>simp
def oW:(Õ:Nat)<2 ^ 63:=by rw[η];decide
def IZ:WM X (λx H Q=>∃k,pJ X.K x H k/\Q k H):=by
 intro π s σ H x v Q I rx h;obtain⟨k,e,q⟩:=h;have hl:=oW;have hs:Õ=16777216:=η
 cases x with
 |au =>
  cases rx;have e':k=false:=e;subst e';exact truthy_none ⟨H,I,q⟩
 |bl b =>
  cases rx;have e':k=b:=e;subst e';exact Į ⟨H,I,q⟩
 |int i =>
  obtain⟨t,rfl⟩:=rx;have e':k=(i != 0):=e;subst e';exact PySem.P.truthy_int ⟨H,I,q⟩
 |str y =>
  obtain⟨t,rfl⟩:=rx;obtain⟨hy,e'⟩:y.length<=Õ/\k=((y.length:Int) != 0):=e;subst e';exact PySem.P.truthy_str (by omega) ⟨H,I.tok _,q⟩
 |jy y =>
  obtain⟨t,rfl⟩:=rx;obtain⟨hy,e'⟩:y.size<=Õ/\k=((y.size:Int) != 0):=e;subst e';exact PySem.W.truthy_bytes (by omega) ⟨H,I.tok _,q⟩
 |ref p =>
  cases rx;have e':(∃xs,bu X.K H p xs/\k=!xs.isEmpty)\/(∃xs,aT X.K H p xs/\k=!xs.isEmpty)\/∃ai,H p=some (.dK ai)/\k=!ai.isEmpty:=e
  rcases e' with ⟨xs,hx,e'⟩ | ⟨xs,hx,e'⟩ | ⟨ai,hx,e'⟩
  ·subst e'
   obtain⟨its,r,pl,hz⟩:=I.list hx;have hlen:=r.length;exact wpAny_truthy_list pl.isList (by simp only[Ô];omega) ⟨H,I.tok _,by rw[FZ r];exact q⟩
  ·subst e'
   obtain⟨its,r,pl,hz⟩:=I.tuple hx;have hlen:=r.length;exact truthy_tuple pl (by simp only[Ô];omega) ⟨H,I.tok _,by rw[FZ r];exact q⟩
  ·subst e'
   obtain⟨hz,hS,vs,r,m⟩:ai.length<=Õ/\(p==ł)=false/\∃vs,KV ai vs/\s.heap.DictOf (jK X.prog X.w) p vs:=I.aF p _ hx;have hlen:ai.length=vs.length:=Paired.length r;exact wpAny_truthy_dict hS m (by omega) ⟨H,I.tok _,by rw[NM r];exact q⟩
 |_=>exact(show False from e).elim
def Qc (ha:PE X a ta) (he:∀whole,isTrue a X.env whole=(do let v <- whole;abg a.pos;aac [v] (truthy v))) :
  PT X a (fun σ H Q=>ta σ H λx H'=>∃k,pJ X.K x H' k/\Q k H'):=by
 intro π s σ H Q I h;exact isTrue_plain (aE (ha π s σ H _ I h) λv s1 ⟨x,H1,I1,r1,q1⟩=>IZ π s1 σ H1 x v Q I1 r1 q1) (he _)
def NN:aY X (ŋ .Add) (λx y H Q=>∃i j,x=.str i/\y=.str j/\i.length+j.length<=Õ/\Q (.str (i++j)) H):=by
 intro π s σ H x y v u Q I rx ry h;obtain⟨i,j,rfl,rfl,hz,q⟩:=h;obtain⟨t,rfl⟩:=rx;obtain⟨t',rfl⟩:=ry;exact add_str (λt' tk=>⟨.str (i++j),H,I.tok _,⟨_,rfl⟩,q⟩) hz
def vals1 (r:Vals [x] us):∃u,us=[u]/\RelV x u:=by
 cases r with
 |cons r1 r2=>cases r2;exact⟨_,rfl,r1⟩
def vals2 (r:Vals [x,y] us):∃u w',us=[u,w']/\RelV x u/\RelV y w':=by
 cases r with
 |cons r1 r2 =>
  cases r2 with
  |cons r3 r4=>cases r4;exact⟨_,_,rfl,r1,r3⟩
def OP (hc:X.calm=true):bY X (.builtin "max") (λxs H Q=>∃i j,xs=[.int i,.int j]/\Q (.int (if j > i then j else i)) H):=by
 intro π s σ H xs us Q I r h;obtain⟨i,j,rfl,q⟩:=h;obtain⟨u,w',rfl,⟨t,rfl⟩,⟨t',rfl⟩⟩:=vals2 r;refine max_two_ints (I.ok.hd hc) λh' tk k=>⟨_,H,I.kept k,?_,q⟩;by_cases hj:j > i
 ·rw[Ú hj,Ú hj];exact⟨_,rfl⟩
 ·rw[æ hj,æ hj];exact⟨_,rfl⟩
def OQ (hc:X.calm=true):bY X (.builtin "min") (λxs H Q=>∃i j,xs=[.int i,.int j]/\Q (.int (if j<i then j else i)) H):=by
 intro π s σ H xs us Q I r h;obtain⟨i,j,rfl,q⟩:=h;obtain⟨u,w',rfl,⟨t,rfl⟩,⟨t',rfl⟩⟩:=vals2 r;refine min_two_ints (I.ok.hd hc) λh' tk k=>⟨_,H,I.kept k,?_,q⟩;by_cases hj:j<i
 ·rw[Ú hj,Ú hj];exact⟨_,rfl⟩
 ·rw[æ hj,æ hj];exact⟨_,rfl⟩
end
structure aap (h:ŏ) (x dx C:á) (mA:Str->Option Í):Prop where
 obj:h.get? x=some (PySem.W.instObj C dx)
 ns:h.Ns1 dx mA
 ne:dx≠x
section
variable {prog:ù} {w:ď} {A:đ} {E:Í->É->Prop} {s:É} {K:Ĳ} {x dx C f:á} {mA:Str->Option Í} {name:Str} {v:Í}
end
section
variable {P:ù} {w:ď} {H H':Hp} {h h':ŏ} {a C dx:á} {fs Xy:List (Str×V)}
end
structure XG (K:Ĳ) (C:á):Prop where
 pg:PySem.W.plainGet K C Str.empty=true
 hd:PySem.W.hasDictIn K C=true
 po:PySem.W.plainOver K C=true
 sa:abr K (.ref C) "__setattr__"=some (some (.builtin "object.__setattr__"))
structure Con (K:Ĳ) (C:á) (f:Str) (v:V) (u:Í):Prop where
 at_:abr K (.ref C) f=some (some u)
 rel:RelV v u
 get:PySem.W.specialIn K u "__get__"=some none
 cp:PySem.W.copiedNames.contains f=false
structure Meth (K:Ĳ) (C:á) (m:Str) (f:á):Prop where
 at_:abr K (.ref C) m=some (some (.ref f))
 fn:PySem.W.isFn K (.ref f)=true
 kp:ų K (.ref f)=true
section
variable {X:Cx} {π:List (á×Obj)} {σ:St} {H:Hp} {s:É} {a C dx:á} {fs:List (Str×V)} {f:Str} {v:V} {A:đ} {E:Í->É->Prop}
end
section
variable {X:Cx} {o e value:ļ} {f:Str} {pos pos' uE:Pos} {ta tv:TE}
end
section
variable {X:Cx} {π:List (á×Obj)} {σ:St} {H:Hp} {s:É} {A:đ} {E:Í->É->Prop} {Q:Í->É->Prop} {c:Í} {b:Bool}
inductive kE (K:Ĳ) (H:Hp):V->Í->Prop where
 |au:kE K H .au (.type "NoneType")
 |bl (x:Bool):kE K H (.bl x) (.type "bool")
 |int (i:Int):kE K H (.int i) (.type "int")
 |str (x:Str):kE K H (.str x) (.type "str")
 |uP (x:UInt64):kE K H (.uP x) (.type "float")
 |lst {a:á} {xs:List V} (e:H a=some (.lst xs)):kE K H (.ref a) (.type "list")
 |cO {a:á} {o:Obj} {xs:List V} (e:H a=some (.cO o (.lst xs))):kE K H (.ref a) (.type "list")
 |tup {a:á} {xs:List V} (e:H a=some (.tup xs)):kE K H (.ref a) (.type "tuple")
 |dK {a:á} {ai:List (Key×V)} (e:H a=some (.dK ai)):kE K H (.ref a) (.type "dict")
 |dT {a:á} {ai:List (List Key×V)} (e:H a=some (.dT ai)):kE K H (.ref a) (.type "dict")
 |ins {a C dx:á} {fs:List (Str×V)} (e:H a=some (.ins C dx fs)) (cl:XG K C) (ha:abr K (.ref C) "__class__"=some (some (.builtin "object.__class__")))
   (hn:PySem.W.specialIn K (.builtin "object.__class__") "__get__"=some (some (.builtin "getset_descriptor.__get__"))) (Li:PySem.W.takesIn K (.builtin "object.__class__")=some true)
   (hm:PySem.W.mroIn K C (.type "object")=some true):kE K H (.ref a) (.ref C)
end
structure bW (k:Nat) (A:đ):Prop where
 hd:A.handled=none
 dp:A.depth+3*k+5<recursionLimit
 un:A.units+16*k+200<abQ
 gd:A.guards=some []
def bW.mono (r:bW k A) (h:j<=k):bW j A:=⟨r.hd,by have:=r.dp;omega,by have:=r.un;omega,r.gd⟩
def bW.deeper (r:bW (k+1) A) (env:Env):bW k (A.deeper env) :=
 ⟨r.hd,by have:=r.dp;show A.depth+1+3*k+5 < _;omega,by have:=r.un;show A.units+3+16*k+200 < _;omega,r.gd⟩
def bW.in1 (r:bW (k+1) A):bW k A.in1 :=
 ⟨r.hd,by have:=r.dp;show A.depth+3*k+5 < _;omega,by have:=r.un;show A.units+1+16*k+200 < _;omega,r.gd⟩
def bW.depth (r:bW k A):A.depth<recursionLimit:=by have:=r.dp;omega
def Cw:TA:=λ_ H Q=>Q [] H
def xQ (ta:TE) (tr:TA):TA:=fun σ H Q=>ta σ H λx H1=>tr σ H1 λxs H2=>Q (x::xs) H2
section
variable {X:Cx} {e:ļ} {es:List ļ} {te:TE} {t:TA} {pos:Pos}
def nA:PA X [] Cw:=λ_ _ _ _ H Q I h=>Calls.spliced_nil ⟨[],H,I,.nil,h⟩
def lE (ha:PE X e te) (hr:PA X es t) (hs:Þ (e::es) X.env=(false,Ť e X.env)::Þ es X.env:=by rfl):PA X (e::es) (xQ te t):=by
 intro pos π s σ H Q I h;rw[hs];show à _ _ (spliced ((false,Ť e X.env)::aab pos (Þ es X.env))) _ _ s;refine Calls.spliced_cons (aE (ha π s σ H _ I h) λu s1 ⟨x,H1,I1,r1,q1⟩=>?_);exact aE (hr pos π s1 σ H1 _ I1 q1) λus s2 ⟨xs,H2,I2,r2,q2⟩=>⟨x::xs,H2,I2,.cons r1 r2,q2⟩
def WQ (t:TA):TE:=fun σ H Q=>t σ H λxs H1=>xs.length<=Õ/\∀p,H1 p=none->Q (.ref p) (upd H1 p (.tup xs))
def WR (t:TA):TE:=fun σ H Q=>t σ H λxs H1=>xs.length<=Õ/\∀p,H1 p=none->Q (.ref p) (upd H1 p (.lst xs))
def T4 {x1} (h:PA X es t):PE X (.Tuple es x1 pos) (WQ t):=by
 intro π s σ H Q I hq;refine wpAny_Tuple_spliced (aE (h pos π s σ H _ I hq) λus s1 ⟨xs,H1,I1,r,z,q⟩=>⟨by rw[<- r.length];exact z,?_⟩);have hf:H1 s1.heap.objs.size=none:=I1.aF.fresh (Nat.le_refl _);refine⟨.ref s1.heap.objs.size,upd H1 s1.heap.objs.size (.tup xs),I1.laid (t':=s1.toks) (λb u e=>Á _ e) (Nat.le_refl _) ?_,rfl,q _ hf⟩;exact⟨z,us,r,⟨_,Ì _ rfl,rfl,_,rfl⟩⟩
def Ja (h:PA X es t):PE X (.List es pos) (WR t):=by
 intro π s σ H Q I hq;refine wpAny_List_spliced (aE (h pos π s σ H _ I hq) λus s1 ⟨xs,H1,I1,r,z,q⟩=>⟨by rw[<- r.length];exact z,?_⟩);have hf:H1 s1.heap.objs.size=none:=I1.aF.fresh (Nat.le_refl _);refine⟨.ref s1.heap.objs.size,upd H1 s1.heap.objs.size (.lst xs),I1.laid (t':=s1.toks) (λb u e=>Á _ e) (Nat.le_refl _) ?_,rfl,q _ hf⟩;exact⟨z,us,0,r,Ì _ rfl⟩
end
abbrev Sp:=List V->Hp->VK->XK->Prop
abbrev j5:=List Env->Hp->É->XK->Í->É->Prop
structure yr (P:ù) (w:ď) (K:Ĳ) (mg:Str->Option Í) (base:ŏ) (A:đ) (outer:List Env) (s:É) (H:Hp):Prop where
 frames:A.frames=some outer
 mod:Mod K mg base
 bs:∀b o,base.get? b=some o->s.heap.get? b=some o/\H b=none
 i8:base.objs.size<=s.heap.objs.size
 js:s.heap.FunFrames base outer
 oh:∀b∈gU outer,H b=none
 aF:cc P w H s.heap
 bare:AllBare s.gens
def CE (outer:List Env) (P:ù) (w:ď) (H:Hp) (s:É) (Q:VK) (u:Í) (s':É):Prop :=
 ∃v H',s'.os=s.os/\AllBare s'.gens/\Un (gU outer) [] H H' s.heap s'.heap/\cc P w H' s'.heap/\RelV v u/\Q v H'
def CR (CX:j5) (outer:List Env) (P:ù) (w:ď) (H:Hp) (s:É) (Q:VK) (E:XK) (r:Result) (s':É):Prop :=
 match r with
 | .ok (.ret u)=>CE outer P w H s Q u s'
 | .ok _=>False
 | .error e=>CX outer H s E e s'
structure fB (P:ù) (w:ď) (K:Ĳ) (mg:Str->Option Í) (base:ŏ) (CX:j5) (k:Nat) (f:á) (fd:Ŗ) (ps:List Str) (sp:Sp):Prop where
 len:∀vs H Q E,sp vs H Q E->vs.length=ps.length
 run:∀(A:đ) (outer:List Env) (s:É) (H:Hp) (args:Args) (us:List Í) (vs:List V) (Q:VK) (E:XK),bW k A->yr P w K mg base A outer s H->BindsTo s fd args (ps.zip us)->Vals vs us->sp vs H Q E ->
  aaO (ø P w) A (.call (.ref f) args) (CR CX outer P w H s Q E) s
def fB.imp {P:ù} {w:ď} {K:Ĳ} {mg:Str->Option Í} {base:ŏ} {CX:j5} {k:Nat} {f:á} {fd:Ŗ} {ps:List Str} {sp Lj:Sp} (F:fB P w K mg base CX k f fd ps sp)
  (h:∀vs H Q E,Lj vs H Q E->sp vs H Q E):fB P w K mg base CX k f fd ps Lj :=
 ⟨λvs H Q E q=>F.len vs H Q E (h _ _ _ _ q),λA outer s H args us vs Q E hr he hb hv hs=>F.run A outer s H args us vs Q E hr he hb hv (h _ _ _ _ hs)⟩
section
variable {X:Cx} {π:List (á×Obj)} {σ:St} {H:Hp} {s s':É}
def Inv.pK (I:Inv X π σ H s):yr X.prog X.w X.K X.mg X.base X.A X.stack s H :=
 ⟨I.ok.frames,I.ok.mod,I.bs,Û I.ok.i8 I.sz,I.stack,I.AB,I.aF,I.bare⟩
def Inv.after (I:Inv X π σ H s) (h:CE X.stack X.prog X.w H s Q u s'):EP X π σ Q u s':=by
 obtain⟨v,H',os,bare,un,aF,r,q⟩:=h;obtain⟨hh,g,d,t,Di⟩:=s';obtain rfl:Di=s.os:=os;exact⟨v,H',I.call (h':=hh) (g':=g) (d':=d) (t':=t) (ch:=[]) un aF bare (λb z=>absurd z (by simp)),r,q⟩
end
def VB (sp:Sp) (aq:List V) (E:XK) (t:TA):TE:=fun σ H Q=>t σ H λvs H1=>sp (vs++aq) H1 Q E
def Binds (K:Ĳ) (fd:Ŗ) (ps:List Str) (ds:List Í):Prop :=
 ∀(s:É) (us:List Í),K.In s.heap->(us++ds).length=ps.length->BindsTo s fd ⟨us,[]⟩ (ps.zip (us++ds))
def Binds.all {K:Ĳ} {fd:Ŗ} {ps:List Str} (h:∀us:List Í,us.length=ps.length->bindArgs fd ⟨us,[]⟩=pure (ps.zip us)):Binds K fd ps []:=λs us _ hl=>by
 rw[Ō] at hl |-;exact .of_eq (h us hl)
def Passes (CX:j5) (X:Cx) (E:XK):Prop:=∀(π:List (á×Obj)) (σ:St) (H:Hp) (s:É) (e:Í) (s':É),Inv X π σ H s->CX X.stack H s E e s'->X.xe e s'
section
variable {X:Cx} {CX:j5} {k:Nat} {f C:á} {fd:Ŗ} {ps:List Str} {sp:Sp} {aq:List V} {ds:List Í} {E:XK} {x m:Str} {p pos apos:Pos} {e o:ļ} {es:List ļ} {ta:TE} {t:TA}
def Jb {π:List (á×Obj)} {σ:St} {H:Hp} {s:É} {Q:VK} {us:List Í} {vs:List V} (F:fB X.prog X.w X.K X.mg X.base CX k f fd ps sp) (hr:bW k X.A) (hb:Binds X.K fd ps ds) (hd:Vals aq ds) (hx:Passes CX X E)
  (I:Inv X π σ H s) (r:Vals vs us) (h:sp (vs++aq) H Q E):à (ø X.prog X.w) X.A (call (.ref f) us) (EP X π σ Q) X.xe s:=by
 have r2:Vals (vs++aq) (us++ds):=r.append hd;have hl:(us++ds).length=ps.length:=by rw[<- r2.length];exact F.len _ _ _ _ h
 refine wpAny_call (ů (F.run X.A X.stack s H ⟨us,[]⟩ (us++ds) (vs++aq) Q E hr I.pK (hb s us I.sm hl) r2 h) λr s' hq=>?_)
 cases r with
 |error e=>exact hx π σ H s e s' I hq
 |ok fl =>
  cases fl with
  |ret u=>exact I.after hq
  |next=>exact aak hq
  |brk=>exact aak hq
  |cont=>exact aak hq
def RN (F:fB X.prog X.w X.K X.mg X.base CX k f fd ps sp) (hr:bW k X.A) (hg:Gl X x) (hm:X.mg x=some (.ref f)) (hk:ų X.K (.ref f)=true) (hb:Binds X.K fd ps ds) (hd:Vals aq ds) (hx:Passes CX X E)
  (ha:PA X (e::es) t) (jA:(x==("__debug__":Str))=false:=by decide) (he:Þ (e::es) X.env=(false,Ť e X.env)::Þ es X.env:=by rfl) (cP:(aab pos (Þ es X.env)).any (·.1)=false:=by rfl) :
  PE X (.Call (.Name x p) (e::es) [] pos) (VB sp aq E t):=by
 intro π s σ H Q I h;refine aaY (HF I hg hm ?_ jA);refine PySem.W.callWith_K (h₀:=X.base) I.ok.mod.uR hk (aE (ha pos π s σ H _ I h) λus s1 ⟨vs,H1,I1,r,q⟩=>⟨I1.sm,?_⟩) he cP;exact Jb F hr hb hd hx I1 r q
structure Mk (K:Ĳ) (C f:á):Prop where
 makes:PySem.W.makesIn K C=true
 init:abr K (.ref C) "__init__"=some (some (.ref f))
 fn:PySem.W.isFn K (.ref f)=true
 kp:ų K (.ref C)=true
end
def PK (X:Cx) (u6:List acd) (t:TA):Prop :=
 ∀(pos:Pos) (π:List (á×Obj)) (s:É) (σ:St) (H:Hp) (Q:List V->Hp->Prop),Inv X π σ H s->t σ H Q->à (ø X.prog X.w) X.A (evalAll ((backToKw pos (abR u6 X.env)).map (·.2))) (AP X π σ Q) X.xe s
section
variable {X:Cx} {CX:j5} {k:Nat} {f C:á} {fd:Ŗ} {ps ks:List Str} {sp:Sp} {E:XK} {x m:Str} {p pos apos yt:Pos} {e o:ļ} {es:List ļ} {u6:List acd} {te ta:TE} {t tk:TA} {nm:Option Str}
def T5:PK X [] Cw:=λ_ _ _ _ H Q I h=>wpAny_evalAll_nil ⟨[],H,I,.nil,h⟩
def HJ (ha:PE X e te) (hr:PK X u6 t):PK X (⟨nm,e,yt⟩::u6) (xQ te t):=by
 intro pos π s σ H Q I h
 show à _ _ (evalAll ((do let v <- Ť e X.env;abg pos;pure v)::(backToKw pos (abR u6 X.env)).map (·.2))) _ _ s
 refine wpAny_evalAll_cons (À (aE (ha π s σ H _ I h) λu s1 ⟨x,H1,I1,r1,q1⟩=>À (Ŕ (Â ?_))));exact aE (hr pos π s1 σ H1 _ I1 q1) λus s2 ⟨xs,H2,I2,r2,q2⟩=>⟨x::xs,H2,I2,.cons r1 r2,q2⟩
structure aao (K:Ĳ) (fd:Ŗ) (ps ks:List Str) (g:List Í->List Í->List Í) (gV:List V->List V->List V):Prop where
 to:∀(s:É) (us ws:List Í),K.In s.heap->(g us ws).length=ps.length->BindsTo s fd ⟨us,ks.zip ws⟩ (ps.zip (g us ws))
 rel:∀{vs:List V} {us:List Í} {zs:List V} {ws:List Í},Vals vs us->Vals zs ws->Vals (gV vs zs) (g us ws)
variable {g:List Í->List Í->List Í} {gV:List V->List V->List V}
end
structure qO (N P:List Str) (sc:abf):Prop where
 kind:sc.kind=.function
 co:sc.isCoroutine=false
 gen:sc.isGenerator=false
 nd:N.Nodup
 pre:N.take P.length=P
 par:∀x∈P,sc.names.lookup x=some .local\/sc.names.lookup x=some .cell
 T6:∀y∈sc.names,y.2≠.free
def Gf {kindOf:Str->Option aal} {x:Str}:∀{binds:List (Str×Í)} {m:Str->Option Í},(∀v,(x,v)∉binds)->bindL kindOf binds m x=m x
 | [],_,_=>rfl
 |(n,v)::r,m,h=>by
  unfold bindL;rw[Gf λw hw=>h w (Ñ _ hw)];split
  ·have:x≠n:=by rintro rfl;exact h v Ò
   simp[this]
  ·rfl
def Gg {kindOf:Str->Option aal} {x:Str}:∀{binds:List (Str×Í)} {m:Str->Option Í},(∀v,(x,v)∉binds)->bindC kindOf binds m x=m x
 | [],_,_=>rfl
 |(n,v)::r,m,h=>by
  unfold bindC;rw[Gg λw hw=>h w (Ñ _ hw)];split
  ·rfl
  ·have:x≠n:=by rintro rfl;exact h v Ò
   simp[this]
def Gh {kindOf:Str->Option aal} {x:Str} {v:Í}:∀{P:List Str} {vs:List Í} {i:Nat} {m:Str->Option Í},P.Nodup->P[i]?=some x->vs[i]?=some v->kindOf x=some .local ->
  bindL kindOf (P.zip vs) m x=some v
 | [],_,_,_,_,h,_,_=>by simp at h
 |_::_,[],_,_,_,_,h,_=>by simp at h
 |p::P,w::vs,0,m,nd,h1,h2,hk=>by
  simp at h1 h2;subst h1;subst h2;show bindL kindOf ((p,w)::P.zip vs) m p=_;unfold bindL;rw[Gf λv hv=>(aad.mp nd).1 (aae hv).1,Ú hk];simp
 |p::P,w::vs,i+1,m,nd,h1,h2,hk=>by
  show bindL kindOf ((p,w)::P.zip vs) m x=_;unfold bindL;exact Gh (i:=i) (aad.mp nd).2 (by simpa using h1) (by simpa using h2) hk
def Gi {kindOf:Str->Option aal} {x:Str} {v:Í}:∀{P:List Str} {vs:List Í} {i:Nat} {m:Str->Option Í},P.Nodup->P[i]?=some x->vs[i]?=some v->kindOf x≠some .local ->
  bindC kindOf (P.zip vs) m x=some v
 | [],_,_,_,_,h,_,_=>by simp at h
 |_::_,[],_,_,_,_,h,_=>by simp at h
 |p::P,w::vs,0,m,nd,h1,h2,hk=>by
  simp at h1 h2;subst h1;subst h2;show bindC kindOf ((p,w)::P.zip vs) m p=_;unfold bindC;rw[Gg λv hv=>(aad.mp nd).1 (aae hv).1,æ hk];simp
 |p::P,w::vs,i+1,m,nd,h1,h2,hk=>by
  show bindC kindOf ((p,w)::P.zip vs) m x=_;unfold bindC;exact Gi (i:=i) (aad.mp nd).2 (by simpa using h1) (by simpa using h2) hk
def start (N:List Str) (vs:List V):St:=vs.map some++Ï (N.length-vs.length) none
def nU (CX:j5) (P:ù) (w:ď) (K:Ĳ) (mg:Str->Option Í) (base:ŏ) (N:List Str) (qual:Str) (scope:abf) (f:á) (cd:Í) (A:đ) (outer:List Env) (s:É) (H:Hp) (E:XK):Cx where
 prog:=P
 w:=w
 K:=K
 mg:=mg
 base:=base
 A:=A.deeper (envOfC qual scope s.heap.objs.size f cd)
 N:=N
 dQ:=s
 uD:=H
 env:=envOfC qual scope s.heap.objs.size f cd
 outer:=outer
 stack:=envOfC qual scope s.heap.objs.size f cd::outer
 ex:=[]
 calm:=true
 fn:=λ_=>true
 pn:=[]
 xe:=λe s'=>à (ø P w) (A.deeper (envOfC qual scope s.heap.objs.size f cd)) (leaving (envOfC qual scope s.heap.objs.size f cd) e) (λ_ u7=>CX outer H s E e u7) (λe' u7=>CX outer H s E e' u7) s'
def GY {sc:abf} {n:Nat} {x:Str} (h:sc.names.lookup x=some .cell):∃c,(aaB n sc.names []).lookup x=some c:=by
 have q:=aba sc.names n [] (.inl h);exact Option.isSome_iff_exists.mp q
def OR {CX:j5} {P:ù} {w:ď} {K:Ĳ} {mg:Str->Option Í} {base:ŏ} {N ps:List Str} {qual:Str} {scope:abf} {f:á} {cd:Í} {A:đ} {outer:List Env} {s s1:É} {H:Hp} {E:XK} {us:List Í} {vs:List V}
  (S:qO N ps scope) (hd:A.handled=none) (e0:yr P w K mg base A outer s H) (hl:vs.length=ps.length) (r:Vals vs us)
  (x:InCallC s s.heap.objs.size (bindL (envOfC qual scope s.heap.objs.size f cd).kindOf (ps.zip us) λ_=>none) (aaB (s.heap.objs.size+1) scope.names []) (bindC (envOfC qual scope s.heap.objs.size f cd).kindOf (ps.zip us) λ_=>none) s1) :
  Inv (nU CX P w K mg base N qual scope f cd A outer s H E) [] (start N vs) H s1:=by
 have cP:ps.length<=N.length:=by have:=Ĺ List.length S.pre;rw[ő] at this;omega
 obtain⟨h1,tk,rfl,hk⟩:=x.done;have u9:∀b:á,b∉(nU CX P w K mg base N qual scope f cd A outer s H E).ex:=λb z=>absurd (show b∈([]:List á) from z) (by simp);refine⟨⟨e0.mod,S.kind,rfl,rfl,Nat.le_refl _,λy z c h1 h2=>?_,λy hy=>?_,λy c _ h=>?_,λ_=>hd,Around.frames_deeper e0.frames,.inr ⟨rfl,rfl⟩,λb z=>absurd z (u9 b),e0.bs,e0.i8,λb _ _=>u9 b,λb z=>absurd z (u9 b),e0.js,e0.oh⟩,
  rfl,e0.bare,Un.kept hk,⟨_,x.toInCall.ns,λi y v h1 h2 h3=>?_⟩,λy c h=>⟨_,x.cell y c h⟩,e0.aF.fresh (Nat.le_refl _),λy c h=>?_,λp hp=>absurd (show p∈([]:List (á×Obj)) from hp) (by simp),e0.aF.kept hk,?_⟩
 ·exact name_of_addr x.apart (θ h1) (θ h2)
 ·have hy:scope.names.lookup y=some .cell\/scope.names.lookup y=some .free:=hy
  rcases hy with hy|hy
  ·exact GY hy
  ·exact absurd rfl (S.T6 _ (θ hy))
 ·exact Nat.le_of_lt (x.above y c (θ h))
 ·have hi:i<vs.length:=by
   unfold start at h2;by_cases hi:i<vs.length
   ·exact hi
   ·rw[ü (by simpa using hi)] at h2
    rw[ĭ] at h2
    split at h2<;>cases h2
  have ha:vs[i]?=some v:=by
   unfold start at h2;rw[ä (by simpa using hi),ç] at h2
   cases e:vs[i]? with
   |none=>rw[e] at h2;cases h2
   |some a=>rw[e] at h2;cases h2;rfl
  obtain⟨u,hu,rv⟩:=r.get ha;have hp:ps[i]?=some y:=by
   rw[<- S.pre,List.getElem?_take_of_lt (by omega)];exact h1
  have Lk:ps.Nodup:=by rw[<- S.pre];exact S.nd.sublist (List.take_sublist _ _)
  refine⟨u,rv,?_⟩
  rcases S.par y (œ hp) with k|k
  ·exact .inl ⟨k,Gh Lk hp hu k⟩
  ·obtain⟨c,e⟩:=GY (n:=s.heap.objs.size+1) k
   refine .inr ⟨.inl k,c,e,?_⟩;have q:=x.cell y c e;rw[Gi Lk hp hu (by show scope.names.lookup y≠_;rw[k];decide)] at q;exact q
 ·exact e0.aF.fresh (Nat.le_of_lt (x.above y c (θ h)))
 ·unfold start
  show _=N.length;rw[â,Ä,Ű];omega
def VD {CX:j5} {P:ù} {w:ď} {K:Ĳ} {mg:Str->Option Í} {base:ŏ} {k:Nat} {f:á} {name qual:Str} {params:Arguments} {body:List Stmt} {scope:abf} {dV kV doc pm cz ct oc:Í} {an od:Option á}
  {oo:Array (Option Í)} {N ps:List Str} {sp:Sp} (lk:K.lookup f=some ⟨oc,od,.func (δ name qual params body scope dV kV doc pm an cz ct),oo⟩) (kO:abt K cz qual=true) (S:qO N ps scope)
  (len:∀vs H Q E,sp vs H Q E->vs.length=ps.length)
  (BE:∀(A:đ) (outer:List Env) (s:É) (H:Hp) (vs:List V) (Q:VK) (E:XK),bW k (A.deeper (envOfC qual scope s.heap.objs.size f cz))->sp vs H Q E ->
   ∃t,eT (nU CX P w K mg base N qual scope f cz A outer s H E) body t/\t { nx:=λ_ H'=>Q .au H',rt:=Q } (start N vs) H) :
  fB P w K mg base CX (k+1) f (δ name qual params body scope dV kV doc pm an cz ct) ps sp:=by
 refine⟨len,λA outer s H args us vs Q E hr e0 hb r oq=>?_⟩;have hl:=len _ _ _ _ oq;have KX:K.In s.heap:=e0.mod.uR.keeps λb o e=>(e0.bs b o e).1;have lim:s.heap.NoLimit:=e0.mod.nolimit.keeps λb o e=>(e0.bs b o e).1;have VE:∀y∈ps.zip us,scope.names.lookup y.1=some .local\/(scope.names.lookup y.1=some .cell/\((aaB (s.heap.objs.size+1) scope.names []).lookup y.1).isSome=true):=λ⟨n,v⟩ hy=>by
  rcases S.par n (aae hy).1 with q|q
  ·exact .inl q
  ·exact .inr ⟨q,aba _ _ _ (.inl q)⟩
 refine codeAny_call_function hr.depth (KX _ _ lk) rfl S.co S.gen rfl (PySem.W.codeRec_of KX kO) (hb _ _ _ _ ?_);refine wpAny_newFunctionEnv_cells S.kind VE λenv he s1 x=>?_;subst he;refine⟨lim.keeps x.toInCall.keep,codeAny_func ?_⟩;obtain⟨t,ht,hq⟩:=BE A outer s H vs Q E (hr.deeper _) oq;have I:Inv (nU CX P w K mg base N qual scope f cz A outer s H E) [] (start N vs) H s1:=OR S hr.hd e0 hl r x;refine ĳ (ht [] s1 (start N vs) H _ I hq) (λfl s' hs=>?_) λe s' hs=>hs;have fin:∀{ba:St} {H':Hp} {v:V} {u:Í},Inv (nU CX P w K mg base N qual scope f cz A outer s H E) [] ba H' s'->RelV v u->Q v H'->CE outer P w H s Q u s' :=
  λ{ba H' v u} J rv q=>⟨v,H',J.os,J.bare,J.base,J.aF,rv,q⟩
 cases fl with
 |ret u =>
  obtain⟨v,ba,H',J,rv,q⟩:=hs;exact fin J rv q
 |next =>
  obtain⟨ba,H',J,q⟩:=hs;exact fin (v:=V.au) (u:=Value.none) J rfl q
 |brk =>
  obtain⟨_,_,_,q⟩:=hs;exact aak q
 |cont =>
  obtain⟨_,_,_,q⟩:=hs;exact aak q
section
variable {X:Cx} {x:Str} {p pos:Pos} {e:ļ} {es:List ļ} {t:TA} {id T:String} {r:List V->Hp->VK->Prop}
def Dj (r:List V->Hp->VK->Prop) (t:TA):TE:=fun σ H Q=>t σ H λvs H1=>r vs H1 Q
def Aa (hc:bY X (.builtin id) r) (hg:Gl X x) (hm:X.mg x=none) (hv:ą x=some (.builtin id)) (ha:PA X (e::es) t) (hn:x≠"__name__":=by decide) (jA:(x==("__debug__":Str))=false:=by decide)
  (he:Þ (e::es) X.env=(false,Ť e X.env)::Þ es X.env:=by rfl) (cP:(aab pos (Þ es X.env)).any (·.1)=false:=by rfl):PE X (.Call (.Name x p) (e::es) [] pos) (Dj r t):=by
 intro π s σ H Q I h;refine aaY (lJ I hg hm hv ?_ hn jA);exact PyProof.Rows.callWith_builtin1 (aE (ha pos π s σ H _ I h) λus s1 ⟨vs,H1,I1,r1,q1⟩=>hc π s1 σ H1 vs us Q I1 r1 q1) he cP
def zT (hc:bY X (.type T) r) (hg:Gl X x) (hm:X.mg x=none) (hv:ą x=some (.type T)) (ha:PA X (e::es) t) (hn:x≠"__name__":=by decide) (jA:(x==("__debug__":Str))=false:=by decide)
  (he:Þ (e::es) X.env=(false,Ť e X.env)::Þ es X.env:=by rfl) (cP:(aab pos (Þ es X.env)).any (·.1)=false:=by rfl):PE X (.Call (.Name x p) (e::es) [] pos) (Dj r t):=by
 intro π s σ H Q I h;refine aaY (lJ I hg hm hv ?_ hn jA);exact Ĩ (aE (ha pos π s σ H _ I h) λus s1 ⟨vs,H1,I1,r1,q1⟩=>hc π s1 σ H1 vs us Q I1 r1 q1) he cP
end
end L2
namespace HT
open PySem PyProof.Rows
noncomputable def lexLt:List Int->List Int->Bool
 | [],[]=>false
 | [],_::_=>true
 |_::_,[]=>false
 |x::xs,y::ys=>if x=y then lexLt xs ys else decide (x<y)
def jI (x y:Int) (xs ys:List Int):lexLt (x::xs) (y::ys)=if x=y then lexLt xs ys else decide (x<y):=rfl
def GZ (A:đ) (s:É) (a:Int) (t:Tok) (c:Int) (u:Tok) (prog:ù) (w:ď) (E:Í->É->Prop) (Q:Í->É->Prop) (h:Q (.bool (decide (a<c))) s) :
  à (ø prog w) A (richCompare .Lt (.int a t) (.int c u)) Q E s :=
 (PyProof.Rows.lt_int h:à (ø prog w) A (Č .Lt (.int a t) (.int c u)) Q E s)
section
open PySem.SeqAt
open PySem.AutoSeq1 (wpAny_loadPart')
open PySem.MeetsSeq PySem.MeetsSeq2 PySem.MeetsSeq3
end
section
variable {prog:ù} {w:ď} {A:đ} {E:Í->É->Prop} {s:É}
def RO (ht:IsTup s.heap t vs.toArray) (hb:IsTup s.heap b ws.toArray) (hv:vs≠[])
 (h1:ws=[]->Q (.ref t) s) (h2:ws≠[]->Q (.ref s.heap.objs.size) { s with heap:=s.heap.push { cls:=.type "tuple",data:=.seq (vs++ws).toArray } })
 (hsz:vs.length+ws.length<=Õ):à (ø prog w) A (ŋ .Add (.ref t) (.ref b)) Q E s:=by
 obtain⟨⟨cls,dd,data,sl⟩,ho,hc,n,hd⟩:=id ht;obtain⟨⟨KL,ot,data2,cU⟩,jb,ip,n2,hd2⟩:=id hb;simp only at hc hd ip hd2;subst hc hd ip hd2;have e:vs.toArray++ws.toArray=(vs++ws).toArray:=by simp
 by_cases hw:ws=[]
 ·exact concat_meets ⟨_,ho,rfl⟩ ⟨_,jb,rfl⟩ noFill_tuple_add seq_tuple_add abb aaZ (aaS _ _)
   (tuple_addW1 t b vs.toArray ws.toArray n n2 dd ot sl cU (by simpa using hv) (by simp[hw])) ⟨ho,jb,h1 hw⟩
 ·refine concat_meets ⟨_,ho,rfl⟩ ⟨_,jb,rfl⟩ noFill_tuple_add seq_tuple_add abb aaZ (aaS _ _)
   (tuple_addW2 t b vs.toArray ws.toArray n n2 dd ot sl cU (by simpa using hv) (by simpa using hw) (by rw[Ô,Ô];exact hsz)) ⟨ho,jb,?_⟩
  rw[e];exact h2 hw
noncomputable def aR (n d:Nat):Option Int->Nat
 |none=>d
 |some v=>if v<0 then (v+(n:Int)).toNat else min v.toNat n
def Ab (n d:Nat):aR n d none=d:=rfl
def xh (n d k:Nat):aR n d (some (k:Int))=min k n:=by
 show (if (k:Int)<0 then ((k:Int)+(n:Int)).toNat else min (k:Int).toNat n)=min k n
 rw[æ (by omega),õ]
def T7 (n d:Nat) (hd:d<=n) (o:Option Int):aR n d o<=n:=by
 cases o with
 |none=>exact hd
 |some v =>
  show (if v<0 then (v+(n:Int)).toNat else min v.toNat n)<=n
  by_cases hv:v<0
  ·rw[Ú hv];omega
  ·rw[æ hv];exact Nat.min_le_right _ _
def HK (v:Int) (n d:Nat):(if v<0 then max (v+(n:Int)) 0 else min v (n:Int))=((aR n d (some v):Nat):Int):=by
 show (if v<0 then max (v+(n:Int)) 0 else min v (n:Int))=(((if v<0 then (v+(n:Int)).toNat else min v.toNat n):Nat):Int)
 by_cases hv:v<0
 ·simp only[Ú hv];omega
 ·simp only[æ hv];omega
def NO (lo hi:Option Int) (n:Nat):aaC lo hi 1 (n:Int)=(((aR n 0 lo:Nat):Int),((aR n n hi:Nat):Int)):=by
 have h1:¬ ((1:Int)<0):=by omega
 unfold aaC;simp only[h1,ê];refine Prod.ext ?_ ?_
 ·cases lo with
  |none=>rfl
  |some v=>exact HK v n 0
 ·cases hi with
  |none=>rfl
  |some v=>exact HK v n n
def NP (i j:Nat):Ŵ (i:Int) (j:Int) 1=j-i:=by
 unfold Ŵ;have h1:(1:Int) > 0:=by omega
 simp only[h1,û,Int.ediv_one]
 split<;>omega
def F0 (p:IsPart v o) (h:Q o s):à (ø prog w) A (Builtin.Slice.slicePartIndex v) Q E s:=by
 cases p with
 |none=>exact slicePart_none h
 |int i t=>exact slicePart_int h
def Fn {lo hi:Option Int} {n:Nat} {Q:Int×Int×Nat->É->Prop} (hs:s.heap.IsSliceOf sl vl vu .none) (pl:IsPart vl lo) (pu:IsPart vu hi)
 (h:Q (((aR n 0 lo:Nat):Int),1,aR n n hi-aR n 0 lo) s):à (ø prog w) A (ab1 (.ref sl) (pure (n:Int))) Q E s:=by
 obtain⟨os,qb,jB,qc⟩:=id hs;unfold ab1 Builtin.Slice.sliceFields;refine À (À (Ĵ qb qc (x:=vl) rfl (À (Ĵ qb qc (x:=vu) rfl (À (Ĵ qb qc (x:=.none) rfl (Â ?_)))))));refine À (slicePart_none ?_)
 show à _ _ (if ((1:Int)==0)=true then _ else _) _ _ s
 rw[æ (by decide)];refine À (F0 pl (À (F0 pu (À (Â ?_)))))
 show à _ _ (match aaC lo hi 1 (n:Int) with | (lo,hi)=>pure (lo,(1:Int),Ŵ lo hi 1)) _ _ s
 rw[NO lo hi n];show à _ _ (pure (((aR n 0 lo:Nat):Int),(1:Int),Ŵ ((aR n 0 lo:Nat):Int) ((aR n n hi:Nat):Int) 1)) _ _ s;rw[NP];exact Â h
def Qd (xs:Array Í) (i k:Nat):((ß k).filterMap λ(m:Nat)=>xs[((i:Int)+(m:Int)*1).toNat]?).toArray=((xs.toList.drop i).take k).toArray:=by
 have e:(λ(m:Nat)=>xs[((i:Int)+(m:Int)*1).toNat]?)=λm=>xs[i+m]?:=by
  funext m;have:((i:Int)+(m:Int)*1).toNat=i+m:=by omega
  rw[this]
 rw[e];have:=pick_run xs i k;rw[List.filterMap_map] at this;have e2:((λx=>xs[x]?) ∘ λx=>i+x)=λm=>xs[i+m]?:=rfl;rw[e2] at this;rw[this]
def Mm {lo hi:Option Int} {Q:Í->É->Prop} (ht:IsTup s.heap t items) (hs:s.heap.IsSliceOf sl vl vu .none) (pl:IsPart vl lo) (pu:IsPart vu hi)
 (hw:¬ (aR items.size 0 lo=0/\aR items.size items.size hi=items.size))
 (h:Q (.ref s.heap.objs.size) { s with heap:=s.heap.push { cls:=.type "tuple",data:=.seq ((items.toList.drop (aR items.size 0 lo)).take (aR items.size items.size hi-aR items.size 0 lo)).toArray } })
 (hsz:items.size<=Õ):à (ø prog w) A (getItem (.ref t) (.ref sl)) Q E s:=by
 have xR:sizeOk (.seq ((items.toList.drop (aR items.size 0 lo)).take (aR items.size items.size hi-aR items.size 0 lo)).toArray):=by
  show ((items.toList.drop (aR items.size 0 lo)).take (aR items.size items.size hi-aR items.size 0 lo)).toArray.size<=Õ;rw[Ô,ő,ξ,þ];omega
 have hj:aR items.size items.size hi<=items.size:=T7 _ _ (Nat.le_refl _) hi;obtain⟨os,qb,jB,qc⟩:=id hs;have Dk:s.TypeIs (.ref sl) "slice":=⟨os,qb,jB⟩;unfold getItem
 try with_reducible refine ė ?_
 first|refine À (Â ?_)|skip
 refine À (wpAny_sequenceKey ht.typeIs (by decide) ?_);refine À (Ĉ (name:=ì "__getitem__") ht.typeIs ĩ
  (Ą ĩ ht.typeIs entry_tuple_getitem ?_ (args_tuple_getitem _ _)))
 show à _ _ (Ũ (.ref t) >>= _) _ _ s;refine À (tupleItemsOf_ ht ?_);refine À (abx Dk ?_);rw[Ú (by decide)];refine À (Fn hs pl pu ?_);have mL:¬ ((((aR items.size 0 lo:Nat):Int)==0&&(1:Int)==1&&(aR items.size items.size hi-aR items.size 0 lo)==items.size)=true):=by
  intro q;rw[Ç,Ç] at q;have q1:((aR items.size 0 lo:Nat):Int)=0:=eq_of_beq q.1.1;have q2:aR items.size items.size hi-aR items.size 0 lo=items.size:=eq_of_beq q.2;exact hw ⟨by omega,by omega⟩
 show à _ _ (if (((aR items.size 0 lo:Nat):Int)==0&&(1:Int)==1&&(aR items.size items.size hi-aR items.size 0 lo)==items.size)=true then _ else _) _ _ s
 rw[æ mL,Qd]
 first
  |exact À (m:=Ő _) (ó (Â ⟨_,rfl,Â h⟩) xR)
  |exact À (m:=Ő _) (ó (À (Â (Â ⟨_,rfl,Â h⟩))) xR)
  |exact À (À (m:=Ő _) (ó (Â (Â ⟨_,rfl,Â h⟩)) xR))
  |exact À (À (m:=Ő _) (ó (Â ⟨_,rfl,Â h⟩) xR))
end
end HT
namespace L2
open PySem PySem.Spec PyProof.Rows
abbrev TO:=St->Hp->(Option Int->Hp->Prop)->Prop
def PO (X:Cx) (e:Option ļ) (t:TO):Prop :=
 ∀(π:List (á×Obj)) (s:É) (σ:St) (H:Hp) (Q:Option Int->Hp->Prop),Inv X π σ H s->t σ H Q ->
  à (ø X.prog X.w) X.A (evalPart e X.env) (λu s'=>∃o H',Inv X π σ H' s'/\IsPart u o/\Q o H') X.xe s
def RP:TO:=λ_ H Q=>Q none H
def VF (t:TE):TO:=fun σ H Q=>t σ H λx H1=>∃i,x=.int i/\Q (some i) H1
def intsAre_of:∀{us:List Í},Vals (ns.map V.int) us->abh us ns:=by
 induction ns with
 |nil=>intro us r;rw[İ] at r;cases r;exact .nil
 |cons n ns ih =>
  intro us r;rw[Ö] at r
  cases r with
  |cons r1 r2 =>
   obtain⟨t,e⟩:=r1;subst e;exact .cons n t (ih r2)
section
variable {X:Cx} {e:ļ} {te:TE} {lo hi:Option ļ} {tl th:TO} {pos p2:Pos}
def RQ:PO X none RP:=by
 intro π s σ H Q I h;rw[evalPart_none];exact Â ⟨none,H,I,.none,h⟩
def RR (h:PE X e te):PO X (some e) (VF te):=by
 intro π s σ H Q I hw;rw[evalPart_some];refine aE (h π s σ H _ I hw) λu s1 ⟨x,H1,I1,r1,q1⟩=>?_;obtain⟨i,rfl,q⟩:=q1;obtain⟨t,rfl⟩:=r1;exact⟨some i,H1,I1,.int i t,q⟩
def va (X:Cx) (r:V->Option Int->Option Int->Hp->VK->Prop):Prop :=
 ∀(π:List (á×Obj)) (s:É) (σ:St) (H:Hp) (x:V) (v vl vu:Í) (lo hi:Option Int) (sl:á) (Q:VK),Inv X π σ H s->RelV x v->s.heap.IsSliceOf sl vl vu .none->IsPart vl lo->IsPart vu hi->r x lo hi H Q ->
  ∃T id,typeLookup (.type T) "__getitem__"=pure (some (.builtin id))/\s.TypeIs v T/\à (ø X.prog X.w) X.A (getItem v (.ref sl)) (EP X π σ Q) X.xe s
def XH (r:V->Option Int->Option Int->Hp->VK->Prop) (te:TE) (tl th:TO):TE:=fun σ H Q=>te σ H λx H1=>tl σ H1 λl H2=>th σ H2 λu H3=>r x l u H3 Q
def Qe (hr:va X r) (he:PE X e te) (hl:PO X lo tl) (hu:PO X hi th):PE X (.Subscript e (.Slice lo hi none p2) pos) (XH r te tl th):=by
 intro π s σ H Q I h;refine Subscript_ (aE (he π s σ H _ I h) λv s1 ⟨x,H1,I1,r1,q1⟩=>?_);refine wpAny_Slice (aE (hl π s1 σ H1 _ I1 q1) λvl s2 ⟨l,H2,I2,pl,q2⟩=>aE (hu π s2 σ H2 _ I2 q2) λvu s3 ⟨u,H3,I3,pu,q3⟩=>?_);rw[evalPart_none];refine Â ?_
 have I4:Inv X π σ H3 { s3 with heap:=s3.heap.push { cls:=.type "slice",data:=.fields #[vl,vu,.none] } }:=I3.kept (t':=s3.toks) λb ob q=>Á _ q
 obtain⟨T,id,hT,ht,hg⟩:=hr π { s3 with heap:=s3.heap.push { cls:=.type "slice",data:=.fields #[vl,vu,.none] } } σ H3 x v vl vu l u s3.heap.objs.size Q I4 r1 (Heap.IsSliceOf.new ..) pl pu q3
 show à (ø X.prog X.w) X.A (subscriptTail e (.Slice lo hi none p2) v (.ref s3.heap.objs.size)) (EP X π σ Q) X.xe { s3 with heap:=s3.heap.push { cls:=.type "slice",data:=.fields #[vl,vu,.none] } }
 exact tail_any (ops:=[.ref s3.heap.objs.size,v]) ht hT hg (by with_unfolding_all rfl)
noncomputable def kF (xs:List V) (lo hi:Option Int):List V:=(xs.drop (HT.aR xs.length 0 lo)).take (HT.aR xs.length xs.length hi-HT.aR xs.length 0 lo)
def FL (xs:List V) (lo hi:Option Int):(kF xs lo hi).length<=xs.length:=by
 unfold kF;rw[ő,ξ];omega
def WS (K:Ĳ):V->Option Int->Option Int->Hp->VK->Prop:=λx lo hi H Q=>∃a xs,x=.ref a/\aT K H a xs /\
 ¬ (HT.aR xs.length 0 lo=0/\HT.aR xs.length xs.length hi=xs.length)/\∀p,H p=none->Q (.ref p) (upd H p (.tup (kF xs lo hi)))
def A6:va X (WS X.K):=by
 intro π s σ H x v vl vu lo hi sl Q I rx hs pl pu h;obtain⟨a,xs,rfl,hx,hw,q⟩:=h;cases rx;obtain⟨its,r,ht,hz⟩:=I.tuple hx;have hlen:its.toArray.size=xs.length:=by rw[Ô];exact r.length.symm
 refine⟨"tuple",_,ĩ.lookup,ht.typeIs,?_⟩;refine HT.Mm ht hs pl pu (by rw[hlen];exact hw) ?_ (by rw[hlen];exact hz);rw[hlen];refine⟨.ref s.heap.objs.size,_,I.laid (t':=s.toks) (o:=.tup (kF xs lo hi)) (λb ob q=>Á _ q) (Nat.le_refl _) ?_,rfl,q _ (I.aF.fresh (Nat.le_refl _))⟩;exact⟨Û (FL xs lo hi) hz,_,(r.drop (HT.aR xs.length 0 lo)).take (HT.aR xs.length xs.length hi-HT.aR xs.length 0 lo),IsTup.new _ _⟩
def VG (K:Ĳ):R2:=λx y H Q=>∃a b xs ys,x=.ref a/\y=.ref b/\aT K H a xs/\aT K H b ys/\xs≠[]/\xs.length+ys.length<=Õ /\
 (ys=[]->Q (.ref a) H)/\(ys≠[]->∀p,H p=none->Q (.ref p) (upd H p (.tup (xs++ys))))
def Vals.AF (r:Vals xs us):us=[]↔xs=[]:=by
 cases r with
 |nil=>simp
 |cons _ _=>simp
def RS:aY X (ŋ .Add) (VG X.K):=by
 intro π s σ H x y v u Q I rx ry h;obtain⟨a,b,xs,ys,rfl,rfl,ha,hb,hx,hz,q1,q2⟩:=h;cases rx;cases ry;obtain⟨its,r1,p1,_⟩:=I.tuple ha;obtain⟨pL,r2,p2,_⟩:=I.tuple hb;refine HT.RO p1 p2 (λz=>hx (r1.AF.mp z)) (λz=>⟨.ref a,H,I,rfl,q1 (r2.AF.mp z)⟩) (λz=>?_) (by rw[<- r1.length,<- r2.length];exact hz);refine⟨.ref s.heap.objs.size,_,I.laid (t':=s.toks) (o:=.tup (xs++ys)) (λb ob q=>Á _ q) (Nat.le_refl _) ?_,rfl,q2 (λw=>z (r2.AF.mpr w)) _ (I.aF.fresh (Nat.le_refl _))⟩;exact⟨by rw[â];exact hz,_,r1.append r2,IsTup.new _ _⟩
end
noncomputable def gw (n:Nat) (i:Int):Option Nat:=if 0<=i then (if i<n then some i.toNat else none) else if -(n:Int)<=i then some (i+n).toNat else none
def dE {α:Type} (xs:List α) (i:Int):Option α:=(gw xs.length i).bind λj=>xs[j]?
def HL (h:gw n i=some j):seqIndex? i n=some j/\j<n/\-(n:Int)<=i/\i<n:=by
 unfold gw at h;by_cases h0:0<=i
 ·rw[Ú h0] at h
  by_cases h1:i<n
  ·rw[Ú h1] at h
   have e:i.toNat=j:=Option.some.inj h;exact⟨by rw[seqIndex_of h0 h1,e],by omega,by omega,h1⟩
  ·rw[æ h1] at h;cases h
 ·rw[æ h0] at h
  by_cases h1:-(n:Int)<=i
  ·rw[Ú h1] at h
   have e:(i+n).toNat=j:=Option.some.inj h;exact⟨by rw[seqIndex_neg (by omega) h1,e],by omega,h1,by omega⟩
  ·rw[æ h1] at h;cases h
def AG {α:Type} {xs:List α} {i:Int} {v:α} (h:dE xs i=some v):∃j,seqIndex? i xs.length=some j/\xs[j]?=some v/\j<xs.length/\-(xs.length:Int)<=i/\i<xs.length:=by
 unfold dE at h
 cases e:gw xs.length i with
 |none=>rw[e] at h;cases h
 |some j =>
  rw[e] at h;obtain⟨h1,h2,h3,h4⟩:=HL e;exact⟨j,h1,h,h2,h3,h4⟩
def HM (b:ļ):Prop:=∀o i,subscripted b false o i=operate [o,i] (getItem o i)
def vd (X:Cx) (r:R2):Prop :=
 ∀(value slice:ļ) (π:List (á×Obj)) (s:É) (σ:St) (H:Hp) (x y:V) (v u:Í) (Q:VK),Inv X π σ H s->RelV x v->RelV y u->r x y H Q ->
  subscripted slice false v u=operate [v,u] (getItem v u)->à (ø X.prog X.w) X.A (subscriptTail value slice v u) (EP X π σ Q) X.xe s
def XI (X:Cx) (id:String) (r:V->List V->Hp->VK->Prop):Prop :=
 ∀(π:List (á×Obj)) (s:É) (σ:St) (H:Hp) (x:V) (xs:List V) (v:Í) (us:List Í) (Q:VK),Inv X π σ H s->RelV x v->Vals xs us->r x xs H Q ->
  à (ø X.prog X.w) X.A (call (.builtin id) (v::us)) (EP X π σ Q) X.xe s
section
variable {X:Cx} {a b:ļ} {ta tb:TE} {pos:Pos}
def VH (hr:vd X r) (ha:PE X a ta) (hb:PE X b tb) (hs:HM b):PE X (.Subscript a b pos) (u5 r ta tb):=by
 intro π s σ H Q I h;exact Subscript_ (Cu ha hb I h λv u s2 x y H2 I2 rx ry q=>hr a b π s2 σ H2 x y v u Q I2 rx ry q (hs _ _))
def WT (K:Ĳ):R2:=λx y H Q=>∃p xs i v,x=.ref p/\y=.int i/\bu K H p xs/\dE xs i=some v/\Q v H
def WU (K:Ĳ):R2:=λx y H Q=>∃p xs i v,x=.ref p/\y=.int i/\aT K H p xs/\dE xs i=some v/\Q v H
def WV:R2:=λx y H Q=>∃z i c,x=.str z/\y=.int i/\z.length<=Õ/\dE z.cps.toList i=some c/\Q (.str ⟨#[c]⟩) H
def tI:vd X (WT X.K):=by
 intro value slice π s σ H x y v u Q I rx ry h hs;obtain⟨p,xs,i,z,rfl,rfl,hq,he,q⟩:=h;cases rx;obtain⟨t,rfl⟩:=ry;obtain⟨its,r,pl,hz⟩:=I.list hq;obtain⟨j,h1,h2,h3,h4,h5⟩:=AG he;obtain⟨w,ew,qa⟩:=r.get h2;have hl:=r.length;have hn:=oW;have fin:EP X π σ Q w s:=⟨z,H,I,qa,q⟩;by_cases h0:0<=i
 ·have hj:i.toNat=j:=by
   rw[seqIndex_of h0 h5] at h1;exact Option.some.inj h1
  exact item_listR pl.isList h0 (by omega) (by rw[hj];simpa using ew) fin hs
 ·have hj:(i+(its.toArray.size:Int)).toNat=j:=by
   rw[seqIndex_neg (by omega) h4] at h1;rw[Ô,<- hl];exact Option.some.inj h1
  exact subscriptTail_builtinR (x:=w) pl.isList.typeIs slot_list_getitem.lookup
   (wpAny_getItem_list_neg (Q:=λr s'=>r=w/\EP X π σ Q r s') pl.isList (by omega) (by rw[Ô]<;>omega) (by omega) (by rw[hj];simpa using ew) ⟨rfl,fin⟩) hs
def xA:vd X (WU X.K):=by
 intro value slice π s σ H x y v u Q I rx ry h hs;obtain⟨p,xs,i,z,rfl,rfl,hq,he,q⟩:=h;cases rx;obtain⟨t,rfl⟩:=ry;obtain⟨its,r,pl,hz⟩:=I.tuple hq;obtain⟨j,h1,h2,h3,h4,h5⟩:=AG he;obtain⟨w,ew,qa⟩:=r.get h2;have hl:=r.length;have hn:=oW;have fin:EP X π σ Q w s:=⟨z,H,I,qa,q⟩;exact subscriptTail_builtinR (x:=w) pl.typeIs slot_tuple_getitem.lookup
  (getItem_tuple (j:=j) (Q:=λr s'=>r=w/\EP X π σ Q r s') pl (by omega) (by omega) (by rw[Ô,<- hl];exact h1) (by simpa using ew) ⟨rfl,fin⟩) hs
def T8:vd X WV:=by
 intro value slice π s σ H x y v u Q I rx ry h hs;obtain⟨z,i,c,rfl,rfl,hz,he,q⟩:=h;obtain⟨t,rfl⟩:=rx;obtain⟨t',rfl⟩:=ry;obtain⟨j,h1,h2,h3,h4,h5⟩:=AG he;have hl:z.cps.toList.length=z.length:=by simp[Str.length]
 rw[hl] at h1 h4 h5;have hn:=oW;exact tail_any (typeIs_str s z t) slot_str_getitem.lookup (getItem_str (c:=c) (by
  have e1:decide (i < -(2 ^ 63:Int))=false:=ñ (by omega);have e2:decide (i ≥ 2 ^ 63)=false:=ñ (by omega);rw[e1,e2,Bool.or_false]) (by rw[h1];simpa using h2) ⟨.str ⟨#[c]⟩,H,I.tok _,⟨_,rfl⟩,q⟩) hs
def NQ (its:List Í) (n j:Nat) (u:Í):Ī (·.setIfInBounds j u) { cls:=.type "list",data:=.seq its.toArray n }={ cls:=.type "list",data:=.seq (its.set j u).toArray n }:=by
 simp[Ī]
def Inv.lst {π:List (á×Obj)} {σ:St} {H:Hp} {s:É} {p:á} {xs:List V} (I:Inv X π σ H s) (h:H p=some (.lst xs)) :
  ∃(its:List Í) (n:Nat),Vals xs its/\s.heap.get? p=some { cls:=.type "list",data:=.seq its.toArray n }/\xs.length<=Õ:=by
 obtain⟨z,its,n,r,e⟩:=I.aF p _ h;exact⟨its,n,r,e,z⟩
def Inv.T9 {π:List (á×Obj)} {σ:St} {H:Hp} {s:É} {p:á} {xs ys:List V} {its its':List Í} {n n':Nat} {f:Obj->Obj} (I:Inv X π σ H s) (h:H p=some (.lst xs))
  (ho:s.heap.get? p=some { cls:=.type "list",data:=.seq its.toArray n }) (hf:f { cls:=.type "list",data:=.seq its.toArray n }={ cls:=.type "list",data:=.seq its'.toArray n' }) (r:Vals ys its') (hz:ys.length<=Õ) (t:Nat) :
  Inv X π σ (upd H p (.lst ys)) { s with heap:=s.heap.update p f,toks:=t }:=by
 have e:(s.heap.update p f).get? p=some { cls:=.type "list",data:=.seq its'.toArray n' }:=by
  rw[ă f ho (by rw[hf]<;>rfl),hf]
 refine I.write (x:=p) (e:=p) (by rw[h];trivial) (.inl rfl) (λb u hb q=>(ÿ _ _ (Ň hb)).trans q) ⟨_,e⟩ ?_;exact⟨hz,its',n',r,e⟩
def VI:V->V->V->Hp->(Hp->Prop)->Prop:=λo i v H Q=>∃p xs k j,o=.ref p/\i=.int k/\H p=some (.lst xs)/\gw xs.length k=some j/\Q (upd H p (.lst (xs.set j v)))
def set_list:Cr X VI:=by
 intro π s σ H o i v ov iv u Q I ro ri rv h;obtain⟨p,xs,k,j,rfl,rfl,hp,hj,q⟩:=h;cases ro;obtain⟨t,rfl⟩:=ri;obtain⟨its,n,r,ho,hz⟩:=I.lst hp;obtain⟨h1,h2,h3,h4⟩:=HL hj;have hl:=r.length;have hn:=oW
 have I':Inv X π σ (upd H p (.lst (xs.set j v))) { s with heap:=s.heap.update p (Ī (·.setIfInBounds j u)) } :=
  I.T9 hp ho (NQ its n j u) (r.set rv j) (by rw[Ĝ];exact hz) s.toks
 by_cases h0:0<=k
 ·have hk:k.toNat=j:=by
   rw[seqIndex_of h0 h4] at h1;exact Option.some.inj h1
  exact PySem.W.ki_setAt ho h0 (by omega) (by rw[Ô,<- hl];exact h4) (by rw[hk];exact⟨_,I',q⟩)
 ·have hk:(k+(its.toArray.size:Int)).toNat=j:=by
   rw[seqIndex_neg (by omega) h3] at h1;rw[Ô,<- hl];exact Option.some.inj h1
  exact PySem.W.ki_setBack ho (by omega) (by rw[Ô,<- hl];exact h3) (by omega) (by rw[hk];exact⟨_,I',q⟩)
def MS (lo hi:Option Int) (n:Nat):(abi lo hi none n).1=((HT.aR n 0 lo:Nat):Int)/\(abi lo hi none n).2.1=((HT.aR n n hi:Nat):Int)/\(abi lo hi none n).2.2=1:=by
 refine⟨?_,?_,rfl⟩
 ·cases lo with
  |none=>simp[abi,HT.aR]
  |some i =>
   simp only[abi,HT.aR,Option.getD_none,show (1:Int) > 0 by decide,û];by_cases h:i<0
   ·simp only[h,û]<;>omega
   ·simp only[h,ê]<;>omega
 ·cases hi with
  |none=>simp[abi,HT.aR]
  |some i =>
   simp only[abi,HT.aR,Option.getD_none,show (1:Int) > 0 by decide,û];by_cases h:i<0
   ·simp only[h,û]<;>omega
   ·simp only[h,ê]<;>omega
def MC (its:List Í) (lo hi:Option Int):slicePick its.toArray lo hi none=((its.drop (HT.aR its.length 0 lo)).take (HT.aR its.length its.length hi-HT.aR its.length 0 lo)).toArray:=by
 obtain⟨h1,h2,h3⟩:=MS lo hi its.toArray.size;unfold slicePick;rw[h1,h2,h3]
 simp only[sliceRange_one,pick_run,Ô]<;>rfl
def WW (K:Ĳ):V->Option Int->Option Int->Hp->VK->Prop:=λx lo hi H Q=>∃a xs,x=.ref a/\bu K H a xs/\∀p,H p=none->Q (.ref p) (upd H p (.lst (kF xs lo hi)))
def RT:va X (WW X.K):=by
 intro π s σ H x v vl vu lo hi sl Q I rx hs pl pu h;obtain⟨a,xs,rfl,hx,q⟩:=h;cases rx;obtain⟨its,r,ht,hz⟩:=I.list hx;have hlen:=r.length;refine⟨"list",_,slot_list_getitem.lookup,ht.isList.typeIs,?_⟩
 refine wpAny_getItem_list_slice ht.isList hs pl pu .none (by simp) ?_ (by rw[Ô]<;>omega)
 rw[MC,<- hlen];refine⟨.ref s.heap.objs.size,_,I.laid (t':=s.toks) (o:=.lst (kF xs lo hi)) (λb ob q=>Á _ q) (Nat.le_refl _) ?_,rfl,q _ (I.aF.fresh (Nat.le_refl _))⟩;exact⟨Û (FL xs lo hi) hz,_,0,(r.drop (HT.aR xs.length 0 lo)).take (HT.aR xs.length xs.length hi-HT.aR xs.length 0 lo),Ì _ rfl⟩
def zE:bY X (.builtin "len") (λxs H Q=>∃p ys,xs=[.ref p]/\(bu X.K H p ys\/aT X.K H p ys)/\Q (.int ys.length) H):=by
 intro π s σ H xs us Q I r h;obtain⟨p,ys,rfl,hq,q⟩:=h;obtain⟨u,rfl,rx⟩:=vals1 r;cases rx;have hn:=oW
 rcases hq with hq|hq
 ·obtain⟨its,r',pl,hz⟩:=I.list hq
  have hlen:=r'.length
  exact Calls.call_len_list pl.isList (by simp only[Ô]<;>omega) ⟨.int ys.length,H,I.tok _,⟨s.toks+1,by rw[Ô,hlen]⟩,q⟩
 ·obtain⟨its,r',pl,hz⟩:=I.tuple hq
  have hlen:=r'.length
  exact len_tuple pl (by simp only[Ô]<;>omega) ⟨.int ys.length,H,I.tok _,⟨s.toks+1,by rw[Ô,hlen]⟩,q⟩
def MT:bY X (.builtin "len") (λxs H Q=>∃z,xs=[.str z]/\z.length<=Õ/\Q (.int z.length) H):=by
 intro π s σ H xs us Q I r h;obtain⟨z,rfl,hz,q⟩:=h;obtain⟨u,rfl,t,rfl⟩:=vals1 r;have hn:=oW;exact len_str (by omega) ⟨.int z.length,H,I.tok _,⟨_,rfl⟩,q⟩
def Fy:bY X (.type "list") (λxs H Q=>∃p ys,xs=[.ref p]/\(bu X.K H p ys\/aT X.K H p ys)/\∀l,H l=none->Q (.ref l) (upd H l (.lst ys))):=by
 intro π s σ H xs us Q I r h;obtain⟨p,ys,rfl,hq,q⟩:=h;obtain⟨u,rfl,rx⟩:=vals1 r;cases rx;have fin:∀(its:List Í),Vals ys its->ys.length<=Õ->∀(h':ŏ) (c':Nat),(∀b o',s.heap.get? b=some o'->h'.get? b=some o') ->
   h'.get? s.heap.objs.size=some { cls:=.type "list",dict:=none,data:=.seq its.toArray c',slots:=#[] }->EP X π σ Q (.ref s.heap.objs.size) { s with heap:=h' }:=λits r' hz h' c' kp e =>
  ⟨.ref s.heap.objs.size,_,I.laid (t':=s.toks) kp (Nat.le_refl _) (show cJ X.prog X.w _ h' _ (.lst ys) from ⟨hz,its,c',r',e⟩),rfl,q _ (I.aF.fresh (Nat.le_refl _))⟩
 rcases hq with hq|hq
 ·obtain⟨its,r',pl,hz⟩:=I.list hq
  have hlen:=r'.length;obtain⟨o,ho,hc,n,hd⟩:=pl.isList
  exact call_list_seq p (.inl rfl) ho hc hd (λh' c' kp e=>fin its r' hz h' c' kp e) (by simp only[Ô]<;>omega)
 ·obtain⟨its,r',pl,hz⟩:=I.tuple hq
  have hlen:=r'.length;obtain⟨o,ho,hc,n,hd⟩:=pl
  exact call_list_seq p (.inr rfl) ho hc hd (λh' c' kp e=>fin its r' hz h' c' kp e) (by simp only[Ô]<;>omega)
def Fq:bY X (.type "tuple") (λxs H Q=>∃p ys,xs=[.ref p]/\((bu X.K H p ys/\∀l,H l=none->Q (.ref l) (upd H l (.tup ys)))\/(aT X.K H p ys/\Q (.ref p) H))):=by
 intro π s σ H xs us Q I r h;obtain⟨p,ys,rfl,h⟩:=h;obtain⟨u,rfl,rx⟩:=vals1 r;cases rx
 rcases h with ⟨hq,q⟩ | ⟨hq,q⟩
 ·obtain⟨its,r',pl,hz⟩:=I.list hq
  have hlen:=r'.length
  refine call_tuple_list pl.isList (λh' kp=>?_) (by simp only[Ô]<;>omega)
  have I1:Inv X π σ H { s with heap:=h' }:=I.kept (t':=s.toks) kp
  have I2:Inv X π σ (upd H h'.objs.size (.tup ys)) { s with heap:=h'.push { cls:=.type "tuple",data:=.seq its.toArray } } :=
   I1.laid (t':=s.toks) (λb o e=>Á _ e) (Nat.le_refl _) (show cJ X.prog X.w _ _ _ (.tup ys) from ⟨hz,its,r',IsTup.new _ _⟩)
  exact⟨.ref h'.objs.size,_,I2,rfl,q _ (I1.aF.fresh (Nat.le_refl _))⟩
 ·obtain⟨its,r',pl,hz⟩:=I.tuple hq
  exact call_tuple_same pl ⟨.ref p,H,I,rfl,q⟩
def Ll (K:Ĳ) (T:String) (x:V) (H:Hp):Prop:=match x with
 | .str _=>T="str"
 | .int _=>T="int"
 | .ref p=>(T="list"/\∃xs,bu K H p xs)\/(T="tuple"/\∃o,K.lookup p=some o/\o.cls=.type "tuple"/\o.dict=none) \/
   (T="dict"/\((∃ai,H p=some (.dK ai))\/∃ai,H p=some (.dT ai)))\/(T="set"/\∃S n,H p=some (.set S n))
 |_=>False
def Ua {π:List (á×Obj)} {σ:St} {H:Hp} {s:É} {T:String} {x:V} {v:Í} (I:Inv X π σ H s) (r:RelV x v) (ty:Ll X.K T x H) :
  s.TypeIs v T/\∀a,v=.ref a->∃ob,s.heap.get? a=some ob/\ob.dict=none:=by
 cases x with
 |str z =>
  obtain⟨t,rfl⟩:=r;cases (show T="str" from ty)
  exact⟨typeIs_str s z t,λ_ e=>nomatch e⟩
 |int i =>
  obtain⟨t,rfl⟩:=r;cases (show T="int" from ty)
  exact⟨typeIs_int s i t,λ_ e=>nomatch e⟩
 |ref p =>
  cases r
  rcases ty with ⟨rfl,xs,hq⟩ | ⟨rfl,o,hk,hc,hd⟩ | ⟨rfl,hk⟩ | ⟨rfl,S,n,hk⟩
  ·obtain⟨its,_,pl,_⟩:=I.list hq
   refine⟨pl.isList.typeIs,λa e=>?_⟩;cases e;obtain⟨o,n,e,c,hd,_⟩:=pl;exact⟨o,e,hd⟩
  ·refine⟨⟨o,I.sm p o hk,hc⟩,λa e=>?_⟩
   cases e;exact⟨o,I.sm _ o hk,hd⟩
  ·have z:∃o,s.heap.get? p=some o/\o.ExactDict:=by
    rcases hk with ⟨ai,hk⟩ | ⟨ai,hk⟩
    ·obtain⟨_,_,_,_,o,_,_,e,ex,_⟩:=I.aF p _ hk
     exact⟨o,e,ex⟩
    ·obtain⟨_,_,_,_,o,_,_,e,ex,_⟩:=I.aF p _ hk
     exact⟨o,e,ex⟩
   obtain⟨o,e,ex⟩:=z;refine⟨⟨o,e,ex.1⟩,λa e2=>?_⟩;cases e2;exact⟨o,e,ex.2.1⟩
  ·obtain⟨o,_,_,_,e,ex,_⟩:=I.aF p _ hk
   refine⟨⟨o,e,ex.1⟩,λa e2=>?_⟩;cases e2;exact⟨o,e,ex.2.1⟩
 |_=>exact aak ty
def XJ (K:Ĳ) (T:String) (r:V->List V->Hp->VK->Prop) (to:TE) (t:TA):TE:=fun σ H Q=>to σ H λx H1=>Ll K T x H1/\t σ H1 λxs H2=>r x xs H2 Q
variable {o e:ļ} {es:List ļ} {to:TE} {t:TA} {name:Str} {apos eQ:Pos} {T id:String} {r:V->List V->Hp->VK->Prop}
def VJ (pa:PlainAttrs T) (slot:Slot T name id) (XM:typeOf (.builtin id)=pure (.type "method_descriptor")) (hm:XI X id r) (ho:PE X o to) (ha:PA X (e::es) t)
  (BF:attributeBase o name X.env (Ť o X.env)=Ť o X.env:=by rfl)
  (Cy:((aab eQ (Þ (e::es) X.env)).all (λx=>!x.1)&&(backToKw eQ (abR [] X.env)).all (λx=>x.1.isSome)
   && decide ((e::es).length+([]:List acd).length+(if ([]:List acd).isEmpty then 0 else 1)<30))=true:=by rfl)
  (BG:(apos.endLine==eQ.line)=true:=by rfl) (hs:Þ (e::es) X.env=(false,Ť e X.env)::Þ es X.env:=by rfl) (A7:(aab eQ (Þ es X.env)).any (·.1)=false:=by rfl) :
  PE X (.Call (.Attribute o name apos) (e::es) [] eQ) (XJ X.K T r to t):=by
 intro π s σ H Q I h;refine wpAny_Call_method_late BF Cy BG rfl (aE (ho π s σ H _ I h) λv s1 ⟨x,H1,I1,r1,ty,q1⟩=>?_);obtain⟨h1,h2⟩:=Ua I1 r1 ty;refine⟨T,id,pa,slot,XM,h1,h2,?_⟩;have hA:=ha eQ π s1 σ H1 _ I1 q1;rw[hs] at hA |-
 refine Calls.callWith_builtin (by show (false||(aab eQ (Þ es X.env)).any (·.1))=false;rw[A7]<;>rfl) (Calls.evalArgs_plain ?_)
 exact aE hA λus s2 ⟨vs,H2,I2,r2,q2⟩=>hm π s2 σ H2 x vs v us Q I2 r1 r2 q2
end
def XN (X:Cx) (id:String) (r:V->List V->Hp->VK->Prop):Prop :=
 ∀(π:List (á×Obj)) (s:É) (σ:St) (H:Hp) (x:V) (xs:List V) (v:Í) (us:List Í) (Q:VK),Inv X π σ H s->RelV x v->Vals xs us->r x xs H Q ->
  à (ø X.prog X.w) X.A (call (.builtin id) (v::us)) (EP X π σ Q) X.xe s
def Vals.one:∀{x:V} {us:List Í},Vals [x] us->∃u,us=[u]/\RelV x u
 |_,_,.cons r .nil=>⟨_,rfl,r⟩
def Vals.rep (h:Vals xs us):∀k:Nat,Vals (Ï k xs).flatten (Ï k us).flatten
 |0=>.nil
 |k+1=>by
  rw[ĺ,ĺ,ŝ,ŝ];exact Vals.append h (Vals.rep h k)
def foldl_rep (its:List Í):∀(k:Nat) (acc:List Í),
  List.foldl (λx1 x2=>x1++x2) acc.toArray (Ï k its.toArray)=(acc++(Ï k its).flatten).toArray
 |0,acc=>by simp
 |k+1,acc=>by
  have e:acc.toArray++its.toArray=(acc++its).toArray:=by simp
  have e2:(acc++its)++(Ï k its).flatten=acc++(Ï (k+1) its).flatten:=by
   rw[ĺ,ŝ,ķ]
  rw[<- e2,<- foldl_rep its k (acc++its),<- e,ĺ,List.foldl_cons]
section
variable {X:Cx} {π:List (á×Obj)} {σ:St} {H:Hp} {s:É} {l b:á} {xs ys zs:List V}
def Inv.WX {its its':List Í} {n:Nat} {f:Array Í->Array Í} {t':Nat} (I:Inv X π σ H s) (hH:H l=some (.lst xs))
  (e:s.heap.get? l=some { cls:=.type "list",data:=.seq its.toArray n }) (hf:f its.toArray=its'.toArray) (hv:Vals ys its') (hz:ys.length<=Õ) :
  Inv X π σ (upd H l (.lst ys)) { s with heap:=s.heap.update l (Ī f),toks:=t' }:=by
 have q:=PySem.IsL.update e f;rw[hf] at q;refine I.write (x:=l) (e:=l) (by rw[hH];exact trivial) (.inl rfl) (λb' u hb hu=>(ÿ s.heap (Ī f) (Ň hb)).trans hu) ⟨_,q⟩ ?_;exact⟨hz,its',_,hv,q⟩
def Inv.KN (I:Inv X π σ H s) (hv:Vals ys its) (hz:ys.length<=Õ) :
  Inv X π σ (upd H s.heap.objs.size (.lst ys)) { s with heap:=s.heap.push { cls:=.type "list",data:=.seq its.toArray },toks:=t' } :=
 I.laid (λ_ _ q=>Á _ q) (Nat.le_refl _) ⟨hz,its,0,hv,Ì _ rfl⟩
def Inv.fresh (I:Inv X π σ H s):H s.heap.objs.size=none:=I.aF.fresh (Nat.le_refl _)
def Inv.yu (I:Inv X π σ H s) (hH:H l=some (.lst xs)):xs.length<=Õ/\∃(its:List Í) (n:Nat),Vals xs its/\xs.length=its.length/\s.heap.get? l=some { cls:=.type "list",data:=.seq its.toArray n }:=by
 obtain⟨z,its,n,r,e⟩:=I.aF l _ hH;exact⟨z,its,n,r,r.length,e⟩
def Qf (h:n<=Õ):aaT n=false:=by
 unfold aaT;exact ñ (by omega)
end
section
variable {X:Cx}
def RU:V->List V->Hp->VK->Prop:=λx vs H Q=>∃l xs y,x=.ref l/\vs=[y]/\H l=some (.lst xs)/\xs.length<Õ/\Q .au (upd H l (.lst (xs++[y])))
def OS:XN X "list.append" RU:=by
 intro π s σ H x vs v us Q I rx rv h;obtain⟨l,xs,y,rfl,rfl,hH,hz,q⟩:=h;cases rx;obtain⟨u,rfl,ru⟩:=rv.one;obtain⟨z,its,n,r,hl,e⟩:=I.yu hH;refine call_meets F.slot_list_append ⟨_,e,rfl⟩ F.entry_list_append (F.args_list_append_2 _ _) (PySem.list_append l its.toArray n u (by rw[Ô];omega)) ⟨e,?_⟩;refine⟨.au,_,I.WX (its':=its++[u]) hH e (by simp) (r.append (.cons ru .nil)) ?_,rfl,q⟩;rw[â,aby];omega
def WY:R2:=λx y H Q=>∃l b xs zs,x=.ref l/\y=.ref b/\H l=some (.lst xs)/\H b=some (.lst zs)/\xs.length+zs.length<=Õ/\∀p,H p=none->Q (.ref p) (upd H p (.lst (xs++zs)))
def Ub:aY X (ŋ .Add) WY:=by
 intro π s σ H x y v u Q I rx ry h;obtain⟨l,b,xs,zs,rfl,rfl,hH,hB,hz,q⟩:=h;cases rx;cases ry;obtain⟨z,its,n,r,hl,e⟩:=I.yu hH;obtain⟨z2,pL,n2,r2,Lm,e2⟩:=I.yu hB;refine PySem.P.add_list e e2 ?_ (by rw[Ô,Ô];omega);have ea:its.toArray++pL.toArray=(its++pL).toArray:=by simp
 rw[ea];exact⟨.ref _,_,I.KN (t':=s.toks) (r.append r2) (by rw[â];omega),rfl,q _ I.fresh⟩
def WZ:R2:=λx y H Q=>∃l k xs,x=.ref l/\y=.int k/\H l=some (.lst xs)/\-(2 ^ 63)<=k/\k<2 ^ 63/\xs.length*k.toNat<=Õ /\
 ∀p,H p=none->Q (.ref p) (upd H p (.lst (Ï k.toNat xs).flatten))
def len_rep {α:Type} (xs:List α) (k:Nat):(Ï k xs).flatten.length=k*xs.length:=by
 induction k with
 |zero=>simp
 |succ k ih=>rw[ĺ,ŝ,â,ih,Nat.succ_mul,Nat.add_comm]
def Uc:aY X (ŋ .Mult) WZ:=by
 intro π s σ H x y v u Q I rx ry h;obtain⟨l,k,xs,rfl,rfl,hH,h1,h2,hz,q⟩:=h;cases rx;obtain⟨t,rfl⟩:=ry;obtain⟨z,its,n,r,hl,e⟩:=I.yu hH;have hlen:its.toArray.size*k.toNat<=Õ:=by rw[Ô,<- hl];exact hz
 have W0:¬ its.toArray.size*k.toNat > (2 ^ 63-1) / 8:=by
  have:(Õ:Nat)<=(2 ^ 63-1) / 8:=by decide
  omega
 have W2:¬ (!Builtin.List.listFitsIndex k)=true:=by
  rw[fitsIndex_both h1 h2];exact Ë
 have VL:¬ aaT (its.toArray.size*k.toNat)=true:=by
  rw[Qf hlen];exact Ë
 have W3:List.foldl (λx1 x2=>x1++x2) #[] (Ï (if its.toArray.isEmpty=true then 0 else k.toNat) its.toArray)=(Ï k.toNat its).flatten.toArray:=by
  have f0:∀m:Nat,List.foldl (λx1 x2=>x1++x2) #[] (Ï m its.toArray)=(Ï m its).flatten.toArray:=λm=>by
   have:=foldl_rep its m [];rw[ģ] at this;exact this
  rw[f0]
  cases its with
  |nil=>simp
  |cons a r'=>rw[æ (by simp)]
 refine wpAny_binaryOp_repeat_ref (T:="list") (U:="int") (by decide) ⟨_,e,rfl⟩ (λs'=>typeIs_int s' k t) noFill_list_mul F.fills_int_mul abS repeat_list F.slot_int_index.lookup
  (call_meets abS (typeIs_int s k t) F.entry_int_rmul (F.args_int_rmul_2 _ _) (int___rmul___int_list k t l its.toArray n)
   ⟨e,rfl,⟨_,e,rfl⟩,call_meets F.slot_list_mul ⟨_,e,rfl⟩ F.entry_list_mul (F.args_list_mul_2 _ _) (AutoListH.list___mul___list_int_3 l its.toArray n k t W2 W0 VL) ⟨e,?_⟩⟩)
 rw[W3];exact⟨.ref _,_,I.KN (t':=s.toks) (r.rep k.toNat) (by rw[len_rep,Nat.mul_comm];exact hz),rfl,q _ I.fresh⟩
end
section
variable {prog:ù} {w:ď} {A:đ} {E:Í->É->Prop} {s:É}
set_option maxRecDepth 100000 in
end
section
variable {X:Cx}
end
end L2
namespace Ln
open PySem PySem.W PySem.Calls PyProof.Rows
def Mq:∀(ns:List Int) (vs:List Í),WellAll P h vs (ns.map WData.int)->abh vs ns:=by
 intro ns
 induction ns with
 |nil =>
  intro vs w;rw[İ] at w;cases w;exact .nil
 |cons n ns ih =>
  intro vs w;rw[Ö] at w
  cases w with
  |cons a b =>
   cases a;exact .cons _ _ (ih _ b)
def OT {l:OpenLaw} {n:Nat} (hn:l.most=some n) {P:Params} {h:ŏ} {args:List WData} {vals:List Í}
  (yv:l.row.toRowW.claim.pre args=true) (Dl:WellAll P h vals args) :
  ∃a vs ns,vals=[ν a]/\args=[WData.list (ns.map WData.int)]/\h.get? a=some { cls:=.type "list",data:=.seq vs.toArray }/\abh vs ns/\ns.length<=n:=by
 have XO:WShape.hasAll [] args [.list .int]=true:=(pre_splitW yv).1;have hc:l.pre.holds [] { args:=args }=true:=(pre_splitW yv).2;obtain⟨d,r,rfl,h1,h2⟩:=hasAllW_cons XO;obtain rfl:=hasAllW_nil h2;obtain⟨xs,rfl,h3⟩:=hasW_list h1;obtain⟨ns,rfl⟩:=items_int h3;have hlen:ns.length<=n:=by
  unfold OpenLaw.pre at hc;have h4:(WTm.not (.lt (.lit (.int (n:Int))) (.len (.arg 0)))).holds [] { args:=[.list (ns.map .int)] }=true:=by
   have h4:=(holds_andW hc).1;rw[hn] at h4;exact h4
  have h5:=condW_of h4 (w_not (w_lt w_lit (w_len_list (w_arg rfl))));rw[Ä] at h5;refine ο λq=>?_;have q':(n:Int)<((ns.length:Nat):Int):=by omega
  first
   |(rw[Ý q'] at h5;exact absurd h5 (by decide))
   |(simp at h5;omega)
 cases Dl with
 |cons w1 w2 =>
  cases w2
  cases w1 with
  |list ho cx=>exact⟨_,_,ns,rfl,rfl,ho,Mq ns _ cx,hlen⟩
def OU (l:OpenLaw) (args:List WData):l.row.toRowW.claim.post args (.bool true) args=true :=
 postW_of (r:=l.row.toRowW) (X:=(true==true))
  (show WShape.has [] (.bool true) .bool=true by first|rfl|decide|simp[WShape.has,WShape.arms,WShape.armsAll])
  (show (WTm.eq .res (.lit (.bool true))).value [] { args:=args,res:=some (.bool true),after:=args }=some (.bool (true==true)) from w_eq_bool (w_res rfl) w_lit) rfl
def Nj {l:OpenLaw} {n:Nat} {q:ù} {loose:List Str} {XP:(Str->Option Í)->ŏ->Prop} {YP:ď->ŏ->Prop} {d:DefRec}
  (hn:l.most=some n) (ve:d.params.defaults=[])
  (call:∀(w:ď) (dQ bL:É) (mg mb:Str->Option Í) (fa:á) (o:Obj) (pm cd doc:Í) (a:á) (vs:List Í) (ns:List Int),
   Ground q loose [] XP w dQ mg mb bL.heap->YP w bL.heap ->
   bL.heap.get? fa=some o->o.data=.func (docDef d.name d.params d.body d.scope pm cd doc)->bL.heap.CodeRec cd d.name->mg d.name=some (.ref fa) ->
   bL.heap.get? a=some { cls:=.type "list",data:=.seq vs.toArray }->abh vs ns->ns.length<=n->bL.gens=#[] ->
   aaO (ø l.prog w) callerA (.call (.ref fa) ⟨[.ref a],[]⟩) (λr s'=>r=.ok (.ret (.bool true))/\OldK bL.heap s'.heap/\s'.os=bL.os/\AllBare s'.gens) bL) :
  WalkO q loose XP YP l.row.toRowW d [] (λf vs=>PySem.call f vs):=by
 intro w dQ bL mg mb G Y fa o pm cd doc dV kV ho hd kO hD vf hg args vals as yv aaq hrd Dl Lo;obtain rfl:dV=.none:=Dflts.none hD ve;obtain rfl:kV=.none:=Dflts.noKw hD;obtain⟨a,vs,ns,rfl,rfl,Cz,hints,hlen⟩:=OT hn yv Dl;refine enter_call (ů (call w dQ bL mg mb fa o pm cd doc a vs ns G Y ho (fd_plain hd) kO vf Cz hints hlen hg) λr s' hq=>?_);obtain⟨rfl,h2,h3,h4⟩:=hq
 exact⟨.inl ⟨.bool true,.bool true,[],rfl,λ_=>rfl,.bool true,OU l _,λ_=>⟨List.Pairwise.nil,λ_ hm=>(nomatch hm)⟩⟩,h2,h3,h4⟩
section
variable {prog:ù} {w:ď} {A:đ} {E:Í->É->Prop} {s:É} {K:Ĳ}
noncomputable def ledger (h:ŏ) (L d:á):List (á×Obj):=(ß h.objs.size).filterMap λa=>if a=L\/a=d then none else (h.get? a).map λo=>(a,o)
end
end Ln
namespace L2
open PySem PySem.Spec PyProof.Rows
def Gj:∀{vs:List Í} {ns:List Int},abh vs ns->Vals (ns.map V.int) vs
 |_,_,.nil=>.nil
 |_,_,.cons n t h=>.cons ⟨t,rfl⟩ (Gj h)
def CB (H:Hp):Prop:=∀b,H b=none\/∃o xs,H b=some (.cO o (.lst xs))
def Qg {P:ù} {w:ď} {K:Ĳ} {mg mb:Str->Option Í} {CX:j5} {k:Nat} {fa a:á} {fd:Ŗ} {x:Str} {sp:Sp} {bL:É} {vs:List Í} {ns:List Int}
  (KX:K.In bL.heap) (sr:bL.heap.Ns ò mg) (hb:bL.heap.Ns builtinsNs mb) (XQ:∀x:Str,x≠"__name__"->mb x=ą x) (W4:bL.heap.NoLimit) (hg:bL.gens=#[])
  (ha:bL.heap.get? a=some { cls:=.type "list",data:=.seq vs.toArray }) (hi:abh vs ns) (hl:ns.length<=Õ) (hr:bW k callerA)
  (F:∀base:ŏ,K.In base->base.Ns ò mg->fB P w K mg base CX k fa fd [x] sp) (VM:∀(s:É) (u:Í),BindsTo s fd ⟨[u],[]⟩ [(x,u)])
  (oq:∀H:Hp,CB H->bu K H a (ns.map V.int)->sp [.ref a] H (λv _=>v=.bl true) λ_ _ _=>False)
  (Dm:∀H e s',CX [] H bL (λ_ _ _=>False) e s'->False) :
  aaO (ø P w) callerA (.call (.ref fa) ⟨[.ref a],[]⟩) (λr s'=>r=.ok (.ret (.bool true))/\OldK bL.heap s'.heap/\s'.os=bL.os/\AllBare s'.gens) bL:=by
 have rv:=Gj hi;have W5:=hi.length;have core:∀H:Hp,CB H->bu K H a (ns.map V.int)->cc P w H bL.heap->(∀b,H b≠none->b=a)->(H a≠none->K.lookup a=none) ->
   aaO (ø P w) callerA (.call (.ref fa) ⟨[.ref a],[]⟩) (λr s'=>r=.ok (.ret (.bool true))/\OldK bL.heap s'.heap/\s'.os=bL.os/\AllBare s'.gens) bL:=by
  intro H hO hS aF hA hK;have HN:∀{b:á} {o:Obj},bL.heap.get? b=some o->H b=none->(mG bL.heap H).get? b=some o:=λe n=>P7 e n;have u9:∀{b:á} {o:Obj} {es:Array ab9} {ep:Nat},bL.heap.get? b=some o->o.data=.dict es ep->H b=none:=λ{b o es ep} e d=>by
   cases q:H b with
   |none=>rfl
   |some u =>
    have e':b=a:=hA b (by rw[q];simp);subst e';rw[ha] at e;cases e;have d':Data.seq vs.toArray _=Data.dict es ep:=d;cases d'
  have yP:∀{b:á} {m:Str->Option Í},bL.heap.Ns b m->(mG bL.heap H).Ns b m:=λ{b m} ⟨o,es,ep,e,d,r⟩=>⟨o,es,ep,HN e (u9 e d),d,r⟩;have Lp:K.In (mG bL.heap H):=λb o e=>HN (KX b o e) (by
   cases q:H b with
   |none=>rfl
   |some u =>
    have e':b=a:=hA b (by rw[q];simp);subst e';rw[hK (by rw[q];simp)] at e;cases e)
  have hM:Mod K mg (mG bL.heap H):=⟨Lp,yP sr,⟨mb,yP hb,XQ⟩,let ⟨mc,h1,h2⟩:=W4;⟨mc,yP h1,h2⟩⟩
  have e0:yr P w K mg (mG bL.heap H) callerA [] bL H:=⟨rfl,hM,λb o e=>RA e,ō (OK _ _),trivial,λb hb=>absurd (show b∈([]:List á) from hb) (by simp),aF,.of_eq hg⟩;refine ů ((F _ Lp (yP sr)).run callerA [] bL H ⟨[.ref a],[]⟩ [.ref a] [.ref a] _ _ hr e0 (VM bL (.ref a)) (.cons rfl .nil) (oq H hO hS)) λr s' h=>?_
  cases r with
  |error e=>exact(Dm H e s' h).elim
  |ok fl =>
   cases fl with
   |next=>exact aak h
   |brk=>exact aak h
   |cont=>exact aak h
   |ret u =>
    obtain⟨v,H',os,bare,un,W6,r',q⟩:=h;have q':v=.bl true:=q;subst q';obtain rfl:u=Value.bool true:=r';refine⟨rfl,OldK.of_keep λb o e=>?_,os,bare⟩
    cases q:H b with
    |none=>exact un.keep b o e q (by intro z;exact absurd (show b∈([]:List á) from z) (by simp)) (by simp)
    |some u =>
     rcases hO b with z | ⟨ob,xs,z⟩
     ·rw[q] at z;cases z
     ·have z2:=un.jr b ob _ z
      obtain⟨e1,_⟩:=aF b _ z;obtain⟨e2,_⟩:=W6 b _ z2;rw[e] at e1;cases e1;exact e2
 cases hk:K.lookup a with
 |some o =>
  have e:=KX a o hk;rw[ha] at e;cases e;refine core (λ_=>none) (λ_=>.inl rfl) (.inr ⟨_,vs.toArray,_,hk,rfl,rfl,rfl,by rw[Ô,W5];exact hl,by simpa using rv⟩) (λb u z=>by have z':(none:Option HO)=some u:=z;cases z') (λb z=>absurd rfl z) λz=>absurd rfl z
 |none =>
  refine core (λb=>if b=a then some (.cO { cls:=.type "list",data:=.seq vs.toArray } (.lst (ns.map V.int))) else none) (λb=>?_) (.inl (.inr ⟨{ cls:=.type "list",data:=.seq vs.toArray },Ú rfl⟩)) (λb u z=>?_) (λb z=>?_) λ_=>hk
  ·by_cases hb:b=a
   ·exact .inr ⟨_,_,Ú hb⟩
   ·exact .inl (æ hb)
  ·by_cases hb:b=a
   ·have z':=(Ú hb).symm.trans z
    cases z';subst hb;exact⟨ha,by rw[Ä];exact hl,vs,_,rv,ha⟩
   ·have z':=(æ hb).symm.trans z
    cases z'
  ·by_cases hb:b=a
   ·exact hb
   ·exact absurd (æ hb) z
noncomputable abbrev KOf {K:Ĳ} {h:ŏ} (_:K.In h):Ĳ:=K
def RV {l:PySem.W.OpenLaw} {n k:Nat} {q:ù} {loose:List Str} {XP:(Str->Option Í)->ŏ->Prop} {YP:ď->ŏ->Prop} {d:DefRec} {K:Params->Ĳ} {CX:ď->j5} {sp:ď->Sp} {x:Str}
  (hn:l.most=some n) (XR:n<=Õ) (ve:d.params.defaults=[]) (hr:bW k callerA)
  (hY:∀(w:ď) (h:ŏ),YP w h->(K w.params).In h)
  (F:∀(w:ď) (mg:Str->Option Í) (fa:á) (h:ŏ),(K w.params).In h->h.Ns ò mg->mg d.name=some (.ref fa) ->
   ∃fd:Ŗ,(∀(s:É) (u:Í),BindsTo s fd ⟨[u],[]⟩ [(x,u)]) /\
    ∀base:ŏ,(K w.params).In base->base.Ns ò mg->fB l.prog w (K w.params) mg base (CX w) k fa fd [x] (sp w))
  (oq:∀(w:ď) (H:Hp) (a:á) (ns:List Int),ns.length<=n->CB H->bu (K w.params) H a (ns.map V.int)->sp w [.ref a] H (λv _=>v=.bl true) λ_ _ _=>False)
  (Dm:∀(w:ď) (H:Hp) (s:É) (e:Í) (s':É),CX w [] H s (λ_ _ _=>False) e s'->False) :
  PySem.W.WalkO q loose XP YP l.row.toRowW d [] (λf vs=>PySem.call f vs):=by
 refine Ln.Nj hn ve λw dQ bL mg mb fa o pm cd doc a vs ns G Y ho hd kO vf Cz hints hlen hg=>?_;have KX:=hY w _ Y;obtain⟨fd,hb,hF⟩:=F w mg fa _ KX G.T.g vf;exact Qg KX G.T.g G.T.b G.T.builtins G.T.nolimit hg Cz hints (Û hlen XR) hr hF hb (λH hO hS=>oq w H a ns hlen hO hS) λH e s'=>Dm w H bL e s'
noncomputable def oT (s:Stmt):Arguments:=match s with
 | .FunctionDef _ a _ _ _ _ _ _ _ _=>a
 |_=>{ posonlyargs:=[],args:=[],vararg:=none,kwonlyargs:=[],kw_defaults:=[],kwarg:=none,defaults:=[] }
noncomputable def lF (s:Stmt):List Stmt:=match s with
 | .FunctionDef _ _ b _ _ _ _ _ _ _=>b
 |_=>[]
noncomputable def gF (s:Stmt):abf:=match s with
 | .FunctionDef _ _ _ _ _ _ sc _ _ _=>sc
 |_=>{ kind:=.function,names:=[],isGenerator:=false,isCoroutine:=false }
abbrev gy:j5:=λ_ _ _ _ _ _=>False
abbrev E0:XK:=λ_ _ _=>False
def JV:Passes gy X E0:=λ_ _ _ _ _ _ _ h=>h.elim
structure qd (K:Ĳ) (x qual:Str) (st:Stmt) (f:á) (fd:Ŗ):Prop where
 ex:∃(oc:Í) (od:Option á) (kV doc pm:Í) (an:Option á) (cz ct:Í) (oo:Array (Option Í)),
  fd=δ x qual (oT st) (lF st) (gF st) .none kV doc pm an cz ct/\K.lookup f=some ⟨oc,od,.func fd,oo⟩/\abt K cz qual=true
 kp:ų K (.ref f)=true
section
variable {P:ù} {w:ď} {K:Ĳ} {mg:Str->Option Í} {base:ŏ}
def qd.ok {x qual:Str} {st:Stmt} {f:á} {fd:Ŗ} {N ps:List Str} {k:Nat} {sp:Sp} (F:qd K x qual st f fd) (S:qO N ps (gF st)) (len:∀vs H Q E,sp vs H Q E->vs.length=ps.length)
  (BE:∀(cz:Í) (A:đ) (outer:List Env) (s:É) (H:Hp) (vs:List V) (Q:VK) (E:XK),bW k (A.deeper (envOfC qual (gF st) s.heap.objs.size f cz))->sp vs H Q E ->
   ∃t,eT (nU gy P w K mg base N qual (gF st) f cz A outer s H E).so (lF st) t/\t { nx:=λ_ H'=>Q .au H',rt:=Q } (start N vs) H):fB P w K mg base gy (k+1) f fd ps sp:=by
 obtain⟨oc,od,kV,doc,pm,an,cz,ct,oo,rfl,lk,kO⟩:=F.ex;refine VD lk kO S len λA outer s H vs Q E hr oq=>?_;obtain⟨t,h,q⟩:=BE cz A outer s H vs Q E hr oq;exact⟨t,h.so,q⟩
def qd.binds {x qual:Str} {st:Stmt} {f:á} {fd:Ŗ} {ps:List Str} (F:qd K x qual st f fd)
  (h:∀(kV doc pm:Í) (an:Option á) (cz ct:Í) (us:List Í),us.length=ps.length->bindArgs (δ x qual (oT st) (lF st) (gF st) .none kV doc pm an cz ct) ⟨us,[]⟩=pure (ps.zip us)):Binds K fd ps []:=by
 obtain⟨oc,od,kV,doc,pm,an,cz,ct,oo,rfl,lk,kO⟩:=F.ex;exact .all (h kV doc pm an cz ct)
def Jc {x qual:Str} {st:Stmt} {f:á} {oc:Í} {od an:Option á} {oo:Array (Option Í)} {kV doc pm cz ct:Í} (l:K.lookup f=some ⟨oc,od,.func (δ x qual (oT st) (lF st) (gF st) .none kV doc pm an cz ct),oo⟩)
  (c:abt K cz qual=true) (k:ų K (.ref f)=true):qd K x qual st f (δ x qual (oT st) (lF st) (gF st) .none kV doc pm an cz ct):=⟨⟨oc,od,kV,doc,pm,an,cz,ct,oo,rfl,l,c⟩,k⟩
end
section
variable {X:Cx}
end
def kG (H H':Hp):Prop:=∀b o,H b=some o->H' b=some o
def kG.refl (H:Hp):kG H H:=λ_ _ h=>h
def NR (J:Nat->É->Prop)
 (turn:∀n s,J n s->à (ø P w) A (ť ja) (λr s1=>match r with
   |none=>R (.ok .next) s1
   |some v=>à (ø P w) A (ş tg ja v) (λ_ s2=>à (ø P w) A (aaR tg ce v) (λ_ s3 =>
     à (ø P w) A (forIn tests true λc r=>if r=true then do let ok <- isTrue c ce (Ť c ce);pure (aaf ok) else pure (aaf r)) (λok s4 =>
      if ok=true then à (ø P w) A (Ť el ce) (λy s5=>à (ø P w) A (call (.builtin "list.append") [av,y]) (λ_ s6=>∃m,m<n/\J m s6) (λ_ _=>False) s5) (λ_ _=>False) s4
      else ∃m,m<n/\J m s4) (λ_ _=>False) s3) (λ_ _=>False) s2) (λ_ _=>False) s1) (λ_ _=>False) s)
 (n:Nat) (h:J n s):aaO (ø P w) A (.compLoop (.ListComp el [⟨tg,src,tests,0⟩] sc ps) 0 ja av ce) R s:=by
 refine codeAny_loop rfl J (λn s hJ=>?_) n h
 show à _ A ((compTurn (.ListComp el [⟨tg,src,tests,0⟩] sc ps) 0 ja av ce).onRaise (λx=>do noteFrame x ce;theTreesLotGoes x)) _ _ s
 refine wpAny_noted ?_;rw[compTurn_list];refine À (Ŕ (À (ĳ (turn n s hJ) (λr s1 h1=>?_) λ_ _ z=>z.elim)))
 cases r with
 |none=>exact Â h1
 |some v =>
  refine À (ĳ h1 (λ_ s2 h2=>?_) λ_ _ z=>z.elim);refine À (ĳ h2 (λ_ s3 h3=>À (ĳ h3 (λok s4 h4=>?_) λ_ _ z=>z.elim)) λ_ _ z=>z.elim)
  cases ok with
  |false=>exact Â ⟨rfl,h4⟩
  |true =>
   exact À (À (ĳ h4 (λy s5 h5=>À (ĳ h5 (λ_ s6 h6=>Â (Â ⟨rfl,h6⟩)) λ_ _ z=>z.elim)) λ_ _ z=>z.elim))
def Ac (env:Env):∀(l:List (Str×aal)) (acc:List (Str×á)),(∀n,(n,ā)∈l->∃c,env.cells.lookup n=some c) ->
  ∃cl,(forIn l acc (λ(p:Str×aal) (cs:List (Str×á))=>(do
   if (p.2==ā)=true then do let c <- cellOf env p.1;pure (aaf ((p.1,c)::cs)) else pure (aaf cs):Sem (ForInStep (List (Str×á))))))=pure cl /\
   ∀n c,cl.lookup n=some c↔(((n,ā)∈l/\env.cells.lookup n=some c)\/((n,ā)∉l/\acc.lookup n=some c))
 | [],acc,_=>⟨acc,rfl,λn c=>by simp⟩
 |(x,k)::r,acc,h=>by
  rw[List.forIn_cons]
  cases hk:(k==ā) with
  |false =>
   have fF:k≠.free:=by intro e;rw[e] at hk;cases hk
   obtain⟨cl,e,q⟩:=Ac env r acc λn hn=>h n (Ñ _ hn);refine⟨cl,?_,λn c=>?_⟩
   ·simp only[Ã,ê]
    exact e
   ·rw[q n c]
    have:(n,ā)∈(x,k)::r↔(n,ā)∈r:=by
     constructor
     ·intro hm
      rcases Ó.mp hm with z|z
      ·injection z with _ z2
       exact absurd z2.symm fF
      ·exact z
     ·exact Ñ _
    rw[this]
  |true =>
   have he:k=.free:=by cases k<;>first|rfl|cases hk
   subst he;obtain⟨c0,Dp⟩:=h x Ò;obtain⟨cl,e,q⟩:=Ac env r ((x,c0)::acc) λn hn=>h n (Ñ _ hn);refine⟨cl,?_,λn c=>?_⟩
   ·simp only[û,cellOf,Dp]
    exact e
   ·rw[q n c]
    by_cases hx:n=x
    ·subst hx
     constructor
     ·rintro (⟨_,z⟩ | ⟨_,z⟩)
      ·exact .inl ⟨Ò,z⟩
      ·rw[ń,Ġ] at z
       exact .inl ⟨Ò,Dp.trans z⟩
     ·rintro (⟨_,z⟩ | ⟨z,_⟩)
      ·by_cases hm:(n,ā)∈r
       ·exact .inl ⟨hm,z⟩
       ·refine .inr ⟨hm,?_⟩
        rw[ń,Ġ];exact Dp.symm.trans z
      ·exact absurd Ò z
    ·have:(n,ā)∈(x,ā)::r↔(n,ā)∈r:=by
      constructor
      ·intro hm
       rcases Ó.mp hm with z|z
       ·injection z with z1 _
        exact absurd z1 hx
       ·exact z
      ·exact Ñ _
     rw[this,ń,beq_false_of_ne hx]
def A8 (h:∀n,(n,ā)∈sc.names->∃c,env.cells.lookup n=some c) :
  ∃cl,closureFor sc env=pure cl/\∀n c,cl.lookup n=some c↔((n,ā)∈sc.names/\env.cells.lookup n=some c):=by
 obtain⟨cl,e,q⟩:=Ac env sc.names [] h;refine⟨cl,?_,λn c=>?_⟩
 ·unfold closureFor
  exact(Ĺ (λz:Sem (List (Str×á))=>z >>= λr=>pure r) e)
 ·rw[q n c]
  simp
def G0 (f:Str->aal->aal) (x:Str):∀l:List (Str×aal),(l.map λp=>(p.1,f p.1 p.2)).lookup x=(l.lookup x).map (f x)
 | []=>rfl
 |(n,k)::r=>by
  rw[Ö,ń,ń]
  cases h:x==n with
  |true =>
   have e:x=n:=by simpa using h
   subst e;rfl
  |false=>exact G0 f x r
def wx (sc:abf) (env:Env) (x:Str):(relabel sc env).names.lookup x=(sc.names.lookup x).map λk=>if (k==ā&&env.scope.kind==.function&&env.kindOf x==some .cell)=true then NameKind.cell else k:=by
 rw[<- G0 (λx k=>if (k==ā&&env.scope.kind==.function&&env.kindOf x==some .cell)=true then NameKind.cell else k)]
 show List.lookup x (sc.names.map _)=_;congr 1;apply aaP;rintro ⟨n,k⟩ _;dsimp only
 split<;>rfl
abbrev cg (X:Cx) (N:List Str) (sc:abf) (cl:List (Str×á)) (C:á) (s:É) (H:Hp) (ex:List á) (pn:List (á×Obj)):Cx where
 prog:=X.prog
 w:=X.w
 K:=X.K
 mg:=X.mg
 base:=X.base
 A:=X.A
 N:=N
 dQ:=s
 uD:=H
 env:=compEnvC sc cl C X.env
 outer:=X.stack
 stack:=X.stack
 ex:=ex
 fn:=λ_=>false
 calm:=X.calm
 pn:=pn
 xe:=λ_ _=>False
structure oX (X:Cx) (sc:abf) (N:List Str) (nt:Nat) (cap:List Nat):Prop where
 kind:sc.kind=.function
 A9:∀x∈sc.names,x.2≠.cell
 names:∀x∈sc.names,x.2=.local->sc.names.lookup x.1=some .local
 frees:∀x∈sc.names,x.2=.free->sc.names.lookup x.1=some .free/\(X.env.scope.names.lookup x.1=some .cell\/X.env.scope.names.lookup x.1=some .free)
 len:N.length=nt+cap.length
 CC:∀(k:Nat) j,cap[k]?=some j->∃x,X.N[j]?=some x/\N[nt+k]?=some x/\(x,ā)∈sc.names
def lK (nt:Nat) (cap:List Nat) (σ:St):St:=Ï nt none++cap.map λj=>(σ[j]?).getD none
def PF (X:Cx) (tests:List ļ) (t:TT):Prop :=
 ∀(π:List (á×Obj)) (s:É) (σ:St) (H:Hp) (Q:Bool->Hp->Prop),Inv X π σ H s->t σ H Q ->
  à (ø X.prog X.w) X.A (forIn tests true λc r=>if r=true then do let ok <- isTrue c X.env (Ť c X.env);pure (aaf ok) else pure (aaf r)) (TP X π σ Q) X.xe s
def W7:TT:=λ_ H Q=>Q true H
def Ud:PF X [] W7:=λ_ _ _ H _ I h=>wpAny_tests_nil ⟨H,I,h⟩
def Ue (h:PT X c t):PF X [c] t:=λπ s σ H Q I hw=>wpAny_tests_one (h π s σ H Q I hw)
def lX (g:TG) (nt:Nat):Prop:=∀(x:V) (o caps:St) (H:Hp) (R:St->Hp->Prop),o.length=nt->g x (o++caps) H R->g x (o++caps) H fun τ H2=>(∃o2:St,o2.length=nt/\τ=o2++caps)/\R τ H2
def my (cap:List Nat) (σ:St):St:=cap.map λj=>(σ[j]?).getD none
def CW (J:It) (nt:Nat) (caps:St) (g:TG) (tf:TT) (te:TE) (H:Hp) (Q:VK):Prop:=∃W:Nat->Nat->List V->Hp->Prop,(∃m,W 0 m [] H) /\
 ∀i m acc H2,W i m acc H2->(J.stop i H2/\acc.length<=Õ/\∀D,H2 D=none->Q (.ref D) (upd H2 D (.lst acc))) \/
  (J.go i H2/\acc.length<=Õ/\∃N:List V->Hp->Prop,(∀fC H',N fC H'->∃m',m' < m/\W (i+1) m' fC H') /\
   ∀o x H3,o.length=nt->J.uX i H2 x H3->g x (o++caps) H3 fun qe H4=>tf qe H4 λb H5=>if b=true then te qe H5 λv H6=>N (acc++[v]) H6 else N acc H5)
def mz (wi:TI) (nt:Nat) (cap:List Nat) (g:TG) (tf:TT) (te:TE):TE:=fun σ H Q=>wi σ H λJ H1=>CW J nt (my cap σ) g tf te H1 Q
section
variable {fs ex:List á} {H H':Hp} {h h1 h2:ŏ} {P:ù} {w:ď}
def Un.adopt {D:á} {o:HO} (u:Un fs ex H H' h h1) (hp:h.objs.size<=D) (hn:H' D=none):Un fs ex H (upd H' D o) h h1 where
 keep:=u.keep
 slot:=u.slot
 free:=λb ob q n hx=>by rw[bt (è (Ê (Î q) hp))];exact u.free b ob q n hx
 there:=u.there
 jV:=λb xs q=>by rw[bt (ff (u.jV b xs q) hn)];exact u.jV b xs q
 jr:=λb ob xs q=>by rw[bt (ff (u.jr b ob xs q) hn)];exact u.jr b ob xs q
 kD:=λb ps q=>by
  obtain⟨more,e⟩:=u.kD b ps q;exact⟨more,by rw[bt (ff e hn)];exact e⟩
def Un.but {C:á} (u:Un fs ex H H' h h1) (hp:h.objs.size<=C) (sb:ĸ C h1 h2):Un fs ex H H' h h2:=by
 have ne:∀b ob,h.get? b=some ob->b≠C:=λb ob q=>è (Ê (Î q) hp);refine⟨λb ob q n hb hx=>(sb.2 b (ne b ob q)).trans (u.keep b ob q n hb hx),λb ob q n hb hx=>?_,u.free,λb ob q hx=>?_,u.jV,u.jr,u.kD⟩
 ·obtain⟨sl,e⟩:=u.slot b ob q n hb hx
  exact⟨sl,(sb.2 b (ne b ob q)).trans e⟩
 ·obtain⟨o',e⟩:=u.there b ob q hx
  exact⟨o',(sb.2 b (ne b ob q)).trans e⟩
def cc.but (x:cc P w H h1) (hn:H C=none) (sb:ĸ C h1 h2):cc P w H h2:=λa o e =>
 (x a o e).ie (λb u hb q=>(sb.2 b (by
  rintro rfl
  rcases hb with z|z
  ·subst z;rw[hn] at e;cases e
  ·rw[hn] at z;cases z)).trans q) (λ_ q=>q) λ_ _ q=>q
def cc.adopt (x:cc P w H h) (hn:H D=none) (new:cJ P w (upd H D o) h D o):cc P w (upd H D o) h:=λb u e=>by
 by_cases hb:b=D
 ·subst hb;rw[dw] at e;cases e;exact new
 ·rw[bt hb] at e
  exact(x b u e).ie (λc v _ q=>q) (λc q=>by rw[bt (ff q hn)];exact q) λc xs q=>by rw[bt (ff q hn)];exact q
end
section
variable {X:Cx} {sc:abf} {N:List Str} {nt:Nat} {cap:List Nat} {cl:List (Str×á)} {s:É} {h1:ŏ} {H:Hp} {σ:St} {π:List (á×Obj)} {fp:List á} {C:á} {t':Nat}
def Inv.block (I:Inv X π σ H s) (S:oX X sc N nt cap) (cV:∀n c,cl.lookup n=some c↔((n,ā)∈sc.names/\X.env.cells.lookup n=some c)) (hf:∀b∈fp,cu X π H b) (gW:∀b∈fp,b<s.heap.objs.size)
  (hk:∀b o,s.heap.get? b=some o->h1.get? b=some o) (hC:s.heap.objs.size<=C) (sr:∃m,h1.Ns C m):Inv (cg X N sc cl C s H fp (X.pn++π)) [] (lK nt cap σ) H { s with heap:=h1,toks:=t' }:=by
 have t6:∀b∈gU X.stack,b∈X.env.locals::X.fs:=I.ki;have Lq:C∉gU X.stack:=λz=>by
  rcases Ó.mp (I.ki C z) with e|e
  ·exact absurd (Ê I.lt hC) (by rw[e];exact é _)
  ·exact I.pG hC e
 have BH:∀x,(relabel sc X.env).names.lookup x=some .cell\/(relabel sc X.env).names.lookup x=some .free->(x,ā)∈sc.names:=λx hx=>by
  rw[wx] at hx
  cases e:sc.names.lookup x with
  |none=>rw[e] at hx;rcases hx with z|z<;>cases z
  |some k =>
   have hm:(x,k)∈sc.names:=by
    obtain⟨l1,l2,e1,_⟩:=List.lookup_eq_some_iff.mp e;rw[e1];simp
   rw[e] at hx
   cases k with
   |free=>exact hm
   |cell=>exact absurd rfl (S.A9 _ hm)
   |_=>exfalso;revert hx;simp
 have AH:∀x,(x,ā)∈sc.names->∃c,X.env.cells.lookup x=some c:=λx hx=>I.ok.has x (S.frees _ hx rfl).2;have ok:Cx.Ok (cg X N sc cl C s H fp (X.pn++π)):=by
  refine⟨I.ok.mod,?_,I.ok.glob,I.ok.blt,hC,?_,?_,?_,I.ok.hd,I.ok.frames,.inl rfl,?_,I.bs,Û I.ok.i8 I.sz,?_,?_,I.stack,I.AB⟩
  ·exact S.kind
  ·intro x y c hx hy
   exact I.ok.inj x y c ((cV x c).mp hx).2 ((cV y c).mp hy).2
  ·intro x hx
   have hm:=BH x hx;obtain⟨c,e⟩:=AH x hm;exact⟨c,(cV x c).mpr ⟨hm,e⟩⟩
  ·intro x c hx
   cases hx
  ·intro b hb
   refine⟨è (Ê (gW b hb) hC),λx c e=>?_⟩;exact(hf b hb).2.2.2.2.1 x c ((cV x c).mp e).2
  ·intro b o e hb
   rcases(hf b hb).2.2.2.1 with z|z
   ·exact I.ok.lO b o e z
   ·exact absurd (Ê (Î e) (Û I.ok.i8 z)) (é _)
  ·intro b hb z
   rcases Ó.mp (t6 b z) with e|e
   ·exact(hf b hb).2.1 e
   ·exact(hf b hb).2.2.1 e
 obtain⟨m,hm⟩:=sr;obtain⟨mX,XT,Dq⟩:=I.loc;refine⟨ok,rfl,I.bare,Un.kept hk,⟨m,hm,λi x v e1 e2 e3=>?_⟩,λx c e=>?_,I.aF.fresh hC,λx c e=>I.fj x c ((cV x c).mp e).2,λp hp=>?_,I.aF.kept hk,?_⟩
 ·
  have hi:nt<=i:=by
   apply ο;intro bE;have:(lK nt cap σ)[i]?=some none:=by
    unfold lK;rw[ä (by simpa using bE),ĭ,Ú bE]
   rw[this] at e2;cases e2
  have kR:(cap.map λj=>(σ[j]?).getD none)[i-nt]?=some (some v):=by
   have e:=e2;unfold lK at e;rw[ü (by simpa using hi)] at e;simpa using e
  rw[ç] at kR
  cases ej:cap[i-nt]? with
  |none=>rw[ej] at kR;cases kR
  |some j =>
   rw[ej] at kR;have ev:(σ[j]?).getD none=some v:=Option.some.inj kR;have vh:σ[j]?=some (some v):=by
    cases q:σ[j]? with
    |none=>rw[q] at ev;cases ev
    |some z=>rw[q] at ev;exact Ĺ some ev
   obtain⟨y,f1,f2,f3⟩:=S.CC _ _ ej;rw[Nat.add_sub_cancel' hi] at f2;have Dr:y=x:=Option.some.inj (f2.symm.trans e1);subst Dr;obtain⟨g1,g2⟩:=S.frees _ f3 rfl;have Ds:uT X.env.scope y:=.inr g2;obtain⟨u,r,l⟩:=Dq j y v f1 vh Ds;refine⟨u,r,.inr ⟨?_,?_⟩⟩
   ·show (relabel sc X.env).names.lookup y=some .cell\/(relabel sc X.env).names.lookup y=some .free
    rw[wx,g1];simp only[Ŏ];split
    ·exact .inl rfl
    ·exact .inr rfl
   ·rcases l with ⟨k,_⟩ | ⟨_,c,hc,nL⟩
    ·exfalso
     have k':X.env.scope.names.lookup y=some .local:=k;dsimp only at g2;rw[k'] at g2
     rcases g2 with z|z<;>cases z
    ·obtain⟨oc,ho,hd⟩:=nL
     exact⟨c,(cV y c).mpr ⟨f3,hc⟩,oc,hk _ _ ho,hd⟩
 ·obtain⟨v,oc,ho,hd⟩:=I.cell x c ((cV x c).mp e).2
  exact⟨v,oc,hk _ _ ho,hd⟩
 ·have fR:p∈X.pn++π:=by simpa using hp
  obtain⟨e,n,ne,nf,d⟩:=I.pin p fR;refine⟨hk _ _ e,n,è (Ê (Î e) hC),λz=>?_,d⟩
  rcases Ó.mp (t6 p.1 z) with q|q
  ·exact ne q
  ·exact nf q
 ·unfold lK
  rw[â,Ű,Ä];exact S.len.symm
end
section
variable {X:Cx}
end
inductive Kn where
 |au|bl|int|str|tup|lst|bb
 deriving DecidableEq
def ou (K:Ĳ) (H:Hp):V->Kn->Prop
 | .au,.au=>True
 | .bl _,.bl=>True
 | .int _,.int=>True
 | .str _,.str=>True
 | .ref a,.tup=>∃xs,aT K H a xs
 | .ref a,.lst=>∃xs,bu K H a xs
 | .ref a,.bb=>∃ai,H a=some (.dK ai)
 |_,_=>False
noncomputable def rQ:Kn->String->Bool
 | .int,"int"=>true
 | .bl,"int"=>true
 | .bl,"bool"=>true
 | .str,"str"=>true
 | .tup,"tuple"=>true
 | .lst,"list"=>true
 |_,_=>false
section
variable {X:Cx}
def Inv.qU {π:List (á×Obj)} {σ:St} {H:Hp} {s:É} {a:á} {xs:List V} (I:Inv X π σ H s) (h:aT X.K H a xs):∃o,s.heap.get? a=some o/\o.cls=.type "tuple":=by
 obtain⟨its,r,⟨o,e,c,_⟩,_⟩:=I.tuple h;exact⟨o,e,c⟩
def Inv.qV {π:List (á×Obj)} {σ:St} {H:Hp} {s:É} {a:á} {xs:List V} (I:Inv X π σ H s) (h:bu X.K H a xs):∃o,s.heap.get? a=some o/\o.cls=.type "list":=by
 obtain⟨its,r,⟨o,n,e,c,_⟩,_⟩:=I.list h;exact⟨o,e,c⟩
def Inv.qW {π:List (á×Obj)} {σ:St} {H:Hp} {s:É} {a:á} {ai:List (Key×V)} (I:Inv X π σ H s) (h:H a=some (.dK ai)):∃o,s.heap.get? a=some o/\o.cls=.type "dict":=by
 obtain⟨_,_,vs,_,p⟩:=(show cJ X.prog X.w H s.heap a (.dK ai) from I.aF a _ h);obtain⟨o,es,ep,h1,h2,_⟩:=p;exact⟨o,h1,h2.1⟩
def MU:bY X (.builtin "isinstance") (λxs H Q=>∃x k,xs=[x,.ty "int"]/\ou X.K H x k/\Q (.bl (rQ k "int")) H):=by
 intro π s σ H xs us Q I r h;obtain⟨x,k,rfl,hk,q⟩:=h;obtain⟨u,c,rfl,ru,rc⟩:=vals2 r;cases rc
 cases k with
 |au =>
  cases x with
  |au =>
   cases ru;exact IsiPair.NoneType_int ⟨.bl false,H,I.tok _,rfl,q⟩
  |_=>exact hk.elim
 |bl =>
  cases x with
  |bl b =>
   cases ru;exact IsiPair.bool_int ⟨.bl true,H,I,rfl,q⟩
  |_=>exact hk.elim
 |int =>
  cases x with
  |int i =>
   obtain⟨t,rfl⟩:=ru;exact IsiPair.int_int ⟨.bl true,H,I,rfl,q⟩
  |_=>exact hk.elim
 |str =>
  cases x with
  |str y =>
   obtain⟨t,rfl⟩:=ru;exact IsiPair.str_int ⟨.bl false,H,I.tok _,rfl,q⟩
  |_=>exact hk.elim
 |tup =>
  cases x with
  |ref a =>
   cases ru;obtain⟨z,hz⟩:=hk;obtain⟨o,ho,hc⟩:=I.qU hz;exact IsiPair.tuple_int ho hc ⟨.bl false,H,I.tok _,rfl,q⟩
  |_=>exact hk.elim
 |lst =>
  cases x with
  |ref a =>
   cases ru;obtain⟨z,hz⟩:=hk;obtain⟨o,ho,hc⟩:=I.qV hz;exact IsiPair.list_int ho hc ⟨.bl false,H,I.tok _,rfl,q⟩
  |_=>exact hk.elim
 |bb =>
  cases x with
  |ref a =>
   cases ru;obtain⟨z,hz⟩:=hk;obtain⟨o,ho,hc⟩:=I.qW hz;exact IsiPair.dict_int ho hc ⟨.bl false,H,I.tok _,rfl,q⟩
  |_=>exact hk.elim
def MD:bY X (.builtin "isinstance") (λxs H Q=>∃x k,xs=[x,.ty "bool"]/\ou X.K H x k/\Q (.bl (rQ k "bool")) H):=by
 intro π s σ H xs us Q I r h;obtain⟨x,k,rfl,hk,q⟩:=h;obtain⟨u,c,rfl,ru,rc⟩:=vals2 r;cases rc
 cases k with
 |au =>
  cases x with
  |au =>
   cases ru;exact IsiPair.NoneType_bool ⟨.bl false,H,I.tok _,rfl,q⟩
  |_=>exact hk.elim
 |bl =>
  cases x with
  |bl b =>
   cases ru;exact IsiPair.bool_bool ⟨.bl true,H,I,rfl,q⟩
  |_=>exact hk.elim
 |int =>
  cases x with
  |int i =>
   obtain⟨t,rfl⟩:=ru;exact IsiPair.int_bool ⟨.bl false,H,I.tok _,rfl,q⟩
  |_=>exact hk.elim
 |str =>
  cases x with
  |str y =>
   obtain⟨t,rfl⟩:=ru;exact IsiPair.str_bool ⟨.bl false,H,I.tok _,rfl,q⟩
  |_=>exact hk.elim
 |tup =>
  cases x with
  |ref a =>
   cases ru;obtain⟨z,hz⟩:=hk;obtain⟨o,ho,hc⟩:=I.qU hz;exact IsiPair.tuple_bool ho hc ⟨.bl false,H,I.tok _,rfl,q⟩
  |_=>exact hk.elim
 |lst =>
  cases x with
  |ref a =>
   cases ru;obtain⟨z,hz⟩:=hk;obtain⟨o,ho,hc⟩:=I.qV hz;exact IsiPair.list_bool ho hc ⟨.bl false,H,I.tok _,rfl,q⟩
  |_=>exact hk.elim
 |bb =>
  cases x with
  |ref a =>
   cases ru;obtain⟨z,hz⟩:=hk;obtain⟨o,ho,hc⟩:=I.qW hz;exact IsiPair.dict_bool ho hc ⟨.bl false,H,I.tok _,rfl,q⟩
  |_=>exact hk.elim
def MV:bY X (.builtin "isinstance") (λxs H Q=>∃x k,xs=[x,.ty "str"]/\ou X.K H x k/\Q (.bl (rQ k "str")) H):=by
 intro π s σ H xs us Q I r h;obtain⟨x,k,rfl,hk,q⟩:=h;obtain⟨u,c,rfl,ru,rc⟩:=vals2 r;cases rc
 cases k with
 |au =>
  cases x with
  |au =>
   cases ru;exact IsiPair.NoneType_str ⟨.bl false,H,I.tok _,rfl,q⟩
  |_=>exact hk.elim
 |bl =>
  cases x with
  |bl b =>
   cases ru;exact IsiPair.bool_str ⟨.bl false,H,I.tok _,rfl,q⟩
  |_=>exact hk.elim
 |int =>
  cases x with
  |int i =>
   obtain⟨t,rfl⟩:=ru;exact IsiPair.int_str ⟨.bl false,H,I.tok _,rfl,q⟩
  |_=>exact hk.elim
 |str =>
  cases x with
  |str y =>
   obtain⟨t,rfl⟩:=ru;exact IsiPair.str_str ⟨.bl true,H,I,rfl,q⟩
  |_=>exact hk.elim
 |tup =>
  cases x with
  |ref a =>
   cases ru;obtain⟨z,hz⟩:=hk;obtain⟨o,ho,hc⟩:=I.qU hz;exact IsiPair.tuple_str ho hc ⟨.bl false,H,I.tok _,rfl,q⟩
  |_=>exact hk.elim
 |lst =>
  cases x with
  |ref a =>
   cases ru;obtain⟨z,hz⟩:=hk;obtain⟨o,ho,hc⟩:=I.qV hz;exact IsiPair.list_str ho hc ⟨.bl false,H,I.tok _,rfl,q⟩
  |_=>exact hk.elim
 |bb =>
  cases x with
  |ref a =>
   cases ru;obtain⟨z,hz⟩:=hk;obtain⟨o,ho,hc⟩:=I.qW hz;exact IsiPair.dict_str ho hc ⟨.bl false,H,I.tok _,rfl,q⟩
  |_=>exact hk.elim
def Mt:bY X (.builtin "isinstance") (λxs H Q=>∃x k,xs=[x,.ty "tuple"]/\ou X.K H x k/\Q (.bl (rQ k "tuple")) H):=by
 intro π s σ H xs us Q I r h;obtain⟨x,k,rfl,hk,q⟩:=h;obtain⟨u,c,rfl,ru,rc⟩:=vals2 r;cases rc
 cases k with
 |au =>
  cases x with
  |au =>
   cases ru;exact IsiPair.NoneType_tuple ⟨.bl false,H,I.tok _,rfl,q⟩
  |_=>exact hk.elim
 |bl =>
  cases x with
  |bl b =>
   cases ru;exact IsiPair.bool_tuple ⟨.bl false,H,I.tok _,rfl,q⟩
  |_=>exact hk.elim
 |int =>
  cases x with
  |int i =>
   obtain⟨t,rfl⟩:=ru;exact IsiPair.int_tuple ⟨.bl false,H,I.tok _,rfl,q⟩
  |_=>exact hk.elim
 |str =>
  cases x with
  |str y =>
   obtain⟨t,rfl⟩:=ru;exact IsiPair.str_tuple ⟨.bl false,H,I.tok _,rfl,q⟩
  |_=>exact hk.elim
 |tup =>
  cases x with
  |ref a =>
   cases ru;obtain⟨z,hz⟩:=hk;obtain⟨o,ho,hc⟩:=I.qU hz;exact IsiPair.tuple_tuple ho hc ⟨.bl true,H,I,rfl,q⟩
  |_=>exact hk.elim
 |lst =>
  cases x with
  |ref a =>
   cases ru;obtain⟨z,hz⟩:=hk;obtain⟨o,ho,hc⟩:=I.qV hz;exact IsiPair.list_tuple ho hc ⟨.bl false,H,I.tok _,rfl,q⟩
  |_=>exact hk.elim
 |bb =>
  cases x with
  |ref a =>
   cases ru;obtain⟨z,hz⟩:=hk;obtain⟨o,ho,hc⟩:=I.qW hz;exact IsiPair.dict_tuple ho hc ⟨.bl false,H,I.tok _,rfl,q⟩
  |_=>exact hk.elim
def ME:bY X (.builtin "isinstance") (λxs H Q=>∃x k,xs=[x,.ty "list"]/\ou X.K H x k/\Q (.bl (rQ k "list")) H):=by
 intro π s σ H xs us Q I r h;obtain⟨x,k,rfl,hk,q⟩:=h;obtain⟨u,c,rfl,ru,rc⟩:=vals2 r;cases rc
 cases k with
 |au =>
  cases x with
  |au =>
   cases ru;exact IsiPair.NoneType_list ⟨.bl false,H,I.tok _,rfl,q⟩
  |_=>exact hk.elim
 |bl =>
  cases x with
  |bl b =>
   cases ru;exact IsiPair.bool_list ⟨.bl false,H,I.tok _,rfl,q⟩
  |_=>exact hk.elim
 |int =>
  cases x with
  |int i =>
   obtain⟨t,rfl⟩:=ru;exact IsiPair.int_list ⟨.bl false,H,I.tok _,rfl,q⟩
  |_=>exact hk.elim
 |str =>
  cases x with
  |str y =>
   obtain⟨t,rfl⟩:=ru;exact IsiPair.str_list ⟨.bl false,H,I.tok _,rfl,q⟩
  |_=>exact hk.elim
 |tup =>
  cases x with
  |ref a =>
   cases ru;obtain⟨z,hz⟩:=hk;obtain⟨o,ho,hc⟩:=I.qU hz;exact IsiPair.tuple_list ho hc ⟨.bl false,H,I.tok _,rfl,q⟩
  |_=>exact hk.elim
 |lst =>
  cases x with
  |ref a =>
   cases ru;obtain⟨z,hz⟩:=hk;obtain⟨o,ho,hc⟩:=I.qV hz;exact IsiPair.list_list ho hc ⟨.bl true,H,I,rfl,q⟩
  |_=>exact hk.elim
 |bb =>
  cases x with
  |ref a =>
   cases ru;obtain⟨z,hz⟩:=hk;obtain⟨o,ho,hc⟩:=I.qW hz;exact IsiPair.dict_list ho hc ⟨.bl false,H,I.tok _,rfl,q⟩
  |_=>exact hk.elim
end
def rB (p:á) (Ts:List String):ŏ->Prop:=λh=>h.get? p=some { cls:=.type "tuple",data:=.seq (Ts.map ŷ).toArray }
def HP:∀{Ts:List String} {us:List Í},Vals (Ts.map V.ty) us->us=Ts.map ŷ
 | [],_,.nil=>rfl
 |_::r,_,.cons h t=>by
  cases h;rw[HP t];rfl
def Ug (t:TA):TE:=fun σ H Q=>t σ H λxs H1=>∃Ts:List String,xs=Ts.map V.ty/\xs.length<=Õ/\∀p,H1 p=none->Q (.ref p) (upd H1 p (.ext (rB p Ts)))
section
variable {X:Cx} {es:List ļ} {t:TA} {pos:Pos}
def Qh {x1} (h:PA X es t):PE X (.Tuple es x1 pos) (Ug t):=by
 intro π s σ H Q I hq;refine wpAny_Tuple_spliced (aE (h pos π s σ H _ I hq) λus s1 ⟨xs,H1,I1,r,Ts,e,z,q⟩=>⟨by rw[<- r.length];exact z,?_⟩);subst e;have eu:=HP r;subst eu;have hf:H1 s1.heap.objs.size=none:=I1.aF.fresh (Nat.le_refl _);refine⟨.ref s1.heap.objs.size,upd H1 s1.heap.objs.size (.ext (rB s1.heap.objs.size Ts)),I1.laid (t':=s1.toks) (λb u e=>Á _ e) (Nat.le_refl _) ?_,rfl,q _ hf⟩;refine⟨Ì _ rfl,⟨_,Ì _ rfl⟩,λh1 h2 e k=>k _ e⟩
def Uh {K:Ĳ} {π:List (á×Obj)} {σ:St} {H:Hp} {s:É} {x:V} {u:Í} {k:Kn} (I:Inv X π σ H s) (hk:ou X.K H x k) (r:RelV x u) :
  ∃Tx vs,AnswersAll (λs=>s.TypeIs u Tx) u [.type "tuple",.type "list"] vs/\s.TypeIs u Tx/\vs.any id=(decide (k=.tup)||decide (k=.lst)):=by
 cases k with
 |au =>
  cases x with
  |au=>cases r;exact⟨"NoneType",[false,false],.cons (.of_false_none (by decide +kernel) ū F.sub_NoneType_tuple) (.cons (.of_false_none (by decide +kernel) Ź F.sub_NoneType_list) .nil),rfl,rfl⟩
  |_=>exact hk.elim
 |bl =>
  cases x with
  |bl b=>cases r;exact⟨"bool",[false,false],.cons (.of_false_bool (by decide +kernel) ū F.sub_bool_tuple) (.cons (.of_false_bool (by decide +kernel) Ź F.sub_bool_list) .nil),rfl,rfl⟩
  |_=>exact hk.elim
 |int =>
  cases x with
  |int b=>obtain⟨t,rfl⟩:=r;exact⟨"int",[false,false],.cons (.of_false_int (by decide +kernel) ū F.sub_int_tuple) (.cons (.of_false_int (by decide +kernel) Ź F.sub_int_list) .nil),rfl,rfl⟩
  |_=>exact hk.elim
 |str =>
  cases x with
  |str b=>obtain⟨t,rfl⟩:=r;exact⟨"str",[false,false],.cons (.of_false_str (by decide +kernel) ū F.sub_str_tuple) (.cons (.of_false_str (by decide +kernel) Ź F.sub_str_list) .nil),rfl,rfl⟩
  |_=>exact hk.elim
 |tup =>
  cases x with
  |ref a =>
   cases r;obtain⟨z,hz⟩:=hk;exact⟨"tuple",[true,false],.cons (.of_true ū F.sub_tuple_tuple) (.cons (.of_false_tuple (by decide +kernel) Ź F.sub_tuple_list) .nil),I.qU hz,rfl⟩
  |_=>exact hk.elim
 |lst =>
  cases x with
  |ref a =>
   cases r;obtain⟨z,hz⟩:=hk;exact⟨"list",[false,true],.cons (.of_false_list (by decide +kernel) ū F.sub_list_tuple) (.cons (.of_true Ź F.sub_list_list) .nil),I.qV hz,rfl⟩
  |_=>exact hk.elim
 |bb =>
  cases x with
  |ref a =>
   cases r;obtain⟨z,hz⟩:=hk;exact⟨"dict",[false,false],.cons (.of_false_dict (by decide +kernel) ū F.sub_dict_tuple) (.cons (.of_false_dict (by decide +kernel) Ź F.sub_dict_list) .nil),I.qW hz,rfl⟩
  |_=>exact hk.elim
def Nk:bY X (.builtin "isinstance") (λxs H Q=>∃x k p,xs=[x,.ref p]/\ou X.K H x k/\H p=some (.ext (rB p ["tuple","list"]))/\Q (.bl (decide (k=.tup)||decide (k=.lst))) H):=by
 intro π s σ H xs us Q I r h;obtain⟨x,k,p,rfl,hk,hp,q⟩:=h;obtain⟨u,c,rfl,ru,rc⟩:=vals2 r;cases rc;obtain⟨Tx,vs,ha,ht,hv⟩:=Uh (K:=X.K) I hk ru;have ho:cJ X.prog X.w H s.heap p (.ext (rB p ["tuple","list"])):=I.aF p _ hp;exact IsiPair.tupleOfB ha ht ho.1 hv λtk=>⟨.bl _,H,I.tok _,rfl,q⟩
def G1 {bs:List Bool} (r:Vals (bs.map V.bl) its):TruthOf X.prog X.w A (λi v=>its.toArray[i]?=some v) (λi=>bs.getD i false):=by
 intro i v s Q E hv hQ;have lY:its[i]?=some v:=by simpa using hv
 have hi:i<its.length:=(Å.mp lY).1;have hb:i<bs.length:=by
  have e:=r.length;rw[Ä] at e;omega
 have hx:(bs.map V.bl)[i]?=some (.bl (bs[i])):=by rw[ç,Ð hb];rfl
 obtain⟨u,hu,ru⟩:=Vals.get r hx;rw[lY] at hu;cases hu;cases ru;have e:bs.getD i false=bs[i]:=by simp[ź,Ð hb]
 have lZ:Q (bs.getD i false) s:=hQ;rw[e] at lZ;exact Į lZ
def range_all (bs:List Bool):(ß bs.length).all (λi=>bs.getD i false)=bs.all id:=by
 rw[Š,ý,ý];constructor
 ·intro h b hb
  obtain⟨i,hi,e⟩:=aaQ hb;have:=h i (Ā.mpr hi);simpa [ź,Ð hi,e] using this
 ·intro h i hi
  have hi:=Ā.mp hi;have:=h _ (aaK hi);simpa [ź,Ð hi] using this
def range_any (bs:List Bool):(ß bs.length).any (λi=>bs.getD i false)=bs.any id:=by
 rw[Š,Ņ,Ņ];constructor
 ·rintro ⟨i,hi,h⟩
  have hi:=Ā.mp hi;exact⟨bs[i],aaK hi,by simpa [ź,Ð hi] using h⟩
 ·rintro ⟨b,hb,h⟩
  obtain⟨i,hi,e⟩:=aaQ hb;exact⟨i,Ā.mpr hi,by simpa [ź,Ð hi,e] using h⟩
def Qi (hc:X.calm=true):bY X (.builtin "all") (λxs H Q=>∃(p:á) (bs:List Bool),xs=[.ref p]/\bu X.K H p (bs.map V.bl)/\Q (.bl (bs.all id)) H):=by
 intro π s σ H xs us Q I r h;obtain⟨p,bs,rfl,hp,q⟩:=h;obtain⟨u,rfl,ru⟩:=vals1 r;cases ru;obtain⟨its,rv,pl,hz⟩:=I.list hp;have hn:its.toArray.size=bs.length:=by
  have e:=rv.length;rw[Ä] at e;simpa using e.symm
 have hh:X.A.in1.handled=none:=I.ok.hd hc;refine call_all_walk (Ÿ pl.isList ?_);have old:p≠s.heap.objs.size:=è (by obtain⟨o,n,e,_⟩:=pl;exact Î e);refine⟨s.heap.objs.size,[s.heap.objs.size,p],[s.heap.objs.size],its.toArray.size,_,_,λi=>bs.getD i false,rfl,Walks.list hh s.heap.objs.size p old its.toArray,⟨⟨_,Ì _ rfl,rfl,rfl⟩,pl.isList.at λo e=>Á _ e⟩,G1 rv,λh' tk hk=>?_⟩;rw[hn,range_all];exact⟨.bl _,H,I.kept (t':=tk) λb o e=>hk b o (by simpa using è (Î e)) (Á _ e),rfl,q⟩
def Qj (hc:X.calm=true):bY X (.builtin "any") (λxs H Q=>∃(p:á) (bs:List Bool),xs=[.ref p]/\bu X.K H p (bs.map V.bl)/\Q (.bl (bs.any id)) H):=by
 intro π s σ H xs us Q I r h;obtain⟨p,bs,rfl,hp,q⟩:=h;obtain⟨u,rfl,ru⟩:=vals1 r;cases ru;obtain⟨its,rv,pl,hz⟩:=I.list hp;have hn:its.toArray.size=bs.length:=by
  have e:=rv.length;rw[Ä] at e;simpa using e.symm
 have hh:X.A.in1.handled=none:=I.ok.hd hc;refine call_any_walk (Ÿ pl.isList ?_);have old:p≠s.heap.objs.size:=è (by obtain⟨o,n,e,_⟩:=pl;exact Î e);refine⟨s.heap.objs.size,[s.heap.objs.size,p],[s.heap.objs.size],its.toArray.size,_,_,λi=>bs.getD i false,rfl,Walks.list hh s.heap.objs.size p old its.toArray,⟨⟨_,Ì _ rfl,rfl,rfl⟩,pl.isList.at λo e=>Á _ e⟩,G1 rv,λh' tk hk=>?_⟩;rw[hn,range_any];exact⟨.bl _,H,I.kept (t':=tk) λb o e=>hk b o (by simpa using è (Î e)) (Á _ e),rfl,q⟩
end
def rR:Key->aaD
 | .inl i=>.int i
 | .inr x=>.str x
mutual
def DV (K:Ĳ) (Z:á->Prop) (H:Hp):aaD->V->Prop
 | .none,v=>v=.au
 | .bool b,v=>v=.bl b
 | .int i,v=>v=.int i
 | .str x,v=>v=.str x
 | .tuple ds,v=>∃a xs,v=.ref a/\aT K H a xs/\ar K Z H ds xs
 | .list ds,v=>∃a xs,v=.ref a/\¬ Z a/\H a=some (.lst xs)/\ar K Z H ds xs
 | .dict ai,v=>∃a es,v=.ref a/\¬ Z a/\H a=some (.dK es)/\∃l:List (Key×Int),es=l.map (λp=>(p.1,V.int p.2))/\ai=l.map λp=>(rR p.1,PyData.int p.2)
def ar (K:Ĳ) (Z:á->Prop) (H:Hp):List aaD->List V->Prop
 | [],vs=>vs=[]
 |d::ds,vs=>∃v r,vs=v::r/\DV K Z H d v/\ar K Z H ds r
end
structure KO (K:Ĳ) (Z:á->Prop) (H H':Hp):Prop where
 tup:∀b xs,aT K H b xs->aT K H' b xs
 lst:∀b xs,¬ Z b->H b=some (.lst xs)->H' b=some (.lst xs)
 bb:∀b es,¬ Z b->H b=some (.dK es)->H' b=some (.dK es)
mutual
def DV.ie {K:Ĳ} {Z:á->Prop} {H H':Hp} (S:KO K Z H H'):∀{d:aaD} {v:V},DV K Z H d v->DV K Z H' d v
 | .none,_,h=>h
 | .bool _,_,h=>h
 | .int _,_,h=>h
 | .str _,_,h=>h
 | .tuple ds,v,h=>by
  simp only[DV] at h |-;obtain⟨a,xs,e,hq,r⟩:=h;exact⟨a,xs,e,S.tup a xs hq,ar.ie S r⟩
 | .list ds,v,h=>by
  simp only[DV] at h |-;obtain⟨a,xs,e,hz,hq,r⟩:=h;exact⟨a,xs,e,hz,S.lst a xs hz hq,ar.ie S r⟩
 | .dict ai,v,h=>by
  simp only[DV] at h |-;obtain⟨a,es,e,hz,hq,r⟩:=h;exact⟨a,es,e,hz,S.bb a es hz hq,r⟩
def ar.ie {K:Ĳ} {Z:á->Prop} {H H':Hp} (S:KO K Z H H'):∀{ds:List aaD} {vs:List V},ar K Z H ds vs->ar K Z H' ds vs
 | [],_,h=>h
 |d::ds,vs,h=>by
  simp only[ar] at h |-;obtain⟨v,r,e,h1,h2⟩:=h;exact⟨v,r,e,DV.ie S h1,ar.ie S h2⟩
end
mutual
def DV.more {K:Ĳ} {Z:á->Prop} {H:Hp} {p:á} (hp:H p=none):∀{d:aaD} {v:V},DV K Z H d v->DV K (λa=>Z a\/a=p) H d v
 | .none,_,h=>h
 | .bool _,_,h=>h
 | .int _,_,h=>h
 | .str _,_,h=>h
 | .tuple ds,v,h=>by
  simp only[DV] at h |-;obtain⟨a,xs,e,hq,r⟩:=h;exact⟨a,xs,e,hq,ar.more hp r⟩
 | .list ds,v,h=>by
  simp only[DV] at h |-;obtain⟨a,xs,e,hz,hq,r⟩:=h;exact⟨a,xs,e,(λz=>z.elim hz λe=>by subst e;rw[hp] at hq;cases hq),hq,ar.more hp r⟩
 | .dict ai,v,h=>by
  simp only[DV] at h |-;obtain⟨a,es,e,hz,hq,r⟩:=h;exact⟨a,es,e,(λz=>z.elim hz λe=>by subst e;rw[hp] at hq;cases hq),hq,r⟩
def ar.more {K:Ĳ} {Z:á->Prop} {H:Hp} {p:á} (hp:H p=none):∀{ds:List aaD} {vs:List V},ar K Z H ds vs->ar K (λa=>Z a\/a=p) H ds vs
 | [],_,h=>h
 |d::ds,vs,h=>by
  simp only[ar] at h |-;obtain⟨v,r,e,h1,h2⟩:=h;exact⟨v,r,e,DV.more hp h1,ar.more hp h2⟩
end
mutual
def DV.less {K:Ĳ} {Z Z':á->Prop} {H:Hp} (l0:∀a,Z' a->Z a):∀{d:aaD} {v:V},DV K Z H d v->DV K Z' H d v
 | .none,_,h=>h
 | .bool _,_,h=>h
 | .int _,_,h=>h
 | .str _,_,h=>h
 | .tuple ds,v,h=>by
  simp only[DV] at h |-;obtain⟨a,xs,e,hq,r⟩:=h;exact⟨a,xs,e,hq,ar.less l0 r⟩
 | .list ds,v,h=>by
  simp only[DV] at h |-;obtain⟨a,xs,e,hz,hq,r⟩:=h;exact⟨a,xs,e,λz=>hz (l0 _ z),hq,ar.less l0 r⟩
 | .dict ai,v,h=>by
  simp only[DV] at h |-;obtain⟨a,es,e,hz,hq,r⟩:=h;exact⟨a,es,e,λz=>hz (l0 _ z),hq,r⟩
def ar.less {K:Ĳ} {Z Z':á->Prop} {H:Hp} (l0:∀a,Z' a->Z a):∀{ds:List aaD} {vs:List V},ar K Z H ds vs->ar K Z' H ds vs
 | [],_,h=>h
 |d::ds,vs,h=>by
  simp only[ar] at h |-;obtain⟨v,r,e,h1,h2⟩:=h;exact⟨v,r,e,DV.less l0 h1,ar.less l0 h2⟩
end
noncomputable def XU:aaD->Kn
 | .none=>.au
 | .bool _=>.bl
 | .int _=>.int
 | .str _=>.str
 | .tuple _=>.tup
 | .list _=>.lst
 | .dict _=>.bb
section
variable {X:Cx} {π:List (á×Obj)} {σ:St} {H:Hp} {s:É} {Z:á->Prop}
def wD:∀{l:List (Key×Int)} {vs:List (Key×Í)} {es:List ab9},KV (l.map λp=>(p.1,V.int p.2)) vs->Pairs (jK P w) es vs ->
  ReadsAll h (es.map (·.key)) ((l.map λp=>(rR p.1,PyData.int p.2)).map (·.1)) []/\ReadsAll h (es.map (·.val)) ((l.map λp=>(rR p.1,PyData.int p.2)).map (·.2)) []
 | [],_,_,.nil,.nil=>⟨.nil,.nil⟩
 |(k,i)::l,_,_,.cons (b:=q) r t,.cons (e:=e) h1 h2 h3=>by
  obtain⟨a1,a2⟩:=wD (h:=h) t h3;obtain⟨r1,t',r2⟩:=r;have r1:k=q.1:=r1;have r2:q.2=abO i t':=r2;refine⟨?_,?_⟩
  ·have hk:pd q.1 e.key=true:=h1
   rw[<- r1] at hk;have:Reads h e.key (rR k) []:=by
    rcases lB hk with ⟨j,u,e1,e2⟩ | ⟨x,u,e1,e2⟩
    ·rw[e1,e2];exact .int j u
    ·rw[e1,e2];exact .str x u
   exact ReadsAll.cons (as:=[]) (bs:=[]) this a1
  ·have:Reads h e.val (.int i) []:=by rw[h2,r2];exact .int i t'
   exact ReadsAll.cons (as:=[]) (bs:=[]) this a2
mutual
def DV.reads (I:Inv X π σ H s):∀{d:aaD} {v:V} {u:Í},DV X.K Z H d v->RelV v u->∃as,Reads s.heap u d as
 | .none,v,u,h,r=>by
  have e:v=.au:=h;subst e;cases r;exact⟨[],.none⟩
 | .bool b,v,u,h,r=>by
  have e:v=.bl b:=h;subst e;cases r;exact⟨[],.bool b⟩
 | .int i,v,u,h,r=>by
  have e:v=.int i:=h;subst e;obtain⟨t,rfl⟩:=r;exact⟨[],.int i t⟩
 | .str x,v,u,h,r=>by
  have e:v=.str x:=h;subst e;obtain⟨t,rfl⟩:=r;exact⟨[],.str x t⟩
 | .tuple ds,v,u,h,r=>by
  simp only[DV] at h;obtain⟨a,xs,e,hq,hr⟩:=h;subst e;cases r;obtain⟨its,rv,⟨o,e,c,n,hd⟩,_⟩:=I.tuple hq;obtain⟨as,rs⟩:=ar.reads I hr rv;exact⟨as,.tuple e c hd (by simpa using rs)⟩
 | .list ds,v,u,h,r=>by
  simp only[DV] at h;obtain⟨a,xs,e,_,hq,hr⟩:=h;subst e;cases r;obtain⟨its,rv,⟨o,n,e,c,_,hd⟩,_⟩:=I.list (bu.of hq);obtain⟨as,rs⟩:=ar.reads I hr rv;exact⟨a::as,.list e c hd (by simpa using rs)⟩
 | .dict ai,v,u,h,r=>by
  simp only[DV] at h;obtain⟨a,es,e,_,hq,l,e1,e2⟩:=h;subst e e1 e2;cases r;obtain⟨_,_,vs,kv,o,gu,ep,g1,g2,g3,_,g5,_⟩:=(show cJ X.prog X.w H s.heap a (.dK _) from I.aF a _ hq);obtain⟨r1,r2⟩:=wD (h:=s.heap) kv g5;exact⟨a::[]++[],.dict g1 g2.1 g3 r1 r2⟩
def ar.reads (I:Inv X π σ H s):∀{ds:List aaD} {vs:List V} {us:List Í},ar X.K Z H ds vs->Vals vs us->∃as,ReadsAll s.heap us ds as
 | [],vs,us,h,r=>by
  have e:vs=[]:=h;subst e;cases r;exact⟨[],.nil⟩
 |d::ds,vs,us,h,r=>by
  obtain⟨v,rr,e,h1,h2⟩:=h;subst e
  cases r with
  |cons ru rt =>
   obtain⟨as,a1⟩:=DV.reads I h1 ru;obtain⟨bs,a2⟩:=ar.reads I h2 rt;exact⟨as++bs,.cons a1 a2⟩
end
def Gk (hr:bW k X.A):bY X (.builtin "repr") (λxs H Q=>∃(x:V) (d:aaD) (Z:á->Prop),xs=[x]/\DV X.K Z H d x/\d.showable=true/\(d.hasDict=false\/XU d=.bb)/\d.depth<=100/\d.shown.length<=Õ/\Q (.str d.shown) H):=by
 intro π s σ H xs us Q I r h;obtain⟨x,d,Z,rfl,hd,hs,su,vi,hz,q⟩:=h;obtain⟨u,rfl,ru⟩:=vals1 r;have yQ:X.A.units+(d.depth+1)<abQ:=by have:=hr.un;omega
 obtain⟨as,rd⟩:=hd.reads I ru;have go:∀a,u=.ref a->(d.hasDict=true->ł∉as)->à (ø X.prog X.w) X.A (call (.builtin "repr") [u]) (EP X π σ Q) X.xe s:=λa e Du=>by
  subst e;exact repr_of_reads' rd hs Du hr.gd yQ (λ_ _ e=>e) (λh' t tk hk=>⟨.str d.shown,H,I.kept (t':=tk) hk,⟨t,rfl⟩,q⟩) hz
 cases d with
 |none =>
  cases rd;exact P.repr_of_none ⟨.str _,H,I.tok _,⟨_,rfl⟩,q⟩
 |bool b =>
  cases rd;exact P.repr_of_bool ⟨.str _,H,I.tok _,⟨_,rfl⟩,q⟩
 |int i =>
  cases rd;exact P.repr_of_int (by simpa [aa0] using hs) ⟨.str _,H,I.tok _,⟨_,rfl⟩,q⟩
 |str y =>
  cases rd;exact P.repr_of_str ⟨.str _,H,I.tok _,⟨_,rfl⟩,q⟩ hz
 |list ds =>
  cases rd with
  |list h1 h2 h3 h4 =>
   refine go _ rfl λz=>?_
   rcases su with e|e
   ·rw[e] at z;cases z
   ·cases e
 |tuple ds =>
  cases rd with
  |tuple h1 h2 h3 h4 =>
   refine go _ rfl λz=>?_
   rcases su with e|e
   ·rw[e] at z;cases z
   ·cases e
 |dict ai =>
  simp only[DV] at hd;obtain⟨a,es,e,_,hq,l,e1,e2⟩:=hd;subst e e1 e2;cases ru;obtain⟨_,CD,vs,kv,o,gu,ep,g1,g2,g3,_,g5,_⟩:=(show cJ X.prog X.w H s.heap a (.dK _) from I.aF a _ hq);obtain⟨r1,r2⟩:=wD (h:=s.heap) kv g5;have XW:Reads s.heap (.ref a) (.dict (l.map λp=>(rR p.1,PyData.int p.2))) (a::[]++[]):=.dict g1 g2.1 g3 r1 r2;refine repr_of_reads' XW hs (λ_ hm=>?_) hr.gd yQ (λ_ _ e=>e) (λh' t tk hk=>⟨.str _,H,I.kept (t':=tk) hk,⟨t,rfl⟩,q⟩) hz;have e:ł=a:=by simpa using hm
  subst e;simp at CD
def KP (K:Ĳ) (neg:Bool):R2:=λx y H Q=>∃(d e:aaD) (Z:á->Prop),DV K Z H d x/\DV K Z H e y/\d.canLay0=true/\e.canLay0=true/\min d.depth e.depth<=100/\Q (.bl (if neg then !PyData.eqv d e else į d e)) H
def Ui (hr:bW k X.A):aY X (Č .Eq) (KP X.K false):=by
 intro π s σ H x y v u Q I rx ry h;obtain⟨d,e,Z,h1,h2,l1,l2,hd,q⟩:=h;obtain⟨as,r1⟩:=h1.reads I rx;obtain⟨bs,r2⟩:=h2.reads I ry;exact SeqAt.eqOverData _ _ _ _ _ _ _ _ _ _ _ _ r1 r2 l1 l2 (by have:=hr.un;omega) ⟨.bl _,H,I,rfl,q⟩
def Uj (hr:bW k X.A):aY X (Č .NotEq) (KP X.K true):=by
 intro π s σ H x y v u Q I rx ry h;obtain⟨d,e,Z,h1,h2,l1,l2,hd,q⟩:=h;obtain⟨as,r1⟩:=h1.reads I rx;obtain⟨bs,r2⟩:=h2.reads I ry;exact SeqAt.neOverData _ _ _ _ _ _ _ _ _ _ _ _ r1 r2 l1 l2 (by have:=hr.un;omega) ⟨.bl _,H,I,rfl,q⟩
end
end L2
namespace HT
open PySem PySem.Spec PyProof.Rows
section
variable {prog:ù} {w:ď} {A:đ} {E:Í->É->Prop} {s:É}
def Gm (ht:IsTup s.heap t items) (h:Q true s):à (ø prog w) A (aax (.ref t)) Q E s:=by
 unfold aax;exact À (abx ht.typeIs (Â h))
def Mu {lo hi:Option Int} {Q:Í->É->Prop} (ht:IsTup s.heap t items) (hs:s.heap.IsSliceOf sl vl vu .none) (pl:IsPart vl lo) (pu:IsPart vu hi)
 (hw:aR items.size 0 lo=0/\aR items.size items.size hi=items.size) (h:Q (.ref t) s):à (ø prog w) A (getItem (.ref t) (.ref sl)) Q E s:=by
 obtain⟨os,qb,jB,qc⟩:=id hs;have Dk:s.TypeIs (.ref sl) "slice":=⟨os,qb,jB⟩;unfold getItem
 try with_reducible refine ė ?_
 first|refine À (Â ?_)|skip
 refine À (wpAny_sequenceKey ht.typeIs (by decide) ?_);refine À (Ĉ (name:=ì "__getitem__") ht.typeIs ĩ
  (Ą ĩ ht.typeIs entry_tuple_getitem ?_ (args_tuple_getitem _ _)))
 show à _ _ (Ũ (.ref t) >>= _) _ _ s;refine À (tupleItemsOf_ ht ?_);refine À (abx Dk ?_);rw[Ú (by decide)];refine À (Fn hs pl pu ?_);obtain⟨w1,w2⟩:=hw
 show à _ _ (if (((aR items.size 0 lo:Nat):Int)==0&&(1:Int)==1&&(aR items.size items.size hi-aR items.size 0 lo)==items.size)=true then _ else _) _ _ s
 rw[w1,w2,Ú (by simp)]
 first
  |exact À (Gm ht (by simp only[û];exact À (Ŝ (Â ⟨_,rfl,Â h⟩))))
  |exact À (Gm ht (by simp only[û];exact À (Ŝ (À (Â (Â ⟨_,rfl,Â h⟩))))))
end
end HT
namespace L2
open PySem PySem.Spec PyProof.Rows
def kG.XX {K:Ĳ} {H H':Hp} {a:á} {xs:List V} (e:kG H H') (h:aT K H a xs):aT K H' a xs:=by
 rcases h with (h | ⟨o,h⟩)|h
 ·exact .inl (.inl (e _ _ h))
 ·exact .inl (.inr ⟨o,e _ _ h⟩)
 ·exact .inr h
def kG.upd (hn:H p=none):kG H (upd H p o):=λb u e=>by rw[bt (ff e hn)];exact e
def nV (K:Ĳ) (H:Hp) (ys:List V) (Q:VK):Prop:=∀a H',kG H H'->aT K H' a ys->Q (.ref a) H'
def nV.here {K:Ĳ} {H:Hp} {ys:List V} {Q:VK} {a:á} (h:nV K H ys Q) (hs:aT K H a ys):Q (.ref a) H:=h a H (kG.refl H) hs
def nV.new {K:Ĳ} {H:Hp} {ys:List V} {Q:VK} {p:á} (h:nV K H ys Q) (hn:H p=none):Q (.ref p) (L2.upd H p (.tup ys)):=h p _ (kG.upd hn) (aT.of dw)
section
variable {X:Cx} {e:ļ} {te:TE} {pos p2 p3 p4:Pos}
def Qk {lo hi:Option Int} (h:HT.aR xs.length 0 lo=0/\HT.aR xs.length xs.length hi=xs.length):kF xs lo hi=xs:=by
 unfold kF;rw[h.1,h.2];simp
def W8 (K:Ĳ):V->Option Int->Option Int->Hp->VK->Prop:=λx lo hi H Q=>∃a xs,x=.ref a/\aT K H a xs/\nV K H (kF xs lo hi) Q
def RW:va X (W8 X.K):=by
 intro π s σ H x v vl vu lo hi sl Q I rx hs pl pu h;obtain⟨a,xs,rfl,hx,q⟩:=h;by_cases hw:HT.aR xs.length 0 lo=0/\HT.aR xs.length xs.length hi=xs.length
 ·cases rx
  obtain⟨its,r,ht,hz⟩:=I.tuple hx;have hlen:its.toArray.size=xs.length:=by rw[Ô];exact r.length.symm
  rw[Qk hw] at q;exact⟨"tuple",_,ĩ.lookup,ht.typeIs,HT.Mu ht hs pl pu (by rw[hlen];exact hw) ⟨.ref a,H,I,rfl,q.here hx⟩⟩
 ·exact A6 π s σ H _ v vl vu lo hi sl Q I rx hs pl pu ⟨a,xs,rfl,hx,hw,λp hp=>q.new hp⟩
def VN (K:Ĳ):R2:=λx y H Q=>∃a b xs ys,x=.ref a/\y=.ref b/\aT K H a xs/\aT K H b ys/\xs.length+ys.length<=Õ/\nV K H (xs++ys) Q
def RX:aY X (ŋ .Add) (VN X.K):=by
 intro π s σ H x y v u Q I rx ry h;obtain⟨a,b,xs,ys,rfl,rfl,ha,hb,hz,q⟩:=h;by_cases hx:xs=[]
 ·subst hx
  cases rx;cases ry;obtain⟨its,r1,p1,_⟩:=I.tuple ha;obtain⟨pL,r2,p2,_⟩:=I.tuple hb;cases r1;obtain⟨⟨cls,dd,data,sl⟩,ho,hc,n,hd⟩:=id p1;obtain⟨⟨KL,ot,data2,cU⟩,jb,ip,n2,hd2⟩:=id p2;simp only at hc hd ip hd2;subst hc hd ip hd2;exact concat_meets ⟨_,ho,rfl⟩ ⟨_,jb,rfl⟩ noFill_tuple_add seq_tuple_add abb aaZ (aaS _ _)
   (tuple_addW0 a b _ pL.toArray n n2 dd ot sl cU (by simp)) ⟨ho,jb,⟨.ref b,H,I,rfl,q.here hb⟩⟩
 ·refine RS π s σ H _ _ v u Q I rx ry ⟨a,b,xs,ys,rfl,rfl,ha,hb,hx,hz,λe=>?_,λ_ p hp=>q.new hp⟩
  subst e;rw[Ō] at q;exact q.here ha
end
end L2
namespace HZ
open PySem PySem.Spec PyProof.Rows
structure l6 (P:ù) (w:ď) (A:đ) (i l:á) (tn:Nat->ŏ->Prop) (val:Nat->Option Í):Prop where
 keep:∀k h h',tn k h->(∀o,h.get? i=some o->h'.get? i=some o)->(∀o,h.get? l=some o->h'.get? l=some o)->tn k h'
 item:∀k (s:É) (Q:Í->É->Prop) (E:Í->É->Prop) x,tn k s.heap->val k=some x->(∀h',tn (k+1) h'->ĸ i s.heap h'->Q x { s with heap:=h' })->à (ø P w) A (Đ (.ref i)) Q E s
 stop:∀k (s:É) (Q:Í->É->Prop) (E:Í->É->Prop),tn k s.heap->val k=none->(∀h' e,abj i s.heap h'->(∃o,h'.get? e=some o/\o.cls=.type "StopIteration")->E (.ref e) { s with heap:=h' })->à (ø P w) A (Đ (.ref i)) Q E s
 obj:∀k h,tn k h->∃o,h.get? i=some o/\∀v,o.data≠.cell v
section
variable {P:ù} {w:ď} {A:đ} {E:Í->É->Prop} {s:É}
def NS (g:s.heap.IsTupleIter it t k) (gt:s.heap.IsTuple t its) (gx:its[k]?=some x)
 (q:∀h',h'.IsTupleIter it t (k+1)->ĸ it s.heap h'->Q x { s with heap:=h' }):à (ø P w) A (Đ (.ref it)) Q E s:=by
 obtain⟨o,go,gc,gd⟩:=id g;obtain⟨ol,Dv,_,nl,Dw⟩:=gt;unfold Đ;refine À (Ĉ (name:=ì "__next__") g.typeIs ũ
  (Ą ũ g.typeIs F.entry_tuple_iterator_next ?_ (F.args_tuple_iterator_next_1 _)))
 show à _ _ (field (.ref it) 0 >>= _) _ _ _;refine À (Ĵ go gd (x:=.ref t) rfl ?_)
 show à _ _ (if (ν t==Value.none)=true then _ else _) _ _ _
 rw[æ (λz:(ν t==Value.none)=true=>Ë z)];show à _ _ (field (.ref it) 1 >>= _) _ _ _;refine À (Ĵ go gd (x:=.int k 0) rfl ?_);show à _ _ (abT (.ref t) >>= _) _ _ _;refine À (Ě Dv Dw ?_);simp only[õ,gx];refine À (Ś go gd (by simp) (Â ⟨x,rfl,Â (q _ ?_ (ĝ ..))⟩));exact⟨_,ă _ go (Ľ (Ď gd _)),(aam ..).trans gc,by rw[Ď gd];simp[Ŋ]⟩
def Mv (gh:A.handled=none) (g:s.heap.IsTupleIter it t k) (gt:s.heap.IsTuple t its) (gx:its[k]?=none)
 (q:∀h' e,abj it s.heap h'->(∃o,h'.get? e=some o/\o.cls=.type "StopIteration")->E (.ref e) { s with heap:=h' }):à (ø P w) A (Đ (.ref it)) Q E s:=by
 obtain⟨o,go,gc,gd⟩:=id g;obtain⟨ol,Dv,_,nl,Dw⟩:=gt;unfold Đ;refine À (Ĉ (name:=ì "__next__") g.typeIs ũ
  (Ą ũ g.typeIs F.entry_tuple_iterator_next ?_ (F.args_tuple_iterator_next_1 _)))
 show à _ _ (field (.ref it) 0 >>= _) _ _ _;refine À (Ĵ go gd (x:=.ref t) rfl ?_)
 show à _ _ (if (ν t==Value.none)=true then _ else _) _ _ _
 rw[æ (λz:(ν t==Value.none)=true=>Ë z)];show à _ _ (field (.ref it) 1 >>= _) _ _ _;refine À (Ĵ go gd (x:=.int k 0) rfl ?_);show à _ _ (abT (.ref t) >>= _) _ _ _;refine À (Ě Dv Dw ?_);simp only[õ,gx];refine À (Ŝ (À (Ś go gd (by simp) ?_)));show à _ _ (newExc (.type "StopIteration") [] >>= _) _ _ (_:É);refine À ?_;simp only[newExc,newTuple];refine À (ó ?_ (by size_fits))
 refine À (m:=aaE _ _) (š (a:=Value.none) (by first|rfl | (unfold aaE;rfl)) ?_)
 refine ó ?_ (by size_fits);simp only[raiseNew];refine À (wpAny_handled ?_)
 first|rw[gh]|rw[show A.in1.handled=none from gh]
 refine À (Â (wpAny_throw ?_));exact q _ _ (((ĝ ..).extBut.push _).push _) ⟨_,Ì _ rfl,rfl⟩
def qP (gh:A.handled=none) (i l:á) (its:Array Í):l6 P w A i l (λk h=>h.IsTupleIter i l k/\h.IsTuple l its) (λk=>its[k]?) where
 keep:=λk h h' st k1 k2=>⟨st.1.at k1,by obtain⟨o,e,r⟩:=st.2;exact⟨o,k2 o e,r⟩⟩
 item:=λk s Q E x st e q=>NS st.1 st.2 e λh' g sb=>by
  by_cases hl:l=i
  ·exfalso
   subst hl;obtain⟨o,e1,c1,_⟩:=st.1;obtain⟨o',e2,c2,_⟩:=st.2;rw[e1] at e2;cases e2;rw[c1] at c2;simp at c2
  ·obtain⟨o,e2,r⟩:=st.2
   exact q h' ⟨g,o,(sb.2 l hl).trans e2,r⟩ sb
 stop:=λk s Q E st e q=>Mv gh st.1 st.2 e q
 obj:=λk h st=>by
  obtain⟨o,e,_,d⟩:=st.1;exact⟨o,e,λv z=>by rw[d] at z;cases z⟩
def HQ (gh:A.handled=none) (i l:á) (its:Array Í):l6 P w A i l (λk h=>h.IsListIter i l k/\h.IsList l its) (λk=>its[k]?) where
 keep:=λk h h' st k1 k2=>⟨st.1.at k1,st.2.at k2⟩
 item:=λk s Q E x st e q=>wpAny_nextOf_list_item st.1 st.2 e λh' g sb=>by
  by_cases hl:l=i
  ·exfalso
   subst hl;obtain⟨o,e1,c1,_⟩:=st.1;obtain⟨o',e2,c2,_⟩:=st.2;rw[e1] at e2;cases e2;rw[c1] at c2;simp at c2
  ·exact q h' ⟨g,st.2.at λo e2=>(sb.2 l hl).trans e2⟩ sb
 stop:=λk s Q E st e q=>wpAny_nextOf_list_end gh st.1 st.2 e q
 obj:=λk h st=>by
  obtain⟨o,e,_,d⟩:=st.1;exact⟨o,e,λv z=>by rw[d] at z;cases z⟩
structure Apart (z ti to j1 j2 m1 m2:á):Prop where
 a1:ti≠z
 a2:to≠z
 a3:j1≠z
 a4:j2≠z
 a5:ti≠to
 a6:ti≠j1
 a7:ti≠j2
 a8:to≠j1
 a9:to≠j2
 b0:j1≠j2
 b1:m1≠z
 b2:m1≠to
 b3:m1≠j1
 b4:m1≠j2
 b5:m2≠z
 b6:m2≠to
 b7:m2≠j1
 b8:m2≠j2
def Ql {t1 t2:Nat->ŏ->Prop} {v1 v2:Nat->Option Í} {k:Nat} {Q:Í->É->Prop} (D:Apart z ti to j1 j2 m1 m2) (S1:l6 P w A j1 m1 t1 v1) (S2:l6 P w A j2 m2 t2 v2)
 (gz:IsZip s.heap z ti to .none) (gi:aag s.heap ti (.ref j1) (.ref j2)) (go:aag s.heap to a b) (h1:t1 k s.heap) (h2:t2 k s.heap) (hx:v1 k=some x) (hy:v2 k=some y)
 (q:∀h',IsZip h' z ti to (Ŋ s.heap.objs.size)->aag h' to x y->t1 (k+1) h'->t2 (k+1) h'->aag h' s.heap.objs.size x y->h'.objs.size=s.heap.objs.size+1 ->
 (∀c o,c≠z->c≠to->c≠j1->c≠j2->s.heap.get? c=some o->h'.get? c=some o)->Q (.ref s.heap.objs.size) { s with heap:=h' }) :
  à (ø P w) A (ň.«zip.__next__» ⟨[.ref z],[]⟩) (λfin s'=>∃v,fin=.done (.ret v)/\Q v s') E s:=by
 show à _ _ (field (.ref z) 2 >>= _) _ _ (_:É);refine À (Ĵ gz rfl (x:=.bool false) rfl ?_);show à _ _ (field (.ref z) 3 >>= _) _ _ (_:É);refine À (Ĵ gz rfl (x:=.ref ti) rfl ?_);refine À (Ě gi rfl ?_);show à _ _ (Ļ (.ref z) >>= _) _ _ (_:É);refine À ?_;unfold Ļ;refine À (Ĵ gz rfl (x:=.none) rfl (Â ?_));simp only[û];refine À (Ŝ ?_);refine À (Ĵ gz rfl (x:=.ref to) rfl ?_);refine À (ű gz (by simp) λp1 z1 s1=>?_)
 replace z1:IsZip p1 z ti to .ellipsis:=z1
 refine À ?_;simp only[List.zipIdx_cons,List.zipIdx_nil,List.forIn_cons,List.forIn_nil];refine À (À (wpAny_onRaise ?_));show à _ _ (Đ (.ref j1) >>= _) _ _ (_:É);refine À (S1.item k _ _ _ x (S1.keep k _ _ h1 (λo e=>s1.extBut _ _ D.a3 e) (λo e=>s1.extBut _ _ D.b1 e)) hx λp2 l7 s2=>Â ?_);have o2:aag p2 to a b:=s2.extBut _ _ D.a8 (s1.extBut _ _ D.a2 go);refine À (Ě o2 rfl ?_);refine À (wpAny_updateSeq_pair o2 λp3 o3 s3=>?_)
 replace o3:aag p3 to x b:=o3
 refine À (ŵ (Â ?_));refine À (À (wpAny_onRaise ?_));show à _ _ (Đ (.ref j2) >>= _) _ _ (_:É);refine À (S2.item k _ _ _ y (S2.keep k _ _ h2 (λo e=>s3.extBut _ _ D.a9.symm (s2.extBut _ _ D.b0.symm (s1.extBut _ _ D.a4 e))) (λo e=>s3.extBut _ _ D.b6 (s2.extBut _ _ D.b7 (s1.extBut _ _ D.b5 e)))) hy λp4 XY s4=>Â ?_);have o4:aag p4 to x b:=s4.extBut _ _ D.a9 o3;refine À (Ě o4 rfl ?_);refine À (wpAny_updateSeq_pair o4 λp5 o5 s5=>?_)
 replace o5:aag p5 to x y:=o5
 refine À (ŵ (Â (Â ?_)));refine À (Ě o5 rfl ?_);refine À (wpAny_newTuple ?_);have gs:p5.objs.size=s.heap.objs.size:=by rw[s5.1,s4.1,s3.1,s2.1,s1.1]
 have z5:IsZip p5 z ti to .ellipsis:=s5.extBut _ _ D.a2.symm (s4.extBut _ _ D.a4.symm (s3.extBut _ _ D.a2.symm (s2.extBut _ _ D.a3.symm z1)));have k5:∀c o,c≠z->c≠to->c≠j1->c≠j2->s.heap.get? c=some o->p5.get? c=some o:=λc o c1 c2 c3 c4 e=>s5.extBut _ _ c2 (s4.extBut _ _ c4 (s3.extBut _ _ c2 (s2.extBut _ _ c3 (s1.extBut _ _ c1 e))));have vj:t1 (k+1) p5:=S1.keep _ _ _ l7 (λo e=>s5.extBut _ _ D.a8.symm (s4.extBut _ _ D.b0 (s3.extBut _ _ D.a8.symm e))) (λo e=>s5.extBut _ _ D.b2 (s4.extBut _ _ D.b4 (s3.extBut _ _ D.b2 e)));have XZ:t2 (k+1) p5:=S2.keep _ _ _ XY (λo e=>s5.extBut _ _ D.a9.symm e) (λo e=>s5.extBut _ _ D.b6 e);have lz:z<p5.objs.size:=Î z5;show à _ _ (aaF (.ref z) (.ref p5.objs.size) >>= _) _ _ (_:É);refine À ?_;unfold aaF;have z6:IsZip (p5.push { cls:=.type "tuple",data:=.seq #[x,y] }) z ti to .ellipsis:=Á _ z5;refine À (ű z6 (by simp) λp7 z7 s7=>?_)
 replace z7:IsZip p7 z ti to (Ŋ p5.objs.size):=z7
 refine ű z7 (by simp) λp8 z8 s8=>?_
 replace z8:IsZip p8 z ti to (Ŋ p5.objs.size):=z8
 have up:∀c o,c≠z->p5.get? c=some o->p8.get? c=some o:=λc o c1 e=>s8.extBut _ _ c1 (s7.extBut _ _ c1 (Á _ e));have w8:aag p8 p5.objs.size x y:=s8.extBut _ _ (Ń lz) (s7.extBut _ _ (Ń lz) (Ì _ rfl));have n8:p8.objs.size=p5.objs.size+1:=by rw[s8.1,s7.1,ú]
 rw[gs] at z8 w8 n8;refine Â ⟨_,rfl,?_⟩;show Q (.ref p5.objs.size) _;rw[gs];exact q p8 z8 (up _ _ D.a2 o5) (S1.keep _ _ _ vj (λo e=>up _ o D.a3 e) (λo e=>up _ o D.b1 e)) (S2.keep _ _ _ XZ (λo e=>up _ o D.a4 e) (λo e=>up _ o D.b5 e)) w8 n8 λc o c1 c2 c3 c4 e=>up c o c1 (k5 c o c1 c2 c3 c4 e)
def RY (D:Apart z ti to j1 j2 m1 m2) (S1:l6 P w A j1 m1 t1 v1) (S2:l6 P w A j2 m2 t2 v2)
 (gz:IsZip s.heap z ti to .none) (gi:aag s.heap ti (.ref j1) (.ref j2)) (go:aag s.heap to a b) (h1:t1 k s.heap) (h2:t2 k s.heap) (CF:v1 k=none\/v2 k=none)
 (q:∀h' e,(∀c o,c≠z->c≠to->c≠j1->c≠j2->s.heap.get? c=some o->h'.get? c=some o)->(∃o,h'.get? e=some o/\o.cls=.type "StopIteration")->E (.ref e) { s with heap:=h' }) :
  à (ø P w) A (ň.«zip.__next__» ⟨[.ref z],[]⟩) Q E s:=by
 show à _ _ (field (.ref z) 2 >>= _) _ _ (_:É);refine À (Ĵ gz rfl (x:=.bool false) rfl ?_);show à _ _ (field (.ref z) 3 >>= _) _ _ (_:É);refine À (Ĵ gz rfl (x:=.ref ti) rfl ?_);refine À (Ě gi rfl ?_);show à _ _ (Ļ (.ref z) >>= _) _ _ (_:É);refine À ?_;unfold Ļ;refine À (Ĵ gz rfl (x:=.none) rfl (Â ?_));simp only[û];refine À (Ŝ ?_);refine À (Ĵ gz rfl (x:=.ref to) rfl ?_);refine À (ű gz (by simp) λp1 z1 s1=>?_)
 replace z1:IsZip p1 z ti to .ellipsis:=z1
 refine À ?_;simp only[List.zipIdx_cons,List.zipIdx_nil,List.forIn_cons,List.forIn_nil];refine À (À (wpAny_onRaise ?_));show à _ _ (Đ (.ref j1) >>= _) _ _ (_:É);have l8:t1 k p1:=S1.keep k _ _ h1 (λo e=>s1.extBut _ _ D.a3 e) (λo e=>s1.extBut _ _ D.b1 e)
 cases hx:v1 k with
 |none =>
  refine À (S1.stop k _ _ _ l8 hx λp2 e s2 he=>?_);obtain⟨oe,g1,g2⟩:=he;have z2:IsZip p2 z ti to .ellipsis:=s2 _ _ D.a3.symm z1;have ne:e≠z:=λu=>by subst u;rw[z2] at g1;cases g1;simp at g2
  refine ű z2 (by simp) λp3 _ s3=>q p3 e (λc o c1 _ c3 _ u=>s3.extBut _ _ c1 (s2 _ _ c3 (s1.extBut _ _ c1 u))) ⟨oe,s3.extBut _ _ ne g1,g2⟩
 |some x =>
  have hy:v2 k=none:=by
   rcases CF with h|h
   ·rw[hx] at h;cases h
   ·exact h
  refine À (S1.item k _ _ _ x l8 hx λp2 l7 s2=>Â ?_);have o2:aag p2 to a b:=s2.extBut _ _ D.a8 (s1.extBut _ _ D.a2 go);refine À (Ě o2 rfl ?_);refine À (wpAny_updateSeq_pair o2 λp3 o3 s3=>?_);refine À (ŵ (Â ?_));refine À (À (wpAny_onRaise ?_));show à _ _ (Đ (.ref j2) >>= _) _ _ (_:É);refine À (S2.stop k _ _ _ (S2.keep k _ _ h2 (λo e=>s3.extBut _ _ D.a9.symm (s2.extBut _ _ D.b0.symm (s1.extBut _ _ D.a4 e))) (λo e=>s3.extBut _ _ D.b6 (s2.extBut _ _ D.b7 (s1.extBut _ _ D.b5 e)))) hy λp4 e s4 he=>?_);obtain⟨oe,g1,g2⟩:=he;have z4:IsZip p4 z ti to .ellipsis:=s4 _ _ D.a4.symm (s3.extBut _ _ D.a2.symm (s2.extBut _ _ D.a3.symm z1));have ne:e≠z:=λu=>by subst u;rw[z4] at g1;cases g1;simp at g2
  refine ű z4 (by simp) λp5 _ s5=>q p5 e (λc o c1 c2 c3 c4 u=>s5.extBut _ _ c1 (s4 _ _ c4 (s3.extBut _ _ c2 (s2.extBut _ _ c3 (s1.extBut _ _ c1 u))))) ⟨oe,s5.extBut _ _ ne g1,g2⟩
def next_item (D:Apart z ti to j1 j2 m1 m2) (S1:l6 P w A.in1 j1 m1 t1 v1) (S2:l6 P w A.in1 j2 m2 t2 v2)
 (gz:IsZip s.heap z ti to .none) (gi:aag s.heap ti (.ref j1) (.ref j2)) (go:aag s.heap to a b) (h1:t1 k s.heap) (h2:t2 k s.heap) (hx:v1 k=some x) (hy:v2 k=some y)
 (q:∀h',IsZip h' z ti to (Ŋ s.heap.objs.size)->aag h' to x y->t1 (k+1) h'->t2 (k+1) h'->aag h' s.heap.objs.size x y->h'.objs.size=s.heap.objs.size+1 ->
 (∀c o,c≠z->c≠to->c≠j1->c≠j2->s.heap.get? c=some o->h'.get? c=some o)->Q (some (.ref s.heap.objs.size)) { s with heap:=h' }):à (ø P w) A (ť (.ref z)) Q E s:=by
 have hT:s.TypeIs (.ref z) "zip":=⟨_,gz,rfl⟩;unfold ť;exact À (ι (Ĉ (name:=ì "__next__") hT abU
  (Ą abU hT F.entry_zip_next (Ql D S1 S2 gz gi go h1 h2 hx hy λh' a1 a2 a3 a4 a5 a6 a7=>Â (q h' a1 a2 a3 a4 a5 a6 a7)) (F.args_zip_next_1 _))))
def next_end (D:Apart z ti to j1 j2 m1 m2) (S1:l6 P w A.in1 j1 m1 t1 v1) (S2:l6 P w A.in1 j2 m2 t2 v2)
 (gz:IsZip s.heap z ti to .none) (gi:aag s.heap ti (.ref j1) (.ref j2)) (go:aag s.heap to a b) (h1:t1 k s.heap) (h2:t2 k s.heap) (CF:v1 k=none\/v2 k=none)
 (q:∀h',(∀c o,c≠z->c≠to->c≠j1->c≠j2->s.heap.get? c=some o->h'.get? c=some o)->Q none { s with heap:=h' }):à (ø P w) A (ť (.ref z)) Q E s:=by
 have hT:s.TypeIs (.ref z) "zip":=⟨_,gz,rfl⟩;unfold ť;refine À (ι (Ĉ (name:=ì "__next__") hT abU
  (Ą abU hT F.entry_zip_next (RY D S1 S2 gz gi go h1 h2 CF λh' e hk he=>?_) (F.args_zip_next_1 _))))
 obtain⟨o,ho,hc⟩:=he;exact À (aaL (T:="StopIteration") (b:=true) ⟨o,ho,hc⟩ isSubtype_stop (Â (q _ hk)))
end
end HZ
namespace L2
open PySem PySem.Spec PyProof.Rows
def qX {X:Cx} {π:List (á×Obj)} {σ:St} {H:Hp} {s:É} {a b:á} {xs:List V} (I:Inv X π σ H s) (h:aT X.K H a xs) (f:cu X π H b):a≠b:=by
 rintro rfl;obtain⟨f0,_,_,f3,_⟩:=f
 rcases h with (h | ⟨o,h⟩) | ⟨o,its,n,hk,_⟩
 ·rw[f0] at h;cases h
 ·rw[f0] at h;cases h
 ·have hb:=I.mod.uR a o hk
  rcases f3 with z|z
  ·exact I.ok.lO a o hb z
  ·exact absurd (Ê (Î hb) (Û I.ok.i8 z)) (é _)
def Jd {X:Cx} {π:List (á×Obj)} {σ:St} {H:Hp} {s:É} {a b:á} {xs:List V} (I:Inv X π σ H s) (h:bu X.K H a xs) (f:cu X π H b):a≠b:=by
 rintro rfl;obtain⟨f0,_,_,f3,_⟩:=f
 rcases h with (h | ⟨o,h⟩) | ⟨o,its,n,hk,_⟩
 ·rw[f0] at h;cases h
 ·rw[f0] at h;cases h
 ·have hb:=I.mod.uR a o hk
  rcases f3 with z|z
  ·exact I.ok.lO a o hb z
  ·exact absurd (Ê (Î hb) (Û I.ok.i8 z)) (é _)
def Inv.zU {X:Cx} {π:List (á×Obj)} {σ:St} {H:Hp} {s:É} {h':ŏ} {t':Nat} {ch:List á} (I:Inv X π σ H s) (k:∀b o,b∉ch->s.heap.get? b=some o->h'.get? b=some o) (hf:∀b∈ch,cu X π H b) :
  Inv X π σ H { s with heap:=h',toks:=t' }:=by
 have Lr:∀b u,H b=some u->b∉ch:=λb u e z=>by rw[(hf b z).1] at e;cases e
 refine I.step (g':=s.gens) (d':=s.drawn) (ch:=ch) (λb hb=>?_) (λb o _ _ hc e _=>k b o hc e) (λb o _ _ hc e _=>⟨o.slots,k b o hc e⟩) (λ_ _ _ _ n=>n) (λb o hc e=>⟨o,k b o hc e⟩) (λ_ _ e=>e) (λ_ _ _ e=>e)
  (λb ps e=>⟨#[],by rw[e];simp⟩) (λm hm=>?_) (λb u e=>?_) I.bare
 ·obtain⟨_,f1,_,f3,f4,f5⟩:=hf b hb
  exact⟨f3,f1,f4,f5⟩
 ·obtain⟨o,es,ep,ho,r⟩:=hm
  exact⟨o,es,ep,k _ o (λz=>(hf _ z).2.1 rfl) ho,r⟩
 ·refine(I.aF b u e).ie (λc v hc q=>k c v ?_ q) (λ_ q=>q) λ_ _ q=>q
  rcases hc with z|z
  ·rw[z];exact Lr b u e
  ·exact Lr c _ z
def Inv.Gn {X:Cx} {π:List (á×Obj)} {σ:St} {H:Hp} {s:É} {h':ŏ} {t':Nat} {ch:List á} {p:á} {u:HO} (I:Inv X π σ H s) (k:∀b o,b∉ch->s.heap.get? b=some o->h'.get? b=some o) (hf:∀b∈ch,cu X π H b)
  (hp:s.heap.objs.size<=p) (new:cJ X.prog X.w (upd H p u) h' p u):Inv X π σ (upd H p u) { s with heap:=h',toks:=t' }:=by
 have hn:H p=none:=I.aF.fresh hp;have aF:cc X.prog X.w (upd H p u) h':=(I.zU (t':=t') k hf).aF.adopt hn new;refine I.step (g':=s.gens) (d':=s.drawn) (ch:=ch) (λb hb=>?_) (λb o _ _ hc e _=>k b o hc e) (λb o _ _ hc e _=>⟨o.slots,k b o hc e⟩) (λb o _ e n=>?_) (λb o hc e=>⟨o,k b o hc e⟩) (λc xs e=>by rw[bt (ff e hn)];exact e) (λc o v e=>by rw[bt (ff e hn)];exact e)
  (λc ps e=>⟨#[],by rw[bt (ff e hn),e];simp⟩) (λm hm=>?_) aF I.bare
 ·obtain⟨_,f1,_,f3,f4,f5⟩:=hf b hb
  exact⟨f3,f1,f4,f5⟩
 ·rw[bt (è (Ê (Î e) hp))]
  exact n
 ·obtain⟨o,es,ep,ho,r⟩:=hm
  exact⟨o,es,ep,k _ o (λz=>(hf _ z).2.1 rfl) ho,r⟩
def CG (K:Ĳ) (a b:á):It :=
 ⟨λi H=>∃xs ys x y,aT K H a xs/\aT K H b ys/\xs[i]?=some x/\ys[i]?=some y,λi H v H'=>∃p x y,H p=none/\v=.ref p/\H'=upd H p (.tup [x,y])/\∀xs ys,aT K H a xs->aT K H b ys->xs[i]?=some x/\ys[i]?=some y,
  λi H=>∃xs ys,aT K H a xs/\aT K H b ys/\(xs.length<=i\/ys.length<=i)⟩
structure JW (it:Nat->ŏ->Prop) (iI:Nat->ŏ->Prop) (z ti to j1 j2:á) (i:Nat) (h:ŏ):Prop where
 z:IsZip h z ti to .none
 ti:aag h ti (.ref j1) (.ref j2)
 to:∃u v,aag h to u v
 h1:it i h
 h2:iI i h
structure CH (z ti to j1 j2:á):Prop where
 a1:ti≠z
 a2:to≠z
 a3:j1≠z
 a4:j2≠z
 a5:ti≠to
 a6:ti≠j1
 a7:ti≠j2
 a8:to≠j1
 a9:to≠j2
 b0:j1≠j2
def OV {P:ù} {w:ď} {K:Ĳ} {elts:List ļ} {kk:Nat} {pos:Pos} (a b z ti to j1 j2:á) (F:CH z ti to j1 j2) :
  Turn P w K (.Tuple elts kk pos) (CG K a b) [z,ti,to,j1,j2] z (JW (λi h=>h.IsTupleIter j1 a i) (λi h=>h.IsTupleIter j2 b i) z ti to j1 j2) where
 mem:=by simp
 obj:=λi h st c hc=>by
  have i9:c=z\/c=ti\/c=to\/c=j1\/c=j2:=by simpa using hc
  rcases i9 with rfl|rfl|rfl|rfl|rfl
  ·exact⟨_,st.z,λv q=>nomatch q⟩
  ·exact⟨_,st.ti,λv q=>nomatch q⟩
  ·obtain⟨u,v,q⟩:=st.to;exact⟨_,q,λv q=>nomatch q⟩
  ·obtain⟨o,e,_,d⟩:=st.h1;exact⟨o,e,λv q=>by rw[d] at q;cases q⟩
  ·obtain⟨o,e,_,d⟩:=st.h2;exact⟨o,e,λv q=>by rw[d] at q;cases q⟩
 keep:=λi h h' st k=>⟨k z (by simp) _ st.z,k ti (by simp) _ st.ti,by obtain⟨u,v,q⟩:=st.to;exact⟨u,v,k to (by simp) _ q⟩,st.h1.at λo e=>k j1 (by simp) o e,st.h2.at λo e=>k j2 (by simp) o e⟩
 item:=by
  intro X hP hw hK hc i π s σ H E I hf st hg;subst hP hw hK;obtain⟨xs,ys,x,y,hx,hy,ex,ey⟩:=hg;obtain⟨i1,r1,p1,z1⟩:=I.tuple hx;obtain⟨i2,r2,p2,z2⟩:=I.tuple hy;obtain⟨u,eu,ru⟩:=r1.get ex;obtain⟨v,ev,rv⟩:=r2.get ey;have ne:∀c∈[z,ti,to,j1,j2],a≠c/\b≠c:=λc gX=>⟨qX I hx (hf c gX),qX I hy (hf c gX)⟩;have D:HZ.Apart z ti to j1 j2 a b:=⟨F.a1,F.a2,F.a3,F.a4,F.a5,F.a6,F.a7,F.a8,F.a9,F.b0,(ne z (by simp)).1,(ne to (by simp)).1,(ne j1 (by simp)).1,(ne j2 (by simp)).1,(ne z (by simp)).2,(ne to (by simp)).2,(ne j1 (by simp)).2,(ne j2 (by simp)).2⟩;obtain⟨w1,w2,mM⟩:=st.to;have hh:X.A.in1.handled=none:=I.ok.hd hc;refine HZ.next_item D (HZ.qP hh j1 a i1.toArray) (HZ.qP hh j2 b i2.toArray) st.z st.ti mM ⟨st.h1,p1⟩ ⟨st.h2,p2⟩ (by simpa using eu) (by simpa using ev) λh' c1 c2 c3 c4 c5 c6 c7=>⟨_,rfl,?_⟩;refine wpAny_letOwnedTupleGo_zip c1 λh2 d1 d2=>?_;have hn:H s.heap.objs.size=none:=I.aF.fresh (Nat.le_refl _);have Dx:z<s.heap.objs.size:=Î st.z;have pM:IsTup h2 s.heap.objs.size #[u,v]:=⟨_,d2.extBut _ _ (Ń Dx) c5,rfl,_,rfl⟩
  have I2:Inv X π σ (upd H s.heap.objs.size (.tup [x,y])) { s with heap:=h2,toks:=s.toks }:=I.Gn (ch:=[z,ti,to,j1,j2]) (λc o qf e=>by
   have q:c≠z/\c≠ti/\c≠to/\c≠j1/\c≠j2:=by simpa using qf
   exact d2.extBut c o q.1 (c7 c o q.1 q.2.2.1 q.2.2.2.1 q.2.2.2.2 e)) hf (Nat.le_refl _) ⟨by show 2<=Õ;decide,[u,v],.cons ru (.cons rv .nil),pM⟩
  refine⟨.ref s.heap.objs.size,_,I2,rfl,⟨_,x,y,hn,rfl,rfl,λX0 X1 q1 q2=>?_⟩,?_,λc gX=>?_⟩
  ·rw[I.wO q1 hx,I.wO q2 hy];exact⟨ex,ey⟩
  ·refine⟨d1,d2.extBut _ _ F.a1 (c7 _ _ F.a1 F.a5 F.a6 F.a7 st.ti),⟨_,_,d2.extBut _ _ F.a2 c2⟩,c3.1.extBut d2.extBut F.a3,c4.1.extBut d2.extBut F.a4⟩
  ·rw[bt]
   ·exact(hf c gX).1
   ·intro e
    obtain⟨o,eo⟩:∃o,s.heap.get? c=some o:=by
     have i9:c=z\/c=ti\/c=to\/c=j1\/c=j2:=by simpa using gX
     rcases i9 with q|q|q|q|q
     ·rw[q];exact⟨_,st.z⟩
     ·rw[q];exact⟨_,st.ti⟩
     ·rw[q];exact⟨_,mM⟩
     ·rw[q];obtain⟨o,e,_⟩:=st.h1;exact⟨o,e⟩
     ·rw[q];obtain⟨o,e,_⟩:=st.h2;exact⟨o,e⟩
    exact absurd (Î eo) (by rw[e];exact é _)
 done:=by
  intro X hP hw hK hc i π s σ H E I hf st hg;subst hP hw hK;obtain⟨xs,ys,hx,hy,hle⟩:=hg;obtain⟨i1,r1,p1,z1⟩:=I.tuple hx;obtain⟨i2,r2,p2,z2⟩:=I.tuple hy;have ne:∀c∈[z,ti,to,j1,j2],a≠c/\b≠c:=λc gX=>⟨qX I hx (hf c gX),qX I hy (hf c gX)⟩;have D:HZ.Apart z ti to j1 j2 a b:=⟨F.a1,F.a2,F.a3,F.a4,F.a5,F.a6,F.a7,F.a8,F.a9,F.b0,(ne z (by simp)).1,(ne to (by simp)).1,(ne j1 (by simp)).1,(ne j2 (by simp)).1,(ne z (by simp)).2,(ne to (by simp)).2,(ne j1 (by simp)).2,(ne j2 (by simp)).2⟩;obtain⟨w1,w2,mM⟩:=st.to;have hh:X.A.in1.handled=none:=I.ok.hd hc;have l1:=r1.length;have l2:=r2.length;refine HZ.next_end D (HZ.qP hh j1 a i1.toArray) (HZ.qP hh j2 b i2.toArray) st.z st.ti mM ⟨st.h1,p1⟩ ⟨st.h2,p2⟩ ?_ λh' c7=>⟨rfl,I.zU (t':=s.toks) (ch:=[z,ti,to,j1,j2]) (λc o qf e=>by
   have q:c≠z/\c≠ti/\c≠to/\c≠j1/\c≠j2:=by simpa using qf
   exact c7 c o q.1 q.2.2.1 q.2.2.2.1 q.2.2.2.2 e) hf⟩
  rcases hle with q|q
  ·left;simp;omega
  ·right;simp;omega
 self:=λA i s Q E st h=>abE st.z h
end L2
namespace HZ
open PySem PySem.Spec PyProof.Rows
noncomputable abbrev y1 (h:ŏ) (m1:á):ŏ:=h.push { cls:=.type "tuple_iterator",data:=.fields #[.ref m1,.int 0 0] }
abbrev y2 (h:ŏ) (m1 m2:á):ŏ:=(y1 h m1).push { cls:=.type "tuple_iterator",data:=.fields #[.ref m2,.int 0 0] }
abbrev y3 (h:ŏ) (m1 m2:á):ŏ:=(y2 h m1 m2).push { cls:=.type "tuple",data:=.seq #[.ref h.objs.size,.ref (y1 h m1).objs.size] }
abbrev y4 (h:ŏ) (m1 m2:á):ŏ:=(y3 h m1 m2).push { cls:=.type "tuple",data:=.seq #[.none,.none] }
abbrev y5 (h:ŏ) (m1 m2:á):ŏ:=(y4 h m1 m2).push { cls:=.type "zip",data:=.fields #[.none,.bool false,.bool false,.ref (y2 h m1 m2).objs.size,.ref (y3 h m1 m2).objs.size] }
def NT (m1 m2:á) (xs ys:Array Í) :
  Meets (ň.«zip.__new__» ⟨[.type "zip",.ref m1,.ref m2],[]⟩) (λ_ R s=>s.heap.IsTuple m1 xs/\s.heap.IsTuple m2 ys/\R (.ok (.ret (.ref (y4 s.heap m1 m2).objs.size))) { s with heap:=y5 s.heap m1 m2 }) :=
 .of_wp λprog w A R s h=>by
  obtain⟨hp,g,d,tk,os⟩:=s;obtain⟨h1,h2,h⟩:=h;have W9:=sub_zip;have L1:Heap.IsTuple (Shared.heap ⟨hp,g,d,tk,os⟩) m1 xs:=h1;have L2:Heap.IsTuple (Shared.heap ⟨hp.push { cls:=.type "tuple_iterator",data:=.fields #[.ref m1,.int 0 0] },g,d,tk,os⟩) m2 ys:=Heap.IsTuple.push h2 _
  wp_walk using ω L1,ω L2
  exact⟨_,rfl,h⟩
section
variable {P:ù} {w:ď} {A:đ} {E:Í->É->Prop} {s:É}
def MF (h1:s.heap.IsTuple m1 xs) (h2:s.heap.IsTuple m2 ys)
 (h:∀h',IsZip h' (s.heap.objs.size+4) (s.heap.objs.size+2) (s.heap.objs.size+3) .none->aag h' (s.heap.objs.size+2) (.ref s.heap.objs.size) (.ref (s.heap.objs.size+1)) ->
   aag h' (s.heap.objs.size+3) .none .none->h'.IsTupleIter s.heap.objs.size m1 0->h'.IsTupleIter (s.heap.objs.size+1) m2 0->h'.objs.size=s.heap.objs.size+5 ->
 (∀c o,s.heap.get? c=some o->h'.get? c=some o)->Q (.ref (s.heap.objs.size+4)) { s with heap:=h' }):à (ø P w) A (call (.type "zip") [.ref m1,.ref m2]) Q E s:=by
 refine callType_new F.called_zip (by decide) (F.typeCall_zip_2 _ _) (F.newCall_zip_2 _ _) (λobj=>F.args_object_init_3 obj _ _) F.entry_zip_new (NT m1 m2 xs ys) ⟨h1,h2,?_⟩;have e1:(y1 s.heap m1).objs.size=s.heap.objs.size+1:=ú ..;have e2:(y2 s.heap m1 m2).objs.size=s.heap.objs.size+2:=by rw[ú,e1]
 have e3:(y3 s.heap m1 m2).objs.size=s.heap.objs.size+3:=by rw[ú,e2]
 have e4:(y4 s.heap m1 m2).objs.size=s.heap.objs.size+4:=by rw[ú,e3]
 have e5:(y5 s.heap m1 m2).objs.size=s.heap.objs.size+5:=by rw[ú,e4]
 have g5:(y5 s.heap m1 m2).get? (y4 s.heap m1 m2).objs.size=some _:=Ì _ rfl;have g4:(y5 s.heap m1 m2).get? (y3 s.heap m1 m2).objs.size=some _:=Á _ (Ì _ rfl);have g3:(y5 s.heap m1 m2).get? (y2 s.heap m1 m2).objs.size=some _:=Á _ (Á _ (Ì _ rfl));have g2:(y5 s.heap m1 m2).get? (y1 s.heap m1).objs.size=some _:=Á _ (Á _ (Á _ (Ì _ rfl)));have g1:(y5 s.heap m1 m2).get? s.heap.objs.size=some _:=Á _ (Á _ (Á _ (Á _ (Ì _ rfl))));show _/\_;rw[e2,e3,e4] at g5;rw[e1,e2] at g3;rw[e3] at g4;rw[e1] at g2;rw[e4];exact⟨⟨_,g5,rfl⟩,h _ g5 g3 g4 ⟨_,g1,rfl,rfl⟩ ⟨_,g2,rfl,rfl⟩ e5 λc o q=>Á _ (Á _ (Á _ (Á _ (Á _ q))))⟩
end
end HZ
namespace L2
open PySem PySem.Spec PyProof.Rows
def G2 (n:Nat):CH (n+4) (n+2) (n+3) n (n+1):=by constructor<;>(show (_:Nat)≠_)<;>omega
section
variable {X:Cx} {elts:List ļ} {kk:Nat} {tp:Pos}
def VO (K:Ĳ) (ta:TA):TI:=fun σ H R=>ta σ H λvs H1=>∃a b xs ys,vs=[.ref a,.ref b]/\aT K H1 a xs/\aT K H1 b ys/\R (CG K a b) H1
def Gp:ą "zip"=some (.type "zip"):=by decide +kernel
def Je {π:List (á×Obj)} {σ:St} {H:Hp} {s:É} (I:Inv X π σ H s):∀b∈[s.heap.objs.size+4,s.heap.objs.size+2,s.heap.objs.size+3,s.heap.objs.size,s.heap.objs.size+1],cu X π H b:=λb hb=>by
 have gY:s.heap.objs.size<=b:=by
  have q:b=s.heap.objs.size+4\/b=s.heap.objs.size+2\/b=s.heap.objs.size+3\/b=s.heap.objs.size\/b=s.heap.objs.size+1:=by simpa using hb
  omega
 exact I.lQ gY (I.aF.fresh gY)
def RZ {a b:ļ} {ta:TA} {p pos:Pos} (hg:Gl X "zip") (hm:X.mg "zip"=none) (ha:PA X [a,b] ta) (hs:Þ [a,b] X.env=[(false,Ť a X.env),(false,Ť b X.env)]:=by rfl) (cf:Þ [b] X.env=[(false,Ť b X.env)]:=by rfl) :
  PI X (.Tuple elts kk tp) (.Call (.Name "zip" p) [a,b] [] pos) (VO X.K ta):=by
 intro π s σ H R I h;refine Call_ (lJ I hg hm Gp (Ĩ (aE (ha pos π s σ H _ I h) λus s1 ⟨vs,H1,I1,r1,q1⟩=>?_) (by rw[hs,cf]) (by rw[cf];rfl)));obtain⟨a,b,xs,ys,e,hx,hy,q⟩:=q1;subst e;obtain⟨u,v,rfl,ru,rv⟩:=vals2 r1;cases ru;cases rv;obtain⟨i1,_,p1,_⟩:=I1.tuple hx;obtain⟨i2,_,p2,_⟩:=I1.tuple hy;refine HZ.MF (xs:=i1.toArray) (ys:=i2.toArray) p1 p2 λh' c1 c2 c3 c4 c5 c6 c7=>?_
 refine abE (s:={ s1 with heap:=h' }) c1 ?_
 exact⟨_,[s1.heap.objs.size+4,s1.heap.objs.size+2,s1.heap.objs.size+3,s1.heap.objs.size,s1.heap.objs.size+1],_,_,H1,rfl,I1.kept (t':=s1.toks) c7,OV a b _ _ _ _ _ (G2 _),⟨c1,c2,⟨_,_,c3⟩,c4,c5⟩,Je I1,q⟩
end
end L2
namespace PySem
section
variable {P:ù} {w:ď} {A:đ} {E:Í->É->Prop} {s:É}
end
end PySem
namespace L2
open PySem PySem.Spec PyProof.Rows
def map_getD (ns:List Int):(ß ns.length).map (λi=>ns.getD i 0)=ns:=by
 apply Ż;intro i;rw[ç];by_cases h:i<ns.length
 ·rw[Ĕ h,Ð h]
  simp[ź,Ð h]
 ·rw[Ċ (by simpa using h),Ċ (by omega)]
  rfl
section
variable {X:Cx}
end
section
variable {κ:Type} [DecidableEq κ]
noncomputable def putK (ai:List (κ×V)) (k:κ) (v:V):List (κ×V) :=
 if (ai.any λkv=>decide (kv.1=k))=true then ai.map (λkv=>if kv.1=k then (kv.1,v) else kv) else ai++[(k,v)]
def Nl (ai:List (κ×V)) (k:κ) (v:V):(putK ai k v).length<=ai.length+1:=by
 unfold putK;split
 ·rw[Ä];omega
 ·rw[â,å,î];omega
def KV.any (r:KV ai vs) (k:κ):(ai.any λkv=>decide (kv.1=k))=vs.any λkv=>decide (kv.1=k):=by
 unfold KV at r
 induction r with
 |nil=>rfl
 |cons h t ih=>rw[List.any_cons,List.any_cons,ih,h.1]
def KV.Xa (r:KV ai vs) (k:κ) (ry:RelV y u) :
  KV (ai.map λkv=>if kv.1=k then (kv.1,y) else kv) (vs.map λkv=>if kv.1=k then (kv.1,u) else kv):=by
 unfold KV at r |-
 induction r with
 |nil=>exact .nil
 | @cons p q ps qs h t ih =>
  rw[Ö,Ö];refine .cons ?_ ih;obtain⟨h1,h2⟩:=h;by_cases e:p.1=k
  ·rw[Ú e,Ú (h1.symm.trans e)];exact⟨h1,ry⟩
  ·rw[æ e,æ (λz=>e (h1.trans z))];exact⟨h1,h2⟩
def KV.put (r:KV ai vs) (k:κ) (ry:RelV y u):KV (putK ai k y) (stored vs k u):=by
 unfold putK stored;rw[r.any k];by_cases e:(vs.any λkv=>decide (kv.1=k))=true
 ·rw[Ú e,Ú e];exact r.Xa k ry
 ·rw[æ e,æ e];exact Paired.snoc r ⟨rfl,ry⟩
end
def VP (r:RelV (kV k) u):(jK P w).is k u=true:=by
 cases k with
 |inl i=>obtain⟨t,e⟩:=(show ∃t,u=abO i t from r);subst e;exact Nh P w i t
 |inr x=>obtain⟨t,e⟩:=(show ∃t,u=Value.str x t from r);subst e;exact Ni P w x t
section
variable {P:ù} {w:ď} {H:Hp} {h:ŏ} {a:á}
def VQ (ok:cc P w H h) (e:Rd H a u):cJ P w H h a u:=e.ok ok
def VR (ok:cc P w H h) (e:Rd H a (.dK ai)):ai.length<=Õ/\(a==ł)=false/\∃vs,KV ai vs/\h.DictOf (jK P w) a vs :=
 show cJ P w H h a (.dK ai) from VQ ok e
def VS (ok:cc P w H h) (e:H a=some (.dK ai)):ai.length<=Õ/\(a==ł)=false/\∃vs,KV ai vs/\h.DictOf (jK P w) a vs:=VR ok (.inl e)
end
section
variable {X:Cx} {π:List (á×Obj)} {σ:St} {H:Hp} {s:É} {a:á} {y v:V} {u r:Í} {o:Option V} {A:đ} {E:Í->É->Prop}
def Inv.big (I:Inv X π σ H s):ł<s.heap.objs.size:=by
 have h:ò<s.heap.objs.size:=(I.mod.glob.keeps I.bk).lt;exact Nat.lt_trans (by decide) h
def HR (I:Inv X π σ H s) (mu:uQ (H a)) (hs:ĸ a s.heap h') (he:∃q,h'.get? a=some q) (new:cJ X.prog X.w (upd H a ob) h' a ob) :
  Inv X π σ (upd H a ob) { s with heap:=h',toks:=t' } :=
 I.write (x:=a) (e:=a) mu (.inl rfl) (λb q hb z=>(hs.2 b hb).trans z) he new
def Uk (z:ai.length<=Õ) (hd:(a==ł)=false) (rel:KV ai vs) (dd:h'.DictOf (jK P w) a vs) :
  cJ P w H' h' a (.dK ai):=⟨z,hd,vs,rel,dd⟩
end
section
variable {X:Cx} {π:List (á×Obj)} {σ:St} {H:Hp} {s:É} {a:á} {ai:List (Key×V)} {k:Key} {u:Í} {A:đ} {E:Í->É->Prop}
end
section
variable {X:Cx} {o i e value:ļ} {pos pos' uE:Pos} {td ty tv:TE}
end
def G3 (h:ŏ) (hb:ł<h.objs.size):cJ P w H (h.push { cls:=.type "dict",data:=.dict #[] }) h.objs.size (.dK []) :=
 ⟨Ę _,beq_eq_false_iff_ne.mpr (Ň (è hb)),[],.nil,Heap.DictOf.new h⟩
def Ul:TE:=λ_ H Q=>∀p,H p=none->Q (.ref p) (upd H p (.dK []))
section
variable {X:Cx} {pos:Pos}
def Qm:PE X (.Dict [] [] pos) Ul:=λπ s σ H Q I h =>
 wpAny_Dict_empty ⟨.ref s.heap.objs.size,_,I.laid (a:=s.heap.objs.size) (o:=.dK []) (t':=s.toks) (λ_ _ q=>Á _ q) (Nat.le_refl _) (G3 s.heap I.big),rfl,h _ (I.aF.fresh (Nat.le_refl _))⟩
end
def Ba:List (TE×TE)->St->Hp->(List (V×V)->Hp->Prop)->Prop
 | [],_,H,Q=>Q [] H
 |(tk,tv)::r,σ,H,Q=>tk σ H λx H1=>tv σ H1 λy H2=>Ba r σ H2 λps H3=>Q ((x,y)::ps) H3
abbrev VV:List (V×V)->List (Í×Í)->Prop:=Paired λp q=>RelV p.1 q.1/\RelV p.2 q.2
def yR (X:Cx) (pos:Pos) (keys:List (Option ļ)) (values:List ļ) (qg:List (TE×TE)):Prop :=
 ∀(π:List (á×Obj)) (s:É) (σ:St) (H:Hp) (Q:List (V×V)->Hp->Prop),Inv X π σ H s->Ba qg σ H Q ->
  à (ø X.prog X.w) X.A (evalPairs (pairTrees keys values X.env pos)) (λvs s'=>∃ps H',Inv X π σ H' s'/\VV ps vs/\Q ps H') X.xe s
def R1:yR X pos [] [] []:=λπ s σ H Q I h=>pairTrees_nil_walk ⟨[],H,I,.nil,h⟩
def Qn (hk:PE X k tk) (hv:PE X v tv) (hr:yR X pos ks vs qg) :
  yR X pos (some k::ks) (v::vs) ((tk,tv)::qg):=λπ s σ H Q I h =>
 pairTrees_cons_walk (aE (hk π s σ H _ I h) λu s1 ⟨x,H1,I1,rx,q1⟩=>aE (hv π s1 σ H1 _ I1 q1) λw2 s2 ⟨y,H2,I2,ry,q2⟩ =>
  aE (hr π s2 σ H2 _ I2 q2) λws s3 ⟨ps,H3,I3,rel,q3⟩=>⟨(x,y)::ps,H3,I3,.cons ⟨rx,ry⟩ rel,q3⟩)
def qY (ai more:List (Key×V)):List (Key×V):=more.foldl (λacc kv=>putK acc kv.1 kv.2) ai
def KV.merge:∀{more:List (Key×V)} {rs:List (Key×Í)} {ai:List (Key×V)} {vs:List (Key×Í)},KV more rs->KV ai vs->KV (qY ai more) (merged vs rs):=by
 intro more rs ai vs r;unfold KV at r
 induction r generalizing ai vs with
 |nil=>intro q;exact q
 | @cons p q ps qs h t ih =>
  intro r0;have e:KV (putK ai p.1 p.2) (stored vs q.1 q.2):=by
   have:=r0.put p.1 h.2;rw[<- h.1];exact this
  exact ih e
def Fs:∀(more ai:List (Key×V)),(qY ai more).length<=ai.length+more.length
 | [],ai=>by show ai.length<=ai.length+0;omega
 |p::r,ai=>by
  have h1:=Fs r (putK ai p.1 p.2);have h2:=Nl ai p.1 p.2;show (qY (putK ai p.1 p.2) r).length<=_;rw[å];omega
def F1:∀{ai:List (Key×V)} {ws:List (Í×Í)},VV (ai.map λkv=>(kV kv.1,kv.2)) ws->∃rs,Carries (jK P w) ws rs/\KV ai rs
 | [],_,r=>by rw[İ] at r;cases r;exact⟨[],True.intro,.nil⟩
 |p::ai,_,r=>by
  rw[Ö] at r
  cases r with
  | @cons a b as bs h t =>
   obtain⟨rs,c,q⟩:=F1 (P:=P) (w:=w) t;obtain⟨b1,b2⟩:=b;exact⟨(p.1,b2)::rs,⟨VP h.1,rfl,c⟩,.cons ⟨rfl,h.2⟩ q⟩
def VT (qg:List (TE×TE)):TE:=fun σ H Q=>∀p,H p=none->Ba qg σ (upd H p (.dK [])) λps H2=>H2 p=some (.dK [])/\∃ai:List (Key×V),ps=ai.map (λkv=>(kV kv.1,kv.2))/\ai.length<=15/\Q (.ref p) (upd H2 p (.dK (qY [] ai)))
def R3 (h:yR X pos keys values qg) (cx:keys.all (·.isSome)=true) (hl:keys.length=values.length) (h0:keys≠[])
 (vj:keys.length<=15):PE X (.Dict keys values pos) (VT qg):=by
 intro π s σ H Q I q;have hn:=I.aF.fresh (Nat.le_refl s.heap.objs.size);have I1:=I.laid (a:=s.heap.objs.size) (o:=.dK []) (h':=s.heap.push { cls:=.type "dict",data:=.dict #[] }) (t':=s.toks) (λ_ _ q=>Á _ q) (Nat.le_refl _) (G3 s.heap I.big);refine wpAny_Dict_walk (knd:=jK X.prog X.w) cx hl h0 vj (aE (h π _ σ _ _ I1 (q _ hn)) λws s2 ⟨ps,H2,I2,rel,e,ai,ep,lk,q2⟩=>?_);subst ep;obtain⟨rs,c,rk⟩:=F1 (P:=X.prog) (w:=X.w) rel;obtain⟨z,hd,vs0,r0,dd⟩:=VS I2.aF e;cases r0;refine⟨rs,c,dd,λh' Ls hs=>⟨.ref s.heap.objs.size,_,?_,rfl,q2⟩⟩;have hz:(qY [] ai).length<=Õ:=by
  have h1:=Fs ai [];rw[î] at h1;rw[η];omega
 have he:∃q,h'.get? s.heap.objs.size=some q:=let ⟨q,_,_,hq,_⟩:=Ls;⟨q,hq⟩
 exact HR I2 (by rw[e];exact True.intro) hs he (Uk hz hd (rk.merge .nil) Ls)
structure M1 (X:Cx) (o:ļ) (m:Str) (apos:Pos) (e:ļ) (eQ:Pos):Prop where
 base:attributeBase o m X.env (Ť o X.env)=Ť o X.env
 kS:((aab eQ (Þ [e] X.env)).all (λx=>!x.1)&&(backToKw eQ (abR [] X.env)).all (λx=>x.1.isSome)
  && decide (([e]:List ļ).length+([]:List acd).length+(if ([]:List acd).isEmpty then 0 else 1)<30))=true
 line:(apos.endLine==eQ.line)=true
 trees:aab eQ (Þ [e] X.env)=[(false,Ť e X.env)]
structure M2 (X:Cx) (o:ļ) (m:Str) (apos:Pos) (e f:ļ) (eQ:Pos):Prop where
 base:attributeBase o m X.env (Ť o X.env)=Ť o X.env
 kS:((aab eQ (Þ [e,f] X.env)).all (λx=>!x.1)&&(backToKw eQ (abR [] X.env)).all (λx=>x.1.isSome)
  && decide (([e,f]:List ļ).length+([]:List acd).length+(if ([]:List acd).isEmpty then 0 else 1)<30))=true
 line:(apos.endLine==eQ.line)=true
 trees:aab eQ (Þ [e,f] X.env)=[(false,Ť e X.env),(false,Ť f X.env)]
section
variable {X:Cx} {π:List (á×Obj)} {σ:St} {H:Hp} {s:É} {a:á} {y d:V} {u r:Í} {o:Option V} {A:đ} {E:Í->É->Prop}
end
section
variable {X:Cx} {o e f:ļ} {apos eQ:Pos} {td ty tx:TE}
end
section
variable {X:Cx} {π:List (á×Obj)} {σ:St} {H:Hp} {s:É} {a:á} {ai:List (Key×V)} {A:đ} {E:Í->É->Prop}
end
section
variable {X:Cx} {π:List (á×Obj)} {σ:St} {H:Hp} {s:É} {a:á} {y:V} {u:Í} {A:đ} {E:Í->É->Prop}
end
section
variable {K:Ĳ} {caps:St} {H:Hp} {tf:TT} {te:TE} {Q:VK}
end
noncomputable def Jf (sc:abf) (on:List (Str×aal)) (oN N:List Str) (nt:Nat) (cap:List Nat):Bool :=
 decide (sc.kind=.function)&&sc.names.all (λx=>decide (x.2≠.cell))&&sc.names.all (λx=>decide (x.2=.local->sc.names.lookup x.1=some .local)) &&
 sc.names.all (λx=>decide (x.2=.free->sc.names.lookup x.1=some .free/\(on.lookup x.1=some .cell\/on.lookup x.1=some .free)))&&decide (N.length=nt+cap.length) &&
 (ß cap.length).all (λk=>match cap[k]? with
  |some j=>match oN[j]? with
   |some x=>decide (N[nt+k]?=some x)&&decide ((x,ā)∈sc.names)
   |none=>false
  |none=>true)
def BK (h:Jf sc X.env.scope.names X.N N nt cap=true):oX X sc N nt cap:=by
 unfold Jf at h;simp only[Ç,ý,È] at h;obtain⟨⟨⟨⟨⟨h1,h2⟩,h3⟩,h4⟩,h5⟩,h6⟩:=h;refine⟨h1,h2,h3,λx hx e=>h4 x hx e,h5,λk j e=>?_⟩;have hk:k<cap.length:=(Å.mp e).1;have:=h6 k (Ā.mpr hk);rw[e] at this;dsimp only at this
 cases ex:X.N[j]? with
 |none=>rw[ex] at this;cases this
 |some x =>
  rw[ex] at this;simp only[Ç,È] at this;exact⟨x,rfl,this.1,this.2⟩
end L2
namespace TS
open PySem
abbrev kH (l:List Nat):Prop:=l.Pairwise (· < ·)
def Qo (xs:Array Nat) (k d:Nat):xs.getD k d=xs.toList.getD k d:=by
 cases xs with
 |mk l =>
  by_cases h:k<l.length
  ·simp[aca,ź,h]
  ·simp[aca,ź,h]
def xi (h:kH l) (vm:a<b) (hb:b<l.length):l.getD a 0<l.getD b 0:=by
 have:=List.pairwise_iff_getElem.mp h a b (by omega) hb vm;simpa [ź,Ð hb,Ð (show a<l.length by omega)] using this
def Qp (l:List Nat) (hk:k<l.length) (d e:Nat):l.getD k d=l.getD k e:=by
 simp[ź,Ð hk]
def AI (xs:Array Nat) (j:Nat) (hr:kH xs.toList):∀(fuel lo hi:Nat),hi-lo<=fuel->lo<=hi->hi<=xs.toList.length->(∀k,k<lo->xs.toList.getD k 0<j)->(∀k,hi<=k->k<xs.toList.length->j<=xs.toList.getD k 0) ->
  abk xs j fuel lo hi<=xs.toList.length/\(∀k,k<abk xs j fuel lo hi->xs.toList.getD k 0<j)/\(∀k,abk xs j fuel lo hi<=k->k<xs.toList.length->j<=xs.toList.getD k 0)
 |0,lo,hi,hf,hl,hh,h1,h2=>by
  have e:lo=hi:=by omega
  subst e;exact⟨hh,h1,h2⟩
 |fuel+1,lo,hi,hf,hl,hh,h1,h2=>by
  unfold abk;by_cases bE:lo<hi
  ·rw[Ú bE]
   dsimp only;have hm:(lo+hi) / 2<xs.toList.length:=by omega
   rw[Qo,Qp _ hm j 0];by_cases hc:xs.toList.getD ((lo+hi) / 2) 0<j
   ·rw[Ú hc]
    refine AI xs j hr fuel _ _ (by omega) (by omega) hh (λk hk=>?_) h2;by_cases gA:k=(lo+hi) / 2
    ·rw[gA];exact hc
    ·exact Nat.lt_trans (xi hr (by omega) hm) hc
   ·rw[æ hc]
    refine AI xs j hr fuel _ _ (by omega) (by omega) (by omega) h1 (λk hk gA=>?_);by_cases ox:k=(lo+hi) / 2
    ·rw[ox];omega
    ·have:=xi hr (show (lo+hi) / 2<k by omega) gA
     omega
  ·rw[æ bE]
   have e:lo=hi:=by omega
   subst e;exact⟨hh,h1,h2⟩
def F2 (xs:Array Nat) (j:Nat) (hr:kH xs.toList):ě xs j<=xs.toList.length/\(∀k,k<ě xs j->xs.toList.getD k 0<j)/\(∀k,ě xs j<=k->k<xs.toList.length->j<=xs.toList.getD k 0):=by
 unfold ě;exact AI xs j hr xs.size 0 xs.size (by omega) (Ę _) (by simp) (λk hk=>by omega) (λk hk gA=>by simp at gA;omega)
def Nm {l:List Nat} {p j:Nat} (h:∀k,k<p->l.getD k 0<j):∀x∈l.take p,x<j:=by
 intro x hx;obtain⟨k,hk,e⟩:=aaQ hx;have eD:k<p/\k<l.length:=by rw[ő] at hk;omega
 have:=h k eD.1;rw[List.getElem_take] at e;rw[<- e];simpa [ź,Ð eD.2] using this
def Nn {l:List Nat} {p j:Nat} (h:∀k,p<=k->k<l.length->j<=l.getD k 0):∀x∈l.drop p,j<=x:=by
 intro x hx;obtain⟨k,hk,e⟩:=aaQ hx;have eD:p+k<l.length:=by rw[ξ] at hk;omega
 have:=h (p+k) (by omega) eD;rw[List.getElem_drop] at e;rw[<- e];simpa [ź,Ð eD] using this
def Qq {xs:Array Nat} {j:Nat} (hr:kH xs.toList) (hn:xs[ě xs j]?≠some j):kH (SetTable.insertAt xs (ě xs j) j).toList:=by
 obtain⟨h0,h1,h2⟩:=F2 xs j hr;rw[SetTable.toList_insertAt];have a1:=Nm h1;have a2:∀x∈xs.toList.drop (ě xs j),j<x:=by
  intro x hx;have yS:=Nn h2;have hd:kH (xs.toList.drop (ě xs j)):=abz (List.drop_sublist _ _) hr
  cases hc:xs.toList.drop (ě xs j) with
  |nil=>rw[hc] at hx;cases hx
  |cons y r =>
   rw[hc] at hd hx yS;have hy:j≠y:=by
    intro e;apply hn;have:(xs.toList.drop (ě xs j))[0]?=some y:=by rw[hc];rfl
    rw[List.getElem?_drop] at this;have e2:xs.toList[ě xs j]?=some y:=by simpa using this
    rw[<- ĵ,e2,e]
   have Lu:j<y:=Nat.lt_of_le_of_ne (yS y Ò) hy
   rcases Ó.mp hx with e|hx
   ·rw[e];exact Lu
   ·exact Nat.lt_trans Lu ((Ă.mp hd).1 x hx)
 first
  |(refine aay.mpr ⟨abz (List.take_sublist _ _) hr,Ă.mpr ⟨a2,abz (List.drop_sublist _ _) hr⟩,λx hx y hy=>?_⟩
    rcases Ó.mp hy with e|hy
    ·rw[e];exact a1 x hx
    ·exact Nat.lt_trans (a1 x hx) (a2 y hy))
  |trace_state
def AJ (t:SetTable) (h:Int):∀(fuel:Nat) (p:SetTable.Probe) (j:Nat) (dm:Option Nat),(∀d,p.dummy=some d->t.slot d=.dummy)->acb t (λ_=>h+1) h fuel p=some (.empty j dm)->t.slot j=.empty/\∀d,dm=some d->t.slot d=.dummy
 |0,p,j,dm,hp,e=>by simp[acb] at e
 |fuel+1,p,j,dm,hp,e=>by
  unfold acb at e
  cases hs:t.slot p.j with
  |empty =>
   rw[hs] at e;simp at e;rw[<- e.1,<- e.2];exact⟨hs,hp⟩
  |dummy =>
   rw[hs] at e;refine AJ t h fuel _ j dm (λd hd=>?_) e;unfold SetTable.advance at hd;split at hd
   ·simp at hd;rw[<- hd];exact hs
   ·simp at hd;rw[<- hd];exact hs
  |live i =>
   rw[hs] at e;have fF:(h+1==h)=false:=by simp;omega
   simp only[fF,Ã,ê] at e;refine AJ t h fuel _ j dm (λd hd=>?_) e;unfold SetTable.advance at hd;split at hd
   ·exact hp d hd
   ·exact hp d hd
def Gq {t:SetTable} {j:Nat} (h:t.slot j=.empty\/t.slot j=.dummy):t.place[ě t.place j]?≠some j:=by
 intro e;have:t.slot j=.live (ě t.place j):=by
  unfold SetTable.slot;simp[e]
 rw[this] at h
 rcases h with h|h<;>cases h
def OW {t:SetTable} {h:Int} {j:Nat} {b:Bool} (e:t.freeSlot h=some (j,b)):t.place[ě t.place j]?≠some j:=by
 unfold SetTable.freeSlot SetTable.probe at e;split at e
 ·rename_i j' dm hg
  have k:=AJ t h _ _ j' dm (λd hd=>by simp[SetTable.probeStart] at hd) hg;simp at e;rw[<- e.1]
  cases dm with
  |none=>exact Gq (.inl k.1)
  |some d=>exact Gq (.inr (k.2 d rfl))
 ·cases e
structure iW (led:Bool) (t:SetTable):Prop where
 led:t.led=led
 rise:t.plain=true->kH t.place.toList
def wF (h:iW led t) (n:Nat):iW led (t.standIn n):=⟨h.led,λz=>by simp[SetTable.standIn] at z⟩
def NU {led:Bool} {t:SetTable} (h:iW led t) (es:Array (Int×Í)) (hs:Int) (x:Í):iW led (layNew t es hs x).2.1:=by
 unfold layNew;split
 ·rename_i slot wd e
  dsimp only;unfold SetTable.orStandIn;have hp:iW led (t.put slot).1:=⟨h.led,λz=>Qq (h.rise z) (OW e)⟩;split
  ·exact hp
  ·exact wF hp _
 ·exact wF h _
def Qr {mask finger moves:Nat} {led plain:Bool} {hs:Array Int} {o:Array Nat} (e:SetTable.laid mask finger moves led plain hs=some (t,o)):iW led t/\t.plain=plain:=by
 unfold SetTable.laid at e
 cases hl:SetTable.layClean mask hs with
 |none=>rw[hl] at e;simp at e
 |some owner =>
  rw[hl] at e;simp at e;obtain⟨e1,e2⟩:=e;subst e1;refine⟨⟨rfl,λ_=>?_⟩,rfl⟩;show kH (abA _).toList;simp only[List.map_filterMap];refine List.pairwise_filterMap.mpr ?_;refine List.Pairwise.imp (R:=(· < ·)) ?_ (List.pairwise_lt_range);intro a b vm x hx y hy
  cases ha:(owner[a]?.getD none) with
  |none=>rw[ha] at hx;simp at hx
  |some q =>
   cases hb:(owner[b]?.getD none) with
   |none=>rw[hb] at hy;simp at hy
   |some r =>
    rw[ha] at hx;rw[hb] at hy;simp at hx hy;omega
def OX (h:iW led t) (es:Array (Int×Í)) (n:Nat):iW led (relayAll t es n).2.1:=by
 unfold relayAll;split
 ·rename_i t' o e
  dsimp only;split
  ·unfold SetTable.relaid at e
   have k:=Qr e;exact⟨k.1.led.trans h.led,k.1.rise⟩
  ·exact wF h _
 ·exact wF h _
def OY (led:Bool):iW led (.fresh 0 0 led):=⟨rfl,λ_=>List.Pairwise.nil⟩
open PySem.Spec PyProof.Rows
section
variable {P:ù} {w:ď} {A:đ} {E:Í->É->Prop} {s:É} {led:Bool}
def gL (P:ù) (w:ď) (led:Bool) (h:ŏ) (a:á) (S:Int->Bool) (n:Nat):Prop :=
 ∃o es ep t,h.get? a=some o/\o.ExactSet/\o.data=.set es ep t/\ElemsOf (ŧ P w) es.toList/\(∀k,S k=true↔∃e∈es.toList,(ŧ P w).is k e.2=true)/\es.size<aaG/\t.fits es.size=true/\es.size=n/\iW led t
def gL.at (x:gL P w led h a S n) (k:∀o,h.get? a=some o->h'.get? a=some o):gL P w led h' a S n:=by
 obtain⟨o,es,ep,t,ho,r⟩:=x;exact⟨o,es,ep,t,k o ho,r⟩
def gL.congr (x:gL P w led h a S n) (e:∀k,S k=S' k) (en:n=n'):gL P w led h a S' n':=by
 obtain rfl:S=S':=funext e;subst en;exact x
def AK {a:á} {u:Obj} {es gu:Array (Int×Í)} {ep:Nat} {t t':SetTable} {h:ŏ} (hu:h.get? a=some u) (hx:u.ExactSet) (hd:u.data=.set es ep t) {S:Int->Bool}
  (c1:ElemsOf (ŧ P w) gu.toList) (c2:∀k,S k=true↔∃e∈gu.toList,(ŧ P w).is k e.2=true) (c3:gu.size<aaG) (c4:t'.fits gu.size=true) (c5:iW led t') :
  (h.update a (Obj.putSet gu t')).get? a=some { u with data:=.set gu (ep+1) t' }/\gL P w led (h.update a (Obj.putSet gu t')) a S gu.size:=by
 have g:=(SetOf_store (knd:=ŧ P w) hu hx hd c1 c2 c3 c4).1;exact⟨g,_,gu,ep+1,t',g,hx,rfl,c1,c2,c3,c4,rfl,c5⟩
def R4 {a:á} {S:Int->Bool} {n:Nat} {k:Int} {tk:Tok} {Q:Bool->É->Prop} (hS:gL P w led s.heap a S n) (VU:n+1<aaG)
  (h:∀h',ĸ a s.heap h'->gL P w led h' a (λj=>S j||decide (j=k)) (if S k then n else n+1)->Q (!S k) { s with heap:=h' }) :
  à (ø P w) A (setAddHashed a (.int k tk) ((ŧ P w).hash k)) Q E s:=by
 obtain⟨u,es,ep,t,hu,hx,hd,c1,c2,c3,c4,hn,c5⟩:=hS;have ky:(ŧ P w).is k (.int k tk)=true:=intKind_is _ _ _ _;have sc:(abO k tk).scannable=true:=rfl;have Dy:es.size+1<aaG:=by rw[hn];exact VU
 unfold setAddHashed setAddHashedIn;refine ė ?_;refine À (ż hu hd c4 ?_);dsimp only;rw[byScan_of sc c3 c1,Ú rfl];unfold setAddByScan;refine À (À (Ŝ ?_));refine À (wpAny_setScan_of ky hu hd c4 c1 ?_)
 cases Lv:es.toList.findIdx? (λe=>(ŧ P w).is k e.2) with
 |some j =>
  dsimp only;obtain⟨hj,pj,_⟩:=List.findIdx?_eq_some_iff_getElem.mp Lv;have Sk:S k=true:=(c2 k).mpr ⟨es.toList[j],aaK hj,pj⟩;have q:=h s.heap (Heap.SameBut.refl a s.heap) ⟨u,es,ep,t,hu,hx,hd,c1,λj'=>by
   rw[Ž,È,<- c2 j'];exact⟨λz=>z.elim id λe=>by rw[e];exact Sk,Ŧ⟩,c3,c4,by rw[Sk];exact hn,c5⟩
  rw[Sk] at q;exact Â (Â q)
 |none =>
  dsimp only;have Sk:S k=false:=by
   rw[<- aaM,c2 k];rintro ⟨e,he,pe⟩;have z:=List.findIdx?_eq_none_iff.mp Lv e he;rw[pe] at z;cases z
  have way:∀(b:Bool) {s1:É} {Q1:Unit->É->Prop},Q1 () s1->à (ø P w) A (match b with|true=>rule "set.scan.the-table-gave-way"|false=>pure ()) Q1 E s1 :=
   λb s1 Q1 q=>by cases b<;>first|exact Â q|exact Ŝ q
  have pm:=layNew_perm t es ((ŧ P w).hash k) (.int k tk);have ft:=layNew_fits t es ((ŧ P w).hash k) (.int k tk);have tb:=NU c5 es ((ŧ P w).hash k) (.int k tk);generalize layNew t es ((ŧ P w).hash k) (.int k tk)=L at pm ft tb |-;obtain⟨gB,t1,aan,aar⟩:=L;dsimp only at pm ft tb |-;rw[abl] at pm;have d1:ElemsOf (ŧ P w) gB.toList:=(c1.push ky sc).perm pm;have d2:∀j,(S j||decide (j=k))=true↔∃e∈gB.toList,(ŧ P w).is j e.2=true:=mem_push_iff ky c2 pm;have z1:gB.size=n+1:=by
   have l:=pm.length_eq;rw[â,þ,þ,hn] at l;exact l
  have d3:gB.size<aaG:=by omega
  refine À (way _ ?_);obtain⟨g1,T1⟩:=AK (S:=λj=>S j||decide (j=k)) hu hx hd d1 d2 d3 ft tb;have yT:=ĝ s.heap a (Obj.putSet gB t1)
  have fin:∀h',ĸ a s.heap h'->gL P w led h' a (λj=>S j||decide (j=k)) gB.size->Q true { s with heap:=h' }:=λh' sb T=>by
   have q:=h h' sb;rw[Sk] at q;rw[z1] at T;exact q T
  have j6:=relayAll_perm t1 gB (abu gB.size);have jC:=relayAll_fits t1 gB (abu gB.size);have sv:=OX tb gB (abu gB.size);have hv:hashByValue 8 (abO k tk)=pure true:=rfl;split
  ·refine À ?_
   rw[hv];refine Â ?_;simp only[û];refine À (abm hu hd ?_ (aau d3));split
   ·generalize relayAll t1 gB (abu gB.size)=L2 at j6 jC sv |-
    obtain⟨vn,t2,VW⟩:=L2;dsimp only at j6 jC sv |-;have z2:vn.size=gB.size:=by
     have l:=j6.length_eq;rwa [þ,þ] at l
    have f2:∀j,(S j||decide (j=k))=true↔∃e∈vn.toList,(ŧ P w).is j e.2=true:=λj=>(d2 j).trans ⟨λ⟨e,he,q⟩=>⟨e,j6.mem_iff.mpr he,q⟩,λ⟨e,he,q⟩=>⟨e,j6.mem_iff.mp he,q⟩⟩;refine À (way _ ?_);refine À (abm g1 rfl ?_ (aau (by rw[z2];exact d3)));obtain⟨g2,T2⟩:=AK (S:=λj=>S j||decide (j=k)) (led:=led) g1 hx rfl (d1.perm j6) f2 (by rw[z2];exact d3) jC sv;rw[z2] at T2;exact Â (Â (fin _ (yT.trans (ĝ _ a _)) T2))
   ·exact Â (Â (fin _ yT T1))
  ·refine À (Â ?_)
   simp only[û];refine À (abm hu hd ?_ (aau d3));split
   ·generalize relayAll t1 gB (abu gB.size)=L2 at j6 jC sv |-
    obtain⟨vn,t2,VW⟩:=L2;dsimp only at j6 jC sv |-;have z2:vn.size=gB.size:=by
     have l:=j6.length_eq;rwa [þ,þ] at l
    have f2:∀j,(S j||decide (j=k))=true↔∃e∈vn.toList,(ŧ P w).is j e.2=true:=λj=>(d2 j).trans ⟨λ⟨e,he,q⟩=>⟨e,j6.mem_iff.mpr he,q⟩,λ⟨e,he,q⟩=>⟨e,j6.mem_iff.mp he,q⟩⟩;refine À (way _ ?_);refine À (abm g1 rfl ?_ (aau (by rw[z2];exact d3)));obtain⟨g2,T2⟩:=AK (S:=λj=>S j||decide (j=k)) (led:=led) g1 hx rfl (d1.perm j6) f2 (by rw[z2];exact d3) jC sv;rw[z2] at T2;exact Â (Â (fin _ (yT.trans (ĝ _ a _)) T2))
   ·exact Â (Â (fin _ yT T1))
end
def Mw:entryFor table "set.__iter__"=some ň.«frozenset.__iter__»:=entryFor_alias (id':="frozenset.__iter__") (by kernel_rfl) rfl (by decide +kernel) (by kernel_rfl)
def kg:Slot "set_iterator" "__next__" "set_iterator.__next__" :=
 .of (owner:="set_iterator") (n:="__next__") (by rw[typeLookup_type,abB];kernel_rfl) (by decide +kernel) (by decide +kernel) (by decide +kernel)
  (by first|exact .inl (by decide +kernel)|exact .inr (by decide +kernel)) (by rw[isSubtype_type];kernel_rfl)
def wk:entryFor table "set_iterator.__next__"=some ň.«set_iterator.__next__»:=entryFor_of_tree (by kernel_rfl)
def wy (a:Í):argsOk "set_iterator.__next__" ⟨[a],[]⟩:=by unfold argsOk;kernel_rfl
def Fz:Slot "set_iterator" "__iter__" "set_iterator.__iter__" :=
 .of (owner:="set_iterator") (n:="__iter__") (by rw[typeLookup_type,abB];kernel_rfl) (by decide +kernel) (by decide +kernel) (by decide +kernel)
  (by first|exact .inl (by decide +kernel)|exact .inr (by decide +kernel)) (by rw[isSubtype_type];kernel_rfl)
def jt (h:ŏ) (I a:á) (first:Í) (i n ep:Nat):Prop:=∃o,h.get? I=some o/\o.cls=.type "set_iterator"/\o.data=.fields #[first,.int i 0,.ref a,.int n 0,.int ep 0]
section
variable {P:ù} {w:ď} {A:đ} {E:Í->É->Prop} {s:É}
def HS {slot i n ep nx:Nat} {es:Array (Int×Í)} {Q:Option Í->É->Prop} (hit:jt s.heap I a (.int slot 0) i n ep)
 (hu:s.heap.get? a=some u) (hd:u.data=.set es ep t) (hf:t.fits es.size=true) (hn:es.size=n)
 (hs:∀(A':đ) (Q':Option (Í×Nat)->É->Prop) (E':Í->É->Prop),Q' (some (x,nx)) s->à (ø P w) A' (setNext a slot i ep) Q' E' s)
 (hQ:∀h',jt h' I a (.int nx 0) (i+1) n ep->ĸ I s.heap h'->Q (some x) { s with heap:=h' }):à (ø P w) A (ť (.ref I)) Q E s:=by
 obtain⟨o,ho,hc,fe⟩:=id hit;have hT:s.TypeIs (.ref I) "set_iterator":=⟨o,ho,hc⟩;unfold ť;refine À (ι (Ĉ (name:=ì "__next__") hT kg
  (Ą kg hT wk ?_ (wy _))))
 unfold ň.«set_iterator.__next__» slotArgs;simp only[aaN,ë,Ã,↓reduceIte,bind_assoc,î,ġ];refine À (Â ?_);refine À (aaH ho fe ?_);dsimp only;refine À (μ hu hd hf ?_);rw[hn];simp only[ġ,Ã,↓reduceIte,õ];refine À (hs _ _ _ ?_);dsimp only;refine À (Ś ho fe (by simp) ?_);refine À (Ś (ă _ ho (Ľ (Ď fe _))) (Ď fe _) (by simp) ?_);refine Â ⟨x,rfl,Â (hQ _ ⟨_,ă _ (ă _ ho (Ľ (Ď fe _))) (Ľ (Ď (Ď fe _) _)),(aam ..).trans ((aam ..).trans hc),?_⟩ ((ĝ ..).trans (ĝ ..)))⟩;rw[Ď (Ď fe _)];simp[Ŋ]
def NV (hm:m≠0) (h:Q (w.draws src (s.drawn.get src) % m) { s with drawn:=s.drawn.bump src }):à (ø P w) A (choose src m) Q E s:=fun Γ p hΓ=>by
 unfold choose;rw[Sem.wp_choose];exact⟨hm,h⟩
def Gr (hh:A.handled=none) (ho:s.heap.get? I=some o) (fe:o.data=.fields vs) (h2:2<vs.size)
 (hQ:∀h',abj I s.heap h'->Q none { s with heap:=h' }) :
  à (ø P w) A.in1 (setField (.ref I) 2 .none >>= λ_=>newExc (.type "StopIteration") [] >>= λe=>(raiseNew e:Sem Fin)) (λfin s'=>∃v,fin=Fin.done (Flow.ret v)/\à (ø P w) A (pure (some v)) Q E s')
   (λe s'=>à (ø P w) A (isInstance e (ŷ "StopIteration") >>= λb=>if b=true then pure none else throw e) Q E s') s:=by
 refine À (Ś ho fe h2 ?_);refine À ?_;simp only[newExc,newTuple];refine À (ó ?_ (by size_fits))
 refine À (m:=aaE _ _) (š (a:=Value.none) (by first|rfl | (simp only[aaE];rfl)) ?_)
 refine ó ?_ (by size_fits);simp only[raiseNew];refine À (wpAny_handled ?_)
 first|rw[show A.in1.handled=none from hh]|rw[hh]
 refine À (Â (wpAny_throw ?_));refine À (aaL (T:="StopIteration") (b:=true) ⟨_,Ì _ rfl,rfl⟩ isSubtype_stop ?_);exact Â (hQ _ (((ĝ ..).extBut.push _).push _))
def Jg {slot i n ep:Nat} {es:Array (Int×Í)} {Q:Option Í->É->Prop} (hh:A.handled=none) (hit:jt s.heap I a (.int slot 0) i n ep)
 (hu:s.heap.get? a=some u) (hd:u.data=.set es ep t) (hf:t.fits es.size=true) (hn:es.size=n)
 (hs:∀(A':đ) (Q':Option (Í×Nat)->É->Prop) (E':Í->É->Prop),Q' none s->à (ø P w) A' (setNext a slot i ep) Q' E' s)
 (hQ:∀h',abj I s.heap h'->Q none { s with heap:=h' }):à (ø P w) A (ť (.ref I)) Q E s:=by
 obtain⟨o,ho,hc,fe⟩:=id hit;have hT:s.TypeIs (.ref I) "set_iterator":=⟨o,ho,hc⟩;unfold ť;refine À (ι (Ĉ (name:=ì "__next__") hT kg
  (Ą kg hT wk ?_ (wy _))))
 unfold ň.«set_iterator.__next__» slotArgs;simp only[aaN,ë,Ã,↓reduceIte,bind_assoc,î,ġ];refine À (Â ?_);refine À (aaH ho fe ?_);dsimp only;refine À (μ hu hd hf ?_);rw[hn];simp only[ġ,Ã,↓reduceIte,õ];refine À (hs _ _ _ ?_);dsimp only;exact Gr hh ho fe (by simp) hQ
def Qs {i n ep pl:Nat} {es:Array (Int×Í)} {x:Int×Í} {Q:Option Í->É->Prop} (hit:jt s.heap I a (.ref tp) i n ep)
 (hu:s.heap.get? a=some u) (hd:u.data=.set es ep t) (hf:t.fits es.size=true) (hn:es.size=n) (Dz:s.heap.IsTuple tp places) (cP:places[i]?=some (.int pl tk)) (hx:es[pl]?=some x)
 (hQ:∀h',jt h' I a (.ref tp) (i+1) n ep->ĸ I s.heap h'->Q (some x.2) { s with heap:=h' }):à (ø P w) A (ť (.ref I)) Q E s:=by
 obtain⟨o,ho,hc,fe⟩:=id hit;obtain⟨op,DA,X2,np,vi⟩:=Dz;have hT:s.TypeIs (.ref I) "set_iterator":=⟨o,ho,hc⟩;unfold ť;refine À (ι (Ĉ (name:=ì "__next__") hT kg
  (Ą kg hT wk ?_ (wy _))))
 unfold ň.«set_iterator.__next__» slotArgs;simp only[aaN,ë,Ã,↓reduceIte,bind_assoc,î,ġ];refine À (Â ?_);refine À (aaH ho fe ?_);dsimp only;refine À (μ hu hd hf ?_);rw[hn];simp only[ġ,Ã,↓reduceIte,õ];refine À (Ě DA vi ?_);dsimp only;rw[cP];dsimp only;unfold setNextDrawn;refine À (À (ż hu hd hf ?_));dsimp only;simp only[ġ,Ã,↓reduceIte,õ];rw[hx];dsimp only;refine Â ?_;refine À (Ś ho fe (by simp) ?_);refine Â ⟨x.2,rfl,Â (hQ _ ⟨_,ă _ ho (Ľ (Ď fe _)),(aam ..).trans hc,?_⟩ (ĝ ..))⟩;rw[Ď fe];simp[Ŋ]
def R5 (hh:A.handled=none) (hit:jt s.heap I a (.ref tp) i n ep)
 (hu:s.heap.get? a=some u) (hd:u.data=.set es ep t) (hf:t.fits es.size=true) (hn:es.size=n) (Dz:s.heap.IsTuple tp places) (cP:places[i]?=none)
 (hQ:∀h',abj I s.heap h'->Q none { s with heap:=h' }):à (ø P w) A (ť (.ref I)) Q E s:=by
 obtain⟨o,ho,hc,fe⟩:=id hit;obtain⟨op,DA,X2,np,vi⟩:=Dz;have hT:s.TypeIs (.ref I) "set_iterator":=⟨o,ho,hc⟩;unfold ť;refine À (ι (Ĉ (name:=ì "__next__") hT kg
  (Ą kg hT wk ?_ (wy _))))
 unfold ň.«set_iterator.__next__» slotArgs;simp only[aaN,ë,Ã,↓reduceIte,bind_assoc,î,ġ];refine À (Â ?_);refine À (aaH ho fe ?_);dsimp only;refine À (μ hu hd hf ?_);rw[hn];simp only[ġ,Ã,↓reduceIte,õ];refine À (Ě DA vi ?_);dsimp only;rw[cP];dsimp only;refine À (Ś ho fe (by simp) ?_)
 exact Gr (s:={ s with heap:=_ }) hh (ă _ ho (Ľ (Ď fe _))) (Ď fe _) (by simp) λh' e=>hQ h' (Heap.ExtBut.trans (ĝ ..).extBut e)
end
def MG:entryFor table "set_iterator.__iter__"=some ň.«dict_keyiterator.__iter__»:=entryFor_alias (id':="dict_keyiterator.__iter__") (by kernel_rfl) rfl (by decide +kernel) (by kernel_rfl)
def MW (a:Í):argsOk "set_iterator.__iter__" ⟨[a],[]⟩:=by unfold argsOk;kernel_rfl
section
variable {P:ù} {w:ď} {A:đ} {E:Í->É->Prop} {s:É}
def AL (hit:jt s.heap I a f i n ep) (h:Q (.ref I) s):à (ø P w) A (pyIter (.ref I)) Q E s:=by
 obtain⟨o,ho,hc,fe⟩:=id hit;have hT:s.TypeIs (.ref I) "set_iterator":=⟨o,ho,hc⟩;refine wpAny_pyIter_slot hT Fz (Ą Fz hT MG ?_ (MW _));show à _ _ (ret (.ref I)) _ _ s;exact Â ⟨_,rfl,"set_iterator",_,hT,kg.lookup,h⟩
def jt.at (x:jt h I a f i n ep) (k:∀o,h.get? I=some o->h'.get? I=some o):jt h' I a f i n ep:=by
 obtain⟨o,ho,r⟩:=x;exact⟨o,k o ho,r⟩
def Gs (iJ:w.params.followText "set-order"=true) (hu:s.heap.get? a=some u) (hd:u.data=.set es ep t) (hf:t.fits es.size=true)
 (h:Q' (((ς (w.params.setOrder a ep) es)[i]?).map λe=>(e.2,slot)) s):à (ø P w) A (setNext a slot i ep) Q' E s:=by
 unfold setNext;refine À (ż hu hd hf ?_);dsimp only;unfold setsByText;refine À (À (Ŭ (Â ?_)))
 show à _ _ (if w.params.followText "set-order"=true then _ else _) _ _ _
 rw[Ú iJ];simp only[ġ,Ã,↓reduceIte];unfold setWalk;refine À (À (ż hu hd hf ?_));dsimp only;unfold setsByText;refine À (À (Ŭ (Â ?_)))
 show à _ _ (if w.params.followText "set-order"=true then _ else _) _ _ _
 rw[Ú iJ];refine À (Ŭ (Â ?_));exact Â h
def qJ (hr:kH xs.toList) (hi:i<=xs.toList.length) (h1:∀k,k<i->xs.toList.getD k 0<slot) (h2:∀k,i<=k->k<xs.toList.length->slot<=xs.toList.getD k 0):ě xs slot=i:=by
 obtain⟨a0,a1,a2⟩:=F2 xs slot hr;by_cases bE:ě xs slot<i
 ·have b1:=a2 _ (Nat.le_refl _) (by omega)
  have b2:=h1 _ bE;omega
 ·by_cases X3:i<ě xs slot
  ·have b1:=a1 i X3
   have b2:=h2 i (Nat.le_refl _) (by omega);omega
  ·omega
def F3 (iJ:w.params.followText "set-order"=false) (hu:s.heap.get? a=some u) (hd:u.data=.set es ep t) (hf:t.fits es.size=true)
 (hl:t.led=true) (hp:t.plain=true\/es.size<=1) (hb:ě t.place slot=i)
 (h:Q' (match es[i]?,t.place[i]? with|some (_,x),some j=>some (x,j+1) | _,_=>none) s):à (ø P w) A (setNext a slot i ep) Q' E s:=by
 unfold setNext;refine À (ż hu hd hf ?_);dsimp only;unfold setsByText;refine À (À (Ŭ (Â ?_)))
 show à _ _ (if w.params.followText "set-order"=true then _ else _) _ _ _
 rw[æ (by rw[iJ];decide)];split
 ·rename_i X4
  have CI:(!t.plain&&decide (es.size > 1))=true:=X4
  rcases hp with hp|hp
  ·rw[hp] at CI;cases CI
  ·simp at CI;omega
 ·refine À ?_
  show à _ _ (if (!t.led&&!es.isEmpty)=true then _ else _) _ _ _
  rw[hl];simp only[ë,aaA,Ã,↓reduceIte];refine Â ?_;rw[hb];exact Â h
def zM (sb:ĸ I s.heap h'):Moved [I] (λa b=>b=a) s { s with heap:=h' }:=⟨λb o hb e=>by rw[sb.2 b (λz=>hb (by simp[z]))];exact e,rfl,rfl,rfl,Nat.le_refl _⟩
def zV (sb:abj I s.heap h'):Moved [I] (λa b=>b=a) s { s with heap:=h' }:=⟨λb o hb e=>sb b o (λz=>hb (by simp[z])) e,rfl,rfl,rfl,Nat.le_refl _⟩
end
def NW (hh:A.handled=none) (fF:a≠I) (iJ:w.params.followText "set-order"=true) (hd:u.data=.set es ep t) (hf:t.fits es.size=true) (hsz:(ς (w.params.setOrder a ep) es).size=es.size) :
  WalksS P w A I [I,a] [I] (λa b=>b=a) es.size (λi v=>((ς (w.params.setOrder a ep) es).map (·.2))[i]?=some v) (λi s=>jt s.heap I a (.int 0 0) i es.size ep/\s.heap.get? a=some u) where
 sub:=λb hb=>by simp at hb;simp[hb]
 grefl:=λ_=>rfl
 gtrans:=λ_ _ _ h1 h2=>h2.trans h1
 frame:=λi s h' tk st _ hk=>⟨st.1.at λo e=>hk I (by simp) o e,hk a (by simp) _ st.2⟩
 item:=λi s Q E hi st hQ=>by
  have hx:i<(ς (w.params.setOrder a ep) es).size:=by rw[hsz];exact hi
  have ex:(ς (w.params.setOrder a ep) es)[i]?=some (ς (w.params.setOrder a ep) es)[i]:=by simp[hx]
  refine HS (nx:=0) (x:=(ς (w.params.setOrder a ep) es)[i].2) (slot:=0) st.1 st.2 hd hf rfl (λA' Q' E' q=>Gs iJ st.2 hd hf (by rw[ex];exact q)) λh' it sb=>?_;exact hQ _ _ (by simp[ex]) ⟨it,by rw[sb.2 a fF];exact st.2⟩ (zM sb)
 done:=λs Q E st hQ=>by
  refine Jg (slot:=0) hh st.1 st.2 hd hf rfl (λA' Q' E' q=>Gs iJ st.2 hd hf (by
   rw[show (ς (w.params.setOrder a ep) es)[es.size]?=none by simp[hsz]];exact q)) λh' sb=>hQ _ (zV sb)
 self:=λi s Q E st hQ=>AL st.1 hQ
def Np (hh:A.handled=none) (fF:a≠I) (iJ:w.params.followText "set-order"=false) (hd:u.data=.set es ep t) (hf:t.fits es.size=true) (hl:t.led=true) (hp:t.plain=true\/es.size<=1) (hr:kH t.place.toList) :
  WalksS P w A I [I,a] [I] (λa b=>b=a) es.size (λi v=>(es.map (·.2))[i]?=some v) (λi s=>∃slot:Nat,jt s.heap I a (.int slot 0) i es.size ep/\s.heap.get? a=some u/\i<=es.size/\(∀k,k<i->t.place.toList.getD k 0<slot)/\∀k,i<=k->k<t.place.toList.length->slot<=t.place.toList.getD k 0) where
 sub:=λb hb=>by simp at hb;simp[hb]
 grefl:=λ_=>rfl
 gtrans:=λ_ _ _ h1 h2=>h2.trans h1
 frame:=λi s h' tk st _ hk=>by
  obtain⟨slot,x1,x2,x3⟩:=st;exact⟨slot,x1.at λo e=>hk I (by simp) o e,hk a (by simp) _ x2,x3⟩
 item:=λi s Q E hi st hQ=>by
  obtain⟨slot,x1,x2,x3,x4,x5⟩:=st;have cP:t.place.toList.length=es.size:=by
   simp only[SetTable.fits,Ç,beq_iff_eq,È] at hf;simpa using hf.1
  have sx:i<t.place.toList.length:=by omega
  have e1:es[i]?=some es[i]:=by simp[hi]
  have e2:t.place[i]?=some (t.place.toList.getD i 0):=by
   rw[<- ĵ,Ð sx];simp[ź,Ð sx]
  refine HS (nx:=t.place.toList.getD i 0+1) (x:=es[i].2) (slot:=slot) x1 x2 hd hf rfl (λA' Q' E' q=>F3 iJ x2 hd hf hl hp (qJ hr (by omega) x4 x5) (by rw[e1,e2];exact q)) λh' it sb=>?_;refine hQ _ _ (by simp[e1]) ⟨_,it,by rw[sb.2 a fF];exact x2,hi,λk hk=>?_,λk hk gA=>?_⟩ (zM sb)
  ·by_cases X5:k=i
   ·rw[X5];omega
   ·have:=xi hr (show k<i by omega) sx
    omega
  ·have:=xi hr (show i<k by omega) gA
   omega
 done:=λs Q E st hQ=>by
  obtain⟨slot,x1,x2,x3,x4,x5⟩:=st;have cP:t.place.toList.length=es.size:=by
   simp only[SetTable.fits,Ç,beq_iff_eq,È] at hf;simpa using hf.1
  refine Jg (slot:=slot) hh x1 x2 hd hf rfl (λA' Q' E' q=>F3 iJ x2 hd hf hl hp (qJ hr (by omega) x4 x5) (by
   rw[show es[es.size]?=none by simp];exact q)) λh' sb=>hQ _ (zV sb)
 self:=λi s Q E st hQ=>by
  obtain⟨slot,x1,_⟩:=st;exact AL x1 hQ
def Nq (hh:A.handled=none) (fF:a≠I) (X6:tp≠I) (hd:u.data=.set es ep t) (hf:t.fits es.size=true) (pl:List Nat) (cP:pl.length=es.size) (jD:∀x∈pl,x<es.size) :
  WalksS P w A I [I,a,tp] [I] (λa b=>b=a) es.size (λi v=>(pl.map λk=>(es.getD k (0,Value.none)).2)[i]?=some v) (λi s=>jt s.heap I a (.ref tp) i es.size ep/\s.heap.get? a=some u/\s.heap.IsTuple tp (pl.map λ(k:Nat)=>Ŋ k).toArray) where
 sub:=λb hb=>by simp at hb;simp[hb]
 grefl:=λ_=>rfl
 gtrans:=λ_ _ _ h1 h2=>h2.trans h1
 frame:=λi s h' tk st _ hk=>⟨st.1.at λo e=>hk I (by simp) o e,hk a (by simp) _ st.2.1,let ⟨o,ho,r⟩:=st.2.2;⟨o,hk tp (by simp) o ho,r⟩⟩
 item:=λi s Q E hi st hQ=>by
  have sx:i<pl.length:=by omega
  have e1:pl[i]?=some pl[i]:=Ð sx;have hk:=jD _ (aaK sx);refine Qs (pl:=pl[i]) (x:=es.getD pl[i] (0,Value.none)) (tk:=0) st.1 st.2.1 hd hf rfl st.2.2 (by simp[e1,Ŋ]) (by simp[hk,aca]) λh' it sb=>?_
  refine hQ _ _ (by simp[e1]) ⟨it,by rw[sb.2 a fF];exact st.2.1,let ⟨o,ho,r⟩:=st.2.2;⟨o,by rw[sb.2 tp X6];exact ho,r⟩⟩ (zM sb)
 done:=λs Q E st hQ=>R5 hh st.1 st.2.1 hd hf rfl st.2.2 (by simp[cP]) λh' sb=>hQ _ (zV sb)
 self:=λi s Q E st hQ=>AL st.1 hQ
noncomputable def fE (w:ď):Bool:=!(w.params.followText "set-order")
section
variable {P:ù} {w:ď} {A:đ} {E:Í->É->Prop} {s:É}
def Qt (a:Í)
 (hq:Q₁ (.ref s.heap.objs.size) { s with heap:=s.heap.push { cls:=.type "set",dict:=none,data:=.set #[] 0 (.fresh 0 0 (fE w)) } }) :
  aaO (ø P w) A (.call (.builtin "set.__new__") ⟨[.type "set",a],[]⟩) (wants Q₁ E) s:=by
 refine abV ?_;show à _ A.in1 (checkBuiltinCall "set.__new__" ⟨[.type "set",a],[]⟩ >>= λ_=>again (.builtin "set.__new__" ⟨[.type "set",a],[]⟩)) _ _ s;refine À ?_;refine š (F.newCall_set_1 a) ?_;refine Â ⟨Ł F.plain_set_new _,ī F.entry_set_new ?_⟩;rw[Ė F.plain_set_new _];unfold ň.«set.__new__» Builtin.Frozenset.newClass;have ss:=sub_set_self;obtain⟨h1,h2,h3,h4,h5⟩:=s;dsimp only
 wp_walk
 refine Ŭ (Â ?_);dsimp only;simp only[newObj];refine À (wpAny_alloc ?_);exact Â (Â hq)
end
section
variable {P:ù} {w:ď} {A:đ} {R:Result->É->Prop} {I:á} {fp wr:List á} {G:Array GenState->Array GenState->Prop} {n:Nat} {Pv:Nat->Í->Prop} {St:Nat->É->Prop} {led:Bool}
def Qu (val:Nat->Int) {i n:Nat} (h:i<=n):(ŗ val i).length<=(ŗ val n).length:=by
 induction h with
 |refl=>exact Nat.le_refl _
 |step _ ih =>
  refine Û ih ?_;rw[firstMet_succ,step_length]
  split<;>omega
def Qv (W:WalksS P w A.in1 I fp wr G n Pv St) (S:á) (vo:S∉fp)
  (val:Nat->Int) (Xb:∀i v,Pv i v->∃t,v=.int (val i) t) (hb:(ŗ val n).length+1<aaG) :
  ∀(k i:Nat) (s:É),n-i=k->i<=n->St i s ->
   gL P w led s.heap S (λj=>(ŗ val i).any (·==j)) (ŗ val i).length ->
   (∀s',Moved (S::wr) G s s'->gL P w led s'.heap S (λj=>(ŗ val n).any (·==j)) (ŗ val n).length->R (.ok (.ret .none)) s') ->
   aaO (ø P w) A (.builtin "set.update.loop" ⟨[.ref S,.ref I],[]⟩) R s:=by
 have nw:S∉wr:=λz=>vo (W.sub _ z);have sw:∀b∈wr,b∈S::wr:=λb z=>Ñ _ z;intro k
 induction k with
 |zero =>
  intro i s hk hi st T hR;obtain rfl:i=n:=by omega
  refine ī F.entry_set_update_loop ?_;rw[Ė aa1 _];show à _ A.in1 (ť (.ref I) >>= _) _ _ s;refine À (W.done s _ _ st λs' m=>?_);show à _ A.in1 (ret Value.none) _ _ s';exact Â (hR s' (m.mono sw) (T.at λo e=>m.heap S o nw e))
 |succ k ih =>
  intro i s hk hi st T hR;have lt:i<n:=by omega
  refine ī F.entry_set_update_loop ?_;rw[Ė aa1 _];show à _ A.in1 (ť (.ref I) >>= _) _ _ s;refine À (W.item i s _ _ lt st λv s' pv dD m=>?_);obtain⟨t,rfl⟩:=Xb i v pv;have T':=T.at (h':=s'.heap) λo e=>m.heap S o nw e;show à _ A.in1 (aac [abO (val i) t] (setAdd S (.int (val i) t)) >>= _) _ _ s';refine À (ė ?_);unfold setAdd;refine ė ?_;refine À ((ŧ P w).pyHash (k:=val i) (intKind_is _ _ _ _) ?_);have room:(ŗ val i).length+1<aaG:=by have:=Qu val hi;omega
  refine R4 (s:={ s' with toks:=s'.toks+1 }) T' room λh' sb T2=>?_
  have T3:gL P w led h' S (λj=>(ŗ val (i+1)).any (·==j)) (ŗ val (i+1)).length:=T2.congr (λj=>by rw[firstMet_succ,step_any]) (by rw[firstMet_succ,step_length]);refine Â ⟨Ł aa1 _,ih (i+1) _ (by omega) lt (W.frame _ s' _ _ dD (Ŷ _) λb gY o e=>?_) T3 λu7 X7 X8=>?_⟩
  ·rw[sb.2 b λz:b=S=>vo (z ▸ gY)];exact e
  ·refine hR u7 (Moved.trans W.gtrans ((m.mono sw).then_heap (Ŷ _) λb o gY e=>?_) X7) X8
   rw[sb.2 b λz:b=S=>gY (by rw[z];exact Ò)];exact e
end
section
variable {P:ù} {w:ď} {A:đ} {E:Í->É->Prop} {s:É}
def NX   
 (hh:A.handled=none) (hl:s.heap.IsList l its) (hi:abh its.toList ns) (hb:(ŗ (λi=>ns.getD i 0) its.size).length+1<aaG)
 (h:∀(h':ŏ) (tk:Nat),gL P w (fE w) h' s.heap.objs.size (λk'=>(ŗ (λi=>ns.getD i 0) its.size).any (·==k')) (ŗ (λi=>ns.getD i 0) its.size).length ->
 (∀b o,b<s.heap.objs.size->s.heap.get? b=some o->h'.get? b=some o)->Q (.ref s.heap.objs.size) { s with heap:=h',toks:=tk }) :
  à (ø P w) A (call (.type "set") [.ref l]) Q E s:=by
 obtain⟨c,tl,ur⟩:=aah.mro;have um:=aah.made;have ub:=aah.sub;refine wpAny_call (abV ?_);show à _ _ (callAny (.type "set") _) _ _ _;refine Â ⟨Code.quiet_builtin _ (by decide +kernel),ī F.entry_type_call ?_⟩;rw[Around.under_plain (weight_type_call_type "set" [.ref l] []) rfl];have h1:=aah.notType;have h2:=aah.canCreate;have uct:=F.typeCall_set_1 (.ref l)
 repeat (any_goals (first|assumption|wp_step))
 refine ů (Qt (.ref l) (E:=E) (Q₁:=λobj bL=>obj=.ref s.heap.objs.size/\bL={ s with heap:=s.heap.push { cls:=.type "set",dict:=none,data:=.set #[] 0 (.fresh 0 0 (fE w)) } }) ⟨rfl,rfl⟩) λr bL hr=>?_
 cases r with
 |error e=>exact hr
 |ok fl =>
  cases fl with
  |ret obj =>
   obtain⟨rfl,rfl⟩:=hr;have v:(s.heap.push { cls:=.type "set",dict:=none,data:=.set #[] 0 (.fresh 0 0 (fE w)) }).get? s.heap.objs.size=some { cls:=.type "set",dict:=none,data:=.set #[] 0 (.fresh 0 0 (fE w)) }:=Ì _ rfl
   have vT:Shared.TypeIs { s with heap:=s.heap.push { cls:=.type "set",dict:=none,data:=.set #[] 0 (.fresh 0 0 (fE w)) } } (.ref s.heap.objs.size) "set":=⟨_,v,rfl⟩
   have vl:=aah.init.lookup;have vb:=aah.init.bind (.ref s.heap.objs.size)
   repeat (any_goals (first|assumption|wp_step))
   refine ů (codeAny_call_builtin (R:=wants (λr yo=>r=.none/\∃h' tk,yo={ s with heap:=h',toks:=tk } /\
     gL P w (fE w) h' s.heap.objs.size (λk'=>(ŗ (λi=>ns.getD i 0) its.size).any (·==k')) (ŗ (λi=>ns.getD i 0) its.size).length /\
     (∀b o,b<s.heap.objs.size->s.heap.get? b=some o->h'.get? b=some o)) E) aah.init.plain F.entry_set_init (check_set_init_1 vT ?_)) λXc yo vr=>?_
   ·obtain⟨ol,uo,uc,nn,ud⟩:=hl
    obtain⟨oc,od,oa,X9⟩:=ol;simp only at uc ud;subst uc;subst ud;have Ya:(s.heap.push { cls:=.type "set",dict:=none,data:=.set #[] 0 (.fresh 0 0 (fE w)) }).get? l=some { cls:=.type "list",dict:=od,data:=.seq its nn,slots:=X9 }:=Á _ uo;have u1:=F.sub_list_set;have u2:=F.sub_list_frozenset;have fF:(ŷ "list"==ŷ "dict")=false:=by decide
    have ul:(s.heap.push { cls:=.type "set",dict:=none,data:=.set #[] 0 (.fresh 0 0 (fE w)) }).IsList l its:=⟨_,Ya,rfl,nn,rfl⟩;unfold ň.«set.__init__» noKeywords Builtin.Frozenset.updateFrom;generalize vP:pyIter=PI
    wp_walk
    subst vP;refine Ÿ ul ?_;refine À (wpAny_runValue ?_);have uS:l<s.heap.objs.size:=Î uo;have v3:A.in1.in1.in1.handled=none:=by simp[hh]
    have uI:l≠(s.heap.push { cls:=.type "set",dict:=none,data:=.set #[] 0 (.fresh 0 0 (fE w)) }).objs.size:=by
     rw[ú];exact è (Ģ uS)
    have uf:s.heap.objs.size∉[(s.heap.push { cls:=.type "set",dict:=none,data:=.set #[] 0 (.fresh 0 0 (fE w)) }).objs.size,l]:=by
     rw[ú];simp only[Ó,Ü,ĕ,or_false,not_or];exact⟨è (υ _),Ń uS⟩
    have uv:∀(i:Nat) (v:Í),its[i]?=some v->∃t,v=.int ((λi=>ns.getD i 0) i) t:=λi v hv =>
     IntsAre.int_at hi i v (by rw[ĵ];exact hv)
    refine Qv (led:=fE w) ((Walks.list v3 _ l uI its).toS) s.heap.objs.size
     uf (λi=>ns.getD i 0) uv hb (its.size-0) 0 _ (by omega) (Ę _)
     ⟨⟨_,Ì _ rfl,rfl,rfl⟩,(ul.push _)⟩ ?v0 ?vR
    case v0 =>
     have vg:((s.heap.push { cls:=.type "set",dict:=none,data:=.set #[] 0 (.fresh 0 0 (fE w)) }).push { cls:=.type "list_iterator",data:=.fields #[.ref l,.int 0 0] }).get? s.heap.objs.size
       = some { cls:=.type "set",dict:=none,data:=.set #[] 0 (.fresh 0 0 (fE w)) }:=Á _ v
     exact⟨_,#[],0,_,vg,⟨rfl,rfl,rfl⟩,rfl,λe he=>by simp at he,λk=>by simp[firstMet_zero],by unfold aaG;simp,by rfl,rfl,OY _⟩
    case vR =>
     intro s' hm vS;obtain⟨h',g',d',tq,Di⟩:=s';have eg:g'=s.gens:=hm.gens;have ed:d'=s.drawn:=hm.drawn;have eo:Di=s.os:=hm.os;subst eg;subst ed;subst eo;show à _ _ _ _ _ _;refine Â ?_;show à _ _ (ret Value.none) _ _ _;refine Â ⟨rfl,h',tq,rfl,vS,λb o hb e=>?_⟩;have v1:b≠s.heap.objs.size:=è hb;have v2:b≠(s.heap.push { cls:=.type "set",dict:=none,data:=.set #[] 0 (.fresh 0 0 (fE w)) }).objs.size:=by
      rw[ú];exact è (Ģ hb)
     exact hm.heap b o (by simp only[Ó,Ü,ĕ,or_false,not_or];exact⟨v1,v2⟩) (Á _ (Á _ e))
   ·cases Xc with
    |error e=>exact vr
    |ok VX =>
     cases VX with
     |ret r =>
      obtain⟨rfl,h',tk,rfl,vS,vk⟩:=vr
      repeat (any_goals (first|assumption|wp_step))
      exact h _ _ vS vk
     |_=>exact vr.elim
  |_=>exact hr.elim
end
def zN {α:Type}:∀{l:List α} {i:Nat} {x:α},l[i]?=some x->(x::l.eraseIdx i).Perm l
 | [],i,x,h=>by simp at h
 |y::l,0,x,h=>by
  have:y=x:=by simpa using h
  subst this;exact List.Perm.refl _
 |y::l,i+1,x,h=>by
  have ih:=zN (l:=l) (i:=i) (x:=x) (by simpa using h);rw[List.eraseIdx_cons_succ];exact(List.Perm.swap y x _).trans (List.Perm.cons y ih)
def HU {α:Type} (next:Nat->Nat):∀(fuel k:Nat) (left:List α) (out:Array α),left.length=fuel->(pickOrder.go next fuel k left out).toList.Perm (out.toList++left)
 |0,k,left,out,h=>by
  have:left=[]:=aa2.mp h;subst this;unfold pickOrder.go;simp
 |fuel+1,k,left,out,h=>by
  unfold pickOrder.go
  have hm:next k % left.length<left.length:=Nat.mod_lt _ (by omega)
  rw[Ð hm];dsimp only;have he:=zN (Ð hm)
  have ih:=HU next fuel (k+1) (left.eraseIdx (next k % left.length)) (out.push left[next k % left.length]) (by rw[List.length_eraseIdx_of_lt hm];omega)
  refine ih.trans ?_;rw[abl,ķ];exact List.Perm.append_left _ he
def Gu {α:Type} (next:Nat->Nat) (xs:Array α):(ς next xs).toList.Perm xs.toList:=by
 unfold ς
 have:=HU next xs.size 0 xs.toList #[] (by simp)
 simpa using this
section
variable {P:ù} {w:ď} {A:đ} {E:Í->É->Prop}
def NY {α:Type} (n:Nat):∀(xs:List α) (s:É) (Q:List α->É->Prop),xs.length=n->(∀ys d,ys.Perm xs->Q ys { s with drawn:=d })->à (ø P w) A (drawOrder n xs) Q E s:=by
 induction n with
 |zero =>
  intro xs s Q h hQ;have:xs=[]:=aa2.mp h;subst this;unfold drawOrder;exact Â (hQ [] s.drawn (List.Perm.refl _))
 |succ n ih =>
  intro xs s Q h hQ
  cases xs with
  |nil=>simp at h
  |cons x xs =>
   unfold drawOrder;refine À (NV (by simp) ?_);have hm:w.draws .order (s.drawn.get .order) % (x::xs).length<(x::xs).length:=Nat.mod_lt _ (by simp);rw[Ð hm];dsimp only;refine À (ih _ _ _ (by rw[List.length_eraseIdx_of_lt hm];omega) λys d hp=>?_);refine Â (hQ _ d ?_);exact(List.Perm.cons _ hp).trans (zN (Ð hm))
def Qw {s:É} {a:á} {u:Obj} {es:Array (Int×Í)} {ep:Nat} {t:SetTable} {Q:Í->É->Prop} (hu:s.heap.get? a=some u) (hx:u.ExactSet) (hd:u.data=.set es ep t) (hf:t.fits es.size=true) (ht:iW (fE w) t)
  (hsz:es.size<=Õ)
  (hQ:∀(h':ŏ) (d':Drawn) (I:á) (fp:List á) (St:Nat->É->Prop) (order:List Í),(∀b o,s.heap.get? b=some o->h'.get? b=some o)->(∀b∈fp,b<h'.objs.size)->(∀b∈fp,b=a\/s.heap.objs.size<=b)->I∈fp->s.heap.objs.size<=I->order.Perm (es.toList.map (·.2)) ->
   (∀A':đ,A'.handled=none->WalksS P w A' I fp [I] (λa b=>b=a) es.size (λi v=>order[i]?=some v) St)->St 0 { s with heap:=h',drawn:=d' }->Q (.ref I) { s with heap:=h',drawn:=d' }) :
  à (ø P w) A (pyIter (.ref a)) Q E s:=by
 have hT:s.TypeIs (.ref a) "set":=⟨u,hu,hx.1⟩;have bE:a<s.heap.objs.size:=Î hu;refine wpAny_pyIter_slot hT F.slot_set_iter (Ą F.slot_set_iter hT Mw ?_ (F.args_set_iter_1 _));unfold ň.«frozenset.__iter__» Builtin.Frozenset.slot0 slotArgs;simp only[aaN,ë,Ã,↓reduceIte,bind_assoc,î,ġ];unfold Builtin.Frozenset.addrOf Builtin.Frozenset.sizeOf;refine À (Â ?_)
 try dsimp only
 refine À (Â ?_);refine À (À (μ hu hd hf (Â ?_)));unfold setDrawn;refine À (À (ż hu hd hf ?_));dsimp only;unfold setsByText;refine À (À (Ŭ (Â ?_)));refine Â ?_
 show à _ _ (if (!(w.params.followText "set-order")&&(!t.plain&&decide (es.size > 1)))=true then _ else _) _ _ _
 have DB:∀(o1:Obj) b o,s.heap.get? b=some o->(s.heap.push o1).get? b=some o:=λo1 b o e=>Á _ e;by_cases hc:(!w.params.followText "set-order"&&(!t.plain&&decide (es.size > 1)))=true
 ·rw[Ú hc]
  refine À (NY _ _ _ _ (by simp) λys d hp=>?_);refine À ?_;simp only[newTuple];refine ó ?_ (by have:=hp.length_eq;rw[ľ] at this;show (abA _).size<=Õ;rw[Ô,Ä,this];exact hsz);have jD:∀x∈ys,x<es.size:=λx hx=>by simpa using hp.mem_iff.mp hx
  have hl:ys.length=es.size:=by simpa using hp.length_eq
  refine À (wpAny_setEpoch_of (Á _ hu) hd hf ?_);refine À (ó ?_);refine Â ⟨_,rfl,"set_iterator",_,⟨_,Ì _ rfl,rfl⟩,kg.lookup,?_⟩;have sy:(s.heap.push { cls:=.type "tuple",data:=.seq (ys.map λ(i:Nat)=>Ŋ i).toArray }).objs.size=s.heap.objs.size+1:=by simp[ú]
  refine hQ _ d _ [_,a,s.heap.objs.size] _ (ys.map λk=>(es.getD k (0,Value.none)).2) (λb o e=>Á _ (Á _ e)) ?_ ?_ (by simp) (by rw[sy];exact Ŷ _) ?_ (λA' ha=>Nq (u:=u) (t:=t) (ep:=ep) ha (I:=_) (a:=a) (tp:=s.heap.objs.size) (by rw[sy];exact è (Ģ bE)) (by rw[sy];exact è (υ _)) hd hf ys hl jD) ⟨⟨_,Ì _ rfl,rfl,rfl⟩,Á _ (Á _ hu),⟨_,Á _ (Ì _ rfl),rfl,_,rfl⟩⟩
  ·intro b hb
   simp only[Ó,ĕ,or_false] at hb;rw[ú]
   rcases hb with e|e|e
   ·rw[e];exact υ _
   ·rw[e,sy];exact Ģ (Ģ bE)
   ·rw[e,sy];exact Ģ (υ _)
  ·intro b hb
   simp only[Ó,ĕ,or_false] at hb
   rcases hb with e|e|e
   ·right;rw[e,sy];exact Ŷ _
   ·exact .inl e
   ·right;rw[e];exact Nat.le_refl _
  ·refine(List.Perm.map _ hp).trans ?_
   have:(ß es.size).map (λk=>(es.getD k (0,Value.none)).2)=es.toList.map (·.2):=by
    apply Ż;intro i;rw[ç,ç];by_cases hi:i<es.size
    ·rw[Ĕ hi,ĵ]
     simp[aca,hi]
    ·rw[Ċ (by simpa using hi),Ċ (by simpa using hi)]
     rfl
   rw[this]
 ·rw[æ hc]
  refine À (Â ?_);refine À (wpAny_setEpoch_of hu hd hf ?_);refine À (ó ?_);refine Â ⟨_,rfl,"set_iterator",_,⟨_,Ì _ rfl,rfl⟩,kg.lookup,?_⟩;have ao:∀(o1:Obj),∀b∈[s.heap.objs.size,a],b<(s.heap.push o1).objs.size:=λo1 b hb=>by
   simp only[Ó,ĕ,or_false] at hb;rw[ú]
   rcases hb with e|e
   ·rw[e];exact υ _
   ·rw[e];exact Ģ bE
  have KQ:∀b∈[s.heap.objs.size,a],b=a\/s.heap.objs.size<=b:=λb hb=>by
   simp only[Ó,ĕ,or_false] at hb
   rcases hb with e|e
   ·right;rw[e];exact Nat.le_refl _
   ·exact .inl e
  cases iJ:w.params.followText "set-order" with
  |true =>
   have Yb:(ς (w.params.setOrder a ep) es).size=es.size:=by
    have:=(Gu (w.params.setOrder a ep) es).length_eq;simpa using this
   have hw:∀A':đ,A'.handled=none->WalksS P w A' s.heap.objs.size [s.heap.objs.size,a] [s.heap.objs.size] (λa b=>b=a) es.size (λi v=>((ς (w.params.setOrder a ep) es).toList.map (·.2))[i]?=some v) _:=λA' ha=>by
    have:=NW (P:=P) (u:=u) (t:=t) ha (I:=s.heap.objs.size) (a:=a) (è bE) iJ hd hf Yb;simpa using this
   exact hQ _ s.drawn _ [_,a] _ ((ς (w.params.setOrder a ep) es).toList.map (·.2)) (λb o e=>Á _ e) (ao _) KQ (by simp) (Nat.le_refl _) (List.Perm.map _ (Gu _ _)) hw ⟨⟨_,Ì _ rfl,rfl,rfl⟩,Á _ hu⟩
  |false =>
   have hp:t.plain=true\/es.size<=1:=by
    rw[iJ] at hc;simp at hc
    cases cP:t.plain with
    |true=>exact .inl rfl
    |false=>exact .inr (hc cP)
   have hl:t.led=true:=by rw[ht.led];unfold fE;rw[iJ];rfl
   have hr:kH t.place.toList:=by
    rcases hp with hp|hp
    ·exact ht.rise hp
    ·simp only[SetTable.fits,Ç,beq_iff_eq,È] at hf
     have hle:t.place.toList.length<=1:=by simp[hf.1];exact hp
     match t.place.toList,hle with
     | [],_=>exact List.Pairwise.nil
     | [x],_=>exact aa3 _ _
   have hw:∀A':đ,A'.handled=none->WalksS P w A' s.heap.objs.size [s.heap.objs.size,a] [s.heap.objs.size] (λa b=>b=a) es.size (λi v=>(es.toList.map (·.2))[i]?=some v) _:=λA' ha=>by
    have:=Np (P:=P) (u:=u) (t:=t) (ep:=ep) ha (I:=s.heap.objs.size) (a:=a) (è bE) iJ hd hf hl hp hr;simpa using this
   exact hQ _ s.drawn _ [_,a] _ (es.toList.map (·.2)) (λb o e=>Á _ e) (ao _) KQ (by simp) (Nat.le_refl _) (List.Perm.refl _) hw ⟨0,⟨_,Ì _ rfl,rfl,rfl⟩,Á _ hu,Ę _,λk hk=>by omega,λk _ _=>Ę _⟩
end
section
variable {P:ù} {w:ď} {A:đ} {E:Í->É->Prop} {s:É}
def split_len:splitId "set.__len__"=some ("set","__len__"):=by decide +kernel
def ints_of (h:ElemsOf (ŧ P w) es) (hp:vs.Perm (es.map (·.2))):∃ns,abh vs ns:=by
 have hv:∀v∈vs,∃k t,v=.int k t:=λv hv=>by
  obtain⟨e,he,rfl⟩:=ö.mp (hp.mem_iff.mp hv);obtain⟨⟨k,hk,_⟩,_⟩:=h e he
  cases hx:e.2 with
  |int i t=>exact⟨i,t,rfl⟩
  |_=>rw[hx] at hk;simp[ŧ,Value.isInt] at hk
 clear hp
 induction vs with
 |nil=>exact⟨[],.nil⟩
 |cons v vs ih =>
  obtain⟨k,t,rfl⟩:=hv v Ò;obtain⟨ns,h2⟩:=ih λx hx=>hv x (Ñ _ hx);exact⟨k::ns,.cons k t h2⟩
def Jh {α:Type} {c:Bool} {x y:Sem α} {Q:α->É->Prop} (hc:c=true) (h:à (ø P w) A x Q E s):à (ø P w) A (if c=true then x else y) Q E s:=by
 rw[Ú hc];exact h
def Nr {a:á} {u:Obj} {es:Array (Int×Í)} {ep:Nat} {t:SetTable} {Q:List Í->É->Prop} (hh:A.handled=none) (hu:s.heap.get? a=some u) (hx:u.ExactSet) (hd:u.data=.set es ep t) (hf:t.fits es.size=true) (ht:iW (fE w) t) (hsz:es.size<aaG)
  (hQ:∀(h':ŏ) (d':Drawn) (tk:Nat) (vs:List Í),s.heap.objs.size<=h'.objs.size->(∀b o,s.heap.get? b=some o->h'.get? b=some o)->vs.Perm (es.toList.map (·.2))->Q vs { s with heap:=h',drawn:=d',toks:=tk }):à (ø P w) A (collect (.ref a)) Q E s:=by
 have hz:es.size<=Õ:=aau hsz;have bE:a<s.heap.objs.size:=Î hu;unfold collect;refine À (wpAny_runValue (ī F.entry_proto_collect ?_));rw[Ė F.plain_proto_collect _];show à _ A.in1 (newList [] >>= λl=>again (.builtin "list.__iadd__" ⟨[l,.ref a],[]⟩)) _ _ s;refine À (ó ?_);refine Â ⟨Ł F.plain_list_iadd _,ī F.entry_list_iadd ?_⟩;rw[Ė F.plain_list_iadd _];show à _ A.in1 (abW (.ref s.heap.objs.size) (.ref a) (.ref s.heap.objs.size)) _ _ _
 generalize fT:({ s with heap:=s.heap.push { cls:=.type "list",data:=.seq ([]:List Í).toArray } }:É)=s1
 have vp:s1.heap.objs.size=s.heap.objs.size+1:=by rw[<- fT];simp[ú]
 have CJ:∀b o,s.heap.get? b=some o->s1.heap.get? b=some o:=λb o e=>by rw[<- fT];exact Á _ e
 have DC:s1.heap.get? a=some u:=by rw[<- fT];exact Á _ hu
 have hT:s1.TypeIs (.ref a) "set":=⟨u,DC,hx.1⟩;have yU:s1.heap.get? s.heap.objs.size=some { cls:=.type "list",data:=.seq ([]:List Í).toArray }:=by rw[<- fT];exact Ì _ rfl
 unfold abW;refine À (abx hT ?_);have n1:Builtin.List.listSameRef (.ref s.heap.objs.size) (.ref a)=false:=by
  simp[Builtin.List.listSameRef];exact Ń bE
 have n2:(ŷ "set"==ŷ "list")=false:=by decide
 have n3:(ŷ "set"==ŷ "tuple")=false:=by decide
 simp only[n1,n2,n3,Bool.or_false,Ã,ê];refine À (Qw DC hx hd hf ht hz λh' d' I fp St order k1 k2 k6 k3 k4 k5 W st=>?_)
 have DD:Shared.TypeIs { s1 with heap:=h',drawn:=d' } (.ref a) "set":=⟨u,k1 _ _ DC,hx.1⟩
 have Lw:=k1 _ _ yU;refine À (ė ?_);unfold Builtin.List.listLengthHint;refine À (abX DD F.slot_set_len.lookup ?_);dsimp only;rw[split_len];dsimp only;refine À (aaL DD sub_set_self ?_);rw[æ (by decide)];refine Jh (by decide +kernel) ?_;refine À (abx DD ?_);dsimp only;refine Â ?_;refine Jh (by decide +kernel) ?_
 ··refine À (Ŝ ?_)
   refine À ?_;show à _ A.in1 (updateSeq s.heap.objs.size (·.push .none) >>= λ_=>updateSeq s.heap.objs.size (·.pop)) _ _ _;refine À (Ţ Lw rfl ?_);have Lx:=ă (Ī (·.push Value.none)) Lw rfl;refine Ţ Lx rfl ?_;have Yc:=ă (Ī (·.pop)) Lx rfl;have vo:s.heap.objs.size∉fp:=λhm=>by
    rcases k6 _ hm with e|e
    ·exact Ń bE e
    ·rw[vp] at e;exact Nat.not_succ_le_self _ e
   have DB:∀b o,b≠s.heap.objs.size->h'.get? b=some o->((h'.update s.heap.objs.size (Ī (·.push Value.none))).update s.heap.objs.size (Ī (·.pop))).get? b=some o :=
    λb o hb e=>(ÿ _ _ (Ň hb)).trans ((ÿ _ _ (Ň hb)).trans e)
   refine Â ⟨Ł F.plain_extend_loop _,codeAny_extend_loopS (W A.in1 (by simp[hh])) hz _ vo _ es.size 0 _ _ _ rfl (Ę _) ((W A.in1 (by simp[hh])).frame 0 ({ s1 with heap:=h',drawn:=d' }:É) _ s1.toks st (Nat.le_refl _) λb hb o e=>DB b o (λz=>vo (z ▸ hb)) e) Yc (ItemsOf.nil _) λs' acc c m Ly jW=>?_⟩
   show à _ A (load s.heap.objs.size >>= _) _ _ s';refine À (wpAny_load Ly ?_);refine Â ?_;have Yd:order.length=es.size:=by simpa using k5.length_eq
   have Xd:acc.toList=order:=by
    apply Ż;intro j;by_cases hj:j<acc.size
    ·have e1:acc[j]?=some acc[j]:=by simp[hj]
     rw[ĵ,e1,jW.2 j _ e1]
    ·rw[Ċ (by simpa using hj),Ċ (by rw[Yd,<- jW.1];omega)]
   obtain⟨h2,g2,d2,t2,o2⟩:=s';have eg:g2=s1.gens:=m.gens;have ed:d2=d':=m.drawn;have eo:o2=s1.os:=m.os;subst eg ed eo;have q:=hQ h2 d2 t2 acc.toList (Nat.le_of_lt (Î Ly)) (λb o e=>m.heap b o (λhb=>by
    simp only[Ó,ĕ,or_false] at hb;have mO:=Î e
    rcases hb with z|z
    ·rw[z] at mO;exact é _ mO
    ·rw[vp] at k4;rw[z] at mO;exact é _ (Ê mO (Nat.le_of_succ_le k4))) (DB b o (λz=>by
     have mO:=Î e;rw[z] at mO;exact é _ mO) (k1 b o (CJ b o e)))) (by rw[Xd];exact k5)
   rw[<- fT];exact q
end
section
variable {P:ù} {w:ď} {A:đ} {E:Í->É->Prop} {s:É}
def NZ (hh:A.handled=none) (hu:s.heap.get? a=some u) (hx:u.ExactSet) (hd:u.data=.set es ep t) (hf:t.fits es.size=true) (ht:iW (fE w) t) (DE:ElemsOf (ŧ P w) es.toList) (h64:es.size<64)
 (h:∀(h':ŏ) (d':Drawn) (tk:Nat) (p:á) (vs:List Í) (ns:List Int) (out:List Í) (ms:List Int) (e:Nat),(∀b o,s.heap.get? b=some o->h'.get? b=some o)->s.heap.objs.size<=p->vs.Perm (es.toList.map (·.2))->abh vs ns->h'.get? p=some { cls:=.type "list",data:=.seq out.toArray e }->abh out ms->ms.Perm ns->ms.Pairwise (·<=·)->Q (.ref p) { s with heap:=h',drawn:=d',toks:=tk }) :
  à (ø P w) A (call (.builtin "sorted") [.ref a]) Q E s:=by
 refine Calls.call_function_entry kind_sorted plain_sorted entry_sorted (args_sorted1 _) ?_;unfold ň.«sorted»;refine À (m:=checkCount "sorted" 1 1 _) (Â ?_);refine À (Nr (by simp[hh]) hu hx hd hf ht (by unfold aaG;omega) λh' d' tk vs k0 k1 k2=>?_);obtain⟨ns,hI⟩:=ints_of DE k2;have hl:vs.length<64:=by have:=k2.length_eq;simp at this;omega
 refine À (abL ?_);have uW:(h'.push (ab2 "list" vs.toArray 0)).get? h'.objs.size=some (ab2 "list" vs.toArray 0):=Ì _ rfl;refine À (ė (Ą slot_list_sort ⟨_,uW,rfl⟩ entry_list_sort (list_sort_tree uW hI hl λout ms a1 a2 a3=>⟨_,rfl,?_⟩) (args_list_sort _)));obtain⟨e,he⟩:=sortedHeap_at (out:=out) uW;refine Â ⟨_,rfl,h _ d' tk h'.objs.size vs ns out.toList ms e (λb o hb=>?_) ?_ k2 hI (by simpa [ab2] using he) a1 a2 a3⟩
 ·have gY:=k1 b o hb
  have bE:=Î gY;rw[sortedHeap_old (è bE) (by rw[size_push'];exact Ģ bE)];exact Á _ gY
 ·exact k0
end
end TS
namespace L2
open PySem PySem.Spec PyProof.Rows
def lR (P:ù) (w:ď) (p:á) (ns:List Int):ŏ->Prop:=λh=>∃(S:Int->Bool) (n:Nat),TS.gL P w (TS.fE w) h p S n/\(∀k,S k=true↔k∈ns)/\n<=ns.length/\n=(ns.foldl step_dedup []).length
section
variable {X:Cx}
def nq (l:List Int) (k:Int):(l.any (·==k))=true↔k∈l:=by
 rw[Ņ];exact⟨λ⟨x,h1,h2⟩=>by rw[<- beq_iff_eq.mp h2];exact h1,λh=>⟨k,h,by simp⟩⟩
def R6 (hm:m=ns.length) (hS:TS.gL X.prog X.w (TS.fE X.w) h p (λk'=>(ŗ (λi=>ns.getD i 0) m).any (·==k')) (ŗ (λi=>ns.getD i 0) m).length):lR X.prog X.w p ns h:=by
 subst hm;refine⟨_,_,hS,λk=>?_,firstMet_length_le _ _,?_⟩
 ·rw[firstMet_any,map_getD]
  exact nq ns k
 ·unfold ŗ
  rw[map_getD]
def R7 (hx:lR X.prog X.w p ns h):cJ X.prog X.w (upd H p (.ext (lR X.prog X.w p ns))) h p (.ext (lR X.prog X.w p ns)):=by
 refine⟨hx,?_,λh1 h2 q k=>?_⟩
 ·obtain⟨_,_,⟨o,_,_,_,ho,_⟩,_⟩:=hx
  exact⟨o,ho⟩
 ·obtain⟨S,n,T,r⟩:=q
  exact⟨S,n,T.at k,r⟩
def N0 (hc:X.calm=true):bY X (.type "set") (λxs H Q=>∃(a:á) (ns:List Int),xs=[.ref a]/\bu X.K H a (ns.map V.int)/\(ns.foldl step_dedup []).length<4000/\∀p,H p=none->Q (.ref p) (upd H p (.ext (lR X.prog X.w p ns)))):=by
 intro π s σ H xs us Q I r h;obtain⟨a,ns,rfl,ha,hl,q⟩:=h;obtain⟨u,rfl,ru⟩:=vals1 r;cases ru;obtain⟨its,rv,p,_⟩:=I.list ha;have hn:its.toArray.size=ns.length:=by
  have e:=rv.length;rw[Ä] at e;simpa using e.symm
 refine TS.NX (its:=its.toArray) (ns:=ns) (I.ok.hd hc) p.isList (by simpa using intsAre_of rv) (by rw[hn];unfold ŗ;rw[map_getD];show _ + 1<4096;omega) λh' tk hS hk=>?_;exact⟨.ref _,_,I.laid (t':=tk) (λb o e=>hk b o (Î e) e) (Nat.le_refl _) (R7 (R6 hn hS)),rfl,q _ (I.aF.fresh (Nat.le_refl _))⟩
def FA:∀{out:List Í} {ms:List Int},abh out ms->Vals (ms.map V.int) out
 |_,_,.nil=>.nil
 |_,_,.cons n t h=>.cons ⟨t,rfl⟩ (FA h)
def zI:∀(ns acc:List Int),acc.Nodup->(ns.foldl step_dedup acc).Nodup
 | [],acc,h=>h
 |n::ns,acc,h=>by
  refine zI ns _ ?_;unfold step_dedup;split
  ·exact h
  ·rename_i hn
   rw[aaM] at hn;refine aav.mpr ⟨h,by simp,λa ha b hb=>?_⟩;have:b=n:=by simpa using hb
   subst this;intro e;subst e;rw[(nq acc a).mpr ha] at hn;cases hn
def G4:∀{vs:List Í} {ns:List Int},abh vs ns->∀k,k∈ns↔∃t,abO k t∈vs
 |_,_,.nil,k=>by simp
 |_,_,.cons n t h,k=>by
  rw[Ó,G4 h k];constructor
  ·rintro (e | ⟨t',h'⟩)
   ·subst e;exact⟨t,Ò⟩
   ·exact⟨t',Ñ _ h'⟩
  ·rintro ⟨t',h'⟩
   rcases Ó.mp h' with e|h'
   ·injection e with e _;exact .inl e
   ·exact .inr ⟨t',h'⟩
def sub_len:∀{m l:List Int},m.Nodup->(∀k,k∈m->k∈l)->m.length<=l.length
 | [],l,_,_=>Ę _
 |x::m,l,h,hk=>by
  obtain⟨h1,h2⟩:=aad.mp h;have hx:=hk x Ò;have ih:=sub_len (m:=m) (l:=l.erase x) h2 λk hm=>(List.mem_erase_of_ne (λ(e:k=x)=>h1 (by rw[<- e];exact hm))).mpr (hk k (Ñ _ hm));rw[List.length_erase_of_mem hx] at ih;have:=List.length_pos_of_mem hx;rw[å];omega
def FC:∀{l m:List Int},m.Nodup->(∀k,k∈m↔k∈l)->l.length<=m.length->l.Nodup
 | [],m,_,_,_=>abv
 |a::r,m,hm,hk,hl=>by
  have ha:a∉r:=λh=>by
   have:=sub_len hm λk h'=>(Ó.mp ((hk k).mp h')).elim (λe=>e ▸ h) id;rw[å] at hl;omega
  have Ye:a∈m:=(hk a).mpr Ò;refine aad.mpr ⟨ha,FC (m:=m.erase a) (hm.erase a) (λk=>?_) ?_⟩
  ·rw[hm.mem_erase_iff,hk k,Ó]
   constructor
   ·rintro ⟨h1,h2|h2⟩
    ·exact absurd h2 h1
    ·exact h2
   ·intro h
    exact⟨λe=>ha (e ▸ h),.inr h⟩
  ·rw[List.length_erase_of_mem Ye]
   rw[å] at hl;omega
def Gv (ns:List Int) (k:Int):k∈ns.foldl step_dedup []↔k∈ns:=by
 have:=firstMet_any (λi=>ns.getD i 0) ns.length k;unfold ŗ at this;rw[map_getD] at this;rw[<- nq,<- nq,this]
def MX (hc:X.calm=true):bY X (.builtin "sorted") (λxs H Q=>∃(p:á) (ns:List Int),xs=[.ref p]/\H p=some (.ext (lR X.prog X.w p ns))/\(ns.foldl step_dedup []).length<64 /\
  ∀(l:á) (ms:List Int),H l=none->ms.Pairwise (· < ·)->(∀k,k∈ms↔k∈ns)->Q (.ref l) (upd H l (.lst (ms.map V.int)))):=by
 intro π s σ H xs us Q I r h;obtain⟨p,ns,rfl,hp,hl,q⟩:=h;obtain⟨v,rfl,rv⟩:=vals1 r;cases rv;obtain⟨⟨S,n,⟨u,es,ep,t,hu,hx,hd,DE,Xe,hb,hf,hn,ht⟩,hS,DF,su⟩,_⟩:=I.aF p _ hp;refine TS.NZ (I.ok.hd hc) hu hx hd hf ht DE (by omega) λh' d' tk l vs ks out ms e k1 k2 k3 k4 k5 k6 k7 k8=>?_;have JX:∀k,k∈ms↔k∈ns:=λk=>by
  rw[k7.mem_iff,G4 k4 k,<- hS k,Xe k];constructor
  ·rintro ⟨t',Yf⟩
   obtain⟨x,mP,l9⟩:=ö.mp (k3.mem_iff.mp Yf);exact⟨x,mP,by rw[l9];exact intKind_is _ _ _ _⟩
  ·rintro ⟨x,mP,l9⟩
   obtain⟨i,t',e'⟩:∃i t',x.2=.int i t':=by
    cases hv:x.2 with
    |int i t'=>exact⟨i,t',rfl⟩
    |_=>rw[hv] at l9;simp[ŧ,Value.isInt] at l9
   have qh:k=i:=(ŧ X.prog X.w).inj (.int i t') k i (by rw[<- e'];exact l9) (intKind_is _ _ _ _);subst qh;exact⟨t',k3.mem_iff.mpr (ö.mpr ⟨x,mP,e'⟩)⟩
 have Xf:ms.Nodup:=by
  have qi:=zI ns [] abv;refine FC qi (λk=>?_) ?_
  ·rw[JX k,Gv]
  ·rw[<- su,<- hn]
   have e1:=k7.length_eq;have e2:=k4.length;have e3:=k3.length_eq;simp at e3;omega
 have bE:ms.Pairwise (· < ·):=by
  have:=List.pairwise_and_iff.mpr ⟨k8,Xf⟩;exact this.imp λ⟨a,b⟩=>by omega
 have J:=I.laid (t':=tk) (a:=l) (o:=.lst (ms.map V.int)) k1 k2 ⟨by
  rw[Ä,η];have e1:=k7.length_eq;have e2:=k4.length;have e3:=k3.length_eq;simp at e3;omega,out,e,FA k6,k5⟩
 exact⟨.ref l,_,J.xO (s':={ s with heap:=h',drawn:=d',toks:=tk }) (ch:=[]) rfl Un.refl J.aF J.bare (λb hb=>by cases hb),rfl,q l ms (I.aF.fresh k2) bE JX⟩
end
section
variable {X:Cx}
end
mutual
noncomputable def j7:aaD->Bool
 | .tuple ds=>i4 ds
 | .list _=>false
 |_=>true
noncomputable def i4:List aaD->Bool
 | []=>true
 |d::ds=>j7 d&&i4 ds
end
section
variable {X:Cx} {π:List (á×Obj)} {σ:St} {H:Hp} {s:É} {Z:á->Prop}
mutual
def DV.tO (I:Inv X π σ H s):∀{d:aaD} {v:V} {u:Í},DV X.K Z H d v->RelV v u->j7 d=true->∃as,Reads s.heap u d as/\ł∉as
 | .none,v,u,h,r,_=>by
  have e:v=.au:=h;subst e;cases r;exact⟨[],.none,by simp⟩
 | .bool b,v,u,h,r,_=>by
  have e:v=.bl b:=h;subst e;cases r;exact⟨[],.bool b,by simp⟩
 | .int i,v,u,h,r,_=>by
  have e:v=.int i:=h;subst e;obtain⟨t,rfl⟩:=r;exact⟨[],.int i t,by simp⟩
 | .str x,v,u,h,r,_=>by
  have e:v=.str x:=h;subst e;obtain⟨t,rfl⟩:=r;exact⟨[],.str x t,by simp⟩
 | .tuple ds,v,u,h,r,hn=>by
  simp only[DV] at h;obtain⟨a,xs,e,hq,hr⟩:=h;subst e;cases r;obtain⟨its,rv,⟨o,e,c,n,hd⟩,_⟩:=I.tuple hq;obtain⟨as,rs,hs⟩:=ar.tO I hr rv (by simpa only [j7] using hn);exact⟨as,.tuple e c hd (by simpa using rs),hs⟩
 | .list ds,v,u,h,r,hn=>by
  simp only[j7] at hn;cases hn
 | .dict ai,v,u,h,r,_=>by
  simp only[DV] at h;obtain⟨a,es,e,_,hq,l,e1,e2⟩:=h;subst e e1 e2;cases r;obtain⟨_,CD,vs,kv,o,gu,ep,g1,g2,g3,_,g5,_⟩:=(show cJ X.prog X.w H s.heap a (.dK _) from I.aF a _ hq);obtain⟨r1,r2⟩:=wD (h:=s.heap) kv g5;refine⟨a::[]++[],.dict g1 g2.1 g3 r1 r2,λhm=>?_⟩;have e:ł=a:=by simpa using hm
  subst e;simp at CD
def ar.tO (I:Inv X π σ H s):∀{ds:List aaD} {vs:List V} {us:List Í},ar X.K Z H ds vs->Vals vs us->i4 ds=true->∃as,ReadsAll s.heap us ds as/\ł∉as
 | [],vs,us,h,r,_=>by
  have e:vs=[]:=h;subst e;cases r;exact⟨[],.nil,by simp⟩
 |d::ds,vs,us,h,r,hn=>by
  obtain⟨v,rr,e,h1,h2⟩:=h;subst e;simp only[i4,Ç] at hn
  cases r with
  |cons ru rt =>
   obtain⟨as,a1,n1⟩:=DV.tO I h1 ru hn.1;obtain⟨bs,a2,n2⟩:=ar.tO I h2 rt hn.2;refine⟨as++bs,.cons a1 a2,λhm=>?_⟩
   rcases Ù.mp hm with z|z
   ·exact n1 z
   ·exact n2 z
end
end
section
variable {X:Cx}
def N1 (hr:bW k X.A):bY X (.builtin "repr") (λxs H Q=>∃(x:V) (ds:List aaD) (Z:á->Prop),xs=[x]/\DV X.K Z H (.tuple ds) x/\(PyData.tuple ds).showable=true/\((PyData.tuple ds).hasDict=false\/i4 ds=true)/\(PyData.tuple ds).depth<=100/\(PyData.tuple ds).shown.length<=Õ/\Q (.str (PyData.tuple ds).shown) H):=by
 intro π s σ H xs us Q I r h;obtain⟨x,ds,Z,rfl,hd,hs,su,vi,hz,q⟩:=h;obtain⟨u,rfl,ru⟩:=vals1 r;have yQ:X.A.units+((PyData.tuple ds).depth+1)<abQ:=by have:=hr.un;omega
 have go:∀as,Reads s.heap u (.tuple ds) as->((PyData.tuple ds).hasDict=true->ł∉as)->à (ø X.prog X.w) X.A (call (.builtin "repr") [u]) (EP X π σ Q) X.xe s:=λas rd Du=>by
  obtain⟨a,e⟩:∃a,u=.ref a:=by cases rd;exact⟨_,rfl⟩
  subst e;exact repr_of_reads' rd hs Du hr.gd yQ (λ_ _ e=>e) (λh' t tk hk=>⟨.str _,H,I.kept (t':=tk) hk,⟨t,rfl⟩,q⟩) hz
 rcases su with e|e
 ·obtain⟨as,rd⟩:=hd.reads I ru
  exact go as rd λz=>by rw[e] at z;cases z
 ·obtain⟨as,rd,hn⟩:=hd.tO I ru (by simpa only [j7] using e)
  exact go as rd λ_=>hn
end
end L2
namespace HZ
open PySem PySem.Spec PyProof.Rows
open AutoSeq1 (wpAny_loadPart')
section
variable {P:ù} {w:ď} {A:đ} {E:Í->É->Prop} {s:É}
end
end HZ
namespace L2
open PySem PySem.Spec PyProof.Rows
section
variable {X:Cx} {elts:List ļ} {kk:Nat} {tp:Pos}
end
section
variable {K:Ĳ} {caps:St} {H:Hp} {tf:TT} {te:TE} {Q:VK}
end
end L2
namespace HZ
open PySem PySem.Spec PyProof.Rows
def Mn:fillsNumberSlot (.type "tuple") "mul"=pure false:=by
 first|rfl | (unfold fillsNumberSlot;kernel_rfl)|kernel_rfl
def MY:seqRepeat? (.type "tuple")=pure (some (.builtin "tuple.__mul__")):=by
 first|rfl|kernel_rfl
def N2 (a:Int) (t:Tok) (l:á) (items:Array Í) (n:Nat) (d:Option á) (sl:Array (Option Í)) :
  Meets (ň.«int.__rmul__» ⟨[.int a t,.ref l],[]⟩) (λ_ R s=>s.heap.get? l=some { cls:=.type "tuple",dict:=d,data:=.seq items n,slots:=sl }/\R (.ok (.ret Value.notImplemented)) s) :=
 .of_wp λprog w A R s h=>by
  obtain⟨h1,h2,h3,h4,h5⟩:=s;obtain⟨hl,h⟩:=h;wp_walk;exact⟨_,rfl,h⟩
section
variable {P:ù} {w:ď} {A:đ} {E:Í->É->Prop} {s:É}
def AM (ht:IsTup s.heap t vs.toArray) (hv:vs≠[]) (hk:1<=k) (hz:vs.length*k.toNat<=Õ)
 (h1:k=1->Q (.ref t) s) (h2:k≠1->Q (.ref s.heap.objs.size) { s with heap:=s.heap.push { cls:=.type "tuple",data:=.seq (Ï k.toNat vs).flatten.toArray } }) :
  à (ø P w) A (ŋ .Mult (.ref t) (.int k tk)) Q E s:=by
 obtain⟨⟨cls,dd,data,sl⟩,ho,hc,n,hd⟩:=id ht;simp only at hc hd;subst hc hd;have gA:k<=16777216:=by
  have hl:1<=vs.length:=by
   cases vs with
   |nil=>exact absurd rfl hv
   |cons a r=>simp
  have l0:vs.length*k.toNat<=16777216:=by rw[<- η];exact hz
  have:1*k.toNat<=vs.length*k.toNat:=aaz _ hl;omega
 refine wpAny_binaryOp_repeat_ref (T:="tuple") (U:="int") (by decide) ⟨_,ho,rfl⟩ (λs'=>typeIs_int s' k tk) Mn F.fills_int_mul abS MY F.slot_int_index.lookup
  (call_meets abS (typeIs_int s k tk) F.entry_int_rmul (F.args_int_rmul_2 _ _) (N2 k tk t vs.toArray n dd sl) ⟨ho,rfl,⟨_,ho,rfl⟩,?_⟩)
 refine Ą F.slot_tuple_mul ⟨_,ho,rfl⟩ F.entry_tuple_mul ?_ (F.args_tuple_mul_2 _ _);show à _ _ (asIndex (.int k tk) >>= _) _ _ _;refine À ?_
 refine š (a:=k) (by first|rfl | (unfold asIndex;rfl)) ?_
 dsimp only;rw[æ (by simp;omega)];unfold Ũ;refine À (À (Ě ho rfl ?_));refine Â ?_;have ne:vs.toArray.isEmpty=false:=by
  cases vs with
  |nil=>exact absurd rfl hv
  |cons a r=>simp
 by_cases h:k=1
 ·rw[Ú (by rw[h];simp)]
  unfold aax;refine À (À (abx (T:="tuple") ⟨_,ho,rfl⟩ (Â ?_)));rw[Ú (by decide)];exact À (Ŝ (Â ⟨_,rfl,h1 h⟩))
 ·rw[æ (by rw[ne];simp[h])]
  rw[æ (by rw[ne];simp;omega)];have hm:(vs.toArray.size:Int)*k=((vs.length*k.toNat:Nat):Int):=by
   rw[Ô,Int.natCast_mul];congr 1;omega
  have DG:vs.length*k.toNat<=16777216:=by rw[<- η];exact hz
  rw[æ (by rw[hm];omega)];rw[æ (by
   unfold Builtin.Tuple.tupleTooMany;rw[hm,η,È];generalize vs.length*k.toNat=q at DG;omega)]
  unfold Ő;have e:List.foldl (λx1 x2=>x1++x2) #[] (Ï k.toNat vs.toArray)=(Ï k.toNat vs).flatten.toArray:=by
   have:=L2.foldl_rep vs k.toNat [];rw[ģ] at this;exact this
  rw[e];refine À (ó ?_ (by
   show (abA _).size<=Õ;rw[Ô,L2.len_rep,Nat.mul_comm];exact hz))
  exact Â ⟨_,rfl,h2 h⟩
end
end HZ
namespace L2
open PySem PySem.Spec PyProof.Rows
section
variable {X:Cx}
def VY (K:Ĳ):R2:=λx y H Q=>∃a xs k,x=.ref a/\y=.int k/\aT K H a xs/\xs≠[]/\1<=k/\xs.length*k.toNat<=Õ/\nV K H (Ï k.toNat xs).flatten Q
def R8:aY X (ŋ .Mult) (VY X.K):=by
 intro π s σ H x y v u Q I rx ry h;obtain⟨a,xs,k,rfl,rfl,hs,hx,hk,hz,q⟩:=h;cases rx;obtain⟨t,rfl⟩:=ry;obtain⟨its,r,p,z⟩:=I.tuple hs;have hl:=r.length;refine HZ.AM p (λe=>hx (by rw[e] at hl;exact aa2.mp hl)) hk (by rw[<- hl];exact hz) (λe=>?_) (λ_=>?_)
 ·have e1:(Ï k.toNat xs).flatten=xs:=by rw[e];simp
  rw[e1] at q;exact⟨.ref a,H,I,rfl,q.here hs⟩
 ·have l0:(Ï k.toNat xs).flatten.length<=Õ:=by rw[len_rep,Nat.mul_comm];exact hz
  exact⟨.ref _,_,I.laid (t':=s.toks) (o:=.tup (Ï k.toNat xs).flatten) (λb o e=>Á _ e) (Nat.le_refl _) ⟨l0,_,r.rep k.toNat,⟨_,Ì _ rfl,rfl,_,rfl⟩⟩,rfl,q.new (I.aF.fresh (Nat.le_refl _))⟩
end
end L2
namespace HZ
open PySem PySem.Spec PyProof.Rows
def HV:mroOf (.type "reversed")=pure [.type "reversed",.type "object"]:=by rw[mroOf_type];kernel_rfl
def Mx:typeLookup (.type "reversed") "__new__"=pure (some (.builtin "reversed.__new__")):=by rw[typeLookup_type,abB];kernel_rfl
def Qx:Bind.madeBy (.type "reversed")=pure (some "reversed.__new__"):=madeBy_type HV Mx (by decide +kernel)
def MH:entryFor table "reversed.__new__"=some ň.«reversed.__new__»:=entryFor_of_tree (by kernel_rfl)
def MI:plainId "reversed.__new__"=true:=by decide +kernel
def MZ (a:Í):checkTypeCall "reversed" ⟨[a],[]⟩=pure ():=by kernel_rfl
def Nt (a:Í):checkBuiltinCall "reversed.__new__" ⟨[.type "reversed",a],[]⟩=pure ():=by kernel_rfl
def R9:isSubtype (.type "reversed") (.type "reversed")=pure true:=by rw[isSubtype_type];kernel_rfl
def N3:isSubtype (.type "range_iterator") (.type "reversed")=pure false:=by rw[isSubtype_type];kernel_rfl
def M0:(ŷ "reversed"==ŷ "type")=false:=by decide +kernel
def Sa:((Manifest.find? "reversed").bind (·.mro.findSome? λt=>(Manifest.find? t).bind λb=>if b.noNew then some true else if b.attrs.any (·.1=="__new__") then some false else none)).getD false=false:=by decide +kernel
section
variable {P:ù} {w:ď} {A:đ} {E:Í->É->Prop} {s:É}
def M3 (hr:s.heap.get? r=some { cls:=.type "range",data:=.fields #[.int a t1,.int b t2,.int c t3] }) (h:Q (a,b,c) s):à (ø P w) A (ab6 (.ref r)) Q E s:=by
 unfold ab6;refine À (Ĵ hr rfl (x:=.int a t1) rfl ?_);refine À (š (a:=some a) (by rfl) ?_);refine À (Ĵ hr rfl (x:=.int b t2) rfl ?_);refine À (š (a:=some b) (by rfl) ?_);refine À (Ĵ hr rfl (x:=.int c t3) rfl ?_);refine À (š (a:=some c) (by rfl) ?_);exact Â h
def Sb {n:Nat} {Q:Í->É->Prop} (hr:s.heap.get? r=some { cls:=.type "range",data:=.fields #[.int 0 t1,.int n t2,.int 1 t3] }) (hn:n<2 ^ 62)
 (h:Q (.ref s.heap.objs.size) { s with heap:=s.heap.push { cls:=.type "range_iterator",data:=.fields #[Ŋ (n-1),Ŋ n,Ŋ (-1)] } }) :
  à (ø P w) A (ň.«reversed.__new__» ⟨[.type "reversed",.ref r],[]⟩) (λfin s'=>∃v,fin=.done (.ret v)/\Q v s') E s:=by
 have hT:s.TypeIs (.ref r) "range":=⟨_,hr,rfl⟩;have ss:=R9;unfold ň.«reversed.__new__» Builtin.SmallTypes.newClass Builtin.SmallTypes.refuseKeywords;have l1:=aai.lookup;have l2:=aai.bind (.ref r)
 wp_walk
 refine ů (codeAny_call_builtin (R:=wants (λv s'=>v=.ref s.heap.objs.size/\s'={ s with heap:=s.heap.push { cls:=.type "range_iterator",data:=.fields #[Ŋ (n-1),Ŋ n,Ŋ (-1)] } }) E) aai.plain F.entry_range_reversed (aai.check _ _ _ _ _ _ _ _ hT (F.args_range_reversed_1 _) ?_)) λr2 s2 hq=>?_
 ·unfold ň.«range.__reversed__»
  refine À (š (a:=.ref r) (by rfl) ?_);refine À (M3 hr ?_);dsimp only;have sz:ŕ 0 n 1=n:=by
   unfold ŕ;rw[Ú (by decide)]
   split<;>omega
  rw[sz];have fl:(Ğ 0&&Ğ n&&Ğ 1&&Ğ (-1)&&Ğ (0-1)&&Ğ n)=true:=by
   have Lc:(n:Int)<2 ^ 62:=by omega
   unfold Ğ;simp only[Ç,È];refine⟨⟨⟨⟨⟨⟨by decide,by decide⟩,by omega,by omega⟩,by decide,by decide⟩,by decide,by decide⟩,by decide,by decide⟩,by omega,by omega⟩
  rw[fl];rw[æ (by decide)];refine À (ó ?_);refine Â ?_;refine⟨rfl,?_⟩;have e:(0:Int)+((n:Int)-1)*1=n-1:=by omega
  simp[Ŋ]
 ·cases r2 with
  |error e=>exact hq
  |ok fl =>
   cases fl with
   |ret v =>
    obtain⟨rfl,rfl⟩:=hq;exact Â ⟨_,rfl,h⟩
   |_=>exact hq
def Qy {n:Nat} {Q:Í->É->Prop} (hr:s.heap.get? r=some { cls:=.type "range",data:=.fields #[.int 0 t1,.int n t2,.int 1 t3] }) (hn:n<2 ^ 62)
 (h:Q (.ref s.heap.objs.size) { s with heap:=s.heap.push { cls:=.type "range_iterator",data:=.fields #[Ŋ (n-1),Ŋ n,Ŋ (-1)] } }):à (ø P w) A (call (.type "reversed") [.ref r]) Q E s:=by
 have m1:=HV;have m2:=Qx;have m3:=N3;have m4:=M0;have m5:=Sa;have m6:=MZ (.ref r);refine wpAny_call (abV ?_);show à _ _ (callAny (.type "reversed") _) _ _ _;refine Â ⟨Code.quiet_builtin _ (by decide +kernel),ī F.entry_type_call ?_⟩;rw[Around.under_plain (weight_type_call_type "reversed" [.ref r] []) rfl]
 repeat (any_goals (first|assumption|wp_step))
 refine ů (codeAny_call_builtin (R:=wants (λv s'=>v=.ref s.heap.objs.size/\s'={ s with heap:=s.heap.push { cls:=.type "range_iterator",data:=.fields #[Ŋ (n-1),Ŋ n,Ŋ (-1)] } }) E) MI MH (š (Nt _) ?_)) λr2 s2 hq=>?_
 ·refine ĳ (Sb (Q:=λv s'=>v=.ref s.heap.objs.size/\s'={ s with heap:=s.heap.push { cls:=.type "range_iterator",data:=.fields #[Ŋ (n-1),Ŋ n,Ŋ (-1)] } }) hr hn ⟨rfl,rfl⟩) (λf s' hf=>?_) λ_ _ e=>e
  obtain⟨v,rfl,hv⟩:=hf;exact hv
 ·cases r2 with
  |error e=>exact hq
  |ok fl =>
   cases fl with
   |ret v =>
    obtain⟨rfl,rfl⟩:=hq
    have hT:Shared.TypeIs { s with heap:=s.heap.push { cls:=.type "range_iterator",data:=.fields #[Ŋ (n-1),Ŋ n,Ŋ (-1)] } } (.ref s.heap.objs.size) "range_iterator":=⟨_,Ì _ rfl,rfl⟩
    repeat (any_goals (first|assumption|wp_step))
   |_=>exact hq.elim
end
end HZ
namespace L2
open PySem PySem.Spec PyProof.Rows
noncomputable def yw (n:Nat):It:=⟨λi _=>i<n,λi H x H'=>H'=H/\x=.int ((n:Int)-1-i),λi _=>n<=i⟩
def G5 {P:ù} {w:ď} {K:Ĳ} {tg:ļ} (it:á) (n:Nat):Turn P w K tg (yw n) [it] it (λi h=>IsRangeIter h it (((n:Int)-1)+(i:Nat)*(-1)) ((n:Int)-(i:Nat)) (-1)) where
 mem:=by simp
 obj:=λi h st b hb=>by
  have e:b=it:=by simpa using hb
  subst e;exact⟨_,st,λv z=>by
   have z':Data.fields _=Data.cell v:=z;cases z'⟩
 keep:=λi h h' st k=>k it (by simp) _ st
 item:=by
  intro X hP hw hK hc i π s σ H E I hf st hg;subst hP hw hK;obtain⟨f0,f1,f2,f3,f4,f5⟩:=hf it (by simp);have W:=Walks.range (prog:=X.prog) (w:=X.w) (I.ok.hd hc) it ((n:Int)-1) (-1) n;refine W.item i s _ _ hg st λv h' tk hv dD kk=>?_;obtain⟨t,rfl⟩:=hv
  have I1:Inv X π σ H { s with heap:=h',toks:=tk }:=I.turned (λb o hb e=>kk b o (by simpa using hb) e) f0 f1 f3 f4 f5
  refine⟨_,rfl,xP (s:={ s with heap:=h',toks:=tk }) (n:="range_iterator") dD rfl rfl (by decide) ⟨.int ((n:Int)-1-i),H,I1,⟨t,?_⟩,⟨rfl,rfl⟩,dD,λb hb=>(hf b hb).1⟩⟩
  rw[Int.mul_neg_one];rfl
 done:=by
  intro X hP hw hK hc i π s σ H E I hf st hg;subst hP hw hK;obtain⟨f0,f1,f2,f3,f4,f5⟩:=hf it (by simp);exact wpAny_pyNext_range_end (I.ok.hd hc) st (by have:n<=i:=hg;omega) λh' eb=>⟨rfl,I.turned (t':=s.toks) (λb o hb e=>eb b o hb e) f0 f1 f3 f4 f5⟩
 self:=λ_ _ _ _ _ st h=>aa9 st h
section
variable {X:Cx} {tg:ļ}
def Qz:ą "reversed"=some (.type "reversed"):=by decide +kernel
def Nu:bY X (.type "range") (λxs H Q=>∃j:Int,xs=[.int j]/\∀p,H p=none->Q (.ref p) (upd H p (.bP 0 j))):=by
 intro π s σ H xs us Q I r h;obtain⟨j,rfl,q⟩:=h;obtain⟨u,rfl,ru⟩:=vals1 r;obtain⟨t,rfl⟩:=ru;exact call_range_1 ⟨.ref _,_,I.laid (o:=.bP 0 j) (t':=s.toks+1+1) (λb o e=>Á _ e) (Nat.le_refl _) ⟨_,_,_,Ì _ rfl⟩,rfl,q _ (I.aF.fresh (Nat.le_refl _))⟩
def Xg (ta:TA):TI:=fun σ H R=>ta σ H λvs H1=>∃(p:á) (n:Nat),vs=[.ref p]/\H1 p=some (.bP 0 n)/\n<2 ^ 62/\R (yw n) H1
def Um {a:ļ} {ta:TA} {p pos:Pos} (hg:Gl X "reversed") (hm:X.mg "reversed"=none) (ha:PA X [a] ta) (hs:Þ [a] X.env=[(false,Ť a X.env)]:=by rfl):PI X tg (.Call (.Name "reversed" p) [a] [] pos) (Xg ta):=by
 intro π s σ H R I h;refine Call_ (lJ I hg hm Qz (Ĩ (aE (ha pos π s σ H _ I h) λus s1 ⟨vs,H1,I1,r1,q1⟩=>?_) hs rfl));obtain⟨c,n,e,hx,hn,q⟩:=q1;subst e;obtain⟨u,rfl,ru⟩:=vals1 r1;cases ru;obtain⟨t1,t2,t3,hr⟩:=I1.aF c _ hx;refine HZ.Qy hr hn ?_;have st:IsRangeIter (s1.heap.push { cls:=.type "range_iterator",data:=.fields #[Ŋ ((n:Int)-1),Ŋ n,Ŋ (-1)] }) s1.heap.objs.size (((n:Int)-1)+((0:Nat):Int)*(-1)) ((n:Int)-((0:Nat):Int)) (-1):=by
  have e1:((n:Int)-1)+((0:Nat):Int)*(-1)=n-1:=by simp
  have e2:(n:Int)-((0:Nat):Int)=n:=by simp
  rw[e1,e2];exact Ì _ rfl
 refine aa9 (s:={ s1 with heap:=_ }) st ?_
 refine⟨s1.heap.objs.size,[s1.heap.objs.size],_,_,H1,rfl,I1.kept (t':=s1.toks) λb o e=>Á _ e,G5 _ n,st,λb hb=>?_,q⟩;have e:b=s1.heap.objs.size:=by simpa using hb
 subst e;exact I1.lQ (Nat.le_refl _) (I1.aF.fresh (Nat.le_refl _))
end
end L2
namespace HZ
open PySem PySem.Spec PyProof.Rows
section
variable {P:ù} {w:ď} {A:đ} {R:Result->É->Prop} {I:á} {fp wr:List á} {n:Nat} {Pv:Nat->Í->Prop} {St:Nat->ŏ->Prop} {kw:List (Str×Í)}
end
section
variable {P:ù} {w:ď} {A:đ} {E:Í->É->Prop} {s:É}
end
end HZ
namespace L2
open PySem PySem.Spec PyProof.Rows
section
variable {X:Cx} {p pos kp:Pos} {e d:ļ} {ta tk:TA}
end
end L2
namespace DI
open PySem L2
set_option genInjectivity true in
inductive D where
 |au|bl (b:Bool)|int (i:Int)|str (x:Str)|tup (ds:List D)|lst (ds:List D)|bb (ai:List (Key×Int))|aj (k:Nat)|ty (n:String)|bG (ns:List Int)
set_option genInjectivity true in
inductive Cell where
 |dead|lst (ds:List D)|dK (ai:List (Key×D))|dT (ai:List (D×Int))
noncomputable abbrev ag:=List Cell
noncomputable abbrev Env:=List (Option D)
structure bx where
 c:Str
 many:Option D
abbrev Res (α:Type):=Option (Except bx α×ag)
abbrev ok {α:Type} (a:α) (s:ag):Res α:=some (.ok a,s)
def ao {α β:Type} (r:Res α) (k:α->ag->Res β):Res β:=match r with
 |some (.ok a,s)=>k a s
 |some (.error x,s)=>some (.error x,s)
 |none=>none
@[simp] theorem dO {α β:Type} {a:α} {s:ag} {k:α->ag->Res β}:ao (some (.ok a,s)) k=k a s:=rfl
structure Wd where
 ρ:List á
 aI:ag
 H:Hp
def Wd.Z (w:Wd) (a:á):Prop:=∃(k:Nat) (c:Cell),w.ρ[k]?=some a/\w.aI[k]?=some c/\c≠.dead
def LstAt (w:Wd) (a:á) (xs:List V):Prop:=¬ w.Z a/\w.H a=some (.lst xs)
def LstAt.sq (h:LstAt w a xs):bu K w.H a xs:=bu.of h.2
def t9 (K:Ĳ) (w:Wd) (a:á) (xs:List V):Prop:=(¬ w.Z a/\Rd w.H a (.lst xs)) \/
 ∃(o:Obj) (its:Array Í) (n:Nat),K.lookup a=some o/\o.cls=.type "list"/\o.dict=none/\o.data=.seq its n/\its.size<=Õ/\Vals xs its.toList
def t9.sq (h:t9 K w a xs):bu K w.H a xs:=by
 rcases h with ⟨_,h⟩|h
 ·exact .inl h
 ·exact .inr h
mutual
def DV (K:Ĳ) (w:Wd):D->V->Prop
 | .au,v=>v=.au
 | .bl b,v=>v=.bl b
 | .int i,v=>v=.int i
 | .str x,v=>v=.str x
 | .tup ds,v=>∃a xs,v=.ref a/\aT K w.H a xs/\ar K w ds xs
 | .lst ds,v=>∃a xs,v=.ref a/\LstAt w a xs/\ar K w ds xs
 | .bb ai,v=>∃a,v=.ref a/\¬ w.Z a/\w.H a=some (.dK (ai.map λp=>(p.1,V.int p.2)))
 | .aj k,v=>∃a,w.ρ[k]?=some a/\v=.ref a
 | .ty n,v=>v=.ty n
 | .bG ns,v=>∃a,v=.ref a/\t9 K w a (ns.map V.int)
def ar (K:Ĳ) (w:Wd):List D->List V->Prop
 | [],vs=>vs=[]
 |d::ds,vs=>∃v r,vs=v::r/\DV K w d v/\ar K w ds r
end
structure Fw (K:Ĳ) (w w':Wd):Prop where
 DH:∀(k:Nat) a,w.ρ[k]?=some a->w'.ρ[k]?=some a
 tup:∀a xs,aT K w.H a xs->aT K w'.H a xs
 lst:∀a xs,¬ w.Z a->w.H a=some (.lst xs)->¬ w'.Z a/\w'.H a=some (.lst xs)
 cO:∀a o xs,¬ w.Z a->w.H a=some (.cO o (.lst xs))->¬ w'.Z a/\w'.H a=some (.cO o (.lst xs))
 bb:∀a es,¬ w.Z a->w.H a=some (.dK es)->¬ w'.Z a/\w'.H a=some (.dK es)
def Fw.JY (S:Fw K w w') (h:LstAt w a xs):LstAt w' a xs:=S.lst a xs h.1 h.2
def Fw.VZ (S:Fw K w w') (h:t9 K w a xs):t9 K w' a xs:=by
 rcases h with ⟨h1,h2 | ⟨o,h2⟩⟩|h
 ·have q:=S.lst a xs h1 h2
  exact .inl ⟨q.1,.inl q.2⟩
 ·have q:=S.cO a o xs h1 h2
  exact .inl ⟨q.1,.inr ⟨o,q.2⟩⟩
 ·exact .inr h
mutual
def DV.fw (S:Fw K w w'):∀{d:D} {v:V},DV K w d v->DV K w' d v
 | .au,_,h=>h
 | .bl _,_,h=>h
 | .int _,_,h=>h
 | .str _,_,h=>h
 | .tup ds,v,h=>by
  simp only[DV] at h |-;obtain⟨a,xs,e,hq,r⟩:=h;exact⟨a,xs,e,S.tup a xs hq,ar.fw S r⟩
 | .lst ds,v,h=>by
  simp only[DV] at h |-;obtain⟨a,xs,e,hq,r⟩:=h;exact⟨a,xs,e,S.JY hq,ar.fw S r⟩
 | .bb ai,v,h=>by
  simp only[DV] at h |-;obtain⟨a,e,hz,hq⟩:=h;obtain⟨h1,h2⟩:=S.bb a _ hz hq;exact⟨a,e,h1,h2⟩
 | .aj k,v,h=>by
  simp only[DV] at h |-;obtain⟨a,e,e2⟩:=h;exact⟨a,S.DH k a e,e2⟩
 | .ty _,_,h=>h
 | .bG ns,v,h=>by
  simp only[DV] at h |-;obtain⟨a,e,hq⟩:=h;exact⟨a,e,S.VZ hq⟩
def ar.fw (S:Fw K w w'):∀{ds:List D} {vs:List V},ar K w ds vs->ar K w' ds vs
 | [],_,h=>h
 |d::ds,vs,h=>by
  simp only[ar] at h |-;obtain⟨v,r,e,h1,h2⟩:=h;exact⟨v,r,e,DV.fw S h1,ar.fw S h2⟩
end
structure Le (K:Ĳ) (w w':Wd):Prop where
 dv:∀d v,DV K w d v->DV K w' d v
 lst:∀a xs,LstAt w a xs->LstAt w' a xs
 tup:∀a xs,aT K w.H a xs->aT K w'.H a xs
noncomputable instance {K:Ĳ} {w w':Wd}:CoeFun (Le K w w') (λ_=>∀d v,DV K w d v->DV K w' d v):=⟨Le.dv⟩
def Le.refl (w:Wd):Le K w w:=⟨λ_ _ h=>h,λ_ _ h=>h,λ_ _ h=>h⟩
def Le.trans (h:Le K a b) (g:Le K b c):Le K a c:=⟨λd v x=>g.dv d v (h.dv d v x),λp xs x=>g.lst p xs (h.lst p xs x),λp xs x=>g.tup p xs (h.tup p xs x)⟩
def Fw.le (S:Fw K w w'):Le K w w':=⟨λ_ _ h=>h.fw S,λ_ _ h=>S.JY h,S.tup⟩
def Le.all (h:Le K w w'):∀{ds:List D} {vs:List V},ar K w ds vs->ar K w' ds vs
 | [],_,x=>x
 |d::ds,vs,x=>by
  simp only[ar] at x |-;obtain⟨v,r,e,h1,h2⟩:=x;exact⟨v,r,e,h d v h1,Le.all h h2⟩
def ar.length:∀{ds:List D} {vs:List V},ar K w ds vs->ds.length=vs.length
 | [],vs,h=>by
  have e:vs=[]:=h;subst e;rfl
 |d::ds,vs,h=>by
  obtain⟨v,r,e,_,h2⟩:=h;subst e;simp[ar.length h2]
def ar.get:∀{ds:List D} {vs:List V},ar K w ds vs->∀(i:Nat) v,vs[i]?=some v->∃d,ds[i]?=some d/\DV K w d v
 | [],vs,h,i,v,e=>by
  have e':vs=[]:=h;subst e';simp at e
 |d::ds,vs,h,i,v,e=>by
  obtain⟨u,r,e',h1,h2⟩:=h;subst e'
  cases i with
  |zero =>
   have:u=v:=by simpa using e
   subst this;exact⟨d,rfl,h1⟩
  |succ i=>exact ar.get h2 i v (by simpa using e)
def ar.get':∀{ds:List D} {vs:List V},ar K w ds vs->∀(i:Nat) d,ds[i]?=some d->∃v,vs[i]?=some v/\DV K w d v
 | [],vs,h,i,d,e=>by simp at e
 |d::ds,vs,h,i,d',e=>by
  obtain⟨u,r,e',h1,h2⟩:=h;subst e'
  cases i with
  |zero =>
   have:d=d':=by simpa using e
   subst this;exact⟨u,rfl,h1⟩
  |succ i=>exact ar.get' h2 i d' (by simpa using e)
def ar.append:∀{ds es:List D} {vs ws:List V},ar K w ds vs->ar K w es ws->ar K w (ds++es) (vs++ws)
 | [],es,vs,ws,h,h'=>by
  have e:vs=[]:=h;subst e;exact h'
 |d::ds,es,vs,ws,h,h'=>by
  obtain⟨v,r,e,h1,h2⟩:=h;subst e;exact⟨v,r++ws,rfl,h1,ar.append h2 h'⟩
def ar.take:∀{ds:List D} {vs:List V} (n:Nat),ar K w ds vs->ar K w (ds.take n) (vs.take n)
 | [],vs,n,h=>by
  have e:vs=[]:=h;subst e;simp[ar]
 |d::ds,vs,0,h=>by simp[ar]
 |d::ds,vs,n+1,h=>by
  obtain⟨v,r,e,h1,h2⟩:=h;subst e;exact⟨v,r.take n,rfl,h1,ar.take n h2⟩
def ar.drop:∀{ds:List D} {vs:List V} (n:Nat),ar K w ds vs->ar K w (ds.drop n) (vs.drop n)
 | [],vs,n,h=>by
  have e:vs=[]:=h;subst e;simp[ar]
 |d::ds,vs,0,h=>h
 |d::ds,vs,n+1,h=>by
  obtain⟨v,r,e,h1,h2⟩:=h;subst e;exact ar.drop n h2
def ar.reverse:∀{ds:List D} {vs:List V},ar K w ds vs->ar K w ds.reverse vs.reverse
 | [],vs,h=>by
  have e:vs=[]:=h;subst e;simp[ar]
 |d::ds,vs,h=>by
  obtain⟨v,r,e,h1,h2⟩:=h;subst e;rw[List.reverse_cons,List.reverse_cons];exact ar.append (ar.reverse h2) ⟨v,[],rfl,h1,rfl⟩
def ar.set (hd:DV K w d v):∀{ds:List D} {vs:List V} (i:Nat),ar K w ds vs->ar K w (ds.set i d) (vs.set i v)
 | [],vs,i,h=>by
  have e:vs=[]:=h;subst e;simp[ar]
 |d'::ds,vs,0,h=>by
  obtain⟨u,r,e,h1,h2⟩:=h;subst e;exact⟨v,r,rfl,hd,h2⟩
 |d'::ds,vs,i+1,h=>by
  obtain⟨u,r,e,h1,h2⟩:=h;subst e;exact⟨u,r.set i v,rfl,h1,ar.set hd i h2⟩
def ar.one (h:DV K w d v):ar K w [d] [v]:=⟨v,[],rfl,h,rfl⟩
def ar.two (h:DV K w d v) (h':DV K w d' v'):ar K w [d,d'] [v,v']:=⟨v,_,rfl,h,ar.one h'⟩
def ar.ints:∀(ns:List Int),ar K w (ns.map D.int) (ns.map V.int)
 | []=>rfl
 |n::ns=>⟨.int n,_,rfl,rfl,ar.ints ns⟩
def ar.G6:∀{ns:List Int} {vs:List V},ar K w (ns.map D.int) vs->vs=ns.map V.int
 | [],_,h=>h
 |n::ns,vs,h=>by
  obtain⟨v,r,e,h1,h2⟩:=h;have e1:v=.int n:=h1;rw[e,e1,ar.G6 h2];rfl
def ar.AN:∀{bs:List Bool} {vs:List V},ar K w (bs.map D.bl) vs->vs=bs.map V.bl
 | [],_,h=>h
 |n::ns,vs,h=>by
  obtain⟨v,r,e,h1,h2⟩:=h;have e1:v=.bl n:=h1;rw[e,e1,ar.AN h2];rfl
def DX (a:á) (es:List (Int×á)) (h:ŏ):Prop:=(a==ł)=false/\∃(o:Obj) (xs:Array ab9) (ep:Nat),h.get? a=some o/\o.ExactDict/\o.data=.dict xs ep/\xs.toList=es.map λp=>(⟨p.1,.ref p.2,.bool true⟩:ab9)
def qZ (K:Ĳ) (w:Wd) (a:á):Cell->Prop
 | .dead=>True
 | .lst ds=>∃xs,w.H a=some (.lst xs)/\ar K w ds xs
 | .dK ai=>∃es:List (Key×V),w.H a=some (.dK es)/\es.map (·.1)=ai.map (·.1)/\ar K w (ai.map (·.2)) (es.map (·.2))
 | .dT ai=>∃as:List á,w.H a=some (.ext (DX a ((ai.map (·.2)).zip as)))/\ar K w (ai.map (·.1)) (as.map V.ref)/\(ai.map (·.1)).Nodup
structure aM (K:Ĳ) (w:Wd):Prop where
 len:w.ρ.length=w.aI.length
 nd:w.ρ.Nodup
 there:∀(k:Nat) a,w.ρ[k]?=some a->w.H a≠none
 cell:∀(k:Nat) a c,w.ρ[k]?=some a->w.aI[k]?=some c->qZ K w a c
def qZ.le (h:qZ K w a c) (le:Le K w w') (e:c≠.dead->w'.H a=w.H a):qZ K w' a c:=by
 cases c with
 |dead=>trivial
 |lst ds =>
  obtain⟨xs,h1,h2⟩:=h;exact⟨xs,(e (by intro z;cases z)).trans h1,le.all h2⟩
 |dK ai =>
  obtain⟨es,h1,h2,h3⟩:=h;exact⟨es,(e (by intro z;cases z)).trans h1,h2,le.all h3⟩
 |dT ai =>
  obtain⟨as,h1,h2,h3⟩:=h;exact⟨as,(e (by intro z;cases z)).trans h1,le.all h2,h3⟩
section
variable {K:Ĳ} {w:Wd}
def Wd.grow (w:Wd) (p:á) (o:HO):Wd:={ w with H:=upd w.H p o }
def Rd.grow (hp:H p=none) (h:Rd H a u):Rd (upd H p o) a u:=by
 rcases h with h | ⟨ob,h⟩
 ·exact .inl (by rw[bt (ff h hp)];exact h)
 ·exact .inr ⟨ob,by rw[bt (ff h hp)];exact h⟩
def aT.grow (hp:H p=none) (h:aT K H a xs):aT K (upd H p o) a xs:=by
 rcases h with h|h
 ·exact .inl (Rd.grow hp h)
 ·exact .inr h
def Fw.grow (hp:w.H p=none):Fw K w (w.grow p o) where
 DH:=λ_ _ e=>e
 tup:=λa xs h=>aT.grow hp h
 lst:=λa xs hz h=>⟨hz,by show upd w.H p o a=_;rw[bt (ff h hp)];exact h⟩
 cO:=λa ob xs hz h=>⟨hz,by show upd w.H p o a=_;rw[bt (ff h hp)];exact h⟩
 bb:=λa es hz h=>⟨hz,by show upd w.H p o a=_;rw[bt (ff h hp)];exact h⟩
def aM.grow (S:aM K w) (hp:w.H p=none):aM K (w.grow p o) where
 len:=S.len
 nd:=S.nd
 there:=λk a e=>by
  have h:=S.there k a e;show upd w.H p o a≠none;unfold upd;split
  ·intro z;cases z
  ·exact h
 cell:=λk a c e1 e2=>(S.cell k a c e1 e2).le (Fw.grow hp).le λ_=>by
  have h:=S.there k a e1;show upd w.H p o a=w.H a;rw[bt];intro z;rw[z] at h;exact h hp
def Wd.cell (w:Wd) (p:á) (o:HO) (c:Cell):Wd:=⟨w.ρ++[p],w.aI++[c],upd w.H p o⟩
def Wd.Bb (S:aM K w) (h:(w.cell p o c).Z a):w.Z a\/a=p:=by
 obtain⟨k,c',e1,e2,e3⟩:=h;have e1:(w.ρ++[p])[k]?=some a:=e1;have e2:(w.aI++[c])[k]?=some c':=e2;by_cases hk:k<w.ρ.length
 ·rw[ä hk] at e1
  rw[ä (by rw[<- S.len];exact hk)] at e2;exact .inl ⟨k,c',e1,e2,e3⟩
 ·rw[ü (by omega)] at e1
  right
  cases hj:k-w.ρ.length with
  |zero=>rw[hj] at e1;exact(Option.some.inj e1).symm
  |succ j=>rw[hj] at e1;cases e1
def Fw.cell (S:aM K w) (hp:w.H p=none):Fw K w (w.cell p o c) where
 DH:=λk a e=>by
  show (w.ρ++[p])[k]?=some a;rw[ä (Å.mp e).1];exact e
 tup:=λa xs h=>aT.grow hp h
 lst:=λa xs hz h=>⟨λz=>(Wd.Bb S z).elim hz (λe=>by (subst e;rw[hp] at h;cases h)),by show upd w.H p o a=_;rw[bt (ff h hp)];exact h⟩
 cO:=λa ob xs hz h=>⟨λz=>(Wd.Bb S z).elim hz (λe=>by (subst e;rw[hp] at h;cases h)),by show upd w.H p o a=_;rw[bt (ff h hp)];exact h⟩
 bb:=λa es hz h=>⟨λz=>(Wd.Bb S z).elim hz (λe=>by (subst e;rw[hp] at h;cases h)),by show upd w.H p o a=_;rw[bt (ff h hp)];exact h⟩
def aM.BL (S:aM K w) (hp:w.H p=none) (hc:qZ K (w.cell p o c) p c):aM K (w.cell p o c) where
 len:=by show (w.ρ++[p]).length=(w.aI++[c]).length;simp[S.len]
 nd:=by
  show (w.ρ++[p]).Nodup;rw[aav];refine⟨S.nd,by simp,λa ha b hb=>?_⟩;obtain⟨k,e⟩:=List.getElem?_of_mem ha;have h:=S.there k a e;have e':b=p:=by simpa using hb
  rw[e'];intro z;rw[z] at h;exact h hp
 there:=λk a e=>by
  have e:(w.ρ++[p])[k]?=some a:=e;show upd w.H p o a≠none;unfold upd;split
  ·intro z;cases z
  ·rename_i fF
   by_cases hk:k<w.ρ.length
   ·rw[ä hk] at e
    exact S.there k a e
   ·rw[ü (by omega)] at e
    cases hj:k-w.ρ.length with
    |zero=>rw[hj] at e;exact absurd (Option.some.inj e).symm fF
    |succ j=>rw[hj] at e;cases e
 cell:=λk a c' e1 e2=>by
  have e1:(w.ρ++[p])[k]?=some a:=e1;have e2:(w.aI++[c])[k]?=some c':=e2;by_cases hk:k<w.ρ.length
  ·rw[ä hk] at e1
   rw[ä (by rw[<- S.len];exact hk)] at e2;refine(S.cell k a c' e1 e2).le (Fw.cell S hp).le λ_=>?_;have h:=S.there k a e1;show upd w.H p o a=w.H a;rw[bt];intro z;rw[z] at h;exact h hp
  ·rw[ü (by omega)] at e1
   rw[ü (by rw[<- S.len];omega)] at e2;rw[<- S.len] at e2
   cases hj:k-w.ρ.length with
   |zero =>
    rw[hj] at e1 e2;have e1:p=a:=Option.some.inj e1;have e2:c=c':=Option.some.inj e2;subst e1 e2;exact hc
   |succ j=>rw[hj] at e1;cases e1
def Wd.same (w:Wd) (H':Hp):Wd:={ w with H:=H' }
def Fw.same (e:kG w.H H'):Fw K w (w.same H') :=
 ⟨λ_ _ e=>e,λa xs h=>e.XX h,λa xs hz h=>⟨hz,e _ _ h⟩,λa o xs hz h=>⟨hz,e _ _ h⟩,λa es hz h=>⟨hz,e _ _ h⟩⟩
def aM.same (S:aM K w) (e:kG w.H H'):aM K (w.same H') where
 len:=S.len
 nd:=S.nd
 there:=λk a q=>by
  have h:=S.there k a q;show H' a≠none
  cases hq:w.H a with
  |none=>exact absurd hq h
  |some o=>rw[e _ _ hq];intro z;cases z
 cell:=λk a c e1 e2=>(S.cell k a c e1 e2).le (Fw.same e).le λ_=>by
  have h:=S.there k a e1;show H' a=w.H a
  cases hq:w.H a with
  |none=>exact absurd hq h
  |some o=>exact e _ _ hq
def Wd.put (w:Wd) (k:Nat) (a:á) (o:HO) (c:Cell):Wd:=⟨w.ρ,w.aI.set k c,upd w.H a o⟩
def FD {α:Type} {l:List α} (nd:l.Nodup) {i j:Nat} {a:α} (h1:l[i]?=some a) (h2:l[j]?=some a):i=j:=by
 exact(List.getElem?_inj (Å.mp h1).1 nd).mp (h1.trans h2.symm)
def Wd.BM (h0:w.ρ[k]?=some a) (h1:w.aI[k]?=some c0) (h2:c0≠.dead) (h:(w.put k a o c).Z b):w.Z b:=by
 obtain⟨j,c',e1,e2,e3⟩:=h;have e1:w.ρ[j]?=some b:=e1;have e2:(w.aI.set k c)[j]?=some c':=e2;by_cases hj:k=j
 ·subst hj
  exact⟨k,c0,e1,h1,h2⟩
 ·rw[Ø hj] at e2
  exact⟨j,c',e1,e2,e3⟩
def Fw.put (S:aM K w) (h0:w.ρ[k]?=some a) (h1:w.aI[k]?=some c0) (h2:c0≠.dead):Fw K w (w.put k a o c):=by
 have hz:w.Z a:=⟨k,c0,h0,h1,h2⟩;have nt:∀xs,¬ Rd w.H a (.tup xs):=λxs h=>by
  have q:=S.cell k a c0 h0 h1
  cases c0 with
  |dead=>exact h2 rfl
  |lst ds=>obtain⟨ys,e,_⟩:=q;rcases h with h | ⟨_,h⟩<;>(rw[e] at h;cases h)
  |dK ai=>obtain⟨ys,e,_⟩:=q;rcases h with h | ⟨_,h⟩<;>(rw[e] at h;cases h)
  |dT ai=>obtain⟨ys,e,_⟩:=q;rcases h with h | ⟨_,h⟩<;>(rw[e] at h;cases h)
 refine⟨λ_ _ e=>e,λb xs h=>?_,λb xs hb h=>⟨λz=>hb (Wd.BM h0 h1 h2 z),?_⟩,λb ob xs hb h=>⟨λz=>hb (Wd.BM h0 h1 h2 z),?_⟩,λb es hb h=>⟨λz=>hb (Wd.BM h0 h1 h2 z),?_⟩⟩
 ·rcases h with h|h
  ·have ne:b≠a:=λe=>by subst e;exact nt xs h
   refine .inl ?_
   rcases h with h | ⟨ob,h⟩
   ·exact .inl (by show upd w.H a o b=_;rw[bt ne];exact h)
   ·exact .inr ⟨ob,by show upd w.H a o b=_;rw[bt ne];exact h⟩
  ·exact .inr h
 ·have ne:b≠a:=λe=>by subst e;exact hb hz
  show upd w.H a o b=_;rw[bt ne];exact h
 ·have ne:b≠a:=λe=>by subst e;exact hb hz
  show upd w.H a o b=_;rw[bt ne];exact h
 ·have ne:b≠a:=λe=>by subst e;exact hb hz
  show upd w.H a o b=_;rw[bt ne];exact h
def aM.CK {k:Nat} {a:á} {o:HO} {c c0:Cell} (S:aM K w) (h0:w.ρ[k]?=some a) (h1:w.aI[k]?=some c0) (h2:c0≠.dead) (hc:qZ K (w.put k a o c) a c):aM K (w.put k a o c) where
 len:=by show w.ρ.length=(w.aI.set k c).length;rw[Ĝ];exact S.len
 nd:=S.nd
 there:=λj b e=>by
  show upd w.H a o b≠none;unfold upd;split
  ·intro z;cases z
  ·exact S.there j b e
 cell:=λj b c' e1 e2=>by
  have e1:w.ρ[j]?=some b:=e1;have e2:(w.aI.set k c)[j]?=some c':=e2;by_cases hj:k=j
  ·subst hj
   rw[h0] at e1;have e1:a=b:=Option.some.inj e1;rw[ã (Å.mp h1).1] at e2;have e2:c=c':=Option.some.inj e2;subst e1 e2;exact hc
  ·rw[Ø hj] at e2
   refine(S.cell j b c' e1 e2).le (Fw.put S h0 h1 h2).le λ_=>?_;show upd w.H a o b=w.H b;rw[bt];intro z;subst z;exact hj (FD S.nd h0 e1)
noncomputable def Wd.freeze (w:Wd) (k:Nat):Wd:={ w with aI:=w.aI.set k .dead }
def Wd.Ad (h:(w.freeze k).Z b):w.Z b:=by
 obtain⟨j,c',e1,e2,e3⟩:=h;have e2:(w.aI.set k .dead)[j]?=some c':=e2;by_cases hj:k=j
 ·subst hj
  have hl:=(Å.mp e2).1;rw[Ĝ] at hl;rw[ã hl] at e2;exact absurd (Option.some.inj e2).symm e3
 ·rw[Ø hj] at e2
  exact⟨j,c',e1,e2,e3⟩
def Fw.freeze:Fw K w (w.freeze k) :=
 ⟨λ_ _ e=>e,λ_ _ h=>h,λ_ _ hz h=>⟨λz=>hz (Wd.Ad z),h⟩,λ_ _ _ hz h=>⟨λz=>hz (Wd.Ad z),h⟩,λ_ _ hz h=>⟨λz=>hz (Wd.Ad z),h⟩⟩
def aM.freeze (S:aM K w):aM K (w.freeze k) where
 len:=by show w.ρ.length=(w.aI.set k .dead).length;rw[Ĝ];exact S.len
 nd:=S.nd
 there:=S.there
 cell:=λj b c' e1 e2=>by
  have e2:(w.aI.set k .dead)[j]?=some c':=e2;by_cases hj:k=j
  ·subst hj
   have hl:=(Å.mp e2).1;rw[Ĝ] at hl;rw[ã hl] at e2;rw[<- Option.some.inj e2];trivial
  ·rw[Ø hj] at e2
   exact(S.cell j b c' e1 e2).le Fw.freeze.le λ_=>rfl
def Wd.OZ {k:Nat} {a:á} (S:aM K w) (h:w.ρ[k]?=some a):¬ (w.freeze k).Z a:=by
 rintro ⟨j,c',e1,e2,e3⟩;have e1:w.ρ[j]?=some a:=e1;have e2:(w.aI.set k .dead)[j]?=some c':=e2;have hj:=FD S.nd h e1;subst hj;have hl:=(Å.mp e2).1;rw[Ĝ] at hl;rw[ã hl] at e2;exact e3 (Option.some.inj e2).symm
end
structure bZ (K:Ĳ) (w:Wd) (env:Env) (σ:St):Prop where
 len:env.length=σ.length
 val:∀(i:Nat) d,env[i]?=some (some d)->∃v,σ[i]?=some (some v)/\DV K w d v
def bZ.le (h:bZ K w env σ) (le:Le K w w'):bZ K w' env σ :=
 ⟨h.len,λi d e=>by obtain⟨v,e1,e2⟩:=h.val i d e;exact⟨v,e1,le d v e2⟩⟩
def bZ.set (h:bZ K w env σ) (hd:DV K w d v) (i:Nat):bZ K w (env.set i (some d)) (σ.set i (some v)):=by
 refine⟨by rw[Ĝ,Ĝ];exact h.len,λj d' e=>?_⟩;by_cases hj:i=j
 ·subst hj
  have hl:=(Å.mp e).1;rw[Ĝ] at hl;rw[ã hl] at e;have e:d=d':=Option.some.inj (Option.some.inj e);subst e;exact⟨v,by rw[ã (by rw[<- h.len];exact hl)],hd⟩
 ·rw[Ø hj] at e
  rw[Ø hj];exact h.val j d' e
def Out (K:Ĳ) (Ξ:Wd->bx->Prop) (w:Wd) {α:Type} (r:Res α) (k:Wd->α->Prop):Prop:=match r with
 |none=>False
 |some (.ok a,s)=>∀w',Le K w w'->aM K w'->w'.aI=s->k w' a
 |some (.error x,s)=>∀w',Le K w w'->aM K w'->w'.aI=s->Ξ w' x
section
variable {K:Ĳ} {Ξ:Wd->bx->Prop} {w w':Wd} {α β:Type} {r:Res α} {k k':Wd->α->Prop}
def Out.from (h:Out K Ξ w r k) (le:Le K w w'):Out K Ξ w' r k:=by
 unfold Out at h |-
 split<;>simp only at h
 ·exact λw2 l2 o2 e2=>h w2 (le.trans l2) o2 e2
 ·exact λw2 l2 o2 e2=>h w2 (le.trans l2) o2 e2
def Out.mono (h:Out K Ξ w r k) (hk:∀w2 a,Le K w w2->aM K w2->k w2 a->k' w2 a):Out K Ξ w r k':=by
 unfold Out at h |-
 split<;>simp only at h
 ·exact λw2 l2 o2 e2=>hk w2 _ l2 o2 (h w2 l2 o2 e2)
 ·exact h
def Out.ao {q:Wd->β->Prop} (h:Out K Ξ w (DI.ao r g) q):Out K Ξ w r (λw2 a=>Out K Ξ w2 (g a w2.aI) q):=by
 match r,h with
 |some (.ok a,s),h =>
  intro w2 l2 o2 e2;rw[e2];exact Out.from h l2
 |some (.error x,s),h=>exact h
def Out.done (h:Out K Ξ w (some (.ok a,w.aI)) k) (S:aM K w):k w a:=h w (Le.refl w) S rfl
end
end DI
namespace DI
open PySem L2
def tE (K:Ĳ) (Ξ:Wd->bx->Prop) (f:Env->ag->Res D):TE:=fun σ H Q=>∃w env,w.H=H/\aM K w/\bZ K w env σ/\Out K Ξ w (f env w.aI) λw' d=>∀v,DV K w' d v->Q v w'.H
def tT (K:Ĳ) (Ξ:Wd->bx->Prop) (f:Env->ag->Res Bool):TT:=fun σ H Q=>∃w env,w.H=H/\aM K w/\bZ K w env σ/\Out K Ξ w (f env w.aI) λw' b=>Q b w'.H
def tA (K:Ĳ) (Ξ:Wd->bx->Prop) (f:Env->ag->Res (List D)):TA:=fun σ H Q=>∃w env,w.H=H/\aM K w/\bZ K w env σ/\Out K Ξ w (f env w.aI) λw' ds=>∀vs,ar K w' ds vs->Q vs w'.H
def rO (K:Ĳ) (Ξ:Wd->bx->Prop) (o:D->D->ag->Res D):R2:=λx y H Q=>∃w dx dy,w.H=H/\aM K w/\DV K w dx x/\DV K w dy y/\Out K Ξ w (o dx dy w.aI) λw' d=>∀v,DV K w' d v->Q v w'.H
def rU (K:Ĳ) (Ξ:Wd->bx->Prop) (o:D->ag->Res D):V->Hp->VK->Prop:=λx H Q=>∃w dx,w.H=H/\aM K w/\DV K w dx x/\Out K Ξ w (o dx w.aI) λw' d=>∀v,DV K w' d v->Q v w'.H
def rC (K:Ĳ) (Ξ:Wd->bx->Prop) (o:List D->ag->Res D):List V->Hp->VK->Prop:=λxs H Q=>∃w ds,w.H=H/\aM K w/\ar K w ds xs/\Out K Ξ w (o ds w.aI) λw' d=>∀v,DV K w' d v->Q v w'.H
def aa (i:Nat):Env->ag->Res D:=λenv s=>match env[i]? with
 |some (some d)=>ok d s
 |_=>none
def eC (d:D):Env->ag->Res D:=λ_ s=>ok d s
def e1 (o:D->ag->Res D) (f:Env->ag->Res D):Env->ag->Res D:=λenv s=>ao (f env s) λx s=>o x s
def e2 (o:D->D->ag->Res D) (f g:Env->ag->Res D):Env->ag->Res D:=λenv s=>ao (f env s) λx s=>ao (g env s) λy s=>o x y s
def ah:Env->ag->Res (List D):=λ_ s=>ok [] s
def ae (f:Env->ag->Res D) (g:Env->ag->Res (List D)):Env->ag->Res (List D):=λenv s=>ao (f env s) λx s=>ao (g env s) λxs s=>ok (x::xs) s
def eB (o:List D->ag->Res D) (f:Env->ag->Res (List D)):Env->ag->Res D:=λenv s=>ao (f env s) λds s=>o ds s
def iX {α:Type} (ds:List D) (r:Res α):Res α:=if ds.length<=Õ then r else none
def aZ (f:Env->ag->Res (List D)):Env->ag->Res D:=λenv s=>ao (f env s) λds s=>iX ds (ok (.tup ds) s)
def fM (f:Env->ag->Res (List D)):Env->ag->Res D:=λenv s=>ao (f env s) λds s=>iX ds (ok (.lst ds) s)
def eNew (f:Env->ag->Res (List D)):Env->ag->Res D:=λenv s=>ao (f env s) λds s=>iX ds (ok (.aj s.length) (s++[.lst ds]))
def cO:D->ag->Res D:=λd s=>match d with
 | .aj k=>match s[k]? with
  |some (.lst ds)=>ok (.lst ds) (s.set k .dead)
  |_=>none
 |_=>none
def jX (f:Env->ag->Res D):Env->ag->Res D:=λenv s=>ao (f env s) cO
def gp (d:D) (s:ag):Res Bool:=match d with
 | .bl b=>ok b s
 |_=>none
def aH (f:Env->ag->Res D):Env->ag->Res Bool:=λenv s=>ao (f env s) gp
def truth (d:D) (s:ag):Res Bool:=match d with
 | .au=>ok false s
 | .bl b=>ok b s
 | .int i=>ok (i != 0) s
 | .str x=>if x.length<=Õ then ok ((x.length:Int) != 0) s else none
 | .tup ds=>ok (!ds.isEmpty) s
 | .lst ds=>ok (!ds.isEmpty) s
 | .bb ai=>ok (!ai.isEmpty) s
 | .aj k=>match s[k]? with
  |some (.lst ds)=>ok (!ds.isEmpty) s
  |some (.dK ai)=>ok (!ai.isEmpty) s
  |_=>none
 | .ty _=>none
 | .bG _=>none
def cN (f:Env->ag->Res D):Env->ag->Res Bool:=λenv s=>ao (f env s) truth
def cK (f g:Env->ag->Res Bool):Env->ag->Res Bool:=λenv s=>ao (f env s) λb s=>if b=true then g env s else ok false s
def fQ (f g:Env->ag->Res Bool):Env->ag->Res Bool:=λenv s=>ao (f env s) λb s=>if b=true then ok true s else g env s
def fk (f:Env->ag->Res Bool):Env->ag->Res Bool:=λenv s=>ao (f env s) λb s=>ok (!b) s
def cL (f g:Env->ag->Res D):Env->ag->Res D:=λenv s=>ao (f env s) λx s=>ao (gp x s) λb s=>if b=true then g env s else ok (.bl false) s
def kT (f g:Env->ag->Res D):Env->ag->Res D:=λenv s=>ao (f env s) λx s=>ao (gp x s) λb s=>if b=true then ok (.bl true) s else g env s
def pN (f:Env->ag->Res D):Env->ag->Res D:=λenv s=>ao (f env s) λx s=>ao (gp x s) λb s=>ok (.bl (!b)) s
def yV (c:Env->ag->Res Bool) (f g:Env->ag->Res D):Env->ag->Res D:=λenv s=>ao (c env s) λb s=>if b=true then f env s else g env s
def mQ (o o':D->D->ag->Res D) (f g h:Env->ag->Res D):Env->ag->Res D:=λenv s=>ao (f env s) λx s=>ao (g env s) λy s=>ao (o x y s) λz s=>ao (gp z s) λb s =>
 if b=true then ao (h env s) λu s=>o' y u s else ok (.bl false) s
section
variable {X:Cx} {Ξ:Wd->bx->Prop} {e a b c:ļ} {es rest:List ļ} {pos:Pos} {f g h:Env->ag->Res D} {fa:Env->ag->Res (List D)} {ft gt:Env->ag->Res Bool}
def cQ {t t':TE} (h:PE X e t) (i:∀ σ H Q,t' σ H Q->t σ H Q):PE X e t':=λπ s σ H Q I hq=>h π s σ H Q I (i σ H Q hq)
def xB {t t':TT} (h:PT X e t) (i:∀ σ H Q,t' σ H Q->t σ H Q):PT X e t':=λπ s σ H Q I hq=>h π s σ H Q I (i σ H Q hq)
def Ji {t t':TT} (h:PW X e t) (i:∀ σ H Q,t' σ H Q->t σ H Q):PW X e t':=λwh π s σ H Q I hq=>h wh π s σ H Q I (i σ H Q hq)
def Jj {t t':TA} (h:PA X es t) (i:∀ σ H Q,t' σ H Q->t σ H Q):PA X es t':=λp π s σ H Q I hq=>h p π s σ H Q I (i σ H Q hq)
def jl (h:PS X st t) (i:∀D σ H,t' D σ H->t D σ H):PS X st t':=λπ s σ H D I hq=>h π s σ H D I (i D σ H hq)
def HW (h:eT X st t) (i:∀D σ H,t' D σ H->t D σ H):eT X st t':=λπ s σ H D I hq=>h π s σ H D I (i D σ H hq)
def aJ {α:Type} {K:Ĳ} {w:Wd} {a:α} {k:Wd->α->Prop} (S:aM K w) (h:Out K Ξ w (ok a w.aI) k):k w a:=h w (Le.refl w) S rfl
def af (i:Nat) {x:Str} (hN:X.N[i]?=some x:=by rfl) (hv:uT X.env.scope x:=by first|exact Ŧ rfl|exact Or.inr (Ŧ rfl)|exact Or.inr (Or.inr rfl)) (hd:(x==("__debug__":Str))=false:=by decide)
  (kO:(x==("__classdict__":Str))=false:=by decide):PE X (.Name x pos) (tE X.K Ξ (aa i)):=cQ (Tu hN hv hd kO) fun σ H Q aA=>by
 obtain⟨w,env,eH,S,eo,h⟩:=aA;unfold aa at h;split at h
 ·rename_i d he
  obtain⟨v,e1,e2⟩:=eo.val i d he;subst eH;exact⟨v,e1,aJ S h v e2⟩
 ·exact h.elim
def rD {d:D} {v:V} (h:PE X e (tC v)) (hd:∀w,DV X.K w d v):PE X e (tE X.K Ξ (eC d)):=cQ h fun σ H Q aA=>by
 obtain⟨w,env,eH,S,eo,h⟩:=aA;subst eH;exact aJ S h v (hd w)
def aw {i j}:PE X (.Constant (.int i) j pos) (tE X.K Ξ (eC (.int i))):=rD IT λ_=>rfl
def dY {b j}:PE X (.Constant (.bool b) j pos) (tE X.K Ξ (eC (.bl b))):=rD Vj λ_=>rfl
def xS {j}:PE X (.Constant .none j pos) (tE X.K Ξ (eC .au)):=rD IU λ_=>rfl
def gH {x j}:PE X (.Constant (.str x) j pos) (tE X.K Ξ (eC (.str x))):=rD IV λ_=>rfl
def xj (σ:St) (H:Hp) (Q:VK):tE K Ξ (e2 o f g) σ H Q->u5 (rO K Ξ o) (tE K Ξ f) (tE K Ξ g) σ H Q:=by
 rintro ⟨w,env,rfl,S,eo,h⟩;exact⟨w,env,rfl,S,eo,(Out.ao h).mono λw1 x l1 S1 h1 v1 fZ=>⟨w1,env,rfl,S1,eo.le l1,(Out.ao h1).mono λw2 y l2 S2 h2 v2 jc=>⟨w2,x,y,rfl,S2,l2 _ _ fZ,jc,h2⟩⟩⟩
def bI (ho:aY X (ŋ op) (rO X.K Ξ o)) (ha:PE X a (tE X.K Ξ f)) (hb:PE X b (tE X.K Ξ g)):PE X (.BinOp a op b pos) (tE X.K Ξ (e2 o f g)):=cQ (Vt ho ha hb) xj
def eJ (ho:aY X (Č op) (rO X.K Ξ o)) (ha:PE X a (tE X.K Ξ f)) (hb:PE X b (tE X.K Ξ g)) (hm:aaX op b=false):PE X (.Compare a [op] [b] pos) (tE X.K Ξ (e2 o f g)):=cQ (RL ho ha hb hm) xj
def Jk {K:Ĳ} (σ:St) (H:Hp) (Q:Bool->Hp->Prop):tT K Ξ (aH f) σ H Q->t4 (tE K Ξ f) σ H Q:=by
 rintro ⟨w,env,rfl,S,eo,h⟩;refine⟨w,env,rfl,S,eo,(Out.ao h).mono λw1 x l1 S1 h1 v1 fZ=>?_⟩
 cases x with
 |bl b =>
  have e:v1=.bl b:=fZ;exact⟨b,e,aJ S1 h1⟩
 |_=>exact h1.elim
def F4 (i:∀ σ H Q,t' σ H Q->t σ H Q) (σ:St) (H:Hp) (Q:Bool->Hp->Prop):t4 t' σ H Q->t4 t σ H Q:=λh=>i _ _ _ h
def bC (ho:aY X (Č op) (rO X.K Ξ o)) (ha:PE X a (tE X.K Ξ f)) (hb:PE X b (tE X.K Ξ g)) (hm:aaX op b=false):PT X (.Compare a [op] [b] pos) (tT X.K Ξ (aH (e2 o f g))) :=
 xB (RM ho ha hb hm) fun σ H Q h=>F4 xj σ H Q (Jk σ H Q h)
def Jl {K:Ĳ} {o o':D->D->ag->Res D} (σ:St) (H:Hp) (Q:VK):tE K Ξ (mQ o o' f g h) σ H Q->A5 (rO K Ξ o) (rO K Ξ o') (tE K Ξ f) (tE K Ξ g) (tE K Ξ h) σ H Q:=by
 rintro ⟨w,env,rfl,S,eo,h⟩;refine⟨w,env,rfl,S,eo,(Out.ao h).mono λw1 x l1 S1 h1 v1 fZ=>⟨w1,env,rfl,S1,eo.le l1,(Out.ao h1).mono λw2 y l2 S2 h2 v2 jc=>⟨w2,x,y,rfl,S2,l2 _ _ fZ,jc,(Out.ao h2).mono λw3 z l3 S3 h3 v3 DJ=>?_⟩⟩⟩;have h4:=Out.ao h3
 cases z with
 |bl b =>
  have e:v3=.bl b:=DJ;have h5:=aJ S3 h4;refine⟨b,e,?_⟩
  cases b with
  |true =>
   rw[Ú rfl] at h5 |-;exact⟨w3,env,rfl,S3,eo.le (l1.trans (l2.trans l3)),(Out.ao h5).mono λw4 u l4 S4 h6 v4 DK=>⟨w4,y,u,rfl,S4,(l3.trans l4) _ _ jc,DK,h6⟩⟩
  |false =>
   rw[æ Ë] at h5 |-;exact aJ S3 h5 _ rfl
 |_=>exact h4.elim
def HX (ho:aY X (Č op) (rO X.K Ξ o)) (dg:aY X (Č jz) (rO X.K Ξ o')) (ha:PE X a (tE X.K Ξ f)) (hb:PE X b (tE X.K Ξ g)) (hc:PE X c (tE X.K Ξ h))
 (hm:lastMarks [op,jz] [b,c]=false:=by with_unfolding_all rfl):PE X (.Compare a [op,jz] [b,c] pos) (tE X.K Ξ (mQ o o' f g h)):=cQ (Qa ho dg ha hb hc hm) Jl
def Sd (ho:aY X (Č op) (rO X.K Ξ o)) (dg:aY X (Č jz) (rO X.K Ξ o')) (ha:PE X a (tE X.K Ξ f)) (hb:PE X b (tE X.K Ξ g)) (hc:PE X c (tE X.K Ξ h))
 (hm:lastMarks [op,jz] [b,c]=false:=by with_unfolding_all rfl):PT X (.Compare a [op,jz] [b,c] pos) (tT X.K Ξ (aH (mQ o o' f g h))):=xB (Qb ho dg ha hb hc hm) fun σ H Q h=>F4 Jl σ H Q (Jk σ H Q h)
def rS (ho:u4 X (unaryOp op) (rU X.K Ξ o)) (ha:PE X a (tE X.K Ξ f)):PE X (.UnaryOp op a pos) (tE X.K Ξ (e1 o f)):=cQ (Vu ho ha) fun σ H Q aA=>by
 obtain⟨w,env,eH,S,eo,h⟩:=aA;subst eH;exact⟨w,env,rfl,S,eo,(Out.ao h).mono λw1 x l1 S1 h1 v1 fZ=>⟨w1,x,rfl,S1,fZ,h1⟩⟩
def bO:PA X [] (tA X.K Ξ ah):=Jj nA fun σ H Q aA=>by
 obtain⟨w,env,eH,S,eo,h⟩:=aA;subst eH;exact aJ S h _ rfl
def aO (ha:PE X e (tE X.K Ξ f)) (hr:PA X es (tA X.K Ξ fa)) (hs:Þ (e::es) X.env=(false,Ť e X.env)::Þ es X.env:=by rfl):PA X (e::es) (tA X.K Ξ (ae f fa)):=Jj (lE ha hr hs) fun σ H Q aA=>by
 obtain⟨w,env,eH,S,eo,h⟩:=aA;subst eH;exact⟨w,env,rfl,S,eo,(Out.ao h).mono λw1 x l1 S1 h1 v1 fZ=>⟨w1,env,rfl,S1,eo.le l1,(Out.ao h1).mono λw2 xs l2 S2 h2 vs aq=>aJ S2 h2 _ ⟨v1,vs,rfl,l2 _ _ fZ,aq⟩⟩⟩
def tD {α:Type} {K:Ĳ} {w:Wd} {ds:List D} {r:Res α} {k:Wd->α->Prop} (h:Out K Ξ w (iX ds r) k):ds.length<=Õ/\Out K Ξ w r k:=by
 unfold iX at h;split at h
 ·exact⟨by assumption,h⟩
 ·exact h.elim
def bM {x1} (ha:PA X es (tA X.K Ξ fa)):PE X (.Tuple es x1 pos) (tE X.K Ξ (aZ fa)):=cQ (T4 ha) fun σ H Q aA=>by
 obtain⟨w,env,eH,S,eo,h⟩:=aA;subst eH;refine⟨w,env,rfl,S,eo,(Out.ao h).mono λw1 ds l1 S1 h1 vs aq=>?_⟩;obtain⟨hl,h2⟩:=tD h1;refine⟨by rw[<- aq.length];exact hl,λp hp=>?_⟩;exact h2 (w1.grow p (.tup vs)) (Fw.grow hp).le (S1.grow hp) rfl (.ref p) ⟨p,vs,rfl,aT.of dw,(Fw.grow hp).le.all aq⟩
def nB {K:Ĳ} {w:Wd} {p:á} (S:aM K w) (hp:w.H p=none):¬ w.Z p:=λ⟨k,c,e1,_,_⟩=>S.there k p e1 hp
def iY (ha:PA X es (tA X.K Ξ fa)):PE X (.List es pos) (tE X.K Ξ (fM fa)):=cQ (Ja ha) fun σ H Q aA=>by
 obtain⟨w,env,eH,S,eo,h⟩:=aA;subst eH;refine⟨w,env,rfl,S,eo,(Out.ao h).mono λw1 ds l1 S1 h1 vs aq=>?_⟩;obtain⟨hl,h2⟩:=tD h1;refine⟨by rw[<- aq.length];exact hl,λp hp=>?_⟩;exact h2 (w1.grow p (.lst vs)) (Fw.grow hp).le (S1.grow hp) rfl (.ref p) ⟨p,vs,rfl,⟨(show ¬ w1.Z p from nB S1 hp),dw⟩,(Fw.grow hp).le.all aq⟩
def pf (ha:PA X es (tA X.K Ξ fa)):PE X (.List es pos) (tE X.K Ξ (eNew fa)):=cQ (Ja ha) fun σ H Q aA=>by
 obtain⟨w,env,eH,S,eo,h⟩:=aA;subst eH;refine⟨w,env,rfl,S,eo,(Out.ao h).mono λw1 ds l1 S1 h1 vs aq=>?_⟩;obtain⟨hl,h2⟩:=tD h1;refine⟨by rw[<- aq.length];exact hl,λp hp=>?_⟩;have le:=(Fw.cell (o:=.lst vs) (c:=.lst ds) S1 hp).le;refine h2 (w1.cell p (.lst vs) (.lst ds)) le (S1.BL hp ⟨vs,dw,le.all aq⟩) rfl (.ref p) ⟨p,?_,rfl⟩;show (w1.ρ++[p])[w1.aI.length]?=some p;rw[<- S1.len];simp
def ua (ha:PE X a (tE X.K Ξ f)):PE X a (tE X.K Ξ (jX f)):=cQ ha fun σ H Q aA=>by
 obtain⟨w,env,eH,S,eo,h⟩:=aA;subst eH;refine⟨w,env,rfl,S,eo,(Out.ao h).mono λw1 x l1 S1 h1 v1 fZ=>?_⟩;unfold cO at h1;split at h1
 ·rename_i k
  split at h1
  ·rename_i ds hk
   obtain⟨p,e1,e2⟩:=fZ;obtain⟨xs,q1,q2⟩:=S1.cell k p _ e1 hk;exact h1 (w1.freeze k) Fw.freeze.le S1.freeze rfl v1 ⟨p,xs,e2,⟨Wd.OZ S1 e1,q1⟩,Fw.freeze.le.all q2⟩
  ·exact h1.elim
 ·exact h1.elim
def pJ.of {K:Ĳ} {w:Wd} {d:D} {v:V} {k:Wd->Bool->Prop} (S:aM K w) (hd:DV K w d v) (h:Out K Ξ w (truth d w.aI) k):∃b,pJ K v w.H b/\k w b:=by
 cases d with
 |au=>have e:v=.au:=hd;subst e;exact⟨_,rfl,aJ S h⟩
 |bl b=>have e:v=.bl b:=hd;subst e;exact⟨_,rfl,aJ S h⟩
 |int i=>have e:v=.int i:=hd;subst e;exact⟨_,rfl,aJ S h⟩
 |str x =>
  have e:v=.str x:=hd;subst e;unfold truth at h
  split at h<;>first|contradiction|skip
  all_goals (rename_i e;cases e)
  split at h
  ·exact⟨_,⟨by assumption,rfl⟩,aJ S h⟩
  ·exact h.elim
 |tup ds =>
  simp only[DV] at hd;obtain⟨a,xs,rfl,hq,r⟩:=hd;refine⟨_,.inr (.inl ⟨xs,hq,?_⟩),aJ S h⟩;have e:=r.length
  cases ds<;>cases xs<;>first|rfl|cases e
 |lst ds =>
  simp only[DV] at hd;obtain⟨a,xs,rfl,hq,r⟩:=hd;refine⟨_,.inl ⟨xs,hq.sq,?_⟩,aJ S h⟩;have e:=r.length
  cases ds<;>cases xs<;>first|rfl|cases e
 |bb ai =>
  simp only[DV] at hd;obtain⟨a,rfl,_,hq⟩:=hd;refine⟨_,.inr (.inr ⟨_,hq,?_⟩),aJ S h⟩
  cases ai<;>rfl
 |aj j =>
  simp only[DV] at hd;obtain⟨a,e1,rfl⟩:=hd;simp only[truth] at h;split at h
  ·rename_i ds hk
   obtain⟨xs,q1,q2⟩:=S.cell j a _ e1 hk;refine⟨_,.inl ⟨xs,bu.of q1,?_⟩,aJ S h⟩;have e:=q2.length
   cases ds<;>cases xs<;>first|rfl|cases e
  ·rename_i ai hk
   obtain⟨es,q1,q2,q3⟩:=S.cell j a _ e1 hk;refine⟨_,.inr (.inr ⟨es,q1,?_⟩),aJ S h⟩;have e:=Ĺ List.length q2
   cases ai<;>cases es<;>first|rfl|simp at e
  ·exact h.elim
 |ty n=>exact h.elim
 |bG ns=>exact h.elim
def eM (ha:PE X a (tE X.K Ξ f)) (he:∀whole,isTrue a X.env whole=(do let v <- whole;abg a.pos;aac [v] (truthy v)):=by intro _;rfl):PT X a (tT X.K Ξ (cN f)):=xB (Qc ha he) fun σ H Q aA=>by
 obtain⟨w,env,eH,S,eo,h⟩:=aA;subst eH;exact⟨w,env,rfl,S,eo,(Out.ao h).mono λw1 x l1 S1 h1 v1 fZ=>pJ.of S1 fZ h1⟩
def iZ (ha:PT X a (tT X.K Ξ ft)):PT X (.UnaryOp .Not a pos) (tT X.K Ξ (fk ft)):=xB (Tz ha) fun σ H Q aA=>by
 obtain⟨w,env,eH,S,eo,h⟩:=aA;subst eH;exact⟨w,env,rfl,S,eo,(Out.ao h).mono λw1 b l1 S1 h1=>aJ S1 h1⟩
def nC (ha:PT X a (tT X.K Ξ ft)):PW X (.BoolOp .And [a] pos) (tT X.K Ξ ft):=RD ha
def kA (ha:PT X a (tT X.K Ξ ft)):PW X (.BoolOp .Or [a] pos) (tT X.K Ξ ft):=Tv ha
def w_and (ha:PT X a (tT X.K Ξ ft)) (hb:PW X (.BoolOp .And (b::rest) pos) (tT X.K Ξ gt)):PW X (.BoolOp .And (a::b::rest) pos) (tT X.K Ξ (cK ft gt)):=Ji (Tw ha hb) fun σ H Q aA=>by
 obtain⟨w,env,eH,S,eo,h⟩:=aA;subst eH;refine⟨w,env,rfl,S,eo,(Out.ao h).mono λw1 b l1 S1 h1=>?_⟩
 cases b with
 |true=>exact⟨w1,env,rfl,S1,eo.le l1,h1⟩
 |false=>exact aJ S1 h1
def w_or (ha:PT X a (tT X.K Ξ ft)) (hb:PW X (.BoolOp .Or (b::rest) pos) (tT X.K Ξ gt)):PW X (.BoolOp .Or (a::b::rest) pos) (tT X.K Ξ (fQ ft gt)):=Ji (Vk ha hb) fun σ H Q aA=>by
 obtain⟨w,env,eH,S,eo,h⟩:=aA;subst eH;refine⟨w,env,rfl,S,eo,(Out.ao h).mono λw1 b l1 S1 h1=>?_⟩
 cases b with
 |false=>exact⟨w1,env,rfl,S1,eo.le l1,h1⟩
 |true=>exact aJ S1 h1
def dA {op} (ha:PE X a (tE X.K Ξ f)):PE X (.BoolOp op [a] pos) (tE X.K Ξ f):=TC ha
def AO {K:Ĳ} {w:Wd} {d:D} {v:V} {k:Wd->Bool->Prop} (S:aM K w) (hd:DV K w d v) (h:Out K Ξ w (gp d w.aI) k):∃b,v=.bl b/\k w b:=by
 cases d with
 |bl b=>exact⟨b,hd,aJ S h⟩
 |_=>exact h.elim
def dP (ha:PE X a (tE X.K Ξ f)) (hb:PE X (.BoolOp .And (b::rest) pos) (tE X.K Ξ g)):PE X (.BoolOp .And (a::b::rest) pos) (tE X.K Ξ (cL f g)):=cQ (TF ha hb) fun σ H Q aA=>by
 obtain⟨w,env,eH,S,eo,h⟩:=aA;subst eH;refine⟨w,env,rfl,S,eo,(Out.ao h).mono λw1 x l1 S1 h1 v1 fZ=>?_⟩;obtain⟨b,e,h2⟩:=AO S1 fZ (Out.ao h1);refine⟨b,e,?_⟩
 cases b with
 |true=>exact⟨w1,env,rfl,S1,eo.le l1,h2⟩
 |false=>exact aJ S1 h2 _ rfl
def pO (ha:PE X a (tE X.K Ξ f)) (hb:PE X (.BoolOp .Or (b::rest) pos) (tE X.K Ξ g)):PE X (.BoolOp .Or (a::b::rest) pos) (tE X.K Ξ (kT f g)):=cQ (Vn ha hb) fun σ H Q aA=>by
 obtain⟨w,env,eH,S,eo,h⟩:=aA;subst eH;refine⟨w,env,rfl,S,eo,(Out.ao h).mono λw1 x l1 S1 h1 v1 fZ=>?_⟩;obtain⟨b,e,h2⟩:=AO S1 fZ (Out.ao h1);refine⟨b,e,?_⟩
 cases b with
 |false=>exact⟨w1,env,rfl,S1,eo.le l1,h2⟩
 |true=>exact aJ S1 h2 _ rfl
def xT (ha:PE X a (tE X.K Ξ f)):PE X (.UnaryOp .Not a pos) (tE X.K Ξ (pN f)):=cQ (TH ha) fun σ H Q aA=>by
 obtain⟨w,env,eH,S,eo,h⟩:=aA;subst eH;refine⟨w,env,rfl,S,eo,(Out.ao h).mono λw1 x l1 S1 h1 v1 fZ=>?_⟩;obtain⟨b,e,h2⟩:=AO S1 fZ (Out.ao h1);exact⟨b,e,aJ S1 h2 _ rfl⟩
def Xh (hc:PT X c (tT X.K Ξ ft)) (ha:PE X a (tE X.K Ξ f)) (hb:PE X b (tE X.K Ξ g)):PE X (.IfExp c a b pos) (tE X.K Ξ (yV ft f g)):=cQ (P8 hc ha hb) fun σ H Q aA=>by
 obtain⟨w,env,eH,S,eo,h⟩:=aA;subst eH;refine⟨w,env,rfl,S,eo,(Out.ao h).mono λw1 b l1 S1 h1=>?_⟩
 cases b with
 |true=>exact⟨w1,env,rfl,S1,eo.le l1,h1⟩
 |false=>exact⟨w1,env,rfl,S1,eo.le l1,h1⟩
def Jm (σ:St) (H:Hp) (Q:VK):tE K Ξ (eB o fa) σ H Q->Dj (rC K Ξ o) (tA K Ξ fa) σ H Q:=by
 rintro ⟨w,env,rfl,S,eo,h⟩;exact⟨w,env,rfl,S,eo,(Out.ao h).mono λw1 ds l1 S1 h1 vs aq=>⟨w1,ds,rfl,S1,aq,h1⟩⟩
def bh {x:Str} {p:Pos} {id:String} {o:List D->ag->Res D} (hc:bY X (.builtin id) (rC X.K Ξ o)) (hg:Gl X x) (hm:X.mg x=none) (hv:ą x=some (.builtin id)) (ha:PA X (e::es) (tA X.K Ξ fa)) (hn:x≠"__name__":=by decide) (jA:(x==("__debug__":Str))=false:=by decide)
  (he:Þ (e::es) X.env=(false,Ť e X.env)::Þ es X.env:=by rfl) (cP:(aab pos (Þ es X.env)).any (·.1)=false:=by rfl):PE X (.Call (.Name x p) (e::es) [] pos) (tE X.K Ξ (eB o fa)):=cQ (Aa hc hg hm hv ha hn jA he cP) Jm
def iu {x:Str} {p:Pos} {T:String} {o:List D->ag->Res D} (hc:bY X (.type T) (rC X.K Ξ o)) (hg:Gl X x) (hm:X.mg x=none) (hv:ą x=some (.type T)) (ha:PA X (e::es) (tA X.K Ξ fa)) (hn:x≠"__name__":=by decide) (jA:(x==("__debug__":Str))=false:=by decide)
  (he:Þ (e::es) X.env=(false,Ť e X.env)::Þ es X.env:=by rfl) (cP:(aab pos (Þ es X.env)).any (·.1)=false:=by rfl):PE X (.Call (.Name x p) (e::es) [] pos) (tE X.K Ξ (eB o fa)):=cQ (zT hc hg hm hv ha hn jA he cP) Jm
end
set_option genInjectivity true in
inductive Fl where
 |nx (env:Env)|rt (d:D)|bk (env:Env)|ct (env:Env)
def CL (K:Ĳ) (D:Ends) (w:Wd):Fl->Prop
 | .nx env=>∀ σ,bZ K w env σ->D.nx σ w.H
 | .rt d=>∀v,DV K w d v->D.rt v w.H
 | .bk env=>∀ σ,bZ K w env σ->D.bk σ w.H
 | .ct env=>∀ σ,bZ K w env σ->D.ct σ w.H
def tS (K:Ĳ) (Ξ:Wd->bx->Prop) (f:Env->ag->Res Fl):TS:=λD σ H=>∃w env,w.H=H/\aM K w/\bZ K w env σ/\Out K Ξ w (f env w.aI) (CL K D)
def cb:Env->ag->Res Fl:=λenv s=>ok (.nx env) s
def ay (f g:Env->ag->Res Fl):Env->ag->Res Fl:=λenv s=>ao (f env s) λfl s=>match fl with
 | .nx env=>g env s
 |fl=>ok fl s
def aN (f:Env->ag->Res D):Env->ag->Res Fl:=λenv s=>ao (f env s) λd s=>ok (.rt d) s
def fK (f:Env->ag->Res D):Env->ag->Res Fl:=λenv s=>ao (f env s) λ_ s=>ok (.nx env) s
def cj (c:Env->ag->Res Bool) (f g:Env->ag->Res Fl):Env->ag->Res Fl:=λenv s=>ao (c env s) λb s=>if b=true then f env s else g env s
def JZ:Env->ag->Res Fl:=λenv s=>ok (.ct env) s
def aL (f:Env->ag->Res D) (g:D->Env->Option Env):Env->ag->Res Fl:=λenv s=>ao (f env s) λd s=>match g d env with
 |some env'=>ok (.nx env') s
 |none=>none
def gN (i:Nat):D->Env->Option Env:=λd env=>some (env.set i (some d))
def ig:List (D->Env->Option Env)->List D->Env->Option Env
 | [],[],env=>some env
 |g::gs,d::ds,env=>match g d env with
  |some env'=>ig gs ds env'
  |none=>none
 |_,_,_=>none
def gT (gs:List (D->Env->Option Env)):D->Env->Option Env:=λd env=>match d with
 | .tup ds=>ig gs ds env
 |_=>none
def jO (g:D->Env->Option Env) (b:Env->ag->Res Fl):List D->Env->ag->Res Fl
 | [],env,s=>ok (.nx env) s
 |d::ds,env,s=>match g d env with
  |none=>none
  |some env'=>ao (b env' s) λfl s=>match fl with
   | .nx e=>jO g b ds e s
   | .ct e=>jO g b ds e s
   | .bk e=>ok (.nx e) s
   | .rt d=>ok (.rt d) s
def fb (it:Env->ag->Res (List D)) (g:D->Env->Option Env) (b:Env->ag->Res Fl):Env->ag->Res Fl:=λenv s=>ao (it env s) λds s=>jO g b ds env s
def ne {α:Type} (r:Res α):Res α:=match r with
 |some (.ok a,s)=>some (.ok a,s)
 |_=>none
@[simp] theorem jP {α:Type} {a:α} {s:ag}:ne (some (.ok a,s))=some (.ok a,s):=rfl
def fV (cap:List Nat) (env:Env):Env:=cap.map λj=>(env[j]?).getD none
def eZ (nt:Nat) (caps:Env) (g:D->Env->Option Env) (t:Env->ag->Res Bool) (f:Env->ag->Res D):List D->ag->Res (List D)
 | [],s=>ok [] s
 |d::ds,s=>match g d (Ï nt none++caps) with
  |none=>none
  |some env=>ao (ne (t env s)) λb s=>if b=true then ao (ne (f env s)) λx s=>ao (eZ nt caps g t f ds s) λxs s=>ok (x::xs) s
   else eZ nt caps g t f ds s
def aW (nt:Nat) (cap:List Nat) (it:Env->ag->Res (List D)) (g:D->Env->Option Env) (t:Env->ag->Res Bool) (f:Env->ag->Res D):Env->ag->Res D:=λenv s =>
 ao (it env s) λds s=>iX ds (ao (eZ nt (fV cap env) g t f ds s) λxs s=>ok (.lst xs) s)
def mv (nt:Nat) (cap:List Nat) (it:Env->ag->Res (List D)) (g:D->Env->Option Env) (t:Env->ag->Res Bool) (f:Env->ag->Res D):Env->ag->Res D:=λenv s =>
 ao (it env s) λds s=>iX ds (ao (eZ nt (fV cap env) g t f ds s) λxs s=>ok (.aj s.length) (s++[.lst xs]))
def bT:Env->ag->Res Bool:=λ_ s=>ok true s
def aU (np ns:Nat) (b:Env->ag->Res Fl):List D->ag->Res D:=λds s=>if ds.length=np then ao (b (ds.map some++Ï (ns-np) none) s) λfl s=>match fl with
 | .rt d=>ok d s
 | .nx _=>ok .au s
 |_=>none else none
abbrev bH:Wd->bx->Prop:=λ_ _=>False
def ma (K:Ĳ) (f:List D->ag->Res D):Sp:=λvs H Q _=>∃w ds,w.H=H/\aM K w/\ar K w ds vs/\Out K bH w (f ds w.aI) λw' d=>∀v,DV K w' d v->Q v w'.H
section
variable {X:Cx} {Ξ:Wd->bx->Prop} {e a b c tg:ļ} {es rest:List ļ} {pos:Pos} {f g h:Env->ag->Res D} {fa:Env->ag->Res (List D)} {ft gt:Env->ag->Res Bool} {st:Stmt} {oy CM:List Stmt} {fs gs:Env->ag->Res Fl}
def dU:eT X [] (tS X.K Ξ cb):=HW RE λD σ H aA=>by
 obtain⟨w,env,eH,S,eo,h⟩:=aA;subst eH;exact aJ S h σ eo
def aD (h1:PS X st (tS X.K Ξ fs)) (h2:eT X oy (tS X.K Ξ gs)):eT X (st::oy) (tS X.K Ξ (ay fs gs)):=HW (P9 h1 h2) λD σ H aA=>by
 obtain⟨w,env,eH,S,eo,h⟩:=aA;subst eH;refine⟨w,env,rfl,S,eo,(Out.ao h).mono λw1 fl l1 S1 h1=>?_⟩
 cases fl with
 |nx env'=>exact fun ba j8=>⟨w1,env',rfl,S1,j8,h1⟩
 |rt d=>have q:=aJ S1 h1;exact q
 |bk env'=>have q:=aJ S1 h1;exact q
 |ct env'=>have q:=aJ S1 h1;exact q
def aK (h1:PS X st (tS X.K Ξ fs)):eT X [st] (tS X.K Ξ fs):=RF h1
def aS (he:PE X e (tE X.K Ξ f)):PS X (.Return (some e) pos) (tS X.K Ξ (aN f)):=jl (TJ he) λD σ H aA=>by
 obtain⟨w,env,eH,S,eo,h⟩:=aA;subst eH;exact⟨w,env,rfl,S,eo,(Out.ao h).mono λw1 d l1 S1 h1=>aJ S1 h1⟩
def km (he:PE X e (tE X.K Ξ f)) (hs:abw e none pos.line X.env=pure false:=by rfl):PS X (.Expr e pos) (tS X.K Ξ (fK f)):=jl (RG he hs) λD σ H aA=>by
 obtain⟨w,env,eH,S,eo,h⟩:=aA;subst eH;exact⟨w,env,rfl,S,eo,(Out.ao h).mono λw1 d l1 S1 h1 _ _=>aJ S1 h1 σ (eo.le l1)⟩
def dZ (hc:PT X c (tT X.K Ξ ft)) (ha:eT X oy (tS X.K Ξ fs)) (hb:eT X CM (tS X.K Ξ gs)):PS X (.If c oy CM pos) (tS X.K Ξ (cj ft fs gs)):=jl (Vq hc ha hb) λD σ H aA=>by
 obtain⟨w,env,eH,S,eo,h⟩:=aA;subst eH;refine⟨w,env,rfl,S,eo,(Out.ao h).mono λw1 b l1 S1 h1=>?_⟩
 cases b with
 |true=>exact⟨w1,env,rfl,S1,eo.le l1,h1⟩
 |false=>exact⟨w1,env,rfl,S1,eo.le l1,h1⟩
def yW:Env->ag->Res Fl:=λ_ _=>none
def Ae:eT X oy (tS X.K Ξ yW):=λ_ _ _ _ _ _ h=>by obtain⟨w,env,_,_,_,h⟩:=h;exact h.elim
def gD (K:Ĳ) (g:D->Env->Option Env):TG:=λv σ H Q=>∃w env d env',w.H=H/\aM K w/\bZ K w env σ/\DV K w d v/\g d env=some env'/\∀ ba,bZ K w env' ba->Q ba H
def vq (K:Ĳ) (g:List D->Env->Option Env):kP:=λvs σ H Q=>∃w env ds env',w.H=H/\aM K w/\bZ K w env σ/\ar K w ds vs/\g ds env=some env'/\∀ ba,bZ K w env' ba->Q ba H
def Jn {t t':TG} (h:PG X e t) (i:∀v σ H Q,t' v σ H Q->t v σ H Q):PG X e t':=λπ s σ H v u Q I r hq=>h π s σ H v u Q I r (i v σ H Q hq)
def HY {t t':kP} (h:lV X es t) (i:∀v σ H Q,t' v σ H Q->t v σ H Q):lV X es t':=λπ s σ H v u Q I r hq=>h π s σ H v u Q I r (i v σ H Q hq)
def cw (i:Nat) {x:Str} (hN:X.N.Nodup) (hi:X.N[i]?=some x:=by rfl) (hx:Loc X.env.scope x:=by first|exact Ŧ rfl|exact Or.inr rfl) (hf:X.fn x=true\/X.env.scope.names.lookup x=some .local:=by first|exact .inl rfl|exact .inr rfl):PG X (.Name x pos) (gD X.K (gN i)) :=
 Jn (dM hN hi hx hf) λv σ H Q aA=>by
  obtain⟨w,env,d,env',eH,S,eo,dv,eg,k⟩:=aA;have e:env.set i (some d)=env':=Option.some.inj eg;subst e;exact k _ (eo.set dv i)
def nD:lV X [] (vq X.K (ig [])):=HY oS λvs σ H Q aA=>by
 obtain⟨w,env,ds,env',eH,S,eo,aq,eg,k⟩:=aA
 cases ds with
 |nil =>
  have e:env=env':=Option.some.inj eg;subst e;exact⟨aq,k _ eo⟩
 |cons d ds=>cases eg
def fU {g:D->Env->Option Env} {gl:List (D->Env->Option Env)} (h1:PG X e (gD X.K g)) (h2:lV X es (vq X.K (ig gl)))
  (hs:(Ū (e::es) X.env).map (·.2)=aaR e X.env::(Ū es X.env).map (·.2):=by rfl):lV X (e::es) (vq X.K (ig (g::gl))):=HY (jg h1 h2 hs) λvs σ H Q aA=>by
 obtain⟨w,env,ds,env',eH,S,eo,aq,eg,k⟩:=aA
 cases ds with
 |nil=>cases eg
 |cons d ds =>
  obtain⟨v,r,rfl,dv,dr⟩:=aq;simp only[ig] at eg
  cases sA:g d env with
  |none=>rw[sA] at eg;cases eg
  |some yx =>
   rw[sA] at eg;refine⟨v,r,rfl,w,env,d,yx,eH,S,eo,dv,sA,fun Lg Yg=>⟨w,yx,ds,env',eH,S,Yg,dr,eg,k⟩⟩
def Af:∀{gl:List (D->Env->Option Env)} {ds:List D} {env env':Env},ig gl ds env=some env'->ds.length=gl.length
 | [],[],_,_,_=>rfl
 |g::gl,d::ds,env,env',h=>by
  simp only[ig] at h
  cases sA:g d env with
  |none=>rw[sA] at h;cases h
  |some e1=>rw[sA] at h;simp[Af h]
 | [],_::_,_,_,h=>by cases h
 |_::_,[],_,_,h=>by cases h
def nM {gl:List (D->Env->Option Env)} {k:Nat} (hc:X.calm=true) (h:lV X es (vq X.K (ig gl))) (hn:(Ū es X.env).length=gl.length:=by rfl) (p9:(Ū es X.env).findIdx? (·.1)=none:=by rfl):PG X (.Tuple es k pos) (gD X.K (gT gl)) :=
 Jn (kj hc h hn p9) λv σ H Q aA=>by
  obtain⟨w,env,d,env',eH,S,eo,dv,eg,k⟩:=aA
  cases d with
  |tup ds =>
   simp only[DV] at dv;obtain⟨p,xs,e1,hq,aq⟩:=dv;subst eH;exact⟨p,xs,e1,hq,by rw[<- aq.length];exact Af eg,w,env,ds,env',rfl,S,eo,aq,eg,k⟩
  |_=>cases eg
def tJ {K:Ĳ} {g:D->Env->Option Env} (D:Ends) (σ:St) (H:Hp):tS K Ξ (aL f g) D σ H->pH (tE K Ξ f) (gD K g) D σ H:=by
 rintro ⟨w,env,rfl,S,eo,h⟩;refine⟨w,env,rfl,S,eo,(Out.ao h).mono λw1 d l1 S1 h1 v dv=>?_⟩
 cases hg:g d env with
 |none=>rw[hg] at h1;exact h1.elim
 |some env' =>
  rw[hg] at h1;exact⟨w1,env,d,env',rfl,S1,eo.le l1,dv,hg,aJ S1 h1⟩
def nN {g:D->Env->Option Env} (he:PE X e (tE X.K Ξ f)) (hg:PG X tg (gD X.K g)) (hs:ε [tg] e pos.line X.env=pure false:=by rfl) (hw:ζ [tg] e X.env=pure none:=by rfl)
  (h1:(Ū [tg] X.env).map (·.2)=[aaR tg X.env]:=by rfl):PS X (.Assign [tg] e pos) (tS X.K Ξ (aL f g)):=jl (A4 he hg hs hw h1) tJ
def wQ {K:Ĳ} {te:TE} {i:Nat} (D:Ends) (σ:St) (H:Hp):pH (tE K Ξ f) (gD K (gN i)) D σ H->pH (tE K Ξ f) (kz i) D σ H:=by
 rintro ⟨w,env,rfl,S,eo,h⟩;refine⟨w,env,rfl,S,eo,h.mono λw1 d l1 S1 h1 v dv=>?_⟩;obtain⟨w',yx,d',env',e',S',j8,qj,eg,k⟩:=h1 v dv;have e:yx.set i (some d')=env':=Option.some.inj eg;subst e;exact k _ (j8.set qj i)
def bK (i:Nat) {x:Str} {pos':Pos} (hN:X.N.Nodup) (he:PE X e (tE X.K Ξ f)) (hi:X.N[i]?=some x:=by rfl) (hx:Loc X.env.scope x:=by first|exact Ŧ rfl|exact Or.inr rfl) (hs:abw e (some (.Name x pos')) pos.line X.env=pure false:=by rfl) (hf:X.fn x=true\/X.env.scope.names.lookup x=some .local:=by first|exact .inl rfl|exact .inr rfl) :
  PS X (.Assign [.Name x pos'] e pos) (tS X.K Ξ (aL f (gN i))):=jl (TL hN hi hx he hs hf) λD σ H h=>wQ (te:=tE X.K Ξ f) D σ H (tJ D σ H h)
def oz (K:Ĳ) (w:Wd) (J:It) (ds:List D):Prop:=∀w',Le K w w'->aM K w'->∀i,
 (∀d,ds[i]?=some d->J.go i w'.H/\∀x H',J.uX i w'.H x H'->∃w2,w2.H=H'/\Le K w' w2/\aM K w2/\w2.aI=w'.aI/\DV K w2 d x)/\(ds.length<=i->J.stop i w'.H)
def dh (K:Ĳ) (Ξ:Wd->bx->Prop) (f:Env->ag->Res (List D)):TI:=fun σ H R=>∃w env,w.H=H/\aM K w/\bZ K w env σ/\Out K Ξ w (f env w.aI) λw' ds=>∀J,oz K w' J ds->R J w'.H
def oY {t t':TI} (h:PI X tg e t) (i:∀ σ H R,t' σ H R->t σ H R):PI X tg e t':=λπ s σ H R I hq=>h π s σ H R I (i σ H R hq)
def Se {K:Ĳ} {it:Env->ag->Res (List D)} {g:D->Env->Option Env} (D0:Ends) (σ:St) (H:Hp):tS K Ξ (fb it g fs) D0 σ H->KI (dh K Ξ it) (gD K g) (tS K Ξ fs) D0 σ H:=by
 rintro ⟨w,env,rfl,S,eo,h⟩;refine⟨w,env,rfl,S,eo,(Out.ao h).mono λw1 ds l1 S1 h1 J hJ=>?_⟩;refine⟨λi m ba H'=>m=ds.length-i/\i<=ds.length/\∃w' env',w'.H=H'/\Le K w1 w'/\aM K w'/\bZ K w' env' ba/\Out K Ξ w' (jO g fs (ds.drop i) env' w'.aI) (CL K D0),
  ⟨ds.length,rfl,Ę _,w1,env,rfl,Le.refl _,S1,eo.le l1,h1⟩,?_⟩
 rintro i m ba H' ⟨rfl,hi,w',env',rfl,l',S',j8,h'⟩;by_cases bE:i<ds.length
 ·right
  obtain⟨gb,hy⟩:=(hJ w' l' S' i).1 _ (Ð bE);rw[aaI bE] at h';simp only[jO] at h'
  cases hg:g ds[i] env' with
  |none=>rw[hg] at h';exact h'.elim
  |some jY =>
   rw[hg] at h';refine⟨gb,fun mK H2=>∃w2 yy,w2.H=H2/\Le K w1 w2/\aM K w2/\bZ K w2 yy mK/\Out K Ξ w2 (jO g fs (ds.drop (i+1)) yy w2.aI) (CL K D0),fun mK H2 ⟨w2,yy,q⟩=>⟨ds.length-(i+1),by omega,rfl,bE,w2,yy,q⟩,λx H2 y=>?_⟩;obtain⟨w2,rfl,l2,S2,es,dv⟩:=hy x H2 y;refine⟨w2,env',ds[i],jY,rfl,S2,j8.le l2,dv,hg,fun mK mf=>⟨w2,jY,rfl,S2,mf,?_⟩⟩;rw[<- es] at h';refine(Out.ao (h'.from l2)).mono λw3 fl l3 S3 h3=>?_
   cases fl with
   |nx e3=>exact fun lW DL=>⟨w3,e3,rfl,l'.trans (l2.trans l3),S3,DL,h3⟩
   |ct e3=>exact fun lW DL=>⟨w3,e3,rfl,l'.trans (l2.trans l3),S3,DL,h3⟩
   |bk e3=>have q:=aJ S3 h3;exact q
   |rt d=>have q:=aJ S3 h3;exact q
 ·left
  have e:i=ds.length:=by omega
  subst e;rw[List.drop_length] at h';exact⟨(hJ w' l' S' _).2 (Nat.le_refl _),aJ S' h' ba j8⟩
def iz {iter:ļ} {it:Env->ag->Res (List D)} {g:D->Env->Option Env} (hp:PassesOwn (ø X.prog X.w) X.A X.env X.xe) (hc:X.calm=true) (hi:PI X tg iter (dh X.K Ξ it)) (hg:PG X tg (gD X.K g)) (hb:eT X oy (tS X.K Ξ fs))
  (hs:∀x,ô iter X.env x=pure x:=by intro _;rfl):PS X (.For tg iter oy [] pos) (tS X.K Ξ (fb it g fs)):=jl (TQ hp hc hi hg hb hs) Se
def Out.ne {α:Type} {K:Ĳ} {w:Wd} {r:Res α} {k:Wd->α->Prop} (h:Out K Ξ w (DI.ne r) k):Out K bH w r k:=by
 match r,h with
 |some (.ok a,s),h=>exact h
def bZ.block {K:Ĳ} {w:Wd} {env:Env} {σ:St} (h:bZ K w env σ) (nt:Nat) (cap:List Nat) (o:St) (ho:o.length=nt):bZ K w (Ï nt none++fV cap env) (o++my cap σ):=by
 refine⟨by simp[fV,my,ho],λi d e=>?_⟩;by_cases hi:i<nt
 ·rw[ä (by simpa using hi),ĭ,Ú hi] at e
  cases e
 ·rw[ü (by simpa using ο hi)] at e
  rw[ü (by omega),ho];simp only[Ű] at e;unfold fV at e;unfold my;rw[ç] at e |-
  cases ej:cap[i-nt]? with
  |none=>rw[ej] at e;cases e
  |some j =>
   rw[ej] at e;have ev:(env[j]?).getD none=some d:=Option.some.inj e;have vh:env[j]?=some (some d):=by
    cases q:env[j]? with
    |none=>rw[q] at ev;cases ev
    |some z=>rw[q] at ev;exact Ĺ some ev
   obtain⟨v,e1,e2⟩:=h.val j d vh;exact⟨v,by rw[Ŏ,e1];rfl,e2⟩
def Gw {K:Ĳ} {nt:Nat} {cap:List Nat} {it:Env->ag->Res (List D)} {g:D->Env->Option Env} {fin:List D->ag->Res D} (σ:St) (H:Hp) (Q:VK)
  (CN:∀(w2:Wd) (xs:List D) (vs:List V),aM K w2->ar K w2 xs vs->Out K Ξ w2 (fin xs w2.aI) (λw' d=>∀v,DV K w' d v->Q v w'.H)->∀p,w2.H p=none->Q (.ref p) (upd w2.H p (.lst vs))) :
  tE K Ξ (λenv s=>ao (it env s) λds s=>iX ds (ao (eZ nt (fV cap env) g ft f ds s) fin)) σ H Q->mz (dh K Ξ it) nt cap (gD K g) (tT K bH ft) (tE K bH f) σ H Q:=by
 rintro ⟨w,env,rfl,S,eo,h⟩;refine⟨w,env,rfl,S,eo,(Out.ao h).mono λw1 ds l1 S1 h1 J hJ=>?_⟩;obtain⟨hz,h1⟩:=tD h1;refine⟨λi m acc H'=>m=ds.length-i/\i<=ds.length/\acc.length<=i/\∃w' accD,w'.H=H'/\Le K w1 w'/\aM K w'/\ar K w' accD acc/\Out K Ξ w' (eZ nt (fV cap env) g ft f (ds.drop i) w'.aI) λw2 xs=>∀vs,ar K w2 (accD++xs) vs->∀p,w2.H p=none->Q (.ref p) (upd w2.H p (.lst vs)),
  ⟨ds.length,rfl,Ę _,Ę _,w1,[],rfl,Le.refl _,S1,rfl,(Out.ao h1).mono λw2 xs l2 S2 h2 vs aq p hp=>?_⟩,?_⟩
 ·exact CN w2 xs vs S2 aq h2 p hp
 rintro i m acc H' ⟨rfl,hi,ha,w',accD,rfl,l',S',da,h'⟩;by_cases bE:i<ds.length
 ·right
  obtain⟨gb,hy⟩:=(hJ w' l' S' i).1 _ (Ð bE);rw[aaI bE] at h';simp only[eZ] at h'
  cases hg:g ds[i] (Ï nt none++fV cap env) with
  |none=>rw[hg] at h';exact h'.elim
  |some jY =>
   rw[hg] at h';refine⟨gb,by omega,λyz H2=>yz.length<=i+1/\∃w' accD,w'.H=H2/\Le K w1 w'/\aM K w'/\ar K w' accD yz/\Out K Ξ w' (eZ nt (fV cap env) g ft f (ds.drop (i+1)) w'.aI) λw2 xs=>∀vs,ar K w2 (accD++xs) vs->∀p,w2.H p=none->Q (.ref p) (upd w2.H p (.lst vs)),
    λyz H2 ⟨Yh,q⟩=>⟨ds.length-(i+1),by omega,rfl,bE,Yh,q⟩,λo x H3 ho y=>?_⟩
   obtain⟨w2,rfl,l2,S2,es,dv⟩:=hy x H3 y;refine⟨w2,_,ds[i],jY,rfl,S2,(eo.le (l1.trans (l'.trans l2))).block nt cap o ho,dv,hg,fun mK mf=>?_⟩;rw[<- es] at h';refine⟨w2,jY,rfl,S2,mf,(Out.ao (h'.from l2)).ne.mono λw3 b l3 S3 h3=>?_⟩
   cases b with
   |true =>
    refine⟨w3,jY,rfl,S3,mf.le l3,(Out.ao h3).ne.mono λw4 d l4 S4 h4 v DK=>⟨by rw[â];simp;omega,w4,accD++[d],rfl,l'.trans (l2.trans (l3.trans l4)),S4,ar.append ((l2.trans (l3.trans l4)).all da) (ar.one DK),(Out.ao h4).mono λw5 xs l5 S5 h5 vs aq p hp=>?_⟩⟩;exact aJ S5 h5 vs (by rw[ķ] at aq;exact aq) p hp
   |false =>
    exact⟨by omega,w3,accD,rfl,l'.trans (l2.trans l3),S3,(l2.trans l3).all da,h3⟩
 ·left
  have e:i=ds.length:=by omega
  subst e;rw[List.drop_length] at h';refine⟨(hJ w' l' S' _).2 (Nat.le_refl _),by omega,λp hp=>aJ S' h' acc (by rw[Ō];exact da) p hp⟩
def G7 {K:Ĳ} {nt:Nat} {cap:List Nat} {it:Env->ag->Res (List D)} {g:D->Env->Option Env} (σ:St) (H:Hp) (Q:VK) :
  tE K Ξ (aW nt cap it g ft f) σ H Q->mz (dh K Ξ it) nt cap (gD K g) (tT K bH ft) (tE K bH f) σ H Q :=
 Gw σ H Q λw2 xs vs S2 aq h2 p hp=>h2 (w2.grow p (.lst vs)) (Fw.grow hp).le (S2.grow hp) rfl (.ref p) ⟨p,vs,rfl,⟨(show ¬ w2.Z p from nB S2 hp),dw⟩,(Fw.grow hp).le.all aq⟩
def Gx {K:Ĳ} {nt:Nat} {cap:List Nat} {it:Env->ag->Res (List D)} {g:D->Env->Option Env} (σ:St) (H:Hp) (Q:VK) :
  tE K Ξ (mv nt cap it g ft f) σ H Q->mz (dh K Ξ it) nt cap (gD K g) (tT K bH ft) (tE K bH f) σ H Q :=
 Gw σ H Q λw2 xs vs S2 aq h2 p hp=>by
  have le:=(Fw.cell (o:=.lst vs) (c:=.lst xs) S2 hp).le;refine h2 (w2.cell p (.lst vs) (.lst xs)) le (S2.BL hp ⟨vs,dw,le.all aq⟩) rfl (.ref p) ⟨p,?_,rfl⟩;show (w2.ρ++[p])[w2.aI.length]?=some p;rw[<- S2.len];simp
end
def H0 {o caps:St} {v:V} {i nt:Nat} (ho:o.length=nt) (hi:i<nt):(o++caps).set i (some v)=o.set i (some v)++caps:=by
 rw[List.set_append_left _ _ (by omega)]
def O0 {i nt:Nat} (hi:i<nt):lX (kz i) nt:=by
 intro x o caps H R ho h;exact⟨⟨o.set i (some x),by rw[Ĝ];exact ho,H0 ho hi⟩,h⟩
def uF (g:kP) (nt:Nat):Prop:=∀(xs:List V) (o caps:St) (H:Hp) (R:St->Hp->Prop),o.length=nt->g xs (o++caps) H R->g xs (o++caps) H fun τ H2=>(∃o2:St,o2.length=nt/\τ=o2++caps)/\R τ H2
def QA:uF Cs nt:=λxs o caps H R ho h=>⟨h.1,⟨o,ho,rfl⟩,h.2⟩
def O1 {i nt:Nat} {g:kP} (hi:i<nt) (hg:uF g nt):uF (BD (kz i) g) nt:=by
 rintro xs o caps H R ho ⟨v,r,e,h⟩;refine⟨v,r,e,?_⟩;have h:g r ((o++caps).set i (some v)) H R:=h;show g r ((o++caps).set i (some v)) H _;rw[H0 ho hi] at h |-;exact hg r _ caps H R (by rw[Ĝ];exact ho) h
def QC (hg:uF g nt):lX (Ct K n g) nt:=by
 rintro x o caps H R ho ⟨a,xs,e,hq,hl,h⟩;exact⟨a,xs,e,hq,hl,hg xs o caps H R ho h⟩
structure Tg (K:Ĳ) (g0:TG) (g:D->Env->Option Env) (nt:Nat):Prop where
 jd:lX g0 nt
 imp:∀v σ H Q,gD K g v σ H Q->g0 v σ H Q
structure yX (K:Ĳ) (g0:kP) (g:List (D->Env->Option Env)) (nt:Nat):Prop where
 jd:uF g0 nt
 imp:∀v σ H Q,vq K (ig g) v σ H Q->g0 v σ H Q
def ji (i:Nat) (hi:i<nt:=by decide):Tg K (kz i) (gN i) nt:=⟨O0 hi,λv σ H Q aA=>by
 obtain⟨w,env,d,env',eH,S,eo,dv,eg,k⟩:=aA;have e:env.set i (some d)=env':=Option.some.inj eg;subst e;exact k _ (eo.set dv i)⟩
def qQ:yX K Cs [] nt:=⟨QA,λvs σ H Q aA=>by
 obtain⟨w,env,ds,env',eH,S,eo,aq,eg,k⟩:=aA
 cases ds with
 |nil =>
  have e:env=env':=Option.some.inj eg;subst e;exact⟨aq,k _ eo⟩
 |cons d ds=>cases eg⟩
def jJ (i:Nat) (h:yX K g0 gl nt) (hi:i<nt:=by decide):yX K (BD (kz i) g0) (gN i::gl) nt:=⟨O1 hi h.jd,λvs σ H Q aA=>by
 obtain⟨w,env,ds,env',eH,S,eo,aq,eg,k⟩:=aA
 cases ds with
 |nil=>cases eg
 |cons d ds =>
  obtain⟨v,r,rfl,dv,dr⟩:=aq;exact⟨v,r,rfl,h.imp _ _ _ _ ⟨w,_,ds,env',eH,S,eo.set dv i,dr,eg,k⟩⟩⟩
def q0 (h:yX K g0 gl nt) (hn:gl.length=n:=by rfl):Tg K (Ct K n g0) (gT gl) nt:=⟨QC h.jd,λv σ H Q aA=>by
 obtain⟨w,env,d,env',eH,S,eo,dv,eg,k⟩:=aA
 cases d with
 |tup ds =>
  simp only[DV] at dv;obtain⟨p,xs,e1,hq,aq⟩:=dv;subst eH;exact⟨p,xs,e1,hq,by rw[<- aq.length,Af eg];exact hn,h.imp _ _ _ _ ⟨w,env,ds,env',rfl,S,eo,aq,eg,k⟩⟩
 |_=>cases eg⟩
section
variable {X:Cx} {Ξ:Wd->bx->Prop} {e a b c tg el src:ļ} {es rest tests:List ļ} {pos:Pos} {f g h:Env->ag->Res D} {fa:Env->ag->Res (List D)} {ft gt:Env->ag->Res Bool} {st:Stmt} {oy CM:List Stmt} {fs gs:Env->ag->Res Fl}
def Uo (h:PF X tests t) (i:∀ σ H Q,t' σ H Q->t σ H Q):PF X tests t':=λπ s σ H Q I hq=>h π s σ H Q I (i σ H Q hq)
def cM:PF X [] (tT K Ξ bT):=Uo Ud fun σ H Q aA=>by
 obtain⟨w,env,eH,S,eo,h⟩:=aA;subst eH;exact aJ S h
def fy (h:PT X c (tT K Ξ ft)):PF X [c] (tT K Ξ ft):=Ue h
def wJ (i_:∀v σ H Q,g1 v σ H Q->g0 v σ H Q) (wm:∀R R':It->Hp->Prop,(∀J H',R J H'->R' J H')->wi σ H R->wi σ H R') (h:mz wi nt cap g1 tf te σ H Q):mz wi nt cap g0 tf te σ H Q:=by
 refine wm _ _ (λJ H' hc=>?_) h;obtain⟨W,w0,step⟩:=hc;refine⟨W,w0,λi m acc H2 hw=>?_⟩
 rcases step i m acc H2 hw with q | ⟨q1,q2,N,q3,q4⟩
 ·exact .inl q
 ·exact .inr ⟨q1,q2,N,q3,λo x H3 ho y=>i_ _ _ _ _ (q4 o x H3 ho y)⟩
def wZ (R R':It->Hp->Prop) (i:∀J H',R J H'->R' J H') (h:dh K Ξ it σ H R):dh K Ξ it σ H R':=by
 obtain⟨w,env,eH,S,eo,h⟩:=h;exact⟨w,env,eH,S,eo,h.mono λw1 ds _ _ h1 J hJ=>i J _ (h1 J hJ)⟩
def bq (f:Env->ag->Res D):Env->ag->Res (List D):=λenv s=>ao (f env s) λd s=>match d with
 | .lst ds=>ok ds s
 | .tup ds=>ok ds s
 |_=>none
def QD {K:Ĳ} {w:Wd} {a:á} {ds:List D} (h:DV K w (.lst ds) (.ref a)):oz K w (Dg K a) ds:=λw' l' S' i=>by
 have h':=l' _ _ h;simp only[DV] at h';obtain⟨p,xs,e,hq,aq⟩:=h';cases e;refine⟨λd ed=>?_,λhl=>⟨xs,hq.sq,by rw[<- aq.length];exact hl⟩⟩;obtain⟨v,ev,dv⟩:=aq.get' i d ed;exact⟨⟨xs,v,hq.sq,ev⟩,λx H' ⟨e1,e2⟩=>⟨w',e1.symm,Le.refl _,S',rfl,by
  have q:=e2 xs hq.sq;rw[ev] at q;cases q;exact dv⟩⟩
def Sf {K:Ĳ} {w:Wd} {a:á} {ds:List D} (h:DV K w (.tup ds) (.ref a)):oz K w (Dh K a) ds:=λw' l' S' i=>by
 have h':=l' _ _ h;simp only[DV] at h';obtain⟨p,xs,e,hq,aq⟩:=h';cases e;refine⟨λd ed=>?_,λhl=>⟨xs,hq,by rw[<- aq.length];exact hl⟩⟩;obtain⟨v,ev,dv⟩:=aq.get' i d ed;exact⟨⟨xs,v,hq,ev⟩,λx H' ⟨e1,e2⟩=>⟨w',e1.symm,Le.refl _,S',rfl,by
  have q:=e2 xs hq;rw[ev] at q;cases q;exact dv⟩⟩
def cT (hl:PE X a (tE X.K Ξ f)):PI X tg a (dh X.K Ξ (bq f)):=by
 have both:PI X tg a (fun σ H R=>JU X.K (tE X.K Ξ f) σ H R\/KH X.K (tE X.K Ξ f) σ H R):=λπ s σ H R I h=>h.elim (RH hl π s σ H R I) (TN hl π s σ H R I);refine oY both fun σ H R ⟨w,env,eH,S,eo,h⟩=>?_;subst eH;simp only[bq] at h
 cases hf:f env w.aI with
 |none=>rw[hf] at h;exact h.elim
 |some r =>
  obtain⟨r,s⟩:=r;rw[hf] at h
  cases r with
  |error x=>exact .inl ⟨w,env,rfl,S,eo,by rw[hf];exact h⟩
  |ok d =>
   rw[dO] at h
   cases d with
   |lst ds =>
    refine .inl ⟨w,env,rfl,S,eo,?_⟩;rw[hf];intro w1 l1 S1 e1 v dv;have qj:=dv;simp only[DV] at dv;obtain⟨p,xs,rfl,hq,aq⟩:=dv;exact⟨p,rfl,⟨xs,hq.sq⟩,h w1 l1 S1 e1 _ (QD qj)⟩
   |tup ds =>
    refine .inr ⟨w,env,rfl,S,eo,?_⟩;rw[hf];intro w1 l1 S1 e1 v dv;have qj:=dv;simp only[DV] at dv;obtain⟨p,xs,rfl,hq,aq⟩:=dv;exact⟨p,rfl,⟨xs,hq⟩,h w1 l1 S1 e1 _ (Sf qj)⟩
   |_=>exact h.elim
noncomputable def bP (lo:Int) (n:Nat):List D:=(ß n).map λ(i:Nat)=>D.int (lo+(i:Int))
def gG:(bP lo n)[i]?=if i<n then some (.int (lo+i)) else none:=by
 unfold bP;rw[ç];by_cases h:i<n
 ·rw[Ĕ h,Ú h];rfl
 ·rw[Ċ (by simp;omega),æ h];rfl
def cq:(bP lo n).length=n:=by simp[bP]
def H9:oz K w (uY lo n) (bP lo n):=λw' l' S' i=>by
 refine⟨λd ed=>?_,λhl=>by rw[cq] at hl;exact hl⟩;rw[gG] at ed;split at ed
 ·cases ed
  exact⟨by assumption,λx H' ⟨e1,e2⟩=>⟨w',e1.symm,Le.refl _,S',rfl,e2⟩⟩
 ·cases ed
noncomputable def jQ (j:Int):Bool:=decide (-(2 ^ 62)<=j)&&decide (j<2 ^ 62)
def bS (fa:Env->ag->Res (List D)):Env->ag->Res (List D):=λenv s=>ao (fa env s) λds s=>match ds with
 | [.int j]=>if jQ j=true then ok (bP 0 j.toNat) s else none
 |_=>none
def vt (fa:Env->ag->Res (List D)):Env->ag->Res (List D):=λenv s=>ao (fa env s) λds s=>match ds with
 | [.int i,.int j]=>if (jQ i&&jQ j)=true then ok (bP i (j-i).toNat) s else none
 |_=>none
def de (hg:Gl X "range") (hm:X.mg "range"=none) (ha:PA X [a] (tA X.K Ξ fa)) (hs:Þ [a] X.env=[(false,Ť a X.env)]:=by rfl):PI X tg (.Call (.Name "range" p) [a] [] pos) (dh X.K Ξ (bS fa)) :=
 oY (ON hg hm ha hs) fun σ H R aA=>by
  obtain⟨w,env,eH,S,eo,h⟩:=aA;subst eH;refine⟨w,env,rfl,S,eo,(Out.ao h).mono λw1 ds l1 S1 h1 vs aq=>?_⟩;split at h1
  ·rename_i j
   split at h1
   ·rename_i hj
    simp only[jQ,Ç,È] at hj;obtain⟨v,r,rfl,dv,dr⟩:=aq;have e1:v=.int j:=dv;have e2:r=[]:=dr;subst e1 e2;exact⟨j,rfl,hj.1,hj.2,aJ S1 h1 _ H9⟩
   ·exact h1.elim
  ·exact h1.elim
def Jo {p:Pos} (hg:Gl X "range") (hm:X.mg "range"=none) (ha:PA X [a,b] (tA X.K Ξ fa)) (hs:Þ [a,b] X.env=[(false,Ť a X.env),(false,Ť b X.env)]:=by rfl) (cf:Þ [b] X.env=[(false,Ť b X.env)]:=by rfl):PI X tg (.Call (.Name "range" p) [a,b] [] pos) (dh X.K Ξ (vt fa)) :=
 oY (OO hg hm ha hs cf) fun σ H R aA=>by
  obtain⟨w,env,eH,S,eo,h⟩:=aA;subst eH;refine⟨w,env,rfl,S,eo,(Out.ao h).mono λw1 ds l1 S1 h1 vs aq=>?_⟩;split at h1
  ·rename_i i j
   split at h1
   ·rename_i hj
    simp only[jQ,Ç,È] at hj;obtain⟨v,r,rfl,dv,v2,r2,rfl,jc,dr⟩:=aq;have e1:v=.int i:=dv;have e2:v2=.int j:=jc;have e3:r2=[]:=dr;subst e1 e2 e3;exact⟨i,j,rfl,⟨hj.1.1,hj.1.2,hj.2.1,hj.2.2⟩,aJ S1 h1 _ H9⟩
   ·exact h1.elim
  ·exact h1.elim
noncomputable def fc (xs ys:List D):List D:=(xs.zip ys).map λp=>.tup [p.1,p.2]
def G8 {i:Nat} (h:(fc xs ys)[i]?=some d):∃x y,xs[i]?=some x/\ys[i]?=some y/\d=.tup [x,y]:=by
 unfold fc at h;rw[ç] at h
 cases hz:(xs.zip ys)[i]? with
 |none=>rw[hz] at h;cases h
 |some p =>
  rw[hz] at h;obtain⟨q1,q2⟩:=List.getElem?_zip_eq_some.mp hz;exact⟨p.1,p.2,q1,q2,(Option.some.inj h).symm⟩
def oO:(fc xs ys).length=min xs.length ys.length:=by simp[fc]
def Gy (S':aM K w') (hp:w'.H p=none) (h1:DV K w' d x) (h2:DV K w' d2 y) :
  ∃w2,w2.H=upd w'.H p (.tup [x,y])/\Le K w' w2/\aM K w2/\w2.aI=w'.aI/\DV K w2 (.tup [d,d2]) (.ref p) :=
 ⟨w'.grow p (.tup [x,y]),rfl,(Fw.grow hp).le,S'.grow hp,rfl,p,[x,y],rfl,aT.of dw,(Fw.grow hp).le.all (ar.two h1 h2)⟩
def QE {K:Ĳ} {w:Wd} {a b:á} {ds es:List D} (h:DV K w (.tup ds) (.ref a)) (g:DV K w (.tup es) (.ref b)):oz K w (CG K a b) (fc ds es):=λw' l' S' i=>by
 have h':=l' _ _ h;have g':=l' _ _ g;simp only[DV] at h' g';obtain⟨p,xs,e,hq,aq⟩:=h';obtain⟨q,ys,e',gq,vv⟩:=g';cases e;cases e';refine⟨λd ed=>?_,λhl=>⟨xs,ys,hq,gq,?_⟩⟩
 ·obtain⟨x,y,e1,e2,rfl⟩:=G8 ed
  obtain⟨v,ev,dv⟩:=aq.get' i x e1;obtain⟨u,eu,du⟩:=vv.get' i y e2;refine⟨⟨xs,ys,v,u,hq,gq,ev,eu⟩,λz H' ⟨r,x1,y1,hr,ez,eH,DM⟩=>?_⟩;obtain⟨q1,q2⟩:=DM xs ys hq gq;rw[ev] at q1;rw[eu] at q2;cases q1;cases q2;subst ez eH;exact Gy S' hr dv du
 ·rw[oO] at hl
  have:=aq.length;have:=vv.length;omega
def kI (fa:Env->ag->Res (List D)):Env->ag->Res (List D):=λenv s=>ao (fa env s) λds s=>match ds with
 | [.tup xs,.tup ys]=>ok (fc xs ys) s
 |_=>none
def xU {p:Pos} {elts:List ļ} {kk:Nat} {uE:Pos} (hg:Gl X "zip") (hm:X.mg "zip"=none) (ha:PA X [a,b] (tA X.K Ξ fa)) (hs:Þ [a,b] X.env=[(false,Ť a X.env),(false,Ť b X.env)]:=by rfl) (cf:Þ [b] X.env=[(false,Ť b X.env)]:=by rfl) :
  PI X (.Tuple elts kk uE) (.Call (.Name "zip" p) [a,b] [] pos) (dh X.K Ξ (kI fa)):=by
 refine oY (RZ hg hm ha hs cf) fun σ H R aA=>?_;obtain⟨w,env,eH,S,eo,h⟩:=aA;subst eH;refine⟨w,env,rfl,S,eo,(Out.ao h).mono λw1 ds l1 S1 h vs aq=>?_⟩;split at h
 ·obtain⟨v,r,rfl,dv,v2,r2,rfl,jc,dr⟩:=aq
  have e3:r2=[]:=dr;subst e3;have q1:=dv;have q2:=jc;simp only[DV] at q1 q2;obtain⟨p,xs,rfl,hq,_⟩:=q1;obtain⟨q,ys,rfl,gq,_⟩:=q2;exact⟨p,q,xs,ys,rfl,hq,gq,aJ S1 h _ (QE dv jc)⟩
 ·exact h.elim
def ax (fn:List D->ag->Res D) (fa:Env->ag->Res (List D)):Env->ag->Res D:=λenv s=>ao (fa env s) λds s=>ne (fn ds s)
def Bc {k:Nat} {fA:á} {fd:Ŗ} {Lz:List Str} {fn:List D->ag->Res D} {x:Str} {p:Pos} (F:fB X.prog X.w X.K X.mg X.base gy k fA fd Lz (ma X.K fn)) (hr:bW k X.A) (hg:Gl X x) (hm:X.mg x=some (.ref fA)) (hk:ų X.K (.ref fA)=true) (hb:Binds X.K fd Lz [])
  (ha:PA X (e::es) (tA X.K Ξ fa)) (jA:(x==("__debug__":Str))=false:=by decide) (he:Þ (e::es) X.env=(false,Ť e X.env)::Þ es X.env:=by rfl) (cP:(aab pos (Þ es X.env)).any (·.1)=false:=by rfl) :
  PE X (.Call (.Name x p) (e::es) [] pos) (tE X.K Ξ (ax fn fa)):=cQ (RN F hr hg hm hk hb .nil JV ha jA he cP) fun σ H Q aA=>by
 obtain⟨w,env,eH,S,eo,h⟩:=aA;subst eH;refine⟨w,env,rfl,S,eo,(Out.ao h).mono λw1 ds l1 S1 h1 vs aq=>?_⟩;show ma X.K fn (vs++[]) w1.H Q E0;rw[Ō];exact⟨w1,ds,rfl,S1,aq,h1.ne⟩
def ar.env (h:ar K w ds vs) (n:Nat):bZ K w (ds.map some++Ï (n-ds.length) none) (vs.map some++Ï (n-vs.length) none):=by
 have hl:=h.length;refine⟨by simp[hl],λi d e=>?_⟩;by_cases hi:i<ds.length
 ·rw[ä (by simpa using hi),ç] at e
  rw[ä (by simp;omega),ç]
  cases hd:ds[i]? with
  |none=>rw[hd] at e;cases e
  |some d' =>
   rw[hd] at e;cases e;obtain⟨v,ev,dv⟩:=h.get' i d hd;exact⟨v,by rw[ev];rfl,dv⟩
 ·rw[ü (by simpa using ο hi),ĭ] at e
  split at e<;>cases e
end
def J0 (F:qd K x qual st f fd) (S:qO N ps (gF st))
 (hb:∀(cz:Í) (A:đ) (outer:List PySem.Env) (s:É) (H:Hp) (E:XK),bW k (A.deeper (PyProof.Rows.envOfC qual (gF st) s.heap.objs.size f cz))->eT (nU gy P w K mg base N qual (gF st) f cz A outer s H E).so (lF st) (tS K bH b)) :
  fB P w K mg base gy (k+1) f fd ps (ma K (aU ps.length N.length b)):=by
 refine F.ok S (λvs H Q E h=>?_) (λcz A outer s H vs Q E hr h=>?_)
 ·obtain⟨w,ds,rfl,S,aq,h⟩:=h
  rw[<- aq.length];unfold aU at h;split at h
  ·assumption
  ·exact h.elim
 ·obtain⟨w,ds,rfl,S,aq,h⟩:=h
  refine⟨_,hb cz A outer s w.H E hr,?_⟩;unfold aU at h;split at h
  ·rename_i hl
   rw[<- hl] at h;refine⟨w,_,rfl,S,aq.env N.length,(Out.ao h).mono λw1 fl l1 S1 h1=>?_⟩
   cases fl with
   |nx env=>intro ba _;exact aJ S1 h1 _ rfl
   |rt d=>have q:=aJ S1 h1;exact q
   |bk env=>exact h1.elim
   |ct env=>exact h1.elim
  ·exact h.elim
mutual
noncomputable def py:D->aaD
 | .au=>.none
 | .bl b=>.bool b
 | .int i=>.int i
 | .str x=>.str x
 | .tup ds=>.tuple (bQ ds)
 | .lst ds=>.list (bQ ds)
 | .bb ai=>.dict (ai.map λp=>(rR p.1,PyData.int p.2))
 | .aj _=>.none
 | .ty _=>.none
 | .bG _=>.none
noncomputable def bQ:List D->List aaD
 | []=>[]
 |d::ds=>py d::bQ ds
end
mutual
noncomputable def plain:D->Bool
 | .au=>true
 | .bl _=>true
 | .int _=>true
 | .str _=>true
 | .tup ds=>iU ds
 | .lst ds=>iU ds
 | .bb _=>true
 | .aj _=>false
 | .ty _=>false
 | .bG _=>false
noncomputable def iU:List D->Bool
 | []=>true
 |d::ds=>plain d&&iU ds
end
mutual
noncomputable def lay:D->Bool
 | .au=>true
 | .bl _=>true
 | .int _=>true
 | .str x=>abC x
 | .tup ds=>cG ds
 | .lst ds=>cG ds
 | .bb _=>false
 | .aj _=>false
 | .ty _=>false
 | .bG _=>false
noncomputable def cG:List D->Bool
 | []=>true
 |d::ds=>lay d&&cG ds
end
mutual
noncomputable def dep:D->Nat
 | .tup ds=>cC ds+1
 | .lst ds=>cC ds+1
 | .bb ai=>1
 | .au=>0
 | .bl _=>0
 | .int _=>0
 | .str _=>0
 | .aj _=>0
 | .ty _=>0
 | .bG _=>0
noncomputable def cC:List D->Nat
 | []=>0
 |d::ds=>max (dep d) (cC ds)
end
mutual
noncomputable def beq:D->D->Bool
 | .au,.au=>true
 | .bl a,.bl b=>a==b
 | .bl a,.int j=>(if a then 1 else 0)==j
 | .int i,.bl b=>i==(if b then 1 else 0)
 | .int i,.int j=>i==j
 | .str x,.str y=>x==y
 | .tup xs,.tup ys=>ij xs ys
 | .lst xs,.lst ys=>ij xs ys
 |_,_=>false
noncomputable def ij:List D->List D->Bool
 | [],[]=>true
 |x::xs,y::ys=>beq x y&&ij xs ys
 |_,_=>false
end
mutual
def oM:∀(d:D),lay d=true->plain d=true
 | .au,_=>rfl
 | .bl _,_=>rfl
 | .int _,_=>rfl
 | .str _,_=>rfl
 | .tup ds,h=>by simp only[lay,plain] at h |-;exact oH ds h
 | .lst ds,h=>by simp only[lay,plain] at h |-;exact oH ds h
 | .bb _,h=>by simp[lay] at h
 | .aj _,h=>by simp[lay] at h
 | .ty _,h=>by simp[lay] at h
 | .bG _,h=>by simp[lay] at h
def oH:∀(ds:List D),cG ds=true->iU ds=true
 | [],_=>rfl
 |d::ds,h=>by
  simp only[cG,iU,Ç] at h |-;exact⟨oM d h.1,oH ds h.2⟩
end
mutual
def ko:∀(d:D),lay d=true->(py d).canLay0=true/\(py d).depth=dep d
 | .au,_=>⟨rfl,by simp[py,dep,PyData.depth]⟩
 | .bl _,_=>⟨rfl,by simp[py,dep,PyData.depth]⟩
 | .int _,_=>⟨rfl,by simp[py,dep,PyData.depth]⟩
 | .str _,h=>⟨h,by simp[py,dep,PyData.depth]⟩
 | .tup ds,h=>by
  obtain⟨h1,h2⟩:=tF ds (by simpa [lay] using h);simp only[py,dep,PyData.depth,PyData.canLay0];exact⟨h1,by rw[h2]⟩
 | .lst ds,h=>by
  obtain⟨h1,h2⟩:=tF ds (by simpa [lay] using h);simp only[py,dep,PyData.depth,PyData.canLay0];exact⟨h1,by rw[h2]⟩
 | .bb _,h=>by simp[lay] at h
 | .aj _,h=>by simp[lay] at h
 | .ty _,h=>by simp[lay] at h
 | .bG _,h=>by simp[lay] at h
def tF:∀(ds:List D),cG ds=true->PyData.canLayAll0 (bQ ds)=true/\ž (bQ ds)=cC ds
 | [],_=>⟨rfl,rfl⟩
 |d::ds,h=>by
  simp only[cG,Ç] at h;obtain⟨a1,a2⟩:=ko d h.1;obtain⟨b1,b2⟩:=tF ds h.2;simp only[bQ,cC,PyData.canLayAll0,ž,a1,b1,a2,b2,Ĥ,ğ]
end
mutual
def ra:∀(d e:D),lay d=true->lay e=true->į (py d) (py e)=beq d e
 | .tup xs,.tup ys,h,g=>by
  simp only[py,beq,į];exact Ah xs ys (by simpa [lay] using h) (by simpa [lay] using g)
 | .lst xs,.lst ys,h,g=>by
  simp only[py,beq,į];exact Ah xs ys (by simpa [lay] using h) (by simpa [lay] using g)
 | .au,e,_,g=>by cases e<;>simp_all [py,beq,į,lay]
 | .bl _,e,_,g=>by cases e<;>simp_all [py,beq,į,lay]
 | .int _,e,_,g=>by cases e<;>simp_all [py,beq,į,lay]
 | .str _,e,_,g=>by cases e<;>simp_all [py,beq,į,lay]
 | .tup _,.au,_,_=>by simp[py,beq,į]
 | .tup _,.bl _,_,_=>by simp[py,beq,į]
 | .tup _,.int _,_,_=>by simp[py,beq,į]
 | .tup _,.str _,_,_=>by simp[py,beq,į]
 | .tup _,.lst _,_,_=>by simp[py,beq,į]
 | .lst _,.au,_,_=>by simp[py,beq,į]
 | .lst _,.bl _,_,_=>by simp[py,beq,į]
 | .lst _,.int _,_,_=>by simp[py,beq,į]
 | .lst _,.str _,_,_=>by simp[py,beq,į]
 | .lst _,.tup _,_,_=>by simp[py,beq,į]
 | .bb _,_,h,_=>by simp[lay] at h
 | .aj _,_,h,_=>by simp[lay] at h
 | .ty _,_,h,_=>by simp[lay] at h
 | .bG _,_,h,_=>by simp[lay] at h
 |_,.bb _,_,h=>by simp[lay] at h
 |_,.aj _,_,h=>by simp[lay] at h
 |_,.ty _,_,h=>by simp[lay] at h
 |_,.bG _,_,h=>by simp[lay] at h
def Ah:∀(ds es:List D),cG ds=true->cG es=true->PyData.eqvAll (bQ ds) (bQ es)=ij ds es
 | [],[],_,_=>rfl
 | [],_::_,_,_=>rfl
 |_::_,[],_,_=>rfl
 |d::ds,e::es,h,g=>by
  simp only[cG,Ç] at h g;simp only[bQ,ij,PyData.eqvAll,ra d e h.1 g.1,Ah ds es h.2 g.2]
end
mutual
def DV.py:∀{d:D} {v:V},DV K w d v->plain d=true->L2.DV K (λ_=>False) w.H (DI.py d) v
 | .au,_,h,_=>h
 | .bl _,_,h,_=>h
 | .int _,_,h,_=>h
 | .str _,_,h,_=>h
 | .tup ds,v,h,p=>by
  simp only[DV] at h;obtain⟨a,xs,e,hq,r⟩:=h;simp only[DI.py,L2.DV];exact⟨a,xs,e,hq,ar.py r (by simpa [plain] using p)⟩
 | .lst ds,v,h,p=>by
  simp only[DV] at h;obtain⟨a,xs,e,hq,r⟩:=h;simp only[DI.py,L2.DV];exact⟨a,xs,e,not_false,hq.2,ar.py r (by simpa [plain] using p)⟩
 | .bb ai,v,h,p=>by
  simp only[DV] at h;obtain⟨a,e,hz,hq⟩:=h;simp only[DI.py,L2.DV];exact⟨a,_,e,not_false,hq,ai,rfl,rfl⟩
 | .aj _,_,_,p=>by simp[plain] at p
 | .ty _,_,_,p=>by simp[plain] at p
 | .bG _,_,_,p=>by simp[plain] at p
def ar.py:∀{ds:List D} {vs:List V},ar K w ds vs->iU ds=true->L2.ar K (λ_=>False) w.H (DI.bQ ds) vs
 | [],_,h,_=>h
 |d::ds,vs,h,p=>by
  simp only[ar] at h;obtain⟨v,r,e,h1,h2⟩:=h;simp only[iU,Ç] at p;exact⟨v,r,e,DV.py h1 p.1,ar.py h2 p.2⟩
end
def res (d:D) (s:ag):D:=match d with
 | .aj k=>match s[k]? with
  |some (.lst ds)=>.lst ds
  |_=>d
 |_=>d
def DV.res (S:aM K w) (h:DV K w d v) (p:plain (DI.res d w.aI)=true):L2.DV K (λ_=>False) w.H (DI.py (DI.res d w.aI)) v:=by
 cases d with
 |aj k =>
  unfold DI.res at p |-;simp only at p |-
  split at p<;>rename_i hk
  ·rename_i ds
   obtain⟨a,e1,rfl⟩:=h;obtain⟨xs,q1,q2⟩:=S.cell k a _ e1 hk;simp only[DI.py,L2.DV];exact⟨a,xs,rfl,not_false,q1,q2.py (by simpa [plain] using p)⟩
  ·simp[plain] at p
 |_=>exact h.py p
noncomputable def kU:D->Bool
 | .str _=>true
 |_=>false
def Uq (h:kU d=true):∃x,d=.str x:=by cases d<;>first|exact⟨_,rfl⟩|cases h
def gJ (x y:D):Option Bool:=if (kU x&&kU y)=true then some (beq x y) else if (lay x&&lay y&&decide (min (dep x) (dep y)<=100))=true then some (beq x y) else none
def aV (x y:D) (s:ag):Res D:=match gJ (res x s) (res y s) with
 |some b=>ok (.bl b) s
 |none=>none
def gr (x y:D) (s:ag):Res D:=match gJ (res x s) (res y s) with
 |some b=>ok (.bl (!b)) s
 |none=>none
def Ia (S:aM K w) (hx:DV K w x v) (hy:DV K w y u) (h:gJ (res x w.aI) (res y w.aI)=some b) :
  (Cv v u=true/\decide (v=u)=b)\/∃(d e:aaD),L2.DV K (λ_=>False) w.H d v/\L2.DV K (λ_=>False) w.H e u/\d.canLay0=true/\e.canLay0=true/\min d.depth e.depth<=100/\į d e=b:=by
 have str:∀{d:D} {v:V},kU (res d w.aI)=true->DV K w d v->∃x,res d w.aI=.str x/\v=.str x:=λ{d v} hs hd=>by
  obtain⟨x,e⟩:=Uq hs
  cases d with
  |str y=>cases e;exact⟨x,rfl,hd⟩
  |aj k =>
   unfold res at e;simp only at e
   split at e<;>cases e
  |_=>cases e
 unfold gJ at h;split at h
 ·rename_i hs
  rw[Ç] at hs;obtain⟨a,ea,rfl⟩:=str hs.1 hx;obtain⟨c,ec,rfl⟩:=str hs.2 hy;rw[ea,ec] at h;exact .inl ⟨rfl,by rw[<- Option.some.inj h];exact AE⟩
 split at h
 ·rename_i hl
  right;simp only[Ç,È] at hl;obtain⟨⟨l1,l2⟩,l3⟩:=hl;obtain⟨p1,p2⟩:=ko _ l1;obtain⟨q1,q2⟩:=ko _ l2;exact⟨_,_,hx.res S (oM _ l1),hy.res S (oM _ l2),p1,q1,by rw[p2,q2];exact l3,by rw[ra _ _ l1 l2];exact Option.some.inj h⟩
 ·cases h
section
variable {X:Cx} {Ξ:Wd->bx->Prop}
def dB (hr:bW k X.A):aY X (Č .Eq) (rO X.K Ξ aV):=by
 rintro π s σ H x y v u Q I rx ry ⟨w,dx,dy,rfl,S,hx,hy,h⟩;unfold aV at h;split at h
 ·rename_i b hb
  rcases Ia S hx hy hb with ⟨h1,h2⟩ | ⟨d,e,h1,h2,h3,h4,h5,h6⟩
  ·exact Vv π s σ w.H x y v u Q I rx ry ⟨h1,by rw[h2];exact aJ S h _ rfl⟩
  exact Ui hr π s σ w.H x y v u Q I rx ry ⟨d,e,_,h1,h2,h3,h4,h5,by simp only[Ã,ê];rw[h6];exact aJ S h _ rfl⟩
 ·exact h.elim
def lS (hr:bW k X.A):aY X (Č .NotEq) (rO X.K Ξ gr):=by
 rintro π s σ H x y v u Q I rx ry ⟨w,dx,dy,rfl,S,hx,hy,h⟩;unfold gr at h;split at h
 ·rename_i b hb
  rcases Ia S hx hy hb with ⟨h1,h2⟩ | ⟨d,e,h1,h2,h3,h4,h5,h6⟩
  ·exact Vw π s σ w.H x y v u Q I rx ry ⟨h1,by rw[h2];exact aJ S h _ rfl⟩
  exact Uj hr π s σ w.H x y v u Q I rx ry ⟨d,e,_,h1,h2,h3,h4,h5,by simp only[û];rw[h6];exact aJ S h _ rfl⟩
 ·exact h.elim
end
end DI
namespace DI
open PySem L2
def bB (r:Option D) (s:ag):Res D:=match r with
 |some d=>ok d s
 |none=>none
def fx (h:Out K Ξ w (bB r w.aI) k):∃d,r=some d/\Out K Ξ w (ok d w.aI) k:=by
 unfold bB at h;split at h
 ·exact⟨_,rfl,h⟩
 ·exact h.elim
noncomputable def pP (xs ys:List D):Bool:=decide (xs.length+ys.length<=Õ)
def rT:D->D->Option D
 | .int i,.int j=>some (.int (i+j))
 | .tup xs,.tup ys=>if pP xs ys=true then some (.tup (xs++ys)) else none
 | .lst xs,.lst ys=>if pP xs ys=true then some (.lst (xs++ys)) else none
 | .str x,.str y=>if decide (x.length+y.length<=Õ)=true then some (.str (x++y)) else none
 |_,_=>none
def bR (x y:D) (s:ag):Res D:=bB (rT (res x s) (res y s)) s
noncomputable def KR:D->D->Option D
 | .int i,.int j=>some (.int (i-j))
 |_,_=>none
def rE (x y:D) (s:ag):Res D:=bB (KR x y) s
noncomputable def ue (i j:Int):Bool:=(decide (-(2 ^ 64)<i)&&decide (i<2 ^ 64))||(decide (-(2 ^ 64)<j)&&decide (j<2 ^ 64))
def yA:D->D->Option D
 | .int i,.int j=>if ue i j=true then some (.int (i*j)) else none
 | .tup xs,.int k=>if (!xs.isEmpty&&decide (1<=k)&&decide (xs.length*k.toNat<=Õ))=true then some (.tup (Ï k.toNat xs).flatten) else none
 | .lst xs,.int k=>if (decide (-(2 ^ 63)<=k)&&decide (k<2 ^ 63)&&decide (xs.length*k.toNat<=Õ))=true then some (.lst (Ï k.toNat xs).flatten) else none
 |_,_=>none
def ic (x y:D) (s:ag):Res D:=bB (yA x y) s
noncomputable def CO:D->D->Option D
 | .int i,.int j=>if decide (0<j)=true then some (.int (i % j)) else none
 |_,_=>none
def mB (x y:D) (s:ag):Res D:=bB (CO x y) s
noncomputable def CP:D->D->Option D
 | .int i,.int j=>if (decide (0<j)&&decide (j<1073741824))=true then some (.int (i / j)) else none
 |_,_=>none
def ug (x y:D) (s:ag):Res D:=bB (CP x y) s
noncomputable def CQ:D->D->Option D
 | .int i,.int j=>if (decide (0<=j)&&decide (j<=1000000)&&decide (i.natAbs<2 ^ 64))=true then some (.int (i ^ j.toNat)) else none
 |_,_=>none
def rF (x y:D) (s:ag):Res D:=bB (CQ x y) s
noncomputable def KS:D->Option D
 | .int i=>some (.int (-i))
 |_=>none
def jR (x:D) (s:ag):Res D:=bB (KS x) s
def ar.flat (h:ar K w ds vs):∀n:Nat,ar K w (Ï n ds).flatten (Ï n vs).flatten
 |0=>rfl
 |n+1=>by
  rw[ĺ,ĺ,ŝ,ŝ];exact ar.append h (ar.flat h n)
def jL (S:aM K w) (h:DV K w d v) (e:res d w.aI=.lst ds):∃a xs,v=.ref a/\w.H a=some (.lst xs)/\ar K w ds xs:=by
 unfold res at e;split at e
 ·rename_i k
  split at e
  ·rename_i es hk
   cases e;obtain⟨a,e1,rfl⟩:=h;obtain⟨xs,q1,q2⟩:=S.cell k a _ e1 hk;exact⟨a,xs,rfl,q1,q2⟩
  ·cases e
 ·subst e
  simp only[DV] at h;obtain⟨a,xs,e,hq,r⟩:=h;exact⟨a,xs,e,hq.2,r⟩
def fg (h:res d s=e) (hl:∀ds,e≠.lst ds):d=e:=by
 unfold res at h;split at h
 ·split at h
  ·exact absurd h.symm (hl _)
  ·exact h
 ·exact h
section
variable {X:Cx} {Ξ:Wd->bx->Prop}
def pM (S:aM K w) (aq:ar K w ds vs) (h:Out K Ξ w (ok (D.tup ds) w.aI) λw' d=>∀v,DV K w' d v->Q v w'.H):nV K w.H vs Q:=λa H' e hq =>
 h (w.same H') (Fw.same e).le (S.same e) rfl (.ref a) ⟨a,vs,rfl,hq,(Fw.same e).le.all aq⟩
def rV {K:Ĳ} {w:Wd} {ds:List D} {vs:List V} {Q:VK} (S:aM K w) (aq:ar K w ds vs) (h:Out K Ξ w (ok (D.lst ds) w.aI) λw' d=>∀v,DV K w' d v->Q v w'.H):∀p,w.H p=none->Q (.ref p) (upd w.H p (.lst vs)):=λp hp =>
 h (w.grow p (.lst vs)) (Fw.grow hp).le (S.grow hp) rfl (.ref p) ⟨p,vs,rfl,⟨(show ¬ w.Z p from nB S hp),dw⟩,(Fw.grow hp).le.all aq⟩
def Ur {K:Ĳ} {w:Wd} {ds:List D} {vs:List V} {Q:VK} (S:aM K w) (aq:ar K w ds vs) (h:Out K Ξ w (ok (D.tup ds) w.aI) λw' d=>∀v,DV K w' d v->Q v w'.H):∀p,w.H p=none->Q (.ref p) (upd w.H p (.tup vs)):=λp hp =>
 h (w.grow p (.tup vs)) (Fw.grow hp).le (S.grow hp) rfl (.ref p) ⟨p,vs,rfl,aT.of dw,(Fw.grow hp).le.all aq⟩
def dW:aY X (ŋ .Add) (rO X.K Ξ bR):=by
 rintro π s σ H x y v u Q I rx ry ⟨w,dx,dy,rfl,S,hx,hy,h⟩;obtain⟨d,e,h⟩:=fx h;unfold rT at e;split at e
 ·rename_i i j e1 e2
  rw[fg e1 (by intro _ z;cases z)] at hx;rw[fg e2 (by intro _ z;cases z)] at hy;cases e;cases hx;cases hy;exact TR π s σ w.H _ _ v u Q I rx ry ⟨i,j,rfl,rfl,aJ S h _ rfl⟩
 ·rename_i xs ys e1 e2
  rw[fg e1 (by intro _ z;cases z)] at hx;rw[fg e2 (by intro _ z;cases z)] at hy;split at e
  ·rename_i hl
   cases e;simp only[DV] at hx hy;obtain⟨a,as,rfl,ha,jE⟩:=hx;obtain⟨b,bs,rfl,hb,vw⟩:=hy;exact RX π s σ w.H _ _ v u Q I rx ry ⟨a,b,as,bs,rfl,rfl,ha,hb,by rw[<- jE.length,<- vw.length];exact Ĭ hl,pM S (jE.append vw) h⟩
  ·cases e
 ·rename_i xs ys e1 e2
  split at e
  ·rename_i hl
   cases e;obtain⟨a,as,rfl,ha,jE⟩:=jL S hx e1;obtain⟨b,bs,rfl,hb,vw⟩:=jL S hy e2;exact Ub π s σ w.H _ _ v u Q I rx ry ⟨a,b,as,bs,rfl,rfl,ha,hb,by rw[<- jE.length,<- vw.length];exact Ĭ hl,rV S (jE.append vw) h⟩
  ·cases e
 ·rename_i i j e1 e2
  rw[fg e1 (by intro _ z;cases z)] at hx;rw[fg e2 (by intro _ z;cases z)] at hy;split at e
  ·rename_i hl
   cases e;cases hx;cases hy;exact NN π s σ w.H _ _ v u Q I rx ry ⟨i,j,rfl,rfl,Ĭ hl,aJ S h _ rfl⟩
  ·cases e
 ·cases e
def BN:aY X (ŋ .Sub) (rO X.K Ξ rE):=by
 rintro π s σ H x y v u Q I rx ry ⟨w,dx,dy,rfl,S,hx,hy,h⟩;obtain⟨d,e,h⟩:=fx h;unfold KR at e;split at e
 ·rename_i i j
  cases e;cases hx;cases hy;exact TU π s σ w.H _ _ v u Q I rx ry ⟨i,j,rfl,rfl,aJ S h _ rfl⟩
 ·cases e
def rG:aY X (ŋ .Mult) (rO X.K Ξ ic):=by
 rintro π s σ H x y v u Q I rx ry ⟨w,dx,dy,rfl,S,hx,hy,h⟩;obtain⟨d,e,h⟩:=fx h;unfold yA at e;split at e
 ·rename_i i j
  split at e
  ·rename_i hm
   cases e;cases hx;cases hy;refine TV π s σ w.H _ _ v u Q I rx ry ⟨i,j,rfl,rfl,?_,aJ S h _ rfl⟩;unfold yq;simpa [ue] using hm
  ·cases e
 ·rename_i xs k
  split at e
  ·rename_i hm
   cases e;cases hy;simp only[Ç,È] at hm;simp only[DV] at hx;obtain⟨a,as,rfl,ha,jE⟩:=hx;have hl:=jE.length;refine R8 π s σ w.H _ _ v u Q I rx ry ⟨a,as,k,rfl,rfl,ha,?_,hm.1.2,by rw[<- hl];exact hm.2,pM S (jE.flat _) h⟩;intro z;subst z
   cases xs with
   |nil=>simp at hm
   |cons _ _=>cases hl
  ·cases e
 ·rename_i xs k
  split at e
  ·rename_i hm
   cases e;cases hy;simp only[Ç,È] at hm;simp only[DV] at hx;obtain⟨a,as,rfl,ha,jE⟩:=hx;exact Uc π s σ w.H _ _ v u Q I rx ry ⟨a,k,as,rfl,rfl,ha.2,hm.1.1,hm.1.2,by rw[<- jE.length];exact hm.2,rV S (jE.flat _) h⟩
  ·cases e
 ·cases e
def rH:aY X (ŋ .Mod) (rO X.K Ξ mB):=by
 rintro π s σ H x y v u Q I rx ry ⟨w,dx,dy,rfl,S,hx,hy,h⟩;obtain⟨d,e,h⟩:=fx h;unfold CO at e;split at e
 ·rename_i i j
  split at e
  ·rename_i hm
   cases e;cases hx;cases hy;exact TX π s σ w.H _ _ v u Q I rx ry ⟨i,j,rfl,rfl,Ĭ hm,aJ S h _ rfl⟩
  ·cases e
 ·cases e
def J1:aY X (ŋ .FloorDiv) (rO X.K Ξ ug):=by
 rintro π s σ H x y v u Q I rx ry ⟨w,dx,dy,rfl,S,hx,hy,h⟩;obtain⟨d,e,h⟩:=fx h;unfold CP at e;split at e
 ·rename_i i j
  split at e
  ·rename_i hm
   simp only[Ç,È] at hm;cases e;cases hx;cases hy;exact RJ π s σ w.H _ _ v u Q I rx ry ⟨i,j,rfl,rfl,hm,aJ S h _ rfl⟩
  ·cases e
 ·cases e
def BO:aY X (ŋ .Pow) (rO X.K Ξ rF):=by
 rintro π s σ H x y v u Q I rx ry ⟨w,dx,dy,rfl,S,hx,hy,h⟩;obtain⟨d,e,h⟩:=fx h;unfold CQ at e;split at e
 ·rename_i i j
  split at e
  ·rename_i hm
   simp only[Ç,È] at hm;cases e;cases hx;cases hy;exact TY π s σ w.H _ _ v u Q I rx ry ⟨i,j,rfl,rfl,⟨hm.1.1,hm.1.2,hm.2⟩,aJ S h _ rfl⟩
  ·cases e
 ·cases e
def rJ:u4 X (unaryOp .USub) (rU X.K Ξ jR):=by
 rintro π s σ H x v Q I rx ⟨w,dx,rfl,S,hx,h⟩;obtain⟨d,e,h⟩:=fx h;unfold KS at e;split at e
 ·rename_i i
  cases e;cases hx;exact TZ π s σ w.H _ v Q I rx ⟨i,rfl,aJ S h _ rfl⟩
 ·cases e
noncomputable def nW (p:Int->Int->Bool):D->D->Option D
 | .int i,.int j=>some (.bl (p i j))
 |_,_=>none
def kJ (x y:D) (s:ag):Res D:=bB (nW (λi j=>decide (i<=j)) x y) s
def rW (x y:D) (s:ag):Res D:=bB (nW (λi j=>decide (j<i)) x y) s
def yB (x y:D) (s:ag):Res D:=bB (nW (λi j=>decide (j<=i)) x y) s
def xV (x y:D) (s:ag):Res D:=bB (nW (λi j=>decide (i<j)) x y) s
def rX:aY X (Č .LtE) (rO X.K Ξ kJ):=by
 rintro π s σ H x y v u Q I rx ry ⟨w,dx,dy,rfl,S,hx,hy,h⟩;obtain⟨d,e,h⟩:=fx h;unfold nW at e;split at e
 ·rename_i i j
  cases e;cases hx;cases hy;exact Vy π s σ w.H _ _ v u Q I rx ry ⟨i,j,rfl,rfl,aJ S h _ rfl⟩
 ·cases e
def KU:aY X (Č .Gt) (rO X.K Ξ rW):=by
 rintro π s σ H x y v u Q I rx ry ⟨w,dx,dy,rfl,S,hx,hy,h⟩;obtain⟨d,e,h⟩:=fx h;unfold nW at e;split at e
 ·rename_i i j
  cases e;cases hx;cases hy;exact Vz π s σ w.H _ _ v u Q I rx ry ⟨i,j,rfl,rfl,aJ S h _ rfl⟩
 ·cases e
def Xi:aY X (Č .GtE) (rO X.K Ξ yB):=by
 rintro π s σ H x y v u Q I rx ry ⟨w,dx,dy,rfl,S,hx,hy,h⟩;obtain⟨d,e,h⟩:=fx h;unfold nW at e;split at e
 ·rename_i i j
  cases e;cases hx;cases hy;exact VA π s σ w.H _ _ v u Q I rx ry ⟨i,j,rfl,rfl,aJ S h _ rfl⟩
 ·cases e
def V0:aY X (Č .Lt) (rO X.K Ξ xV):=by
 rintro π s σ H x y v u Q I rx ry ⟨w,dx,dy,rfl,S,hx,hy,h⟩;obtain⟨d,e,h⟩:=fx h;unfold nW at e;split at e
 ·rename_i i j
  cases e;cases hx;cases hy;exact Vx π s σ w.H _ _ v u Q I rx ry ⟨i,j,rfl,rfl,aJ S h _ rfl⟩
 ·cases e
noncomputable def LA:D->Bool
 | .au=>true
 |_=>false
def nE (x y:D) (s:ag):Res D:=match y with
 | .au=>ok (.bl (!LA x)) s
 |_=>none
def Us (h:DV K w d v):decide (v=.au)=LA d:=by
 cases d with
 |au=>cases h;rfl
 |bl b=>cases h;rfl
 |int b=>cases h;rfl
 |str b=>cases h;rfl
 |ty b=>cases h;rfl
 |tup ds=>simp only[DV] at h;obtain⟨a,xs,rfl,_⟩:=h;rfl
 |lst ds=>simp only[DV] at h;obtain⟨a,xs,rfl,_⟩:=h;rfl
 |bb ds=>simp only[DV] at h;obtain⟨a,rfl,_⟩:=h;rfl
 |aj k=>simp only[DV] at h;obtain⟨a,_,rfl⟩:=h;rfl
 |bG k=>simp only[DV] at h;obtain⟨a,rfl,_⟩:=h;rfl
def Jp:aY X (Č .IsNot) (rO X.K Ξ nE):=by
 rintro π s σ H x y v u Q I rx ry ⟨w,dx,dy,rfl,S,hx,hy,h⟩;unfold nE at h;split at h
 ·cases hy
  exact RK π s σ w.H _ _ v u Q I rx ry ⟨rfl,by rw[Us hx];exact aJ S h _ rfl⟩
 ·exact h.elim
def gZ (d i:D) (s:ag):Option D:=match res d s,i with
 | .lst ds,.int i=>dE ds i
 | .tup ds,.int i=>dE ds i
 | .bG ns,.int i=>(dE ns i).map D.int
 | .str x,.int i=>if decide (x.length<=Õ)=true then (dE x.cps.toList i).map λc=>.str ⟨#[c]⟩ else none
 |_,_=>none
def ak (x y:D) (s:ag):Res D:=bB (gZ x y s) s
def ar.at (h:ar K w ds vs) (e:dE ds i=some d):∃v,dE vs i=some v/\DV K w d v:=by
 unfold dE at e |-;rw[h.length] at e
 cases hi:gw vs.length i with
 |none=>rw[hi] at e;cases e
 |some j =>
  rw[hi] at e;exact h.get' j d e
def Xj:vd X (rO X.K Ξ ak):=by
 rintro value slice π s σ H x y v u Q I rx ry ⟨w,dx,dy,rfl,S,hx,hy,h⟩ hs;obtain⟨d,e,h2⟩:=fx h;clear h;unfold gZ at e;split at e
 ·rename_i ds i e1
  cases hy;obtain⟨a,xs,rfl,ha,aq⟩:=jL S hx e1;obtain⟨z,ez,dz⟩:=aq.at e;exact tI value slice π s σ w.H _ _ v u Q I rx ry ⟨a,xs,i,z,rfl,rfl,bu.of ha,ez,aJ S h2 _ dz⟩ hs
 ·rename_i ds i e1
  cases hy;rw[fg e1 (by intro _ z;cases z)] at hx;simp only[DV] at hx;obtain⟨a,xs,rfl,ha,aq⟩:=hx;obtain⟨z,ez,dz⟩:=aq.at e;exact xA value slice π s σ w.H _ _ v u Q I rx ry ⟨a,xs,i,z,rfl,rfl,ha,ez,aJ S h2 _ dz⟩ hs
 ·rename_i ns i e1
  cases hy;rw[fg e1 (by intro _ z;cases z)] at hx;simp only[DV] at hx;obtain⟨a,rfl,ha⟩:=hx
  cases hn:dE ns i with
  |none=>rw[hn] at e;cases e
  |some n =>
   rw[hn] at e;cases e;refine tI value slice π s σ w.H _ _ v u Q I rx ry ⟨a,ns.map V.int,i,.int n,rfl,rfl,ha.sq,?_,aJ S h2 _ rfl⟩ hs;unfold dE at hn |-;rw[Ä]
   cases hj:gw ns.length i with
   |none=>rw[hj] at hn;cases hn
   |some j =>
    rw[hj] at hn;show (ns.map V.int)[j]?=some (.int n);rw[ç,show ns[j]?=some n from hn];rfl
 ·rename_i z i e1
  cases hy;rw[fg e1 (by intro _ z;cases z)] at hx;cases hx;split at e
  ·rename_i hl
   cases hc:dE z.cps.toList i with
   |none=>rw[hc] at e;cases e
   |some c =>
    rw[hc] at e;cases e;exact T8 value slice π s σ w.H _ _ v u Q I rx ry ⟨z,i,c,rfl,rfl,Ĭ hl,hc,aJ S h2 _ rfl⟩ hs
  ·cases e
 ·cases e
def aP (ha:PE X a (tE X.K Ξ f)) (hb:PE X b (tE X.K Ξ g)) (hs:HM b:=by intro _ _;rfl):PE X (.Subscript a b pos) (tE X.K Ξ (e2 ak f g)):=cQ (VH Xj ha hb hs) xj
def yC (d:D) (s:ag):Option D:=match res d s with
 | .lst ds=>some (.int ds.length)
 | .tup ds=>some (.int ds.length)
 | .bG ns=>some (.int ns.length)
 | .str x=>if decide (x.length<=Õ)=true then some (.int x.length) else none
 |_=>none
def bN (ds:List D) (s:ag):Res D:=match ds with
 | [d]=>bB (yC d s) s
 |_=>none
def lL (h:ar K w [d] vs):∃v,vs=[v]/\DV K w d v:=by
 obtain⟨v,r,rfl,dv,dr⟩:=h;have e:r=[]:=dr;subst e;exact⟨v,rfl,dv⟩
def tQ (h:ar K w [d,e] vs):∃v u,vs=[v,u]/\DV K w d v/\DV K w e u:=by
 obtain⟨v,r,rfl,dv,h⟩:=h;obtain⟨u,rfl,du⟩:=lL h;exact⟨v,u,rfl,dv,du⟩
def iA:bY X (.builtin "len") (rC X.K Ξ bN):=by
 rintro π s σ H xs us Q I r ⟨w,ds,rfl,S,aq,h⟩;unfold bN at h;split at h
 ·obtain⟨v,rfl,dv⟩:=lL aq
  obtain⟨d,e,h⟩:=fx h;unfold yC at e;split at e
  ·rename_i ys e1
   cases e;obtain⟨a,xs,rfl,ha,aq⟩:=jL S dv e1;exact zE π s σ w.H _ us Q I r ⟨a,xs,rfl,.inl (bu.of ha),by rw[<- aq.length];exact aJ S h _ rfl⟩
  ·rename_i ys e1
   cases e;rw[fg e1 (by intro _ z;cases z)] at dv;simp only[DV] at dv;obtain⟨a,xs,rfl,ha,aq⟩:=dv;exact zE π s σ w.H _ us Q I r ⟨a,xs,rfl,.inr ha,by rw[<- aq.length];exact aJ S h _ rfl⟩
  ·rename_i ns e1
   cases e;rw[fg e1 (by intro _ z;cases z)] at dv;simp only[DV] at dv;obtain⟨a,rfl,ha⟩:=dv;exact zE π s σ w.H _ us Q I r ⟨a,ns.map V.int,rfl,.inl ha.sq,by rw[Ä];exact aJ S h _ rfl⟩
  ·rename_i z e1
   rw[fg e1 (by intro _ z;cases z)] at dv;cases dv;split at e
   ·rename_i hl
    cases e;exact MT π s σ w.H _ us Q I r ⟨z,rfl,Ĭ hl,aJ S h _ rfl⟩
   ·cases e
  ·cases e
 ·exact h.elim
noncomputable def iK:List D->Option (List Bool)
 | []=>some []
 | .bl b::ds=>(iK ds).map λr=>b::r
 |_::_=>none
def Bd:∀{ds:List D} {bs:List Bool},iK ds=some bs->ds=bs.map D.bl
 | [],bs,h=>by cases h;rfl
 | .bl b::ds,bs,h=>by
  simp only[iK] at h
  cases hd:iK ds with
  |none=>rw[hd] at h;cases h
  |some r=>rw[hd] at h;cases h;rw[Bd hd];rfl
 | .au::_,_,h=>by cases h
 | .int _::_,_,h=>by cases h
 | .str _::_,_,h=>by cases h
 | .tup _::_,_,h=>by cases h
 | .lst _::_,_,h=>by cases h
 | .bb _::_,_,h=>by cases h
 | .aj _::_,_,h=>by cases h
 | .ty _::_,_,h=>by cases h
 | .bG _::_,_,h=>by cases h
def Sg:iK (bs.map D.bl)=some bs:=by
 induction bs with
 |nil=>rfl
 |cons b bs ih=>simp only[Ö,iK,ih,Ŏ]
def kK (ds:List D) (s:ag):Res D:=match ds with
 | [d]=>match res d s with
  | .lst es=>bB ((iK es).map λbs=>.bl (bs.all id)) s
  |_=>none
 |_=>none
def rY (ds:List D) (s:ag):Res D:=match ds with
 | [d]=>match res d s with
  | .lst es=>bB ((iK es).map λbs=>.bl (bs.any id)) s
  |_=>none
 |_=>none
def nO (hc:X.calm=true):bY X (.builtin "all") (rC X.K Ξ kK):=by
 rintro π s σ H xs us Q I r ⟨w,ds,rfl,S,aq,h⟩;unfold kK at h;split at h
 ·obtain⟨v,rfl,dv⟩:=lL aq
  split at h
  ·rename_i es e1
   obtain⟨d,e,h⟩:=fx h
   cases hb:iK es with
   |none=>rw[hb] at e;cases e
   |some bs =>
    rw[hb] at e;cases e;obtain⟨a,xs,rfl,ha,aq⟩:=jL S dv e1;rw[Bd hb] at aq;rw[aq.AN] at ha;exact Qi hc π s σ w.H _ us Q I r ⟨a,bs,rfl,bu.of ha,aJ S h _ rfl⟩
  ·exact h.elim
 ·exact h.elim
def J2 (hc:X.calm=true):bY X (.builtin "any") (rC X.K Ξ rY):=by
 rintro π s σ H xs us Q I r ⟨w,ds,rfl,S,aq,h⟩;unfold rY at h;split at h
 ·obtain⟨v,rfl,dv⟩:=lL aq
  split at h
  ·rename_i es e1
   obtain⟨d,e,h⟩:=fx h
   cases hb:iK es with
   |none=>rw[hb] at e;cases e
   |some bs =>
    rw[hb] at e;cases e;obtain⟨a,xs,rfl,ha,aq⟩:=jL S dv e1;rw[Bd hb] at aq;rw[aq.AN] at ha;exact Qj hc π s σ w.H _ us Q I r ⟨a,bs,rfl,bu.of ha,aJ S h _ rfl⟩
  ·exact h.elim
 ·exact h.elim
def rL (ds:List D) (s:ag):Res D:=match ds with
 | [.int i,.int j]=>ok (.int (if j > i then j else i)) s
 |_=>none
def xW (ds:List D) (s:ag):Res D:=match ds with
 | [.int i,.int j]=>ok (.int (if j<i then j else i)) s
 |_=>none
def Jq (hc:X.calm=true):bY X (.builtin "max") (rC X.K Ξ rL):=by
 rintro π s σ H xs us Q I r ⟨w,ds,rfl,S,aq,h⟩;unfold rL at h;split at h
 ·rename_i i j
  obtain⟨v,u,rfl,dv,du⟩:=tQ aq;cases dv;cases du;exact OP hc π s σ w.H _ us Q I r ⟨i,j,rfl,aJ S h _ rfl⟩
 ·exact h.elim
def Ut (hc:X.calm=true):bY X (.builtin "min") (rC X.K Ξ xW):=by
 rintro π s σ H xs us Q I r ⟨w,ds,rfl,S,aq,h⟩;unfold xW at h;split at h
 ·rename_i i j
  obtain⟨v,u,rfl,dv,du⟩:=tQ aq;cases dv;cases du;exact OQ hc π s σ w.H _ us Q I r ⟨i,j,rfl,aJ S h _ rfl⟩
 ·exact h.elim
def cF (ds:List D) (s:ag):Res D:=match ds with
 | [d]=>match res d s with
  | .lst es=>ok (.tup es) s
  | .tup es=>ok (.tup es) s
  |_=>none
 |_=>none
def jj:bY X (.type "tuple") (rC X.K Ξ cF):=by
 rintro π s σ H xs us Q I r ⟨w,ds,rfl,S,aq,h⟩;unfold cF at h;split at h
 ·obtain⟨v,rfl,dv⟩:=lL aq
  split at h
  ·rename_i es e1
   obtain⟨a,xs,rfl,ha,aq⟩:=jL S dv e1;exact Fq π s σ w.H _ us Q I r ⟨a,xs,rfl,.inl ⟨bu.of ha,Ur S aq h⟩⟩
  ·rename_i es e1
   rw[fg e1 (by intro _ z;cases z)] at dv;have qj:=dv;simp only[DV] at dv;obtain⟨a,xs,rfl,ha,aq⟩:=dv;exact Fq π s σ w.H _ us Q I r ⟨a,xs,rfl,.inr ⟨ha,aJ S h _ qj⟩⟩
  ·exact h.elim
 ·exact h.elim
def xX (ds:List D) (s:ag):Res D:=match ds with
 | [d]=>match res d s with
  | .lst es=>ok (.lst es) s
  | .tup es=>ok (.lst es) s
  |_=>none
 |_=>none
def Uu:bY X (.type "list") (rC X.K Ξ xX):=by
 rintro π s σ H xs us Q I r ⟨w,ds,rfl,S,aq,h⟩;unfold xX at h;split at h
 ·obtain⟨v,rfl,dv⟩:=lL aq
  split at h
  ·rename_i es e1
   obtain⟨a,xs,rfl,ha,aq⟩:=jL S dv e1;exact Fy π s σ w.H _ us Q I r ⟨a,xs,rfl,.inl (bu.of ha),rV S aq h⟩
  ·rename_i es e1
   rw[fg e1 (by intro _ z;cases z)] at dv;simp only[DV] at dv;obtain⟨a,xs,rfl,ha,aq⟩:=dv;exact Fy π s σ w.H _ us Q I r ⟨a,xs,rfl,.inr ha,rV S aq h⟩
  ·exact h.elim
 ·exact h.elim
end
def ph (n:Nat) (x:D) (ds:List D):Bool:=lay x&&cG ds&&decide (dep x<=n)
def inD (x:D) (ds:List D):Option Bool:=if ph 100 x ds=true then some (ds.any λy=>beq y x) else none
def nP (d:D) (s:ag):Option (List D):=match res d s with
 | .lst ds=>some ds
 | .tup ds=>some ds
 |_=>none
def cy (x y:D) (s:ag):Res D:=match nP y s with
 |some ds=>bB ((inD x ds).map D.bl) s
 |none=>none
def fJ (x y:D) (s:ag):Res D:=match nP y s with
 |some ds=>bB ((inD x ds).map λb=>D.bl (!b)) s
 |none=>none
def G9 (S:aM K w) (h:DV K w d v) (e:nP d w.aI=some ds):∃a xs,v=.ref a/\(w.H a=some (.lst xs)\/aT K w.H a xs)/\ar K w ds xs:=by
 unfold nP at e;split at e
 ·rename_i es e1
  cases e;obtain⟨a,xs,rfl,ha,aq⟩:=jL S h e1;exact⟨a,xs,rfl,.inl ha,aq⟩
 ·rename_i es e1
  cases e;rw[fg e1 (by intro _ z;cases z)] at h;simp only[DV] at h;obtain⟨a,xs,rfl,ha,aq⟩:=h;exact⟨a,xs,rfl,.inr ha,aq⟩
 ·cases e
section
variable {X:Cx} {Ξ:Wd->bx->Prop} {π:List (á×Obj)} {σ:St} {s:É}
def Be (lx:lay x=true):∀{ds:List D},cG ds=true->((bQ ds).any λy=>į y (py x))=ds.any λy=>beq y x
 | [],_=>rfl
 |d::ds,h=>by
  simp only[cG,Ç] at h;simp only[bQ,List.any_cons,ra d x h.1 lx,Be lx h.2]
def Jr (h:inD x ds=some b):lay x=true/\cG ds=true/\dep x<=100/\(ds.any λy=>beq y x)=b:=by
 unfold inD ph at h;split at h
 ·rename_i hl
  simp only[Ç,È] at hl;exact⟨hl.1.1,hl.1.2,hl.2,Option.some.inj h⟩
 ·cases h
def gM (hr:bW k X.A):aY X (Č .In) (rO X.K Ξ cy):=by
 rintro π s σ H x y v u Q I rx ry ⟨w,dx,dy,rfl,S,hx,hy,h⟩;unfold cy at h;split at h
 ·rename_i ds hd
  obtain⟨d,e,h⟩:=fx h
  cases hb:inD dx ds with
  |none=>rw[hb] at e;cases e
  |some b =>
   rw[hb] at e;cases e;obtain⟨l1,l2,l3,l4⟩:=Jr hb;obtain⟨p1,p2⟩:=ko _ l1;obtain⟨q1,q2⟩:=tF _ l2;obtain⟨bs,rd⟩:=(hx.py (oM _ l1)).reads I rx;have hu:X.A.units+1+min (ž (bQ ds)) (py dx).depth<abQ:=by
    have:=hr.un;rw[p2];omega
   obtain⟨a,xs,rfl,ha,aq⟩:=G9 S hy hd;have fin:EP X π σ Q (.bool ((bQ ds).any λy=>į y (py dx))) s:=⟨.bl b,w.H,I,by rw[Be l1 l2,l4];rfl,aJ S h _ rfl⟩
   rcases ha with ha|ha
   ·obtain⟨cs,rc⟩:=(show L2.DV X.K (λ_=>False) w.H (.list (bQ ds)) (.ref a) by simp only[L2.DV];exact⟨a,xs,rfl,not_false,ha,aq.py (oH _ l2)⟩).reads I ry
    exact SeqAt.in_list_reads rc rd q1 p1 hu fin
   ·obtain⟨cs,rc⟩:=(show L2.DV X.K (λ_=>False) w.H (.tuple (bQ ds)) (.ref a) by simp only[L2.DV];exact⟨a,xs,rfl,ha,aq.py (oH _ l2)⟩).reads I ry
    exact SeqAt.in_tuple_reads rc rd q1 p1 hu fin
 ·exact h.elim
def qR (hr:bW k X.A):aY X (Č .NotIn) (rO X.K Ξ fJ):=by
 rintro π s σ H x y v u Q I rx ry ⟨w,dx,dy,rfl,S,hx,hy,h⟩;unfold fJ at h;split at h
 ·rename_i ds hd
  obtain⟨d,e,h⟩:=fx h
  cases hb:inD dx ds with
  |none=>rw[hb] at e;cases e
  |some b =>
   rw[hb] at e;cases e;obtain⟨l1,l2,l3,l4⟩:=Jr hb;obtain⟨p1,p2⟩:=ko _ l1;obtain⟨q1,q2⟩:=tF _ l2;obtain⟨bs,rd⟩:=(hx.py (oM _ l1)).reads I rx;have hu:X.A.units+1+min (ž (bQ ds)) (py dx).depth<abQ:=by
    have:=hr.un;rw[p2];omega
   obtain⟨a,xs,rfl,ha,aq⟩:=G9 S hy hd;have fin:EP X π σ Q (.bool (!(bQ ds).any λy=>į y (py dx))) s:=⟨.bl (!b),w.H,I,by rw[Be l1 l2,l4];rfl,aJ S h _ rfl⟩
   rcases ha with ha|ha
   ·obtain⟨cs,rc⟩:=(show L2.DV X.K (λ_=>False) w.H (.list (bQ ds)) (.ref a) by simp only[L2.DV];exact⟨a,xs,rfl,not_false,ha,aq.py (oH _ l2)⟩).reads I ry
    exact SeqAt.notIn_list_reads rc rd q1 p1 hu fin
   ·obtain⟨cs,rc⟩:=(show L2.DV X.K (λ_=>False) w.H (.tuple (bQ ds)) (.ref a) by simp only[L2.DV];exact⟨a,xs,rfl,ha,aq.py (oH _ l2)⟩).reads I ry
    exact SeqAt.notIn_tuple_reads rc rd q1 p1 hu fin
 ·exact h.elim
def tP (K:Ĳ) (Ξ:Wd->bx->Prop) (f:Env->ag->Res (Option Int)):TO:=fun σ H Q=>∃w env,w.H=H/\aM K w/\bZ K w env σ/\Out K Ξ w (f env w.aI) λw' i=>Q i w'.H
def iL:Env->ag->Res (Option Int):=λ_ s=>ok none s
def iD (f:Env->ag->Res D):Env->ag->Res (Option Int):=λenv s=>ao (f env s) λd s=>match d with
 | .int i=>ok (some i) s
 |_=>none
variable {e a b:ļ} {lo hi:Option ļ} {pos p2 p3 p4:Pos} {f g:Env->ag->Res D}
def Js (h:PO X lo t) (i:∀ σ H Q,t' σ H Q->t σ H Q):PO X lo t':=λπ s σ H Q I hq=>h π s σ H Q I (i σ H Q hq)
def mH:PO X none (tP X.K Ξ iL):=Js RQ fun σ H Q aA=>by
 obtain⟨w,env,eH,S,eo,h⟩:=aA;subst eH;exact aJ S h
def mC (he:PE X e (tE X.K Ξ f)):PO X (some e) (tP X.K Ξ (iD f)):=Js (RR he) fun σ H Q aA=>by
 obtain⟨w,env,eH,S,eo,h⟩:=aA;subst eH;refine⟨w,env,rfl,S,eo,(Out.ao h).mono λw1 d l1 S1 h1 v dv=>?_⟩
 cases d with
 |int i=>exact⟨i,dv,aJ S1 h1⟩
 |_=>exact h1.elim
noncomputable def cutD (xs:List D) (lo hi:Option Int):List D:=(xs.drop (HT.aR xs.length 0 lo)).take (HT.aR xs.length xs.length hi-HT.aR xs.length 0 lo)
def jm (d:D) (lo hi:Option Int) (s:ag):Res D:=match res d s with
 | .tup ds=>ok (.tup (cutD ds lo hi)) s
 | .lst ds=>ok (.lst (cutD ds lo hi)) s
 |_=>none
def iM (f:Env->ag->Res D) (l h:Env->ag->Res (Option Int)):Env->ag->Res D:=λenv s=>ao (f env s) λd s=>ao (l env s) λlo s=>ao (h env s) λhi s=>jm d lo hi s
def Yi (K:Ĳ) (Ξ:Wd->bx->Prop):V->Option Int->Option Int->Hp->VK->Prop:=λx lo hi H Q=>∃w dx,w.H=H/\aM K w/\DV K w dx x/\Out K Ξ w (jm dx lo hi w.aI) λw' d=>∀v,DV K w' d v->Q v w'.H
def Uv:va X (Yi X.K Ξ):=by
 rintro π s σ H x v vl vu lo hi sl Q I rx hs pl pu ⟨w,dx,rfl,S,hx,h⟩;unfold jm at h;split at h
 ·rename_i ds e1
  rw[fg e1 (by intro _ z;cases z)] at hx;simp only[DV] at hx;obtain⟨a,xs,rfl,ha,aq⟩:=hx;refine RW π s σ w.H _ v vl vu lo hi sl Q I rx hs pl pu ⟨a,xs,rfl,ha,pM S ?_ h⟩;unfold cutD kF;rw[aq.length];exact(aq.drop _).take _
 ·rename_i ds e1
  obtain⟨a,xs,rfl,ha,aq⟩:=jL S hx e1;refine RT π s σ w.H _ v vl vu lo hi sl Q I rx hs pl pu ⟨a,xs,rfl,bu.of ha,rV S ?_ h⟩;unfold cutD kF;rw[aq.length];exact(aq.drop _).take _
 ·exact h.elim
def mI (he:PE X e (tE X.K Ξ f)) (hl:PO X lo (tP X.K Ξ fl)) (hu:PO X hi (tP X.K Ξ fh)):PE X (.Subscript e (.Slice lo hi none p2) pos) (tE X.K Ξ (iM f fl fh)) :=
 cQ (Qe Uv he hl hu) fun σ H Q aA=>by
  obtain⟨w,env,eH,S,eo,h⟩:=aA;subst eH;exact⟨w,env,rfl,S,eo,(Out.ao h).mono λw1 d l1 S1 h1 v dv=>⟨w1,env,rfl,S1,eo.le l1,(Out.ao h1).mono λw2 i l2 S2 h2=>⟨w2,env,rfl,S2,eo.le (l1.trans l2),(Out.ao h2).mono λw3 j l3 S3 h3=>⟨w3,d,rfl,S3,(l2.trans l3) _ _ dv,h3⟩⟩⟩⟩
def i5 (d x:D) (s:ag):Res D:=match d with
 | .aj k=>match s[k]? with
  |some (.lst ds)=>if decide (ds.length<Õ)=true then ok .au (s.set k (.lst (ds++[x]))) else none
  |_=>none
 |_=>none
def i6 (d:D) (s:ag):Bool:=match d with
 | .aj k=>match s[k]? with
  |some (.lst _)=>true
  |_=>false
 |_=>false
def ik (f g:Env->ag->Res D):Env->ag->Res D:=λenv s=>ao (f env s) λd s=>if i6 d s=true then ao (g env s) λx s=>i5 d x s else none
def Sh (S:aM K w) (dv:DV K w d v) (h:i6 d w.aI=true):∃k a ds xs,d=.aj k/\v=.ref a/\w.ρ[k]?=some a/\w.aI[k]?=some (.lst ds)/\w.H a=some (.lst xs)/\ar K w ds xs:=by
 unfold i6 at h;split at h
 ·rename_i k
  split at h
  ·rename_i ds hk
   obtain⟨a,e1,rfl⟩:=dv;obtain⟨xs,q1,q2⟩:=S.cell k a _ e1 hk;exact⟨k,a,ds,xs,rfl,rfl,e1,hk,q1,q2⟩
  ·cases h
 ·cases h
def Uw (S:aM K w) (dv:DV K w d v) (du:DV K w y u) (h:Out K Ξ w (i5 d y w.aI) q):∃a xs,v=.ref a/\w.H a=some (.lst xs)/\xs.length<Õ/\∃w',w'.H=upd w.H a (.lst (xs++[u]))/\q w' .au:=by
 unfold i5 at h;split at h
 ·rename_i k
  split at h
  ·rename_i ds hk
   split at h
   ·rename_i hl
    obtain⟨a,e1,rfl⟩:=dv;obtain⟨xs,q1,q2⟩:=S.cell k a _ e1 hk;have nd:(Cell.lst ds)≠.dead:=by intro z;cases z
    have le:=(Fw.put (K:=K) (o:=.lst (xs++[u])) (c:=.lst (ds++[y])) S e1 hk nd).le;refine⟨a,xs,rfl,q1,by rw[<- q2.length];exact Ĭ hl,w.put k a (.lst (xs++[u])) (.lst (ds++[y])),rfl,?_⟩;exact h _ le (S.CK e1 hk nd ⟨_,dw,le.all (q2.append (ar.one du))⟩) rfl
   ·exact h.elim
  ·exact h.elim
 ·exact h.elim
def pk {o:ļ} {apos eQ:Pos} (ho:PE X o (tE X.K Ξ f)) (ha:PE X a (tE X.K Ξ g))
  (BF:attributeBase o "append" X.env (Ť o X.env)=Ť o X.env:=by rfl)
  (Cy:((aab eQ (Þ [a] X.env)).all (λx=>!x.1)&&(backToKw eQ (abR [] X.env)).all (λx=>x.1.isSome)
   && decide (([a]:List ļ).length+([]:List acd).length+(if ([]:List acd).isEmpty then 0 else 1)<30))=true:=by rfl)
  (BG:(apos.endLine==eQ.line)=true:=by rfl) (hs:Þ [a] X.env=(false,Ť a X.env)::Þ [] X.env:=by rfl) (A7:(aab eQ (Þ [] X.env)).any (·.1)=false:=by rfl) :
  PE X (.Call (.Attribute o "append" apos) [a] [] eQ) (tE X.K Ξ (ik f g)) :=
 cQ (VJ PySem.F.plainAttrs_list PySem.F.slot_list_append PySem.F.type_list_append OS ho (lE ha nA hs) BF Cy BG hs A7) fun σ H Q aA=>by
  obtain⟨w,env,eH,S,eo,h⟩:=aA;subst eH;refine⟨w,env,rfl,S,eo,(Out.ao h).mono λw1 d l1 S1 h1 v dv=>?_⟩;split at h1
  ·rename_i hl
   obtain⟨k,p,ds,xs,rfl,rfl,e1,e2,e3,e4⟩:=Sh S1 dv hl;refine⟨.inl ⟨rfl,xs,bu.of e3⟩,w1,env,rfl,S1,eo.le l1,(Out.ao h1).mono λw2 y l2 S2 h2 u du=>?_⟩;obtain⟨a',ys,ea,q1,q2,w3,eH,q3⟩:=Uw S2 (l2 _ _ dv) du h2;refine⟨a',ys,u,ea,rfl,q1,q2,?_⟩;rw[<- eH];exact q3 _ rfl
  ·exact h1.elim
def iE (d i x:D) (s:ag):Option ag:=match d,i with
 | .aj k,.int n=>match s[k]? with
  |some (.lst ds)=>(gw ds.length n).map λj=>s.set k (.lst (ds.set j x))
  |_=>none
 |_,_=>none
def il (f o i:Env->ag->Res D):Env->ag->Res Fl:=λenv s=>ao (f env s) λx s=>ao (o env s) λd s=>ao (i env s) λn s=>match iE d n x s with
 |some s'=>ok (.nx env) s'
 |none=>none
def Ux (S:aM K w) (dv:DV K w d v) (dn:DV K w i n) (du:DV K w x u) (h:iE d i x w.aI=some s'):∃a xs k j,v=.ref a/\n=.int k/\w.H a=some (.lst xs)/\gw xs.length k=some j/\∃w',w'.H=upd w.H a (.lst (xs.set j u))/\w'.aI=s'/\Le K w w'/\aM K w':=by
 unfold iE at h;split at h
 ·rename_i k m
  split at h
  ·rename_i ds hk
   cases hj:gw ds.length m with
   |none=>rw[hj] at h;cases h
   |some j =>
    rw[hj] at h;cases h;obtain⟨a,e1,rfl⟩:=dv;obtain⟨xs,q1,q2⟩:=S.cell k a _ e1 hk;have nd:(Cell.lst ds)≠.dead:=by intro z;cases z
    have le:=(Fw.put (K:=K) (o:=.lst (xs.set j u)) (c:=.lst (ds.set j x)) S e1 hk nd).le;exact⟨a,xs,m,j,rfl,dn,q1,by rw[<- q2.length];exact hj,w.put k a (.lst (xs.set j u)) (.lst (ds.set j x)),rfl,rfl,le,S.CK e1 hk nd ⟨_,dw,le.all (q2.set du j)⟩⟩
  ·cases h
 ·cases h
def pq (he:PE X e (tE X.K Ξ f)) (ho:PE X o (tE X.K Ξ fo)) (hi:PE X i (tE X.K Ξ fi))
 (ha:∀v,aaR (.Subscript o i iF) X.env v=(do
   let ov <- aac [v] (Ť o X.env)
   let iv <- aac [v,ov] (Ť i X.env)
   abg iF
   aac [v,ov,iv] (setItem ov iv v)
   release [v,ov,iv] []):=by intro _;rfl)
 (hs:ε [.Subscript o i iF] e pos.line X.env=pure false:=by rfl) (hw:ζ [.Subscript o i iF] e X.env=pure none:=by rfl)
 (h1:(Ū [.Subscript o i iF] X.env).map (·.2)=[aaR (.Subscript o i iF) X.env]:=by rfl):PS X (.Assign [.Subscript o i iF] e pos) (tS X.K Ξ (il f fo fi)) :=
 jl (A4 he (IW ho hi set_list ha) hs hw h1) λD0 σ H aA=>by
  obtain⟨w,env,eH,S,eo,h⟩:=aA;subst eH;refine⟨w,env,rfl,S,eo,(Out.ao h).mono λw1 x l1 S1 h1 u du=>?_⟩;refine⟨w1,env,rfl,S1,eo.le l1,(Out.ao h1).mono λw2 d l2 S2 h2 v dv=>?_⟩;refine⟨w2,env,rfl,S2,eo.le (l1.trans l2),(Out.ao h2).mono λw3 n l3 S3 h3 m dm=>?_⟩
  cases hd:iE d n x w3.aI with
  |none=>rw[hd] at h3;exact h3.elim
  |some s' =>
   rw[hd] at h3;obtain⟨a,xs,k,j,e1,e2,q1,q2,w4,eH,es,le,S4⟩:=Ux S3 (l3 _ _ dv) dm ((l2.trans l3) _ _ du) hd;refine⟨a,xs,k,j,e1,e2,q1,q2,?_⟩;rw[<- eH];exact h3 w4 le S4 es σ (eo.le (l1.trans (l2.trans (l3.trans le))))
end
def kd (d:D) (s:ag):Option Kn:=match res d s with
 | .au=>some .au
 | .bl _=>some .bl
 | .int _=>some .int
 | .str _=>some .str
 | .tup _=>some .tup
 | .lst _=>some .lst
 | .bb _=>some .bb
 |_=>none
def J3 (S:aM K w) (h:DV K w d v) (e:kd d w.aI=some k):ou K w.H v k:=by
 unfold kd at e
 split at e<;>rename_i e1<;>first | (cases e;done) | (try cases e)
 ·rw[fg e1 (by intro _ z;cases z)] at h;cases h;trivial
 ·rw[fg e1 (by intro _ z;cases z)] at h;cases h;trivial
 ·rw[fg e1 (by intro _ z;cases z)] at h;cases h;trivial
 ·rw[fg e1 (by intro _ z;cases z)] at h;cases h;trivial
 ·rw[fg e1 (by intro _ z;cases z)] at h
  simp only[DV] at h;obtain⟨a,xs,rfl,ha,_⟩:=h;exact⟨xs,ha⟩
 ·obtain⟨a,xs,rfl,ha,_⟩:=jL S h e1
  exact⟨xs,bu.of ha⟩
 ·rw[fg e1 (by intro _ z;cases z)] at h
  simp only[DV] at h;obtain⟨a,rfl,_,ha⟩:=h;exact⟨_,ha⟩
noncomputable def J4 (T:String):Bool:=T=="int"||T=="bool"||T=="str"||T=="tuple"||T=="list"
def cv (ds:List D) (s:ag):Res D:=match ds with
 | [d,.ty T]=>if J4 T=true then bB ((kd d s).map λk=>.bl (rQ k T)) s else none
 |_=>none
section
variable {X:Cx} {Ξ:Wd->bx->Prop} {e a b:ļ} {es:List ļ} {pos:Pos} {f g:Env->ag->Res D} {fa:Env->ag->Res (List D)}
def gK:bY X (.builtin "isinstance") (rC X.K Ξ cv):=by
 rintro π s σ H xs us Q I r ⟨w,ds,rfl,S,aq,h⟩;unfold cv at h;split at h
 ·rename_i d T
  obtain⟨v,u,rfl,dv,du⟩:=tQ aq;have eu:u=.ty T:=du;subst eu;split at h
  ·rename_i hT
   obtain⟨d',e,h⟩:=fx h
   cases hk:kd d w.aI with
   |none=>rw[hk] at e;cases e
   |some k =>
    rw[hk] at e;cases e;have vz:=J3 S dv hk;simp only[J4,Ž,beq_iff_eq] at hT
    rcases hT with (((rfl|rfl)|rfl)|rfl)|rfl
    ·exact MU π s σ w.H _ us Q I r ⟨v,k,rfl,vz,aJ S h _ rfl⟩
    ·exact MD π s σ w.H _ us Q I r ⟨v,k,rfl,vz,aJ S h _ rfl⟩
    ·exact MV π s σ w.H _ us Q I r ⟨v,k,rfl,vz,aJ S h _ rfl⟩
    ·exact Mt π s σ w.H _ us Q I r ⟨v,k,rfl,vz,aJ S h _ rfl⟩
    ·exact ME π s σ w.H _ us Q I r ⟨v,k,rfl,vz,aJ S h _ rfl⟩
  ·exact h.elim
 ·exact h.elim
def gO (hv:ą x=some (.type T)) (hg:Gl X x) (hm:X.mg x=none) (hn:x≠"__name__":=by decide) (hd:(x==("__debug__":Str))=false:=by decide):PE X (.Name x pos) (tE X.K Ξ (eC (.ty T))):=rD (v:=.ty T) (AD hg hm hv rfl hn hd) λ_=>rfl
def dC (g:∃t,X.mg x=some (.int i t)) (hg:Gl X x) (hd:(x==("__debug__":Str))=false:=by decide):PE X (.Name x pos) (tE X.K Ξ (eC (.int i))):=by
 obtain⟨t,e⟩:=g;exact rD (v:=.int i) (HG hg e ⟨t,rfl⟩ hd) λ_=>rfl
def KW (d:D) (s:ag):Res D:=bB ((kd d s).map λk=>.bl (decide (k=.tup)||decide (k=.lst))) s
def Si {x1} (ha:PE X a (tE X.K Ξ f)) (hg:Gl X "isinstance") (hm:X.mg "isinstance"=none) (hv:ą "isinstance"=some (.builtin "isinstance")) (h1:PE X (.Name "tuple" p1) (tC (.ty "tuple"))) (h2:PE X (.Name "list" p2) (tC (.ty "list")))
 (he:Þ (a::[.Tuple [.Name "tuple" p1,.Name "list" p2] x1 p3]) X.env=(false,Ť a X.env)::Þ [.Tuple [.Name "tuple" p1,.Name "list" p2] x1 p3] X.env:=by rfl) :
  PE X (.Call (.Name "isinstance" p) [a,.Tuple [.Name "tuple" p1,.Name "list" p2] x1 p3] [] pos) (tE X.K Ξ (e1 KW f)) :=
 cQ (Aa Nk hg hm hv (lE ha (lE (Qh (lE h1 (lE h2 nA))) nA) he) (by decide) (by decide) he) fun σ H Q aA=>by
  obtain⟨w,env,eH,S,eo,h⟩:=aA;subst eH;refine⟨w,env,rfl,S,eo,(Out.ao h).mono λw1 d l1 S1 h1 v dv=>?_⟩;refine⟨["tuple","list"],rfl,(by show 2<=Õ;decide),λp hp=>?_⟩;obtain⟨d',e,h1⟩:=fx h1
  cases hk:kd d w1.aI with
  |none=>rw[hk] at e;cases e
  |some k =>
   rw[hk] at e;cases e;have S2:=S1.grow (o:=.ext (rB p ["tuple","list"])) hp;have l2:=(Fw.grow (K:=X.K) (o:=.ext (rB p ["tuple","list"])) hp).le;exact⟨v,k,p,rfl,J3 (w:=w1.grow p _) S2 (l2 _ _ dv) hk,dw,h1 _ l2 S2 rfl _ rfl⟩
def xY (d:D):Bool:=plain d&&(py d).showable&&(!(py d).hasDict||(match py d with | .tuple ds=>i4 ds | .dict _=>true | _=>false))&&decide ((py d).depth<=100)&&decide ((py d).shown.length<=Õ)
def uh (ds:List D) (s:ag):Res D:=match ds with
 | [d]=>if xY (res d s)=true then ok (.str (py (res d s)).shown) s else none
 |_=>none
def Jt (hr:bW k X.A):bY X (.builtin "repr") (rC X.K Ξ uh):=by
 rintro π s σ H xs us Q I r ⟨w,ds,rfl,S,aq,h⟩;unfold uh at h;split at h
 ·rename_i d
  obtain⟨v,rfl,dv⟩:=lL aq;split at h
  ·rename_i hk
   simp only[xY,Ç,È] at hk;obtain⟨⟨⟨⟨h1,h2⟩,h3⟩,h4⟩,h5⟩:=hk;have dp:=dv.res S h1;have fin:=aJ S h _ rfl;generalize hp:py (res d w.aI)=P at *
   cases P with
   |tuple ps =>
    refine N1 hr π s σ w.H _ us Q I r ⟨v,ps,_,rfl,dp,h2,?_,h4,h5,fin⟩;simpa using h3
   |dict ai=>exact Gk hr π s σ w.H _ us Q I r ⟨v,_,_,rfl,dp,h2,.inr rfl,h4,h5,fin⟩
   |_ =>
    refine Gk hr π s σ w.H _ us Q I r ⟨v,_,_,rfl,dp,h2,.inl ?_,h4,h5,fin⟩;simpa using h3
  ·exact h.elim
 ·exact h.elim
noncomputable def pw:List D->Option (List Int)
 | []=>some []
 | .int i::ds=>(pw ds).map λr=>i::r
 |_::_=>none
def Ha:∀{ds:List D} {ns:List Int},pw ds=some ns->ds=ns.map D.int
 | [],ns,h=>by cases h;rfl
 | .int b::ds,ns,h=>by
  simp only[pw] at h
  cases hd:pw ds with
  |none=>rw[hd] at h;cases h
  |some r=>rw[hd] at h;cases h;rw[Ha hd];rfl
 | .au::_,_,h=>by cases h
 | .bl _::_,_,h=>by cases h
 | .str _::_,_,h=>by cases h
 | .tup _::_,_,h=>by cases h
 | .lst _::_,_,h=>by cases h
 | .bb _::_,_,h=>by cases h
 | .aj _::_,_,h=>by cases h
 | .ty _::_,_,h=>by cases h
 | .bG _::_,_,h=>by cases h
def O2:pw (ns.map D.int)=some ns:=by
 induction ns with
 |nil=>rfl
 |cons b bs ih=>simp only[Ö,pw,ih,Ŏ]
noncomputable def lT (i:Int):List Int->List Int
 | []=>[i]
 |j::r=>if i<j then i::j::r else if i=j then j::r else j::lT i r
def fW:List Int->List Int
 | []=>[]
 |i::r=>lT i (fW r)
def Ai:∀{l:List Int},k∈lT i l↔k=i\/k∈l
 | []=>by simp[lT]
 |j::r=>by
  unfold lT;split
  ·simp
  ·split
   ·rename_i h;subst h;simp
   ·rw[Ó,Ai,Ó]
    constructor
    ·rintro (h|h|h)
     ·exact .inr (.inl h)
     ·exact .inl h
     ·exact .inr (.inr h)
    ·rintro (h|h|h)
     ·exact .inr (.inl h)
     ·exact .inl h
     ·exact .inr (.inr h)
def FN:∀{l:List Int},l.Pairwise (· < ·)->(lT i l).Pairwise (· < ·)
 | [],_=>by simp[lT]
 |j::r,h=>by
  obtain⟨h1,h2⟩:=Ă.mp h;unfold lT;split
  ·rename_i fm
   refine Ă.mpr ⟨λk hk=>?_,h⟩
   rcases Ó.mp hk with rfl|hk
   ·exact fm
   ·have:=h1 k hk;omega
  ·split
   ·exact h
   ·refine Ă.mpr ⟨λk hk=>?_,FN h2⟩
    rcases Ai.mp hk with rfl|hk
    ·omega
    ·exact h1 k hk
def ng:∀{l:List Int},k∈fW l↔k∈l
 | []=>by simp[fW]
 |i::r=>by simp[fW,Ai,ng]
def FE:∀(l:List Int),(fW l).Pairwise (· < ·)
 | []=>List.Pairwise.nil
 |i::r=>FN (FE r)
def Fu:∀{l m:List Int},l.Pairwise (· < ·)->m.Pairwise (· < ·)->(∀k,k∈l↔k∈m)->l=m
 | [],[],_,_,_=>rfl
 | [],j::m,_,_,h=>by have:=(h j).mpr Ò;cases this
 |i::l,[],_,_,h=>by have:=(h i).mp Ò;cases this
 |i::l,j::m,hl,hm,h=>by
  obtain⟨l1,l2⟩:=Ă.mp hl;obtain⟨m1,m2⟩:=Ă.mp hm;have e:i=j:=by
   rcases Ó.mp ((h i).mp Ò) with e|e
   ·exact e
   ·rcases Ó.mp ((h j).mpr Ò) with e'|e'
    ·exact e'.symm
    ·have:=m1 i e;have:=l1 j e';omega
  subst e;congr 1;refine Fu l2 m2 λk=>?_;constructor
  ·intro hk
   rcases Ó.mp ((h k).mp (Ñ _ hk)) with e|e
   ·subst e;have:=l1 k hk;omega
   ·exact e
  ·intro hk
   rcases Ó.mp ((h k).mpr (Ñ _ hk)) with e|e
   ·subst e;have:=m1 k hk;omega
   ·exact e
def zW (l:List Int):(fW l).length<=l.length:=by
 induction l with
 |nil=>exact Nat.le_refl _
 |cons x l ih =>
  have:(fW (x::l)).length<=(fW l).length+1:=by
   show (lT x (fW l)).length<=_;generalize fW l=m
   induction m with
   |nil=>exact Nat.le_refl _
   |cons y m ih2 =>
    unfold lT;split
    ·simp
    ·split
     ·simp
     ·simp only[å];omega
  simp only[å];omega
def QG (ns:List Int):(ns.foldl PyProof.Rows.step_dedup []).length<=(fW ns).length:=sub_len (zI ns [] abv) λk hk=>ng.mpr ((Gv ns k).mp hk)
def qK (d:D) (s:ag):Res D:=match d with
 | .lst ds=>match pw ds with
  |some ns=>if decide ((fW ns).length<64)=true then ok (.lst ((fW ns).map D.int)) s else none
  |none=>none
 |_=>none
def N4 {p p2 kL:Pos} (ha:PE X a (tE X.K Ξ f)) (hc:X.calm=true) (hg:Gl X "sorted") (hm:X.mg "sorted"=none) (hv:ą "sorted"=some (.builtin "sorted")) (DN:Gl X "set") (DO:X.mg "set"=none) (Yj:ą "set"=some (.type "set"))
  (he:Þ [a] X.env=(false,Ť a X.env)::Þ [] X.env:=by rfl) (cP:(aab kL (Þ [] X.env)).any (·.1)=false:=by rfl)
  (yY:Þ [.Call (.Name "set" p2) [a] [] kL] X.env=(false,Ť (.Call (.Name "set" p2) [a] [] kL) X.env)::Þ [] X.env:=by rfl) (Xk:(aab pos (Þ [] X.env)).any (·.1)=false:=by rfl) :
  PE X (.Call (.Name "sorted" p) [.Call (.Name "set" p2) [a] [] kL] [] pos) (tE X.K Ξ (e1 qK f)) :=
 cQ (Aa (MX hc) hg hm hv (lE (zT (N0 hc) DN DO Yj (lE ha nA he) (by decide) (by decide) he cP) nA yY) (by decide) (by decide) yY Xk) fun σ H Q aA=>by
  obtain⟨w,env,eH,S,eo,h⟩:=aA;subst eH;refine⟨w,env,rfl,S,eo,(Out.ao h).mono λw1 d l1 S1 h1 v dv=>?_⟩;unfold qK at h1;split at h1
  ·rename_i ds
   split at h1
   ·rename_i ns hn
    split at h1
    ·rename_i hl
     have hl:=Ĭ hl;simp only[DV] at dv;obtain⟨p,xs,rfl,hp,aq⟩:=dv;rw[Ha hn] at aq;rw[aq.G6] at hp;have hd:=Nat.lt_of_le_of_lt (QG ns) hl;refine⟨p,ns,rfl,hp.sq,by omega,λq hq=>?_⟩;refine⟨q,ns,rfl,dw,hd,λl ms Lm hs hk=>?_⟩;have e:=Fu hs (FE ns) λk=>(hk k).trans ng.symm;subst e;have DP:(w1.grow q (.ext (lR X.prog X.w q ns))).H l=none:=Lm;have S2:=S1.grow (o:=.ext (lR X.prog X.w q ns)) hq;exact h1 ((w1.grow q (.ext (lR X.prog X.w q ns))).grow l (.lst ((fW ns).map V.int))) ((Fw.grow hq).le.trans (Fw.grow DP).le) (S2.grow DP) rfl (.ref l) ⟨l,_,rfl,⟨(show ¬ (w1.grow q (.ext (lR X.prog X.w q ns))).Z l from nB S2 DP),dw⟩,ar.ints _⟩
    ·exact h1.elim
   ·exact h1.elim
  ·exact h1.elim
def pQ (i j:Nat) (fa:Env->ag->Res (List D)):Env->ag->Res Fl:=λenv s=>ao (fa env s) λds s=>match ds with
 | [x,y]=>ok (.nx ((env.set i (some x)).set j (some y))) s
 |_=>none
def xC (i j:Nat) {x y:Str} {px py pt:Pos} {kt k2 iG} (hc:X.calm=true) (hN:X.N.Nodup) (ha:PA X [a,b] (tA X.K Ξ fa)) (hi:X.N[i]?=some x:=by rfl) (hj:X.N[j]?=some y:=by rfl) (fm:i≠j:=by decide)
  (hx:X.env.scope.names.lookup x=some .local:=by rfl) (hy:X.env.scope.names.lookup y=some .local:=by rfl)
  (hw:ζ [.Tuple [.Name x px,.Name y py] kt pt] (.Tuple [a,b] k2 iG) X.env=pure (some [x,y]):=by rfl)
  (hs:ε [.Tuple [.Name x px,.Name y py] kt pt] (.Tuple [a,b] k2 iG) pos.line X.env=pure false:=by rfl) :
  PS X (.Assign [.Tuple [.Name x px,.Name y py] kt pt] (.Tuple [a,b] k2 iG) pos) (tS X.K Ξ (pQ i j fa)):=jl (TM hc hN hi hj fm hx hy ha hw hs) λD0 σ H aA=>by
 obtain⟨w,env,eH,S,eo,h⟩:=aA;subst eH;refine⟨w,env,rfl,S,eo,(Out.ao h).mono λw1 ds l1 S1 h1 vs aq=>?_⟩;split at h1
 ·obtain⟨v,u,rfl,dv,du⟩:=tQ aq
  exact⟨v,u,rfl,aJ S1 h1 _ (((eo.le l1).set dv i).set du j)⟩
 ·exact h1.elim
end
end DI
namespace L2
open PySem PySem.Spec PyProof.Rows
structure DS (Y:Cx) (D:á) (π:List (á×Obj)):Prop where
 loc:D≠Y.env.locals
 fs:D∉Y.fs
 new:Y.dQ.heap.objs.size<=D
 cell:∀x c,Y.env.cells.lookup x=some c->c≠D
 pin:∀p∈Y.pn++π,p.1≠D
structure qk (Y:Cx) (D:á) (nt:Nat) (caps:St) (π:List (á×Obj)) (o:St) (H:Hp) (s:É) (acc:List V):Prop where
 inv:Inv Y π (o++caps) H s
 len:o.length=nt
 lst:∃ys,s.heap.PlainList D ys/\Vals acc ys.toList
 free:H D=none
 kS:acc.length<=Õ
abbrev jZ:=St->Hp->List V->(St->List V->Hp->Prop)->Prop
def rZ (Y:Cx) (D:á) (nt:Nat) (caps:St) (c:Code) (m:Sem acf) (ta:jZ):Prop :=
 ∀(π:List (á×Obj)) (o:St) (H:Hp) (s:É) (acc:List V) (Q:St->List V->Hp->Prop),DS Y D π->qk Y D nt caps π o H s acc->ta (o++caps) H acc Q ->
  à (ø Y.prog Y.w) Y.A m (λfn s'=>fn=.again c/\∃o' H' fC,qk Y D nt caps π o' H' s' fC/\Q (o'++caps) fC H') (λ_ _=>False) s
def CA (J:It) (g:TG) (tf:TT) (ta:jZ) (τ:St) (acc:List V) (H:Hp) (Q:St->List V->Hp->Prop):Prop:=∃W:Nat->Nat->St->List V->Hp->Prop,(∃m,W 0 m τ acc H) /\
 ∀i m τ acc H2,W i m τ acc H2->(J.stop i H2/\Q τ acc H2) \/
  (J.go i H2/\∃N:St->List V->Hp->Prop,(∀ cW fC H',N cW fC H'->∃m',m' < m/\W (i+1) m' cW fC H') /\
   ∀x H3,J.uX i H2 x H3->g x τ H3 fun qe H4=>tf qe H4 λb H5=>if b=true then ta qe H5 acc N else N qe acc H5)
def J5 (te:TE):jZ:=fun τ H acc Q=>acc.length+1<=Õ/\te τ H λv H'=>Q τ (acc++[v]) H'
def J6 (wi:TI) (g:TG) (tf:TT) (ta:jZ):jZ:=fun τ H acc Q=>wi τ H λJ H1=>CA J g tf ta τ acc H1 Q
section
variable {Y:Cx} {D:á} {nt:Nat} {caps:St}
def DS.obj (ds:DS Y D π) (B:qk Y D nt caps π o H s acc):∃oD ys nn,s.heap.get? D=some oD/\oD={ cls:=.type "list",data:=.seq ys nn }/\Vals acc ys.toList/\Inv Y (π++[(D,oD)]) (o++caps) H s:=by
 obtain⟨ys,⟨nn,ho⟩,rv⟩:=B.lst;refine⟨_,ys,nn,ho,rfl,rv,B.inv.ix λp hp=>?_⟩
 rcases Ù.mp hp with z|z
 ·exact B.inv.pin p (Æ _ z)
 ·have e:p=(D,{ cls:=.type "list",data:=.seq ys nn }):=by simpa using z
  subst e;exact⟨ho,B.free,ds.loc,ds.fs,λv z=>by cases z⟩
def Aj (hx:Y.xe=λ_ _=>False) (hE:PE Y el te):rZ Y D nt caps c ((do let _ <- call (.builtin "list.append") [.ref D,<- Ť el Y.env]:Sem Unit) >>= λ_=>again c) (J5 te):=by
 intro π o H s acc Q ds B h;obtain⟨hz,h⟩:=h;obtain⟨oD,ys,nn,ho,eo,rv,I⟩:=ds.obj B;have q:=hE _ s _ H _ I h;rw[hx] at q;refine À (À (aE q λy s8 h8=>?_));obtain⟨v,H8,I8,r8,q9⟩:=h8;have pD:=I8.pin (D,oD) (Æ _ (Æ _ (by simp)));have DQ:s8.heap.PlainList D ys:=⟨nn,by rw[<- eo];exact pD.1⟩;have DR:ys.size<=Õ:=by
  have e:=rv.length;simp only[þ] at e;omega
 refine À (wpAny_list_append_plain (hsz:=DR) DQ λh9 DT yZ=>Â (Â ⟨rfl,?_⟩));have DU:Inv Y π (o++caps) H8 s8:=I8.jh
 have I9:Inv Y π (o++caps) H8 { s8 with heap:=h9,toks:=s8.toks }:=DU.turned (it:=D) (λb o hb e=>(yZ.2 b hb).trans e) pD.2.1 ds.loc (.inr ds.new) ds.cell ds.pin
 refine⟨o,H8,acc++[v],⟨I9,B.len,⟨ys.push y,DT,?_⟩,pD.2.1,by rw[â];simpa using hz⟩,q9⟩;rw[abl];exact Vals.append rv (.cons r8 .nil)
def zO (hx:Y.xe=λ_ _=>False) (hc:Y.calm=true)
 (T:Turn Y.prog Y.w Y.K tg J fp it tn) (Yk:tn 0 s.heap) (hf:∀b∈fp,cu Y π H b) (kW:D∉fp) (hG:PG Y tg g) (gb:lX g nt) (hF:PF Y tests tf) (hA:rZ Y D nt caps (.compLoop e d (.ref it) (.ref D) Y.env) act ta) (ds:DS Y D π) (B:qk Y D nt caps π o H s acc) (hq:(Code.compLoop e d (.ref it) (.ref D) Y.env).quiet=true)
 (Xl:∀(M:Model) (A:đ) (Q':Fin->É->Prop) (E':Í->É->Prop) (s':É),à (ø Y.prog Y.w) A (compTurn e d (.ref it) (.ref D) Y.env) Q' (λ_ _=>False) s'->à (ø Y.prog Y.w) (A.under (.compLoop e d (.ref it) (.ref D) Y.env)) ((ø Y.prog Y.w).den (.compLoop e d (.ref it) (.ref D) Y.env)) Q' E' s')
 (ht:compTurn e d (.ref it) (.ref D) Y.env=(do
   abg p0
   match <- ť (.ref it) with
   |none=>pure (.done .next)
   |some v =>
    ş tg (.ref it) v
    aaR tg Y.env v
    let mut ok:=true
    for c in tests do
     if ok then ok <- isTrue c Y.env (Ť c Y.env)
    if ok then act else again (.compLoop e d (.ref it) (.ref D) Y.env)))
 (h:CA J g tf ta (o++caps) acc H Q) :
  aaO (ø Y.prog Y.w) Y.A (.compLoop e d (.ref it) (.ref D) Y.env) (λr s'=>r=.ok .next/\∃o' H' fC,qk Y D nt caps π o' H' s' fC/\Q (o'++caps) fC H') s:=by
 obtain⟨W,⟨m0,w0⟩,turn⟩:=h;have kX:∀{H':Hp} {pl:List (á×Obj)},(∀b∈fp,H' b=none)->(∀p∈pl,p.1∉fp)->∀b∈fp,cu Y (π++pl) H' b:=λ{H' pl} hn hp b hb=>by
  obtain⟨_,f1,mR,f3,f4,f5⟩:=hf b hb;refine⟨hn b hb,f1,mR,f3,f4,λp ql=>?_⟩
  rcases Ù.mp ql with z|z
  ·exact f5 p (ħ _ z)
  ·rcases Ù.mp z with z|z
   ·exact f5 p (Æ _ z)
   ·exact λe=>hp p z (e ▸ hb)
 refine codeAny_loop hq (λn s'=>∃i acc o H',qk Y D nt caps π o H' s' acc/\tn i s'.heap/\(∀b∈fp,H' b=none)/\W i n (o++caps) acc H') (λn s3 hJ=>?_) m0 ⟨0,acc,o,H,B,Yk,λb hb=>(hf b hb).1,w0⟩;obtain⟨i,acc,o3,H3,B3,gv,oj,w3⟩:=hJ;refine Xl (ø Y.prog Y.w) _ _ _ _ ?_;rw[ht];obtain⟨oD,ys,nn,ho,eo,oA,vA⟩:=ds.obj B3;have qm:∀p∈[(D,oD)],p.1∉fp:=λp hp=>by
  have e:p=(D,oD):=by simpa using hp
  subst e;exact kW
 have sC:∀{pl:List (á×Obj)} {cW:St} {H':Hp} {s':É},Inv Y (π++[(D,oD)]++pl) cW H' s'->s'.heap.PlainList D ys/\H' D=none:=λ{pl cW H' s'} I'=>by
  have q:=I'.pin (D,oD) (Æ _ (ħ _ (Æ _ (by simp))));exact⟨⟨nn,by rw[<- eo];exact q.1⟩,q.2.1⟩
 refine À (Ŕ (À ?_))
 rcases turn i n _ acc H3 w3 with ⟨stop,q⟩ | ⟨go,N',hN,step⟩
 ·have hd:=T.done Y rfl rfl rfl hc i _ s3 _ H3 (λ_ _=>False) vA (kX oj qm) gv stop
  refine aE hd λr s4 h4=>?_;obtain⟨hr,I4⟩:=h4;subst hr;obtain⟨DW,n4⟩:=sC (pl:=[]) (by simpa using I4);exact Â ⟨rfl,o3,H3,acc,⟨I4.jh,B3.len,⟨ys,DW,oA⟩,n4,B3.kS⟩,q⟩
 ·have hd:=T.item Y rfl rfl rfl hc i _ s3 _ H3 (λ_ _=>False) vA (kX oj qm) gv go
  refine aE hd λr s4 h4=>?_;obtain⟨u,hr,h4⟩:=h4;subst hr;refine À (aE h4 λ_ s5 h5=>?_);obtain⟨x,H5,I5,r5,y5,iH,uZ⟩:=h5;have u0:=I5.pinned (kX uZ qm) (T.obj _ _ iH);have q5:=hG _ s5 _ H5 x u _ u0 r5 (gb x o3 _ H5 _ B3.len (step x H5 y5));rw[hx] at q5;refine À (aE q5 λ_ s6 h6=>?_);obtain⟨sD,H6,I6,⟨o6,vB,yD⟩,q6⟩:=h6;have q7:=hF _ s6 sD H6 _ I6 q6;rw[hx] at q7;refine À (aE q7 λb s7 h7=>?_);obtain⟨H7,I7,q7⟩:=h7;subst yD;obtain⟨za,n7⟩:=sC I7;have DY:Inv Y (π++ny fp s5.heap) (o6++caps) H7 s7:=I7.ix λp hp=>by
   rcases Ù.mp hp with z|z
   ·exact I7.pin p (Æ _ (ħ _ (ħ _ z)))
   ·exact I7.pin p (Æ _ (Æ _ z))
  have uG:∀{cW:St} {H':Hp} {s':É},Inv Y (π++ny fp s5.heap) cW H' s'->tn (i+1) s'.heap/\∀b∈fp,H' b=none:=λ{cW H' s'} I'=>by
   refine⟨T.keep _ _ _ iH λb hb o e=>(I'.pin (b,o) (Æ _ (Æ _ (qG hb e)))).1,λb hb=>?_⟩;obtain⟨o,e,_⟩:=T.obj _ _ iH b hb;exact(I'.pin (b,o) (Æ _ (Æ _ (qG hb e)))).2.1
  cases b with
  |false =>
   rw[æ Ë] at q7;obtain⟨m',hm,w7⟩:=hN _ _ _ q7;obtain⟨t7,f7⟩:=uG DY;exact Â ⟨rfl,m',hm,i+1,acc,o6,H7,⟨DY.jh,vB,⟨ys,za,oA⟩,n7,B3.kS⟩,t7,f7,w7⟩
  |true =>
   rw[Ú rfl] at q7;have Yl:DS Y D (π++ny fp s5.heap):=⟨ds.loc,ds.fs,ds.new,ds.cell,λp hp=>by
    rcases Ù.mp hp with z|z
    ·exact ds.pin p (ħ _ z)
    ·rcases Ù.mp z with z|z
     ·exact ds.pin p (Æ _ z)
     ·exact λe=>kW (e ▸ (Ge z).1)⟩
   refine aE (hA _ o6 H7 s7 acc N' Yl ⟨DY,vB,⟨ys,za,oA⟩,n7,B3.kS⟩ q7) λfn s8 h8=>?_;obtain⟨Ym,o8,H8,Xm,B8,q8⟩:=h8;subst Ym;obtain⟨m',hm,w8⟩:=hN _ _ _ q8;obtain⟨t8,f8⟩:=uG B8.inv;exact⟨rfl,m',hm,i+1,Xm,o8,H8,⟨B8.inv.jh,B8.len,B8.lst,B8.free,B8.kS⟩,t8,f8,w8⟩
end
def Bf (A:đ) (Q':Fin->É->Prop) (E':Í->É->Prop) (s':É)
 (h:à (ø P w) A (compTurn (.ListComp el gens sc ps) d ja av ce) Q' (λ_ _=>False) s'):à (ø P w) (A.under (.compLoop (.ListComp el gens sc ps) d ja av ce)) ((ø P w).den (.compLoop (.ListComp el gens sc ps) d ja av ce)) Q' E' s':=by
 show à _ A ((compTurn (.ListComp el gens sc ps) d ja av ce).onRaise (λx=>do noteFrame x ce;theTreesLotGoes x)) _ _ s'
 exact wpAny_noted (ĳ h (λ_ _ q=>q) λ_ _ z=>z.elim)
def QH (hd:gens[d]?=some ⟨target,iter,ifs,0⟩)
 (h0:aaO (ø P w) A (.compLoop (.ListComp el gens sc ps) d it acc env) R s)
 (h:à (ø P w) A (pyIter it) (λkY s'=>aaO (ø P w) A (.compLoop (.ListComp el gens sc ps) d kY acc env) R s') (λ_ _=>False) s) :
  aaO (ø P w) A (.compStart (.ListComp el gens sc ps) d it acc env) R s:=by
 refine abV ?_
 show à _ _ ((compStart (.ListComp el gens sc ps) d it acc env).onRaise (λx=>do noteFrame x env;abg theWindowsPlace)) _ _ s
 refine wpAny_notedAt ?_;have ei:(clausesOf (.ListComp el gens sc ps))[d]?=some ⟨target,iter,ifs,0⟩:=hd;unfold compStart;rw[ei];show à _ _ (ask >>= _) _ _ s;refine À (Ŭ (wpAny_ite ?_));split
 ·first
   |exact À (Â (Â (And.intro rfl h0)))
   |exact Â (And.intro rfl h0)
 ·refine À (Ŝ ?_)
  show à _ _ (abg iter.pos >>= _) _ _ s;exact À (Ŕ (À (ĳ h (λkY s' h'=>Â (And.intro rfl h')) λ_ _ x=>x.elim)))
section
variable {Y:Cx} {D:á} {nt:Nat} {caps:St}
def w6 {el tg src:ļ} {gens:List Comprehension} {sc:abf} {ps:Pos} {tests:List ļ} {d:Nat} {wi:TI} {g:TG} {tf:TT} {ta:jZ} {act:á->Sem acf} {c:Code} (hx:Y.xe=λ_ _=>False) (hc:Y.calm=true) (hd:gens[d]?=some ⟨tg,src,tests,0⟩)
  (hi:PI Y tg src wi) (hG:PG Y tg g) (gb:lX g nt) (hF:PF Y tests tf) (hA:∀it:á,rZ Y D nt caps (.compLoop (.ListComp el gens sc ps) d (.ref it) (.ref D) Y.env) (act it) ta)
  (ht:∀it:á,compTurn (.ListComp el gens sc ps) d (.ref it) (.ref D) Y.env=(do
   abg src.pos
   match <- ť (.ref it) with
   |none=>pure (.done .next)
   |some v =>
    ş tg (.ref it) v
    aaR tg Y.env v
    let mut ok:=true
    for c in tests do
     if ok then ok <- isTrue c Y.env (Ť c Y.env)
    if ok then act it else again (.compLoop (.ListComp el gens sc ps) d (.ref it) (.ref D) Y.env)))
  (hs:∀x,ô src Y.env x=pure x) :
  rZ Y D nt caps c (do
   let x <- Ť src Y.env
   abg src.pos
   let x <- ô src Y.env x
   let _ <- runOwn (.compStart (.ListComp el gens sc ps) d (<- aac [x] (pyIter x)) (.ref D) Y.env) Y.env
   again c) (J6 wi g tf ta):=by
 intro π o H s acc Q ds B h;obtain⟨oD,ys,nn,ho,eo,rv,I⟩:=ds.obj B;have q:=hi _ s _ H _ I h;rw[hx] at q;refine À (aE q λv s1 h1=>À (Ŕ ?_));rw[hs];refine À (Â (À (ė (aE h1 λja s2 h2=>?_))));obtain⟨it,fp,tn,J,H2,e,I2,T,dS,f2,ca⟩:=h2;subst e;have pD:=I2.pin (D,oD) (Æ _ (Æ _ (by simp)));have kW:D∉fp:=λz=>(f2 D z).2.2.2.2.2 (D,oD) (Æ _ (Æ _ (by simp))) rfl;have mR:∀b∈fp,cu Y π H2 b:=λb hb=>by
  obtain⟨a1,a2,a3,a4,a5,a6⟩:=f2 b hb;refine⟨a1,a2,a3,a4,a5,λp hp=>a6 p ?_⟩
  rcases Ù.mp hp with z|z
  ·exact ħ _ z
  ·exact Æ _ (ħ _ z)
 have B2:qk Y D nt caps π o H2 s2 acc:=⟨I2.jh,B.len,⟨ys,⟨nn,by rw[<- eo];exact pD.1⟩,rv⟩,pD.2.1,B.kS⟩;have loop:=zO (e:=.ListComp el gens sc ps) (d:=d) hx hc T dS mR kW hG gb hF (hA it) ds B2 rfl (λ_ A Q' E' s' h=>Bf A Q' E' s' h) (ht it) ca;refine À (wpAny_runOwn ?_);refine ů (QH hd loop (T.self _ _ _ _ _ dS loop)) λr s' hr=>?_;obtain⟨e,q⟩:=hr;subst e;exact Â ⟨rfl,q⟩
end
def xD (wi:TI) (nt:Nat) (cap:List Nat) (g:TG) (tf:TT) (ta:jZ):TE:=fun σ H Q=>wi σ H λJ H1=>CA J g tf ta (Ï nt none++my cap σ) [] H1 λ_ acc H2=>∀D,H2 D=none->Q (.ref D) (upd H2 D (.lst acc))
section
variable {X:Cx}
def Hb {el tg src:ļ} {tests:List ļ} {rest:List Comprehension} {sc:abf} {ps:Pos} {N:List Str} {nt:Nat} {cap:List Nat} {wi:TI} {g:TG} {tf:TT} {ta:jZ} {act:Env->á->á->Sem acf} (hc:X.calm=true) (S:oX X sc N nt cap) (gb:lX g nt) (hi:PI X tg src wi)
  (hY:∀(cl:List (Str×á)) (C:á) (s:É) (H:Hp) (ex:List á) (pn:List (á×Obj)),PG (cg X N sc cl C s H ex pn) tg g/\PF (cg X N sc cl C s H ex pn) tests tf/\∀D caps it,rZ (cg X N sc cl C s H ex pn) D nt caps (.compLoop (.ListComp el (⟨tg,src,tests,0⟩::rest) sc ps) 0 (.ref it) (.ref D) (compEnvC sc cl C X.env)) (act (compEnvC sc cl C X.env) D it) ta)
  (ht:∀(it D:á) (ce:Env),compTurn (.ListComp el (⟨tg,src,tests,0⟩::rest) sc ps) 0 (.ref it) (.ref D) ce=(do
   abg src.pos
   match <- ť (.ref it) with
   |none=>pure (.done .next)
   |some v =>
    ş tg (.ref it) v
    aaR tg ce v
    let mut ok:=true
    for c in tests do
     if ok then ok <- isTrue c ce (Ť c ce)
    if ok then act ce D it else again (.compLoop (.ListComp el (⟨tg,src,tests,0⟩::rest) sc ps) 0 (.ref it) (.ref D) ce)))
  (hs:∀x,ô src X.env x=pure x:=by intro _;rfl):PE X (.ListComp el (⟨tg,src,tests,0⟩::rest) sc ps) (xD wi nt cap g tf ta):=by
 intro π s σ H Q I h;obtain⟨cl,ui,cV⟩:=A8 (env:=X.env) (sc:=sc) λn hn=>I.ok.has n (S.frees _ hn rfl).2;rw[eval_ListComp];refine aaU (use:=none) rfl hs ui S.kind S.names (aE (hi π s σ H _ I h) λxv s1 h1=>aE h1 λja s2 h2=>?_);obtain⟨it,fp,tn,J,H2,e,I2,T,dS,f2,ca⟩:=h2;subst e;refine ó (wpAny_newFunctionEnv S.A9 (by intro y hy;simp at hy) (λh3 gP ju=>?_) S.kind);dsimp only at gP ju |-;generalize hD:s2.heap.objs.size=D at gP ju |-;generalize hG:s2.heap.push { cls:=.type "list",dict:=none,data:=.seq ([]:List Í).toArray }=G at gP ju |-;generalize vC:G.objs.size=C at gP ju |-;have hC:C=D+1:=by rw[<- vC,<- hG,ú,hD]
 have kZ:D≠C:=by omega
 have dR:s2.heap.objs.size<=D:=ō hD;have ef:s2.heap.objs.size<=C:=by omega
 have old:∀b o,s2.heap.get? b=some o->h3.get? b=some o:=λb o e=>ju.extBut b o (è (Ê (Î e) ef)) (Á _ (hG ▸ Á _ e));have jW:h3.PlainList D #[]:=⟨_,ju.extBut _ _ kZ (Á _ (hG ▸ hD ▸ Ì _ rfl))⟩;have gW:∀b∈fp,b<s2.heap.objs.size:=λb hb=>by
  obtain⟨o,e,_⟩:=T.obj _ _ dS b hb;exact Î e
 have IB:=I2.block (t':=s2.toks+([]:List (Str×Í)).length) S cV f2 gW old ef ⟨_,gP⟩;have vD:D∉gU X.stack:=λz=>by
  rcases Ó.mp (I2.ki D z) with e|e
  ·exact absurd (Ê I2.lt dR) (by rw[e];exact é _)
  ·exact I2.pG dR e
 have kW:D∉fp:=λz=>absurd (Ê (gW D z) dR) (é _);have tR:∀x c,cl.lookup x=some c->c≠D:=λx c e z=>by
  obtain⟨v,o,ho,_⟩:=I2.cell x c ((cV x c).mp e).2;exact absurd (Ê (Î ho) (by rw[z];exact dR)) (é _)
 have uj:∀p∈X.pn++π,p.1≠D:=λp hp z=>absurd (Ê (Î (I2.pin p hp).1) (by rw[z];exact dR)) (é _);have fin:∀(s':É) (τ:St) (H':Hp) (acc:List V) (ys:Array Í),Inv (cg X N sc cl C s2 H2 fp (X.pn++π)) [] τ H' s'->s'.heap.PlainList D ys->Vals acc ys.toList->H' D=none->acc.length<=Õ->(∀D,H' D=none->Q (.ref D) (upd H' D (.lst acc))) ->
   compPost (ø X.prog X.w) X.A X.xe none (EP X π σ Q) (.ref D) C (.ok .next) s':=by
  intro s' τ H' acc ys I' pl rv hn hz q;obtain⟨m,hm,_⟩:=id I'.loc;refine⟨m,hm,λh' sb=>?_⟩;have uH:cc X.prog X.w H' h':=I'.aF.but I'.free sb;obtain⟨n,ho⟩:=pl;have dg:h'.get? D=some { cls:=.type "list",data:=.seq ys n }:=(sb.2 D kZ).trans ho;have new:cJ X.prog X.w (upd H' D (.lst acc)) h' D (.lst acc):=⟨hz,ys.toList,n,rv,by simpa using dg⟩;have u:=(I'.base.but ef sb).adopt (o:=.lst acc) dR hn
  refine⟨.ref D,upd H' D (.lst acc),I2.xO (s':={ s' with heap:=h' }) (ch:=fp) I'.os u (uH.adopt hn new) I'.bare (λb hb=>?_),rfl,q D hn⟩
  obtain⟨_,f1,_,f3,f4,f5⟩:=f2 b hb;exact⟨f3,f1,f4,f5⟩
 have kX:∀b∈fp,cu (cg X N sc cl C s2 H2 fp (X.pn++π)) [] H2 b:=λb hb=>by
  obtain⟨f0,f1,mR,f3,f4,f5⟩:=f2 b hb;refine⟨f0,è (Ê (gW b hb) ef),λz=>?_,.inl hb,λx c e=>f4 x c ((cV x c).mp e).2,λp ql=>?_⟩
  ·rcases Ó.mp (I2.ki b z) with e|e
   ·exact f1 e
   ·exact mR e
  ·exact f5 p (by simpa using ql)
 obtain⟨vE,vF,DZ⟩:=hY cl C s2 H2 fp (X.pn++π);have loop:=zO (Y:=cg X N sc cl C s2 H2 fp (X.pn++π)) (D:=D) (nt:=nt) (caps:=my cap σ) (e:=.ListComp el (⟨tg,src,tests,0⟩::rest) sc ps) (d:=0) (π:=[]) (o:=Ï nt none) (acc:=[]) rfl hc T
  (T.keep _ _ _ dS λb _ o e=>old b o e) kX kW vE gb vF (DZ D _ it) ⟨kZ,vD,dR,tR,λp hp=>uj p (by simpa using hp)⟩ ⟨IB,by simp,⟨#[],jW,.nil⟩,I2.aF.fresh dR,Ę _⟩ rfl (λ_ A Q' E' s' h=>Bf A Q' E' s' h) (ht it D _) ca
 have uq:=ů loop (R':=compPost (ø X.prog X.w) X.A X.xe none (EP X π σ Q) (.ref D) C) λr s' hr=>by
  obtain⟨e,o',H',fC,B',q'⟩:=hr;subst e;obtain⟨ys,pl,rv⟩:=B'.lst;exact fin s' _ H' fC ys B'.inv pl rv B'.free B'.kS q'
 exact abc uq (T.self _ _ _ _ _ (T.keep _ _ _ dS λb _ o e=>old b o e) uq)
def QI {el tg src:ļ} {tests:List ļ} {rest:List Comprehension} {sc:abf} {ps pos pos':Pos} {N:List Str} {nt:Nat} {cap:List Nat} {wi:TI} {g:TG} {tf:TT} {ta:jZ} {act:Env->á->á->Sem acf} {i0:Nat} {x0:Str} (mS:X.N.Nodup) (mT:X.N[i0]?=some x0) (mU:Loc X.env.scope x0) (hc:X.calm=true) (S:oX X sc N nt cap) (gb:lX g nt) (hi:PI X tg src wi)
  (hY:∀(cl:List (Str×á)) (C:á) (s:É) (H:Hp) (ex:List á) (pn:List (á×Obj)),PG (cg X N sc cl C s H ex pn) tg g/\PF (cg X N sc cl C s H ex pn) tests tf/\∀D caps it,rZ (cg X N sc cl C s H ex pn) D nt caps (.compLoop (.ListComp el (⟨tg,src,tests,0⟩::rest) sc ps) 0 (.ref it) (.ref D) (compEnvC sc cl C X.env)) (act (compEnvC sc cl C X.env) D it) ta)
  (ht:∀(it D:á) (ce:Env),compTurn (.ListComp el (⟨tg,src,tests,0⟩::rest) sc ps) 0 (.ref it) (.ref D) ce=(do
   abg src.pos
   match <- ť (.ref it) with
   |none=>pure (.done .next)
   |some v =>
    ş tg (.ref it) v
    aaR tg ce v
    let mut ok:=true
    for c in tests do
     if ok then ok <- isTrue c ce (Ť c ce)
    if ok then act ce D it else again (.compLoop (.ListComp el (⟨tg,src,tests,0⟩::rest) sc ps) 0 (.ref it) (.ref D) ce)))
  (hs:∀x,ô src X.env x=pure x:=by intro _;rfl)
  (mV:abw (.ListComp el (⟨tg,src,tests,0⟩::rest) sc ps) (some (.Name x0 pos')) pos.line X.env=pure true:=by rfl)
  (mW:X.fn x0=true\/X.env.scope.names.lookup x0=some .local:=by first|exact .inl rfl|exact .inr rfl|assumption):PS X (.Assign [.Name x0 pos'] (.ListComp el (⟨tg,src,tests,0⟩::rest) sc ps) pos) (pH (xD wi nt cap g tf ta) (kz i0)):=by
 intro π s σ H D0 I h;obtain⟨cl,ui,cV⟩:=A8 (env:=X.env) (sc:=sc) λn hn=>I.ok.has n (S.frees _ hn rfl).2;rw[exec_Assign_Name_used _ _ _ _ mV];refine À (Ŕ (À ?_));obtain⟨Q,hQ⟩:∃Q:VK,Q=λv H1=>kz i0 v σ H1 D0.nx:=⟨_,rfl⟩;have h:xD wi nt cap g tf ta σ H Q:=by rw[hQ];exact h
 have lZ:∀v H1,Q v H1->D0.nx (σ.set i0 (some v)) H1:=λv H1 q=>by rw[hQ] at q;exact q
 unfold evalThenUse
 refine À (ĳ (Q:=λ_ s'=>SP X π D0 .next s') ?_ (λ_ s' q=>Â (Â q)) (λ_ _ z=>z))
 refine aaU (use:=some (aaR (.Name x0 pos') X.env)) rfl hs ui S.kind S.names (aE (hi π s σ H _ I h) λxv s1 h1=>aE h1 λja s2 h2=>?_);obtain⟨it,fp,tn,J,H2,e,I2,T,dS,f2,ca⟩:=h2;subst e;refine ó (wpAny_newFunctionEnv S.A9 (by intro y hy;simp at hy) (λh3 gP ju=>?_) S.kind);dsimp only at gP ju |-;generalize hD:s2.heap.objs.size=D at gP ju |-;generalize hG:s2.heap.push { cls:=.type "list",dict:=none,data:=.seq ([]:List Í).toArray }=G at gP ju |-;generalize vC:G.objs.size=C at gP ju |-;have hC:C=D+1:=by rw[<- vC,<- hG,ú,hD]
 have kZ:D≠C:=by omega
 have dR:s2.heap.objs.size<=D:=ō hD;have ef:s2.heap.objs.size<=C:=by omega
 have old:∀b o,s2.heap.get? b=some o->h3.get? b=some o:=λb o e=>ju.extBut b o (è (Ê (Î e) ef)) (Á _ (hG ▸ Á _ e));have jW:h3.PlainList D #[]:=⟨_,ju.extBut _ _ kZ (Á _ (hG ▸ hD ▸ Ì _ rfl))⟩;have gW:∀b∈fp,b<s2.heap.objs.size:=λb hb=>by
  obtain⟨o,e,_⟩:=T.obj _ _ dS b hb;exact Î e
 have IB:=I2.block (t':=s2.toks+([]:List (Str×Í)).length) S cV f2 gW old ef ⟨_,gP⟩;have vD:D∉gU X.stack:=λz=>by
  rcases Ó.mp (I2.ki D z) with e|e
  ·exact absurd (Ê I2.lt dR) (by rw[e];exact é _)
  ·exact I2.pG dR e
 have kW:D∉fp:=λz=>absurd (Ê (gW D z) dR) (é _);have tR:∀x c,cl.lookup x=some c->c≠D:=λx c e z=>by
  obtain⟨v,o,ho,_⟩:=I2.cell x c ((cV x c).mp e).2;exact absurd (Ê (Î ho) (by rw[z];exact dR)) (é _)
 have uj:∀p∈X.pn++π,p.1≠D:=λp hp z=>absurd (Ê (Î (I2.pin p hp).1) (by rw[z];exact dR)) (é _);have fin:∀(s':É) (τ:St) (H':Hp) (acc:List V) (ys:Array Í),Inv (cg X N sc cl C s2 H2 fp (X.pn++π)) [] τ H' s'->s'.heap.PlainList D ys->Vals acc ys.toList->H' D=none->acc.length<=Õ->(∀D,H' D=none->Q (.ref D) (upd H' D (.lst acc))) ->
   compPost (ø X.prog X.w) X.A X.xe (some (aaR (.Name x0 pos') X.env)) (λ_ s'=>SP X π D0 .next s') (.ref D) C (.ok .next) s':=by
  intro s' τ H' acc ys I' pl rv hn hz q;obtain⟨m,hm,_⟩:=id I'.loc;have uH:cc X.prog X.w H' s'.heap:=I'.aF;obtain⟨n,ho⟩:=pl;have new:cJ X.prog X.w (upd H' D (.lst acc)) s'.heap D (.lst acc):=⟨hz,ys.toList,n,rv,by simpa using ho⟩;have u:=(I'.base.but ef (Heap.SameBut.refl _ _)).adopt (o:=.lst acc) dR hn;have IX:Inv X π σ (upd H' D (.lst acc)) s':=I2.xO (s':=s') (ch:=fp) I'.os u (uH.adopt hn new) I'.bare (λb hb=>by
   obtain⟨_,f1,_,f3,f4,f5⟩:=f2 b hb;exact⟨f3,f1,f4,f5⟩)
  have vG:upd H' D (.lst acc) C=none:=by
   rw[bt (Ň kZ)];exact I'.free
  have vH:C≠X.env.locals:=λz=>absurd (Ê I2.lt ef) (by rw[z];exact é _);have D1:C∉X.fs:=I2.pG ef;obtain⟨oC,es,ep,D2,vI,p9⟩:=id hm;have IP:Inv X ((C,oC)::π) σ (upd H' D (.lst acc)) s':=IX.ix λp hp=>by
   rcases Ó.mp hp with e|e
   ·subst e
    exact⟨D2,vG,vH,D1,λv z=>by rw[vI] at z;cases z⟩
   ·exact IX.pin p (Æ _ e)
  show à _ _ (aaR (.Name x0 pos') X.env (.ref D)) _ _ s';refine wpAny_assign_Name (mq IP mS mT mU (show RelV (.ref D) (.ref D) from rfl) (λs3 I3=>?_) mW);have p3:=(I3.pin (C,oC) (Æ _ (Ò ..))).1;refine⟨m,⟨oC,es,ep,p3,vI,p9⟩,λh' sb=>⟨_,upd H' D (.lst acc),?_,lZ _ _ (q D hn)⟩⟩;have I4:Inv X π (σ.set i0 (some (.ref D))) (upd H' D (.lst acc)) s3:=I3.ix λp hp=>I3.pin p (Æ _ (Ñ _ hp));refine I4.turned (it:=C) (t':=s3.toks) (λb o hb e=>(sb.2 b hb).trans e) vG vH (.inr (Û I2.sz ef)) (λx c e z=>?_) (λp hp z=>?_)
  ·obtain⟨v,o,jb,_⟩:=I2.cell x c e
   exact absurd (Ê (Î jb) (by rw[z];exact ef)) (é _)
  ·exact absurd (Ê (Î (I2.pin p hp).1) (by rw[z];exact ef)) (é _)
 have kX:∀b∈fp,cu (cg X N sc cl C s2 H2 fp (X.pn++π)) [] H2 b:=λb hb=>by
  obtain⟨f0,f1,mR,f3,f4,f5⟩:=f2 b hb;refine⟨f0,è (Ê (gW b hb) ef),λz=>?_,.inl hb,λx c e=>f4 x c ((cV x c).mp e).2,λp ql=>?_⟩
  ·rcases Ó.mp (I2.ki b z) with e|e
   ·exact f1 e
   ·exact mR e
  ·exact f5 p (by simpa using ql)
 obtain⟨vE,vF,DZ⟩:=hY cl C s2 H2 fp (X.pn++π);have loop:=zO (Y:=cg X N sc cl C s2 H2 fp (X.pn++π)) (D:=D) (nt:=nt) (caps:=my cap σ) (e:=.ListComp el (⟨tg,src,tests,0⟩::rest) sc ps) (d:=0) (π:=[]) (o:=Ï nt none) (acc:=[]) rfl hc T
  (T.keep _ _ _ dS λb _ o e=>old b o e) kX kW vE gb vF (DZ D _ it) ⟨kZ,vD,dR,tR,λp hp=>uj p (by simpa using hp)⟩ ⟨IB,by simp,⟨#[],jW,.nil⟩,I2.aF.fresh dR,Ę _⟩ rfl (λ_ A Q' E' s' h=>Bf A Q' E' s' h) (ht it D _) ca
 have uq:=ů loop (R':=compPost (ø X.prog X.w) X.A X.xe (some (aaR (.Name x0 pos') X.env)) (λ_ s'=>SP X π D0 .next s') (.ref D) C) λr s' hr=>by
  obtain⟨e,o',H',fC,B',q'⟩:=hr;subst e;obtain⟨ys,pl,rv⟩:=B'.lst;exact fin s' _ H' fC ys B'.inv pl rv B'.free B'.kS q'
 exact abc uq (T.self _ _ _ _ _ (T.keep _ _ _ dS λb _ o e=>old b o e) uq)
end
end L2
namespace DI
open PySem L2
def gn:ą "isinstance"=some (.builtin "isinstance"):=by decide +kernel
def J7:ą "int"=some (.type "int"):=by decide +kernel
def xE:ą "bool"=some (.type "bool"):=by decide +kernel
def eY:ą "tuple"=some (.type "tuple"):=by decide +kernel
def tU:ą "list"=some (.type "list"):=by decide +kernel
def V1:ą "set"=some (.type "set"):=by decide +kernel
def nQ:ą "all"=some (.builtin "all"):=by decide +kernel
def J8:ą "any"=some (.builtin "any"):=by decide +kernel
def iB:ą "len"=some (.builtin "len"):=by decide +kernel
def Ju:ą "repr"=some (.builtin "repr"):=by decide +kernel
def BP:ą "max"=some (.builtin "max"):=by decide +kernel
def xZ:ą "min"=some (.builtin "min"):=by decide +kernel
def Hc:ą "sorted"=some (.builtin "sorted"):=by decide +kernel
structure Gd (K:Ĳ) (mg:Str->Option Í) (x:Str) (st:Stmt) (ps:List Str) (f:á) (fd:Ŗ):Prop where
 mg:mg x=some (.ref f)
 fn:qd K x x st f fd
 b:Binds K fd ps []
def V2 {P:ù} {w:ď} {K:Ĳ} {mg:Str->Option Í} {base:ŏ} {k:Nat} {f:á} {fd:Ŗ} {ps:List Str} {g:List D->ag->Res D} (h:∀ds s,g ds s=none):fB P w K mg base gy k f fd ps (ma K g) :=
 ⟨λvs H Q E h'=>by obtain⟨w,ds,_,_,_,q⟩:=h';rw[h] at q;exact q.elim,λA outer s H args us vs Q E _ _ _ _ h'=>by obtain⟨w,ds,_,_,_,q⟩:=h';rw[h] at q;exact q.elim⟩
def x8 (K:Ĳ):Sp:=λvs H Q _=>∃(a:á) (ns:List Int),vs=[.ref a]/\bu K H a (ns.map V.int)/\ns.length<=63/\∀H',Q (.bl true) H'
def Uy (F:fB P w K mg base gy k f fd [x] (ma K g))
 (h:∀ns:List Int,ns.length<=63->∃s,g [.bG ns] []=some (.ok (.bl true),s)):fB P w K mg base gy k f fd [x] (x8 K):=F.imp λvs H Q E ⟨a,ns,e,hS,hl,q⟩=>by
 subst e;obtain⟨s,hs⟩:=h ns hl;have nz:∀b,¬ (⟨[],[],H⟩:Wd).Z b:=λb ⟨k,c,e1,_,_⟩=>by simp at e1
 refine⟨⟨[],[],H⟩,[.bG ns],rfl,⟨rfl,abv,λk a e=>by simp at e,λk a c e=>by simp at e⟩,ar.one ⟨a,rfl,?_⟩,?_⟩
 ·rcases hS with hS|hS
  ·exact .inl ⟨nz a,hS⟩
  ·exact .inr hS
 ·show Out K bH _ (g [.bG ns] []) _
  rw[hs];intro w' _ _ _ v dv;have e:v=.bl true:=dv;subst e;exact q _
def j0 (g:D->Env->Option Env) (t:Env->ag->Res Bool) (act:Env->ag->Res (List D)) (pK:Env):List D->ag->Res (List D)
 | [],s=>ok [] s
 |d::ds,s=>match g d pK with
  |none=>none
  |some env=>ao (ne (t env s)) λb s=>if b=true then ao (ne (act env s)) λxs s=>ao (j0 g t act pK ds s) λys s=>ok (xs++ys) s
   else j0 g t act pK ds s
def emit (f:Env->ag->Res D):Env->ag->Res (List D):=λenv s=>ao (f env s) λx s=>ok [x] s
def more (it:Env->ag->Res (List D)) (g:D->Env->Option Env) (t:Env->ag->Res Bool) (act:Env->ag->Res (List D)):Env->ag->Res (List D):=λenv s=>ao (it env s) λds s=>j0 g t act env ds s
def tV (nt:Nat) (cap:List Nat) (it:Env->ag->Res (List D)) (g:D->Env->Option Env) (t:Env->ag->Res Bool) (act:Env->ag->Res (List D)):Env->ag->Res D:=λenv s =>
 ao (it env s) λds s=>ao (ne (j0 g t act (Ï nt none++fV cap env) ds s)) λxs s=>iX xs (ok (.lst xs) s)
def Sl (g:D->Env->Option Env) (sl:List Nat):Prop:=∀d env env',g d env=some env'->env'.length=env.length/\∀i,i∉sl->env'[i]?=env[i]?
def qS (i:Nat):Sl (gN i) [i]:=λd env env' h=>by
 have e:env.set i (some d)=env':=Option.some.inj h;subst e;refine⟨Ĝ ..,λj hj=>?_⟩;rw[Ø (λz=>hj (by simp[z]))]
def J9:∀(is:List Nat) (ds:List D) (env env':Env),ig (is.map gN) ds env=some env'->env'.length=env.length/\∀i,i∉is->env'[i]?=env[i]?
 | [],[],env,env',h=>by
  have e:env=env':=Option.some.inj h;rw[e];exact⟨rfl,λ_ _=>rfl⟩
 | [],_::_,_,_,h=>by cases h
 |_::_,[],_,_,h=>by cases h
 |j::is,d::ds,env,env',h=>by
  have h':ig (is.map gN) ds (env.set j (some d))=some env':=h;obtain⟨h1,h2⟩:=J9 is ds _ env' h';refine⟨by rw[h1,Ĝ],λi hi=>?_⟩;rw[h2 i (λz=>hi (Ñ _ z)),Ø (λz=>hi (by rw[z];exact Ò ..))]
def A6 (is:List Nat):Sl (gT (is.map gN)) is:=λd env env' h=>by
 cases d with
 |tup ds=>exact J9 is ds env env' h
 |_=>cases h
def len_same {g:D->Env->Option Env} {sl:List Nat} {d:D} {env env':Env} (hs:Sl g sl) (hg:g d env=some env'):env'.length=env.length:=(hs d env env' hg).1
def gC (sl:List Nat) (env:Env):Prop:=∀i∈sl,∀d,env[i]?≠some (some d)
def bZ.back {K:Ĳ} {w:Wd} {env env':Env} {σ:St} {g:D->Env->Option Env} {sl:List Nat} {d:D} (hs:Sl g sl) (hf:gC sl env) (hg:g d env=some env') (hl:env.length=σ.length) (h:bZ K w env' σ):bZ K w env σ :=
 ⟨hl,λi x e=>by
  by_cases hi:i∈sl
  ·exact absurd e (hf i hi x)
  ·exact h.val i x (by rw[(hs d env env' hg).2 i hi];exact e)⟩
def uu (K:Ĳ) (Pre:Env->Prop) (ta:jZ) (act:Env->ag->Res (List D)):Prop:=∀(w:Wd) (env:Env) (τ:St) (acc:List V) (accD xs:List D) (s':ag) (Q:St->List V->Hp->Prop),Pre env->aM K w->bZ K w env τ->ar K w accD acc ->
 act env w.aI=some (.ok xs,s')->acc.length+xs.length<=Õ->(∀w' cW vs,Le K w w'->aM K w'->w'.aI=s'->bZ K w' env cW->ar K w' (accD++xs) vs->Q cW vs w'.H)->ta τ w.H acc Q
def qL {α β:Type} {r:Res α} {k:α->ag->Res β} {b:β} {s':ag} (h:ao r k=some (.ok b,s')):∃a s,r=some (.ok a,s)/\k a s=some (.ok b,s'):=by
 match r,h with
 |some (.ok a,s),h=>exact⟨a,s,rfl,h⟩
def AQ {α:Type} {r:Res α} {a:α} {s:ag} (h:ne r=some (.ok a,s)):r=some (.ok a,s):=by
 match r,h with
 |some (.ok b,s2),h=>exact h
def zJ {K:Ĳ} {f:Env->ag->Res D}:uu K (λ_=>True) (J5 (tE K bH f)) (emit f):=by
 intro w env τ acc accD xs s' Q _ S eo da h hl hQ;obtain⟨x,s1,h1,h2⟩:=qL h;cases h2;refine⟨by simpa using hl,w,env,rfl,S,eo,?_⟩;rw[h1];intro w' le S' e' v dv;exact hQ w' τ (acc++[v]) le S' e' (eo.le le) (ar.append (le.all da) (ar.one dv))
def Gz {K:Ĳ} {Pre:Env->Prop} {g0:TG} {g:D->Env->Option Env} {nt:Nat} {sl:List Nat} {t:Env->ag->Res Bool} {act:Env->ag->Res (List D)} {ta:jZ} {env:Env} {w1:Wd} {J:It} {ds xs accD:List D} {s':ag} {τ:St} {acc:List V} {Q:St->List V->Hp->Prop}
  (T:Tg K g0 g nt) (hs:Sl g sl) (hf:gC sl env) (hp:∀d env',g d env=some env'->Pre env') (hA:uu K Pre ta act) (hJ:oz K w1 J ds) (S1:aM K w1) (eo:bZ K w1 env τ) (da:ar K w1 accD acc)
  (h:j0 g t act env ds w1.aI=some (.ok xs,s')) (hl:acc.length+xs.length<=Õ) (hQ:∀w' cW vs,Le K w1 w'->aM K w'->w'.aI=s'->bZ K w' env cW->ar K w' (accD++xs) vs->Q cW vs w'.H) :
  CA J g0 (tT K bH t) ta τ acc w1.H Q:=by
 refine⟨λi m τ acc H'=>m=ds.length-i/\i<=ds.length/\∃w' accD xs,w'.H=H'/\Le K w1 w'/\aM K w'/\bZ K w' env τ/\ar K w' accD acc/\j0 g t act env (ds.drop i) w'.aI=some (.ok xs,s')/\acc.length+xs.length<=Õ /\
   (∀w2 cW vs,Le K w' w2->aM K w2->w2.aI=s'->bZ K w2 env cW->ar K w2 (accD++xs) vs->Q cW vs w2.H),
  ⟨ds.length,rfl,Ę _,w1,accD,xs,rfl,Le.refl _,S1,eo,da,h,hl,hQ⟩,?_⟩
 rintro i m τ acc H' ⟨rfl,hi,w',accD,xs,rfl,l',S',j8,zb,h',oB,lZ⟩;by_cases bE:i<ds.length
 ·right
  obtain⟨gb,hy⟩:=(hJ w' l' S' i).1 _ (Ð bE);rw[aaI bE] at h';simp only[j0] at h'
  cases hg:g ds[i] env with
  |none=>rw[hg] at h';cases h'
  |some jY =>
   rw[hg] at h';obtain⟨b,s2,hb,h2⟩:=qL h';have hb:=AQ hb;refine⟨gb,fun τ acc H2=>∃w' accD xs,w'.H=H2/\Le K w1 w'/\aM K w'/\bZ K w' env τ/\ar K w' accD acc/\j0 g t act env (ds.drop (i+1)) w'.aI=some (.ok xs,s')/\acc.length+xs.length<=Õ /\
    (∀w2 cW vs,Le K w' w2->aM K w2->w2.aI=s'->bZ K w2 env cW->ar K w2 (accD++xs) vs->Q cW vs w2.H),fun qe yz H2 q=>⟨ds.length-(i+1),by omega,rfl,bE,q⟩,λx H3 y=>?_⟩
   obtain⟨w2,rfl,l2,S2,es,dv⟩:=hy x H3 y;refine T.imp _ _ _ _ ⟨w2,env,ds[i],jY,rfl,S2,j8.le l2,dv,hg,fun mK mf=>⟨w2,jY,rfl,S2,mf,?_⟩⟩;have hlen:∀{lW:St},lW.length=mK.length->jY.length=lW.length:=λe=>by rw[mf.len,e]
   have el:env.length=jY.length\/True:=.inr trivial;rw[es,hb];intro w3 l3 S3 e3
   cases b with
   |true =>
    rw[Ú rfl] at h2 |-;obtain⟨ys,s3,zc,h3⟩:=qL h2;have zc:=AQ zc;obtain⟨zs,s4,hz,h4⟩:=qL h3;cases h4;rw[<- e3] at zc;refine hA w3 jY mK acc accD ys s3 _ (hp _ _ hg) S3 (mf.le l3) ((l2.trans l3).all zb) zc (by rw[â] at oB;omega) λw4 τ4 vs l4 S4 e4 LB KY=>?_;have lv:=KY.length;refine⟨w4,accD++ys,zs,rfl,l'.trans (l2.trans (l3.trans l4)),S4,LB.back hs hf hg ?_,KY,by rw[e4];exact hz,?_,λw5 D3 D4 l5 S5 e5 D5 CS=>lZ w5 D3 D4 (l2.trans (l3.trans (l4.trans l5))) S5 e5 D5 (by rw[<- ķ];exact CS)⟩
    ·rw[<- LB.len]
     exact(len_same hs hg).symm
    ·rw[â] at oB lv
     have:=zb.length;omega
   |false =>
    rw[æ Ë] at h2 |-;exact⟨w3,accD,xs,rfl,l'.trans (l2.trans l3),S3,(mf.le l3).back hs hf hg (by rw[<- mf.len];exact(len_same hs hg).symm),(l2.trans l3).all zb,by rw[e3];exact h2,oB,λw5 D3 D4 l5 S5 e5 D5 CS=>lZ w5 D3 D4 (l2.trans (l3.trans l5)) S5 e5 D5 CS⟩
 ·left
  have e:i=ds.length:=by omega
  subst e;rw[List.drop_length] at h';cases h';exact⟨(hJ w' l' S' _).2 (Nat.le_refl _),lZ w' τ acc (Le.refl _) S' rfl j8 (by rw[Ō];exact zb)⟩
def wG {K:Ĳ} {Pre Pre':Env->Prop} {g0:TG} {g:D->Env->Option Env} {nt:Nat} {sl:List Nat} {it:Env->ag->Res (List D)} {t:Env->ag->Res Bool} {act:Env->ag->Res (List D)} {ta:jZ} (T:Tg K g0 g nt) (hs:Sl g sl) (hA:uu K Pre ta act)
  (h1:∀env,Pre' env->gC sl env) (h2:∀d env env',Pre' env->g d env=some env'->Pre env'):uu K Pre' (J6 (dh K bH it) g0 (tT K bH t) ta) (more it g t act):=by
 intro w env τ acc accD xs s' Q hp S eo da h hl hQ;obtain⟨ds,s1,hd,h3⟩:=qL h;refine⟨w,env,rfl,S,eo,?_⟩;rw[hd];intro w1 l1 S1 e1 J hJ;exact Gz T hs (h1 env hp) (λd env' hg=>h2 d env env' hp hg) hA hJ S1 (eo.le l1) (l1.all da) (by rw[e1];exact h3) hl λw' cW vs l' S' e' j8 aq=>hQ w' cW vs (l1.trans l') S' e' j8 aq
def zX (T:Tg K g0 g nt) (hs:Sl g sl) (vJ:∀i∈sl,i<nt) (hA:uu K Pre ta act)
 (hp:∀d caps env',g d (Ï nt none++caps)=some env'->Pre env') (σ:St) (H:Hp) (Q:VK) :
  tE K Ξ (tV nt cap it g t act) σ H Q->xD (dh K Ξ it) nt cap g0 (tT K bH t) ta σ H Q:=by
 rintro ⟨w,env,rfl,S,eo,h⟩;refine⟨w,env,rfl,S,eo,(Out.ao h).mono λw1 ds l1 S1 h1 J hJ=>?_⟩
 cases hr:j0 g t act (Ï nt none++fV cap env) ds w1.aI with
 |none=>rw[hr] at h1;exact h1.elim
 |some r =>
  obtain⟨r,s'⟩:=r;rw[hr] at h1
  cases r with
  |error x=>exact h1.elim
  |ok xs =>
   have h1:Out K Ξ w1 (iX xs (ok (D.lst xs) s')) (λw' d=>∀v,DV K w' d v->Q v w'.H):=h1;obtain⟨hz,h1⟩:=tD h1;have eb:=(eo.le l1).block nt cap (Ï nt none) (by simp);refine Gz T hs (λi hi d e=>?_) (λd env' hg=>hp d _ env' hg) hA hJ S1 eb (accD:=[]) rfl hr (by simpa using hz) λw' cW vs l' S' e' j8 aq p zd=>?_
   ·rw[ä (by simpa using vJ i hi),ĭ,Ú (vJ i hi)] at e
    cases e
   ·exact h1 (w'.grow p (.lst vs)) (l'.trans (Fw.grow zd).le) (S'.grow zd) e' (.ref p) ⟨p,vs,rfl,⟨(show ¬ w'.Z p from nB S' zd),dw⟩,(Fw.grow zd).le.all aq⟩
def gC.of {nt:Nat} {g:D->Env->Option Env} {sl cU:List Nat} (hs:Sl g sl) (hd:∀i∈cU,i<nt/\i∉sl) {d:D} {caps env':Env} (hg:g d (Ï nt none++caps)=some env'):gC cU env':=λi hi x e=>by
 obtain⟨h1,h2⟩:=hd i hi;rw[(hs _ _ _ hg).2 i h2,ä (by simpa using h1),ĭ,Ú h1] at e;cases e
def gC.on (hs:Sl g sl) (hd:∀i∈cU,i∉sl) (hf:gC cU env) (hg:g d env=some env'):gC cU env':=λi hi x e=>by
 rw[(hs _ _ _ hg).2 i (hd i hi)] at e;exact hf i hi x e
section
variable {X:Cx} {Ξ:Wd->bx->Prop} {el tg src hU fN sE pR:ļ} {tests iV tW:List ļ} {sc:abf} {ps pos:Pos} {N:List Str} {nt:Nat} {cap:List Nat} {it iI ze:Env->ag->Res (List D)} {gd mY D6:D->Env->Option Env} {g0 sF LC:TG} {sl cU vK:List Nat} {ft jC LD:Env->ag->Res Bool} {f:Env->ag->Res D}
abbrev rf (nt:Nat) (cap:List Nat) (it:Env->ag->Res (List D)) (g:D->Env->Option Env) (t:Env->ag->Res Bool) (iI:Env->ag->Res (List D)) (g2:D->Env->Option Env) (t2:Env->ag->Res Bool) (f:Env->ag->Res D):Env->ag->Res D:=tV nt cap it g t (more iI g2 t2 (emit f))
abbrev Jv (nt:Nat) (cap:List Nat) (it:Env->ag->Res (List D)) (g:D->Env->Option Env) (t:Env->ag->Res Bool) (iI:Env->ag->Res (List D)) (g2:D->Env->Option Env) (t2:Env->ag->Res Bool) (ze:Env->ag->Res (List D)) (g3:D->Env->Option Env) (t3:Env->ag->Res Bool) (f:Env->ag->Res D):Env->ag->Res D:=tV nt cap it g t (more iI g2 t2 (more ze g3 t3 (emit f)))
noncomputable def apart (nt:Nat) (sl cU:List Nat):Bool:=cU.all (λi=>decide (i<nt)&&!sl.contains i)
def ni (h:apart nt sl cU=true):∀i∈cU,i<nt/\i∉sl:=λi hi=>by
 have:=ý.mp h i hi;simp only[Ç,È,ē,List.contains_eq_mem,decide_eq_false_iff_not] at this;exact this
noncomputable abbrev CT (e el:ļ) (d:Nat):PySem.Env->á->á->Sem acf:=λce D it=>(do let _ <- call (.builtin "list.append") [.ref D,<- Ť el ce]:Sem Unit) >>= λ_=>again (.compLoop e d (.ref it) (.ref D) ce)
noncomputable abbrev yE (e src:ļ) (d:Nat):PySem.Env->á->á->Sem acf:=λce D it=>do
 let x <- Ť src ce
 abg src.pos
 let x <- ô src ce x
 let _ <- runOwn (.compStart e (d+1) (<- aac [x] (pyIter x)) (.ref D) ce) ce
 again (.compLoop e d (.ref it) (.ref D) ce)
def Sj (hc:X.calm=true) (S:oX X sc N nt cap) (T:Tg X.K g0 gd nt) (fT:Sl gd sl) (T2:Tg X.K sF mY nt) (cf:Sl mY cU) (hi:PI X tg src (dh X.K Ξ it))
  (hY:∀(cl:List (Str×á)) (C:á) (s:É) (H:Hp) (ex:List á) (pn:List (á×Obj)),PG (cg X N sc cl C s H ex pn) tg g0/\PF (cg X N sc cl C s H ex pn) tests (tT X.K bH ft)/\PI (cg X N sc cl C s H ex pn) hU fN (dh X.K bH iI)/\PG (cg X N sc cl C s H ex pn) hU sF/\PF (cg X N sc cl C s H ex pn) iV (tT X.K bH jC)/\PE (cg X N sc cl C s H ex pn) el (tE X.K bH f))
  (l7:apart nt sl cU=true:=by rfl) (l8:apart nt [] sl=true:=by rfl)
  (hs:∀x,ô src X.env x=pure x:=by intro _;rfl) (vL:∀ce x,ô fN ce x=pure x:=by intro _ _;rfl):PE X (.ListComp el [⟨tg,src,tests,0⟩,⟨hU,fN,iV,0⟩] sc ps) (tE X.K Ξ (rf nt cap it gd ft iI mY jC f)) :=
 cQ (Hb (act:=yE (.ListComp el [⟨tg,src,tests,0⟩,⟨hU,fN,iV,0⟩] sc ps) fN 0) hc S T.jd hi (λcl C s H ex pn=>by
   obtain⟨y1,y2,y3,y4,y5,y6⟩:=hY cl C s H ex pn;exact⟨y1,y2,λD caps it=>w6 (d:=1) (act:=λkY=>CT (.ListComp el [⟨tg,src,tests,0⟩,⟨hU,fN,iV,0⟩] sc ps) el 1 _ D kY) rfl hc rfl y3 y4 T2.jd y5 (λkY=>Aj rfl y6) (λ_=>rfl) (vL _)⟩) (λ_ _ _=>rfl) hs)
  (zX (Pre:=gC cU) T fT (λi hi=>(ni l8 i hi).1) (wG T2 cf zJ (λ_ h=>h) (λ_ _ _ _ _=>trivial)) λd caps env' hg=>gC.of fT (ni l7) hg)
def Sm {pos':Pos} (i0:Nat) {x0:Str} (mS:X.N.Nodup) (hc:X.calm=true) (S:oX X sc N nt cap) (T:Tg X.K g0 gd nt) (fT:Sl gd sl) (T2:Tg X.K sF mY nt) (cf:Sl mY cU) (hi:PI X tg src (dh X.K Ξ it))
  (hY:∀(cl:List (Str×á)) (C:á) (s:É) (H:Hp) (ex:List á) (pn:List (á×Obj)),PG (cg X N sc cl C s H ex pn) tg g0/\PF (cg X N sc cl C s H ex pn) tests (tT X.K bH ft)/\PI (cg X N sc cl C s H ex pn) hU fN (dh X.K bH iI)/\PG (cg X N sc cl C s H ex pn) hU sF/\PF (cg X N sc cl C s H ex pn) iV (tT X.K bH jC)/\PE (cg X N sc cl C s H ex pn) el (tE X.K bH f))
  (l7:apart nt sl cU=true:=by rfl) (l8:apart nt [] sl=true:=by rfl)
  (mT:X.N[i0]?=some x0:=by rfl) (mU:Loc X.env.scope x0:=by first|exact Ŧ rfl|exact Or.inr rfl)
  (hs:∀x,ô src X.env x=pure x:=by intro _;rfl) (vL:∀ce x,ô fN ce x=pure x:=by intro _ _;rfl)
  (mV:abw (.ListComp el [⟨tg,src,tests,0⟩,⟨hU,fN,iV,0⟩] sc ps) (some (.Name x0 pos')) pos.line X.env=pure true:=by rfl)
  (mW:X.fn x0=true\/X.env.scope.names.lookup x0=some .local:=by first|exact .inl rfl|exact .inr rfl):PS X (.Assign [.Name x0 pos'] (.ListComp el [⟨tg,src,tests,0⟩,⟨hU,fN,iV,0⟩] sc ps) pos) (tS X.K Ξ (aL (rf nt cap it gd ft iI mY jC f) (gN i0))) :=
 jl (QI (act:=yE (.ListComp el [⟨tg,src,tests,0⟩,⟨hU,fN,iV,0⟩] sc ps) fN 0) mS mT mU hc S T.jd hi (λcl C s H ex pn=>by
   obtain⟨y1,y2,y3,y4,y5,y6⟩:=hY cl C s H ex pn;exact⟨y1,y2,λD caps it=>w6 (d:=1) (act:=λkY=>CT (.ListComp el [⟨tg,src,tests,0⟩,⟨hU,fN,iV,0⟩] sc ps) el 1 _ D kY) rfl hc rfl y3 y4 T2.jd y5 (λkY=>Aj rfl y6) (λ_=>rfl) (vL _)⟩) (λ_ _ _=>rfl) hs mV mW)
  λD σ H h=>zX (Pre:=gC cU) T fT (λi hi=>(ni l8 i hi).1) (wG T2 cf zJ (λ_ h=>h) (λ_ _ _ _ _=>trivial)) (λd caps env' hg=>gC.of fT (ni l7) hg) σ H _ (wQ (te:=tE X.K Ξ f) D σ H (tJ D σ H h))
def Sn (hc:X.calm=true) (S:oX X sc N nt cap) (T:Tg X.K g0 gd nt) (fT:Sl gd sl) (T2:Tg X.K sF mY nt) (cf:Sl mY cU) (T3:Tg X.K LC D6 nt) (Yn:Sl D6 vK) (hi:PI X tg src (dh X.K Ξ it))
  (hY:∀(cl:List (Str×á)) (C:á) (s:É) (H:Hp) (ex:List á) (pn:List (á×Obj)),PG (cg X N sc cl C s H ex pn) tg g0/\PF (cg X N sc cl C s H ex pn) tests (tT X.K bH ft)/\PI (cg X N sc cl C s H ex pn) hU fN (dh X.K bH iI)/\PG (cg X N sc cl C s H ex pn) hU sF/\PF (cg X N sc cl C s H ex pn) iV (tT X.K bH jC) /\
   PI (cg X N sc cl C s H ex pn) sE pR (dh X.K bH ze)/\PG (cg X N sc cl C s H ex pn) sE LC/\PF (cg X N sc cl C s H ex pn) tW (tT X.K bH LD)/\PE (cg X N sc cl C s H ex pn) el (tE X.K bH f))
  (l7:apart nt sl cU=true:=by rfl) (D7:apart nt sl vK=true:=by rfl) (Yo:apart nt cU vK=true:=by rfl) (l8:apart nt [] sl=true:=by rfl)
  (hs:∀x,ô src X.env x=pure x:=by intro _;rfl) (vL:∀ce x,ô fN ce x=pure x:=by intro _ _;rfl) (Yp:∀ce x,ô pR ce x=pure x:=by intro _ _;rfl):PE X (.ListComp el [⟨tg,src,tests,0⟩,⟨hU,fN,iV,0⟩,⟨sE,pR,tW,0⟩] sc ps) (tE X.K Ξ (Jv nt cap it gd ft iI mY jC ze D6 LD f)) :=
 cQ (Hb (act:=yE (.ListComp el [⟨tg,src,tests,0⟩,⟨hU,fN,iV,0⟩,⟨sE,pR,tW,0⟩] sc ps) fN 0) hc S T.jd hi (λcl C s H ex pn=>by
   obtain⟨y1,y2,y3,y4,y5,y6,y7,y8,y9⟩:=hY cl C s H ex pn;exact⟨y1,y2,λD caps it=>w6 (d:=1) (act:=λkY=>yE (.ListComp el [⟨tg,src,tests,0⟩,⟨hU,fN,iV,0⟩,⟨sE,pR,tW,0⟩] sc ps) pR 1 _ D kY) rfl hc rfl y3 y4 T2.jd y5 (λkY=>w6 (d:=2) (act:=λiI=>CT (.ListComp el [⟨tg,src,tests,0⟩,⟨hU,fN,iV,0⟩,⟨sE,pR,tW,0⟩] sc ps) el 2 _ D iI) rfl hc rfl y6 y7 T3.jd y8 (λiI=>Aj rfl y9) (λ_=>rfl) (Yp _)) (λ_=>rfl) (vL _)⟩) (λ_ _ _=>rfl) hs)
  (zX (Pre:=λenv=>gC cU env/\gC vK env) T fT (λi hi=>(ni l8 i hi).1) (wG T2 cf (wG (Pre':=gC vK) T3 Yn zJ (λ_ h=>h) (λ_ _ _ _ _=>trivial)) (λ_ h=>h.1) (λd env env' h hg=>gC.on cf (λi hi=>(ni Yo i hi).2) h.2 hg)) λd caps env' hg=>⟨gC.of fT (ni l7) hg,gC.of fT (ni D7) hg⟩)
end
end DI
namespace L2
open PySem PySem.Spec PyProof.Rows
noncomputable abbrev Cx.cA (X:Cx):Cx:={ X with A:=X.A.in1,xe:=λ_ _=>False }
def Inv.cA {X:Cx} {π:List (á×Obj)} {σ:St} {H:Hp} {s:É} (I:Inv X π σ H s):Inv X.cA π σ H s :=
 ⟨⟨I.ok.mod,I.ok.kind,I.ok.glob,I.ok.blt,I.ok.above,I.ok.inj,I.ok.has,I.ok.pY,I.ok.hd,I.ok.frames,I.ok.sk,I.ok.yL,I.ok.bs,I.ok.i8,I.ok.lO,I.ok.rP,I.ok.js,I.ok.oh⟩,I.os,I.bare,I.base,I.loc,I.cell,I.free,I.fj,I.pin,I.aF,I.len⟩
def Inv.CU {X:Cx} {π:List (á×Obj)} {σ:St} {H:Hp} {s:É} (I:Inv X.cA π σ H s):Inv X π σ H s :=
 ⟨⟨I.ok.mod,I.ok.kind,I.ok.glob,I.ok.blt,I.ok.above,I.ok.inj,I.ok.has,I.ok.pY,I.ok.hd,I.ok.frames,I.ok.sk,I.ok.yL,I.ok.bs,I.ok.i8,I.ok.lO,I.ok.rP,I.ok.js,I.ok.oh⟩,I.os,I.bare,I.base,I.loc,I.cell,I.free,I.fj,I.pin,I.aF,I.len⟩
def CV (X:Cx) (kv:Í) (rk:V->Hp->VK->Prop):Prop :=
 ∀(π:List (á×Obj)) (s:É) (σ:St) (H:Hp) (x:V) (v:Í) (Q:VK),Inv X π σ H s->RelV x v->rk x H Q->à (ø X.prog X.w) X.A (call kv [v]) (EP X π σ Q) X.xe s
def vM (K:Ĳ) (l:á) (all:List V) (rk:V->Hp->VK->Prop) (rc:R2):List V->V->V->Hp->VK->Prop
 | [],vb,_,H,Q=>bu K H l all/\Q vb H
 |x::xs,vb,kb,H,Q=>bu K H l all/\rk x H λk H1=>rc k kb H1 λz H2=>∃b,z=.bl b/\if b=true then vM K l all rk rc xs x k H2 Q else vM K l all rk rc xs vb kb H2 Q
def CY (K:Ĳ) (l:á) (all:List V) (rk:V->Hp->VK->Prop) (rc:R2) (dv:V) (H:Hp) (Q:VK):Prop:=bu K H l all/\match all with
 | []=>Q dv H
 |x::xs=>rk x H λk H1=>vM K l all rk rc xs x k H1 Q
abbrev qo:V->Hp->VK->Prop:=λx H Q=>Q x H
def xF (X:Cx) (π:List (á×Obj)) (σ:St) (Q:VK) (r:Result) (s':É):Prop:=match r with
 | .ok (.ret v)=>EP X π σ Q v s'
 | .ok _=>False
 | .error e=>X.xe e s'
def O3 {X:Cx} {l I S:á} {q:á} {kw:List (Str×Í)} {all:List V} {π:List (á×Obj)} {σ:St} {rk:V->Hp->VK->Prop} {rc:R2} {Q:VK} (hc:X.calm=true) (k9:l≠I) (iN:S≠I) (vN:S≠l) (hK:CV X.cA (.ref q) rk) (hC:aY X.cA (Č .Lt) rc) :
  ∀(rest:List V) (j:Nat) (s:É) (H:Hp) (vb kb:V) (ub uk:Í) (c:Nat),all.drop j=rest->j<=all.length->Inv X.cA π σ H s->cu X π H S->cu X π H I->s.heap.get? S=some { cls:=.type "list",dict:=none,data:=.seq #[ub,uk] c,slots:=#[] }->s.heap.IsListIter I l j->RelV vb ub->RelV kb uk ->
   vM X.K l all rk rc rest vb kb H Q->aaO (ø X.prog X.w) X.A (.builtin "min.loop" ⟨[.ref I,.ref q,.ref S],kw⟩) (xF X π σ Q) s:=by
 have uw:(toString "min"++toString ".loop":String)="min.loop":=by decide
 intro rest
 induction rest with
 |nil =>
  intro j s H vb kb ub uk c hd sG I0 fS fI gS hit rb Yq h;obtain⟨hq,h⟩:=h;have hj:j=all.length:=Nat.le_antisymm sG (by simpa using hd);subst hj;obtain⟨its,rv,pl,hz⟩:=I0.list hq;have hh:X.A.in1.handled=none:=I0.ok.hd hc;have W:=Walks.list (prog:=X.prog) (w:=X.w) (A:=X.A.in1) hh I l k9 its.toArray;have hsz:its.toArray.size=all.length:=by rw[Ô];exact rv.length.symm
  refine ī ψ ?_;rw[Ė Ħ _];show à _ X.A.in1 (abT (.ref S) >>= _) _ _ _;refine À (Ě gS rfl ?_);show à _ X.A.in1 (tryCatch (ť (.ref I)) _ >>= _) _ _ _;refine À (ŀ (W.done _ _ _ ⟨by rw[hsz];exact hit,pl.isList⟩ λh' gf eD=>?_));have lg:=eD S _ (by simpa using iN) gS
  have I1:Inv X.cA π σ H { s with heap:=h',toks:=gf }:=I0.turned (it:=I) (λb o hb e=>eD b o (by simpa using hb) e) fI.1 fI.2.1 fI.2.2.2.1 fI.2.2.2.2.1 fI.2.2.2.2.2
  show à _ X.A.in1 (updateSeq S (λ_=>#[]) >>= _) _ _ _;refine À ?_;refine Ţ lg rfl (À (ŵ (Â ?_)));have I2:=I1.turned (h':=h'.update S (Ī λ_=>(#[]:Array Í))) (t':=gf) (it:=S) (λb o hb e=>(ÿ _ _ (Ň hb)).trans e) fS.1 fS.2.1 fS.2.2.2.1 fS.2.2.2.2.1 fS.2.2.2.2.2;exact⟨vb,H,I2.CU,rb,h⟩
 |cons x rest ih =>
  intro j s H vb kb ub uk c hd sG I0 fS fI gS hit rb vO h;obtain⟨hq,h⟩:=h;have hx:all[j]?=some x:=by
   have:=Ĺ (λl=>l[0]?) hd;simpa using this
  have ei:all.drop (j+1)=rest:=by
   have:=Ĺ (List.drop 1) hd;simpa [ab7] using this
  obtain⟨its,rv,pl,hz⟩:=I0.list hq;have hh:X.A.in1.handled=none:=I0.ok.hd hc;have W:=Walks.list (prog:=X.prog) (w:=X.w) (A:=X.A.in1) hh I l k9 its.toArray;have hsz:its.toArray.size=all.length:=by rw[Ô];exact rv.length.symm
  refine ī ψ ?_;rw[Ė Ħ _];show à _ X.A.in1 (abT (.ref S) >>= _) _ _ _;refine À (Ě gS rfl ?_);show à _ X.A.in1 (tryCatch (ť (.ref I)) _ >>= _) _ _ _;refine À (ŀ (W.item j _ _ _ (by rw[hsz];exact(Å.mp hx).1) ⟨hit,pl.isList⟩ λv h' gf hP pT eD=>?_));obtain⟨v',lY,rx⟩:=rv.get hx;have ev:v'=v:=by
   have:its.toArray[j]?=some v:=hP;rw[aaj,lY] at this;exact Option.some.inj this
  subst ev;have lg:=eD S _ (by simpa using iN) gS
  have I1:Inv X.cA π σ H { s with heap:=h',toks:=gf }:=I0.turned (it:=I) (λb o hb e=>eD b o (by simpa using hb) e) fI.1 fI.2.1 fI.2.2.2.1 fI.2.2.2.2.1 fI.2.2.2.2.2
  obtain⟨oI,qp,j4,fq⟩:=id pT.1;have nS:∀v,({ cls:=.type "list",dict:=none,data:=.seq #[ub,uk] c,slots:=#[] }:Obj).data≠.cell v:=λv z=>by cases z
  have nI:∀v,oI.data≠.cell v:=λv z=>by rw[fq] at z;cases z
  have I2:=I1.ix (pins':=π++[(S,{ cls:=.type "list",dict:=none,data:=.seq #[ub,uk] c,slots:=#[] }),(I,oI)]) λp hp=>by
   rcases Ù.mp hp with z|z
   ·exact I1.pin p (Æ _ z)
   ·rcases Ó.mp z with rfl|z
    ·exact⟨lg,fS.1,fS.2.1,fS.2.2.1,nS⟩
    ·rw[Ü.mp z]
     exact⟨qp,fI.1,fI.2.1,fI.2.2.1,nI⟩
  show à _ X.A.in1 (tryCatch (aac [v'] (call (.ref q) [v'])) _ >>= _) _ _ _;refine À (ŀ (ė (ĳ (hK _ _ σ H x v' _ I2 rx h) (λuv s2 gA=>?_) λ_ _ z=>z.elim)));obtain⟨k,H2,I3,mZ,h⟩:=gA;show à _ X.A.in1 (tryCatch (aac [v',uv] (richCompare .Lt uv uk >>= _)) _ >>= _) _ _ _;refine À (ŀ (ė (À (ĳ (hC _ s2 σ H2 k kb uv uk _ I3 mZ vO h) (λz s3 D8=>?_) λ_ _ z=>z.elim))));obtain⟨zv,H3,I4,rz,b,eb,h⟩:=D8;subst eb;cases rz;refine À (ė (Į ?_));refine À (ŵ (Â ?_));have pS:=I4.pin (S,{ cls:=.type "list",dict:=none,data:=.seq #[ub,uk] c,slots:=#[] }) (Æ _ (Æ _ (by simp)));have pI:=I4.pin (I,oI) (Æ _ (Æ _ (by simp)));have I5:Inv X.cA π σ H3 s3:=I4.jh;have cX:cu X π H3 S:=⟨pS.2.1,fS.2⟩;have m7:cu X π H3 I:=⟨pI.2.1,fI.2⟩
  cases b with
  |true =>
   rw[Ú rfl] at h;rw[Ú rfl];refine À ?_;refine Ţ pS.1 rfl (À (ŵ ?_));rw[uw];obtain⟨c2,ip⟩:∃c2,(s3.heap.update S (Ī λ_=>#[v',uv])).get? S=some { cls:=.type "list",dict:=none,data:=.seq #[v',uv] c2,slots:=#[] }:=⟨_,ă _ pS.1 rfl⟩
   have I6:Inv X.cA π σ H3 { s3 with heap:=s3.heap.update S (Ī λ_=>#[v',uv]),toks:=s3.toks }:=I5.turned (t':=s3.toks) (it:=S) (λb o hb e=>(ÿ _ _ (Ň hb)).trans e) cX.1 cX.2.1 cX.2.2.2.1 cX.2.2.2.2.1 cX.2.2.2.2.2
   exact Â ⟨Ł Ħ _,ih (j+1) _ H3 x k v' uv c2 ei (Å.mp hx).1 I6 cX m7 ip ⟨oI,(ÿ _ _ iN).trans pI.1,j4,fq⟩ rx mZ h⟩
  |false =>
   rw[æ Ë] at h;rw[æ Ë];refine À (ŵ ?_);rw[uw];exact Â ⟨Ł Ħ _,ih (j+1) _ H3 vb kb ub uk c ei (Å.mp hx).1 I5 cX m7 pS.1 ⟨oI,pI.1,j4,fq⟩ rb vO h⟩
def Nv (a v d:Í):argsOk "min" ⟨[a],[(ì "key",v),(ì "default",d)]⟩:=by unfold argsOk;kernel_rfl
def O4 {X:Cx} {l:á} {q:á} {all:List V} {π:List (á×Obj)} {σ:St} {H:Hp} {s:É} {rk:V->Hp->VK->Prop} {rc:R2} {dv:V} {du:Í} {Q:VK} (hc:X.calm=true) (hK:CV X.cA (.ref q) rk) (hC:aY X.cA (Č .Lt) rc)
  (I0:Inv X π σ H s) (rd:RelV dv du) (h:CY X.K l all rk rc dv H Q):à (ø X.prog X.w) X.A (call (.builtin "min") [.ref l] [(ì "key",.ref q),(ì "default",du)]) (EP X π σ Q) X.xe s:=by
 have uw:(toString "min"++toString ".loop":String)="min.loop":=by decide
 obtain⟨hq,h⟩:=h;obtain⟨its,rv,pl,hz⟩:=I0.list hq;have vQ:l<s.heap.objs.size:=by obtain⟨o,n,ho,_⟩:=pl;exact Î ho
 have hh:X.A.in1.handled=none:=I0.cA.ok.hd hc;refine kmk_tree PySem.F.kind_min PySem.F.plain_min PySem.F.entry_min (Nv _ _ _) ?_;show à _ X.A.in1 (ţ "min" ["key","default"] 0 ⟨[],[(ì "key",.ref q),(ì "default",du)]⟩ >>= _) _ _ s;refine À (š (show ţ "min" ["key","default"] 0 ⟨[],[(ì "key",.ref q),(ì "default",du)]⟩=pure [some (.ref q),some du] from rfl) ?_);refine À (Â ?_);refine À (Ÿ pl.isList ?_);refine À (abL ?_ (Ę _));rw[uw];generalize hI:s.heap.objs.size=I at *;have hS:(s.heap.push { cls:=.type "list_iterator",data:=.fields #[.ref l,.int 0 0] }).objs.size=I+1:=by rw[<- hI];exact ú ..
 generalize D9:(s.heap.push { cls:=.type "list_iterator",data:=.fields #[.ref l,.int 0 0] }).objs.size=S at *;have k9:l≠I:=è vQ;have iN:S≠I:=by rw[hS];exact Nat.succ_ne_self _
 have vN:S≠l:=by rw[hS];exact Ń (Ģ vQ)
 have kk:∀b o,s.heap.get? b=some o->((s.heap.push { cls:=.type "list_iterator",data:=.fields #[.ref l,.int 0 0] }).push { cls:=.type "list",dict:=none,data:=.seq #[] 0,slots:=#[] }).get? b=some o:=λb o e=>Á _ (Á _ e);have gI:((s.heap.push { cls:=.type "list_iterator",data:=.fields #[.ref l,.int 0 0] }).push { cls:=.type "list",dict:=none,data:=.seq #[] 0,slots:=#[] }).get? I=some { cls:=.type "list_iterator",data:=.fields #[.ref l,.int 0 0] }:=Á _ (hI ▸ Ì _ rfl);have gS:((s.heap.push { cls:=.type "list_iterator",data:=.fields #[.ref l,.int 0 0] }).push { cls:=.type "list",dict:=none,data:=.seq #[] 0,slots:=#[] }).get? S=some { cls:=.type "list",dict:=none,data:=.seq #[] 0,slots:=#[] }:=D9 ▸ Ì _ rfl;have nI:H I=none:=I0.aF.fresh (ō hI);have nS:H S=none:=I0.aF.fresh (by rw[hS];exact Û (ō hI) (Ŷ _));have fI:cu X π H I:=I0.lQ (ō hI) nI;have fS:cu X π H S:=I0.lQ (by rw[hS];exact Û (ō hI) (Ŷ _)) nS;have I1:=I0.cA.kept (t':=s.toks) kk;refine Â ⟨Ł Ħ _,?_⟩;show aaO (ø X.prog X.w) X.A (.builtin "min.loop" ⟨[.ref I,.ref q,.ref S],[(ì "default",du)]⟩) (xF X π σ Q) _;have W:=Walks.list (prog:=X.prog) (w:=X.w) (A:=X.A.in1) hh I l k9 its.toArray;have hsz:its.toArray.size=all.length:=by rw[Ô];exact rv.length.symm
 have hit:Heap.IsListIter ((s.heap.push { cls:=.type "list_iterator",data:=.fields #[.ref l,.int 0 0] }).push { cls:=.type "list",dict:=none,data:=.seq #[] 0,slots:=#[] }) I l 0:=⟨_,gI,rfl,rfl⟩;have zf:Heap.IsList ((s.heap.push { cls:=.type "list_iterator",data:=.fields #[.ref l,.int 0 0] }).push { cls:=.type "list",dict:=none,data:=.seq #[] 0,slots:=#[] }) l its.toArray:=pl.isList.at λo e=>kk l o e;refine ī ψ ?_;rw[Ė Ħ _];show à _ X.A.in1 (abT (.ref S) >>= _) _ _ _;refine À (Ě gS rfl ?_);show à _ X.A.in1 (tryCatch (ť (.ref I)) _ >>= _) _ _ _
 cases all with
 |nil =>
  refine À (ŀ (W.done _ _ _ ⟨by rw[hsz];exact hit,zf⟩ λh' gf eD=>?_));have I2:=I1.turned (h':=h') (t':=gf) (it:=I) (λb o hb e=>eD b o (by simpa using hb) e) fI.1 fI.2.1 fI.2.2.2.1 fI.2.2.2.2.1 fI.2.2.2.2.2;refine À (Ŝ (Â ?_));exact⟨dv,H,I2.CU,rd,h⟩
 |cons x rest =>
  refine À (ŀ (W.item 0 _ _ _ (by rw[hsz];simp) ⟨hit,zf⟩ λv h' gf hP pT eD=>?_));obtain⟨v',lY,rx⟩:=rv.get (i:=0) (x:=x) rfl;have ev:v'=v:=by
   have:its.toArray[0]?=some v:=hP;rw[aaj,lY] at this;exact Option.some.inj this
  subst ev;have lg:=eD S _ (by simpa using iN) gS;have I2:=I1.turned (h':=h') (t':=gf) (it:=I) (λb o hb e=>eD b o (by simpa using hb) e) fI.1 fI.2.1 fI.2.2.2.1 fI.2.2.2.2.1 fI.2.2.2.2.2;obtain⟨oI,qp,j4,fq⟩:=id pT.1;have cS:∀v,({ cls:=.type "list",dict:=none,data:=.seq #[] 0,slots:=#[] }:Obj).data≠.cell v:=λv z=>by cases z
  have cI:∀v,oI.data≠.cell v:=λv z=>by rw[fq] at z;cases z
  have I3:=I2.ix (pins':=π++[(S,{ cls:=.type "list",dict:=none,data:=.seq #[] 0,slots:=#[] }),(I,oI)]) λp hp=>by
   rcases Ù.mp hp with z|z
   ·exact I2.pin p (Æ _ z)
   ·rcases Ó.mp z with rfl|z
    ·exact⟨lg,fS.1,fS.2.1,fS.2.2.1,cS⟩
    ·rw[Ü.mp z]
     exact⟨qp,fI.1,fI.2.1,fI.2.2.1,cI⟩
  show à _ X.A.in1 (tryCatch (aac [v'] (call (.ref q) [v'])) _ >>= _) _ _ _;refine À (ŀ (ė (ĳ (hK _ _ σ H x v' _ I3 rx h) (λuv s2 gA=>?_) λ_ _ z=>z.elim)));obtain⟨k,H2,I4,mZ,h⟩:=gA;have pS:=I4.pin (S,{ cls:=.type "list",dict:=none,data:=.seq #[] 0,slots:=#[] }) (Æ _ (Æ _ (by simp)));have pI:=I4.pin (I,oI) (Æ _ (Æ _ (by simp)));have I5:Inv X.cA π σ H2 s2:=I4.jh;have cX:cu X π H2 S:=⟨pS.2.1,fS.2⟩;have m7:cu X π H2 I:=⟨pI.2.1,fI.2⟩;show à _ X.A.in1 (updateSeq S (λ_=>#[v',uv]) >>= _) _ _ _;refine À ?_;refine Ţ pS.1 rfl ?_;rw[uw];obtain⟨c2,ip⟩:∃c2,(s2.heap.update S (Ī λ_=>#[v',uv])).get? S=some { cls:=.type "list",dict:=none,data:=.seq #[v',uv] c2,slots:=#[] }:=⟨_,ă _ pS.1 rfl⟩
  have I6:Inv X.cA π σ H2 { s2 with heap:=s2.heap.update S (Ī λ_=>#[v',uv]),toks:=s2.toks }:=I5.turned (t':=s2.toks) (it:=S) (λb o hb e=>(ÿ _ _ (Ň hb)).trans e) cX.1 cX.2.1 cX.2.2.2.1 cX.2.2.2.2.1 cX.2.2.2.2.2
  exact Â ⟨Ł Ħ _,O3 hc k9 iN vN hK hC rest 1 _ H2 x k v' uv c2 rfl (by simp) I6 cX m7 ip ⟨oI,(ÿ _ _ iN).trans pI.1,j4,fq⟩ rx mZ h⟩
def N5 (a:Í):argsOk "max" ⟨[a],[]⟩:=by unfold argsOk;kernel_rfl
def N6 (a:Í):argsOk "min" ⟨[a],[]⟩:=by unfold argsOk;kernel_rfl
end L2
namespace HT
open PySem PyProof.Rows
def CZ (A:đ) (s:É) (y x:Í) (b:Bool):Prop:=∀(prog:ù) (w:ď) (E:Í->É->Prop) (Q:Í->É->Prop),Q (.bool b) s->à (ø prog w) A (richCompare .Lt y x) Q E s
inductive jn (A:đ) (s:É):List Í->List Í->Bool->Prop where
 |nn:jn A s [] [] false
 |nc (y:Í) (ys:List Í):jn A s [] (y::ys) true
 |cn (x:Í) (xs:List Í):jn A s (x::xs) [] false
 |eq {x y:Í} {xs ys:List Í} {b:Bool}:SeqAt.EqAt A s x y true->jn A s xs ys b->jn A s (x::xs) (y::ys) b
 |lt {x y:Í} {xs ys:List Í} {b:Bool}:SeqAt.EqAt A s x y false->CZ A s x y b->jn A s (x::xs) (y::ys) b
section
open PySem.SeqAt
open PySem.AutoSeq1 (wpAny_loadPart')
open PySem.MeetsSeq PySem.MeetsSeq2 PySem.MeetsSeq3
def N7 (l b:á) (items nF:Array Í) (n n2:Nat) (dd ot:Option á) (sl cU:Array (Option Í)) (m8:Bool) :
  Meets (ň.«tuple.__lt__» ⟨[.ref l,.ref b],[]⟩)
   (λA R s=>s.heap.get? l=some { cls:=.type "tuple",dict:=dd,data:=.seq items n,slots:=sl }/\s.heap.get? b=some { cls:=.type "tuple",dict:=ot,data:=.seq nF n2,slots:=cU } /\
    jn A.in1 s items.toList nF.toList m8/\R (.ok (.ret (.bool m8))) s) :=
 .of_wp λprog w A R s h=>by
  obtain⟨hp,g,d,tk,os⟩:=s;obtain⟨hl,hb,hA,h⟩:=h;have f2:=AutoSeq1.sub_tuple_tuple
  wp_walk using wpAny_loadPart' hl,wpAny_loadPart' hb,wpAny_forIn_list _ (λrest b s'=>b.1=none/\s'=⟨hp,g,d,tk,os⟩/\∃(vs ws:List Í),rest=vs.zip ws /\
   jn A.in1 ⟨hp,g,d,tk,os⟩ vs ws m8/\vs.length+nF.size=ws.length+items.size) _
  case turn =>
   rintro ⟨y,x⟩ rest b s' ⟨gY,rfl,vs,ws,hz,ha,hlen⟩
   cases ha with
   |nn=>cases hz
   |nc _ _=>cases hz
   |cn _ _=>cases hz
   |eq he hr =>
    rw[ı] at hz
    injection hz with qq Ka
    injection qq with hy hx
    subst hy hx;simp only[å] at hlen;refine À (he prog w _ _ ?_)
    wp_walk
    exact⟨rfl,rfl,_,_,Ka,hr,by omega⟩
   |lt he hr =>
    rw[ı] at hz
    injection hz with qq Ka
    injection qq with hy hx
    subst hy hx;refine À (he prog w _ _ ?_);have Yr:=hr prog w
    wp_walk using Yr
    exact⟨_,rfl,by simpa using h⟩
  case fin =>
   rintro ⟨b1,b2⟩ s' ⟨gY,rfl,vs,ws,hz,ha,hlen⟩;simp only at gY;subst gY;have hv:m8=decide (items.size<nF.size):=by
    cases ha with
    |nn=>simp only[î] at hlen;exact(ñ (by omega)).symm
    |nc _ _=>simp only[î,å] at hlen;exact(Ý (by omega)).symm
    |cn _ _=>simp only[î,å] at hlen;exact(ñ (by omega)).symm
    |eq _ _=>rw[ı] at hz;cases hz
    |lt _ _=>rw[ı] at hz;cases hz
   rw[hv] at h
   wp_walk
   exact⟨_,rfl,by simpa [Builtin.Tuple.tupleCompareSizes] using h⟩
  case h =>
   exact⟨rfl,rfl,items.toList,nF.toList,rfl,hA,by simp only[þ];omega⟩
end
open PySem.SeqAt PySem.MeetsSeq
section
variable {prog:ù} {w:ď} {A:đ} {E:Í->É->Prop} {s:É}
def Ib (hl:IsTup s.heap l items) (hb:IsTup s.heap b nF) (hA:∀A':đ,A'.units<=A.units+4->jn A' s items.toList nF.toList m8)
 (hu:A.units<abQ) (h:Q (.bool m8) s):à (ø prog w) A (richCompare .Lt (.ref l) (.ref b)) Q E s:=by
 obtain⟨⟨cls,dd,data,sl⟩,ho,hc,n,hd⟩:=id hl;obtain⟨⟨KL,ot,data2,cU⟩,jb,ip,n2,hd2⟩:=id hb;simp only at hc hd ip hd2;subst hc hd ip hd2;refine richCompare_meets_room (op:=.Lt) ⟨_,ho,rfl⟩ ⟨_,jb,rfl⟩ PySem.F.slot_tuple_lt PySem.F.entry_tuple_lt (PySem.F.args_tuple_lt_2 _ _) (N7 l b items nF n n2 dd ot sl cU m8)
  ⟨ho,jb,hA _ ?_,show Value.bool m8≠Value.notImplemented/\Q (.bool m8) s from ⟨(λx=>nomatch x),h⟩⟩ hu
 show A.units+1<=A.units+4;omega
end
end HT
namespace DI
open PySem L2 HT
mutual
noncomputable def iq:D->D->Option Bool
 | .int i,.int j=>some (decide (i<j))
 | .str x,.str y=>some (decide (x.cps.toList<y.cps.toList))
 | .tup xs,.tup ys=>fO xs ys
 |_,_=>none
noncomputable def fO:List D->List D->Option Bool
 | [],[]=>some false
 | [],_::_=>some true
 |_::_,[]=>some false
 |x::xs,y::ys=>if beq x y=true then fO xs ys else iq x y
end
section
variable {X:Cx} {Ξ:Wd->bx->Prop} {π:List (á×Obj)} {σ:St} {s:É} {w:Wd}
def V3 (I:Inv X π σ w.H s) (A:đ) (lx:lay x=true) (ly:lay y=true) (hu:A.units+dep x<abQ) (hx:DV X.K w x v) (hy:DV X.K w y u) (rx:RelV v vx) (ry:RelV u vy):SeqAt.EqAt A s vx vy (beq x y):=by
 obtain⟨as,r1⟩:=(hx.py (oM _ lx)).reads I rx;obtain⟨bs,r2⟩:=(hy.py (oM _ ly)).reads I ry;obtain⟨p1,p2⟩:=ko _ lx;obtain⟨q1,q2⟩:=ko _ ly;have:=SeqAt.eqAt_reads _ _ A s vx vy as bs r1 r2 p1 q1 (by rw[p2];omega);rw[ra _ _ lx ly] at this;exact this
mutual
def Kb (I:Inv X π σ w.H s):∀(A:đ) (x y:D) (b:Bool) (v u:V) (vx vy:Í),iq x y=some b->lay x=true->lay y=true->A.units+5*dep x+5<abQ->DV X.K w x v->DV X.K w y u->RelV v vx->RelV u vy->CZ A s vx vy b
 |A,.int i,.int j,b,v,u,vx,vy,h,_,_,_,hx,hy,rx,ry=>by
  cases h;cases hx;cases hy;obtain⟨t,rfl⟩:=rx;obtain⟨t',rfl⟩:=ry;intro prog w E Q q;exact GZ A s i t j t' prog w E Q q
 |A,.str i,.str j,b,v,u,vx,vy,h,_,_,hu,hx,hy,rx,ry=>by
  cases h;cases hx;cases hy;obtain⟨t,rfl⟩:=rx;obtain⟨t',rfl⟩:=ry;intro prog w E Q q;exact(PyProof.Rows.lt_str q:à (ø prog w) A (Č .Lt (.str i t) (.str j t')) Q E s)
 |A,.tup xs,.tup ys,b,v,u,vx,vy,h,lx,ly,hu,hx,hy,rx,ry=>by
  simp only[iq] at h;simp only[DV] at hx hy;obtain⟨a,as,rfl,ha,jE⟩:=hx;obtain⟨c,cs,rfl,hc,Ys⟩:=hy;cases rx;cases ry;obtain⟨its,r1,p1,_⟩:=I.tuple ha;obtain⟨pL,r2,p2,_⟩:=I.tuple hc;intro prog w' E Q q;simp only[dep] at hu;exact Ib p1 p2 (λA' hA'=>by
   have:=Jw I A' xs ys b as cs its pL h (by simpa [lay] using lx) (by simpa [lay] using ly) (by omega) jE Ys r1 r2;simpa using this) (by omega) q
 |_,.au,_,_,_,_,_,_,h,_,_,_,_,_,_,_=>by cases h
 |_,.bl _,_,_,_,_,_,_,h,_,_,_,_,_,_,_=>by cases h
 |_,.lst _,_,_,_,_,_,_,h,_,_,_,_,_,_,_=>by cases h
 |_,.bb _,_,_,_,_,_,_,h,_,_,_,_,_,_,_=>by cases h
 |_,.aj _,_,_,_,_,_,_,h,_,_,_,_,_,_,_=>by cases h
 |_,.ty _,_,_,_,_,_,_,h,_,_,_,_,_,_,_=>by cases h
 |_,.bG _,_,_,_,_,_,_,h,_,_,_,_,_,_,_=>by cases h
 |_,.int _,.au,_,_,_,_,_,h,_,_,_,_,_,_,_=>by cases h
 |_,.int _,.bl _,_,_,_,_,_,h,_,_,_,_,_,_,_=>by cases h
 |_,.int _,.str _,_,_,_,_,_,h,_,_,_,_,_,_,_=>by cases h
 |_,.int _,.tup _,_,_,_,_,_,h,_,_,_,_,_,_,_=>by cases h
 |_,.int _,.lst _,_,_,_,_,_,h,_,_,_,_,_,_,_=>by cases h
 |_,.int _,.bb _,_,_,_,_,_,h,_,_,_,_,_,_,_=>by cases h
 |_,.int _,.aj _,_,_,_,_,_,h,_,_,_,_,_,_,_=>by cases h
 |_,.int _,.ty _,_,_,_,_,_,h,_,_,_,_,_,_,_=>by cases h
 |_,.int _,.bG _,_,_,_,_,_,h,_,_,_,_,_,_,_=>by cases h
 |_,.str _,.au,_,_,_,_,_,h,_,_,_,_,_,_,_=>by cases h
 |_,.str _,.bl _,_,_,_,_,_,h,_,_,_,_,_,_,_=>by cases h
 |_,.str _,.int _,_,_,_,_,_,h,_,_,_,_,_,_,_=>by cases h
 |_,.str _,.tup _,_,_,_,_,_,h,_,_,_,_,_,_,_=>by cases h
 |_,.str _,.lst _,_,_,_,_,_,h,_,_,_,_,_,_,_=>by cases h
 |_,.str _,.bb _,_,_,_,_,_,h,_,_,_,_,_,_,_=>by cases h
 |_,.str _,.aj _,_,_,_,_,_,h,_,_,_,_,_,_,_=>by cases h
 |_,.str _,.ty _,_,_,_,_,_,h,_,_,_,_,_,_,_=>by cases h
 |_,.str _,.bG _,_,_,_,_,_,h,_,_,_,_,_,_,_=>by cases h
 |_,.tup _,.au,_,_,_,_,_,h,_,_,_,_,_,_,_=>by cases h
 |_,.tup _,.bl _,_,_,_,_,_,h,_,_,_,_,_,_,_=>by cases h
 |_,.tup _,.int _,_,_,_,_,_,h,_,_,_,_,_,_,_=>by cases h
 |_,.tup _,.str _,_,_,_,_,_,h,_,_,_,_,_,_,_=>by cases h
 |_,.tup _,.lst _,_,_,_,_,_,h,_,_,_,_,_,_,_=>by cases h
 |_,.tup _,.bb _,_,_,_,_,_,h,_,_,_,_,_,_,_=>by cases h
 |_,.tup _,.aj _,_,_,_,_,_,h,_,_,_,_,_,_,_=>by cases h
 |_,.tup _,.ty _,_,_,_,_,_,h,_,_,_,_,_,_,_=>by cases h
 |_,.tup _,.bG _,_,_,_,_,_,h,_,_,_,_,_,_,_=>by cases h
def Jw (I:Inv X π σ w.H s):∀(A:đ) (xs ys:List D) (b:Bool) (vs us:List V) (ps qs:List Í),fO xs ys=some b->cG xs=true->cG ys=true->A.units+5*cC xs+5<abQ->ar X.K w xs vs->ar X.K w ys us->Vals vs ps->Vals us qs->jn A s ps qs b
 |A,[],[],b,vs,us,ps,qs,h,_,_,_,hx,hy,rx,ry=>by
  cases h;cases hx;cases hy;cases rx;cases ry;exact .nn
 |A,[],y::ys,b,vs,us,ps,qs,h,_,_,_,hx,hy,rx,ry=>by
  cases h;cases hx;cases rx;obtain⟨u,r,rfl,_,_⟩:=hy;cases ry;exact .nc _ _
 |A,x::xs,[],b,vs,us,ps,qs,h,_,_,_,hx,hy,rx,ry=>by
  cases h;cases hy;cases ry;obtain⟨u,r,rfl,_,_⟩:=hx;cases rx;exact .cn _ _
 |A,x::xs,y::ys,b,vs,us,ps,qs,h,lx,ly,hu,hx,hy,rx,ry=>by
  obtain⟨v,r,rfl,dx,dr⟩:=hx;obtain⟨u,r',rfl,dy,Yt⟩:=hy;simp only[cG,Ç] at lx ly;simp only[cC] at hu;have m1:=Nat.le_max_left (dep x) (cC xs);have m2:=abF (dep x) (cC xs)
  cases rx with
  |cons rx Yu =>
   cases ry with
   |cons ry Yv =>
    have he:=V3 I A lx.1 ly.1 (by omega) dx dy rx ry;simp only[fO] at h;split at h
    ·rename_i hb
     rw[hb] at he;exact .eq he (Jw I A xs ys b _ _ _ _ h lx.2 ly.2 (by omega) dr Yt Yu Yv)
    ·rename_i hb
     rw[aaM] at hb;rw[hb] at he;exact .lt he (Kb I A x y b _ _ _ _ h lx.1 ly.1 (by omega) dx dy rx ry)
end
def fX (x y:D) (s:ag):Res D:=if (lay x&&lay y&&decide (dep x<=30))=true then bB ((iq x y).map D.bl) s else none
def nX (hr:bW k X.A):aY X (Č .Lt) (rO X.K Ξ fX):=by
 rintro π s σ H x y v u Q I rx ry ⟨w,dx,dy,rfl,S,hx,hy,h⟩;unfold fX at h;split at h
 ·rename_i hl
  simp only[Ç,È] at hl;obtain⟨d,e,h⟩:=fx h
  cases hb:iq dx dy with
  |none=>rw[hb] at e;cases e
  |some b =>
   rw[hb] at e;cases e;exact Kb I X.A dx dy b x y v u hb hl.1.1 hl.1.2 (by have:=hr.un;have:=hl.2;have:abQ=9900:=rfl;omega) hx hy rx ry _ _ _ _ ⟨.bl b,w.H,I,rfl,aJ S h _ rfl⟩
 ·exact h.elim
end
end DI
namespace DI
open PySem L2
def pU (kf:D->ag->Res D) (o:D->D->ag->Res D):D->D->List D->ag->Res D
 |b,_,[],s=>ok b s
 |b,k,d::ds,s=>ao (ne (kf d s)) λk' s=>ao (ne (o k' k s)) λc s=>match c with
  | .bl true=>pU kf o d k' ds s
  | .bl false=>pU kf o b k ds s
  |_=>none
def BQ (kf:D->ag->Res D) (o:D->D->ag->Res D) (dflt:Option D):List D->ag->Res D
 | [],s=>match dflt with
  |some d=>ok d s
  |none=>none
 |d::ds,s=>ao (ne (kf d s)) λk s=>pU kf o d k ds s
def rK (K:Ĳ) (kf:D->ag->Res D):V->Hp->VK->Prop:=λx H Q=>∃w dx,w.H=H/\aM K w/\DV K w dx x/\Out K bH w (kf dx w.aI) λw' d=>∀v,DV K w' d v->Q v w'.H
def Bg:∀{ds:List D} {vs:List V} {w:Wd} {b k:D} {vb vk:V},aM K w->LstAt w l all->ar K w ds vs->DV K w b vb->DV K w k vk ->
  Out K Ξ w (pU kf o b k ds w.aI) (λw' d=>∀v,DV K w' d v->Q v w'.H)->vM K l all (rK K kf) (rO K bH o) vs vb vk w.H Q
 | [],vs,w,b,k,vb,vk,S,hl,hd,hb,hk,h=>by
  have e:vs=[]:=hd;subst e;exact⟨hl.sq,aJ S h _ hb⟩
 |d::ds,vs,w,b,k,vb,vk,S,hl,hd,hb,hk,h=>by
  obtain⟨v,r,rfl,dv,dr⟩:=hd;refine⟨hl.sq,w,d,rfl,S,dv,(Out.ao h).ne.mono λw1 k' l1 S1 h1 vk' LF=>⟨w1,k',k,rfl,S1,LF,l1 _ _ hk,(Out.ao h1).ne.mono λw2 c l2 S2 h2 vc dc=>?_⟩⟩;have qr:=l1.trans l2
  cases c with
  |bl c =>
   have e:vc=.bl c:=dc;refine⟨c,e,?_⟩
   cases c with
   |true =>
    rw[Ú rfl];exact Bg (Ξ:=Ξ) S2 (qr.lst _ _ hl) (qr.all dr) (qr _ _ dv) (l2 _ _ LF) h2
   |false =>
    rw[æ Ë];exact Bg (Ξ:=Ξ) S2 (qr.lst _ _ hl) (qr.all dr) (qr _ _ hb) (qr _ _ hk) h2
  |_=>exact h2.elim
def So (S:aM K w) (hl:DV K w (.lst ds) v) (hd:∀d,dflt=some d->∀w',DV K w' d dv)
 (h:Out K Ξ w (BQ kf o dflt ds w.aI) (λw' d=>∀v,DV K w' d v->Q v w'.H)):∃l all,v=.ref l/\(all=[]->dflt≠none)/\CY K l all (rK K kf) (rO K bH o) dv w.H Q:=by
 simp only[DV] at hl;obtain⟨l,all,rfl,ha,aq⟩:=hl;refine⟨l,all,rfl,λe z=>?_,ha.sq,?_⟩
 ·subst e z
  have hn:ds.length=0:=aq.length
  cases ds with
  |nil=>exact h
  |cons _ _=>cases hn
 ·cases ds with
  |nil =>
   have e:all=[]:=aq;subst e
   cases dflt with
   |none=>exact h.elim
   |some d=>exact aJ S h _ (hd d rfl w)
  |cons d ds =>
   obtain⟨x,r,rfl,dx,dr⟩:=aq;exact⟨w,d,rfl,S,dx,(Out.ao h).ne.mono λw1 k l1 S1 h1 vk dk=>Bg (Ξ:=Ξ) S1 (l1.lst _ _ ha) (l1.all dr) (l1 _ _ dx) dk h1⟩
def Uz {X:Cx} {kn:Nat} {fA:á} {fd:Ŗ} {p:Str} {fn:List D->ag->Res D} (F:fB X.prog X.w X.K X.mg X.base gy kn fA fd [p] (ma X.K fn)) (hr:bW (kn+1) X.A) (hb:Binds X.K fd [p] []):CV X.cA (.ref fA) (rK X.K λd s=>fn [d] s):=by
 rintro π s σ H x v Q I rx ⟨w,dx,rfl,S,hx,h⟩;exact Jb (X:=X.cA) (us:=[v]) (vs:=[x]) F hr.in1 hb .nil JV I (.cons rx .nil) ⟨w,[dx],rfl,S,ar.one hx,h⟩
def Bh (kf:D->ag->Res D) (o:D->D->ag->Res D) (dflt:Option D) (d:D) (s:ag):Res D:=match d with
 | .lst ds=>BQ kf o dflt ds s
 |_=>none
abbrev x9 (fn:List D->ag->Res D):D->ag->Res D:=Bh (λd s=>fn [d] s) fX (some .au)
def Sq (S:aM K w) (hl:DV K w d v) (hd:∀d,dflt=some d->∀w',DV K w' d dv)
 (h:Out K Ξ w (Bh kf o dflt d w.aI) (λw' d=>∀v,DV K w' d v->Q v w'.H)):∃l all,v=.ref l/\(all=[]->dflt≠none)/\CY K l all (rK K kf) (rO K bH o) dv w.H Q:=by
 unfold Bh at h;split at h
 ·exact So S hl hd h
 ·exact h.elim
section
variable {X:Cx} {Ξ:Wd->bx->Prop} {e:ļ} {p pos LG LH yt KZ:Pos} {f:Env->ag->Res D}
def Sr {j:Nat} {kn:Nat} (F:fB X.prog X.w X.K X.mg X.base gy kn fA fd [pn] (ma X.K fn)) (hr:bW (kn+1) X.A) (hk:X.mg kx=some (.ref fA)) (hb:Binds X.K fd [pn] []) (he:PE X e (tE X.K Ξ f)) (hc:X.calm=true) (hg:Gl X "min") (hm:X.mg "min"=none) (Yw:Gl X kx)
 (hs:Þ [e] X.env=(false,Ť e X.env)::Þ [] X.env:=by rfl) (Yx:(kx==("__debug__":Str))=false:=by decide)
 (Yy:aab pos (Þ [e] X.env)=(false,Ť e X.env)::aab pos (Þ [] X.env):=by rfl) (cP:(aab pos (Þ [e] X.env)).any (·.1)=false:=by rfl) :
  PE X (.Call (.Name "min" p) [e] [⟨some "key",.Name kx yt,LG⟩,⟨some "default",.Constant .none j KZ,LH⟩] pos) (tE X.K Ξ (e1 (x9 fn) f)):=by
 rintro π s σ H Q I ⟨w,env,rfl,S,eo,h⟩;refine aaY (lJ I hg hm xZ ?_);have ha:=lE he (nA (X:=X)) hs;have Yz:PK X [⟨some "key",.Name kx yt,LG⟩,⟨some "default",.Constant .none j KZ,LH⟩] (xQ (tC (.ref fA)) (xQ (tC .au) Cw)):=HJ (HG Yw hk rfl Yx) (HJ IU T5);refine PyProof.Rows.callWith_kw (aE (ha pos π s σ w.H (λvs H1=>∃v,vs=[v]/\∃(w1:Wd) (d:D),w1.H=H1/\aM X.K w1/\DV X.K w1 d v/\Out X.K Ξ w1 (x9 fn d w1.aI) (λw' d=>∀v,DV X.K w' d v->Q v w'.H)) I ⟨w,env,rfl,S,eo,(Out.ao h).mono λw1 d l1 S1 h1 v dv=>⟨v,rfl,w1,d,rfl,S1,dv,h1⟩⟩) λus s1 ⟨vs,H1,I1,r1,q1⟩=>?_) Yy cP;refine aE (Yz pos π s1 σ H1 (λzs H2=>zs=[.ref fA,.au]/\H2=H1) I1 ⟨rfl,rfl⟩) λws s2 ⟨zs,H2,I2,r2,q2⟩=>?_;obtain⟨e1,e2⟩:=q2;subst e1 e2;obtain⟨v,rfl,w1,d,rfl,S1,dv,h1⟩:=q1;obtain⟨l,all,rfl,_,vU⟩:=Sq (dv:=.au) S1 dv (λd e w'=>by cases e;rfl) h1;obtain⟨u,rfl,ru⟩:=vals1 r1;obtain⟨z1,z2,rfl,YA,YB⟩:=vals2 r2;cases ru;cases YA;cases YB;exact O4 (dv:=.au) hc (Uz F hr hb) (nX (X:=X.cA) (hr.in1)) I2 rfl vU
end
def sX:List D->ag->Res D:=aU 2 2 (ay (cj (aH (e2 fX (aa 1) (eB bN (ae (aa 0) ah)))) (aN (e2 ak (aa 0) (aa 1))) cb) (aN (eC (.int 0))))
def w9:List D->ag->Res D:=aU 2 3 (ay (aL (ax sX (ae (aa 0) (ae (aa 1) ah))) (gN 2)) (aN (eNew (ae (eB rL (ae (eC (.int 0)) (ae (e2 rE (aa 2) (e2 rF (eC (.int 10)) (eC (.int 18)))) ah))) (ae (e2 mB (aa 2) (eC (.int 2147483647))) ah)))))
def bJ:List D->ag->Res D:=aU 2 4 (ay (cj (aH (e2 rW (e2 ak (aa 0) (eC (.int 0))) (eC (.int 0)))) (ay (aL (e2 mB (e2 ak (aa 0) (eC (.int 0))) (aa 1)) (gN 2)) (ay (il (e2 ug (e2 ak (aa 0) (eC (.int 0))) (aa 1)) (aa 0) (eC (.int 0))) (aN (aa 2)))) cb) (ay (il (e2 mB (e2 bR (e2 ic (e2 ak (aa 0) (eC (.int 1))) (eC (.int 48271))) (eC (.int 29))) (eC (.int 2147483647))) (aa 0) (eC (.int 1))) (ay (aL (e2 mB (e2 bR (e2 bR (e2 ic (e2 ak (aa 0) (eC (.int 1))) (e2 ak (aa 0) (eC (.int 1)))) (e2 ic (eC (.int 39373)) (e2 ak (aa 0) (eC (.int 1))))) (eC (.int 7))) (eC (.int 2147483629))) (gN 3)) (ay (aL (e2 mB (e2 bR (e2 ic (aa 3) (aa 3)) (e2 ic (eC (.int 16807)) (aa 3))) (eC (.int 2147483587))) (gN 3)) (aN (e2 mB (e2 ug (aa 3) (eC (.int 8))) (aa 1)))))))
def tG:List D->ag->Res D:=aU 2 3 (ay (aL (e2 bR (eC (.int 1)) (ax bJ (ae (aa 0) (ae (eC (.int 4)) ah)))) (gN 2)) (aN (eB cF (ae (aW 1 [0,2] (bS (ae (aa 1) ah)) (gN 0) (aH (e2 aV (ax bJ (ae (aa 1) (ae (e2 bR (aa 2) (eC (.int 1))) ah))) (eC (.int 0)))) (aa 0)) ah))))
def xk:Nat->List D->ag->Res D
 |0=>λ_ _=>none
 |n+1=>aU 2 2 (ay (cj (cN (e1 KW (aa 1))) (ay (cj (fQ (aH (e2 gr (eB cv (ae (aa 0) (ae (eC (.ty "tuple")) ah))) (eB cv (ae (aa 1) (ae (eC (.ty "tuple")) ah))))) (aH (e2 gr (eB cv (ae (aa 0) (ae (eC (.ty "list")) ah))) (eB cv (ae (aa 1) (ae (eC (.ty "list")) ah)))))) (aN (eC (.bl false))) cb) (aN (cL (e2 aV (eB bN (ae (aa 0) ah)) (eB bN (ae (aa 1) ah))) (eB kK (ae (aW 2 [] (kI (ae (aa 0) (ae (aa 1) ah))) (gT [gN 0,gN 1]) bT (ax (xk n) (ae (aa 0) (ae (aa 1) ah)))) ah))))) cb) (aN (cL (e2 aV (eB cv (ae (aa 0) (ae (eC (.ty "bool")) ah))) (eB cv (ae (aa 1) (ae (eC (.ty "bool")) ah)))) (e2 aV (aa 0) (aa 1)))))
def oJ:List D->ag->Res D:=aU 1 1 (aN (eB kK (ae (aW 2 [] (kI (ae (aa 0) (ae (iM (aa 0) (iD (eC (.int 1))) iL) ah))) (gT [gN 0,gN 1]) bT (e2 fX (aa 0) (aa 1))) ah)))
def sU:List D->ag->Res D:=aU 1 1 (aN (cL (eB cv (ae (aa 0) (ae (eC (.ty "int")) ah))) (cL (pN (eB cv (ae (aa 0) (ae (eC (.ty "bool")) ah)))) (e2 yB (aa 0) (eC (.int 0))))))
def lD:List D->ag->Res D:=aU 2 2 (aN (cL (ax sU (ae (aa 0) ah)) (e2 fX (aa 0) (aa 1))))
def tu:List D->ag->Res D:=aU 1 1 (aN (ax lD (ae (aa 0) (ae (eC (.int (8))) ah))))
def sV:List D->ag->Res D:=aU 1 1 (aN (cL (eB cv (ae (aa 0) (ae (eC (.ty "tuple")) ah))) (cL (eB kK (ae (aW 1 [] (bq (aa 0)) (gN 0) bT (ax tu (ae (aa 0) ah))) ah)) (ax oJ (ae (aa 0) ah)))))
end DI
namespace ST
open PySem PySem.W PyProof.Rows
structure Ord (α:Type) where
 lt:α->α->Bool
 Ea:∀a,lt a a=false
 tr:∀a b c,lt a b=true->lt b c=true->lt a c=true
 vV:∀a b,lt a b=false->lt b a=false->a=b
section
variable {α:Type} (O:Ord α)
def Ord.le (a b:α):Prop:=O.lt b a=false
variable {O}
def Ord.le_refl (a:α):O.le a a:=O.Ea a
def Ord.le_of_lt (h:O.lt a b=true):O.le a b:=by
 unfold Ord.le
 cases hb:O.lt b a with
 |false=>rfl
 |true=>have:=O.tr _ _ _ h hb;rw[O.Ea] at this;cases this
def Ord.rM (h:O.le a b) (g:O.le b c):O.le a c:=by
 unfold Ord.le at *
 cases hc:O.lt c a with
 |false=>rfl
 |true =>
  cases hb:O.lt a b with
  |true=>have:=O.tr _ _ _ hc hb;rw[g] at this;cases this
  |false =>
   have e:=O.vV a b hb h;subst e;rw[g] at hc;cases hc
def Ord.Kc (h:O.le a b) (g:O.le b a):a=b:=O.vV _ _ g h
end
def ok {β:Type} (c:Nat->Nat->Bool) (n:Nat):KasT β->(β->Prop)->Prop
 | .ret a,Q=>Q a
 | .ask i j k,Q=>i<n/\j<n/\ok c n (k (c i j)) Q
def kh {β:Type} {c:Nat->Nat->Bool} {n:Nat} {Q R:β->Prop}:∀{t:KasT β},ok c n t Q->(∀a,Q a->R a)->ok c n t R
 | .ret a,h,i=>i a h
 | .ask _ _ k,h,i=>⟨h.1,h.2.1,kh (t:=k _) h.2.2 i⟩
def qT {β γ:Type} {c:Nat->Nat->Bool} {n:Nat} {f:β->KasT γ} {Q:γ->Prop}:∀{t:KasT β},ok c n t (λa=>ok c n (f a) Q)->ok c n (t.bind f) Q
 | .ret _,h=>h
 | .ask _ _ k,h=>⟨h.1,h.2.1,qT (t:=k _) h.2.2⟩
def Kd {β:Type} {c:Nat->Nat->Bool} {n:Nat} {cmp:Nat->Nat->(Bool->É->Prop)->É->Prop} (hc:∀i j C,i<n->j<n->C (c i j) s->cmp i j C s) {Q:β->É->Prop}:∀{t:KasT β},ok c n t (λa=>Q a s)->t.kasWp cmp Q s
 | .ret _,h=>h
 | .ask _ _ k,h=>hc _ _ _ h.1 h.2.1 (Kd hc (t:=k _) h.2.2)
section
variable {α:Type} {O:Ord α} {x:Nat->α} {n:Nat}
noncomputable def ky (x:Nat->α) (p:Array Nat) (i:Nat):α:=x (p.getD i 0)
def Pm (n:Nat) (p:Array Nat):Prop:=p.size=n/\p.toList.Perm (ß n)
def Up (O:Ord α) (f:Nat->α) (k:Nat):Prop:=∀i j,i<j->j<k->O.le (f i) (f j)
def Dn (O:Ord α) (f:Nat->α) (k:Nat):Prop:=∀i j,i<j->j<k->O.le (f j) (f i)
def Up.more (h:Up O f k) (hk:1<=k) (h1:O.le (f (k-1)) (f k)):Up O f (k+1):=λi j fm hj=>by
 by_cases e:j=k
 ·subst e
  by_cases e':i=j-1
  ·subst e';exact h1
  ·exact Ord.rM (h i (j-1) (by omega) (by omega)) h1
 ·exact h i j fm (by omega)
def Dn.more (h:Dn O f k) (hk:1<=k) (h1:O.le (f k) (f (k-1))):Dn O f (k+1):=λi j fm hj=>by
 by_cases e:j=k
 ·subst e
  by_cases e':i=j-1
  ·subst e';exact h1
  ·exact Ord.rM h1 (h i (j-1) (by omega) (by omega))
 ·exact h i j fm (by omega)
def Pm.lt (h:Pm n p) (hi:i<n):p.getD i 0<n:=by
 have hs:i<p.size:=by rw[h.1];exact hi
 have:p[i]∈p.toList:=by simp
 have e:p.getD i 0=p[i]:=by simp[aca,hs]
 rw[e];exact Ā.mp (h.2.mem_iff.mp this)
def Pm.rev (h:Pm n p) (i j:Nat):Pm n (kas_rev p i j):=⟨by rw[kas_rev_size];exact h.1,(Array.perm_iff_toList_perm.mp (mirror_perm p i j _)).trans h.2⟩
def Pm.YC (h:Pm n p) (i j:Nat):Pm n (bubble p i j):=⟨by rw[bubble_size];exact h.1,(Array.perm_iff_toList_perm.mp (bubble_perm p i j)).trans h.2⟩
def tK {p q:Array Nat} {i j:Nat} (h:p[i]?=q[j]?):p.getD i 0=q.getD j 0:=by
 rw[Array.getD_eq_getD_getElem?,Array.getD_eq_getD_getElem?,h]
def Bi {p:Array Nat} {i j:Nat} (hj:j<=p.size) (k:Nat):ky x (kas_rev p i j) k=if i<=k/\k<j then ky x p (i+j-1-k) else ky x p k:=by
 have e:=getElem?_mirror_all (i:=i) hj k;unfold ky kas_rev
 split<;>rename_i h
 ·rw[Ú h] at e;rw[tK e]
 ·rw[æ h] at e;rw[tK e]
def Jx {p:Array Nat} {k d:Nat} (hk:k<p.size) (hd:d<=k) (i:Nat):ky x (bubble p k d) i=if i=k-d then ky x p k else if k-d<i/\i<=k then ky x p (i-1) else ky x p i:=by
 have e:=getElem?_bubble hk d hd i;by_cases h:i=k-d
 ·rw[Ú h] at e |-;exact Ĺ x (tK e)
 ·rw[æ h] at e |-
  by_cases h2:k-d<i/\i<=k
  ·rw[Ú h2] at e |-;exact Ĺ x (tK e)
  ·rw[æ h2] at e |-;exact Ĺ x (tK e)
def Ic (hj:j<=p.size) (he:∀k,i<=k->k<j->ky x p k=ky x p (j-1)):ky x (kas_rev p i j)=ky x p:=funext λk=>by
 rw[Bi hj];split
 ·rw[he _ (by omega) (by omega),he k (by omega) (by omega)]
 ·rfl
noncomputable abbrev asks (O:Ord α) (x:Nat->α) (i j:Nat):Bool:=O.lt (x i) (x j)
def Bj {p:Array Nat} (hp:Pm n p):∀(f m:Nat),1<=m->m+f<=n->Up O (ky x p) m->ok (asks O x) n (kas_asc p f m) λr=>m<=r/\r<=m+f/\Up O (ky x p) r/\(r<m+f->O.lt (ky x p r) (ky x p (r-1))=true)
 |0,m,h1,h2,hu=>⟨Nat.le_refl _,Nat.le_refl _,hu,λz=>absurd z (é _)⟩
 |f+1,m,h1,h2,hu=>by
  refine⟨hp.lt (by omega),hp.lt (by omega),?_⟩
  show ok _ _ (if O.lt (ky x p m) (ky x p (m-1))=true then _ else _) _
  cases hc:O.lt (ky x p m) (ky x p (m-1)) with
  |true =>
   rw[Ú rfl];exact⟨Nat.le_refl _,by omega,hu,λ_=>hc⟩
  |false =>
   rw[æ Ë];refine kh (Bj hp f (m+1) (by omega) (by omega) (hu.more h1 hc)) λr hr=>⟨by omega,by omega,hr.2.2.1,λz=>hr.2.2.2 (by omega)⟩
structure DS (O:Ord α) (x:Nat->α) (n:Nat) (p:Array Nat) (m q:Nat):Prop where
 pm:Pm n p
 q1:q+1<=m
 mn:m<=n
 dn:Dn O (ky x p) m
 bl:∀k,m-(q+1)<=k->k<m->ky x p k=ky x p (m-1)
def DS.turn (D:DS O x n p m q):Pm n (kas_rev p (m-(q+1)) m)/\ky x (kas_rev p (m-(q+1)) m)=ky x p :=
 ⟨D.pm.rev _ _,Ic (by rw[D.pm.1];exact D.mn) D.bl⟩
def xl:∀(f:Nat) (p:Array Nat) (m q:Nat),m+f<=n->DS O x n p m q->ok (asks O x) n (kas_desc f p m q) λr=>m<=r.2.1/\DS O x n r.1 r.2.1 r.2.2
 |0,p,m,q,_,D=>⟨Nat.le_refl _,D⟩
 |f+1,p,m,q,hm,D=>by
  have q1:=D.q1;refine⟨D.pm.lt (by omega),D.pm.lt (by omega),?_⟩
  show ok _ _ (if O.lt (ky x p m) (ky x p (m-1))=true then _ else _) _
  cases hc:O.lt (ky x p m) (ky x p (m-1)) with
  |true =>
   rw[Ú rfl];have one:∀p',Pm n p'->ky x p'=ky x p->DS O x n p' (m+1) 0:=λp' h1 h2=>⟨h1,by omega,by omega,by rw[h2];exact D.dn.more (by omega) (Ord.le_of_lt hc),λk k1 k2=>by rw[show k=m+1-1 by omega]⟩;by_cases hq:q > 0
   ·rw[Ú hq]
    exact kh (xl f _ (m+1) 0 (by omega) (one _ D.turn.1 D.turn.2)) λr hr=>⟨by omega,hr.2⟩
   ·rw[æ hq]
    exact kh (xl f _ (m+1) 0 (by omega) (one _ D.pm rfl)) λr hr=>⟨by omega,hr.2⟩
  |false =>
   rw[æ Ë];refine⟨D.pm.lt (by omega),D.pm.lt (by omega),?_⟩
   show ok _ _ (if O.lt (ky x p (m-1)) (ky x p m)=true then _ else _) _
   cases hd:O.lt (ky x p (m-1)) (ky x p m) with
   |true =>
    rw[Ú rfl];exact⟨Nat.le_refl _,D⟩
   |false =>
    rw[æ Ë];have e:ky x p m=ky x p (m-1):=O.vV _ _ hc hd;refine kh (xl f p (m+1) (q+1) (by omega) ⟨D.pm,by omega,by omega,D.dn.more (by omega) (by rw[e];exact Ord.le_refl _),λk k1 k2=>?_⟩) λr hr=>⟨by omega,hr.2⟩;show _=ky x p m;by_cases hk:k=m
    ·rw[hk]
    ·rw[D.bl k (by omega) (by omega),e]
def Ie {p:Array Nat} {m:Nat} (hp:Pm n p) (h1:1<=m) (hm:m<=n) (hd:Dn O (ky x p) m):ok (asks O x) n (kas_tail3 m n p) λr=>1<=r.1/\r.1<=n/\Pm n r.2/\Up O (ky x r.2) r.1:=by
 refine qT ?_;have hu:Up O (ky x (kas_rev p 0 m)) m:=λi j fm hj=>by
  rw[Bi (by rw[hp.1];exact hm),Bi (by rw[hp.1];exact hm),Ú ⟨by omega,by omega⟩,Ú ⟨by omega,hj⟩];exact hd _ _ (by omega) (by omega)
 exact kh (Bj (hp.rev 0 m) (n-m) m h1 (by omega) hu) λr hr=>⟨by show 1<=r;omega,by show r<=n;omega,hp.rev 0 m,hr.2.2.1⟩
def FO {p:Array Nat} {m:Nat} (hp:Pm n p) (h1:1<=m) (hm:m+1<=n) (hd:Dn O (ky x p) (m+1)):ok (asks O x) n (kas_descPart m n p) λr=>1<=r.1/\r.1<=n/\Pm n r.2/\Up O (ky x r.2) r.1:=by
 refine qT (kh (xl (n-(m+1)) p (m+1) 0 (by omega) ⟨hp,by omega,hm,hd,λk k1 k2=>by rw[show k=m+1-1 by omega]⟩) λr hr=>?_);obtain⟨h2,D⟩:=hr;split
 ·exact Ie D.turn.1 (by have:=D.q1;omega) D.mn (by rw[D.turn.2];exact D.dn)
 ·exact Ie D.pm (by have:=D.q1;omega) D.mn D.dn
def QJ {p:Array Nat} (hp:Pm n p) (hn:1<=n):ok (asks O x) n (kas_count n p) λr=>1<=r.1/\r.1<=n/\Pm n r.2/\Up O (ky x r.2) r.1:=by
 refine qT (kh (Bj hp (n-1) 1 (Nat.le_refl _) (by omega) λi j fm hj=>by omega) λm hm=>?_);obtain⟨h1,h2,h3,h4⟩:=hm;split
 ·rename_i e
  rw[beq_iff_eq] at e;exact⟨h1,by omega,hp,h3⟩
 ·rename_i e
  have fF:m≠n:=λz=>e (by rw[z];exact Ġ n);have hs:=h4 (by omega);split
  ·refine⟨hp.lt (by omega),hp.lt (by omega),?_⟩
   show ok _ _ (if O.lt (ky x p 0) (ky x p (m-1))=true then _ else _) _
   cases hc:O.lt (ky x p 0) (ky x p (m-1)) with
   |true =>
    rw[Ú rfl];exact⟨h1,by omega,hp,h3⟩
   |false =>
    rw[æ Ë];have cx:∀k,0<=k->k<m->ky x p k=ky x p (m-1):=λk _ hk=>by
     have a1:O.le (ky x p k) (ky x p (m-1)):=by
      by_cases e:k=m-1
      ·rw[e];exact Ord.le_refl _
      ·exact h3 k (m-1) (by omega) (by omega)
     have a2:O.le (ky x p (m-1)) (ky x p k):=by
      by_cases e:k=0
      ·rw[e];exact hc
      ·exact Ord.rM hc (h3 0 k (by omega) hk)
     exact Ord.Kc a1 a2
    have hk:=Ic (x:=x) (p:=p) (i:=0) (j:=m) (by rw[hp.1];omega) cx;refine FO (hp.rev 0 m) h1 (by omega) ?_;rw[hk];refine Dn.more (λi j fm hj=>?_) h1 (Ord.le_of_lt hs);rw[cx i (by omega) (by omega),cx j (by omega) hj];exact Ord.le_refl _
  ·refine FO hp h1 (by omega) (Dn.more (λi j fm hj=>by omega) h1 (Ord.le_of_lt hs))
def Ak (hp:Pm n p) (hk:k<n) (hu:Up O (ky x p) k):∀(f l r:Nat),r-l<=f->l<=r->r<=k->(∀i,i<l->O.le (ky x p i) (ky x p k))->(∀i,r<=i->i<k->O.le (ky x p k) (ky x p i)) ->
  ok (asks O x) n (kas_place p k f l r) λm=>m<=k/\(∀i,i<m->O.le (ky x p i) (ky x p k))/\(∀i,m<=i->i<k->O.le (ky x p k) (ky x p i))
 |0,l,r,hf,hl,hr,a,b=>⟨by omega,a,λi hi=>b i (by omega)⟩
 |f+1,l,r,hf,hl,hr,a,b=>by
  unfold kas_place;by_cases h:l ≥ r
  ·rw[Ú h]
   exact⟨by omega,a,λi hi=>b i (by omega)⟩
  ·rw[æ h]
   refine⟨hp.lt hk,hp.lt (by omega),?_⟩
   show ok _ _ (if O.lt (ky x p k) (ky x p ((l+r) / 2))=true then _ else _) _
   cases hc:O.lt (ky x p k) (ky x p ((l+r) / 2)) with
   |true =>
    rw[Ú rfl];refine Ak hp hk hu f l ((l+r) / 2) (by omega) (by omega) (by omega) a λi hi qh=>?_;by_cases e:i=(l+r) / 2
    ·rw[e];exact Ord.le_of_lt hc
    ·exact Ord.rM (Ord.le_of_lt hc) (hu _ _ (by omega) qh)
   |false =>
    rw[æ Ë];refine Ak hp hk hu f ((l+r) / 2+1) r (by omega) (by omega) hr (λi hi=>?_) b;by_cases e:i=(l+r) / 2
    ·rw[e];exact hc
    ·exact Ord.rM (hu _ _ (by omega) (by omega)) hc
def Jy:∀(f:Nat) (p:Array Nat) (k:Nat),Pm n p->k+f=n->Up O (ky x p) k->ok (asks O x) n (kas_bin f p k) λq=>Pm n q/\Up O (ky x q) n
 |0,p,k,hp,hk,hu=>⟨hp,by rw[<- hk];exact hu⟩
 |f+1,p,k,hp,hk,hu=>by
  refine qT (kh (Ak hp (by omega) hu k 0 k (by omega) (Ę _) (Nat.le_refl _) (λi hi=>by omega) λi h1 h2=>by omega) λm hm=>?_);obtain⟨h1,h2,h3⟩:=hm;refine Jy f _ (k+1) (hp.YC _ _) (by omega) λi j fm hj=>?_;have hz:k<p.size:=by rw[hp.1];omega
  have ek:k-(k-m)=m:=by omega
  rw[Jx hz (by omega),Jx hz (by omega),ek];by_cases i1:i=m
  ·rw[Ú i1,æ (by omega),Ú (by omega)]
   exact h3 _ (by omega) (by omega)
  ·rw[æ i1]
   by_cases i2:m<i/\i<=k
   ·rw[Ú i2,æ (by omega),Ú (by omega)]
    exact hu _ _ (by omega) (by omega)
   ·rw[æ i2]
    by_cases j1:j=m
    ·rw[Ú j1];exact h2 _ (by omega)
    ·rw[æ j1]
     by_cases j2:m<j/\j<=k
     ·rw[Ú j2]
      by_cases e:i=j-1
      ·rw[e];exact Ord.le_refl _
      ·exact hu _ _ (by omega) (by omega)
     ·rw[æ j2];exact hu _ _ fm (by omega)
def Su (hn:1<=n):ok (asks O x) n (kas_sort n) λq=>Pm n q/\Up O (ky x q) n:=by
 refine qT (kh (QJ (p:=abA (ß n)) ⟨by simp,by simp⟩ hn) λr hr=>?_);obtain⟨h1,h2,h3,h4⟩:=hr;split
 ·rw[Nat.max_eq_left h1]
  exact Jy _ _ _ h3 (by omega) h4
 ·rw[show r.1=n by omega] at h4
  exact⟨h3,h4⟩
end
section
variable {α:Type} {O:Ord α} {x:Nat->α} {prog:ù} {w:ď} {A:đ} {E:Í->É->Prop} {s:É}
def yF (prog:ù) (w:ď) (A:đ) (O:Ord α) (x:Nat->α) (us:List Í) (t:É):Prop :=
 à (ø prog w) A (keyKind' us.toArray) (fun κ t'=>t'=t/\∀i j (C:Bool->É->Prop),i<us.length->j<us.length->C (O.lt (x i) (x j)) t->à (ø prog w) A (keyLt' κ (us.getD i Value.none) (us.getD j Value.none)) C (λ_ _=>False) t) (λ_ _=>False) t
def kS (us:List Í) (h:us.length<2):(us.toArray.zip us.toArray).map (·.2)=((abA (ß us.length)).toList.map λi=>us.getD i Value.none).toArray:=by
 rcases us with _ | ⟨u,_ | ⟨v,r⟩⟩
 ·exact Array.toList_inj.mp (by simp)
 ·exact Array.toList_inj.mp (by simp)
 ·(simp at h;omega)
def M4 (hb:s.heap.get? b=some (ab2 "list" us.toArray m)) (hz:us.length<64)
 (hk:2<=us.length->∀h1,(∀c o,c≠b->s.heap.get? c=some o->h1.get? c=some o)->yF prog w A O x us { s with heap:=h1 })
 (hR:∀(q:Array Nat) h' e,Pm us.length q->Up O (ky x q) us.length->(∀c o,c≠b->s.heap.get? c=some o->h'.get? c=some o)->h'.get? b=some (ab2 "list" (q.toList.map λi=>us.getD i Value.none).toArray e)->R (.done (.ret .none)) { s with heap:=h' }) :
  à (ø prog w) A (ň.«list.sort» ⟨[.ref b],[]⟩) R E s:=by
 have bE:b<s.heap.objs.size:=Î hb;have line:us.length<=Õ:=by rw[η];omega
 obtain⟨e1,Dy⟩:∃e1,(s.heap.update b (Ī λ_=>(#[]:Array Í))).get? b=some (ab2 "list" #[] e1):=⟨_,get?_update_seq hb λ_=>#[]⟩;generalize hg:((s.heap.update b (Ī λ_=>(#[]:Array Í))).push (ab2 "tuple" us.toArray 0)).push (ab2 "list" #[] 0)=h2;have iO:h2.get? b=some (ab2 "list" #[] e1):=by rw[<- hg];exact Á _ (Á _ Dy)
 have old:∀c o,c≠b->s.heap.get? c=some o->h2.get? c=some o:=λc o hc e=>by
  rw[<- hg];exact Á _ (Á _ (by rw[abY _ _ _ _ hc];exact e))
 have last:∀(q:Array Nat),Pm us.length q->Up O (ky x q) us.length->R (.done (.ret .none)) { s with heap:=h2.update b (Ī λ_=>(q.toList.map λi=>us.getD i Value.none).toArray) }:=λq h1 h3 =>
  hR q _ _ h1 h3 (λc o hc e=>by rw[abY _ _ _ _ hc];exact old c o hc e) (get?_update_seq iO λ_=>(q.toList.map λi=>us.getD i Value.none).toArray)
 rw[list_sort_plain];refine À (listItems_at hb rfl (À (listUpdate_at hb rfl ?_ (by rw[Ô];exact line) (Ę _))));refine À (seqEpoch_at Dy rfl (À (wpAny_newTuple (À (abL (ė ?_) (Ę _))) (by show us.length<=_;exact line))))
 show à (ø prog w) A _ R E { s with heap:=_ }
 rw[hg];dsimp only;by_cases qt:us.toArray.size<2
 ·rw[Ú qt,Ú qt]
  refine À (Â ?_);rw[StateT.run_pure];refine À (Â ?_);dsimp only;have eo:(us.toArray.zip us.toArray).map (·.2)=((abA (ß us.length)).toList.map λi=>us.getD i Value.none).toArray:=by
   exact kS us (by rw[<- Ô];exact qt)
  refine À (seqEpoch_at iO rfl (À (listUpdate_at iO rfl ?_ (Ę _) ?_)))
  ·simp only[ġ,Ã,ê]
   show à _ _ _ _ _ { s with heap:=h2.update b (Ī λ_=>(us.toArray.zip us.toArray).map (·.2)) }
   rw[eo];refine Â (last _ ⟨by simp,by simp⟩ λi j fm hj=>?_);rw[Ô] at qt;omega
  ·show ((us.toArray.zip us.toArray).map (·.2)).size<=Õ+1
   simp;omega
 ·rw[æ qt,æ qt]
  rw[Ô] at qt;refine À (ĳ (hk (by omega) h2 old) (fun κ t ht=>?_) λ_ _ z=>z.elim);obtain⟨rfl,ht⟩:=ht
  have tree:(kas_sort us.length).kasWp (kas_ask prog w A κ us) (λq t=>t={ s with heap:=h2 }/\Pm us.length q/\Up O (ky x q) us.length) { s with heap:=h2 } :=
   Kd (c:=asks O x) (n:=us.length) (λi j C hi hj hC=>ht i j C hi hj hC) (kh (Su (by omega)) λq hq=>⟨rfl,hq⟩)
  refine À (ĳ (kat_run (Q:=λdD t=>∃q:Array Nat,q.size=us.length/\arrOf dD=q.map (kas_item (us.toArray.zip us.toArray))/\failedOf dD=none/\t={ s with heap:=h2 }/\Pm us.length q/\Up O (ky x q) us.length)
   rfl (by omega) hz (λq dD t a1 a2 a3 a4=>⟨q,a1,a2,a3,a4⟩) tree) ?_ λ_ _ z=>z)
  rintro ⟨⟨⟩,dD⟩ t ⟨q,hq,YD,hf,rfl,h3,h4⟩;dsimp only;rw[kat_snds rfl YD];refine À (seqEpoch_at iO rfl (À (listUpdate_at iO rfl ?_ (Ę _) ?_)))
  ·rw[hf]
   simp only[ġ,Ã,ê];exact Â (last q h3 h4)
  ·show ((q.toList.map λi=>us.getD i Value.none).toArray).size<=Õ+1
   rw[Ô,Ä,þ,hq];omega
def O5 (hl:s.heap.IsList l us.toArray) (hz:us.length<64)
 (hk:2<=us.length->∀h1,(∀c o,s.heap.get? c=some o->h1.get? c=some o)->yF prog w A.in1.in1 O x us { s with heap:=h1 })
 (hQ:∀(q:Array Nat) h' b e,Pm us.length q->Up O (ky x q) us.length->(∀c o,s.heap.get? c=some o->h'.get? c=some o)->s.heap.objs.size<=b->h'.get? b=some (ab2 "list" (q.toList.map λi=>us.getD i Value.none).toArray e)->Q (.ref b) { s with heap:=h' }) :
  à (ø prog w) A (call (.builtin "sorted") [.ref l]) Q E s:=by
 have line:us.length<=Õ:=by rw[η];omega
 refine Calls.call_function_entry kind_sorted plain_sorted entry_sorted (args_sorted1 _) ?_;unfold ň.«sorted»;refine À (m:=checkCount "sorted" 1 1 _) (Â (À (collect_list hl (À (abL ?_ line)) line)));generalize hg:((s.heap.push (ab2 "list" #[] 0)).update s.heap.objs.size (Ī (·++us.toArray)))=h1;have vp:h1.objs.size=s.heap.objs.size+1:=by rw[<- hg,Heap.size_update,size_push']
 have CJ:∀c o,s.heap.get? c=some o->h1.get? c=some o:=λc o e=>by
  have bE:c<s.heap.objs.size:=Î e;rw[<- hg,abY _ _ _ _ (è bE)];exact Á _ e
 show à _ _ _ _ _ { s with heap:=h1.push (ab2 "list" us.toArray 0) }
 have hb:(h1.push (ab2 "list" us.toArray 0)).get? h1.objs.size=some (ab2 "list" us.toArray 0):=Ì _ rfl;have old:∀c o,s.heap.get? c=some o->c≠h1.objs.size/\(h1.push (ab2 "list" us.toArray 0)).get? c=some o:=λc o e=>by
  have bE:c<s.heap.objs.size:=Î e;exact⟨è (by rw[vp];exact Ģ bE),Á _ (CJ c o e)⟩
 refine À (ė (Ą slot_list_sort ⟨_,hb,rfl⟩ entry_list_sort (M4 hb hz (λz h' ho=>hk z h' λc o e=>ho c o (old c o e).1 (old c o e).2) λq h' e h3 h4 ho hq=>⟨_,rfl,?_⟩) (args_list_sort _)));exact Â ⟨_,rfl,hQ q h' _ e h3 h4 (λc o e=>ho c o (old c o e).1 (old c o e).2) (by show _<=h1.objs.size;rw[vp];exact Ŷ _) hq⟩
end
open HT
def AR:∀a:List Int,lexLt a a=false:=λa=>by
 induction a with
 |nil=>rfl
 |cons i r ih=>rw[jI,Ú rfl];exact ih
def UA:∀a b c:List Int,lexLt a b=true->lexLt b c=true->lexLt a c=true:=λa=>by
 induction a with
 |nil =>
  intro b c h g
  cases b with
  |nil=>cases h
  |cons j s=>cases c with
   |nil=>cases g
   |cons k t=>rfl
 |cons i r ih =>
  intro b c h g
  cases b with
  |nil=>cases h
  |cons j s =>
   cases c with
   |nil=>cases g
   |cons k t =>
    rw[jI] at h g |-;by_cases e1:i=j
    ·subst e1
     rw[Ú rfl] at h;by_cases e2:i=k
     ·rw[Ú e2] at g |-;exact ih s t h g
     ·rw[æ e2] at g |-;exact g
    ·rw[æ e1] at h
     have h:=Ĭ h;by_cases e2:j=k
     ·subst e2
      rw[æ e1];exact Ý h
     ·rw[æ e2] at g
      have g:=Ĭ g;rw[æ (by omega)];exact Ý (by omega)
def Sv:∀a b:List Int,lexLt a b=false->lexLt b a=false->a=b:=λa=>by
 induction a with
 |nil =>
  intro b h g
  cases b with
  |nil=>rfl
  |cons j s=>cases h
 |cons i r ih =>
  intro b h g
  cases b with
  |nil=>cases g
  |cons j s =>
   rw[jI] at h g;by_cases e:i=j
   ·subst e
    rw[Ú rfl] at h g;rw[ih s h g]
   ·rw[æ e] at h
    rw[æ (Ň e)] at g;have h:=of_decide_eq_false h;have g:=of_decide_eq_false g;omega
section
variable {prog:ù} {w:ď} {A:đ} {E:Í->É->Prop} {s:É}
inductive nY (h:ŏ):List Í->List (List Int)->Prop where
 |nil:nY h [] []
 |cons {a:á} {its:Array Í} {ns:List Int} {us:List Í} {j9:List (List Int)}:IsTup h a its->abh its.toList ns->nY h us j9->nY h (.ref a::us) (ns::j9)
def nY.keep (k:∀c o,h.get? c=some o->h'.get? c=some o) (t:nY h us j9):nY h' us j9:=by
 induction t with
 |nil=>exact .nil
 |cons a b _ ih =>
  obtain⟨o,ho,r⟩:=a;exact .cons ⟨o,k _ _ ho,r⟩ b ih
def nY.at (t:nY h us j9):∀i,i<us.length->∃a its,us.getD i Value.none=.ref a/\IsTup h a its/\abh its.toList (j9.getD i []):=by
 induction t with
 |nil=>intro i hi;simp at hi
 |cons a b _ ih =>
  intro i hi
  cases i with
  |zero=>exact⟨_,_,rfl,a,b⟩
  |succ i =>
   obtain⟨c,its,e,r⟩:=ih i (by simpa using hi);exact⟨c,its,by simpa using e,r⟩
inductive vW:List (Option Í)->List (List Int)->Prop where
 |nil:vW [] []
 |au {fs:List (Option Í)} {j9:List (List Int)}:vW fs j9->vW (none::fs) ([]::j9)
 |one {fs:List (Option Í)} {j9:List (List Int)} {n:Int} {t:Tok} {r:List Int}:vW fs j9->vW (some (.int n t)::fs) ((n::r)::j9)
noncomputable def ins {α:Type} (O:Ord α) (a:α):List α->List α
 | []=>[a]
 |b::r=>if O.lt b a=true then b::ins O a r else a::b::r
def jS {α:Type} (O:Ord α):List α->List α
 | []=>[]
 |a::r=>ins O a (jS O r)
end
section
variable {α:Type} {O:Ord α}
def Hd (a:α) (l:List α):(ins O a l).Perm (a::l):=by
 induction l with
 |nil=>exact .refl _
 |cons b r ih =>
  unfold ins;split
  ·exact(List.Perm.cons b ih).trans (List.Perm.swap a b r)
  ·exact .refl _
def sY (l:List α):(jS O l).Perm l:=by
 induction l with
 |nil=>exact .refl _
 |cons a r ih=>exact(Hd a _).trans (ih.cons a)
def UB (a:α) (l:List α) (h:l.Pairwise O.le):(ins O a l).Pairwise O.le:=by
 induction l with
 |nil=>exact aa3 _ _
 |cons b r ih =>
  obtain⟨h1,h2⟩:=Ă.mp h;unfold ins
  split<;>rename_i hb
  ·refine Ă.mpr ⟨λc hc=>?_,ih h2⟩
   rcases Ó.mp ((Hd a r).mem_iff.mp hc) with e|e
   ·rw[e];exact Ord.le_of_lt hb
   ·exact h1 c e
  ·have hb:O.le a b:=by rw[aaM] at hb;exact hb
   refine Ă.mpr ⟨λc hc=>?_,h⟩
   rcases Ó.mp hc with e|e
   ·rw[e];exact hb
   ·exact Ord.rM hb (h1 c e)
def He (l:List α):(jS O l).Pairwise O.le:=by
 induction l with
 |nil=>exact .nil
 |cons a r ih=>exact UB a _ ih
def O6:∀{l m:List α},l.Perm m->l.Pairwise O.le->m.Pairwise O.le->l=m:=by
 intro l
 induction l with
 |nil=>intro m h _ _;exact h.nil_eq
 |cons a r ih =>
  intro m h h1 h2
  cases m with
  |nil=>exact absurd h.length_eq (by simp)
  |cons b t =>
   obtain⟨a1,a2⟩:=Ă.mp h1;obtain⟨b1,b2⟩:=Ă.mp h2;have e:a=b:=by
    rcases Ó.mp (h.mem_iff.mp Ò) with e|e
    ·exact e
    ·rcases Ó.mp (h.mem_iff.mpr Ò) with e'|e'
     ·exact e'.symm
     ·exact Ord.Kc (a1 b e') (b1 a e)
   subst e;rw[ih h.cons_inv a2 b2]
def O7 (hp:Pm xs.length q) (hu:Up O (ky (λi=>xs.getD i d) q) xs.length):q.toList.map (λi=>xs.getD i d)=jS O xs:=by
 refine O6 ?_ ?_ (He xs)
 ·refine(hp.2.map _).trans ?_
  have:(ß xs.length).map (λi=>xs.getD i d)=xs:=by
   apply Ż;intro i;by_cases hi:i<xs.length
   ·simp[hi]
   ·simp[hi,ο hi]
  rw[this];exact(sY xs).symm
 ·rw[List.pairwise_iff_getElem]
  intro i j hi hj fm;have l1:(q.toList.map λi=>xs.getD i d).length=xs.length:=by rw[Ä,þ,hp.1]
  have YE:j<q.size:=by rw[hp.1];omega
  have qu:i<q.size:=by omega
  have:=hu i j fm (by omega);unfold ky at this;simpa [aca,qu,YE] using this
end
end ST
namespace DI
open PySem L2
section
variable {X:Cx} {Ξ:Wd->bx->Prop} {a e tg:ļ} {p pos:Pos} {f:Env->ag->Res D} {fa:Env->ag->Res (List D)}
noncomputable def pA (n:Nat):List D:=(ß n).map λi:Nat=>D.int ((n:Int)-1-i)
def O8 (n:Nat):(pA n).length=n:=by simp[pA]
def O9 (n i:Nat):(pA n)[i]?=if i<n then some (.int ((n:Int)-1-i)) else none:=by
 unfold pA;rw[ç];split
 ·rename_i h;rw[Ĕ h];rfl
 ·rename_i h;rw[Ċ (by simp;omega)];rfl
def Jz:oz K w (yw n) (pA n):=λw' l' S' i=>by
 refine⟨λd ed=>?_,λhl=>by rw[O8] at hl;exact hl⟩;rw[O9] at ed;split at ed
 ·cases ed
  exact⟨by assumption,λx H' ⟨e1,e2⟩=>⟨w',e1.symm,Le.refl _,S',rfl,e2⟩⟩
 ·cases ed
def Eb (fa:Env->ag->Res (List D)):Env->ag->Res (List D):=λenv s=>ao (fa env s) λds s=>match ds with
 | [.int j]=>if (jQ j&&decide (0<=j))=true then ok (pA j.toNat) s else none
 |_=>none
def V4 {p2 kL:Pos} (hg:Gl X "reversed") (hm:X.mg "reversed"=none) (DN:Gl X "range") (DO:X.mg "range"=none) (ha:PA X [a] (tA X.K Ξ fa))
  (he:Þ [a] X.env=(false,Ť a X.env)::Þ [] X.env:=by rfl) (cP:(aab kL (Þ [] X.env)).any (·.1)=false:=by rfl)
  (hs:Þ [.Call (.Name "range" p2) [a] [] kL] X.env=[(false,Ť (.Call (.Name "range" p2) [a] [] kL) X.env)]:=by rfl)
  (yY:Þ [.Call (.Name "range" p2) [a] [] kL] X.env=(false,Ť (.Call (.Name "range" p2) [a] [] kL) X.env)::Þ [] X.env:=by rfl) :
  PI X tg (.Call (.Name "reversed" p) [.Call (.Name "range" p2) [a] [] kL] [] pos) (dh X.K Ξ (Eb fa)) :=
 oY (Um hg hm (lE (zT Nu DN DO (by decide +kernel) ha (by decide) (by decide) he cP) nA yY) hs) fun σ H R aA=>by
  obtain⟨w,env,eH,S,eo,h⟩:=aA;subst eH;refine⟨w,env,rfl,S,eo,(Out.ao h).mono λw1 ds l1 S1 h1 vs aq=>?_⟩;split at h1
  ·rename_i j
   split at h1
   ·rename_i hj
    simp only[jQ,Ç,È] at hj;obtain⟨v,r,rfl,dv,dr⟩:=aq;have e1:v=.int j:=dv;have e2:r=[]:=dr;subst e1 e2;refine⟨j,rfl,λq hq=>?_⟩;refine⟨q,j.toNat,rfl,?_,by omega,?_⟩
    ·rw[dw,Int.toNat_of_nonneg hj.2]
    ·exact h1 (w1.grow q (.bP 0 j)) (Fw.grow hq).le (S1.grow hq) rfl _ Jz
   ·exact h1.elim
  ·exact h1.elim
end
end DI
namespace L2
open PySem PySem.Spec PyProof.Rows
structure JA (sc:abf) (cl hV:List (Str×á)) (C:Nat) (h:ŏ):Prop where
 old:∀n c,hV.lookup n=some c->(C<c/\(n,NameKind.cell)∈sc.names/\∃v,h.IsCell c v)\/cl.lookup n=some c
 own:∀n,sc.names.lookup n=some .cell\/(cl.lookup n).isSome=true->∃c,hV.lookup n=some c
 inj:(∀x y c,cl.lookup x=some c->cl.lookup y=some c->x=y)->(∀x c,cl.lookup x=some c->c<C)->∀x y c,hV.lookup x=some c->hV.lookup y=some c->x=y
def zY:∀(names:List (Str×aal)) (n:Nat) (acc:List (Str×á)),(aaB n names acc).lookup x=some c->((x,NameKind.cell)∈names/\n<=c)\/acc.lookup x=some c
 | [],n,acc,h=>.inr h
 |(y,k)::r,n,acc,h=>by
  unfold aaB at h;split at h
  ·rename_i hk
   have hk:k=.cell:=by simpa using hk
   subst hk
   rcases zY r (n+1) _ h with ⟨h1,h2⟩|h1
   ·exact .inl ⟨Ñ _ h1,by omega⟩
   ·rw[ń] at h1
    split at h1
    ·rename_i e
     have e:x=y:=by simpa using e
     subst e;cases h1;exact .inl ⟨Ò,Nat.le_refl _⟩
    ·exact .inr h1
  ·rcases zY r n acc h with ⟨h1,h2⟩|h1
   ·exact .inl ⟨Ñ _ h1,h2⟩
   ·exact .inr h1
def zZ:∀(names:List (Str×aal)) (n:Nat) (acc:List (Str×á)),(∀x y c,acc.lookup x=some c->acc.lookup y=some c->x=y)->(∀x c,acc.lookup x=some c->c<n)->∀x y c,(aaB n names acc).lookup x=some c->(aaB n names acc).lookup y=some c->x=y
 | [],n,acc,hi,hb=>hi
 |(z,k)::r,n,acc,hi,hb=>by
  unfold aaB;split
  ·refine zZ r (n+1) _ (λx y c h1 h2=>?_) λx c h1=>?_
   ·rw[ń] at h1 h2
    split at h1
    ·rename_i e1
     split at h2
     ·rename_i e2
      exact(by simpa using e1:x=z).trans (by simpa using e2:y=z).symm
     ·cases h1
      exact absurd (hb y _ h2) (é _)
    ·split at h2
     ·cases h2
      exact absurd (hb x _ h1) (é _)
     ·exact hi x y c h1 h2
   ·rw[ń] at h1
    split at h1
    ·cases h1;exact υ _
    ·exact Ģ (hb x c h1)
  ·exact zZ r n acc hi hb
def Al {lo:Nat}:∀(names:List (Str×aal)) (h:ŏ) (acc:List (Str×á)),lo<=h.objs.size->(∀x c,acc.lookup x=some c->lo<=c->h.IsCell c none)->(aaB h.objs.size names acc).lookup x=some c->lo<=c->(pushCells h names).IsCell c none
 | [],h,acc,_,ha,e,hl=>ha x c e hl
 |(z,k)::r,h,acc,Lo,ha,e,hl=>by
  unfold aaB at e;unfold pushCells;split at e
  ·rename_i hk
   rw[Ú hk];have hz:(h.push { cls:=.type "cell",data:=.cell none }).objs.size=h.objs.size+1:=ú ..;refine Al (lo:=lo) r _ ((z,h.objs.size)::acc) (by omega) (λy d hy hd=>?_) (by rw[hz];exact e) hl;rw[ń] at hy;split at hy
   ·cases hy
    exact⟨_,Ì _ rfl,rfl⟩
   ·exact(ha y d hy hd).keeps λb o q=>Á _ q
  ·rename_i hk
   rw[æ hk];exact Al r h acc Lo ha e hl
def MJ {E:Í->É->Prop} {Q:Env->É->Prop}
 (hQ:∀hV h3,((∀x c,cl.lookup x=some c->c<s.heap.objs.size)->JA scope cl hV s.heap.objs.size h3)->h3.Ns s.heap.objs.size (λ_=>none)->(∀b o,s.heap.get? b=some o->h3.get? b=some o)->Q (newEnv scope s.heap.objs.size globals hV qual none .none (some env) bi) { s with heap:=h3 }) :
  à M A (newFunctionEnv scope globals cl [] qual none .none (some env) bi) Q E s:=by
 simp only[newFunctionEnv,Option.isSome_some,û];refine À (wpAny_alloc ?_)
 refine À (wpAny_layCells _ (λname kind cells=>by cases YF:kind==NameKind.cell<;>simp[YF]) _ _ _ _ ?_)
 rw[show ({ s with heap:=s.heap.push { cls:=.type "dict",data:=.dict #[] } }:É).heap.objs.size=s.heap.objs.size+1 from ú ..]
 simp only[List.forIn_nil];refine À (Â (Â ?_));have hz:(s.heap.push { cls:=.type "dict",data:=.dict #[] }).objs.size=s.heap.objs.size+1:=ú ..;refine hQ (aaB (s.heap.objs.size+1) scope.names cl) _ (λhb=>⟨λn c e=>?_,λn hn=>?_,λhi gY=>zZ _ _ _ hi λx c e=>Ģ (gY x c e)⟩) ((Heap.Ns.new s.heap (.type "dict")).keeps (pushCells_keeps _ _)) λb o e=>pushCells_keeps _ _ b o (Á _ e)
 ·rcases zY _ _ _ e with ⟨h1,h2⟩|h1
  ·exact .inl ⟨by omega,h1,none,Al (lo:=s.heap.objs.size+1) scope.names _ cl (by omega) (λx d q hd=>absurd (hb x d q) (Nat.not_lt.mpr (Nat.le_of_succ_le hd))) (by rw[hz];exact e) h2⟩
  ·exact .inr h1
 ·exact Option.isSome_iff_exists.mp (aba scope.names _ cl hn)
abbrev dF (X:Cx) (N:List Str) (sc:abf) (cl:List (Str×á)) (C:á) (s:É) (H:Hp) (ex:List á) (pn:List (á×Obj)):Cx:={ cg X N sc cl C s H ex pn with fn:=λx=>sc.names.lookup x==some .cell }
structure mw (X:Cx) (sc:abf) (N:List Str) (nt:Nat) (cap:List Nat):Prop where
 kind:sc.kind=.function
 names:∀x∈sc.names,x.2=.local->sc.names.lookup x.1=some .local
 cells:∀x∈sc.names,x.2=.cell->sc.names.lookup x.1=some .cell
 frees:∀x∈sc.names,x.2=.free->sc.names.lookup x.1=some .free/\(X.env.scope.names.lookup x.1=some .cell\/X.env.scope.names.lookup x.1=some .free)
 len:N.length=nt+cap.length
 CC:∀(k:Nat) j,cap[k]?=some j->∃x,X.N[j]?=some x/\N[nt+k]?=some x/\(x,ā)∈sc.names
section
variable {X:Cx} {sc:abf} {N:List Str} {nt:Nat} {cap:List Nat} {cl hV:List (Str×á)} {s:É} {h1:ŏ} {H:Hp} {σ:St} {π:List (á×Obj)} {fp:List á} {C:á} {t':Nat}
def Inv.UC (I:Inv X π σ H s) (S:mw X sc N nt cap) (cV:∀n c,cl.lookup n=some c↔((n,ā)∈sc.names/\X.env.cells.lookup n=some c)) (jB:JA sc cl hV C h1) (hf:∀b∈fp,cu X π H b) (gW:∀b∈fp,b<s.heap.objs.size)
  (hk:∀b o,s.heap.get? b=some o->h1.get? b=some o) (hC:s.heap.objs.size<=C) (sr:∃m,h1.Ns C m):Inv (dF X N sc hV C s H fp (X.pn++π)) [] (lK nt cap σ) H { s with heap:=h1,toks:=t' }:=by
 have t6:∀b∈gU X.stack,b∈X.env.locals::X.fs:=I.ki;have Xn:∀x c,cl.lookup x=some c->c<s.heap.objs.size:=λx c e=>by
  obtain⟨v,o,ho,_⟩:=I.cell x c ((cV x c).mp e).2;exact Î ho
 have BH:∀x,(relabel sc X.env).names.lookup x=some .cell\/(relabel sc X.env).names.lookup x=some .free->(x,ā)∈sc.names\/sc.names.lookup x=some .cell:=λx hx=>by
  rw[wx] at hx
  cases e:sc.names.lookup x with
  |none=>rw[e] at hx;rcases hx with z|z<;>cases z
  |some k =>
   have hm:(x,k)∈sc.names:=by
    obtain⟨l1,l2,e1,_⟩:=List.lookup_eq_some_iff.mp e;rw[e1];simp
   rw[e] at hx
   cases k with
   |free=>exact .inl hm
   |cell=>exact .inr rfl
   |_=>exfalso;revert hx;simp
 have AH:∀x,(x,ā)∈sc.names->∃c,X.env.cells.lookup x=some c:=λx hx=>I.ok.has x (S.frees _ hx rfl).2;have K0:∀x c,(x,ā)∈sc.names->X.env.cells.lookup x=some c->hV.lookup x=some c:=λx c hx hc=>by
  have e:=(cV x c).mpr ⟨hx,hc⟩;obtain⟨d,hd⟩:=jB.own x (.inr (by rw[e];rfl))
  rcases jB.old x d hd with ⟨_,q,_⟩|q
  ·have z1:=S.cells _ q rfl
   have z2:=(S.frees _ hx rfl).1;dsimp only at z1 z2;rw[z1] at z2;cases z2
  ·rw[e] at q
   cases q;exact hd
 have ok:Cx.Ok (dF X N sc hV C s H fp (X.pn++π)):=by
  refine⟨I.ok.mod,?_,I.ok.glob,I.ok.blt,hC,?_,?_,?_,I.ok.hd,I.ok.frames,.inl rfl,?_,I.bs,Û I.ok.i8 I.sz,?_,?_,I.stack,I.AB⟩
  ·exact S.kind
  ·exact jB.inj (λx y c hx hy=>I.ok.inj x y c ((cV x c).mp hx).2 ((cV y c).mp hy).2) λx c e=>Ê (Xn x c e) hC
  ·intro x hx
   rcases BH x hx with hm|hm
   ·obtain⟨c,e⟩:=AH x hm
    exact⟨c,K0 x c hm e⟩
   ·exact jB.own x (.inl hm)
  ·intro x c hx e
   rcases jB.old x c e with ⟨q,_,_⟩|q
   ·exact Û hC (Nat.le_of_lt q)
   ·have z2:=(S.frees _ ((cV x c).mp q).1 rfl).1
    have z1:sc.names.lookup x=some .cell:=by simpa using hx
    dsimp only at z2;rw[z1] at z2;cases z2
  ·intro b hb
   refine⟨è (Ê (gW b hb) hC),λx c e=>?_⟩
   rcases jB.old x c e with ⟨q,_,_⟩|q
   ·exact Ń (Ê (gW b hb) (Û hC (Nat.le_of_lt q)))
   ·exact(hf b hb).2.2.2.2.1 x c ((cV x c).mp q).2
  ·intro b o e hb
   rcases(hf b hb).2.2.2.1 with z|z
   ·exact I.ok.lO b o e z
   ·exact absurd (Ê (Î e) (Û I.ok.i8 z)) (é _)
  ·intro b hb z
   rcases Ó.mp (t6 b z) with e|e
   ·exact(hf b hb).2.1 e
   ·exact(hf b hb).2.2.1 e
 obtain⟨m,hm⟩:=sr;obtain⟨mX,XT,Dq⟩:=I.loc;refine⟨ok,rfl,I.bare,Un.kept hk,⟨m,hm,λi x v e1 e2 e3=>?_⟩,λx c e=>?_,I.aF.fresh hC,λx c e=>?_,λp hp=>?_,I.aF.kept hk,?_⟩
 ·
  have hi:nt<=i:=by
   apply ο;intro bE;have:(lK nt cap σ)[i]?=some none:=by
    unfold lK;rw[ä (by simpa using bE),ĭ,Ú bE]
   rw[this] at e2;cases e2
  have kR:(cap.map λj=>(σ[j]?).getD none)[i-nt]?=some (some v):=by
   have e:=e2;unfold lK at e;rw[ü (by simpa using hi)] at e;simpa using e
  rw[ç] at kR
  cases ej:cap[i-nt]? with
  |none=>rw[ej] at kR;cases kR
  |some j =>
   rw[ej] at kR;have ev:(σ[j]?).getD none=some v:=Option.some.inj kR;have vh:σ[j]?=some (some v):=by
    cases q:σ[j]? with
    |none=>rw[q] at ev;cases ev
    |some z=>rw[q] at ev;exact Ĺ some ev
   obtain⟨y,f1,f2,f3⟩:=S.CC _ _ ej;rw[Nat.add_sub_cancel' hi] at f2;have Dr:y=x:=Option.some.inj (f2.symm.trans e1);subst Dr;obtain⟨g1,g2⟩:=S.frees _ f3 rfl;have Ds:uT X.env.scope y:=.inr g2;obtain⟨u,r,l⟩:=Dq j y v f1 vh Ds;refine⟨u,r,.inr ⟨?_,?_⟩⟩
   ·show (relabel sc X.env).names.lookup y=some .cell\/(relabel sc X.env).names.lookup y=some .free
    rw[wx,g1];simp only[Ŏ];split
    ·exact .inl rfl
    ·exact .inr rfl
   ·rcases l with ⟨k,_⟩ | ⟨_,c,hc,nL⟩
    ·exfalso
     have k':X.env.scope.names.lookup y=some .local:=k;dsimp only at g2;rw[k'] at g2
     rcases g2 with z|z<;>cases z
    ·obtain⟨oc,ho,hd⟩:=nL
     exact⟨c,K0 y c f3 hc,oc,hk _ _ ho,hd⟩
 ·rcases jB.old x c e with ⟨_,_,q⟩|q
  ·exact q
  ·obtain⟨v,oc,ho,hd⟩:=I.cell x c ((cV x c).mp q).2
   exact⟨v,oc,hk _ _ ho,hd⟩
 ·rcases jB.old x c e with ⟨q,_,_⟩|q
  ·exact I.aF.fresh (by omega)
  ·exact I.fj x c ((cV x c).mp q).2
 ·have fR:p∈X.pn++π:=by simpa using hp
  obtain⟨e,n,ne,nf,d⟩:=I.pin p fR;refine⟨hk _ _ e,n,è (Ê (Î e) hC),λz=>?_,d⟩
  rcases Ó.mp (t6 p.1 z) with q|q
  ·exact ne q
  ·exact nf q
 ·unfold lK
  rw[â,Ű,Ä];exact S.len.symm
end
section
variable {X:Cx}
def F5 {el tg src:ļ} {tests:List ļ} {sc:abf} {ps:Pos} {N:List Str} {nt:Nat} {cap:List Nat} {wi:TI} {g:TG} {tf:TT} {te:TE} {p1:Pos} {use:Option (Í->Sem Unit)} {R:Í->É->Prop} {π:List (á×Obj)} {s:É} {σ:St} {H:Hp} {Q:VK} (hc:X.calm=true) (S:mw X sc N nt cap) (gb:lX g nt) (hi:PI X tg src wi)
  (hY:∀(cl:List (Str×á)) (C:á) (s:É) (H:Hp) (ex:List á) (pn:List (á×Obj)),PG (dF X N sc cl C s H ex pn) tg g/\PF (dF X N sc cl C s H ex pn) tests tf/\PE (dF X N sc cl C s H ex pn) el te)
  (hs:∀x,ô src X.env x=pure x) (I:Inv X π σ H s) (h:mz wi nt cap g tf te σ H Q)
  (CN:∀(s':É) (H1:Hp) (D C:á) (m:Str->Option Í),(∀h',ĸ C s'.heap h'->Inv X π σ H1 { s' with heap:=h' })->s'.heap.Ns C m->H1 C=none->C≠X.env.locals->C∉X.fs->X.dQ.heap.objs.size<=C->(∀x c,X.env.cells.lookup x=some c->c≠C)->(∀p∈X.pn++π,p.1≠C)->Q (.ref D) H1->compPost (ø X.prog X.w) X.A X.xe use R (.ref D) C (.ok .next) s') :
  à (ø X.prog X.w) X.A (comprehension (.ListComp el [⟨tg,src,tests,0⟩] sc ps) sc X.env p1 (newList []) false (Ť src X.env) use) R X.xe s:=by
 obtain⟨cl,ui,cV⟩:=A8 (env:=X.env) (sc:=sc) λn hn=>I.ok.has n (S.frees _ hn rfl).2;refine aaU (use:=use) rfl hs ui S.kind S.names (aE (hi π s σ H _ I h) λxv s1 h1=>aE h1 λja s2 h2=>?_);obtain⟨it,fp,tn,J,H2,e,I2,T,dS,f2,W,⟨m0,w0⟩,turn⟩:=h2;subst e;refine ó (MJ λhV h3 mJ gP ox=>?_);dsimp only at mJ gP ox |-;generalize hD:s2.heap.objs.size=D at mJ gP ox |-;generalize hG:s2.heap.push { cls:=.type "list",dict:=none,data:=.seq ([]:List Í).toArray }=G at mJ gP ox |-;generalize vC:G.objs.size=C at mJ gP ox |-;have hC:C=D+1:=by rw[<- vC,<- hG,ú,hD]
 have kZ:D≠C:=by omega
 have dR:s2.heap.objs.size<=D:=ō hD;have ef:s2.heap.objs.size<=C:=by omega
 have old:∀b o,s2.heap.get? b=some o->h3.get? b=some o:=λb o e=>ox b o (hG ▸ Á _ e);have jW:h3.PlainList D #[]:=⟨_,ox _ _ (hG ▸ hD ▸ Ì _ rfl)⟩;have gW:∀b∈fp,b<s2.heap.objs.size:=λb hb=>by
  obtain⟨o,e,_⟩:=T.obj _ _ dS b hb;exact Î e
 have mJ:=mJ λx c e=>by
  obtain⟨v,o,ho,_⟩:=I2.cell x c ((cV x c).mp e).2;exact Ê (Î ho) ef
 have IB:=I2.UC (t':=s2.toks) S cV mJ f2 gW old ef ⟨_,gP⟩;have vD:D∉gU X.stack:=λz=>by
  rcases Ó.mp (I2.ki D z) with e|e
  ·exact absurd (Ê I2.lt dR) (by rw[e];exact é _)
  ·exact I2.pG dR e
 have kW:D∉fp:=λz=>absurd (Ê (gW D z) dR) (é _);have tR:∀x c,hV.lookup x=some c->c≠D:=λx c e z=>by
  rcases mJ.old x c e with ⟨q,_,_⟩|e
  ·rw[z] at q
   exact absurd q (by rw[hC];exact Nat.not_lt.mpr (Ŷ D))
  ·obtain⟨v,o,ho,_⟩:=I2.cell x c ((cV x c).mp e).2
   exact absurd (Ê (Î ho) (by rw[z];exact dR)) (é _)
 have uj:∀p∈X.pn++π,p.1≠D:=λp hp z=>absurd (Ê (Î (I2.pin p hp).1) (by rw[z];exact dR)) (é _);generalize hX:dF X N sc hV C s2 H2 fp (X.pn++π)=Y at IB;have kX:∀{H':Hp} {pl:List (á×Obj)},(∀b∈fp,H' b=none)->(∀p∈pl,p.1∉fp)->∀b∈fp,cu Y pl H' b:=λ{H' pl} hn hp b hb=>by
  subst hX;obtain⟨_,f1,mR,f3,f4,f5⟩:=f2 b hb;refine⟨hn b hb,è (Ê (gW b hb) ef),λz=>?_,.inl hb,λx c e=>(mJ.old x c e).elim (λq z=>Ń (Ê (gW b hb) (Û ef (Nat.le_of_lt q.1))) z) λe=>f4 x c ((cV x c).mp e).2,λp ql=>?_⟩
  ·rcases Ó.mp (I2.ki b z) with e|e
   ·exact f1 e
   ·exact mR e
  ·rcases Ù.mp ql with z|z
   ·exact f5 p z
   ·exact λe=>hp p z (e ▸ hb)
 have vE:PG Y tg g:=by subst hX;exact(hY _ _ _ _ _ _).1
 have vF:PF Y tests tf:=by subst hX;exact(hY _ _ _ _ _ _).2.1
 have YG:PE Y el te:=by subst hX;exact(hY _ _ _ _ _ _).2.2
 have eP:Y.prog=X.prog:=by subst hX;rfl
 have eW:Y.w=X.w:=by subst hX;rfl
 have eA:Y.A=X.A:=by subst hX;rfl
 have eK:Y.K=X.K:=by subst hX;rfl
 have eE:Y.env=compEnvC sc hV C X.env:=by subst hX;rfl
 have eX:Y.xe=λ_ _=>False:=by subst hX;rfl
 have eC:Y.calm=true:=by subst hX;exact hc
 have eS:Y.dQ.heap.objs.size<=D:=by subst hX;exact dR
 have eF:D∉Y.fs:=by subst hX;exact vD
 have eL:D≠Y.env.locals:=by subst hX;exact kZ
 have YH:∀x c,Y.env.cells.lookup x=some c->c≠D:=by subst hX;exact tR
 have eN:∀p∈Y.pn,p.1≠D:=by subst hX;exact uj
 have fin:∀(s':É) (τ:St) (H':Hp) (acc:List V) (ys:Array Í),Inv Y [] τ H' s'->s'.heap.PlainList D ys->Vals acc ys.toList->H' D=none->acc.length<=Õ->(∀D,H' D=none->Q (.ref D) (upd H' D (.lst acc))) ->
   compPost (ø X.prog X.w) X.A X.xe use R (.ref D) C (.ok .next) s':=by
  intro s' τ H' acc ys I' pl rv hn hz q;subst hX;obtain⟨m,hm,_⟩:=id I'.loc;refine CN s' (upd H' D (.lst acc)) D C m (λh' sb=>?_) hm ?_ (λz=>absurd (Ê I2.lt ef) (by rw[z];exact é _)) (I2.pG ef) (Û I2.sz ef) (λx c e z=>?_) (λp hp z=>absurd (Ê (Î (I2.pin p hp).1) (by rw[z];exact ef)) (é _)) (q D hn)
  ·have uH:cc X.prog X.w H' h':=I'.aF.but I'.free sb
   obtain⟨n,ho⟩:=pl;have dg:h'.get? D=some { cls:=.type "list",data:=.seq ys n }:=(sb.2 D kZ).trans ho;have new:cJ X.prog X.w (upd H' D (.lst acc)) h' D (.lst acc):=⟨hz,ys.toList,n,rv,by simpa using dg⟩;have u:=(I'.base.but ef sb).adopt (o:=.lst acc) dR hn
   refine I2.xO (s':={ s' with heap:=h' }) (ch:=fp) I'.os u (uH.adopt hn new) I'.bare (λb hb=>?_)
   obtain⟨_,f1,_,f3,f4,f5⟩:=f2 b hb;exact⟨f3,f1,f4,f5⟩
  ·rw[bt (Ň kZ)]
   exact I'.free
  ·obtain⟨v,o,jb,_⟩:=I2.cell x c e
   exact absurd (Ê (Î jb) (by rw[z];exact ef)) (é _)
 have loop:aaO (ø X.prog X.w) X.A (.compLoop (.ListComp el [⟨tg,src,tests,0⟩] sc ps) 0 (.ref it) (.ref D) (compEnvC sc hV C X.env)) (compPost (ø X.prog X.w) X.A X.xe use R (.ref D) C)
   { s2 with heap:=h3 }:=by
  refine NR (λn s'=>∃i acc o H' ys,Inv Y [] (o++my cap σ) H' s'/\o.length=nt/\tn i s'.heap/\(∀b∈fp,H' b=none)/\s'.heap.PlainList D ys/\Vals acc ys.toList/\H' D=none/\W i n acc H') ?_ m0
   ⟨0,[],Ï nt none,H2,#[],IB,by simp,T.keep _ _ _ dS λb _ o e=>old b o e,λb hb=>(f2 b hb).1,jW,.nil,I2.aF.fresh dR,w0⟩
  rintro n s3 ⟨i,acc,o3,H3,ys,I3,LI,gv,oj,YI,oA,YJ,w3⟩;generalize YK:o3++my cap σ=τ at I3;obtain⟨nn,ho⟩:=id YI;generalize LJ:({ cls:=.type "list",data:=.seq ys nn }:Obj)=oD at ho;have V5:∀v,oD.data≠.cell v:=λv z=>by subst LJ;cases z
  have vA:Inv Y [(D,oD)] τ H3 s3:=I3.ix λp hp=>by
   have e:p=(D,oD):=by simpa using hp
   subst e;exact⟨ho,YJ,eL,eF,V5⟩
  have qm:∀p∈[(D,oD)],p.1∉fp:=λp hp=>by
   have e:p=(D,oD):=by simpa using hp
   subst e;exact kW
  have sC:∀{pl:List (á×Obj)} {cW:St} {H':Hp} {s':É},Inv Y ([(D,oD)]++pl) cW H' s'->s'.heap.PlainList D ys/\H' D=none:=λ{pl cW H' s'} I'=>by
   have q:=I'.pin (D,oD) (Æ _ (ħ _ (by simp)));exact⟨⟨nn,by rw[LJ];exact q.1⟩,q.2.1⟩
  rcases turn i n acc H3 w3 with ⟨stop,hz,q⟩ | ⟨go,hz,N',hN,step⟩
  ·have hd:=T.done Y eP eW eK eC i [(D,oD)] s3 τ H3 (λ_ _=>False) vA (kX oj qm) gv stop
   rw[eA] at hd;refine aE hd λr s4 h4=>?_;obtain⟨hr,I4⟩:=h4;subst hr;obtain⟨DW,n4⟩:=sC (pl:=[]) (by simpa using I4);exact fin s4 τ H3 acc ys (Inv.jh (π:=[]) I4) DW oA n4 hz q
  ·have hd:=T.item Y eP eW eK eC i [(D,oD)] s3 τ H3 (λ_ _=>False) vA (kX oj qm) gv go
   rw[eA] at hd;refine aE hd λr s4 h4=>?_;obtain⟨u,hr,h4⟩:=h4;subst hr;refine aE h4 λ_ s5 h5=>?_;obtain⟨x,H5,I5,r5,y5,iH,uZ⟩:=h5;have u0:=I5.pinned (kX uZ qm) (T.obj _ _ iH);have q5:=vE _ s5 τ H5 x u _ u0 r5 (YK ▸ gb x o3 _ H5 _ LI (step o3 x H5 LI y5));rw[eP,eW,eA,eE,eX] at q5;refine aE q5 λ_ s6 h6=>?_;obtain⟨sD,H6,I6,⟨o6,vB,yD⟩,q6⟩:=h6;have q7:=vF _ s6 sD H6 _ I6 q6;rw[eP,eW,eA,eE,eX] at q7;refine aE q7 λb s7 h7=>?_;obtain⟨H7,I7,q7⟩:=h7;have uG:∀{cW:St} {H':Hp} {s':É},Inv Y ([(D,oD)]++ny fp s5.heap) cW H' s'->tn (i+1) s'.heap/\∀b∈fp,H' b=none:=λ{cW H' s'} I'=>by
    refine⟨T.keep _ _ _ iH λb hb o e=>(I'.pin (b,o) (Æ _ (Æ _ (qG hb e)))).1,λb hb=>?_⟩;obtain⟨o,e,_⟩:=T.obj _ _ iH b hb;exact(I'.pin (b,o) (Æ _ (Æ _ (qG hb e)))).2.1
   cases b with
   |false =>
    rw[æ Ë] at q7 |-;obtain⟨m',hm,w7⟩:=hN _ _ q7;obtain⟨za,n7⟩:=sC I7;obtain⟨t7,f7⟩:=uG I7;exact⟨m',hm,i+1,acc,o6,H7,ys,yD ▸ I7.ix (λp hp=>by simp at hp),vB,t7,f7,za,oA,n7,w7⟩
   |true =>
    rw[Ú rfl] at q7 |-;have q8:=YG _ s7 sD H7 _ I7 q7;rw[eP,eW,eA,eE,eX] at q8;refine aE q8 λy s8 h8=>?_;obtain⟨v,H8,I8,r8,q9⟩:=h8;obtain⟨m',hm,w8⟩:=hN _ _ q9;obtain⟨DQ,n8⟩:=sC I8;obtain⟨t8,f8⟩:=uG I8;have DR:ys.size<=Õ:=by
     have e:=oA.length;simp only[þ] at e;omega
    refine wpAny_list_append_plain (hsz:=DR) DQ λh9 DT yZ=>?_;have DU:Inv Y [] sD H8 s8:=I8.ix (λp hp=>by simp at hp)
    have I9:Inv Y [] sD H8 { s8 with heap:=h9,toks:=s8.toks }:=DU.turned (it:=D) (λb o hb e=>(yZ.2 b hb).trans e) n8 eL (.inr eS) YH (λp hp=>eN p (by simpa using hp))
    refine⟨m',hm,i+1,acc++[v],o6,H8,ys.push y,yD ▸ I9,vB,T.keep _ _ _ t8 λb hb o e=>(yZ.2 b (λz=>kW (z ▸ hb))).trans e,f8,DT,?_,n8,w8⟩;rw[abl];exact Vals.append oA (.cons r8 .nil)
 exact abc loop (T.self _ _ _ _ _ (T.keep _ _ _ dS λb _ o e=>old b o e) loop)
def Hf (hc:X.calm=true) (S:mw X sc N nt cap) (gb:lX g nt) (hi:PI X tg src wi)
 (hY:∀(cl:List (Str×á)) (C:á) (s:É) (H:Hp) (ex:List á) (pn:List (á×Obj)),PG (dF X N sc cl C s H ex pn) tg g/\PF (dF X N sc cl C s H ex pn) tests tf/\PE (dF X N sc cl C s H ex pn) el te)
 (hs:∀x,ô src X.env x=pure x:=by intro _;rfl):PE X (.ListComp el [⟨tg,src,tests,0⟩] sc ps) (mz wi nt cap g tf te):=by
 intro π s σ H Q I h;rw[eval_ListComp];exact F5 (use:=none) hc S gb hi hY hs I h λs' H1 D C m IX hm _ _ _ _ _ _ q=>⟨m,hm,λh' sb=>⟨.ref D,H1,IX h' sb,rfl,q⟩⟩
def Hg {el tg src:ļ} {tests:List ļ} {sc:abf} {ps pos pos':Pos} {N:List Str} {nt:Nat} {cap:List Nat} {wi:TI} {g:TG} {tf:TT} {te:TE} {i0:Nat} {x0:Str} (mS:X.N.Nodup) (mT:X.N[i0]?=some x0) (mU:Loc X.env.scope x0) (hc:X.calm=true) (S:mw X sc N nt cap) (gb:lX g nt) (hi:PI X tg src wi)
  (hY:∀(cl:List (Str×á)) (C:á) (s:É) (H:Hp) (ex:List á) (pn:List (á×Obj)),PG (dF X N sc cl C s H ex pn) tg g/\PF (dF X N sc cl C s H ex pn) tests tf/\PE (dF X N sc cl C s H ex pn) el te)
  (hs:∀x,ô src X.env x=pure x:=by intro _;rfl)
  (mV:abw (.ListComp el [⟨tg,src,tests,0⟩] sc ps) (some (.Name x0 pos')) pos.line X.env=pure true:=by rfl)
  (mW:X.fn x0=true\/X.env.scope.names.lookup x0=some .local:=by first|exact .inl rfl|exact .inr rfl|assumption):PS X (.Assign [.Name x0 pos'] (.ListComp el [⟨tg,src,tests,0⟩] sc ps) pos) (pH (mz wi nt cap g tf te) (kz i0)):=by
 intro π s σ H D0 I h;rw[exec_Assign_Name_used _ _ _ _ mV];refine À (Ŕ (À ?_));obtain⟨Q,hQ⟩:∃Q:VK,Q=λv H1=>kz i0 v σ H1 D0.nx:=⟨_,rfl⟩;have h:mz wi nt cap g tf te σ H Q:=by rw[hQ];exact h
 have lZ:∀v H1,Q v H1->D0.nx (σ.set i0 (some v)) H1:=λv H1 q=>by rw[hQ] at q;exact q
 unfold evalThenUse
 refine À (ĳ (Q:=λ_ s'=>SP X π D0 .next s') ?_ (λ_ s' q=>Â (Â q)) (λ_ _ z=>z))
 refine F5 (use:=some (aaR (.Name x0 pos') X.env)) hc S gb hi hY hs I h λs' H1 D C m IX hm vG vH D1 Lq nL Xo q=>?_;have LK:Inv X π σ H1 s':=IX s'.heap (Heap.SameBut.refl _ _);obtain⟨oC,es,ep,D2,vI,p9⟩:=id hm;have IP:Inv X ((C,oC)::π) σ H1 s':=LK.ix λp hp=>by
  rcases Ó.mp hp with e|e
  ·subst e
   exact⟨D2,vG,vH,D1,λv z=>by rw[vI] at z;cases z⟩
  ·exact LK.pin p (Æ _ e)
 show à _ _ (aaR (.Name x0 pos') X.env (.ref D)) _ _ s';refine wpAny_assign_Name (mq IP mS mT mU (show RelV (.ref D) (.ref D) from rfl) (λs3 I3=>?_) mW);have p3:=(I3.pin (C,oC) (Æ _ (Ò ..))).1;refine⟨m,⟨oC,es,ep,p3,vI,p9⟩,λh' sb=>⟨_,H1,?_,lZ _ _ q⟩⟩;have I4:Inv X π (σ.set i0 (some (.ref D))) H1 s3:=I3.ix λp hp=>I3.pin p (Æ _ (Ñ _ hp));exact I4.turned (it:=C) (t':=s3.toks) (λb o hb e=>(sb.2 b hb).trans e) vG vH (.inr Lq) nL Xo
end
noncomputable def Bk (sc:abf) (on:List (Str×aal)) (oN N:List Str) (nt:Nat) (cap:List Nat):Bool :=
 decide (sc.kind=.function)&&sc.names.all (λx=>decide (x.2=.local->sc.names.lookup x.1=some .local))&&sc.names.all (λx=>decide (x.2=.cell->sc.names.lookup x.1=some .cell)) &&
 sc.names.all (λx=>decide (x.2=.free->sc.names.lookup x.1=some .free/\(on.lookup x.1=some .cell\/on.lookup x.1=some .free)))&&decide (N.length=nt+cap.length) &&
 (ß cap.length).all (λk=>match cap[k]? with
  |some j=>match oN[j]? with
   |some x=>decide (N[nt+k]?=some x)&&decide ((x,ā)∈sc.names)
   |none=>false
  |none=>true)
def jT (h:Bk sc X.env.scope.names X.N N nt cap=true):mw X sc N nt cap:=by
 unfold Bk at h;simp only[Ç,ý,È] at h;obtain⟨⟨⟨⟨⟨h1,h2⟩,h3⟩,h4⟩,h5⟩,h6⟩:=h;refine⟨h1,h2,h3,λx hx e=>h4 x hx e,h5,λk j e=>?_⟩;have hk:k<cap.length:=(Å.mp e).1;have:=h6 k (Ā.mpr hk);rw[e] at this;dsimp only at this
 cases ex:X.N[j]? with
 |none=>rw[ex] at this;cases this
 |some x =>
  rw[ex] at this;simp only[Ç,È] at this;exact⟨x,rfl,this.1,this.2⟩
end L2
namespace DI
open PySem L2
section
variable {X:Cx} {Ξ:Wd->bx->Prop} {e a b c tg el src:ļ} {es rest tests:List ļ} {pos:Pos} {f g h:Env->ag->Res D} {fa:Env->ag->Res (List D)} {ft gt:Env->ag->Res Bool}
def oU (hc:X.calm=true) (S:mw X sc N nt cap) (T:Tg X.K g0 gd nt) (hi:PI X tg src (dh X.K Ξ it))
 (hY:∀(cl:List (Str×á)) (C:á) (s:É) (H:Hp) (ex:List á) (pn:List (á×Obj)),PG (dF X N sc cl C s H ex pn) tg g0/\PF (dF X N sc cl C s H ex pn) tests (tT X.K bH ft)/\PE (dF X N sc cl C s H ex pn) el (tE X.K bH f))
 (hs:∀x,ô src X.env x=pure x:=by intro _;rfl):PE X (.ListComp el [⟨tg,src,tests,0⟩] sc ps) (tE X.K Ξ (aW nt cap it gd ft f)) :=
 cQ (Hf hc S T.jd hi hY hs) fun σ H Q h=>wJ T.imp (λR R' i h=>wZ R R' i h) (G7 σ H Q h)
def Ig {sc:abf} {ps pos':Pos} {N:List Str} {nt:Nat} {cap:List Nat} {it:Env->ag->Res (List D)} {gd:D->Env->Option Env} {g0:TG} (i0:Nat) {x0:Str} (mS:X.N.Nodup) (hc:X.calm=true) (S:mw X sc N nt cap) (T:Tg X.K g0 gd nt) (hi:PI X tg src (dh X.K Ξ it))
  (hY:∀(cl:List (Str×á)) (C:á) (s:É) (H:Hp) (ex:List á) (pn:List (á×Obj)),PG (dF X N sc cl C s H ex pn) tg g0/\PF (dF X N sc cl C s H ex pn) tests (tT X.K bH ft)/\PE (dF X N sc cl C s H ex pn) el (tE X.K bH f))
  (mT:X.N[i0]?=some x0:=by rfl) (mU:Loc X.env.scope x0:=by first|exact Ŧ rfl|exact Or.inr rfl)
  (hs:∀x,ô src X.env x=pure x:=by intro _;rfl)
  (mV:abw (.ListComp el [⟨tg,src,tests,0⟩] sc ps) (some (.Name x0 pos')) pos.line X.env=pure true:=by rfl)
  (mW:X.fn x0=true\/X.env.scope.names.lookup x0=some .local:=by first|exact .inl rfl|exact .inr rfl):PS X (.Assign [.Name x0 pos'] (.ListComp el [⟨tg,src,tests,0⟩] sc ps) pos) (tS X.K Ξ (aL (aW nt cap it gd ft f) (gN i0))) :=
 jl (Hg mS mT mU hc S T.jd hi hY hs mV mW) λD σ H h=>by
  have h2:=wQ (te:=tE X.K Ξ f) D σ H (tJ D σ H h);exact wJ T.imp (λR R' i h=>wZ R R' i h) (G7 σ H _ h2)
def Hh (hc:X.calm=true) (S:mw X sc N nt cap) (T:Tg X.K g0 gd nt) (hi:PI X tg src (dh X.K Ξ it))
 (hY:∀(cl:List (Str×á)) (C:á) (s:É) (H:Hp) (ex:List á) (pn:List (á×Obj)),PG (dF X N sc cl C s H ex pn) tg g0/\PF (dF X N sc cl C s H ex pn) tests (tT X.K bH ft)/\PE (dF X N sc cl C s H ex pn) el (tE X.K bH f))
 (hs:∀x,ô src X.env x=pure x:=by intro _;rfl):PE X (.ListComp el [⟨tg,src,tests,0⟩] sc ps) (tE X.K Ξ (mv nt cap it gd ft f)) :=
 cQ (Hf hc S T.jd hi hY hs) fun σ H Q h=>wJ T.imp (λR R' i h=>wZ R R' i h) (Gx σ H Q h)
def QK {sc:abf} {ps pos':Pos} {N:List Str} {nt:Nat} {cap:List Nat} {it:Env->ag->Res (List D)} {gd:D->Env->Option Env} {g0:TG} (i0:Nat) {x0:Str} (mS:X.N.Nodup) (hc:X.calm=true) (S:mw X sc N nt cap) (T:Tg X.K g0 gd nt) (hi:PI X tg src (dh X.K Ξ it))
  (hY:∀(cl:List (Str×á)) (C:á) (s:É) (H:Hp) (ex:List á) (pn:List (á×Obj)),PG (dF X N sc cl C s H ex pn) tg g0/\PF (dF X N sc cl C s H ex pn) tests (tT X.K bH ft)/\PE (dF X N sc cl C s H ex pn) el (tE X.K bH f))
  (mT:X.N[i0]?=some x0:=by rfl) (mU:Loc X.env.scope x0:=by first|exact Ŧ rfl|exact Or.inr rfl)
  (hs:∀x,ô src X.env x=pure x:=by intro _;rfl)
  (mV:abw (.ListComp el [⟨tg,src,tests,0⟩] sc ps) (some (.Name x0 pos')) pos.line X.env=pure true:=by rfl)
  (mW:X.fn x0=true\/X.env.scope.names.lookup x0=some .local:=by first|exact .inl rfl|exact .inr rfl):PS X (.Assign [.Name x0 pos'] (.ListComp el [⟨tg,src,tests,0⟩] sc ps) pos) (tS X.K Ξ (aL (mv nt cap it gd ft f) (gN i0))) :=
 jl (Hg mS mT mU hc S T.jd hi hY hs mV mW) λD σ H h=>by
  have h2:=wQ (te:=tE X.K Ξ f) D σ H (tJ D σ H h);exact wJ T.imp (λR R' i h=>wZ R R' i h) (Gx σ H _ h2)
end
end DI
namespace L2
open PySem PySem.Spec PyProof.Rows
section
variable {X:Cx} {tg:ļ}
def Ih (h:-1<=i):ŕ i (-1) (-1)=i+1:=by
 unfold ŕ;simp;omega
def V6 (ta:TA):TI:=fun σ H R=>ta σ H λvs H1=>∃i:Int,vs=[.int i,.int (-1),.int (-1)]/\-1<=i/\i<1000000/\R (yw (i+1).toNat) H1
def Pa {a b c:ļ} {ta:TA} {p pos:Pos} (hg:Gl X "range") (hm:X.mg "range"=none) (ha:PA X [a,b,c] ta) (hs:Þ [a,b,c] X.env=[(false,Ť a X.env),(false,Ť b X.env),(false,Ť c X.env)]:=by rfl) (cf:Þ [b,c] X.env=[(false,Ť b X.env),(false,Ť c X.env)]:=by rfl) :
  PI X tg (.Call (.Name "range" p) [a,b,c] [] pos) (V6 ta):=by
 intro π s σ H R I h;refine Call_ (lJ I hg hm boot_range (Ĩ (aE (ha pos π s σ H _ I h) λus s1 aA=>?_) (by rw[hs,cf]) (by rw[cf];rfl)));obtain⟨vs,H1,I1,r1,q1⟩:=aA;obtain⟨i,e,q1,q2,q⟩:=q1;subst e
 cases r1 with
 |cons r rr =>
  cases rr with
  |cons r' rr =>
   cases rr with
   |cons YL rr =>
    cases rr;obtain⟨t,rfl⟩:=r;obtain⟨t',rfl⟩:=r';obtain⟨zg,rfl⟩:=YL;refine call_range_3 (by decide) ?_ (.inl (PyProof.noPylong_small (by omega)));refine wpAny_pyIter_range (IsRange.new ..) ?_ ?_
    ·unfold Builtin.Range.small
     rw[Ih q1];simp only[Ğ,Ç,Ž,È,beq_iff_eq,show ¬ (-1:Int) > 0 by decide,ê];omega
    ·have I2:Inv X π σ H1 { s1 with heap:=s1.heap.push { cls:=.type "range",data:=.fields #[.int i t,.int (-1) t',.int (-1) zg] },toks:=s1.toks }:=I1.kept λb o e=>Á _ e
     rw[Ih q1];refine⟨(s1.heap.push { cls:=.type "range",data:=.fields #[.int i t,.int (-1) t',.int (-1) zg] }).objs.size,[(s1.heap.push { cls:=.type "range",data:=.fields #[.int i t,.int (-1) t',.int (-1) zg] }).objs.size],_,_,H1,rfl,
      I2.kept (t':=s1.toks) λb o e=>Á _ e,G5 _ (i+1).toNat,?_,λb hb=>?_,q⟩
     ·have e1:(((i+1).toNat:Nat):Int)-1+((0:Nat):Int)*(-1)=i:=by simp;omega
      have e2:(((i+1).toNat:Nat):Int)-((0:Nat):Int)=i+1:=by simp;omega
      show IsRangeIter _ _ ((((i+1).toNat:Nat):Int)-1+((0:Nat):Int)*(-1)) ((((i+1).toNat:Nat):Int)-((0:Nat):Int)) (-1);rw[e1,e2];exact Ì _ rfl
     ·have e:b=(s1.heap.push { cls:=.type "range",data:=.fields #[.int i t,.int (-1) t',.int (-1) zg] }).objs.size:=by simpa using hb
      subst e;exact I2.lQ (Nat.le_refl _) (I2.aF.fresh (Nat.le_refl _))
end
end L2
namespace DI
open PySem L2
section
variable {X:Cx} {Ξ:Wd->bx->Prop} {a b c tg:ļ} {pos:Pos} {fa:Env->ag->Res (List D)}
def Ec (fa:Env->ag->Res (List D)):Env->ag->Res (List D):=λenv s=>ao (fa env s) λds s=>match ds with
 | [.int i,.int (-1),.int (-1)]=>if (decide (-1<=i)&&decide (i<1000000))=true then ok (pA (i+1).toNat) s else none
 |_=>none
def UD {p:Pos} (hg:Gl X "range") (hm:X.mg "range"=none) (ha:PA X [a,b,c] (tA X.K Ξ fa)) (hs:Þ [a,b,c] X.env=[(false,Ť a X.env),(false,Ť b X.env),(false,Ť c X.env)]:=by rfl) (cf:Þ [b,c] X.env=[(false,Ť b X.env),(false,Ť c X.env)]:=by rfl):PI X tg (.Call (.Name "range" p) [a,b,c] [] pos) (dh X.K Ξ (Ec fa)) :=
 oY (Pa hg hm ha hs cf) fun σ H R aA=>by
  obtain⟨w,env,eH,S,eo,h⟩:=aA;subst eH;refine⟨w,env,rfl,S,eo,(Out.ao h).mono λw1 ds l1 S1 h1 vs aq=>?_⟩;split at h1
  ·rename_i i
   split at h1
   ·rename_i hj
    simp only[Ç,È] at hj;obtain⟨v,r,rfl,dv,v2,r2,rfl,jc,v3,r3,rfl,DJ,dr⟩:=aq;have e1:v=.int i:=dv;have e2:v2=.int (-1):=jc;have e3:v3=.int (-1):=DJ;have e4:r3=[]:=dr;subst e1 e2 e3 e4;exact⟨i,rfl,hj.1,hj.2,aJ S1 h1 _ Jz⟩
   ·exact h1.elim
  ·exact h1.elim
end
end DI
namespace L2
open PySem PySem.Spec PyProof.Rows
section
variable {X:Cx}
end
end L2
namespace DI
open PySem L2
section
variable {X:Cx} {Ξ:Wd->bx->Prop} {a:ļ} {p pos:Pos} {fa:Env->ag->Res (List D)}
end
section
variable {X:Cx} {Ξ:Wd->bx->Prop} {a:ļ} {p pos:Pos} {f g:Env->ag->Res D} {fa:Env->ag->Res (List D)}
def ar.erase:∀{ds:List D} {xs:List V} (j:Nat),ar K w ds xs->ar K w (ds.eraseIdx j) (xs.eraseIdx j)
 | [],xs,j,h=>by
  have e:xs=[]:=h;subst e;exact h
 |d::ds,xs,0,h=>by
  obtain⟨v,r,rfl,_,dr⟩:=h;exact dr
 |d::ds,xs,j+1,h=>by
  obtain⟨v,r,rfl,dv,dr⟩:=h;exact⟨v,r.eraseIdx j,rfl,dv,ar.erase j dr⟩
end
open HT PyProof.Rows
section
variable {X:Cx} {Ξ:Wd->bx->Prop}
def Pb (h:Vals xs us):∀{q:List Nat},(∀i∈q,i<us.length)->Vals (q.map λi=>xs.getD i .au) (q.map λi=>us.getD i Value.none):=by
 intro q
 induction q with
 |nil=>intro _;exact .nil
 |cons i q ih =>
  intro hq;refine .cons ?_ (ih λj hj=>hq j (Ñ _ hj));have hi:=hq i Ò;clear ih hq
  induction h generalizing i with
  |nil=>simp at hi
  |cons a _ ih =>
   cases i with
   |zero=>exact a
   |succ i=>simpa using ih i (by simpa using hi)
def QM {K:Ĳ} {w:Wd} {ds:List D} {xs:List V} (h:ar K w ds xs):∀{q:List Nat},(∀i∈q,i<ds.length)->ar K w (q.map λi=>ds.getD i .au) (q.map λi=>xs.getD i .au):=by
 intro q
 induction q with
 |nil=>intro _;exact rfl
 |cons i q ih =>
  intro hq;have hi:=hq i Ò;obtain⟨v,e,dv⟩:=h.get' i _ (Ð hi);refine⟨_,_,rfl,?_,ih λj hj=>hq j (Ñ _ hj)⟩;have e1:ds.getD i .au=ds[i]:=by simp[hi]
  have e2:xs.getD i .au=v:=by simp[e]
  show DV K w (ds.getD i .au) (xs.getD i .au);rw[e1,e2];exact dv
def QN {α:Type} {O:ST.Ord α} {ks:List α} {f:α->D} {d:α} {q:Array Nat} (hp:ST.Pm ks.length q) (hu:ST.Up O (ST.ky (λi=>ks.getD i d) q) ks.length):q.toList.map (λi=>(ks.map f).getD i .au)=(ST.jS O ks).map f:=by
 rw[<- ST.O7 hp hu,Ē];refine aaP λi hi=>?_;have:i<ks.length:=Ā.mp (hp.2.mem_iff.mp hi);simp[this]
end
end DI
namespace TK
open PySem PySem.W PyProof.Rows DI
mutual
noncomputable def kd:D->Bool
 | .int _=>true
 | .str x=>abC x
 | .tup ks=>cY ks
 |_=>false
noncomputable def cY:List D->Bool
 | []=>true
 |k::ks=>kd k&&cY ks
end
mutual
def KA (h:ŏ):D->Í->Prop
 | .int i,v=>∃t,v=.int i t
 | .str x,v=>∃t,v=.str x t
 | .tup ks,v=>∃a o its n,v=.ref a/\h.get? a=some o/\o.cls=.type "tuple"/\o.data=.seq its n/\cZ h ks its.toList
 |_,_=>False
def cZ (h:ŏ):List D->List Í->Prop
 | [],vs=>vs=[]
 |k::ks,vs=>∃v r,vs=v::r/\KA h k v/\cZ h ks r
end
mutual
def oZ:∀k:D,kd k=true->lay k=true
 | .int _,_=>rfl
 | .str _,h=>h
 | .tup ks,h=>by simp only[kd] at h;simp only[lay];exact xa ks h
 | .au,h=>by cases h
 | .bl _,h=>by cases h
 | .lst _,h=>by cases h
 | .bb _,h=>by cases h
 | .aj _,h=>by cases h
 | .ty _,h=>by cases h
 | .bG _,h=>by cases h
def xa:∀ks:List D,cY ks=true->cG ks=true
 | [],_=>rfl
 |k::ks,h=>by
  simp only[cY,cG,Ç] at h |-;exact⟨oZ k h.1,xa ks h.2⟩
end
mutual
def rg:∀x y:D,kd x=true->kd y=true->(beq x y=true↔x=y)
 | .int i,.int j,_,_=>by simp[beq]
 | .str i,.str j,_,_=>by simp[beq]
 | .tup xs,.tup ys,h,g=>by
  simp only[kd] at h g;simp only[beq,Am xs ys h g];exact⟨λe=>by rw[e],λe=>by injection e⟩
 | .int _,.str _,_,_=>by simp[beq]
 | .int _,.tup _,_,_=>by simp[beq]
 | .str _,.int _,_,_=>by simp[beq]
 | .str _,.tup _,_,_=>by simp[beq]
 | .tup _,.int _,_,_=>by simp[beq]
 | .tup _,.str _,_,_=>by simp[beq]
 | .au,_,h,_=>by cases h
 | .bl _,_,h,_=>by cases h
 | .lst _,_,h,_=>by cases h
 | .bb _,_,h,_=>by cases h
 | .aj _,_,h,_=>by cases h
 | .ty _,_,h,_=>by cases h
 | .bG _,_,h,_=>by cases h
 |_,.au,_,h=>by cases h
 |_,.bl _,_,h=>by cases h
 |_,.lst _,_,h=>by cases h
 |_,.bb _,_,h=>by cases h
 |_,.aj _,_,h=>by cases h
 |_,.ty _,_,h=>by cases h
 |_,.bG _,_,h=>by cases h
def Am:∀xs ys:List D,cY xs=true->cY ys=true->(ij xs ys=true↔xs=ys)
 | [],[],_,_=>by simp[ij]
 | [],_::_,_,_=>by simp[ij]
 |_::_,[],_,_=>by simp[ij]
 |x::xs,y::ys,h,g=>by
  simp only[cY,Ç] at h g;simp only[ij,Ç,rg x y h.1 g.1,Am xs ys h.2 g.2,aa4]
end
mutual
def KA.reads:∀(k:D) (v:Í),KA h k v->∃as,Reads h v (py k) as
 | .int i,v,q=>by obtain⟨t,rfl⟩:=q;exact⟨_,.int i t⟩
 | .str x,v,q=>by obtain⟨t,rfl⟩:=q;exact⟨_,.str x t⟩
 | .tup ks,v,q=>by
  simp only[KA] at q;obtain⟨a,o,its,n,rfl,ho,hc,hd,r⟩:=q;obtain⟨as,r⟩:=cZ.reads ks _ r;exact⟨as,.tuple ho hc hd r⟩
 | .au,_,q=>by cases q
 | .bl _,_,q=>by cases q
 | .lst _,_,q=>by cases q
 | .bb _,_,q=>by cases q
 | .aj _,_,q=>by cases q
 | .ty _,_,q=>by cases q
 | .bG _,_,q=>by cases q
def cZ.reads:∀(ks:List D) (vs:List Í),cZ h ks vs->∃as,ReadsAll h vs (bQ ks) as
 | [],vs,q=>by cases q;exact⟨_,.nil⟩
 |k::ks,vs,q=>by
  obtain⟨v,r,rfl,h1,h2⟩:=q;obtain⟨as,h1⟩:=KA.reads k v h1;obtain⟨bs,h2⟩:=cZ.reads ks r h2;exact⟨_,.cons h1 h2⟩
end
def UE (q:KA h y (.int i t)):y=.int i:=by
 cases y with
 |int j=>obtain⟨_,e⟩:=q;cases e;rfl
 |str j=>obtain⟨_,e⟩:=q;cases e
 |tup ks=>simp only[KA] at q;obtain⟨_,_,_,_,e,_⟩:=q;cases e
 |_=>cases q
def UG (q:KA h y (.str i t)):y=.str i:=by
 cases y with
 |str j=>obtain⟨_,e⟩:=q;cases e;rfl
 |int j=>obtain⟨_,e⟩:=q;cases e
 |tup ks=>simp only[KA] at q;obtain⟨_,_,_,_,e,_⟩:=q;cases e
 |_=>cases q
def UH (q:KA h y (.ref a)):∃ks o its n,y=.tup ks/\h.get? a=some o/\o.cls=.type "tuple"/\o.data=.seq its n/\cZ h ks its.toList:=by
 cases y with
 |str j=>obtain⟨_,e⟩:=q;cases e
 |int j=>obtain⟨_,e⟩:=q;cases e
 |tup ks =>
  simp only[KA] at q;obtain⟨_,o,its,n,e,r⟩:=q;cases e;exact⟨ks,o,its,n,rfl,r⟩
 |_=>cases q
mutual
def KA.inj:∀(x y:D) (v:Í),KA h x v->KA h y v->x=y
 | .int i,y,v,p,q=>by
  obtain⟨t,rfl⟩:=p;exact(UE q).symm
 | .str i,y,v,p,q=>by
  obtain⟨t,rfl⟩:=p;exact(UG q).symm
 | .tup xs,y,v,p,q=>by
  simp only[KA] at p;obtain⟨a,o,its,n,rfl,ho,hc,hd,r⟩:=p;obtain⟨ks,o',its',n',rfl,dg,i9,ei,r'⟩:=UH q;cases ho.symm.trans dg;cases hd.symm.trans ei;rw[cZ.inj xs _ _ r r']
 | .au,_,_,q,_=>by cases q
 | .bl _,_,_,q,_=>by cases q
 | .lst _,_,_,q,_=>by cases q
 | .bb _,_,_,q,_=>by cases q
 | .aj _,_,_,q,_=>by cases q
 | .ty _,_,_,q,_=>by cases q
 | .bG _,_,_,q,_=>by cases q
def cZ.inj:∀(xs ys:List D) (vs:List Í),cZ h xs vs->cZ h ys vs->xs=ys
 | [],ys,vs,p,q=>by
  cases p
  cases ys with
  |nil=>rfl
  |cons y ys=>obtain⟨_,_,e,_⟩:=q;cases e
 |x::xs,ys,vs,p,q=>by
  obtain⟨v,r,rfl,h1,h2⟩:=p
  cases ys with
  |nil=>cases q
  |cons y ys =>
   obtain⟨v',r',e,g1,g2⟩:=q;cases e;rw[KA.inj x y v h1 g1,cZ.inj xs ys r h2 g2]
end
mutual
def KA.keep (hk:∀a o,h.get? a=some o->o.cls=.type "tuple"->(∃its n,o.data=.seq its n)->h'.get? a=some o):∀(x:D) (v:Í),KA h x v->KA h' x v
 | .int i,v,p=>p
 | .str i,v,p=>p
 | .tup xs,v,p=>by
  simp only[KA] at p |-;obtain⟨a,o,its,n,e,ho,hc,hd,r⟩:=p;exact⟨a,o,its,n,e,hk a o ho hc ⟨its,n,hd⟩,hc,hd,cZ.keep hk xs _ r⟩
 | .au,_,q=>by cases q
 | .bl _,_,q=>by cases q
 | .lst _,_,q=>by cases q
 | .bb _,_,q=>by cases q
 | .aj _,_,q=>by cases q
 | .ty _,_,q=>by cases q
 | .bG _,_,q=>by cases q
def cZ.keep (hk:∀a o,h.get? a=some o->o.cls=.type "tuple"->(∃its n,o.data=.seq its n)->h'.get? a=some o):∀(xs:List D) (vs:List Í),cZ h xs vs->cZ h' xs vs
 | [],vs,p=>p
 |x::xs,vs,p=>by
  obtain⟨v,r,e,h1,h2⟩:=p;exact⟨v,r,e,KA.keep hk x v h1,cZ.keep hk xs r h2⟩
end
def Ii (h:k∈ks):dep k<=cC ks:=by
 induction ks with
 |nil=>cases h
 |cons x xs ih =>
  simp only[cC]
  rcases Ó.mp h with rfl|h
  ·exact Nat.le_max_left _ _
  ·exact Û (ih h) (abF _ _)
mutual
noncomputable def hs (w:ď):D->Int
 | .int i=>hashInt i
 | .str x=>hashStr w x
 | .tup ks=>reduceHash (aaJ (mi w ks))
 |_=>0
noncomputable def mi (w:ď):List D->List Int
 | []=>[]
 |k::ks=>hs w k::mi w ks
end
mutual
noncomputable def dr:D->Nat
 | .int _=>1
 | .str _=>1
 | .tup ks=>lh ks+1
 |_=>0
noncomputable def lh:List D->Nat
 | []=>0
 |k::ks=>dr k+lh ks
end
def Ij (w:ď) (xs ys:List D):mi w (xs++ys)=mi w xs++mi w ys:=by
 induction xs with
 |nil=>rfl
 |cons x xs ih=>simp only[ċ,mi,ih]
def Ik (xs ys:List D):lh (xs++ys)=lh xs+lh ys:=by
 induction xs with
 |nil=>simp[lh]
 |cons x xs ih=>simp only[ċ,lh,ih,aa5]
section
variable {prog:ù} {w:ď}
def QP (hu:A.units<abQ) (ho:s.heap.get? a=some o) (hc:o.cls=.type "tuple") (hd:o.data=.seq items m) (hi:cZ s.heap ks items.toList)
 (ih:∀k∈ks,∀(A':đ) (s':É) (v:Í) (E':Í->É->Prop) (Q':Int->É->Prop),A'.units<=A.units+1->KA s'.heap k v->Q' (hs w k) { s' with toks:=s'.toks+dr k }->à (ø prog w) A' (pyHash v) Q' E' s')
 (h:Q (hs w (.tup ks)) { s with toks:=s.toks+dr (.tup ks) }):à (ø prog w) A (pyHash (.ref a)) Q E s:=by
 have hT:s.TypeIs (.ref a) "tuple":=⟨o,ho,hc⟩;unfold pyHash
 first|unfold pyHashByItsType|skip
 first|refine À (wpAny_cRoomFor_or (.inr hu) ?_)|skip
 refine À (abX hT abn.lookup ?_)
 show à _ _ (if (some (Value.builtin "tuple.__hash__")==some Value.none)=true then _ else _) Q E s
 rw[æ (by rw[beq_builtin_none];exact Ë)];refine À (abX hT abn.lookup ?_);show à _ _ (callSpecialIfBoundUnlessNone? (.ref a) "__hash__" _ >>= _) Q E s;refine À (wpAny_callSpecialIfBoundUnlessNone?_slot hT abn (Ą abn hT F.entry_tuple_hash ?_ (F.args_tuple_hash_1 _)));show à _ _ (Ũ (.ref a) >>= _) _ _ s;refine À (wpAny_tupleItemsOf ho hd ?_);refine À ?_;rw[<- Array.forIn_toList];refine wpAny_forIn_list _
  (λrest (b:Array Int) s'=>∃done left,ks=done++left/\cZ s.heap left rest/\b.toList=mi w done/\s'={ s with toks:=s.toks+lh done })
  _ ?_ ?_ _ _ ⟨[],ks,rfl,hi,rfl,rfl⟩
 ·rintro x rest b s' ⟨done,left,e,hl,hb,rfl⟩
  cases left with
  |nil=>cases hl
  |cons k left =>
   obtain⟨x',r',ex,h1,oB⟩:=hl;cases ex
   refine À (ih k (by rw[e];simp) _ { s with toks:=s.toks+lh done } _ _ _ ?_ h1 ?_)
   ·exact Nat.le_refl _
   ·first
     |exact Â ⟨done++[k],left,by simp[e],oB,by simp[hb,Ij,mi],by simp[aa5,Ik,lh]⟩
     |exact À (Â (Â ⟨done++[k],left,by simp[e],oB,by simp[hb,Ij,mi],by simp[aa5,Ik,lh]⟩))
 ·rintro b s' ⟨done,left,e,hl,hb,rfl⟩
  cases left with
  |cons k left=>obtain⟨_,_,ex,_⟩:=hl;cases ex
  |nil =>
  rw[Ō] at e;subst e;simp only[hs,dr] at h;show à _ _ (retInt (aaJ b.toList)) _ _ _;rw[hb];generalize aaJ (mi w ks)=z at h |-;refine wpAny_ret_mkInt ?_
  show à _ _ (if (decide (-(2:Int) ^ 63<=z)&&decide (z<2 ^ 63))=true then _ else _) Q E _
  unfold reduceHash at h;by_cases hr:(decide (-(2:Int) ^ 63<=z)&&decide (z<2 ^ 63))=true
  ·rw[Ú hr]
   rw[Ú hr] at h;exact Â (by simpa [aa5] using h)
  ·rw[æ hr]
   rw[æ hr] at h;exact À (Ŝ (Â (by simpa [aa5] using h)))
def Sw:∀(n:Nat) (k:D),dep k<=n->∀(A:đ) (s:É) (v:Í) (E:Í->É->Prop) (Q:Int->É->Prop),KA s.heap k v->A.units+n<abQ->Q (hs w k) { s with toks:=s.toks+dr k }->à (ø prog w) A (pyHash v) Q E s:=by
 intro n
 induction n with
 |zero =>
  intro k hn A s v E Q q hu h
  cases k with
  |int i=>obtain⟨t,rfl⟩:=q;exact wpAny_pyHash_int h
  |str i=>obtain⟨t,rfl⟩:=q;exact wpAny_pyHash_str h
  |tup ks=>simp[dep] at hn
  |_=>cases q
 |succ n ih =>
  intro k hn A s v E Q q hu h
  cases k with
  |int i=>obtain⟨t,rfl⟩:=q;exact wpAny_pyHash_int h
  |str i=>obtain⟨t,rfl⟩:=q;exact wpAny_pyHash_str h
  |tup ks =>
   simp only[dep] at hn;simp only[KA] at q;obtain⟨a,o,items,m,rfl,ho,hc,hd,hi⟩:=q;exact QP (by omega) ho hc hd hi (λk hk A' s' v E' Q' hA q' h'=>ih k (by have:=Ii hk;omega) A' s' v E' Q' q' (by omega) h') h
  |_=>cases q
def QQ:∀(n:Nat) (k:D),dep k<=n->∀{A:đ} {s:É} {v:Í} {E:Í->É->Prop} {Q:Bool->É->Prop},KA s.heap k v->Q true s->à (ø prog w) A (eqIsQuiet n v) Q E s:=by
 intro n
 induction n with
 |zero =>
  intro k hn A s v E Q q h
  cases k with
  |int i=>obtain⟨t,rfl⟩:=q;rw[abo _ rfl];exact Â h
  |str i=>obtain⟨t,rfl⟩:=q;rw[abo _ rfl];exact Â h
  |tup ks=>simp[dep] at hn
  |_=>cases q
 |succ n ih =>
  intro k hn A s v E Q q h
  cases k with
  |int i=>obtain⟨t,rfl⟩:=q;rw[abo _ rfl];exact Â h
  |str i=>obtain⟨t,rfl⟩:=q;rw[abo _ rfl];exact Â h
  |tup ks =>
   simp only[dep] at hn;simp only[KA] at q;obtain⟨a,o,items,m,rfl,ho,hc,hd,hi⟩:=q;have hT:s.TypeIs (.ref a) "tuple":=⟨o,ho,hc⟩;unfold eqIsQuiet;refine À (abX hT F.slot_tuple_eq.lookup ?_);show à _ _ (isInstance (.ref a) (.type "tuple") >>= _) _ _ s;refine À (aaL hT isSubtype_tuple_tuple ?_);simp only[ë,Ã,ê];refine À (Ě ho hd ?_);refine À ?_;show à _ _ (forIn items _ _) _ _ s;rw[<- Array.forIn_toList];refine wpAny_forIn_list _ (λrest r s'=>r.1=none/\s'=s/\∃left,cZ s.heap left rest/\∀k∈left,dep k<=n) _ ?_ ?_ _ _ ⟨rfl,rfl,ks,hi,λk hk=>by have:=Ii hk;omega⟩
   ·rintro v rest r s' ⟨hr,rfl,left,hl,cx⟩
    cases left with
    |nil=>cases hl
    |cons k left =>
     obtain⟨x',r',ex,h1,oB⟩:=hl;cases ex;refine À (ih k (cx k Ò) h1 ?_);simp only[ë,Ã,ê];exact Â ⟨rfl,rfl,left,oB,λu YM=>cx u (Ñ _ YM)⟩
   ·rintro ⟨r1,r2⟩ s' ⟨hr,rfl,_⟩
    simp only at hr;subst hr;exact Â h
  |_=>cases q
def zh (h:ŏ) (ks:List D) (a:á):Prop:=cY ks=true/\cC ks<=6/\KA h (.tup ks) (.ref a)
noncomputable instance aas:DecidableEq (List D):=λa b=>Classical.propDecidable (a=b)
def UI (hu:A.units+10<abQ) (hx:zh s.heap x a) (hy:zh s.heap y b) (h:Q (decide (x=y)) s):à (ø prog w) A (PySem.eqBool (.ref a) (.ref b)) Q E s:=by
 obtain⟨k1,d1,r1⟩:=hx;obtain⟨k2,d2,r2⟩:=hy;obtain⟨as,r1⟩:=KA.reads _ _ r1;obtain⟨bs,r2⟩:=KA.reads _ _ r2;have l1:lay (.tup x)=true:=by simp only[lay];exact xa x k1
 have l2:lay (.tup y)=true:=by simp only[lay];exact xa y k2
 obtain⟨p1,p2⟩:=ko _ l1;obtain⟨q1,q2⟩:=ko _ l2;have e:=SeqAt.eqAt_reads _ _ A s _ _ as bs r1 r2 p1 q1 (by rw[p2,q2];simp only[dep];omega);rw[ra _ _ l1 l2] at e;refine e prog w E Q ?_;have:beq (.tup x) (.tup y)=decide (x=y):=by
  have:=Am x y k1 k2;simp only[beq]
  cases hb:ij x y with
  |true=>exact(Ý (this.mp hb)).symm
  |false=>exact(ñ λz=>by rw[this.mpr z] at hb;cases hb).symm
 rw[this];exact h
def kind (prog:ù) (w:ď):HeapKind prog w (List D) where
 is:=zh
 hash:=λks=>hs w (.tup ks)
 draws:=λks=>dr (.tup ks)
 room:=λA=>A.units+10<abQ
 inj:=λhx hy=>by have:=KA.inj _ _ _ hx.2.2 hy.2.2;injection this
 keeps:=λ{h h' k a d o es ep} x ho hd hs=>⟨x.1,x.2.1,KA.keep (λb u hb hc hq=>(hs.2 b (λe=>by
  subst e;rw[ho] at hb;cases hb;obtain⟨_,_,hq⟩:=hq;rw[hd] at hq;cases hq)).trans hb) _ _ x.2.2⟩
 pyHash:=λhu hk h=>Sw 7 _ (by simp only[dep];have:=hk.2.1;omega) _ _ _ _ _ hk.2.2 (by omega) h
 eqBool:=λhu hx hy h=>UI hu hx hy h
 quiet:=λhk h=>QQ 8 _ (by simp only[dep];have:=hk.2.1;omega) hk.2.2 h
end
end TK
namespace TK
open PySem PySem.W PyProof.Rows DI L2
def DX.ie (h1 h2:ŏ) (h:DX a es h1) (k:∀o,h1.get? a=some o->h2.get? a=some o):DX a es h2:=by
 obtain⟨z,o,xs,ep,ho,r⟩:=h;exact⟨z,o,xs,ep,k o ho,r⟩
def Ke (x:DX a es h):cJ P w H h a (.ext (DX a es)):=by
 obtain⟨z,o,xs,ep,ho,r⟩:=id x;exact⟨x,⟨o,ho⟩,DX.ie⟩
def AllK (w:ď) (ai:List (D×Int)):Prop:=∀p∈ai,∃ks,p.1=.tup ks/\cY ks=true/\cC ks<=6/\p.2=hs w p.1
noncomputable def its:D->List D
 | .tup ks=>ks
 |_=>[]
def XS:List (D×Int)->List á->List (List D×á×Í)
 |p::r,a::as=>(its p.1,a,.bool true)::XS r as
 |_,_=>[]
def UJ:∀{as:List á},ai.length=as.length->∀(p:D×Int) (a:á),XS (ai++[p]) (as++[a])=XS ai as++[(its p.1,a,.bool true)]:=by
 induction ai with
 |nil =>
  intro as e p a
  cases as with
  |nil=>rfl
  |cons _ _=>simp at e
 |cons q r ih =>
  intro as e p a
  cases as with
  |nil=>simp at e
  |cons b as =>
   simp only[ċ,XS];rw[ih (by simpa using e)]
def UK:∀{as:List á},ai.length=as.length->(XS ai as).length=ai.length:=by
 induction ai with
 |nil=>intro as e;cases as<;>rfl
 |cons q r ih =>
  intro as e
  cases as with
  |nil=>simp at e
  |cons b as=>simp only[XS,å,ih (by simpa using e)]
def Il:∀{as:List á},AllK w ai->ai.length=as.length->(XS ai as).map (λx=>D.tup x.1)=ai.map (·.1):=by
 induction ai with
 |nil=>intro as _ e;cases as<;>rfl
 |cons q r ih =>
  intro as k e
  cases as with
  |nil=>simp at e
  |cons b as =>
   obtain⟨ks,e1,_⟩:=k q Ò;simp only[XS,Ö,ih (λp hp=>k p (Ñ _ hp)) (by simpa using e),e1,its]
def Hi:∀{as:List á},AllK w ai->ai.length=as.length ->
  (((ai.map (·.2)).zip as).map λp=>(⟨p.1,.ref p.2,.bool true⟩:ab9))=(XS ai as).map (entryOfKey (kind P w)):=by
 induction ai with
 |nil=>intro as _ e;cases as<;>rfl
 |cons q r ih =>
  intro as k e
  cases as with
  |nil=>simp at e
  |cons b as =>
   obtain⟨ks,e1,_,_,e2⟩:=k q Ò;simp only[XS,Ö,ı,ih (λp hp=>k p (Ñ _ hp)) (by simpa using e)];rw[e2,e1];rfl
section
variable {X:Cx} {π:List (á×Obj)} {σ:L2.St} {s:É} {w:Wd}
mutual
def BR (I:Inv X π σ w.H s):∀(d:D) (v:V) (u:Í),kd d=true->DI.DV X.K w d v->RelV v u->KA s.heap d u
 | .int i,v,u,_,h,r=>by cases h;exact r
 | .str x,v,u,_,h,r=>by cases h;exact r
 | .tup ds,v,u,k,h,r=>by
  simp only[DI.DV] at h;obtain⟨a,xs,rfl,hq,dv⟩:=h;cases r;obtain⟨its,r1,⟨o,ho,hc,n,hd⟩,_⟩:=I.tuple hq;simp only[kd] at k;simp only[KA];exact⟨a,o,_,n,rfl,ho,hc,hd,Bl I ds xs _ k dv (by simpa using r1)⟩
 | .au,_,_,k,_,_=>by cases k
 | .bl _,_,_,k,_,_=>by cases k
 | .lst _,_,_,k,_,_=>by cases k
 | .bb _,_,_,k,_,_=>by cases k
 | .aj _,_,_,k,_,_=>by cases k
 | .ty _,_,_,k,_,_=>by cases k
 | .bG _,_,_,k,_,_=>by cases k
def Bl (I:Inv X π σ w.H s):∀(ds:List D) (vs:List V) (us:List Í),cY ds=true->DI.ar X.K w ds vs->Vals vs us->cZ s.heap ds us
 | [],vs,us,_,h,r=>by cases h;cases r;rfl
 |d::ds,vs,us,k,h,r=>by
  obtain⟨v,r',rfl,h1,h2⟩:=h;simp only[cY,Ç] at k
  cases r with
  |cons r rs=>exact⟨_,_,rfl,BR I d v _ k.1 h1 r,Bl I ds r' _ k.2 h2 rs⟩
end
def V7 (I:Inv X π σ w.H s):∀{ai:List (D×Int)} {as:List á},AllK W ai->DI.ar X.K w (ai.map (·.1)) (as.map V.ref)->∀x∈XS ai as,zh s.heap x.1 x.2.1:=by
 intro ai
 induction ai with
 |nil =>
  intro as _ _ x hx
  cases as<;>cases hx
 |cons q r ih =>
  intro as k dv x hx
  cases as with
  |nil=>cases hx
  |cons b as =>
   obtain⟨v,r',e,h1,h2⟩:=dv
   injection e with e1 e2
   subst e1 e2;obtain⟨ks,e1,k1,k2,_⟩:=k q Ò
   rcases Ó.mp hx with rfl|hx
   ·refine⟨by simpa only [e1,its] using k1,by simpa only [e1,its] using k2,?_⟩
    have h1:DI.DV X.K w q.1 (V.ref b):=h1;rw[e1] at h1;simpa only [e1,its] using BR I (.tup ks) (.ref b) (.ref b) (by simpa only [kd] using k1) h1 rfl
   ·exact ih (λp hp=>k p (Ñ _ hp)) h2 x hx
end
def fP (w:ď) (ai:List (D×Int)) (k:D):List (D×Int):=if (ai.any λp=>beq p.1 k)=true then ai else ai++[(k,hs w k)]
def keyOk (w:ď) (p:D×Int):Bool:=match p.1 with
 | .tup ks=>cY ks&&decide (cC ks<=6)&&decide (p.2=hs w p.1)
 |_=>false
def Pc (h:ai.all (keyOk w)=true):AllK w ai:=λp hp=>by
 have:=ý.mp h p hp;unfold keyOk at this;split at this
 ·rename_i ks e
  simp only[Ç,È] at this;exact⟨ks,e,this.1.1,this.1.2,this.2⟩
 ·cases this
def nq (k:AllK w ai) (hk:cY ks=true):(ai.any λp=>beq p.1 (.tup ks))=true↔D.tup ks∈ai.map (·.1):=by
 rw[Ņ,ö];constructor
 ·rintro ⟨p,hp,hb⟩
  obtain⟨ls,e,k1,_⟩:=k p hp;refine⟨p,hp,?_⟩;exact(rg p.1 (.tup ks) (by rw[e];simpa only [kd] using k1) (by simpa only [kd] using hk)).mp hb
 ·rintro ⟨p,hp,e⟩
  exact⟨p,hp,by rw[e];exact(rg _ _ (by simpa only [kd] using hk) (by simpa only [kd] using hk)).mpr rfl⟩
def JB (k:AllK w ai) (e:ai.length=as.length) (ks:List D):ks∈(XS ai as).map (·.1)↔D.tup ks∈ai.map (·.1):=by
 rw[<- Il k e,ö,ö];exact⟨λ⟨x,hx,e⟩=>⟨x,hx,by rw[e]⟩,λ⟨x,hx,e⟩=>⟨x,hx,by injection e⟩⟩
def M5 {xs:List (List D×á×Í)} (h:∀x∈xs,x.2.2=Value.bool true) (k:List D):xs.map (putAt k (.bool true))=xs:=by
 induction xs with
 |nil=>rfl
 |cons x xs ih =>
  rw[Ö,ih λy hy=>h y (Ñ _ hy)];congr 1;unfold putAt;split
  ·obtain⟨a,b,c⟩:=x
   have:=h (a,b,c) Ò;simp only at this;rw[this]
  ·rfl
def Im:∀(ai:List (D×Int)) (as:List á),∀x∈XS ai as,x.2.2=Value.bool true
 | [],as,x,h=>by cases as<;>cases h
 |p::r,[],x,h=>by cases h
 |p::r,a::as,x,h=>by
  rcases Ó.mp h with rfl|h
  ·rfl
  ·exact Im r as x h
def Pd {w:ď} {ai:List (D×Int)} {as:List á} (k:AllK w ai) (e:ai.length=as.length) {ks:List D} (hk:cY ks=true) (a:á) :
  storedH (XS ai as) ks a (.bool true)=XS (fP w ai (.tup ks)) (if (ai.any λp=>beq p.1 (.tup ks))=true then as else as++[a]):=by
 unfold fP;by_cases hm:(ai.any λp=>beq p.1 (.tup ks))=true
 ·rw[Ú hm,Ú hm]
  have jD:=(JB k e ks).mpr ((nq k hk).mp hm)
  cases h:atKey (XS ai as) ks with
  |none =>
   exfalso;obtain⟨x,hx,e'⟩:=ö.mp jD;unfold atKey at h;rw[Option.map_eq_none_iff,List.find?_eq_none] at h;exact h x hx (Ý e')
  |some p=>rw[storedH_old h,M5 (Im ai as)]
 ·rw[æ hm,æ hm]
  have jD:ks∉(XS ai as).map (·.1):=λz=>hm ((nq k hk).mpr ((JB k e ks).mp z));have h:atKey (XS ai as) ks=none:=by
   unfold atKey;rw[Option.map_eq_none_iff,List.find?_eq_none];intro x hx z;exact jD (ö.mpr ⟨x,hx,Ĭ z⟩)
  rw[storedH_new h,UJ e];rfl
def QR (k:AllK w ai) (hk:cY ks=true) (hd:cC ks<=6):AllK w (fP w ai (.tup ks)):=by
 unfold fP;split
 ·exact k
 ·intro p hp
  rcases Ù.mp hp with hp|hp
  ·exact k p hp
  ·rw[Ü.mp hp]
   exact⟨ks,rfl,hk,hd,rfl⟩
def N8 (k:AllK w ai) (hk:cY ks=true) (h:(ai.map (·.1)).Nodup):((fP w ai (.tup ks)).map (·.1)).Nodup:=by
 unfold fP;split
 ·exact h
 ·rename_i hm
  rw[č,aav];refine⟨h,by simp,λa ha b hb=>?_⟩;have:b=.tup ks:=by simpa using hb
  rw[this];intro z;rw[z] at ha;exact hm ((nq k hk).mpr ha)
def kM (w:ď) (d k x:D) (s:ag):Option ag:=match d,k,x with
 | .aj j,.tup ks,.bl true=>match s[j]? with
  |some (.dT ai)=>if (cY ks&&decide (cC ks<=6)&&ai.all (keyOk w)&&decide (ai.length<Õ))=true then some (s.set j (.dT (fP w ai (.tup ks)))) else none
  |_=>none
 |_,_,_=>none
def mE (w:ď) (f o i:DI.Env->ag->Res D):DI.Env->ag->Res Fl:=λenv s=>ao (f env s) λx s=>ao (o env s) λd s=>ao (i env s) λn s=>match kM w d n x s with
 |some s'=>ok (.nx env) s'
 |none=>none
def yb:DI.Env->ag->Res D:=λ_ s=>ok (.aj s.length) (s++[.dT []])
section
variable {X:Cx} {Ξ:Wd->bx->Prop} {e o i:ļ} {pos iF:Pos} {f fo fi:DI.Env->ag->Res D}
def Sx:PE X (.Dict [] [] pos) (λ_ H Q=>∀p,H p=none->Q (.ref p) (upd H p (.ext (DX p [])))):=λπ s σ H Q I h=>by
 refine wpAny_Dict_empty ⟨.ref s.heap.objs.size,_,I.laid (a:=s.heap.objs.size) (o:=.ext (DX s.heap.objs.size [])) (t':=s.toks) (λ_ _ q=>Á _ q) (Nat.le_refl _) (Ke ?_),rfl,h _ (I.aF.fresh (Nat.le_refl _))⟩;have hb:=I.big;exact⟨by simp only[beq_eq_false_iff_ne,ne_eq];intro z;rw[z] at hb;exact é _ hb,_,#[],0,Ì _ rfl,⟨rfl,rfl,rfl⟩,rfl,rfl⟩
def UL:PE X (.Dict [] [] pos) (tE X.K Ξ yb):=cQ Sx fun σ H Q aA=>by
 obtain⟨w,env,eH,S,eo,h⟩:=aA;subst eH;intro p hp;have le:=(Fw.cell (o:=.ext (DX p [])) (c:=.dT []) S hp).le (K:=X.K);refine h (w.cell p (.ext (DX p [])) (.dT [])) le (S.BL hp ⟨[],dw,rfl,abv⟩) rfl (.ref p) ⟨p,?_,rfl⟩;show (w.ρ++[p])[w.aI.length]?=some p;rw[<- S.len];simp
def V8 (K:Ĳ) (W:ď):yn:=λo i v H Q=>∃(w:Wd) (d b:á) (ai:List (D×Int)) (as:List á) (ks:List D),w.H=H/\o=.ref d/\i=.ref b/\v=.bl true/\H d=some (.ext (DX d ((ai.map (·.2)).zip as))) /\
 AllK W ai/\ai.length<Õ/\DI.ar K w (ai.map (·.1)) (as.map V.ref)/\(ai.map (·.1)).Nodup/\cY ks=true/\cC ks<=6/\DI.DV K w (.tup ks) (.ref b) /\
 Q (upd H d (.ext (DX d (((fP W ai (.tup ks)).map (·.2)).zip (if (ai.any λp=>beq p.1 (.tup ks))=true then as else as++[b])))))
def QS {w:ď} {ai:List (D×Int)} {as:List á} {ks:List D} {b:á} (e:ai.length=as.length):(fP w ai (.tup ks)).length=(if (ai.any λp=>beq p.1 (.tup ks))=true then as else as++[b]).length:=by
 unfold fP
 split<;>simp[e]
def V9 (hr:bW k X.A):Cr X (V8 X.K X.w):=by
 rintro π s σ H o i v ov iv u Q I ro ri rv ⟨w,d,b,ai,as,ks,rfl,rfl,rfl,rfl,hd,cx,hl,aq,nd,k1,k2,dk,q⟩;cases ro;cases ri;cases rv;have len:ai.length=as.length:=by have:=aq.length;simpa using this
 obtain⟨⟨hz,ob,es,ep,ho,hex,r6,zi⟩,_,_⟩:=I.aF _ _ hd;have hD:s.heap.DictOfH (kind X.prog X.w) d (XS ai as):=⟨ob,es,ep,ho,hex,r6,by rw[zi,Hi cx len],V7 I cx aq,by
  have:=Il cx len;rw[<- this] at nd;have e:(XS ai as).map (λx=>D.tup x.1)=((XS ai as).map (·.1)).map D.tup:=by rw[Ē];rfl
  rw[e] at nd;exact List.Pairwise.of_map D.tup (λa b h e=>h (by rw[e])) nd⟩
 have hu:X.A.units+100<abQ:=by have:=hr.un;have:abQ=9900:=rfl;omega
 refine wpAny_setItem_heap (hsz:=by rw[UK len];exact Nat.le_of_lt hl) (knd:=kind X.prog X.w) (show X.A.in1.units+10<abQ from ?_) ⟨k1,k2,BR I (.tup ks) (.ref b) (.ref b) (by simpa only [kd] using k1) dk rfl⟩ hD λh' LM hs=>⟨_,?_,q⟩
 ·have:X.A.in1.units<=X.A.units+1:=by first|exact Nat.le_refl _|exact Ŷ _
  omega
 ·rw[Pd cx len k1] at LM
  obtain⟨o',gu,uV,dg,Xp,Wa,Xq,_⟩:=LM;refine HR I (by rw[hd];exact True.intro) hs ⟨o',dg⟩ (Ke ⟨hz,o',gu,uV,dg,Xp,Wa,?_⟩);rw[Xq];exact(Hi (QR cx k1 k2) (QS len)).symm
def JC (hW:X.w=W) (hr:bW k X.A) (he:PE X e (tE X.K Ξ f)) (ho:PE X o (tE X.K Ξ fo)) (hi:PE X i (tE X.K Ξ fi))
 (ha:∀v,aaR (.Subscript o i iF) X.env v=(do
   let ov <- aac [v] (Ť o X.env)
   let iv <- aac [v,ov] (Ť i X.env)
   abg iF
   aac [v,ov,iv] (setItem ov iv v)
   release [v,ov,iv] []):=by intro _;rfl)
 (hs:ε [.Subscript o i iF] e pos.line X.env=pure false:=by rfl) (hw:ζ [.Subscript o i iF] e X.env=pure none:=by rfl)
 (h1:(Ū [.Subscript o i iF] X.env).map (·.2)=[aaR (.Subscript o i iF) X.env]:=by rfl):PS X (.Assign [.Subscript o i iF] e pos) (tS X.K Ξ (mE W f fo fi)) :=
 jl (A4 he (IW ho hi (V9 hr) ha) hs hw h1) λD0 σ H aA=>by
  subst hW;obtain⟨w,env,eH,S,eo,h⟩:=aA;subst eH;refine⟨w,env,rfl,S,eo,(Out.ao h).mono λw1 x l1 S1 h1 u du=>?_⟩;refine⟨w1,env,rfl,S1,eo.le l1,(Out.ao h1).mono λw2 d l2 S2 h2 v dv=>?_⟩;refine⟨w2,env,rfl,S2,eo.le (l1.trans l2),(Out.ao h2).mono λw3 n l3 S3 h3 m dm=>?_⟩
  cases hd:kM X.w d n x w3.aI with
  |none=>rw[hd] at h3;exact h3.elim
  |some s' =>
   rw[hd] at h3;unfold kM at hd;split at hd
   ·rename_i j ks
    split at hd
    ·rename_i ai hj
     split at hd
     ·rename_i hc
      simp only[Ç,È] at hc;obtain⟨⟨⟨k1,k2⟩,k3⟩,k4⟩:=hc;cases hd;obtain⟨a,e1,rfl⟩:=(l3 _ _ dv);obtain⟨as,q1,q2,q3⟩:=S3.cell j a _ e1 hj;have cx:=Pc k3;have eu:u=.bl true:=((l2.trans l3) _ _ du);have LN:=dm;simp only[DI.DV] at LN;obtain⟨b,_,rfl,_⟩:=LN;have len:ai.length=as.length:=by have:=q2.length;simpa using this
      have le:=(Fw.put (o:=.ext (DX a (((fP X.w ai (.tup ks)).map (·.2)).zip (if (ai.any λp=>beq p.1 (.tup ks))=true then as else as++[b])))) (c:=.dT (fP X.w ai (.tup ks))) S3 e1 hj (by intro z;cases z)).le
      refine⟨w3,a,b,ai,as,ks,rfl,rfl,rfl,eu,q1,cx,k4,q2,q3,k1,k2,dm,?_⟩;refine h3 (w3.put j a _ _) le (S3.CK e1 hj (by intro z;cases z) ⟨_,dw,?_,N8 cx k1 q3⟩) rfl σ (eo.le (l1.trans (l2.trans (l3.trans le))));refine le.all ?_;unfold fP;split
      ·exact q2
      ·rw[č,č]
       exact q2.append (ar.one dm)
     ·cases hd
    ·cases hd
   ·cases hd
end
end TK
namespace TK
open PySem PySem.W PyProof.Rows DI L2
def jv (h:ŏ) (d:á) (es:Array ab9) (ep:Nat):Prop:=∃o,h.get? d=some o/\o.ExactDict/\o.data=.dict es ep
section
variable {prog:ù} {w:ď} {A:đ} {E:Í->É->Prop} {s:É} {d it:á} {es:Array ab9} {ep i:Nat}
def jv.ty (r:jv s.heap d es ep):s.TypeIs (.ref d) "dict":=by obtain⟨o,ho,x,_⟩:=r;exact⟨o,ho,x.1⟩
def jv.lt (r:jv h d es ep):d<h.objs.size:=by obtain⟨o,ho,_⟩:=r;exact Î ho
def QT (hd:(d==ł)=false) (r:jv s.heap d es ep)
 (hQ:Q (.ref s.heap.objs.size) { s with heap:=s.heap.push { cls:=.type "dict_keyiterator",data:=.fields #[.ref d,.int 0 0,.int es.size 0,.int ep 0] } }):à (ø prog w) A (pyIter (.ref d)) Q E s:=by
 have ty:=r.ty;obtain⟨o,ho,x,r6⟩:=r;refine wpAny_pyIter_slot ty F.slot_dict_iter (Ą F.slot_dict_iter ty F.entry_dict_iter ?_ (F.args_dict_iter_1 _));unfold ň.«dict.__iter__» Builtin.Dict.dictSlotNone;refine À (À (wpAny_notOrdered_dict ty ?_));refine(Â ?_:à _ _ (pure (ν d)) _ _ s);show à _ _ (Builtin.Dict.showsAll d >>= _) _ _ s;unfold Builtin.Dict.showsAll;rw[æ (by rw[hd];decide)];refine À (Â (À (wpAny_dictEntries ho r6 (À (wpAny_dictEpoch ho r6 ?_)))));refine À (ó (Â ⟨_,rfl,"dict_keyiterator",_,⟨_,Ì _ rfl,rfl⟩,Ŀ.lookup,?_⟩));simpa [Ŋ] using hQ
def QU (hit:s.heap.IsKeyIter it d i es.size ep) (r:jv s.heap d es ep) (he:es[i]?=some e)
 (hQ:∀h',h'.IsKeyIter it d (i+1) es.size ep->ĸ it s.heap h'->Q (some e.key) { s with heap:=h' }):à (ø prog w) A (ť (.ref it)) Q E s:=by
 obtain⟨oi,sH,ci,di⟩:=id hit;obtain⟨od,fq,_,qi⟩:=r;have own:abM "dict_keyiterator"=false:=by decide
 unfold ť;refine À (ι (Ĉ (name:=ì "__next__") hit.typeIs Ŀ (Ą Ŀ hit.typeIs F.entry_dict_keyiterator_next ?_ (F.args_dict_keyiterator_next_1 _))));refine À (Â (À (À (À (Œ hit.typeIs (Â (À (aaH sH di ?_))))))));simp only[own,Ã,ê]
 refine(show à _ _ (if (ν d==Value.none)=true then _ else _) _ _ s from ?_)
 rw[æ (show ¬ ((ν d==Value.none)=true) by intro z;cases z)];refine À (Â (À (wpAny_dictEntries fq qi ?_)));rw[æ (by simp)];refine À (Â (À (wpAny_dictEpoch fq qi ?_)));rw[æ (by simp)];refine Â ?_;simp only[show ¬ ((i:Int)<0) by omega,ê,õ,he];refine À (À (Œ hit.typeIs (Â (À (wpAny_isOneOf_keyiter hit.typeIs ?_)))));show à _ _ (setField (.ref it) 1 (Ŋ ((i:Int)+1)) >>= _) _ _ s;refine À (Ś sH di (by simp) ?_);generalize hh:s.heap.update it (Obj.mapFields (·.setIfInBounds 1 (Ŋ ((i:Int)+1))))=h';have sb:ĸ it s.heap h':=by rw[<- hh];exact ĝ ..
 have nx:h'.IsKeyIter it d (i+1) es.size ep:=by
  rw[<- hh];exact⟨_,ă _ sH (Ľ (Ď di _)),(aam ..).trans ci,by rw[Ď di];simp[Ŋ]⟩
 refine À (ė (À (wpAny_isOneOf_keyiter (s:={ s with heap:=h' }) nx.typeIs ?_)))
 show à _ _ (pure e.key) _ _ _;exact Â (Â ⟨_,rfl,Â (hQ _ nx sb)⟩)
def Sy (hh:A.handled=none) (hit:s.heap.IsKeyIter it d i es.size ep) (r:jv s.heap d es ep) (yS:es.size<=i)
 (hQ:∀h',abj it s.heap h'->Q none { s with heap:=h' }):à (ø prog w) A (ť (.ref it)) Q E s:=by
 obtain⟨oi,sH,ci,di⟩:=id hit;obtain⟨od,fq,_,qi⟩:=r;have own:abM "dict_keyiterator"=false:=by decide
 unfold ť;refine À (ι (Ĉ (name:=ì "__next__") hit.typeIs Ŀ (Ą Ŀ hit.typeIs F.entry_dict_keyiterator_next ?_ (F.args_dict_keyiterator_next_1 _))));refine À (Â (À (À (À (Œ hit.typeIs (Â (À (aaH sH di ?_))))))));simp only[own,Ã,ê]
 refine(show à _ _ (if (ν d==Value.none)=true then _ else _) _ _ s from ?_)
 rw[æ (show ¬ ((ν d==Value.none)=true) by intro z;cases z)];refine À (Â (À (wpAny_dictEntries fq qi ?_)));rw[æ (by simp)];refine À (Â (À (wpAny_dictEpoch fq qi ?_)));rw[æ (by simp)];refine Â ?_;simp only[show ¬ ((i:Int)<0) by omega,ê,õ,Array.getElem?_eq_none yS];refine À (À (Œ hit.typeIs (Â ?_)));refine(À (Ś sH di (by simp) ?_):à _ _ (setField (.ref it) 0 .none >>= _) _ _ s);show à _ _ (newExc (.type "StopIteration") [] >>= _) _ _ _;simp only[newExc,newTuple];refine À (À (ó ?_ (by size_fits)))
 refine À (m:=aaE _ _) (š (a:=Value.none) (by first|rfl | (simp only[aaE];rfl)) (ó ?_ (by size_fits)))
 simp only[raiseNew];refine À (wpAny_handled ?_);rw[show A.in1.handled=none from hh];refine À (Â (wpAny_throw ?_));refine À (aaL (T:="StopIteration") (b:=true) ⟨_,Ì _ rfl,rfl⟩ isSubtype_stop ?_);exact Â (hQ _ (((ĝ ..).extBut.push _).push _))
def jv.at (r:jv h d es ep) (k:∀o,h.get? d=some o->h'.get? d=some o):jv h' d es ep:=by obtain⟨o,ho,x⟩:=r;exact⟨o,k o ho,x⟩
def Pe (hh:A.handled=none) (I:á) (fF:d≠I) :
  Walks prog w A I [I,d] [I] es.size (λi v=>∃e,es[i]?=some e/\v=e.key) (λi h=>h.IsKeyIter I d i es.size ep/\jv h d es ep) where
 sub:=λb hb=>by simp at hb;simp[hb]
 frame:=λ_ _ _ st hk=>⟨st.1.at λo e=>hk I (by simp) o e,st.2.at λo e=>hk d (by simp) o e⟩
 item:=λi s Q E hi st hQ=>by
  have he:es[i]?=some es[i]:=by simp[hi]
  exact QU st.1 st.2 he λh' nx sb=>hQ _ h' s.toks ⟨_,he,rfl⟩ ⟨nx,st.2.at λo e=>sb.extBut d o fF e⟩ λb o hb e=>sb.extBut b o (λh=>hb (by simp[h])) e
 done:=λs Q E st hQ=>Sy hh st.1 st.2 (Nat.le_refl _) λh' YN=>hQ h' s.toks λb o hb e=>YN b o (λh=>hb (by simp[h])) e
 self:=λ_ _ _ _ st hQ=>wpAny_pyIter_keyiter st.1 hQ
def Sz (lo:(d==ł)=false):KdlSrc prog w "dict" d d es.size (λi v=>∃e,es[i]?=some e/\v=e.key) (λh=>jv h d es ep) where
 type:=λ_ hm=>hm.ty
 there:=λ_ hm=>⟨hm.lt,hm.lt⟩
 keep:=λ_ _ hm hk=>hm.at λo e=>hk d (.inl rfl) o e
 notList:=by decide
 notTuple:=by decide
 hint:=λ_ _ _ _ hm hq=>kdl_hint_dict hm.ty hq
 iter:=λ_ _ hh hm=>⟨_,_,(λ_ _ hq=>QT lo hm hq),Pe hh _ (è hm.lt),⟨⟨_,Ì _ rfl,rfl,rfl⟩,hm.at λo e=>Á _ e⟩⟩
end
def rj (ds:List D) (s:ag):Res D:=match ds with
 | [.aj j]=>match s[j]? with
  |some (.dT ai)=>if ai.length<=Õ then ok (.lst (ai.map (·.1))) s else none
  |_=>none
 |_=>none
def Hj:∀as:List á,Vals (as.map V.ref) (as.map ν)
 | []=>.nil
 |_::as=>.cons rfl (Hj as)
section
variable {X:Cx} {Ξ:Wd->bx->Prop}
def SA (hc:X.calm=true):bY X (.type "list") (rC X.K Ξ rj):=by
 rintro π s σ H xs us Q I r ⟨w,ds,rfl,S,aq,h⟩;unfold rj at h;split at h
 ·rename_i j
  split at h
  ·rename_i ai hj
   split at h
   ·rename_i hl
    obtain⟨v,r',rfl,h1,h2⟩:=aq;cases h2;obtain⟨a,e1,rfl⟩:=h1
    cases r with
    |cons r rs =>
    cases rs;cases r;obtain⟨as,q1,q2,q3⟩:=S.cell j a _ e1 hj;have len:ai.length=as.length:=by have:=q2.length;simpa using this
    obtain⟨⟨hz,ob,es,ep,ho,hex,r6,zi⟩,_,_⟩:=I.aF _ _ q1;have ez:es.size=as.length:=by rw[<- þ,zi];simp[len]
    refine kdl_call (Sz hz) (I.ok.hd hc) (⟨ob,ho,hex,r6⟩:jv s.heap a es ep) (by rw[ez,<- len];exact hl) λh' tk fC c' hk hD jW=>?_;have hf:w.H s.heap.objs.size=none:=I.aF.fresh (Nat.le_refl _);have ev:fC.toList=as.map ν:=by
     apply Ż;intro i;rw[ĵ];by_cases hi:i<as.length
     ·have DG:i<fC.size:=by rw[jW.1,ez];exact hi
      have h3:fC[i]?=some fC[i]:=Array.getElem?_eq_getElem DG;obtain⟨e,he,ev⟩:=jW.2 i _ h3;rw[h3,ev];rw[<- ĵ,zi] at he;have YO:i<ai.length:=by omega
      simp only[ç,List.zip,List.getElem?_zipWith,Ð YO,Ð hi,Ŏ] at he |-;rw[<- Option.some.inj he]
     ·rw[Array.getElem?_eq_none (by rw[jW.1,ez];omega),Ċ (by rw[Ä];omega)]
    refine⟨.ref s.heap.objs.size,upd w.H s.heap.objs.size (.lst (as.map V.ref)),I.laid (t':=tk) hk (Nat.le_refl _) ?_,rfl,?_⟩
    ·refine⟨by rw[Ä,<- len];exact hl,fC.toList,c',?_,by simpa using hD⟩
     rw[ev];exact Hj as
    ·exact h (w.grow _ (.lst (as.map V.ref))) (Fw.grow hf).le (S.grow hf) rfl (.ref s.heap.objs.size) ⟨_,_,rfl,⟨(show ¬ w.Z _ from nB S hf),dw⟩,(Fw.grow hf).le.all q2⟩
   ·exact h.elim
  ·exact h.elim
 ·exact h.elim
end
open HT
section
variable {s:É}
def Wb (kx:kd x=true) (ky:kd y=true) (hu:A.units+dep x<abQ) (hx:KA s.heap x vx) (hy:KA s.heap y vy):SeqAt.EqAt A s vx vy (beq x y):=by
 obtain⟨as,r1⟩:=KA.reads _ _ hx;obtain⟨bs,r2⟩:=KA.reads _ _ hy;obtain⟨p1,p2⟩:=ko _ (oZ _ kx);obtain⟨q1,q2⟩:=ko _ (oZ _ ky);have:=SeqAt.eqAt_reads _ _ A s vx vy as bs r1 r2 p1 q1 (by rw[p2];omega);rw[ra _ _ (oZ _ kx) (oZ _ ky)] at this;exact this
mutual
def Wc:∀(A:đ) (x y:D) (b:Bool) (vx vy:Í),iq x y=some b->kd x=true->kd y=true->A.units+5*dep x+5<abQ->KA s.heap x vx->KA s.heap y vy->CZ A s vx vy b
 |A,.int i,y,b,vx,vy,h,_,_,_,hx,hy=>by
  cases y with
  |int j =>
   cases h;obtain⟨t,rfl⟩:=hx;obtain⟨t',rfl⟩:=hy;exact λprog w E Q q=>GZ A s i t j t' prog w E Q q
  |_=>cases h
 |A,.str i,y,b,vx,vy,h,_,_,_,hx,hy=>by
  cases y with
  |str j =>
   cases h;obtain⟨t,rfl⟩:=hx;obtain⟨t',rfl⟩:=hy;exact λprog w E Q q=>(PyProof.Rows.lt_str q:à (ø prog w) A (Č .Lt (.str i t) (.str j t')) Q E s)
  |_=>cases h
 |A,.tup xs,y,b,vx,vy,h,kx,ky,hu,hx,hy=>by
  cases y with
  |tup ys =>
   simp only[iq] at h;simp only[KA] at hx hy;obtain⟨a,o,its,n,rfl,ho,hc,hd,r⟩:=hx;obtain⟨a',o',its',n',rfl,dg,i9,ei,r'⟩:=hy;simp only[dep] at hu;simp only[kd] at kx ky;exact λprog w E Q q=>Ib ⟨o,ho,hc,n,hd⟩ ⟨o',dg,i9,n',ei⟩ (λA' hA=>Bm A' xs ys b _ _ h kx ky (by omega) r r') (by omega) q
  |_=>cases h
 |_,.au,_,_,_,_,_,k,_,_,_,_=>by cases k
 |_,.bl _,_,_,_,_,_,k,_,_,_,_=>by cases k
 |_,.lst _,_,_,_,_,_,k,_,_,_,_=>by cases k
 |_,.bb _,_,_,_,_,_,k,_,_,_,_=>by cases k
 |_,.aj _,_,_,_,_,_,k,_,_,_,_=>by cases k
 |_,.ty _,_,_,_,_,_,k,_,_,_,_=>by cases k
 |_,.bG _,_,_,_,_,_,k,_,_,_,_=>by cases k
def Bm:∀(A:đ) (xs ys:List D) (b:Bool) (ps qs:List Í),fO xs ys=some b->cY xs=true->cY ys=true->A.units+5*cC xs+5<abQ->cZ s.heap xs ps->cZ s.heap ys qs->jn A s ps qs b
 |A,[],ys,b,ps,qs,h,_,_,_,hx,hy=>by
  cases hx
  cases ys with
  |nil=>cases h;cases hy;exact .nn
  |cons y ys=>cases h;obtain⟨v,r,rfl,_⟩:=hy;exact .nc _ _
 |A,x::xs,ys,b,ps,qs,h,kx,ky,hu,hx,hy=>by
  obtain⟨v,r,rfl,h1,h2⟩:=hx
  cases ys with
  |nil=>cases h;cases hy;exact .cn _ _
  |cons y ys =>
   obtain⟨u,r',rfl,g1,g2⟩:=hy;simp only[cY,Ç] at kx ky;simp only[cC] at hu;have m1:=Nat.le_max_left (dep x) (cC xs);have m2:=abF (dep x) (cC xs);have he:=Wb (A:=A) kx.1 ky.1 (by omega) h1 g1;simp only[fO] at h;split at h
   ·rename_i hb
    rw[hb] at he;exact .eq he (Bm A xs ys b _ _ h kx.2 ky.2 (by omega) h2 g2)
   ·rename_i hb
    rw[aaM] at hb;rw[hb] at he;exact .lt he (Wc A x y b _ _ h kx.1 ky.1 (by omega) h1 g1)
end
end
section
variable {prog:ù} {w:ď} {A:đ} {E:Í->É->Prop} {s:É}
def Pf (h:jn A s xs ys b):∀(i:Nat),fin=decide (xs.length<ys.length)->Q b s->KatLex prog w A t fin Q (xs.zip ys) (i+1) s:=by
 induction h with
 |nn=>intro i hf q;rw[hf];exact q
 |nc y ys=>intro i hf q;rw[hf];exact q
 |cn x xs=>intro i hf q;rw[hf];exact q
 |eq he _ ih =>
  intro i hf q;rw[ı];exact kat_cons (he prog w _ _ (kat_yes (ih (i+1) (by rw[hf];simp) q)))
 |lt he hr =>
  intro i hf q;rw[ı];refine kat_cons (he prog w _ _ (kat_no ?_));rw[show (t&&(i+1==0))=false by simp];exact kat_one _ _ (hr prog w _ _ q)
def Ph (hs:x=y->jn A s xs ys b) (hf:fin=decide (xs.length<ys.length)) (q:Q (if x=y then b else decide (x.cps.toList<y.cps.toList)) s) :
  KatLex prog w A true fin Q ((.str x t::xs).zip (.str y u::ys)) 0 s:=by
 rw[ı];refine kat_cons (wpAny_eqBool_str ?_);by_cases e:x=y
 ·rw[Ú e] at q
  rw[Ý e];exact kat_yes (Pf (hs e) 0 hf q)
 ·rw[æ e] at q
  rw[ñ e];exact kat_no (oneLt_str q)
end
inductive Pg where
 |made (m d:Int) (h l:List Int)
 |aQ (m d k:Int)
noncomputable def ti (l:List Int):D:=.tup (l.map D.int)
def Pg.d:Pg->D
 | .made m d h l=>.tup [.str "made",.int m,.int d,.tup [ti h,ti l]]
 | .aQ m d k=>.tup [.str "mended",.int m,.int d,.int k]
def JD (h:ti a=ti b):a=b:=by
 injection h with h
 exact List.map_inj_right (λx y e=>by injection e) |>.mp h
def Pg.Kf {p q:Pg} (h:p.d=q.d):p=q:=by
 cases p<;>cases q<;>simp only[Pg.d,D.tup.injEq,aa4,D.int.injEq,and_true,reduceCtorEq,and_false,false_and] at h
 ·obtain⟨_,h1,h2,h3,h4⟩:=h
  rw[h1,h2,JD h3,JD h4]
 ·obtain⟨_,h1,h2,h3⟩:=h
  rw[h1,h2,h3]
noncomputable def encL:List Int->List Int
 | []=>[0]
 |x::xs=>1::x::encL xs
def Pg.enc:Pg->List Int
 | .made m d h l=>0::m::d::(encL h++encL l)
 | .aQ m d k=>[1,m,d,k]
def An:∀{a b u v:List Int},encL a++u=encL b++v->a=b/\u=v
 | [],[],u,v,h=>by simpa [encL] using h
 | [],y::b,u,v,h=>by simp[encL] at h
 |x::a,[],u,v,h=>by simp[encL] at h
 |x::a,y::b,u,v,h=>by
  simp only[encL,ċ,aa4,true_and] at h;obtain⟨h1,h2⟩:=An h.2;exact⟨by rw[h.1,h1],h2⟩
def Pg.SD {p q:Pg} (h:p.enc=q.enc):p=q:=by
 cases p<;>cases q<;>simp only[Pg.enc,aa4,and_true,true_and,reduceCtorEq,false_and,Int.reduceEq] at h
 ·obtain⟨h1,h2,h3⟩:=h
  have h4:=An (u:=encL _++[]) (v:=encL _++[]) (by simpa using h3);have h5:=An h4.2;rw[h1,h2,h4.1,h5.1]
 ·rw[h.1,h.2.1,h.2.2]
def fu:ST.Ord Pg where
 lt p q:=lexLt p.enc q.enc
 Ea p:=ST.AR _
 tr _ _ _ h g:=ST.UA _ _ _ h g
 vV _ _ h g:=Pg.SD (ST.Sv _ _ h g)
def GA:∀a b:List Int,ij (a.map D.int) (b.map D.int)=decide (a=b)
 | [],[]=>rfl
 | [],_::_=>rfl
 |_::_,[]=>rfl
 |x::a,y::b=>by
  simp only[Ö,ij,beq,GA a b]
  by_cases e:x=y<;>simp[e]
def GB:∀a b:List Int,fO (a.map D.int) (b.map D.int)=some (lexLt a b)
 | [],[]=>rfl
 | [],_::_=>rfl
 |_::_,[]=>rfl
 |x::a,y::b=>by
  simp only[Ö,fO,beq,iq,jI,GB a b]
  by_cases e:x=y<;>simp[e]
def AS:∀a b u v:List Int,lexLt (encL a++u) (encL b++v)=if a=b then lexLt u v else lexLt a b
 | [],[],u,v=>by simp[encL,jI]
 | [],y::b,u,v=>by simp[encL,jI];rfl
 |x::a,[],u,v=>by simp[encL,jI];rfl
 |x::a,y::b,u,v=>by
  simp only[encL,ċ,jI,û,AS a b u v,aa4]
  by_cases e:x=y<;>simp[e]
def Kg (p q:Pg):iq p.d q.d=some (fu.lt p q):=by
 have n1:¬ ((ì "made")=ì "mended"):=by decide +kernel
 have n2:¬ ((ì "mended")=ì "made"):=by decide +kernel
 have s1:decide ((ì "made").cps.toList<(ì "mended").cps.toList)=true:=by decide +kernel
 have s2:decide ((ì "mended").cps.toList<(ì "made").cps.toList)=false:=by decide +kernel
 show _=some (lexLt p.enc q.enc)
 cases p with
 |made m d h l =>
  cases q with
  |made m' d' h' l' =>
   simp only[Pg.d,Pg.enc,iq,fO,beq,ij,ti,jI,GA,GB,AS,Ġ,û,Ř];have:=AS l l' [] [];simp only[Ō] at this;rw[this]
   by_cases e1:m=m'<;>by_cases e2:d=d'<;>by_cases e3:h=h'<;>by_cases e4:l=l'<;>simp[e1,e2,e3,e4,ST.AR]
  |aQ m' d' k'=>simp only[Pg.d,Pg.enc,iq,fO,beq,jI,beq_iff_eq,n1,s1,ê];simp
 |aQ m d k =>
  cases q with
  |made m' d' h' l'=>simp only[Pg.d,Pg.enc,iq,fO,beq,jI,beq_iff_eq,n2,s2,ê];simp
  |aQ m' d' k' =>
   simp only[Pg.d,Pg.enc,iq,fO,beq,jI,Ġ,û]
   by_cases e1:m=m'<;>by_cases e2:d=d'<;>by_cases e3:k=k'<;>simp[e1,e2,e3,ST.AR]
def SE (l:List Int):cY (l.map D.int)=true:=by
 induction l with
 |nil=>rfl
 |cons x l ih=>simpa only [Ö,cY,kd,í] using ih
def QV (l:List Int):cC (l.map D.int)=0:=by
 induction l with
 |nil=>rfl
 |cons x l ih=>simp only[Ö,cC,dep,ih];rfl
def kB (p:Pg):kd p.d=true:=by
 have s1:abC "made"=true:=by decide +kernel
 have s2:abC "mended"=true:=by decide +kernel
 cases p<;>simp only[Pg.d,kd,cY,ti,SE,s1,s2,Ĥ]
def Bn (p:Pg):dep p.d<=3:=by
 cases p<;>simp only[Pg.d,dep,cC,ti,QV]<;>decide
def Hk (p:Pg):∃(x:Str) (r:List D),p.d=.tup (.str x::r):=by
 cases p<;>exact⟨_,_,rfl⟩
def BS {h:ŏ} {p:Pg} {v:Í} (q:KA h p.d v):∃(x:Str) (r:List D) (a:á) (o:Obj) (its:Array Í) (n:Nat) (t:Tok) (us:List Í),p.d=.tup (.str x::r)/\v=.ref a/\h.get? a=some o/\o.cls=.type "tuple"/\o.data=.seq its n/\its.toList=.str x t::us/\cZ h r us/\cY r=true:=by
 obtain⟨x,r,e⟩:=Hk p;have k:=kB p;rw[e] at q k;simp only[KA] at q;obtain⟨a,o,its,n,e1,ho,hc,hd,u,us,e2,⟨t,e3⟩,r2⟩:=q;simp only[kd,cY,Ç] at k;exact⟨x,r,a,o,its,n,t,us,e,e1,ho,hc,hd,by rw[e2,e3],r2,k.2⟩
section
variable {prog:ù} {w:ď} {A:đ} {E:Í->É->Prop} {s:É}
def Pj:∀{ps:List Pg} {us:List Í},cZ s.heap (ps.map Pg.d) us->∃fs,KatTups s.heap us fs/\(∀v∈fs,∃x t,v=Value.str x t)/\fs.length=us.length:=by
 intro ps
 induction ps with
 |nil=>intro us h;cases h;exact⟨[],KatTups.nil,λv (hv:v∈[])=>(ĕ hv).elim,rfl⟩
 |cons p ps ih =>
  intro us h;obtain⟨v,r,rfl,h1,h2⟩:=h;obtain⟨fs,k1,k2,k3⟩:=ih h2;obtain⟨x,_,a,o,its,n,t,vs,_,rfl,ho,hc,hd,hi,_⟩:=BS h1;refine⟨.str x t::fs,.cons ho hc hd (by rw[<- ĵ,hi];rfl) k1,λv hv=>?_,by simp[k3]⟩
  rcases Ó.mp hv with rfl|hv
  ·exact⟨x,t,rfl⟩
  ·exact k2 v hv
def kas_get:∀{ds:List D} {us:List Í},cZ h ds us->∀i,i<us.length->KA h (ds.getD i .au) (us.getD i Value.none):=by
 intro ds
 induction ds with
 |nil=>intro us h i hi;cases h;cases hi
 |cons d ds ih =>
  intro us h i hi;obtain⟨v,r,rfl,h1,h2⟩:=h
  cases i with
  |zero=>exact h1
  |succ i=>exact ih h2 i (by simpa using hi)
def SF:∀{ds:List D} {us:List Í},cZ h ds us->ds.length=us.length:=by
 intro ds
 induction ds with
 |nil=>intro us h;cases h;rfl
 |cons d ds ih=>intro us h;obtain⟨v,r,rfl,h1,h2⟩:=h;simp[ih h2]
def UM (hu:A.units+100<abQ) (h1:KA s.heap p.d v) (h2:KA s.heap q.d u) (hC:C (fu.lt p q) s):à (ø prog w) A (keyLt' (tuples' true) v u) C E s:=by
 obtain⟨x,r,a,o,its,n,t,vs,e,rfl,ho,hc,hd,hi,kr,k⟩:=BS h1;obtain⟨x',r',a',o',its',n',t',vs',e',rfl,dg,i9,ei,qu,YQ,k'⟩:=BS h2;have dl:=Bn p;rw[e] at dl;simp only[dep,cC] at dl;have lt:=Kg p q;rw[e,e'] at lt;simp only[iq,fO] at lt;have be:beq (.str x) (.str x')=true↔x=x':=by simp[beq]
 refine kat_lt ho hd dg ei ?_;rw[hi,qu];refine Ph (b:=fu.lt p q) (λex=>?_) ?_ ?_
 ·rw[Ú (be.mpr ex)] at lt
  exact Bm A r r' _ _ _ lt k k' (by have:=abF (0:Nat) (cC r);omega) kr YQ
 ·simp[<- þ,hi,qu]
 ·by_cases ex:x=x'
  ·rw[Ú ex];exact hC
  ·rw[æ λz=>ex (be.mp z)] at lt
   rw[æ ex,Option.some.inj lt];exact hC
def QW {us:List Í} {ps:List Pg} (t:cZ s.heap (ps.map Pg.d) us) (h2:2<=us.length) (hu:A.units+100<abQ) (d:Pg):ST.yF prog w A fu (λi=>ps.getD i d) us s:=by
 obtain⟨fs,k1,k2,k3⟩:=Pj t;have hl:=SF t;rw[Ä] at hl;have at_:∀i,i<us.length->KA s.heap (ps.getD i d).d (us.getD i Value.none):=λi hi=>by
  have:=kas_get t i hi;rwa [show (ps.map Pg.d).getD i .au=(ps.getD i d).d by simp[ź,ç,Ð (show i<ps.length by omega)]] at this
 unfold ST.yF;refine kat_kind (T:=.type "str") k1 (by omega) (λv hv=>?_) (by decide) ⟨rfl,λi j C hi hj hC=>?_⟩
 ·obtain⟨x,tk,rfl⟩:=k2 v hv
  exact .of_pure rfl
 ·exact UM hu (at_ i hi) (at_ j hj) hC
end
end TK
namespace TK
open PySem PySem.W PyProof.Rows DI L2
open Classical in
def yc (xs:List D):Option D:=if h:∃ps:List Pg,xs=ps.map Pg.d then some (.lst ((ST.jS fu (Classical.choose h)).map Pg.d)) else none
def N9:∀{a b:List Pg},a.map Pg.d=b.map Pg.d->a=b:=λh=>List.map_inj_right (λ_ _ e=>Pg.Kf e) |>.mp h
def Hl (ps:List Pg):yc (ps.map Pg.d)=some (.lst ((ST.jS fu ps).map Pg.d)):=by
 unfold yc;have h:∃qs:List Pg,ps.map Pg.d=qs.map Pg.d:=⟨ps,rfl⟩;rw[dif_pos h];have:=N9 (Classical.choose_spec h);rw[<- this]
def rl (ds:List D) (s:ag):Res D:=match ds with
 | [d]=>match res d s with
  | .lst xs=>if xs.length<64 then bB (yc xs) s else none
  |_=>none
 |_=>none
section
variable {X:Cx} {Ξ:Wd->bx->Prop}
def SG (ps:List Pg):cY (ps.map Pg.d)=true:=by
 induction ps with
 |nil=>rfl
 |cons p ps ih=>simp only[Ö,cY,kB,ih,Ĥ]
def SH (hr:bW k X.A):bY X (.builtin "sorted") (rC X.K Ξ rl):=by
 rintro π s σ H xs us Q I r ⟨w,ds,rfl,S,aq,h⟩;unfold rl at h;split at h
 ·obtain⟨v,rfl,dv⟩:=lL aq
  split at h
  ·rename_i es e1
   obtain⟨a,xs,rfl,ha,aq⟩:=jL S dv e1;split at h
   ·rename_i hz
    obtain⟨d',e2,h⟩:=fx h;obtain⟨u,rfl,ru⟩:=vals1 r;cases ru;obtain⟨its,r1,pl,hx⟩:=I.list (bu.of ha);have hl:its.length=es.length:=r1.length.symm.trans aq.length.symm;have e3:=e2;unfold yc at e3;split at e3
    ·rename_i hp
     obtain⟨ps,en⟩:=hp;clear e3;subst en;rw[Hl] at e2;cases e2;have DF:ps.length=its.length:=by rw[hl,Ä]
     refine ST.O5 (O:=fu) (x:=λi=>ps.getD i (.aQ 0 0 0)) pl.isList (by omega) (λh2 h1 ho=>QW (cZ.keep (λb o hb _ _=>ho b o hb) _ _ (Bl I _ _ _ (SG ps) aq r1)) h2 (by have:=hr.un;show X.A.units+1+1+100<abQ;have:abQ=9900:=rfl;omega) _) λq h' b e hp hu ho hb hn=>?_;have hm:∀i∈q.toList,i<(ps.map Pg.d).length:=λi hi=>by rw[<- hl];exact Ā.mp (hp.2.mem_iff.mp hi)
     rw[<- DF] at hp hu;have mO:=I.aF.fresh hb;refine⟨.ref b,_,I.laid (o:=.lst (q.toList.map λi=>xs.getD i .au)) (t':=s.toks) ho hb ⟨?_,_,e,Pb r1 (by rw[hl];exact hm),hn⟩,rfl,?_⟩
     ·rw[Ä,þ,hp.1,DF,r1.length.symm];exact hx
     ·refine rV S ?_ h b mO
      rw[<- QN hp hu];exact QM aq hm
    ·cases e3
   ·exact h.elim
  ·exact h.elim
 ·exact h.elim
end
section
variable {prog:ù} {w:ď} {A:đ} {E:Í->É->Prop} {s:É}
end
section
variable {X:Cx} {Ξ:Wd->bx->Prop} {e:ļ} {te:TE} {pos p2 p4:Pos} {f:DI.Env->ag->Res D}
end
def BU (f:DI.Env->ag->Res D):DI.Env->ag->Res D:=λenv s=>ao (f env s) λx s=>ao (truth x s) λb s=>ok (.bl (!b)) s
def UN (ha:PE X a (tE X.K Ξ f)):PE X (.UnaryOp .Not a pos) (tE X.K Ξ (BU f)):=by
 rintro π s σ H Q I ⟨w,env,rfl,S,eo,h⟩;refine UnaryOp_ (aE (ha π s σ w.H (λv H'=>∃b,pJ X.K v H' b/\Q (.bl (!b)) H') I ⟨w,env,rfl,S,eo,(Out.ao h).mono λw1 x l1 S1 h1 v dv=>?_⟩) λv s1 ⟨x,H1,I1,r1,b,q1,q2⟩=>?_)
 ·obtain⟨b,t,h2⟩:=pJ.of S1 dv (Out.ao h1)
  exact⟨b,t,aJ S1 h2 _ rfl⟩
 ·refine not_of (ĳ (IZ π s1 σ H1 x v (λc H2=>Q (.bl (!c)) H2) I1 r1 ⟨b,q1,q2⟩) (λc s2 ⟨H2,I2,q⟩=>⟨.bl (!c),H2,I2,rfl,q⟩) λ_ _ z=>z)
end TK
namespace ST
open PySem PySem.Spec PyProof.Rows
section
variable {prog:ù} {w:ď} {A:đ} {E:Í->É->Prop} {s:É}
end
end ST
namespace DI
open PySem L2
section
variable {X:Cx} {Ξ:Wd->bx->Prop}
end
section
variable {X:Cx} {Ξ:Wd->bx->Prop} {e o i:ļ} {pos iF:Pos} {f fo fi:Env->ag->Res D}
end
end DI
namespace L2
open PySem PySem.Spec PyProof.Rows
section
variable {X:Cx}
end
end L2
namespace DI
open PySem L2
section
variable {X:Cx} {Ξ:Wd->bx->Prop}
end
end DI
namespace L2
open PySem PySem.Spec PyProof.Rows
section
variable {X:Cx}
end
end L2
namespace DI
open PySem L2
section
variable {X:Cx} {Ξ:Wd->bx->Prop} {a:ļ} {pos:Pos} {f:Env->ag->Res D}
end
end DI
namespace L2
open PySem PySem.Spec PyProof.Rows
section
variable {X:Cx}
end
end L2
namespace DI
open PySem L2
section
variable {X:Cx} {Ξ:Wd->bx->Prop} {pos:Pos}
def UO:PE X (.Dict [] [] pos) (tE X.K Ξ (eC (.bb []))):=cQ Qm fun σ H Q aA=>by
 obtain⟨w,env,eH,S,eo,h⟩:=aA;subst eH;intro p hp;exact h (w.grow p (.dK [])) (Fw.grow hp).le (S.grow hp) rfl (.ref p) ⟨p,rfl,(show ¬ w.Z p from nB S hp),dw⟩
end
end DI
namespace L2
open PySem PySem.Spec PyProof.Rows
end L2
namespace DI
open PySem L2
section
variable {X:Cx} {Ξ:Wd->bx->Prop}
end
end DI
namespace L2
open PySem PySem.Spec PyProof.Rows
open AutoSeq1 (wpAny_loadPart')
section
variable {prog:ù} {w:ď} {A:đ} {E:Í->É->Prop} {s:É}
end
section
variable {X:Cx}
end
end L2
namespace DI
open PySem L2
section
variable {X:Cx} {Ξ:Wd->bx->Prop} {a:ļ} {p pos:Pos} {fa:Env->ag->Res (List D)}
end
end DI
namespace L2
open PySem PySem.Spec PyProof.Rows
section
variable {X:Cx} {pos:Pos}
def We (i j k:Nat) (ta:TA):TS:=λD σ H=>ta σ H λvs H1=>∃v w u,vs=[v,w,u]/\D.nx (((σ.set i (some v)).set j (some w)).set k (some u)) H1
def vals3 (r:Vals [v,w,u] us):∃a b c,us=[a,b,c]/\RelV v a/\RelV w b/\RelV u c:=by
 cases r with
 |cons p q =>
  obtain⟨b,c,rfl,h1,h2⟩:=vals2 q;exact⟨_,b,c,rfl,p,h1,h2⟩
def SI {kt k2 iG} (hc:X.calm=true) (hN:X.N.Nodup) (hi:X.N[i]?=some x) (hj:X.N[j]?=some y) (hk:X.N[k]?=some z) (fm:i≠j) (qh:i≠k) (Ed:j≠k)
 (hx:X.env.scope.names.lookup x=some .local) (hy:X.env.scope.names.lookup y=some .local) (hz:X.env.scope.names.lookup z=some .local) (ha:PA X [a,b,c] ta)
 (hw:ζ [.Tuple [.Name x px,.Name y py,.Name z pz] kt pt] (.Tuple [a,b,c] k2 iG) X.env=pure (some [x,y,z]))
 (hs:ε [.Tuple [.Name x px,.Name y py,.Name z pz] kt pt] (.Tuple [a,b,c] k2 iG) pos.line X.env=pure false) :
  PS X (.Assign [.Tuple [.Name x px,.Name y py,.Name z pz] kt pt] (.Tuple [a,b,c] k2 iG) pos) (We i j k ta):=by
 intro π s σ H D I h;rw[exec_Assign_arm];refine À (Ŕ ?_);rw[hs];refine À (Â ?_);rw[æ (by decide)];refine À (Tuple_ (aE (ha _ π s σ H _ I h) λus s1 aA=>?_));obtain⟨vs,H1,I1,r1,v,w,u,e1,q1⟩:=aA;subst e1;obtain⟨u1,u2,u3,rfl,rv,qa,ru⟩:=vals3 r1;refine ó ?_ (by show 3<=Õ;decide)
 have I2:Inv X π σ H1 { s1 with heap:=s1.heap.push { cls:=.type "tuple",data:=.seq [u1,u2,u3].toArray } }:=I1.kept (t':=s1.toks) λb o e=>Á _ e
 rw[hw];refine À (Â ?_)
 show à (ø X.prog X.w) X.A (do rule "assign.swapped-stores";let items <- unpackItems (.ref s1.heap.objs.size) 3 none;abJ [λv=>abK X.env z v,λv=>abK X.env y v,λv=>abK X.env x v] items.reverse;pure Flow.next) _ _ _
 refine À (Ŝ (À (unpackItems_tuple (items:=#[u1,u2,u3]) (I.ok.hd hc) (IsTup.new s1.heap _) λh' De=>?_)));have I3:=I2.kept (h':=h') (t':=s1.toks) λb o e=>De b o (è (Î e)) e
 show à _ _ (abJ [λv=>abK X.env z v,λv=>abK X.env y v,λv=>abK X.env x v] [u3,u2,u1] >>= λ_=>pure Flow.next) _ _ _
 refine À (Ů (abq (mq I3 hN hk (.inl hz) ru (λs2 I4=>?_) (.inr hz))));refine Ů (abq (mq I4 hN hj (.inl hy) qa (λs3 I5=>?_) (.inr hy)));refine Ů (abq (mq I5 hN hi (.inl hx) rv (λs4 I6=>assignInOrder_nil (Â ?_)) (.inr hx)));rw[List.set_comm _ _ (Ň Ed),List.set_comm _ _ (Ň qh),List.set_comm _ _ (Ň fm)] at I6;exact⟨_,H1,I6,q1⟩
end
end L2
namespace DI
open PySem L2
section
variable {X:Cx} {Ξ:Wd->bx->Prop} {a b c:ļ} {pos:Pos} {fa:Env->ag->Res (List D)}
def yG (i j k:Nat) (fa:Env->ag->Res (List D)):Env->ag->Res Fl:=λenv s=>ao (fa env s) λds s=>match ds with
 | [x,y,z]=>ok (.nx (((env.set i (some x)).set j (some y)).set k (some z))) s
 |_=>none
def UP (i j k:Nat) {x y z:Str} {px py pz pt:Pos} {kt k2 iG} (hc:X.calm=true) (hN:X.N.Nodup) (ha:PA X [a,b,c] (tA X.K Ξ fa)) (hi:X.N[i]?=some x:=by rfl) (hj:X.N[j]?=some y:=by rfl) (hk:X.N[k]?=some z:=by rfl) (fm:i≠j:=by decide) (qh:i≠k:=by decide) (Ed:j≠k:=by decide)
  (hx:X.env.scope.names.lookup x=some .local:=by rfl) (hy:X.env.scope.names.lookup y=some .local:=by rfl) (hz:X.env.scope.names.lookup z=some .local:=by rfl)
  (hw:ζ [.Tuple [.Name x px,.Name y py,.Name z pz] kt pt] (.Tuple [a,b,c] k2 iG) X.env=pure (some [x,y,z]):=by rfl)
  (hs:ε [.Tuple [.Name x px,.Name y py,.Name z pz] kt pt] (.Tuple [a,b,c] k2 iG) pos.line X.env=pure false:=by rfl) :
  PS X (.Assign [.Tuple [.Name x px,.Name y py,.Name z pz] kt pt] (.Tuple [a,b,c] k2 iG) pos) (tS X.K Ξ (yG i j k fa)):=jl (SI hc hN hi hj hk fm qh Ed hx hy hz ha hw hs) λD0 σ H aA=>by
 obtain⟨w,env,eH,S,eo,h⟩:=aA;subst eH;refine⟨w,env,rfl,S,eo,(Out.ao h).mono λw1 ds l1 S1 h1 vs aq=>?_⟩;split at h1
 ·obtain⟨v,r,rfl,dv,dr⟩:=aq
  obtain⟨u,t,rfl,du,dt⟩:=tQ dr;exact⟨v,u,t,rfl,aJ S1 h1 _ ((((eo.le l1).set dv i).set du j).set dt k)⟩
 ·exact h1.elim
end
def qM:List D->ag->Res D:=aU 2 6 (ay (yG 2 3 4 (ae (e2 aV (ax bJ (ae (aa 0) (ae (eC (.int 3)) ah))) (eC (.int 0))) (ae (eNew ah) (ae (e2 bR (eC (.int 2)) (ax bJ (ae (aa 0) (ae (eC (.int 9)) ah)))) ah)))) (ay (fb (bS (ae (eC (.int 31)) ah)) (gN 5) (ay (aL (cL (kT (aa 2) (e2 aV (ax bJ (ae (aa 0) (ae (aa 4) ah))) (eC (.int 0)))) (e2 fJ (aa 5) (aa 1))) (gN 2)) (cj (cN (aa 2)) (fK (ik (aa 3) (aa 5))) cb))) (aN (jX (aa 3)))))
def xm (W:ď):List D->ag->Res D:=aU 1 12 (ay (aL (aZ (ae TK.yb (ae (e2 bR (eC (.int 1)) (ax bJ (ae (aa 0) (ae (eC (.int 3)) ah)))) (ae (e2 bR (eC (.int 1)) (ax bJ (ae (aa 0) (ae (eC (.int 3)) ah)))) ah)))) (gT [(gN 1),(gN 2),(gN 3)])) (ay (fb (bS (ae (aa 2) ah)) (gN 4) (ay (aL (aZ (ae (aW 1 [] (bS (ae (eC (.int 8)) ah)) (gN 0) bT (eNew ah)) (ae (eNew ah) ah))) (gT [(gN 5),(gN 6)])) (ay (fb (bS (ae (ax bJ (ae (aa 0) (ae (eC (.int 4)) ah))) ah)) (gN 7) (ay (aL (aZ (ae (ax bJ (ae (aa 0) (ae (eC (.int 8)) ah))) (ae (ax bJ (ae (aa 0) (ae (eC (.int 31)) ah))) ah))) (gT [(gN 8),(gN 9)])) (ay (fK (ik (e2 ak (aa 5) (aa 8)) (aa 9))) (TK.mE W (eC (.bl true)) (aa 1) (aZ (ae (eC (.str "mended")) (ae (aa 4) (ae (aa 9) (ae (aa 8) ah))))))))) (ay (fb (bS (ae (eC (.int 8)) ah)) (gN 8) (fK (ik (aa 6) (ax qM (ae (aa 0) (ae (e2 ak (aa 5) (aa 8)) ah)))))) (fb (bS (ae (ax bJ (ae (aa 0) (ae (eC (.int 5)) ah))) ah)) (gN 7) (ay (aL (ax bJ (ae (aa 0) (ae (eC (.int 31)) ah))) (gN 9)) (ay (aL (aW 1 [0,3] (bS (ae (eC (.int 8)) ah)) (gN 0) (aH (e2 aV (ax bJ (ae (aa 1) (ae (aa 2) ah))) (eC (.int 0)))) (aa 0)) (gN 10)) (ay (aL (eB cF (ae (aW 1 [9,6] (bq (aa 10)) (gN 0) (aH (e2 cy (aa 1) (e2 ak (aa 2) (aa 0)))) (aa 0)) ah)) (gN 11)) (TK.mE W (eC (.bl true)) (aa 1) (aZ (ae (eC (.str "made")) (ae (aa 4) (ae (aa 9) (ae (aZ (ae (aa 11) (ae (eB cF (ae (aW 1 [9,6] (bq (aa 10)) (gN 0) (aH (e2 fJ (aa 1) (e2 ak (aa 2) (aa 0)))) (aa 0)) ah)) ah))) ah)))))))))))))) (aN (eB cF (ae (eB TK.rl (ae (eB TK.rj (ae (aa 1) ah)) ah)) ah)))))
def qF:List D->ag->Res D:=aU 2 2 (aN (pN (eB rY (ae (aW 1 [1] (bq (aa 0)) (gN 0) bT (e2 cy (aa 0) (aa 1))) ah))))
def qH:List D->ag->Res D:=aU 1 3 (ay (cj (fQ (fk (cN (eB cv (ae (aa 0) (ae (eC (.ty "tuple")) ah))))) (aH (e2 gr (eB bN (ae (aa 0) ah)) (eC (.int 2))))) (aN (eC (.bl false))) cb) (ay (aL (aa 0) (gT [(gN 1),(gN 2)])) (aN (cL (ax sV (ae (aa 1) ah)) (cL (ax sV (ae (aa 2) ah)) (ax qF (ae (aa 1) (ae (aa 2) ah))))))))
def sZ:List D->ag->Res D:=aU 1 1 (aN (ax lD (ae (aa 0) (ae (eC (.int (4))) ah))))
def nj:List D->ag->Res D:=aU 1 1 (aN (ax lD (ae (aa 0) (ae (eC (.int (31))) ah))))
def wR:List D->ag->Res D:=aU 1 5 (ay (cj (fQ (fk (cN (eB cv (ae (aa 0) (ae (eC (.ty "tuple")) ah))))) (aH (e2 gr (eB bN (ae (aa 0) ah)) (eC (.int 4))))) (aN (eC (.bl false))) cb) (ay (aL (aa 0) (gT [(gN 1),(gN 2),(gN 3),(gN 4)])) (ay (cj (fQ (fk (cN (ax sZ (ae (aa 2) ah)))) (fk (cN (ax nj (ae (aa 3) ah))))) (aN (eC (.bl false))) cb) (ay (cj (aH (e2 aV (aa 1) (eC (.str "made")))) (aN (ax qH (ae (aa 4) ah))) cb) (aN (cL (e2 aV (aa 1) (eC (.str "mended"))) (ax tu (ae (aa 4) ah))))))))
def wK:List D->ag->Res D:=aU 1 1 (aN (cL (eB cv (ae (aa 0) (ae (eC (.ty "tuple")) ah))) (cL (e2 kJ (eB bN (ae (aa 0) ah)) (eC (.int (24)))) (cL (eB kK (ae (aW 1 [] (bq (aa 0)) (gN 0) bT (ax wR (ae (aa 0) ah))) ah)) (ax oJ (ae (aa 0) ah))))))
def lC:List D->ag->Res D:=aU 4 4 (aN (aW 1 [1,2,3] (bq (aa 0)) (gN 0) (cK (aH (e2 aV (e2 ak (aa 0) (eC (.int 0))) (eC (.str "made")))) (cK (aH (e2 aV (e2 ak (aa 0) (eC (.int 1))) (aa 1))) (aH (e2 cy (aa 2) (e2 ak (e2 ak (aa 0) (eC (.int 3))) (aa 3)))))) (e2 ak (aa 0) (eC (.int 2)))))
def oG:List D->ag->Res D:=aU 3 3 (aN (aW 1 [1,2] (bq (aa 0)) (gN 0) (cK (aH (e2 aV (e2 ak (aa 0) (eC (.int 0))) (eC (.str "mended")))) (cK (aH (e2 aV (e2 ak (aa 0) (eC (.int 1))) (aa 1))) (aH (e2 aV (e2 ak (aa 0) (eC (.int 3))) (aa 2))))) (e2 ak (aa 0) (eC (.int 2)))))
def sR:List D->ag->Res D:=aU 3 3 (aN (eB rY (ae (aW 1 [1,2] (bq (aa 0)) (gN 0) bT (mQ fX kJ (aa 1) (aa 0) (aa 2))) ah)))
def tw:List D->ag->Res D:=aU 3 5 (ay (aL (ax lC (ae (aa 0) (ae (aa 1) (ae (aa 2) (ae (eC (.int (1))) ah))))) (gN 3)) (ay (aL (ax oG (ae (aa 0) (ae (aa 1) (ae (aa 2) ah)))) (gN 4)) (aN (rf 2 [3,4] (bq (e1 qK (ax lC (ae (aa 0) (ae (aa 1) (ae (aa 2) (ae (eC (.int (0))) ah))))))) (gN 0) bT (vt (ae (aa 0) (ae (eC (.int (31))) ah))) (gN 1) (cK (fQ (aH (e2 cy (aa 1) (aa 2))) (cK (aH (e2 aV (aa 1) (aa 0))) (aH (e2 cy (aa 0) (aa 3))))) (fk (cN (ax sR (ae (aa 3) (ae (aa 0) (ae (aa 1) ah))))))) (aZ (ae (aa 0) (ae (aa 1) ah)))))))
def sW:List D->ag->Res D:=aU 1 1 (aN (Jv 4 [0] (bS (ae (eC (.int (4))) ah)) (gN 0) bT (bS (ae (eC (.int (8))) ah)) (gN 1) bT (bq (ax tw (ae (aa 4) (ae (aa 0) (ae (aa 1) ah))))) (gT [gN 2,gN 3]) bT (aZ (ae (aa 0) (ae (aa 1) (ae (aa 2) (ae (aa 3) ah)))))))
def wU:List D->ag->Res D:=aU 1 1 (aN (cL (ax wK (ae (aa 0) ah)) (TK.BU (ax sW (ae (aa 0) ah)))))
def Ao:List D->ag->Res D:=aU 3 3 (aN (kT (e2 cy (eC (.bl true)) (aa 0)) (cL (e2 cy (eC (.bl false)) (aa 0)) (kT (pN (aa 1)) (aa 2)))))
def AU:List D->ag->Res D:=aU 3 3 (aN (cL (pN (aa 1)) (kT (e2 cy (eC (.bl false)) (aa 0)) (cL (aa 2) (e2 gr (aa 0) (fM ah))))))
def rm:List D->ag->Res D:=aU 3 9 (ay (aL (mv 1 [] (bS (ae (eC (.int 31)) ah)) (gN 0) bT (fM (ae (eC (.bl false)) (ae (eC (.bl true)) ah)))) (gN 3)) (ay (aL (mv 1 [] (bS (ae (eC (.int 32)) ah)) (gN 0) bT (eC (.bl false))) (gN 4)) (ay (fb (bq (aa 0)) (gN 5) (ay (cj (cK (aH (e2 aV (e2 ak (aa 5) (eC (.int 0))) (eC (.str "mended")))) (cK (aH (e2 aV (e2 ak (aa 5) (eC (.int 1))) (aa 1))) (aH (e2 aV (e2 ak (aa 5) (eC (.int 3))) (aa 2))))) (ay (il (aW 1 [] (bq (e2 ak (aa 3) (e2 ak (aa 5) (eC (.int 2))))) (gN 0) (fk (cN (aa 0))) (aa 0)) (aa 3) (e2 ak (aa 5) (eC (.int 2)))) (il (eC (.bl true)) (aa 4) (e2 ak (aa 5) (eC (.int 2))))) cb) (cj (cK (aH (e2 aV (e2 ak (aa 5) (eC (.int 0))) (eC (.str "made")))) (cK (aH (e2 aV (e2 ak (aa 5) (eC (.int 1))) (aa 1))) (aH (e2 cy (aa 2) (e2 bR (e2 ak (e2 ak (aa 5) (eC (.int 3))) (eC (.int 0))) (e2 ak (e2 ak (aa 5) (eC (.int 3))) (eC (.int 1)))))))) (il (aW 1 [2,5] (bq (e2 ak (aa 3) (e2 ak (aa 5) (eC (.int 2))))) (gN 0) (aH (e2 aV (aa 0) (e2 cy (aa 1) (e2 ak (e2 ak (aa 2) (eC (.int 3))) (eC (.int 0)))))) (aa 0)) (aa 3) (e2 ak (aa 5) (eC (.int 2)))) cb))) (ay (fb (vt (ae (eC (.int 1)) (ae (eC (.int 31)) ah))) (gN 6) (ay (aL (aZ (ae (e2 ak (aa 3) (e2 rE (aa 6) (eC (.int 1)))) (ae (e2 ak (aa 4) (aa 6)) ah))) (gT [(gN 7),(gN 8)])) (il (aW 1 [7,8] (bq (e2 ak (aa 3) (aa 6))) (gN 0) (fQ (cK (cN (aa 0)) (aH (e2 gr (aa 1) (fM ah)))) (cN (ax AU (ae (aa 1) (ae (aa 0) (ae (aa 2) ah)))))) (aa 0)) (aa 3) (aa 6)))) (ay (fb (Ec (ae (eC (.int 29)) (ae (e1 jR (eC (.int 1))) (ae (e1 jR (eC (.int 1))) ah)))) (gN 6) (il (aW 1 [3,4,6] (bq (e2 ak (aa 3) (aa 6))) (gN 0) (cN (ax Ao (ae (e2 ak (aa 1) (e2 bR (aa 3) (eC (.int 1)))) (ae (aa 0) (ae (e2 ak (aa 2) (e2 bR (aa 3) (eC (.int 1)))) ah))))) (aa 0)) (aa 3) (aa 6))) (aN (aW 1 [] (bq (jX (aa 3))) (gN 0) bT (eB cF (ae (aa 0) ah)))))))))
def wH:List D->ag->Res D:=aU 1 1 (cj (fk (cN (ax wU (ae (aa 0) ah)))) yW cb)
def wz:List D->ag->Res D:=aU 1 1 (cj (fk (cN (ax sZ (ae (aa 0) ah)))) yW cb)
def we:List D->ag->Res D:=aU 3 8 (ay (aL (ax lC (ae (aa 0) (ae (aa 1) (ae (aa 2) (ae (eC (.int (0))) ah))))) (gN 3)) (ay (aL (ax oG (ae (aa 0) (ae (aa 1) (ae (aa 2) ah)))) (gN 4)) (ay (aL (eNew ah) (gN 5)) (ay (aL (eC (.bl false)) (gN 6)) (ay (fb (bS (ae (eC (.int (31))) ah)) (gN 7) (ay (aL (kT (e2 cy (aa 7) (aa 3)) (cL (aa 6) (e2 fJ (aa 7) (aa 4)))) (gN 6)) (cj (cN (aa 6)) (fK (ik (aa 5) (aa 7))) cb))) (aN (jX (aa 5))))))))
def wo:List D->ag->Res D:=aU 3 8 (ay (aL (ax lC (ae (aa 0) (ae (aa 1) (ae (aa 2) (ae (eC (.int (1))) ah))))) (gN 3)) (ay (aL (ax oG (ae (aa 0) (ae (aa 1) (ae (aa 2) ah)))) (gN 4)) (ay (aL (eNew ah) (gN 5)) (ay (aL (eC (.bl false)) (gN 6)) (ay (fb (Eb (ae (eC (.int (31))) ah)) (gN 7) (ay (cj (fQ (cN (aa 6)) (fQ (aH (e2 cy (aa 7) (aa 3))) (aH (e2 cy (aa 7) (aa 4))))) (fK (ik (aa 5) (aa 7))) cb) (aL (cL (kT (aa 6) (e2 cy (aa 7) (aa 3))) (e2 fJ (aa 7) (aa 4))) (gN 6)))) (aN (jX (aa 5))))))))
def tj:List D->ag->Res D:=aU 2 2 (aN (eB cF (ae (aW 1 [1,0] (bS (ae (eC (.int (8))) ah)) (gN 0) (aH (e2 cy (aa 1) (e2 ak (aa 2) (aa 0)))) (aa 0)) ah)))
def wq:List D->ag->Res D:=aU 2 4 (ay (aL (aW 1 [0,1] (bS (ae (eC (.int (8))) ah)) (gN 0) bT (ax we (ae (aa 1) (ae (aa 2) (ae (aa 0) ah))))) (gN 2)) (ay (aL (aW 1 [0,1] (bS (ae (eC (.int (8))) ah)) (gN 0) bT (ax wo (ae (aa 1) (ae (aa 2) (ae (aa 0) ah))))) (gN 3)) (aN (aW 1 [2,3] (bS (ae (eC (.int (31))) ah)) (gN 0) bT (aZ (ae (ax tj (ae (aa 1) (ae (aa 0) ah))) (ae (ax tj (ae (aa 2) (ae (aa 0) ah))) ah)))))))
section
variable {X:Cx} {Ξ:Wd->bx->Prop} {a b:ļ} {pos:Pos} {fa:Env->ag->Res (List D)}
def UQ {j1 j2}:PE X (.Dict [some (.Constant (.str i) j1 p1)] [.Constant (.int v) j2 p2] pos) (tE X.K Ξ (eC (.bb [(abe i,v)]))) :=
 cQ (R3 (Qn IV IT R1) rfl rfl (by simp) (by simp)) fun σ H Q aA=>by
  obtain⟨w,env,eH,S,eo,h⟩:=aA;subst eH;intro p hp;refine⟨dw,[(abe i,.int v)],rfl,by simp,?_⟩;have e:upd (upd w.H p (.dK [])) p (.dK (qY [] [(abe i,.int v)]))=upd w.H p (.dK [(abe i,.int v)]):=by
   funext b;by_cases hb:b=p
   ·subst hb;rw[dw,dw];rfl
   ·rw[bt hb,bt hb,bt hb]
  rw[e];exact h (w.grow p (.dK [(abe i,.int v)])) (Fw.grow hp).le (S.grow hp) rfl (.ref p) ⟨p,rfl,(show ¬ w.Z p from nB S hp),dw⟩
end
noncomputable def notStar:ļ->Bool
 | .Starred ..=>false
 |_=>true
def SJ (h:notStar e=true):Þ (e::es) env=(false,Ť e env)::Þ es env:=by
 cases e<;>first|rfl|cases h
section
variable {X:Cx} {Ξ:Wd->bx->Prop} {e:ļ} {es:List ļ} {f:Env->ag->Res D} {fa:Env->ag->Res (List D)} {pos:Pos}
def cB (ha:PE X e (tE X.K Ξ f)) (hr:PA X es (tA X.K Ξ fa)) (h:notStar e=true):PA X (e::es) (tA X.K Ξ (ae f fa)):=aO ha hr (SJ h)
def UR {e1 e2 e3 e4 e5 e6 e7:ļ} {f1 f2 f3 f4 f5 f6 f7:Env->ag->Res D} (h1:PE X e1 (tE X.K Ξ f1)) (h2:PE X e2 (tE X.K Ξ f2)) (h3:PE X e3 (tE X.K Ξ f3)) (h4:PE X e4 (tE X.K Ξ f4)) (h5:PE X e5 (tE X.K Ξ f5)) (h6:PE X e6 (tE X.K Ξ f6)) (h7:PE X e7 (tE X.K Ξ f7)) (s1:notStar e1=true:=by rfl) (s2:notStar e2=true:=by rfl) (s3:notStar e3=true:=by rfl) (s4:notStar e4=true:=by rfl) (s5:notStar e5=true:=by rfl) (s6:notStar e6=true:=by rfl) (s7:notStar e7=true:=by rfl):PE X (.List [e1,e2,e3,e4,e5,e6,e7] pos) (tE X.K Ξ (fM (ae f1 (ae f2 (ae f3 (ae f4 (ae f5 (ae f6 (ae f7 ah))))))))):=iY (cB h1 (cB h2 (cB h3 (cB h4 (cB h5 (cB h6 (cB h7 bO s7) s6) s5) s4) s3) s2) s1)
def US {e1 e2 e3 e4 e5 e6 e7 e8:ļ} {f1 f2 f3 f4 f5 f6 f7 f8:Env->ag->Res D} (h1:PE X e1 (tE X.K Ξ f1)) (h2:PE X e2 (tE X.K Ξ f2)) (h3:PE X e3 (tE X.K Ξ f3)) (h4:PE X e4 (tE X.K Ξ f4)) (h5:PE X e5 (tE X.K Ξ f5)) (h6:PE X e6 (tE X.K Ξ f6)) (h7:PE X e7 (tE X.K Ξ f7)) (h8:PE X e8 (tE X.K Ξ f8)) (s1:notStar e1=true:=by rfl) (s2:notStar e2=true:=by rfl) (s3:notStar e3=true:=by rfl) (s4:notStar e4=true:=by rfl) (s5:notStar e5=true:=by rfl) (s6:notStar e6=true:=by rfl) (s7:notStar e7=true:=by rfl) (s8:notStar e8=true:=by rfl):PE X (.List [e1,e2,e3,e4,e5,e6,e7,e8] pos) (tE X.K Ξ (fM (ae f1 (ae f2 (ae f3 (ae f4 (ae f5 (ae f6 (ae f7 (ae f8 ah)))))))))):=iY (cB h1 (cB h2 (cB h3 (cB h4 (cB h5 (cB h6 (cB h7 (cB h8 bO s8) s7) s6) s5) s4) s3) s2) s1)
def SK {e1 e2 e3 e4 e5 e6 e7 e8 e9 dj lj ll Ee Ef Eg Eh Ei Ej:ļ} {f1 f2 f3 f4 f5 f6 f7 f8 f9 LO LP LQ LR LS LU LV LW LX:Env->ag->Res D} (h1:PE X e1 (tE X.K Ξ f1)) (h2:PE X e2 (tE X.K Ξ f2)) (h3:PE X e3 (tE X.K Ξ f3)) (h4:PE X e4 (tE X.K Ξ f4)) (h5:PE X e5 (tE X.K Ξ f5)) (h6:PE X e6 (tE X.K Ξ f6)) (h7:PE X e7 (tE X.K Ξ f7)) (h8:PE X e8 (tE X.K Ξ f8)) (h9:PE X e9 (tE X.K Ξ f9)) (YR:PE X dj (tE X.K Ξ LO)) (l8:PE X lj (tE X.K Ξ LP)) (l7:PE X ll (tE X.K Ξ LQ)) (D7:PE X Ee (tE X.K Ξ LR)) (YS:PE X Ef (tE X.K Ξ LS)) (vj:PE X Eg (tE X.K Ξ LU)) (YT:PE X Eh (tE X.K Ξ LV)) (YU:PE X Ei (tE X.K Ξ LW)) (YV:PE X Ej (tE X.K Ξ LX)) (s1:notStar e1=true:=by rfl) (s2:notStar e2=true:=by rfl) (s3:notStar e3=true:=by rfl) (s4:notStar e4=true:=by rfl) (s5:notStar e5=true:=by rfl) (s6:notStar e6=true:=by rfl) (s7:notStar e7=true:=by rfl) (s8:notStar e8=true:=by rfl) (s9:notStar e9=true:=by rfl) (YW:notStar dj=true:=by rfl) (YX:notStar lj=true:=by rfl) (YY:notStar ll=true:=by rfl) (YZ:notStar Ee=true:=by rfl) (Y0:notStar Ef=true:=by rfl) (Y1:notStar Eg=true:=by rfl) (Y2:notStar Eh=true:=by rfl) (Y3:notStar Ei=true:=by rfl) (Y4:notStar Ej=true:=by rfl):PE X (.List [e1,e2,e3,e4,e5,e6,e7,e8,e9,dj,lj,ll,Ee,Ef,Eg,Eh,Ei,Ej] pos) (tE X.K Ξ (fM (ae f1 (ae f2 (ae f3 (ae f4 (ae f5 (ae f6 (ae f7 (ae f8 (ae f9 (ae LO (ae LP (ae LQ (ae LR (ae LS (ae LU (ae LV (ae LW (ae LX ah)))))))))))))))))))):=iY (cB h1 (cB h2 (cB h3 (cB h4 (cB h5 (cB h6 (cB h7 (cB h8 (cB h9 (cB YR (cB l8 (cB l7 (cB D7 (cB YS (cB vj (cB YT (cB YU (cB YV bO Y4) Y3) Y2) Y1) Y0) YZ) YY) YX) YW) s9) s8) s7) s6) s5) s4) s3) s2) s1)
end
end DI
namespace L2
open PySem PySem.Spec PyProof.Rows
def nZ (K:Ĳ) (l:á) (all:List V) (rk:V->Hp->VK->Prop) (rc:R2):List V->V->V->Hp->VK->Prop
 | [],vb,_,H,Q=>aT K H l all/\Q vb H
 |x::xs,vb,kb,H,Q=>aT K H l all/\rk x H λk H1=>rc k kb H1 λz H2=>∃b,z=.bl b/\if b=true then nZ K l all rk rc xs x k H2 Q else nZ K l all rk rc xs vb kb H2 Q
def Kh (K:Ĳ) (l:á) (all:List V) (rk:V->Hp->VK->Prop) (rc:R2) (dv:V) (H:Hp) (Q:VK):Prop:=aT K H l all/\match all with
 | []=>Q dv H
 |x::xs=>rk x H λk H1=>nZ K l all rk rc xs x k H1 Q
noncomputable def vX:Bool->String
 |true=>"max"
 |false=>"min"
noncomputable def Ek:Bool->String
 |true=>"max.loop"
 |false=>"min.loop"
noncomputable def LY:Bool->CmpOp
 |true=>.Gt
 |false=>.Lt
noncomputable def Y5:Bool->ň
 |true=>ň.«max.loop»
 |false=>ň.«min.loop»
noncomputable def Y6:Bool->ň
 |true=>Builtin.max
 |false=>Builtin.min
def yd:∀m,entryFor table (Ek m)=some (Y5 m)
 |true=>PySem.F.entry_max_loop
 |false=>ψ
def lM:∀m,plainId (Ek m)=true
 |true=>PySem.F.plain_max_loop
 |false=>Ħ
def Xr:∀m,builtinKind (vX m)=none
 |true=>PySem.F.kind_max
 |false=>PySem.F.kind_min
def Xs:∀m,plainId (vX m)=true
 |true=>PySem.F.plain_max
 |false=>PySem.F.plain_min
def Xt:∀m,entryFor table (vX m)=some (Y6 m)
 |true=>PySem.F.entry_max
 |false=>PySem.F.entry_min
def Xu:∀(m:Bool) (a:Í),argsOk (vX m) ⟨[a],[]⟩
 |true=>N5
 |false=>N6
def Xv (n:String):ţ n ["key","default"] 0 ⟨[],[]⟩=pure [none,none]:=rfl
def ye:(toString "max"++toString ".loop":String)="max.loop":=by decide
def yf:(toString "min"++toString ".loop":String)="min.loop":=by decide
def QX (m:Bool) {X:Cx} {l I S:á}  {kw:List (Str×Í)} {all:List V} {π:List (á×Obj)} {σ:St} {rc:R2} {Q:VK} (hc:X.calm=true) (k9:l≠I) (iN:S≠I) (vN:S≠l) (hC:aY X.cA (Č (LY m)) rc) :
  ∀(rest:List V) (j:Nat) (s:É) (H:Hp) (vb kb:V) (ub uk:Í) (c:Nat),all.drop j=rest->j<=all.length->Inv X.cA π σ H s->cu X π H S->cu X π H I->s.heap.get? S=some { cls:=.type "list",dict:=none,data:=.seq #[ub,uk] c,slots:=#[] }->s.heap.IsTupleIter I l j->RelV vb ub->RelV kb uk ->
   nZ X.K l all qo rc rest vb kb H Q->aaO (ø X.prog X.w) X.A (.builtin (Ek m) ⟨[.ref I,.none,.ref S],kw⟩) (xF X π σ Q) s:=by
 cases m
 all_goals
  intro rest
  induction rest with
  |nil =>
   intro j s H vb kb ub uk c hd sG I0 fS fI gS hit rb Yq h;obtain⟨hq,h⟩:=h;have hj:j=all.length:=Nat.le_antisymm sG (by simpa using hd);subst hj;obtain⟨its,rv,pl,hz⟩:=I0.tuple hq;have hh:X.A.in1.handled=none:=I0.ok.hd hc;have W:=Walks.tuple (prog:=X.prog) (w:=X.w) (A:=X.A.in1) hh I l k9 its.toArray;have hsz:its.toArray.size=all.length:=by rw[Ô];exact rv.length.symm
   refine ī (yd _) ?_;rw[Ė (lM _) _];show à _ X.A.in1 (abT (.ref S) >>= _) _ _ _;refine À (Ě gS rfl ?_);show à _ X.A.in1 (tryCatch (ť (.ref I)) _ >>= _) _ _ _;refine À (ŀ (W.done _ _ _ ⟨by rw[hsz];exact hit,(show s.heap.IsTuple l its.toArray from pl)⟩ λh' gf eD=>?_));have lg:=eD S _ (by simpa using iN) gS
   have I1:Inv X.cA π σ H { s with heap:=h',toks:=gf }:=I0.turned (it:=I) (λb o hb e=>eD b o (by simpa using hb) e) fI.1 fI.2.1 fI.2.2.2.1 fI.2.2.2.2.1 fI.2.2.2.2.2
   show à _ X.A.in1 (updateSeq S (λ_=>#[]) >>= _) _ _ _;refine À ?_;refine Ţ lg rfl (À (ŵ (Â ?_)));have I2:=I1.turned (h':=h'.update S (Ī λ_=>(#[]:Array Í))) (t':=gf) (it:=S) (λb o hb e=>(ÿ _ _ (Ň hb)).trans e) fS.1 fS.2.1 fS.2.2.2.1 fS.2.2.2.2.1 fS.2.2.2.2.2;exact⟨vb,H,I2.CU,rb,h⟩
  |cons x rest ih =>
   intro j s H vb kb ub uk c hd sG I0 fS fI gS hit rb vO h;obtain⟨hq,h⟩:=h;have hx:all[j]?=some x:=by
    have:=Ĺ (λl=>l[0]?) hd;simpa using this
   have ei:all.drop (j+1)=rest:=by
    have:=Ĺ (List.drop 1) hd;simpa [ab7] using this
   obtain⟨its,rv,pl,hz⟩:=I0.tuple hq;have hh:X.A.in1.handled=none:=I0.ok.hd hc;have W:=Walks.tuple (prog:=X.prog) (w:=X.w) (A:=X.A.in1) hh I l k9 its.toArray;have hsz:its.toArray.size=all.length:=by rw[Ô];exact rv.length.symm
   refine ī (yd _) ?_;rw[Ė (lM _) _];show à _ X.A.in1 (abT (.ref S) >>= _) _ _ _;refine À (Ě gS rfl ?_);show à _ X.A.in1 (tryCatch (ť (.ref I)) _ >>= _) _ _ _;refine À (ŀ (W.item j _ _ _ (by rw[hsz];exact(Å.mp hx).1) ⟨hit,(show s.heap.IsTuple l its.toArray from pl)⟩ λv h' gf hP pT eD=>?_));obtain⟨v',lY,rx⟩:=rv.get hx;have ev:v'=v:=by
    have:its.toArray[j]?=some v:=hP;rw[aaj,lY] at this;exact Option.some.inj this
   subst ev;have lg:=eD S _ (by simpa using iN) gS
   have I1:Inv X.cA π σ H { s with heap:=h',toks:=gf }:=I0.turned (it:=I) (λb o hb e=>eD b o (by simpa using hb) e) fI.1 fI.2.1 fI.2.2.2.1 fI.2.2.2.2.1 fI.2.2.2.2.2
   obtain⟨oI,qp,j4,fq⟩:=id pT.1;have nS:∀v,({ cls:=.type "list",dict:=none,data:=.seq #[ub,uk] c,slots:=#[] }:Obj).data≠.cell v:=λv z=>by cases z
   have nI:∀v,oI.data≠.cell v:=λv z=>by rw[fq] at z;cases z
   have I2:=I1.ix (pins':=π++[(S,{ cls:=.type "list",dict:=none,data:=.seq #[ub,uk] c,slots:=#[] }),(I,oI)]) λp hp=>by
    rcases Ù.mp hp with z|z
    ·exact I1.pin p (Æ _ z)
    ·rcases Ó.mp z with rfl|z
     ·exact⟨lg,fS.1,fS.2.1,fS.2.2.1,nS⟩
     ·rw[Ü.mp z]
      exact⟨qp,fI.1,fI.2.1,fI.2.2.1,nI⟩
   refine À (Â ?_)
   have gA:EP X.cA _ σ (λk H1=>rc k kb H1 (λz H2=>∃b,z=.bl b/\if b=true then nZ X.K l all qo rc rest x k H2 Q else nZ X.K l all qo rc rest vb kb H2 Q)) v' { s with heap:=h',toks:=gf }:=⟨x,H,I2,rx,h⟩
   obtain⟨s2,cf⟩:∃s2:É,s2={ s with heap:=h',toks:=gf }:=⟨_,rfl⟩
   rw[<- cf] at gA;rw[<- cf];obtain⟨k,H2,I3,mZ,h⟩:=gA;show à _ X.A.in1 (tryCatch (aac [v',v'] (richCompare _ v' uk >>= _)) _ >>= _) _ _ _;refine À (ŀ (ė (À (ĳ (hC _ s2 σ H2 k kb v' uk _ I3 mZ vO h) (λz s3 D8=>?_) λ_ _ z=>z.elim))));obtain⟨zv,H3,I4,rz,b,eb,h⟩:=D8;subst eb;cases rz;refine À (ė (Į ?_));refine À (ŵ (Â ?_));have pS:=I4.pin (S,{ cls:=.type "list",dict:=none,data:=.seq #[ub,uk] c,slots:=#[] }) (Æ _ (Æ _ (by simp)));have pI:=I4.pin (I,oI) (Æ _ (Æ _ (by simp)));have I5:Inv X.cA π σ H3 s3:=I4.jh;have cX:cu X π H3 S:=⟨pS.2.1,fS.2⟩;have m7:cu X π H3 I:=⟨pI.2.1,fI.2⟩
   cases b with
   |true =>
    rw[Ú rfl] at h;rw[Ú rfl];refine À ?_;refine Ţ pS.1 rfl (À (ŵ ?_))
    first|rw[ye]|rw[yf]
    obtain⟨c2,ip⟩:∃c2,(s3.heap.update S (Ī λ_=>#[v',v'])).get? S=some { cls:=.type "list",dict:=none,data:=.seq #[v',v'] c2,slots:=#[] }:=⟨_,ă _ pS.1 rfl⟩
    have I6:Inv X.cA π σ H3 { s3 with heap:=s3.heap.update S (Ī λ_=>#[v',v']),toks:=s3.toks }:=I5.turned (t':=s3.toks) (it:=S) (λb o hb e=>(ÿ _ _ (Ň hb)).trans e) cX.1 cX.2.1 cX.2.2.2.1 cX.2.2.2.2.1 cX.2.2.2.2.2
    exact Â ⟨Ł (by first|exact lM true|exact lM false) _,ih (j+1) _ H3 x k v' v' c2 ei (Å.mp hx).1 I6 cX m7 ip ⟨oI,(ÿ _ _ iN).trans pI.1,j4,fq⟩ rx mZ h⟩
   |false =>
    rw[æ Ë] at h;rw[æ Ë];refine À (ŵ ?_)
    first|rw[ye]|rw[yf]
    exact Â ⟨Ł (by first|exact lM true|exact lM false) _,ih (j+1) _ H3 vb kb ub uk c ei (Å.mp hx).1 I5 cX m7 pS.1 ⟨oI,pI.1,j4,fq⟩ rb vO h⟩
def Hm (m:Bool) {X:Cx} {l:á}  {all:List V} {π:List (á×Obj)} {σ:St} {H:Hp} {s:É} {rc:R2} {Q:VK} (hc:X.calm=true) (hC:aY X.cA (Č (LY m)) rc)
  (I0:Inv X π σ H s) (fF:all≠[]) (h:Kh X.K l all qo rc .au H Q):à (ø X.prog X.w) X.A (call (.builtin (vX m)) [.ref l] []) (EP X π σ Q) X.xe s:=by
 cases m
 all_goals
  obtain⟨hq,h⟩:=h;obtain⟨its,rv,pl,hz⟩:=I0.tuple hq;have vQ:l<s.heap.objs.size:=by obtain⟨o,ho,_⟩:=pl;exact Î ho
  have hh:X.A.in1.handled=none:=I0.cA.ok.hd hc;refine kmk_tree (Xr _) (Xs _) (Xt _) (Xu _ _) ?_;show à _ X.A.in1 (ţ _ ["key","default"] 0 ⟨[],[]⟩ >>= _) _ _ s;refine À (š (Xv _) ?_);refine À (Â ?_);refine À (ω (show s.heap.IsTuple l its.toArray from pl) ?_);refine À (abL ?_ (Ę _))
  first|rw[ye]|rw[yf]
  generalize hI:s.heap.objs.size=I at *;have hS:(s.heap.push { cls:=.type "tuple_iterator",data:=.fields #[.ref l,.int 0 0] }).objs.size=I+1:=by rw[<- hI];exact ú ..
  generalize D9:(s.heap.push { cls:=.type "tuple_iterator",data:=.fields #[.ref l,.int 0 0] }).objs.size=S at *;have k9:l≠I:=è vQ;have iN:S≠I:=by rw[hS];exact Nat.succ_ne_self _
  have vN:S≠l:=by rw[hS];exact Ń (Ģ vQ)
  have kk:∀b o,s.heap.get? b=some o->((s.heap.push { cls:=.type "tuple_iterator",data:=.fields #[.ref l,.int 0 0] }).push { cls:=.type "list",dict:=none,data:=.seq #[] 0,slots:=#[] }).get? b=some o:=λb o e=>Á _ (Á _ e);have gI:((s.heap.push { cls:=.type "tuple_iterator",data:=.fields #[.ref l,.int 0 0] }).push { cls:=.type "list",dict:=none,data:=.seq #[] 0,slots:=#[] }).get? I=some { cls:=.type "tuple_iterator",data:=.fields #[.ref l,.int 0 0] }:=Á _ (hI ▸ Ì _ rfl);have gS:((s.heap.push { cls:=.type "tuple_iterator",data:=.fields #[.ref l,.int 0 0] }).push { cls:=.type "list",dict:=none,data:=.seq #[] 0,slots:=#[] }).get? S=some { cls:=.type "list",dict:=none,data:=.seq #[] 0,slots:=#[] }:=D9 ▸ Ì _ rfl;have nI:H I=none:=I0.aF.fresh (ō hI);have nS:H S=none:=I0.aF.fresh (by rw[hS];exact Û (ō hI) (Ŷ _));have fI:cu X π H I:=I0.lQ (ō hI) nI;have fS:cu X π H S:=I0.lQ (by rw[hS];exact Û (ō hI) (Ŷ _)) nS;have I1:=I0.cA.kept (t':=s.toks) kk
  refine Â ⟨Ł (by first|exact lM true|exact lM false) _,?_⟩
  show aaO (ø X.prog X.w) X.A (.builtin _ ⟨[.ref I,.none,.ref S],[]⟩) (xF X π σ Q) _;have W:=Walks.tuple (prog:=X.prog) (w:=X.w) (A:=X.A.in1) hh I l k9 its.toArray;have hsz:its.toArray.size=all.length:=by rw[Ô];exact rv.length.symm
  have hit:Heap.IsTupleIter ((s.heap.push { cls:=.type "tuple_iterator",data:=.fields #[.ref l,.int 0 0] }).push { cls:=.type "list",dict:=none,data:=.seq #[] 0,slots:=#[] }) I l 0:=⟨_,gI,rfl,rfl⟩;have zf:Heap.IsTuple ((s.heap.push { cls:=.type "tuple_iterator",data:=.fields #[.ref l,.int 0 0] }).push { cls:=.type "list",dict:=none,data:=.seq #[] 0,slots:=#[] }) l its.toArray:=by obtain⟨o,e,r⟩:=pl;exact⟨o,kk l o e,r⟩
  first|refine ī (yd true) ?_|refine ī (yd false) ?_
  first|rw[Ė PySem.F.plain_max_loop _]|rw[Ė Ħ _]
  show à _ X.A.in1 (abT (.ref S) >>= _) _ _ _;refine À (Ě gS rfl ?_);show à _ X.A.in1 (tryCatch (ť (.ref I)) _ >>= _) _ _ _
  cases all with
  |nil =>
   exact absurd rfl fF
  |cons x rest =>
   refine À (ŀ (W.item 0 _ _ _ (by rw[hsz];simp) ⟨hit,zf⟩ λv h' gf hP pT eD=>?_));obtain⟨v',lY,rx⟩:=rv.get (i:=0) (x:=x) rfl;have ev:v'=v:=by
    have:its.toArray[0]?=some v:=hP;rw[aaj,lY] at this;exact Option.some.inj this
   subst ev;have lg:=eD S _ (by simpa using iN) gS;have I2:=I1.turned (h':=h') (t':=gf) (it:=I) (λb o hb e=>eD b o (by simpa using hb) e) fI.1 fI.2.1 fI.2.2.2.1 fI.2.2.2.2.1 fI.2.2.2.2.2;obtain⟨oI,qp,j4,fq⟩:=id pT.1;have cS:∀v,({ cls:=.type "list",dict:=none,data:=.seq #[] 0,slots:=#[] }:Obj).data≠.cell v:=λv z=>by cases z
   have cI:∀v,oI.data≠.cell v:=λv z=>by rw[fq] at z;cases z
   have I3:=I2.ix (pins':=π++[(S,{ cls:=.type "list",dict:=none,data:=.seq #[] 0,slots:=#[] }),(I,oI)]) λp hp=>by
    rcases Ù.mp hp with z|z
    ·exact I2.pin p (Æ _ z)
    ·rcases Ó.mp z with rfl|z
     ·exact⟨lg,fS.1,fS.2.1,fS.2.2.1,cS⟩
     ·rw[Ü.mp z]
      exact⟨qp,fI.1,fI.2.1,fI.2.2.1,cI⟩
   refine À (Â ?_)
   have gA:EP X.cA _ σ (λk H1=>nZ X.K l (x::rest) qo rc rest x k H1 Q) v' { s with heap:=h',toks:=gf }:=⟨x,H,I3,rx,h⟩
   obtain⟨s2,cf⟩:∃s2:É,s2={ s with heap:=h',toks:=gf }:=⟨_,rfl⟩
   rw[<- cf] at gA;rw[<- cf];obtain⟨k,H2,I4,mZ,h⟩:=gA;have pS:=I4.pin (S,{ cls:=.type "list",dict:=none,data:=.seq #[] 0,slots:=#[] }) (Æ _ (Æ _ (by simp)));have pI:=I4.pin (I,oI) (Æ _ (Æ _ (by simp)));have I5:Inv X.cA π σ H2 s2:=I4.jh;have cX:cu X π H2 S:=⟨pS.2.1,fS.2⟩;have m7:cu X π H2 I:=⟨pI.2.1,fI.2⟩;show à _ X.A.in1 (updateSeq S (λ_=>#[v',v']) >>= _) _ _ _;refine À ?_;refine Ţ pS.1 rfl ?_
   first|rw[ye]|rw[yf]
   obtain⟨c2,ip⟩:∃c2,(s2.heap.update S (Ī λ_=>#[v',v'])).get? S=some { cls:=.type "list",dict:=none,data:=.seq #[v',v'] c2,slots:=#[] }:=⟨_,ă _ pS.1 rfl⟩
   have I6:Inv X.cA π σ H2 { s2 with heap:=s2.heap.update S (Ī λ_=>#[v',v']),toks:=s2.toks }:=I5.turned (t':=s2.toks) (it:=S) (λb o hb e=>(ÿ _ _ (Ň hb)).trans e) cX.1 cX.2.1 cX.2.2.2.1 cX.2.2.2.2.1 cX.2.2.2.2.2
   exact Â ⟨Ł (by first|exact lM true|exact lM false) _,QX _ hc k9 iN vN hC rest 1 _ H2 x k v' v' c2 rfl (by simp) I6 cX m7 ip ⟨oI,(ÿ _ _ iN).trans pI.1,j4,fq⟩ rx mZ h⟩
end L2
namespace DI
open PySem L2
def n0 (o:D->D->ag->Res D):D->List D->ag->Res D
 |b,[],s=>ok b s
 |b,d::ds,s=>ao (ne (o d b s)) λc s=>match c with
  | .bl true=>n0 o d ds s
  | .bl false=>n0 o b ds s
  |_=>none
def yg (o:D->D->ag->Res D) (d:D) (s:ag):Res D:=match d with
 | .tup (d::ds)=>n0 o d ds s
 |_=>none
def Bo {K:Ĳ} {Ξ:Wd->bx->Prop} {o:D->D->ag->Res D} {l:á} {all:List V} {Q:VK}:∀{ds:List D} {vs:List V} {w:Wd} {b:D} {vb:V},aM K w->aT K w.H l all->ar K w ds vs->DV K w b vb ->
  Out K Ξ w (n0 o b ds w.aI) (λw' d=>∀v,DV K w' d v->Q v w'.H)->nZ K l all qo (rO K bH o) vs vb vb w.H Q
 | [],vs,w,b,vb,S,hl,hd,hb,h=>by
  have e:vs=[]:=hd;subst e;exact⟨hl,aJ S h _ hb⟩
 |d::ds,vs,w,b,vb,S,hl,hd,hb,h=>by
  obtain⟨v,r,rfl,dv,dr⟩:=hd;refine⟨hl,w,d,b,rfl,S,dv,hb,(Out.ao h).ne.mono λw2 c l2 S2 h2 vc dc=>?_⟩
  cases c with
  |bl c =>
   have e:vc=.bl c:=dc;refine⟨c,e,?_⟩
   cases c with
   |true =>
    rw[Ú rfl];exact Bo (Ξ:=Ξ) S2 (l2.tup _ _ hl) (l2.all dr) (l2 _ _ dv) h2
   |false =>
    rw[æ Ë];exact Bo (Ξ:=Ξ) S2 (l2.tup _ _ hl) (l2.all dr) (l2 _ _ hb) h2
  |_=>exact h2.elim
def Ki {K:Ĳ} {Ξ:Wd->bx->Prop} {o:D->D->ag->Res D} {w:Wd} {d:D} {v:V} {Q:VK} (S:aM K w) (hl:DV K w d v) (h:Out K Ξ w (yg o d w.aI) (λw' d=>∀v,DV K w' d v->Q v w'.H)):∃l all,v=.ref l/\all≠[]/\Kh K l all qo (rO K bH o) .au w.H Q:=by
 unfold yg at h;split at h
 ·simp only[DV] at hl
  obtain⟨l,all,rfl,ha,x,r,rfl,dx,dr⟩:=hl;exact⟨l,_,rfl,by simp,ha,Bo (Ξ:=Ξ) S ha dr dx h⟩
 ·exact h.elim
def yh (ds:List D) (s:ag):Res D:=match ds with
 | [d]=>yg rW d s
 |_=>none
def ux (ds:List D) (s:ag):Res D:=match ds with
 | [d]=>yg xV d s
 |_=>none
section
variable {X:Cx} {Ξ:Wd->bx->Prop}
def UT (hc:X.calm=true):bY X (.builtin "max") (rC X.K Ξ yh):=by
 rintro π s σ H xs us Q I r ⟨w,ds,rfl,S,aq,h⟩;unfold yh at h;split at h
 ·obtain⟨v,rfl,dv⟩:=lL aq
  obtain⟨l,all,rfl,fF,vU⟩:=Ki S dv h;obtain⟨u,rfl,ru⟩:=vals1 r;cases ru;exact Hm true hc (KU (X:=X.cA)) I fF vU
 ·exact h.elim
def JE (hc:X.calm=true):bY X (.builtin "min") (rC X.K Ξ ux):=by
 rintro π s σ H xs us Q I r ⟨w,ds,rfl,S,aq,h⟩;unfold ux at h;split at h
 ·obtain⟨v,rfl,dv⟩:=lL aq
  obtain⟨l,all,rfl,fF,vU⟩:=Ki S dv h;obtain⟨u,rfl,ru⟩:=vals1 r;cases ru;exact Hm false hc (V0 (X:=X.cA)) I fF vU
 ·exact h.elim
end
end DI
namespace L2
open PySem PySem.Spec PyProof.Rows
def C0 (K:Ĳ) (a b:á):It :=
 ⟨λi H=>∃xs ys x y,bu K H a xs/\aT K H b ys/\xs[i]?=some x/\ys[i]?=some y,λi H v H'=>∃p x y,H p=none/\v=.ref p/\H'=upd H p (.tup [x,y])/\∀xs ys,bu K H a xs->aT K H b ys->xs[i]?=some x/\ys[i]?=some y,
  λi H=>∃xs ys,bu K H a xs/\aT K H b ys/\(xs.length<=i\/ys.length<=i)⟩
def Pk {P:ù} {w:ď} {K:Ĳ} {elts:List ļ} {kk:Nat} {pos:Pos} (a b z ti to j1 j2:á) (F:CH z ti to j1 j2) :
  Turn P w K (.Tuple elts kk pos) (C0 K a b) [z,ti,to,j1,j2] z (JW (λi h=>h.IsListIter j1 a i) (λi h=>h.IsTupleIter j2 b i) z ti to j1 j2) where
 mem:=by simp
 obj:=λi h st c hc=>by
  have i9:c=z\/c=ti\/c=to\/c=j1\/c=j2:=by simpa using hc
  rcases i9 with rfl|rfl|rfl|rfl|rfl
  ·exact⟨_,st.z,λv q=>nomatch q⟩
  ·exact⟨_,st.ti,λv q=>nomatch q⟩
  ·obtain⟨u,v,q⟩:=st.to;exact⟨_,q,λv q=>nomatch q⟩
  ·obtain⟨o,e,_,d⟩:=st.h1;exact⟨o,e,λv q=>by rw[d] at q;cases q⟩
  ·obtain⟨o,e,_,d⟩:=st.h2;exact⟨o,e,λv q=>by rw[d] at q;cases q⟩
 keep:=λi h h' st k=>⟨k z (by simp) _ st.z,k ti (by simp) _ st.ti,by obtain⟨u,v,q⟩:=st.to;exact⟨u,v,k to (by simp) _ q⟩,st.h1.at λo e=>k j1 (by simp) o e,st.h2.at λo e=>k j2 (by simp) o e⟩
 item:=by
  intro X hP hw hK hc i π s σ H E I hf st hg;subst hP hw hK;obtain⟨xs,ys,x,y,hx,hy,ex,ey⟩:=hg;obtain⟨i1,r1,p1,z1⟩:=I.list hx;obtain⟨i2,r2,p2,z2⟩:=I.tuple hy;obtain⟨u,eu,ru⟩:=r1.get ex;obtain⟨v,ev,rv⟩:=r2.get ey;have ne:∀c∈[z,ti,to,j1,j2],a≠c/\b≠c:=λc gX=>⟨Jd I hx (hf c gX),qX I hy (hf c gX)⟩;have D:HZ.Apart z ti to j1 j2 a b:=⟨F.a1,F.a2,F.a3,F.a4,F.a5,F.a6,F.a7,F.a8,F.a9,F.b0,(ne z (by simp)).1,(ne to (by simp)).1,(ne j1 (by simp)).1,(ne j2 (by simp)).1,(ne z (by simp)).2,(ne to (by simp)).2,(ne j1 (by simp)).2,(ne j2 (by simp)).2⟩;obtain⟨w1,w2,mM⟩:=st.to;have hh:X.A.in1.handled=none:=I.ok.hd hc;refine HZ.next_item D (HZ.HQ hh j1 a i1.toArray) (HZ.qP hh j2 b i2.toArray) st.z st.ti mM ⟨st.h1,p1.isList⟩ ⟨st.h2,p2⟩ (by simpa using eu) (by simpa using ev) λh' c1 c2 c3 c4 c5 c6 c7=>⟨_,rfl,?_⟩;refine wpAny_letOwnedTupleGo_zip c1 λh2 d1 d2=>?_;have hn:H s.heap.objs.size=none:=I.aF.fresh (Nat.le_refl _);have Dx:z<s.heap.objs.size:=Î st.z;have pM:IsTup h2 s.heap.objs.size #[u,v]:=⟨_,d2.extBut _ _ (Ń Dx) c5,rfl,_,rfl⟩
  have I2:Inv X π σ (upd H s.heap.objs.size (.tup [x,y])) { s with heap:=h2,toks:=s.toks }:=I.Gn (ch:=[z,ti,to,j1,j2]) (λc o qf e=>by
   have q:c≠z/\c≠ti/\c≠to/\c≠j1/\c≠j2:=by simpa using qf
   exact d2.extBut c o q.1 (c7 c o q.1 q.2.2.1 q.2.2.2.1 q.2.2.2.2 e)) hf (Nat.le_refl _) ⟨by show 2<=Õ;decide,[u,v],.cons ru (.cons rv .nil),pM⟩
  refine⟨.ref s.heap.objs.size,_,I2,rfl,⟨_,x,y,hn,rfl,rfl,λX0 X1 q1 q2=>?_⟩,?_,λc gX=>?_⟩
  ·rw[I.GW q1 hx,I.wO q2 hy];exact⟨ex,ey⟩
  ·refine⟨d1,d2.extBut _ _ F.a1 (c7 _ _ F.a1 F.a5 F.a6 F.a7 st.ti),⟨_,_,d2.extBut _ _ F.a2 c2⟩,c3.1.extBut d2.extBut F.a3,c4.1.extBut d2.extBut F.a4⟩
  ·rw[bt]
   ·exact(hf c gX).1
   ·intro e
    obtain⟨o,eo⟩:∃o,s.heap.get? c=some o:=by
     have i9:c=z\/c=ti\/c=to\/c=j1\/c=j2:=by simpa using gX
     rcases i9 with q|q|q|q|q
     ·rw[q];exact⟨_,st.z⟩
     ·rw[q];exact⟨_,st.ti⟩
     ·rw[q];exact⟨_,mM⟩
     ·rw[q];obtain⟨o,e,_⟩:=st.h1;exact⟨o,e⟩
     ·rw[q];obtain⟨o,e,_⟩:=st.h2;exact⟨o,e⟩
    exact absurd (Î eo) (by rw[e];exact é _)
 done:=by
  intro X hP hw hK hc i π s σ H E I hf st hg;subst hP hw hK;obtain⟨xs,ys,hx,hy,hle⟩:=hg;obtain⟨i1,r1,p1,z1⟩:=I.list hx;obtain⟨i2,r2,p2,z2⟩:=I.tuple hy;have ne:∀c∈[z,ti,to,j1,j2],a≠c/\b≠c:=λc gX=>⟨Jd I hx (hf c gX),qX I hy (hf c gX)⟩;have D:HZ.Apart z ti to j1 j2 a b:=⟨F.a1,F.a2,F.a3,F.a4,F.a5,F.a6,F.a7,F.a8,F.a9,F.b0,(ne z (by simp)).1,(ne to (by simp)).1,(ne j1 (by simp)).1,(ne j2 (by simp)).1,(ne z (by simp)).2,(ne to (by simp)).2,(ne j1 (by simp)).2,(ne j2 (by simp)).2⟩;obtain⟨w1,w2,mM⟩:=st.to;have hh:X.A.in1.handled=none:=I.ok.hd hc;have l1:=r1.length;have l2:=r2.length;refine HZ.next_end D (HZ.HQ hh j1 a i1.toArray) (HZ.qP hh j2 b i2.toArray) st.z st.ti mM ⟨st.h1,p1.isList⟩ ⟨st.h2,p2⟩ ?_ λh' c7=>⟨rfl,I.zU (t':=s.toks) (ch:=[z,ti,to,j1,j2]) (λc o qf e=>by
   have q:c≠z/\c≠ti/\c≠to/\c≠j1/\c≠j2:=by simpa using qf
   exact c7 c o q.1 q.2.2.1 q.2.2.2.1 q.2.2.2.2 e) hf⟩
  rcases hle with q|q
  ·left;simp;omega
  ·right;simp;omega
 self:=λA i s Q E st h=>abE st.z h
end L2
namespace HZ
open PySem PySem.Spec PyProof.Rows
noncomputable abbrev zj (h:ŏ) (m1:á):ŏ:=h.push { cls:=.type "list_iterator",data:=.fields #[.ref m1,.int 0 0] }
abbrev zk (h:ŏ) (m1 m2:á):ŏ:=(zj h m1).push { cls:=.type "tuple_iterator",data:=.fields #[.ref m2,.int 0 0] }
abbrev zl (h:ŏ) (m1 m2:á):ŏ:=(zk h m1 m2).push { cls:=.type "tuple",data:=.seq #[.ref h.objs.size,.ref (zj h m1).objs.size] }
abbrev zm (h:ŏ) (m1 m2:á):ŏ:=(zl h m1 m2).push { cls:=.type "tuple",data:=.seq #[.none,.none] }
abbrev qv (h:ŏ) (m1 m2:á):ŏ:=(zm h m1 m2).push { cls:=.type "zip",data:=.fields #[.none,.bool false,.bool false,.ref (zk h m1 m2).objs.size,.ref (zl h m1 m2).objs.size] }
def Pl (m1 m2:á) (xs ys:Array Í) :
  Meets (ň.«zip.__new__» ⟨[.type "zip",.ref m1,.ref m2],[]⟩) (λ_ R s=>s.heap.IsList m1 xs/\s.heap.IsTuple m2 ys/\R (.ok (.ret (.ref (zm s.heap m1 m2).objs.size))) { s with heap:=qv s.heap m1 m2 }) :=
 .of_wp λprog w A R s h=>by
  obtain⟨hp,g,d,tk,os⟩:=s;obtain⟨h1,h2,h⟩:=h;have W9:=sub_zip;have L1:Heap.IsList (Shared.heap ⟨hp,g,d,tk,os⟩) m1 xs:=h1;have L2:Heap.IsTuple (Shared.heap ⟨hp.push { cls:=.type "list_iterator",data:=.fields #[.ref m1,.int 0 0] },g,d,tk,os⟩) m2 ys:=Heap.IsTuple.push h2 _
  wp_walk using Ÿ L1,ω L2
  exact⟨_,rfl,h⟩
section
variable {P:ù} {w:ď} {A:đ} {E:Í->É->Prop} {s:É}
def M6 (h1:s.heap.IsList m1 xs) (h2:s.heap.IsTuple m2 ys)
 (h:∀h',IsZip h' (s.heap.objs.size+4) (s.heap.objs.size+2) (s.heap.objs.size+3) .none->aag h' (s.heap.objs.size+2) (.ref s.heap.objs.size) (.ref (s.heap.objs.size+1)) ->
   aag h' (s.heap.objs.size+3) .none .none->h'.IsListIter s.heap.objs.size m1 0->h'.IsTupleIter (s.heap.objs.size+1) m2 0->h'.objs.size=s.heap.objs.size+5 ->
 (∀c o,s.heap.get? c=some o->h'.get? c=some o)->Q (.ref (s.heap.objs.size+4)) { s with heap:=h' }):à (ø P w) A (call (.type "zip") [.ref m1,.ref m2]) Q E s:=by
 refine callType_new F.called_zip (by decide) (F.typeCall_zip_2 _ _) (F.newCall_zip_2 _ _) (λobj=>F.args_object_init_3 obj _ _) F.entry_zip_new (Pl m1 m2 xs ys) ⟨h1,h2,?_⟩;have e1:(zj s.heap m1).objs.size=s.heap.objs.size+1:=ú ..;have e2:(zk s.heap m1 m2).objs.size=s.heap.objs.size+2:=by rw[ú,e1]
 have e3:(zl s.heap m1 m2).objs.size=s.heap.objs.size+3:=by rw[ú,e2]
 have e4:(zm s.heap m1 m2).objs.size=s.heap.objs.size+4:=by rw[ú,e3]
 have e5:(qv s.heap m1 m2).objs.size=s.heap.objs.size+5:=by rw[ú,e4]
 have g5:(qv s.heap m1 m2).get? (zm s.heap m1 m2).objs.size=some _:=Ì _ rfl;have g4:(qv s.heap m1 m2).get? (zl s.heap m1 m2).objs.size=some _:=Á _ (Ì _ rfl);have g3:(qv s.heap m1 m2).get? (zk s.heap m1 m2).objs.size=some _:=Á _ (Á _ (Ì _ rfl));have g2:(qv s.heap m1 m2).get? (zj s.heap m1).objs.size=some _:=Á _ (Á _ (Á _ (Ì _ rfl)));have g1:(qv s.heap m1 m2).get? s.heap.objs.size=some _:=Á _ (Á _ (Á _ (Á _ (Ì _ rfl))));show _/\_;rw[e2,e3,e4] at g5;rw[e1,e2] at g3;rw[e3] at g4;rw[e1] at g2;rw[e4];exact⟨⟨_,g5,rfl⟩,h _ g5 g3 g4 ⟨_,g1,rfl,rfl⟩ ⟨_,g2,rfl,rfl⟩ e5 λc o q=>Á _ (Á _ (Á _ (Á _ (Á _ q))))⟩
end
end HZ
namespace L2
open PySem PySem.Spec PyProof.Rows
section
variable {X:Cx} {elts:List ļ} {kk:Nat} {tp:Pos}
def UU (K:Ĳ) (ta:TA):TI:=fun σ H R=>ta σ H λvs H1=>∃a b xs ys,vs=[.ref a,.ref b]/\bu K H1 a xs/\aT K H1 b ys/\R (C0 K a b) H1
def SM {a b:ļ} {ta:TA} {p pos:Pos} (hg:Gl X "zip") (hm:X.mg "zip"=none) (ha:PA X [a,b] ta) (hs:Þ [a,b] X.env=[(false,Ť a X.env),(false,Ť b X.env)]:=by rfl) (cf:Þ [b] X.env=[(false,Ť b X.env)]:=by rfl) :
  PI X (.Tuple elts kk tp) (.Call (.Name "zip" p) [a,b] [] pos) (UU X.K ta):=by
 intro π s σ H R I h;refine Call_ (lJ I hg hm Gp (Ĩ (aE (ha pos π s σ H _ I h) λus s1 ⟨vs,H1,I1,r1,q1⟩=>?_) (by rw[hs,cf]) (by rw[cf];rfl)));obtain⟨a,b,xs,ys,e,hx,hy,q⟩:=q1;subst e;obtain⟨u,v,rfl,ru,rv⟩:=vals2 r1;cases ru;cases rv;obtain⟨i1,_,p1,_⟩:=I1.list hx;obtain⟨i2,_,p2,_⟩:=I1.tuple hy;refine HZ.M6 (xs:=i1.toArray) (ys:=i2.toArray) p1.isList p2 λh' c1 c2 c3 c4 c5 c6 c7=>?_
 refine abE (s:={ s1 with heap:=h' }) c1 ?_
 exact⟨_,[s1.heap.objs.size+4,s1.heap.objs.size+2,s1.heap.objs.size+3,s1.heap.objs.size,s1.heap.objs.size+1],_,_,H1,rfl,I1.kept (t':=s1.toks) c7,Pk a b _ _ _ _ _ (G2 _),⟨c1,c2,⟨_,_,c3⟩,c4,c5⟩,Je I1,q⟩
end
end L2
namespace DI
open PySem L2
def QY (h:DV K w (.lst ds) (.ref a)) (g:DV K w (.tup es) (.ref b)):oz K w (C0 K a b) (fc ds es):=λw' l' S' i=>by
 have h':=l' _ _ h;have g':=l' _ _ g;simp only[DV] at h' g';obtain⟨p,xs,e,hq,aq⟩:=h';obtain⟨q,ys,e',gq,vv⟩:=g';cases e;cases e';refine⟨λd ed=>?_,λhl=>⟨xs,ys,hq.sq,gq,?_⟩⟩
 ·obtain⟨x,y,e1,e2,rfl⟩:=G8 ed
  obtain⟨v,ev,dv⟩:=aq.get' i x e1;obtain⟨u,eu,du⟩:=vv.get' i y e2;refine⟨⟨xs,ys,v,u,hq.sq,gq,ev,eu⟩,λz H' ⟨r,x1,y1,hr,ez,eH,DM⟩=>?_⟩;obtain⟨q1,q2⟩:=DM xs ys hq.sq gq;rw[ev] at q1;rw[eu] at q2;cases q1;cases q2;subst ez eH;exact Gy S' hr dv du
 ·rw[oO] at hl
  have:=aq.length;have:=vv.length;omega
section
variable {X:Cx} {Ξ:Wd->bx->Prop} {a b:ļ} {pos:Pos} {fa:Env->ag->Res (List D)}
def BV (fa:Env->ag->Res (List D)):Env->ag->Res (List D):=λenv s=>ao (fa env s) λds s=>match ds with
 | [.lst xs,.tup ys]=>ok (fc xs ys) s
 |_=>none
def UW {p:Pos} {elts:List ļ} {kk:Nat} {uE:Pos} (hg:Gl X "zip") (hm:X.mg "zip"=none) (ha:PA X [a,b] (tA X.K Ξ fa)) (hs:Þ [a,b] X.env=[(false,Ť a X.env),(false,Ť b X.env)]:=by rfl) (cf:Þ [b] X.env=[(false,Ť b X.env)]:=by rfl) :
  PI X (.Tuple elts kk uE) (.Call (.Name "zip" p) [a,b] [] pos) (dh X.K Ξ (BV fa)):=by
 refine oY (SM hg hm ha hs cf) fun σ H R aA=>?_;obtain⟨w,env,eH,S,eo,h⟩:=aA;subst eH;refine⟨w,env,rfl,S,eo,(Out.ao h).mono λw1 ds l1 S1 h vs aq=>?_⟩;split at h
 ·obtain⟨v,r,rfl,dv,v2,r2,rfl,jc,dr⟩:=aq
  have e3:r2=[]:=dr;subst e3;have q1:=dv;have q2:=jc;simp only[DV] at q1 q2;obtain⟨p,xs,rfl,hq,_⟩:=q1;obtain⟨q,ys,rfl,gq,_⟩:=q2;exact⟨p,q,xs,ys,rfl,hq.sq,gq,aJ S1 h _ (QY dv jc)⟩
 ·exact h.elim
end
def xb:List D->ag->Res D:=aU 1 3 (ay (aL (aZ (ae (ax tG (ae (aa 0) (ae (eC (.int 8)) ah))) (ae (ax tG (ae (aa 0) (ae (eC (.int 8)) ah))) ah))) (gT [(gN 1),(gN 2)])) (aN (aZ (ae (aa 1) (ae (eB cF (ae (aW 1 [1] (bq (aa 2)) (gN 0) (aH (e2 fJ (aa 0) (aa 1))) (aa 0)) ah)) ah)))))
def zP:Env->ag->Res Fl:=(ay (aL (aZ (ae (ax bJ (ae (aa 0) (ae (eC (.int 31)) ah))) (ae (e2 bR (eC (.int 1)) (ax bJ (ae (aa 0) (ae (eC (.int 3)) ah)))) ah))) (gT [(gN 6),(gN 7)])) (ay (aL (aW 1 [6,1,2] (bS (ae (eC (.int 8)) ah)) (gN 0) bT (e2 ak (ax rm (ae (aa 2) (ae (aa 3) (ae (aa 0) ah)))) (aa 1))) (gN 8)) (ay (aL (aW 1 [0,7] (bS (ae (eC (.int 8)) ah)) (gN 0) (aH (e2 aV (ax bJ (ae (aa 1) (ae (aa 2) ah))) (eC (.int 0)))) (aa 0)) (gN 9)) (ay (aL (eB cF (ae (aW 1 [8] (bq (aa 9)) (gN 0) (cN (e2 ak (e2 ak (aa 1) (aa 0)) (e1 jR (eC (.int 1))))) (aa 0)) ah)) (gN 10)) (ay (aL (aZ (ae (aa 10) (ae (eB cF (ae (aW 1 [10] (bq (aa 9)) (gN 0) (aH (e2 fJ (aa 0) (aa 1))) (aa 0)) ah)) ah))) (gN 11)) (ay (aL (yV (aH (e2 gr (aa 3) (fM ah))) (e2 ak (aa 3) (ax bJ (ae (aa 0) (ae (eB bN (ae (aa 3) ah)) ah)))) (aa 11)) (gN 12)) (fK (ik (aa 4) (e2 ak (fM (ae (aa 11) (ae (aa 11) (ae (aa 12) (ae (ax xb (ae (aa 0) ah)) ah))))) (ax bJ (ae (aa 0) (ae (eC (.int 4)) ah))))))))))))
def wV:List D->ag->Res D:=aU 3 13 (ay (pQ 3 4 (ae (aW 1 [2] (bq (aa 1)) (gN 0) (aH (e2 aV (iM (aa 0) iL (iD (eC (.int 2)))) (aZ (ae (eC (.str "made")) (ae (aa 1) ah))))) (e2 ak (aa 0) (eC (.int 3)))) (ae (eNew ah) ah))) (ay (fb (bS (ae (e2 bR (eC (.int 1)) (ax bJ (ae (aa 0) (ae (eC (.int 3)) ah)))) ah)) (gN 5) zP) (aN (eB cF (ae (aa 4) ah)))))
def mm:List D->ag->Res D:=aU 1 1 (aN (aZ (ae (e2 rE (eB yh (ae (aa 0) ah)) (eB ux (ae (aa 0) ah))) (ae (eB ux (ae (aa 0) ah)) (ae (aa 0) ah)))))
def wA:List D->ag->Res D:=aU 1 1 (aN (cL (eB cv (ae (aa 0) (ae (eC (.ty "tuple")) ah))) (cL (mQ kJ kJ (eC (.int 1)) (eB bN (ae (aa 0) ah)) (eC (.int (3)))) (eB kK (ae (aW 1 [] (bq (aa 0)) (gN 0) bT (ax qH (ae (aa 0) ah))) ah)))))
def sS:List D->ag->Res D:=aU 3 3 (ay (fK (ax wH (ae (aa 0) ah))) (ay (fK (ax wz (ae (aa 1) ah))) (cj (fk (cN (ax wA (ae (aa 2) ah)))) yW cb)))
def sQ:List D->ag->Res D:=aU 4 4 (aN (aW 1 [0,1,3] (bq (e2 ak (aa 2) (eC (.int (0))))) (gN 0) (aH (e2 cy (aa 0) (e2 ak (aa 3) (eC (.int (1)))))) (ax oG (ae (aa 1) (ae (aa 2) (ae (aa 0) ah))))))
def tm:List D->ag->Res D:=aU 3 3 (aN (kT (e2 fX (aa 2) (aa 1)) (eB kK (ae (aW 1 [1,2] (bq (aa 0)) (gN 0) bT (ax sR (ae (aa 0) (ae (aa 1) (ae (aa 2) ah))))) ah))))
def wc:List D->ag->Res D:=aU 4 6 (ay (aL (ax sQ (ae (aa 0) (ae (aa 1) (ae (aa 2) (ae (aa 3) ah))))) (gN 4)) (ay (aL (ax sQ (ae (aa 0) (ae (aa 1) (ae (aa 3) (ae (aa 2) ah))))) (gN 5)) (aN (aW 1 [4,5] (bS (ae (eC (.int (31))) ah)) (gN 0) bT (aW 1 [1,0,2] (bS (ae (eC (.int (31))) ah)) (gN 0) bT (cL (ax tm (ae (aa 1) (ae (aa 2) (ae (aa 0) ah)))) (ax tm (ae (aa 3) (ae (aa 0) (ae (aa 2) ah))))))))))
def xn:List D->ag->Res D:=aU 2 2 (aN (cL (ax qF (ae (e2 ak (aa 0) (eC (.int (0)))) (ae (e2 ak (aa 1) (eC (.int (1)))) ah))) (ax qF (ae (e2 ak (aa 0) (eC (.int (1)))) (ae (e2 ak (aa 1) (eC (.int (0)))) ah)))))
def wW:List D->ag->Res D:=aU 3 3 (aN (eB kK (ae (aW 2 [2] (BV (ae (aa 0) (ae (aa 1) ah))) (gT [gN 0,gN 1]) bT (e2 ak (e2 ak (aa 0) (aa 1)) (aa 2))) ah)))
def zQ:Env->ag->Res Fl:=(ay (aL (aW 1 [2,5,3] (bS (ae (eC (.int (31))) ah)) (gN 0) (cN (ax xn (ae (e2 ak (aa 1) (aa 2)) (ae (e2 ak (aa 3) (aa 0)) ah)))) (aa 0)) (gN 6)) (ay (aL (aW 1 [0,1,2,5] (bS (ae (aa 5) ah)) (gN 0) bT (ax wc (ae (aa 1) (ae (aa 2) (ae (e2 ak (aa 3) (aa 0)) (ae (e2 ak (aa 3) (aa 4)) ah)))))) (gN 7)) (aL (rf 2 [7,6] (bq (aa 4)) (gN 0) bT (bq (aa 3)) (gN 1) (cN (ax wW (ae (aa 2) (ae (aa 0) (ae (aa 1) ah))))) (e2 bR (aa 0) (aZ (ae (aa 1) ah)))) (gN 4))))
def wX:List D->ag->Res D:=aU 3 8 (ay (aL (ax wq (ae (aa 0) (ae (aa 1) ah))) (gN 3)) (ay (aL (fM (ae (aZ ah) ah)) (gN 4)) (ay (fb (bS (ae (eB bN (ae (aa 2) ah)) ah)) (gN 5) zQ) (aN (aa 4)))))
def wI:List D->ag->Res D:=aU 3 3 (ay (fK (ax sS (ae (aa 0) (ae (aa 1) (ae (aa 2) ah))))) (aN (e1 (x9 mm) (ax wX (ae (aa 0) (ae (aa 1) (ae (aa 2) ah)))))))
def xG:List D->ag->Res D:=aU 1 2 (ay (aL (fM (ae (eC .au) (ae (eC (.bl true)) (ae (eC (.bl false)) (ae (e1 jR (eC (.int 1))) (ae (eC (.int 8)) (ae (eC (.int 31)) (ae (eC (.int 4)) (ae (eC (.str "")) (ae (eC (.str "0")) (ae (eC (.str "made")) (ae (aZ ah) (ae (fM ah) (ae (eC (.bb [])) (ae (aZ (ae (eC (.int 0)) ah)) (ae (fM (ae (eC (.int 0)) ah)) (ae (e2 rF (eC (.int 10)) (eC (.int 29))) (ae (e1 jR (e2 rF (eC (.int 10)) (eC (.int 20)))) (ae (aZ (ae (eC (.int 8)) ah)) ah))))))))))))))))))) (gN 1)) (ay (aL (e2 bR (aa 1) (fM (ae (aZ (ae (eC (.str "made")) ah)) (ae (aZ (ae (eC (.int 0)) (ae (eC (.int 0)) ah))) (ae (aZ (ae (aZ (ae (eC (.int 0)) ah)) (ae (aZ (ae (eC (.int 0)) ah)) ah))) (ae (eC (.bb [(abe "made",0)])) (ae (aZ (ae (aZ ah) (ae (aZ ah) ah))) (ae (aZ (ae (aZ (ae (eC (.bl true)) ah)) (ae (aZ ah) ah))) (ae (aZ (ae (aZ (ae (eC (.int 1)) (ae (eC (.int 0)) ah))) (ae (aZ ah) ah))) (ae (eC (.str "made 0 0 -/-")) ah)))))))))) (gN 1)) (aN (e2 ak (aa 1) (ax bJ (ae (aa 0) (ae (eC (.int 26)) ah)))))))
def xc:List D->ag->Res D:=aU 3 8 (ay (pQ 3 4 (ae (eB bN (ae (aa 1) ah)) (ae (ax bJ (ae (aa 0) (ae (eC (.int 8)) ah))) ah))) (ay (aL (eB cF (ae (aW 1 [0] (bq (aa 1)) (gN 0) bT (ax bJ (ae (aa 1) (ae (eC (.int 31)) ah)))) ah)) (gN 5)) (ay (pQ 6 7 (ae (ax bJ (ae (aa 0) (ae (aa 3) ah))) (ae (e2 ak (fM (ae (e1 jR (eC (.int 1))) (ae (eC (.int 31)) (ae (eC (.bl true)) (ae (eC .au) (ae (eC (.str "1")) (ae (eC (.int 0)) (ae (eC (.int 30)) ah)))))))) (ax bJ (ae (aa 0) (ae (eC (.int 7)) ah)))) ah))) (ay (cj (aH (e2 aV (aa 4) (eC (.int 0)))) (aN (e2 ak (fM (ae (e2 bR (aa 5) (iM (aa 5) iL (iD (eC (.int 1))))) (ae (iM (aa 5) (iD (eC (.int 1))) iL) (ae (eB xX (ae (aa 5) ah)) (ae (ax xG (ae (aa 0) ah)) ah))))) (ax bJ (ae (aa 0) (ae (eC (.int 4)) ah))))) cb) (ay (cj (aH (e2 aV (aa 4) (eC (.int 1)))) (aN (e2 bR (e2 bR (iM (aa 5) iL (iD (aa 6))) (aZ (ae (aa 7) ah))) (iM (aa 5) (iD (e2 bR (aa 6) (eC (.int 1)))) iL))) cb) (ay (cj (aH (e2 fX (aa 4) (eC (.int 4)))) (aN (e2 ic (aZ (ae (e2 ak (aa 5) (eC (.int 0))) ah)) (aa 3))) cb) (ay (cj (cK (aH (e2 fX (aa 4) (eC (.int 6)))) (aH (e2 nE (aa 2) (eC .au)))) (aN (e2 bR (e2 bR (iM (aa 2) iL (iD (aa 6))) (aZ (ae (e2 ak (aa 5) (aa 6)) ah))) (iM (aa 2) (iD (e2 bR (aa 6) (eC (.int 1)))) iL))) cb) (aN (aa 5)))))))))
def wu:Env->ag->Res Fl:=(cj (fQ (fk (cN (eB cv (ae (aa 2) (ae (eC (.ty "int")) ah))))) (fQ (cN (eB cv (ae (aa 2) (ae (eC (.ty "bool")) ah)))) (fk (aH (mQ kJ kJ (eC (.int 0)) (aa 2) (eC (.int 30))))))) (aN (eC (.bl false))) cb)
def sT:List D->ag->Res D:=aU 2 3 (ay (cj (fQ (fk (cN (eB cv (ae (aa 0) (ae (eC (.ty "tuple")) ah))))) (aH (e2 gr (eB bN (ae (aa 0) ah)) (aa 1)))) (aN (eC (.bl false))) cb) (ay (fb (bq (aa 0)) (gN 2) wu) (aN (eC (.bl true)))))
def tB:List D->ag->Res D:=aU 4 5 (ay (aL (e2 bR (aa 0) (eB cF (ae (aW 2 [1] (kI (ae (aa 2) (ae (aa 3) ah))) (gT [gN 0,gN 1]) bT (aZ (ae (eC (.str "made")) (ae (aa 2) (ae (aa 1) (ae (aa 0) ah)))))) ah))) (gN 4)) (aN (e2 aV (aW 1 [4,1] (bS (ae (eC (.int 8)) ah)) (gN 0) (aH (e2 cy (aZ ah) (ax rm (ae (aa 1) (ae (aa 2) (ae (aa 0) ah)))))) (aa 0)) (fM ah))))
def wL:List D->ag->Res D:=aU 1 1 (aN (cL (eB cv (ae (aa 0) (ae (eC (.ty "tuple")) ah))) (eB kK (ae (aW 1 [] (bq (aa 0)) (gN 0) bT (ax nj (ae (aa 0) ah))) ah))))
def oK:List D->ag->Res D:=aU 4 5 (ay (fK (ax sS (ae (aa 0) (ae (aa 1) (ae (aa 2) ah))))) (ay (cj (fQ (fk (cN (ax wL (ae (aa 3) ah)))) (aH (e2 gr (eB bN (ae (aa 3) ah)) (eB bN (ae (aa 2) ah))))) (aN (eC (.bl false))) cb) (ay (aL (eB cF (ae (aW 2 [1] (kI (ae (aa 3) (ae (aa 2) ah))) (gT [gN 0,gN 1]) bT (aZ (ae (eC (.str "made")) (ae (aa 2) (ae (aa 0) (ae (aa 1) ah)))))) ah)) (gN 4)) (aN (e2 aV (ax sW (ae (e2 bR (aa 0) (aa 4)) ah)) (fM ah))))))
def xH:Env->ag->Res Fl:=(ay (aL (eB uh (ae (aZ (ae (aa 3) (ae (aa 5) (ae (aa 8) ah)))) ah)) (gN 9)) (ay (aL (cL (ax sT (ae (aa 8) (ae (eB bN (ae (aa 5) ah)) ah))) (ax tB (ae (aa 3) (ae (aa 4) (ae (aa 5) (ae (aa 8) ah)))))) (gN 10)) (cj (fQ (fk (cN (ax (xk 8) (ae (ax oK (ae (aa 3) (ae (aa 4) (ae (aa 5) (ae (aa 8) ah))))) (ae (aa 10) ah))))) (aH (e2 gr (eB uh (ae (aZ (ae (aa 3) (ae (aa 5) (ae (aa 8) ah)))) ah)) (aa 9)))) (aN (eC (.bl false))) cb)))
def Bp (W:ď):Env->ag->Res Fl:=(ay (aL (ax w9 (ae (aa 0) (ae (aa 1) ah))) (gN 2)) (ay (pQ 3 4 (ae (iM (ax (xm W) (ae (aa 2) ah)) iL (iD (eC (.int 24)))) (ae (ax bJ (ae (aa 2) (ae (eC (.int 4)) ah))) ah))) (ay (aL (ax wV (ae (aa 2) (ae (aa 3) (ae (aa 4) ah)))) (gN 5)) (ay (aL (ax wI (ae (aa 3) (ae (aa 4) (ae (aa 5) ah)))) (gN 6)) (ay (aL (mv 1 [2,5,6] (bS (ae (eC (.int 8)) ah)) (gN 0) bT (ax xc (ae (aa 1) (ae (aa 2) (ae (aa 3) ah))))) (gN 7)) (ay (cj (aH (e2 nE (aa 6) (eC .au))) (fK (ik (aa 7) (aa 6))) cb) (fb (bq (jX (aa 7))) (gN 8) xH)))))))
def yi (W:ď):List D->ag->Res D:=aU 1 11 (ay (fb (bS (ae (eB rL (ae (eC (.int 1)) (ae (eB xW (ae (eB bN (ae (aa 0) ah)) (ae (eC (.int 2)) ah))) ah))) ah)) (gN 1) (Bp W)) (aN (eC (.bl true))))
abbrev GG (K:Ĳ) (mg:Str->Option Í) (x:Str) (st:Stmt) (ps:List Str):Prop:=∃f fd,Gd K mg x st ps f fd
abbrev bc (P:ù) (w:ď) (K:Ĳ) (mg:Str->Option Í) (base:ŏ) (x:Str) (st:Stmt) (ps:List Str) (k:Nat) (fn:List D->ag->Res D):Prop:=∀{f:á} {fd:Ŗ},Gd K mg x st ps f fd->fB P w K mg base gy k f fd ps (ma K fn)
noncomputable def C1 (N ps:List Str) (sc:abf):Bool:=decide (sc.kind=.function)&&!sc.isCoroutine&&!sc.isGenerator&&decide N.Nodup&&decide (N.take ps.length=ps)&&ps.all (λx=>decide (sc.names.lookup x=some .local\/sc.names.lookup x=some .cell))&&sc.names.all (λy=>decide (y.2≠.free))
def JF (h:C1 N ps sc=true):qO N ps sc:=by
 unfold C1 at h;simp only[Ç,ē,È,ý] at h;obtain⟨⟨⟨⟨⟨⟨h1,h2⟩,h3⟩,h4⟩,h5⟩,h6⟩,h7⟩:=h;exact⟨h1,h2,h3,h4,h5,h6,h7⟩
def bj (G:Gd K mg x st ps f fd) (N:List Str) (S:C1 N ps (gF st)=true)
 (hb:N.Nodup->∀(cz:Í) (A:đ) (outer:List PySem.Env) (s:É) (H:Hp) (E:XK),bW k (A.deeper (PyProof.Rows.envOfC x (gF st) s.heap.objs.size f cz))->eT (nU gy P w K mg base N x (gF st) f cz A outer s H E).so (lF st) (tS K bH b)) :
  fB P w K mg base gy (k+1) f fd ps (ma K (aU ps.length N.length b)):=J0 G.fn (JF S) (hb (JF S).nd)
section
variable {X:Cx} {Ξ:Wd->bx->Prop} {e a b c tg el src:ļ} {es rest tests:List ļ} {pos:Pos} {f g h:Env->ag->Res D} {fa:Env->ag->Res (List D)} {ft gt:Env->ag->Res Bool}
def aC {k n:Nat} {x:Str} {st:Stmt} {ps:List Str} {fn:List D->ag->Res D} {p:Pos} (G:GG X.K X.mg x st ps) (F:bc X.prog X.w X.K X.mg X.base x st ps k fn) (hr:bW n X.A) (ha:PA X (e::es) (tA X.K Ξ fa)) (hk:k<=n:=by decide) (hg:Gl X x:=by rfl) (jA:(x==("__debug__":Str))=false:=by decide)
  (he:Þ (e::es) X.env=(false,Ť e X.env)::Þ es X.env:=by rfl) (cP:(aab pos (Þ es X.env)).any (·.1)=false:=by rfl):PE X (.Call (.Name x p) (e::es) [] pos) (tE X.K Ξ (ax fn fa)):=by
 obtain⟨f,fd,G⟩:=G;exact Bc (F G) (hr.mono hk) hg G.mg G.fn.kp G.b ha jA he cP
def az (ha:PE X a (tE X.K Ξ f)) (hs:Þ [a] X.env=(false,Ť a X.env)::Þ [] X.env:=by rfl):PA X [a] (tA X.K Ξ (ae f ah)):=aO ha bO hs
def aG (ha:PE X a (tE X.K Ξ f)) (hb:PE X b (tE X.K Ξ g)) (h1:Þ [a,b] X.env=(false,Ť a X.env)::Þ [b] X.env:=by rfl) (h2:Þ [b] X.env=(false,Ť b X.env)::Þ [] X.env:=by rfl):PA X [a,b] (tA X.K Ξ (ae f (ae g ah))):=aO ha (aO hb bO h2) h1
def df (ha:PE X a (tE X.K Ξ f)) (hb:PE X b (tE X.K Ξ g)) (hc:PE X c (tE X.K Ξ h)) (h1:Þ [a,b,c] X.env=(false,Ť a X.env)::Þ [b,c] X.env:=by rfl) (h2:Þ [b,c] X.env=(false,Ť b X.env)::Þ [c] X.env:=by rfl) (h3:Þ [c] X.env=(false,Ť c X.env)::Þ [] X.env:=by rfl):PA X [a,b,c] (tA X.K Ξ (ae f (ae g (ae h ah)))):=aO ha (aO hb (aO hc bO h3) h2) h1
def cD {x:Str} {px:Pos} {sc:abf} {ps:Pos} (N:List Str) {cap:List Nat} {it:Env->ag->Res (List D)} (hi:PI X (.Name x px) src (dh X.K Ξ it))
  (hY:∀(cl:List (Str×á)) (C:á) (s:É) (H:Hp) (ex:List á) (pn:List (á×Obj)),PF (dF X N sc cl C s H ex pn) tests (tT X.K bH ft)/\PE (dF X N sc cl C s H ex pn) el (tE X.K bH f))
  (hc:X.calm=true:=by rfl) (S:Bk sc X.env.scope.names X.N N 1 cap=true:=by kernel_rfl) (nd:N.Nodup:=by decide +kernel) (h0:N[0]?=some x:=by rfl) (hx:∀cl C s H ex pn,(dF X N sc cl C s H ex pn).env.scope.names.lookup x=some .local:=by intros;rfl) (hs:∀x,ô src X.env x=pure x:=by intro _;rfl) :
  PE X (.ListComp el [⟨.Name x px,src,tests,0⟩] sc ps) (tE X.K Ξ (aW 1 cap it (gN 0) ft f)) :=
 oU hc (jT S) (ji 0) hi (λcl C s H ex pn=>⟨dM nd h0 (.inl (hx cl C s H ex pn)) (.inr (hx cl C s H ex pn)),hY cl C s H ex pn⟩) hs
end
end DI
namespace DI.jF
open PySem L2 DI
noncomputable def top (i:Nat):Stmt:=PySem.Challenge.pw_twinmoulds_k08_datings_looked_at.main.body.getD i (.Pass ⟨0,0,0,0⟩)
noncomputable abbrev uJ:List Str:=["_law_script","_law_k"]
noncomputable abbrev K1:List Str:=["_law_state_here","_law_many"]
noncomputable abbrev C2:List Str:=["_law_later","_law_one","_law_free"]
noncomputable abbrev C3:List Str:=["_law_ahead","_law_one","_law_free"]
noncomputable abbrev K2:List Str:=["_law_laid","_law_mould","_law_mark"]
noncomputable abbrev K3:List Str:=["_law_state_here","_law_most"]
noncomputable abbrev r9:List Str:=["_law_state_here"]
noncomputable abbrev K4:List Str:=["_law_state_here","_law_book_here","_law_mould"]
noncomputable abbrev C4:List Str:=["dating"]
noncomputable abbrev C5:List Str:=["things"]
noncomputable abbrev bV:List Str:=["thing"]
noncomputable abbrev BW:List Str:=["thing","many"]
noncomputable abbrev BX:List Str:=["marks","others"]
noncomputable abbrev BY:List Str:=["pages","mould","mark","half"]
noncomputable abbrev uy:List Str:=["pages","mould","mark"]
noncomputable abbrev BZ:List Str:=["days","day","later"]
noncomputable abbrev B0:List Str:=["pages"]
noncomputable abbrev nR:List Str:=["book","mould","sheets"]
noncomputable abbrev yj:List Str:=["book","mould","mark"]
noncomputable abbrev B7:List Str:=["days_by_mark","day"]
noncomputable abbrev Kj:List Str:=["book","mould"]
noncomputable abbrev uz:List Str:=["book","mould","sheet","other"]
noncomputable abbrev B9:List Str:=["mendings","day","later"]
noncomputable abbrev Ca:List Str:=["sheet","sure"]
noncomputable abbrev Cb:List Str:=["tables","dating","day"]
noncomputable abbrev Kk:List Str:=["_law_state_here","_law_sheets_here","_law_told"]
noncomputable abbrev Kl:List Str:=["_law_state_here","_law_mended"]
noncomputable abbrev Km:List Str:=["_law_thing_here","_law_many"]
noncomputable abbrev Ko:List Str:=["_law_book_here","_law_mould","_law_sheets_here","_law_days"]
noncomputable abbrev Wf:List Str:=["_law_found","_law_due"]
noncomputable abbrev Kp:List Str:=["book","mould","sheets","thing"]
noncomputable abbrev Wg:List Str:=["_law_script"]
structure bg (K:Ĳ) (mg:Str->Option Í):Prop where
 nG:mg "all"=none
 JG:mg "any"=none
 xo:mg "bool"=none
 JH:mg "int"=none
 gm:mg "isinstance"=none
 iy:mg "len"=none
 tL:mg "list"=none
 Bq:mg "max"=none
 xI:mg "min"=none
 cE:mg "range"=none
 Io:mg "repr"=none
 Nw:mg "reversed"=none
 UX:mg "set"=none
 GC:mg "sorted"=none
 eV:mg "tuple"=none
 tX:mg "zip"=none
 oP:∃t,mg "MARKS"=some (.int (8) t)
 wY:∃t,mg "MOULDS"=some (.int (4) t)
 lG:∃t,mg "DAYS"=some (.int (31) t)
 Ap:∃t,mg "PAGES"=some (.int (24) t)
 o7:∃t,mg "HAS"=some (.int (0) t)
 oQ:∃t,mg "LACKS"=some (.int (1) t)
 z0:∃t,mg "SHEETS"=some (.int (3) t)
 Nx:GG K mg "_law_cell_at" (top 52) uJ
 Pn:GG K mg "_law_state" (top 53) uJ
 dI:GG K mg "_law_take" (top 54) K1
 Po:GG K mg "_law_leads" (top 64) C2
 QZ:GG K mg "_law_gone" (top 63) C3
 Ip:GG K mg "_law_may" (top 62) K2
 GD:GG K mg "_law_marks" (top 57) K3
 Pp:GG K mg "_law_sheet" (top 58) r9
 Oa:GG K mg "_law_sheets" (top 65) K4
 Ny:GG K mg "by_width" (top 42) C4
 FF:GG K mg "is_rising" (top 14) C5
 M7:GG K mg "is_number" (top 9) bV
 zK:GG K mg "is_below" (top 10) BW
 F6:GG K mg "is_mark" (top 11) bV
 FG:GG K mg "are_marks" (top 20) bV
 zF:GG K mg "are_apart" (top 22) BX
 FP:GG K mg "is_sheet" (top 21) bV
 FQ:GG K mg "is_mould" (top 12) bV
 GF:GG K mg "is_day" (top 13) bV
 Ob:GG K mg "is_page" (top 23) bV
 Nz:GG K mg "are_laid" (top 24) bV
 wB:GG K mg "days_seen" (top 29) BY
 wg:GG K mg "days_mended" (top 30) uy
 Fo:GG K mg "is_any_behind" (top 28) BZ
 Oc:GG K mg "clashes" (top 27) uy
 FH:GG K mg "faults_of" (top 26) B0
 Od:GG K mg "is_book" (top 25) bV
 M8:GG K mg "need_book" (top 31) bV
 MK:GG K mg "need_mould" (top 15) bV
 ML:GG K mg "are_sheets" (top 44) bV
 Fv:GG K mg "need_asked" (top 45) nR
 Mr:GG K mg "days_present" (top 35) yj
 My:GG K mg "days_absent" (top 36) yj
 FR:GG K mg "marks_on" (top 34) B7
 Mz:GG K mg "sure_sheets" (top 33) Kj
 Fj:GG K mg "mendings_between" (top 49) uz
 FT:GG K mg "is_clear" (top 50) B9
 Mo:GG K mg "days_together" (top 48) uz
 Q0:GG K mg "agree" (top 37) Ca
 Oe:GG K mg "is_free" (top 47) Cb
 Of:GG K mg "datings" (top 46) nR
 M9:GG K mg "narrowest" (top 41) nR
 SN:GG K mg "_law_odd" (top 56) r9
 Pq:GG K mg "_law_thing" (top 67) Kk
 Pr:GG K mg "_law_lived" (top 60) Kl
 Q2:GG K mg "_law_book" (top 61) r9
 MN:GG K mg "_law_good_days" (top 68) Km
 Og:GG K mg "_law_agrees" (top 66) Ko
 Q3:GG K mg "_law_same" (top 55) Wf
 NA:GG K mg "are_days" (top 43) bV
 Na:GG K mg "is_dating" (top 40) Kp
section
variable {P:ù} {w:ď} {K:Ĳ} {mg:Str->Option Í} {base:ŏ}
def NB (F:bg K mg):bc P w K mg base "_law_cell_at" (top 52) uJ 1 sX:=λ{_ _} G =>
 bj G uJ (by kernel_rfl) λaB _ _ _ _ _ _ hr=>(aD (dZ (bC (nX hr) (af 1) (bh iA rfl F.iy iB (az (af 0))) (bz _)) (aK (aS (aP (af 0) (af 1)))) dU) (aK (aS aw)))
def Pt (F:bg K mg):bc P w K mg base "_law_state" (top 53) uJ 2 w9:=λ{_ _} G =>
 bj G ["_law_script","_law_k","_law_cell"] (by kernel_rfl) λaB _ _ _ _ _ _ hr=>(aD (bK 2 aB (aC F.Nx (NB F) hr (aG (af 0) (af 1)))) (aK (aS (pf (aG (bh (Jq rfl) rfl F.Bq BP (aG aw (bI BN (af 2) (bI BO aw aw)))) (bI rH (af 2) aw))))))
def dJ (F:bg K mg):bc P w K mg base "_law_take" (top 54) K1 1 bJ:=λ{_ _} G =>
 bj G ["_law_state_here","_law_many","_law_found","_law_stirred"] (by kernel_rfl) λaB _ _ _ _ _ _ hr=>(aD (dZ (bC KU (aP (af 0) aw) aw (bz _)) (aD (bK 2 aB (bI rH (aP (af 0) aw) (af 1))) (aD (pq (bI J1 (aP (af 0) aw) (af 1)) (af 0) aw) (aK (aS (af 2))))) dU) (aD (pq (bI rH (bI dW (bI rG (aP (af 0) aw) aw) aw) aw) (af 0) aw) (aD (bK 3 aB (bI rH (bI dW (bI dW (bI rG (aP (af 0) aw) (aP (af 0) aw)) (bI rG aw (aP (af 0) aw))) aw) aw)) (aD (bK 3 aB (bI rH (bI dW (bI rG (af 3) (af 3)) (bI rG aw (af 3))) aw)) (aK (aS (bI rH (bI J1 (af 3) aw) (af 1))))))))
def Pu (F:bg K mg):bc P w K mg base "_law_leads" (top 64) C2 1 Ao:=λ{_ _} G =>
 bj G C2 (by kernel_rfl) λaB _ _ _ _ _ _ hr=>(aK (aS (pO (eJ (gM hr) dY (af 0) rfl) (dA (dP (eJ (gM hr) dY (af 0) rfl) (dA (pO (xT (af 1)) (dA (af 2)))))))))
def Q4 (F:bg K mg):bc P w K mg base "_law_gone" (top 63) C3 1 AU:=λ{_ _} G =>
 bj G C3 (by kernel_rfl) λaB _ _ _ _ _ _ hr=>(aK (aS (dP (xT (af 1)) (dA (pO (eJ (gM hr) dY (af 0) rfl) (dA (dP (af 2) (dA (eJ (lS hr) (af 0) (iY bO) (bz _))))))))))
def Iq (F:bg K mg):bc P w K mg base "_law_may" (top 62) K2 2 rm:=λ{_ _} G=>by
 have dq:(["_law_day"]:List Str).Nodup:=by decide +kernel
 have El:(["_law_day"]:List Str).Nodup:=by decide +kernel
 exact bj G ["_law_laid","_law_mould","_law_mark","_law_rows","_law_free","_law_page","_law_day","_law_ahead","_law_off"] (by kernel_rfl) λaB _ _ _ _ _ _ hr=>(aD (bK 3 aB (Hh (N:=["_law_day"]) (nt:=1) (cap:=[]) rfl (jT (by kernel_rfl)) (ji 0) (de rfl F.cE (az aw)) (λcl C s H ex pn=>⟨(dM (i:=0) dq rfl (Ŧ rfl)),cM,(iY (aG dY dY))⟩))) (aD (bK 4 aB (Hh (N:=["_law_day"]) (nt:=1) (cap:=[]) rfl (jT (by kernel_rfl)) (ji 0) (de rfl F.cE (az aw)) (λcl C s H ex pn=>⟨(dM (i:=0) El rfl (Ŧ rfl)),cM,dY⟩))) (aD (iz ĥ rfl (cT (af 0)) (cw 5 aB) (aD (dZ (PW.pt (w_and (bC (dB hr) (aP (af 5) aw) gH (bz _)) (w_and (bC (dB hr) (aP (af 5) aw) (af 1) (bz _)) (nC (bC (dB hr) (aP (af 5) aw) (af 2) (bz _)))))) (aD (pq (cD ["_law_one"] (cT (aP (af 3) (aP (af 5) aw))) (λ_ _ _ _ _ _=>⟨(fy (iZ (eM (af 0)))),(af 0)⟩)) (af 3) (aP (af 5) aw)) (aK (pq dY (af 4) (aP (af 5) aw)))) dU) (aK (dZ (PW.pt (w_and (bC (dB hr) (aP (af 5) aw) gH (bz _)) (w_and (bC (dB hr) (aP (af 5) aw) (af 1) (bz _)) (nC (bC (gM hr) (af 2) (bI dW (aP (aP (af 5) aw) aw) (aP (aP (af 5) aw) aw)) rfl))))) (aK (pq (cD ["_law_one","_law_mark","_law_page"] (cT (aP (af 3) (aP (af 5) aw))) (λ_ _ _ _ _ _=>⟨(fy (bC (dB hr) (af 0) (eJ (gM hr) (af 1) (aP (aP (af 2) aw) aw) rfl) (bz _))),(af 0)⟩)) (af 3) (aP (af 5) aw))) dU)))) (aD (iz ĥ rfl (Jo rfl F.cE (aG aw aw)) (cw 6 aB) (aD (nN (bM (aG (aP (af 3) (bI BN (af 6) aw)) (aP (af 4) (af 6)))) (nM rfl (fU (cw 7 aB) (fU (cw 8 aB) nD)))) (aK (pq (cD ["_law_one","_law_ahead","_law_off"] (cT (aP (af 3) (af 6))) (λ_ _ _ _ _ _=>⟨(fy (PW.pt (w_or (PW.pt (w_and (eM (af 0)) (nC (bC (lS hr) (af 1) (iY bO) (bz _))))) (kA (eM (aC F.QZ (Q4 F) hr (df (af 1) (af 0) (af 2)))))))),(af 0)⟩)) (af 3) (af 6))))) (aD (iz ĥ rfl (UD rfl F.cE (df aw (rS rJ aw) (rS rJ aw))) (cw 6 aB) (aK (pq (cD ["_law_one","_law_rows","_law_free","_law_day"] (cT (aP (af 3) (af 6))) (λ_ _ _ _ _ _=>⟨(fy (eM (aC F.Po (Pu F) hr (df (aP (af 1) (bI dW (af 3) aw)) (af 0) (aP (af 2) (bI dW (af 3) aw)))))),(af 0)⟩)) (af 3) (af 6)))) (aK (aS (cD ["_law_row"] (cT (ua (af 3))) (λ_ _ _ _ _ _=>⟨cM,(iu jj rfl F.eV eY (az (af 0)))⟩)))))))))
def GH (F:bg K mg):bc P w K mg base "_law_marks" (top 57) K3 2 tG:=λ{_ _} G =>
 bj G ["_law_state_here","_law_most","_law_way"] (by kernel_rfl) λaB _ _ _ _ _ _ hr=>(aD (bK 2 aB (bI dW aw (aC F.dI (dJ F) hr (aG (af 0) aw)))) (aK (aS (iu jj rfl F.eV eY (az (cD ["_law_mark","_law_state_here","_law_way"] (de rfl F.cE (az (af 1))) (λ_ _ _ _ _ _=>⟨(fy (bC (dB hr) (aC F.dI (dJ F) hr (aG (af 1) (bI dW (af 2) aw))) aw (bz _))),(af 0)⟩)))))))
def Pw (F:bg K mg):bc P w K mg base "_law_sheet" (top 58) r9 3 xb:=λ{_ _} G =>
 bj G ["_law_state_here","_law_has","_law_lacks"] (by kernel_rfl) λaB _ _ _ _ _ _ hr=>(aD (nN (bM (aG (aC F.GD (GH F) hr (aG (af 0) aw)) (aC F.GD (GH F) hr (aG (af 0) aw)))) (nM rfl (fU (cw 1 aB) (fU (cw 2 aB) nD)))) (aK (aS (bM (aG (af 1) (iu jj rfl F.eV eY (az (cD ["_law_mark","_law_has"] (cT (af 2)) (λ_ _ _ _ _ _=>⟨(fy (bC (qR hr) (af 0) (af 1) rfl)),(af 0)⟩)))))))))
def Oh (F:bg K mg):bc P w K mg base "_law_sheets" (top 65) K4 4 wV:=λ{_ _} G=>by
 have zo:(["_law_mark","_law_state_here","_law_often"]:List Str).Nodup:=by decide +kernel
 exact bj G ["_law_state_here","_law_book_here","_law_mould","_law_made","_law_found","_law_turn","_law_day","_law_often","_law_rows","_law_seen","_law_has","_law_own","_law_one"] (by kernel_rfl) λaB _ _ _ _ _ _ hr=>(aD (xC 3 4 rfl aB (aG (cD ["_law_page","_law_mould"] (cT (af 1)) (λ_ _ _ _ _ _=>⟨(fy (bC (dB hr) (mI (af 0) mH (mC aw)) (bM (aG gH (af 1))) (bz _))),(aP (af 0) aw)⟩)) (pf bO))) (aD (iz ĥ rfl (de rfl F.cE (az (bI dW aw (aC F.dI (dJ F) hr (aG (af 0) aw))))) (cw 5 aB) (aD (nN (bM (aG (aC F.dI (dJ F) hr (aG (af 0) aw)) (bI dW aw (aC F.dI (dJ F) hr (aG (af 0) aw))))) (nM rfl (fU (cw 6 aB) (fU (cw 7 aB) nD)))) (aD (bK 8 aB (cD ["_law_mark","_law_day","_law_book_here","_law_mould"] (de rfl F.cE (az aw)) (λ_ _ _ _ _ _=>⟨cM,(aP (aC F.Ip (Iq F) hr (df (af 2) (af 3) (af 0))) (af 1))⟩))) (aD (Ig 9 (N:=["_law_mark","_law_state_here","_law_often"]) (nt:=1) (cap:=[0,7]) aB rfl (jT (by kernel_rfl)) (ji 0) (de rfl F.cE (az aw)) (λcl C s H ex pn=>⟨(dM (i:=0) zo rfl (Ŧ rfl)),(fy (bC (dB hr) (aC F.dI (dJ F) hr (aG (af 1) (af 2))) aw (bz _))),(af 0)⟩)) (aD (bK 10 aB (iu jj rfl F.eV eY (az (cD ["_law_mark","_law_rows"] (cT (af 9)) (λ_ _ _ _ _ _=>⟨(fy (eM (aP (aP (af 1) (af 0)) (rS rJ aw)))),(af 0)⟩))))) (aD (bK 11 aB (bM (aG (af 10) (iu jj rfl F.eV eY (az (cD ["_law_mark","_law_has"] (cT (af 9)) (λ_ _ _ _ _ _=>⟨(fy (bC (qR hr) (af 0) (af 1) rfl)),(af 0)⟩))))))) (aD (bK 12 aB (Xh (bC (lS hr) (af 3) (iY bO) (bz _)) (aP (af 3) (aC F.dI (dJ F) hr (aG (af 0) (bh iA rfl F.iy iB (az (af 3)))))) (af 11))) (aK (km (pk (af 4) (aP (iY (aO (af 11) (aO (af 11) (aO (af 12) (aO (aC F.Pp (Pw F) hr (az (af 0))) bO))))) (aC F.dI (dJ F) hr (aG (af 0) aw))))))))))))) (aK (aS (iu jj rfl F.eV eY (az (af 4)))))))
def NC (F:bg K mg):bc P w K mg base "by_width" (top 42) C4 1 mm:=λ{_ _} G =>
 bj G C4 (by kernel_rfl) λaB _ _ _ _ _ _ hr=>(aK (aS (bM (df (bI BN (bh (UT rfl) rfl F.Bq BP (az (af 0))) (bh (JE rfl) rfl F.xI xZ (az (af 0)))) (bh (JE rfl) rfl F.xI xZ (az (af 0))) (af 0)))))
def FI (F:bg K mg):bc P w K mg base "is_rising" (top 14) C5 1 oJ:=λ{_ _} G=>by
 have dq:(["ahead","behind"]:List Str).Nodup:=by decide +kernel
 exact bj G C5 (by kernel_rfl) λaB _ _ _ _ _ _ hr=>(aK (aS (bh (nO rfl) rfl F.nG nQ (az (oU (N:=["ahead","behind"]) (nt:=2) (cap:=[]) rfl (jT (by kernel_rfl)) (q0 (jJ 0 (jJ 1 qQ))) (xU rfl F.tX (aG (af 0) (mI (af 0) (mC aw) mH))) (λcl C s H ex pn=>⟨(kj rfl (jg (dM (i:=0) dq rfl (Ŧ rfl)) (jg (dM (i:=1) dq rfl (Ŧ rfl)) oS))),cM,(eJ (nX hr) (af 0) (af 1) (bz _))⟩))))))
def Nb (F:bg K mg):bc P w K mg base "is_number" (top 9) bV 1 sU:=λ{_ _} G =>
 bj G bV (by kernel_rfl) λaB _ _ _ _ _ _ hr=>(aK (aS (dP (bh gK rfl F.gm gn (aG (af 0) (gO J7 rfl F.JH))) (dP (xT (bh gK rfl F.gm gn (aG (af 0) (gO xE rfl F.xo)))) (dA (eJ Xi (af 0) aw (bz _)))))))
def zL (F:bg K mg):bc P w K mg base "is_below" (top 10) BW 2 lD:=λ{_ _} G =>
 bj G BW (by kernel_rfl) λaB _ _ _ _ _ _ hr=>(aK (aS (dP (aC F.M7 (Nb F) hr (az (af 0))) (dA (eJ (nX hr) (af 0) (af 1) (bz _))))))
def F7 (F:bg K mg):bc P w K mg base "is_mark" (top 11) bV 3 tu:=λ{_ _} G =>
 bj G bV (by kernel_rfl) λaB _ _ _ _ _ _ hr=>(aK (aS (aC F.zK (zL F) hr (aG (af 0) (dC F.oP rfl)))))
def FJ (F:bg K mg):bc P w K mg base "are_marks" (top 20) bV 4 sV:=λ{_ _} G =>
 bj G bV (by kernel_rfl) λaB _ _ _ _ _ _ hr=>(aK (aS (dP (bh gK rfl F.gm gn (aG (af 0) (gO eY rfl F.eV))) (dP (bh (nO rfl) rfl F.nG nQ (az (cD ["mark"] (cT (af 0)) (λ_ _ _ _ _ _=>⟨cM,(aC F.F6 (F7 F) hr (az (af 0)))⟩)))) (dA (aC F.FF (FI F) hr (az (af 0))))))))
def zG (F:bg K mg):bc P w K mg base "are_apart" (top 22) BX 1 qF:=λ{_ _} G =>
 bj G BX (by kernel_rfl) λaB _ _ _ _ _ _ hr=>(aK (aS (xT (bh (J2 rfl) rfl F.JG J8 (az (cD ["mark","others"] (cT (af 0)) (λ_ _ _ _ _ _=>⟨cM,(eJ (gM hr) (af 0) (af 1) rfl)⟩)))))))
def FU (F:bg K mg):bc P w K mg base "is_sheet" (top 21) bV 5 qH:=λ{_ _} G =>
 bj G ["thing","has","lacks"] (by kernel_rfl) λaB _ _ _ _ _ _ hr=>(aD (dZ (PW.pt (w_or (iZ (eM (bh gK rfl F.gm gn (aG (af 0) (gO eY rfl F.eV))))) (kA (bC (lS hr) (bh iA rfl F.iy iB (az (af 0))) aw (bz _))))) (aK (aS dY)) dU) (aD (nN (af 0) (nM rfl (fU (cw 1 aB) (fU (cw 2 aB) nD)))) (aK (aS (dP (aC F.FG (FJ F) hr (az (af 1))) (dP (aC F.FG (FJ F) hr (az (af 2))) (dA (aC F.zF (zG F) hr (aG (af 1) (af 2))))))))))
def FV (F:bg K mg):bc P w K mg base "is_mould" (top 12) bV 3 sZ:=λ{_ _} G =>
 bj G bV (by kernel_rfl) λaB _ _ _ _ _ _ hr=>(aK (aS (aC F.zK (zL F) hr (aG (af 0) (dC F.wY rfl)))))
def GI (F:bg K mg):bc P w K mg base "is_day" (top 13) bV 3 nj:=λ{_ _} G =>
 bj G bV (by kernel_rfl) λaB _ _ _ _ _ _ hr=>(aK (aS (aC F.zK (zL F) hr (aG (af 0) (dC F.lG rfl)))))
def Oi (F:bg K mg):bc P w K mg base "is_page" (top 23) bV 6 wR:=λ{_ _} G =>
 bj G ["thing","word","mould","day","what"] (by kernel_rfl) λaB _ _ _ _ _ _ hr=>(aD (dZ (PW.pt (w_or (iZ (eM (bh gK rfl F.gm gn (aG (af 0) (gO eY rfl F.eV))))) (kA (bC (lS hr) (bh iA rfl F.iy iB (az (af 0))) aw (bz _))))) (aK (aS dY)) dU) (aD (nN (af 0) (nM rfl (fU (cw 1 aB) (fU (cw 2 aB) (fU (cw 3 aB) (fU (cw 4 aB) nD)))))) (aD (dZ (PW.pt (w_or (iZ (eM (aC F.FQ (FV F) hr (az (af 2))))) (kA (iZ (eM (aC F.GF (GI F) hr (az (af 3)))))))) (aK (aS dY)) dU) (aD (dZ (bC (dB hr) (af 1) gH (bz _)) (aK (aS (aC F.FP (FU F) hr (az (af 4))))) dU) (aK (aS (dP (eJ (dB hr) (af 1) gH (bz _)) (dA (aC F.F6 (F7 F) hr (az (af 4)))))))))))
def ND (F:bg K mg):bc P w K mg base "are_laid" (top 24) bV 7 wK:=λ{_ _} G =>
 bj G bV (by kernel_rfl) λaB _ _ _ _ _ _ hr=>(aK (aS (dP (bh gK rfl F.gm gn (aG (af 0) (gO eY rfl F.eV))) (dP (eJ rX (bh iA rfl F.iy iB (az (af 0))) (dC F.Ap rfl) (bz _)) (dP (bh (nO rfl) rfl F.nG nQ (az (cD ["page"] (cT (af 0)) (λ_ _ _ _ _ _=>⟨cM,(aC F.Ob (Oi F) hr (az (af 0)))⟩)))) (dA (aC F.FF (FI F) hr (az (af 0)))))))))
def wC (F:bg K mg):bc P w K mg base "days_seen" (top 29) BY 1 lC:=λ{_ _} G =>
 bj G BY (by kernel_rfl) λaB _ _ _ _ _ _ hr=>(aK (aS (cD ["page","mould","mark","half"] (cT (af 0)) (λ_ _ _ _ _ _=>⟨(fy (PW.pt (w_and (bC (dB hr) (aP (af 0) aw) gH (bz _)) (w_and (bC (dB hr) (aP (af 0) aw) (af 1) (bz _)) (nC (bC (gM hr) (af 2) (aP (aP (af 0) aw) (af 3)) rfl)))))),(aP (af 0) aw)⟩))))
def wj (F:bg K mg):bc P w K mg base "days_mended" (top 30) uy 1 oG:=λ{_ _} G =>
 bj G uy (by kernel_rfl) λaB _ _ _ _ _ _ hr=>(aK (aS (cD ["page","mould","mark"] (cT (af 0)) (λ_ _ _ _ _ _=>⟨(fy (PW.pt (w_and (bC (dB hr) (aP (af 0) aw) gH (bz _)) (w_and (bC (dB hr) (aP (af 0) aw) (af 1) (bz _)) (nC (bC (dB hr) (aP (af 0) aw) (af 2) (bz _))))))),(aP (af 0) aw)⟩))))
def Fp (F:bg K mg):bc P w K mg base "is_any_behind" (top 28) BZ 1 sR:=λ{_ _} G =>
 bj G BZ (by kernel_rfl) λaB _ _ _ _ _ _ hr=>(aK (aS (bh (J2 rfl) rfl F.JG J8 (az (cD ["other","day","later"] (cT (af 0)) (λ_ _ _ _ _ _=>⟨cM,(HX (nX hr) rX (af 1) (af 0) (af 2))⟩))))))
def Oj (F:bg K mg):bc P w K mg base "clashes" (top 27) uy 2 tw:=λ{_ _} G=>by
 have dq:(["day","later","lacked","mended"]:List Str).Nodup:=by decide +kernel
 exact bj G ["pages","mould","mark","lacked","mended"] (by kernel_rfl) λaB _ _ _ _ _ _ hr=>(aD (bK 3 aB (aC F.wB (wC F) hr (aO (af 0) (aO (af 1) (aO (af 2) (aO (dC F.oQ rfl) bO)))))) (aD (bK 4 aB (aC F.wg (wj F) hr (df (af 0) (af 1) (af 2)))) (aK (aS (Sj (N:=["day","later","lacked","mended"]) (nt:=2) (cap:=[3,4]) rfl (BK (by kernel_rfl)) (ji 0) (qS 0) (ji 1) (qS 1) (cT (N4 (aC F.wB (wC F) hr (aO (af 0) (aO (af 1) (aO (af 2) (aO (dC F.o7 rfl) bO))))) rfl rfl F.GC Hc rfl F.UX V1)) (λcl C s H ex pn=>⟨(dM (i:=0) dq rfl (Ŧ rfl)),cM,(Jo rfl F.cE (aG (af 0) (dC F.lG rfl))),(dM (i:=1) dq rfl (Ŧ rfl)),(fy (PW.pt (w_and (PW.pt (w_or (bC (gM hr) (af 1) (af 2) rfl) (kA (PW.pt (w_and (bC (dB hr) (af 1) (af 0) (bz _)) (nC (bC (gM hr) (af 0) (af 3) rfl))))))) (nC (iZ (eM (aC F.Fo (Fp F) hr (df (af 3) (af 0) (af 1))))))))),(bM (aG (af 0) (af 1)))⟩))))))
def FK (F:bg K mg):bc P w K mg base "faults_of" (top 26) B0 3 sW:=λ{_ _} G=>by
 have dq:(["mould","mark","day","later","pages"]:List Str).Nodup:=by decide +kernel
 exact bj G B0 (by kernel_rfl) λaB _ _ _ _ _ _ hr=>(aK (aS (Sn (N:=["mould","mark","day","later","pages"]) (nt:=4) (cap:=[0]) rfl (BK (by kernel_rfl)) (ji 0) (qS 0) (ji 1) (qS 1) (q0 (jJ 2 (jJ 3 qQ))) (A6 [2,3]) (de rfl F.cE (az (dC F.wY rfl))) (λcl C s H ex pn=>⟨(dM (i:=0) dq rfl (Ŧ rfl)),cM,(de rfl F.cE (az (dC F.oP rfl))),(dM (i:=1) dq rfl (Ŧ rfl)),cM,(cT (aC F.Oc (Oj F) hr (df (af 4) (af 0) (af 1)))),(kj rfl (jg (dM (i:=2) dq rfl (Ŧ rfl)) (jg (dM (i:=3) dq rfl (Ŧ rfl)) oS))),cM,(bM (aO (af 0) (aO (af 1) (aO (af 2) (aO (af 3) bO)))))⟩))))
def Ol (F:bg K mg):bc P w K mg base "is_book" (top 25) bV 8 wU:=λ{_ _} G =>
 bj G bV (by kernel_rfl) λaB _ _ _ _ _ _ hr=>(aK (aS (dP (aC F.Nz (ND F) hr (az (af 0))) (dA (TK.UN (aC F.FH (FK F) hr (az (af 0))))))))
def Nc (F:bg K mg):bc P w K mg base "need_book" (top 31) bV 9 wH:=λ{_ _} G =>
 bj G bV (by kernel_rfl) λaB _ _ _ _ _ _ hr=>(aK (dZ (iZ (eM (aC F.Od (Ol F) hr (az (af 0))))) Ae dU))
def MO (F:bg K mg):bc P w K mg base "need_mould" (top 15) bV 4 wz:=λ{_ _} G =>
 bj G bV (by kernel_rfl) λaB _ _ _ _ _ _ hr=>(aK (dZ (iZ (eM (aC F.FQ (FV F) hr (az (af 0))))) Ae dU))
def MP (F:bg K mg):bc P w K mg base "are_sheets" (top 44) bV 6 wA:=λ{_ _} G =>
 bj G bV (by kernel_rfl) λaB _ _ _ _ _ _ hr=>(aK (aS (dP (bh gK rfl F.gm gn (aG (af 0) (gO eY rfl F.eV))) (dP (HX rX rX aw (bh iA rfl F.iy iB (az (af 0))) (dC F.z0 rfl)) (dA (bh (nO rfl) rfl F.nG nQ (az (cD ["sheet"] (cT (af 0)) (λ_ _ _ _ _ _=>⟨cM,(aC F.FP (FU F) hr (az (af 0)))⟩)))))))))
def Fx (F:bg K mg):bc P w K mg base "need_asked" (top 45) nR 10 sS:=λ{_ _} G =>
 bj G nR (by kernel_rfl) λaB _ _ _ _ _ _ hr=>(aD (km (aC F.M8 (Nc F) hr (az (af 0)))) (aD (km (aC F.MK (MO F) hr (az (af 1)))) (aK (dZ (iZ (eM (aC F.ML (MP F) hr (az (af 2))))) Ae dU))))
def Ms (F:bg K mg):bc P w K mg base "days_present" (top 35) yj 2 we:=λ{_ _} G =>
 bj G ["book","mould","mark","shown","mended","present","stays","day"] (by kernel_rfl) λaB _ _ _ _ _ _ hr=>(aD (bK 3 aB (aC F.wB (wC F) hr (aO (af 0) (aO (af 1) (aO (af 2) (aO (dC F.o7 rfl) bO)))))) (aD (bK 4 aB (aC F.wg (wj F) hr (df (af 0) (af 1) (af 2)))) (aD (bK 5 aB (pf bO)) (aD (bK 6 aB dY) (aD (iz ĥ rfl (de rfl F.cE (az (dC F.lG rfl))) (cw 7 aB) (aD (bK 6 aB (pO (eJ (gM hr) (af 7) (af 3) rfl) (dA (dP (af 6) (dA (eJ (qR hr) (af 7) (af 4) rfl)))))) (aK (dZ (eM (af 6)) (aK (km (pk (af 5) (af 7)))) dU)))) (aK (aS (ua (af 5)))))))))
def MA (F:bg K mg):bc P w K mg base "days_absent" (top 36) yj 2 wo:=λ{_ _} G =>
 bj G ["book","mould","mark","lacked","mended","absent","barred","day"] (by kernel_rfl) λaB _ _ _ _ _ _ hr=>(aD (bK 3 aB (aC F.wB (wC F) hr (aO (af 0) (aO (af 1) (aO (af 2) (aO (dC F.oQ rfl) bO)))))) (aD (bK 4 aB (aC F.wg (wj F) hr (df (af 0) (af 1) (af 2)))) (aD (bK 5 aB (pf bO)) (aD (bK 6 aB dY) (aD (iz ĥ rfl (V4 rfl F.Nw rfl F.cE (az (dC F.lG rfl))) (cw 7 aB) (aD (dZ (PW.pt (w_or (eM (af 6)) (w_or (bC (gM hr) (af 7) (af 3) rfl) (kA (bC (gM hr) (af 7) (af 4) rfl))))) (aK (km (pk (af 5) (af 7)))) dU) (aK (bK 6 aB (dP (pO (af 6) (dA (eJ (gM hr) (af 7) (af 3) rfl))) (dA (eJ (qR hr) (af 7) (af 4) rfl))))))) (aK (aS (ua (af 5)))))))))
def FW (F:bg K mg):bc P w K mg base "marks_on" (top 34) B7 1 tj:=λ{_ _} G =>
 bj G B7 (by kernel_rfl) λaB _ _ _ _ _ _ hr=>(aK (aS (iu jj rfl F.eV eY (az (cD ["mark","day","days_by_mark"] (de rfl F.cE (az (dC F.oP rfl))) (λ_ _ _ _ _ _=>⟨(fy (bC (gM hr) (af 1) (aP (af 2) (af 0)) rfl)),(af 0)⟩))))))
def MB (F:bg K mg):bc P w K mg base "sure_sheets" (top 33) Kj 3 wq:=λ{_ _} G =>
 bj G ["book","mould","present","absent"] (by kernel_rfl) λaB _ _ _ _ _ _ hr=>(aD (bK 2 aB (cD ["mark","book","mould"] (de rfl F.cE (az (dC F.oP rfl))) (λ_ _ _ _ _ _=>⟨cM,(aC F.Mr (Ms F) hr (df (af 1) (af 2) (af 0)))⟩))) (aD (bK 3 aB (cD ["mark","book","mould"] (de rfl F.cE (az (dC F.oP rfl))) (λ_ _ _ _ _ _=>⟨cM,(aC F.My (MA F) hr (df (af 1) (af 2) (af 0)))⟩))) (aK (aS (cD ["day","present","absent"] (de rfl F.cE (az (dC F.lG rfl))) (λ_ _ _ _ _ _=>⟨cM,(bM (aG (aC F.FR (FW F) hr (aG (af 1) (af 0))) (aC F.FR (FW F) hr (aG (af 2) (af 0)))))⟩))))))
def Fm (F:bg K mg):bc P w K mg base "mendings_between" (top 49) uz 2 sQ:=λ{_ _} G =>
 bj G uz (by kernel_rfl) λaB _ _ _ _ _ _ hr=>(aK (aS (cD ["mark","book","mould","other"] (cT (aP (af 2) (dC F.o7 rfl))) (λ_ _ _ _ _ _=>⟨(fy (bC (gM hr) (af 0) (aP (af 3) (dC F.oQ rfl)) rfl)),(aC F.wg (wj F) hr (df (af 1) (af 2) (af 0)))⟩))))
def FX (F:bg K mg):bc P w K mg base "is_clear" (top 50) B9 2 tm:=λ{_ _} G =>
 bj G B9 (by kernel_rfl) λaB _ _ _ _ _ _ hr=>(aK (aS (pO (eJ (nX hr) (af 2) (af 1) (bz _)) (dA (bh (nO rfl) rfl F.nG nQ (az (cD ["mended","day","later"] (cT (af 0)) (λ_ _ _ _ _ _=>⟨cM,(aC F.Fo (Fp F) hr (df (af 0) (af 1) (af 2)))⟩))))))))
def Mp (F:bg K mg):bc P w K mg base "days_together" (top 48) uz 3 wc:=λ{_ _} G=>by
 have dq:(["day","onward","backward"]:List Str).Nodup:=by decide +kernel
 exact bj G ["book","mould","sheet","other","onward","backward"] (by kernel_rfl) λaB _ _ _ _ _ _ hr=>(aD (bK 4 aB (aC F.Fj (Fm F) hr (aO (af 0) (aO (af 1) (aO (af 2) (aO (af 3) bO)))))) (aD (bK 5 aB (aC F.Fj (Fm F) hr (aO (af 0) (aO (af 1) (aO (af 3) (aO (af 2) bO)))))) (aK (aS (oU (N:=["day","onward","backward"]) (nt:=1) (cap:=[4,5]) rfl (jT (by kernel_rfl)) (ji 0) (de rfl F.cE (az (dC F.lG rfl))) (λcl C s H ex pn=>⟨(dM (i:=0) dq rfl (Or.inr rfl)),cM,(cD ["later","onward","day","backward"] (de rfl F.cE (az (dC F.lG rfl))) (λ_ _ _ _ _ _=>⟨cM,(dP (aC F.FT (FX F) hr (df (af 1) (af 2) (af 0))) (dA (aC F.FT (FX F) hr (df (af 3) (af 0) (af 2)))))⟩))⟩))))))
def Q5 (F:bg K mg):bc P w K mg base "agree" (top 37) Ca 2 xn:=λ{_ _} G =>
 bj G Ca (by kernel_rfl) λaB _ _ _ _ _ _ hr=>(aK (aS (dP (aC F.zF (zG F) hr (aG (aP (af 0) (dC F.o7 rfl)) (aP (af 1) (dC F.oQ rfl)))) (dA (aC F.zF (zG F) hr (aG (aP (af 0) (dC F.oQ rfl)) (aP (af 1) (dC F.o7 rfl))))))))
def Om (F:bg K mg):bc P w K mg base "is_free" (top 47) Cb 1 wW:=λ{_ _} G=>by
 have dq:(["table","other","day"]:List Str).Nodup:=by decide +kernel
 exact bj G Cb (by kernel_rfl) λaB _ _ _ _ _ _ hr=>(aK (aS (bh (nO rfl) rfl F.nG nQ (az (oU (N:=["table","other","day"]) (nt:=2) (cap:=[2]) rfl (jT (by kernel_rfl)) (q0 (jJ 0 (jJ 1 qQ))) (UW rfl F.tX (aG (af 0) (af 1))) (λcl C s H ex pn=>⟨(kj rfl (jg (dM (i:=0) dq rfl (Ŧ rfl)) (jg (dM (i:=1) dq rfl (Ŧ rfl)) oS))),cM,(aP (aP (af 0) (af 1)) (af 2))⟩))))))
def Oo (F:bg K mg):bc P w K mg base "datings" (top 46) nR 4 wX:=λ{_ _} G=>by
 have zo:(["dating","day","tables","days"]:List Str).Nodup:=by decide +kernel
 exact bj G ["book","mould","sheets","sure","told","at","days","tables"] (by kernel_rfl) λaB _ _ _ _ _ _ hr=>(aD (bK 3 aB (aC F.Mz (MB F) hr (aG (af 0) (af 1)))) (aD (bK 4 aB (iY (az (bM bO)))) (aD (iz ĥ rfl (de rfl F.cE (az (bh iA rfl F.iy iB (az (af 2))))) (cw 5 aB) (aD (bK 6 aB (cD ["day","sheets","at","sure"] (de rfl F.cE (az (dC F.lG rfl))) (λ_ _ _ _ _ _=>⟨(fy (eM (aC F.Q0 (Q5 F) hr (aG (aP (af 1) (af 2)) (aP (af 3) (af 0)))))),(af 0)⟩))) (aD (bK 7 aB (cD ["ahead","book","mould","sheets","at"] (de rfl F.cE (az (af 5))) (λ_ _ _ _ _ _=>⟨cM,(aC F.Mo (Mp F) hr (aO (af 1) (aO (af 2) (aO (aP (af 3) (af 0)) (aO (aP (af 3) (af 4)) bO)))))⟩))) (aK (Sm 4 (N:=["dating","day","tables","days"]) (nt:=2) (cap:=[7,6]) aB rfl (BK (by kernel_rfl)) (ji 0) (qS 0) (ji 1) (qS 1) (cT (af 4)) (λcl C s H ex pn=>⟨(dM (i:=0) zo rfl (Ŧ rfl)),cM,(cT (af 3)),(dM (i:=1) zo rfl (Ŧ rfl)),(fy (eM (aC F.Oe (Om F) hr (df (af 2) (af 0) (af 1))))),(bI dW (af 0) (bM (az (af 1))))⟩)))))) (aK (aS (af 4))))))
def Nd (F:bg K mg):bc P w K mg base "narrowest" (top 41) nR 12 wI:=λ{_ _} G=>by
 obtain⟨_,_,zR⟩:=F.Ny;exact bj G nR (by kernel_rfl) λaB _ _ _ _ _ _ hr=>(aD (km (aC F.Fv (Fx F) hr (df (af 0) (af 1) (af 2)))) (aK (aS (Sr (NC F zR) (hr.mono (by decide)) zR.mg zR.b (aC F.Of (Oo F) hr (df (af 0) (af 1) (af 2))) rfl rfl F.xI rfl))))
def SO (F:bg K mg):bc P w K mg base "_law_odd" (top 56) r9 2 xG:=λ{_ _} G =>
 bj G ["_law_state_here","_law_some"] (by kernel_rfl) λaB _ _ _ _ _ _ hr=>(aD (bK 1 aB (by refine' SK ?_ ?_ ?_ ?_ ?_ ?_ ?_ ?_ ?_ ?_ ?_ ?_ ?_ ?_ ?_ ?_ ?_ ?_;exact xS;exact dY;exact dY;exact(rS rJ aw);exact aw;exact aw;exact aw;exact gH;exact gH;exact gH;exact(bM bO);exact(iY bO);exact UO;exact(bM (az aw));exact(iY (az aw));exact(bI BO aw aw);exact(rS rJ (bI BO aw aw));exact(bM (az aw)))) (aD (bK 1 aB (bI dW (af 1) (by refine' US ?_ ?_ ?_ ?_ ?_ ?_ ?_ ?_;exact(bM (az gH));exact(bM (aG aw aw));exact(bM (aG (bM (az aw)) (bM (az aw))));exact UQ;exact(bM (aG (bM bO) (bM bO)));exact(bM (aG (bM (az dY)) (bM bO)));exact(bM (aG (bM (aG aw aw)) (bM bO)));exact gH))) (aK (aS (aP (af 1) (aC F.dI (dJ F) hr (aG (af 0) aw)))))))
def Px (F:bg K mg):bc P w K mg base "_law_thing" (top 67) Kk 3 xc:=λ{_ _} G =>
 bj G ["_law_state_here","_law_sheets_here","_law_told","_law_many","_law_way","_law_days","_law_at","_law_odd_here"] (by kernel_rfl) λaB _ _ _ _ _ _ hr=>(aD (xC 3 4 rfl aB (aG (bh iA rfl F.iy iB (az (af 1))) (aC F.dI (dJ F) hr (aG (af 0) aw)))) (aD (bK 5 aB (iu jj rfl F.eV eY (az (cD ["_law_sheet_here","_law_state_here"] (cT (af 1)) (λ_ _ _ _ _ _=>⟨cM,(aC F.dI (dJ F) hr (aG (af 1) aw))⟩))))) (aD (xC 6 7 rfl aB (aG (aC F.dI (dJ F) hr (aG (af 0) (af 3))) (aP (by refine' UR ?_ ?_ ?_ ?_ ?_ ?_ ?_;exact(rS rJ aw);exact aw;exact dY;exact xS;exact gH;exact aw;exact aw) (aC F.dI (dJ F) hr (aG (af 0) aw))))) (aD (dZ (bC (dB hr) (af 4) aw (bz _)) (aK (aS (aP (iY (aO (bI dW (af 5) (mI (af 5) mH (mC aw))) (aO (mI (af 5) (mC aw) mH) (aO (iu Uu rfl F.tL tU (az (af 5))) (aO (aC F.SN (SO F) hr (az (af 0))) bO))))) (aC F.dI (dJ F) hr (aG (af 0) aw))))) dU) (aD (dZ (bC (dB hr) (af 4) aw (bz _)) (aK (aS (bI dW (bI dW (mI (af 5) mH (mC (af 6))) (bM (az (af 7)))) (mI (af 5) (mC (bI dW (af 6) aw)) mH)))) dU) (aD (dZ (bC (nX hr) (af 4) aw (bz _)) (aK (aS (bI rG (bM (az (aP (af 5) aw))) (af 3)))) dU) (aD (dZ (PW.pt (w_and (bC (nX hr) (af 4) aw (bz _)) (nC (bC Jp (af 2) xS (bz _))))) (aK (aS (bI dW (bI dW (mI (af 2) mH (mC (af 6))) (bM (az (aP (af 5) (af 6))))) (mI (af 2) (mC (bI dW (af 6) aw)) mH)))) dU) (aK (aS (af 5))))))))))
theorem Py (F:bg K mg):bc P w K mg base "_law_lived" (top 60) Kl 2 qM:=λ{_ _} G =>
 bj G ["_law_state_here","_law_mended","_law_there","_law_found","_law_way","_law_day"] (by kernel_rfl) λaB _ _ _ _ _ _ hr=>(aD (UP 2 3 4 rfl aB (df (eJ (dB hr) (aC F.dI (dJ F) hr (aG (af 0) aw)) aw (bz _)) (pf bO) (bI dW aw (aC F.dI (dJ F) hr (aG (af 0) aw))))) (aD (iz ĥ rfl (de rfl F.cE (az aw)) (cw 5 aB) (aD (bK 2 aB (dP (pO (af 2) (dA (eJ (dB hr) (aC F.dI (dJ F) hr (aG (af 0) (af 4))) aw (bz _)))) (dA (eJ (qR hr) (af 5) (af 1) rfl)))) (aK (dZ (eM (af 2)) (aK (km (pk (af 3) (af 5)))) dU)))) (aK (aS (ua (af 3))))))
def Q6 (F:bg K mg):bc P w K mg base "_law_book" (top 61) r9 3 (xm w):=λ{_ _} G=>by
 have El:(["_law_mark","_law_state_here","_law_often"]:List Str).Nodup:=by decide +kernel
 exact bj G ["_law_state_here","_law_found","_law_moulds","_law_often","_law_mould","_law_mended","_law_lives","_law_turn","_law_mark","_law_day","_law_seen","_law_has"] (by kernel_rfl) λaB _ _ _ _ _ _ hr=>(aD (nN (bM (df TK.UL (bI dW aw (aC F.dI (dJ F) hr (aG (af 0) aw))) (bI dW aw (aC F.dI (dJ F) hr (aG (af 0) aw))))) (nM rfl (fU (cw 1 aB) (fU (cw 2 aB) (fU (cw 3 aB) nD))))) (aD (iz ĥ rfl (de rfl F.cE (az (af 2))) (cw 4 aB) (aD (nN (bM (aG (cD ["_law_mark"] (de rfl F.cE (az aw)) (λ_ _ _ _ _ _=>⟨cM,(pf bO)⟩)) (pf bO))) (nM rfl (fU (cw 5 aB) (fU (cw 6 aB) nD)))) (aD (iz ĥ rfl (de rfl F.cE (az (aC F.dI (dJ F) hr (aG (af 0) aw)))) (cw 7 aB) (aD (nN (bM (aG (aC F.dI (dJ F) hr (aG (af 0) aw)) (aC F.dI (dJ F) hr (aG (af 0) aw)))) (nM rfl (fU (cw 8 aB) (fU (cw 9 aB) nD)))) (aD (km (pk (aP (af 5) (af 8)) (af 9))) (aK (TK.JC rfl hr dY (af 1) (bM (aO gH (aO (af 4) (aO (af 9) (aO (af 8) bO)))))))))) (aD (iz ĥ rfl (de rfl F.cE (az aw)) (cw 8 aB) (aK (km (pk (af 6) (aC F.Pr (Py F) hr (aG (af 0) (aP (af 5) (af 8)))))))) (aK (iz ĥ rfl (de rfl F.cE (az (aC F.dI (dJ F) hr (aG (af 0) aw)))) (cw 7 aB) (aD (bK 9 aB (aC F.dI (dJ F) hr (aG (af 0) aw))) (aD (Ig 10 (N:=["_law_mark","_law_state_here","_law_often"]) (nt:=1) (cap:=[0,3]) aB rfl (jT (by kernel_rfl)) (ji 0) (de rfl F.cE (az aw)) (λcl C s H ex pn=>⟨(dM (i:=0) El rfl (Ŧ rfl)),(fy (bC (dB hr) (aC F.dI (dJ F) hr (aG (af 1) (af 2))) aw (bz _))),(af 0)⟩)) (aD (bK 11 aB (iu jj rfl F.eV eY (az (cD ["_law_mark","_law_day","_law_lives"] (cT (af 10)) (λ_ _ _ _ _ _=>⟨(fy (bC (gM hr) (af 1) (aP (af 2) (af 0)) rfl)),(af 0)⟩))))) (aK (TK.JC rfl hr dY (af 1) (bM (aO gH (aO (af 4) (aO (af 9) (aO (bM (aG (af 11) (iu jj rfl F.eV eY (az (cD ["_law_mark","_law_day","_law_lives"] (cT (af 10)) (λ_ _ _ _ _ _=>⟨(fy (bC (qR hr) (af 1) (aP (af 2) (af 0)) rfl)),(af 0)⟩)))))) bO)))))))))))))))) (aK (aS (iu jj rfl F.eV eY (az (bh (TK.SH hr) rfl F.GC Hc (az (iu (TK.SA rfl) rfl F.tL tU (az (af 1)))))))))))
def MQ (F:bg K mg):bc P w K mg base "_law_good_days" (top 68) Km 1 sT:=λ{_ _} G =>
 bj G ["_law_thing_here","_law_many","_law_day"] (by kernel_rfl) λaB _ _ _ _ _ _ hr=>(aD (dZ (PW.pt (w_or (iZ (eM (bh gK rfl F.gm gn (aG (af 0) (gO eY rfl F.eV))))) (kA (bC (lS hr) (bh iA rfl F.iy iB (az (af 0))) (af 1) (bz _))))) (aK (aS dY)) dU) (aD (iz ĥ rfl (cT (af 0)) (cw 2 aB) (aK (dZ (PW.pt (w_or (iZ (eM (bh gK rfl F.gm gn (aG (af 2) (gO J7 rfl F.JH))))) (w_or (eM (bh gK rfl F.gm gn (aG (af 2) (gO xE rfl F.xo)))) (kA (iZ (Sd rX rX aw (af 2) aw)))))) (aK (aS dY)) dU))) (aK (aS dY))))
def Oq (F:bg K mg):bc P w K mg base "_law_agrees" (top 66) Ko 3 tB:=λ{_ _} G=>by
 have dq:(["_law_sheet_here","_law_day","_law_mould"]:List Str).Nodup:=by decide +kernel
 exact bj G ["_law_book_here","_law_mould","_law_sheets_here","_law_days","_law_more"] (by kernel_rfl) λaB _ _ _ _ _ _ hr=>(aD (bK 4 aB (bI dW (af 0) (iu jj rfl F.eV eY (az (oU (N:=["_law_sheet_here","_law_day","_law_mould"]) (nt:=2) (cap:=[1]) rfl (jT (by kernel_rfl)) (q0 (jJ 0 (jJ 1 qQ))) (xU rfl F.tX (aG (af 2) (af 3))) (λcl C s H ex pn=>⟨(kj rfl (jg (dM (i:=0) dq rfl (Ŧ rfl)) (jg (dM (i:=1) dq rfl (Ŧ rfl)) oS))),cM,(bM (aO gH (aO (af 2) (aO (af 1) (aO (af 0) bO)))))⟩)))))) (aK (aS (eJ (dB hr) (cD ["_law_mark","_law_more","_law_mould"] (de rfl F.cE (az aw)) (λ_ _ _ _ _ _=>⟨(fy (bC (gM hr) (bM bO) (aC F.Ip (Iq F) hr (df (af 1) (af 2) (af 0))) rfl)),(af 0)⟩)) (iY bO) (bz _)))))
def Hn:qO ["_law_found","_law_due"] ["_law_found","_law_due"] (gF (top 55)):=⟨rfl,rfl,rfl,by decide +kernel,rfl,by decide +kernel,by decide +kernel⟩
def Ho (F:bg K mg) {f:á} {fd:Ŗ} (G:Gd K mg "_law_same" (top 55) ["_law_found","_law_due"] f fd):∀n,fB P w K mg base gy (1+n) f fd ["_law_found","_law_due"] (ma K (xk n))
 |0=>V2 λ_ _=>rfl
 |n+1=>by
  have dq:(["_law_one","_law_other"]:List Str).Nodup:=by decide +kernel
  have aB:=Hn.nd;have ih:=Ho F G n;exact J0 G.fn Hn λcz A outer s H E hr=>(aD (dZ (eM (Si (af 1) rfl F.gm gn (AD rfl F.eV eY rfl) (AD rfl F.tL tU rfl))) (aD (dZ (PW.pt (w_or (bC (lS hr) (bh gK rfl F.gm gn (aG (af 0) (gO eY rfl F.eV))) (bh gK rfl F.gm gn (aG (af 1) (gO eY rfl F.eV))) (bz _)) (kA (bC (lS hr) (bh gK rfl F.gm gn (aG (af 0) (gO tU rfl F.tL))) (bh gK rfl F.gm gn (aG (af 1) (gO tU rfl F.tL))) (bz _))))) (aK (aS dY)) dU) (aK (aS (dP (eJ (dB hr) (bh iA rfl F.iy iB (az (af 0))) (bh iA rfl F.iy iB (az (af 1))) (bz _)) (dA (bh (nO rfl) rfl F.nG nQ (az (oU (N:=["_law_one","_law_other"]) (nt:=2) (cap:=[]) rfl (jT (by kernel_rfl)) (q0 (jJ 0 (jJ 1 qQ))) (xU rfl F.tX (aG (af 0) (af 1))) (λcl C s H ex pn=>⟨(kj rfl (jg (dM (i:=0) dq rfl (Ŧ rfl)) (jg (dM (i:=1) dq rfl (Ŧ rfl)) oS))),cM,(Bc ih hr rfl G.mg G.fn.kp G.b (aG (af 0) (af 1)))⟩))))))))) dU) (aK (aS (dP (eJ (dB hr) (bh gK rfl F.gm gn (aG (af 0) (gO xE rfl F.xo))) (bh gK rfl F.gm gn (aG (af 1) (gO xE rfl F.xo))) (bz _)) (dA (eJ (dB hr) (af 0) (af 1) (bz _)))))))
def NF (F:bg K mg):bc P w K mg base "are_days" (top 43) bV 4 wL:=λ{_ _} G =>
 bj G bV (by kernel_rfl) λaB _ _ _ _ _ _ hr=>(aK (aS (dP (bh gK rfl F.gm gn (aG (af 0) (gO eY rfl F.eV))) (dA (bh (nO rfl) rfl F.nG nQ (az (cD ["day"] (cT (af 0)) (λ_ _ _ _ _ _=>⟨cM,(aC F.GF (GI F) hr (az (af 0)))⟩))))))))
def Nf (F:bg K mg):bc P w K mg base "is_dating" (top 40) Kp 11 oK:=λ{_ _} G=>by
 have dq:(["day","sheet","mould"]:List Str).Nodup:=by decide +kernel
 exact bj G ["book","mould","sheets","thing","pages"] (by kernel_rfl) λaB _ _ _ _ _ _ hr=>(aD (km (aC F.Fv (Fx F) hr (df (af 0) (af 1) (af 2)))) (aD (dZ (PW.pt (w_or (iZ (eM (aC F.NA (NF F) hr (az (af 3))))) (kA (bC (lS hr) (bh iA rfl F.iy iB (az (af 3))) (bh iA rfl F.iy iB (az (af 2))) (bz _))))) (aK (aS dY)) dU) (aD (bK 4 aB (iu jj rfl F.eV eY (az (oU (N:=["day","sheet","mould"]) (nt:=2) (cap:=[1]) rfl (jT (by kernel_rfl)) (q0 (jJ 0 (jJ 1 qQ))) (xU rfl F.tX (aG (af 3) (af 2))) (λcl C s H ex pn=>⟨(kj rfl (jg (dM (i:=0) dq rfl (Ŧ rfl)) (jg (dM (i:=1) dq rfl (Ŧ rfl)) oS))),cM,(bM (aO gH (aO (af 2) (aO (af 0) (aO (af 1) bO)))))⟩))))) (aK (aS (eJ (dB hr) (aC F.FH (FK F) hr (az (bI dW (af 0) (af 4)))) (iY bO) (bz _)))))))
def UY (F:bg K mg):bc P w K mg base "law" (top 69) Wg 13 (yi w):=λ{_ _} G=>by
 obtain⟨_,_,xp⟩:=F.Q3;have dq:(["_law_turn","_law_state_here","_law_sheets_here","_law_told"]:List Str).Nodup:=by decide +kernel
 exact bj G ["_law_script","_law_k","_law_state_here","_law_book_here","_law_mould","_law_sheets_here","_law_told","_law_things","_law_thing_here","_law_kept","_law_due"] (by kernel_rfl) λaB _ _ _ _ _ _ hr=>(aD (iz ĥ rfl (de rfl F.cE (az (bh (Jq rfl) rfl F.Bq BP (aG aw (bh (Ut rfl) rfl F.xI xZ (aG (bh iA rfl F.iy iB (az (af 0))) aw)))))) (cw 1 aB) (aD (bK 2 aB (aC F.Pn (Pt F) hr (aG (af 0) (af 1)))) (aD (xC 3 4 rfl aB (aG (mI (aC F.Q2 (Q6 F) hr (az (af 2))) mH (mC aw)) (aC F.dI (dJ F) hr (aG (af 2) aw)))) (aD (bK 5 aB (aC F.Oa (Oh F) hr (df (af 2) (af 3) (af 4)))) (aD (bK 6 aB (aC F.M9 (Nd F) hr (df (af 3) (af 4) (af 5)))) (aD (QK 7 (N:=["_law_turn","_law_state_here","_law_sheets_here","_law_told"]) (nt:=1) (cap:=[2,5,6]) aB rfl (jT (by kernel_rfl)) (ji 0) (de rfl F.cE (az aw)) (λcl C s H ex pn=>⟨(dM (i:=0) dq rfl (Ŧ rfl)),cM,(aC F.Pq (Px F) hr (df (af 1) (af 2) (af 3)))⟩)) (aD (dZ (bC Jp (af 6) xS (bz _)) (aK (km (pk (af 7) (af 6)))) dU) (aK (iz ĥ rfl (cT (ua (af 7))) (cw 8 aB) (aD (bK 9 aB (bh (Jt hr) rfl F.Io Ju (az (bM (df (af 3) (af 5) (af 8)))))) (aD (bK 10 aB (dP (aC F.MN (MQ F) hr (aG (af 8) (bh iA rfl F.iy iB (az (af 5))))) (dA (aC F.Og (Oq F) hr (aO (af 3) (aO (af 4) (aO (af 5) (aO (af 8) bO)))))))) (aK (dZ (PW.pt (w_or (iZ (eM (Bc (Ho F xp 8) (hr.mono (by decide)) rfl xp.mg xp.fn.kp xp.b (aG (aC F.Na (Nf F) hr (aO (af 3) (aO (af 4) (aO (af 5) (aO (af 8) bO))))) (af 10))))) (kA (bC (lS hr) (bh (Jt hr) rfl F.Io Ju (az (bM (df (af 3) (af 5) (af 8))))) (af 9) (bz _))))) (aK (aS dY)) dU))))))))))))) (aK (aS dY)))
end
end DI.jF
namespace DI
open PySem L2
def Wp {α:Type} (r:Res α) (Q:α->ag->Prop):Prop:=∃a s,r=some (.ok a,s)/\Q a s
section
variable {α β:Type} {r:Res α} {k:α->ag->Res β} {Q Q':α->ag->Prop} {R:β->ag->Prop} {env:Env} {s:ag}
def Wp.ok {a:α} (h:Q a s):Wp (DI.ok a s) Q:=⟨a,s,rfl,h⟩
def Wp.mono (h:Wp r Q) (i:∀a s,Q a s->Q' a s):Wp r Q':=by
 obtain⟨a,s,e,q⟩:=h;exact⟨a,s,e,i a s q⟩
def Wp.ao (h:Wp r λa s=>Wp (k a s) R):Wp (DI.ao r k) R:=by
 obtain⟨a,s,e,b,s',e',q⟩:=h;exact⟨b,s',by rw[e];exact e',q⟩
def Wp.ne (h:Wp r Q):Wp (DI.ne r) Q:=by
 obtain⟨a,s,e,q⟩:=h;exact⟨a,s,by rw[e];rfl,q⟩
def Wp.of (e:r=some (.ok a,s)) (h:Q a s):Wp r Q:=⟨a,s,e,h⟩
def Wp.seq {f g:Env->ag->Res Fl} {Q:Fl->ag->Prop} (h:Wp (f env s) λfl s=>match fl with
  | .nx env=>Wp (g env s) Q
  |fl=>Q fl s):Wp (ay f g env s) Q:=by
 obtain⟨fl,s',e,h⟩:=h;unfold ay;rw[e]
 cases fl with
 |nx env=>exact h
 |rt d=>exact⟨_,_,rfl,h⟩
 |bk e=>exact⟨_,_,rfl,h⟩
 |ct e=>exact⟨_,_,rfl,h⟩
def Wp.i7 {Q:Fl->ag->Prop} (I:Nat->Env->ag->Prop) (all:List D) (h0:I 0 env s)
 (step:∀i d env s,all[i]?=some d->I i env s->∃env',g d env=some env'/\Wp (b env' s) λfl s=>match fl with
   | .nx e=>I (i+1) e s
   | .ct e=>I (i+1) e s
   | .bk e=>Q (.nx e) s
   | .rt d=>Q (.rt d) s) (fin:∀env s,I all.length env s->Q (.nx env) s):Wp (jO g b all env s) Q:=by
 have key:∀(ds:List D) (i:Nat) (env:Env) (s:ag),all.drop i=ds->i<=all.length->I i env s->Wp (jO g b ds env s) Q:=by
  intro ds
  induction ds with
  |nil =>
   intro i env s hd hi h;have e:i=all.length:=by
    have:=Ĺ List.length hd;simp at this;omega
   subst e;exact Wp.ok (fin _ _ h)
  |cons d ds ih =>
   intro i env s hd hi h;have hx:all[i]?=some d:=by
    have:=Ĺ (λl=>l[0]?) hd;simpa using this
   have ei:all.drop (i+1)=ds:=by
    have:=Ĺ (List.drop 1) hd;simpa [ab7] using this
   obtain⟨env',hg,hb⟩:=step i d env s hx h;have bE:=(Å.mp hx).1;unfold jO;rw[hg];refine Wp.ao (hb.mono λfl s q=>?_)
   cases fl with
   |nx e=>exact ih (i+1) e s ei bE q
   |ct e=>exact ih (i+1) e s ei bE q
   |bk e=>exact Wp.ok q
   |rt d=>exact Wp.ok q
 exact key all 0 env s rfl (Ę _) h0
def mr {nt:Nat} {t:Env->ag->Res Bool} {Q:List D->ag->Prop} (I:Nat->List D->ag->Prop) (all:List D) (h0:I 0 [] s)
 (step:∀i d acc s,all[i]?=some d->I i acc s->∃env,g d (Ï nt none++caps)=some env/\Wp (t env s) λb s=>if b=true then Wp (f env s) λx s=>I (i+1) (acc++[x]) s else I (i+1) acc s)
 (fin:∀acc s,I all.length acc s->Q acc s):Wp (eZ nt caps g t f all s) Q:=by
 have key:∀(ds:List D) (i:Nat) (acc:List D) (s:ag),all.drop i=ds->i<=all.length->I i acc s->Wp (eZ nt caps g t f ds s) λxs s=>Q (acc++xs) s:=by
  intro ds
  induction ds with
  |nil =>
   intro i acc s hd hi h;have e:i=all.length:=by
    have:=Ĺ List.length hd;simp at this;omega
   subst e;exact Wp.ok (by rw[Ō];exact fin _ _ h)
  |cons d ds ih =>
   intro i acc s hd hi h;have hx:all[i]?=some d:=by
    have:=Ĺ (λl=>l[0]?) hd;simpa using this
   have ei:all.drop (i+1)=ds:=by
    have:=Ĺ (List.drop 1) hd;simpa [ab7] using this
   obtain⟨env',hg,hb⟩:=step i d acc s hx h;have bE:=(Å.mp hx).1;unfold eZ;rw[hg];refine Wp.ao (Wp.ne (hb.mono λb s q=>?_))
   cases b with
   |true =>
    rw[Ú rfl] at q |-;refine Wp.ao (Wp.ne (q.mono λx s q=>?_));refine Wp.ao ((ih (i+1) (acc++[x]) s ei bE q).mono λxs s q=>Wp.ok ?_);rw[ķ] at q;exact q
   |false =>
    rw[æ Ë] at q |-;exact ih (i+1) acc s ei bE q
 have:=key all 0 [] s rfl (Ę _) h0;simpa using this
end
section
variable {α β:Type} {Q:D->ag->Prop} {QL:List D->ag->Prop} {QB:Bool->ag->Prop} {QF:Fl->ag->Prop} {QO:Option Int->ag->Prop} {env:Env} {s:ag} {f g h:Env->ag->Res D} {fa:Env->ag->Res (List D)} {c c':Env->ag->Res Bool} {st dD:Env->ag->Res Fl} {o o':D->D->ag->Res D} {u:D->ag->Res D} {bf:List D->ag->Res D}
def wp_ok {a:α} {Q:α->ag->Prop}:Wp (ok a s) Q=Q a s:=propext ⟨λ⟨b,s',e,q⟩=>by cases e;exact q,λq=>⟨a,s,rfl,q⟩⟩
def wp_ok' {Q:α->ag->Prop}:Wp (some (Except.ok a,s)) Q=Q a s:=wp_ok
def bF {r:Res α} {k:α->ag->Res β} {R:β->ag->Prop}:Wp (ao r k) R=Wp r λa s=>Wp (k a s) R:=propext ⟨λ⟨b,s',e,q⟩=>by
 obtain⟨a,s,e1,e2⟩:=qL e;exact⟨a,s,e1,b,s',e2,q⟩,λh=>Wp.ao h⟩
def wp_ne {Q:α->ag->Prop}:Wp (ne r) Q=Wp r Q:=propext ⟨λ⟨b,s',e,q⟩=>⟨b,s',AQ e,q⟩,λh=>h.ne⟩
def wp_loc0 {a:D} {r:Env}:Wp (aa 0 (some a::r) s) Q=Q a s:=by rw[show aa 0 (some a::r) s=ok a s from rfl,wp_ok]
def wp_locS {i:Nat} {a:Option D} {r:Env}:Wp (aa (i+1) (a::r) s) Q=Wp (aa i r s) Q:=by rw[show aa (i+1) (a::r) s=aa i r s from rfl]
def wp_C:Wp (eC d env s) Q=Q d s:=by rw[show eC d env s=ok d s from rfl,wp_ok]
def wp_e1:Wp (e1 u f env s) Q=Wp (f env s) λx s=>Wp (u x s) Q:=by unfold e1;rw[bF]
def wp_e2:Wp (e2 o f g env s) Q=Wp (f env s) λx s=>Wp (g env s) λy s=>Wp (o x y s) Q:=by unfold e2;simp only[bF]
def wp_aNil:Wp (ah env s) QL=QL [] s:=by unfold ah;rw[wp_ok]
def wp_aCons:Wp (ae f fa env s) QL=Wp (f env s) λx s=>Wp (fa env s) λxs s=>QL (x::xs) s:=by unfold ae;simp only[bF,wp_ok]
def wp_eB:Wp (eB bf fa env s) Q=Wp (fa env s) λds s=>Wp (bf ds s) Q:=by unfold eB;rw[bF]
def wp_call:Wp (ax fn fa env s) Q=Wp (fa env s) λds s=>Wp (fn ds s) Q:=by unfold ax;simp only[bF,wp_ne]
def nk {Q:α->ag->Prop}:Wp (iX ds r) Q=(ds.length<=Õ/\Wp r Q):=propext ⟨λ⟨b,s',e,q⟩=>by
 unfold iX at e;split at e
 ·exact⟨by assumption,b,s',e,q⟩
 ·(cases e),λ⟨hl,b,s',e,q⟩=>⟨b,s',by unfold iX;rw[Ú hl];exact e,q⟩⟩
def wp_tup:Wp (aZ fa env s) Q=Wp (fa env s) λds s=>ds.length<=Õ/\Q (.tup ds) s:=by unfold aZ;simp only[bF,nk,wp_ok]
def wp_lst:Wp (fM fa env s) Q=Wp (fa env s) λds s=>ds.length<=Õ/\Q (.lst ds) s:=by unfold fM;simp only[bF,nk,wp_ok]
def wp_new:Wp (eNew fa env s) Q=Wp (fa env s) λds s=>ds.length<=Õ/\Q (.aj s.length) (s++[.lst ds]):=by unfold eNew;simp only[bF,nk,wp_ok]
def wp_frz:Wp (jX f env s) Q=Wp (f env s) λd s=>Wp (cO d s) Q:=by unfold jX;rw[bF]
def wp_tBl:Wp (aH f env s) QB=Wp (f env s) λd s=>Wp (gp d s) QB:=by unfold aH;rw[bF]
def wp_isBl {b:Bool}:Wp (gp (.bl b) s) QB=QB b s:=by rw[show gp (.bl b) s=ok b s from rfl,wp_ok]
def wp_tru:Wp (cN f env s) QB=Wp (f env s) λd s=>Wp (truth d s) QB:=by unfold cN;rw[bF]
def wp_truB {b:Bool}:Wp (truth (.bl b) s) QB=QB b s:=by rw[show truth (.bl b) s=ok b s from rfl,wp_ok]
def wp_tAnd:Wp (cK c c' env s) QB=Wp (c env s) λb s=>if b=true then Wp (c' env s) QB else QB false s:=by
 unfold cK;rw[bF];congr 1;funext b s
 cases b<;>simp[wp_ok]
def wp_tOr:Wp (fQ c c' env s) QB=Wp (c env s) λb s=>if b=true then QB true s else Wp (c' env s) QB:=by
 unfold fQ;rw[bF];congr 1;funext b s
 cases b<;>simp[wp_ok]
def wp_tNot:Wp (fk c env s) QB=Wp (c env s) λb s=>QB (!b) s:=by unfold fk;simp only[bF,wp_ok]
def wp_eAnd:Wp (cL f g env s) Q=Wp (f env s) λx s=>Wp (gp x s) λb s=>if b=true then Wp (g env s) Q else Q (.bl false) s:=by
 unfold cL;rw[bF];congr 1;funext x s;rw[bF];congr 1;funext b s
 cases b<;>simp[wp_ok]
def wp_eOr:Wp (kT f g env s) Q=Wp (f env s) λx s=>Wp (gp x s) λb s=>if b=true then Q (.bl true) s else Wp (g env s) Q:=by
 unfold kT;rw[bF];congr 1;funext x s;rw[bF];congr 1;funext b s
 cases b<;>simp[wp_ok]
def wp_eNot:Wp (pN f env s) Q=Wp (f env s) λx s=>Wp (gp x s) λb s=>Q (.bl (!b)) s:=by unfold pN;simp only[bF,wp_ok]
def wp_eIf:Wp (yV c f g env s) Q=Wp (c env s) λb s=>if b=true then Wp (f env s) Q else Wp (g env s) Q:=by
 unfold yV;rw[bF];congr 1;funext b s
 cases b<;>simp
def wp_eCh:Wp (mQ o o' f g h env s) Q=Wp (f env s) λx s=>Wp (g env s) λy s=>Wp (o x y s) λz s=>Wp (gp z s) λb s=>if b=true then Wp (h env s) λu s=>Wp (o' y u s) Q else Q (.bl false) s:=by
 unfold mQ;simp only[bF];congr 1;funext x s;congr 1;funext y s;congr 1;funext z s;congr 1;funext b s
 cases b<;>simp[wp_ok,bF]
def wp_sNil:Wp (cb env s) QF=QF (.nx env) s:=by unfold cb;rw[wp_ok]
def wp_sRet:Wp (aN f env s) QF=Wp (f env s) λd s=>QF (.rt d) s:=by unfold aN;simp only[bF,wp_ok]
def wp_sExpr:Wp (fK f env s) QF=Wp (f env s) λ_ s=>QF (.nx env) s:=by unfold fK;simp only[bF,wp_ok]
def wp_sCont:Wp (JZ env s) QF=QF (.ct env) s:=by unfold JZ;rw[wp_ok]
def m9 (st:Env->ag->Res Fl) (Q:Fl->ag->Prop):Fl->ag->Prop:=λfl s=>match fl with
 | .nx env=>Wp (st env s) Q
 |fl=>Q fl s
def wp_sSeq:Wp (ay st dD env s) QF=Wp (st env s) (m9 dD QF):=propext ⟨λh=>by
 unfold ay at h;rw[bF] at h;refine h.mono λfl s q=>?_
 cases fl with
 |nx e=>exact q
 |rt d=>have q:Wp (ok (Fl.rt d) s) QF:=q;rw[wp_ok] at q;exact q
 |bk d=>have q:Wp (ok (Fl.bk d) s) QF:=q;rw[wp_ok] at q;exact q
 |ct d=>have q:Wp (ok (Fl.ct d) s) QF:=q;rw[wp_ok] at q;exact q,λh=>Wp.seq (h.mono λfl s q=>by cases fl<;>exact q)⟩
def Wp.step (h:∀R,R=dD->Wp (st env s) (m9 R QF)):Wp (ay st dD env s) QF:=by rw[wp_sSeq];exact h _ rfl
def nT {env':Env} {s':ag} (h:st env s=ok (.nx env') s') (k:Wp (dD env' s') QF):Wp (ay st dD env s) QF:=by
 rw[wp_sSeq,h,wp_ok];exact k
def aft_nx:m9 st QF (.nx env) s=Wp (st env s) QF:=rfl
def aft_rt:m9 st QF (.rt d) s=QF (.rt d) s:=rfl
def aft_ct:m9 st QF (.ct env) s=QF (.ct env) s:=rfl
def wp_sIf:Wp (cj c st dD env s) QF=Wp (c env s) λb s=>if b=true then Wp (st env s) QF else Wp (dD env s) QF:=by
 unfold cj;rw[bF];congr 1;funext b s
 cases b<;>simp
def wp_sAsg {gd:D->Env->Option Env}:Wp (aL f gd env s) QF=Wp (f env s) λd s=>∃e,gd d env=some e/\QF (.nx e) s:=by
 unfold aL;rw[bF];congr 1;funext d s
 cases h:gd d env with
 |none=>exact propext ⟨λ⟨_,_,e,_⟩=>(by cases e),λ⟨_,e,_⟩=>(by cases e)⟩
 |some e=>rw[wp_ok];exact propext ⟨λq=>⟨e,rfl,q⟩,λ⟨e',z,q⟩=>by cases z;exact q⟩
def asg_N {i:Nat} {P:Env->Prop}:(∃e,gN i d env=some e/\P e)=P (env.set i (some d)):=propext ⟨λ⟨e,z,q⟩=>by cases z;exact q,λq=>⟨_,rfl,q⟩⟩
def asg_T {P:Env->Prop}:(∃e,gT gs (.tup ds) env=some e/\P e)=∃e,ig gs ds env=some e/\P e:=rfl
def asg_nil {P:Env->Prop}:(∃e,ig [] [] env=some e/\P e)=P env:=propext ⟨λ⟨e,z,q⟩=>by cases z;exact q,λq=>⟨_,rfl,q⟩⟩
def asg_cons {i:Nat} {P:Env->Prop}:(∃e,ig (gN i::gs) (d::ds) env=some e/\P e)=∃e,ig gs ds (env.set i (some d))=some e/\P e:=rfl
def wp_par2 {i j:Nat}:Wp (pQ i j fa env s) QF=Wp (fa env s) λds s=>∃x y,ds=[x,y]/\QF (.nx ((env.set i (some x)).set j (some y))) s:=by
 unfold pQ;rw[bF];congr 1;funext ds s
 match ds with
 | [x,y] =>
  show Wp (ok (Fl.nx ((env.set i (some x)).set j (some y))) s) QF=_;rw[wp_ok];exact propext ⟨λq=>⟨x,y,rfl,q⟩,λ⟨x',y',e,q⟩=>by cases e;exact q⟩
 | []=>exact propext ⟨λ⟨_,_,e,_⟩=>(by cases e),λ⟨_,_,e,_⟩=>(by cases e)⟩
 | [_]=>exact propext ⟨λ⟨_,_,e,_⟩=>(by cases e),λ⟨_,_,e,_⟩=>(by cases e)⟩
 |_::_::_::_=>exact propext ⟨λ⟨_,_,e,_⟩=>(by cases e),λ⟨_,_,e,_⟩=>(by cases e)⟩
def par_of {P:D->D->Prop}:(∃x' y',[x,y]=[x',y']/\P x' y')=P x y:=propext ⟨λ⟨_,_,e,q⟩=>by cases e;exact q,λq=>⟨x,y,rfl,q⟩⟩
def wp_sFor:Wp (fb it gd st env s) QF=Wp (it env s) λds s=>Wp (jO gd st ds env s) QF:=by unfold fb;rw[bF]
def wp_sSub {fo fi:Env->ag->Res D}:Wp (il f fo fi env s) QF=Wp (f env s) λx s=>Wp (fo env s) λd s=>Wp (fi env s) λn s=>∃s',iE d n x s=some s'/\QF (.nx env) s':=by
 unfold il;simp only[bF];congr 1;funext x s;congr 1;funext d s;congr 1;funext n s
 cases h:iE d n x s with
 |none=>exact propext ⟨λ⟨_,_,e,_⟩=>(by cases e),λ⟨_,e,_⟩=>(by cases e)⟩
 |some e=>simp only[wp_ok];exact propext ⟨λq=>⟨e,rfl,q⟩,λ⟨e',z,q⟩=>by cases z;exact q⟩
def wp_app:Wp (ik f g env s) Q=Wp (f env s) λd s=>i6 d s=true/\Wp (g env s) λx s=>Wp (i5 d x s) Q:=by
 unfold ik;rw[bF];congr 1;funext d s
 cases h:i6 d s with
 |true=>rw[Ú rfl,bF];simp
 |false=>rw[æ Ë];exact propext ⟨λ⟨_,_,e,_⟩=>(by cases e),λ⟨e,_⟩=>(by cases e)⟩
def sd (Q:D->ag->Prop):Fl->ag->Prop:=λfl s=>match fl with
 | .rt d=>Q d s
 | .nx _=>Q .au s
 |_=>False
def wp_fn:Wp (aU np ns st ds s) Q=(ds.length=np/\Wp (st (ds.map some++Ï (ns-np) none) s) (sd Q)):=by
 unfold aU;by_cases h:ds.length=np
 ·rw[Ú h,bF]
  refine propext ⟨λq=>⟨h,q.mono λfl s q=>?_⟩,λ⟨_,q⟩=>q.mono λfl s q=>?_⟩
  ·cases fl with
   |rt d=>exact(show Wp (ok d s) Q from q) |> λz=>by rw[wp_ok] at z;exact z
   |nx e=>exact(show Wp (ok D.au s) Q from q) |> λz=>by rw[wp_ok] at z;exact z
   |bk e=>obtain⟨_,_,e,_⟩:=q;cases e
   |ct e=>obtain⟨_,_,e,_⟩:=q;cases e
  ·cases fl with
   |rt d=>exact Wp.ok q
   |nx e=>exact Wp.ok q
   |bk e=>exact q.elim
   |ct e=>exact q.elim
 ·rw[æ h]
  exact propext ⟨λ⟨_,_,e,_⟩=>(by cases e),λ⟨e,_⟩=>absurd e h⟩
def fin_rt:sd Q (.rt d) s=Q d s:=rfl
def fin_nx:sd Q (.nx env) s=Q .au s:=rfl
def wp_comp:Wp (aW nt cap it gd c f env s) Q=Wp (it env s) λds s=>ds.length<=Õ/\Wp (eZ nt (fV cap env) gd c f ds s) λxs s=>Q (.lst xs) s:=by
 unfold aW;simp only[bF,nk,wp_ok]
def wp_sl:Wp (iM f l' h' env s) Q=Wp (f env s) λd s=>Wp (l' env s) λlo s=>Wp (h' env s) λhi s=>Wp (jm d lo hi s) Q:=by unfold iM;simp only[bF]
def wp_pNo:Wp (iL env s) QO=QO none s:=by unfold iL;rw[wp_ok]
def lH {i:Int} (hi:f env s=ok (.int i) s):Wp (iD f env s) QO=QO (some i) s:=by unfold iD;rw[hi,dO,wp_ok]
end
def bp (s:ag) (k:Nat):Prop:=∃a b:Int,s[k]?=some (.lst [.int a,.int b])/\0<=a/\0<=b/\b<2147483647
structure Ex (k:Nat) (s s':ag):Prop where
 len:s.length<=s'.length
 val:∀j,j<s.length->j≠k->s'[j]?=s[j]?
def Ex.refl (k:Nat) (s:ag):Ex k s s:=⟨Nat.le_refl _,λ_ _ _=>rfl⟩
def Ex.trans (h:Ex k a b) (g:Ex k b c):Ex k a c:=⟨Û h.len g.len,λj hj hk=>(g.val j (Ê hj h.len) hk).trans (h.val j hj hk)⟩
def Ex.set (k:Nat) (s:ag) (c:Cell):Ex k s (s.set k c):=⟨by simp,λj _ hj=>Ø (Ň hj)⟩
def Ex.app (k:Nat) (s:ag) (c:List Cell):Ex k s (s++c):=⟨by simp,λj hj _=>ä hj⟩
def bp.lt (h:bp s k):k<s.length:=by
 obtain⟨a,b,e,_⟩:=h;exact(Å.mp e).1
def bp.app (h:bp s k) (c:List Cell):bp (s++c) k:=by
 obtain⟨a,b,e,r⟩:=h;exact⟨a,b,by rw[ä (Å.mp e).1];exact e,r⟩
def bp.set (h:bp s k) (hj:j≠k) (c:Cell):bp (s.set j c) k:=by
 obtain⟨a,b,e,r⟩:=h;exact⟨a,b,by rw[Ø hj];exact e,r⟩
def Em (x y:D) (k:Nat) (s:ag) (h:s[k]?=some (.lst [x,y])):ak (.aj k) (.int 0) s=ok x s:=by
 simp[ak,gZ,res,h,dE,gw,bB]
def En (x y:D) (k:Nat) (s:ag) (h:s[k]?=some (.lst [x,y])):ak (.aj k) (.int 1) s=ok y s:=by
 simp[ak,gZ,res,h,dE,gw,bB]
def K5 (x y z:D) (k:Nat) (s:ag) (h:s[k]?=some (.lst [x,y])):iE (.aj k) (.int 0) z s=some (s.set k (.lst [z,y])):=by
 simp[iE,h,gw]
def K6 (x y z:D) (k:Nat) (s:ag) (h:s[k]?=some (.lst [x,y])):iE (.aj k) (.int 1) z s=some (s.set k (.lst [x,z])):=by
 simp[iE,h,gw]
@[simp] theorem rn {a:D} {r:Env} {s:ag}:aa 0 (some a::r) s=ok a s:=rfl
@[simp] theorem rq {i:Nat} {a:Option D} {r:Env} {s:ag}:aa (i+1) (a::r) s=aa i r s:=rfl
def ltI (i j:Int) (s:ag):fX (.int i) (.int j) s=ok (.bl (decide (i<j))) s:=rfl
def zp (i j:Int) (s:ag):rW (.int i) (.int j) s=ok (.bl (decide (j<i))) s:=rfl
def Y7 (i j:Int) (s:ag):yB (.int i) (.int j) s=ok (.bl (decide (j<=i))) s:=rfl
def Y8 (i j:Int) (s:ag):kJ (.int i) (.int j) s=ok (.bl (decide (i<=j))) s:=rfl
def C6 (i j:Int) (s:ag):bR (.int i) (.int j) s=ok (.int (i+j)) s:=rfl
def K7 (i j:Int) (s:ag):rE (.int i) (.int j) s=ok (.int (i-j)) s:=rfl
def LZ (i j:Int) (s:ag):aV (.int i) (.int j) s=ok (.bl (i==j)) s:=rfl
def L0 (i j:Int) (s:ag):gr (.int i) (.int j) s=ok (.bl (!(i==j))) s:=rfl
def se {i j:Int} (s:ag) (h:0<j):mB (.int i) (.int j) s=ok (.int (i % j)) s:=by
 simp[mB,CO,h,bB]
def K8 (s:ag) (h:0<j) (h2:j<1073741824):ug (.int i) (.int j) s=ok (.int (i / j)) s:=by
 simp[ug,CP,h,h2,bB]
def uK (s:ag) (h:ue i j=true):ic (.int i) (.int j) s=ok (.int (i*j)) s:=by
 simp[ic,yA,h,bB]
def mulOk_of (h1:-(2 ^ 64)<i) (h2:i<2 ^ 64):ue i j=true:=by
 unfold ue;rw[Ý h1,Ý h2];rfl
def dN (h:bp s k) (h1:0<m) (h2:m<1073741824):Wp (bJ [.aj k,.int m] s) λd s'=>∃r:Int,d=.int r/\0<=r/\r<m/\bp s' k/\Ex k s s':=by
 obtain⟨a,b,e,ha,hb,iO⟩:=h;have hk:=(Å.mp e).1;by_cases h0:0<a
 ·have es:(s.set k (.lst [.int (a / m),.int b]))[k]?=some (.lst [.int (a / m),.int b]):=ã hk
  refine⟨.int (a % m),s.set k (.lst [.int (a / m),.int b]),?_,a % m,rfl,aa6 _ (by omega),aaa _ h1,⟨a / m,b,es,Int.ediv_nonneg ha (by omega),hb,iO⟩,Ex.set _ _ _⟩;simp only[bJ,aU,ay,cj,aH,e2,rn,rq,eC,dO,Ö,İ,ċ,ģ,Em _ _ k s e,zp,gp,å,î,Ý h0,û,aL,gN,se s h1,il,K8 s h1 h2,K5 _ _ _ k s e,aN,ï,ð,Ï]
 ·have hn:decide (0<a)=false:=ñ h0
  have ex:0<=(b*48271+29) % 2147483647/\(b*48271+29) % 2147483647<2147483647:=⟨aa6 _ (by decide),aaa _ (by decide)⟩;generalize hx:(b*48271+29) % 2147483647=x at ex;have es:(s.set k (.lst [.int a,.int x]))[k]?=some (.lst [.int a,.int x]):=ã hk;generalize hy:(x*x+39373*x+7) % 2147483629=y;have ey:0<=y/\y<2147483629:=by rw[<- hy];exact⟨aa6 _ (by decide),aaa _ (by decide)⟩
  generalize hz:(y*y+16807*y) % 2147483587=z;refine⟨.int (z / 8 % m),s.set k (.lst [.int a,.int x]),?_,_,rfl,aa6 _ (by omega),aaa _ h1,⟨a,x,es,ha,ex.1,ex.2⟩,Ex.set _ _ _⟩;have m1:ic (.int b) (.int 48271) s=ok (.int (b*48271)) s:=uK s (mulOk_of (by omega) (by omega));have m2:∀s',ic (.int x) (.int x) s'=ok (.int (x*x)) s':=λs'=>uK s' (mulOk_of (by omega) (by omega));have m3:∀s',ic (.int 39373) (.int x) s'=ok (.int (39373*x)) s':=λs'=>uK s' (mulOk_of (by decide) (by decide));have m4:∀s',ic (.int y) (.int y) s'=ok (.int (y*y)) s':=λs'=>uK s' (mulOk_of (by omega) (by omega));have m5:∀s',ic (.int 16807) (.int y) s'=ok (.int (16807*y)) s':=λs'=>uK s' (mulOk_of (by decide) (by decide));simp only[bJ,aU,ay,cj,aH,e2,rn,rq,eC,dO,Ö,İ,ċ,ģ,Em _ _ k s e,En _ _ k s e,zp,gp,å,î,hn,Ã,ê,û,cb,il,m1,C6,se _ (show (0:Int)<2147483647 by decide),hx,K6 _ _ _ k s e,aL,gN,En _ _ k _ es,m2,m3,
   se _ (show (0:Int)<2147483629 by decide),hy,ï,ð,Ï,m4,m5,se _ (show (0:Int)<2147483587 by decide),hz,aN,K8 _ (show (0:Int)<8 by decide) (by decide),se _ h1]
def le_size (h:n<=1000000):n<=Õ:=Û h (by decide)
def Aq (h1:-1000000<=j) (h2:j<=1000000):jQ j=true:=by
 unfold jQ;rw[Ý (show -(2 ^ 62)<=j by omega),Ý (show j<2 ^ 62 by omega)];rfl
def Hq {α:Type} {ds:List D} {r:Res α} (h:ds.length<=1000000):iX ds r=r:=Ú (le_size h)
def AV {α β:Type} (f:α->β) (xs:List α) (i:Int):dE (xs.map f) i=(dE xs i).map f:=by
 unfold dE;rw[Ä]
 cases gw xs.length i with
 |none=>rfl
 |some j=>simp
def nH {α:Type} {xs:List α} {i:Int} (h0:0<=i) (h1:i<xs.length):∃x,dE xs i=some x/\xs[i.toNat]?=some x:=by
 have hj:i.toNat<xs.length:=by omega
 refine⟨xs[i.toNat],?_,Ð hj⟩;unfold dE gw;rw[Ú h0,Ú h1];exact Ð hj
def SQ {ns:List Int} {i:Int} {s:ag} (h0:0<=i):∃c:Int,sX [.bG ns,.int i] s=ok (.int c) s:=by
 by_cases h:i<(ns.length:Int)
 ·obtain⟨x,h1,_⟩:=nH h0 h
  refine⟨x,?_⟩;have hx:ak (.bG ns) (.int i) s=ok (.int x) s:=by simp[ak,gZ,res,h1,bB]
  simp only[sX,aU,ay,cj,aH,e2,eB,ae,ah,bN,yC,res,bB,rn,rq,eC,dO,Ö,İ,ċ,ģ,å,î,û,ltI,gp,Ý h,aN,hx,Ï]
 ·refine⟨0,?_⟩
  simp only[sX,aU,ay,cj,aH,e2,eB,ae,ah,bN,yC,res,bB,rn,rq,eC,dO,Ö,İ,ċ,ģ,å,î,û,ltI,gp,ñ h,Ã,ê,cb,aN,Ï]
def Q7 {ns:List Int} {i:Int} {s:ag} (h0:0<=i):Wp (w9 [.bG ns,.int i] s) λd s'=>d=.aj s.length/\bp s' s.length/\∃c,s'=s++[c]:=by
 obtain⟨c,hc⟩:=SQ (ns:=ns) (s:=s) h0;have hp:∀s,rF (.int 10) (.int 18) s=ok (.int (10 ^ 18)) s:=λs=>by
  have e:CQ (.int 10) (.int 18)=some (.int (10 ^ 18)):=by
   show (if (decide ((0:Int)<=18)&&decide ((18:Int)<=1000000)&&decide ((10:Int).natAbs<2 ^ 64))=true then some (D.int (10 ^ (18:Int).toNat)) else none)=_
   rw[Ú (by decide)];rfl
  simp only[rF,e,bB]
 refine⟨.aj s.length,s++[.lst [.int (if c-10 ^ 18 > 0 then c-10 ^ 18 else 0),.int (c % 2147483647)]],?_,rfl,⟨_,_,by simp;exact⟨rfl,rfl⟩,?_,aa6 _ (by decide),aaa _ (by decide)⟩,_,rfl⟩
 ·simp only[w9,aU,ay,aL,ax,ae,ah,rn,rq,eC,dO,Ö,İ,ċ,ģ,å,î,û,hc,jP,gN,ï,ð,Ï,aN,eNew,eB,rL,e2,hp,K7,se _ (show (0:Int)<2147483647 by decide)]
  rw[Hq (by simp)];rfl
 ·split<;>omega
structure dG (m:Nat) (ns:List Int):Prop where
 lo:∀x∈ns,0<=x/\x<m
 up:ns.Pairwise (· < ·)
noncomputable abbrev mD (ns:List Int):D:=.tup (ns.map D.int)
def dG.len (h:dG m ns):ns.length<=m:=by
 have key:∀(l:List Int) (b:Int),l.Pairwise (· < ·)->(∀x∈l,b<=x/\x<m)->(l.length:Int)<=m-b\/l=[]:=by
  intro l
  induction l with
  |nil=>intro b _ _;exact .inr rfl
  |cons x l ih =>
   intro b hp hb;obtain⟨h1,h2⟩:=Ă.mp hp;have hx:=hb x Ò;left
   rcases ih (x+1) h2 (λy hy=>⟨by have:=h1 y hy;omega,(hb y (Ñ _ hy)).2⟩) with h|h
   ·rw[å];omega
   ·subst h
    simp;omega
 rcases key ns 0 h.up h.lo with h'|h'
 ·omega
 ·subst h';simp
def Pz {k n:Nat} {w:Int} (h1:bp s1 k) (w0:0<=w) (w1:w<4):Wp (eZ 1 (fV [0,2] [some (.aj k),some (.int n),some (.int (1+w))]) (gN 0) (aH (e2 aV (ax bJ (ae (aa 1) (ae (e2 bR (aa 2) (eC (.int 1))) ah))) (eC (.int 0)))) (aa 0) (bP 0 n) s1)
   λxs s'=>∃ns,xs=ns.map D.int/\dG n ns/\bp s' k/\Ex k s1 s':=by
 refine mr (λi acc s'=>∃ns:List Int,acc=ns.map D.int/\dG i ns/\bp s' k/\Ex k s1 s') (bP 0 n) ⟨[],rfl,⟨by simp,.nil⟩,h1,Ex.refl _ _⟩ (λi d acc s' hd hI=>?_) λacc s' hI=>?_
 ·obtain⟨ns,rfl,hm,h2,x2⟩:=hI
  rw[gG] at hd;split at hd
  ·cases hd
   refine⟨[some (.int (0+i)),some (.aj k),some (.int (1+w))],rfl,?_⟩;have ht:=dN h2 (m:=1+w+1) (by omega) (by omega);obtain⟨d,s3,e3,r,rfl,r0,r1,h3,x3⟩:=ht;have hb:aH (e2 aV (ax bJ (ae (aa 1) (ae (e2 bR (aa 2) (eC (.int 1))) ah))) (eC (.int 0))) [some (.int (0+(i:Int))),some (.aj k),some (.int (1+w))] s'=ok (r==0) s3:=by
    simp only[aH,e2,ax,ae,ah,rn,rq,eC,dO,C6,e3,jP,LZ,gp]
   refine Wp.of hb ?_;split
   ·refine Wp.ok ⟨ns++[0+(i:Int)],by simp,⟨λx hx=>?_,?_⟩,h3,x2.trans x3⟩
    ·rcases Ù.mp hx with hx|hx
     ·have:=hm.lo x hx;omega
     ·rw[Ü.mp hx];omega
    ·refine aay.mpr ⟨hm.up,by simp,λx hx y hy=>?_⟩
     rw[Ü.mp hy];have:=hm.lo x hx;omega
   ·exact⟨ns,rfl,⟨λx hx=>by have:=hm.lo x hx;omega,hm.up⟩,h3,x2.trans x3⟩
  ·cases hd
 ·rw[cq] at hI
  exact hI
def Q8 {nt:Nat} {cap:List Nat} {it:Env->ag->Res (List D)} {g:D->Env->Option Env} {t:Env->ag->Res Bool} {f:Env->ag->Res D} {env:Env} {s s1 s2:ag} {ds xs:List D} (h1:it env s=ok ds s1) (hl:ds.length<=1000000) (h2:eZ nt (fV cap env) g t f ds s1=ok xs s2):aW nt cap it g t f env s=ok (.lst xs) s2:=by
 unfold aW;rw[h1,dO,Hq hl,h2,dO]
def eI (h:fa env s=ok [.int n] s1) (hn:n<=1000000):bS fa env s=ok (bP 0 n) s1:=by
 unfold bS;rw[h,dO]
 show (if jQ (n:Int)=true then ok (bP 0 (n:Int).toNat) s1 else none)=_
 rw[Ú (Aq (by omega) (by omega)),õ]
def xq {n:Nat} {i:Int} (h:fa env s=ok [.int i] s1) (hi:i=n) (hn:n<=1000000):bS fa env s=ok (bP 0 n) s1:=by
 subst hi;exact eI h hn
def JI (h:fa env s=ok [.int i,.int j] s1) (h1:-1000000<=i) (h2:i<=1000000) (h3:-1000000<=j) (h4:j<=1000000):vt fa env s=ok (bP i (j-i).toNat) s1:=by
 unfold vt;rw[h,dO]
 show (if (jQ i&&jQ j)=true then ok (bP i (j-i).toNat) s1 else none)=_
 rw[Ú (by rw[Aq h1 h2,Aq h3 h4];rfl)]
def wp_ltI:Wp (fX (.int i) (.int j) s) Q=Q (.bl (decide (i<j))) s:=by rw[ltI,wp_ok]
def wp_gtI:Wp (rW (.int i) (.int j) s) Q=Q (.bl (decide (j<i))) s:=by rw[zp,wp_ok]
def wp_geI:Wp (yB (.int i) (.int j) s) Q=Q (.bl (decide (j<=i))) s:=by rw[Y7,wp_ok]
def wp_leI:Wp (kJ (.int i) (.int j) s) Q=Q (.bl (decide (i<=j))) s:=by rw[Y8,wp_ok]
def wp_addI:Wp (bR (.int i) (.int j) s) Q=Q (.int (i+j)) s:=by rw[C6,wp_ok]
def wp_subI:Wp (rE (.int i) (.int j) s) Q=Q (.int (i-j)) s:=by rw[K7,wp_ok]
def wp_eqI:Wp (aV (.int i) (.int j) s) Q=Q (.bl (i==j)) s:=by rw[LZ,wp_ok]
def wp_neI:Wp (gr (.int i) (.int j) s) Q=Q (.bl (!(i==j))) s:=by rw[L0,wp_ok]
def Hr {k n:Nat} (h:bp s k) (hn:n<=8):Wp (tG [.aj k,.int n] s) λd s'=>∃ns,d=mD ns/\dG n ns/\bp s' k/\Ex k s s':=by
 unfold tG;simp only[wp_ok,wp_ok',wp_ne,wp_loc0,wp_locS,wp_C,wp_e1,wp_e2,wp_aNil,wp_aCons,wp_eB,wp_call,wp_tup,wp_lst,wp_new,wp_frz,wp_tBl,wp_isBl,wp_tru,wp_truB,wp_tAnd,wp_tOr,wp_tNot,wp_eAnd,wp_eOr,wp_eNot,wp_eIf,wp_eCh,wp_sNil,wp_sRet,wp_sExpr,wp_sCont,wp_sSeq,aft_nx,aft_rt,aft_ct,wp_sIf,wp_sAsg,asg_N,asg_T,asg_nil,asg_cons,wp_par2,par_of,wp_sFor,wp_sSub,wp_app,wp_fn,fin_rt,fin_nx,wp_comp,wp_sl,wp_pNo,Ö,İ,ċ,ģ,å,î,ï,ð,Ï,true_and,Nat.reduceSub,Nat.reduceAdd,wp_ltI,wp_gtI,wp_geI,wp_leI,wp_addI,wp_subI,wp_eqI,wp_neI];refine(dN h (by decide) (by decide)).mono λd s1 hd=>?_;obtain⟨w,rfl,w0,w1,h1,x1⟩:=hd;simp only[wp_ok,wp_ok',wp_ne,wp_loc0,wp_locS,wp_C,wp_e1,wp_e2,wp_aNil,wp_aCons,wp_eB,wp_call,wp_tup,wp_lst,wp_new,wp_frz,wp_tBl,wp_isBl,wp_tru,wp_truB,wp_tAnd,wp_tOr,wp_tNot,wp_eAnd,wp_eOr,wp_eNot,wp_eIf,wp_eCh,wp_sNil,wp_sRet,wp_sExpr,wp_sCont,wp_sSeq,aft_nx,aft_rt,aft_ct,wp_sIf,wp_sAsg,asg_N,asg_T,asg_nil,asg_cons,wp_par2,par_of,wp_sFor,wp_sSub,wp_app,wp_fn,fin_rt,fin_nx,wp_comp,wp_sl,wp_pNo,Ö,İ,ċ,ģ,å,î,ï,ð,Ï,true_and,Nat.reduceSub,Nat.reduceAdd,wp_ltI,wp_gtI,wp_geI,wp_leI,wp_addI,wp_subI,wp_eqI,wp_neI];refine Wp.of (eI rfl (by omega)) ⟨by rw[cq];exact le_size (by omega),(Pz h1 w0 w1).mono λxs s2 hx=>?_⟩;obtain⟨ns,rfl,hm,h2,x2⟩:=hx;exact Wp.of rfl ⟨ns,rfl,hm,h2,x1.trans x2⟩
end DI
local macro_rules | `(tactic| simp only[VC])=>`(tactic| simp only[DI.wp_ok,DI.wp_ok',DI.wp_ne,DI.wp_loc0,DI.wp_locS,DI.wp_C,DI.wp_e1,DI.wp_e2,DI.wp_aNil,DI.wp_aCons,DI.wp_eB,DI.wp_call,DI.wp_tup,DI.wp_lst,DI.wp_new,DI.wp_frz,DI.wp_tBl,DI.wp_isBl,DI.wp_tru,DI.wp_truB,DI.wp_tAnd,DI.wp_tOr,DI.wp_tNot,DI.wp_eAnd,DI.wp_eOr,DI.wp_eNot,DI.wp_eIf,DI.wp_eCh,DI.wp_sNil,DI.wp_sRet,DI.wp_sExpr,DI.wp_sCont,DI.wp_sSeq,DI.aft_nx,DI.aft_rt,DI.aft_ct,DI.wp_sIf,DI.wp_sAsg,DI.asg_N,DI.asg_T,DI.asg_nil,DI.asg_cons,DI.wp_par2,DI.par_of,DI.wp_sFor,DI.wp_sSub,DI.wp_app,DI.wp_fn,DI.fin_rt,DI.fin_nx,DI.wp_comp,DI.wp_sl,DI.wp_pNo,List.map_cons,List.map_nil,List.cons_append,List.nil_append,List.length_cons,List.length_nil,List.set_cons_succ,List.set_cons_zero,List.replicate,true_and,Nat.reduceSub,Nat.reduceAdd,DI.wp_ltI,DI.wp_gtI,DI.wp_geI,DI.wp_leI,DI.wp_addI,DI.wp_subI,DI.wp_eqI,DI.wp_neI])
local macro_rules | `(tactic| simp only[VC,$xs,*])=>`(tactic| simp only[DI.wp_ok,DI.wp_ok',DI.wp_ne,DI.wp_loc0,DI.wp_locS,DI.wp_C,DI.wp_e1,DI.wp_e2,DI.wp_aNil,DI.wp_aCons,DI.wp_eB,DI.wp_call,DI.wp_tup,DI.wp_lst,DI.wp_new,DI.wp_frz,DI.wp_tBl,DI.wp_isBl,DI.wp_tru,DI.wp_truB,DI.wp_tAnd,DI.wp_tOr,DI.wp_tNot,DI.wp_eAnd,DI.wp_eOr,DI.wp_eNot,DI.wp_eIf,DI.wp_eCh,DI.wp_sNil,DI.wp_sRet,DI.wp_sExpr,DI.wp_sCont,DI.wp_sSeq,DI.aft_nx,DI.aft_rt,DI.aft_ct,DI.wp_sIf,DI.wp_sAsg,DI.asg_N,DI.asg_T,DI.asg_nil,DI.asg_cons,DI.wp_par2,DI.par_of,DI.wp_sFor,DI.wp_sSub,DI.wp_app,DI.wp_fn,DI.fin_rt,DI.fin_nx,DI.wp_comp,DI.wp_sl,DI.wp_pNo,List.map_cons,List.map_nil,List.cons_append,List.nil_append,List.length_cons,List.length_nil,List.set_cons_succ,List.set_cons_zero,List.replicate,true_and,Nat.reduceSub,Nat.reduceAdd,DI.wp_ltI,DI.wp_gtI,DI.wp_geI,DI.wp_leI,DI.wp_addI,DI.wp_subI,DI.wp_eqI,DI.wp_neI,$xs,*])
namespace DI
open PySem L2
def Wp.eq {α:Type} {r:Res α} {d:α} {s:ag} (h:Wp r λa s'=>a=d/\s'=s):r=DI.ok d s:=by
 obtain⟨a,s',e,rfl,rfl⟩:=h;exact e
def iT {f:Env->ag->Res D} {env:Env} {s s1:ag} {ds:List D} (h:f env s=ok (.tup ds) s1):bq f env s=ok ds s1:=by
 unfold bq;rw[h];rfl
def iw (h:f env s=ok (.lst ds) s1):bq f env s=ok ds s1:=by
 unfold bq;rw[h];rfl
def qI:∀(ns:List Int),cG (ns.map D.int)=true
 | []=>rfl
 |n::ns=>by simp only[Ö,cG,lay,qI ns,Ĥ]
def GJ:∀(ns:List Int),cC (ns.map D.int)=0
 | []=>rfl
 |n::ns=>by simp only[Ö,cC,dep,GJ ns,Nat.max_self]
def Ir (x:Int) (ns:List Int):((ns.map D.int).any λy=>beq y (.int x))=decide (x∈ns):=by
 induction ns with
 |nil=>simp
 |cons n ns ih =>
  simp only[Ö,List.any_cons,ih,beq];by_cases h:n=x
  ·subst h;simp
  ·have h':¬ x=n:=λe=>h e.symm
   simp[h,h']
def oV {x:Int} {ns:List Int} {s:ag}:cy (.int x) (mD ns) s=ok (.bl (decide (x∈ns))) s:=by
 have hl:ph 100 (.int x) (ns.map D.int)=true:=by simp only[ph,lay,qI,dep,Ĥ,Ę,ę]
 have e:inD (.int x) (ns.map D.int)=some (decide (x∈ns)):=by unfold inD;rw[Ú hl,Ir]
 unfold cy;rw[show nP (mD ns) s=some (ns.map D.int) from rfl];simp only[e];rfl
def Ot:fJ (.int x) (mD ns) s=ok (.bl (!decide (x∈ns))) s:=by
 have hl:ph 100 (.int x) (ns.map D.int)=true:=by simp only[ph,lay,qI,dep,Ĥ,Ę,ę]
 have e:inD (.int x) (ns.map D.int)=some (decide (x∈ns)):=by unfold inD;rw[Ú hl,Ir]
 unfold fJ;rw[show nP (mD ns) s=some (ns.map D.int) from rfl];simp only[e];rfl
noncomputable def sub (a b:List Int):Bool:=a.all λx=>decide (x∈b)
def nr {α:Type} (p:α->Bool) (xs:List α) (s:ag):kK [.lst (xs.map λx=>D.bl (p x))] s=ok (.bl (xs.all p)) s:=by
 have e:iK (xs.map λx=>D.bl (p x))=some (xs.map p):=by
  have:=Sg (bs:=xs.map p);rw[Ē] at this;exact this
 show bB ((iK (xs.map λx=>D.bl (p x))).map λ(bs:List Bool)=>D.bl (bs.all id)) s=_;rw[e];show ok (D.bl ((xs.map p).all id)) s=_;rw[List.all_map];rfl
def filter_tt {α:Type} (xs:List α):xs.filter (λ_=>true)=xs:=by simp
def hZ {nt:Nat} {caps:Env} {g:D->Env->Option Env} {t:Env->ag->Res Bool} {f:Env->ag->Res D} {s:ag} (p:Int->Bool) (h:Int->D) (ns:List Int) (hh:∀n∈ns,∃env,g (.int n) (Ï nt none++caps)=some env/\t env s=ok (p n) s/\(p n=true->f env s=ok (h n) s)) :
  eZ nt caps g t f (ns.map D.int) s=ok ((ns.filter p).map h) s:=by
 induction ns with
 |nil=>rfl
 |cons n ns ih =>
  obtain⟨env,h1,h2,h3⟩:=hh n Ò;have ih:=ih λn' h'=>hh n' (Ñ _ h');rw[Ö];unfold eZ;rw[h1];simp only[h2,jP,dO]
  cases hp:p n with
  |true=>simp only[û,h3 hp,jP,dO,ih,ņ,hp,Ö]
  |false=>simp only[Ã,ê,ih,ņ,hp]
def comp_map {α:Type} (d:α->D) (p:α->Bool) (h:α->D) (xs:List α) (hh:∀x∈xs,∃env,g (d x) (Ï nt none++caps)=some env/\t env s=ok (p x) s/\(p x=true->f env s=ok (h x) s)) :
  eZ nt caps g t f (xs.map d) s=ok ((xs.filter p).map h) s:=by
 induction xs with
 |nil=>rfl
 |cons n ns ih =>
  obtain⟨env,h1,h2,h3⟩:=hh n Ò;have ih:=ih λn' h'=>hh n' (Ñ _ h');rw[Ö];unfold eZ;rw[h1];simp only[h2,jP,dO]
  cases hp:p n with
  |true=>simp only[û,h3 hp,jP,dO,ih,ņ,hp,Ö]
  |false=>simp only[Ã,ê,ih,ņ,hp]
def PB:sU [.int i] s=ok (.bl (decide (0<=i))) s:=by
 rfl
def qJ:lD [.int i,.int m] s=ok (.bl (decide (0<=i)&&decide (i<m))) s:=by
 refine Wp.eq ?_;unfold lD;simp only[VC,PB];by_cases h:0<=i
 ·simp[h]
 ·simp[h]
def Iu:tu [.int i] s=ok (.bl (decide (0<=i)&&decide (i<8))) s:=by
 refine Wp.eq ?_;unfold tu;simp only[VC,qJ,true_and]
def Hs (xs:List D):cutD xs (some 1) none=xs.drop 1:=by
 unfold cutD HT.aR
 cases xs with
 |nil=>simp
 |cons x xs =>
  simp only[å]
  have e:(if (1:Int)<0 then (1+((xs.length+1:Nat):Int)).toNat else min (1:Int).toNat (xs.length+1))=1:=by simp
  simp
noncomputable def rise:List Int->Bool
 | []=>true
 | [_]=>true
 |a::b::r=>decide (a<b)&&rise (b::r)
def SR (h:ns.Pairwise (· < ·)):rise ns=true:=by
 induction ns with
 |nil=>rfl
 |cons a ns ih =>
  cases ns with
  |nil=>rfl
  |cons b r =>
   obtain⟨h1,h2⟩:=Ă.mp h;simp only[rise,ih h2,Ř];exact Ý (h1 b Ò)
def Ht:∀(ns:List Int),((ns.zip (ns.drop 1)).all λp=>decide (p.1<p.2))=rise ns
 | []=>rfl
 | [_]=>rfl
 |a::b::r=>by
  have ih:=Ht (b::r);simp only[List.drop_succ_cons,List.drop_zero,ı,List.all_cons,rise] at ih |-;rw[ih]
def PC (xs ys:List Int):fc (xs.map D.int) (ys.map D.int)=(xs.zip ys).map λp=>D.tup [.int p.1,.int p.2]:=by
 unfold fc;rw[List.zip_map,Ē];rfl
def Hu (h:fa env s=ok [.tup xs,.tup ys] s1):kI fa env s=ok (fc xs ys) s1:=by
 unfold kI;rw[h];rfl
def PD (hl:ns.length<=1000000):oJ [mD ns] s=ok (.bl (rise ns)) s:=by
 refine Wp.eq ?_;unfold oJ;simp only[VC];have hz:kI (ae (aa 0) (ae (iM (aa 0) (iD (eC (.int 1))) iL) ah)) [some (mD ns)] s=ok (fc (ns.map D.int) ((ns.drop 1).map D.int)) s:=by
  refine Hu (Wp.eq ?_);simp only[VC];rw[lH (i:=1) rfl]
  try simp only[VC]
  refine Wp.of (show jm (mD ns) (some 1) none s=ok (.tup (cutD (ns.map D.int) (some 1) none)) s from rfl) ⟨?_,rfl⟩;rw[Hs,List.map_drop]
 refine Wp.of hz ⟨le_size (by rw[oO];simp only[Ä];omega),?_⟩;rw[PC];refine Wp.of (comp_map (λp:Int×Int=>D.tup [.int p.1,.int p.2]) (λ_=>true) (λp=>.bl (decide (p.1<p.2))) _ λp _=>⟨[some (.int p.1),some (.int p.2)],rfl,rfl,λ_=>rfl⟩) ?_;rw[filter_tt];exact Wp.of (nr _ _ _) ⟨by rw[Ht],rfl⟩
structure aat (rs:List (List Int)):Prop where
 lo:1<=rs.length
 hi:rs.length<=10
 zq:∀r∈rs,dG 8 r
def xr (lo:Int) (n:Nat):bP lo n=(ß n).map λi:Nat=>D.int (lo+i):=rfl
def UZ (rs:List (List Int)) (laid:List Int) (m:Int):Bool:=((ß laid.length).filter λi=>laid.getD i 0==m).all λi=>sub (rs.getD i []) (rs.getD laid.length [])
def o9 {α:Type} (d:α->D) (p:α->Bool) (h:α->List D) (xs:List α) (hh:∀x∈xs,∃env,g (d x) pK=some env/\t env s=ok (p x) s/\(p x=true->act env s=ok (h x) s)) :
  j0 g t act pK (xs.map d) s=ok ((xs.filter p).flatMap h) s:=by
 induction xs with
 |nil=>rfl
 |cons n ns ih =>
  obtain⟨env,h1,h2,h3⟩:=hh n Ò;have ih:=ih λn' h'=>hh n' (Ñ _ h');rw[Ö];unfold j0;rw[h1];simp only[h2,jP,dO]
  cases hp:p n with
  |true=>simp only[û,h3 hp,jP,dO,ih,ņ,hp,List.flatMap_cons]
  |false=>simp only[Ã,ê,ih,ņ,hp]
def Ar :
  Wp (tV nt cap it gd c act env s) Q=Wp (it env s) λds s=>Wp (j0 gd c act (Ï nt none++fV cap env) ds s) λxs s=>xs.length<=Õ/\Q (.lst xs) s:=by
 unfold tV;simp only[bF,wp_ne,nk,wp_ok]
def step (rs:List (List Int)) (told:List (List Int)):List (List Int):=told.flatMap λlaid=>([0,1].filter λm=>UZ rs laid m).map λm=>laid++[m]
def fP (h:a.length+b.length<=1000000):bR (mD a) (mD b) s=ok (mD (a++b)) s:=by
 have e:rT (mD a) (mD b)=some (mD (a++b)):=by
  show (if pP (a.map D.int) (b.map D.int)=true then some (D.tup (a.map D.int++b.map D.int)) else none)=_
  have hf:pP (a.map D.int) (b.map D.int)=true:=by
   unfold pP;rw[Ä,Ä];exact Ý (le_size h)
  rw[Ú hf];show some (D.tup (a.map D.int++b.map D.int))=some (D.tup ((a++b).map D.int));rw[č]
 show bB (rT (mD a) (mD b)) s=_;rw[e];rfl
open TK
noncomputable def markB (i:Int):Bool:=decide (0<=i)&&decide (i<8)
noncomputable def jM (i:Int):Bool:=decide (0<=i)&&decide (i<4)
noncomputable def kN (i:Int):Bool:=decide (0<=i)&&decide (i<31)
def jN (ns:List Int):Bool:=ns.all markB&&rise ns
noncomputable def kq (a b:List Int):Bool:=!(a.any λx=>decide (x∈b))
def dX:Pg->Bool
 | .made m d h l=>jM m&&kN d&&(jN h&&(jN l&&kq h l))
 | .aQ m d k=>jM m&&kN d&&markB k
def j3:Pg->Prop
 | .made _ _ h l=>h.length<=1000/\l.length<=1000
 | .aQ _ _ _=>True
def Q9:iK (bs.map D.bl)=some bs:=by
 induction bs with
 |nil=>rfl
 |cons b bs ih=>simp only[Ö,iK,ih];rfl
def Hv {α:Type} (p:α->Bool) (xs:List α) (s:ag):rY [.lst (xs.map λx=>D.bl (p x))] s=ok (.bl (xs.any p)) s:=by
 have e:iK (xs.map λx=>D.bl (p x))=some (xs.map p):=by
  have:=Q9 (bs:=xs.map p);rw[Ē] at this;exact this
 simp only[rY,res,e,bB,Ŏ,List.any_map,Ş,id]
def Hw (hl:ns.length<=1000):sV [mD ns] s=ok (.bl (jN ns)) s:=by
 refine Wp.eq ?_;unfold sV;simp only[VC];refine Wp.of (show cv [mD ns,.ty "tuple"] s=ok (.bl true) s from rfl) ?_;simp only[VC,û];refine Wp.of (iT rfl) ⟨le_size (by rw[Ä];omega),?_⟩;refine Wp.of (hZ (λ_=>true) (λx=>.bl (markB x)) ns λn _=>⟨[some (.int n)],rfl,rfl,λ_=>?_⟩) ?_
 ·refine Wp.eq ?_
  simp only[VC,Iu,markB,true_and]
 ·rw[filter_tt]
  refine Wp.of (nr _ _ _) ?_;simp only[VC];unfold jN
  cases e:ns.all markB with
  |true =>
   simp only[û,í];exact Wp.of (PD (by omega)) ⟨rfl,rfl⟩
  |false=>simp
def As (ha:a.length<=1000):qF [mD a,mD b] s=ok (.bl (kq a b)) s:=by
 refine Wp.eq ?_;unfold qF;simp only[VC];refine Wp.of (iT rfl) ⟨le_size (by rw[Ä];omega),?_⟩;refine Wp.of (hZ (λ_=>true) (λx=>.bl (decide (x∈b))) a λn _=>⟨[some (.int n),some (mD b)],rfl,rfl,λ_=>?_⟩) ?_
 ·refine Wp.eq ?_
  simp only[VC,oV,true_and]
 ·rw[filter_tt]
  refine Wp.of (Hv _ _ _) ?_;simp only[VC];exact⟨rfl,trivial⟩
def Hx (h1:h.length<=1000) (h2:l.length<=1000):qH [.tup [mD h,mD l]] s=ok (.bl (jN h&&(jN l&&kq h l))) s:=by
 refine Wp.eq ?_;unfold qH;simp only[VC];refine Wp.of (show cv [.tup [mD h,mD l],.ty "tuple"] s=ok (.bl true) s from rfl) ?_;simp only[VC,ë,Ã,ê];refine Wp.of (show bN [.tup [mD h,mD l]] s=ok (.int 2) s from rfl) ?_;simp only[VC];simp only[VC,Ġ,ë,Ã,ê];refine Wp.of (Hw h1) ?_;simp only[VC]
 cases jN h with
 |false=>simp
 |true =>
  simp only[û,í];refine Wp.of (Hw h2) ?_;simp only[VC]
  cases jN l with
  |false=>simp
  |true =>
   simp only[û,í];exact Wp.of (As h1) ⟨rfl,rfl⟩
def Au:sZ [.int i] s=ok (.bl (jM i)) s:=by
 refine Wp.eq ?_;unfold sZ;simp only[VC,qJ,jM,ğ]
def Br:nj [.int i] s=ok (.bl (kN i)) s:=by
 refine Wp.eq ?_;unfold nj;simp only[VC,qJ,kN,ğ]
def jG:aV (.str x) (.str y) s=ok (.bl (decide (x=y))) s:=by
 show ok (D.bl (x==y)) s=_
 by_cases e:x=y<;>simp[e]
def Iv:¬ (ì "made"=ì "mended"):=by decide +kernel
def tM:¬ (ì "mended"=ì "made"):=by decide +kernel
def SS (hf:j3 p):wR [p.d] s=ok (.bl (dX p)) s:=by
 refine Wp.eq ?_;unfold wR;have key:∀(a b c d:D),p.d=.tup [a,b,c,d]->cv [p.d,.ty "tuple"] s=ok (.bl true) s/\bN [p.d] s=ok (.int 4) s:=λa b c d e=>by rw[e];exact⟨rfl,rfl⟩
 cases p with
 |made m d h l =>
  obtain⟨k1,k2⟩:=key _ _ _ _ rfl;simp only[VC];refine Wp.of k1 ?_;simp only[VC,ë,Ã,ê];refine Wp.of k2 ?_;simp only[VC];simp only[VC,Ġ,ë,Ã,ê,Pg.d];refine Wp.of Au ?_;simp only[VC,dX]
  cases jM m with
  |false=>simp[aft_rt,fin_rt,wp_sRet,wp_C]
  |true =>
   simp only[ë,Ã,ê,í];refine Wp.of Br ?_;simp only[VC]
   cases kN d with
   |false=>simp[aft_rt,fin_rt,wp_sRet,wp_C]
   |true =>
    simp only[VC,ë,Ã,ê,í];refine Wp.of jG ?_;simp only[VC,ę,û];exact Wp.of (Hx hf.1 hf.2) ⟨rfl,rfl⟩
 |aQ m d k =>
  obtain⟨k1,k2⟩:=key _ _ _ _ rfl;simp only[VC];refine Wp.of k1 ?_;simp only[VC,ë,Ã,ê];refine Wp.of k2 ?_;simp only[VC];simp only[VC,Ġ,ë,Ã,ê,Pg.d];refine Wp.of Au ?_;simp only[VC,dX]
  cases jM m with
  |false=>simp[aft_rt,fin_rt,wp_sRet,wp_C]
  |true =>
   simp only[ë,Ã,ê,í];refine Wp.of Br ?_;simp only[VC]
   cases kN d with
   |false=>simp[aft_rt,fin_rt,wp_sRet,wp_C]
   |true =>
    simp only[VC,ë,Ã,ê,í];refine Wp.of jG ?_;simp only[VC,ñ tM,Ã,ê];refine Wp.of jG ?_;simp only[VC,ę,û];exact Wp.of Iu ⟨rfl,rfl⟩
abbrev bD (ps:List Pg):D:=.tup (ps.map Pg.d)
def U0:fX p.d q.d s=ok (.bl (fu.lt p q)) s:=by
 unfold fX;rw[Ú (by rw[oZ _ (kB p),oZ _ (kB q)];simp only[Ĥ,í,È];have:=Bn p;omega),Kg];rfl
noncomputable def yk (ps:List Pg):Bool:=(ps.zip (ps.drop 1)).all λp=>fu.lt p.1 p.2
def Ra (xs ys:List Pg):fc (xs.map Pg.d) (ys.map Pg.d)=(xs.zip ys).map λp=>D.tup [p.1.d,p.2.d]:=by
 unfold fc;rw[List.zip_map,Ē];rfl
def Ou (hl:ps.length<=1000):oJ [bD ps] s=ok (.bl (yk ps)) s:=by
 refine Wp.eq ?_;unfold oJ;simp only[VC];have hz:kI (ae (aa 0) (ae (iM (aa 0) (iD (eC (.int 1))) iL) ah)) [some (bD ps)] s=ok (fc (ps.map Pg.d) ((ps.drop 1).map Pg.d)) s:=by
  refine Hu (Wp.eq ?_);simp only[VC];rw[lH (i:=1) rfl]
  try simp only[VC]
  refine Wp.of (show jm (bD ps) (some 1) none s=ok (.tup (cutD (ps.map Pg.d) (some 1) none)) s from rfl) ⟨?_,rfl⟩;rw[Hs,List.map_drop]
 refine Wp.of hz ⟨le_size (by rw[oO];simp only[Ä];omega),?_⟩;rw[Ra];refine Wp.of (comp_map (λp:Pg×Pg=>D.tup [p.1.d,p.2.d]) (λ_=>true) (λp=>.bl (fu.lt p.1 p.2)) _ λp _=>⟨[some p.1.d,some p.2.d],rfl,rfl,λ_=>?_⟩) ?_
 ·refine Wp.eq ?_
  simp only[VC,U0,ğ]
 rw[filter_tt];exact Wp.of (nr _ _ _) ⟨rfl,rfl⟩
def jq (ps:List Pg):Bool:=decide (ps.length<=24)&&(ps.all dX&&yk ps)
def SU (hl:ps.length<=1000) (hf:∀p∈ps,j3 p):wK [bD ps] s=ok (.bl (jq ps)) s:=by
 refine Wp.eq ?_;unfold wK jq;simp only[VC];refine Wp.of (show cv [bD ps,.ty "tuple"] s=ok (.bl true) s from rfl) ?_;simp only[VC,û];refine Wp.of (show bN [bD ps] s=ok (.int ps.length) s from by show ok (D.int (ps.map Pg.d).length) s=_;rw[Ä]) ?_;simp only[VC];by_cases h:ps.length<=24
 ·have h':(ps.length:Int)<=24:=by omega
  simp only[h,h',ę,û,í];refine Wp.of (iT rfl) ⟨le_size (by rw[Ä];omega),?_⟩;refine Wp.of (comp_map Pg.d (λ_=>true) (λp=>.bl (dX p)) ps λp hp=>⟨[some p.d],rfl,rfl,λ_=>?_⟩) ?_
  ·refine Wp.eq ?_
   simp only[VC,SS (hf p hp),ğ]
  ·rw[filter_tt]
   refine Wp.of (nr _ _ _) ?_;simp only[VC]
   cases ps.all dX with
   |false=>simp
   |true =>
    simp only[û,í];exact Wp.of (Ou hl) ⟨rfl,rfl⟩
 ·have h':¬ (ps.length:Int)<=24:=by omega
  simp[h,h']
noncomputable def _root_.TK.Pg.day:Pg->Int
 | .made _ d _ _=>d
 | .aQ _ d _=>d
noncomputable def ka (m k:Int):Pg->Bool
 | .made m' _ h _=>decide (m'=m)&&decide (k∈h)
 |_=>false
noncomputable def kc (m k:Int):Pg->Bool
 | .made m' _ _ l=>decide (m'=m)&&decide (k∈l)
 |_=>false
noncomputable def je (m k:Int):Pg->Bool
 | .aQ m' _ k'=>decide (m'=m)&&decide (k'=k)
 |_=>false
def shown (ps:List Pg) (m k:Int):List Int:=(ps.filter (ka m k)).map Pg.day
def cR (ps:List Pg) (m k:Int):List Int:=(ps.filter (kc m k)).map Pg.day
def bU (ps:List Pg) (m k:Int):List Int:=(ps.filter (je m k)).map Pg.day
noncomputable abbrev lI (ns:List Int):D:=.lst (ns.map D.int)
def fv (a b c d:D) (s:ag):ak (.tup [a,b,c,d]) (.int 0) s=ok a s/\ak (.tup [a,b,c,d]) (.int 1) s=ok b s/\ak (.tup [a,b,c,d]) (.int 2) s=ok c s/\ak (.tup [a,b,c,d]) (.int 3) s=ok d s:=⟨rfl,rfl,rfl,rfl⟩
def qw (a b:D) (s:ag):ak (.tup [a,b]) (.int 0) s=ok a s/\ak (.tup [a,b]) (.int 1) s=ok b s:=⟨rfl,rfl⟩
def qx (p:Pg) (s:ag):ak p.d (.int 1) s=ok (.int (match p with | .made m _ _ _=>m | .aQ m _ _=>m)) s/\ak p.d (.int 2) s=ok (.int p.day) s:=by cases p<;>exact⟨rfl,rfl⟩
def xt (hl:ps.length<=1000):lC [bD ps,.int m,.int k,.int 0] s=ok (lI (shown ps m k)) s/\lC [bD ps,.int m,.int k,.int 1] s=ok (lI (cR ps m k)) s:=by
 constructor
 ·refine Wp.eq ?_
  unfold lC;simp only[VC];refine Wp.of (iT rfl) ⟨le_size (by rw[Ä];omega),?_⟩;refine Wp.of (comp_map Pg.d (ka m k) (λp=>.int p.day) ps λp hp=>⟨[some p.d,some (.int m),some (.int k),some (.int 0)],rfl,?_,λ_=>?_⟩) ?_
  ·refine Wp.eq ?_
   cases p with
   |made m' d h l =>
    simp only[VC,Pg.d];rw[(fv _ _ _ _ s).1];simp only[VC,jG,ę,û];rw[(fv _ _ _ _ s).2.1];simp only[VC,ka];by_cases e:m'=m
    ·simp only[e,Ġ,û,ę,í]
     rw[(fv _ _ _ _ s).2.2.2];simp only[VC];rw[(qw _ _ s).1];simp only[VC];refine Wp.of (oV (ns:=h)) ?_;simp only[VC,ğ]
    ·simp[e]
   |aQ m' d k' =>
    simp only[VC,Pg.d];rw[(fv _ _ _ _ s).1];simp only[VC,jG,ñ tM,Ã,ê,ka,ğ]
  ·refine Wp.eq ?_
   simp only[VC,(qx p s).2,ğ]
  ·simp only[shown,lI,Ē,Ş,ğ]
 ·refine Wp.eq ?_
  unfold lC;simp only[VC];refine Wp.of (iT rfl) ⟨le_size (by rw[Ä];omega),?_⟩;refine Wp.of (comp_map Pg.d (kc m k) (λp=>.int p.day) ps λp hp=>⟨[some p.d,some (.int m),some (.int k),some (.int 1)],rfl,?_,λ_=>?_⟩) ?_
  ·refine Wp.eq ?_
   cases p with
   |made m' d h l =>
    simp only[VC,Pg.d];rw[(fv _ _ _ _ s).1];simp only[VC,jG,ę,û];rw[(fv _ _ _ _ s).2.1];simp only[VC,kc];by_cases e:m'=m
    ·simp only[e,Ġ,û,ę,í]
     rw[(fv _ _ _ _ s).2.2.2];simp only[VC];rw[(qw _ _ s).2];simp only[VC];refine Wp.of (oV (ns:=l)) ?_;simp only[VC,ğ]
    ·simp[e]
   |aQ m' d k' =>
    simp only[VC,Pg.d];rw[(fv _ _ _ _ s).1];simp only[VC,jG,ñ tM,Ã,ê,kc,ğ]
  ·refine Wp.eq ?_
   simp only[VC,(qx p s).2,ğ]
  ·simp only[cR,lI,Ē,Ş,ğ]
def xu (hl:ps.length<=1000):oG [bD ps,.int m,.int k] s=ok (lI (bU ps m k)) s:=by
 refine Wp.eq ?_;unfold oG;simp only[VC];refine Wp.of (iT rfl) ⟨le_size (by rw[Ä];omega),?_⟩;refine Wp.of (comp_map Pg.d (je m k) (λp=>.int p.day) ps λp hp=>⟨[some p.d,some (.int m),some (.int k)],rfl,?_,λ_=>?_⟩) ?_
 ·refine Wp.eq ?_
  cases p with
  |aQ m' d k' =>
   simp only[VC,Pg.d];rw[(fv _ _ _ _ s).1];simp only[VC,jG,ę,û];rw[(fv _ _ _ _ s).2.1];simp only[VC,je];by_cases e:m'=m
   ·simp only[e,Ġ,û,ę,í]
    rw[(fv _ _ _ _ s).2.2.2];simp only[VC]
    by_cases e:k'=k<;>simp[e]
   ·simp[e]
  |made m' d h l =>
   simp only[VC,Pg.d];rw[(fv _ _ _ _ s).1];simp only[VC,jG,ñ Iv,Ã,ê,je,ğ]
 ·refine Wp.eq ?_
  simp only[VC,(qx p s).2,ğ]
 ·simp only[bU,lI,Ē,Ş,ğ]
def ib (h:n<=1000):n<=Õ:=le_size (by omega)
def rN:cy (.int x) (lI ns) s=ok (.bl (decide (x∈ns))) s:=by
 show cy (.int x) (mD ns) s=_;exact oV
def oR:fJ (.int x) (lI ns) s=ok (.bl (!decide (x∈ns))) s:=by
 show fJ (.int x) (mD ns) s=_;exact Ot
noncomputable def pV (ds:List Int) (a b:Int):Bool:=ds.any λx=>decide (a<x)&&decide (x<=b)
def GK (hl:ds.length<=1000):sR [lI ds,.int a,.int b] s=ok (.bl (pV ds a b)) s:=by
 refine Wp.eq ?_;unfold sR;simp only[VC];refine Wp.of (iw rfl) ⟨ib (by rw[Ä];omega),?_⟩;refine Wp.of (hZ (λ_=>true) (λx=>.bl (decide (a<x)&&decide (x<=b))) ds λn _=>⟨[some (.int n),some (.int a),some (.int b)],rfl,rfl,λ_=>?_⟩) ?_
 ·refine Wp.eq ?_
  simp only[VC]
  by_cases e:a<n<;>simp[e,wp_ok,wp_leI,wp_locS,wp_loc0]
 ·rw[filter_tt]
  exact Wp.of (Hv _ _ _) ⟨rfl,rfl⟩
def lp (ps:List Pg) (m k d l:Int):Bool:=(decide (l∈cR ps m k)||(decide (l=d)&&decide (d∈bU ps m k)))&&!pV (bU ps m k) d l
noncomputable def pb (d:Int):List Int:=(ß (31-d).toNat).map λi:Nat=>d+(i:Int)
def ku (ps:List Pg) (m k:Int):List (Int×Int):=(fW (shown ps m k)).flatMap λd=>((pb d).filter (lp ps m k d)).map λl=>(d,l)
def tH {ps:List Pg} {f:Pg->Bool}:((ps.filter f).map Pg.day).length<=ps.length:=by rw[Ä];exact Ķ _ _
def qN {α β:Type} {f:α->List β} {b:Nat}:∀{l:List α},(∀x∈l,(f x).length<=b)->(l.flatMap f).length<=l.length*b
 | [],_=>by simp
 |x::l,h=>by
  rw[List.flatMap_cons,â,å,Nat.succ_mul];have h1:=h x Ò;have h2:=qN (l:=l) λy hy=>h y (Ñ _ hy);omega
def F8 (d:Int) (h:0<=d):(pb d).length<=31:=by unfold pb;rw[Ä,ľ];omega
structure n5 (ps:List Pg):Prop where
 len:ps.length<=24
 lo:∀p∈ps,0<=p.day/\p.day<31
def n5.of (h:n5 ps) (hx:x∈(ps.filter f).map Pg.day):0<=x/\x<31:=by
 obtain⟨p,hp,rfl⟩:=ö.mp hx;exact h.lo p (ć.mp hp).1
def Ov {ps:List Pg} {m k:Int} {s:ag} (h:n5 ps):tw [bD ps,.int m,.int k] s=ok (.lst ((ku ps m k).map λp=>D.tup [.int p.1,.int p.2])) s:=by
 have hl:=h.len;have l1:(shown ps m k).length<=24:=Û tH hl;have l2:(cR ps m k).length<=24:=Û tH hl;have l3:(bU ps m k).length<=24:=Û tH hl;refine Wp.eq ?_;unfold tw;simp only[VC];refine Wp.of (xt (by omega)).2 ?_;refine Wp.of (xu (by omega)) ?_;rw[Ar];have hs:bq (e1 qK (ax lC (ae (aa 0) (ae (aa 1) (ae (aa 2) (ae (eC (.int (0))) ah)))))) [some (bD ps),some (.int m),some (.int k),some (lI (cR ps m k)),some (lI (bU ps m k))] s=ok ((fW (shown ps m k)).map D.int) s:=by
  refine iw (Wp.eq ?_);simp only[VC];refine Wp.of (xt (by omega)).1 ?_;refine Wp.of (show qK (lI (shown ps m k)) s=ok (lI (fW (shown ps m k))) s from ?_) ⟨rfl,rfl⟩;unfold qK;simp only[O2];rw[Ú (by have:=zW (shown ps m k);rw[È];omega)]
 refine Wp.of hs ?_;have day:∀d∈fW (shown ps m k),0<=d/\d<31:=λd hd=>h.of (ng.mp hd);refine Wp.of (o9 D.int (λ_=>true) (λd=>((pb d).filter (lp ps m k d)).map λl=>D.tup [.int d,.int l]) _ λd hd=>⟨[some (.int d),none,some (lI (cR ps m k)),some (lI (bU ps m k))],rfl,rfl,λ_=>?_⟩) ?_
 ·have hd:=day d hd
  unfold more;rw[JI (i:=d) (j:=31) rfl (by omega) (by omega) (by omega) (by omega),dO];have er:bP d (31-d).toNat=(pb d).map D.int:=by unfold pb;rw[xr,Ē];rfl
  rw[er];rw[o9 D.int (lp ps m k d) (λl=>[D.tup [.int d,.int l]]) (pb d) λl hl=>⟨[some (.int d),some (.int l),some (lI (cR ps m k)),some (lI (bU ps m k))],rfl,?_,λ_=>?_⟩]
  ·rw[<- abZ]
  ·refine Wp.eq ?_
   simp only[VC,rN];unfold lp;have L7:=GK (ds:=bU ps m k) (a:=d) (b:=l) (s:=s) (by omega);by_cases c1:l∈cR ps m k
   ·simp only[VC,c1,ę,û,Bool.true_or,í]
    exact Wp.of L7 (by simp only[VC,ğ])
   ·simp only[c1,ab3,Ã,ê,abN]
    by_cases c2:l=d
    ·subst c2
     simp only[VC,Ġ,û,ę,í];by_cases c3:l∈bU ps m k
     ·simp only[c3,ę,û,í]
      exact Wp.of L7 (by simp only[VC,ğ])
     ·simp[c3]
    ·simp[c2]
  ·refine Wp.eq ?_
   unfold emit;rw[bF];simp only[VC];exact⟨by decide,trivial⟩
 ·rw[filter_tt]
  refine⟨?_,?_,rfl⟩
  ·refine ib (Û (qN (b:=31) λd hd=>?_) ?_)
   ·rw[Ä]
    exact Û (Ķ _ _) (F8 d (day d hd).1)
   ·have:=zW (shown ps m k)
    have:(fW (shown ps m k)).length<=24:=by omega
    omega
  ·unfold ku
   simp only[List.map_flatMap,Ē,Ş]
noncomputable def m4:List Int:=(ß 4).map λi:Nat=>(i:Int)
noncomputable def k8:List Int:=(ß 8).map λi:Nat=>(i:Int)
def jo (ps:List Pg):List (Int×Int×Int×Int):=m4.flatMap λm=>k8.flatMap λk=>(ku ps m k).map λp=>(m,k,p.1,p.2)
noncomputable def fD (p:Int×Int×Int×Int):D:=.tup [.int p.1,.int p.2.1,.int p.2.2.1,.int p.2.2.2]
def PH {ps:List Pg} (h:n5 ps) (m k:Int):(ku ps m k).length<=744:=by
 have l1:(shown ps m k).length<=24:=Û tH h.len;have:=zW (shown ps m k);refine Û (qN (b:=31) λd hd=>?_) (by omega);rw[Ä];exact Û (Ķ _ _) (F8 d (h.of (ng.mp hd)).1)
def GN {ps:List Pg} {s:ag} (h:n5 ps):sW [bD ps] s=ok (.lst ((jo ps).map fD)) s:=by
 refine Wp.eq ?_;unfold sW;simp only[wp_fn,wp_sRet,fin_rt,Ö,İ,ċ,ģ,å,î,Ï,true_and,Nat.reduceSub,Nat.reduceAdd];rw[Ar];refine Wp.of (eI (n:=4) rfl (by decide)) ?_;have e4:bP 0 4=m4.map D.int:=rfl;have e8:bP 0 8=k8.map D.int:=rfl;rw[e4];refine Wp.of (o9 D.int (λ_=>true) (λm=>k8.flatMap λk=>(ku ps m k).map λp=>fD (m,k,p.1,p.2)) m4 λm hm=>⟨[some (.int m),none,none,none,some (bD ps)],rfl,rfl,λ_=>?_⟩) ?_
 ·unfold more
  rw[eI (n:=8) rfl (by decide),dO,e8];rw[o9 D.int (λ_=>true) (λk=>(ku ps m k).map λp=>fD (m,k,p.1,p.2)) k8 λk hk=>⟨[some (.int m),some (.int k),none,none,some (bD ps)],rfl,rfl,λ_=>?_⟩]
  ·rw[filter_tt]
  ·have hi:bq (ax tw (ae (aa 4) (ae (aa 0) (ae (aa 1) ah)))) [some (.int m),some (.int k),none,none,some (bD ps)] s=ok ((ku ps m k).map λp=>D.tup [.int p.1,.int p.2]) s:=by
    refine iw (Wp.eq ?_);simp only[VC];exact Wp.of (Ov h) ⟨rfl,rfl⟩
   rw[hi,dO];rw[o9 (λp:Int×Int=>D.tup [.int p.1,.int p.2]) (λ_=>true) (λp=>[fD (m,k,p.1,p.2)]) (ku ps m k) λp hp=>⟨[some (.int m),some (.int k),some (.int p.1),some (.int p.2),some (bD ps)],rfl,rfl,λ_=>?_⟩]
   ·rw[filter_tt,<- abZ]
   ·refine Wp.eq ?_
    unfold emit;rw[bF];simp only[VC];exact⟨by decide,rfl,trivial⟩
 ·rw[filter_tt]
  refine⟨?_,?_,rfl⟩
  ·refine le_size (Û (qN (b:=8*744) λm hm=>?_) (by decide))
   refine Û (qN (b:=744) λk hk=>?_) (by decide);rw[Ä];exact PH h m k
  ·unfold jo
   simp only[List.map_flatMap,Ē,Ş]
def eO (ps:List Pg):Bool:=jq ps&&(jo ps).isEmpty
def GO (h:jq ps=true):n5 ps:=by
 unfold jq at h;simp only[Ç,È,ý] at h;refine⟨h.1,λp hp=>?_⟩;have:=h.2.1 p hp
 cases p<;>simp only[dX,kN,Ç,È] at this<;>exact this.1.2
def SV (hl:ps.length<=1000) (hf:∀p∈ps,j3 p):wU [bD ps] s=ok (.bl (eO ps)) s:=by
 refine Wp.eq ?_;unfold wU;simp only[VC];refine Wp.of (SU hl hf) ?_;simp only[VC];unfold eO
 cases h:jq ps with
 |false=>simp
 |true =>
  simp only[û,í];unfold BU;simp only[VC,bF];refine Wp.of (GN (GO h)) ?_;refine Wp.of (show truth (.lst ((jo ps).map fD)) s=ok (!((jo ps).map fD).isEmpty) s from rfl) ?_;simp only[wp_ok];refine⟨?_,trivial⟩
  cases jo ps<;>rfl
def Bs:m∈m4↔0<=m/\m<4:=by
 unfold m4;rw[ö];constructor
 ·rintro ⟨i,hi,rfl⟩
  have:=Ā.mp hi;omega
 ·rintro ⟨h1,h2⟩
  exact⟨m.toNat,Ā.mpr (by omega),by omega⟩
def rA:m∈k8↔0<=m/\m<8:=by
 unfold k8;rw[ö];constructor
 ·rintro ⟨i,hi,rfl⟩
  have:=Ā.mp hi;omega
 ·rintro ⟨h1,h2⟩
  exact⟨m.toNat,Ā.mpr (by omega),by omega⟩
def Rb (h:eO ps=true) (hm:0<=m/\m<4) (hk:0<=k/\k<8) (hd:d∈shown ps m k) (h1:d<=l) (h2:l<31):lp ps m k d l=false:=by
 unfold eO at h;rw[Ç,abG] at h
 cases hc:lp ps m k d l with
 |false=>rfl
 |true =>
  exfalso;have jD:(d,l)∈ku ps m k:=by
   refine ŭ.mpr ⟨d,ng.mpr hd,ö.mpr ⟨l,ć.mpr ⟨?_,hc⟩,rfl⟩⟩;exact ö.mpr ⟨(l-d).toNat,Ā.mpr (by omega),by omega⟩
  have:(m,k,d,l)∈jo ps:=ŭ.mpr ⟨m,Bs.mpr hm,ŭ.mpr ⟨k,rA.mpr hk,ö.mpr ⟨(d,l),jD,rfl⟩⟩⟩;rw[h.2] at this;cases this
def Iw:∀{ns:List Int},rise ns=true->ns.Pairwise (· < ·)
 | [],_=>.nil
 | [a],_=>by simp
 |a::b::r,h=>by
  simp only[rise,Ç,È] at h;have ih:=Iw h.2;refine Ă.mpr ⟨λx hx=>?_,ih⟩
  rcases Ó.mp hx with rfl|hx
  ·exact h.1
  ·have:=(Ă.mp ih).1 x hx
   omega
def wM (h:jN ns=true):dG 8 ns:=by
 unfold jN at h;rw[Ç,ý] at h;refine⟨λx hx=>?_,Iw h.2⟩;have:=h.1 x hx;unfold markB at this;simp only[Ç,È] at this;exact this
def wN (h:dG n ns) (hn:n<=8):jN ns=true:=by
 unfold jN;rw[Ç,ý];refine⟨λx hx=>?_,SR h.up⟩;have:=h.lo x hx;unfold markB;simp only[Ç,È];omega
def dG.filter (h:dG n ns) (p:Int->Bool):dG n (ns.filter p):=⟨λx hx=>h.lo x (ć.mp hx).1,h.up.filter p⟩
def PJ (hm:0<=m/\m<4) (hd:0<=d/\d<31) (hk:0<=k/\k<8):dX (.aQ m d k)=true:=by
 simp only[dX,jM,kN,markB,Ç,È];omega
def PL (hm:0<=m/\m<4) (hd:0<=d/\d<31) (h1:dG n h) (h2:dG n l) (hn:n<=8) (ha:∀x∈h,x∉l):dX (.made m d h l)=true:=by
 simp only[dX,jM,kN,Ç,È,kq,ē,aaw];exact⟨⟨hm,hd⟩,wN h1 hn,wN h2 hn,ha⟩
def fG (W:ď) (R:Pg->Prop) (s:ag) (j n:Nat):Prop:=∃ps:List Pg,s[j]?=some (.dT (ps.map λp=>(p.d,hs W p.d)))/\(ps.Nodup/\∀p∈ps,R p)/\ps.length<=n
def fG.lt (h:fG W R s j n):j<s.length:=by
 obtain⟨ps,e,_⟩:=h;exact(Å.mp e).1
def fG.ex (h:fG W R s j n) (x:Ex k s s') (hj:j≠k):fG W R s' j n:=by
 have hl:=h.lt;obtain⟨ps,e,r⟩:=h;exact⟨ps,(x.val j hl hj).trans e,r⟩
def fG.more (h:fG W R s j n) (hm:n<=m):fG W R s j m:=by
 obtain⟨ps,e,r,l⟩:=h;exact⟨ps,e,r,by omega⟩
def fG.app (h:fG W R s j n) (c:List Cell):fG W R (s++c) j n:=by
 have hl:=h.lt;obtain⟨ps,e,r⟩:=h;exact⟨ps,by rw[ä hl];exact e,r⟩
def fG.set (h:fG W R s j n) (hi:i≠j) (c:Cell):fG W R (s.set i c) j n:=by
 obtain⟨ps,e,r⟩:=h;exact⟨ps,by rw[Ø hi];exact e,r⟩
def fG.mono (h:fG W R s j n) (hR:∀p,R p->R' p):fG W R' s j n:=by
 obtain⟨ps,e,r,l⟩:=h;exact⟨ps,e,⟨r.1,λp hp=>hR p (r.2 p hp)⟩,l⟩
def Ex.qy (h:Ex k s s') (hj:s.length<=j) (c:Cell):Ex k s (s'.set j c) :=
 ⟨by rw[Ĝ];exact h.len,λi hi hk=>by rw[Ø (by omega)];exact h.val i hi hk⟩
def kj (p:Pg):∃ks,p.d=.tup ks/\cY ks=true/\cC ks<=6:=by
 have h1:=kB p;have h2:=Bn p;obtain⟨x,r,e⟩:=Hk p;rw[e] at h1 h2;simp only[kd,dep] at h1 h2;exact⟨_,e,h1,by omega⟩
def JJ (W:ď) (ps:List Pg):(ps.map λp=>(p.d,hs W p.d)).all (keyOk W)=true:=by
 rw[List.all_map,ý];intro p _;obtain⟨ks,e,h1,h2⟩:=kj p;simp only[Function.comp,keyOk];rw[e];simp only[h1,Ý h2,ę,Ĥ]
def U1 (h:fG W R s j n) (hf:R p) (hn:n<1000):∃c,kM W (.aj j) p.d (.bl true) s=some (s.set j c)/\fG W R (s.set j c) j (n+1):=by
 have hl:=h.lt;obtain⟨ps,e,cx,len⟩:=h;obtain⟨ks,ep,k1,k2⟩:=kj p;have uL:=JJ W ps;generalize hk:(ps.map λp=>(p.d,hs W p.d))=ai at e uL;have kl:ai.length=ps.length:=by rw[<- hk,Ä]
 refine⟨.dT (TK.fP W ai (.tup ks)),?_,?_⟩
 ·rw[ep]
  unfold kM;simp only[e];rw[Ú];rw[k1,Ý k2,uL,Ý (Ê (show ai.length<1000 by omega) (le_size (by decide)))];rfl
 ·unfold TK.fP
  split
  ·exact⟨ps,by rw[hk];exact ã hl,cx,by omega⟩
  ·rename_i mL
   refine⟨ps++[p],?_,⟨aav.mpr ⟨cx.1,by simp,λa ha b hb=>?_⟩,λq hq=>?_⟩,by simp;omega⟩
   ·rw[ã hl,č,hk]
    simp only[Ö,İ,ep]
   ·rw[Ü.mp hb]
    rintro rfl;refine mL (Ņ.mpr ⟨(a.d,hs W a.d),?_,?_⟩)
    ·rw[<- hk];exact ö.mpr ⟨a,ha,rfl⟩
    ·rw[<- ep];exact(rg _ _ (kB a) (kB a)).mpr rfl
   ·rcases Ù.mp hq with hq|hq
    ·exact cx.2 q hq
    ·rw[Ü.mp hq];exact hf
def Iy:Wp (mE W f fo fi env s) QF=Wp (f env s) λx s=>Wp (fo env s) λd s=>Wp (fi env s) λn s=>∃s',kM W d n x s=some s'/\QF (.nx env) s':=by
 unfold mE;simp only[bF];congr 1;funext x s;congr 1;funext d s;congr 1;funext n s
 cases kM W d n x s with
 |none=>exact propext ⟨λ⟨_,_,e,_⟩=>(by cases e),λ⟨_,e,_⟩=>(by cases e)⟩
 |some s'=>exact propext ⟨λh=>⟨s',rfl,by simpa only [wp_ok] using h⟩,λ⟨t,e,h⟩=>by cases e;simpa only [wp_ok] using h⟩
def SW:Wp (yb env s) Q=Q (.aj s.length) (s++[.dT []]):=by unfold yb;rw[wp_ok]
def Iz:∀{ps:List Pg},ps.Pairwise (λa b=>fu.lt a b=true)->yk ps=true
 | [],_=>rfl
 | [a],_=>rfl
 |a::b::r,h=>by
  obtain⟨h1,h2⟩:=Ă.mp h;have ih:=Iz h2;unfold yk at ih |-;simp only[List.drop_succ_cons,List.drop_zero,ı,List.all_cons,Ç] at ih |-;exact⟨h1 b Ò,ih⟩
def Rc (h:ps.Nodup):(ST.jS fu ps).Pairwise λa b=>fu.lt a b=true:=by
 have h1:=ST.He (O:=fu) ps;have h2:(ST.jS fu ps).Nodup:=(ST.sY ps).nodup_iff.mpr h;refine(h1.and h2).imp λ{a b} vm=>?_
 cases hl:fu.lt a b with
 |true=>rfl
 |false=>exact(vm.2 (fu.vV a b hl vm.1)).elim
def Wp.Wh (h:Wp (fa env s) λds s=>∃x y z,ds=[x,y,z]/\QF (.nx (((env.set i (some x)).set j (some y)).set k (some z))) s):Wp (yG i j k fa env s) QF:=by
 unfold yG;refine Wp.ao (h.mono λds s ⟨x,y,z,e,q⟩=>?_);subst e;exact Wp.ok q
abbrev Y9 (p:Pg):Prop:=dX p=true
structure Laid (ps:List Pg):Prop where
 pg:∀p∈ps,dX p=true
 up:ps.Pairwise λa b=>fu.lt a b=true
def Laid.jq (h:Laid ps) (hl:ps.length<=24):jq ps=true:=by
 unfold DI.jq;rw[Ý hl,ý.mpr h.pg,Iz h.up];rfl
def Laid.sub (h:Laid ps) (hs:qs.Sublist ps):Laid qs:=⟨λp hp=>h.pg p (hs.subset hp),h.up.sublist hs⟩
def iP (s:ag) (j n:Nat):Prop:=∃ns:List Int,s[j]?=some (.lst (ns.map D.int))/\ns.length<=n
def iP.lt (h:iP s j n):j<s.length:=by
 obtain⟨ps,e,_⟩:=h;exact(Å.mp e).1
def iP.ex (h:iP s j n) (x:Ex k s s') (hj:j≠k):iP s' j n:=by
 have hl:=h.lt;obtain⟨ps,e,r⟩:=h;exact⟨ps,(x.val j hl hj).trans e,r⟩
def iP.set (h:iP s j n) (hi:i≠j) (c:Cell):iP (s.set i c) j n:=by
 obtain⟨ps,e,r⟩:=h;exact⟨ps,by rw[Ø hi];exact e,r⟩
def iP.app (h:iP s j n) (c:List Cell):iP (s++c) j n:=by
 have hl:=h.lt;obtain⟨ps,e,r⟩:=h;exact⟨ps,by rw[ä hl];exact e,r⟩
structure Lf (md:List Int) (b:Bool) (n:Nat) (ns:List Int):Prop where
 len:ns.length<=n
 lo:∀d∈ns,0<=d/\d<n/\d∉md
 on:∀d∈ns,d+1<n->d+1∉md->d+1∈ns
 la:0<n->(n:Int)-1∈ns->b=true
def Lf.put (h:Lf md b n ns) (hn:(n:Int)∉md):Lf md true (n+1) (ns++[(n:Int)]):=by
 refine⟨by rw[â,aby];have:=h.len;omega,λd hd=>?_,λd hd h1 h2=>?_,λ_ _=>rfl⟩
 ·rcases Ù.mp hd with hd|hd
  ·have:=h.lo d hd
   exact⟨this.1,by omega,this.2.2⟩
  ·rw[Ü.mp hd]
   exact⟨by omega,by omega,hn⟩
 ·rcases Ù.mp hd with hd|hd
  ·by_cases e:d+1=n
   ·exact Ù.mpr (.inr (Ü.mpr e))
   ·exact Ù.mpr (.inl (h.on d hd (by omega) h2))
  ·rw[Ü.mp hd] at h1
   omega
def Lf.pass (h:Lf md b n ns) (hn:b=true->(n:Int)∈md):Lf md false (n+1) ns:=by
 refine⟨by have:=h.len;omega,λd hd=>?_,λd hd h1 h2=>?_,λ_ hd=>?_⟩
 ·have:=h.lo d hd
  exact⟨this.1,by omega,this.2.2⟩
 ·by_cases e:d+1=n
  ·exfalso
   have d0:=(h.lo d hd).1;have:=h.la (by omega) (by rw[show (n:Int)-1=d by omega];exact hd);exact h2 (by rw[e];exact hn this)
  ·exact h.on d hd (by omega) h2
 ·have:=h.lo _ hd
  omega
def GP {j:Nat} {x:Int} {ns:List Int} (e:s[j]?=some (.lst (ns.map D.int))):fJ (.int x) (.aj j) s=ok (.bl (!decide (x∈ns))) s:=by
 have h2:fJ (.int x) (.aj j) s=fJ (.int x) (lI ns) s:=by simp only[fJ,nP,res,e]
 exact h2.trans oR
def IA (e:s[j]?=some (.lst (ns.map D.int))) (hn:ns.length<1000):i6 (.aj j) s=true/\i5 (.aj j) (.int x) s=ok .au (s.set j (.lst ((ns++[x]).map D.int))):=by
 refine⟨by simp only[i6,e],?_⟩;unfold i5;simp only[e];rw[Ú (by rw[È,Ä];exact Ê hn (le_size (by decide)))];simp
def PM {k m:Nat} {md:List Int} (h:bp s k) (hm:s[m]?=some (.lst (md.map D.int))) (L8:m≠k):Wp (qM [.aj k,.aj m] s) λd s'=>∃(ds:List Int) (b:Bool),d=lI ds/\Lf md b 31 ds/\bp s' k/\Ex k s s':=by
 unfold qM;rw[wp_fn];refine⟨rfl,?_⟩;rw[wp_sSeq];refine Wp.Wh ?_
 try simp only[VC]
 refine(dN h (by decide) (by decide)).mono λd t1 qz=>?_;obtain⟨x1,rfl,sI,sJ,h1,e1⟩:=qz
 try simp only[VC]
 refine⟨by decide,?_⟩;have qA:t1.length≠k:=by have:=h1.lt;omega
 refine(dN (h1.app _) (by decide) (by decide)).mono λd t2 hd2=>?_;obtain⟨x2,rfl,Eo,Ep,h2,e2⟩:=hd2
 try simp only[VC]
 refine⟨_,_,_,rfl,?_⟩
 try simp only[VC]
 have L9:Ex k s t2:=e1.trans ((Ex.app k t1 _).trans e2);have i2:t2[t1.length]?=some (.lst (([]:List Int).map D.int)):=(e2.val t1.length (by simp) qA).trans (by simp);have hlen:s.length<=t1.length:=e1.len;refine Wp.of (eI (n:=31) rfl (by decide)) ?_;have Za:=(Å.mp hm).1;have Zb:m≠t1.length:=by omega
 refine Wp.i7 (λi env s'=>i<=31->∃b a5 ns,env=[some (.aj k),some (.aj m),some (.bl b),some (.aj t1.length),some (.int (2+x2)),a5]/\bp s' k/\s'[t1.length]?=some (.lst (ns.map D.int))/\Lf md b i ns/\s'[m]?=some (.lst (md.map D.int))/\Ex k s s') _ (λ_=>⟨_,_,[],rfl,h2,i2,⟨Nat.le_refl _,by simp,by simp,by simp⟩,(L9.val m Za L8).trans hm,L9⟩) (λi d env s' hd hI=>?_) (λenv s' hI=>?_)
 ·rw[gG] at hd
  split at hd
  ·rename_i hi
   cases hd;obtain⟨b,a5,ns,rfl,g1,g2,gl,g3,g4⟩:=hI (by omega);refine⟨_,rfl,?_⟩;simp only[VC,aaV];have fin:∀(c:Bool) (s2:ag),(c=true->(i:Int)∉md)->(c=false->b=true->(i:Int)∈md)->bp s2 k->s2[t1.length]?=some (.lst (ns.map D.int))->s2[m]?=some (.lst (md.map D.int))->Ex k s s2 ->
     if c=true then i6 (.aj t1.length) s2=true/\Wp (i5 (.aj t1.length) (.int (i:Int)) s2) λx s3=>i+1<=31->∃b a5 ns,([some (.aj k),some (.aj m),some (.bl c),some (.aj t1.length),some (.int (2+x2)),some (.int (i:Int))]:Env)=[some (.aj k),some (.aj m),some (.bl b),some (.aj t1.length),some (.int (2+x2)),a5]/\bp s3 k/\s3[t1.length]?=some (.lst (ns.map D.int))/\Lf md b (i+1) ns/\s3[m]?=some (.lst (md.map D.int))/\Ex k s s3
     else i+1<=31->∃b a5 ns,([some (.aj k),some (.aj m),some (.bl c),some (.aj t1.length),some (.int (2+x2)),some (.int (i:Int))]:Env)=[some (.aj k),some (.aj m),some (.bl b),some (.aj t1.length),some (.int (2+x2)),a5]/\bp s2 k/\s2[t1.length]?=some (.lst (ns.map D.int))/\Lf md b (i+1) ns/\s2[m]?=some (.lst (md.map D.int))/\Ex k s s2:=λc s2 c1 c2 k1 k2 k3 k4=>by
    cases c with
    |true =>
     obtain⟨q1,q2⟩:=IA (x:=(i:Int)) k2 (by have:=gl.len;omega);rw[Ú rfl];exact⟨q1,Wp.of q2 λ_=>⟨_,_,_,rfl,k1.set qA _,ã (Å.mp k2).1,gl.put (c1 rfl),(Ø (Ň Zb)).trans k3,k4.qy hlen _⟩⟩
    |false =>
     rw[æ Ë];exact λ_=>⟨_,_,_,rfl,k1,k2,gl.pass (c2 rfl),k3,k4⟩
   cases b with
   |true =>
    simp only[û];refine Wp.of (GP (x:=(i:Int)) g3) ?_;simp only[wp_truB];exact fin _ s' (by simp) (by simp) g1 g2 g3 g4
   |false =>
    simp only[Ã,ê];refine(dN g1 (by omega) (by omega)).mono λd s2 hd2=>?_;obtain⟨x3,rfl,_,_,k1,e3⟩:=hd2;have k2:=(e3.val _ (Å.mp g2).1 qA).trans g2;have k3:=(e3.val _ (Å.mp g3).1 L8).trans g3;have k4:=g4.trans e3;simp only[wp_eqI,wp_isBl]
    cases (x3==0) with
    |true =>
     simp only[û];refine Wp.of (GP (x:=(i:Int)) k3) ?_;simp only[wp_truB];exact fin _ s2 (by simp) (λ_ z=>by cases z) k1 k2 k3 k4
    |false =>
     simp only[Ã,ê,wp_truB];exact fin false s2 (λz=>by cases z) (λ_ z=>by cases z) k1 k2 k3 k4
  ·cases hd
 ·rw[cq] at hI
  obtain⟨b,a5,ns,rfl,g1,z1,gl,g3,g4⟩:=hI (Nat.le_refl _);simp only[VC];refine Wp.of (show cO (.aj t1.length) s'=ok (lI ns) (s'.set t1.length .dead) from by simp only[cO,z1]) ?_;exact⟨ns,b,rfl,gl,g1.set qA _,g4.qy hlen _⟩
def iP.more (h:iP s j n) (hm:n<=m):iP s j m:=by
 obtain⟨ns,e,l⟩:=h;exact⟨ns,e,by omega⟩
def oE (s:ag) (j n:Nat):Prop:=∃ls:List (List Int),s[j]?=some (.lst (ls.map lI))/\ls.length=n
def oE.lt (h:oE s j n):j<s.length:=by
 obtain⟨ps,e,_⟩:=h;exact(Å.mp e).1
def oE.ex (h:oE s j n) (x:Ex k s s') (hj:j≠k):oE s' j n:=by
 have hl:=h.lt;obtain⟨ps,e,r⟩:=h;exact⟨ps,(x.val j hl hj).trans e,r⟩
def oE.set (h:oE s j n) (hi:i≠j) (c:Cell):oE (s.set i c) j n:=by
 obtain⟨ps,e,r⟩:=h;exact⟨ps,by rw[Ø hi];exact e,r⟩
structure BI (W:ď) (k j b n q:Nat) (s0 s:ag):Prop where
 st:bp s k
 dict:fG W Y9 s j n
 aQ:∀i,i<8->iP s (b+i) q
 ext:Ex k s0 s
section
variable {W:ď} {k j b n q:Nat} {s0 s:ag}
def BI.draw (h:BI W k j b n q s0 s) (hj:j≠k) (hb:∀i,i<8->b+i≠k) (x:Ex k s s') (hs:bp s' k):BI W k j b n q s0 s' :=
 ⟨hs,h.dict.ex x hj,λi hi=>(h.aQ i hi).ex x (hb i hi),h.ext.trans x⟩
def BI.put (h:BI W k j b n q s0 s) (hj:j≠k) (lq:∀i,i<8->b+i≠j) (hl:s0.length<=j) (hf:dX p=true) (hn:n<1000):∃s',kM W (.aj j) p.d (.bl true) s=some s'/\BI W k j b (n+1) q s0 s'/\Ex j s s':=by
 obtain⟨c,e,d⟩:=U1 h.dict hf hn;exact⟨_,e,⟨h.st.set hj c,d,λi hi=>(h.aQ i hi).set (Ň (lq i hi)) c,h.ext.qy hl c⟩,Ex.set j s c⟩
end
noncomputable def memD (b:Nat):D:=.lst ((ß 8).map λi:Nat=>D.aj (b+i))
def JK (h0:0<=i) (h1:i<8):ak (memD b) (.int i) s=ok (.aj (b+i.toNat)) s:=by
 obtain⟨x,e1,e2⟩:=nH (xs:=(ß 8).map λi:Nat=>D.aj (b+i)) h0 (by simpa using h1);have:x=.aj (b+i.toNat):=by
  rw[ç,Ĕ (by omega)] at e2;exact(Option.some.inj e2).symm
 subst this;simp only[ak,gZ,res,memD,e1,bB]
def SX (q:Q (memD s.length) (s++Ï 8 (.lst []))):Wp (aW 1 [] (bS (ae (eC (.int 8)) ah)) (gN 0) bT (eNew ah) env s) Q:=by
 rw[wp_comp];refine Wp.of (eI (n:=8) rfl (by decide)) ⟨by rw[cq];exact le_size (by decide),?_⟩;refine mr (λi acc s'=>acc=(ß i).map (λx:Nat=>D.aj (s.length+x))/\s'=s++Ï i (.lst [])) (bP 0 8) ⟨rfl,by simp⟩ (λi d acc s' hd hI=>?_) λacc s' hI=>?_
 ·obtain⟨rfl,rfl⟩:=hI
  rw[gG] at hd;split at hd
  ·cases hd
   refine⟨[some (.int (0+i))],rfl,?_⟩;refine Wp.of (show bT _ _=ok true _ from rfl) ?_;rw[Ú rfl];simp only[wp_new,wp_aNil];refine⟨by decide,?_,?_⟩
   ·rw[ſ,č]
    simp
   ·rw[List.replicate_succ',ķ]
  ·cases hd
 ·rw[cq] at hI
  obtain⟨rfl,rfl⟩:=hI;exact q
def eR (W:ď) (R T:Pg->Prop) (s:ag) (j n:Nat):Prop:=∃ps:List Pg,s[j]?=some (.dT (ps.map λp=>(p.d,hs W p.d)))/\(ps.Nodup/\(∀p∈ps,R p)/\∀p,T p->p∈ps)/\ps.length<=n
section
variable {W:ď} {R T:Pg->Prop} {s s':ag} {j n k:Nat}
def eR.lt (h:eR W R T s j n):j<s.length:=by
 obtain⟨ps,e,_⟩:=h;exact(Å.mp e).1
def eR.ex (h:eR W R T s j n) (x:Ex k s s') (hj:j≠k):eR W R T s' j n:=by
 have hl:=h.lt;obtain⟨ps,e,r⟩:=h;exact⟨ps,(x.val j hl hj).trans e,r⟩
def eR.more (h:eR W R T s j n) (hm:n<=m):eR W R T s j m:=by
 obtain⟨ps,e,r,l⟩:=h;exact⟨ps,e,r,by omega⟩
def eR.set (h:eR W R T s j n) (hi:i≠j) (c:Cell):eR W R T (s.set i c) j n:=by
 obtain⟨ps,e,r⟩:=h;exact⟨ps,by rw[Ø hi];exact e,r⟩
def eR.mono (h:eR W R T s j n) (hR:∀p,R p->R' p) (hT:∀p,T' p->T p):eR W R' T' s j n:=by
 obtain⟨ps,e,r,l⟩:=h;exact⟨ps,e,⟨r.1,λp hp=>hR p (r.2.1 p hp),λp hp=>r.2.2 p (hT p hp)⟩,l⟩
def AW (h:eR W R T s j n) (hf:R p) (hn:n<1000):∃c,kM W (.aj j) p.d (.bl true) s=some (s.set j c)/\eR W R (λq=>T q\/q=p) (s.set j c) j (n+1):=by
 have hl:=h.lt;obtain⟨ps,e,cx,len⟩:=h;obtain⟨ks,ep,k1,k2⟩:=kj p;have uL:=JJ W ps;generalize hk:(ps.map λp=>(p.d,hs W p.d))=ai at e uL;have kl:ai.length=ps.length:=by rw[<- hk,Ä]
 refine⟨.dT (TK.fP W ai (.tup ks)),?_,?_⟩
 ·rw[ep]
  unfold kM;simp only[e];rw[Ú];rw[k1,Ý k2,uL,Ý (Ê (show ai.length<1000 by omega) (le_size (by decide)))];rfl
 ·unfold TK.fP
  split
  ·rename_i hy
   obtain⟨kv,h1,h2⟩:=Ņ.mp hy;rw[<- hk] at h1;obtain⟨q,hq,rfl⟩:=ö.mp h1;have eq:q=p:=Pg.Kf ((rg _ _ (kB q) (kB p)).mp (by rw[ep];exact h2));subst eq;exact⟨ps,by rw[hk];exact ã hl,⟨cx.1,cx.2.1,λq' Er=>by
    rcases Er with Er|rfl
    ·exact cx.2.2 q' Er
    ·exact hq⟩,by omega⟩
  ·rename_i mL
   refine⟨ps++[p],?_,⟨aav.mpr ⟨cx.1,by simp,λa ha b hb=>?_⟩,λq hq=>?_,λq hq=>?_⟩,by simp;omega⟩
   ·rw[ã hl,č,hk]
    simp only[Ö,İ,ep]
   ·rw[Ü.mp hb]
    rintro rfl;refine mL (Ņ.mpr ⟨(a.d,hs W a.d),?_,?_⟩)
    ·rw[<- hk];exact ö.mpr ⟨a,ha,rfl⟩
    ·rw[<- ep];exact(rg _ _ (kB a) (kB a)).mpr rfl
   ·rcases Ù.mp hq with hq|hq
    ·exact cx.2.1 q hq
    ·rw[Ü.mp hq];exact hf
   ·rcases hq with hq|rfl
    ·exact Ù.mpr (.inl (cx.2.2 q hq))
    ·exact Ù.mpr (.inr (Ü.mpr rfl))
def eR.plain (h:eR W R T s j n):fG W R s j n:=by
 obtain⟨ps,e,r,l⟩:=h;exact⟨ps,e,⟨r.1,r.2.1⟩,l⟩
end
structure BJ (W:ď) (k j b n:Nat) (s0 s:ag) (M:Nat->List Int) (R T:Pg->Prop):Prop where
 st:bp s k
 dict:eR W R T s j n
 aQ:∀i,i<8->s[b+i]?=some (.lst ((M i).map D.int))
 ext:Ex k s0 s
section
variable {W:ď} {k j b n:Nat} {s0 s:ag} {M:Nat->List Int} {R T:Pg->Prop}
def BJ.draw (h:BJ W k j b n s0 s M R T) (hj:j≠k) (hb:∀i,i<8->b+i≠k) (x:Ex k s s') (hs:bp s' k):BJ W k j b n s0 s' M R T :=
 ⟨hs,h.dict.ex x hj,λi hi=>(x.val _ (Å.mp (h.aQ i hi)).1 (hb i hi)).trans (h.aQ i hi),h.ext.trans x⟩
def BJ.put (h:BJ W k j b n s0 s M R T) (hj:j≠k) (lq:∀i,i<8->b+i≠j) (hl:s0.length<=j) (hf:R p) (hn:n<1000):∃s',kM W (.aj j) p.d (.bl true) s=some s'/\BJ W k j b (n+1) s0 s' M R (λq=>T q\/q=p)/\Ex j s s':=by
 obtain⟨c,e,d⟩:=AW h.dict hf hn;exact⟨_,e,⟨h.st.set hj c,d,λi hi=>(Ø (Ň (lq i hi))).trans (h.aQ i hi),h.ext.qy hl c⟩,Ex.set j s c⟩
def Ow (h:BJ W k j b n s0 s M R T) (hj:j≠k) (hb:∀i,i<8->b+i≠k) (lq:∀i,i<8->b+i≠j) (hl:s0.length<=j) (Zc:s0.length<=b) (hn:n<1000) (hq:∀i,i<8->(M i).length<1000)
 (g:∀(x:Nat) (d:Int) (b8 b9:Option D) (s':ag),x<8->0<=d/\d<31->(∀{R':Pg->Prop},(∀p,R p->R' p)->R' (.aQ mu d x)->BJ W k j b (n+1) s0 s' (λi=>if i=x then M i++[d] else M i) R' (λq=>T q\/q=.aQ mu d x))->(∀t,t<s.length->t≠k->t≠j->(∀i,i<8->b+i≠t)->s'[t]?=s[t]?)->Q (.nx [some (.aj k),some (.aj j),some (.int mo),some (.int of),some (.int mu),some (memD b),a6,a7,b8,b9,sL,sM]) s') :
  Wp ((ay (aL (aZ (ae (ax bJ (ae (aa 0) (ae (eC (.int 8)) ah))) (ae (ax bJ (ae (aa 0) (ae (eC (.int 31)) ah))) ah))) (gT [(gN 8),(gN 9)])) (ay (fK (ik (e2 ak (aa 5) (aa 8)) (aa 9))) (TK.mE W (eC (.bl true)) (aa 1) (aZ (ae (eC (.str "mended")) (ae (aa 4) (ae (aa 9) (ae (aa 8) ah)))))))) [some (.aj k),some (.aj j),some (.int mo),some (.int of),some (.int mu),some (memD b),a6,a7,a8,a9,sL,sM] s) Q:=by
 simp only[VC];refine(dN h.st (by decide) (by decide)).mono λd t1 qz=>?_;obtain⟨x1,rfl,sI,sJ,h1,e1⟩:=qz;refine(dN h1 (by decide) (by decide)).mono λd t2 hd2=>?_;obtain⟨x2,rfl,Eo,Ep,h2,e2⟩:=hd2;refine⟨by decide,?_⟩
 try simp only[VC]
 refine Wp.of (JK sI sJ) ?_;obtain⟨y,rfl⟩:∃y:Nat,x1=y:=⟨x1.toNat,by omega⟩;rw[õ];have hy:y<8:=by omega
 have B2:=h.draw hj hb (e1.trans e2) h2;obtain⟨q1,q2⟩:=IA (x:=x2) (B2.aQ y hy) (hq y hy);refine⟨q1,Wp.of q2 ?_⟩;have hx:=hb y hy;have Zd:=lq y hy
 have B3:BJ W k j b n s0 (t2.set (b+y) (.lst ((M y++[x2]).map D.int))) (λi=>if i=y then M i++[x2] else M i) R T:=⟨B2.st.set hx _,B2.dict.set Zd _,λi hi=>by
  by_cases qu:i=y
  ·subst qu
   rw[Ú rfl];exact ã (Å.mp (B2.aQ i hi)).1
  ·rw[æ qu,Ø (by omega)]
   exact B2.aQ i hi,B2.ext.qy (by omega) _⟩
 rw[Iy];simp only[VC];refine⟨by decide,?_⟩;obtain⟨c,ec,dc⟩:=AW (p:=.aQ mu x2 y) (R:=λ_=>True) (T:=T) (B3.dict.mono (λ_ _=>trivial) λ_ h=>h) trivial hn;refine⟨_,ec,g y x2 _ _ _ hy ⟨Eo,Ep⟩ (λ{R'} hR hp=>?_) λt ht Li Ze Zf=>?_⟩
 ·obtain⟨c',Zg,Zh⟩:=AW (p:=.aQ mu x2 y) (R:=R') (T:=T) (B3.dict.mono hR λ_ h=>h) hp hn
  have eq:=Option.some.inj (ec.symm.trans Zg);rw[eq];exact⟨B3.st.set hj c',Zh,λi hi=>(Ø (Ň (lq i hi))).trans (B3.aQ i hi),B3.ext.qy hl c'⟩
 ·have l2:s.length<=t2.length:=(e1.trans e2).len
  rw[Ø (Ň Ze),Ø (Zf _ hy),(e1.trans e2).val t ht Li]
end
section
variable (s l m:Nat->Bool)
noncomputable def pr:Nat->Bool
 |0=>s 0
 |d+1=>s (d+1)||(pr d&&!m (d+1))
noncomputable def gE:Nat->Bool
 |0=>false
 |n+1=>(gE n||l (30-n))&&!m (30-n)
def br (d:Nat):Bool:=gE l m (31-d)
def ab (d:Nat):Bool:=br l m (d+1)||(l d||m d)
def Kq (h:d<=30):br l m d=((br l m (d+1)||l d)&&!m d):=by
 unfold br;have e1:31-d=(30-d)+1:=by omega
 have e2:31-(d+1)=30-d:=by omega
 rw[e1,e2];simp only[gE];rw[show 30-(30-d)=d by omega]
def Kr:br l m 31=false:=rfl
noncomputable def f0 (d:Nat):Bool:=!s d
noncomputable def t0 (d:Nat):Bool:=!m d&&!l d
def fw:Nat->Bool×Bool
 |0=>(f0 s 0,t0 l m 0)
 |d+1=>(f0 s (d+1)&&((fw d).1||(m (d+1)&&((fw d).1||(fw d).2))),t0 l m (d+1)&&((fw d).1||(fw d).2))
def sO:Nat->Bool×Bool
 |0=>fw s l m 30
 |n+1=>let q:=sO n;let a:=fw s l m (29-n);(a.1&&(q.2||q.1),a.2&&(q.2||(q.1&&m (30-n))))
def bw (d:Nat):Bool×Bool:=sO s l m (30-d)
def nu:Prop:=∀d e,s d=true->d<=e->e<=30->(l e=true\/(e=d/\m d=true))->∃x,d<x/\x<=e/\m x=true
variable {s l m}
def Bt:∀{d:Nat},pr s m d=true↔∃e,e<=d/\s e=true/\∀x,e<x->x<=d->m x=false
 |0=>by
  simp only[pr];constructor
  ·intro h;exact⟨0,Nat.le_refl _,h,λx h1 h2=>by omega⟩
  ·rintro ⟨e,h1,h2,_⟩
   have:e=0:=by omega
   rw[<- this];exact h2
 |d+1=>by
  simp only[pr,Ž,Ç,ē];rw[Bt (d:=d)];constructor
  ·rintro (h | ⟨⟨e,h1,h2,h3⟩,h4⟩)
   ·exact⟨d+1,Nat.le_refl _,h,λx h1 h2=>by omega⟩
   ·refine⟨e,by omega,h2,λx mP l9=>?_⟩
    by_cases hx:x=d+1
    ·rw[hx];exact h4
    ·exact h3 x mP (by omega)
  ·rintro ⟨e,h1,h2,h3⟩
   by_cases he:e=d+1
   ·left;rw[<- he];exact h2
   ·right
    exact⟨⟨e,by omega,h2,λx mP l9=>h3 x mP (by omega)⟩,h3 (d+1) (by omega) (Nat.le_refl _)⟩
def Wi:∀{n:Nat},n<=31->br l m (31-n)=true->∃e,31-n<=e/\e<=30/\l e=true/\∀x,31-n<=x->x<=e->m x=false:=by
 intro n
 induction n with
 |zero=>intro _ h;rw[show 31-0=31 from rfl,Kr] at h;cases h
 |succ n ih =>
  intro hn h;have e1:31-(n+1)+1=31-n:=by omega
  rw[Kq l m (by omega),e1,Ç,Ž,ē] at h
  rcases h.1 with h1|h1
  ·obtain⟨e,q1,q2,q3,q4⟩:=ih (by omega) h1
   refine⟨e,by omega,q2,q3,λx mP l9=>?_⟩;by_cases hx:x=31-(n+1)
   ·rw[hx];exact h.2
   ·exact q4 x (by omega) l9
  ·refine⟨31-(n+1),Nat.le_refl _,by omega,h1,λx mP l9=>?_⟩
   rw[show x=31-(n+1) by omega];exact h.2
section
variable (N:nu s l m)
include N
def Cc (hd:d<=30) (h:pr s m d=true):t0 l m d=true:=by
 obtain⟨e,h1,h2,h3⟩:=Bt.mp h;unfold t0;rw[Ç,ē,ē];constructor
 ·cases hm:m d with
  |false=>rfl
  |true =>
   by_cases he:e=d
   ·subst he
    obtain⟨x,q1,q2,_⟩:=N e e h2 (Nat.le_refl _) hd (.inr ⟨rfl,hm⟩);omega
   ·have:=h3 d (by omega) (Nat.le_refl _)
    rw[this] at hm;cases hm
 ·cases hl:l d with
  |false=>rfl
  |true =>
   obtain⟨x,q1,q2,q3⟩:=N e d h2 h1 hd (.inl hl);rw[h3 x q1 q2] at q3;cases q3
def Cd:∀{d:Nat},d<=30->fw s l m d=(!pr s m d,t0 l m d)
 |0,_=>rfl
 |d+1,h=>by
  have ih:=Cd (d:=d) (by omega);have ne:(!pr s m d||t0 l m d)=true:=by
   cases hp:pr s m d with
   |false=>rfl
   |true=>rw[Cc N (by omega) hp];rfl
  simp only[fw,ih,ne,Ř,f0,pr]
  cases s (d+1)<;>cases pr s m d<;>cases m (d+1)<;>simp
def Ks (hd:d<=30) (h:pr s m d=true):ab l m d=false:=by
 have ht:=Cc N hd h;unfold t0 at ht;rw[Ç,ē,ē] at ht;unfold ab;rw[ht.1,ht.2]
 cases hb:br l m (d+1) with
 |false=>rfl
 |true =>
  exfalso;have gY:br l m (31-(30-d))=true:=by rw[show 31-(30-d)=d+1 by omega];exact hb
  obtain⟨e,q1,q2,q3,q4⟩:=Wi (by omega) gY;obtain⟨c,h1,h2,h3⟩:=Bt.mp h;obtain⟨x,z1,z2,z3⟩:=N c e h2 (by omega) q2 (.inl q3);by_cases hx:x<=d
  ·rw[h3 x z1 hx] at z3;cases z3
  ·rw[q4 x (by omega) z2] at z3;cases z3
def JL:∀{n:Nat},n<=30->sO s l m n=(!pr s m (30-n),!ab l m (30-n))
 |0,_=>by
  simp only[sO,Cd N (Nat.le_refl 30),Nat.sub_zero];congr 1;unfold ab t0;rw[Kr]
  cases m 30<;>cases l 30<;>rfl
 |n+1,h=>by
  have ih:=JL (n:=n) (by omega);have Zi:29-n=30-(n+1):=by omega
  have Zj:30-n=(30-(n+1))+1:=by omega
  generalize hd:30-(n+1)=d at *;have C7:d+1<=30:=by omega
  simp only[sO,ih,Zi,Zj,Cd N (show d<=30 by omega)];have p1:=λz=>Ks N C7 z;have p2:=λz=>Cc N C7 z;have eb:=Kq l m C7;congr 1
  ·cases hp:pr s m (d+1) with
   |false=>simp
   |true=>rw[p1 hp];simp
  ·show (t0 l m d&&(!ab l m (d+1)||(!pr s m (d+1)&&m (d+1))))=!(br l m (d+1)||(l d||m d))
   rw[eb];unfold ab
   cases hm:m (d+1) with
   |false=>unfold t0;cases m d<;>cases l d<;>cases br l m (d+1+1)<;>cases l (d+1)<;>simp
   |true =>
    have hp:pr s m (d+1)=false:=by
     cases hp:pr s m (d+1) with
     |false=>rfl
     |true=>have:=p2 hp;unfold t0 at this;rw[hm] at this;cases this
    rw[hp];unfold t0
    cases m d<;>cases l d<;>simp
def Wj (h:d<=30):bw s l m d=(!pr s m d,!ab l m d):=by
 unfold bw;rw[JL N (by omega),show 30-(30-d)=d by omega]
end
end
section
variable (ps:List Pg) (m k:Int)
def sN (d:Nat):Bool:=decide ((d:Int)∈shown ps m k)
def lN (d:Nat):Bool:=decide ((d:Int)∈cR ps m k)
def mN (d:Nat):Bool:=decide ((d:Int)∈bU ps m k)
def jH:List Int:=((ß 31).filter λd=>pr (sN ps m k) (mN ps m k) d).map λd:Nat=>(d:Int)
def iQ:List Int:=((ß 31).filter λn=>ab (lN ps m k) (mN ps m k) (30-n)).map λn:Nat=>((30-n:Nat):Int)
end
def IC (h:eO ps=true) (hm:0<=m/\m<4) (hk:0<=k/\k<8):nu (sN ps m k) (lN ps m k) (mN ps m k):=by
 intro d e hs Es he hc;simp only[sN,lN,mN,È] at hs hc;have c:=Rb h hm hk hs (l:=(e:Int)) (by omega) (by omega);unfold lp at c;have c1:(decide ((e:Int)∈cR ps m k)||(decide ((e:Int)=(d:Int))&&decide ((d:Int)∈bU ps m k)))=true:=by
  rcases hc with hc | ⟨h1,h2⟩
  ·rw[Ý hc];rfl
  ·rw[Ý (show (e:Int)=d by omega),Ý h2];simp
 rw[c1,í,Bool.not_eq_false'] at c;unfold pV at c;obtain⟨x,hx,hb⟩:=Ņ.mp c;simp only[Ç,È] at hb;refine⟨x.toNat,by omega,by omega,?_⟩;simp only[mN,È];rw[show ((x.toNat:Nat):Int)=x by omega];exact hx
def ID {s:ag} {ns:List Int} {x:Int} (hn:ns.length<1000):i6 (.aj s.length) (s++[.lst (ns.map D.int)])=true/\i5 (.aj s.length) (.int x) (s++[.lst (ns.map D.int)])=ok .au (s++[.lst ((ns++[x]).map D.int)]):=by
 have e:(s++[Cell.lst (ns.map D.int)])[s.length]?=some (.lst (ns.map D.int)):=by simp
 refine⟨by simp only[i6,e],?_⟩;unfold i5;simp only[e];rw[Ú (by rw[È,Ä];exact Ê hn (le_size (by decide)))];simp[Ų]
def IE {s:ag} {ns:List Int}:cO (.aj s.length) (s++[.lst (ns.map D.int)])=ok (lI ns) (s++[.dead]):=by
 have e:(s++[Cell.lst (ns.map D.int)])[s.length]?=some (.lst (ns.map D.int)):=by simp
 simp only[cO,e];simp[Ų]
def F9 {p:Nat->Bool} {f:Nat->Int} {i:Nat}:((ß (i+1)).filter p).map f=((ß i).filter p).map f++(if p i=true then [f i] else []):=by
 rw[ſ,aa7,č];congr 1
 cases h:p i<;>simp[h]
def GQ {p:Nat->Bool} {f:Nat->Int} {i:Nat}:(((ß i).filter p).map f).length<=i:=by
 rw[Ä];exact Û (Ķ _ _) (by rw[ľ];exact Nat.le_refl _)
def pv (s m:Nat->Bool):Nat->Bool
 |0=>false
 |i+1=>pr s m i
def Ox (hl:ps.length<=1000):we [bD ps,.int m,.int k] s=ok (lI (jH ps m k)) (s++[.dead]):=by
 refine Wp.eq ?_;unfold we;simp only[VC];refine Wp.of (xt hl).1 ?_;refine Wp.of (xu hl) ?_
 try simp only[VC]
 refine⟨by decide,?_⟩;refine Wp.of (eI (n:=31) rfl (by decide)) ?_;refine Wp.i7 (λi env s'=>i<=31->∃a7,env=[some (bD ps),some (.int m),some (.int k),some (lI (shown ps m k)),some (lI (bU ps m k)),some (.aj s.length),some (.bl (pv (sN ps m k) (mN ps m k) i)),a7]/\s'=s++[.lst ((((ß i).filter λd=>pr (sN ps m k) (mN ps m k) d).map λd:Nat=>(d:Int)).map D.int)]) _ (λ_=>⟨_,rfl,rfl⟩) (λi d env s' hd hI=>?_) (λenv s' hI=>?_)
 ·rw[gG] at hd
  split at hd
  ·rename_i hi
   cases hd;obtain⟨a7,rfl,rfl⟩:=hI (by omega);refine⟨_,rfl,?_⟩;have e0:(0:Int)+(i:Int)=i:=by omega
   have key:(decide ((i:Int)∈shown ps m k)||(pv (sN ps m k) (mN ps m k) i&&!decide ((i:Int)∈bU ps m k)))=pr (sN ps m k) (mN ps m k) i:=by
    cases i with
    |zero=>simp[pv,pr,sN]
    |succ i=>rfl
   have fin:∀c:Bool,c=pr (sN ps m k) (mN ps m k) i->if c=true then i6 (.aj s.length) (s++[.lst ((((ß i).filter λd=>pr (sN ps m k) (mN ps m k) d).map λd:Nat=>(d:Int)).map D.int)])=true/\Wp (i5 (.aj s.length) (.int (0+(i:Int))) (s++[.lst ((((ß i).filter λd=>pr (sN ps m k) (mN ps m k) d).map λd:Nat=>(d:Int)).map D.int)])) λx s'=>i+1<=31->∃a7,([some (bD ps),some (.int m),some (.int k),some (lI (shown ps m k)),some (lI (bU ps m k)),some (.aj s.length),some (.bl c),some (.int (0+(i:Int)))]:Env)=[some (bD ps),some (.int m),some (.int k),some (lI (shown ps m k)),some (lI (bU ps m k)),some (.aj s.length),some (.bl (pv (sN ps m k) (mN ps m k) (i+1))),a7]/\s'=s++[.lst ((((ß (i+1)).filter λd=>pr (sN ps m k) (mN ps m k) d).map λd:Nat=>(d:Int)).map D.int)]
     else i+1<=31->∃a7,([some (bD ps),some (.int m),some (.int k),some (lI (shown ps m k)),some (lI (bU ps m k)),some (.aj s.length),some (.bl c),some (.int (0+(i:Int)))]:Env)=[some (bD ps),some (.int m),some (.int k),some (lI (shown ps m k)),some (lI (bU ps m k)),some (.aj s.length),some (.bl (pv (sN ps m k) (mN ps m k) (i+1))),a7]/\s++[.lst ((((ß i).filter λd=>pr (sN ps m k) (mN ps m k) d).map λd:Nat=>(d:Int)).map D.int)]=s++[.lst ((((ß (i+1)).filter λd=>pr (sN ps m k) (mN ps m k) d).map λd:Nat=>(d:Int)).map D.int)]:=λc hc=>by
    rw[F9];have hv:pv (sN ps m k) (mN ps m k) (i+1)=c:=hc.symm;rw[hv,<- hc]
    cases c with
    |true =>
     rw[Ú rfl];obtain⟨q1,q2⟩:=ID (s:=s) (ns:=((ß i).filter λd=>pr (sN ps m k) (mN ps m k) d).map λd:Nat=>(d:Int)) (x:=0+(i:Int)) (Nat.lt_of_le_of_lt GQ (by omega));exact⟨q1,Wp.of q2 λ_=>⟨_,rfl,by rw[e0];rfl⟩⟩
    |false =>
     rw[æ Ë];exact λ_=>⟨_,rfl,by simp⟩
   simp only[VC,rN,e0];rw[e0] at fin;by_cases c1:(i:Int)∈shown ps m k
   ·simp only[c1,ę,û]
    exact fin true (by rw[<- key,Ý c1];rfl)
   ·simp only[c1,ab3,Ã,ê]
    cases hp:pv (sN ps m k) (mN ps m k) i with
    |false =>
     simp only[VC,Ã,ê];exact fin false (by rw[<- key,ñ c1,hp];rfl)
    |true =>
     simp only[VC,û,oR];exact fin _ (by rw[<- key,ñ c1,hp];rfl)
  ·cases hd
 ·rw[cq] at hI
  obtain⟨a7,rfl,rfl⟩:=hI (Nat.le_refl _);simp only[VC];exact Wp.of IE ⟨rfl,rfl⟩
noncomputable def downs:List D:=(ß 31).map λn:Nat=>D.int ((30-n:Nat):Int)
def U2:Eb (ae (eC (.int 31)) ah) env s=ok downs s:=by
 have:(bP 0 31).reverse=downs:=by rfl
 rw[<- this];rfl
def PN:downs[i]?=if i<31 then some (.int ((30-i:Nat):Int)) else none:=by
 unfold downs;rw[ç];by_cases h:i<31
 ·rw[Ú h,Ĕ h];rfl
 ·rw[æ h,Ċ (by simpa using h)];rfl
abbrev jf (ps:List Pg) (m k:Int) (i:Nat):List Int:=((ß i).filter λn=>ab (lN ps m k) (mN ps m k) (30-n)).map λn:Nat=>((30-n:Nat):Int)
def PQ (hl:ps.length<=1000):wo [bD ps,.int m,.int k] s=ok (lI (iQ ps m k)) (s++[.dead]):=by
 refine Wp.eq ?_;unfold wo;simp only[VC];refine Wp.of (xt hl).2 ?_;refine Wp.of (xu hl) ?_
 try simp only[VC]
 refine⟨by decide,?_⟩;refine Wp.of U2 ?_;refine Wp.i7 (λi env s'=>i<=31->∃a7,env=[some (bD ps),some (.int m),some (.int k),some (lI (cR ps m k)),some (lI (bU ps m k)),some (.aj s.length),some (.bl (gE (lN ps m k) (mN ps m k) i)),a7]/\s'=s++[.lst ((jf ps m k i).map D.int)]) _ (λ_=>⟨_,rfl,rfl⟩) (λi d env s' hd hI=>?_) (λenv s' hI=>?_)
 ·rw[PN] at hd
  split at hd
  ·rename_i hi
   cases hd;obtain⟨a7,rfl,rfl⟩:=hI (by omega);refine⟨_,rfl,?_⟩;generalize hd:((30-i:Nat):Int)=d;have ea:ab (lN ps m k) (mN ps m k) (30-i)=(gE (lN ps m k) (mN ps m k) i||(decide (d∈cR ps m k)||decide (d∈bU ps m k))):=by
    unfold ab br lN mN;rw[show 31-(30-i+1)=i by omega,hd]
   have eb:gE (lN ps m k) (mN ps m k) (i+1)=((gE (lN ps m k) (mN ps m k) i||decide (d∈cR ps m k))&&!decide (d∈bU ps m k)):=by
    show ((gE _ _ i||lN ps m k (30-i))&&!mN ps m k (30-i))=_;unfold lN mN;rw[hd]
   have sec:∀s2,s2=s++[.lst ((jf ps m k (i+1)).map D.int)]->Wp (aL (cL (kT (aa 6) (e2 cy (aa 7) (aa 3))) (e2 fJ (aa 7) (aa 4))) (gN 6) [some (bD ps),some (.int m),some (.int k),some (lI (cR ps m k)),some (lI (bU ps m k)),some (.aj s.length),some (.bl (gE (lN ps m k) (mN ps m k) i)),some (.int d)] s2) λfl s'=>match fl with
     | .nx env=>i+1<=31->∃a7,env=[some (bD ps),some (.int m),some (.int k),some (lI (cR ps m k)),some (lI (bU ps m k)),some (.aj s.length),some (.bl (gE (lN ps m k) (mN ps m k) (i+1))),a7]/\s'=s++[.lst ((jf ps m k (i+1)).map D.int)]
     | .ct env=>i+1<=31->∃a7,env=[some (bD ps),some (.int m),some (.int k),some (lI (cR ps m k)),some (lI (bU ps m k)),some (.aj s.length),some (.bl (gE (lN ps m k) (mN ps m k) (i+1))),a7]/\s'=s++[.lst ((jf ps m k (i+1)).map D.int)]
     | .bk env=>m9 (aN (jX (aa 5))) (sd λa s'=>a=lI (iQ ps m k)/\s'=s++[.dead]) (.nx env) s'
     | .rt d=>m9 (aN (jX (aa 5))) (sd λa s'=>a=lI (iQ ps m k)/\s'=s++[.dead]) (.rt d) s':=λs2 cf=>by
    simp only[VC,rN,oR];rw[eb]
    cases gE (lN ps m k) (mN ps m k) i with
    |true =>
     simp only[VC,û,oR];exact λ_=>⟨some (.int d),by simp,cf⟩
    |false =>
     simp only[Ã,ê,abN];by_cases c:d∈cR ps m k
     ·simp only[VC,c,ę,û,oR]
      exact λ_=>⟨some (.int d),by simp,cf⟩
     ·simp only[c,ab3,Ã,ê]
      exact λ_=>⟨some (.int d),by simp,cf⟩
   have Ma:=ID (s:=s) (ns:=jf ps m k i) (x:=d) (Nat.lt_of_le_of_lt GQ (by omega))
   have st:jf ps m k (i+1)=jf ps m k i++(if ab (lN ps m k) (mN ps m k) (30-i)=true then [d] else []):=by
    rw[<- hd];exact F9
   have yes:ab (lN ps m k) (mN ps m k) (30-i)=true->Wp (fK (ik (aa 5) (aa 7)) [some (bD ps),some (.int m),some (.int k),some (lI (cR ps m k)),some (lI (bU ps m k)),some (.aj s.length),some (.bl (gE (lN ps m k) (mN ps m k) i)),some (.int d)] (s++[.lst ((jf ps m k i).map D.int)])) λfl s'=>fl=.nx [some (bD ps),some (.int m),some (.int k),some (lI (cR ps m k)),some (lI (bU ps m k)),some (.aj s.length),some (.bl (gE (lN ps m k) (mN ps m k) i)),some (.int d)]/\s'=s++[.lst ((jf ps m k (i+1)).map D.int)]:=λha=>by
    simp only[VC];refine⟨Ma.1,Wp.of Ma.2 ?_⟩;rw[st,ha];simp
   have no:ab (lN ps m k) (mN ps m k) (30-i)=false->s++[Cell.lst ((jf ps m k i).map D.int)]=s++[Cell.lst ((jf ps m k (i+1)).map D.int)]:=λha=>by
    rw[st,ha];simp
   have go:∀{c:Bool},c=ab (lN ps m k) (mN ps m k) (30-i)->∀{Q:Fl->ag->Prop},(∀s2,s2=s++[.lst ((jf ps m k (i+1)).map D.int)]->Q (.nx [some (bD ps),some (.int m),some (.int k),some (lI (cR ps m k)),some (lI (bU ps m k)),some (.aj s.length),some (.bl (gE (lN ps m k) (mN ps m k) i)),some (.int d)]) s2)->if c=true then Wp (fK (ik (aa 5) (aa 7)) [some (bD ps),some (.int m),some (.int k),some (lI (cR ps m k)),some (lI (bU ps m k)),some (.aj s.length),some (.bl (gE (lN ps m k) (mN ps m k) i)),some (.int d)] (s++[.lst ((jf ps m k i).map D.int)])) Q else Wp (cb [some (bD ps),some (.int m),some (.int k),some (lI (cR ps m k)),some (lI (bU ps m k)),some (.aj s.length),some (.bl (gE (lN ps m k) (mN ps m k) i)),some (.int d)] (s++[.lst ((jf ps m k i).map D.int)])) Q:=λ{c} hc {Q} q=>by
    cases c with
    |true =>
     rw[Ú rfl];exact(yes hc.symm).mono λfl s2 ⟨e1,e2⟩=>by subst e1;exact q s2 e2
    |false =>
     rw[æ Ë,wp_sNil];exact q _ (no hc.symm)
   rw[wp_sSeq,wp_sIf];simp only[wp_tOr,wp_tru,wp_loc0,wp_locS,wp_truB,wp_tBl,wp_e2,rN,wp_ok,wp_isBl,ï,ð];rw[ea] at go
   cases hb:gE (lN ps m k) (mN ps m k) i with
   |true =>
    simp only[û];rw[hb] at go sec;exact go (c:=true) rfl λs2 h2=>sec s2 h2
   |false =>
    simp only[Ã,ê];rw[hb] at go sec;by_cases c:d∈cR ps m k
    ·simp only[c,ę,û]
     exact go (c:=true) (by simp[c]) λs2 h2=>sec s2 h2
    ·simp only[c,ab3,Ã,ê]
     exact go (by simp[c]) λs2 h2=>sec s2 h2
  ·cases hd
 ·rw[show downs.length=31 from rfl] at hI
  obtain⟨a7,rfl,rfl⟩:=hI (Nat.le_refl _);simp only[VC];exact Wp.of IE ⟨rfl,rfl⟩
def qB (F:Int->List Int):D:=.lst (k8.map λk=>lI (F k))
def U3 (h:0<=k/\k<8):ak (qB F) (.int k) s=ok (lI (F k)) s:=by
 obtain⟨x,e1,e2⟩:=nH (xs:=k8.map λk=>lI (F k)) h.1 (by show k<8;exact h.2);have:x=lI (F k):=by
  rw[ç] at e2;have e3:k8[k.toNat]?=some k:=by
   unfold k8;rw[ç,Ĕ (by omega)];simp;omega
  rw[e3] at e2;exact(Option.some.inj e2).symm
 subst this;simp only[ak,gZ,res,qB,e1,bB]
def Xw:bP 0 8=k8.map D.int:=rfl
def Kt:tj [qB F,.int d] s=ok (mD (k8.filter λk=>decide (d∈F k))) s:=by
 refine Wp.eq ?_;unfold tj;simp only[VC];refine Wp.of (eI (n:=8) rfl (by decide)) ⟨by rw[cq];exact le_size (by decide),?_⟩;rw[Xw];refine Wp.of (hZ (λk=>decide (d∈F k)) (λk=>.int k) k8 λk hk=>⟨[some (.int k),some (.int d),some (qB F)],rfl,?_,λ_=>rfl⟩) ?_
 ·refine Wp.eq ?_
  simp only[VC];refine Wp.of (U3 (rA.mp hk)) ?_;simp only[VC,rN,ğ]
 ·exact Wp.of (show cF [.lst ((k8.filter λk=>decide (d∈F k)).map λk=>.int k)] s=ok (mD (k8.filter λk=>decide (d∈F k))) s from rfl) ⟨rfl,rfl⟩
noncomputable def ck:List Int:=(ß 31).map λi:Nat=>(i:Int)
def uA:bP 0 31=ck.map D.int:=by unfold ck;rw[xr,Ē];congr 1;funext i;simp
def kC (P A:Int->List Int) (d:Int):D:=.tup [mD (k8.filter λk=>decide (d∈P k)),mD (k8.filter λk=>decide (d∈A k))]
def IF (hf:∀k s,fn [b,.int mu,.int k] s=ok (lI (F k)) (s++[.dead])) (e0:env[0]?=some (some b)) (e1:env[1]?=some (some (.int mu))) (q:∀c,Q (qB F) (s++c)) :
  Wp (aW 1 [0,1] (bS (ae (eC (.int (8))) ah)) (gN 0) bT (ax fn (ae (aa 1) (ae (aa 2) (ae (aa 0) ah)))) env s) Q:=by
 rw[wp_comp];refine Wp.of (eI (n:=8) rfl (by decide)) ⟨by rw[cq];exact le_size (by decide),?_⟩;have ec:fV [0,1] env=[some b,some (.int mu)]:=by simp[fV,e0,e1]
 rw[ec];refine mr (λi acc s'=>i<=8->acc=((ß i).map λi:Nat=>(i:Int)).map (λk=>lI (F k))/\∃c,s'=s++c) (bP 0 8) (λ_=>⟨rfl,[],by simp⟩) (λi d acc s' hd hI=>?_) λacc s' hI=>?_
 ·rw[gG] at hd
  split at hd
  ·rename_i hi
   cases hd;obtain⟨rfl,c,rfl⟩:=hI (by omega);refine⟨[some (.int (0+i)),some b,some (.int mu)],rfl,?_⟩;refine Wp.of (show bT _ _=ok true _ from rfl) ?_;rw[Ú rfl];simp only[VC];refine Wp.of (hf (0+(i:Int)) _) λ_=>⟨?_,c++[.dead],by simp⟩;rw[ſ,č,č];simp
  ·cases hd
 ·rw[cq] at hI
  obtain⟨rfl,c,rfl⟩:=hI (Nat.le_refl _);exact q c
def SY (hl:ps.length<=1000):Wp (wq [bD ps,.int m] s) λd s'=>d=.lst (ck.map (kC (jH ps m) (iQ ps m)))/\∃c,s'=s++c:=by
 unfold wq;rw[wp_fn];refine⟨rfl,?_⟩;rw[wp_sSeq,wp_sAsg];refine IF (b:=bD ps) (mu:=m) (λk s=>Ox hl) rfl rfl λc=>?_;simp only[asg_N,Ö,İ,ċ,ģ,Ï,Nat.reduceSub,ï,ð,aft_nx];rw[wp_sSeq,wp_sAsg];refine IF (b:=bD ps) (mu:=m) (λk s=>PQ hl) rfl rfl λc'=>?_;simp only[asg_N,ï,ð,aft_nx,wp_sRet,wp_comp,fin_rt];refine Wp.of (eI (n:=31) rfl (by decide)) ⟨by rw[cq];exact le_size (by decide),?_⟩;rw[uA];refine Wp.of (hZ (λ_=>true) (kC (jH ps m) (iQ ps m)) ck λd hd=>⟨[some (.int d),some (qB (jH ps m)),some (qB (iQ ps m))],rfl,rfl,λ_=>?_⟩) ?_
 ·refine Wp.eq ?_
  simp only[VC];refine Wp.of Kt ?_;refine Wp.of Kt ?_;exact⟨by decide,rfl,rfl⟩
 ·rw[filter_tt]
  exact⟨rfl,c++c',by simp⟩
noncomputable def jw (x:Bool×Bool):List Bool:=(if x.1=true then [false] else [])++(if x.2=true then [true] else [])
abbrev fY (x:Bool×Bool):D:=.lst ((jw x).map D.bl)
def NG (x:Bool×Bool) (p:Bool->Bool):(jw x).filter p=jw (x.1&&p false,x.2&&p true):=by
 obtain⟨f,t⟩:=x
 cases f<;>cases t<;>cases h1:p false<;>cases h2:p true<;>simp[jw,h1,h2]
noncomputable abbrev Rw:=Nat->Bool×Bool
abbrev uB (R:Rw):Cell:=.lst ((ß 31).map λd=>fY (R d))
noncomputable abbrev fj (F:Nat->Bool):Cell:=.lst ((ß 32).map λd=>D.bl (F d))
abbrev bX (s:ag) (R:Rw) (F:Nat->Bool):ag:=s++[uB R,fj F]
noncomputable def eh {α:Type} (R:Nat->α) (d:Nat) (x:α):Nat->α:=λe=>if e=d then x else R e
def C8 (s:ag) (R:Rw) (F:Nat->Bool):(bX s R F)[s.length]?=some (uB R):=by simp[bX]
def K9 (s:ag) (R:Rw) (F:Nat->Bool):(bX s R F)[s.length+1]?=some (fj F):=by simp[bX]
def xw {α:Type} {n:Nat} {f:Nat->α} {d:Int} (h0:0<=d) (h1:d<n):dE ((ß n).map f) d=some (f d.toNat):=by
 obtain⟨x,e1,e2⟩:=nH (xs:=(ß n).map f) h0 (by simpa using h1);rw[ç,Ĕ (by omega)] at e2;rw[e1];exact e2.symm
def tY {F:Nat->Bool} {d:Int} (h0:0<=d) (h1:d<31):ak (.aj s.length) (.int d) (bX s R F)=ok (fY (R d.toNat)) (bX s R F):=by
 simp only[ak,gZ,res,C8,xw h0 h1,bB]
def IG {F:Nat->Bool} {d:Int} (h0:0<=d) (h1:d<32):ak (.aj (s.length+1)) (.int d) (bX s R F)=ok (.bl (F d.toNat)) (bX s R F):=by
 simp only[ak,gZ,res,K9,xw h0 h1,bB]
def IH {α:Type} {n d:Nat} {f:Nat->α} {x:α}:((ß n).map f).set d x=(ß n).map (eh f d x):=by
 apply Ż;intro i;by_cases hi:i<n
 ·by_cases e:d=i
  ·subst e
   rw[ã (by simpa using hi),ç,Ĕ hi];simp[eh]
  ·rw[Ø e,ç,ç,Ĕ hi]
   simp[eh,Ň e]
 ·rw[Ċ (by simpa using hi),Ċ (by simpa using hi)]
def xJ {n:Nat} {d:Int} (h0:0<=d) (h1:d<n):gw n d=some d.toNat:=by
 unfold gw;rw[Ú h0,Ú h1]
def Hy {α β:Type} {f:Nat->α} {g:α->β} {d:Nat} {x:α}:(λe=>g (eh f d x e))=eh (λe=>g (f e)) d (g x):=by
 funext e;unfold eh
 split<;>rfl
def xx {s:ag} {R:Rw} {F:Nat->Bool} {d:Int} {x:Bool×Bool} (h0:0<=d) (h1:d<31):iE (.aj s.length) (.int d) (fY x) (bX s R F)=some (bX s (eh R d.toNat x) F):=by
 have e:uB (eh R d.toNat x)=.lst (((ß 31).map λd=>fY (R d)).set d.toNat (fY x)):=by
  rw[IH];show Cell.lst ((ß 31).map λe=>fY (eh R d.toNat x e))=_;rw[Hy (g:=fY)]
 rw[show bX s (eh R d.toNat x) F=s++[uB (eh R d.toNat x),fj F] from rfl,e];simp only[iE,C8,Ä,ľ,xJ h0 h1];simp[bX,Ų]
def Rf {s:ag} {R:Rw} {F:Nat->Bool} {d:Int} {x:Bool} (h0:0<=d) (h1:d<32):iE (.aj (s.length+1)) (.int d) (.bl x) (bX s R F)=some (bX s R (eh F d.toNat x)):=by
 have e:fj (eh F d.toNat x)=.lst (((ß 32).map λd=>D.bl (F d)).set d.toNat (.bl x)):=by
  rw[IH];show Cell.lst ((ß 32).map λe=>D.bl (eh F d.toNat x e))=_;rw[Hy (g:=D.bl)]
 rw[show bX s R (eh F d.toNat x)=s++[uB R,fj (eh F d.toNat x)] from rfl,e];simp only[iE,K9,Ä,ľ,xJ h0 h1];simp[bX,Ų]
def xy (p:Bool->Bool) (h:∀b,t (some (.bl b)::caps) s=ok (p b) s):eZ 1 caps (gN 0) t (aa 0) ((jw x).map D.bl) s=ok ((jw (x.1&&p false,x.2&&p true)).map D.bl) s:=by
 rw[comp_map D.bl p D.bl (jw x) λb _=>⟨some (.bl b)::caps,rfl,h b,λ_=>rfl⟩,NG]
def xf (x:Bool×Bool):((jw x).map D.bl).length<=Õ:=by
 refine ib ?_;obtain⟨f,t⟩:=x
 cases f<;>cases t<;>simp[jw]
def gQ (m k:Int) (x:Rw×(Nat->Bool)) (p:Pg):Rw×(Nat->Bool):=match p with
 | .aQ m' d k'=>if (decide (m'=m)&&decide (k'=k))=true then (eh x.1 d.toNat ((x.1 d.toNat).1,false),eh x.2 d.toNat true) else x
 | .made m' d h l=>if (decide (m'=m)&&decide (k∈h++l))=true then (eh x.1 d.toNat ((x.1 d.toNat).1&&!decide (k∈h),(x.1 d.toNat).2&&decide (k∈h)),x.2) else x
def Rg (hd:0<=p.day/\p.day<31) (hf:j3 p)
 (q:Q (.nx [some (bD ps),some (.int m),some (.int k),some (.aj s.length),some (.aj (s.length+1)),some p.d,a6,a7,a8]) (bX s (gQ m k (R,F) p).1 (gQ m k (R,F) p).2)) :
  Wp ((ay (cj (cK (aH (e2 aV (e2 ak (aa 5) (eC (.int 0))) (eC (.str "mended")))) (cK (aH (e2 aV (e2 ak (aa 5) (eC (.int 1))) (aa 1))) (aH (e2 aV (e2 ak (aa 5) (eC (.int 3))) (aa 2))))) (ay (il (aW 1 [] (bq (e2 ak (aa 3) (e2 ak (aa 5) (eC (.int 2))))) (gN 0) (fk (cN (aa 0))) (aa 0)) (aa 3) (e2 ak (aa 5) (eC (.int 2)))) (il (eC (.bl true)) (aa 4) (e2 ak (aa 5) (eC (.int 2))))) cb) (cj (cK (aH (e2 aV (e2 ak (aa 5) (eC (.int 0))) (eC (.str "made")))) (cK (aH (e2 aV (e2 ak (aa 5) (eC (.int 1))) (aa 1))) (aH (e2 cy (aa 2) (e2 bR (e2 ak (e2 ak (aa 5) (eC (.int 3))) (eC (.int 0))) (e2 ak (e2 ak (aa 5) (eC (.int 3))) (eC (.int 1)))))))) (il (aW 1 [2,5] (bq (e2 ak (aa 3) (e2 ak (aa 5) (eC (.int 2))))) (gN 0) (aH (e2 aV (aa 0) (e2 cy (aa 1) (e2 ak (e2 ak (aa 2) (eC (.int 3))) (eC (.int 0)))))) (aa 0)) (aa 3) (e2 ak (aa 5) (eC (.int 2)))) cb)) [some (bD ps),some (.int m),some (.int k),some (.aj s.length),some (.aj (s.length+1)),some p.d,a6,a7,a8] (bX s R F)) Q:=by
 have row:∀{R:Rw} {F:Nat->Bool},bq (e2 ak (aa 3) (e2 ak (aa 5) (eC (.int 2)))) [some (bD ps),some (.int m),some (.int k),some (.aj s.length),some (.aj (s.length+1)),some p.d,a6,a7,a8] (bX s R F)=ok ((jw (R p.day.toNat)).map D.bl) (bX s R F):=λ{R F}=>by
  refine iw (Wp.eq ?_);simp only[VC,(qx p _).2];exact Wp.of (tY hd.1 hd.2) ⟨rfl,rfl⟩
 cases p with
 |aQ m' d k' =>
  have t1:cK (aH (e2 aV (e2 ak (aa 5) (eC (.int 0))) (eC (.str "mended")))) (cK (aH (e2 aV (e2 ak (aa 5) (eC (.int 1))) (aa 1))) (aH (e2 aV (e2 ak (aa 5) (eC (.int 3))) (aa 2)))) [some (bD ps),some (.int m),some (.int k),some (.aj s.length),some (.aj (s.length+1)),some (Pg.aQ m' d k').d,a6,a7,a8] (bX s R F)=ok (decide (m'=m)&&decide (k'=k)) (bX s R F):=by
   refine Wp.eq ?_;simp only[VC,Pg.d,(fv _ _ _ _ _).1,(fv _ _ _ _ _).2.1,(fv _ _ _ _ _).2.2.2,jG,ę,û];by_cases e:m'=m
   ·by_cases e2:k'=k<;>simp[e,e2]
   ·simp[e]
  have t2:∀st,cK (aH (e2 aV (e2 ak (aa 5) (eC (.int 0))) (eC (.str "made")))) (cK (aH (e2 aV (e2 ak (aa 5) (eC (.int 1))) (aa 1))) (aH (e2 cy (aa 2) (e2 bR (e2 ak (e2 ak (aa 5) (eC (.int 3))) (eC (.int 0))) (e2 ak (e2 ak (aa 5) (eC (.int 3))) (eC (.int 1))))))) [some (bD ps),some (.int m),some (.int k),some (.aj s.length),some (.aj (s.length+1)),some (Pg.aQ m' d k').d,a6,a7,a8] st=ok false st:=λst=>by
   refine Wp.eq ?_;simp only[VC,Pg.d,(fv _ _ _ _ _).1,jG,ñ tM,Ã,ê,ğ]
  have fin:∀st,Q (.nx [some (bD ps),some (.int m),some (.int k),some (.aj s.length),some (.aj (s.length+1)),some (Pg.aQ m' d k').d,a6,a7,a8]) st->Wp (cj (cK (aH (e2 aV (e2 ak (aa 5) (eC (.int 0))) (eC (.str "made")))) (cK (aH (e2 aV (e2 ak (aa 5) (eC (.int 1))) (aa 1))) (aH (e2 cy (aa 2) (e2 bR (e2 ak (e2 ak (aa 5) (eC (.int 3))) (eC (.int 0))) (e2 ak (e2 ak (aa 5) (eC (.int 3))) (eC (.int 1)))))))) (il (aW 1 [2,5] (bq (e2 ak (aa 3) (e2 ak (aa 5) (eC (.int 2))))) (gN 0) (aH (e2 aV (aa 0) (e2 cy (aa 1) (e2 ak (e2 ak (aa 2) (eC (.int 3))) (eC (.int 0)))))) (aa 0)) (aa 3) (e2 ak (aa 5) (eC (.int 2)))) cb [some (bD ps),some (.int m),some (.int k),some (.aj s.length),some (.aj (s.length+1)),some (Pg.aQ m' d k').d,a6,a7,a8] st) Q:=λst q=>by
   rw[wp_sIf];refine Wp.of (t2 st) ?_;rw[æ Ë,wp_sNil];exact q
  rw[wp_sSeq,wp_sIf];refine Wp.of t1 ?_;unfold gQ at q
  cases hc:(decide (m'=m)&&decide (k'=k)) with
  |false =>
   simp only[hc,Ã,ê] at q;rw[æ Ë,wp_sNil,aft_nx];exact fin _ q
  |true =>
   simp only[hc,û] at q;rw[Ú rfl,wp_sSeq,wp_sSub,wp_comp];refine Wp.of row ⟨xf _,?_⟩;refine Wp.of (xy (λb=>!b) λb=>rfl) ?_;simp only[wp_loc0,wp_locS,wp_e2,wp_C,(qx (Pg.aQ m' d k') _).2,wp_ok];refine⟨_,xx hd.1 hd.2,?_⟩;rw[aft_nx,wp_sSub];simp only[wp_loc0,wp_locS,wp_e2,wp_C,(qx (Pg.aQ m' d k') _).2,wp_ok];refine⟨_,Rf hd.1 (by have:=hd.2;omega),?_⟩;rw[aft_nx];refine fin _ ?_;simpa [TK.Pg.day] using q
 |made m' d h l =>
  have t1:∀st,cK (aH (e2 aV (e2 ak (aa 5) (eC (.int 0))) (eC (.str "mended")))) (cK (aH (e2 aV (e2 ak (aa 5) (eC (.int 1))) (aa 1))) (aH (e2 aV (e2 ak (aa 5) (eC (.int 3))) (aa 2)))) [some (bD ps),some (.int m),some (.int k),some (.aj s.length),some (.aj (s.length+1)),some (Pg.made m' d h l).d,a6,a7,a8] st=ok false st:=λst=>by
   refine Wp.eq ?_;simp only[VC,Pg.d,(fv _ _ _ _ _).1,jG,ñ Iv,Ã,ê,ğ]
  have t2:cK (aH (e2 aV (e2 ak (aa 5) (eC (.int 0))) (eC (.str "made")))) (cK (aH (e2 aV (e2 ak (aa 5) (eC (.int 1))) (aa 1))) (aH (e2 cy (aa 2) (e2 bR (e2 ak (e2 ak (aa 5) (eC (.int 3))) (eC (.int 0))) (e2 ak (e2 ak (aa 5) (eC (.int 3))) (eC (.int 1))))))) [some (bD ps),some (.int m),some (.int k),some (.aj s.length),some (.aj (s.length+1)),some (Pg.made m' d h l).d,a6,a7,a8] (bX s R F)=ok (decide (m'=m)&&decide (k∈h++l)) (bX s R F):=by
   refine Wp.eq ?_;simp only[VC,Pg.d,(fv _ _ _ _ _).1,(fv _ _ _ _ _).2.1,(fv _ _ _ _ _).2.2.2,jG,ę,û];by_cases e:m'=m
   ·simp only[VC,e,Ġ,û,(qw _ _ _).1,(qw _ _ _).2,ę,í]
    refine Wp.of (fP (a:=h) (b:=l) (by have:=hf.1;have:=hf.2;omega)) ?_;refine Wp.of (oV (ns:=h++l)) ?_;simp only[VC,ğ]
   ·simp[e]
  rw[wp_sSeq,wp_sIf];refine Wp.of (t1 _) ?_;rw[æ Ë,wp_sNil,aft_nx,wp_sIf];refine Wp.of t2 ?_;unfold gQ at q
  cases hc:(decide (m'=m)&&decide (k∈h++l)) with
  |false =>
   simp only[hc,Ã,ê] at q;rw[æ Ë,wp_sNil];exact q
  |true =>
   simp only[hc,û] at q;rw[Ú rfl,wp_sSub,wp_comp];refine Wp.of row ⟨xf _,?_⟩;refine Wp.of (xy (caps:=[some (.int k),some (Pg.made m' d h l).d]) (λb=>b==decide (k∈h)) λb=>?_) ?_
   ·refine Wp.eq ?_
    simp only[VC,Pg.d,(fv _ _ _ _ _).2.2.2,(qw _ _ _).1];refine Wp.of (oV (ns:=h)) ?_;refine Wp.of (show aV (.bl b) (.bl (decide (k∈h))) (bX s R F)=ok (.bl (b==decide (k∈h))) (bX s R F) from rfl) ?_;simp only[VC,ğ]
   ·simp only[wp_loc0,wp_locS,wp_e2,wp_C,(qx (Pg.made m' d h l) _).2,wp_ok]
    refine⟨_,xx hd.1 hd.2,?_⟩
    have e1:(false==decide (k∈h))=!decide (k∈h):=by cases decide (k∈h)<;>rfl
    have e2:(true==decide (k∈h))=decide (k∈h):=by cases decide (k∈h)<;>rfl
    rw[e1,e2];exact q
abbrev iR (L:Nat->List Int) (n:Nat):List D:=(ß n).map λx=>lI (L x)
section
variable {W:ď} {k j b n:Nat} {s0 s:ag} {M L:Nat->List Int} {R T:Pg->Prop}
def Oy (h:BJ W k j b n s0 s M R T) (hL:s[b+8]?=some (.lst (iR L i))) (hi:i<8) (hj:j≠k) (hb:∀i,i<8->b+i≠k) (lr:b+8≠k) (qC:b+8≠j) (Zc:s0.length<=b)
 (g:∀(ds:List Int) (c:Bool) s',Lf (M i) c 31 ds->BJ W k j b n s0 s' M R T->s'[b+8]?=some (.lst (iR (λx=>if x=i then ds else L x) (i+1)))->Q (.nx [some (.aj k),some (.aj j),some (.int mo),some (.int of),some (.int mu),some (memD b),some (.aj (b+8)),a7,some (.int i),a9,sL,sM]) s') :
  Wp ((fK (ik (aa 6) (ax qM (ae (aa 0) (ae (e2 ak (aa 5) (aa 8)) ah))))) [some (.aj k),some (.aj j),some (.int mo),some (.int of),some (.int mu),some (memD b),some (.aj (b+8)),a7,some (.int i),a9,sL,sM] s) Q:=by
 simp only[VC];refine⟨by simp only[i6,hL],?_⟩;refine Wp.of (JK (i:=(i:Int)) (by omega) (by omega)) ?_;rw[õ];refine(PM h.st (h.aQ i hi) (hb i hi)).mono λd t1 hd=>?_;obtain⟨ds,c,rfl,lf,h1,e1⟩:=hd;have B1:=h.draw hj hb e1 h1;have yU:t1[b+8]?=some (.lst (iR L i)):=(e1.val _ (Å.mp hL).1 lr).trans hL
 have ap:i5 (.aj (b+8)) (lI ds) t1=ok .au (t1.set (b+8) (.lst (iR (λx=>if x=i then ds else L x) (i+1)))):=by
  unfold i5;simp only[yU];rw[Ú (by rw[È,Ä,ľ];exact Ê (show i<1000 by omega) (le_size (by decide)))];congr 4;unfold iR;rw[ſ,č];congr 1
  ·refine aaP λx hx=>?_
   rw[Ā] at hx
   show lI (L x)=lI (if x=i then ds else L x)
   rw[æ (by omega)]
  ·simp
 refine Wp.of ap (g ds c _ lf ⟨B1.st.set lr _,B1.dict.set qC _,λi hi=>(Ø (by omega)).trans (B1.aQ i hi),B1.ext.qy (by omega) _⟩ (ã (Å.mp yU).1))
def Oz (h:BJ W k j b n s0 s M R T) (hL:s[b+8]?=some (.lst (iR L 8))) (hj:j≠k) (hb:∀i,i<8->b+i≠k) (lr:b+8≠k) (lq:∀i,i<8->b+i≠j) (qC:b+8≠j) (hl:s0.length<=j) (hn:n<1000) (o1:0<of) (o2:of<=3) (zr:0<=mu/\mu<4)
 (hR:∀(d:Int) (u v:List Int),dX (.made mu d u v)=true->(∀x∈u,d∈L x.toNat)->(∀x∈v,d∉L x.toNat)->R (.made mu d u v))
 (g:∀(b9 gg gj:Option D) (s':ag),BJ W k j b (n+1) s0 s' M R T->s'[b+8]?=some (.lst (iR L 8))->Q (.nx [some (.aj k),some (.aj j),some (.int mo),some (.int of),some (.int mu),a5,some (.aj (b+8)),a7,a8,b9,gg,gj]) s') :
  Wp ((ay (aL (ax bJ (ae (aa 0) (ae (eC (.int 31)) ah))) (gN 9)) (ay (aL (aW 1 [0,3] (bS (ae (eC (.int 8)) ah)) (gN 0) (aH (e2 aV (ax bJ (ae (aa 1) (ae (aa 2) ah))) (eC (.int 0)))) (aa 0)) (gN 10)) (ay (aL (eB cF (ae (aW 1 [9,6] (bq (aa 10)) (gN 0) (aH (e2 cy (aa 1) (e2 ak (aa 2) (aa 0)))) (aa 0)) ah)) (gN 11)) (TK.mE W (eC (.bl true)) (aa 1) (aZ (ae (eC (.str "made")) (ae (aa 4) (ae (aa 9) (ae (aZ (ae (aa 11) (ae (eB cF (ae (aW 1 [9,6] (bq (aa 10)) (gN 0) (aH (e2 fJ (aa 1) (e2 ak (aa 2) (aa 0)))) (aa 0)) ah)) ah))) ah))))))))) [some (.aj k),some (.aj j),some (.int mo),some (.int of),some (.int mu),a5,some (.aj (b+8)),a7,a8,a9,sL,sM] s) Q:=by
 rw[wp_sSeq];simp only[VC];refine(dN h.st (by decide) (by decide)).mono λd t1 qz=>?_;obtain⟨x1,rfl,sI,sJ,h1,e1⟩:=qz;have B1:=h.draw hj hb e1 h1;have L1:t1[b+8]?=some (.lst (iR L 8)):=(e1.val _ (Å.mp hL).1 lr).trans hL
 try simp only[VC]
 refine Wp.of (eI (n:=8) rfl (by decide)) ⟨by rw[cq];exact le_size (by decide),?_⟩;have seen:Wp (eZ 1 (fV [0,3] [some (.aj k),some (.aj j),some (.int mo),some (.int of),some (.int mu),a5,some (.aj (b+8)),a7,a8,some (.int x1),sL,sM]) (gN 0) (aH (e2 aV (ax bJ (ae (aa 1) (ae (aa 2) ah))) (eC (.int 0)))) (aa 0) (bP 0 8) t1)
   λxs s'=>∃ns:List Int,xs=ns.map D.int/\(∀x∈ns,0<=x/\x<8)/\(ns.Pairwise (· < ·)/\ns.length<=8)/\BJ W k j b n s0 s' M R T/\s'[b+8]?=some (.lst (iR L 8)):=by
  refine mr (λi acc s'=>i<=8->∃ns:List Int,acc=ns.map D.int/\(∀x∈ns,0<=x/\x<8/\x<i)/\(ns.Pairwise (· < ·)/\ns.length<=i)/\BJ W k j b n s0 s' M R T/\s'[b+8]?=some (.lst (iR L 8))) (bP 0 8) (λ_=>⟨[],rfl,by simp,⟨.nil,Nat.le_refl _⟩,B1,L1⟩) (λi d acc s' hd hI=>?_) λacc s' hI=>?_
  ·rw[gG] at hd
   split at hd
   ·rename_i hi
    cases hd;obtain⟨ns,rfl,m1,⟨zt,m2⟩,B,L'⟩:=hI (by omega);refine⟨[some (.int (0+i)),some (.aj k),some (.int of)],rfl,?_⟩;simp only[VC];refine(dN B.st o1 (by omega)).mono λd t2 hd2=>?_;obtain⟨x2,rfl,_,_,h2,e2⟩:=hd2
    try simp only[VC]
    have B':=B.draw hj hb e2 h2;have L2:t2[b+8]?=some (.lst (iR L 8)):=(e2.val _ (Å.mp L').1 lr).trans L';split
    ·exact λ_=>⟨ns++[0+(i:Int)],by simp,λx hx=>by
      rcases Ù.mp hx with hx|hx
      ·have:=m1 x hx;omega
      ·rw[Ü.mp hx];omega,⟨aay.mpr ⟨zt,aa3 _ _,λa ha b hb=>by rw[Ü.mp hb];have:=m1 a ha;omega⟩,by simp;omega⟩,B',L2⟩
    ·exact λ_=>⟨ns,rfl,λx hx=>by have:=m1 x hx;omega,⟨zt,by omega⟩,B',L2⟩
   ·cases hd
  ·rw[cq] at hI
   obtain⟨ns,e,m1,r⟩:=hI (Nat.le_refl _);exact⟨ns,e,λx hx=>⟨(m1 x hx).1,(m1 x hx).2.1⟩,r⟩
 refine seen.mono λxs t2 hx=>?_;obtain⟨ns,rfl,m1,⟨zt,m2⟩,B2,le⟩:=hx;have mk:dG 8 ns:=⟨m1,zt⟩
 try simp only[VC]
 have Mb:∀x∈ns,ak (.aj (b+8)) (.int x) t2=ok (lI (L x.toNat)) t2:=λx hx=>by
  have:=m1 x hx;simp only[ak,gZ,res,le,iR,xw (n:=8) this.1 (by omega),bB]
 refine Wp.of (iw (ds:=ns.map D.int) rfl) ⟨ib (by rw[Ä];omega),?_⟩;refine Wp.of (hZ (λx=>decide (x1∈L x.toNat)) (λx=>.int x) ns λx hx=>⟨[some (.int x),some (.int x1),some (.aj (b+8))],rfl,?_,λ_=>rfl⟩) ?_
 ·refine Wp.eq ?_
  simp only[VC];refine Wp.of (Mb x hx) ?_;simp only[VC,rN,ğ]
 refine Wp.of (show cF [.lst ((ns.filter λx=>decide (x1∈L x.toNat)).map λx=>.int x)] t2=ok (mD (ns.filter λx=>decide (x1∈L x.toNat))) t2 from rfl) ?_;rw[Iy];simp only[VC];refine Wp.of (iw (ds:=ns.map D.int) rfl) ⟨ib (by rw[Ä];omega),?_⟩;refine Wp.of (hZ (λx=>!decide (x1∈L x.toNat)) (λx=>.int x) ns λx hx=>⟨[some (.int x),some (.int x1),some (.aj (b+8))],rfl,?_,λ_=>rfl⟩) ?_
 ·refine Wp.eq ?_
  simp only[VC];refine Wp.of (Mb x hx) ?_;simp only[VC,oR,ğ]
 refine Wp.of (show cF [.lst ((ns.filter λx=>!decide (x1∈L x.toNat)).map λx=>.int x)] t2=ok (mD (ns.filter λx=>!decide (x1∈L x.toNat))) t2 from rfl) ?_;refine⟨by decide,by decide,?_⟩;obtain⟨s',e,B4,e4⟩:=B2.put hj lq hl (p:=.made mu x1 (ns.filter λx=>decide (x1∈L x.toNat)) (ns.filter λx=>!decide (x1∈L x.toNat))) (hR x1 _ _ (PL zr ⟨sI,sJ⟩ (mk.filter _) (mk.filter _) (Nat.le_refl _) λx hx hl=>by simpa [(ć.mp hx).2] using (ć.mp hl).2) (λx hx=>by simpa using (ć.mp hx).2) (λx hx=>by simpa using (ć.mp hx).2)) hn;exact⟨s',e,g _ _ _ _ ⟨B4.st,B4.dict.mono (λ_ h=>h) (λ_ h=>.inl h),B4.aQ,B4.ext⟩ ((e4.val _ (Å.mp le).1 qC).trans le)⟩
end
def zu (mu:Int) (M:Nat->List Int) (p:Pg):Prop:=dX p=true/\∃(d:Int) (x:Nat),x<8/\p=.aQ mu d x/\d∈M x
def Zk (mu:Int) (M L:Nat->List Int):Pg->Prop
 | .aQ m d k=>m=mu/\d∈M k.toNat
 | .made m d u v=>m=mu/\(∀x∈u,d∈L x.toNat)/\∀x∈v,d∉L x.toNat
def Ag (mu:Int) (M L:Nat->List Int) (p:Pg):Prop:=dX p=true/\Zk mu M L p
def NH (h:bp s k) (hd:eR W R0 T0 s j n) (x0:Ex k s0 s) (hj:j≠k) (hl:s0.length<=j) (hn:n<900) (o1:0<of) (o2:of<=3) (zr:0<=mu/\mu<4)
 (g:∀(b5 b6 b7 b8 b9 gg gj:Option D) (s':ag) (M L:Nat->List Int),(∀x,x<8->∃c,Lf (M x) c 31 (L x))->bp s' k->eR W (λp=>R0 p\/Ag mu M L p) (λq=>T0 q\/∃(x:Nat) (d:Int),x<8/\d∈M x/\q=.aQ mu d x) s' j (n+7)->Ex k s0 s'->Q (.nx [some (.aj k),some (.aj j),some (.int mo),some (.int of),some (.int mu),b5,b6,b7,b8,b9,gg,gj]) s') :
  Wp ((ay (aL (aZ (ae (aW 1 [] (bS (ae (eC (.int 8)) ah)) (gN 0) bT (eNew ah)) (ae (eNew ah) ah))) (gT [(gN 5),(gN 6)])) (ay (fb (bS (ae (ax bJ (ae (aa 0) (ae (eC (.int 4)) ah))) ah)) (gN 7) (ay (aL (aZ (ae (ax bJ (ae (aa 0) (ae (eC (.int 8)) ah))) (ae (ax bJ (ae (aa 0) (ae (eC (.int 31)) ah))) ah))) (gT [(gN 8),(gN 9)])) (ay (fK (ik (e2 ak (aa 5) (aa 8)) (aa 9))) (TK.mE W (eC (.bl true)) (aa 1) (aZ (ae (eC (.str "mended")) (ae (aa 4) (ae (aa 9) (ae (aa 8) ah))))))))) (ay (fb (bS (ae (eC (.int 8)) ah)) (gN 8) (fK (ik (aa 6) (ax qM (ae (aa 0) (ae (e2 ak (aa 5) (aa 8)) ah)))))) (fb (bS (ae (ax bJ (ae (aa 0) (ae (eC (.int 5)) ah))) ah)) (gN 7) (ay (aL (ax bJ (ae (aa 0) (ae (eC (.int 31)) ah))) (gN 9)) (ay (aL (aW 1 [0,3] (bS (ae (eC (.int 8)) ah)) (gN 0) (aH (e2 aV (ax bJ (ae (aa 1) (ae (aa 2) ah))) (eC (.int 0)))) (aa 0)) (gN 10)) (ay (aL (eB cF (ae (aW 1 [9,6] (bq (aa 10)) (gN 0) (aH (e2 cy (aa 1) (e2 ak (aa 2) (aa 0)))) (aa 0)) ah)) (gN 11)) (TK.mE W (eC (.bl true)) (aa 1) (aZ (ae (eC (.str "made")) (ae (aa 4) (ae (aa 9) (ae (aZ (ae (aa 11) (ae (eB cF (ae (aW 1 [9,6] (bq (aa 10)) (gN 0) (aH (e2 fJ (aa 1) (e2 ak (aa 2) (aa 0)))) (aa 0)) ah)) ah))) ah))))))))))))) [some (.aj k),some (.aj j),some (.int mo),some (.int of),some (.int mu),a5,a6,a7,a8,a9,sL,sM] s) Q:=by
 have hk:=h.lt;have sG:=hd.lt;have vJ:s0.length<=s.length:=x0.len;rw[wp_sSeq];simp only[wp_sAsg,wp_tup,wp_aCons,wp_aNil];refine SX ?_;simp only[wp_new,wp_aNil];refine⟨by decide,le_size (by simp only[å,î];decide),?_⟩;simp only[asg_T,asg_cons,asg_nil,ï,ð,aft_nx];generalize fT:s++Ï 8 (Cell.lst [])++[Cell.lst []]=s1;have Zl:(s++Ï 8 (Cell.lst [])).length=s.length+8:=by simp
 rw[Zl];have e1:Ex k s s1:=by rw[<- fT,ķ];exact Ex.app k s _
 have B1:BJ W k j s.length n s0 s1 (λ_=>[]) R0 T0:=by
  refine⟨by rw[<- fT,ķ];exact h.app _,hd.ex e1 hj,λi hi=>?_,x0.trans e1⟩;rw[<- fT,ķ,ü (by omega),ä (by simp;omega),show s.length+i-s.length=i by omega,ĭ,Ú hi];rfl
 have L1:s1[s.length+8]?=some (.lst []):=by rw[<- fT,ü (by simp)];simp
 have hb:∀i,i<8->s.length+i≠k:=λi _=>by omega
 have lq:∀i,i<8->s.length+i≠j:=λi _=>by omega
 have lr:s.length+8≠k:=by omega
 have qC:s.length+8≠j:=by omega
 rw[wp_sSeq,wp_sFor];obtain⟨_,t1,et,x1,rfl,sI,sJ,h1,Mc⟩:=dN (m:=4) B1.st (by decide) (by decide);refine Wp.of (xq (s1:=t1) (n:=x1.toNat) (i:=x1) (Wp.eq (by simp only[VC];exact Wp.of et ⟨rfl,rfl⟩)) (by omega) (by omega)) ?_;have B2:=B1.draw hj hb Mc h1;have L2:t1[s.length+8]?=some (.lst []):=(Mc.val _ (Å.mp L1).1 lr).trans L1;have Zm:BJ W k j s.length n s0 t1 (λ_=>[]) (λp=>R0 p\/zu mu (λ_=>[]) p) (λq=>T0 q\/∃(x:Nat) (d:Int),x<8/\d∈(λ_=>([]:List Int)) x/\q=.aQ mu d x) :=
  ⟨B2.st,B2.dict.mono (λ_ h=>.inl h) (λq hq=>by rcases hq with hq | ⟨x,d,_,hd,_⟩;exact hq;exact(ĕ hd).elim),B2.aQ,B2.ext⟩
 refine Wp.i7 (λi env s'=>i<=x1.toNat->∃b7 b8 b9 gg gj M,env=[some (.aj k),some (.aj j),some (.int mo),some (.int of),some (.int mu),some (memD s.length),some (.aj (s.length+8)),b7,b8,b9,gg,gj]/\(∀x,x<8->(M x).length<=i)/\BJ W k j s.length (n+i) s0 s' M (λp=>R0 p\/zu mu M p) (λq=>T0 q\/∃(x:Nat) (d:Int),x<8/\d∈M x/\q=.aQ mu d x)/\s'[s.length+8]?=some (.lst [])) _ (λ_=>⟨_,_,_,_,_,_,rfl,λ_ _=>Nat.le_refl _,Zm,L2⟩) (λi d env s' hd hI=>?_) (λenv s' hI=>?_)
 ·rw[gG] at hd
  split at hd
  ·cases hd
   obtain⟨b7,b8,b9,gg,gj,M,rfl,ml,B,L⟩:=hI (by omega);refine⟨_,rfl,?_⟩
   refine Ow B hj hb lq hl vJ (by omega) (λx hx=>by have:=ml x hx;omega) λx d c8 c9 s2 hx hd B' keep=>(λ_=>⟨_,_,_,_,_,λi=>if i=x then M i++[d] else M i,rfl,λy hy=>?_,?_,(keep _ (Å.mp L).1 lr qC λi hi=>by omega).trans L⟩)
   ·have:=ml y hy
    show (if y=x then M y++[d] else M y).length<=i+1
    split
    ·rw[â,aby];omega
    ·omega
   ·have sub:∀y e,e∈M y->e∈(if y=x then M y++[d] else M y):=λy e he=>by
     split
     ·exact Ù.mpr (.inl he)
     ·exact he
    have zw:=B' (R':=λp=>R0 p\/zu mu (λi=>if i=x then M i++[d] else M i) p) (λp hp=>by
     rcases hp with hp | ⟨h1,e,y,h2,h3,h4⟩
     ·exact .inl hp
     ·exact .inr ⟨h1,e,y,h2,h3,sub y e h4⟩) (.inr ⟨PJ zr hd (by omega),d,x,hx,rfl,by show d∈(if x=x then M x++[d] else M x);rw[Ú rfl];simp⟩)
    exact⟨zw.st,zw.dict.mono (λ_ h=>h) (λq hq=>by
     rcases hq with hq | ⟨y,e,h1,h2,h3⟩
     ·exact .inl (.inl hq)
     ·have h5:e∈(if y=x then M y++[d] else M y):=h2
      by_cases qq:y=x
      ·rw[Ú qq] at h5
       rcases Ù.mp h5 with h6|h6
       ·exact .inl (.inr ⟨y,e,h1,h6,h3⟩)
       ·rw[Ü.mp h6,qq] at h3
        exact .inr h3
      ·rw[æ qq] at h5
       exact .inl (.inr ⟨y,e,h1,h5,h3⟩)),zw.aQ,zw.ext⟩
  ·cases hd
 rw[cq] at hI;obtain⟨b7,b8,b9,gg,gj,M,rfl,ml,B3,L3⟩:=hI (Nat.le_refl _);rw[aft_nx,wp_sSeq,wp_sFor];refine Wp.of (eI (n:=8) rfl (by decide)) ?_;refine Wp.i7 (λi env s'=>i<=8->∃b7 b8 b9 gg gj L,env=[some (.aj k),some (.aj j),some (.int mo),some (.int of),some (.int mu),some (memD s.length),some (.aj (s.length+8)),b7,b8,b9,gg,gj]/\(∀x,x<i->∃c,Lf (M x) c 31 (L x))/\BJ W k j s.length (n+x1.toNat) s0 s' M (λp=>R0 p\/zu mu M p) (λq=>T0 q\/∃(x:Nat) (d:Int),x<8/\d∈M x/\q=.aQ mu d x)/\s'[s.length+8]?=some (.lst (iR L i))) _ (λ_=>⟨_,_,_,_,_,λ_=>[],rfl,λx hx=>(Nat.not_lt_zero x hx).elim,B3,L3⟩) (λi d env s' hd hI=>?_) (λenv s' hI=>?_)
 ·rw[gG] at hd
  split at hd
  ·rename_i hi
   cases hd;obtain⟨b7,b8,b9,gg,gj,L,rfl,lf,B,hL⟩:=hI (by omega);refine⟨_,rfl,?_⟩;simp only[aaV,ï,ð]
   refine Oy B hL hi hj hb lr qC vJ λds c s2 l2 B' L'=>(λ_=>⟨_,_,_,_,_,λx=>if x=i then ds else L x,rfl,λx hx=>?_,B',L'⟩)
   by_cases Md:x=i
   ·subst Md
    exact⟨c,by show Lf (M x) c 31 (if x=x then ds else L x);rw[Ú rfl];exact l2⟩
   ·obtain⟨c,l⟩:=lf x (by omega)
    exact⟨c,by show Lf (M x) c 31 (if x=i then ds else L x);rw[æ Md];exact l⟩
  ·cases hd
 rw[cq] at hI;obtain⟨b7,b8,b9,gg,gj,L,rfl,lf,zx,L4⟩:=hI (Nat.le_refl _);have B4:BJ W k j s.length (n+x1.toNat) s0 s' M (λp=>R0 p\/Ag mu M L p) (λq=>T0 q\/∃(x:Nat) (d:Int),x<8/\d∈M x/\q=.aQ mu d x):=⟨zx.st,zx.dict.mono (λp hp=>by
  rcases hp with hp | ⟨h1,e,y,h2,rfl,h4⟩
  ·exact .inl hp
  ·exact .inr ⟨h1,rfl,by rw[õ];exact h4⟩) (λ_ h=>h),zx.aQ,zx.ext⟩
 rw[aft_nx,wp_sFor];obtain⟨_,t5,Zn,x5,rfl,x50,x51,h5,Me⟩:=dN (m:=5) B4.st (by decide) (by decide);refine Wp.of (xq (s1:=t5) (n:=x5.toNat) (i:=x5) (Wp.eq (by simp only[VC];exact Wp.of Zn ⟨rfl,rfl⟩)) (by omega) (by omega)) ?_;have B5:=B4.draw hj hb Me h5;have L5:t5[s.length+8]?=some (.lst (iR L 8)):=(Me.val _ (Å.mp L4).1 lr).trans L4;refine Wp.i7 (λi env s'=>i<=x5.toNat->∃b7 b8 b9 gg gj,env=[some (.aj k),some (.aj j),some (.int mo),some (.int of),some (.int mu),some (memD s.length),some (.aj (s.length+8)),b7,b8,b9,gg,gj]/\BJ W k j s.length (n+x1.toNat+i) s0 s' M (λp=>R0 p\/Ag mu M L p) (λq=>T0 q\/∃(x:Nat) (d:Int),x<8/\d∈M x/\q=.aQ mu d x)/\s'[s.length+8]?=some (.lst (iR L 8))) _ (λ_=>⟨_,_,_,_,_,rfl,B5,L5⟩) (λi d env s' hd hI=>?_) (λenv s' hI=>?_)
 ·rw[gG] at hd
  split at hd
  ·rename_i hi
   cases hd;obtain⟨b7,b8,b9,gg,gj,rfl,B,hL⟩:=hI (by omega);refine⟨_,rfl,?_⟩;exact Oz B hL hj hb lr lq qC hl (by omega) o1 o2 zr (λd u v hp h1 h2=>.inr ⟨hp,rfl,h1,h2⟩) λc9 Zo Zp s2 B' L'=>(λ_=>⟨_,_,_,_,_,rfl,B',L'⟩)
  ·cases hd
 rw[cq] at hI;obtain⟨b7,b8,b9,gg,gj,rfl,B6,L6⟩:=hI (Nat.le_refl _);exact g _ _ _ _ _ _ _ _ M L lf B6.st (B6.dict.more (by omega)) B6.ext
def n6 (ps:List Pg) (m k:Int):Rw×(Nat->Bool):=ps.foldl (gQ m k) (λ_=>(true,true),λ_=>false)
def tZ:Pg->Prop
 | .made _ _ h l=>∀x∈h,x∉l
 | .aQ _ _ _=>True
def Av {x a:Int} {l:List Int}:decide (x∈a::l)=(decide (x=a)||decide (x∈l)):=by
 by_cases h:x=a<;>simp[h]
def Hz {m k:Int} {d:Nat}:∀(ps:List Pg) (x:Rw×(Nat->Bool)),(∀p∈ps,0<=p.day/\tZ p) ->
  ((ps.foldl (gQ m k) x).1 d).1=((x.1 d).1&&!sN ps m k d)/\((ps.foldl (gQ m k) x).1 d).2=((x.1 d).2&&(!mN ps m k d&&!lN ps m k d))/\(ps.foldl (gQ m k) x).2 d=(x.2 d||mN ps m k d)
 | [],x,_=>by simp[sN,mN,lN,shown,bU,cR]
 |p::ps,x,h=>by
  obtain⟨i1,i2,i3⟩:=Hz (d:=d) ps (gQ m k x p) λq hq=>h q (Ñ _ hq);obtain⟨hd,ha⟩:=h p Ò;rw[List.foldl_cons,i1,i2,i3];have key:((gQ m k x p).1 d).1=((x.1 d).1&&!(ka m k p&&decide ((d:Int)=p.day)))/\((gQ m k x p).1 d).2=((x.1 d).2&&(!(je m k p&&decide ((d:Int)=p.day))&&!(kc m k p&&decide ((d:Int)=p.day))))/\(gQ m k x p).2 d=(x.2 d||(je m k p&&decide ((d:Int)=p.day))):=by
   have ed:decide ((d:Int)=p.day)=decide (d=p.day.toNat):=by
    by_cases e:d=p.day.toNat
    ·rw[Ý e,Ý (by omega)]
    ·rw[ñ e,ñ (by omega)]
   rw[ed]
   cases p with
   |aQ m' d' k' =>
    simp only[gQ,ka,kc,je,TK.Pg.day,aaA,ś,Ř]
    cases (decide (m'=m)&&decide (k'=k)) with
    |false=>simp
    |true =>
     simp only[û,í,eh]
     by_cases e:d=d'.toNat<;>simp[e]
   |made m' d' h' l' =>
    simp only[gQ,ka,kc,je,TK.Pg.day,aaA,ś,í,Bool.or_false];by_cases em:m'=m
    ·simp only[em,ę,í]
     by_cases e:d=d'.toNat
     ·subst e
      simp only[ę,Ř];by_cases c1:k∈h'
      ·have c2:k∉l':=ha k c1
       simp[c1,c2,eh]
      ·by_cases c2:k∈l'<;>simp[c1,c2,eh]
     ·simp only[e,ab3,Bool.and_false,ś,Ř]
      by_cases c:k∈h'++l'<;>simp[c,eh,e]
    ·simp[em]
  obtain⟨k1,k2,k3⟩:=key;rw[k1,k2,k3];have e1:sN (p::ps) m k d=((ka m k p&&decide ((d:Int)=p.day))||sN ps m k d):=by
   unfold sN shown;rw[ņ]
   cases ka m k p with
   |false=>rw[æ Ë];rfl
   |true=>rw[Ú rfl,Ö,Av];rfl
  have e2:lN (p::ps) m k d=((kc m k p&&decide ((d:Int)=p.day))||lN ps m k d):=by
   unfold lN cR;rw[ņ]
   cases kc m k p with
   |false=>rw[æ Ë];rfl
   |true=>rw[Ú rfl,Ö,Av];rfl
  have e3:mN (p::ps) m k d=((je m k p&&decide ((d:Int)=p.day))||mN ps m k d):=by
   unfold mN bU;rw[ņ]
   cases je m k p with
   |false=>rw[æ Ë];rfl
   |true=>rw[Ú rfl,Ö,Av];rfl
  rw[e1,e2,e3];generalize (ka m k p&&decide ((d:Int)=p.day))=a;generalize (kc m k p&&decide ((d:Int)=p.day))=b;generalize (je m k p&&decide ((d:Int)=p.day))=c;refine⟨?_,?_,?_⟩
  ·cases a<;>cases sN ps m k d<;>cases (x.1 d).1<;>rfl
  ·cases b<;>cases c<;>cases lN ps m k d<;>cases mN ps m k d<;>cases (x.1 d).2<;>rfl
  ·cases c<;>cases mN ps m k d<;>cases x.2 d<;>rfl
def S0 (h:∀p∈ps,0<=p.day/\tZ p) (d:Nat):(n6 ps m k).1 d=(f0 (sN ps m k) d,t0 (lN ps m k) (mN ps m k) d)/\(n6 ps m k).2 d=mN ps m k d:=by
 obtain⟨h1,h2,h3⟩:=Hz (m:=m) (k:=k) (d:=d) ps (λ_=>(true,true),λ_=>false) h;refine⟨Prod.ext ?_ ?_,?_⟩
 ·show ((n6 ps m k).1 d).1=_;unfold n6 f0;rw[h1];simp
 ·show ((n6 ps m k).1 d).2=_;unfold n6 t0;rw[h2];simp
 ·unfold n6;rw[h3];simp
noncomputable abbrev ne2 (x:Bool×Bool):Bool:=x.1||x.2
def U4:gr (fY x) (.lst []) s=ok (.bl (ne2 x)) s:=by
 obtain⟨f,t⟩:=x
 cases f<;>cases t<;>rfl
def S6:AU [fY x,.bl b,.bl f] s=ok (.bl (!b&&(x.1||(f&&ne2 x)))) s:=by
 obtain⟨u,v⟩:=x
 cases u<;>cases v<;>cases b<;>cases f<;>rfl
def Rh:Ao [fY x,.bl b,.bl f] s=ok (.bl (x.2||(x.1&&(!b||f)))) s:=by
 obtain⟨u,v⟩:=x
 cases u<;>cases v<;>cases b<;>cases f<;>rfl
def U5:Ec (ae (eC (.int 29)) (ae (e1 jR (eC (.int 1))) (ae (e1 jR (eC (.int 1))) ah))) env s=ok ((ß 30).map λn:Nat=>D.int ((29-n:Nat):Int)) s:=by rfl
def sf (x:Bool×Bool):D:=.tup ((jw x).map D.bl)
def sg (ps:List Pg) (m k:Int):D:=.lst ((ß 31).map λd=>sf (bw (sN ps m k) (lN ps m k) (mN ps m k) d))
def Ku (s l m:Nat->Bool):bw s l m 30=fw s l m 30:=rfl
def II (s l m:Nat->Bool) (h:d<=29):bw s l m d=((fw s l m d).1&&((bw s l m (d+1)).2||(bw s l m (d+1)).1),(fw s l m d).2&&((bw s l m (d+1)).2||((bw s l m (d+1)).1&&m (d+1)))):=by
 unfold bw;rw[show 30-d=(29-d)+1 by omega,show 30-(d+1)=29-d by omega];simp only[sO];rw[show 29-(29-d)=d by omega,show 30-(29-d)=d+1 by omega]
def JM (hl:ps.length<=1000) (hp:∀p∈ps,(0<=p.day/\p.day<31)/\j3 p/\tZ p):Wp (rm [bD ps,.int m,.int k] s) λd s'=>d=sg ps m k/\∃c,s'=s++c:=by
 unfold rm;rw[wp_fn];refine⟨rfl,?_⟩;rw[wp_sSeq,wp_sAsg];unfold mv;simp only[bF];refine Wp.of (eI (n:=31) rfl (by decide)) ?_;rw[nk];refine⟨by rw[cq];exact le_size (by decide),?_⟩;rw[bF,uA];refine Wp.of (hZ (λ_=>true) (λ_=>fY (true,true)) ck λd hd=>⟨[some (.int d)],rfl,rfl,λ_=>rfl⟩) ?_;simp only[wp_ok,asg_N,filter_tt,Ö,İ,ċ,ģ,Ï,Nat.reduceSub,ï,ð,aft_nx];rw[wp_sSeq,wp_sAsg];simp only[bF];refine Wp.of (eI (n:=32) rfl (by decide)) ?_;rw[nk];refine⟨by rw[cq];exact le_size (by decide),?_⟩;rw[bF];have Zq:bP 0 32=((ß 32).map λi:Nat=>(i:Int)).map D.int:=by rw[xr,Ē];congr 1;funext i;simp
 rw[Zq];refine Wp.of (hZ (λ_=>true) (λ_=>.bl false) _ λd hd=>⟨[some (.int d)],rfl,rfl,λ_=>rfl⟩) ?_;simp only[wp_ok,asg_N,filter_tt,ï,ð,aft_nx];have es:s++[Cell.lst (ck.map λ_=>fY (true,true))]++[Cell.lst (((ß 32).map λi:Nat=>(i:Int)).map λ_=>D.bl false)]=bX s (λ_=>(true,true)) (λ_=>false):=by
  unfold ck;simp only[Ē,Ş,ķ,ċ,ģ]
 have el:(s++[Cell.lst (ck.map λ_=>fY (true,true))]).length=s.length+1:=by simp
 rw[es,el];rw[wp_sSeq,wp_sFor];refine Wp.of (iT (ds:=ps.map Pg.d) rfl) ?_;refine Wp.i7 (λi env s'=>∃a5 a6 a7 a8,env=[some (bD ps),some (.int m),some (.int k),some (.aj s.length),some (.aj (s.length+1)),a5,a6,a7,a8]/\s'=bX s ((ps.take i).foldl (gQ m k) (λ_=>(true,true),λ_=>false)).1 ((ps.take i).foldl (gQ m k) (λ_=>(true,true),λ_=>false)).2) _ ⟨_,_,_,_,rfl,rfl⟩ (λi d env s' hd hI=>?_) (λenv s' hI=>?_)
 ·obtain⟨a5,a6,a7,a8,rfl,rfl⟩:=hI
  rw[ç] at hd
  cases zy:ps[i]? with
  |none=>rw[zy] at hd;cases hd
  |some p =>
   rw[zy] at hd;cases hd;obtain⟨h1,h2,h3⟩:=hp p (œ zy);refine⟨_,rfl,?_⟩;refine Rg h1 h2 ⟨_,_,_,_,rfl,?_⟩;rw[List.take_add_one,zy];simp only[Option.toList_some,List.foldl_append,List.foldl_cons,List.foldl_nil]
 obtain⟨a5,a6,a7,a8,rfl,rfl⟩:=hI;rw[Ä,List.take_length];have h0:=S0 (ps:=ps) (m:=m) (k:=k) λp q=>⟨(hp p q).1.1,(hp p q).2.2⟩;unfold n6 at h0;generalize (ps.foldl (gQ m k) (λ_=>(true,true),λ_=>false))=x0 at h0;obtain⟨R,F⟩:=x0;have hR:∀d,R d=(f0 (sN ps m k) d,t0 (lN ps m k) (mN ps m k) d):=λd=>(h0 d).1;have hF:∀d,F d=mN ps m k d:=λd=>(h0 d).2;clear h0;rw[aft_nx,wp_sSeq,wp_sFor];refine Wp.of (JI (i:=1) (j:=31) rfl (by decide) (by decide) (by decide) (by decide)) ?_;rw[show ((31:Int)-1).toNat=30 from rfl]
 refine Wp.i7 (λi env s'=>i<=30->∃a5 a6 a7 a8 R,env=[some (bD ps),some (.int m),some (.int k),some (.aj s.length),some (.aj (s.length+1)),a5,a6,a7,a8]/\s'=bX s R F/\∀d,R d=if d<=i then fw (sN ps m k) (lN ps m k) (mN ps m k) d else (f0 (sN ps m k) d,t0 (lN ps m k) (mN ps m k) d)) _ (λ_=>⟨_,_,_,_,R,rfl,rfl,λd=>?_⟩) (λi d env s' hd hI=>?_) (λenv s' hI=>?_)
 ·split
  ·rw[show d=0 by omega,hR];rfl
  ·exact hR d
 ·rw[gG] at hd
  split at hd
  ·rename_i hi
   cases hd;obtain⟨a5,a6,a7,a8,R,rfl,rfl,hR⟩:=hI (by omega);refine⟨_,rfl,?_⟩;have ed:(1:Int)+(i:Int)=((i+1:Nat):Int):=by omega
   rw[ed];simp only[ï,ð];rw[wp_sSeq,wp_sAsg];simp only[wp_tup,wp_aCons,wp_aNil,wp_e2,wp_loc0,wp_locS,wp_C,wp_subI];rw[show (((i+1:Nat):Int)-1)=(i:Int) by omega];refine Wp.of (tY (by omega) (by omega)) (Wp.of (IG (by omega) (by omega)) ?_);refine⟨le_size (by simp only[å,î];decide),?_⟩;simp only[asg_T,asg_cons,asg_nil,ï,ð,aft_nx,õ];rw[wp_sSub,wp_comp];have row:bq (e2 ak (aa 3) (aa 6)) [some (bD ps),some (.int m),some (.int k),some (.aj s.length),some (.aj (s.length+1)),a5,some (.int ((i+1:Nat):Int)),some (fY (R i)),some (.bl (F (i+1)))] (bX s R F)=ok ((jw (R (i+1))).map D.bl) (bX s R F):=by
    refine iw (Wp.eq ?_);simp only[wp_e2,wp_loc0,wp_locS];exact Wp.of (tY (by omega) (by omega)) ⟨by rw[õ],rfl⟩
   refine Wp.of row ⟨xf _,?_⟩;refine Wp.of (xy (caps:=[some (fY (R i)),some (.bl (F (i+1)))]) (λb=>(b&&ne2 (R i))||(!b&&((R i).1||(F (i+1)&&ne2 (R i))))) λb=>?_) ?_
   ·refine Wp.eq ?_
    simp only[VC,U4,S6]
    cases b with
    |true=>cases ne2 (R i)<;>simp[wp_ok]
    |false=>simp[wp_ok]
   ·simp only[wp_loc0,wp_locS]
    refine⟨_,xx (by omega) (by omega),λ_=>⟨_,_,_,_,_,rfl,rfl,λd=>?_⟩⟩;rw[õ];unfold eh;by_cases e:d=i+1
    ·rw[Ú e,Ú (by omega),e]
     have h1:=hR (i+1);rw[æ (by omega)] at h1;have h2:=hR i;rw[Ú (Nat.le_refl _)] at h2;simp only[fw,h1,h2,hF,aaA,í,ś,ë,abN,Bool.or_false,ne2]
    ·rw[æ e,hR d]
     by_cases e2:d<=i
     ·rw[Ú e2,Ú (by omega)]
     ·rw[æ e2,æ (by omega)]
  ·cases hd
 rw[cq] at hI;obtain⟨a5,a6,a7,a8,R,rfl,rfl,hR⟩:=hI (Nat.le_refl _);rw[aft_nx,wp_sSeq,wp_sFor];refine Wp.of U5 ?_
 refine Wp.i7 (λn env s'=>n<=30->∃a5 a6 a7 a8 R,env=[some (bD ps),some (.int m),some (.int k),some (.aj s.length),some (.aj (s.length+1)),a5,a6,a7,a8]/\s'=bX s R F/\∀d,d<=30->R d=if 30-n<=d then bw (sN ps m k) (lN ps m k) (mN ps m k) d else fw (sN ps m k) (lN ps m k) (mN ps m k) d) _ (λ_=>⟨_,_,_,_,R,rfl,rfl,λd hd=>?_⟩) (λn d env s' hd hI=>?_) (λenv s' hI=>?_)
 ·rw[hR d,Ú hd]
  split
  ·rw[show d=30 by omega,Ku]
  ·rfl
 ·rw[ç] at hd
  by_cases hn:n<30
  ·rw[Ĕ hn] at hd
   cases hd;obtain⟨a5,a6,a7,a8,R,rfl,rfl,hR⟩:=hI (by omega);refine⟨_,rfl,?_⟩;simp only[ï,ð];generalize hd:29-n=d;rw[wp_sSub,wp_comp];have row:bq (e2 ak (aa 3) (aa 6)) [some (bD ps),some (.int m),some (.int k),some (.aj s.length),some (.aj (s.length+1)),a5,some (.int (d:Int)),a7,a8] (bX s R F)=ok ((jw (R d)).map D.bl) (bX s R F):=by
    refine iw (Wp.eq ?_);simp only[wp_e2,wp_loc0,wp_locS];exact Wp.of (tY (by omega) (by omega)) ⟨by rw[õ],rfl⟩
   refine Wp.of row ⟨xf _,?_⟩;refine Wp.of (xy (caps:=[some (.aj s.length),some (.aj (s.length+1)),some (.int (d:Int))]) (λb=>(R (d+1)).2||((R (d+1)).1&&(!b||F (d+1)))) λb=>?_) ?_
   ·refine Wp.eq ?_
    simp only[VC];refine Wp.of (tY (by omega) (by omega)) (Wp.of (IG (by omega) (by omega)) ?_);rw[show ((d:Int)+1).toNat=d+1 by omega];refine Wp.of Rh ?_;simp only[VC,ğ]
   ·simp only[wp_loc0,wp_locS]
    refine⟨_,xx (by omega) (by omega),λ_=>⟨_,_,_,_,_,rfl,rfl,λe he=>?_⟩⟩;rw[õ];unfold eh;by_cases ee:e=d
    ·rw[Ú ee,Ú (by omega),ee,II _ _ _ (by omega)]
     have h1:=hR d (by omega);rw[æ (by omega)] at h1;have h2:=hR (d+1) (by omega);rw[Ú (by omega)] at h2;simp only[h1,h2,hF,ś,ë,Bool.true_or,abN,Ř]
    ·rw[æ ee,hR e he]
     by_cases e2:30-n<=e
     ·rw[Ú e2,Ú (by omega)]
     ·rw[æ e2,æ (by omega)]
  ·rw[Ċ (by simpa using hn)] at hd
   cases hd
 rw[Ä,ľ] at hI;obtain⟨a5,a6,a7,a8,R,rfl,rfl,hR⟩:=hI (Nat.le_refl _);rw[aft_nx,wp_sRet,wp_comp];have fz:bq (jX (aa 3)) [some (bD ps),some (.int m),some (.int k),some (.aj s.length),some (.aj (s.length+1)),a5,a6,a7,a8] (bX s R F)=ok ((ß 31).map λd=>fY (R d)) (s++[.dead,fj F]):=by
  refine iw (Wp.eq ?_);simp only[wp_frz,wp_loc0,wp_locS];refine Wp.of (show cO (.aj s.length) (bX s R F)=ok (.lst ((ß 31).map λd=>fY (R d))) (s++[.dead,fj F]) from ?_) ⟨rfl,rfl⟩;simp only[cO,C8];simp[bX,Ų]
 refine Wp.of fz ⟨by rw[Ä,ľ];exact le_size (by decide),?_⟩;refine Wp.of (comp_map (λd=>fY (R d)) (λ_=>true) (λd=>sf (R d)) (ß 31) λd hd=>⟨[some (fY (R d))],rfl,rfl,λ_=>rfl⟩) ?_;rw[filter_tt,fin_rt];refine⟨?_,[.dead,fj F],rfl⟩;unfold sg;congr 1;apply aaP;intro d hd;have:=Ā.mp hd;rw[hR d (by omega),Ú (by omega)]
def Kv (s l m:Nat->Bool) (hd:d<=30):((fw s l m d).1=false->(bw s l m d).1=false)/\((fw s l m d).2=false->(bw s l m d).2=false):=by
 by_cases h:d=30
 ·subst h
  rw[Ku];exact⟨id,id⟩
 ·rw[II s l m (by omega)]
  exact⟨λh=>by simp[h],λh=>by simp[h]⟩
def OA (h:∀d,d<=30->bw s l m d≠(false,false)):nu s l m:=by
 intro d e hs Es he hc;apply Classical.byContradiction;intro mL;have hm:∀x,d<x->x<=e->m x=false:=λx h1 h2=>by
  cases hx:m x with
  |false=>rfl
  |true=>exact(mL ⟨x,h1,h2,hx⟩).elim
 have F:∀i,d+i<=e->(fw s l m (d+i)).1=false:=by
  intro i
  induction i with
  |zero =>
   intro _
   cases d with
   |zero=>simp[fw,f0,hs]
   |succ d=>simp[fw,f0,hs]
  |succ i ih =>
   intro hi;have:=ih (by omega);rw[<- aa5];simp[fw,this,hm (d+i+1) (by omega) (by omega)]
 have h1:=F (e-d) (by omega);rw[show d+(e-d)=e by omega] at h1;have t:t0 l m e=false:=by
  unfold t0
  rcases hc with hc | ⟨rfl,hc⟩<;>simp[hc]
 have h2:(fw s l m e).2=false:=by cases e<;>simp[fw,t]
 exact h e he (Prod.ext ((Kv s l m he).1 h1) ((Kv s l m he).2 h2))
def IJ (N:nu s l m) (hd:d<=30):bw s l m d≠(false,false):=by
 rw[Wj N hd]
 cases hp:pr s m d with
 |false=>simp
 |true=>simp[Ks N hd hp]
def FY (hd:n5 ps) (h:∀m∈m4,∀k∈k8,nu (sN ps m k) (lN ps m k) (mN ps m k)):jo ps=[]:=by
 unfold jo;rw[aa8];intro m hm;rw[aa8];intro k hk;rw[ab0];unfold ku;rw[aa8];intro d ei;rw[ab0,abd];intro e he hc;have hs:d∈shown ps m k:=ng.mp ei;obtain⟨i,hi,rfl⟩:=ö.mp he;rw[Ā] at hi;have d0:=hd.of hs;unfold lp at hc;simp only[Ç,Ž,È,ē] at hc;have e1:((d.toNat:Nat):Int)=d:=by omega
 have e2:(((d+(i:Int)).toNat:Nat):Int)=d+(i:Int):=by omega
 obtain⟨x,x1,x2,x3⟩:=h m hm k hk d.toNat (d+(i:Int)).toNat (by simp only[sN,e1,È];exact hs) (by omega) (by omega) (by
  rcases hc.1 with z | ⟨z1,z2⟩
  ·exact .inl (by simp only[lN,e2,È];exact z)
  ·exact .inr ⟨by omega,by simp only[mN,e1,È];exact z2⟩)
 have hb:=hc.2;unfold pV at hb;rw[aaw] at hb;simp only[mN,È] at x3;refine hb _ x3 ?_;simp only[Ç,È];omega
abbrev RB (n:Nat) (MM LL:Nat->Nat->List Int) (p:Pg):Prop:=∃m:Nat,m<n/\Ag m (MM m) (LL m) p
abbrev TB (n:Nat) (MM:Nat->Nat->List Int) (q:Pg):Prop:=∃m:Nat,m<n/\∃(x:Nat) (d:Int),x<8/\d∈MM m x/\q=.aQ m d x
def Ri (h:eR W R T s j n) (hn:n<64) (hj:env[1]?=some (some (.aj j)))
 (q:∀ps:List Pg,(∀p∈ps,R p)->(∀p,T p->p∈ps)->ps.length<=n->(ps.Pairwise λa b=>fu.lt a b=true)->Q (bD ps) s):Wp (eB cF (ae (eB rl (ae (eB rj (ae (aa 1) ah)) ah)) ah) env s) Q:=by
 obtain⟨ps,e,cx,len⟩:=h;have e1:aa 1 env s=ok (.aj j) s:=by unfold aa;rw[hj]
 have e2:rj [.aj j] s=ok (.lst (ps.map Pg.d)) s:=by
  unfold rj;simp only[e];rw[Ú (by rw[Ä];exact ib (by omega)),Ē];rfl
 have e3:rl [.lst (ps.map Pg.d)] s=ok (.lst ((ST.jS fu ps).map Pg.d)) s:=by
  unfold rl;simp only[res];rw[Ú (by rw[Ä];omega),Hl];rfl
 simp only[wp_eB,wp_aCons,wp_aNil];refine Wp.of e1 (Wp.of e2 (Wp.of e3 ?_));refine Wp.of (show cF [.lst ((ST.jS fu ps).map Pg.d)] s=ok (bD (ST.jS fu ps)) s from rfl) (q _ (λp hp=>cx.2.1 p ((ST.sY ps).mem_iff.mp hp)) (λp hp=>(ST.sY ps).mem_iff.mpr (cx.2.2 p hp)) (by rw[(ST.sY ps).length_eq];exact len) (Rc cx.1))
def MR (lf:∀m x,m<n->x<8->∃c,Lf (MM m x) c 31 (LL m x)) (hp:∀p∈ps,RB n MM LL p) (ht:∀p,TB n MM p->p∈ps) (hk:0<=k/\k<8):nu (sN ps m k) (lN ps m k) (mN ps m k):=by
 have sh:∀{d:Int},d∈shown ps m k->∃m0:Nat,m0<n/\m=m0/\d∈LL m0 k.toNat:=λ{d} h=>by
  obtain⟨p,fR,rfl⟩:=ö.mp h;rw[ć] at fR;obtain⟨m0,h0,ha⟩:=hp p fR.1
  cases p with
  |made m' d' u v =>
   have h2:=fR.2;simp only[ka,Ç,È] at h2;obtain⟨_,hm,hu,_⟩:=ha;exact⟨m0,h0,by rw[<- h2.1];exact hm,hu k h2.2⟩
  |aQ m' d' k'=>cases fR.2
 have la:∀{d:Int} {m0:Nat},m=m0->d∈cR ps m k->d∉LL m0 k.toNat:=λ{d m0} e h=>by
  obtain⟨p,fR,rfl⟩:=ö.mp h;rw[ć] at fR;obtain⟨m1,h0,ha⟩:=hp p fR.1
  cases p with
  |made m' d' u v =>
   have h2:=fR.2;simp only[kc,Ç,È] at h2;obtain⟨_,hm,_,hv⟩:=ha;have:m1=m0:=by have:=h2.1;omega
   rw[<- this];exact hv k h2.2
  |aQ m' d' k'=>cases fR.2
 have me:∀{d:Int} {m0:Nat},m=m0->d∈bU ps m k->d∈MM m0 k.toNat:=λ{d m0} e h=>by
  obtain⟨p,fR,rfl⟩:=ö.mp h;rw[ć] at fR;obtain⟨m1,h0,ha⟩:=hp p fR.1
  cases p with
  |made m' d' u v=>cases fR.2
  |aQ m' d' k' =>
   have h2:=fR.2;simp only[je,Ç,È] at h2;obtain⟨_,hm,hd⟩:=ha;have:m1=m0:=by have:=h2.1;omega
   rw[<- this,<- h2.2];exact hd
 intro d e hs Es he hc;simp only[sN,lN,mN,È] at hs hc;obtain⟨m0,h0,em,hd⟩:=sh hs;obtain⟨c,F⟩:=lf m0 k.toNat h0 (by omega)
 rcases hc with hc | ⟨rfl,hc⟩
 ·apply Classical.byContradiction
  intro mL;have hm:∀x:Nat,d<x->x<=e->(x:Int)∉MM m0 k.toNat:=λx h1 h2 hx=>by
   refine mL ⟨x,h1,h2,?_⟩;simp only[mN,È];have jD:=ht (.aQ m0 x (k.toNat:Int)) ⟨m0,h0,k.toNat,x,by omega,hx,rfl⟩;refine ö.mpr ⟨_,ć.mpr ⟨jD,?_⟩,rfl⟩;simp only[je,Ç,È];exact⟨em.symm,by omega⟩
  have all:∀i:Nat,d+i<=e->((d+i:Nat):Int)∈LL m0 k.toNat:=by
   intro i
   induction i with
   |zero=>intro _;exact hd
   |succ i ih =>
    intro hi;have:=F.on _ (ih (by omega)) (by omega) (by
     have:=hm (d+i+1) (by omega) (by omega);rwa [show ((d+i+1:Nat):Int)=((d+i:Nat):Int)+1 by omega] at this)
    rwa [show ((d+(i+1):Nat):Int)=((d+i:Nat):Int)+1 by omega]
  have:=all (e-d) (by omega);rw[show d+(e-d)=e by omega] at this;exact la em hc this
 ·exact((F.lo _ hd).2.2 (me em hc)).elim
def Rj (h:bp s k):Wp (xm W [.aj k] s) λd s'=>∃ps,d=bD ps/\ps.length<=21/\bp s' k/\Ex k s s'/\eO ps=true:=by
 have hk:=h.lt;have qA:s.length≠k:=by omega
 unfold xm;rw[wp_fn];refine⟨rfl,?_⟩;rw[wp_sSeq];simp only[wp_sAsg,wp_tup,wp_aCons,wp_aNil,SW];have d0:eR W (RB 0 (λ_ _=>[]) (λ_ _=>[])) (TB 0 (λ_ _=>[])) (s++[.dT []]) s.length 0:=⟨[],by simp,⟨.nil,λ_ h=>(ĕ h).elim,λp ⟨m,hm,_⟩=>(Nat.not_lt_zero m hm).elim⟩,Nat.le_refl _⟩;have h0:bp (s++[.dT []]) k:=h.app _
 try simp only[VC]
 refine(dN h0 (by decide) (by decide)).mono λd t1 qz=>?_;obtain⟨x1,rfl,sI,sJ,h1,e1⟩:=qz
 try simp only[VC]
 refine(dN h1 (by decide) (by decide)).mono λd t2 hd2=>?_;obtain⟨x2,rfl,Eo,Ep,h2,e2⟩:=hd2
 try simp only[VC]
 refine⟨by decide,?_⟩;have dt:=d0.ex (e1.trans e2) qA;have ext:Ex k s t2:=(Ex.app k s _).trans (e1.trans e2)
 try simp only[VC]
 refine Wp.of (xq (s1:=t2) (n:=(1+x1).toNat) (i:=1+x1) rfl (by omega) (by omega)) ?_;refine Wp.i7 (λi env s'=>i<=(1+x1).toNat->∃b4 b5 b6 b7 b8 b9 gg gj MM LL,env=[some (.aj k),some (.aj s.length),some (.int (1+x1)),some (.int (1+x2)),b4,b5,b6,b7,b8,b9,gg,gj]/\(∀m x,m<i->x<8->∃c,Lf (MM m x) c 31 (LL m x))/\bp s' k/\eR W (RB i MM LL) (TB i MM) s' s.length (7*i)/\Ex k s s') _ (λ_=>⟨_,_,_,_,_,_,_,_,_,_,rfl,λm x hm=>(Nat.not_lt_zero m hm).elim,h2,dt,ext⟩) (λi d env s' hd hI=>?_) (λenv s' hI=>?_)
 ·rw[gG] at hd
  split at hd
  ·rename_i hi
   cases hd;obtain⟨b4,b5,b6,b7,b8,b9,gg,gj,MM,LL,rfl,lf,g1,g2,g3⟩:=hI (by omega);refine⟨_,rfl,?_⟩
   refine NH g1 g2 g3 qA (Nat.le_refl _) (by omega) (by omega) (by omega) (by omega) λc5 c6 c7 c8 c9 Zo Zp s2 M L Zr k1 k2 k3=>(λ_=>⟨_,_,_,_,_,_,_,_,λm=>if m=i then M else MM m,λm=>if m=i then L else LL m,rfl,λm x hm hx=>?_,k1,(k2.more (by omega)).mono (λp hp=>?_) (λq hq=>?_),k3⟩)
   ·by_cases vY:m=i
    ·obtain⟨c,l⟩:=Zr x hx
     exact⟨c,by simp only[vY,û];exact l⟩
    ·obtain⟨c,l⟩:=lf m x (by omega) hx
     exact⟨c,by simp only[vY,ê];exact l⟩
   ·rcases hp with ⟨m,hm,ha⟩|ha
    ·exact⟨m,by omega,by simp only[show m≠i by omega,ê];exact ha⟩
    ·exact⟨i,by omega,by simp only[û];rw[aaV] at ha;exact ha⟩
   ·obtain⟨m,hm,x,d,h1,h2,rfl⟩:=hq
    by_cases vY:m=i
    ·subst vY
     simp only[û] at h2;exact .inr ⟨x,d,h1,h2,by rw[aaV]⟩
    ·simp only[vY,ê] at h2
     exact .inl ⟨m,by omega,x,d,h1,h2,rfl⟩
  ·cases hd
 ·rw[cq] at hI
  obtain⟨b4,b5,b6,b7,b8,b9,gg,gj,MM,LL,rfl,lf,g1,g2,g3⟩:=hI (Nat.le_refl _);simp only[wp_sRet,aft_nx,fin_rt];refine Ri (g2.more (m:=21) (by omega)) (by decide) rfl λps hp ht hl hu=>⟨ps,rfl,hl,g1,g3,?_⟩;have laid:Laid ps:=⟨λp h=>by obtain⟨m,_,ha⟩:=hp p h;exact ha.1,hu⟩;have lb:=laid.jq (by omega);unfold eO;rw[lb,í,abG];exact FY (GO lb) λm _ x hx=>MR lf hp ht (rA.mp hx)
noncomputable def brk (l:List Int):List Int:=((ß (l.length-1)).filter λi=>l.getD (i+1) 0==l.getD i 0).map λi:Nat=>1+(i:Int)
noncomputable def yH:List Int->List Int->Bool
 | [],[]=>false
 | [],_::_=>true
 |_::_,[]=>false
 |x::xs,y::ys=>if (x==y)=true then yH xs ys else decide (x<y)
def xK (h:beq x y=true):fO (x::xs) (y::ys)=fO xs ys:=by
 rw[fO,Ú h]
def xM (h:beq x y=false):fO (x::xs) (y::ys)=iq x y:=by
 rw[fO,æ (by rw[h];exact Ë)]
def JN:∀(xs ys:List Int),fO (xs.map D.int) (ys.map D.int)=some (yH xs ys)
 | [],[]=>rfl
 | [],_::_=>rfl
 |_::_,[]=>rfl
 |x::xs,y::ys=>by
  rw[Ö,Ö,yH]
  cases h:(x==y) with
  |true=>rw[xK (show beq (.int x) (.int y)=true from h),Ú rfl];exact JN xs ys
  |false=>rw[xM (show beq (.int x) (.int y)=false from h),æ Ë];rfl
def Ex.get (h:Ex k s s') (e:s[j]?=some c) (hj:j≠k):s'[j]?=some c:=by
 rw[h.val j (Å.mp e).1 hj];exact e
def Ex.hi (h:Ex k s s') (hj:s.length<=j) (c:Cell):Ex k s (s'.set j c):=⟨by rw[Ĝ];exact h.len,λi hi hk=>by rw[Ø (by omega)];exact h.val i hi hk⟩
structure RI (s0:ag) (k rh mh:Nat) (rs:List (List Int)) (s:ag):Prop where
 st:bp s k
 ex:Ex k s0 s
 run:s[rh]?=some (.lst (rs.map mD))
 mo:∃a b,s[mh]?=some (.lst [mD a,mD b])/\dG 8 a/\dG 8 b
 zq:∀r∈rs,dG 8 r
 k1:k<s0.length
 r1:s0.length<=rh
 m1:s0.length<=mh
 ne:rh≠mh
def RI.draw (h:RI s0 k rh mh rs s) (g:bp s' k) (x:Ex k s s'):RI s0 k rh mh rs s':=by
 have:=h.k1;have:=h.r1;have:=h.m1;obtain⟨a,b,e,ha,hb⟩:=h.mo;exact⟨g,h.ex.trans x,x.get h.run (by omega),⟨a,b,x.get e (by omega),ha,hb⟩,h.zq,h.k1,h.r1,h.m1,h.ne⟩
def RI.push (h:RI s0 k rh mh rs s) (hr:dG 8 r):RI s0 k rh mh (rs++[r]) (s.set rh (.lst (rs.map mD++[mD r]))):=by
 have:=h.k1;have:=h.r1;have:=h.m1;have:=h.ne;obtain⟨a,b,e,ha,hb⟩:=h.mo;refine⟨h.st.set (by omega) _,h.ex.hi (by omega) _,?_,⟨a,b,by rw[Ø (by omega)];exact e,ha,hb⟩,λx hx=>?_,h.k1,h.r1,h.m1,h.ne⟩
 ·rw[ã (Å.mp h.run).1,č]
  rfl
 ·rcases Ù.mp hx with hx|hx
  ·exact h.zq x hx
  ·rw[Ü.mp hx];exact hr
def RI.put (h:RI s0 k rh mh rs s) (h0:at_=0\/at_=1):(∃a,ak (.aj mh) (.int at_) s=ok (mD a) s/\dG 8 a)/\∀c,dG 8 c->∃s',iE (.aj mh) (.int at_) (mD c) s=some s'/\RI s0 k rh mh rs s':=by
 have:=h.k1;have:=h.r1;have:=h.m1;have:=h.ne;obtain⟨a,b,e,ha,hb⟩:=h.mo;have key:∀a b,dG 8 a->dG 8 b->RI s0 k rh mh rs (s.set mh (.lst [mD a,mD b])):=λa b ha hb=>⟨h.st.set (by omega) _,h.ex.hi (by omega) _,by rw[Ø (by omega)];exact h.run,⟨a,b,ã (Å.mp e).1,ha,hb⟩,h.zq,h.k1,h.r1,h.m1,h.ne⟩
 rcases h0 with rfl|rfl
 ·exact⟨⟨a,Em _ _ _ _ e,ha⟩,λc hc=>⟨_,K5 _ _ _ _ _ e,key _ _ hc hb⟩⟩
 ·exact⟨⟨b,En _ _ _ _ e,hb⟩,λc hc=>⟨_,K6 _ _ _ _ _ e,key _ _ ha hc⟩⟩
structure Ft (n W:Nat) (d:D):Prop where
 pl:plain d=true
 sh:(py d).showable=true
 nd:(py d).hasDict=false
 dp:(py d).depth<=n
 wt:(py d).weight<=W
 lv:(py d).leavesShort 40=true
def yI (d:D):Bool:=plain d&&(py d).showable&&!(py d).hasDict&&decide ((py d).depth<=0)&&decide ((py d).weight<=110)&&(py d).leavesShort 40
def yl (h:yI d=true):Ft 0 110 d:=by
 unfold yI at h;simp only[Ç,È,ē] at h;obtain⟨⟨⟨⟨⟨h0,h1⟩,h2⟩,h3⟩,h4⟩,h5⟩:=h;exact⟨h0,h1,h2,h3,h4,h5⟩
def U6:∀n:Fin 62,yI (.int ((n.val:Int)-1))=true:=by decide +kernel
def nJ (h1:-1<=n) (h2:n<=60):Ft 0 110 (.int n):=by
 refine yl ?_;have:=U6 ⟨(n+1).toNat,by omega⟩;have e2:(((n+1).toNat:Nat):Int)-1=n:=by omega
 rw[e2] at this;exact this
def Bu:∀{ds:List D},(∀x∈ds,Ft n W x)->iU ds=true/\ab4 (bQ ds)=true/\abp (bQ ds)=false/\ž (bQ ds)<=n/\χ (bQ ds)<=ds.length*(W+1)/\abD 40 (bQ ds)=true
 | [],_=>⟨rfl,rfl,rfl,Ę _,by simp[bQ,χ],rfl⟩
 |x::xs,h=>by
  obtain⟨z,a,b,c,d,e⟩:=Bu (ds:=xs) λy hy=>h y (Ñ _ hy);have k:=h x Ò;refine⟨?_,?_,?_,?_,?_,?_⟩
  ·simp only[iU,k.pl,z,Ĥ]
  ·simp only[bQ,ab4,k.sh,a,Ĥ]
  ·simp only[bQ,abp,k.nd,b,Bool.or_self]
  ·simp only[bQ,ž];have:=k.dp;omega
  ·simp only[bQ,χ,å]
   have:=k.wt;rw[Nat.add_mul];omega
  ·simp only[bQ,abD,k.lv,e,Ĥ]
def nK (hl:ds.length<=c) (h:∀x∈ds,Ft n W x):Ft (n+1) (c*(W+1)) (.tup ds):=by
 obtain⟨z,a,b,c',d',e'⟩:=Bu h;have hw:χ (bQ ds)<=c*(W+1):=Û d' (aaz _ hl);exact⟨by simp only[plain];exact z,by simp only[py,aa0];exact a,by simp only[py,PyData.hasDict];exact b,by simp only[py,PyData.depth];omega,by simp only[py,ace];exact hw,by simp only[py,ab5];exact e'⟩
def U7 (hl:ds.length<=c) (h:∀x∈ds,Ft n W x):Ft (n+1) (c*(W+1)) (.lst ds):=by
 obtain⟨z,a,b,c',d',e'⟩:=Bu h;have hw:χ (bQ ds)<=c*(W+1):=Û d' (aaz _ hl);exact⟨by simp only[plain];exact z,by simp only[py,aa0];exact a,by simp only[py,PyData.hasDict];exact b,by simp only[py,PyData.depth];omega,by simp only[py,ace];exact hw,by simp only[py,ab5];exact e'⟩
def ne_str:gr (.str x) (.str x) s=ok (.bl false) s:=by
 show (match gJ (.str x) (.str x) with|some b=>ok (D.bl (!b)) s|none=>none)=_
 have e:gJ (.str x) (.str x)=some true:=by
  unfold gJ;rw[Ú (show (kU (.str x)&&kU (.str x))=true from rfl)];simp[beq]
 rw[e];rfl
structure Mf (p:Pg):Prop where
 day:0<=p.day/\p.day<31
 j3:j3 p
 apart:tZ p
 ft:Ft 3 7116 p.d
def Ft.mono (h:Ft n W d) (h1:n<=n') (h2:W<=W'):Ft n' W' d:=⟨h.pl,h.sh,h.nd,Û h.dp h1,Û h.wt h2,h.lv⟩
def JO:Ft 0 110 (.str "made")/\Ft 0 110 (.str "mended"):=⟨yl (by decide +kernel),yl (by decide +kernel)⟩
def xN (h:dG 8 ns):Ft 1 888 (mD ns):=by
 refine nK (c:=8) (W:=110) (by rw[Ä];exact h.len) λx hx=>?_;obtain⟨y,hy,rfl⟩:=ö.mp hx;have:=h.lo y hy;exact nJ (by omega) (by omega)
def S7 (h:dX p=true):Mf p:=by
 cases p with
 |made m d h' l =>
  simp only[dX,jM,kN,Ç,È] at h;obtain⟨⟨hm,hd⟩,h1,h2,h3⟩:=h;have k1:=wM h1;have k2:=wM h2;refine⟨hd,⟨by have:=k1.len;omega,by have:=k2.len;omega⟩,λx hx hl=>?_,?_⟩
  ·unfold kq at h3
   rw[ē,aaw] at h3;exact h3 x hx (Ý hl)
  ·refine nK (c:=4) (n:=2) (W:=1778) (by simp) λx hx=>?_
   simp only[Ó,ĕ,or_false] at hx
   rcases hx with rfl|rfl|rfl|rfl
   ·exact JO.1.mono (by omega) (by omega)
   ·exact(nJ (by omega) (by omega)).mono (by omega) (by omega)
   ·exact(nJ (by omega) (by omega)).mono (by omega) (by omega)
   ·refine nK (c:=2) (n:=1) (W:=888) (by simp) λx hx=>?_
    simp only[Ó,ĕ,or_false] at hx
    rcases hx with rfl|rfl
    ·exact xN k1
    ·exact xN k2
 |aQ m d k =>
  simp only[dX,jM,kN,markB,Ç,È] at h;obtain⟨⟨hm,hd⟩,hk⟩:=h;refine⟨hd,trivial,trivial,(nK (c:=4) (n:=0) (W:=110) (by simp) λx hx=>?_).mono (by omega) (by omega)⟩;simp only[Ó,ĕ,or_false] at hx
  rcases hx with rfl|rfl|rfl|rfl
  ·exact JO.2
  ·exact nJ (by omega) (by omega)
  ·exact nJ (by omega) (by omega)
  ·exact nJ (by omega) (by omega)
def nh (h:eO ps=true):ps.length<=24/\∀p∈ps,Mf p:=by
 unfold eO jq at h;simp only[Ç,È,ý] at h;exact⟨h.1.1,λp hp=>S7 (h.1.2.1 p hp)⟩
def Wk (h:0<=k/\k<8):ak (.lst (k8.map G)) (.int k) s=ok (G k) s:=by
 obtain⟨x,e1,e2⟩:=nH (xs:=k8.map G) h.1 (by show k<8;exact h.2);have:x=G k:=by
  rw[ç] at e2;have e3:k8[k.toNat]?=some k:=by
   unfold k8;rw[ç,Ĕ (by omega)];simp;omega
  rw[e3] at e2;exact(Option.some.inj e2).symm
 subst this;simp only[ak,gZ,res,e1,bB]
def U8 (h:0<=d/\d<31):ak (sg ps m k) (.int d) s=ok (sf (bw (sN ps m k) (lN ps m k) (mN ps m k) d.toNat)) s:=by
 simp only[ak,gZ,res,sg,xw h.1 h.2,bB]
def U9 {n:Nat}:jm (bD ps) none (some (n:Int)) s=ok (bD (ps.take n)) s:=by
 show ok (D.tup (cutD (ps.map Pg.d) none (some (n:Int)))) s=_;unfold cutD;rw[HT.xh];show ok (D.tup (((ps.map Pg.d).drop 0).take (min n (ps.map Pg.d).length-0))) s=_;rw[List.drop_zero,Nat.sub_zero,<- List.map_take,Ä];congr 3;rw[List.take_eq_take_min (i:=n)]
def Rk (hl:ps.length<=1000) (hf:∀p∈ps,j3 p) (hb:eO ps=true):wH [bD ps] s=ok .au s:=by
 refine Wp.eq ?_;unfold wH;simp only[VC];refine Wp.of (SV hl hf) ?_;rw[hb];simp only[VC,ë,Ã,ê,ğ]
def PR (hm:0<=m/\m<4):wz [.int m] s=ok .au s:=by
 refine Wp.eq ?_;unfold wz;simp only[VC];refine Wp.of Au ?_;rw[show jM m=true by unfold jM;simp[hm]];simp only[VC,ë,Ã,ê,ğ]
def xg {α:Type} (f:α->D) (h:∀x,lay (f x)=true):∀l:List α,cG (l.map f)=true
 | []=>rfl
 |x::l=>by rw[Ö,cG,h x,xg f h l];rfl
def GR (h:cG ds=true):gJ (.lst ds) (.lst [])=some ds.isEmpty:=by
 unfold gJ;rw[æ (by simp[kU]),Ú (by simp only[lay,h,cG,dep,cC,Ĥ,í,È];exact Ý (Û (Nat.min_le_right _ 1) (show 1<=100 by decide)))]
 cases ds<;>rfl
def eq_nil (h:cG ds=true):aV (.lst ds) (.lst []) s=ok (.bl ds.isEmpty) s:=by
 show (match gJ (.lst ds) (.lst []) with|some b=>ok (D.bl b) s|none=>none)=_
 rw[GR h]
def ne_nil (h:cG ds=true):gr (.lst ds) (.lst []) s=ok (.bl (!ds.isEmpty)) s:=by
 show (match gJ (.lst ds) (.lst []) with|some b=>ok (D.bl !b) s|none=>none)=_
 rw[GR h]
noncomputable abbrev eG:=List Int×List Int
def aX (p:eG):D:=.tup [mD p.1,mD p.2]
structure dH (p:eG):Prop where
 h:dG 8 p.1
 l:dG 8 p.2
 ap:∀x∈p.1,x∉p.2
abbrev bA (ss:List eG):D:=.tup (ss.map aX)
def HA:fJ (.int x) (mD ns) s=ok (.bl (!decide (x∈ns))) s:=oR (s:=s)
def PU (h:bp s k):Wp (xb [.aj k] s) λd s'=>∃p,d=aX p/\dH p/\bp s' k/\Ex k s s':=by
 unfold xb;simp only[VC];refine(Hr h (n:=8) (by decide)).mono λd s1 hd=>?_;obtain⟨a,rfl,ha,h1,e1⟩:=hd;refine(Hr h1 (n:=8) (by decide)).mono λd s2 hd=>?_;obtain⟨b,rfl,hb,h2,e2⟩:=hd;refine⟨by decide,?_⟩;have lb:=hb.len;refine Wp.of (iT (ds:=b.map D.int) rfl) ⟨ib (by rw[Ä];omega),?_⟩;refine Wp.of (hZ (λx=>!decide (x∈a)) (λx=>.int x) b λx _=>⟨[some (.int x),some (mD a)],rfl,Wp.eq (by simp only[VC,HA,ğ]),λ_=>rfl⟩) ?_;refine Wp.of (show cF [.lst ((b.filter λx=>!decide (x∈a)).map λx=>.int x)] s2=ok (mD (b.filter λx=>!decide (x∈a))) s2 from rfl) ?_;exact⟨by decide,(a,_),rfl,⟨ha,hb.filter _,λx hx hl=>by simpa [hx] using (ć.mp hl).2⟩,h2,e1.trans e2⟩
noncomputable def uM (m:Int):Pg->Bool
 | .made m' _ _ _=>decide (m'=m)
 | .aQ _ _ _=>false
def zz:Pg->eG
 | .made _ _ a b=>(a,b)
 | .aQ _ _ _=>([],[])
def HB (h:dX p=true) (hm:uM m p=true):dH (zz p)/\p.d=.tup [.str "made",.int m,.int p.day,aX (zz p)]:=by
 cases p with
 |made m' d a b =>
  simp only[uM,È] at hm;subst hm;simp only[dX,Ç] at h;refine⟨⟨wM h.2.1,wM h.2.2.1,λx hx hl=>?_⟩,rfl⟩;have:=h.2.2.2;unfold kq at this;rw[ē,aaw] at this;exact this x hx (Ý hl)
 |aQ m' d k=>cases hm
def Mg:abC (ì "made")=true:=by decide +kernel
def Mh:abC (ì "mended")=true:=by decide +kernel
def Wl:Wp (jm p.d none (some 2) s) λd s1=>Wp (aV d (.tup [.str "made",.int m]) s1) λx s2=>x=.bl (uM m p)/\s2=s:=by
 cases p with
 |aQ m' d k =>
  refine Wp.of (show jm (Pg.aQ m' d k).d none (some 2) s=ok (.tup [.str "mended",.int m']) s from rfl) ?_;have e:gJ (.tup [.str "mended",.int m']) (.tup [.str "made",.int m])=some false:=by
   unfold gJ;rw[æ (show ¬ (kU (.tup _)&&kU (.tup _))=true from Ë),Ú (by simp[lay,cG,dep,cC,Mg,Mh])];simp only[beq,ij,show (ì "mended"==ì "made")=false from beq_eq_false_iff_ne.mpr tM,aaA]
  exact Wp.of (show aV (.tup [.str "mended",.int m']) (.tup [.str "made",.int m]) s=ok (.bl false) s by show (match gJ (.tup [.str "mended",.int m']) (.tup [.str "made",.int m]) with|some b=>ok (D.bl b) s|none=>none)=_;rw[e]) ⟨rfl,rfl⟩
 |made m' d a b =>
  refine Wp.of (show jm (Pg.made m' d a b).d none (some 2) s=ok (.tup [.str "made",.int m']) s from rfl) ?_;have e:gJ (.tup [.str "made",.int m']) (.tup [.str "made",.int m])=some (decide (m'=m)):=by
   unfold gJ;rw[æ (show ¬ (kU (.tup _)&&kU (.tup _))=true from Ë),Ú (by simp[lay,cG,dep,cC,Mg,Mh])];simp only[beq,ij]
   by_cases h:m'=m<;>simp[h]
  exact Wp.of (show aV (.tup [.str "made",.int m']) (.tup [.str "made",.int m]) s=ok (.bl (decide (m'=m))) s by show (match gJ (.tup [.str "made",.int m']) (.tup [.str "made",.int m]) with|some b=>ok (D.bl b) s|none=>none)=_;rw[e]) ⟨rfl,rfl⟩
def S8 (p:eG):lay (aX p)=true:=by
 show cG [mD p.1,mD p.2]=true;simp only[cG,lay,qI,Ĥ]
def gk (ps:List Pg) (m:Int):List eG:=(ps.filter (uM m)).map zz
def PV (hl:ps.length<=24) (hp:∀p∈ps,dX p=true) :
  aW 1 [2] (bq (aa 1)) (gN 0) (aH (e2 aV (iM (aa 0) iL (iD (eC (.int 2)))) (aZ (ae (eC (.str "made")) (ae (aa 1) ah))))) (e2 ak (aa 0) (eC (.int 3))) (x::some (bD ps)::some (.int m)::q) s=ok (.lst ((gk ps m).map aX)) s:=by
 refine Q8 (iT (ds:=ps.map Pg.d) rfl) (by rw[Ä];omega) ?_;rw[comp_map Pg.d (uM m) (λp=>aX (zz p)) ps λp fR=>⟨[some p.d,some (.int m)],rfl,Wp.eq ?_,λEt=>Wp.eq ?_⟩]
 ·unfold gk;rw[Ē];rfl
 ·simp only[wp_tBl,wp_e2,wp_sl,wp_loc0,wp_locS,wp_pNo,lH (show eC (.int 2) [some p.d,some (.int m)] s=ok (.int 2) s from rfl)]
  refine(Wl (m:=m)).mono λd s1 z=>?_;simp only[wp_tup,wp_aCons,wp_aNil,wp_C,wp_loc0,wp_locS];refine⟨by show 2<=Õ;decide,z.mono λy s2 w=>?_⟩;obtain⟨rfl,rfl⟩:=w;rw[wp_isBl];exact⟨rfl,rfl⟩
 ·simp only[wp_e2,wp_loc0,wp_C]
  rw[(HB (hp p fR) Et).2];exact Wp.of (fv _ _ _ _ _).2.2.2 ⟨rfl,rfl⟩
def PX (h:bp s k) (o0:0<of) (o1:of<100):Wp (eZ 1 [some (.aj k),some (.int of)] (gN 0) (aH (e2 aV (ax bJ (ae (aa 1) (ae (aa 2) ah))) (eC (.int 0)))) (aa 0) (bP 0 8) s) λxs s'=>∃ns,xs=ns.map D.int/\dG 8 ns/\bp s' k/\Ex k s s':=by
 refine mr (λi acc s'=>∃ns:List Int,acc=ns.map D.int/\dG i ns/\bp s' k/\Ex k s s') (bP 0 8) ⟨[],rfl,⟨by simp,.nil⟩,h,Ex.refl _ _⟩ (λi d acc s' hd hI=>?_) λacc s' hI=>?_
 ·obtain⟨ns,rfl,hm,h2,x2⟩:=hI
  rw[gG] at hd;split at hd
  ·have hd:D.int (0+(i:Int))=d:=Option.some.inj hd
   subst hd;refine⟨[some (.int (0+i)),some (.aj k),some (.int of)],rfl,?_⟩;simp only[VC];refine(dN h2 o0 (by omega)).mono λd s3 hx=>?_;obtain⟨r,rfl,r0,r1,h3,x3⟩:=hx;simp only[VC];split
   ·refine⟨ns++[0+(i:Int)],by simp,⟨λx hx=>?_,?_⟩,h3,x2.trans x3⟩
    ·rcases Ù.mp hx with hx|hx
     ·have:=hm.lo x hx;omega
     ·rw[Ü.mp hx];omega
    ·refine aay.mpr ⟨hm.up,by simp,λx hx y hy=>?_⟩
     rw[Ü.mp hy];have:=hm.lo x hx;omega
   ·exact⟨ns,rfl,⟨λx hx=>by have:=hm.lo x hx;omega,hm.up⟩,h3,x2.trans x3⟩
  ·cases hd
 ·rw[cq] at hI
  exact hI
def si (ps:List Pg) (m d k:Int):D:=sf (bw (sN ps m k) (lN ps m k) (mN ps m k) d.toNat)
def PY (hb:eO ps=true) (hd:0<=d/\d<31):Wp (eZ 1 [some (.int d),some (bD ps),some (.int m)] (gN 0) bT (e2 ak (ax rm (ae (aa 2) (ae (aa 3) (ae (aa 0) ah)))) (aa 1)) (bP 0 8) s) λxs s'=>xs=k8.map (si ps m d)/\∃c,s'=s++c:=by
 obtain⟨hl,hg⟩:=nh hb;refine mr (λi acc s'=>i<=8->acc=((ß i).map λi:Nat=>(i:Int)).map (si ps m d)/\∃c,s'=s++c) (bP 0 8) (λ_=>⟨rfl,[],by simp⟩) (λi e acc s' he hI=>?_) λacc s' hI=>?_
 ·rw[gG] at he
  split at he
  ·rename_i hi
   have he:D.int (0+(i:Int))=e:=Option.some.inj he;subst he;obtain⟨rfl,c,rfl⟩:=hI (by omega);refine⟨[some (.int (0+i)),some (.int d),some (bD ps),some (.int m)],rfl,?_⟩;refine Wp.of (show bT _ _=ok true _ from rfl) ?_;rw[Ú rfl];simp only[VC];refine(JM (by omega) λp hp=>⟨(hg p hp).day,(hg p hp).j3,(hg p hp).apart⟩).mono λx s2 hx=>?_;obtain⟨rfl,c2,rfl⟩:=hx;refine Wp.of (U8 hd) λ_=>⟨?_,c++c2,by simp⟩;rw[ſ,č,č];simp[si]
  ·cases he
 ·rw[cq] at hI
  exact hI (Nat.le_refl _)
def Rl (h:x≠(false,false)):∃b,ak (sf x) (.int (-1)) s=ok (.bl b) s:=by
 obtain⟨f,t⟩:=x
 cases f<;>cases t<;>first|exact absurd rfl h|exact⟨_,rfl⟩
def tI {α:Type} {f:α->D} {xs:List α} {r:Int} {s:ag} (h0:0<=r) (h1:r<xs.length):∃x∈xs,ak (.lst (xs.map f)) (.int r) s=ok (f x) s:=by
 obtain⟨x,e,e2⟩:=nH h0 h1;exact⟨x,œ e2,by simp only[ak,gZ,res,AV,e,Ŏ,bB]⟩
structure Ss (s0:ag) (k j:Nat) (ss:List eG) (s:ag):Prop where
 st:bp s k
 ex:Ex k s0 s
 at_:s[j]?=some (.lst (ss.map aX))
 sh:∀p∈ss,dH p
 jk:j≠k
 hj:s0.length<=j
def Ss.draw (h:Ss s0 k j ss s) (st:bp s' k) (ex:Ex k s s'):Ss s0 k j ss s' :=
 ⟨st,h.ex.trans ex,by rw[ex.val j (Å.mp h.at_).1 h.jk];exact h.at_,h.sh,h.jk,h.hj⟩
def C9 (e:s[j]?=some (.lst L)) (hL:L.length<=1000):i6 (.aj j) s=true/\i5 (.aj j) x s=ok .au (s.set j (.lst (L++[x]))):=by
 refine⟨by simp only[i6,e],?_⟩;unfold i5;simp only[e];rw[Ú (by rw[È];exact Ê (show L.length<1001 by omega) (le_size (by decide)))]
def Ex.cell (h:Ex k s0 s) (hj:s0.length<=j):Ex k s0 (s.set j c):=⟨by rw[Ĝ];exact h.len,λi hi hk=>by rw[Ø (by omega)];exact h.val i hi hk⟩
def OB (hb:eO ps=true) (hm:0<=m/\m<4) (h:Ss s0 k j ss s) (hs:ss.length<=100)
 (q:∀p s' e6 e7 e8 e9 dj lj ll,Ss s0 k j (ss++[p]) s'->Q (.nx [some (.aj k),some (bD ps),some (.int m),some (.lst ((gk ps m).map aX)),some (.aj j),e5,e6,e7,e8,e9,dj,lj,ll]) s') :
  Wp (zP [some (.aj k),some (bD ps),some (.int m),some (.lst ((gk ps m).map aX)),some (.aj j),e5,e6,e7,e8,e9,dj,lj,ll] s) Q:=by
 obtain⟨hl,hg⟩:=nh hb;unfold zP;refine Wp.step λR hR=>?_;simp only[VC];refine(dN h.st (by decide) (by decide)).mono λx s1 hx=>?_;obtain⟨d,rfl,d0,d1,vZ,x1⟩:=hx;refine(dN vZ (by decide) (by decide)).mono λx s2 hx=>?_;obtain⟨o,rfl,o0,o1,dS,x2⟩:=hx;simp only[VC];refine⟨by decide,?_⟩;subst hR;have g2:=h.draw dS (x1.trans x2);clear x1 x2 vZ h;refine Wp.step λR hR=>?_;simp only[wp_sAsg,asg_N,wp_comp,ï,ð];refine Wp.of (eI (n:=8) rfl (by decide)) ⟨by rw[cq];exact le_size (by decide),(PY hb ⟨d0,d1⟩).mono λxs s3 hx=>?_⟩;obtain⟨rfl,c,rfl⟩:=hx;rw[aft_nx];subst hR;have gv:=g2.st.app c;have g3:=g2.draw gv (Ex.app k s2 c);generalize s2++c=s3 at gv g3;clear g2 dS;refine Wp.step λR hR=>?_;simp only[wp_sAsg,asg_N,wp_comp,ï,ð];refine Wp.of (eI (n:=8) rfl (by decide)) ⟨by rw[cq];exact le_size (by decide),(PX gv (by omega) (by omega)).mono λxs s4 hx=>?_⟩;obtain⟨sn,rfl,zA,oF,x4⟩:=hx;rw[aft_nx];subst hR;have g4:=g3.draw oF x4;clear g3 gv x4;have Zs:∀x:Int,∃b:Bool,x∈sn->Wp (e2 ak (e2 ak (aa 1) (aa 0)) (e1 jR (eC (.int 1))) [some (.int x),some (.lst (k8.map (si ps m d)))] s4) λy s'=>y=.bl b/\s'=s4:=λx=>by
  by_cases hx:x∈sn
  ·have hk:=zA.lo x hx
   obtain⟨b,e⟩:=Rl (s:=s4) (IJ (IC hb hm (k:=x) (by omega)) (d:=d.toNat) (by omega));refine⟨b,λ_=>?_⟩;simp only[VC];refine Wp.of (Wk (by omega)) ?_;exact Wp.of (show jR (.int 1) s4=ok (.int (-1)) s4 from rfl) (Wp.of e ⟨rfl,rfl⟩)
  ·exact⟨false,λz=>absurd z hx⟩
 obtain⟨pB,Zt⟩:=Classical.axiomOfChoice Zs;refine Wp.step λR hR=>?_;simp only[wp_sAsg,asg_N,wp_eB,wp_aCons,wp_aNil,wp_comp,ï,ð];have ls:=zA.len;refine Wp.of (iw (ds:=sn.map D.int) rfl) ⟨ib (by rw[Ä];omega),?_⟩;refine Wp.of (hZ pB (λx=>.int x) sn λx hx=>⟨[some (.int x),some (.lst (k8.map (si ps m d)))],rfl,Wp.eq ?_,λ_=>rfl⟩) ?_
 ·rw[wp_tru]
  refine(Zt x hx).mono λy s' z=>?_;obtain⟨rfl,rfl⟩:=z;rw[wp_truB];exact⟨rfl,rfl⟩
 refine Wp.of (show cF [.lst ((sn.filter pB).map λx=>.int x)] s4=ok (mD (sn.filter pB)) s4 from rfl) ?_;rw[aft_nx];subst hR;have hh:=zA.filter pB;generalize sn.filter pB=ha at hh;refine Wp.step λR hR=>?_;simp only[wp_sAsg,asg_N,wp_tup,wp_eB,wp_aCons,wp_aNil,wp_comp,wp_loc0,wp_locS,ï,ð];refine Wp.of (iw (ds:=sn.map D.int) rfl) ⟨ib (by rw[Ä];omega),?_⟩;refine Wp.of (hZ (λx=>!decide (x∈ha)) (λx=>.int x) sn λx _=>⟨[some (.int x),some (mD ha)],rfl,Wp.eq (by simp only[VC,HA,ğ]),λ_=>rfl⟩) ?_;refine Wp.of (show cF [.lst ((sn.filter λx=>!decide (x∈ha)).map λx=>.int x)] s4=ok (mD (sn.filter λx=>!decide (x∈ha))) s4 from rfl) ⟨by show 2<=Õ;decide,?_⟩;rw[aft_nx];subst hR;have own:dH (ha,sn.filter λx=>!decide (x∈ha)):=⟨hh,zA.filter _,λx hx hl=>by simpa [hx] using (ć.mp hl).2⟩;generalize ho:(ha,sn.filter λx=>!decide (x∈ha))=ow at own;rw[show D.tup [mD ha,mD (sn.filter λx=>!decide (x∈ha))]=aX ow by rw[<- ho];rfl];clear ho;have hS:∀p∈gk ps m,dH p:=λp hp=>by
  unfold gk at hp;obtain⟨q,hq,rfl⟩:=ö.mp hp;obtain⟨hq,Et⟩:=ć.mp hq;have Eu:∀p∈ps,dX p=true:=by
   have iO:=hb;unfold eO jq at iO;simp only[Ç,ý] at iO;exact iO.1.2.1
  exact(HB (Eu q hq) Et).1
 refine Wp.step λR hR=>?_;simp only[wp_sAsg,asg_N,wp_eIf,wp_tBl,wp_e2,wp_lst,wp_aNil,wp_loc0,wp_locS,ï,ð];refine⟨by decide,Wp.of (ne_nil (xg aX S8 _)) ?_⟩;rw[wp_isBl];have fin:∀(on:eG) (s5:ag),dH on->Ss s0 k j ss s5->∀Ew:Option D,Ew=e5->m9 R Q (.nx [some (.aj k),some (bD ps),some (.int m),some (.lst ((gk ps m).map aX)),some (.aj j),Ew,some (.int d),some (.int (1+o)),some (.lst (k8.map (si ps m d))),some (.lst (sn.map D.int)),some (mD ha),some (aX ow),some (aX on)]) s5:=λon s5 Zu g5 Ew Zv=>by
  subst Zv;rw[aft_nx];subst hR;simp only[wp_sExpr,wp_app,wp_e2,wp_lst,wp_call,wp_aCons,wp_aNil,wp_loc0,wp_locS,wp_C];refine⟨(C9 (x:=.au) g5.at_ (by rw[Ä];omega)).1,?_⟩;refine(PU g5.st).mono λx s6 hx=>?_;obtain⟨p6,rfl,Zw,Ey,x6⟩:=hx;refine⟨by show 4<=Õ;decide,(dN Ey (by decide) (by decide)).mono λx s7 hx=>?_⟩;obtain⟨r,rfl,r0,r1,Zx,x7⟩:=hx;have g7:=g5.draw Zx (x6.trans x7);obtain⟨p,hp,e⟩:=tI (f:=aX) (xs:=[ow,ow,on,p6]) (s:=s7) r0 r1;have Zy:dH p:=by
   simp only[Ó,ĕ,or_false] at hp
   rcases hp with rfl|rfl|rfl|rfl
   ·exact own
   ·exact own
   ·exact Zu
   ·exact Zw
  refine Wp.of e (Wp.of (C9 g7.at_ (by rw[Ä];omega)).2 (q p _ _ _ _ _ _ _ _ ⟨g7.st.set g7.jk _,g7.ex.cell g7.hj,by rw[ã (Å.mp g7.at_).1,č];rfl,λy hy=>?_,g7.jk,g7.hj⟩))
  rcases Ù.mp hy with hy|hy
  ·exact g7.sh y hy
  ·rw[Ü.mp hy];exact Zy
 have lm:(gk ps m).length<=24:=by unfold gk;rw[Ä];exact Û (Ķ _ _) hl
 cases hd:((gk ps m).map aX).isEmpty with
 |true =>
  simp only[ë,Ã,ê];exact fin ow s4 own g4 _ rfl
 |false =>
  simp only[ś,û,wp_call,wp_eB,wp_aCons,wp_aNil,wp_loc0,wp_locS];refine Wp.of (show bN [.lst ((gk ps m).map aX)] s4=ok (.int (gk ps m).length) s4 by rw[show bN [.lst ((gk ps m).map aX)] s4=ok (.int (((gk ps m).map aX).length:Nat)) s4 from rfl,Ä]) ?_
  have hn:0<(gk ps m).length:=by cases hq:gk ps m with|nil=>rw[hq] at hd;cases hd|cons a b=>simp
  refine(dN oF (by omega) (by omega)).mono λx s5 hx=>?_;obtain⟨r,rfl,r0,r1,iH,x5⟩:=hx;obtain⟨p,hp,e⟩:=tI (f:=aX) (xs:=gk ps m) (s:=s5) r0 r1;exact Wp.of e (fin p s5 (hS p hp) (g4.draw iH x5) _ rfl)
def PZ (hb:eO ps=true) (hm:0<=m/\m<4) (h:bp s k):Wp (wV [.aj k,bD ps,.int m] s) λx s'=>∃ss,x=bA ss/\1<=ss.length/\ss.length<=3/\(∀p∈ss,dH p)/\bp s' k/\Ex k s s':=by
 obtain⟨hl,hg⟩:=nh hb;have Eu:∀p∈ps,dX p=true:=by
  have iO:=hb;unfold eO jq at iO;simp only[Ç,ý] at iO;exact iO.1.2.1
 unfold wV;refine wp_fn.symm ▸ ⟨rfl,?_⟩;refine nT (env':=[some (.aj k),some (bD ps),some (.int m),some (.lst ((gk ps m).map aX)),some (.aj s.length),none,none,none,none,none,none,none,none]) (s':=s++[.lst []]) (Wp.eq ?_) ?_
 ·rw[wp_par2]
  simp only[wp_aCons,wp_aNil,wp_new];refine Wp.of (PV (x:=some (.aj k)) hl Eu) ⟨by decide,_,_,rfl,rfl,rfl⟩
 have g0:Ss s k s.length [] (s++[.lst []]):=⟨h.app _,Ex.app k s _,by simp,λp hp=>(by cases hp),Ń h.lt,Nat.le_refl _⟩;generalize s++[Cell.lst []]=s1 at g0;generalize s.length=j at g0;refine Wp.step λR hR=>?_;rw[wp_sFor];refine Wp.mono (Q:=λds s2=>∃n:Nat,n<3/\ds=bP 0 (n+1)/\bp s2 k/\Ex k s1 s2) ?_ λds s2 hx=>?_
 ·have ht:=dN g0.st (m:=3) (by decide) (by decide)
  obtain⟨x,s2,e,r,rfl,r0,r1,dS,x2⟩:=ht;refine Wp.of (xq (i:=1+r) (n:=r.toNat+1) (Wp.eq ?_) (by omega) (by omega)) ⟨r.toNat,by omega,rfl,dS,x2⟩;simp only[VC];refine Wp.of e ?_;simp only[VC,ğ]
 obtain⟨n,hn,rfl,dS,x2⟩:=hx;have g2:=g0.draw dS x2;refine Wp.i7 (λi env t=>∃ss e5 e6 e7 e8 e9 dj lj ll,Ss s k j ss t/\ss.length=i/\env=[some (.aj k),some (bD ps),some (.int m),some (.lst ((gk ps m).map aX)),some (.aj j),e5,e6,e7,e8,e9,dj,lj,ll]) _ ⟨[],_,_,_,_,_,_,_,_,g2,rfl,rfl⟩ (λi d env t hd hI=>?_) λenv t hI=>?_
 ·obtain⟨ss,e5,e6,e7,e8,e9,dj,lj,ll,g,hl,rfl⟩:=hI
  have hi:=(Å.mp hd).1;rw[cq] at hi;refine⟨_,rfl,OB hb hm g (by omega) λp s' e6 e7 e8 e9 dj lj ll g'=>⟨_,_,_,_,_,_,_,_,_,g',by rw[â,hl];rfl,rfl⟩⟩
 ·obtain⟨ss,e5,e6,e7,e8,e9,dj,lj,ll,g,hl,rfl⟩:=hI
  rw[cq] at hl;rw[aft_nx];subst hR;simp only[wp_sRet,wp_eB,wp_aCons,wp_aNil,wp_loc0,wp_locS];refine Wp.of (show cF [.aj j] t=ok (bA ss) t by unfold cF;simp only[res,g.at_]) ?_;exact⟨ss,rfl,by omega,by omega,g.sh,g.st,g.ex⟩
def AX:d∈ck↔0<=d/\d<31:=by
 unfold ck;rw[ö];constructor
 ·rintro ⟨i,hi,rfl⟩
  rw[Ā] at hi;omega
 ·intro h
  exact⟨d.toNat,by rw[Ā];omega,by omega⟩
def Bv (h:0<=d/\d<31):ak (.lst (ck.map G)) (.int d) s=ok (G d) s:=by
 have e:dE (ck.map G) d=some (G d):=by
  rw[AV];unfold dE;rw[xJ h.1 (show d<(ck.length:Nat) by simp[ck];omega)];show Option.map G (ck[d.toNat]?)=_;unfold ck;rw[ç,Ĕ (by omega)];show some (G ((d.toNat:Nat):Int))=_;rw[show ((d.toNat:Nat):Int)=d by omega]
 simp only[ak,gZ,res,e,bB]
def ym (p:eG) (s:ag):ak (aX p) (.int 0) s=ok (mD p.1) s/\ak (aX p) (.int 1) s=ok (mD p.2) s:=⟨rfl,rfl⟩
def zB (p:eG) (a b:List Int):Bool:=kq p.1 b&&kq p.2 a
def Rm (h:dH p):xn [aX p,kC P A d] s=ok (.bl (zB p (k8.filter λk=>decide (d∈P k)) (k8.filter λk=>decide (d∈A k)))) s:=by
 have l1:=h.h.len;have l2:=h.l.len;refine Wp.eq ?_;unfold xn zB kC;simp only[VC,(ym p s).1];refine Wp.of (qw _ _ _).2 (Wp.of (As (by omega)) ?_);simp only[VC,(ym p s).2];generalize (k8.filter λk=>decide (d∈P k))=u;generalize (k8.filter λk=>decide (d∈A k))=v
 cases kq p.1 v with
 |false=>simp
 |true =>
  simp only[û,í];exact Wp.of (qw _ _ _).1 (Wp.of (As (by omega)) ⟨rfl,rfl⟩)
def ke (ps:List Pg) (m:Int) (p q:eG):List (List Int):=(p.1.filter λk=>decide (k∈q.2)).map λk=>bU ps m k
def Ga (hl:ps.length<=1000) (h:dH p):sQ [bD ps,.int m,aX p,aX q] s=ok (.lst ((ke ps m p q).map lI)) s:=by
 have l1:=h.h.len;refine Wp.eq ?_;unfold sQ;simp only[VC];refine Wp.of (iT (s1:=s) (ds:=p.1.map D.int) (Wp.eq (by simp only[VC,(ym p s).1,ğ]))) ⟨ib (by rw[Ä];omega),?_⟩;refine Wp.of (hZ (λk=>decide (k∈q.2)) (λk=>lI (bU ps m k)) p.1 λk _=>⟨[some (.int k),some (bD ps),some (.int m),some (aX q)],rfl,Wp.eq (by simp only[VC,(ym q s).2,oV,ğ]),λ_=>Wp.eq ?_⟩) ?_
 ·simp only[VC]
  exact Wp.of (xu hl) ⟨rfl,rfl⟩
 ·unfold ke
  rw[Ē];exact⟨rfl,rfl⟩
def JP (h:dH p) (hl:ps.length<=1000):(ke ps m p q).length<=8/\∀ds∈ke ps m p q,ds.length<=1000:=by
 unfold ke;refine⟨by rw[Ä];exact Û (Ķ _ _) h.h.len,λds hd=>?_⟩;obtain⟨k,_,rfl⟩:=ö.mp hd;exact Û tH hl
def uN (L:List (List Int)) (d l:Int):Bool:=decide (l<d)||L.all λds=>pV ds d l
def HC (h1:L.length<=8) (h2:∀ds∈L,ds.length<=1000):tm [.lst (L.map lI),.int d,.int l] s=ok (.bl (uN L d l)) s:=by
 refine Wp.eq ?_;unfold tm uN;simp only[VC]
 cases decide (l<d) with
 |true=>simp
 |false =>
  simp only[Ã,ê,abN];refine Wp.of (iw (ds:=L.map lI) rfl) ⟨ib (by rw[Ä];omega),?_⟩;refine Wp.of (comp_map lI (λ_=>true) (λds=>.bl (pV ds d l)) L λds hd=>⟨[some (lI ds),some (.int d),some (.int l)],rfl,rfl,λ_=>Wp.eq ?_⟩) ?_
  ·simp only[VC]
   exact Wp.of (GK (h2 ds hd)) ⟨rfl,rfl⟩
  rw[filter_tt];exact Wp.of (nr _ _ _) ⟨rfl,rfl⟩
noncomputable abbrev Tb:=Int->Int->Bool
def jx (t:Tb):D:=.lst (ck.map λd=>.lst (ck.map λl=>.bl (t d l)))
def sP (ps:List Pg) (m:Int) (p q:eG):Tb:=λd l=>uN (ke ps m p q) d l&&uN (ke ps m q p) l d
def NI (hl:ps.length<=1000) (hp:dH p) (hq:dH q):wc [bD ps,.int m,aX p,aX q] s=ok (jx (sP ps m p q)) s:=by
 obtain⟨a1,a2⟩:=JP (m:=m) (q:=q) hp hl;obtain⟨b1,b2⟩:=JP (m:=m) (q:=p) hq hl;refine Wp.eq ?_;unfold wc;simp only[VC];refine Wp.of (Ga hl hp) ?_;refine Wp.of (Ga hl hq) ?_;refine Wp.of (eI (n:=31) rfl (by decide)) ⟨by rw[cq];exact le_size (by decide),?_⟩;rw[uA];refine Wp.of (hZ (λ_=>true) (λd=>.lst (ck.map λl=>.bl (sP ps m p q d l))) ck λd _=>⟨[some (.int d),some (.lst ((ke ps m p q).map lI)),some (.lst ((ke ps m q p).map lI))],rfl,rfl,λ_=>Wp.eq ?_⟩) ?_
 ·simp only[VC]
  refine Wp.of (eI (n:=31) rfl (by decide)) ⟨by rw[cq];exact le_size (by decide),?_⟩;rw[uA];refine Wp.of (hZ (λ_=>true) (λl=>.bl (sP ps m p q d l)) ck λl _=>⟨[some (.int l),some (.lst ((ke ps m p q).map lI)),some (.int d),some (.lst ((ke ps m q p).map lI))],rfl,rfl,λ_=>Wp.eq ?_⟩) ?_
  ·simp only[VC]
   refine Wp.of (HC a1 a2) ?_;simp only[VC,sP]
   cases uN (ke ps m p q) d l with
   |false=>simp
   |true =>
    simp only[û,í];exact Wp.of (HC b1 b2) ⟨rfl,rfl⟩
  ·rw[filter_tt];exact⟨rfl,rfl⟩
 ·rw[filter_tt];exact⟨rfl,rfl⟩
def Rn (ts:List Tb) (ds:List Int):fc (ts.map jx) (ds.map D.int)=(ts.zip ds).map λp=>D.tup [jx p.1,.int p.2]:=by
 unfold fc;rw[List.zip_map,Ē];rfl
def free_eq {ts:List Tb} {ds:List Int} {d:Int} {s:ag} (ht:ts.length<=10) (hd:0<=d/\d<31) (qc:∀x∈ds,0<=x/\x<31):wW [.lst (ts.map jx),mD ds,.int d] s=ok (.bl ((ts.zip ds).all λp=>p.1 p.2 d)) s:=by
 refine Wp.eq ?_;unfold wW;simp only[VC];refine Wp.of (show BV (ae (aa 0) (ae (aa 1) ah)) [some (.lst (ts.map jx)),some (mD ds),some (.int d)] s=ok (fc (ts.map jx) (ds.map D.int)) s from rfl) ⟨?_,?_⟩
 ·rw[oO,Ä]
  exact ib (by omega)
 rw[Rn];refine Wp.of (comp_map (λp:Tb×Int=>D.tup [jx p.1,.int p.2]) (λ_=>true) (λp=>.bl (p.1 p.2 d)) (ts.zip ds) λp hp=>⟨[some (jx p.1),some (.int p.2),some (.int d)],rfl,rfl,λ_=>Wp.eq ?_⟩) ?_
 ·simp only[VC]
  have h2:=qc p.2 (aae hp).2;refine Wp.of (show ak (jx p.1) (.int p.2) s=ok (.lst (ck.map λl=>.bl (p.1 p.2 l))) s from Bv h2) ?_;exact Wp.of (Bv hd) ⟨rfl,rfl⟩
 rw[filter_tt];exact Wp.of (nr _ _ _) ⟨rfl,rfl⟩
def iS:eG:=([],[])
def n9 (ps:List Pg) (m:Int) (p:eG):List Int:=ck.filter λd=>zB p (k8.filter λk=>decide (d∈jH ps m k)) (k8.filter λk=>decide (d∈iQ ps m k))
def pC (ps:List Pg) (m:Int) (ss:List eG) (i:Nat):List Tb:=(ß i).map λa=>sP ps m (ss.getD a iS) (ss.getD i iS)
def v5 (ps:List Pg) (m:Int) (ss:List eG) (i:Nat) (dt:List Int):List (List Int):=((n9 ps m (ss.getD i iS)).filter λd=>((pC ps m ss i).zip dt).all λp=>p.1 p.2 d).map λd=>dt++[d]
def fH (ps:List Pg) (m:Int) (ss:List eG):Nat->List (List Int)
 |0=>[[]]
 |i+1=>(fH ps m ss i).flatMap (v5 ps m ss i)
def Dt (n:Nat) (dt:List Int):Prop:=dt.length=n/\∀d∈dt,0<=d/\d<31
def Bw:∀dt∈fH ps m ss i,Dt i dt:=by
 induction i with
 |zero=>intro dt h;rw[fH,Ü] at h;subst h;exact⟨rfl,λd hd=>(by cases hd)⟩
 |succ i ih =>
  intro dt h;rw[fH] at h;obtain⟨b,hb,h⟩:=ŭ.mp h;obtain⟨d,hd,rfl⟩:=ö.mp h;obtain⟨l,r⟩:=ih b hb;refine⟨by rw[â,l];rfl,λx hx=>?_⟩
  rcases Ù.mp hx with hx|hx
  ·exact r x hx
  ·rw[Ü.mp hx]
   exact AX.mp (ć.mp (ć.mp hd).1).1
def S9:(fH ps m ss i).length<=31 ^ i:=by
 induction i with
 |zero=>simp[fH]
 |succ i ih =>
  rw[fH,Nat.pow_succ];refine Û (qN (b:=31) λx _=>?_) (aaz 31 ih);unfold v5 n9;rw[Ä];exact Û (Ķ _ _) (Û (Ķ _ _) (by simp[ck]))
def Bx {i:Nat} (h:i<ss.length):ak (bA ss) (.int i) s=ok (aX (ss.getD i iS)) s:=by
 have e:dE (ss.map aX) (i:Int)=some (aX (ss.getD i iS)):=by
  rw[AV];unfold dE;rw[xJ (by omega) (by omega)];show Option.map aX (ss[(i:Int).toNat]?)=_;rw[õ,Ð h,List.getD_eq_getElem?_getD,Ð h];rfl
 simp only[ak,gZ,res,e,bB]
def IK {ss:List eG} (h:∀p∈ss,dH p) {i:Nat} (hi:i<ss.length):dH (ss.getD i iS):=by
 rw[List.getD_eq_getElem?_getD,Ð hi];exact h _ (aaK hi)
def NJ {ps:List Pg} {m:Int} {ss:List eG} {i:Nat} {s:ag} {e6 e7:Option D} {Q:Fl->ag->Prop} (hl:ps.length<=1000) (h3:ss.length<=3) (hs:∀p∈ss,dH p) (hi:i<ss.length)
  (q:∀e6 e7,Q (.nx [some (bD ps),some (.int m),some (bA ss),some (.lst (ck.map (kC (jH ps m) (iQ ps m)))),some (.lst ((fH ps m ss (i+1)).map mD)),some (.int i),e6,e7]) s) :
  Wp (zQ [some (bD ps),some (.int m),some (bA ss),some (.lst (ck.map (kC (jH ps m) (iQ ps m)))),some (.lst ((fH ps m ss i).map mD)),some (.int i),e6,e7] s) Q:=by
 have hp:=IK hs hi;unfold zQ;refine nT (env':=[some (bD ps),some (.int m),some (bA ss),some (.lst (ck.map (kC (jH ps m) (iQ ps m)))),some (.lst ((fH ps m ss i).map mD)),some (.int i),some (lI (n9 ps m (ss.getD i iS))),e7]) (s':=s) (Wp.eq ?_) ?_
 ·simp only[wp_sAsg,asg_N,wp_comp]
  refine Wp.of (eI (n:=31) rfl (by decide)) ⟨by rw[cq];exact le_size (by decide),?_⟩;rw[uA];refine Wp.of (hZ (λd=>zB (ss.getD i iS) (k8.filter λk=>decide (d∈jH ps m k)) (k8.filter λk=>decide (d∈iQ ps m k))) (λd=>.int d) ck λd hd=>⟨[some (.int d),some (bA ss),some (.int i),some (.lst (ck.map (kC (jH ps m) (iQ ps m))))],rfl,Wp.eq ?_,λ_=>rfl⟩) ⟨rfl,rfl⟩;simp only[VC,Bx hi,Bv (AX.mp hd)];refine Wp.of (Rm hp) ?_;rw[wp_truB];exact⟨rfl,rfl⟩
 refine nT (env':=[some (bD ps),some (.int m),some (bA ss),some (.lst (ck.map (kC (jH ps m) (iQ ps m)))),some (.lst ((fH ps m ss i).map mD)),some (.int i),some (lI (n9 ps m (ss.getD i iS))),some (.lst ((pC ps m ss i).map jx))]) (s':=s) (Wp.eq ?_) ?_
 ·simp only[wp_sAsg,asg_N,wp_comp]
  refine Wp.of (eI (n:=i) rfl (by omega)) ⟨by rw[cq];exact le_size (by omega),?_⟩;rw[xr];refine Wp.of (comp_map (λa:Nat=>D.int (0+(a:Int))) (λ_=>true) (λa:Nat=>jx (sP ps m (ss.getD a iS) (ss.getD i iS))) (ß i) λa ha=>⟨[some (.int (0+(a:Int))),some (bD ps),some (.int m),some (bA ss),some (.int i)],rfl,rfl,λ_=>Wp.eq ?_⟩) ?_
  ·have ha:=Ā.mp ha
   simp only[VC];rw[aaV];refine Wp.of (Bx (show a<ss.length by omega)) (Wp.of (Bx hi) ?_);exact Wp.of (NI hl (IK hs (by omega)) hp) ⟨rfl,rfl⟩
  ·rw[filter_tt]
   unfold pC;rw[Ē];exact⟨rfl,rfl⟩
 simp only[wp_sAsg,asg_N];show Wp (rf 2 [7,6] _ _ _ _ _ _ _ _ _) _;unfold rf;rw[Ar];refine Wp.of (iw (ds:=(fH ps m ss i).map mD) rfl) ?_;refine Wp.of (o9 mD (λ_=>true) (λdt=>(v5 ps m ss i dt).map mD) _ λdt Zz=>⟨[some (mD dt),none,some (.lst ((pC ps m ss i).map jx)),some (lI (n9 ps m (ss.getD i iS)))],rfl,rfl,λ_=>?_⟩) ?_
 ·obtain⟨dl,dd⟩:=Bw dt Zz
  unfold more;rw[iw (ds:=(n9 ps m (ss.getD i iS)).map D.int) rfl,dO];rw[o9 D.int (λd=>((pC ps m ss i).zip dt).all λp=>p.1 p.2 d) (λd=>[mD (dt++[d])]) (n9 ps m (ss.getD i iS)) λd hd=>⟨[some (mD dt),some (.int d),some (.lst ((pC ps m ss i).map jx)),some (lI (n9 ps m (ss.getD i iS)))],rfl,Wp.eq ?_,λ_=>Wp.eq ?_⟩]
  ·unfold v5
   rw[Ē,<- abZ];rfl
  ·simp only[VC]
   refine Wp.of (free_eq (by unfold pC;rw[Ä,ľ];omega) (AX.mp (ć.mp hd).1) dd) ?_;rw[wp_truB];exact⟨rfl,rfl⟩
  ·unfold emit
   rw[bF];simp only[VC];refine⟨by decide,?_⟩;refine Wp.of (show bR (mD dt) (.tup [.int d]) _=_ from fP (b:=[d]) (by rw[dl];simp;omega)) ?_;simp
 ·rw[filter_tt]
  have e:((fH ps m ss i).flatMap λdt=>(v5 ps m ss i dt).map mD)=(fH ps m ss (i+1)).map mD:=by
   rw[fH,List.map_flatMap]
  rw[e];refine⟨?_,q _ _⟩;rw[Ä];refine le_size (Û S9 ?_);have:i+1<=3:=by omega
  exact Û (Nat.pow_le_pow_right (by decide) this) (by decide)
def OC (hl:ps.length<=1000) (h3:ss.length<=3) (hs:∀p∈ss,dH p):Wp (wX [bD ps,.int m,bA ss] s) λx s'=>x=.lst ((fH ps m ss ss.length).map mD)/\∃c,s'=s++c:=by
 unfold wX;refine wp_fn.symm ▸ ⟨rfl,Wp.step λR hR=>?_⟩;simp only[VC];refine(SY hl).mono λx s1 hx=>?_;obtain⟨rfl,c,rfl⟩:=hx;subst hR;refine nT (env':=[some (bD ps),some (.int m),some (bA ss),some (.lst (ck.map (kC (jH ps m) (iQ ps m)))),some (.lst ((fH ps m ss 0).map mD)),none,none,none]) (s':=s++c) rfl ?_;refine Wp.step λR hR=>?_;rw[wp_sFor];refine Wp.of (eI (s1:=s++c) (n:=ss.length) (Wp.eq ?_) (by omega)) ?_
 ·simp only[VC]
  exact Wp.of (show bN [bA ss] (s++c)=ok (.int ss.length) (s++c) by rw[show bN [bA ss] (s++c)=ok (.int ((ss.map aX).length:Nat)) (s++c) from rfl,Ä]) ⟨rfl,rfl⟩
 refine Wp.i7 (λi env t=>t=s++c/\∃e5 e6 e7,env=[some (bD ps),some (.int m),some (bA ss),some (.lst (ck.map (kC (jH ps m) (iQ ps m)))),some (.lst ((fH ps m ss i).map mD)),e5,e6,e7]) _ ⟨rfl,_,_,_,rfl⟩ (λi d env t hd hI=>?_) λenv t hI=>?_
 ·obtain⟨rfl,e5,e6,e7,rfl⟩:=hI
  rw[gG] at hd;split at hd
  ·rename_i hi
   have hd:D.int (0+(i:Int))=d:=Option.some.inj hd;rw[aaV] at hd;subst hd;exact⟨_,rfl,NJ hl h3 hs hi λe6 e7=>⟨rfl,_,_,_,rfl⟩⟩
  ·cases hd
 ·obtain⟨rfl,e5,e6,e7,rfl⟩:=hI
  rw[cq,aft_nx];subst hR;simp only[wp_sRet,wp_loc0,wp_locS,fin_rt];exact⟨trivial,c,rfl⟩
noncomputable def v7:Int->List Int->Int
 |b,[]=>b
 |b,d::ds=>if b<d then v7 d ds else v7 b ds
noncomputable def v8:Int->List Int->Int
 |b,[]=>b
 |b,d::ds=>if d<b then v8 d ds else v8 b ds
def Ce:∀(ds:List Int) (b:Int),n0 rW (.int b) (ds.map D.int) s=ok (.int (v7 b ds)) s
 | [],b=>rfl
 |d::ds,b=>by
  rw[Ö];unfold n0 v7;rw[zp,jP,dO];by_cases h:b<d
  ·rw[Ý h,Ú h];exact Ce ds d
  ·rw[ñ h,æ h];exact Ce ds b
def Cf:∀(ds:List Int) (b:Int),n0 xV (.int b) (ds.map D.int) s=ok (.int (v8 b ds)) s
 | [],b=>rfl
 |d::ds,b=>by
  rw[Ö];unfold n0 v8;rw[show xV (.int d) (.int b) s=ok (.bl (decide (d<b))) s from rfl,jP,dO];by_cases h:d<b
  ·rw[Ý h,Ú h];exact Cf ds d
  ·rw[ñ h,æ h];exact Cf ds b
def mx:List Int->Int
 | []=>0
 |d::ds=>v7 d ds
def mn:List Int->Int
 | []=>0
 |d::ds=>v8 d ds
def max_eq (h:ds≠[]):yh [mD ds] s=ok (.int (mx ds)) s/\ux [mD ds] s=ok (.int (mn ds)) s:=by
 cases ds with
 |nil=>exact absurd rfl h
 |cons d ds=>exact⟨Ce ds d,Cf ds d⟩
abbrev og (ds:List Int):D:=.tup [.int (mx ds-mn ds),.int (mn ds),mD ds]
def HD (h:ds≠[]):mm [mD ds] s=ok (og ds) s:=by
 refine Wp.eq ?_;unfold mm;simp only[VC];refine Wp.of (max_eq h).1 (Wp.of (max_eq h).2 ?_);simp only[VC];exact Wp.of (max_eq h).2 ⟨by decide,rfl,rfl⟩
def v9 (a b:List Int):Bool:=if (mx a-mn a==mx b-mn b)=true then (if (mn a==mn b)=true then (if beq (mD a) (mD b)=true then false else yH a b) else decide (mn a<mn b)) else decide (mx a-mn a<mx b-mn b)
def Va:fX (og a) (og b) s=ok (.bl (v9 a b)) s:=by
 have l1:∀l,lay (og l)=true:=λl=>by simp only[lay,DI.cG,qI,Ĥ]
 have d1:dep (og a)<=30:=by simp only[dep,cC,GJ];decide
 have e:iq (og a) (og b)=some (v9 a b):=by
  show fO [.int (mx a-mn a),.int (mn a),mD a] [.int (mx b-mn b),.int (mn b),mD b]=_;unfold v9
  cases h:(mx a-mn a==mx b-mn b) with
  |true =>
   rw[xK (show beq (.int (mx a-mn a)) (.int (mx b-mn b))=true from h),Ú rfl]
   cases h1:(mn a==mn b) with
   |true =>
    rw[xK (show beq (.int (mn a)) (.int (mn b))=true from h1),Ú rfl]
    cases h2:beq (mD a) (mD b) with
    |true=>rw[xK h2,Ú rfl];rfl
    |false=>rw[xM h2,æ Ë];exact JN a b
   |false =>
    rw[xM (show beq (.int (mn a)) (.int (mn b))=false from h1),æ Ë];rfl
  |false =>
   rw[xM (show beq (.int (mx a-mn a)) (.int (mx b-mn b))=false from h),æ Ë];rfl
 unfold fX;rw[Ú (by rw[l1 a,l1 b,Ý d1];rfl),e];rfl
def mF:List Int->List (List Int)->List Int
 |b,[]=>b
 |b,y::ys=>if v9 y b=true then mF y ys else mF b ys
def Aw:∀{ys:List (List Int)} {b:List Int},mF b ys=b\/mF b ys∈ys
 | [],b=>.inl rfl
 |y::ys,b=>by
  unfold mF;split
  ·rcases Aw (ys:=ys) (b:=y) with h|h
   ·rw[h];exact .inr Ò
   ·exact .inr (Ñ _ h)
  ·rcases Aw (ys:=ys) (b:=b) with h|h
   ·exact .inl h
   ·exact .inr (Ñ _ h)
def JQ:∀(ys:List (List Int)) (b:List Int),(∀y∈ys,y≠[])->pU (λd s=>mm [d] s) fX (mD b) (og b) (ys.map mD) s=ok (mD (mF b ys)) s
 | [],b,_=>rfl
 |y::ys,b,h=>by
  have h1:=HD (s:=s) (h y Ò);have ih:=λb=>JQ (s:=s) ys b λz hz=>h z (Ñ _ hz);rw[Ö];unfold pU;simp only[h1,jP,dO,Va,mF]
  cases v9 y b with
  |true=>simp only[û];exact ih y
  |false=>simp only[Ã,ê];exact ih b
def pE:List (List Int)->Option (List Int)
 | []=>none
 |x::xs=>some (mF x xs)
def uO:Option (List Int)->D
 |none=>.au
 |some x=>mD x
def Ro (h:pE L=some x):x∈L:=by
 cases L with
 |nil=>cases h
 |cons y ys =>
  have h:mF y ys=x:=Option.some.inj h;subst h
  rcases Aw (ys:=ys) (b:=y) with h|h
  ·rw[h];exact Ò
  ·exact Ñ _ h
def Rp (h:∀y∈L,y≠[]):x9 mm (.lst (L.map mD)) s=ok (uO (pE L)) s:=by
 show BQ (λd s=>mm [d] s) fX (some .au) (L.map mD) s=_
 cases L with
 |nil=>rfl
 |cons x xs =>
  rw[Ö];show ao (ne (mm [mD x] s)) (λk s=>pU (λd s=>mm [d] s) fX (mD x) k (xs.map mD) s)=_;rw[HD (h x Ò),jP,dO];exact JQ xs x λy hy=>h y (Ñ _ hy)
def Ax (hb:eO ps=true) (hm:0<=m/\m<4) (h1:1<=ss.length) (h3:ss.length<=3) (hs:∀p∈ss,dH p):sS [bD ps,.int m,bA ss] s=ok .au s:=by
 obtain⟨hl,hg⟩:=nh hb;have ZA:wA [bA ss] s=ok (.bl true) s:=by
  refine Wp.eq ?_;unfold wA;simp only[VC];refine Wp.of (show cv [bA ss,.ty "tuple"] s=ok (.bl true) s from rfl) ?_;simp only[VC,û];refine Wp.of (show bN [bA ss] s=ok (.int ss.length) s by rw[show bN [bA ss] s=ok (.int ((ss.map aX).length:Nat)) s from rfl,Ä]) ?_;simp only[VC];rw[Ý (show (1:Int)<=ss.length by omega),Ú rfl,Ý (show (ss.length:Int)<=3 by omega),Ú rfl];refine Wp.of (iT (ds:=ss.map aX) rfl) ⟨ib (by rw[Ä];omega),?_⟩;refine Wp.of (comp_map aX (λ_=>true) (λ_=>.bl true) ss λp hp=>⟨[some (aX p)],rfl,rfl,λ_=>Wp.eq ?_⟩) ?_
  ·simp only[VC]
   have q:=hs p hp;have a1:=q.h.len;have a2:=q.l.len;refine Wp.of (show qH [aX p] s=_ from Hx (by omega) (by omega)) ?_;have e:kq p.1 p.2=true:=by
    unfold kq;rw[ē,aaw];intro x hx;simpa using q.ap x hx
   rw[wN q.h (Nat.le_refl _),wN q.l (Nat.le_refl _),e];exact⟨rfl,rfl⟩
  rw[filter_tt];refine Wp.of (nr (λ_=>true) _ _) ?_;simp
 refine Wp.eq ?_;unfold sS;simp only[VC];refine Wp.of (Rk (by omega) (λp hp=>(hg p hp).j3) hb) (Wp.of (PR hm) (Wp.of ZA ?_));simp only[VC,ë,Ã,ê,ğ]
def P0 (hb:eO ps=true) (hm:0<=m/\m<4) (h1:1<=ss.length) (h3:ss.length<=3) (hs:∀p∈ss,dH p):Wp (wI [bD ps,.int m,bA ss] s) λx s'=>x=uO (pE (fH ps m ss ss.length))/\∃c,s'=s++c:=by
 obtain⟨hl,hg⟩:=nh hb;unfold wI;simp only[VC];refine Wp.of (Ax hb hm h1 h3 hs) ?_;refine(OC (by omega) h3 hs).mono λx s1 hx=>?_;obtain⟨rfl,c,rfl⟩:=hx;refine Wp.of (Rp λy hy=>?_) ⟨rfl,c,rfl⟩;have:=(Bw y hy).1;intro z;rw[z] at this;simp at this;omega
def Rq (h:jo ps=[]) (hm:0<=m/\m<4) (hk:0<=k/\k<8):nu (sN ps m k) (lN ps m k) (mN ps m k):=by
 intro d e hs Es he hc;simp only[sN,lN,mN,È] at hs hc;have c:lp ps m k d e=false:=by
  cases hc:lp ps m k d e with
  |false=>rfl
  |true =>
   exfalso;have jD:((d:Int),(e:Int))∈ku ps m k:=by
    refine ŭ.mpr ⟨d,ng.mpr hs,ö.mpr ⟨e,ć.mpr ⟨?_,hc⟩,rfl⟩⟩;exact ö.mpr ⟨e-d,Ā.mpr (by omega),by omega⟩
   have:(m,k,(d:Int),(e:Int))∈jo ps:=ŭ.mpr ⟨m,Bs.mpr hm,ŭ.mpr ⟨k,rA.mpr hk,ö.mpr ⟨((d:Int),(e:Int)),jD,rfl⟩⟩⟩;rw[h] at this;cases this
 unfold lp at c;have c1:(decide ((e:Int)∈cR ps m k)||(decide ((e:Int)=(d:Int))&&decide ((d:Int)∈bU ps m k)))=true:=by
  rcases hc with hc | ⟨h1,h2⟩
  ·rw[Ý hc];rfl
  ·rw[Ý (show (e:Int)=d by omega),Ý h2];simp
 rw[c1,í,Bool.not_eq_false'] at c;unfold pV at c;obtain⟨x,hx,hb⟩:=Ņ.mp c;simp only[Ç,È] at hb;refine⟨x.toNat,by omega,by omega,?_⟩;simp only[mN,È];rw[show ((x.toNat:Nat):Int)=x by omega];exact hx
def mj (ps:List Pg) (m k:Int):Bool:=(ß 31).all λd=>(bw (sN ps m k) (lN ps m k) (mN ps m k) d).1||(bw (sN ps m k) (lN ps m k) (mN ps m k) d).2
def IL:mj ps m k=true↔nu (sN ps m k) (lN ps m k) (mN ps m k):=by
 unfold mj;rw[ý];constructor
 ·intro h
  refine OA λd hd e=>?_;have:=h d (by rw[Ā];omega);rw[e] at this;cases this
 ·intro N d hd
  rw[Ā] at hd;have:=IJ N (show d<=30 by omega);generalize bw (sN ps m k) (lN ps m k) (mN ps m k) d=x at this;obtain⟨f,t⟩:=x
  cases f<;>cases t<;>first|rfl|exact(this rfl).elim
def Rr (x:Bool×Bool):lay (sf x)=true:=by
 obtain⟨f,t⟩:=x
 cases f<;>cases t<;>rfl
def Vb:cy (.tup []) (sg ps m k) s=ok (.bl (!mj ps m k)) s:=by
 unfold cy sg;simp only[nP,res,inD];rw[Ú (by unfold ph;rw[show lay (.tup [])=true from rfl,xg _ (λd=>Rr _),Ĥ,í];rfl)];simp only[Ŏ,bB];congr 2;unfold mj;rw[List.any_map,List.not_all_eq_any_not];congr 1;funext d;simp only[Function.comp];generalize bw (sN ps m k) (lN ps m k) (mN ps m k) d=x;obtain⟨f,t⟩:=x
 cases f<;>cases t<;>rfl
def eU (m:Int) (ds:List Int) (ss:List eG):List Pg:=(ds.zip ss).map λp=>Pg.made m p.1 p.2.1 p.2.2
def IM (h:p∈eU m ds ss):∃d sh,d∈ds/\sh∈ss/\p=.made m d sh.1 sh.2:=by
 unfold eU at h;obtain⟨q,hq,rfl⟩:=ö.mp h;exact⟨q.1,q.2,(aae hq).1,(aae hq).2,rfl⟩
def AY (h:ss.length<=3):(eU m ds ss).length<=3:=by
 unfold eU;rw[Ä,List.length_zip];omega
def z9 (hb:eO ps=true) (hd:∀d∈ds,0<=d/\d<31) (hs:∀p∈ss,dH p):∀p∈ps++eU m ds ss,(0<=p.day/\p.day<31)/\j3 p/\tZ p:=λp hp=>by
 obtain⟨hl,hg⟩:=nh hb
 rcases Ù.mp hp with hp|hp
 ·exact⟨(hg p hp).day,(hg p hp).j3,(hg p hp).apart⟩
 ·obtain⟨d,sh,h1,h2,rfl⟩:=IM hp
  have q:=hs sh h2;have a1:=q.h.len;have a2:=q.l.len;exact⟨hd d h1,⟨by omega,by omega⟩,q.ap⟩
def OD (h:¬ m'=m):shown (ps++eU m ds ss) m' k=shown ps m' k/\cR (ps++eU m ds ss) m' k=cR ps m' k/\bU (ps++eU m ds ss) m' k=bU ps m' k:=by
 have no:∀f:Pg->Bool,(∀d a b,f (.made m d a b)=false)->((ps++eU m ds ss).filter f).map Pg.day=(ps.filter f).map Pg.day:=λf hf=>by
  have e:(eU m ds ss).filter f=[]:=by
   rw[abd];intro p hp;obtain⟨d,sh,_,_,rfl⟩:=IM hp;rw[hf];exact Ë
  rw[aa7,e,Ō]
 have h':¬ m=m':=λe=>h e.symm;exact⟨no _ λd a b=>by simp[ka,h'],no _ λd a b=>by simp[kc,h'],no _ λd a b=>by simp[je]⟩
def OE (hb:eO ps=true) (hq:ps.length<=21) (h3:ss.length<=3) (hm:0<=m/\m<4) (hd:∀d∈ds,0<=d/\d<31) (hs:∀p∈ss,dH p):(jo (ps++eU m ds ss)).isEmpty=k8.all λk=>mj (ps++eU m ds ss) m k:=by
 rw[Š,abG,ý];constructor
 ·intro h k hk
  exact IL.mpr (Rq h hm (rA.mp hk))
 ·intro h
  refine FY ⟨by have:=AY (m:=m) (ds:=ds) h3;rw[â];omega,λp hp=>(z9 hb hd hs p hp).1⟩ λm' ZC k hk=>?_;by_cases e:m'=m
  ·subst e
   exact IL.mp (h k hk)
  ·have N:=IC hb (Bs.mp ZC) (rA.mp hk)
   obtain⟨e1,e2,e3⟩:=OD (ps:=ps) (k:=k) (ds:=ds) (ss:=ss) e;unfold sN lN mN at N |-;rw[e1,e2,e3];exact N
def JR (h:a.length+b.length<=1000):bR (bD a) (bD b) s=ok (bD (a++b)) s:=by
 unfold bR bD;simp only[rT,res];rw[Ú (by unfold pP;rw[Ä,Ä];exact Ý (le_size (by omega))),č];rfl
def P1 {m:Int} {ds:List Int}:(fc (ds.map D.int) (ss.map aX))=(ds.zip ss).map λp=>D.tup [.int p.1,aX p.2]:=by
 unfold fc;rw[List.zip_map,Ē];rfl
def OF {m:Int} {ds:List Int}:(fc (ss.map aX) (ds.map D.int))=(ds.zip ss).map λp=>D.tup [aX p.2,.int p.1]:=by
 induction ds generalizing ss with
 |nil=>cases ss<;>rfl
 |cons d ds ih =>
  cases ss with
  |nil=>rfl
  |cons s ss=>exact Ĺ (D.tup [aX s,.int d]::·) ih
def P2 (hb:eO ps=true) (hd:∀d∈ds,0<=d/\d<31) (h3:ss.length<=3) (hs:∀p∈ss,dH p):Wp (tB [bD ps,.int m,bA ss,mD ds] s) λx s'=>x=.bl (k8.all λk=>mj (ps++eU m ds ss) m k)/\∃c,s'=s++c:=by
 obtain⟨hl,hg⟩:=nh hb;have l3:=AY (m:=m) (ds:=ds) h3;unfold tB;refine wp_fn.symm ▸ ⟨rfl,?_⟩;refine nT (env':=[some (bD ps),some (.int m),some (bA ss),some (mD ds),some (bD (ps++eU m ds ss))]) (s':=s) (Wp.eq ?_) ?_
 ·simp only[wp_sAsg,asg_N,wp_e2,wp_eB,wp_aCons,wp_aNil,wp_comp,wp_loc0,wp_locS,Ö,İ,ċ,ģ]
  refine Wp.of (show kI (ae (aa 2) (ae (aa 3) ah)) _ s=ok (fc (ss.map aX) (ds.map D.int)) s from rfl) ⟨by rw[oO,Ä,Ä];exact ib (by omega),?_⟩;rw[OF (m:=m)];refine Wp.of (comp_map (λp:Int×eG=>D.tup [aX p.2,.int p.1]) (λ_=>true) (λp=>(Pg.made m p.1 p.2.1 p.2.2).d) (ds.zip ss) λp _=>⟨[some (aX p.2),some (.int p.1),some (.int m)],rfl,rfl,λ_=>rfl⟩) ?_;rw[filter_tt];refine Wp.of (show cF [.lst ((ds.zip ss).map λp=>(Pg.made m p.1 p.2.1 p.2.2).d)] s=ok (bD (eU m ds ss)) s by unfold bD eU;rw[Ē];rfl) ?_;exact Wp.of (JR (by omega)) ⟨rfl,rfl⟩
 have mg:=z9 (m:=m) hb hd hs;have lm:(ps++eU m ds ss).length<=1000:=by rw[â];omega
 generalize ps++eU m ds ss=qs at mg lm;simp only[wp_sRet,wp_e2,wp_comp,wp_lst,wp_aNil];refine Wp.of (eI (n:=8) rfl (by decide)) ⟨by rw[cq];exact le_size (by decide),?_⟩;refine mr (λi acc s'=>acc=((((ß i).map λi:Nat=>(i:Int)).filter λk=>!mj qs m k)).map D.int/\∃c,s'=s++c) (bP 0 8) ⟨rfl,[],by simp⟩ (λi e acc s' he hI=>?_) λacc s' hI=>?_
 ·rw[gG] at he
  split at he
  ·rename_i hi
   have he:D.int (0+(i:Int))=e:=Option.some.inj he;rw[aaV] at he;subst he;obtain⟨rfl,c,rfl⟩:=hI;refine⟨[some (.int i),some (bD qs),some (.int m)],rfl,?_⟩;simp only[VC];refine⟨by decide,(JM lm mg).mono λx s2 hx=>?_⟩;obtain⟨rfl,c2,rfl⟩:=hx;refine Wp.of Vb ?_;rw[wp_isBl]
   cases hk:mj qs m i with
   |true =>
    simp only[ë,Ã,ê];refine⟨?_,c++c2,by simp⟩;rw[ſ,č,aa7];simp[hk]
   |false =>
    simp only[ś,û];refine⟨?_,c++c2,by simp⟩;rw[ſ,č,aa7,č];simp[hk]
  ·cases he
 ·rw[cq] at hI
  obtain⟨rfl,c,rfl⟩:=hI;refine⟨by decide,Wp.of (eq_nil (qI _)) ?_⟩;rw[fin_rt];refine⟨?_,c,rfl⟩;congr 1;rw[Š,abG,ab0,abd,ý];show (∀a∈k8,¬ (!mj qs m a)=true)↔_;simp
def Gb (h:iU ds=true) (hd:d∈ds):plain d=true:=by
 induction ds with
 |nil=>cases hd
 |cons e ds ih =>
  simp only[iU,Ç] at h
  rcases Ó.mp hd with z|z
  ·rw[z];exact h.1
  ·exact ih h.2 z
noncomputable def zC:D->Bool
 | .tup _=>true
 |_=>false
def IQ (h:plain d=true):cv [d,.ty "tuple"] s=ok (.bl (zC d)) s:=by
 cases d<;>first|rfl | (simp[plain] at h)
noncomputable def gR:D->Bool
 | .int i=>decide (0<=i)&&decide (i<31)
 |_=>false
def P4 (h:plain d=true) (hi:∀i,d≠.int i):lD [d,.int n] s=ok (.bl false) s:=by
 have no:∀d:D,cv [d,.ty "int"] s=ok (.bl false) s->lD [d,.int n] s=ok (.bl false) s:=λd h=>by
  refine Wp.eq ?_;unfold lD sU;simp only[VC,h,Ã,ê,ğ]
 cases d with
 |int i=>exact absurd rfl (hi i)
 |bl b =>
  refine Wp.eq ?_;unfold lD sU;simp only[VC];refine Wp.of (show cv [.bl b,.ty "int"] s=ok (.bl true) s from rfl) ?_;simp only[VC,û];refine Wp.of (show cv [.bl b,.ty "bool"] s=ok (.bl true) s from rfl) ?_;simp only[VC,ë,Ã,ê,ğ]
 |au=>exact no _ rfl
 |str x=>exact no _ rfl
 |tup ds=>exact no _ rfl
 |lst ds=>exact no _ rfl
 |bb ai=>exact no _ rfl
 |aj k=>simp[plain] at h
 |ty k=>simp[plain] at h
 |bG k=>simp[plain] at h
def Ta (h:plain d=true):nj [d] s=ok (.bl (gR d)) s:=by
 by_cases hi:∃i,d=.int i
 ·obtain⟨i,rfl⟩:=hi
  exact Br
 ·have e:gR d=false:=by
   cases d<;>first|rfl|exact(hi ⟨_,rfl⟩).elim
  refine Wp.eq ?_;unfold nj;simp only[VC];refine Wp.of (P4 h λi z=>hi ⟨i,z⟩) ?_;rw[e];exact⟨rfl,rfl⟩
def P5 {d:D} {s:ag} {e0 e1:Option D} (h:plain d=true):Wp (wu [e0,e1,some d] s) λfl s'=>s'=s/\if gR d=true then ∃e,fl=.nx e/\(∃y,e=[e0,e1,y]) else fl=.rt (.bl false):=by
 unfold wu
 have no:cv [d,.ty "int"] s=ok (.bl false) s->gR d=false->Wp (cj (fQ (fk (cN (eB cv (ae (aa 2) (ae (eC (.ty "int")) ah))))) (fQ (cN (eB cv (ae (aa 2) (ae (eC (.ty "bool")) ah)))) (fk (aH (mQ kJ kJ (eC (.int 0)) (aa 2) (eC (.int 30))))))) (aN (eC (.bl false))) cb [e0,e1,some d] s) λfl s'=>s'=s/\if gR d=true then ∃e,fl=.nx e/\(∃y,e=[e0,e1,y]) else fl=.rt (.bl false):=λh1 h2=>by
  simp only[VC,h1,h2,ś,û,Ã,ê,ğ]
 cases d with
 |int i =>
  simp only[VC];refine Wp.of (show cv [.int i,.ty "int"] s=ok (.bl true) s from rfl) ?_;simp only[VC,ë,Ã,ê];refine Wp.of (show cv [.int i,.ty "bool"] s=ok (.bl false) s from rfl) ?_;simp only[VC,Ã,ê,gR];by_cases h0:0<=i
  ·by_cases h1:i<31
   ·simp[h0,h1,show i<=30 by omega]
   ·simp[h0,h1,show ¬ i<=30 by omega]
  ·simp[h0]
 |bl b =>
  simp only[VC];refine Wp.of (show cv [.bl b,.ty "int"] s=ok (.bl true) s from rfl) ?_;simp only[VC,ë,Ã,ê];refine Wp.of (show cv [.bl b,.ty "bool"] s=ok (.bl true) s from rfl) ?_;simp[wp_truB,gR,wp_sIf,wp_sRet,wp_C]
 |au=>exact no rfl rfl
 |str x=>exact no rfl rfl
 |tup ds=>exact no rfl rfl
 |lst ds=>exact no rfl rfl
 |bb ai=>exact no rfl rfl
 |aj k=>simp[plain] at h
 |ty k=>simp[plain] at h
 |bG k=>simp[plain] at h
def Tc {α:Type} (f:α->D) (p:α->Bool) (E:Env->Prop):∀(xs:List α),(∀x∈xs,∀env,E env->∃env',g (f x) env=some env'/\Wp (b env' s) λfl s'=>s'=s/\if p x=true then ∃e,fl=.nx e/\E e else fl=.rt (.bl false)) ->
  ∀env,E env->Wp (jO g b (xs.map f) env s) λfl s'=>s'=s/\if xs.all p=true then ∃e,fl=.nx e/\E e else fl=.rt (.bl false):=by
 intro xs
 induction xs with
 |nil=>intro _ env h;exact Wp.ok ⟨rfl,by simpa using h⟩
 |cons x xs ih =>
  intro hs env h;obtain⟨env',e1,q⟩:=hs x Ò env h;rw[Ö];unfold jO;rw[e1];refine Wp.ao (q.mono λfl s' hq=>?_);obtain⟨rfl,hq⟩:=hq
  cases hp:p x with
  |false =>
   rw[hp,æ Ë] at hq;subst hq;exact Wp.ok ⟨rfl,by simp[hp]⟩
  |true =>
   rw[hp,Ú rfl] at hq;obtain⟨e,rfl,he⟩:=hq;refine(ih (λy hy=>hs y (Ñ _ hy)) e he).mono λfl s' z=>?_;simpa [hp] using z
def qD (n:Nat):D->Bool
 | .tup ds=>decide (ds.length=n)&&ds.all gR
 |_=>false
def Rt {n:Nat} (h:plain d=true) (hl:∀ds,d=.tup ds->ds.length<=1000):sT [d,.int n] s=ok (.bl (qD n d)) s:=by
 refine Wp.eq ?_;unfold sT;refine wp_fn.symm ▸ ⟨rfl,Wp.step λR hR=>?_⟩;simp only[VC];refine Wp.of (IQ h) ?_;rw[wp_truB]
 cases ht:zC d with
 |false =>
  have e:qD n d=false:=by cases d<;>first|rfl|cases ht
  simp[e,aft_rt,fin_rt]
 |true =>
  cases d with
  |tup ds =>
   have hd:∀x∈ds,plain x=true:=λx=>Gb (show iU ds=true from h);have hl:=hl ds rfl;simp only[ë,Ã,ê];refine Wp.of (show bN [.tup ds] s=ok (.int ds.length) s from rfl) ?_
   refine Wp.of (show gr (.int ds.length) (.int n) s=ok (.bl (!decide (ds.length=n))) s by rw[L0];by_cases e:ds.length=n<;>simp[e,Int.ofNat_inj]) ?_
   simp only[VC,qD];by_cases hn:ds.length=n
   ·simp only[hn,ę,ë,Ã,ê,í,aft_nx]
    subst hR;refine Wp.step λR hR=>?_;rw[wp_sFor];refine Wp.of (iT rfl) ?_;have:=Tc (g:=gN 2) (b:=wu) (s:=s) (λd:D=>d) gR (λe=>∃y,e=[some (.tup ds),some (.int n),y]) ds (λx hx env he=>by
     obtain⟨y,rfl⟩:=he;exact⟨_,rfl,P5 (hd x hx)⟩) [some (.tup ds),some (.int n),none] ⟨_,rfl⟩
    rw[List.map_id'' (λ_=>rfl)] at this;refine this.mono λfl s' z=>?_;obtain⟨rfl,z⟩:=z
    cases ha:ds.all gR with
    |false =>
     rw[ha,æ Ë] at z;subst z;rw[aft_rt,fin_rt];exact⟨rfl,rfl⟩
    |true =>
     rw[ha,Ú rfl] at z;obtain⟨e,rfl,y,rfl⟩:=z;rw[aft_nx];subst hR;simp only[wp_sRet,wp_C,fin_rt,ğ]
   ·simp[hn,aft_rt,fin_rt]
  |_=>cases ht
def zD:D->Bool
 | .tup ds=>ds.all gR
 |_=>false
def HE (h:plain d=true) (hl:∀ds,d=.tup ds->ds.length<=1000):wL [d] s=ok (.bl (zD d)) s:=by
 refine Wp.eq ?_;unfold wL;simp only[VC];refine Wp.of (IQ h) ?_;rw[wp_isBl]
 cases d with
 |tup ds =>
  have hd:∀x∈ds,plain x=true:=λx=>Gb (show iU ds=true from h);have hl:=hl ds rfl;simp only[zC,û];refine Wp.of (iT rfl) ⟨le_size (by omega),?_⟩;have cm:=comp_map (λd:D=>d) (nt:=1) (caps:=[]) (g:=gN 0) (t:=bT) (f:=ax nj (ae (aa 0) ah)) (s:=s) (λ_=>true) (λd=>.bl (gR d)) ds λx hx=>⟨[some x],rfl,rfl,λ_=>Wp.eq (by simp only[VC];exact Wp.of (Ta (hd x hx)) ⟨rfl,rfl⟩)⟩;rw[List.map_id'' (λ_=>rfl),filter_tt] at cm;refine Wp.of cm (Wp.of (nr gR ds s) ⟨rfl,rfl⟩)
 |_=>first|exact⟨rfl,rfl⟩ | (simp[zC];done) | (simp[plain] at h)
def Td (h:ds.all gR=true):∃is:List Int,ds=is.map D.int/\∀i∈is,0<=i/\i<31:=by
 induction ds with
 |nil=>exact⟨[],rfl,λ_ h=>(by cases h)⟩
 |cons d ds ih =>
  rw[List.all_cons,Ç] at h;obtain⟨is,rfl,hi⟩:=ih h.2
  cases d with
  |int i =>
   have h1:=h.1;simp only[gR,Ç,È] at h1;exact⟨i::is,rfl,λx hx=>(Ó.mp hx).elim (λe=>by rw[e];exact h1) (hi x)⟩
  |_=>cases h.1
def Vc (f:Int×Int×Int×Int):lay (fD f)=true:=rfl
def GS (hb:eO ps=true) (hq:ps.length<=21) (hm:0<=m/\m<4) (h1:1<=ss.length) (h3:ss.length<=3) (hs:∀p∈ss,dH p) (h:plain d=true) (hl:∀ds,d=.tup ds->ds.length<=1000) :
  (qD ss.length d=false->oK [bD ps,.int m,bA ss,d] s=ok (.bl false) s)/\∀is:List Int,d=mD is->is.length=ss.length->(∀i∈is,0<=i/\i<31)->oK [bD ps,.int m,bA ss,d] s=ok (.bl (k8.all λk=>mj (ps++eU m is ss) m k)) s:=by
 refine⟨λhg=>Wp.eq ?_,λis e hn hi=>Wp.eq ?_⟩
 ·unfold oK
  refine wp_fn.symm ▸ ⟨rfl,Wp.step λR hR=>?_⟩;simp only[VC];refine Wp.of (Ax hb hm h1 h3 hs) ?_;subst hR;refine Wp.step λR hR=>?_;simp only[VC];refine Wp.of (HE h hl) ?_;rw[wp_truB]
  cases ht:zD d with
  |false=>simp[aft_rt,fin_rt,wp_sRet,wp_C]
  |true =>
   simp only[ë,Ã,ê]
   cases d with
   |tup ds =>
    refine Wp.of (show bN [.tup ds] s=ok (.int ds.length) s from rfl) ?_;refine Wp.of (show bN [bA ss] s=ok (.int ss.length) s by rw[show bN [bA ss] s=ok (.int ((ss.map aX).length:Nat)) s from rfl,Ä]) ?_;simp only[VC];have:¬ ds.length=ss.length:=λe=>by
     simp only[qD,e,ę,í] at hg;simp only[zD] at ht;rw[ht] at hg;cases hg
    simp[this,Int.ofNat_inj,aft_rt,fin_rt,wp_sRet,wp_C]
   |_=>cases ht
 ·subst e
  unfold oK;refine wp_fn.symm ▸ ⟨rfl,Wp.step λR hR=>?_⟩;simp only[VC];refine Wp.of (Ax hb hm h1 h3 hs) ?_;subst hR;refine Wp.step λR hR=>?_;simp only[VC];have ht:zD (mD is)=true:=by
   show (is.map D.int).all gR=true;rw[List.all_map,ý];intro i hx;have:=hi i hx;simp[Function.comp,gR,this]
  refine Wp.of (HE h hl) ?_;rw[wp_truB,ht];simp only[ë,Ã,ê];refine Wp.of (show bN [mD is] s=ok (.int is.length) s by rw[show bN [mD is] s=ok (.int ((is.map D.int).length:Nat)) s from rfl,Ä]) ?_;refine Wp.of (show bN [bA ss] s=ok (.int ss.length) s by rw[show bN [bA ss] s=ok (.int ((ss.map aX).length:Nat)) s from rfl,Ä]) ?_;simp only[VC,hn,Ġ,ë,Ã,ê,aft_nx];subst hR;have l3:=AY (m:=m) (ds:=is) h3;refine nT (env':=[some (bD ps),some (.int m),some (bA ss),some (mD is),some (bD (eU m is ss))]) (s':=s) (Wp.eq ?_) ?_
  ·simp only[wp_sAsg,asg_N,wp_e2,wp_eB,wp_aCons,wp_aNil,wp_comp,wp_loc0,wp_locS,Ö,İ,ċ,ģ]
   refine Wp.of (show kI (ae (aa 3) (ae (aa 2) ah)) _ s=ok (fc (is.map D.int) (ss.map aX)) s from rfl) ⟨by rw[oO,Ä,Ä];exact ib (by omega),?_⟩;rw[P1 (m:=m)];refine Wp.of (comp_map (λp:Int×eG=>D.tup [.int p.1,aX p.2]) (λ_=>true) (λp=>(Pg.made m p.1 p.2.1 p.2.2).d) (is.zip ss) λp _=>⟨[some (.int p.1),some (aX p.2),some (.int m)],rfl,rfl,λ_=>rfl⟩) ?_;rw[filter_tt];exact Wp.of (show cF [.lst ((is.zip ss).map λp=>(Pg.made m p.1 p.2.1 p.2.2).d)] s=ok (bD (eU m is ss)) s by unfold bD eU;rw[Ē];rfl) ⟨rfl,rfl⟩
  simp only[VC];refine Wp.of (JR (by omega)) ?_;have dy:n5 (ps++eU m is ss):=⟨by rw[â];omega,λp hp=>(z9 hb hi hs p hp).1⟩;refine Wp.of (GN dy) ⟨by decide,Wp.of (eq_nil (xg fD Vc _)) ?_⟩;simp only[fin_rt];refine⟨?_,trivial⟩;rw[<- OE hb hq h3 hm hi hs]
  cases jo (ps++eU m is ss)<;>rfl
def Wm {ps:List Pg} {m:Int} {ss:List eG} {d:D} {s:ag} {e0 e1 ZD e6 e7 e9 dj:Option D} (hb:eO ps=true) (hq:ps.length<=21) (hm:0<=m/\m<4) (h1:1<=ss.length) (h3:ss.length<=3) (hs:∀p∈ss,dH p) (h:plain d=true) (hl:∀ds,d=.tup ds->ds.length<=1000) :
  Wp (cL (ax sT (ae (aa 8) (ae (eB bN (ae (aa 5) ah)) ah))) (ax tB (ae (aa 3) (ae (aa 4) (ae (aa 5) (ae (aa 8) ah))))) [e0,e1,ZD,some (bD ps),some (.int m),some (bA ss),e6,e7,some d,e9,dj] s) λx s'=>∃b c,x=.bl b/\s'=s++c/\∀t,oK [bD ps,.int m,bA ss,d] t=ok (.bl b) t:=by
 simp only[VC];refine Wp.of (show bN [bA ss] s=ok (.int ss.length) s by rw[show bN [bA ss] s=ok (.int ((ss.map aX).length:Nat)) s from rfl,Ä]) ?_;refine Wp.of (Rt h hl) ?_;rw[wp_isBl]
 cases hg:qD ss.length d with
 |false =>
  rw[æ Ë];exact⟨false,[],rfl,by simp,λt=>(GS (s:=t) hb hq hm h1 h3 hs h hl).1 hg⟩
 |true =>
  rw[Ú rfl]
  cases d with
  |tup ds =>
   simp only[qD,Ç,È] at hg;obtain⟨is,rfl,hi⟩:=Td hg.2;have hn:is.length=ss.length:=by rw[<- hg.1,Ä]
   refine(P2 (ds:=is) hb hi h3 hs).mono λx s' hx=>?_;obtain⟨rfl,c,rfl⟩:=hx;exact⟨_,c,rfl,rfl,λt=>(GS (s:=t) hb hq hm h1 h3 hs h hl).2 is rfl hn hi⟩
  |_=>cases hg
structure lu (d:D):Prop where
 pl:plain d=true
 sh:(py d).showable=true
 dp:(py d).depth<=3
 wt:(py d).weight<=1000
 lv:(py d).leavesShort 40=true
 nd:(py d).hasDict=false\/j7 (py d)=true
 ln:∀ds,d=.tup ds->ds.length<=1000
def Ez (d:D):Bool:=plain d&&(py d).showable&&decide ((py d).depth<=3)&&decide ((py d).weight<=1000)&&(py d).leavesShort 40&&(!(py d).hasDict||j7 (py d))&&(match d with | .tup ds=>decide (ds.length<=1000) | _=>true)
def Vd (h:Ez d=true):lu d:=by
 unfold Ez at h;simp only[Ç,È,Ž,ē] at h;obtain⟨⟨⟨⟨⟨⟨h0,h1⟩,h2⟩,h3⟩,h4⟩,h5⟩,h6⟩:=h;refine⟨h0,h1,h2,h3,h4,h5,λds e=>?_⟩;subst e;exact Ĭ h6
def Kw (h:Ft n W d) (hn:n<=3) (hw:W<=1000) (hl:∀ds,d=.tup ds->ds.length<=1000):lu d:=⟨h.pl,h.sh,Û h.dp hn,Û h.wt hw,h.lv,.inl h.nd,hl⟩
def GU (ns:List Int):i4 (bQ (ns.map D.int))=true:=by
 induction ns with
 |nil=>rfl
 |cons n r ih=>rw[Ö];simp only[bQ,py,i4,j7,ih,Ĥ]
def Te (ss:List eG):i4 (bQ (ss.map aX))=true:=by
 induction ss with
 |nil=>rfl
 |cons n r ih=>rw[Ö];simp only[aX,bQ,py,i4,j7,GU,ih,Ĥ]
def Tf (ps:List Pg):i4 (bQ (ps.map Pg.d))=true:=by
 induction ps with
 |nil=>rfl
 |cons p r ih=>rw[Ö];cases p<;>simp only[Pg.d,ti,bQ,py,i4,j7,GU,ih,Ĥ]
def Wn (h:dH p):Ft 2 1778 (aX p):=by
 refine nK (c:=2) (n:=1) (W:=888) (by simp) λx hx=>?_;simp only[Ó,ĕ,or_false] at hx
 rcases hx with rfl|rfl
 ·exact xN h.h
 ·exact xN h.l
def Ve (hb:eO ps=true) (h3:ss.length<=3) (hs:∀p∈ss,dH p) (h:lu d):uh [.tup [bD ps,bA ss,d]] s=ok (.str (py (.tup [bD ps,bA ss,d])).shown) s:=by
 obtain⟨l1,l2⟩:=nh hb;have F:Ft 4 (24*(7116+1)) (bD ps):=nK (by rw[Ä];exact l1) λx hx=>by
  obtain⟨p,hp,rfl⟩:=ö.mp hx;exact(l2 p hp).ft
 have G:Ft 3 (3*(1778+1)) (bA ss):=nK (by rw[Ä];exact h3) λx hx=>by
  obtain⟨p,hp,rfl⟩:=ö.mp hx;exact Wn (hs p hp)
 have nb:j7 (py (bD ps))=true:=Tf ps;have ns:j7 (py (bA ss))=true:=Te ss;generalize bD ps=B at F nb |-;generalize bA ss=S at G ns |-;have f3:=F.wt;have g3:=G.wt;have h3:=h.wt;have f2:=F.dp;have g2:=G.dp;have h2:=h.dp;have lv:(py (.tup [B,S,d])).leavesShort 40=true:=by simp only[py.eq_5,bQ,ab5,abD,Ř,F.lv,G.lv,h.lv]
 have l:=PyData.shown_le 40 (by decide) _ lv;have w:(py (.tup [B,S,d])).weight<=200000:=by
  show ace (.tuple [py B,py S,py d])<=200000;simp only[ace,χ];omega
 have dp:(py (.tup [B,S,d])).depth<=10:=by
  show PyData.depth (.tuple [py B,py S,py d])<=10;simp only[PyData.depth,ž];omega
 have z:Õ=16777216:=η
 show (if xY (.tup [B,S,d])=true then ok (D.str (py (.tup [B,S,d])).shown) s else none)=_
 rw[Ú];unfold xY;have e1:plain (.tup [B,S,d])=true:=by simp only[plain,iU,h.pl,F.pl,G.pl,Ř]
 have e2:(py (.tup [B,S,d])).showable=true:=by
  show aa0 (.tuple [py B,py S,py d])=true;simp only[aa0,ab4,F.sh,G.sh,h.sh,Ř]
 rw[e1,e2,Ý (show (py (.tup [B,S,d])).depth<=100 by omega),Ý (show (py (.tup [B,S,d])).shown.length<=Õ by rw[z];omega)];show (true&&true&&(!(abp [py B,py S,py d])||i4 [py B,py S,py d])&&true&&true)=true
 rcases h.nd with nd|nd
 ·simp[abp,F.nd,G.nd,nd]
 ·simp[i4,nb,ns,nd]
noncomputable def yJ:List D:=[.au,.bl true,.bl false,.int (-1),.int 8,.int 31,.int 4,.str "",.str "0",.str "made",.tup [],.lst [],.bb [],.tup [.int 0],.lst [.int 0],.int (10 ^ 29),.int (-(10 ^ 20)),.tup [.int 8]]
noncomputable def Dc:List D:=[.tup [.str "made"],.tup [.int 0,.int 0],.tup [.tup [.int 0],.tup [.int 0]],.bb [(abe "made",0)],.tup [.tup [],.tup []],.tup [.tup [.bl true],.tup []],.tup [.tup [.int 1,.int 0],.tup []],.str "made 0 0 -/-"]
def Th:(yJ++Dc).all Ez=true:=by decide +kernel
def By (h0:0<=r) (h1:r<ds.length):∃d∈ds,ak (.lst ds) (.int r) s=ok d s:=by
 obtain⟨x,e,e2⟩:=nH h0 h1;exact⟨x,œ e2,by simp only[ak,gZ,res,e,bB]⟩
def Vf (h:bp s k):Wp (xG [.aj k] s) λd s'=>bp s' k/\Ex k s s'/\lu d:=by
 unfold xG;refine wp_fn.symm ▸ ⟨rfl,?_⟩;refine nT (env':=[some (.aj k),some (.lst yJ)]) (s':=s) rfl ?_;refine nT (env':=[some (.aj k),some (.lst (yJ++Dc))]) (s':=s) rfl ?_;simp only[wp_sRet,wp_e2,wp_call,wp_aCons,wp_aNil,wp_loc0,wp_locS,wp_C,fin_rt];refine(dN h (by decide) (by decide)).mono λx s1 hx=>?_;obtain⟨r,rfl,r0,r1,st,ex⟩:=hx;obtain⟨d,hd,e⟩:=By (ds:=yJ++Dc) (s:=s1) r0 r1;exact Wp.of e ⟨st,ex,Vd (ý.mp Th d hd)⟩
structure lA (ds:List D):Prop where
 ln:ds.length<=4
 ft:∀x∈ds,Ft 0 110 x
def lA.th (h:lA ds):lu (.tup ds):=Kw (nK (c:=4) h.ln h.ft) (by decide) (by decide) λes e=>by
 injection e with e
 have:=h.ln;rw[<- e];omega
def lA.ZE (h:lA ds):lu (.lst ds):=Kw (U7 (c:=4) h.ln h.ft) (by decide) (by decide) λes e=>by cases e
def IS (ds:List D) (lo hi:Option Int):∃es,(∀s,jm (.tup ds) lo hi s=ok (.tup es) s)/\es.length<=ds.length/\∀x∈es,x∈ds :=
 ⟨cutD ds lo hi,λs=>rfl,by unfold cutD;rw[ő,ξ];omega,λx h=>abH (abI h)⟩
def JS (h0:0<=i) (h1:i<ds.length):∃es fs,(∀s,jm (.tup ds) none (some i) s=ok (.tup es) s)/\(∀s,jm (.tup ds) (some (i+1)) none s=ok (.tup fs) s)/\es.length+fs.length+1<=ds.length/\(∀x∈es,x∈ds)/\∀x∈fs,x∈ds:=by
 refine⟨_,_,λs=>rfl,λs=>rfl,?_,λx h=>abH (abI h),λx h=>abH (abI h)⟩;unfold cutD;rw[ő,ξ,ő,ξ];obtain⟨n,rfl⟩:=Int.eq_ofNat_of_zero_le h0;rw[HT.Ab,HT.Ab,show ((n:Int)+1)=((n+1:Nat):Int) from rfl,HT.xh,HT.xh];omega
def tN (h:a.length+b.length<=1000):bR (.tup a) (.tup b) s=ok (.tup (a++b)) s:=by
 unfold bR;simp only[rT,res];rw[Ú (by unfold pP;exact Ý (le_size (by omega)))];rfl
def xA (h0:0<=r) (h1:r<ds.length):∃d∈ds,ak (.tup ds) (.int r) s=ok d s:=by
 obtain⟨x,e,e2⟩:=nH h0 h1;exact⟨x,œ e2,by simp only[ak,gZ,res,e,bB]⟩
def Ru {α:Type} (n:Nat) (x:α):(Ï n [x]).flatten=Ï n x:=by
 induction n with
 |zero=>rfl
 |succ n ih=>rw[ĺ,ŝ,ih];rfl
def AM {n:Nat} (h1:1<=n) (h2:n<=1000):ic (.tup [y]) (.int n) s=ok (.tup (Ï n y)) s:=by
 unfold ic;simp only[yA];rw[Ú (by simp only[List.isEmpty_cons,ś,í,Ç,È,å,î,õ];exact⟨by omega,le_size (by omega)⟩),õ,Ru];rfl
def Xx:([.int (-1),.int 31,.bl true,.au,.str "1",.int 0,.int 30]:List D).all yI=true:=by decide +kernel
def Rv {k:Nat} (h:bp s k) (h1:1<=ss.length) (h3:ss.length<=3) (ht:told=.au\/∃ds,told=.tup ds/\ds.length=ss.length/\∀x∈ds,Ft 0 110 x):Wp (xc [.aj k,bA ss,told] s) λd s'=>bp s' k/\Ex k s s'/\lu d:=by
 unfold xc;refine wp_fn.symm ▸ ⟨rfl,Wp.step λR hR=>?_⟩;simp only[VC];refine Wp.of (show bN [bA ss] s=ok (.int ss.length) s by rw[show bN [bA ss] s=ok (.int ((ss.map aX).length:Nat)) s from rfl,Ä]) ?_;refine(dN h (by decide) (by decide)).mono λx s1 hx=>?_;obtain⟨way,rfl,w0,w1,vZ,x1⟩:=hx;subst hR;refine Wp.step λR hR=>?_;simp only[VC];refine Wp.of (iT (ds:=ss.map aX) rfl) ⟨ib (by rw[Ä];omega),?_⟩;refine mr (λi acc s'=>bp s' k/\Ex k s s'/\acc.length=i/\∀x∈acc,Ft 0 110 x) (ss.map aX) ⟨vZ,x1,rfl,λx hx=>(by cases hx)⟩ (λi e acc s' he hI=>?_) λacc s2 hI=>?_
 ·obtain⟨st,ex,ha,hf⟩:=hI
  refine⟨[some e,some (.aj k)],rfl,?_⟩;simp only[VC];refine Wp.ok ?_;rw[Ú rfl];refine(dN st (by decide) (by decide)).mono λx s3 hx=>?_;obtain⟨r,rfl,r0,r1,gv,x3⟩:=hx;refine⟨gv,ex.trans x3,by rw[â,ha];rfl,λx hx=>?_⟩
  rcases Ù.mp hx with hx|hx
  ·exact hf x hx
  ·rw[Ü.mp hx];exact nJ (by omega) (by omega)
 obtain⟨dS,x2,ln,ft⟩:=hI;rw[Ä] at ln;clear vZ x1;refine Wp.of (show cF [.lst acc] s2=ok (.tup acc) s2 from rfl) ?_;subst hR;refine Wp.step λR hR=>?_;simp only[VC];refine(dN dS (by omega) (by omega)).mono λx s3 hx=>?_;obtain⟨at_,rfl,a0,a1,gv,x3⟩:=hx;refine Wp.of (show jR (.int 1) s3=ok (.int (-1)) s3 from rfl) ⟨by decide,?_⟩;refine(dN gv (by decide) (by decide)).mono λx s4 hx=>?_;obtain⟨r,rfl,r0,r1,oF,x4⟩:=hx;obtain⟨od,fq,eo⟩:=By (ds:=[.int (-1),.int 31,.bl true,.au,.str "1",.int 0,.int 30]) (s:=s4) r0 r1;have fo:Ft 0 110 od:=yl (ý.mp Xx od fq);refine Wp.of eo ?_;subst hR;have ex:=x2.trans (x3.trans x4);clear x2 x3 x4 dS gv eo fq;have ia:lA acc:=⟨by omega,ft⟩;refine Wp.step λR hR=>?_;simp only[wp_sIf,wp_tBl,wp_e2,wp_loc0,wp_locS,wp_C,wp_eqI,wp_isBl];by_cases hw:way=0
 ·rw[Ú (by simp[hw])]
  simp only[VC];rw[lH (i:=1) rfl];obtain⟨L1,e1,l1,i1⟩:=IS acc none (some 1);obtain⟨L2,e2,l2,i2⟩:=IS acc (some 1) none;have l1':L1.length<=1:=by
   have:=e1 s4
   have e:D.tup (cutD acc none (some ((1:Nat):Int)))=.tup L1:=by injection this with this;injection this with this _;injection this
   injection e with e
   rw[<- e];unfold cutD;rw[ő,HT.Ab,HT.xh];omega
  refine Wp.of (e1 s4) (Wp.of (tN (by omega)) ?_);rw[lH (i:=1) rfl];refine Wp.of (e2 s4) (Wp.of (show xX [.tup acc] s4=ok (.lst acc) s4 from rfl) ?_);refine(Vf oF).mono λd s5 hd=>?_;obtain⟨iH,x5,td⟩:=hd;refine⟨le_size (n:=4) (by decide),?_⟩;refine(dN iH (by decide) (by decide)).mono λx s6 hx=>?_;obtain⟨r,rfl,r0,r1,Ey,x6⟩:=hx;obtain⟨y,hy,e⟩:=By (ds:=[.tup (acc++L1),.tup L2,.lst acc,d]) (s:=s6) r0 r1;refine Wp.of e ⟨Ey,ex.trans (x5.trans x6),?_⟩;simp only[Ó,ĕ,or_false] at hy
  rcases hy with rfl|rfl|rfl|rfl
  ·refine lA.th ⟨by rw[â];omega,λx hx=>?_⟩
   rcases Ù.mp hx with hx|hx
   ·exact ft x hx
   ·exact ft x (i1 x hx)
  ·exact lA.th ⟨by omega,λx hx=>ft x (i2 x hx)⟩
  ·exact ia.ZE
  ·exact td
 rw[æ (by simpa using hw)];simp only[wp_sNil,aft_nx];subst hR;refine Wp.step λR hR=>?_;simp only[wp_sIf,wp_tBl,wp_e2,wp_loc0,wp_locS,wp_C,wp_eqI,wp_isBl];by_cases Mi:way=1
 ·rw[Ú (by simp[Mi])]
  obtain⟨es,fs,e1,e2,hl,he,hf⟩:=JS (ds:=acc) a0 (by omega);simp only[wp_sRet,wp_e2,wp_sl,wp_tup,wp_aCons,wp_aNil,wp_pNo,wp_loc0,wp_locS];rw[lH (i:=at_) rfl];refine Wp.of (e1 s4) ⟨le_size (n:=1) (by decide),Wp.of (tN (by simp only[å,î];omega)) ?_⟩;rw[lH (i:=at_ + 1) rfl];refine Wp.of (e2 s4) (Wp.of (tN (by simp only[â,å,î];omega)) ?_);rw[aft_rt,fin_rt];refine⟨oF,ex,lA.th ⟨by simp only[â,å,î];omega,λx hx=>?_⟩⟩
  rcases Ù.mp hx with hx|hx
  ·rcases Ù.mp hx with hx|hx
   ·exact ft x (he x hx)
   ·rw[Ü.mp hx];exact fo
  ·exact ft x (hf x hx)
 rw[æ (by simpa using Mi)];simp only[wp_sNil,aft_nx];subst hR;obtain⟨y0,g0,e0⟩:=xA (ds:=acc) (s:=s4) (r:=0) (by decide) (by omega);refine Wp.step λR hR=>?_;simp only[wp_sIf,wp_tBl,wp_e2,wp_loc0,wp_locS,wp_C,wp_ltI,wp_isBl];by_cases Mj:way<4
 ·rw[Ú (by simp[Mj])]
  simp only[wp_sRet,wp_e2,wp_tup,wp_aCons,wp_aNil,wp_loc0,wp_locS,wp_C];refine Wp.of e0 ⟨le_size (n:=1) (by decide),Wp.of (AM h1 (by omega)) ?_⟩;rw[aft_rt,fin_rt];exact⟨oF,ex,lA.th ⟨by rw[Ű];omega,λx hx=>by rw[(List.mem_replicate.mp hx).2];exact ft _ g0⟩⟩
 rw[æ (by simpa using Mj)];simp only[wp_sNil,aft_nx];subst hR;obtain⟨ya,ga,ea⟩:=xA (ds:=acc) (s:=s4) (r:=at_) a0 (by omega);refine Wp.step λR hR=>?_;simp only[wp_sIf,wp_tAnd,wp_tBl,wp_e2,wp_loc0,wp_locS,wp_C,wp_ltI,wp_isBl];have fin:Wp (cb [some (.aj k),some (bA ss),some told,some (.int ss.length),some (.int way),some (.tup acc),some (.int at_),some od] s4) (m9 R (sd λd s'=>bp s' k/\Ex k s s'/\lu d)):=by
  simp only[wp_sNil,aft_nx];subst hR;simp only[wp_sRet,wp_loc0,wp_locS,fin_rt];exact⟨oF,ex,ia.th⟩
 by_cases Ml:way<6
 ·rw[Ú (by simp[Ml])]
  rcases ht with rfl | ⟨ds,rfl,hd,hf⟩
  ·exact Wp.of (show nE .au .au s4=ok (.bl false) s4 from rfl) (by rw[wp_isBl,æ Ë];exact fin)
  ·refine Wp.of (show nE (.tup ds) .au s4=ok (.bl true) s4 from rfl) ?_
   rw[wp_isBl,Ú rfl];obtain⟨es,fs,e1,e2,hl,he,hg⟩:=JS (ds:=ds) a0 (by omega);simp only[wp_sRet,wp_e2,wp_sl,wp_tup,wp_aCons,wp_aNil,wp_pNo,wp_loc0,wp_locS];rw[lH (i:=at_) rfl];refine Wp.of (e1 s4) (Wp.of ea ⟨le_size (n:=1) (by decide),Wp.of (tN (by simp only[å,î];omega)) ?_⟩);rw[lH (i:=at_ + 1) rfl];refine Wp.of (e2 s4) (Wp.of (tN (by simp only[â,å,î];omega)) ?_);rw[aft_rt,fin_rt];refine⟨oF,ex,lA.th ⟨by simp only[â,å,î];omega,λx hx=>?_⟩⟩
   rcases Ù.mp hx with hx|hx
   ·rcases Ù.mp hx with hx|hx
    ·exact hf x (he x hx)
    ·rw[Ü.mp hx];exact ft _ ga
   ·exact hf x (hg x hx)
 ·rw[æ (by simpa using Ml),æ Ë]
  exact fin
def Ti (b:Bool) (s:ag):xk 8 [.bl b,.bl b] s=ok (.bl true) s:=by cases b<;>rfl
def OG {ps:List Pg} {m:Int} {ss:List eG} {d:D} {s:ag} {e0 e1 e2 e6 e7 e9 dj:Option D} (hb:eO ps=true) (hq:ps.length<=21) (hm:0<=m/\m<4) (h1:1<=ss.length) (h3:ss.length<=3) (hs:∀p∈ss,dH p) (h:lu d):Wp (xH [e0,e1,e2,some (bD ps),some (.int m),some (bA ss),e6,e7,some d,e9,dj] s) λfl s'=>∃x y,fl=.nx [e0,e1,e2,some (bD ps),some (.int m),some (bA ss),e6,e7,some d,x,y]:=by
 have rp:=λs=>Ve (s:=s) hb h3 hs h;generalize (py (.tup [bD ps,bA ss,d])).shown=X at rp;unfold xH;refine Wp.step λR hR=>?_;simp only[VC];refine⟨le_size (n:=3) (by decide),Wp.of (rp s) ?_⟩;subst hR;refine Wp.step λR hR=>?_;simp only[wp_sAsg,asg_N];refine(Wm hb hq hm h1 h3 hs h.pl h.ln).mono λx s1 hx=>?_;obtain⟨b,c,rfl,rfl,g⟩:=hx;subst hR;simp only[VC];refine Wp.of (g _) (Wp.of (Ti b _) ?_);simp only[VC,ë,Ã,ê];refine⟨le_size (n:=3) (by decide),Wp.of (rp _) (Wp.of ne_str ?_)⟩;simp only[VC,Ã,ê];exact⟨_,_,rfl⟩
def Tj (h:∀y∈L,y.length=n/\∀i∈y,0<=i/\i<31):uO (pE L)=.au\/∃ds,uO (pE L)=.tup ds/\ds.length=n/\∀x∈ds,Ft 0 110 x:=by
 cases e:pE L with
 |none=>exact .inl rfl
 |some y =>
  obtain⟨h1,h2⟩:=h y (Ro e);refine .inr ⟨y.map D.int,rfl,by rw[Ä];exact h1,λx hx=>?_⟩;obtain⟨i,hi,rfl⟩:=ö.mp hx;have:=h2 i hi;exact nJ (by omega) (by omega)
def Rx (h:Wp (it env s) λds s=>ds.length<=Õ/\Wp (eZ nt (fV cap env) g t f ds s) λxs s=>Q (.aj s.length) (s++[.lst xs])):Wp (mv nt cap it g t f env s) Q:=by
 unfold mv;simp only[bF,nk,wp_ok];exact h
def P6 {W:ď} {ns:List Int} {i:Int} {s:ag} {e2 e3 e4 e5 e6 e7 e8 e9 dj:Option D} {Q:Fl->ag->Prop} (hi:0<=i)
  (q:∀e2 e3 e4 e5 e6 e7 e8 e9 dj s',Q (.nx [some (.bG ns),some (.int i),e2,e3,e4,e5,e6,e7,e8,e9,dj]) s') :
  Wp (Bp W [some (.bG ns),some (.int i),e2,e3,e4,e5,e6,e7,e8,e9,dj] s) Q:=by
 unfold Bp;refine Wp.step λR hR=>?_;simp only[VC];refine(Q7 hi).mono λd s1 hd=>?_;obtain⟨rfl,h1,c1,rfl⟩:=hd;generalize s.length=k at h1;subst hR;refine Wp.step λR hR=>?_;simp only[VC];refine(Rj h1).mono λd s2 hd=>?_;obtain⟨ps,rfl,ZF,h2,x2,hb⟩:=hd;rw[lH (i:=24) rfl];refine Wp.of (U9 (n:=24)) ?_;rw[List.take_of_length_le (by omega)];refine(dN h2 (by decide) (by decide)).mono λd s3 hd=>?_;obtain⟨m,rfl,m0,m1,h3,x3⟩:=hd;subst hR;have hm:0<=m/\m<4:=⟨m0,m1⟩;refine Wp.step λR hR=>?_;simp only[VC];refine(PZ hb hm h3).mono λd s4 hd=>?_;obtain⟨ss,rfl,n1,n3,hs,h4,x4⟩:=hd;subst hR;refine Wp.step λR hR=>?_;simp only[VC];refine(P0 hb hm n1 n3 hs).mono λd s5 hd=>?_;obtain⟨rfl,c5,rfl⟩:=hd;subst hR;have h5:=h4.app c5;have ht:=Tj (n:=ss.length) (L:=fH ps m ss ss.length) Bw;generalize uO (pE (fH ps m ss ss.length))=told at ht |-;generalize s4++c5=s5 at h5 |-;refine Wp.step λR hR=>?_;simp only[wp_sAsg,asg_N];refine Rx (Wp.of (eI (n:=8) rfl (by decide)) ⟨by rw[cq];exact le_size (by decide),?_⟩);refine mr (λn acc t=>bp t k/\acc.length=n/\∀x∈acc,lu x) (bP 0 8) ⟨h5,rfl,λx hx=>(by cases hx)⟩ (λn e acc t he hI=>?_) λacc t hI=>?_
 ·obtain⟨st,ha,hf⟩:=hI
  refine⟨[some e,some (.aj k),some (bA ss),some told],rfl,Wp.ok ?_⟩;rw[Ú rfl];simp only[wp_call,wp_aCons,wp_aNil,wp_loc0,wp_locS];refine(Rv st n1 n3 ht).mono λx t1 hx=>?_;refine⟨hx.1,by rw[â,ha];rfl,λy hy=>?_⟩
  rcases Ù.mp hy with hy|hy
  ·exact hf y hy
  ·rw[Ü.mp hy];exact hx.2.2
 obtain⟨st,ln,th⟩:=hI;rw[cq] at ln;rw[aft_nx];subst hR;have wa:(t++[Cell.lst acc])[t.length]?=some (.lst acc):=by simp
 generalize t.length=j at wa |-;generalize t++[Cell.lst acc]=t0 at wa |-;have last:∀(ds:List D) (t:ag),t[j]?=some (.lst ds)->(∀x∈ds,lu x)->Wp (fb (bq (jX (aa 7))) (gN 8) xH [some (.bG ns),some (.int i),some (.aj k),some (bD ps),some (.int m),some (bA ss),some told,some (.aj j),e8,e9,dj] t) Q:=λds t ht hd=>by
  rw[wp_sFor];refine Wp.of (iw (s1:=t.set j .dead) (ds:=ds) (Wp.eq ?_)) ?_
  ·simp only[wp_frz,wp_loc0,wp_locS]
   exact Wp.of (show cO (.aj j) t=ok (.lst ds) (t.set j .dead) by unfold cO;simp only[ht]) ⟨rfl,rfl⟩
  generalize t.set j Cell.dead=t';refine Wp.i7 (λn env t=>∃e8 e9 dj,env=[some (.bG ns),some (.int i),some (.aj k),some (bD ps),some (.int m),some (bA ss),some told,some (.aj j),e8,e9,dj]) _ ⟨_,_,_,rfl⟩ (λn d env t ei hI=>?_) λenv t hI=>?_
  ·obtain⟨e8,e9,dj,rfl⟩:=hI
   refine⟨_,rfl,(OG hb ZF hm n1 n3 hs (hd d (œ ei))).mono λfl s' z=>?_⟩;obtain⟨x,y,rfl⟩:=z;exact⟨_,_,_,rfl⟩
  ·obtain⟨e8,e9,dj,rfl⟩:=hI
   exact q _ _ _ _ _ _ _ _ _ _
 refine Wp.step λR hR=>?_;simp only[wp_sIf,wp_tBl,wp_e2,wp_loc0,wp_locS,wp_C,ð,ï]
 rcases ht with rfl | ⟨ds,rfl,hd,hf⟩
 ·refine Wp.of (show nE .au .au _=ok (.bl false) _ from rfl) ?_
  rw[wp_isBl,æ Ë,wp_sNil,aft_nx];subst hR;exact last acc t0 wa th
 ·refine Wp.of (show nE (.tup ds) .au _=ok (.bl true) _ from rfl) ?_
  rw[wp_isBl,Ú rfl];obtain⟨g1,g2⟩:=C9 (x:=.tup ds) wa (by omega);simp only[wp_sExpr,wp_app,wp_loc0,wp_locS];refine⟨g1,Wp.of g2 ?_⟩;rw[aft_nx];subst hR;refine last (acc++[.tup ds]) _ (by rw[ã (Å.mp wa).1]) λx hx=>?_
  rcases Ù.mp hx with hx|hx
  ·exact th x hx
  ·rw[Ü.mp hx];exact lA.th ⟨by omega,hf⟩
def Ry (W:ď) (ns:List Int) (hn:ns.length<=63):∃s,yi W [.bG ns] []=some (.ok (.bl true),s):=by
 suffices h:Wp (yi W [.bG ns] []) λd _=>d=.bl true by
  obtain⟨d,s,e,rfl⟩:=h;exact⟨s,e⟩
 unfold yi;refine wp_fn.symm ▸ ⟨rfl,Wp.step λR hR=>?_⟩;rw[wp_sFor];have hr:∃n:Nat,n<=1000/\(ae (eB rL (ae (eC (.int 1)) (ae (eB xW (ae (eB bN (ae (aa 0) ah)) (ae (eC (.int 2)) ah))) ah))) ah) [some (.bG ns),none,none,none,none,none,none,none,none,none,none] []=ok [.int n] []:=by
  refine⟨(if (if (2:Int)<ns.length then (2:Int) else ns.length) > 1 then (if (2:Int)<ns.length then (2:Int) else ns.length) else 1).toNat,by split<;>split<;>omega,?_⟩
  rw[Int.toNat_of_nonneg (by split<;>split<;>omega)]
  rfl
 obtain⟨n,hn,hr⟩:=hr;refine Wp.of (eI hr (by omega)) ?_;refine Wp.i7 (λi env s=>∃e1 e2 e3 e4 e5 e6 e7 e8 e9 dj,env=[some (.bG ns),e1,e2,e3,e4,e5,e6,e7,e8,e9,dj]) _ ⟨_,_,_,_,_,_,_,_,_,_,rfl⟩ (λi d env s hd hI=>?_) (λenv s hI=>?_)
 ·obtain⟨e1,e2,e3,e4,e5,e6,e7,e8,e9,dj,rfl⟩:=hI
  rw[gG] at hd;split at hd
  ·have hd:D.int (0+(i:Int))=d:=Option.some.inj hd
   subst hd;exact⟨_,rfl,P6 (by omega) λ_ _ _ _ _ _ _ _ _ _=>⟨_,_,_,_,_,_,_,_,_,_,rfl⟩⟩
  ·cases hd
 ·obtain⟨e1,e2,e3,e4,e5,e6,e7,e8,e9,dj,rfl⟩:=hI
  rw[aft_nx];subst hR;simp only[wp_sRet,wp_C,fin_rt]
end DI
end
namespace DI.jF
open PySem L2 DI
def Df (K:Ĳ) (x:Str) (st:Stmt):Prop:=∃(f:á) (oc:Í) (od:Option á) (sl:Array (Option Í)) (kV dc pm:Í) (an:Option á) (cd ct:Í),Ć K ò x=some (some (.ref f))/\K.lookup f=some ⟨oc,od,.func (δ x x (oT st) (lF st) (gF st) .none kV dc pm an cd ct),sl⟩/\abt K cd x=true/\ų K (.ref f)=true
def Wo {K:Ĳ} {x:Str} {st:Stmt} {f:á} {oc:Í} {od:Option á} {sl:Array (Option Í)} {kV dc pm:Í} {an:Option á} {cd ct:Í} (a:Ć K ò x=some (some (.ref f))) (l:K.lookup f=some ⟨oc,od,.func (δ x x (oT st) (lF st) (gF st) .none kV dc pm an cd ct),sl⟩) (c:abt K cd x=true) (k:ų K (.ref f)=true):Df K x st:=⟨f,oc,od,sl,kV,dc,pm,an,cd,ct,a,l,c,k⟩
def pF {K:Ĳ} {x:Str} {i:Int} {t:Tok} (e:Ć K ò x=some (some (.int i t))):∃t,Ć K ò x=some (some (.int i t)):=⟨t,e⟩
def bo {K:Ĳ} {h:ŏ} {mg:Str->Option Í} {x:Str} {st:Stmt} {ps:List Str} (X:K.In h) (G:h.Ns ò mg) (D:Df K x st) (hb:∀(kV doc pm:Í) (an:Option á) (cz ct:Í) (us:List Í),us.length=ps.length->bindArgs (δ x x (oT st) (lF st) (gF st) .none kV doc pm an cz ct) ⟨us,[]⟩=pure (ps.zip us)):∃f fd,Gd K mg x st ps f fd:=by
 obtain⟨f,oc,od,sl,kV,dc,pm,an,cd,ct,a,l,c,k⟩:=D;have F:=Jc (st:=st) l c k;exact⟨f,_,ř X G a,F,F.binds hb⟩
def fL {P:List Í->Prop} (h:∀a0:Í,P [a0]) (us:List Í) (hl:us.length=1):P us:=by
 cases us with
 |nil=>simp at hl
 |cons a0 qE =>
 cases qE with
 |cons _ _=>simp at hl
 |nil =>
 exact h a0
def jU {P:List Í->Prop} (h:∀a0 a1:Í,P [a0,a1]) (us:List Í) (hl:us.length=2):P us:=by
 cases us with
 |nil=>simp at hl
 |cons a0 qE =>
 cases qE with
 |nil=>simp at hl
 |cons a1 wb =>
 cases wb with
 |cons _ _=>simp at hl
 |nil =>
 exact h a0 a1
def iC {P:List Í->Prop} (h:∀a0 a1 a2:Í,P [a0,a1,a2]) (us:List Í) (hl:us.length=3):P us:=by
 cases us with
 |nil=>simp at hl
 |cons a0 qE =>
 cases qE with
 |nil=>simp at hl
 |cons a1 wb =>
 cases wb with
 |nil=>simp at hl
 |cons a2 EA =>
 cases EA with
 |cons _ _=>simp at hl
 |nil =>
 exact h a0 a1 a2
def uC {P:List Í->Prop} (h:∀a0 a1 a2 a3:Í,P [a0,a1,a2,a3]) (us:List Í) (hl:us.length=4):P us:=by
 cases us with
 |nil=>simp at hl
 |cons a0 qE =>
 cases qE with
 |nil=>simp at hl
 |cons a1 wb =>
 cases wb with
 |nil=>simp at hl
 |cons a2 EA =>
 cases EA with
 |nil=>simp at hl
 |cons a3 ZG =>
 cases ZG with
 |cons _ _=>simp at hl
 |nil =>
 exact h a0 a1 a2 a3
def all_mk {P:ù} {w:ď} {K:Ĳ} {h:ŏ} {mg:Str->Option Í} {fa:á} (X:K.In h) (G:h.Ns ò mg) (ZH:mg "law"=some (.ref fa))
  (d0:Df K "_law_cell_at" (top 52))
  (d1:Df K "_law_state" (top 53))
  (d2:Df K "_law_take" (top 54))
  (d3:Df K "_law_leads" (top 64))
  (d4:Df K "_law_gone" (top 63))
  (d5:Df K "_law_may" (top 62))
  (d6:Df K "_law_marks" (top 57))
  (d7:Df K "_law_sheet" (top 58))
  (d8:Df K "_law_sheets" (top 65))
  (d9:Df K "by_width" (top 42))
  (EB:Df K "is_rising" (top 14))
  (EC:Df K "is_number" (top 9))
  (ED:Df K "is_below" (top 10))
  (EE:Df K "is_mark" (top 11))
  (EF:Df K "are_marks" (top 20))
  (EG:Df K "are_apart" (top 22))
  (EH:Df K "is_sheet" (top 21))
  (EI:Df K "is_mould" (top 12))
  (EJ:Df K "is_day" (top 13))
  (EK:Df K "is_page" (top 23))
  (EL:Df K "are_laid" (top 24))
  (EM:Df K "days_seen" (top 29))
  (EN:Df K "days_mended" (top 30))
  (EO:Df K "is_any_behind" (top 28))
  (ER:Df K "clashes" (top 27))
  (ES:Df K "faults_of" (top 26))
  (ET:Df K "is_book" (top 25))
  (EU:Df K "need_book" (top 31))
  (EV:Df K "need_mould" (top 15))
  (EW:Df K "are_sheets" (top 44))
  (EX:Df K "need_asked" (top 45))
  (ck:Df K "days_present" (top 35))
  (EY:Df K "days_absent" (top 36))
  (EZ:Df K "marks_on" (top 34))
  (E1:Df K "sure_sheets" (top 33))
  (E2:Df K "mendings_between" (top 49))
  (E3:Df K "is_clear" (top 50))
  (E4:Df K "days_together" (top 48))
  (E5:Df K "agree" (top 37))
  (E6:Df K "is_free" (top 47))
  (E7:Df K "datings" (top 46))
  (E8:Df K "narrowest" (top 41))
  (E9:Df K "_law_odd" (top 56))
  (Fb:Df K "_law_thing" (top 67))
  (Fc:Df K "_law_lived" (top 60))
  (Fd:Df K "_law_book" (top 61))
  (Fe:Df K "_law_good_days" (top 68))
  (Ff:Df K "_law_agrees" (top 66))
  (Fg:Df K "_law_same" (top 55))
  (Fh:Df K "are_days" (top 43))
  (Fi:Df K "is_dating" (top 40))
  (dl:Df K "law" (top 69))
  (AZ:∃t,Ć K ò "MARKS"=some (some (.int (8) t)))
  (Ay:∃t,Ć K ò "MOULDS"=some (some (.int (4) t)))
  (Bz:∃t,Ć K ò "DAYS"=some (some (.int (31) t)))
  (A0:∃t,Ć K ò "PAGES"=some (some (.int (24) t)))
  (Cg:∃t,Ć K ò "HAS"=some (some (.int (0) t)))
  (A1:∃t,Ć K ò "LACKS"=some (some (.int (1) t)))
  (Az:∃t,Ć K ò "SHEETS"=some (some (.int (3) t)))
  (Ci:Ć K ò "all"=some none)
  (Cj:Ć K ò "any"=some none)
  (BA:Ć K ò "bool"=some none)
  (Ck:Ć K ò "int"=some none)
  (zH:Ć K ò "isinstance"=some none)
  (Cm:Ć K ò "len"=some none)
  (BB:Ć K ò "list"=some none)
  (Cn:Ć K ò "max"=some none)
  (Co:Ć K ò "min"=some none)
  (A2:Ć K ò "range"=some none)
  (BC:Ć K ò "repr"=some none)
  (zS:Ć K ò "reversed"=some none)
  (Cp:Ć K ò "set"=some none)
  (AA:Ć K ò "sorted"=some none)
  (A3:Ć K ò "tuple"=some none)
  (Cq:Ć K ò "zip"=some none)
  : ∃fd:Ŗ,(∀(s:É) (v:Í),BindsTo s fd ⟨[v],[]⟩ [("_law_script",v)])/\∀base:ŏ,K.In base->base.Ns ò mg->fB P w K mg base gy 13 fa fd ["_law_script"] (x8 K):=by
 have g0:=bo (ps:=["_law_script","_law_k"]) X G d0 λ_ _ _ _ _ _=>jU λ_ _=>rfl;have g1:=bo (ps:=["_law_script","_law_k"]) X G d1 λ_ _ _ _ _ _=>jU λ_ _=>rfl;have g2:=bo (ps:=["_law_state_here","_law_many"]) X G d2 λ_ _ _ _ _ _=>jU λ_ _=>rfl;have g3:=bo (ps:=["_law_later","_law_one","_law_free"]) X G d3 λ_ _ _ _ _ _=>iC λ_ _ _=>rfl;have g4:=bo (ps:=["_law_ahead","_law_one","_law_free"]) X G d4 λ_ _ _ _ _ _=>iC λ_ _ _=>rfl;have g5:=bo (ps:=["_law_laid","_law_mould","_law_mark"]) X G d5 λ_ _ _ _ _ _=>iC λ_ _ _=>rfl;have g6:=bo (ps:=["_law_state_here","_law_most"]) X G d6 λ_ _ _ _ _ _=>jU λ_ _=>rfl;have g7:=bo (ps:=["_law_state_here"]) X G d7 λ_ _ _ _ _ _=>fL λ_=>rfl;have g8:=bo (ps:=["_law_state_here","_law_book_here","_law_mould"]) X G d8 λ_ _ _ _ _ _=>iC λ_ _ _=>rfl;have g9:=bo (ps:=["dating"]) X G d9 λ_ _ _ _ _ _=>fL λ_=>rfl;have ZI:=bo (ps:=["things"]) X G EB λ_ _ _ _ _ _=>fL λ_=>rfl;have ZJ:=bo (ps:=["thing"]) X G EC λ_ _ _ _ _ _=>fL λ_=>rfl;have ZK:=bo (ps:=["thing","many"]) X G ED λ_ _ _ _ _ _=>jU λ_ _=>rfl;have ZL:=bo (ps:=["thing"]) X G EE λ_ _ _ _ _ _=>fL λ_=>rfl;have ZM:=bo (ps:=["thing"]) X G EF λ_ _ _ _ _ _=>fL λ_=>rfl;have ZN:=bo (ps:=["marks","others"]) X G EG λ_ _ _ _ _ _=>jU λ_ _=>rfl;have ZO:=bo (ps:=["thing"]) X G EH λ_ _ _ _ _ _=>fL λ_=>rfl;have ZP:=bo (ps:=["thing"]) X G EI λ_ _ _ _ _ _=>fL λ_=>rfl;have ZQ:=bo (ps:=["thing"]) X G EJ λ_ _ _ _ _ _=>fL λ_=>rfl;have ZR:=bo (ps:=["thing"]) X G EK λ_ _ _ _ _ _=>fL λ_=>rfl;have ZS:=bo (ps:=["thing"]) X G EL λ_ _ _ _ _ _=>fL λ_=>rfl;have ZT:=bo (ps:=["pages","mould","mark","half"]) X G EM λ_ _ _ _ _ _=>uC λ_ _ _ _=>rfl;have ZU:=bo (ps:=["pages","mould","mark"]) X G EN λ_ _ _ _ _ _=>iC λ_ _ _=>rfl;have ZV:=bo (ps:=["days","day","later"]) X G EO λ_ _ _ _ _ _=>iC λ_ _ _=>rfl;have ZW:=bo (ps:=["pages","mould","mark"]) X G ER λ_ _ _ _ _ _=>iC λ_ _ _=>rfl;have ZX:=bo (ps:=["pages"]) X G ES λ_ _ _ _ _ _=>fL λ_=>rfl;have ZY:=bo (ps:=["thing"]) X G ET λ_ _ _ _ _ _=>fL λ_=>rfl;have ZZ:=bo (ps:=["thing"]) X G EU λ_ _ _ _ _ _=>fL λ_=>rfl;have Z0:=bo (ps:=["thing"]) X G EV λ_ _ _ _ _ _=>fL λ_=>rfl;have Z1:=bo (ps:=["thing"]) X G EW λ_ _ _ _ _ _=>fL λ_=>rfl;have Z2:=bo (ps:=["book","mould","sheets"]) X G EX λ_ _ _ _ _ _=>iC λ_ _ _=>rfl;have Z3:=bo (ps:=["book","mould","mark"]) X G ck λ_ _ _ _ _ _=>iC λ_ _ _=>rfl;have Z4:=bo (ps:=["book","mould","mark"]) X G EY λ_ _ _ _ _ _=>iC λ_ _ _=>rfl;have Z5:=bo (ps:=["days_by_mark","day"]) X G EZ λ_ _ _ _ _ _=>jU λ_ _=>rfl;have Z6:=bo (ps:=["book","mould"]) X G E1 λ_ _ _ _ _ _=>jU λ_ _=>rfl;have Z7:=bo (ps:=["book","mould","sheet","other"]) X G E2 λ_ _ _ _ _ _=>uC λ_ _ _ _=>rfl;have Z8:=bo (ps:=["mendings","day","later"]) X G E3 λ_ _ _ _ _ _=>iC λ_ _ _=>rfl;have Z9:=bo (ps:=["book","mould","sheet","other"]) X G E4 λ_ _ _ _ _ _=>uC λ_ _ _ _=>rfl;have g38:=bo (ps:=["sheet","sure"]) X G E5 λ_ _ _ _ _ _=>jU λ_ _=>rfl;have g39:=bo (ps:=["tables","dating","day"]) X G E6 λ_ _ _ _ _ _=>iC λ_ _ _=>rfl;have g40:=bo (ps:=["book","mould","sheets"]) X G E7 λ_ _ _ _ _ _=>iC λ_ _ _=>rfl;have g41:=bo (ps:=["book","mould","sheets"]) X G E8 λ_ _ _ _ _ _=>iC λ_ _ _=>rfl;have g42:=bo (ps:=["_law_state_here"]) X G E9 λ_ _ _ _ _ _=>fL λ_=>rfl;have g43:=bo (ps:=["_law_state_here","_law_sheets_here","_law_told"]) X G Fb λ_ _ _ _ _ _=>iC λ_ _ _=>rfl;have g44:=bo (ps:=["_law_state_here","_law_mended"]) X G Fc λ_ _ _ _ _ _=>jU λ_ _=>rfl;have g45:=bo (ps:=["_law_state_here"]) X G Fd λ_ _ _ _ _ _=>fL λ_=>rfl;have g46:=bo (ps:=["_law_thing_here","_law_many"]) X G Fe λ_ _ _ _ _ _=>jU λ_ _=>rfl;have g47:=bo (ps:=["_law_book_here","_law_mould","_law_sheets_here","_law_days"]) X G Ff λ_ _ _ _ _ _=>uC λ_ _ _ _=>rfl;have g48:=bo (ps:=["_law_found","_law_due"]) X G Fg λ_ _ _ _ _ _=>jU λ_ _=>rfl;have g49:=bo (ps:=["thing"]) X G Fh λ_ _ _ _ _ _=>fL λ_=>rfl;have g50:=bo (ps:=["book","mould","sheets","thing"]) X G Fi λ_ _ _ _ _ _=>uC λ_ _ _ _=>rfl;have oP:∃t,mg "MARKS"=some (.int (8) t):=by obtain⟨t,e⟩:=AZ;exact⟨t,ř X G e⟩
 have wY:∃t,mg "MOULDS"=some (.int (4) t):=by obtain⟨t,e⟩:=Ay;exact⟨t,ř X G e⟩
 have lG:∃t,mg "DAYS"=some (.int (31) t):=by obtain⟨t,e⟩:=Bz;exact⟨t,ř X G e⟩
 have Ap:∃t,mg "PAGES"=some (.int (24) t):=by obtain⟨t,e⟩:=A0;exact⟨t,ř X G e⟩
 have o7:∃t,mg "HAS"=some (.int (0) t):=by obtain⟨t,e⟩:=Cg;exact⟨t,ř X G e⟩
 have oQ:∃t,mg "LACKS"=some (.int (1) t):=by obtain⟨t,e⟩:=A1;exact⟨t,ř X G e⟩
 have z0:∃t,mg "SHEETS"=some (.int (3) t):=by obtain⟨t,e⟩:=Az;exact⟨t,ř X G e⟩
 have Wq:=ĉ X G Ci;have Wr:=ĉ X G Cj;have Vg:=ĉ X G BA;have Ws:=ĉ X G Ck;have Ng:=ĉ X G zH;have Wt:=ĉ X G Cm;have Vh:=ĉ X G BB;have Wu:=ĉ X G Cn;have Wv:=ĉ X G Co;have Tn:=ĉ X G A2;have Vi:=ĉ X G BC;have OH:=ĉ X G zS;have Ww:=ĉ X G Cp;have Rz:=ĉ X G AA;have To:=ĉ X G A3;have Wx:=ĉ X G Cq;obtain⟨f,oc,od,sl,kV,dc,pm,an,cd,ct,a,l,c,k⟩:=dl;have e:=ZH.symm.trans (ř X G a);cases e;have F:=Jc (st:=(top 69)) l c k;have GL:Gd K mg "law" (top 69) ["_law_script"] _ _:=⟨ř X G a,F,F.binds λ_ _ _ _ _ _=>fL λ_=>rfl⟩;exact⟨_,λs v=>.of_eq rfl,λbase _ _=>Uy (UY ⟨Wq,Wr,Vg,Ws,Ng,Wt,Vh,Wu,Wv,Tn,Vi,OH,Ww,Rz,To,Wx,oP,wY,lG,Ap,o7,oQ,z0,g0,g1,g2,g3,g4,g5,g6,g7,g8,g9,ZI,ZJ,ZK,ZL,ZM,ZN,ZO,ZP,ZQ,ZR,ZS,ZT,ZU,ZV,ZW,ZX,ZY,ZZ,Z0,Z1,Z2,Z3,Z4,Z5,Z6,Z7,Z8,Z9,g38,g39,g40,g41,g42,g43,g44,g45,g46,g47,g48,g49,g50⟩ GL) (Ry w)⟩
def walk {l:PySem.W.OpenLaw} {q:ù} {loose:List Str} {XP:(Str->Option Í)->ŏ->Prop} {YP:ď->ŏ->Prop} {d:DefRec} {K:Params->Ĳ} (hn:l.most=some 63) (ve:d.params.defaults=[])
  (hY:∀(w:ď) (h:ŏ),YP w h->(K w.params).In h)
  (F:∀(w:ď) (mg:Str->Option Í) (fa:á) (h:ŏ),(K w.params).In h->h.Ns ò mg->mg d.name=some (.ref fa) ->
   ∃fd:Ŗ,(∀(s:É) (u:Í),BindsTo s fd ⟨[u],[]⟩ [("_law_script",u)])/\∀base:ŏ,(K w.params).In base->base.Ns ò mg->fB l.prog w (K w.params) mg base gy 13 fa fd ["_law_script"] (x8 (K w.params))) :
  PySem.W.WalkO q loose XP YP l.row.toRowW d [] (λf vs=>PySem.call f vs) :=
 L2.RV (n:=63) (k:=13) (x:="_law_script") (CX:=λ_=>gy) (sp:=λw=>x8 (K w.params)) hn (by decide) ve ⟨rfl,by decide,by decide,rfl⟩ hY F (λ_ _ a ns hl _ hS=>⟨a,ns,rfl,hS,hl,λ_=>rfl⟩) λ_ _ _ _ _ z=>z
end DI.jF
open PySem PySem.W PyProof.Rows
theorem PySem.W.Fast.te15153001465725154811:True:=trivial
theorem PySem.W.Fast.te5995666498464447792:True:=trivial
theorem PySem.W.Fast.te3803001024047422272:True:=trivial
theorem PySem.W.Fast.te8403559534865787773:True:=trivial
theorem PySem.W.Fast.te15500001179271910561:True:=trivial
theorem PySem.W.Fast.te4678103353419205127:True:=trivial
set_option maxRecDepth 100000 in
set_option maxHeartbeats 0 in
theorem PySem.Challenge.cw_twinmoulds_k08_datings_looked_at_holds : PySem.Challenge.rw_twinmoulds_k08_datings_looked_at.Holds := by
 w_on;o_law;k_head;(case hw=>w_witness2)
 k_fill
 refine DI.jF.walk (l:=PySem.Challenge.rw_twinmoulds_k08_datings_looked_at) rfl rfl (λw h Y=>PySem.W.kIn_of Y) ?F
 case F =>
  intro w mg fa h KX G vf;refine' DI.jF.all_mk KX G vf ?d0 ?d1 ?d2 ?d3 ?d4 ?d5 ?d6 ?d7 ?d8 ?d9 ?EB ?EC ?ED ?EE ?EF ?EG ?EH ?EI ?EJ ?EK ?EL ?EM ?EN ?EO ?ER ?ES ?ET ?EU ?EV ?EW ?EX ?ck ?EY ?EZ ?E1 ?E2 ?E3 ?E4 ?E5 ?E6 ?E7 ?E8 ?E9 ?Fb ?Fc ?Fd ?Fe ?Ff ?Fg ?Fh ?Fi ?dl ?AZ ?Ay ?Bz ?A0 ?Cg ?A1 ?Az ?Ci ?Cj ?BA ?Ck ?zH ?Cm ?BB ?Cn ?Co ?A2 ?BC ?zS ?Cp ?AA ?A3 ?Cq
  (case d0|d1|d2|d3|d4|d5|d6|d7|d8|d9|EB|EC|ED|EE|EF|EG|EH|EI|EJ|EK|EL|EM|EN|EO|ER|ES|ET|EU|EV|EW|EX|ck|EY|EZ|E1|E2|E3|E4|E5|E6|E7|E8|E9|Fb|Fc|Fd|Fe|Ff|Fg|Fh|Fi|dl=>refine' DI.jF.Wo ?a ?l ?c ?k;(case a=>k_is);(case l=>k_is);(case c=>k_is);(case k=>k_is))
  (case AZ=>refine' DI.jF.pF ?e;(case e=>k_is))
  (case Ay=>refine' DI.jF.pF ?e;(case e=>k_is))
  (case Bz=>refine' DI.jF.pF ?e;(case e=>k_is))
  (case A0=>refine' DI.jF.pF ?e;(case e=>k_is))
  (case Cg=>refine' DI.jF.pF ?e;(case e=>k_is))
  (case A1=>refine' DI.jF.pF ?e;(case e=>k_is))
  (case Az=>refine' DI.jF.pF ?e;(case e=>k_is))
  (case Ci|Cj|BA|Ck|zH|Cm|BB|Cn|Co|A2|BC|zS|Cp|AA|A3|Cq=>k_is)
