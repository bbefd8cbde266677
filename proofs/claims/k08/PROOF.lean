import PyProof.Rows.All
import Wide.All
import OpenK.AllK
import Wide.FinOn
import Lean
import PyProof.EqAt
import PyProof.EqKinds
import PyProof.TupleCall
import PyProof.NeData
import PyProof.P3In
import PyProof.FactsAll.set
import PyProof.CollectWalk
import PyProof.FactsAll.range
import PyProof.MinMaxWalk
import KE.KMinKey
import PyProof.WalkInts
import PyProof.Rows.CallKwBuiltin
import KE.KSortTup
import PyProof.Rows.Range3
import PyProof.ListRange
import PyProof.DictRoadsH
import KE.KDictList
import PyProof.Rows.SortKeyStr
import PyProof.DictCompW
import PyProof.DictWalks
import PyProof.Rows.CompDC
import PyProof.SumAny
import PyProof.TupleOfGen
import PyProof.CollectIter
import PySem.Challenge.RW_twinmoulds_k08_datings_looked_at
set_option bootstrap.genMatcherCode false
set_option genInjectivity false
set_option genSizeOfSpec false
set_option Elab.async false
set_option linter.all false
set_option maxRecDepth 100000
set_option maxHeartbeats 4000000
noncomputable section
local macro_rules | `(tactic| omega) => `(tactic| lia)
open PySem.W (Frag)
open PySem renaming wpAny_bind→À,wpAny_pure→Â,Shared→É,Value→Í,sizeLine→Õ,starEach→Þ,wpAny→à,Addr→á,mainGlobals→ò,wpAny_newObj_type→ó,foldedSetIterable→ô,model→ø,Program→ù,wpAny_call_entry→Ą,bootBuiltins→ą,wpAny_callSpecial?_slot→Ĉ,compareOp→Č,World→ď,Around→đ,wpAny_holding→ė,wpAny_seqItems→Ě,codeAny_builtin→ī,wpAny_truthy_bool→Į,wpAny_mono→ĳ,wpAny_field→Ĵ,Expr→ļ,wpAny_tryCatch→ŀ,plainId_quiet→Ł,sysModules→ł,Builtin→ň,rawInt→Ŋ,binaryOp→ŋ,Heap→ŏ,wpAny_typeNameOfWhole_keyiter→Œ,wpAny_standAt→Ŕ,FuncData→Ŗ,wpAny_setField→ř,wpAny_rule→ś,letOwnedTupleGo→Ş,wpAny_of_eq→Š,wpAny_updateSeq→š,eval→ţ,pyNext→Ť,intKind→Ŧ,assignEach→ũ,wpAny_askSetting→ū,codeAny_mono→Ů,wpAny_setField_rec→Ű,wpAny_letGo→Ŵ,wpAny_pyIter_list→ŷ,wpAny_setState_of→Ż,swapsWithSole→δ,swappedStores→ε,sizeLine_eq→ζ,mem_of_lookup→η,wpAny_attempt→θ,wpAny_setEntries_of→ι,pickOrder→ο,wpAny_pyIter_tuple→ψ,backTo→aab,holding→aac,IsPair→aan,NameKind→aas,fits_of_scanBound→aau,cellsFrom→aaB,PyData→aaD,firstArgMember→aaE,scanBound→aaG,wpAny_fieldsOf→aaH,wpAny_isInstance→aaL,codeAny→aaO,assign→aaR,wpAny_comprehension_free→aaU,wpAny_passesOwn→aaW,behindInMarks→aaX,wpAny_Call_Name_kw→aaY,wpAny_pyIter_rangeiter→aa9,codeAny_compStart_list→abc,Scope→abf,standAt→abg,sliceBounds→abi,wpAny_storeSet_of→abm,eqIsQuiet_byValue→abo,wpAny_bindName→abq,swapsWith→abv,wpAny_typeOf→abw,builtinLookup_eq_fast→abA,wpAny_pyIter_zip→abD,assignInOrder→abI,bindName→abJ,wpAny_newList→abK,cLine→abP,keywordEach→abQ,seqItems?→abS,codeAny_of_tree→abU,wpAny_specialOf→abW,DictEntry→ab9,Keyword→acd,Fin→acf
open PySem.Heap renaming get?_push_of_some→Á,get?_push_size→Ì,lt_size→Î,size_push→ú,get?_update_other→ÿ,get?_update_self→ă,SameBut→ĸ,ExtBut→abj,get?_update_ne→abX
open Bool renaming false_eq_true→Ã,and_eq_true→Ç,false_ne_true→Ë,not_true→ë,true_and→í,not_eq_true'→ē,and_self→Ĥ,and_true→ŗ,not_false→Ś,eq_iff_iff→ş,or_eq_true→ż,false_and→aaA,not_eq_true→aaM,false_or→abM
open List renaming length_map→Ä,getElem?_eq_some_iff→Å,mem_append_right→Æ,replicate→Ï,getElem?_eq_getElem→Ð,mem_cons_of_mem→Ñ,mem_cons_self→Ò,mem_cons→Ó,size_toArray→Ô,map_cons→Ö,getElem?_set_ne→Ø,mem_append→Ù,mem_singleton→Ü,range→ß,length_append→â,getElem?_set_self→ã,getElem?_append_left→ä,length_cons→å,getElem?_map→ç,length_nil→î,set_cons_succ→ï,set_cons_zero→ð,mem_map→ö,getElem?_append_right→ü,all_eq_true→ý,mem_range→Ā,pairwise_cons→Ă,mem_filter→ć,getElem?_eq_none→Ċ,cons_append→ċ,map_append→č,map_map→Ē,getElem?_range→Ĕ,not_mem_nil→ĕ,length_set→Ĝ,nil_append→ģ,mem_append_left→ħ,getElem?_replicate→ĭ,map_nil→İ,zip_cons_cons→ı,length_filter_le→Ķ,append_assoc→ķ,replicate_succ→ĺ,length_range→ľ,lookup_cons→ń,any_eq_true→Ņ,filter_cons→ņ,append_nil→Ō,length_take→ő,mem_of_getElem?→œ,flatten_cons→Ŝ,mem_flatMap→Ŭ,length_replicate→ů,set_append_right→ű,getD→Ź,ext_getElem?→ź,range_succ→ž,length_drop→ν,nodup_cons→aad,of_mem_zip→aae,getElem?_toArray→aaq,nodup_append→aav,any_eq_false→aaw,pairwise_append→aay,drop_eq_getElem_cons→aaI,getElem_mem→aaK,isEmpty_nil→aaN,map_congr_left→aaP,getElem_of_mem→aaQ,length_eq_zero_iff→aa2,pairwise_singleton→aa3,filter_append→aa7,flatMap_eq_nil_iff→aa8,filter_eq_nil_iff→abd,length_singleton→abx,toArray→abz,isEmpty_iff→abF,mem_of_mem_drop→abG,mem_of_mem_take→abH,filterMap_cons→abO,map_eq_flatMap→abY,map_eq_nil_iff→abZ,nodup_nil→ab5,drop_drop→ab7
open Nat renaming lt_of_lt_of_le→Ê,le_trans→Û,ne_of_lt→è,lt_irrefl→é,zero_le→Ę,lt_succ_of_lt→Ģ,ne_of_gt→Ń,le_of_eq→ō,le_succ→ŵ,le_of_not_lt→ξ,lt_succ_self→ς,mul_le_mul_right→aaz,add_assoc→aa5,le_max_right→abE
open PySem.Str renaming ofString→ì
open Int renaming toNat_natCast→õ,emod_lt_of_pos→aaa,zero_add→aaV,emod_nonneg→aa6
open Array renaming length_toList→þ,getElem?_toList→ĵ,toList_push→abl,getD→aca
open PySem.NameKind renaming free→ā
open PySem.W renaming nsIn→Ć,mg_none_of→ĉ,Frag→Ĳ,mg_of→Ř,keepIn→Ų,fnOf→ſ,cellsFrom_some→aba,findIn→abr,codeIn→abt,methodObj→ab8
open PySem.Obj renaming data_mapFields→Ď,mapSeq→Ī,isFreed_of_fields→Ľ,cls_mapFields→aat
open PySem.Builtin.SmallTypes renaming nextOf→Đ,ownedTupleIsFree→Ļ,ownedTupleHandOut→aaF
open PySem.Around renaming under_plainId→Ė
open PySem.SetTable renaming below→ě,grown→abu
open PySem.Heap.SameBut renaming update→ĝ
open PySem.Builtin.Range renaming rangeFitsLong→Ğ,rangeSize→ŕ,rangeFields→ab6
open PySem.PassesOwn renaming never→ĥ
open PySem.F renaming plain_min_loop→Ħ,slot_dict_keyiterator_next→Ŀ,slot_tuple_iterator_next→Ũ,isi_meta_tuple→Ū,isi_meta_list→Ÿ,entry_min_loop→χ,called_set→aao,slot_range_reversed→aap,args_tuple_add_2→aaS,entry_tuple_add→aaZ,slot_tuple_add→abb,slot_tuple_hash→abn,slot_int_rmul→abR,slot_zip_next→abT
open PyProof.Rows renaming callWith_type1→Ĩ,slot_tuple_getitem→ĩ,assignInOrder_cons→ŭ,firstMet→ω,IntsAre→abh,seqObj→ab1
open PySem.PyData renaming eqv→į,depthAll→Ž,weightAll→υ,showable→aa0,hasDictAll→abp,strOk→abB,leavesShortAll→abC,showableAll→ab3,leavesShort→ab4,weight→ace
open Ne renaming symm→Ň
open Option renaming map_some→Ŏ
open PySem.Builtin.Tuple renaming tupleExact→Ő,tupleItemsOf→ŧ,tupleIsExact→aax,tupleHashOf→aaJ
open Function renaming comp_def→ŝ
open PySem.Builtin.Builtins renaming bindParams→Ţ
open Or renaming inl→ť
open PySem.Builtin.Slice renaming slicePlaces→ų,sliceAdjust→aaC,sliceApplied→ab0
open PySem.Value renaming type→Ŷ,ref→μ,int→abN
open ForInStep renaming yield→aaf
open False renaming elim→aar
open PySem.Builtin.List renaming listTooLong→aaT,listExtendWith→abV
open PyProof.Rows.F renaming plain_set_update_loop→aa1
open List.cons renaming injEq→aa4
open Sum renaming inr→abe
open PySem.SetTable.below renaming go→abk
open List.Pairwise renaming sublist→aby
open PySem.Builtin.Dict_items renaming ownsTuple→abL
open PySem.SetTable.probe renaming go→acb
def È:=@decide_eq_true_eq
def Ú:=@if_pos
def Ý:=@decide_eq_true
def æ:=@if_neg
def ê:=@if_false
def ñ:=@decide_eq_false
def û:=@if_true
def ę:=@decide_true
def ğ:=@and_self
def Ġ:=@beq_self_eq_true
def ġ:=@bne_self_eq_false
def Ĭ:=@of_decide_eq_true
def Ĺ:=@congrArg
def ab2:=@decide_false
namespace L2
open PySem PySem.Spec PyProof.Rows
noncomputable abbrev Key:=Sum Int Str
def oZ:Key->Í->Bool
 | .inl k,v=>Value.isInt k v
 | .inr x,v=>Value.isStrOf x v
def Wr (w:ď):Key->Int
 | .inl k=>hashInt k
 | .inr x=>hashStr w x
def lq:∀{k:Key} {v:Í},oZ k v=true->(∃i t,k=Sum.inl i/\v=abN i t)\/(∃x t,k=abe x/\v=Value.str x t)
 | .inl i,v,h=>by
  obtain⟨t,e⟩:=Value.isInt_shape (k:=i) (v:=v) h;exact .inl ⟨i,t,rfl,e⟩
 | .inr x,v,h=>by
  obtain⟨t,e⟩:=Value.isStrOf_shape (x:=x) (v:=v) h;exact .inr ⟨x,t,rfl,e⟩
def OD (i:Int) (t:Tok):oZ (.inl i) (.int i t)=true:=by simp[oZ,Value.isInt]
def OE (x:Str) (t:Tok):oZ (.inr x) (.str x t)=true:=by simp[oZ,Value.isStrOf]
def Te (a b:Int):decide ((Sum.inl a:Key)=Sum.inl b)=(a==b):=by
 by_cases e:a=b
 ·subst e;simp
 ·have h:¬ (Sum.inl a:Key)=Sum.inl b:=λq=>e (Sum.inl.inj q)
  rw[ñ h];exact(beq_eq_false_iff_ne.mpr e).symm
def Tf (a b:Str):decide ((abe a:Key)=abe b)=decide (a=b):=by
 by_cases e:a=b
 ·subst e;simp
 ·have h:¬ (abe a:Key)=abe b:=λq=>e (Sum.inr.inj q)
  rw[ñ h,ñ e]
def Th (a:Int) (b:Str):decide ((Sum.inl a:Key)=abe b)=false:=ñ (λq=>nomatch q)
def Ti (a:Str) (b:Int):decide ((abe a:Key)=Sum.inl b)=false:=ñ (λq=>nomatch q)
def jG (prog:ù) (w:ď):PySem.KeyKind prog w Key where
 is:=oZ
 hash:=Wr w
 inj:=λv a b ha hb=>by
  rcases lq ha with ⟨i,t,rfl,rfl⟩ | ⟨x,t,rfl,rfl⟩
  ·rcases lq hb with ⟨j,u,rfl,e⟩ | ⟨y,u,rfl,e⟩
   ·injection e with e1 _;rw[e1]
   ·exact nomatch e
  ·rcases lq hb with ⟨j,u,rfl,e⟩ | ⟨y,u,rfl,e⟩
   ·exact nomatch e
   ·injection e with e1 _;rw[e1]
 byValue:=λk v h=>by
  rcases lq h with ⟨i,t,rfl,rfl⟩ | ⟨x,t,rfl,rfl⟩<;>rfl
 pyHash:=λhv h=>by
  rcases lq hv with ⟨i,t,rfl,rfl⟩ | ⟨x,t,rfl,rfl⟩
  ·exact wpAny_pyHash_int h
  ·exact wpAny_pyHash_str h
 eqBool:=λhu hv h=>by
  rcases lq hu with ⟨i,t,rfl,rfl⟩ | ⟨x,t,rfl,rfl⟩
  ·rcases lq hv with ⟨j,u,rfl,rfl⟩ | ⟨y,u,rfl,rfl⟩
   ·rw[Te] at h;exact wpAny_eqBool_int h
   ·rw[Th] at h;exact SeqAt.EqAt.int_str i t y u _ _ _ _ h
  ·rcases lq hv with ⟨j,u,rfl,rfl⟩ | ⟨y,u,rfl,rfl⟩
   ·rw[Ti] at h;exact SeqAt.EqAt.str_int x t j u _ _ _ _ h
   ·rw[Tf] at h;exact wpAny_eqBool_str h
 «strs»:=λk x t v h=>by
  rcases lq h with ⟨i,u,rfl,e⟩ | ⟨y,u,rfl,e⟩
  ·exact nomatch e
  ·injection e with e1 _
   subst e1
   cases v<;>rfl
def Nb (prog:ù) (w:ď) (i:Int) (t:Tok):(jG prog w).is (.inl i) (.int i t)=true:=OD i t
def Nc (prog:ù) (w:ď) (x:Str) (t:Tok):(jG prog w).is (.inr x) (.str x t)=true:=OE x t
set_option genInjectivity true in
inductive V where
 |au|bl (b:Bool)|int (i:Int)|str (x:Str)|ju (b:Array UInt8)|uL (b:UInt64)|ref (a:á)|ty (n:String)
 deriving DecidableEq
def RelV:V->Í->Prop
 | .au,u=>u=Value.none
 | .bl b,u=>u=Value.bool b
 | .int i,u=>∃t,u=abN i t
 | .str x,u=>∃t,u=Value.str x t
 | .ju b,u=>∃t,u=Value.bytes b t
 | .uL b,u=>∃t,u=Value.float b t
 | .ref a,u=>u=μ a
 | .ty n,u=>u=Ŷ n
abbrev Vals:List V->List Í->Prop:=Paired RelV
def Vals.length (r:Vals xs us):xs.length=us.length:=Paired.length r
def Vals.get:∀{xs:List V} {us:List Í} {i:Nat} {x:V},Vals xs us->xs[i]?=some x->∃u,us[i]?=some u/\RelV x u
 |_,_,_,_,.nil,e=>by simp at e
 |_,_,0,_,.cons r _,e=>by simp at e;subst e;exact⟨_,rfl,r⟩
 |_,_,i+1,x,.cons _ t,e=>by
  obtain⟨u,h1,h2⟩:=Vals.get (i:=i) (x:=x) t (by simpa using e);exact⟨u,by simpa using h1,h2⟩
def Vals.set (r:RelV x u):∀{xs:List V} {us:List Í} (i:Nat),Vals xs us->Vals (xs.set i x) (us.set i u)
 |_,_,_,.nil=>.nil
 |_,_,0,.cons _ t=>.cons r t
 |_,_,i+1,.cons q t=>.cons q (Vals.set r i t)
def Vals.append:∀{xs ys:List V} {us ws:List Í},Vals xs us->Vals ys ws->Vals (xs++ys) (us++ws)
 |_,_,_,_,.nil,s=>s
 |_,_,_,_,.cons r t,s=>.cons r (Vals.append t s)
def Vals.take:∀{xs:List V} {us:List Í} (n:Nat),Vals xs us->Vals (xs.take n) (us.take n)
 |_,_,0,_=>.nil
 |_,_,_ + 1,.nil=>.nil
 |_,_,n+1,.cons r t=>.cons r (Vals.take n t)
def Vals.drop:∀{xs:List V} {us:List Í} (n:Nat),Vals xs us->Vals (xs.drop n) (us.drop n)
 |_,_,0,r=>r
 |_,_,_ + 1,.nil=>.nil
 |_,_,n+1,.cons _ t=>Vals.drop n t
def Ks:Option V->Option Í->Prop
 |some v,some u=>RelV v u
 |none,none=>True
 |_,_=>False
def KV {κ:Type}:List (κ×V)->List (κ×Í)->Prop:=Paired λ(p:κ×V) (q:κ×Í)=>p.1=q.1/\RelV p.2 q.2
def kV:Key->V
 | .inl i=>.int i
 | .inr x=>.str x
inductive HO where
 |lst (xs:List V)
 |tup (xs:List V)
 |dK (ai:List (Key×V))|dT (ai:List (List Key×V))
 |set (S:Int->Bool) (n:Nat)
 |ins (C dx:á) (fs:List (Str×V))
 |own (x:á)
 |xd (fs:List (Str×V))
 |met (f x:á)
 |bM (lo hi:Int)
 |cL (o:Obj) (u:HO)
 |pR (ps:Array Í)
 |ext (φ:ŏ->Prop)
noncomputable abbrev Hp:=á->Option HO
def upd (H:Hp) (a:á) (o:HO):Hp:=λb=>if b=a then some o else H b
def dg:upd H a o a=some o:=by unfold upd;rw[Ú rfl]
def bo (h:b≠a):upd H a o b=H b:=by unfold upd;rw[æ h]
def eZ {H:Hp} {a b:á} {o:HO} (h:H a=some o) (h':H b=none):a≠b:=by
 intro e;subst e;rw[h] at h';cases h'
section
variable (P:ù) (w:ď)
def cF (H:Hp) (h:ŏ) (a:á):HO->Prop
 | .lst xs=>xs.length<=Õ/\∃(its:List Í) (n:Nat),Vals xs its/\h.get? a=some { cls:=.type "list",data:=.seq its.toArray n }
 | .tup xs=>xs.length<=Õ/\∃its:List Í,Vals xs its/\IsTup h a its.toArray
 | .dK ai=>ai.length<=Õ/\(a==ł)=false/\∃vs,KV ai vs/\h.DictOf (jG P w) a vs
 | .dT ai=>ai.length<=Õ/\(a==ł)=false/\∃xs:List (List Key×á×Í),
   Paired (λ(p:List Key×V) (q:List Key×á×Í)=>p.1=q.1/\H q.2.1=some (.tup (p.1.map kV))/\RelV p.2 q.2.2) ai xs /\
   ∃o es ep,h.get? a=some o/\o.ExactDict/\o.data=.dict es ep/\es.toList=xs.map (entryOfKey (tupleKind (jG P w)))/\(xs.map (·.1)).Nodup
 | .set S n=>h.SetOf (Ŧ P w) a S n
 | .ins C dx fs=>H dx=some (.own a)/\fs.length<=1000/\dx≠a/\h.get? a=some (PySem.W.instObj C dx) /\
   ∃mA,h.Ns1 dx mA/\(∀f,Ks (fs.lookup f) (mA f))/\PySem.Within mA (fs.map (·.1))
 | .own _=>∃o,h.get? a=some o
 | .xd fs=>∃mA,h.Ns1 a mA/\∀f,Ks (fs.lookup f) (mA f)
 | .bM lo hi=>∃t u v,h.get? a=some { cls:=.type "range",data:=.fields #[.int lo t,.int hi u,.int 1 v] }
 | .cL o u=>h.get? a=some o/\cF H h a u
 | .pR ps=>h.get? a=some { cls:=.none,data:=.fields ps }
 | .met f x=>h.get? a=some (ab8 (.ref f) (.ref x))
 | .ext φ=>φ h/\(∃o,h.get? a=some o)/\∀h1 h2:ŏ,φ h1->(∀o,h1.get? a=some o->h2.get? a=some o)->φ h2
def bY (H:Hp) (h:ŏ):Prop:=∀a o,H a=some o->cF P w H h a o
end
section
variable {P:ù} {w:ď} {H H':Hp} {h h':ŏ} {a:á} {o:HO}
def cF.lt (x:cF P w H h a o):a<h.objs.size:=by
 cases o with
 |lst xs=>obtain⟨_,_,_,_,e⟩:=x;exact Î e
 |tup xs=>obtain⟨_,_,_,p⟩:=x;exact p.lt
 |dK ai=>obtain⟨_,_,_,_,o,_,_,e,_⟩:=x;exact Î e
 |dT ai=>obtain⟨_,_,_,_,o,_,_,e,_⟩:=x;exact Î e
 |set S n=>obtain⟨o,_,_,_,e,_⟩:=x;exact Î e
 |ins C dx fs=>obtain⟨_,_,_,e,_⟩:=x;exact Î e
 |own y=>obtain⟨_,e⟩:=x;exact Î e
 |xd fs=>obtain⟨_,⟨_,_,_,e,_⟩,_⟩:=x;exact Î e
 |bM lo hi=>obtain⟨_,_,_,e⟩:=x;exact Î e
 |cL ob u=>obtain⟨e,_⟩:=x;exact Î e
 |pR ps=>exact Î (show h.get? a=some _ from x)
 |met f y=>exact Î (show h.get? a=some _ from x)
 |ext φ=>obtain⟨_,⟨_,e⟩,_⟩:=x;exact Î e
def Paired.Kt {α β:Type} {F G:α->β->Prop}:∀{Ku:List α} {Kv:List β},Paired F Ku Kv->(∀a b,F a b->G a b)->Paired G Ku Kv
 |_,_,.nil,_=>.nil
 |_,_,.cons r t,f=>.cons (f _ _ r) (Paired.Kt t f)
def cF.hX (x:cF P w H h a o) (k:∀b u,(b=a\/H b=some (.own a))->h.get? b=some u->h'.get? b=some u)
  (ho:∀b,H b=some (.own a)->H' b=some (.own a)) (ht:∀b xs,H b=some (.tup xs)->H' b=some (.tup xs)):cF P w H' h' a o:=by
 induction o with
 |lst xs=>obtain⟨z,its,n,r,e⟩:=x;exact⟨z,its,n,r,k _ _ (.inl rfl) e⟩
 |tup xs=>obtain⟨z,its,r,ob,e,c⟩:=x;exact⟨z,its,r,ob,k _ _ (.inl rfl) e,c⟩
 |dK ai=>obtain⟨z,y,vs,r,ob,es,ep,e,c⟩:=x;exact⟨z,y,vs,r,ob,es,ep,k _ _ (.inl rfl) e,c⟩
 |dT ai =>
  obtain⟨z,y,xs,r,ob,es,ep,e,c⟩:=x;exact⟨z,y,xs,Paired.Kt r λp q z=>⟨z.1,ht _ _ z.2.1,z.2.2⟩,ob,es,ep,k _ _ (.inl rfl) e,c⟩
 |set S n=>obtain⟨ob,es,ep,t,e,c⟩:=x;exact⟨ob,es,ep,t,k _ _ (.inl rfl) e,c⟩
 |ins C dx fs =>
  obtain⟨d,z,ne,e,mA,⟨od,es,ep,e2,c⟩,r⟩:=x;exact⟨ho _ d,z,ne,k _ _ (.inl rfl) e,mA,⟨od,es,ep,k _ _ (.inr d) e2,c⟩,r⟩
 |own y=>obtain⟨ob,e⟩:=x;exact⟨ob,k _ _ (.inl rfl) e⟩
 |xd fs=>obtain⟨mA,⟨od,es,ep,e,c⟩,r⟩:=x;exact⟨mA,⟨od,es,ep,k _ _ (.inl rfl) e,c⟩,r⟩
 |bM lo hi=>obtain⟨t,u,v,e⟩:=x;exact⟨t,u,v,k _ _ (.inl rfl) e⟩
 |cL ob u ih=>obtain⟨e,q⟩:=x;exact⟨k _ _ (.inl rfl) e,ih q⟩
 |pR ps =>
  have e:h.get? a=some { cls:=.none,data:=.fields ps }:=x;show h'.get? a=some { cls:=.none,data:=.fields ps };exact k a _ (.inl rfl) e
 |met f y =>
  have e:h.get? a=some (ab8 (.ref f) (.ref y)):=x;show h'.get? a=some (ab8 (.ref f) (.ref y));exact k a _ (.inl rfl) e
 |ext φ=>obtain⟨p,⟨o,e⟩,st⟩:=x;exact⟨st _ _ p λo q=>k _ _ (.inl rfl) q,⟨o,k _ _ (.inl rfl) e⟩,st⟩
def bY.lt (x:bY P w H h) (e:H a=some o):a<h.objs.size:=(x a o e).lt
def bY.fresh (x:bY P w H h) (e:h.objs.size<=a):H a=none:=by
 cases q:H a with
 |none=>rfl
 |some u=>exact absurd (Ê (x.lt q) e) (é _)
def bY.kept (x:bY P w H h) (k:∀b u,h.get? b=some u->h'.get? b=some u):bY P w H h':=λa o e =>
 (x a o e).hX (λb u _ q=>k b u q) (λ_ q=>q) λ_ _ q=>q
def bY.laid (x:bY P w H h) (k:∀b u,h.get? b=some u->h'.get? b=some u) (hp:h.objs.size<=a) (new:cF P w (upd H a o) h' a o):bY P w (upd H a o) h':=λb u e=>by
 have hn:=x.fresh hp;by_cases hb:b=a
 ·subst hb;rw[dg] at e;cases e;exact new
 ·rw[bo hb] at e
  exact(x b u e).hX (λc v _ q=>k c v q) (λc q=>by rw[bo (eZ q hn)];exact q) λc xs q=>by rw[bo (eZ q hn)];exact q
end
def Rd (H:Hp) (a:á) (u:HO):Prop:=H a=some u\/∃o,H a=some (.cL o u)
def Rd.ok (r:Rd H a u) (x:bY P w H h):cF P w H h a u:=by
 rcases r with r | ⟨o,r⟩
 ·exact x a u r
 ·obtain⟨_,q⟩:=x a _ r
  exact q
def uM:Option HO->Prop
 |some (.lst _)=>True
 |some (.dK _)=>True
 |some (.dT _)=>True
 |some (.set _ _)=>True
 |some (.ins _ _ _)=>True
 |some (.ext _)=>True
 |_=>False
section
variable {P:ù} {w:ď} {H:Hp} {h h':ŏ} {x e:á} {o':HO}
def bY.write (ok:bY P w H h) (mu:uM (H x)) (he:e=x\/H e=some (.own x)) (k:∀b u,b≠e->h.get? b=some u->h'.get? b=some u) (se:∃u,h'.get? e=some u)
  (new:cF P w (upd H x o') h' x o'):bY P w (upd H x o') h':=λb u q=>by
 have Kw:∀c y,H c=some (.own y)->c≠x:=λc y r z=>by subst z;rw[r] at mu;exact mu
 have Ws:∀c xs,H c=some (.tup xs)->c≠x:=λc xs r z=>by subst z;rw[r] at mu;exact mu
 by_cases hb:b=x
 ·subst hb;rw[dg] at q;cases q;exact new
 ·rw[bo hb] at q
  by_cases pT:b=e
  ·have q':H b=some (.own x):=by
    rcases he with z|z
    ·exact absurd (pT.trans z) hb
    ·rw[pT];exact z
   rw[q] at q';cases q';obtain⟨v,hv⟩:=se;exact⟨v,by rw[pT];exact hv⟩
  ·refine(ok b u q).hX (λc v hc r=>k c v ?_ r) (λc r=>by rw[bo (Kw c b r)];exact r) λc xs r=>by rw[bo (Ws c xs r)];exact r
   rcases hc with rfl|hc
   ·exact pT
   ·rintro rfl
    rcases he with z|z
    ·exact Kw c b hc z
    ·rw[hc] at z;cases z;exact hb rfl
end
structure Un (fs ex:List á) (H H':Hp) (h h':ŏ):Prop where
 keep:∀b o,h.get? b=some o->H b=none->b∉fs->b∉ex->h'.get? b=some o
 slot:∀b o,h.get? b=some o->H b=none->b∈fs->b∉ex->∃sl,h'.get? b=some { o with slots:=sl }
 free:∀b o,h.get? b=some o->H b=none->b∉ex->H' b=none
 there:∀b o,h.get? b=some o->b∉ex->∃o',h'.get? b=some o'
 jR:∀b xs,H b=some (.tup xs)->H' b=some (.tup xs)
 jm:∀b o u,H b=some (.cL o u)->H' b=some (.cL o u)
 kz:∀b ps,H b=some (.pR ps)->∃more,H' b=some (.pR (ps++more))
section
variable {fs Xr ex ex':List á} {H H1 H2:Hp} {h h1 h2 h':ŏ} {a x e:á} {o:HO}
def Un.any (u:Un fs ex H H1 h h1) (q:h.get? b=some ob) (n:H b=none) (hx:b∉ex):∃sl,h1.get? b=some { ob with slots:=sl }:=by
 by_cases hb:b∈fs
 ·exact u.slot b ob q n hb hx
 ·exact⟨ob.slots,u.keep b ob q n hb hx⟩
def Un.kept (k:∀b u,h.get? b=some u->h'.get? b=some u):Un fs ex H H h h' :=
 ⟨λb ob q _ _ _=>k b ob q,λb ob q _ _ _=>⟨ob.slots,k b ob q⟩,λ_ _ _ n _=>n,λb ob q _=>⟨ob,k b ob q⟩,λ_ _ q=>q,λ_ _ _ q=>q,λ_ ps q=>⟨#[],by rw[q];simp⟩⟩
def Un.refl:Un fs ex H H h h:=Un.kept λ_ _ q=>q
def Un.laid (k:∀b u,h.get? b=some u->h'.get? b=some u) (hp:h.objs.size<=a) (hn:H a=none):Un fs ex H (upd H a o) h h' where
 keep:=λb u q _ _ _=>k b u q
 slot:=λb u q _ _ _=>⟨u.slots,k b u q⟩
 free:=λb u q n _=>by rw[bo (è (Ê (Î q) hp))];exact n
 there:=λb u q _=>⟨u,k b u q⟩
 jR:=λb xs q=>by rw[bo (eZ q hn)];exact q
 jm:=λb u xs q=>by rw[bo (eZ q hn)];exact q
 kz:=λb ps q=>⟨#[],by rw[bo (eZ q hn),q];simp⟩
def Un.write (mu:uM (H x)) (he:e=x\/H e=some (.own x)) (k:∀b u,b≠e->h.get? b=some u->h'.get? b=some u) (se:∃u,h'.get? e=some u):Un fs ex H (upd H x o) h h':=by
 have hx:∀b,H b=none->b≠x:=λb n z=>by subst z;rw[n] at mu;exact mu
 have hb:∀b,H b=none->b≠e:=λb n z=>by
  subst z
  rcases he with r|r
  ·exact hx b n r
  ·rw[n] at r;cases r
 have hm:∀b u,H b=some u->¬ uM (some u)->b≠x:=λb u q nm z=>by subst z;rw[q] at mu;exact nm mu
 refine⟨λb u q n _ _=>k b u (hb b n) q,λb u q n _ _=>⟨u.slots,k b u (hb b n) q⟩,λb u q n _=>by rw[bo (hx b n)];exact n,λb u q _=>?_,
  λb xs q=>by rw[bo (hm b _ q λz=>z)];exact q,λb u xs q=>by rw[bo (hm b _ q λz=>z)];exact q,λb ps q=>⟨#[],by rw[bo (hm b _ q λz=>z),q];simp⟩⟩
 by_cases pT:b=e
 ·subst pT;exact se
 ·exact⟨u,k b u pT q⟩
end
def yG (h:ŏ) (H:Hp):List á:=(ß h.objs.size).filter λa=>(H a).isSome
def mB (h:ŏ) (H:Hp):ŏ:=PySem.W.hideAll h (yG h H)
def OF (h:ŏ) (H:Hp):(mB h H).objs.size=h.objs.size:=PySem.W.hideAll_size _ _
def P1 (e:h.get? b=some o) (n:H b=none):(mB h H).get? b=some o :=
 PySem.W.hideAll_get _ e λhm=>by
  have q:(H b).isSome=true:=(ć.mp hm).2;rw[n] at q;simp at q
def Rr (e:(mB h H).get? b=some o):h.get? b=some o/\H b=none:=by
 have e':h.get? b=some o:=PySem.W.of_hideAll (yG h H) e;refine⟨e',?_⟩
 cases q:H b with
 |none=>rfl
 |some x =>
  have hm:b∈yG h H:=ć.mpr ⟨Ā.mpr (Î e'),by simp[q]⟩;have z:(mB h H).get? b=none:=PySem.W.hideAll_none (yG h H) hm;rw[z] at e;cases e
noncomputable def Rt (g h:ŏ) (L:á):List (á×Obj):=(ß h.objs.size).filterMap λa=>if a=L\/(g.get? a).isSome=true then none else (h.get? a).map λo=>(a,o)
def rest (g h:ŏ) (L d:á):List (á×Obj):=(Rt g h L).filter λp=>decide (p.1≠d)
structure Mod (K:Ĳ) (mg:Str->Option Í) (base:ŏ):Prop where
 uN:K.In base
 glob:base.Ns ò mg
 blt:∃mb,base.Ns builtinsNs mb/\∀x:Str,x≠"__name__"->mb x=ą x
 nolimit:base.NoLimit
structure Cx where
 prog:ù
 w:ď
 K:Ĳ
 mg:Str->Option Í
 base:ŏ
 A:đ
 N:List Str
 dM:É
 uz:Hp
 env:Env
 outer:List Env
 stack:List Env
 ex:List á
 fn:Str->Bool
 calm:Bool
 pn:List (á×Obj)
 xe:Í->É->Prop
noncomputable def gO (l:List Env):List á:=l.filterMap (·.frame)
abbrev Cx.fs (X:Cx):List á:=gO X.outer
def uO (sc:abf) (x:Str):Prop:=sc.names.lookup x=some .local\/sc.names.lookup x=some .cell\/sc.names.lookup x=some .free
def Loc (sc:abf) (x:Str):Prop:=sc.names.lookup x=some .local\/sc.names.lookup x=some .cell
def Look (env:Env) (h:ŏ) (m:Str->Option Í) (x:Str) (u:Í):Prop :=
 (env.kindOf x=some .local/\m x=some u)\/((env.kindOf x=some .cell\/env.kindOf x=some .free)/\∃c,env.cells.lookup x=some c/\h.IsCell c (some u))
structure Cx.Ok (X:Cx):Prop where
 mod:Mod X.K X.mg X.base
 kind:X.env.scope.kind=.function
 glob:X.env.globals=ò
 blt:X.env.builtins=builtinsNs
 above:X.dM.heap.objs.size<=X.env.locals
 inj:∀x y c,X.env.cells.lookup x=some c->X.env.cells.lookup y=some c->x=y
 has:∀x,(X.env.kindOf x=some .cell\/X.env.kindOf x=some .free)->∃c,X.env.cells.lookup x=some c
 pU:∀x c,X.fn x=true->X.env.cells.lookup x=some c->X.dM.heap.objs.size<=c
 hd:X.calm=true->X.A.handled=none
 frames:X.A.frames=some X.stack
 sf:X.stack=X.outer\/(X.stack=X.env::X.outer/\X.env.frame=some X.env.locals)
 yH:∀b∈X.ex,b≠X.env.locals/\∀x c,X.env.cells.lookup x=some c->c≠b
 bs:∀b o,X.base.get? b=some o->X.dM.heap.get? b=some o/\X.uz b=none
 i4:X.base.objs.size<=X.dM.heap.objs.size
 lJ:∀b o,X.base.get? b=some o->b∉X.ex
 rJ:∀b∈X.ex,b∉X.fs
 jn:X.dM.heap.FunFrames X.base X.outer
 n0:∀b∈X.fs,X.uz b=none
structure Inv (X:Cx) (π:List (á×Obj)) (σ:List (Option V)) (H:Hp) (s:É):Prop where
 ok:X.Ok
 os:s.os=X.dM.os
 bare:AllBare s.gens
 base:Un X.fs X.ex X.uz H X.dM.heap s.heap
 loc:∃m,s.heap.Ns X.env.locals m/\∀(i:Nat) (x:Str) (v:V),X.N[i]?=some x->σ[i]?=some (some v)->uO X.env.scope x->∃u,RelV v u/\Look X.env s.heap m x u
 cell:∀x c,X.env.cells.lookup x=some c->∃v,s.heap.IsCell c v
 free:H X.env.locals=none
 fc:∀x c,X.env.cells.lookup x=some c->H c=none
 pin:∀p∈X.pn++π,s.heap.get? p.1=some p.2/\H p.1=none/\p.1≠X.env.locals/\p.1∉X.fs/\∀v,p.2.data≠.cell v
 aE:bY X.prog X.w H s.heap
 len:σ.length=X.N.length
section
variable {X:Cx} {π:List (á×Obj)} {σ:List (Option V)} {H H':Hp} {s:É} {h':ŏ}
def Cx.Ok.Wt (ok:X.Ok) (e:X.base.get? b=some o):b∉X.fs:=λhb=>by
 have:=(ok.jn.mem hb).1;rw[e] at this;cases this
def Inv.bs (I:Inv X π σ H s):∀b o,X.base.get? b=some o->s.heap.get? b=some o/\H b=none:=λb o e =>
 ⟨I.base.keep b o (I.ok.bs b o e).1 (I.ok.bs b o e).2 (I.ok.Wt e) (I.ok.lJ b o e),I.base.free b o (I.ok.bs b o e).1 (I.ok.bs b o e).2 (I.ok.lJ b o e)⟩
def Inv.bk (I:Inv X π σ H s):∀b o,X.base.get? b=some o->s.heap.get? b=some o:=λb o e=>(I.bs b o e).1
def Inv.mod (I:Inv X π σ H s):Mod X.K X.mg X.base:=I.ok.mod
def Inv.sg (I:Inv X π σ H s):X.K.In s.heap:=I.ok.mod.uN.keeps I.bk
def Inv.lt (I:Inv X π σ H s):X.env.locals<s.heap.objs.size:=let ⟨_,hn,_⟩:=I.loc;hn.lt
def Inv.sz (I:Inv X π σ H s):X.dM.heap.objs.size<=s.heap.objs.size:=Û I.ok.above (Nat.le_of_lt I.lt)
def Inv.pA (I:Inv X π σ H s) {a:á} (h:s.heap.objs.size<=a):a∉X.fs:=λhb=>by
 obtain⟨_,o,ho,_⟩:=I.ok.jn.mem hb;exact absurd (Ê (Î ho) (Û I.sz h)) (é _)
def Inv.pV (I:Inv X π σ H s):∀x c,X.env.cells.lookup x=some c->c≠X.env.locals:=λx c e z=>by
 obtain⟨v,o,ho,hd⟩:=I.cell x c e;obtain⟨m,⟨o',es,ep,cY,dY,_⟩,_⟩:=I.loc;rw[z,cY] at ho;cases ho;rw[dY] at hd;cases hd
def Inv.jn (I:Inv X π σ H s):s.heap.FunFrames X.base X.outer:=by
 have all:∀(l:List Env),(∀b∈gO l,b∈X.fs)->X.dM.heap.FunFrames X.base l->s.heap.FunFrames X.base l:=by
  intro l
  induction l with
  |nil=>intro _ _;trivial
  |cons env r ih =>
   intro hs hl;obtain⟨hk,⟨L,o,hf,hn,ho,hd⟩,hr⟩:=hl;have hL:L∈X.fs:=hs L (by unfold gO;rw[abO,hf];exact Ò);obtain⟨sl,e⟩:=I.base.slot L o ho (I.ok.n0 L hL) hL λz=>I.ok.rJ L z hL;exact⟨hk,⟨L,_,hf,hn,e,hd⟩,ih (λb hb=>hs b (by unfold gO;rw[abO,hf];exact Ñ _ hb)) hr⟩
 exact all X.outer (λ_ hb=>hb) I.ok.jn
def Inv.stack (I:Inv X π σ H s):s.heap.FunFrames X.base X.stack:=by
 rcases I.ok.sf with e | ⟨e,hf⟩
 ·rw[e];exact I.jn
 ·rw[e]
  obtain⟨m,hn,_⟩:=I.loc;refine .cons (by rw[I.ok.kind];decide) hf hn ?_ I.jn;exact Heap.get?_none_of_le (Û I.ok.i4 I.ok.above)
def Inv.kc (I:Inv X π σ H s):∀b∈gO X.stack,b∈X.env.locals::X.fs:=λb hb=>by
 rcases I.ok.sf with e | ⟨e,hf⟩
 ·rw[e] at hb;exact Ñ _ hb
 ·rw[e] at hb
  unfold gO at hb;rw[abO,hf] at hb;exact hb
def Inv.Av (I:Inv X π σ H s):∀b∈gO X.stack,H b=none:=λb hb=>by
 rcases Ó.mp (I.kc b hb) with e|hb
 ·rw[e];exact I.free
 ·obtain⟨_,o,ho,_⟩:=I.ok.jn.mem hb
  exact I.base.free b o ho (I.ok.n0 b hb) λz=>I.ok.rJ b z hb
def Inv.step {g':Array GenState} {t':Nat} {d':Drawn} {ch:List á} (I:Inv X π σ H s)
  (lQ:∀b∈ch,(b∈X.ex\/X.dM.heap.objs.size<=b)/\b≠X.env.locals/\(∀x c,X.env.cells.lookup x=some c->c≠b)/\∀p∈X.pn++π,p.1≠b)
  (keep:∀b o,b≠X.env.locals->b∉X.fs->b∉ch->s.heap.get? b=some o->H b=none->h'.get? b=some o)
  (slot:∀b o,b≠X.env.locals->b∈X.fs->b∉ch->s.heap.get? b=some o->H b=none->∃sl,h'.get? b=some { o with slots:=sl }) (free:∀b o,b∉ch->s.heap.get? b=some o->H b=none->H' b=none)
  (there:∀b o,b∉ch->s.heap.get? b=some o->∃o',h'.get? b=some o')
  (jR:∀b xs,H b=some (.tup xs)->H' b=some (.tup xs)) (jm:∀b o u,H b=some (.cL o u)->H' b=some (.cL o u)) (kz:∀b ps,H b=some (.pR ps)->∃more,H' b=some (.pR (ps++more)))
  (ns:∀m,s.heap.Ns X.env.locals m->h'.Ns X.env.locals m) (aE:bY X.prog X.w H' h') (hg:AllBare g') :
  Inv X π σ H' { s with heap:=h',gens:=g',drawn:=d',toks:=t' }:=by
 have K5:∀b o,X.dM.heap.get? b=some o->b≠X.env.locals:=λb o e=>è (Ê (Î e) I.ok.above);have yI:∀b o,X.dM.heap.get? b=some o->b∉X.ex->b∉ch:=λb o e hx hb=>by
  rcases(lQ b hb).1 with z|z
  ·exact hx z
  ·exact absurd (Ê (Î e) z) (é _)
 have cellK:∀x c,X.env.cells.lookup x=some c->∀v,s.heap.IsCell c v->h'.IsCell c v:=λx c e v ⟨o,ho,hd⟩=>by
  have uP:c∉ch:=λz=>(lQ c z).2.2.1 x c e rfl;by_cases hc:c∈X.fs
  ·obtain⟨sl,q⟩:=slot c o (I.pV x c e) hc uP ho (I.fc x c e)
   exact⟨_,q,hd⟩
  ·exact⟨o,keep c o (I.pV x c e) hc uP ho (I.fc x c e),hd⟩
 refine⟨I.ok,I.os,hg,⟨λb o e n hb hx=>?_,λb o e n hb hx=>?_,λb o e n hx=>?_,λb o e hx=>?_,λb xs e=>jR b xs (I.base.jR b xs e),λb o xs e=>jm b o xs (I.base.jm b o xs e),λb ps e=>?_⟩,?_,λx c e=>?_,?_,λx c e=>?_,λp hp=>?_,aE,I.len⟩
 ·exact keep b o (K5 b o e) hb (yI b o e hx) (I.base.keep b o e n hb hx) (I.base.free b o e n hx)
 ·obtain⟨sl,e1⟩:=I.base.slot b o e n hb hx
  obtain⟨Xs,e2⟩:=slot b _ (K5 b o e) hb (yI b o e hx) e1 (I.base.free b o e n hx);exact⟨Xs,e2⟩
 ·obtain⟨o',e1⟩:=I.base.there b o e hx
  exact free b o' (yI b o e hx) e1 (I.base.free b o e n hx)
 ·obtain⟨o',e1⟩:=I.base.there b o e hx
  exact there b o' (yI b o e hx) e1
 ·obtain⟨m1,e1⟩:=I.base.kz b ps e
  obtain⟨m2,e2⟩:=kz b _ e1;exact⟨m1++m2,by rw[e2,Array.append_assoc]⟩
 ·obtain⟨m,hn,hl⟩:=I.loc
  refine⟨m,ns m hn,λi x v e1 e2 e3=>?_⟩;obtain⟨u,r,l⟩:=hl i x v e1 e2 e3;refine⟨u,r,?_⟩
  rcases l with l | ⟨k,c,e,z⟩
  ·exact .inl l
  ·exact .inr ⟨k,c,e,cellK x c e _ z⟩
 ·obtain⟨v,z⟩:=I.cell x c e
  exact⟨v,cellK x c e v z⟩
 ·obtain⟨m,⟨o,_,_,ho,_⟩,_⟩:=I.loc
  exact free _ o (λz=>(lQ _ z).2.1 rfl) ho I.free
 ·obtain⟨v,o,ho,hd⟩:=I.cell x c e
  exact free c o (λz=>(lQ c z).2.2.1 x c e rfl) ho (I.fc x c e)
 ·obtain⟨e,n,ne,nf,d⟩:=I.pin p hp
  have uP:p.1∉ch:=λz=>(lQ p.1 z).2.2.2 p hp rfl;exact⟨keep p.1 p.2 ne nf uP e n,free p.1 p.2 uP e n,ne,nf,d⟩
def Inv.un {t':Nat} (I:Inv X π σ H s) (u:Un X.fs [] H H' s.heap h') (aE:bY X.prog X.w H' h'):Inv X π σ H' { s with heap:=h',toks:=t' }:=by
 obtain⟨m,⟨o,es,ep,ho,r⟩,_⟩:=id I.loc;obtain⟨sl,hL⟩:=u.any ho I.free (by simp)
 exact I.step (g':=s.gens) (d':=s.drawn) (ch:=[]) (λ_ z=>nomatch z) (λb o _ hb _ e n=>u.keep b o e n hb (by simp)) (λb o _ hb _ e n=>u.slot b o e n hb (by simp)) (λb o _ e n=>u.free b o e n (by simp)) (λb o _ e=>u.there b o e (by simp)) u.jR u.jm u.kz (λm' hm=>by
  obtain⟨o',gk,uQ,cY,r'⟩:=hm;rw[ho] at cY;cases cY;exact⟨_,gk,uQ,hL,r'⟩) aE I.bare
def Inv.call {g':Array GenState} {t':Nat} {d':Drawn} {ch:List á} (I:Inv X π σ H s) (u:Un (gO X.stack) ch H H' s.heap h') (aE:bY X.prog X.w H' h') (hg:AllBare g')
  (lQ:∀b∈ch,(b∈X.ex\/X.dM.heap.objs.size<=b)/\b≠X.env.locals/\(∀x c,X.env.cells.lookup x=some c->c≠b)/\∀p∈X.pn++π,p.1≠b) :
  Inv X π σ H' { s with heap:=h',gens:=g',drawn:=d',toks:=t' }:=by
 obtain⟨m,⟨o,es,ep,ho,r⟩,_⟩:=id I.loc;obtain⟨sl,hL⟩:=u.any ho I.free λz=>(lQ _ z).2.1 rfl;exact I.step (ch:=ch) lQ (λb o hL hb hc e n=>u.keep b o e n (λz=>(Ó.mp (I.kc b z)).elim hL hb) hc) (λb o _ _ hc e n=>u.any e n hc) (λb o hc e n=>u.free b o e n hc) (λb o hc e=>u.there b o e hc) u.jR u.jm u.kz (λm' hm=>by
  obtain⟨o',gk,uQ,cY,r'⟩:=hm;rw[ho] at cY;cases cY;exact⟨_,gk,uQ,hL,r'⟩) aE hg
def Inv.turned {t':Nat} {it:á} (I:Inv X π σ H s) (k:∀b o,b≠it->s.heap.get? b=some o->h'.get? b=some o) (hn:H it=none) (hL:it≠X.env.locals)
  (h1:it∈X.ex\/X.dM.heap.objs.size<=it) (h2:∀x c,X.env.cells.lookup x=some c->c≠it) (h3:∀p∈X.pn++π,p.1≠it):Inv X π σ H { s with heap:=h',toks:=t' }:=by
 have K6:∀b u,H b=some u->b≠it:=λb u e z=>by rw[z,hn] at e;cases e
 refine I.step (g':=s.gens) (d':=s.drawn) (ch:=[it]) (λb hb=>?_) (λb o _ _ hc e _=>k b o (λz=>hc (by simp[z])) e) (λb o _ _ hc e _=>⟨o.slots,k b o (λz=>hc (by simp[z])) e⟩) (λ_ _ _ _ n=>n)
  (λb o hc e=>⟨o,k b o (λz=>hc (by simp[z])) e⟩) (λ_ _ e=>e) (λ_ _ _ e=>e) (λb ps e=>⟨#[],by rw[e];simp⟩) (λm hm=>?_) (λb u e=>?_) I.bare
 ·have e:b=it:=by simpa using hb
  subst e;exact⟨h1,hL,h2,h3⟩
 ·obtain⟨o,es,ep,ho,r⟩:=hm
  exact⟨o,es,ep,k _ o (Ň hL) ho,r⟩
 ·refine(I.aE b u e).hX (λc v hc q=>k c v ?_ q) (λ_ q=>q) λ_ _ q=>q
  rcases hc with z|z
  ·rw[z];exact K6 b u e
  ·exact K6 c _ z
def Inv.tok (I:Inv X π σ H s) (t:Nat):Inv X π σ H { s with toks:=t }:=I.un (h':=s.heap) (t':=t) Un.refl I.aE
def Inv.kept (I:Inv X π σ H s) (k:∀b u,s.heap.get? b=some u->h'.get? b=some u):Inv X π σ H { s with heap:=h',toks:=t' }:=I.un (Un.kept k) (I.aE.kept k)
def Inv.laid {a:á} {o:HO} {t':Nat} (I:Inv X π σ H s) (k:∀b u,s.heap.get? b=some u->h'.get? b=some u) (hp:s.heap.objs.size<=a) (new:cF X.prog X.w (upd H a o) h' a o) :
  Inv X π σ (upd H a o) { s with heap:=h',toks:=t' }:=I.un (Un.laid k hp (I.aE.fresh hp)) (I.aE.laid k hp new)
def Inv.write (I:Inv X π σ H s) (mu:uM (H x)) (he:e=x\/H e=some (.own x)) (k:∀b u,b≠e->s.heap.get? b=some u->h'.get? b=some u) (se:∃u,h'.get? e=some u)
 (new:cF X.prog X.w (upd H x o) h' x o):Inv X π σ (upd H x o) { s with heap:=h',toks:=t' }:=I.un (Un.write mu he k se) (I.aE.write mu he k se new)
def Inv.ip (I:Inv X π σ H s) (h:∀p∈pins',s.heap.get? p.1=some p.2/\H p.1=none/\p.1≠X.env.locals/\p.1∉X.fs/\∀v,p.2.data≠.cell v):Inv X pins' σ H s :=
 ⟨I.ok,I.os,I.bare,I.base,I.loc,I.cell,I.free,I.fc,λp hp=>(Ù.mp hp).elim (λz=>I.pin p (ħ _ z)) (h p),I.aE,I.len⟩
def GP {N:List Str} (hN:N.Nodup) {i j:Nat} {x:Str} (a:N[i]?=some x) (b:N[j]?=some x):i=j:=by
 obtain⟨h1,e1⟩:=Å.mp a;obtain⟨h2,e2⟩:=Å.mp b;exact(List.getElem_inj hN).mp (e1.trans e2.symm)
def OG {M:Model} {A:đ} {E:Í->É->Prop} {i:Nat} {x:Str} {v:V} {u:Í} {Q:Unit->É->Prop} (I:Inv X π σ H s) (hN:X.N.Nodup) (hi:X.N[i]?=some x) (hx:Loc X.env.scope x) (r:RelV v u)
  (h:∀s',Inv X π (σ.set i (some v)) H s'->(∃a,ĸ a s.heap s'.heap/\(a=X.env.locals\/X.env.cells.lookup x=some a))->Q () s') (hf:X.fn x=true\/X.env.scope.names.lookup x=some .local:=by first|exact .inl rfl|exact .inr rfl|assumption):à M A (storeName X.env x u) Q E s:=by
 obtain⟨m,hn,hl⟩:=id I.loc;have Wu:(X.env.scope.kind==.class||(X.env.scope.kind==.module&&X.env.locals != X.env.globals))=false:=by rw[I.ok.kind];rfl
 have Kx:i < σ.length:=by rw[I.len];exact(Å.mp hi).1
 have pV:=I.pV;have tracked:∀{a:á} {h':ŏ},(∃o,s.heap.get? a=some o/\H a=none)->ĸ a s.heap h'->bY X.prog X.w H h':=λ{a h'} ha hs b ob e=>by
  obtain⟨_,_,JO⟩:=ha;refine(I.aE b ob e).hX (λc w' hc q=>(hs.2 c ?_).trans q) (λ_ q=>q) λ_ _ q=>q;rintro rfl
  rcases hc with rfl|hc
  ·rw[JO] at e;cases e
  ·rw[JO] at hc;cases hc
 rcases hx with hk|hk
 ·refine wpAny_storeName_local hk hn (λh' K7 hs=>?_) Wu
  obtain⟨oL,_,_,uR,_⟩:=id hn;refine h _ ⟨I.ok,I.os,I.bare,⟨λb o e n hb hx=>?_,λb o e n hb hx=>?_,I.base.free,λb o e hx=>?_,I.base.jR,I.base.jm,I.base.kz⟩,⟨_,K7,λj y v' e1 e2 e3=>?_⟩,λy c e=>?_,I.free,I.fc,λp hp=>?_,tracked ⟨oL,uR,I.free⟩ hs,by simpa using I.len⟩ ⟨_,hs,.inl rfl⟩
  ·exact(hs.2 b (è (Ê (Î e) I.ok.above))).trans (I.base.keep b o e n hb hx)
  ·obtain⟨sl,e1⟩:=I.base.slot b o e n hb hx
   exact⟨sl,(hs.2 b (è (Ê (Î e) I.ok.above))).trans e1⟩
  ·obtain⟨o',e1⟩:=I.base.there b o e hx
   exact⟨o',(hs.2 b (è (Ê (Î e) I.ok.above))).trans e1⟩
  ·by_cases hj:j=i
   ·subst hj
    rw[hi] at e1;cases e1;rw[ã Kx] at e2;cases e2;exact⟨u,r,.inl ⟨hk,by simp⟩⟩
   ·rw[Ø (Ň hj)] at e2
    obtain⟨u',r',q⟩:=hl j y v' e1 e2 e3;refine⟨u',r',?_⟩
    rcases q with ⟨k,e⟩ | ⟨k,c,e,z⟩
    ·refine .inl ⟨k,?_⟩
     have:y≠x:=λe=>hj (GP hN e1 (e ▸ hi));simp[this,e]
    ·exact .inr ⟨k,c,e,z.sameBut hs (pV y c e)⟩
  ·obtain⟨w',z⟩:=I.cell y c e
   exact⟨w',z.sameBut hs (pV y c e)⟩
  ·obtain⟨e,n,ne,nf,d⟩:=I.pin p hp
   exact⟨(hs.2 p.1 ne).trans e,n,ne,nf,d⟩
 ·have C5:X.fn x=true:=by
   rcases hf with z|z
   ·exact z
   ·rw[z] at hk;cases hk
  obtain⟨c,hc⟩:=I.ok.has x (.inl hk);obtain⟨w',z⟩:=I.cell x c hc;refine wpAny_storeName_cell I.ok.kind hk hc z (λh' i5 hs=>?_);obtain⟨oc,jY,Wv⟩:=id z
  refine h { s with heap:=h' } ⟨I.ok,I.os,I.bare,⟨λb o e n hb hx=>?_,λb o e n hb hx=>?_,I.base.free,λb o e hx=>?_,I.base.jR,I.base.jm,I.base.kz⟩,⟨m,hn.sameBut hs (Ň (pV x c hc)),λj y v' e1 e2 e3=>?_⟩,λy c' e=>?_,I.free,I.fc,λp hp=>?_,tracked ⟨oc,jY,I.fc x c hc⟩ hs,by simpa using I.len⟩ ⟨c,hs,.inr hc⟩
  ·exact(hs.2 b (è (Ê (Î e) (I.ok.pU x c C5 hc)))).trans (I.base.keep b o e n hb hx)
  ·obtain⟨sl,e1⟩:=I.base.slot b o e n hb hx
   exact⟨sl,(hs.2 b (è (Ê (Î e) (I.ok.pU x c C5 hc)))).trans e1⟩
  ·obtain⟨o',e1⟩:=I.base.there b o e hx
   exact⟨o',(hs.2 b (è (Ê (Î e) (I.ok.pU x c C5 hc)))).trans e1⟩
  ·by_cases hj:j=i
   ·subst hj
    rw[hi] at e1;cases e1;rw[ã Kx] at e2;cases e2;exact⟨u,r,.inr ⟨.inl hk,c,hc,i5⟩⟩
   ·rw[Ø (Ň hj)] at e2
    obtain⟨u',r',q⟩:=hl j y v' e1 e2 e3;refine⟨u',r',?_⟩
    rcases q with q | ⟨k,c',e,z'⟩
    ·exact .inl q
    ·refine .inr ⟨k,c',e,z'.sameBut hs ?_⟩
     rintro rfl;exact hj (GP hN e1 (I.ok.inj _ _ _ e hc ▸ hi))
  ·by_cases K8:c'=c
   ·subst K8;exact⟨_,i5⟩
   ·obtain⟨w2,z2⟩:=I.cell y c' e
    exact⟨w2,z2.sameBut hs K8⟩
  ·obtain⟨e,n,ne,nf,d⟩:=I.pin p hp
   refine⟨(hs.2 p.1 ?_).trans e,n,ne,nf,d⟩;intro q;rw[q,jY] at e;have q':oc=p.2:=Option.some.inj e;exact d w' (by rw[<- q'];exact Wv)
def mf (I:Inv X π σ H s) (hN:X.N.Nodup) (hi:X.N[i]?=some x) (hx:Loc X.env.scope x) (r:RelV v u)
 (h:∀s',Inv X π (σ.set i (some v)) H s'->Q () s') (hf:X.fn x=true\/X.env.scope.names.lookup x=some .local:=by first|exact .inl rfl|exact .inr rfl|assumption):à M A (storeName X.env x u) Q E s :=
 OG I hN hi hx r (λs' I' _=>h s' I') hf
def Inv.xJ (I:Inv X π σ H s) (ho:s'.os=s.os) (u:Un (gO X.stack) ch H H' s.heap s'.heap) (aE:bY X.prog X.w H' s'.heap) (hg:AllBare s'.gens)
 (lQ:∀b∈ch,(b∈X.ex\/X.dM.heap.objs.size<=b)/\b≠X.env.locals/\(∀x c,X.env.cells.lookup x=some c->c≠b)/\∀p∈X.pn++π,p.1≠b):Inv X π σ H' s':=by
 obtain⟨h',g',d',t',o'⟩:=s';have e:o'=s.os:=ho;subst e;exact I.call (g':=g') (t':=t') (d':=d') u aE hg lQ
end
abbrev XK:=Í->Option á->Hp->Prop
noncomputable abbrev St:=List (Option V)
abbrev VK:=V->Hp->Prop
abbrev TE:=St->Hp->VK->Prop
abbrev TT:=St->Hp->(Bool->Hp->Prop)->Prop
abbrev TA:=St->Hp->(List V->Hp->Prop)->Prop
structure Ends where
 nx:St->Hp->Prop
 rt:VK
 bk:St->Hp->Prop:=λ_ _=>False
 ct:St->Hp->Prop:=λ_ _=>False
abbrev TS:=Ends->St->Hp->Prop
def EP (X:Cx) (π:List (á×Obj)) (σ:St) (Q:VK) (u:Í) (s':É):Prop:=∃v H',Inv X π σ H' s'/\RelV v u/\Q v H'
def TP (X:Cx) (π:List (á×Obj)) (σ:St) (Q:Bool->Hp->Prop) (b:Bool) (s':É):Prop:=∃H',Inv X π σ H' s'/\Q b H'
def AP (X:Cx) (π:List (á×Obj)) (σ:St) (Q:List V->Hp->Prop) (us:List Í) (s':É):Prop:=∃vs H',Inv X π σ H' s'/\Vals vs us/\Q vs H'
def SP (X:Cx) (π:List (á×Obj)) (D:Ends) (f:Flow) (s':É):Prop :=
 match f with
 | .next=>∃ aY H',Inv X π aY H' s'/\D.nx aY H'
 | .brk=>∃ aY H',Inv X π aY H' s'/\D.bk aY H'
 | .cont=>∃ aY H',Inv X π aY H' s'/\D.ct aY H'
 | .ret u=>∃v aY H',Inv X π aY H' s'/\RelV v u/\D.rt v H'
def PE (X:Cx) (e:ļ) (t:TE):Prop :=
 ∀(π:List (á×Obj)) (s:É) (σ:St) (H:Hp) (Q:VK),Inv X π σ H s->t σ H Q->à (ø X.prog X.w) X.A (ţ e X.env) (EP X π σ Q) X.xe s
def PT (X:Cx) (e:ļ) (t:TT):Prop :=
 ∀(π:List (á×Obj)) (s:É) (σ:St) (H:Hp) (Q:Bool->Hp->Prop),Inv X π σ H s->t σ H Q->à (ø X.prog X.w) X.A (isTrue e X.env (ţ e X.env)) (TP X π σ Q) X.xe s
def PW (X:Cx) (e:ļ) (t:TT):Prop :=
 ∀(whole:Sem Í) (π:List (á×Obj)) (s:É) (σ:St) (H:Hp) (Q:Bool->Hp->Prop),Inv X π σ H s->t σ H Q->à (ø X.prog X.w) X.A (isTrue e X.env whole) (TP X π σ Q) X.xe s
def PW.pt (h:PW X e t):PT X e t:=h _
def PA (X:Cx) (es:List ļ) (t:TA):Prop :=
 ∀(pos:Pos) (π:List (á×Obj)) (s:É) (σ:St) (H:Hp) (Q:List V->Hp->Prop),Inv X π σ H s->t σ H Q->à (ø X.prog X.w) X.A (spliced (aab pos (Þ es X.env))) (AP X π σ Q) X.xe s
def PS (X:Cx) (st:Stmt) (t:TS):Prop :=
 ∀(π:List (á×Obj)) (s:É) (σ:St) (H:Hp) (D:Ends),Inv X π σ H s->t D σ H->à (ø X.prog X.w) X.A (exec st X.env) (SP X π D) X.xe s
def eM (X:Cx) (st:List Stmt) (t:TS):Prop :=
 ∀(π:List (á×Obj)) (s:É) (σ:St) (H:Hp) (D:Ends),Inv X π σ H s->t D σ H->à (ø X.prog X.w) X.A (execs st X.env) (SP X π D) X.xe s
def aD {α:Type} {t:Sem α} {Q Q':α->É->Prop} {M:Model} {A:đ} {E:Í->É->Prop} {s:É} (h:à M A t Q E s) (hQ:∀a s,Q a s->Q' a s):à M A t Q' E s:=ĳ h hQ λ_ _ x=>x
section
variable {X:Cx}
def Ww (i:Nat):TE:=fun σ H Q=>∃v,σ[i]?=some (some v)/\Q v H
def tC (v:V):TE:=λ_ H Q=>Q v H
def Tj {i:Nat} {x:Str} {pos:Pos} (hN:X.N[i]?=some x) (hv:uO X.env.scope x) (hd:(x==("__debug__":Str))=false:=by decide) (kK:(x==("__classdict__":Str))=false:=by decide):PE X (.Name x pos) (Ww i):=by
 intro π s σ H Q I h;obtain⟨v,e,h⟩:=h;obtain⟨m,hn,hl⟩:=I.loc;obtain⟨u,r,l⟩:=hl i x v hN e hv;have fin:EP X π σ Q u s:=⟨v,H,I,r,h⟩
 rcases l with ⟨hk,hm⟩ | ⟨hk,c,hc,nF⟩
 ·exact wpAny_Name (wpAny_loadName_local I.ok.kind hk hn hm fin) hd
 ·rcases hk with hk|hk
  ·exact wpAny_Name (wpAny_loadName_cell I.ok.kind hk hc nF fin) hd
  ·exact wpAny_Name (wpAny_loadName_free I.ok.kind hk hc nF fin kK) hd
def IK {i j pos}:PE X (.Constant (.int i) j pos) (tC (.int i)):=λ_ _ _ H _ I h=>wpAny_Constant_int ⟨.int i,H,I.tok _,⟨_,rfl⟩,h⟩
def Vc {b j pos}:PE X (.Constant (.bool b) j pos) (tC (.bl b)):=λ_ _ _ H _ I h=>Constant_bool ⟨.bl b,H,I,rfl,h⟩
def IL {j pos}:PE X (.Constant .none j pos) (tC .au):=λ_ _ _ H _ I h=>Constant_none ⟨.au,H,I,rfl,h⟩
def IM {x j pos}:PE X (.Constant (.str x) j pos) (tC (.str x)):=λ_ _ _ H _ I h=>Calls.Constant_str ⟨.str x,H,I.tok _,⟨_,rfl⟩,h⟩
def Gl (X:Cx) (x:Str):Prop:=X.env.kindOf x=some .globalImplicit
def HA {E:Í->É->Prop} {π:List (á×Obj)} {s:É} {σ:St} {H:Hp} {x:Str} {u:Í} {pos:Pos} {Q:Í->É->Prop} (I:Inv X π σ H s) (hg:Gl X x) (hm:X.mg x=some u) (h:Q u s)
  (hd:(x==("__debug__":Str))=false:=by decide):à (ø X.prog X.w) X.A (ţ (.Name x pos) X.env) Q E s :=
 Calls.Name_function_global I.ok.kind hg (Calls.loadGlobal_global (by rw[I.ok.glob];exact I.mod.glob.keeps I.bk) hm h) hd
def lE {E:Í->É->Prop} {π:List (á×Obj)} {s:É} {σ:St} {H:Hp} {x:Str} {u:Í} {pos:Pos} {Q:Í->É->Prop} (I:Inv X π σ H s) (hg:Gl X x) (hm:X.mg x=none) (hv:ą x=some u) (h:Q u s)
  (hn:x≠"__name__":=by decide) (hd:(x==("__debug__":Str))=false:=by decide):à (ø X.prog X.w) X.A (ţ (.Name x pos) X.env) Q E s:=by
 obtain⟨mb,h1,h2⟩:=I.mod.blt;exact Calls.Name_function_global I.ok.kind hg (Calls.loadGlobal_builtin (by rw[I.ok.glob];exact I.mod.glob.keeps I.bk) hm (by rw[I.ok.blt];exact h1.keeps I.bk) ((h2 x hn).trans hv) h) hd
def HB (hg:Gl X x) (hm:X.mg x=some u) (r:RelV v u) (hd:(x==("__debug__":Str))=false:=by decide):PE X (.Name x pos) (tC v) :=
 λ_ _ _ H _ I h=>HA I hg hm ⟨v,H,I,r,h⟩ hd
def Aw {x:Str} {v:V} {u:Í} {pos:Pos} (hg:Gl X x) (hm:X.mg x=none) (hv:ą x=some u) (r:RelV v u) (hn:x≠"__name__":=by decide) (hd:(x==("__debug__":Str))=false:=by decide):PE X (.Name x pos) (tC v) :=
 λ_ _ _ H _ I h=>lE I hg hm hv ⟨v,H,I,r,h⟩ hn hd
variable {a b:ļ} {ta tb:TE} {pos:Pos}
variable {tA yJ:TT} {rest:List ļ}
def cG (t u:TT):TT:=fun σ H Q=>t σ H λc H1=>if c=true then u σ H1 Q else Q false H1
def fM (t u:TT):TT:=fun σ H Q=>t σ H λc H1=>if c=true then Q true H1 else u σ H1 Q
def fe (t:TT):TT:=fun σ H Q=>t σ H λc H1=>Q (!c) H1
def Ru (ha:PT X a tA):PW X (.BoolOp .And [a] pos) tA:=by
 intro wh π s σ H Q I h;refine isTrue_and (aD (ha π s σ H Q I h) λc s1 e=>?_)
 cases c with
 |true=>exact isTrue_and_nil e
 |false=>exact e
def Tn (ha:PT X a tA):PW X (.BoolOp .Or [a] pos) tA:=by
 intro wh π s σ H Q I h;refine isTrue_or (aD (ha π s σ H Q I h) λc s1 e=>?_)
 cases c with
 |false=>exact isTrue_or_nil e
 |true=>exact e
def To (ha:PT X a tA) (hb:PW X (.BoolOp .And (b::rest) pos) yJ):PW X (.BoolOp .And (a::b::rest) pos) (cG tA yJ):=by
 intro wh π s σ H Q I h;refine isTrue_and (aD (ha π s σ H _ I h) λc s1 ⟨H1,I1,q1⟩=>?_)
 cases c with
 |true=>exact hb wh π s1 σ H1 Q I1 q1
 |false=>exact⟨H1,I1,q1⟩
def Vd (ha:PT X a tA) (hb:PW X (.BoolOp .Or (b::rest) pos) yJ):PW X (.BoolOp .Or (a::b::rest) pos) (fM tA yJ):=by
 intro wh π s σ H Q I h;refine isTrue_or (aD (ha π s σ H _ I h) λc s1 ⟨H1,I1,q1⟩=>?_)
 cases c with
 |true=>exact⟨H1,I1,q1⟩
 |false=>exact hb wh π s1 σ H1 Q I1 q1
def Tp (ha:PT X a tA):PT X (.UnaryOp .Not a pos) (fe tA):=by
 intro π s σ H Q I h;exact isTrue_not (ha π s σ H (λc H1=>Q (!c) H1) I h)
def Ve (ta tb:TE):TE:=fun σ H Q=>ta σ H λx H1=>∃c,x=.bl c/\if c=true then tb σ H1 Q else Q (.bl false) H1
def Wx (ta tb:TE):TE:=fun σ H Q=>ta σ H λx H1=>∃c,x=.bl c/\if c=true then Q (.bl true) H1 else tb σ H1 Q
def Vf (ta:TE):TE:=fun σ H Q=>ta σ H λx H1=>∃c,x=.bl c/\Q (.bl (!c)) H1
def Tq {op} (h:PE X a t):PE X (.BoolOp op [a] pos) t:=λπ s σ H Q I hw=>BoolOp_one (h π s σ H Q I hw)
def Tr (ha:PE X a ta) (hb:PE X (.BoolOp .And (b::rest) pos) tb):PE X (.BoolOp .And (a::b::rest) pos) (Ve ta tb):=by
 intro π s σ H Q I h;refine BoolOp_and (aD (ha π s σ H _ I h) λv s1 ⟨x,H1,I1,r1,q1⟩=>?_);obtain⟨c,rfl,q1⟩:=q1;cases r1;refine Į ?_
 cases c with
 |true=>exact hb π s1 σ H1 Q I1 q1
 |false=>exact⟨.bl false,H1,I1,rfl,q1⟩
def Vg (ha:PE X a ta) (hb:PE X (.BoolOp .Or (b::rest) pos) tb):PE X (.BoolOp .Or (a::b::rest) pos) (Wx ta tb):=by
 intro π s σ H Q I h;refine BoolOp_or (aD (ha π s σ H _ I h) λv s1 ⟨x,H1,I1,r1,q1⟩=>?_);obtain⟨c,rfl,q1⟩:=q1;cases r1;refine Į ?_
 cases c with
 |false=>exact hb π s1 σ H1 Q I1 q1
 |true=>exact⟨.bl true,H1,I1,rfl,q1⟩
def Tt (ha:PE X a ta):PE X (.UnaryOp .Not a pos) (Vf ta):=by
 intro π s σ H Q I h;refine UnaryOp_ (aD (ha π s σ H _ I h) λv s1 ⟨x,H1,I1,r1,q1⟩=>?_);obtain⟨c,rfl,q1⟩:=q1;cases r1;exact not_of (Į ⟨.bl (!c),H1,I1,rfl,q1⟩)
def Xt (t:TT) (ta tb:TE):TE:=fun σ H Q=>t σ H λc H1=>if c=true then ta σ H1 Q else tb σ H1 Q
def P2 {c:ļ} (hc:PT X c tA) (ha:PE X a ta) (hb:PE X b tb):PE X (.IfExp c a b pos) (Xt tA ta tb):=by
 intro π s σ H Q I h;refine wpAny_IfExp (aD (hc π s σ H _ I h) λd s1 ⟨H1,I1,q1⟩=>?_)
 cases d with
 |true=>exact ha π s1 σ H1 Q I1 q1
 |false=>exact hb π s1 σ H1 Q I1 q1
end
def bp (K:Ĳ) (H:Hp) (a:á) (xs:List V):Prop :=
 Rd H a (.lst xs) \/
  ∃(o:Obj) (its:Array Í) (n:Nat),K.lookup a=some o/\o.cls=.type "list"/\o.dict=none/\o.data=.seq its n/\its.size<=Õ/\Vals xs its.toList
def aR (K:Ĳ) (H:Hp) (a:á) (xs:List V):Prop :=
 Rd H a (.tup xs) \/
  ∃(o:Obj) (its:Array Í) (n:Nat),K.lookup a=some o/\o.cls=.type "tuple"/\o.data=.seq its n/\its.size<=Õ/\Vals xs its.toList
noncomputable def Wy:Í->Option V
 | .none=>some .au
 | .bool b=>some (.bl b)
 | .int i _=>some (.int i)
 | .str x _=>some (.str x)
 | .bytes b _=>some (.ju b)
 | .float b _=>some (.uL b)
 | .ref a=>some (.ref a)
 | .type n=>some (.ty n)
 |_=>none
def RelV.abs (r:RelV x u):Wy u=some x:=by
 cases x with
 |au=>cases r;rfl
 |bl _=>cases r;rfl
 |int _=>obtain⟨t,rfl⟩:=r;rfl
 |str _=>obtain⟨t,rfl⟩:=r;rfl
 |ju _=>obtain⟨t,rfl⟩:=r;rfl
 |uL _=>obtain⟨t,rfl⟩:=r;rfl
 |ref _=>cases r;rfl
 |ty _=>cases r;rfl
def RelV.inj (r:RelV x u) (q:RelV y u):x=y:=Option.some.inj (r.abs.symm.trans q.abs)
def Vals.inj:∀{xs ys:List V} {us:List Í},Vals xs us->Vals ys us->xs=ys
 |_,_,_,.nil,.nil=>rfl
 |_,_,_,.cons r t,.cons r' t'=>by rw[r.inj r',Vals.inj t t']
section
variable {X:Cx} {π:List (á×Obj)} {σ:St} {H:Hp} {s:É} {a:á} {xs ys:List V}
def bp.of {K:Ĳ} (h:H a=some (.lst xs)):bp K H a xs:=.inl (.inl h)
def aR.of {K:Ĳ} (h:H a=some (.tup xs)):aR K H a xs:=.inl (.inl h)
def Inv.list (I:Inv X π σ H s) (h:bp X.K H a xs):∃its:List Í,Vals xs its/\PlainL s.heap a its.toArray/\xs.length<=Õ:=by
 rcases h with h | ⟨o,its,n,hk,hc,hd,hs,hz,r⟩
 ·obtain⟨z,its,n,r,e⟩:=h.ok I.aE
  exact⟨its,r,⟨_,n,e,rfl,rfl,rfl⟩,z⟩
 ·refine⟨its.toList,r,⟨o,n,I.sg a o hk,hc,hd,by simpa using hs⟩,?_⟩
  have e:=r.length;simp only[þ] at e;omega
def Inv.tuple (I:Inv X π σ H s) (h:aR X.K H a xs):∃its:List Í,Vals xs its/\IsTup s.heap a its.toArray/\xs.length<=Õ:=by
 rcases h with h | ⟨o,its,n,hk,hc,hs,hz,r⟩
 ·obtain⟨z,its,r,p⟩:=h.ok I.aE
  exact⟨its,r,p,z⟩
 ·refine⟨its.toList,r,⟨o,I.sg a o hk,hc,n,by simpa using hs⟩,?_⟩
  have e:=r.length;simp only[þ] at e;omega
def Inv.GQ (I:Inv X π σ H s) (h:bp X.K H a xs) (h':bp X.K H a ys):xs=ys:=by
 obtain⟨its,r,⟨o,n,e,_,_,d⟩,_⟩:=I.list h;obtain⟨its',r',⟨o',n',e',_,_,d'⟩,_⟩:=I.list h';rw[e] at e';cases e';rw[d] at d'
 injection d' with d1 _
 have:its=its':=by simpa using Ĺ Array.toList d1
 subst this;exact r.inj r'
def Inv.wK (I:Inv X π σ H s) (h:aR X.K H a xs) (h':aR X.K H a ys):xs=ys:=by
 obtain⟨its,r,⟨o,e,_,n,d⟩,_⟩:=I.tuple h;obtain⟨its',r',⟨o',e',_,n',d'⟩,_⟩:=I.tuple h';rw[e] at e';cases e';rw[d] at d'
 injection d' with d1 _
 have:its=its':=by simpa using Ĺ Array.toList d1
 subst this;exact r.inj r'
end
noncomputable abbrev Cx.lK (X:Cx) (E:Í->É->Prop):Cx:={ X with xe:=E }
noncomputable abbrev Cx.si (X:Cx):Cx:=X.lK λ_ _=>False
def Cx.Ok.lK {X:Cx} (ok:X.Ok) (E:Í->É->Prop):(X.lK E).Ok :=
 ⟨ok.mod,ok.kind,ok.glob,ok.blt,ok.above,ok.inj,ok.has,ok.pU,ok.hd,ok.frames,ok.sf,ok.yH,ok.bs,ok.i4,ok.lJ,ok.rJ,ok.jn,ok.n0⟩
def Cx.Ok.nj {X:Cx} {E:Í->É->Prop} (ok:(X.lK E).Ok):X.Ok :=
 ⟨ok.mod,ok.kind,ok.glob,ok.blt,ok.above,ok.inj,ok.has,ok.pU,ok.hd,ok.frames,ok.sf,ok.yH,ok.bs,ok.i4,ok.lJ,ok.rJ,ok.jn,ok.n0⟩
section
variable {X:Cx} {π:List (á×Obj)} {σ:St} {H:Hp} {s:É} {E:Í->É->Prop}
def Inv.lK (I:Inv X π σ H s) (E:Í->É->Prop):Inv (X.lK E) π σ H s:=⟨I.ok.lK E,I.os,I.bare,I.base,I.loc,I.cell,I.free,I.fc,I.pin,I.aE,I.len⟩
def Inv.nj (I:Inv (X.lK E) π σ H s):Inv X π σ H s:=⟨I.ok.nj,I.os,I.bare,I.base,I.loc,I.cell,I.free,I.fc,I.pin,I.aE,I.len⟩
def SP.nj (h:SP (X.lK E) π D f s'):SP X π D f s':=by
 cases f with
 |next=>obtain⟨aY,H',I,q⟩:=h;exact⟨aY,H',I.nj,q⟩
 |brk=>obtain⟨aY,H',I,q⟩:=h;exact⟨aY,H',I.nj,q⟩
 |cont=>obtain⟨aY,H',I,q⟩:=h;exact⟨aY,H',I.nj,q⟩
 |ret u=>obtain⟨v,aY,H',I,r,q⟩:=h;exact⟨v,aY,H',I.nj,r,q⟩
def eM.si {st:List Stmt} {t:TS} (h:eM X.si st t):eM X st t:=λπ s σ H D I hw =>
 ĳ (h π s σ H D (I.lK _) hw) (λ_ _ q=>q.nj) λ_ _ z=>aar z
end
section
variable {X:Cx} {st:Stmt} {rest:List Stmt} {t u:TS} {e:ļ} {te:TE} {pos:Pos}
def Vh:TS:=λD σ H=>D.nx σ H
def Wz (t u:TS):TS:=λD σ H=>t { D with nx:=u D } σ H
def Rv:eM X [] Vh:=λ_ _ σ H _ I h=>wpAny_execs_nil ⟨σ,H,I,h⟩
def P4 (h1:PS X st t) (h2:eM X rest u):eM X (st::rest) (Wz t u):=by
 intro π s σ H D I h
 refine wpAny_execs_cons (aD (h1 π s σ H { D with nx:=u D } I h) λf s1 q=>?_)
 cases f with
 |next =>
  obtain⟨aY,H',I',q⟩:=q;exact h2 π s1 aY H' D I' q
 |ret v=>exact q
 |brk=>exact q
 |cont=>exact q
def Rx (h1:PS X st t):eM X [st] t:=by
 intro π s σ H D I h;refine wpAny_execs_cons (aD (h1 π s σ H D I h) λf s1 q=>?_)
 cases f with
 |next=>exact wpAny_execs_nil q
 |ret v=>exact q
 |brk=>exact q
 |cont=>exact q
def Inv.quiet {π:List (á×Obj)} {σ:St} {H:Hp} {s:É} (I:Inv X π σ H s):interactive X.env=false:=by simp[interactive,I.ok.kind]
def Vi (te:TE):TS:=λD σ H=>te σ H λ_ H1=>D.nx σ H1
def Ry (he:PE X e te) (hs:abv e none pos.line X.env=pure false:=by rfl):PS X (.Expr e pos) (Vi te):=by
 intro π s σ H D I h;exact wpAny_Expr_any (aD (he π s σ H _ I h) λv s1 ⟨x,H1,I1,r1,q1⟩=>⟨σ,H1,I1,q1⟩) I.quiet hs
def WA (te:TE):TS:=λD σ H=>te σ H D.rt
def Tu (he:PE X e te):PS X (.Return (some e) pos) (WA te):=by
 intro π s σ H D I h;exact wpAny_Return_some (aD (he π s σ H _ I h) λv s1 ⟨x,H1,I1,r1,q1⟩=>⟨x,σ,H1,I1,r1,q1⟩)
def WB (c:TT) (t u:TS):TS:=λD σ H=>c σ H λb H1=>if b=true then t D σ H1 else u D σ H1
def Vj {c:ļ} {a b:List Stmt} {tc:TT} (hc:PT X c tc) (ha:eM X a t) (hb:eM X b u):PS X (.If c a b pos) (WB tc t u):=by
 intro π s σ H D I h;refine wpAny_If (aD (hc π s σ H _ I h) λd s1 ⟨H1,I1,q1⟩=>?_)
 cases d with
 |true=>exact ha π s1 σ H1 D I1 q1
 |false=>exact hb π s1 σ H1 D I1 q1
end
abbrev TG:=V->St->Hp->(St->Hp->Prop)->Prop
abbrev kL:=List V->St->Hp->(St->Hp->Prop)->Prop
def PG (X:Cx) (target:ļ) (t:TG):Prop :=
 ∀(π:List (á×Obj)) (s:É) (σ:St) (H:Hp) (v:V) (u:Í) (Q:St->Hp->Prop),Inv X π σ H s->RelV v u->t v σ H Q ->
  à (ø X.prog X.w) X.A (aaR target X.env u) (λ_ s'=>∃ aY H',Inv X π aY H' s'/\Q aY H') X.xe s
def lR (X:Cx) (ts:List ļ) (t:kL):Prop :=
 ∀(π:List (á×Obj)) (s:É) (σ:St) (H:Hp) (vs:List V) (us:List Í) (Q:St->Hp->Prop),Inv X π σ H s->Vals vs us->t vs σ H Q ->
  à (ø X.prog X.w) X.A (abI ((ũ ts X.env).map (·.2)) us) (λ_ s'=>∃ aY H',Inv X π aY H' s'/\Q aY H') X.xe s
abbrev yj:=V->V->V->Hp->(Hp->Prop)->Prop
def Ck (X:Cx) (t:yj):Prop :=
 ∀(π:List (á×Obj)) (s:É) (σ:St) (H:Hp) (o i v:V) (ov iv u:Í) (Q:Hp->Prop),Inv X π σ H s->RelV o ov->RelV i iv->RelV v u->t o i v H Q ->
  à (ø X.prog X.w) X.A (setItem ov iv u) (λ_ s'=>∃H',Inv X π σ H' s'/\Q H') X.xe s
section
variable {X:Cx} {pos:Pos}
def km (i:Nat):TG:=λv σ H Q=>Q (σ.set i (some v)) H
def dG (hN:X.N.Nodup) (hi:X.N[i]?=some x) (hx:Loc X.env.scope x) (hf:X.fn x=true\/X.env.scope.names.lookup x=some .local:=by first|exact .inl rfl|exact .inr rfl|assumption):PG X (.Name x pos) (km i):=by
 intro π s σ H v u Q I r h;exact wpAny_assign_Name (mf I hN hi hx r (λs' I'=>⟨_,H,I',h⟩) hf)
def Cm:kL:=λvs σ H Q=>vs=[]/\Q σ H
def Bx (t:TG) (u:kL):kL:=λvs σ H Q=>∃v r,vs=v::r/\t v σ H fun aY H'=>u r aY H' Q
def oO:lR X [] Cm:=by
 intro π s σ H vs us Q I r h;obtain⟨e,h⟩:=h;subst e;cases r;exact assignInOrder_nil ⟨σ,H,I,h⟩
def jc {e:ļ} {es:List ļ} {t:TG} {u:kL} (h1:PG X e t) (h2:lR X es u)
  (hs:(ũ (e::es) X.env).map (·.2)=aaR e X.env::(ũ es X.env).map (·.2):=by rfl):lR X (e::es) (Bx t u):=by
 intro π s σ H vs us Q I r h;obtain⟨v,vr,e1,h⟩:=h;subst e1
 cases r with
 |cons r rr =>
  rw[hs];refine ŭ (aD (h1 π s σ H _ _ _ I r h) λ_ s1 ⟨K9,H1,I1,q1⟩=>?_);exact h2 π s1 K9 H1 _ _ Q I1 rr q1
def Cn (K:Ĳ) (n:Nat) (t:kL):TG:=λv σ H Q=>∃a xs,v=.ref a/\aR K H a xs/\xs.length=n/\t xs σ H Q
def ke {k:Nat} {n:Nat} (hc:X.calm=true) (h:lR X es t)
 (hn:(ũ es X.env).length=n:=by rfl) (pW:(ũ es X.env).findIdx? (·.1)=none:=by rfl):PG X (.Tuple es k pos) (Cn X.K n t):=by
 intro π s σ H v u Q I r hw;obtain⟨a,xs,e1,hq,hl,hw⟩:=hw;subst e1;cases r;obtain⟨its,rv,ht,hz⟩:=I.tuple hq;refine assign_Tuple_tuple (I.ok.hd hc) ht (by simp[hn,<- hl,rv.length]) pW λh' hx=>?_
 have I1:Inv X π σ H { s with heap:=h' }:=I.kept (t':=s.toks) λb o e=>hx b o (è (Î e)) e
 exact h π _ σ H xs _ Q I1 (by simpa using rv) hw
def WC (to ti:TE) (t:yj):TG:=λv σ H Q=>to σ H λo H1=>ti σ H1 λi H2=>t o i v H2 λH3=>Q σ H3
def IQ {o i:ļ} {to ti:TE} {t:yj} (ho:PE X o to) (hi:PE X i ti) (hs:Ck X t)
  (ha:∀v,aaR (.Subscript o i pos) X.env v=(do
   let ov <- aac [v] (ţ o X.env)
   let iv <- aac [v,ov] (ţ i X.env)
   abg pos
   aac [v,ov,iv] (setItem ov iv v)
   release [v,ov,iv] []):=by intro _;rfl):PG X (.Subscript o i pos) (WC to ti t):=by
 intro π s σ H v u Q I r h;rw[ha];refine À (ė (aD (ho π s σ H _ I h) λov s1 ⟨x,H1,I1,r1,q1⟩=>?_));refine À (ė (aD (hi π s1 σ H1 _ I1 q1) λiv s2 ⟨y,H2,I2,r2,q2⟩=>?_));refine À (Ŕ (À (ė (aD (hs π s2 σ H2 x y v ov iv u _ I2 r1 r2 r q2) λ_ s3 ⟨H3,I3,q3⟩=>?_))));exact wpAny_release ⟨σ,H3,I3,q3⟩
def pC (te:TE) (g:TG):TS:=λD σ H=>te σ H λx H1=>g x σ H1 D.nx
def AY {tg e:ļ} {te:TE} {g:TG} (he:PE X e te) (hg:PG X tg g) (hs:δ [tg] e pos.line X.env=pure false:=by rfl) (hw:ε [tg] e X.env=pure none:=by rfl)
  (h1:(ũ [tg] X.env).map (·.2)=[aaR tg X.env]:=by rfl):PS X (.Assign [tg] e pos) (pC te g):=by
 intro π s σ H D I h;refine wpAny_Assign_stores (aD (he π s σ H _ I h) λv s1 ⟨x,H1,I1,r1,q1⟩=>?_) hs hw;rw[h1];exact aD (hg π s1 σ H1 x v _ I1 r1 q1) λ_ s2 q=>q
def Tv {i:Nat} {x:Str} {e:ļ} {te:TE} {pos':Pos} (hN:X.N.Nodup) (hi:X.N[i]?=some x) (hx:Loc X.env.scope x) (he:PE X e te) (hs:abv e (some (.Name x pos')) pos.line X.env=pure false:=by rfl) (hf:X.fn x=true\/X.env.scope.names.lookup x=some .local:=by first|exact .inl rfl|exact .inr rfl|assumption) :
  PS X (.Assign [.Name x pos'] e pos) (pC te (km i)):=by
 intro π s σ H D I h;refine wpAny_Assign_Name (aD (he π s σ H _ I h) λv s1 ⟨y,H1,I1,r1,q1⟩=>?_) hs;exact mf I1 hN hi hx r1 (λs2 I2=>⟨_,H1,I2,q1⟩) hf
def WD (i j:Nat) (ta:TA):TS:=λD σ H=>ta σ H λvs H1=>∃v w,vs=[v,w]/\D.nx ((σ.set i (some v)).set j (some w)) H1
def Tw {i j:Nat} {x y:Str} {a b:ļ} {ta:TA} {px py pt:Pos} {kt k2 iC} (hc:X.calm=true) (hN:X.N.Nodup) (hi:X.N[i]?=some x) (hj:X.N[j]?=some y) (ff:i≠j)
  (hx:X.env.scope.names.lookup x=some .local) (hy:X.env.scope.names.lookup y=some .local) (ha:PA X [a,b] ta)
  (hw:ε [.Tuple [.Name x px,.Name y py] kt pt] (.Tuple [a,b] k2 iC) X.env=pure (some [x,y]))
  (hs:δ [.Tuple [.Name x px,.Name y py] kt pt] (.Tuple [a,b] k2 iC) pos.line X.env=pure false:=by rfl) :
  PS X (.Assign [.Tuple [.Name x px,.Name y py] kt pt] (.Tuple [a,b] k2 iC) pos) (WD i j ta):=by
 intro π s σ H D I h;rw[exec_Assign_arm];refine À (Ŕ ?_);rw[hs];refine À (Â ?_);rw[æ (by decide)];refine À (Tuple_ (aD (ha _ π s σ H _ I h) λus s1 ⟨vs,H1,I1,r1,q1⟩=>?_));obtain⟨v,w,e1,q1⟩:=q1;subst e1;obtain⟨u1,u2,rfl,rv,pX⟩:∃u1 u2,us=[u1,u2]/\RelV v u1/\RelV w u2:=by
  cases r1 with
  |cons p q =>
   cases q with
   |cons p' q' =>
    cases q';exact⟨_,_,rfl,p,p'⟩
 refine ó ?_ (by show 2<=Õ;decide)
 have I2:Inv X π σ H1 { s1 with heap:=s1.heap.push { cls:=.type "tuple",data:=.seq [u1,u2].toArray } }:=I1.kept (t':=s1.toks) λb o e=>Á _ e
 rw[hw];refine À (Â ?_)
 show à (ø X.prog X.w) X.A (do rule "assign.swapped-stores";let items <- unpackItems (.ref s1.heap.objs.size) 2 none;abI [λv=>abJ X.env y v,λv=>abJ X.env x v] items.reverse;pure Flow.next) _ _ _
 refine À (ś (À (unpackItems_tuple (items:=#[u1,u2]) (I.ok.hd hc) (IsTup.new s1.heap _) λh' C6=>?_)));have I3:=I2.kept (h':=h') (t':=s1.toks) λb o e=>C6 b o (è (Î e)) e
 show à _ _ (abI [λv=>abJ X.env y v,λv=>abJ X.env x v] [u2,u1] >>= λ_=>pure Flow.next) _ _ _
 refine À (ŭ (abq (mf I3 hN hj (.inl hy) pX (λs2 I4=>?_) (.inr hy))));refine ŭ (abq (mf I4 hN hi (.inl hx) rv (λs3 I5=>assignInOrder_nil (Â ?_)) (.inr hx)));rw[List.set_comm _ _ (Ň ff)] at I5;exact⟨_,H1,I5,q1⟩
end
section
variable {X:Cx} {pos:Pos}
end
structure It where
 go:Nat->Hp->Prop
 uT:Nat->Hp->V->Hp->Prop
 stop:Nat->Hp->Prop
def cj (X:Cx) (π:List (á×Obj)) (H:Hp) (b:á):Prop :=
 H b=none/\b≠X.env.locals/\b∉X.fs/\(b∈X.ex\/X.dM.heap.objs.size<=b)/\(∀x c,X.env.cells.lookup x=some c->c≠b)/\∀p∈X.pn++π,p.1≠b
def Inv.lL {X:Cx} {π:List (á×Obj)} {σ:St} {H H':Hp} {s:É} {b:á} (I:Inv X π σ H s) (hb:s.heap.objs.size<=b) (hn:H' b=none):cj X π H' b:=by
 refine⟨hn,Ń (Ê I.lt hb),I.pA hb,.inr (Û I.sz hb),λx c e z=>?_,λp hp z=>?_⟩
 ·obtain⟨v,q⟩:=I.cell x c e
  exact absurd (Ê q.lt (by rw[z];exact hb)) (é _)
 ·exact absurd (Ê (Î (I.pin p hp).1) (by rw[z];exact hb)) (é _)
structure Turn (P:ù) (w:ď) (K:Ĳ) (tg:ļ) (J:It) (fp:List á) (it:á) (tn:Nat->ŏ->Prop):Prop where
 mem:it∈fp
 obj:∀i h,tn i h->∀b∈fp,∃o,h.get? b=some o/\∀v,o.data≠.cell v
 keep:∀i h h',tn i h->(∀b∈fp,∀o,h.get? b=some o->h'.get? b=some o)->tn i h'
 item:∀(X:Cx),X.prog=P->X.w=w->X.K=K->X.calm=true->∀(i:Nat) (π:List (á×Obj)) (s:É) (σ:St) (H:Hp) (E:Í->É->Prop),Inv X π σ H s->(∀b∈fp,cj X π H b)->tn i s.heap->J.go i H ->
  à (ø P w) X.A (Ť (.ref it)) (λr s1=>∃u,r=some u /\
   à (ø P w) X.A (Ş tg (.ref it) u) (λ_ s2=>∃x H',Inv X π σ H' s2/\RelV x u/\J.uT i H x H'/\tn (i+1) s2.heap/\∀b∈fp,H' b=none) E s1) E s
 done:∀(X:Cx),X.prog=P->X.w=w->X.K=K->X.calm=true->∀(i:Nat) (π:List (á×Obj)) (s:É) (σ:St) (H:Hp) (E:Í->É->Prop),Inv X π σ H s->(∀b∈fp,cj X π H b)->tn i s.heap->J.stop i H ->
  à (ø P w) X.A (Ť (.ref it)) (λr s1=>r=none/\Inv X π σ H s1) E s
 self:∀(A:đ) (i:Nat) (s:É) (Q:Í->É->Prop) (E:Í->É->Prop),tn i s.heap->Q (.ref it) s->à (ø P w) A (pyIter (.ref it)) Q E s
abbrev TI:=St->Hp->(It->Hp->Prop)->Prop
def La (X:Cx) (π:List (á×Obj)) (σ:St) (tg:ļ) (R:It->Hp->Prop) (i6:Í) (s2:É):Prop :=
 ∃(it:á) (fp:List á) (tn:Nat->ŏ->Prop) (J:It) (H':Hp),i6=.ref it/\Inv X π σ H' s2/\Turn X.prog X.w X.K tg J fp it tn/\tn 0 s2.heap/\(∀b∈fp,cj X π H' b)/\R J H'
def PI (X:Cx) (tg iter:ļ) (wi:TI):Prop :=
 ∀(π:List (á×Obj)) (s:É) (σ:St) (H:Hp) (R:It->Hp->Prop),Inv X π σ H s->wi σ H R ->
  à (ø X.prog X.w) X.A (ţ iter X.env) (λv s1=>à (ø X.prog X.w) X.A (pyIter v) (La X π σ tg R) X.xe s1) X.xe s
def xK (ho:s.heap.get? it=some o) (hc:o.cls=.type n) (hd:o.data=.fields vs)
 (hn:["enumerate","zip","dict_itemiterator","dict_reverseitemiterator","odict_iterator","itertools.zip_longest","itertools.pairwise"].contains n=false) (hQ:Q () s):à M A (Ş tg (.ref it) u) Q E s:=by
 unfold Ş
 cases tg<;>first
  |exact Â hQ
  |(cases u<;>first
    |exact Â hQ
    |(refine À (wpAny_load ho ?_)
      rw[hc,hd]
      show à M A (if (["enumerate","zip","dict_itemiterator","dict_reverseitemiterator","odict_iterator","itertools.zip_longest","itertools.pairwise"].contains n&&vs[0]?==some (Ŋ _))=true then _ else _) Q E s
      rw[æ (by intro h;rw[hn,aaA] at h;cases h)];exact Â hQ))
noncomputable def C7 (K:Ĳ) (a:á):It :=
 ⟨λi H=>∃xs x,bp K H a xs/\xs[i]?=some x,λi H x H'=>H'=H/\∀xs,bp K H a xs->xs[i]?=some x,λi H=>∃xs,bp K H a xs/\xs.length<=i⟩
noncomputable def C8 (K:Ĳ) (a:á):It :=
 ⟨λi H=>∃xs x,aR K H a xs/\xs[i]?=some x,λi H x H'=>H'=H/\∀xs,aR K H a xs->xs[i]?=some x,λi H=>∃xs,aR K H a xs/\xs.length<=i⟩
noncomputable def uU (lo:Int) (n:Nat):It:=⟨λi _=>i<n,λi H x H'=>H'=H/\x=.int (lo+i),λi _=>n<=i⟩
def OH {P:ù} {w:ď} {K:Ĳ} {tg:ļ} (a it:á):Turn P w K tg (C7 K a) [it] it (λi h=>h.IsListIter it a i) where
 mem:=by simp
 obj:=λi h st b hb=>by
  have e:b=it:=by simpa using hb
  subst e;obtain⟨o,e,c,d⟩:=st;exact⟨o,e,λv z=>by rw[d] at z;cases z⟩
 keep:=λi h h' st k=>st.at λo e=>k it (by simp) o e
 item:=by
  intro X hP hw hK hc i π s σ H E I hf st hg;subst hP hw hK;obtain⟨xs,x,hq,hx⟩:=hg;obtain⟨its,rv,p,hz⟩:=I.list hq;obtain⟨u,hu,ru⟩:=rv.get hx;obtain⟨f0,f1,f2,f3,f4,f5⟩:=hf it (by simp);refine wpAny_pyNext_list_item st p.isList (x:=u) (by simpa using hu) λh' dw sb=>?_
  have I1:Inv X π σ H { s with heap:=h' }:=I.turned (t':=s.toks) (λb o hb e=>(sb.2 b hb).trans e) f0 f1 f3 f4 f5
  obtain⟨o,e,c,d⟩:=id dw
  exact⟨u,rfl,xK (s:={ s with heap:=h' }) e c d (by decide) ⟨x,H,I1,ru,⟨rfl,λys hy=>by rw[I.GQ hy hq];exact hx⟩,dw,λb hb=>(hf b hb).1⟩⟩
 done:=by
  intro X hP hw hK hc i π s σ H E I hf st hg;subst hP hw hK;obtain⟨xs,hq,hx⟩:=hg;obtain⟨its,rv,p,hz⟩:=I.list hq;obtain⟨f0,f1,f2,f3,f4,f5⟩:=hf it (by simp);have hl:=rv.length;exact wpAny_pyNext_list_end (I.ok.hd hc) st p.isList (by simp;omega) λh' eb=>⟨rfl,I.turned (t':=s.toks) (λb o hb e=>eb b o hb e) f0 f1 f3 f4 f5⟩
 self:=λ_ _ _ _ _ st h=>wpAny_pyIter_listiter st h
def NF {P:ù} {w:ď} {K:Ĳ} {tg:ļ} (a it:á):Turn P w K tg (C8 K a) [it] it (λi h=>h.IsTupleIter it a i) where
 mem:=by simp
 obj:=λi h st b hb=>by
  have e:b=it:=by simpa using hb
  subst e;obtain⟨o,e,c,d⟩:=st;exact⟨o,e,λv z=>by rw[d] at z;cases z⟩
 keep:=λi h h' st k=>st.at λo e=>k it (by simp) o e
 item:=by
  intro X hP hw hK hc i π s σ H E I hf st hg;subst hP hw hK;obtain⟨xs,x,hq,hx⟩:=hg;obtain⟨its,rv,p,hz⟩:=I.tuple hq;obtain⟨u,hu,ru⟩:=rv.get hx;obtain⟨f0,f1,f2,f3,f4,f5⟩:=hf it (by simp);refine wpAny_pyNext_tuple_item st (show s.heap.IsTuple a its.toArray from p) (x:=u) (by simpa using hu) λh' dw sb=>?_
  have I1:Inv X π σ H { s with heap:=h' }:=I.turned (t':=s.toks) (λb o hb e=>(sb.2 b hb).trans e) f0 f1 f3 f4 f5
  obtain⟨o,e,c,d⟩:=id dw
  exact⟨u,rfl,xK (s:={ s with heap:=h' }) e c d (by decide) ⟨x,H,I1,ru,⟨rfl,λys hy=>by rw[I.wK hy hq];exact hx⟩,dw,λb hb=>(hf b hb).1⟩⟩
 done:=by
  intro X hP hw hK hc i π s σ H E I hf st hg;subst hP hw hK;obtain⟨xs,hq,hx⟩:=hg;obtain⟨its,rv,p,hz⟩:=I.tuple hq;obtain⟨f0,f1,f2,f3,f4,f5⟩:=hf it (by simp);have hl:=rv.length;exact wpAny_pyNext_tuple_end (I.ok.hd hc) st (show s.heap.IsTuple a its.toArray from p) (by simp;omega) λh' eb=>⟨rfl,I.turned (t':=s.toks) (λb o hb e=>eb b o hb e) f0 f1 f3 f4 f5⟩
 self:=λ_ _ _ _ _ st h=>wpAny_pyIter_tupleiter st h
def NG {P:ù} {w:ď} {K:Ĳ} {tg:ļ} (it:á) (lo:Int) (n:Nat):Turn P w K tg (uU lo n) [it] it (λi h=>IsRangeIter h it (lo+(i:Nat)*1) ((n:Int)-(i:Nat)) 1) where
 mem:=by simp
 obj:=λi h st b hb=>by
  have e:b=it:=by simpa using hb
  subst e;exact⟨_,st,λv z=>by
   have z':Data.fields _=Data.cell v:=z;cases z'⟩
 keep:=λi h h' st k=>k it (by simp) _ st
 item:=by
  intro X hP hw hK hc i π s σ H E I hf st hg;subst hP hw hK;obtain⟨f0,f1,f2,f3,f4,f5⟩:=hf it (by simp);have W:=Walks.range (prog:=X.prog) (w:=X.w) (I.ok.hd hc) it lo 1 n;refine W.item i s _ _ hg st λv h' tk hv dw kk=>?_;obtain⟨t,rfl⟩:=hv
  have I1:Inv X π σ H { s with heap:=h',toks:=tk }:=I.turned (λb o hb e=>kk b o (by simpa using hb) e) f0 f1 f3 f4 f5
  refine⟨_,rfl,xK (s:={ s with heap:=h',toks:=tk }) (n:="range_iterator") dw rfl rfl (by decide) ⟨.int (lo+i),H,I1,⟨t,?_⟩,⟨rfl,rfl⟩,dw,λb hb=>(hf b hb).1⟩⟩
  rw[Int.mul_one]
 done:=by
  intro X hP hw hK hc i π s σ H E I hf st hg;subst hP hw hK;obtain⟨f0,f1,f2,f3,f4,f5⟩:=hf it (by simp);exact wpAny_pyNext_range_end (I.ok.hd hc) st (by have:n<=i:=hg;omega) λh' eb=>⟨rfl,I.turned (t':=s.toks) (λb o hb e=>eb b o hb e) f0 f1 f3 f4 f5⟩
 self:=λ_ _ _ _ _ st h=>aa9 st h
section
variable {X:Cx} {tg:ļ}
def JP (K:Ĳ) (tl:TE):TI:=fun σ H R=>tl σ H λx H1=>∃a,x=.ref a/\(∃xs,bp K H1 a xs)/\R (C7 K a) H1
def Ky (K:Ĳ) (tl:TE):TI:=fun σ H R=>tl σ H λx H1=>∃a,x=.ref a/\(∃xs,aR K H1 a xs)/\R (C8 K a) H1
def Rz {l:ļ} {tl:TE} (hl:PE X l tl):PI X tg l (JP X.K tl):=by
 intro π s σ H R I h;refine aD (hl π s σ H _ I h) λv s1 ⟨x,H1,I1,r1,q1⟩=>?_;obtain⟨a,e,⟨xs,hq⟩,q⟩:=q1;subst e;cases r1;obtain⟨its,rv,p,hz⟩:=I1.list hq;refine ŷ p.isList ?_;refine⟨s1.heap.objs.size,[s1.heap.objs.size],_,_,H1,rfl,I1.kept (t':=s1.toks) λb o e=>Á _ e,OH a _,⟨_,Ì _ rfl,rfl,rfl⟩,λb hb=>?_,q⟩;have e:b=s1.heap.objs.size:=by simpa using hb
 subst e;exact I1.lL (Nat.le_refl _) (I1.aE.fresh (Nat.le_refl _))
def Tz {l:ļ} {tl:TE} (hl:PE X l tl):PI X tg l (Ky X.K tl):=by
 intro π s σ H R I h;refine aD (hl π s σ H _ I h) λv s1 ⟨x,H1,I1,r1,q1⟩=>?_;obtain⟨a,e,⟨xs,hq⟩,q⟩:=q1;subst e;cases r1;obtain⟨its,rv,p,hz⟩:=I1.tuple hq;refine ψ (show s1.heap.IsTuple a its.toArray from p) ?_;refine⟨s1.heap.objs.size,[s1.heap.objs.size],_,_,H1,rfl,I1.kept (t':=s1.toks) λb o e=>Á _ e,NF a _,⟨_,Ì _ rfl,rfl,rfl⟩,λb hb=>?_,q⟩;have e:b=s1.heap.objs.size:=by simpa using hb
 subst e;exact I1.lL (Nat.le_refl _) (I1.aE.fresh (Nat.le_refl _))
def GR {π:List (á×Obj)} {σ:St} {H:Hp} {s:É} {R:It->Hp->Prop} {E:Í->É->Prop} {lo hi:Int} {t u v:Tok} {tk:Nat} (I:Inv X π σ H s) (h1:-(2 ^ 62)<=lo) (h2:lo<2 ^ 62) (h3:-(2 ^ 62)<=hi) (h4:hi<2 ^ 62)
  (q:R (uU lo (hi-lo).toNat) H):à (ø X.prog X.w) X.A (pyIter (.ref s.heap.objs.size)) (La X π σ tg R) E { s with heap:=s.heap.push { cls:=.type "range",data:=.fields #[.int lo t,.int hi u,.int 1 v] },toks:=tk }:=by
 refine wpAny_pyIter_range (IsRange.new ..) (small_one h1 h2 h3 h4) ?_
 have I1:Inv X π σ H { s with heap:=s.heap.push { cls:=.type "range",data:=.fields #[.int lo t,.int hi u,.int 1 v] },toks:=tk }:=I.kept λb o e=>Á _ e
 refine⟨(s.heap.push { cls:=.type "range",data:=.fields #[.int lo t,.int hi u,.int 1 v] }).objs.size,[(s.heap.push { cls:=.type "range",data:=.fields #[.int lo t,.int hi u,.int 1 v] }).objs.size],_,_,H,rfl,
  I1.kept (t':=tk) λb o e=>Á _ e,NG _ lo (hi-lo).toNat,?_,λb hb=>?_,q⟩
 ·have e1:lo+((0:Nat):Int)*1=lo:=by simp
  have e2:(((hi-lo).toNat:Nat):Int)-((0:Nat):Int)=ŕ lo hi 1:=by rw[rangeSize_one];split<;>omega
  show IsRangeIter _ _ (lo+((0:Nat):Int)*1) ((((hi-lo).toNat:Nat):Int)-((0:Nat):Int)) 1;rw[e1,e2];exact Ì _ rfl
 ·have e:b=(s.heap.push { cls:=.type "range",data:=.fields #[.int lo t,.int hi u,.int 1 v] }).objs.size:=by simpa using hb
  subst e;exact I1.lL (Nat.le_refl _) (I1.aE.fresh (Nat.le_refl _))
def Vk (ta:TA):TI:=fun σ H R=>ta σ H λvs H1=>∃j:Int,vs=[.int j]/\-(2 ^ 62)<=j/\j<2 ^ 62/\R (uU 0 j.toNat) H1
def Vl (ta:TA):TI:=fun σ H R=>ta σ H λvs H1=>∃i j:Int,vs=[.int i,.int j]/\(-(2 ^ 62)<=i/\i<2 ^ 62/\-(2 ^ 62)<=j/\j<2 ^ 62)/\R (uU i (j-i).toNat) H1
def OI {a:ļ} {ta:TA} {p pos:Pos} (hg:Gl X "range") (hm:X.mg "range"=none) (ha:PA X [a] ta) (hs:Þ [a] X.env=[(false,ţ a X.env)]:=by rfl):PI X tg (.Call (.Name "range" p) [a] [] pos) (Vk ta):=by
 intro π s σ H R I h;refine Call_ (lE I hg hm boot_range (Ĩ (aD (ha pos π s σ H _ I h) λus s1 ⟨vs,H1,I1,r1,q1⟩=>?_) hs rfl));obtain⟨j,e,q1,q2,q⟩:=q1;subst e
 cases r1 with
 |cons r rr =>
  cases rr;obtain⟨t,rfl⟩:=r;exact call_range_1 (GR I1 (by omega) (by omega) q1 q2 (by simpa using q))
def OJ {a b:ļ} {ta:TA} {p pos:Pos} (hg:Gl X "range") (hm:X.mg "range"=none) (ha:PA X [a,b] ta) (hs:Þ [a,b] X.env=[(false,ţ a X.env),(false,ţ b X.env)]:=by rfl) (bZ:Þ [b] X.env=[(false,ţ b X.env)]:=by rfl) :
  PI X tg (.Call (.Name "range" p) [a,b] [] pos) (Vl ta):=by
 intro π s σ H R I h;refine Call_ (lE I hg hm boot_range (Ĩ (aD (ha pos π s σ H _ I h) λus s1 ⟨vs,H1,I1,r1,q1⟩=>?_) (by rw[hs,bZ]) (by rw[bZ];rfl)));obtain⟨i,j,e,⟨q1,q2,q3,q4⟩,q⟩:=q1;subst e
 cases r1 with
 |cons r rr =>
  cases rr with
  |cons r' rr =>
   cases rr;obtain⟨t,rfl⟩:=r;obtain⟨t',rfl⟩:=r';exact call_range_2 (GR I1 q1 q2 q3 q4 q)
def Kz (wi:TI) (g:TG) (tb:TS):TS:=λD σ H=>wi σ H λJ H1=>∃W:Nat->Nat->St->Hp->Prop,(∃m,W 0 m σ H1)/\∀i m σ H,W i m σ H ->
 (J.stop i H/\D.nx σ H)\/(J.go i H/\∃N:St->Hp->Prop,(∀ aY H',N aY H'->∃m',m' < m/\W (i+1) m' aY H')/\∀x H',J.uT i H x H'->g x σ H' fun mG H2=>tb { D with nx:=N,ct:=N,bk:=D.nx } mG H2)
noncomputable def nk (fp:List á) (h:ŏ):List (á×Obj):=fp.filterMap λb=>(h.get? b).map λo=>(b,o)
def qC (hb:b∈fp) (e:h.get? b=some o):(b,o)∈nk fp h:=List.mem_filterMap.mpr ⟨b,hb,by rw[e];rfl⟩
def F7 (hp:p∈nk fp h):p.1∈fp/\h.get? p.1=some p.2:=by
 obtain⟨b,hb,e⟩:=List.mem_filterMap.mp hp
 cases q:h.get? b with
 |none=>rw[q] at e;cases e
 |some o =>
  rw[q] at e;have e':(b,o)=p:=Option.some.inj e;subst e';exact⟨hb,q⟩
def Inv.pinned {π:List (á×Obj)} {σ:St} {H:Hp} {s:É} {fp:List á} (I:Inv X π σ H s) (hf:∀b∈fp,cj X π H b) (ho:∀b∈fp,∃o,s.heap.get? b=some o/\∀v,o.data≠.cell v):Inv X (π++nk fp s.heap) σ H s :=
 I.ip λp hp=>(Ù.mp hp).elim (λz=>I.pin p (Æ _ z)) λz=>by
  obtain⟨hb,e⟩:=F7 z;obtain⟨f0,f1,f2,_⟩:=hf p.1 hb;obtain⟨o,e',d⟩:=ho p.1 hb;rw[e] at e';cases e';exact⟨e,f0,f1,f2,d⟩
def Inv.jd {π pl:List (á×Obj)} {σ:St} {H:Hp} {s:É} (I:Inv X (π++pl) σ H s):Inv X π σ H s:=I.ip λp hp=>I.pin p (Æ _ (ħ _ hp))
def TC {iter:ļ} {body:List Stmt} {wi:TI} {g:TG} {tb:TS} {pos:Pos} (hp:PassesOwn (ø X.prog X.w) X.A X.env X.xe) (hc:X.calm=true) (hi:PI X tg iter wi) (hg:PG X tg g) (hb:eM X body tb)
  (hs:∀x,ô iter X.env x=pure x:=by intro _;rfl):PS X (.For tg iter body [] pos) (Kz wi g tb):=by
 intro π s σ H D I h;refine wpAny_For (aD (hi π s σ H _ I h) λv s1 h1=>aD h1 λi6 s2 h2=>?_) hs;obtain⟨it,fp,tn,J,H2,e,I2,T,dO,f2,W,⟨m0,w0⟩,turn⟩:=h2;subst e;have stat:∀{H':Hp},(∀b∈fp,H' b=none)->∀b∈fp,cj X π H' b:=λhn b hb=>⟨hn b hb,(f2 b hb).2⟩;refine codeAny_forLoop_any (λn s'=>∃i aY H',Inv X π aY H' s'/\tn i s'.heap/\(∀b∈fp,H' b=none)/\W i n aY H') ?_ m0 ⟨0,σ,H2,I2,dO,λb hb=>(f2 b hb).1,w0⟩;rintro n s3 ⟨i,lS,H3,I3,gm,n5,w3⟩
 rcases turn i n lS H3 w3 with ⟨stop,qn⟩ | ⟨go,N,hN,step⟩
 ·refine aaW hp (aD (T.done X rfl rfl rfl hc i π s3 lS H3 X.xe I3 (stat n5) gm stop) λr s4 ⟨hr,I4⟩=>?_)
  subst hr;exact wpAny_execs_nil ⟨lS,H3,I4,qn⟩
 ·refine aaW hp (aD (T.item X rfl rfl rfl hc i π s3 lS H3 X.xe I3 (stat n5) gm go) λr s4 ⟨u,hr,h4⟩=>?_)
  subst hr;refine aaW hp (aD h4 λ_ s5 ⟨x,H5,I5,r5,y5,iD,uV⟩=>?_);have uW:=I5.pinned (stat uV) (T.obj _ _ iD);refine aaW hp (aD (hg _ s5 lS H5 x u _ uW r5 (step x H5 y5)) λ_ s6 ⟨Xu,H6,I6,q6⟩=>?_);refine aaW hp (aD (hb _ s6 Xu H6 _ I6 q6) λf s7 q7=>?_);have again:∀{kM:St} {H7:Hp},Inv X (π++nk fp s5.heap) kM H7 s7->N kM H7->∃m,m<n/\∃i aY H',Inv X π aY H' s7/\tn i s7.heap/\(∀b∈fp,H' b=none)/\W i m aY H':=λ{kM H7} I7 n7=>by
   obtain⟨m',hm,w7⟩:=hN kM H7 n7;refine⟨m',hm,i+1,kM,H7,I7.jd,T.keep _ _ _ iD λb hb o e=>(I7.pin (b,o) (Æ _ (Æ _ (qC hb e)))).1,λb hb=>?_,w7⟩;obtain⟨o,e,d⟩:=T.obj _ _ iD b hb;exact(I7.pin (b,o) (Æ _ (Æ _ (qC hb e)))).2.1
  cases f with
  |next=>obtain⟨kM,H7,I7,n7⟩:=q7;exact again I7 n7
  |cont=>obtain⟨kM,H7,I7,n7⟩:=q7;exact again I7 n7
  |brk=>obtain⟨kM,H7,I7,q7⟩:=q7;exact⟨kM,H7,I7.jd,q7⟩
  |ret v=>obtain⟨x7,kM,H7,I7,r7,q7⟩:=q7;exact⟨x7,kM,H7,I7.jd,r7,q7⟩
end
abbrev R2:=V->V->Hp->VK->Prop
def aW (X:Cx) (f:Í->Í->Sem Í) (r:R2):Prop :=
 ∀(π:List (á×Obj)) (s:É) (σ:St) (H:Hp) (x y:V) (v u:Í) (Q:VK),Inv X π σ H s->RelV x v->RelV y u->r x y H Q ->
  à (ø X.prog X.w) X.A (f v u) (EP X π σ Q) X.xe s
def uX (X:Cx) (f:Í->Sem Í) (r:V->Hp->VK->Prop):Prop :=
 ∀(π:List (á×Obj)) (s:É) (σ:St) (H:Hp) (x:V) (v:Í) (Q:VK),Inv X π σ H s->RelV x v->r x H Q ->
  à (ø X.prog X.w) X.A (f v) (EP X π σ Q) X.xe s
def bV (X:Cx) (f:Í) (r:List V->Hp->VK->Prop):Prop :=
 ∀(π:List (á×Obj)) (s:É) (σ:St) (H:Hp) (xs:List V) (us:List Í) (Q:VK),Inv X π σ H s->Vals xs us->r xs H Q ->
  à (ø X.prog X.w) X.A (call f us) (EP X π σ Q) X.xe s
def WE (X:Cx) (r:V->Hp->(Bool->Hp->Prop)->Prop):Prop :=
 ∀(π:List (á×Obj)) (s:É) (σ:St) (H:Hp) (x:V) (v:Í) (Q:Bool->Hp->Prop),Inv X π σ H s->RelV x v->r x H Q ->
  à (ø X.prog X.w) X.A (truthy v) (TP X π σ Q) X.xe s
def uY (r:R2) (ta tb:TE):TE:=fun σ H Q=>ta σ H λx H1=>tb σ H1 λy H2=>r x y H2 Q
def Xv (r:V->Hp->VK->Prop) (ta:TE):TE:=fun σ H Q=>ta σ H λx H1=>r x H1 Q
def rI (C:Int->Int->Prop) (g:Int->Int->V):R2:=λx y H Q=>∃i j,x=.int i/\y=.int j/\C i j/\Q (g i j) H
def n6 (g:Int->Int->V):R2:=λx y H Q=>∃i j,x=.int i/\y=.int j/\Q (g i j) H
def rU (g:Int->V):V->Hp->VK->Prop:=λx H Q=>∃i,x=.int i/\Q (g i) H
section
variable {X:Cx} {a b c:ļ} {ta tb tc:TE} {pos:Pos}
def Co (ha:PE X a ta) (hb:PE X b tb) {π:List (á×Obj)} {s:É} {σ:St} {H:Hp} {R:V->V->Hp->Prop} (I:Inv X π σ H s)
  (h:ta σ H λx H1=>tb σ H1 λy H2=>R x y H2) {Q:Í->É->Prop} {f:Í->Í->Sem Í}
  (hf:∀v u s2 x y H2,Inv X π σ H2 s2->RelV x v->RelV y u->R x y H2->à (ø X.prog X.w) X.A (f v u) Q X.xe s2) :
  à (ø X.prog X.w) X.A (ţ a X.env) (λv bI=>à (ø X.prog X.w) X.A (ţ b X.env) (λu yk=>à (ø X.prog X.w) X.A (f v u) Q X.xe yk) X.xe bI) X.xe s:=by
 refine aD (ha π s σ H _ I h) λv s1 ⟨x,H1,I1,r1,q1⟩=>?_;refine aD (hb π s1 σ H1 _ I1 q1) λu s2 ⟨y,H2,I2,r2,q2⟩=>?_;exact hf v u s2 x y H2 I2 r1 r2 q2
def Vm (ho:aW X (ŋ op) r) (ha:PE X a ta) (hb:PE X b tb):PE X (.BinOp a op b pos) (uY r ta tb):=by
 intro π s σ H Q I h;exact wpAny_BinOp (Co ha hb I h λv u s2 x y H2 I2 rx ry q=>ho π s2 σ H2 x y v u Q I2 rx ry q)
def Vn {op:UnaryOp} {r:V->Hp->VK->Prop} (ho:uX X (unaryOp op) r) (ha:PE X a ta):PE X (.UnaryOp op a pos) (Xv r ta):=by
 intro π s σ H Q I h;exact UnaryOp_ (aD (ha π s σ H _ I h) λv s1 ⟨x,H1,I1,r1,q1⟩=>ho π s1 σ H1 x v Q I1 r1 q1)
def yK {C:Int->Int->Prop} {g:Int->Int->Int}
 (rule:∀(i j:Int) (t u:Tok) (s:É) (Q:Í->É->Prop) (E:Í->É->Prop),C i j->Q (.int (g i j) s.toks) { s with toks:=s.toks+1 }->à (ø X.prog X.w) X.A (f (.int i t) (.int j u)) Q E s) :
  aW X f (rI C λi j=>.int (g i j)):=by
 intro π s σ H x y v u Q I rx ry h;obtain⟨i,j,rfl,rfl,hc,q⟩:=h;obtain⟨t,rfl⟩:=rx;obtain⟨t',rfl⟩:=ry;exact rule i j t t' s _ _ hc ⟨.int (g i j),H,I.tok _,⟨_,rfl⟩,q⟩
def KC {g:Int->Int->Int}
 (rule:∀(i j:Int) (t u:Tok) (s:É) (Q:Í->É->Prop) (E:Í->É->Prop),Q (.int (g i j) s.toks) { s with toks:=s.toks+1 }->à (ø X.prog X.w) X.A (f (.int i t) (.int j u)) Q E s) :
  aW X f (n6 λi j=>.int (g i j)):=by
 intro π s σ H x y v u Q I rx ry h;obtain⟨i,j,rfl,rfl,q⟩:=h;obtain⟨t,rfl⟩:=rx;obtain⟨t',rfl⟩:=ry;exact rule i j t t' s _ _ ⟨.int (g i j),H,I.tok _,⟨_,rfl⟩,q⟩
def yl {g:Int->Int->Bool}
 (rule:∀(i j:Int) (t u:Tok) (s:É) (Q:Í->É->Prop) (E:Í->É->Prop),Q (.bool (g i j)) s->à (ø X.prog X.w) X.A (f (.int i t) (.int j u)) Q E s) :
  aW X f (n6 λi j=>.bl (g i j)):=by
 intro π s σ H x y v u Q I rx ry h;obtain⟨i,j,rfl,rfl,q⟩:=h;obtain⟨t,rfl⟩:=rx;obtain⟨t',rfl⟩:=ry;exact rule i j t t' s _ _ ⟨.bl (g i j),H,I,rfl,q⟩
def WG (i j:Int):Prop:=0<j/\j<1073741824
def WH (i j:Int):Prop:=0<=j/\j<=1000000/\i.natAbs<2 ^ 64
def ym (i j:Int):Prop:=(-(2 ^ 64)<i/\i<2 ^ 64)\/(-(2 ^ 64)<j/\j<2 ^ 64)
def ym.ok (h:ym i j):IntMulOk i j:=by
 rcases h with ⟨h1,h2⟩ | ⟨h1,h2⟩
 ·exact .of_left (intBits_le_64 h1 h2)
 ·exact .of_right (intBits_le_64 h1 h2)
def TF:aW X (ŋ .Add) (n6 λi j=>.int (i+j)):=KC λ_ _ _ _ _ _ _ q=>add_int q
def TH:aW X (ŋ .Sub) (n6 λi j=>.int (i-j)):=KC λ_ _ _ _ _ _ _ q=>sub_int q
def TJ:aW X (ŋ .Mult) (rI ym λi j=>.int (i*j)):=yK λ_ _ _ _ _ _ _ hc q=>mul_int q hc.ok
def RA:aW X (ŋ .FloorDiv) (rI WG λi j=>.int (i / j)):=yK λi j _ _ _ _ _ hc q=>by
 have h1:(0:Int)<j:=hc.1;have h2:j<1073741824:=hc.2;exact floordiv_int (by omega) (by rw[Int.fdiv_eq_ediv_of_nonneg i (by omega)];exact q) (.inl (PyProof.noPylong_small (by omega)))
def TL:aW X (ŋ .Mod) (rI (λ_ j=>0<j) λi j=>.int (i % j)):=yK λi j _ _ _ _ _ hc q=>by
 have h1:(0:Int)<j:=hc;exact mod_int' (by omega) (by rw[Int.fmod_eq_emod_of_nonneg i (by omega)];exact q)
def TM:aW X (ŋ .Pow) (rI WH λi j=>.int (i ^ j.toNat)):=yK λ_ _ _ _ _ _ _ hc q=>pow_int_small hc.1 hc.2.1 hc.2.2 q
def Xw {g:Int->Int}
 (rule:∀(i:Int) (t:Tok) (s:É) (Q:Í->É->Prop) (E:Í->É->Prop),Q (.int (g i) s.toks) { s with toks:=s.toks+1 }->à (ø X.prog X.w) X.A (f (.int i t)) Q E s) :
  uX X f (rU λi=>.int (g i)):=by
 intro π s σ H x v Q I rx h;obtain⟨i,rfl,q⟩:=h;obtain⟨t,rfl⟩:=rx;exact rule i t s _ _ ⟨.int (g i),H,I.tok _,⟨_,rfl⟩,q⟩
def TN:uX X (unaryOp .USub) (rU λi=>.int (-i)):=Xw λ_ _ _ _ _ q=>neg_int q
end
noncomputable def Cp:V->V->Bool
 | .au,.au=>true | .au,.int _=>true | .int _,.au=>true | .au,.bl _=>true | .bl _,.au=>true | .au,.str _=>true | .str _,.au=>true
 | .int _,.int _=>true | .bl _,.bl _=>true | .str _,.str _=>true | .ju _,.ju _=>true
 | .int _,.str _=>true | .str _,.int _=>true | .bl _,.str _=>true | .str _,.bl _=>true
 |_,_=>false
def Xx:R2:=λx y H Q=>Cp x y=true/\Q (.bl (decide (x=y))) H
def Xy:R2:=λx y H Q=>Cp x y=true/\Q (.bl (!decide (x=y))) H
def HC:decide (V.int i=V.int j)=(i==j):=by
 rw[ş];simp
def IS:decide (V.bl i=V.bl j)=(i==j):=by
 rw[ş];simp
def Ax:decide (V.str i=V.str j)=(i==j):=by
 rw[ş];simp
def HD:decide (V.ju i=V.ju j)=(i.toList==j.toList):=by
 rw[ş];cases i;cases j;simp
section
variable {X:Cx} {a b c:ļ} {ta tb tc:TE} {pos:Pos}
def cE {π:List (á×Obj)} {σ:St} {H:Hp} {s:É} {Q:VK} {k k':Bool} (I:Inv X π σ H s) (q:Q (.bl k) H) (e:k=k'):EP X π σ Q (.bool k') s:=by
 subst e;exact⟨.bl k,H,I,rfl,q⟩
def Vo:aW X (Č .Eq) Xx:=by
 intro π s σ H x y v u Q I rx ry h;obtain⟨hs,q⟩:=h
 cases x with
 |au =>
  cases rx
  cases y with
  |au=>cases ry;exact PySem.EqNone.eq_none_none (cE I q (by simp))
  |bl j=>cases ry;exact PySem.EqNone.eq_none_bool (cE I q (by simp))
  |int j=>obtain⟨t',rfl⟩:=ry;exact PySem.EqNone.eq_none_int (cE I q (by simp))
  |str j=>obtain⟨t',rfl⟩:=ry;exact PySem.EqNone.eq_none_str (cE I q (by simp))
  |_=>exact absurd (show false=true from hs) Ë
 |bl i =>
  cases rx
  cases y with
  |au=>cases ry;exact PySem.EqNone.eq_bool_none (cE I q (by simp))
  |bl j=>cases ry;exact eq_bool (cE I q IS)
  |str j=>obtain⟨t',rfl⟩:=ry;exact PySem.EqMixed.eq_bool_str (cE I q (by simp))
  |_=>exact absurd (show false=true from hs) Ë
 |int i =>
  obtain⟨t,rfl⟩:=rx
  cases y with
  |au=>cases ry;exact PySem.EqNone.eq_int_none (cE I q (by simp))
  |int j=>obtain⟨t',rfl⟩:=ry;exact eq_int (cE I q HC)
  |str j=>obtain⟨t',rfl⟩:=ry;exact PySem.EqMixed.eq_int_str (cE I q (by simp))
  |_=>exact absurd (show false=true from hs) Ë
 |str i =>
  obtain⟨t,rfl⟩:=rx
  cases y with
  |au=>cases ry;exact PySem.EqNone.eq_str_none (cE I q (by simp))
  |bl j=>cases ry;exact PySem.EqMixed.eq_str_bool (cE I q (by simp))
  |int j=>obtain⟨t',rfl⟩:=ry;exact PySem.EqMixed.eq_str_int (cE I q (by simp))
  |str j=>obtain⟨t',rfl⟩:=ry;exact eq_str (cE I q Ax)
  |_=>exact absurd (show false=true from hs) Ë
 |ju i =>
  obtain⟨t,rfl⟩:=rx
  cases y with
  |ju j=>obtain⟨t',rfl⟩:=ry;exact PySem.W.eq_bytes (cE I q HD)
  |_=>exact absurd (show false=true from hs) Ë
 |_=>cases y<;>exact absurd (show false=true from hs) Ë
def Vp:aW X (Č .NotEq) Xy:=by
 intro π s σ H x y v u Q I rx ry h;obtain⟨hs,q⟩:=h
 cases x with
 |au =>
  cases rx
  cases y with
  |au=>cases ry;exact PySem.EqNone.ne_none_none (cE I q (by simp))
  |bl j=>cases ry;exact PySem.EqNone.ne_none_bool (cE I q (by simp))
  |int j=>obtain⟨t',rfl⟩:=ry;exact PySem.EqNone.ne_none_int (cE I q (by simp))
  |str j=>obtain⟨t',rfl⟩:=ry;exact PySem.EqNone.ne_none_str (cE I q (by simp))
  |_=>exact absurd (show false=true from hs) Ë
 |bl i =>
  cases rx
  cases y with
  |au=>cases ry;exact PySem.EqNone.ne_bool_none (cE I q (by simp))
  |bl j=>cases ry;exact ne_bool (cE I q (Ĺ not IS))
  |str j=>obtain⟨t',rfl⟩:=ry;exact PySem.EqMixed.ne_bool_str (cE I q (by simp))
  |_=>exact absurd (show false=true from hs) Ë
 |int i =>
  obtain⟨t,rfl⟩:=rx
  cases y with
  |au=>cases ry;exact PySem.EqNone.ne_int_none (cE I q (by simp))
  |int j=>obtain⟨t',rfl⟩:=ry;exact ne_int (cE I q (Ĺ not HC))
  |str j=>obtain⟨t',rfl⟩:=ry;exact PySem.EqMixed.ne_int_str (cE I q (by simp))
  |_=>exact absurd (show false=true from hs) Ë
 |str i =>
  obtain⟨t,rfl⟩:=rx
  cases y with
  |au=>cases ry;exact PySem.EqNone.ne_str_none (cE I q (by simp))
  |bl j=>cases ry;exact PySem.EqMixed.ne_str_bool (cE I q (by simp))
  |int j=>obtain⟨t',rfl⟩:=ry;exact PySem.EqMixed.ne_str_int (cE I q (by simp))
  |str j=>obtain⟨t',rfl⟩:=ry;exact ne_str (cE I q (Ĺ not Ax))
  |_=>exact absurd (show false=true from hs) Ë
 |ju i =>
  obtain⟨t,rfl⟩:=rx
  cases y with
  |ju j=>obtain⟨t',rfl⟩:=ry;exact PySem.W.ne_bytes (cE I q (Ĺ not HD))
  |_=>exact absurd (show false=true from hs) Ë
 |_=>cases y<;>exact absurd (show false=true from hs) Ë
def Vq:aW X (Č .Lt) (n6 λi j=>.bl (decide (i<j))):=yl λ_ _ _ _ _ _ _ q=>lt_int q
def Vr:aW X (Č .LtE) (n6 λi j=>.bl (decide (i<=j))):=yl λ_ _ _ _ _ _ _ q=>le_int q
def Vs:aW X (Č .Gt) (n6 λi j=>.bl (decide (j<i))):=yl λ_ _ _ _ _ _ _ q=>gt_int q
def Vt:aW X (Č .GtE) (n6 λi j=>.bl (decide (j<=i))):=yl λ_ _ _ _ _ _ _ q=>ge_int q
def RC:aW X (Č .IsNot) (λx y H Q=>y=.au/\Q (.bl (!decide (x=.au))) H):=by
 intro π s σ H x y v u Q I rx ry h;obtain⟨rfl,q⟩:=h;cases ry;refine isnot_none_gen (cE I q ?_)
 cases x<;>first
  |(cases rx;rfl)
  |(obtain⟨t,rfl⟩:=rx;rfl)
def bt (b:ļ) (h:op≠.In:=by decide) (h2:op≠.NotIn:=by decide):aaX op b=false:=by
 have e1:(op==CmpOp.In)=false:=by cases op<;>first|rfl|exact absurd rfl h
 have e2:(op==CmpOp.NotIn)=false:=by cases op<;>first|rfl|exact absurd rfl h2
 cases b<;>simp[aaX,e1,e2]
def RD (ho:aW X (Č op) r) (ha:PE X a ta) (hb:PE X b tb) (hm:aaX op b=false):PE X (.Compare a [op] [b] pos) (uY r ta tb):=by
 intro π s σ H Q I h;exact wpAny_Compare1 (Co ha hb I h λv u s2 x y H2 I2 rx ry q=>ho π s2 σ H2 x y v u Q I2 rx ry q) hm
def tW (t:TE):TT:=fun σ H Q=>t σ H λx H'=>∃k,x=.bl k/\Q k H'
def RE {op:CmpOp} {r:R2} (ho:aW X (Č op) r) (ha:PE X a ta) (hb:PE X b tb) (hm:aaX op b=false):PT X (.Compare a [op] [b] pos) (tW (uY r ta tb)):=by
 intro π s σ H Q I h;refine wpAny_isTrue_Compare1 (aD (ha π s σ H _ I h) λv s1 ⟨x,H1,I1,r1,q1⟩=>aD (hb π s1 σ H1 _ I1 q1) λu s2 ⟨y,H2,I2,r2,q2⟩ =>
  aD (ho π s2 σ H2 x y v u _ I2 r1 r2 q2) λc s3 ⟨z,H3,I3,r3,k,e,q3⟩=>?_) hm
 subst e;cases r3;exact Į ⟨H3,I3,q3⟩
def AZ (r r':R2) (ta tb tc:TE):TE:=fun σ H Q=>ta σ H λx H1=>tb σ H1 λy H2=>r x y H2 λz H3=>∃k,z=.bl k /\
 (if k=true then tc σ H3 λw' H4=>r' y w' H4 Q else Q (.bl false) H3)
def P5 {op jv:CmpOp} {r r':R2} (ho:aW X (Č op) r) (cY:aW X (Č jv) r') (ha:PE X a ta) (hb:PE X b tb) (hc:PE X c tc)
  (hm:lastMarks [op,jv] [b,c]=false:=by with_unfolding_all rfl):PE X (.Compare a [op,jv] [b,c] pos) (AZ r r' ta tb tc):=by
 intro π s σ H Q I h;refine Compare_chain (aD (ha π s σ H _ I h) λv s1 ⟨x,H1,I1,r1,q1⟩=>chain_link (aD (hb π s1 σ H1 _ I1 q1) λu s2 ⟨y,H2,I2,r2,q2⟩ =>
  aD (ho π s2 σ H2 x y v u _ I2 r1 r2 q2) λd s3 ⟨z,H3,I3,r3,k,e,q3⟩=>?_)) hm
 subst e;cases r3;refine Į ?_
 cases k with
 |false=>exact ite_ff ⟨.bl false,H3,I3,rfl,q3⟩
 |true=>exact ite_tt (chain_last (aD (hc π s3 σ H3 _ I3 q3) λw' s4 ⟨z',H4,I4,r4,q4⟩=>cY π s4 σ H4 y z' u w' Q I4 r2 r4 q4))
def P6 {op jv:CmpOp} {r r':R2} (ho:aW X (Č op) r) (cY:aW X (Č jv) r') (ha:PE X a ta) (hb:PE X b tb) (hc:PE X c tc)
  (hm:lastMarks [op,jv] [b,c]=false:=by with_unfolding_all rfl):PT X (.Compare a [op,jv] [b,c] pos) (tW (AZ r r' ta tb tc)):=by
 intro π s σ H Q I h;refine isTrue_chain (aD (ha π s σ H _ I h) λv s1 ⟨x,H1,I1,r1,q1⟩=>test_link (aD (hb π s1 σ H1 _ I1 q1) λu s2 ⟨y,H2,I2,r2,q2⟩ =>
  aD (ho π s2 σ H2 x y v u _ I2 r1 r2 q2) λd s3 ⟨z,H3,I3,r3,k,e,q3⟩=>?_)) hm
 subst e;cases r3;refine Į ?_
 cases k with
 |false =>
  obtain⟨k',e',q'⟩:=q3;cases e';exact ite_ff ⟨H3,I3,q'⟩
 |true =>
  refine ite_tt (test_last (aD (hc π s3 σ H3 _ I3 q3) λw' s4 ⟨z',H4,I4,r4,q4⟩=>aD (cY π s4 σ H4 y z' u w' _ I4 r2 r4 q4) λd' s5 ⟨z2,H5,I5,r5,k2,e2,q5⟩=>?_));subst e2;cases r5;exact Į ⟨H5,I5,q5⟩
def pE (K:Ĳ) (x:V) (H:Hp) (k:Bool):Prop :=
 match x with
 | .au=>k=false
 | .bl b=>k=b
 | .int i=>k=(i != 0)
 | .str y=>y.length<=Õ/\k=((y.length:Int) != 0)
 | .ju y=>y.size<=Õ/\k=((y.size:Int) != 0)
 | .ref p=>(∃xs,bp K H p xs/\k=!xs.isEmpty)\/(∃xs,aR K H p xs/\k=!xs.isEmpty)\/∃ai,H p=some (.dK ai)/\k=!ai.isEmpty
 |_=>False
def NH {κ:Type} {ai:List (κ×V)} {vs:List (κ×Í)} (r:KV ai vs):(!vs.isEmpty)=!ai.isEmpty:=by
 cases r<;>rfl
def FU (r:Vals xs its):(!its.toArray.isEmpty)=!xs.isEmpty:=by
 cases r<;>simp
def oS:(Õ:Nat)<2 ^ 63:=by rw[ζ];decide
def IT:WE X (λx H Q=>∃k,pE X.K x H k/\Q k H):=by
 intro π s σ H x v Q I rx h;obtain⟨k,e,q⟩:=h;have hl:=oS;have hs:Õ=16777216:=ζ
 cases x with
 |au =>
  cases rx;have e':k=false:=e;subst e';exact truthy_none ⟨H,I,q⟩
 |bl b =>
  cases rx;have e':k=b:=e;subst e';exact Į ⟨H,I,q⟩
 |int i =>
  obtain⟨t,rfl⟩:=rx;have e':k=(i != 0):=e;subst e';exact PySem.P.truthy_int ⟨H,I,q⟩
 |str y =>
  obtain⟨t,rfl⟩:=rx;obtain⟨hy,e'⟩:y.length<=Õ/\k=((y.length:Int) != 0):=e;subst e';exact PySem.P.truthy_str (by omega) ⟨H,I.tok _,q⟩
 |ju y =>
  obtain⟨t,rfl⟩:=rx;obtain⟨hy,e'⟩:y.size<=Õ/\k=((y.size:Int) != 0):=e;subst e';exact PySem.W.truthy_bytes (by omega) ⟨H,I.tok _,q⟩
 |ref p =>
  cases rx;have e':(∃xs,bp X.K H p xs/\k=!xs.isEmpty)\/(∃xs,aR X.K H p xs/\k=!xs.isEmpty)\/∃ai,H p=some (.dK ai)/\k=!ai.isEmpty:=e
  rcases e' with ⟨xs,hx,e'⟩ | ⟨xs,hx,e'⟩ | ⟨ai,hx,e'⟩
  ·subst e'
   obtain⟨its,r,pl,hz⟩:=I.list hx;have hlen:=r.length;exact wpAny_truthy_list pl.isList (by simp only[Ô];omega) ⟨H,I.tok _,by rw[FU r];exact q⟩
  ·subst e'
   obtain⟨its,r,pl,hz⟩:=I.tuple hx;have hlen:=r.length;exact truthy_tuple pl (by simp only[Ô];omega) ⟨H,I.tok _,by rw[FU r];exact q⟩
  ·subst e'
   obtain⟨hz,hS,vs,r,m⟩:ai.length<=Õ/\(p==ł)=false/\∃vs,KV ai vs/\s.heap.DictOf (jG X.prog X.w) p vs:=I.aE p _ hx;have hlen:ai.length=vs.length:=Paired.length r;exact wpAny_truthy_dict hS m (by omega) ⟨H,I.tok _,by rw[NH r];exact q⟩
 |_=>exact(show False from e).elim
def P7 (ha:PE X a ta) (he:∀whole,isTrue a X.env whole=(do let v <- whole;abg a.pos;aac [v] (truthy v))) :
  PT X a (fun σ H Q=>ta σ H λx H'=>∃k,pE X.K x H' k/\Q k H'):=by
 intro π s σ H Q I h;exact isTrue_plain (aD (ha π s σ H _ I h) λv s1 ⟨x,H1,I1,r1,q1⟩=>IT π s1 σ H1 x v Q I1 r1 q1) (he _)
def NI:aW X (ŋ .Add) (λx y H Q=>∃i j,x=.str i/\y=.str j/\i.length+j.length<=Õ/\Q (.str (i++j)) H):=by
 intro π s σ H x y v u Q I rx ry h;obtain⟨i,j,rfl,rfl,hz,q⟩:=h;obtain⟨t,rfl⟩:=rx;obtain⟨t',rfl⟩:=ry;exact add_str (λt' tk=>⟨.str (i++j),H,I.tok _,⟨_,rfl⟩,q⟩) hz
def vals1 (r:Vals [x] us):∃u,us=[u]/\RelV x u:=by
 cases r with
 |cons r1 r2=>cases r2;exact⟨_,rfl,r1⟩
def vals2 (r:Vals [x,y] us):∃u w',us=[u,w']/\RelV x u/\RelV y w':=by
 cases r with
 |cons r1 r2 =>
  cases r2 with
  |cons r3 r4=>cases r4;exact⟨_,_,rfl,r1,r3⟩
def OK (hc:X.calm=true):bV X (.builtin "max") (λxs H Q=>∃i j,xs=[.int i,.int j]/\Q (.int (if j > i then j else i)) H):=by
 intro π s σ H xs us Q I r h;obtain⟨i,j,rfl,q⟩:=h;obtain⟨u,w',rfl,⟨t,rfl⟩,⟨t',rfl⟩⟩:=vals2 r;refine max_two_ints (I.ok.hd hc) λh' tk k=>⟨_,H,I.kept k,?_,q⟩;by_cases hj:j > i
 ·rw[Ú hj,Ú hj];exact⟨_,rfl⟩
 ·rw[æ hj,æ hj];exact⟨_,rfl⟩
def OL (hc:X.calm=true):bV X (.builtin "min") (λxs H Q=>∃i j,xs=[.int i,.int j]/\Q (.int (if j<i then j else i)) H):=by
 intro π s σ H xs us Q I r h;obtain⟨i,j,rfl,q⟩:=h;obtain⟨u,w',rfl,⟨t,rfl⟩,⟨t',rfl⟩⟩:=vals2 r;refine min_two_ints (I.ok.hd hc) λh' tk k=>⟨_,H,I.kept k,?_,q⟩;by_cases hj:j<i
 ·rw[Ú hj,Ú hj];exact⟨_,rfl⟩
 ·rw[æ hj,æ hj];exact⟨_,rfl⟩
end
structure aai (h:ŏ) (x dx C:á) (mA:Str->Option Í):Prop where
 obj:h.get? x=some (PySem.W.instObj C dx)
 ns:h.Ns1 dx mA
 ne:dx≠x
section
variable {prog:ù} {w:ď} {A:đ} {E:Í->É->Prop} {s:É} {K:Ĳ} {x dx C f:á} {mA:Str->Option Í} {name:Str} {v:Í}
end
section
variable {P:ù} {w:ď} {H H':Hp} {h h':ŏ} {a C dx:á} {fs Xr:List (Str×V)}
end
structure Xz (K:Ĳ) (C:á):Prop where
 pg:PySem.W.plainGet K C Str.empty=true
 hd:PySem.W.hasDictIn K C=true
 po:PySem.W.plainOver K C=true
 sa:abr K (.ref C) "__setattr__"=some (some (.builtin "object.__setattr__"))
structure Con (K:Ĳ) (C:á) (f:Str) (v:V) (u:Í):Prop where
 at_:abr K (.ref C) f=some (some u)
 rel:RelV v u
 get:PySem.W.specialIn K u "__get__"=some none
 cp:PySem.W.copiedNames.contains f=false
structure Meth (K:Ĳ) (C:á) (m:Str) (f:á):Prop where
 at_:abr K (.ref C) m=some (some (.ref f))
 fn:PySem.W.isFn K (.ref f)=true
 kp:Ų K (.ref f)=true
section
variable {X:Cx} {π:List (á×Obj)} {σ:St} {H:Hp} {s:É} {a C dx:á} {fs:List (Str×V)} {f:Str} {v:V} {A:đ} {E:Í->É->Prop}
end
section
variable {X:Cx} {o e value:ļ} {f:Str} {pos pos' uA:Pos} {ta tv:TE}
end
section
variable {X:Cx} {π:List (á×Obj)} {σ:St} {H:Hp} {s:É} {A:đ} {E:Í->É->Prop} {Q:Í->É->Prop} {c:Í} {b:Bool}
inductive kA (K:Ĳ) (H:Hp):V->Í->Prop where
 |au:kA K H .au (.type "NoneType")
 |bl (x:Bool):kA K H (.bl x) (.type "bool")
 |int (i:Int):kA K H (.int i) (.type "int")
 |str (x:Str):kA K H (.str x) (.type "str")
 |uL (x:UInt64):kA K H (.uL x) (.type "float")
 |lst {a:á} {xs:List V} (e:H a=some (.lst xs)):kA K H (.ref a) (.type "list")
 |cL {a:á} {o:Obj} {xs:List V} (e:H a=some (.cL o (.lst xs))):kA K H (.ref a) (.type "list")
 |tup {a:á} {xs:List V} (e:H a=some (.tup xs)):kA K H (.ref a) (.type "tuple")
 |dK {a:á} {ai:List (Key×V)} (e:H a=some (.dK ai)):kA K H (.ref a) (.type "dict")
 |dT {a:á} {ai:List (List Key×V)} (e:H a=some (.dT ai)):kA K H (.ref a) (.type "dict")
 |ins {a C dx:á} {fs:List (Str×V)} (e:H a=some (.ins C dx fs)) (cl:Xz K C) (ha:abr K (.ref C) "__class__"=some (some (.builtin "object.__class__")))
   (hn:PySem.W.specialIn K (.builtin "object.__class__") "__get__"=some (some (.builtin "getset_descriptor.__get__"))) (Lb:PySem.W.takesIn K (.builtin "object.__class__")=some true)
   (hm:PySem.W.mroIn K C (.type "object")=some true):kA K H (.ref a) (.ref C)
end
structure bT (k:Nat) (A:đ):Prop where
 hd:A.handled=none
 dp:A.depth+3*k+5<recursionLimit
 un:A.units+16*k+200<abP
 gd:A.guards=some []
def bT.mono (r:bT k A) (h:j<=k):bT j A:=⟨r.hd,by have:=r.dp;omega,by have:=r.un;omega,r.gd⟩
def bT.deeper (r:bT (k+1) A) (env:Env):bT k (A.deeper env) :=
 ⟨r.hd,by have:=r.dp;show A.depth+1+3*k+5 < _;omega,by have:=r.un;show A.units+3+16*k+200 < _;omega,r.gd⟩
def bT.in1 (r:bT (k+1) A):bT k A.in1 :=
 ⟨r.hd,by have:=r.dp;show A.depth+3*k+5 < _;omega,by have:=r.un;show A.units+1+16*k+200 < _;omega,r.gd⟩
def bT.depth (r:bT k A):A.depth<recursionLimit:=by have:=r.dp;omega
def Cq:TA:=λ_ H Q=>Q [] H
def xM (ta:TE) (tr:TA):TA:=fun σ H Q=>ta σ H λx H1=>tr σ H1 λxs H2=>Q (x::xs) H2
section
variable {X:Cx} {e:ļ} {es:List ļ} {te:TE} {t:TA} {pos:Pos}
def nq:PA X [] Cq:=λ_ _ _ _ H Q I h=>Calls.spliced_nil ⟨[],H,I,.nil,h⟩
def lA (ha:PE X e te) (hr:PA X es t) (hs:Þ (e::es) X.env=(false,ţ e X.env)::Þ es X.env:=by rfl):PA X (e::es) (xM te t):=by
 intro pos π s σ H Q I h;rw[hs];show à _ _ (spliced ((false,ţ e X.env)::aab pos (Þ es X.env))) _ _ s;refine Calls.spliced_cons (aD (ha π s σ H _ I h) λu s1 ⟨x,H1,I1,r1,q1⟩=>?_);exact aD (hr pos π s1 σ H1 _ I1 q1) λus s2 ⟨xs,H2,I2,r2,q2⟩=>⟨x::xs,H2,I2,.cons r1 r2,q2⟩
def WI (t:TA):TE:=fun σ H Q=>t σ H λxs H1=>xs.length<=Õ/\∀p,H1 p=none->Q (.ref p) (upd H1 p (.tup xs))
def WJ (t:TA):TE:=fun σ H Q=>t σ H λxs H1=>xs.length<=Õ/\∀p,H1 p=none->Q (.ref p) (upd H1 p (.lst xs))
def TQ {x1} (h:PA X es t):PE X (.Tuple es x1 pos) (WI t):=by
 intro π s σ H Q I hq;refine wpAny_Tuple_spliced (aD (h pos π s σ H _ I hq) λus s1 ⟨xs,H1,I1,r,z,q⟩=>⟨by rw[<- r.length];exact z,?_⟩);have hf:H1 s1.heap.objs.size=none:=I1.aE.fresh (Nat.le_refl _);refine⟨.ref s1.heap.objs.size,upd H1 s1.heap.objs.size (.tup xs),I1.laid (t':=s1.toks) (λb u e=>Á _ e) (Nat.le_refl _) ?_,rfl,q _ hf⟩;exact⟨z,us,r,⟨_,Ì _ rfl,rfl,_,rfl⟩⟩
def IU (h:PA X es t):PE X (.List es pos) (WJ t):=by
 intro π s σ H Q I hq;refine wpAny_List_spliced (aD (h pos π s σ H _ I hq) λus s1 ⟨xs,H1,I1,r,z,q⟩=>⟨by rw[<- r.length];exact z,?_⟩);have hf:H1 s1.heap.objs.size=none:=I1.aE.fresh (Nat.le_refl _);refine⟨.ref s1.heap.objs.size,upd H1 s1.heap.objs.size (.lst xs),I1.laid (t':=s1.toks) (λb u e=>Á _ e) (Nat.le_refl _) ?_,rfl,q _ hf⟩;exact⟨z,us,0,r,Ì _ rfl⟩
end
abbrev Sp:=List V->Hp->VK->XK->Prop
abbrev jZ:=List Env->Hp->É->XK->Í->É->Prop
structure yn (P:ù) (w:ď) (K:Ĳ) (mg:Str->Option Í) (base:ŏ) (A:đ) (outer:List Env) (s:É) (H:Hp):Prop where
 frames:A.frames=some outer
 mod:Mod K mg base
 bs:∀b o,base.get? b=some o->s.heap.get? b=some o/\H b=none
 i4:base.objs.size<=s.heap.objs.size
 jn:s.heap.FunFrames base outer
 n0:∀b∈gO outer,H b=none
 aE:bY P w H s.heap
 bare:AllBare s.gens
def CE (outer:List Env) (P:ù) (w:ď) (H:Hp) (s:É) (Q:VK) (u:Í) (s':É):Prop :=
 ∃v H',s'.os=s.os/\AllBare s'.gens/\Un (gO outer) [] H H' s.heap s'.heap/\bY P w H' s'.heap/\RelV v u/\Q v H'
def CR (CX:jZ) (outer:List Env) (P:ù) (w:ď) (H:Hp) (s:É) (Q:VK) (E:XK) (r:Result) (s':É):Prop :=
 match r with
 | .ok (.ret u)=>CE outer P w H s Q u s'
 | .ok _=>False
 | .error e=>CX outer H s E e s'
structure fu (P:ù) (w:ď) (K:Ĳ) (mg:Str->Option Í) (base:ŏ) (CX:jZ) (k:Nat) (f:á) (fd:Ŗ) (ps:List Str) (sp:Sp):Prop where
 len:∀vs H Q E,sp vs H Q E->vs.length=ps.length
 run:∀(A:đ) (outer:List Env) (s:É) (H:Hp) (args:Args) (us:List Í) (vs:List V) (Q:VK) (E:XK),bT k A->yn P w K mg base A outer s H->BindsTo s fd args (ps.zip us)->Vals vs us->sp vs H Q E ->
  aaO (ø P w) A (.call (.ref f) args) (CR CX outer P w H s Q E) s
def fu.imp {P:ù} {w:ď} {K:Ĳ} {mg:Str->Option Í} {base:ŏ} {CX:jZ} {k:Nat} {f:á} {fd:Ŗ} {ps:List Str} {sp Lc:Sp} (F:fu P w K mg base CX k f fd ps sp)
  (h:∀vs H Q E,Lc vs H Q E->sp vs H Q E):fu P w K mg base CX k f fd ps Lc :=
 ⟨λvs H Q E q=>F.len vs H Q E (h _ _ _ _ q),λA outer s H args us vs Q E hr he hb hv hs=>F.run A outer s H args us vs Q E hr he hb hv (h _ _ _ _ hs)⟩
section
variable {X:Cx} {π:List (á×Obj)} {σ:St} {H:Hp} {s s':É}
def Inv.pF (I:Inv X π σ H s):yn X.prog X.w X.K X.mg X.base X.A X.stack s H :=
 ⟨I.ok.frames,I.ok.mod,I.bs,Û I.ok.i4 I.sz,I.stack,I.Av,I.aE,I.bare⟩
def Inv.after (I:Inv X π σ H s) (h:CE X.stack X.prog X.w H s Q u s'):EP X π σ Q u s':=by
 obtain⟨v,H',os,bare,un,aE,r,q⟩:=h;obtain⟨hh,g,d,t,C9⟩:=s';obtain rfl:C9=s.os:=os;exact⟨v,H',I.call (h':=hh) (g':=g) (d':=d) (t':=t) (ch:=[]) un aE bare (λb z=>absurd z (by simp)),r,q⟩
end
def Vu (sp:Sp) (aq:List V) (E:XK) (t:TA):TE:=fun σ H Q=>t σ H λvs H1=>sp (vs++aq) H1 Q E
def Binds (K:Ĳ) (fd:Ŗ) (ps:List Str) (ds:List Í):Prop :=
 ∀(s:É) (us:List Í),K.In s.heap->(us++ds).length=ps.length->BindsTo s fd ⟨us,[]⟩ (ps.zip (us++ds))
def Binds.all {K:Ĳ} {fd:Ŗ} {ps:List Str} (h:∀us:List Í,us.length=ps.length->bindArgs fd ⟨us,[]⟩=pure (ps.zip us)):Binds K fd ps []:=λs us _ hl=>by
 rw[Ō] at hl |-;exact .of_eq (h us hl)
def Passes (CX:jZ) (X:Cx) (E:XK):Prop:=∀(π:List (á×Obj)) (σ:St) (H:Hp) (s:É) (e:Í) (s':É),Inv X π σ H s->CX X.stack H s E e s'->X.xe e s'
section
variable {X:Cx} {CX:jZ} {k:Nat} {f C:á} {fd:Ŗ} {ps:List Str} {sp:Sp} {aq:List V} {ds:List Í} {E:XK} {x m:Str} {p pos apos:Pos} {e o:ļ} {es:List ļ} {ta:TE} {t:TA}
def IV {π:List (á×Obj)} {σ:St} {H:Hp} {s:É} {Q:VK} {us:List Í} {vs:List V} (F:fu X.prog X.w X.K X.mg X.base CX k f fd ps sp) (hr:bT k X.A) (hb:Binds X.K fd ps ds) (hd:Vals aq ds) (hx:Passes CX X E)
  (I:Inv X π σ H s) (r:Vals vs us) (h:sp (vs++aq) H Q E):à (ø X.prog X.w) X.A (call (.ref f) us) (EP X π σ Q) X.xe s:=by
 have r2:Vals (vs++aq) (us++ds):=r.append hd;have hl:(us++ds).length=ps.length:=by rw[<- r2.length];exact F.len _ _ _ _ h
 refine wpAny_call (Ů (F.run X.A X.stack s H ⟨us,[]⟩ (us++ds) (vs++aq) Q E hr I.pF (hb s us I.sg hl) r2 h) λr s' hq=>?_)
 cases r with
 |error e=>exact hx π σ H s e s' I hq
 |ok fl =>
  cases fl with
  |ret u=>exact I.after hq
  |next=>exact aar hq
  |brk=>exact aar hq
  |cont=>exact aar hq
def RF (F:fu X.prog X.w X.K X.mg X.base CX k f fd ps sp) (hr:bT k X.A) (hg:Gl X x) (hm:X.mg x=some (.ref f)) (hk:Ų X.K (.ref f)=true) (hb:Binds X.K fd ps ds) (hd:Vals aq ds) (hx:Passes CX X E)
  (ha:PA X (e::es) t) (jw:(x==("__debug__":Str))=false:=by decide) (he:Þ (e::es) X.env=(false,ţ e X.env)::Þ es X.env:=by rfl) (cM:(aab pos (Þ es X.env)).any (·.1)=false:=by rfl) :
  PE X (.Call (.Name x p) (e::es) [] pos) (Vu sp aq E t):=by
 intro π s σ H Q I h;refine aaY (HA I hg hm ?_ jw);refine PySem.W.callWith_K (h₀:=X.base) I.ok.mod.uN hk (aD (ha pos π s σ H _ I h) λus s1 ⟨vs,H1,I1,r,q⟩=>⟨I1.sg,?_⟩) he cM;exact IV F hr hb hd hx I1 r q
structure Mk (K:Ĳ) (C f:á):Prop where
 makes:PySem.W.makesIn K C=true
 init:abr K (.ref C) "__init__"=some (some (.ref f))
 fn:PySem.W.isFn K (.ref f)=true
 kp:Ų K (.ref C)=true
end
def PK (X:Cx) (uZ:List acd) (t:TA):Prop :=
 ∀(pos:Pos) (π:List (á×Obj)) (s:É) (σ:St) (H:Hp) (Q:List V->Hp->Prop),Inv X π σ H s->t σ H Q->à (ø X.prog X.w) X.A (evalAll ((backToKw pos (abQ uZ X.env)).map (·.2))) (AP X π σ Q) X.xe s
section
variable {X:Cx} {CX:jZ} {k:Nat} {f C:á} {fd:Ŗ} {ps ks:List Str} {sp:Sp} {E:XK} {x m:Str} {p pos apos yo:Pos} {e o:ļ} {es:List ļ} {uZ:List acd} {te ta:TE} {t tk:TA} {nm:Option Str}
def TR:PK X [] Cq:=λ_ _ _ _ H Q I h=>wpAny_evalAll_nil ⟨[],H,I,.nil,h⟩
def HE (ha:PE X e te) (hr:PK X uZ t):PK X (⟨nm,e,yo⟩::uZ) (xM te t):=by
 intro pos π s σ H Q I h
 show à _ _ (evalAll ((do let v <- ţ e X.env;abg pos;pure v)::(backToKw pos (abQ uZ X.env)).map (·.2))) _ _ s
 refine wpAny_evalAll_cons (À (aD (ha π s σ H _ I h) λu s1 ⟨x,H1,I1,r1,q1⟩=>À (Ŕ (Â ?_))));exact aD (hr pos π s1 σ H1 _ I1 q1) λus s2 ⟨xs,H2,I2,r2,q2⟩=>⟨x::xs,H2,I2,.cons r1 r2,q2⟩
structure aah (K:Ĳ) (fd:Ŗ) (ps ks:List Str) (g:List Í->List Í->List Í) (gV:List V->List V->List V):Prop where
 to:∀(s:É) (us ws:List Í),K.In s.heap->(g us ws).length=ps.length->BindsTo s fd ⟨us,ks.zip ws⟩ (ps.zip (g us ws))
 rel:∀{vs:List V} {us:List Í} {zs:List V} {ws:List Í},Vals vs us->Vals zs ws->Vals (gV vs zs) (g us ws)
variable {g:List Í->List Í->List Í} {gV:List V->List V->List V}
end
structure qK (N P:List Str) (sc:abf):Prop where
 kind:sc.kind=.function
 co:sc.isCoroutine=false
 gen:sc.isGenerator=false
 nd:N.Nodup
 pre:N.take P.length=P
 par:∀x∈P,sc.names.lookup x=some .local\/sc.names.lookup x=some .cell
 TU:∀y∈sc.names,y.2≠.free
def F8 {kindOf:Str->Option aas} {x:Str}:∀{binds:List (Str×Í)} {m:Str->Option Í},(∀v,(x,v)∉binds)->bindL kindOf binds m x=m x
 | [],_,_=>rfl
 |(n,v)::r,m,h=>by
  unfold bindL;rw[F8 λw hw=>h w (Ñ _ hw)];split
  ·have:x≠n:=by rintro rfl;exact h v Ò
   simp[this]
  ·rfl
def F9 {kindOf:Str->Option aas} {x:Str}:∀{binds:List (Str×Í)} {m:Str->Option Í},(∀v,(x,v)∉binds)->bindC kindOf binds m x=m x
 | [],_,_=>rfl
 |(n,v)::r,m,h=>by
  unfold bindC;rw[F9 λw hw=>h w (Ñ _ hw)];split
  ·rfl
  ·have:x≠n:=by rintro rfl;exact h v Ò
   simp[this]
def Ga {kindOf:Str->Option aas} {x:Str} {v:Í}:∀{P:List Str} {vs:List Í} {i:Nat} {m:Str->Option Í},P.Nodup->P[i]?=some x->vs[i]?=some v->kindOf x=some .local ->
  bindL kindOf (P.zip vs) m x=some v
 | [],_,_,_,_,h,_,_=>by simp at h
 |_::_,[],_,_,_,_,h,_=>by simp at h
 |p::P,w::vs,0,m,nd,h1,h2,hk=>by
  simp at h1 h2;subst h1;subst h2;show bindL kindOf ((p,w)::P.zip vs) m p=_;unfold bindL;rw[F8 λv hv=>(aad.mp nd).1 (aae hv).1,Ú hk];simp
 |p::P,w::vs,i+1,m,nd,h1,h2,hk=>by
  show bindL kindOf ((p,w)::P.zip vs) m x=_;unfold bindL;exact Ga (i:=i) (aad.mp nd).2 (by simpa using h1) (by simpa using h2) hk
def Gb {kindOf:Str->Option aas} {x:Str} {v:Í}:∀{P:List Str} {vs:List Í} {i:Nat} {m:Str->Option Í},P.Nodup->P[i]?=some x->vs[i]?=some v->kindOf x≠some .local ->
  bindC kindOf (P.zip vs) m x=some v
 | [],_,_,_,_,h,_,_=>by simp at h
 |_::_,[],_,_,_,_,h,_=>by simp at h
 |p::P,w::vs,0,m,nd,h1,h2,hk=>by
  simp at h1 h2;subst h1;subst h2;show bindC kindOf ((p,w)::P.zip vs) m p=_;unfold bindC;rw[F9 λv hv=>(aad.mp nd).1 (aae hv).1,æ hk];simp
 |p::P,w::vs,i+1,m,nd,h1,h2,hk=>by
  show bindC kindOf ((p,w)::P.zip vs) m x=_;unfold bindC;exact Gb (i:=i) (aad.mp nd).2 (by simpa using h1) (by simpa using h2) hk
def start (N:List Str) (vs:List V):St:=vs.map some++Ï (N.length-vs.length) none
def nO (CX:jZ) (P:ù) (w:ď) (K:Ĳ) (mg:Str->Option Í) (base:ŏ) (N:List Str) (qual:Str) (scope:abf) (f:á) (cd:Í) (A:đ) (outer:List Env) (s:É) (H:Hp) (E:XK):Cx where
 prog:=P
 w:=w
 K:=K
 mg:=mg
 base:=base
 A:=A.deeper (envOfC qual scope s.heap.objs.size f cd)
 N:=N
 dM:=s
 uz:=H
 env:=envOfC qual scope s.heap.objs.size f cd
 outer:=outer
 stack:=envOfC qual scope s.heap.objs.size f cd::outer
 ex:=[]
 calm:=true
 fn:=λ_=>true
 pn:=[]
 xe:=λe s'=>à (ø P w) (A.deeper (envOfC qual scope s.heap.objs.size f cd)) (leaving (envOfC qual scope s.heap.objs.size f cd) e) (λ_ u0=>CX outer H s E e u0) (λe' u0=>CX outer H s E e' u0) s'
def GS {sc:abf} {n:Nat} {x:Str} (h:sc.names.lookup x=some .cell):∃c,(aaB n sc.names []).lookup x=some c:=by
 have q:=aba sc.names n [] (.inl h);exact Option.isSome_iff_exists.mp q
def OM {CX:jZ} {P:ù} {w:ď} {K:Ĳ} {mg:Str->Option Í} {base:ŏ} {N ps:List Str} {qual:Str} {scope:abf} {f:á} {cd:Í} {A:đ} {outer:List Env} {s s1:É} {H:Hp} {E:XK} {us:List Í} {vs:List V}
  (S:qK N ps scope) (hd:A.handled=none) (e0:yn P w K mg base A outer s H) (hl:vs.length=ps.length) (r:Vals vs us)
  (x:InCallC s s.heap.objs.size (bindL (envOfC qual scope s.heap.objs.size f cd).kindOf (ps.zip us) λ_=>none) (aaB (s.heap.objs.size+1) scope.names []) (bindC (envOfC qual scope s.heap.objs.size f cd).kindOf (ps.zip us) λ_=>none) s1) :
  Inv (nO CX P w K mg base N qual scope f cd A outer s H E) [] (start N vs) H s1:=by
 have cM:ps.length<=N.length:=by have:=Ĺ List.length S.pre;rw[ő] at this;omega
 obtain⟨h1,tk,rfl,hk⟩:=x.done;have u4:∀b:á,b∉(nO CX P w K mg base N qual scope f cd A outer s H E).ex:=λb z=>absurd (show b∈([]:List á) from z) (by simp);refine⟨⟨e0.mod,S.kind,rfl,rfl,Nat.le_refl _,λy z c h1 h2=>?_,λy hy=>?_,λy c _ h=>?_,λ_=>hd,Around.frames_deeper e0.frames,.inr ⟨rfl,rfl⟩,λb z=>absurd z (u4 b),e0.bs,e0.i4,λb _ _=>u4 b,λb z=>absurd z (u4 b),e0.jn,e0.n0⟩,
  rfl,e0.bare,Un.kept hk,⟨_,x.toInCall.ns,λi y v h1 h2 h3=>?_⟩,λy c h=>⟨_,x.cell y c h⟩,e0.aE.fresh (Nat.le_refl _),λy c h=>?_,λp hp=>absurd (show p∈([]:List (á×Obj)) from hp) (by simp),e0.aE.kept hk,?_⟩
 ·exact name_of_addr x.apart (η h1) (η h2)
 ·have hy:scope.names.lookup y=some .cell\/scope.names.lookup y=some .free:=hy
  rcases hy with hy|hy
  ·exact GS hy
  ·exact absurd rfl (S.TU _ (η hy))
 ·exact Nat.le_of_lt (x.above y c (η h))
 ·have hi:i<vs.length:=by
   unfold start at h2;by_cases hi:i<vs.length
   ·exact hi
   ·rw[ü (by simpa using hi)] at h2
    rw[ĭ] at h2
    split at h2<;>cases h2
  have ha:vs[i]?=some v:=by
   unfold start at h2;rw[ä (by simpa using hi),ç] at h2
   cases e:vs[i]? with
   |none=>rw[e] at h2;cases h2
   |some a=>rw[e] at h2;cases h2;rfl
  obtain⟨u,hu,rv⟩:=r.get ha;have hp:ps[i]?=some y:=by
   rw[<- S.pre,List.getElem?_take_of_lt (by omega)];exact h1
  have Ld:ps.Nodup:=by rw[<- S.pre];exact S.nd.sublist (List.take_sublist _ _)
  refine⟨u,rv,?_⟩
  rcases S.par y (œ hp) with k|k
  ·exact .inl ⟨k,Ga Ld hp hu k⟩
  ·obtain⟨c,e⟩:=GS (n:=s.heap.objs.size+1) k
   refine .inr ⟨.inl k,c,e,?_⟩;have q:=x.cell y c e;rw[Gb Ld hp hu (by show scope.names.lookup y≠_;rw[k];decide)] at q;exact q
 ·exact e0.aE.fresh (Nat.le_of_lt (x.above y c (η h)))
 ·unfold start
  show _=N.length;rw[â,Ä,ů];omega
def Vv {CX:jZ} {P:ù} {w:ď} {K:Ĳ} {mg:Str->Option Í} {base:ŏ} {k:Nat} {f:á} {name qual:Str} {params:Arguments} {body:List Stmt} {scope:abf} {dV kV doc pm cw ct oc:Í} {an od:Option á}
  {n9:Array (Option Í)} {N ps:List Str} {sp:Sp} (lk:K.lookup f=some ⟨oc,od,.func (ſ name qual params body scope dV kV doc pm an cw ct),n9⟩) (kK:abt K cw qual=true) (S:qK N ps scope)
  (len:∀vs H Q E,sp vs H Q E->vs.length=ps.length)
  (By:∀(A:đ) (outer:List Env) (s:É) (H:Hp) (vs:List V) (Q:VK) (E:XK),bT k (A.deeper (envOfC qual scope s.heap.objs.size f cw))->sp vs H Q E ->
   ∃t,eM (nO CX P w K mg base N qual scope f cw A outer s H E) body t/\t { nx:=λ_ H'=>Q .au H',rt:=Q } (start N vs) H) :
  fu P w K mg base CX (k+1) f (ſ name qual params body scope dV kV doc pm an cw ct) ps sp:=by
 refine⟨len,λA outer s H args us vs Q E hr e0 hb r og=>?_⟩;have hl:=len _ _ _ _ og;have KX:K.In s.heap:=e0.mod.uN.keeps λb o e=>(e0.bs b o e).1;have lim:s.heap.NoLimit:=e0.mod.nolimit.keeps λb o e=>(e0.bs b o e).1;have Vw:∀y∈ps.zip us,scope.names.lookup y.1=some .local\/(scope.names.lookup y.1=some .cell/\((aaB (s.heap.objs.size+1) scope.names []).lookup y.1).isSome=true):=λ⟨n,v⟩ hy=>by
  rcases S.par n (aae hy).1 with q|q
  ·exact .inl q
  ·exact .inr ⟨q,aba _ _ _ (.inl q)⟩
 refine codeAny_call_function hr.depth (KX _ _ lk) rfl S.co S.gen rfl (PySem.W.codeRec_of KX kK) (hb _ _ _ _ ?_);refine wpAny_newFunctionEnv_cells S.kind Vw λenv he s1 x=>?_;subst he;refine⟨lim.keeps x.toInCall.keep,codeAny_func ?_⟩;obtain⟨t,ht,hq⟩:=By A outer s H vs Q E (hr.deeper _) og;have I:Inv (nO CX P w K mg base N qual scope f cw A outer s H E) [] (start N vs) H s1:=OM S hr.hd e0 hl r x;refine ĳ (ht [] s1 (start N vs) H _ I hq) (λfl s' hs=>?_) λe s' hs=>hs;have fin:∀{aY:St} {H':Hp} {v:V} {u:Í},Inv (nO CX P w K mg base N qual scope f cw A outer s H E) [] aY H' s'->RelV v u->Q v H'->CE outer P w H s Q u s' :=
  λ{aY H' v u} J rv q=>⟨v,H',J.os,J.bare,J.base,J.aE,rv,q⟩
 cases fl with
 |ret u =>
  obtain⟨v,aY,H',J,rv,q⟩:=hs;exact fin J rv q
 |next =>
  obtain⟨aY,H',J,q⟩:=hs;exact fin (v:=V.au) (u:=Value.none) J rfl q
 |brk =>
  obtain⟨_,_,_,q⟩:=hs;exact aar q
 |cont =>
  obtain⟨_,_,_,q⟩:=hs;exact aar q
section
variable {X:Cx} {x:Str} {p pos:Pos} {e:ļ} {es:List ļ} {t:TA} {id T:String} {r:List V->Hp->VK->Prop}
def Dc (r:List V->Hp->VK->Prop) (t:TA):TE:=fun σ H Q=>t σ H λvs H1=>r vs H1 Q
def zW (hc:bV X (.builtin id) r) (hg:Gl X x) (hm:X.mg x=none) (hv:ą x=some (.builtin id)) (ha:PA X (e::es) t) (hn:x≠"__name__":=by decide) (jw:(x==("__debug__":Str))=false:=by decide)
  (he:Þ (e::es) X.env=(false,ţ e X.env)::Þ es X.env:=by rfl) (cM:(aab pos (Þ es X.env)).any (·.1)=false:=by rfl):PE X (.Call (.Name x p) (e::es) [] pos) (Dc r t):=by
 intro π s σ H Q I h;refine aaY (lE I hg hm hv ?_ hn jw);exact PyProof.Rows.callWith_builtin1 (aD (ha pos π s σ H _ I h) λus s1 ⟨vs,H1,I1,r1,q1⟩=>hc π s1 σ H1 vs us Q I1 r1 q1) he cM
def zO (hc:bV X (.type T) r) (hg:Gl X x) (hm:X.mg x=none) (hv:ą x=some (.type T)) (ha:PA X (e::es) t) (hn:x≠"__name__":=by decide) (jw:(x==("__debug__":Str))=false:=by decide)
  (he:Þ (e::es) X.env=(false,ţ e X.env)::Þ es X.env:=by rfl) (cM:(aab pos (Þ es X.env)).any (·.1)=false:=by rfl):PE X (.Call (.Name x p) (e::es) [] pos) (Dc r t):=by
 intro π s σ H Q I h;refine aaY (lE I hg hm hv ?_ hn jw);exact Ĩ (aD (ha pos π s σ H _ I h) λus s1 ⟨vs,H1,I1,r1,q1⟩=>hc π s1 σ H1 vs us Q I1 r1 q1) he cM
end
end L2
namespace HT
open PySem PyProof.Rows
noncomputable def lexLt:List Int->List Int->Bool
 | [],[]=>false
 | [],_::_=>true
 |_::_,[]=>false
 |x::xs,y::ys=>if x=y then lexLt xs ys else decide (x<y)
def jE (x y:Int) (xs ys:List Int):lexLt (x::xs) (y::ys)=if x=y then lexLt xs ys else decide (x<y):=rfl
def GU (A:đ) (s:É) (a:Int) (t:Tok) (c:Int) (u:Tok) (prog:ù) (w:ď) (E:Í->É->Prop) (Q:Í->É->Prop) (h:Q (.bool (decide (a<c))) s) :
  à (ø prog w) A (richCompare .Lt (.int a t) (.int c u)) Q E s :=
 (PyProof.Rows.lt_int h:à (ø prog w) A (Č .Lt (.int a t) (.int c u)) Q E s)
section
open PySem.SeqAt
open PySem.AutoSeq1 (wpAny_loadPart')
open PySem.MeetsSeq PySem.MeetsSeq2 PySem.MeetsSeq3
end
section
variable {prog:ù} {w:ď} {A:đ} {E:Í->É->Prop} {s:É}
def RG (ht:IsTup s.heap t vs.toArray) (hb:IsTup s.heap b ws.toArray) (hv:vs≠[])
 (h1:ws=[]->Q (.ref t) s) (h2:ws≠[]->Q (.ref s.heap.objs.size) { s with heap:=s.heap.push { cls:=.type "tuple",data:=.seq (vs++ws).toArray } })
 (hsz:vs.length+ws.length<=Õ):à (ø prog w) A (ŋ .Add (.ref t) (.ref b)) Q E s:=by
 obtain⟨⟨cls,dd,data,sl⟩,ho,hc,n,hd⟩:=id ht;obtain⟨⟨KD,oh,data2,cQ⟩,i7,ig,n2,hd2⟩:=id hb;simp only at hc hd ig hd2;subst hc hd ig hd2;have e:vs.toArray++ws.toArray=(vs++ws).toArray:=by simp
 by_cases hw:ws=[]
 ·exact concat_meets ⟨_,ho,rfl⟩ ⟨_,i7,rfl⟩ noFill_tuple_add seq_tuple_add abb aaZ (aaS _ _)
   (tuple_addW1 t b vs.toArray ws.toArray n n2 dd oh sl cQ (by simpa using hv) (by simp[hw])) ⟨ho,i7,h1 hw⟩
 ·refine concat_meets ⟨_,ho,rfl⟩ ⟨_,i7,rfl⟩ noFill_tuple_add seq_tuple_add abb aaZ (aaS _ _)
   (tuple_addW2 t b vs.toArray ws.toArray n n2 dd oh sl cQ (by simpa using hv) (by simpa using hw) (by rw[Ô,Ô];exact hsz)) ⟨ho,i7,?_⟩
  rw[e];exact h2 hw
noncomputable def aP (n d:Nat):Option Int->Nat
 |none=>d
 |some v=>if v<0 then (v+(n:Int)).toNat else min v.toNat n
def zX (n d:Nat):aP n d none=d:=rfl
def xb (n d k:Nat):aP n d (some (k:Int))=min k n:=by
 show (if (k:Int)<0 then ((k:Int)+(n:Int)).toNat else min (k:Int).toNat n)=min k n
 rw[æ (by omega),õ]
def TV (n d:Nat) (hd:d<=n) (o:Option Int):aP n d o<=n:=by
 cases o with
 |none=>exact hd
 |some v =>
  show (if v<0 then (v+(n:Int)).toNat else min v.toNat n)<=n
  by_cases hv:v<0
  ·rw[Ú hv];omega
  ·rw[æ hv];exact Nat.min_le_right _ _
def HF (v:Int) (n d:Nat):(if v<0 then max (v+(n:Int)) 0 else min v (n:Int))=((aP n d (some v):Nat):Int):=by
 show (if v<0 then max (v+(n:Int)) 0 else min v (n:Int))=(((if v<0 then (v+(n:Int)).toNat else min v.toNat n):Nat):Int)
 by_cases hv:v<0
 ·simp only[Ú hv];omega
 ·simp only[æ hv];omega
def NJ (lo hi:Option Int) (n:Nat):aaC lo hi 1 (n:Int)=(((aP n 0 lo:Nat):Int),((aP n n hi:Nat):Int)):=by
 have h1:¬ ((1:Int)<0):=by omega
 unfold aaC;simp only[h1,ê];refine Prod.ext ?_ ?_
 ·cases lo with
  |none=>rfl
  |some v=>exact HF v n 0
 ·cases hi with
  |none=>rfl
  |some v=>exact HF v n n
def NK (i j:Nat):ų (i:Int) (j:Int) 1=j-i:=by
 unfold ų;have h1:(1:Int) > 0:=by omega
 simp only[h1,û,Int.ediv_one]
 split<;>omega
def FV (p:IsPart v o) (h:Q o s):à (ø prog w) A (Builtin.Slice.slicePartIndex v) Q E s:=by
 cases p with
 |none=>exact slicePart_none h
 |int i t=>exact slicePart_int h
def Ff {lo hi:Option Int} {n:Nat} {Q:Int×Int×Nat->É->Prop} (hs:s.heap.IsSliceOf sl vl vu .none) (pl:IsPart vl lo) (pu:IsPart vu hi)
 (h:Q (((aP n 0 lo:Nat):Int),1,aP n n hi-aP n 0 lo) s):à (ø prog w) A (ab0 (.ref sl) (pure (n:Int))) Q E s:=by
 obtain⟨os,pY,jx,pZ⟩:=id hs;unfold ab0 Builtin.Slice.sliceFields;refine À (À (Ĵ pY pZ (x:=vl) rfl (À (Ĵ pY pZ (x:=vu) rfl (À (Ĵ pY pZ (x:=.none) rfl (Â ?_)))))));refine À (slicePart_none ?_)
 show à _ _ (if ((1:Int)==0)=true then _ else _) _ _ s
 rw[æ (by decide)];refine À (FV pl (À (FV pu (À (Â ?_)))))
 show à _ _ (match aaC lo hi 1 (n:Int) with | (lo,hi)=>pure (lo,(1:Int),ų lo hi 1)) _ _ s
 rw[NJ lo hi n];show à _ _ (pure (((aP n 0 lo:Nat):Int),(1:Int),ų ((aP n 0 lo:Nat):Int) ((aP n n hi:Nat):Int) 1)) _ _ s;rw[NK];exact Â h
def P8 (xs:Array Í) (i k:Nat):((ß k).filterMap λ(m:Nat)=>xs[((i:Int)+(m:Int)*1).toNat]?).toArray=((xs.toList.drop i).take k).toArray:=by
 have e:(λ(m:Nat)=>xs[((i:Int)+(m:Int)*1).toNat]?)=λm=>xs[i+m]?:=by
  funext m;have:((i:Int)+(m:Int)*1).toNat=i+m:=by omega
  rw[this]
 rw[e];have:=pick_run xs i k;rw[List.filterMap_map] at this;have e2:((λx=>xs[x]?) ∘ λx=>i+x)=λm=>xs[i+m]?:=rfl;rw[e2] at this;rw[this]
def Mg {lo hi:Option Int} {Q:Í->É->Prop} (ht:IsTup s.heap t items) (hs:s.heap.IsSliceOf sl vl vu .none) (pl:IsPart vl lo) (pu:IsPart vu hi)
 (hw:¬ (aP items.size 0 lo=0/\aP items.size items.size hi=items.size))
 (h:Q (.ref s.heap.objs.size) { s with heap:=s.heap.push { cls:=.type "tuple",data:=.seq ((items.toList.drop (aP items.size 0 lo)).take (aP items.size items.size hi-aP items.size 0 lo)).toArray } })
 (hsz:items.size<=Õ):à (ø prog w) A (getItem (.ref t) (.ref sl)) Q E s:=by
 have xN:sizeOk (.seq ((items.toList.drop (aP items.size 0 lo)).take (aP items.size items.size hi-aP items.size 0 lo)).toArray):=by
  show ((items.toList.drop (aP items.size 0 lo)).take (aP items.size items.size hi-aP items.size 0 lo)).toArray.size<=Õ;rw[Ô,ő,ν,þ];omega
 have hj:aP items.size items.size hi<=items.size:=TV _ _ (Nat.le_refl _) hi;obtain⟨os,pY,jx,pZ⟩:=id hs;have Dd:s.TypeIs (.ref sl) "slice":=⟨os,pY,jx⟩;unfold getItem
 try with_reducible refine ė ?_
 first|refine À (Â ?_)|skip
 refine À (wpAny_sequenceKey ht.typeIs (by decide) ?_);refine À (Ĉ (name:=ì "__getitem__") ht.typeIs ĩ
  (Ą ĩ ht.typeIs entry_tuple_getitem ?_ (args_tuple_getitem _ _)))
 show à _ _ (ŧ (.ref t) >>= _) _ _ s;refine À (tupleItemsOf_ ht ?_);refine À (abw Dd ?_);rw[Ú (by decide)];refine À (Ff hs pl pu ?_);have mH:¬ ((((aP items.size 0 lo:Nat):Int)==0&&(1:Int)==1&&(aP items.size items.size hi-aP items.size 0 lo)==items.size)=true):=by
  intro q;rw[Ç,Ç] at q;have q1:((aP items.size 0 lo:Nat):Int)=0:=eq_of_beq q.1.1;have q2:aP items.size items.size hi-aP items.size 0 lo=items.size:=eq_of_beq q.2;exact hw ⟨by omega,by omega⟩
 show à _ _ (if (((aP items.size 0 lo:Nat):Int)==0&&(1:Int)==1&&(aP items.size items.size hi-aP items.size 0 lo)==items.size)=true then _ else _) _ _ s
 rw[æ mH,P8]
 first
  |exact À (m:=Ő _) (ó (Â ⟨_,rfl,Â h⟩) xN)
  |exact À (m:=Ő _) (ó (À (Â (Â ⟨_,rfl,Â h⟩))) xN)
  |exact À (À (m:=Ő _) (ó (Â (Â ⟨_,rfl,Â h⟩)) xN))
  |exact À (À (m:=Ő _) (ó (Â ⟨_,rfl,Â h⟩) xN))
end
end HT
namespace L2
open PySem PySem.Spec PyProof.Rows
abbrev TO:=St->Hp->(Option Int->Hp->Prop)->Prop
def PO (X:Cx) (e:Option ļ) (t:TO):Prop :=
 ∀(π:List (á×Obj)) (s:É) (σ:St) (H:Hp) (Q:Option Int->Hp->Prop),Inv X π σ H s->t σ H Q ->
  à (ø X.prog X.w) X.A (evalPart e X.env) (λu s'=>∃o H',Inv X π σ H' s'/\IsPart u o/\Q o H') X.xe s
def RH:TO:=λ_ H Q=>Q none H
def Vx (t:TE):TO:=fun σ H Q=>t σ H λx H1=>∃i,x=.int i/\Q (some i) H1
def intsAre_of:∀{us:List Í},Vals (ns.map V.int) us->abh us ns:=by
 induction ns with
 |nil=>intro us r;rw[İ] at r;cases r;exact .nil
 |cons n ns ih =>
  intro us r;rw[Ö] at r
  cases r with
  |cons r1 r2 =>
   obtain⟨t,e⟩:=r1;subst e;exact .cons n t (ih r2)
section
variable {X:Cx} {e:ļ} {te:TE} {lo hi:Option ļ} {tl th:TO} {pos p2:Pos}
def RJ:PO X none RH:=by
 intro π s σ H Q I h;rw[evalPart_none];exact Â ⟨none,H,I,.none,h⟩
def RK (h:PE X e te):PO X (some e) (Vx te):=by
 intro π s σ H Q I hw;rw[evalPart_some];refine aD (h π s σ H _ I hw) λu s1 ⟨x,H1,I1,r1,q1⟩=>?_;obtain⟨i,rfl,q⟩:=q1;obtain⟨t,rfl⟩:=r1;exact⟨some i,H1,I1,.int i t,q⟩
def u5 (X:Cx) (r:V->Option Int->Option Int->Hp->VK->Prop):Prop :=
 ∀(π:List (á×Obj)) (s:É) (σ:St) (H:Hp) (x:V) (v vl vu:Í) (lo hi:Option Int) (sl:á) (Q:VK),Inv X π σ H s->RelV x v->s.heap.IsSliceOf sl vl vu .none->IsPart vl lo->IsPart vu hi->r x lo hi H Q ->
  ∃T id,typeLookup (.type T) "__getitem__"=pure (some (.builtin id))/\s.TypeIs v T/\à (ø X.prog X.w) X.A (getItem v (.ref sl)) (EP X π σ Q) X.xe s
def XA (r:V->Option Int->Option Int->Hp->VK->Prop) (te:TE) (tl th:TO):TE:=fun σ H Q=>te σ H λx H1=>tl σ H1 λl H2=>th σ H2 λu H3=>r x l u H3 Q
def P9 (hr:u5 X r) (he:PE X e te) (hl:PO X lo tl) (hu:PO X hi th):PE X (.Subscript e (.Slice lo hi none p2) pos) (XA r te tl th):=by
 intro π s σ H Q I h;refine Subscript_ (aD (he π s σ H _ I h) λv s1 ⟨x,H1,I1,r1,q1⟩=>?_);refine wpAny_Slice (aD (hl π s1 σ H1 _ I1 q1) λvl s2 ⟨l,H2,I2,pl,q2⟩=>aD (hu π s2 σ H2 _ I2 q2) λvu s3 ⟨u,H3,I3,pu,q3⟩=>?_);rw[evalPart_none];refine Â ?_
 have I4:Inv X π σ H3 { s3 with heap:=s3.heap.push { cls:=.type "slice",data:=.fields #[vl,vu,.none] } }:=I3.kept (t':=s3.toks) λb ob q=>Á _ q
 obtain⟨T,id,hT,ht,hg⟩:=hr π { s3 with heap:=s3.heap.push { cls:=.type "slice",data:=.fields #[vl,vu,.none] } } σ H3 x v vl vu l u s3.heap.objs.size Q I4 r1 (Heap.IsSliceOf.new ..) pl pu q3
 show à (ø X.prog X.w) X.A (subscriptTail e (.Slice lo hi none p2) v (.ref s3.heap.objs.size)) (EP X π σ Q) X.xe { s3 with heap:=s3.heap.push { cls:=.type "slice",data:=.fields #[vl,vu,.none] } }
 exact tail_any (ops:=[.ref s3.heap.objs.size,v]) ht hT hg (by with_unfolding_all rfl)
noncomputable def kB (xs:List V) (lo hi:Option Int):List V:=(xs.drop (HT.aP xs.length 0 lo)).take (HT.aP xs.length xs.length hi-HT.aP xs.length 0 lo)
def FF (xs:List V) (lo hi:Option Int):(kB xs lo hi).length<=xs.length:=by
 unfold kB;rw[ő,ν];omega
def WK (K:Ĳ):V->Option Int->Option Int->Hp->VK->Prop:=λx lo hi H Q=>∃a xs,x=.ref a/\aR K H a xs /\
 ¬ (HT.aP xs.length 0 lo=0/\HT.aP xs.length xs.length hi=xs.length)/\∀p,H p=none->Q (.ref p) (upd H p (.tup (kB xs lo hi)))
def A0:u5 X (WK X.K):=by
 intro π s σ H x v vl vu lo hi sl Q I rx hs pl pu h;obtain⟨a,xs,rfl,hx,hw,q⟩:=h;cases rx;obtain⟨its,r,ht,hz⟩:=I.tuple hx;have hlen:its.toArray.size=xs.length:=by rw[Ô];exact r.length.symm
 refine⟨"tuple",_,ĩ.lookup,ht.typeIs,?_⟩;refine HT.Mg ht hs pl pu (by rw[hlen];exact hw) ?_ (by rw[hlen];exact hz);rw[hlen];refine⟨.ref s.heap.objs.size,_,I.laid (t':=s.toks) (o:=.tup (kB xs lo hi)) (λb ob q=>Á _ q) (Nat.le_refl _) ?_,rfl,q _ (I.aE.fresh (Nat.le_refl _))⟩;exact⟨Û (FF xs lo hi) hz,_,(r.drop (HT.aP xs.length 0 lo)).take (HT.aP xs.length xs.length hi-HT.aP xs.length 0 lo),IsTup.new _ _⟩
def Vy (K:Ĳ):R2:=λx y H Q=>∃a b xs ys,x=.ref a/\y=.ref b/\aR K H a xs/\aR K H b ys/\xs≠[]/\xs.length+ys.length<=Õ /\
 (ys=[]->Q (.ref a) H)/\(ys≠[]->∀p,H p=none->Q (.ref p) (upd H p (.tup (xs++ys))))
def Vals.Ay (r:Vals xs us):us=[]↔xs=[]:=by
 cases r with
 |nil=>simp
 |cons _ _=>simp
def RL:aW X (ŋ .Add) (Vy X.K):=by
 intro π s σ H x y v u Q I rx ry h;obtain⟨a,b,xs,ys,rfl,rfl,ha,hb,hx,hz,q1,q2⟩:=h;cases rx;cases ry;obtain⟨its,r1,p1,_⟩:=I.tuple ha;obtain⟨pG,r2,p2,_⟩:=I.tuple hb;refine HT.RG p1 p2 (λz=>hx (r1.Ay.mp z)) (λz=>⟨.ref a,H,I,rfl,q1 (r2.Ay.mp z)⟩) (λz=>?_) (by rw[<- r1.length,<- r2.length];exact hz);refine⟨.ref s.heap.objs.size,_,I.laid (t':=s.toks) (o:=.tup (xs++ys)) (λb ob q=>Á _ q) (Nat.le_refl _) ?_,rfl,q2 (λw=>z (r2.Ay.mpr w)) _ (I.aE.fresh (Nat.le_refl _))⟩;exact⟨by rw[â];exact hz,_,r1.append r2,IsTup.new _ _⟩
end
noncomputable def gn (n:Nat) (i:Int):Option Nat:=if 0<=i then (if i<n then some i.toNat else none) else if -(n:Int)<=i then some (i+n).toNat else none
def dA {α:Type} (xs:List α) (i:Int):Option α:=(gn xs.length i).bind λj=>xs[j]?
def HG (h:gn n i=some j):seqIndex? i n=some j/\j<n/\-(n:Int)<=i/\i<n:=by
 unfold gn at h;by_cases h0:0<=i
 ·rw[Ú h0] at h
  by_cases h1:i<n
  ·rw[Ú h1] at h
   have e:i.toNat=j:=Option.some.inj h;exact⟨by rw[seqIndex_of h0 h1,e],by omega,by omega,h1⟩
  ·rw[æ h1] at h;cases h
 ·rw[æ h0] at h
  by_cases h1:-(n:Int)<=i
  ·rw[Ú h1] at h
   have e:(i+n).toNat=j:=Option.some.inj h;exact⟨by rw[seqIndex_neg (by omega) h1,e],by omega,h1,by omega⟩
  ·rw[æ h1] at h;cases h
def Az {α:Type} {xs:List α} {i:Int} {v:α} (h:dA xs i=some v):∃j,seqIndex? i xs.length=some j/\xs[j]?=some v/\j<xs.length/\-(xs.length:Int)<=i/\i<xs.length:=by
 unfold dA at h
 cases e:gn xs.length i with
 |none=>rw[e] at h;cases h
 |some j =>
  rw[e] at h;obtain⟨h1,h2,h3,h4⟩:=HG e;exact⟨j,h1,h,h2,h3,h4⟩
def HH (b:ļ):Prop:=∀o i,subscripted b false o i=operate [o,i] (getItem o i)
def u6 (X:Cx) (r:R2):Prop :=
 ∀(value slice:ļ) (π:List (á×Obj)) (s:É) (σ:St) (H:Hp) (x y:V) (v u:Í) (Q:VK),Inv X π σ H s->RelV x v->RelV y u->r x y H Q ->
  subscripted slice false v u=operate [v,u] (getItem v u)->à (ø X.prog X.w) X.A (subscriptTail value slice v u) (EP X π σ Q) X.xe s
def XB (X:Cx) (id:String) (r:V->List V->Hp->VK->Prop):Prop :=
 ∀(π:List (á×Obj)) (s:É) (σ:St) (H:Hp) (x:V) (xs:List V) (v:Í) (us:List Í) (Q:VK),Inv X π σ H s->RelV x v->Vals xs us->r x xs H Q ->
  à (ø X.prog X.w) X.A (call (.builtin id) (v::us)) (EP X π σ Q) X.xe s
section
variable {X:Cx} {a b:ļ} {ta tb:TE} {pos:Pos}
def Vz (hr:u6 X r) (ha:PE X a ta) (hb:PE X b tb) (hs:HH b):PE X (.Subscript a b pos) (uY r ta tb):=by
 intro π s σ H Q I h;exact Subscript_ (Co ha hb I h λv u s2 x y H2 I2 rx ry q=>hr a b π s2 σ H2 x y v u Q I2 rx ry q (hs _ _))
def WL (K:Ĳ):R2:=λx y H Q=>∃p xs i v,x=.ref p/\y=.int i/\bp K H p xs/\dA xs i=some v/\Q v H
def WM (K:Ĳ):R2:=λx y H Q=>∃p xs i v,x=.ref p/\y=.int i/\aR K H p xs/\dA xs i=some v/\Q v H
def WN:R2:=λx y H Q=>∃z i c,x=.str z/\y=.int i/\z.length<=Õ/\dA z.cps.toList i=some c/\Q (.str ⟨#[c]⟩) H
def tD:u6 X (WL X.K):=by
 intro value slice π s σ H x y v u Q I rx ry h hs;obtain⟨p,xs,i,z,rfl,rfl,hq,he,q⟩:=h;cases rx;obtain⟨t,rfl⟩:=ry;obtain⟨its,r,pl,hz⟩:=I.list hq;obtain⟨j,h1,h2,h3,h4,h5⟩:=Az he;obtain⟨w,ew,pX⟩:=r.get h2;have hl:=r.length;have hn:=oS;have fin:EP X π σ Q w s:=⟨z,H,I,pX,q⟩;by_cases h0:0<=i
 ·have hj:i.toNat=j:=by
   rw[seqIndex_of h0 h5] at h1;exact Option.some.inj h1
  exact item_listR pl.isList h0 (by omega) (by rw[hj];simpa using ew) fin hs
 ·have hj:(i+(its.toArray.size:Int)).toNat=j:=by
   rw[seqIndex_neg (by omega) h4] at h1;rw[Ô,<- hl];exact Option.some.inj h1
  exact subscriptTail_builtinR (x:=w) pl.isList.typeIs slot_list_getitem.lookup
   (wpAny_getItem_list_neg (Q:=λr s'=>r=w/\EP X π σ Q r s') pl.isList (by omega) (by rw[Ô]<;>omega) (by omega) (by rw[hj];simpa using ew) ⟨rfl,fin⟩) hs
def xu:u6 X (WM X.K):=by
 intro value slice π s σ H x y v u Q I rx ry h hs;obtain⟨p,xs,i,z,rfl,rfl,hq,he,q⟩:=h;cases rx;obtain⟨t,rfl⟩:=ry;obtain⟨its,r,pl,hz⟩:=I.tuple hq;obtain⟨j,h1,h2,h3,h4,h5⟩:=Az he;obtain⟨w,ew,pX⟩:=r.get h2;have hl:=r.length;have hn:=oS;have fin:EP X π σ Q w s:=⟨z,H,I,pX,q⟩;exact subscriptTail_builtinR (x:=w) pl.typeIs slot_tuple_getitem.lookup
  (getItem_tuple (j:=j) (Q:=λr s'=>r=w/\EP X π σ Q r s') pl (by omega) (by omega) (by rw[Ô,<- hl];exact h1) (by simpa using ew) ⟨rfl,fin⟩) hs
def TX:u6 X WN:=by
 intro value slice π s σ H x y v u Q I rx ry h hs;obtain⟨z,i,c,rfl,rfl,hz,he,q⟩:=h;obtain⟨t,rfl⟩:=rx;obtain⟨t',rfl⟩:=ry;obtain⟨j,h1,h2,h3,h4,h5⟩:=Az he;have hl:z.cps.toList.length=z.length:=by simp[Str.length]
 rw[hl] at h1 h4 h5;have hn:=oS;exact tail_any (typeIs_str s z t) slot_str_getitem.lookup (getItem_str (c:=c) (by
  have e1:decide (i < -(2 ^ 63:Int))=false:=ñ (by omega);have e2:decide (i ≥ 2 ^ 63)=false:=ñ (by omega);rw[e1,e2,Bool.or_false]) (by rw[h1];simpa using h2) ⟨.str ⟨#[c]⟩,H,I.tok _,⟨_,rfl⟩,q⟩) hs
def NL (its:List Í) (n j:Nat) (u:Í):Ī (·.setIfInBounds j u) { cls:=.type "list",data:=.seq its.toArray n }={ cls:=.type "list",data:=.seq (its.set j u).toArray n }:=by
 simp[Ī]
def Inv.lst {π:List (á×Obj)} {σ:St} {H:Hp} {s:É} {p:á} {xs:List V} (I:Inv X π σ H s) (h:H p=some (.lst xs)) :
  ∃(its:List Í) (n:Nat),Vals xs its/\s.heap.get? p=some { cls:=.type "list",data:=.seq its.toArray n }/\xs.length<=Õ:=by
 obtain⟨z,its,n,r,e⟩:=I.aE p _ h;exact⟨its,n,r,e,z⟩
def Inv.TY {π:List (á×Obj)} {σ:St} {H:Hp} {s:É} {p:á} {xs ys:List V} {its its':List Í} {n n':Nat} {f:Obj->Obj} (I:Inv X π σ H s) (h:H p=some (.lst xs))
  (ho:s.heap.get? p=some { cls:=.type "list",data:=.seq its.toArray n }) (hf:f { cls:=.type "list",data:=.seq its.toArray n }={ cls:=.type "list",data:=.seq its'.toArray n' }) (r:Vals ys its') (hz:ys.length<=Õ) (t:Nat) :
  Inv X π σ (upd H p (.lst ys)) { s with heap:=s.heap.update p f,toks:=t }:=by
 have e:(s.heap.update p f).get? p=some { cls:=.type "list",data:=.seq its'.toArray n' }:=by
  rw[ă f ho (by rw[hf]<;>rfl),hf]
 refine I.write (x:=p) (e:=p) (by rw[h];trivial) (.inl rfl) (λb u hb q=>(ÿ _ _ (Ň hb)).trans q) ⟨_,e⟩ ?_;exact⟨hz,its',n',r,e⟩
def VA:V->V->V->Hp->(Hp->Prop)->Prop:=λo i v H Q=>∃p xs k j,o=.ref p/\i=.int k/\H p=some (.lst xs)/\gn xs.length k=some j/\Q (upd H p (.lst (xs.set j v)))
def set_list:Ck X VA:=by
 intro π s σ H o i v ov iv u Q I ro ri rv h;obtain⟨p,xs,k,j,rfl,rfl,hp,hj,q⟩:=h;cases ro;obtain⟨t,rfl⟩:=ri;obtain⟨its,n,r,ho,hz⟩:=I.lst hp;obtain⟨h1,h2,h3,h4⟩:=HG hj;have hl:=r.length;have hn:=oS
 have I':Inv X π σ (upd H p (.lst (xs.set j v))) { s with heap:=s.heap.update p (Ī (·.setIfInBounds j u)) } :=
  I.TY hp ho (NL its n j u) (r.set rv j) (by rw[Ĝ];exact hz) s.toks
 by_cases h0:0<=k
 ·have hk:k.toNat=j:=by
   rw[seqIndex_of h0 h4] at h1;exact Option.some.inj h1
  exact PySem.W.ki_setAt ho h0 (by omega) (by rw[Ô,<- hl];exact h4) (by rw[hk];exact⟨_,I',q⟩)
 ·have hk:(k+(its.toArray.size:Int)).toNat=j:=by
   rw[seqIndex_neg (by omega) h3] at h1;rw[Ô,<- hl];exact Option.some.inj h1
  exact PySem.W.ki_setBack ho (by omega) (by rw[Ô,<- hl];exact h3) (by omega) (by rw[hk];exact⟨_,I',q⟩)
def MN (lo hi:Option Int) (n:Nat):(abi lo hi none n).1=((HT.aP n 0 lo:Nat):Int)/\(abi lo hi none n).2.1=((HT.aP n n hi:Nat):Int)/\(abi lo hi none n).2.2=1:=by
 refine⟨?_,?_,rfl⟩
 ·cases lo with
  |none=>simp[abi,HT.aP]
  |some i =>
   simp only[abi,HT.aP,Option.getD_none,show (1:Int) > 0 by decide,û];by_cases h:i<0
   ·simp only[h,û]<;>omega
   ·simp only[h,ê]<;>omega
 ·cases hi with
  |none=>simp[abi,HT.aP]
  |some i =>
   simp only[abi,HT.aP,Option.getD_none,show (1:Int) > 0 by decide,û];by_cases h:i<0
   ·simp only[h,û]<;>omega
   ·simp only[h,ê]<;>omega
def Mx (its:List Í) (lo hi:Option Int):slicePick its.toArray lo hi none=((its.drop (HT.aP its.length 0 lo)).take (HT.aP its.length its.length hi-HT.aP its.length 0 lo)).toArray:=by
 obtain⟨h1,h2,h3⟩:=MN lo hi its.toArray.size;unfold slicePick;rw[h1,h2,h3]
 simp only[sliceRange_one,pick_run,Ô]<;>rfl
def WO (K:Ĳ):V->Option Int->Option Int->Hp->VK->Prop:=λx lo hi H Q=>∃a xs,x=.ref a/\bp K H a xs/\∀p,H p=none->Q (.ref p) (upd H p (.lst (kB xs lo hi)))
def RM:u5 X (WO X.K):=by
 intro π s σ H x v vl vu lo hi sl Q I rx hs pl pu h;obtain⟨a,xs,rfl,hx,q⟩:=h;cases rx;obtain⟨its,r,ht,hz⟩:=I.list hx;have hlen:=r.length;refine⟨"list",_,slot_list_getitem.lookup,ht.isList.typeIs,?_⟩
 refine wpAny_getItem_list_slice ht.isList hs pl pu .none (by simp) ?_ (by rw[Ô]<;>omega)
 rw[Mx,<- hlen];refine⟨.ref s.heap.objs.size,_,I.laid (t':=s.toks) (o:=.lst (kB xs lo hi)) (λb ob q=>Á _ q) (Nat.le_refl _) ?_,rfl,q _ (I.aE.fresh (Nat.le_refl _))⟩;exact⟨Û (FF xs lo hi) hz,_,0,(r.drop (HT.aP xs.length 0 lo)).take (HT.aP xs.length xs.length hi-HT.aP xs.length 0 lo),Ì _ rfl⟩
def zA:bV X (.builtin "len") (λxs H Q=>∃p ys,xs=[.ref p]/\(bp X.K H p ys\/aR X.K H p ys)/\Q (.int ys.length) H):=by
 intro π s σ H xs us Q I r h;obtain⟨p,ys,rfl,hq,q⟩:=h;obtain⟨u,rfl,rx⟩:=vals1 r;cases rx;have hn:=oS
 rcases hq with hq|hq
 ·obtain⟨its,r',pl,hz⟩:=I.list hq
  have hlen:=r'.length
  exact Calls.call_len_list pl.isList (by simp only[Ô]<;>omega) ⟨.int ys.length,H,I.tok _,⟨s.toks+1,by rw[Ô,hlen]⟩,q⟩
 ·obtain⟨its,r',pl,hz⟩:=I.tuple hq
  have hlen:=r'.length
  exact len_tuple pl (by simp only[Ô]<;>omega) ⟨.int ys.length,H,I.tok _,⟨s.toks+1,by rw[Ô,hlen]⟩,q⟩
def MO:bV X (.builtin "len") (λxs H Q=>∃z,xs=[.str z]/\z.length<=Õ/\Q (.int z.length) H):=by
 intro π s σ H xs us Q I r h;obtain⟨z,rfl,hz,q⟩:=h;obtain⟨u,rfl,t,rfl⟩:=vals1 r;have hn:=oS;exact len_str (by omega) ⟨.int z.length,H,I.tok _,⟨_,rfl⟩,q⟩
def Fp:bV X (.type "list") (λxs H Q=>∃p ys,xs=[.ref p]/\(bp X.K H p ys\/aR X.K H p ys)/\∀l,H l=none->Q (.ref l) (upd H l (.lst ys))):=by
 intro π s σ H xs us Q I r h;obtain⟨p,ys,rfl,hq,q⟩:=h;obtain⟨u,rfl,rx⟩:=vals1 r;cases rx;have fin:∀(its:List Í),Vals ys its->ys.length<=Õ->∀(h':ŏ) (c':Nat),(∀b o',s.heap.get? b=some o'->h'.get? b=some o') ->
   h'.get? s.heap.objs.size=some { cls:=.type "list",dict:=none,data:=.seq its.toArray c',slots:=#[] }->EP X π σ Q (.ref s.heap.objs.size) { s with heap:=h' }:=λits r' hz h' c' kp e =>
  ⟨.ref s.heap.objs.size,_,I.laid (t':=s.toks) kp (Nat.le_refl _) (show cF X.prog X.w _ h' _ (.lst ys) from ⟨hz,its,c',r',e⟩),rfl,q _ (I.aE.fresh (Nat.le_refl _))⟩
 rcases hq with hq|hq
 ·obtain⟨its,r',pl,hz⟩:=I.list hq
  have hlen:=r'.length;obtain⟨o,ho,hc,n,hd⟩:=pl.isList
  exact call_list_seq p (.inl rfl) ho hc hd (λh' c' kp e=>fin its r' hz h' c' kp e) (by simp only[Ô]<;>omega)
 ·obtain⟨its,r',pl,hz⟩:=I.tuple hq
  have hlen:=r'.length;obtain⟨o,ho,hc,n,hd⟩:=pl
  exact call_list_seq p (.inr rfl) ho hc hd (λh' c' kp e=>fin its r' hz h' c' kp e) (by simp only[Ô]<;>omega)
def Fi:bV X (.type "tuple") (λxs H Q=>∃p ys,xs=[.ref p]/\((bp X.K H p ys/\∀l,H l=none->Q (.ref l) (upd H l (.tup ys)))\/(aR X.K H p ys/\Q (.ref p) H))):=by
 intro π s σ H xs us Q I r h;obtain⟨p,ys,rfl,h⟩:=h;obtain⟨u,rfl,rx⟩:=vals1 r;cases rx
 rcases h with ⟨hq,q⟩ | ⟨hq,q⟩
 ·obtain⟨its,r',pl,hz⟩:=I.list hq
  have hlen:=r'.length
  refine call_tuple_list pl.isList (λh' kp=>?_) (by simp only[Ô]<;>omega)
  have I1:Inv X π σ H { s with heap:=h' }:=I.kept (t':=s.toks) kp
  have I2:Inv X π σ (upd H h'.objs.size (.tup ys)) { s with heap:=h'.push { cls:=.type "tuple",data:=.seq its.toArray } } :=
   I1.laid (t':=s.toks) (λb o e=>Á _ e) (Nat.le_refl _) (show cF X.prog X.w _ _ _ (.tup ys) from ⟨hz,its,r',IsTup.new _ _⟩)
  exact⟨.ref h'.objs.size,_,I2,rfl,q _ (I1.aE.fresh (Nat.le_refl _))⟩
 ·obtain⟨its,r',pl,hz⟩:=I.tuple hq
  exact call_tuple_same pl ⟨.ref p,H,I,rfl,q⟩
def Lg (K:Ĳ) (T:String) (x:V) (H:Hp):Prop:=match x with
 | .str _=>T="str"
 | .int _=>T="int"
 | .ref p=>(T="list"/\∃xs,bp K H p xs)\/(T="tuple"/\∃o,K.lookup p=some o/\o.cls=.type "tuple"/\o.dict=none) \/
   (T="dict"/\((∃ai,H p=some (.dK ai))\/∃ai,H p=some (.dT ai)))\/(T="set"/\∃S n,H p=some (.set S n))
 |_=>False
def TZ {π:List (á×Obj)} {σ:St} {H:Hp} {s:É} {T:String} {x:V} {v:Í} (I:Inv X π σ H s) (r:RelV x v) (ty:Lg X.K T x H) :
  s.TypeIs v T/\∀a,v=.ref a->∃ob,s.heap.get? a=some ob/\ob.dict=none:=by
 cases x with
 |str z =>
  obtain⟨t,rfl⟩:=r;cases (show T="str" from ty)
  exact⟨typeIs_str s z t,λ_ e=>nomatch e⟩
 |int i =>
  obtain⟨t,rfl⟩:=r;cases (show T="int" from ty)
  exact⟨typeIs_int s i t,λ_ e=>nomatch e⟩
 |ref p =>
  cases r
  rcases ty with ⟨rfl,xs,hq⟩ | ⟨rfl,o,hk,hc,hd⟩ | ⟨rfl,hk⟩ | ⟨rfl,S,n,hk⟩
  ·obtain⟨its,_,pl,_⟩:=I.list hq
   refine⟨pl.isList.typeIs,λa e=>?_⟩;cases e;obtain⟨o,n,e,c,hd,_⟩:=pl;exact⟨o,e,hd⟩
  ·refine⟨⟨o,I.sg p o hk,hc⟩,λa e=>?_⟩
   cases e;exact⟨o,I.sg _ o hk,hd⟩
  ·have z:∃o,s.heap.get? p=some o/\o.ExactDict:=by
    rcases hk with ⟨ai,hk⟩ | ⟨ai,hk⟩
    ·obtain⟨_,_,_,_,o,_,_,e,ex,_⟩:=I.aE p _ hk
     exact⟨o,e,ex⟩
    ·obtain⟨_,_,_,_,o,_,_,e,ex,_⟩:=I.aE p _ hk
     exact⟨o,e,ex⟩
   obtain⟨o,e,ex⟩:=z;refine⟨⟨o,e,ex.1⟩,λa e2=>?_⟩;cases e2;exact⟨o,e,ex.2.1⟩
  ·obtain⟨o,_,_,_,e,ex,_⟩:=I.aE p _ hk
   refine⟨⟨o,e,ex.1⟩,λa e2=>?_⟩;cases e2;exact⟨o,e,ex.2.1⟩
 |_=>exact aar ty
def XC (K:Ĳ) (T:String) (r:V->List V->Hp->VK->Prop) (to:TE) (t:TA):TE:=fun σ H Q=>to σ H λx H1=>Lg K T x H1/\t σ H1 λxs H2=>r x xs H2 Q
variable {o e:ļ} {es:List ļ} {to:TE} {t:TA} {name:Str} {apos eI:Pos} {T id:String} {r:V->List V->Hp->VK->Prop}
def VB (pa:PlainAttrs T) (slot:Slot T name id) (XD:typeOf (.builtin id)=pure (.type "method_descriptor")) (hm:XB X id r) (ho:PE X o to) (ha:PA X (e::es) t)
  (Bz:attributeBase o name X.env (ţ o X.env)=ţ o X.env:=by rfl)
  (Cr:((aab eI (Þ (e::es) X.env)).all (λx=>!x.1)&&(backToKw eI (abQ [] X.env)).all (λx=>x.1.isSome)
   && decide ((e::es).length+([]:List acd).length+(if ([]:List acd).isEmpty then 0 else 1)<30))=true:=by rfl)
  (BA:(apos.endLine==eI.line)=true:=by rfl) (hs:Þ (e::es) X.env=(false,ţ e X.env)::Þ es X.env:=by rfl) (A1:(aab eI (Þ es X.env)).any (·.1)=false:=by rfl) :
  PE X (.Call (.Attribute o name apos) (e::es) [] eI) (XC X.K T r to t):=by
 intro π s σ H Q I h;refine wpAny_Call_method_late Bz Cr BA rfl (aD (ho π s σ H _ I h) λv s1 ⟨x,H1,I1,r1,ty,q1⟩=>?_);obtain⟨h1,h2⟩:=TZ I1 r1 ty;refine⟨T,id,pa,slot,XD,h1,h2,?_⟩;have hA:=ha eI π s1 σ H1 _ I1 q1;rw[hs] at hA |-
 refine Calls.callWith_builtin (by show (false||(aab eI (Þ es X.env)).any (·.1))=false;rw[A1]<;>rfl) (Calls.evalArgs_plain ?_)
 exact aD hA λus s2 ⟨vs,H2,I2,r2,q2⟩=>hm π s2 σ H2 x vs v us Q I2 r1 r2 q2
end
def XE (X:Cx) (id:String) (r:V->List V->Hp->VK->Prop):Prop :=
 ∀(π:List (á×Obj)) (s:É) (σ:St) (H:Hp) (x:V) (xs:List V) (v:Í) (us:List Í) (Q:VK),Inv X π σ H s->RelV x v->Vals xs us->r x xs H Q ->
  à (ø X.prog X.w) X.A (call (.builtin id) (v::us)) (EP X π σ Q) X.xe s
def Vals.one:∀{x:V} {us:List Í},Vals [x] us->∃u,us=[u]/\RelV x u
 |_,_,.cons r .nil=>⟨_,rfl,r⟩
def Vals.rep (h:Vals xs us):∀k:Nat,Vals (Ï k xs).flatten (Ï k us).flatten
 |0=>.nil
 |k+1=>by
  rw[ĺ,ĺ,Ŝ,Ŝ];exact Vals.append h (Vals.rep h k)
def foldl_rep (its:List Í):∀(k:Nat) (acc:List Í),
  List.foldl (λx1 x2=>x1++x2) acc.toArray (Ï k its.toArray)=(acc++(Ï k its).flatten).toArray
 |0,acc=>by simp
 |k+1,acc=>by
  have e:acc.toArray++its.toArray=(acc++its).toArray:=by simp
  have e2:(acc++its)++(Ï k its).flatten=acc++(Ï (k+1) its).flatten:=by
   rw[ĺ,Ŝ,ķ]
  rw[<- e2,<- foldl_rep its k (acc++its),<- e,ĺ,List.foldl_cons]
section
variable {X:Cx} {π:List (á×Obj)} {σ:St} {H:Hp} {s:É} {l b:á} {xs ys zs:List V}
def Inv.WQ {its its':List Í} {n:Nat} {f:Array Í->Array Í} {t':Nat} (I:Inv X π σ H s) (hH:H l=some (.lst xs))
  (e:s.heap.get? l=some { cls:=.type "list",data:=.seq its.toArray n }) (hf:f its.toArray=its'.toArray) (hv:Vals ys its') (hz:ys.length<=Õ) :
  Inv X π σ (upd H l (.lst ys)) { s with heap:=s.heap.update l (Ī f),toks:=t' }:=by
 have q:=PySem.IsL.update e f;rw[hf] at q;refine I.write (x:=l) (e:=l) (by rw[hH];exact trivial) (.inl rfl) (λb' u hb hu=>(ÿ s.heap (Ī f) (Ň hb)).trans hu) ⟨_,q⟩ ?_;exact⟨hz,its',_,hv,q⟩
def Inv.KG (I:Inv X π σ H s) (hv:Vals ys its) (hz:ys.length<=Õ) :
  Inv X π σ (upd H s.heap.objs.size (.lst ys)) { s with heap:=s.heap.push { cls:=.type "list",data:=.seq its.toArray },toks:=t' } :=
 I.laid (λ_ _ q=>Á _ q) (Nat.le_refl _) ⟨hz,its,0,hv,Ì _ rfl⟩
def Inv.fresh (I:Inv X π σ H s):H s.heap.objs.size=none:=I.aE.fresh (Nat.le_refl _)
def Inv.yp (I:Inv X π σ H s) (hH:H l=some (.lst xs)):xs.length<=Õ/\∃(its:List Í) (n:Nat),Vals xs its/\xs.length=its.length/\s.heap.get? l=some { cls:=.type "list",data:=.seq its.toArray n }:=by
 obtain⟨z,its,n,r,e⟩:=I.aE l _ hH;exact⟨z,its,n,r,r.length,e⟩
def Qa (h:n<=Õ):aaT n=false:=by
 unfold aaT;exact ñ (by omega)
end
section
variable {X:Cx}
def RN:V->List V->Hp->VK->Prop:=λx vs H Q=>∃l xs y,x=.ref l/\vs=[y]/\H l=some (.lst xs)/\xs.length<Õ/\Q .au (upd H l (.lst (xs++[y])))
def ON:XE X "list.append" RN:=by
 intro π s σ H x vs v us Q I rx rv h;obtain⟨l,xs,y,rfl,rfl,hH,hz,q⟩:=h;cases rx;obtain⟨u,rfl,ru⟩:=rv.one;obtain⟨z,its,n,r,hl,e⟩:=I.yp hH;refine call_meets F.slot_list_append ⟨_,e,rfl⟩ F.entry_list_append (F.args_list_append_2 _ _) (PySem.list_append l its.toArray n u (by rw[Ô];omega)) ⟨e,?_⟩;refine⟨.au,_,I.WQ (its':=its++[u]) hH e (by simp) (r.append (.cons ru .nil)) ?_,rfl,q⟩;rw[â,abx];omega
def WR:R2:=λx y H Q=>∃l b xs zs,x=.ref l/\y=.ref b/\H l=some (.lst xs)/\H b=some (.lst zs)/\xs.length+zs.length<=Õ/\∀p,H p=none->Q (.ref p) (upd H p (.lst (xs++zs)))
def T4:aW X (ŋ .Add) WR:=by
 intro π s σ H x y v u Q I rx ry h;obtain⟨l,b,xs,zs,rfl,rfl,hH,hB,hz,q⟩:=h;cases rx;cases ry;obtain⟨z,its,n,r,hl,e⟩:=I.yp hH;obtain⟨z2,pG,n2,r2,Lh,e2⟩:=I.yp hB;refine PySem.P.add_list e e2 ?_ (by rw[Ô,Ô];omega);have ea:its.toArray++pG.toArray=(its++pG).toArray:=by simp
 rw[ea];exact⟨.ref _,_,I.KG (t':=s.toks) (r.append r2) (by rw[â];omega),rfl,q _ I.fresh⟩
def WS:R2:=λx y H Q=>∃l k xs,x=.ref l/\y=.int k/\H l=some (.lst xs)/\-(2 ^ 63)<=k/\k<2 ^ 63/\xs.length*k.toNat<=Õ /\
 ∀p,H p=none->Q (.ref p) (upd H p (.lst (Ï k.toNat xs).flatten))
def len_rep {α:Type} (xs:List α) (k:Nat):(Ï k xs).flatten.length=k*xs.length:=by
 induction k with
 |zero=>simp
 |succ k ih=>rw[ĺ,Ŝ,â,ih,Nat.succ_mul,Nat.add_comm]
def T5:aW X (ŋ .Mult) WS:=by
 intro π s σ H x y v u Q I rx ry h;obtain⟨l,k,xs,rfl,rfl,hH,h1,h2,hz,q⟩:=h;cases rx;obtain⟨t,rfl⟩:=ry;obtain⟨z,its,n,r,hl,e⟩:=I.yp hH;have hlen:its.toArray.size*k.toNat<=Õ:=by rw[Ô,<- hl];exact hz
 have WT:¬ its.toArray.size*k.toNat > (2 ^ 63-1) / 8:=by
  have:(Õ:Nat)<=(2 ^ 63-1) / 8:=by decide
  omega
 have WU:¬ (!Builtin.List.listFitsIndex k)=true:=by
  rw[fitsIndex_both h1 h2];exact Ë
 have VD:¬ aaT (its.toArray.size*k.toNat)=true:=by
  rw[Qa hlen];exact Ë
 have WV:List.foldl (λx1 x2=>x1++x2) #[] (Ï (if its.toArray.isEmpty=true then 0 else k.toNat) its.toArray)=(Ï k.toNat its).flatten.toArray:=by
  have f0:∀m:Nat,List.foldl (λx1 x2=>x1++x2) #[] (Ï m its.toArray)=(Ï m its).flatten.toArray:=λm=>by
   have:=foldl_rep its m [];rw[ģ] at this;exact this
  rw[f0]
  cases its with
  |nil=>simp
  |cons a r'=>rw[æ (by simp)]
 refine wpAny_binaryOp_repeat_ref (T:="list") (U:="int") (by decide) ⟨_,e,rfl⟩ (λs'=>typeIs_int s' k t) noFill_list_mul F.fills_int_mul abR repeat_list F.slot_int_index.lookup
  (call_meets abR (typeIs_int s k t) F.entry_int_rmul (F.args_int_rmul_2 _ _) (int___rmul___int_list k t l its.toArray n)
   ⟨e,rfl,⟨_,e,rfl⟩,call_meets F.slot_list_mul ⟨_,e,rfl⟩ F.entry_list_mul (F.args_list_mul_2 _ _) (AutoListH.list___mul___list_int_3 l its.toArray n k t WU WT VD) ⟨e,?_⟩⟩)
 rw[WV];exact⟨.ref _,_,I.KG (t':=s.toks) (r.rep k.toNat) (by rw[len_rep,Nat.mul_comm];exact hz),rfl,q _ I.fresh⟩
end
section
variable {prog:ù} {w:ď} {A:đ} {E:Í->É->Prop} {s:É}
set_option maxRecDepth 100000 in
end
section
variable {X:Cx}
end
end L2
namespace Li
open PySem PySem.W PySem.Calls PyProof.Rows
def Ml:∀(ns:List Int) (vs:List Í),WellAll P h vs (ns.map WData.int)->abh vs ns:=by
 intro ns
 induction ns with
 |nil =>
  intro vs w;rw[İ] at w;cases w;exact .nil
 |cons n ns ih =>
  intro vs w;rw[Ö] at w
  cases w with
  |cons a b =>
   cases a;exact .cons _ _ (ih _ b)
def OO {l:OpenLaw} {n:Nat} (hn:l.most=some n) {P:Params} {h:ŏ} {args:List WData} {vals:List Í}
  (yq:l.row.toRowW.claim.pre args=true) (De:WellAll P h vals args) :
  ∃a vs ns,vals=[μ a]/\args=[WData.list (ns.map WData.int)]/\h.get? a=some { cls:=.type "list",data:=.seq vs.toArray }/\abh vs ns/\ns.length<=n:=by
 have XF:WShape.hasAll [] args [.list .int]=true:=(pre_splitW yq).1;have hc:l.pre.holds [] { args:=args }=true:=(pre_splitW yq).2;obtain⟨d,r,rfl,h1,h2⟩:=hasAllW_cons XF;obtain rfl:=hasAllW_nil h2;obtain⟨xs,rfl,h3⟩:=hasW_list h1;obtain⟨ns,rfl⟩:=items_int h3;have hlen:ns.length<=n:=by
  unfold OpenLaw.pre at hc;have h4:(WTm.not (.lt (.lit (.int (n:Int))) (.len (.arg 0)))).holds [] { args:=[.list (ns.map .int)] }=true:=by
   have h4:=(holds_andW hc).1;rw[hn] at h4;exact h4
  have h5:=condW_of h4 (w_not (w_lt w_lit (w_len_list (w_arg rfl))));rw[Ä] at h5;refine ξ λq=>?_;have q':(n:Int)<((ns.length:Nat):Int):=by omega
  first
   |(rw[Ý q'] at h5;exact absurd h5 (by decide))
   |(simp at h5;omega)
 cases De with
 |cons w1 w2 =>
  cases w2
  cases w1 with
  |list ho cu=>exact⟨_,_,ns,rfl,rfl,ho,Ml ns _ cu,hlen⟩
def OP (l:OpenLaw) (args:List WData):l.row.toRowW.claim.post args (.bool true) args=true :=
 postW_of (r:=l.row.toRowW) (X:=(true==true))
  (show WShape.has [] (.bool true) .bool=true by first|rfl|decide|simp[WShape.has,WShape.arms,WShape.armsAll])
  (show (WTm.eq .res (.lit (.bool true))).value [] { args:=args,res:=some (.bool true),after:=args }=some (.bool (true==true)) from w_eq_bool (w_res rfl) w_lit) rfl
def Nd {l:OpenLaw} {n:Nat} {q:ù} {loose:List Str} {XP:(Str->Option Í)->ŏ->Prop} {YP:ď->ŏ->Prop} {d:DefRec}
  (hn:l.most=some n) (u7:d.params.defaults=[])
  (call:∀(w:ď) (dM bI:É) (mg mb:Str->Option Í) (fa:á) (o:Obj) (pm cd doc:Í) (a:á) (vs:List Í) (ns:List Int),
   Ground q loose [] XP w dM mg mb bI.heap->YP w bI.heap ->
   bI.heap.get? fa=some o->o.data=.func (docDef d.name d.params d.body d.scope pm cd doc)->bI.heap.CodeRec cd d.name->mg d.name=some (.ref fa) ->
   bI.heap.get? a=some { cls:=.type "list",data:=.seq vs.toArray }->abh vs ns->ns.length<=n->bI.gens=#[] ->
   aaO (ø l.prog w) callerA (.call (.ref fa) ⟨[.ref a],[]⟩) (λr s'=>r=.ok (.ret (.bool true))/\OldK bI.heap s'.heap/\s'.os=bI.os/\AllBare s'.gens) bI) :
  WalkO q loose XP YP l.row.toRowW d [] (λf vs=>PySem.call f vs):=by
 intro w dM bI mg mb G Y fa o pm cd doc dV kV ho hd kK hD u9 hg args vals as yq aaj hrd De Lj;obtain rfl:dV=.none:=Dflts.none hD u7;obtain rfl:kV=.none:=Dflts.noKw hD;obtain⟨a,vs,ns,rfl,rfl,Cs,hints,hlen⟩:=OO hn yq De;refine enter_call (Ů (call w dM bI mg mb fa o pm cd doc a vs ns G Y ho (fd_plain hd) kK u9 Cs hints hlen hg) λr s' hq=>?_);obtain⟨rfl,h2,h3,h4⟩:=hq
 exact⟨.inl ⟨.bool true,.bool true,[],rfl,λ_=>rfl,.bool true,OP l _,λ_=>⟨List.Pairwise.nil,λ_ hm=>(nomatch hm)⟩⟩,h2,h3,h4⟩
section
variable {prog:ù} {w:ď} {A:đ} {E:Í->É->Prop} {s:É} {K:Ĳ}
noncomputable def ledger (h:ŏ) (L d:á):List (á×Obj):=(ß h.objs.size).filterMap λa=>if a=L\/a=d then none else (h.get? a).map λo=>(a,o)
end
end Li
namespace L2
open PySem PySem.Spec PyProof.Rows
def Ge:∀{vs:List Í} {ns:List Int},abh vs ns->Vals (ns.map V.int) vs
 |_,_,.nil=>.nil
 |_,_,.cons n t h=>.cons ⟨t,rfl⟩ (Ge h)
def Ct (H:Hp):Prop:=∀b,H b=none\/∃o xs,H b=some (.cL o (.lst xs))
def Qb {P:ù} {w:ď} {K:Ĳ} {mg mb:Str->Option Í} {CX:jZ} {k:Nat} {fa a:á} {fd:Ŗ} {x:Str} {sp:Sp} {bI:É} {vs:List Í} {ns:List Int}
  (KX:K.In bI.heap) (sj:bI.heap.Ns ò mg) (hb:bI.heap.Ns builtinsNs mb) (XG:∀x:Str,x≠"__name__"->mb x=ą x) (WW:bI.heap.NoLimit) (hg:bI.gens=#[])
  (ha:bI.heap.get? a=some { cls:=.type "list",data:=.seq vs.toArray }) (hi:abh vs ns) (hl:ns.length<=Õ) (hr:bT k callerA)
  (F:∀base:ŏ,K.In base->base.Ns ò mg->fu P w K mg base CX k fa fd [x] sp) (VE:∀(s:É) (u:Í),BindsTo s fd ⟨[u],[]⟩ [(x,u)])
  (og:∀H:Hp,Ct H->bp K H a (ns.map V.int)->sp [.ref a] H (λv _=>v=.bl true) λ_ _ _=>False)
  (Dg:∀H e s',CX [] H bI (λ_ _ _=>False) e s'->False) :
  aaO (ø P w) callerA (.call (.ref fa) ⟨[.ref a],[]⟩) (λr s'=>r=.ok (.ret (.bool true))/\OldK bI.heap s'.heap/\s'.os=bI.os/\AllBare s'.gens) bI:=by
 have rv:=Ge hi;have WX:=hi.length;have core:∀H:Hp,Ct H->bp K H a (ns.map V.int)->bY P w H bI.heap->(∀b,H b≠none->b=a)->(H a≠none->K.lookup a=none) ->
   aaO (ø P w) callerA (.call (.ref fa) ⟨[.ref a],[]⟩) (λr s'=>r=.ok (.ret (.bool true))/\OldK bI.heap s'.heap/\s'.os=bI.os/\AllBare s'.gens) bI:=by
  intro H hO hS aE hA hK;have HI:∀{b:á} {o:Obj},bI.heap.get? b=some o->H b=none->(mB bI.heap H).get? b=some o:=λe n=>P1 e n;have u4:∀{b:á} {o:Obj} {es:Array ab9} {ep:Nat},bI.heap.get? b=some o->o.data=.dict es ep->H b=none:=λ{b o es ep} e d=>by
   cases q:H b with
   |none=>rfl
   |some u =>
    have e':b=a:=hA b (by rw[q];simp);subst e';rw[ha] at e;cases e;have d':Data.seq vs.toArray _=Data.dict es ep:=d;cases d'
  have yL:∀{b:á} {m:Str->Option Í},bI.heap.Ns b m->(mB bI.heap H).Ns b m:=λ{b m} ⟨o,es,ep,e,d,r⟩=>⟨o,es,ep,HI e (u4 e d),d,r⟩;have Lk:K.In (mB bI.heap H):=λb o e=>HI (KX b o e) (by
   cases q:H b with
   |none=>rfl
   |some u =>
    have e':b=a:=hA b (by rw[q];simp);subst e';rw[hK (by rw[q];simp)] at e;cases e)
  have hM:Mod K mg (mB bI.heap H):=⟨Lk,yL sj,⟨mb,yL hb,XG⟩,let ⟨mc,h1,h2⟩:=WW;⟨mc,yL h1,h2⟩⟩
  have e0:yn P w K mg (mB bI.heap H) callerA [] bI H:=⟨rfl,hM,λb o e=>Rr e,ō (OF _ _),trivial,λb hb=>absurd (show b∈([]:List á) from hb) (by simp),aE,.of_eq hg⟩;refine Ů ((F _ Lk (yL sj)).run callerA [] bI H ⟨[.ref a],[]⟩ [.ref a] [.ref a] _ _ hr e0 (VE bI (.ref a)) (.cons rfl .nil) (og H hO hS)) λr s' h=>?_
  cases r with
  |error e=>exact(Dg H e s' h).elim
  |ok fl =>
   cases fl with
   |next=>exact aar h
   |brk=>exact aar h
   |cont=>exact aar h
   |ret u =>
    obtain⟨v,H',os,bare,un,WY,r',q⟩:=h;have q':v=.bl true:=q;subst q';obtain rfl:u=Value.bool true:=r';refine⟨rfl,OldK.of_keep λb o e=>?_,os,bare⟩
    cases q:H b with
    |none=>exact un.keep b o e q (by intro z;exact absurd (show b∈([]:List á) from z) (by simp)) (by simp)
    |some u =>
     rcases hO b with z | ⟨ob,xs,z⟩
     ·rw[q] at z;cases z
     ·have z2:=un.jm b ob _ z
      obtain⟨e1,_⟩:=aE b _ z;obtain⟨e2,_⟩:=WY b _ z2;rw[e] at e1;cases e1;exact e2
 cases hk:K.lookup a with
 |some o =>
  have e:=KX a o hk;rw[ha] at e;cases e;refine core (λ_=>none) (λ_=>.inl rfl) (.inr ⟨_,vs.toArray,_,hk,rfl,rfl,rfl,by rw[Ô,WX];exact hl,by simpa using rv⟩) (λb u z=>by have z':(none:Option HO)=some u:=z;cases z') (λb z=>absurd rfl z) λz=>absurd rfl z
 |none =>
  refine core (λb=>if b=a then some (.cL { cls:=.type "list",data:=.seq vs.toArray } (.lst (ns.map V.int))) else none) (λb=>?_) (.inl (.inr ⟨{ cls:=.type "list",data:=.seq vs.toArray },Ú rfl⟩)) (λb u z=>?_) (λb z=>?_) λ_=>hk
  ·by_cases hb:b=a
   ·exact .inr ⟨_,_,Ú hb⟩
   ·exact .inl (æ hb)
  ·by_cases hb:b=a
   ·have z':=(Ú hb).symm.trans z
    cases z';subst hb;exact⟨ha,by rw[Ä];exact hl,vs,_,rv,ha⟩
   ·have z':=(æ hb).symm.trans z
    cases z'
  ·by_cases hb:b=a
   ·exact hb
   ·exact absurd (æ hb) z
noncomputable abbrev KOf {K:Ĳ} {h:ŏ} (_:K.In h):Ĳ:=K
def RO {l:PySem.W.OpenLaw} {n k:Nat} {q:ù} {loose:List Str} {XP:(Str->Option Í)->ŏ->Prop} {YP:ď->ŏ->Prop} {d:DefRec} {K:Params->Ĳ} {CX:ď->jZ} {sp:ď->Sp} {x:Str}
  (hn:l.most=some n) (XH:n<=Õ) (u7:d.params.defaults=[]) (hr:bT k callerA)
  (hY:∀(w:ď) (h:ŏ),YP w h->(K w.params).In h)
  (F:∀(w:ď) (mg:Str->Option Í) (fa:á) (h:ŏ),(K w.params).In h->h.Ns ò mg->mg d.name=some (.ref fa) ->
   ∃fd:Ŗ,(∀(s:É) (u:Í),BindsTo s fd ⟨[u],[]⟩ [(x,u)]) /\
    ∀base:ŏ,(K w.params).In base->base.Ns ò mg->fu l.prog w (K w.params) mg base (CX w) k fa fd [x] (sp w))
  (og:∀(w:ď) (H:Hp) (a:á) (ns:List Int),ns.length<=n->Ct H->bp (K w.params) H a (ns.map V.int)->sp w [.ref a] H (λv _=>v=.bl true) λ_ _ _=>False)
  (Dg:∀(w:ď) (H:Hp) (s:É) (e:Í) (s':É),CX w [] H s (λ_ _ _=>False) e s'->False) :
  PySem.W.WalkO q loose XP YP l.row.toRowW d [] (λf vs=>PySem.call f vs):=by
 refine Li.Nd hn u7 λw dM bI mg mb fa o pm cd doc a vs ns G Y ho hd kK u9 Cs hints hlen hg=>?_;have KX:=hY w _ Y;obtain⟨fd,hb,hF⟩:=F w mg fa _ KX G.T.g u9;exact Qb KX G.T.g G.T.b G.T.builtins G.T.nolimit hg Cs hints (Û hlen XH) hr hF hb (λH hO hS=>og w H a ns hlen hO hS) λH e s'=>Dg w H bI e s'
noncomputable def oP (s:Stmt):Arguments:=match s with
 | .FunctionDef _ a _ _ _ _ _ _ _ _=>a
 |_=>{ posonlyargs:=[],args:=[],vararg:=none,kwonlyargs:=[],kw_defaults:=[],kwarg:=none,defaults:=[] }
noncomputable def lB (s:Stmt):List Stmt:=match s with
 | .FunctionDef _ _ b _ _ _ _ _ _ _=>b
 |_=>[]
noncomputable def gy (s:Stmt):abf:=match s with
 | .FunctionDef _ _ _ _ _ _ sc _ _ _=>sc
 |_=>{ kind:=.function,names:=[],isGenerator:=false,isCoroutine:=false }
abbrev gp:jZ:=λ_ _ _ _ _ _=>False
abbrev E0:XK:=λ_ _ _=>False
def JQ:Passes gp X E0:=λ_ _ _ _ _ _ _ h=>h.elim
structure p9 (K:Ĳ) (x qual:Str) (st:Stmt) (f:á) (fd:Ŗ):Prop where
 ex:∃(oc:Í) (od:Option á) (kV doc pm:Í) (an:Option á) (cw ct:Í) (n9:Array (Option Í)),
  fd=ſ x qual (oP st) (lB st) (gy st) .none kV doc pm an cw ct/\K.lookup f=some ⟨oc,od,.func fd,n9⟩/\abt K cw qual=true
 kp:Ų K (.ref f)=true
section
variable {P:ù} {w:ď} {K:Ĳ} {mg:Str->Option Í} {base:ŏ}
def p9.ok {x qual:Str} {st:Stmt} {f:á} {fd:Ŗ} {N ps:List Str} {k:Nat} {sp:Sp} (F:p9 K x qual st f fd) (S:qK N ps (gy st)) (len:∀vs H Q E,sp vs H Q E->vs.length=ps.length)
  (By:∀(cw:Í) (A:đ) (outer:List Env) (s:É) (H:Hp) (vs:List V) (Q:VK) (E:XK),bT k (A.deeper (envOfC qual (gy st) s.heap.objs.size f cw))->sp vs H Q E ->
   ∃t,eM (nO gp P w K mg base N qual (gy st) f cw A outer s H E).si (lB st) t/\t { nx:=λ_ H'=>Q .au H',rt:=Q } (start N vs) H):fu P w K mg base gp (k+1) f fd ps sp:=by
 obtain⟨oc,od,kV,doc,pm,an,cw,ct,n9,rfl,lk,kK⟩:=F.ex;refine Vv lk kK S len λA outer s H vs Q E hr og=>?_;obtain⟨t,h,q⟩:=By cw A outer s H vs Q E hr og;exact⟨t,h.si,q⟩
def p9.binds {x qual:Str} {st:Stmt} {f:á} {fd:Ŗ} {ps:List Str} (F:p9 K x qual st f fd)
  (h:∀(kV doc pm:Í) (an:Option á) (cw ct:Í) (us:List Í),us.length=ps.length->bindArgs (ſ x qual (oP st) (lB st) (gy st) .none kV doc pm an cw ct) ⟨us,[]⟩=pure (ps.zip us)):Binds K fd ps []:=by
 obtain⟨oc,od,kV,doc,pm,an,cw,ct,n9,rfl,lk,kK⟩:=F.ex;exact .all (h kV doc pm an cw ct)
def IW {x qual:Str} {st:Stmt} {f:á} {oc:Í} {od an:Option á} {n9:Array (Option Í)} {kV doc pm cw ct:Í} (l:K.lookup f=some ⟨oc,od,.func (ſ x qual (oP st) (lB st) (gy st) .none kV doc pm an cw ct),n9⟩)
  (c:abt K cw qual=true) (k:Ų K (.ref f)=true):p9 K x qual st f (ſ x qual (oP st) (lB st) (gy st) .none kV doc pm an cw ct):=⟨⟨oc,od,kV,doc,pm,an,cw,ct,n9,rfl,l,c⟩,k⟩
end
section
variable {X:Cx}
end
def kC (H H':Hp):Prop:=∀b o,H b=some o->H' b=some o
def kC.refl (H:Hp):kC H H:=λ_ _ h=>h
def NM (J:Nat->É->Prop)
 (turn:∀n s,J n s->à (ø P w) A (Ť i6) (λr s1=>match r with
   |none=>R (.ok .next) s1
   |some v=>à (ø P w) A (Ş tg i6 v) (λ_ s2=>à (ø P w) A (aaR tg ce v) (λ_ s3 =>
     à (ø P w) A (forIn tests true λc r=>if r=true then do let ok <- isTrue c ce (ţ c ce);pure (aaf ok) else pure (aaf r)) (λok s4 =>
      if ok=true then à (ø P w) A (ţ el ce) (λy s5=>à (ø P w) A (call (.builtin "list.append") [av,y]) (λ_ s6=>∃m,m<n/\J m s6) (λ_ _=>False) s5) (λ_ _=>False) s4
      else ∃m,m<n/\J m s4) (λ_ _=>False) s3) (λ_ _=>False) s2) (λ_ _=>False) s1) (λ_ _=>False) s)
 (n:Nat) (h:J n s):aaO (ø P w) A (.compLoop (.ListComp el [⟨tg,src,tests,0⟩] sc ps) 0 i6 av ce) R s:=by
 refine codeAny_loop rfl J (λn s hJ=>?_) n h
 show à _ A ((compTurn (.ListComp el [⟨tg,src,tests,0⟩] sc ps) 0 i6 av ce).onRaise (λx=>do noteFrame x ce;theTreesLotGoes x)) _ _ s
 refine wpAny_noted ?_;rw[compTurn_list];refine À (Ŕ (À (ĳ (turn n s hJ) (λr s1 h1=>?_) λ_ _ z=>z.elim)))
 cases r with
 |none=>exact Â h1
 |some v =>
  refine À (ĳ h1 (λ_ s2 h2=>?_) λ_ _ z=>z.elim);refine À (ĳ h2 (λ_ s3 h3=>À (ĳ h3 (λok s4 h4=>?_) λ_ _ z=>z.elim)) λ_ _ z=>z.elim)
  cases ok with
  |false=>exact Â ⟨rfl,h4⟩
  |true =>
   exact À (À (ĳ h4 (λy s5 h5=>À (ĳ h5 (λ_ s6 h6=>Â (Â ⟨rfl,h6⟩)) λ_ _ z=>z.elim)) λ_ _ z=>z.elim))
def zY (env:Env):∀(l:List (Str×aas)) (acc:List (Str×á)),(∀n,(n,ā)∈l->∃c,env.cells.lookup n=some c) ->
  ∃cl,(forIn l acc (λ(p:Str×aas) (cs:List (Str×á))=>(do
   if (p.2==ā)=true then do let c <- cellOf env p.1;pure (aaf ((p.1,c)::cs)) else pure (aaf cs):Sem (ForInStep (List (Str×á))))))=pure cl /\
   ∀n c,cl.lookup n=some c↔(((n,ā)∈l/\env.cells.lookup n=some c)\/((n,ā)∉l/\acc.lookup n=some c))
 | [],acc,_=>⟨acc,rfl,λn c=>by simp⟩
 |(x,k)::r,acc,h=>by
  rw[List.forIn_cons]
  cases hk:(k==ā) with
  |false =>
   have fy:k≠.free:=by intro e;rw[e] at hk;cases hk
   obtain⟨cl,e,q⟩:=zY env r acc λn hn=>h n (Ñ _ hn);refine⟨cl,?_,λn c=>?_⟩
   ·simp only[Ã,ê]
    exact e
   ·rw[q n c]
    have:(n,ā)∈(x,k)::r↔(n,ā)∈r:=by
     constructor
     ·intro hm
      rcases Ó.mp hm with z|z
      ·injection z with _ z2
       exact absurd z2.symm fy
      ·exact z
     ·exact Ñ _
    rw[this]
  |true =>
   have he:k=.free:=by cases k<;>first|rfl|cases hk
   subst he;obtain⟨c0,Dh⟩:=h x Ò;obtain⟨cl,e,q⟩:=zY env r ((x,c0)::acc) λn hn=>h n (Ñ _ hn);refine⟨cl,?_,λn c=>?_⟩
   ·simp only[û,cellOf,Dh]
    exact e
   ·rw[q n c]
    by_cases hx:n=x
    ·subst hx
     constructor
     ·rintro (⟨_,z⟩ | ⟨_,z⟩)
      ·exact .inl ⟨Ò,z⟩
      ·rw[ń,Ġ] at z
       exact .inl ⟨Ò,Dh.trans z⟩
     ·rintro (⟨_,z⟩ | ⟨z,_⟩)
      ·by_cases hm:(n,ā)∈r
       ·exact .inl ⟨hm,z⟩
       ·refine .inr ⟨hm,?_⟩
        rw[ń,Ġ];exact Dh.symm.trans z
      ·exact absurd Ò z
    ·have:(n,ā)∈(x,ā)::r↔(n,ā)∈r:=by
      constructor
      ·intro hm
       rcases Ó.mp hm with z|z
       ·injection z with z1 _
        exact absurd z1 hx
       ·exact z
      ·exact Ñ _
     rw[this,ń,beq_false_of_ne hx]
def A2 (h:∀n,(n,ā)∈sc.names->∃c,env.cells.lookup n=some c) :
  ∃cl,closureFor sc env=pure cl/\∀n c,cl.lookup n=some c↔((n,ā)∈sc.names/\env.cells.lookup n=some c):=by
 obtain⟨cl,e,q⟩:=zY env sc.names [] h;refine⟨cl,?_,λn c=>?_⟩
 ·unfold closureFor
  exact(Ĺ (λz:Sem (List (Str×á))=>z >>= λr=>pure r) e)
 ·rw[q n c]
  simp
def GV (f:Str->aas->aas) (x:Str):∀l:List (Str×aas),(l.map λp=>(p.1,f p.1 p.2)).lookup x=(l.lookup x).map (f x)
 | []=>rfl
 |(n,k)::r=>by
  rw[Ö,ń,ń]
  cases h:x==n with
  |true =>
   have e:x=n:=by simpa using h
   subst e;rfl
  |false=>exact GV f x r
def wk (sc:abf) (env:Env) (x:Str):(relabel sc env).names.lookup x=(sc.names.lookup x).map λk=>if (k==ā&&env.scope.kind==.function&&env.kindOf x==some .cell)=true then NameKind.cell else k:=by
 rw[<- GV (λx k=>if (k==ā&&env.scope.kind==.function&&env.kindOf x==some .cell)=true then NameKind.cell else k)]
 show List.lookup x (sc.names.map _)=_;congr 1;apply aaP;rintro ⟨n,k⟩ _;dsimp only
 split<;>rfl
abbrev cb (X:Cx) (N:List Str) (sc:abf) (cl:List (Str×á)) (C:á) (s:É) (H:Hp) (ex:List á) (pn:List (á×Obj)):Cx where
 prog:=X.prog
 w:=X.w
 K:=X.K
 mg:=X.mg
 base:=X.base
 A:=X.A
 N:=N
 dM:=s
 uz:=H
 env:=compEnvC sc cl C X.env
 outer:=X.stack
 stack:=X.stack
 ex:=ex
 fn:=λ_=>false
 calm:=X.calm
 pn:=pn
 xe:=λ_ _=>False
structure oT (X:Cx) (sc:abf) (N:List Str) (nt:Nat) (cap:List Nat):Prop where
 kind:sc.kind=.function
 A3:∀x∈sc.names,x.2≠.cell
 names:∀x∈sc.names,x.2=.local->sc.names.lookup x.1=some .local
 frees:∀x∈sc.names,x.2=.free->sc.names.lookup x.1=some .free/\(X.env.scope.names.lookup x.1=some .cell\/X.env.scope.names.lookup x.1=some .free)
 len:N.length=nt+cap.length
 Cu:∀(k:Nat) j,cap[k]?=some j->∃x,X.N[j]?=some x/\N[nt+k]?=some x/\(x,ā)∈sc.names
def lF (nt:Nat) (cap:List Nat) (σ:St):St:=Ï nt none++cap.map λj=>(σ[j]?).getD none
def PF (X:Cx) (tests:List ļ) (t:TT):Prop :=
 ∀(π:List (á×Obj)) (s:É) (σ:St) (H:Hp) (Q:Bool->Hp->Prop),Inv X π σ H s->t σ H Q ->
  à (ø X.prog X.w) X.A (forIn tests true λc r=>if r=true then do let ok <- isTrue c X.env (ţ c X.env);pure (aaf ok) else pure (aaf r)) (TP X π σ Q) X.xe s
def WZ:TT:=λ_ H Q=>Q true H
def T6:PF X [] WZ:=λ_ _ _ H _ I h=>wpAny_tests_nil ⟨H,I,h⟩
def T7 (h:PT X c t):PF X [c] t:=λπ s σ H Q I hw=>wpAny_tests_one (h π s σ H Q I hw)
def lT (g:TG) (nt:Nat):Prop:=∀(x:V) (o caps:St) (H:Hp) (R:St->Hp->Prop),o.length=nt->g x (o++caps) H R->g x (o++caps) H fun τ H2=>(∃o2:St,o2.length=nt/\τ=o2++caps)/\R τ H2
def mq (cap:List Nat) (σ:St):St:=cap.map λj=>(σ[j]?).getD none
def CW (J:It) (nt:Nat) (caps:St) (g:TG) (tf:TT) (te:TE) (H:Hp) (Q:VK):Prop:=∃W:Nat->Nat->List V->Hp->Prop,(∃m,W 0 m [] H) /\
 ∀i m acc H2,W i m acc H2->(J.stop i H2/\acc.length<=Õ/\∀D,H2 D=none->Q (.ref D) (upd H2 D (.lst acc))) \/
  (J.go i H2/\acc.length<=Õ/\∃N:List V->Hp->Prop,(∀fv H',N fv H'->∃m',m' < m/\W (i+1) m' fv H') /\
   ∀o x H3,o.length=nt->J.uT i H2 x H3->g x (o++caps) H3 fun qa H4=>tf qa H4 λb H5=>if b=true then te qa H5 λv H6=>N (acc++[v]) H6 else N acc H5)
def mr (wi:TI) (nt:Nat) (cap:List Nat) (g:TG) (tf:TT) (te:TE):TE:=fun σ H Q=>wi σ H λJ H1=>CW J nt (mq cap σ) g tf te H1 Q
section
variable {fs ex:List á} {H H':Hp} {h h1 h2:ŏ} {P:ù} {w:ď}
def Un.adopt {D:á} {o:HO} (u:Un fs ex H H' h h1) (hp:h.objs.size<=D) (hn:H' D=none):Un fs ex H (upd H' D o) h h1 where
 keep:=u.keep
 slot:=u.slot
 free:=λb ob q n hx=>by rw[bo (è (Ê (Î q) hp))];exact u.free b ob q n hx
 there:=u.there
 jR:=λb xs q=>by rw[bo (eZ (u.jR b xs q) hn)];exact u.jR b xs q
 jm:=λb ob xs q=>by rw[bo (eZ (u.jm b ob xs q) hn)];exact u.jm b ob xs q
 kz:=λb ps q=>by
  obtain⟨more,e⟩:=u.kz b ps q;exact⟨more,by rw[bo (eZ e hn)];exact e⟩
def Un.but {C:á} (u:Un fs ex H H' h h1) (hp:h.objs.size<=C) (sb:ĸ C h1 h2):Un fs ex H H' h h2:=by
 have ne:∀b ob,h.get? b=some ob->b≠C:=λb ob q=>è (Ê (Î q) hp);refine⟨λb ob q n hb hx=>(sb.2 b (ne b ob q)).trans (u.keep b ob q n hb hx),λb ob q n hb hx=>?_,u.free,λb ob q hx=>?_,u.jR,u.jm,u.kz⟩
 ·obtain⟨sl,e⟩:=u.slot b ob q n hb hx
  exact⟨sl,(sb.2 b (ne b ob q)).trans e⟩
 ·obtain⟨o',e⟩:=u.there b ob q hx
  exact⟨o',(sb.2 b (ne b ob q)).trans e⟩
def bY.but (x:bY P w H h1) (hn:H C=none) (sb:ĸ C h1 h2):bY P w H h2:=λa o e =>
 (x a o e).hX (λb u hb q=>(sb.2 b (by
  rintro rfl
  rcases hb with z|z
  ·subst z;rw[hn] at e;cases e
  ·rw[hn] at z;cases z)).trans q) (λ_ q=>q) λ_ _ q=>q
def bY.adopt (x:bY P w H h) (hn:H D=none) (new:cF P w (upd H D o) h D o):bY P w (upd H D o) h:=λb u e=>by
 by_cases hb:b=D
 ·subst hb;rw[dg] at e;cases e;exact new
 ·rw[bo hb] at e
  exact(x b u e).hX (λc v _ q=>q) (λc q=>by rw[bo (eZ q hn)];exact q) λc xs q=>by rw[bo (eZ q hn)];exact q
end
section
variable {X:Cx} {sc:abf} {N:List Str} {nt:Nat} {cap:List Nat} {cl:List (Str×á)} {s:É} {h1:ŏ} {H:Hp} {σ:St} {π:List (á×Obj)} {fp:List á} {C:á} {t':Nat}
def Inv.block (I:Inv X π σ H s) (S:oT X sc N nt cap) (cR:∀n c,cl.lookup n=some c↔((n,ā)∈sc.names/\X.env.cells.lookup n=some c)) (hf:∀b∈fp,cj X π H b) (gP:∀b∈fp,b<s.heap.objs.size)
  (hk:∀b o,s.heap.get? b=some o->h1.get? b=some o) (hC:s.heap.objs.size<=C) (sj:∃m,h1.Ns C m):Inv (cb X N sc cl C s H fp (X.pn++π)) [] (lF nt cap σ) H { s with heap:=h1,toks:=t' }:=by
 have tX:∀b∈gO X.stack,b∈X.env.locals::X.fs:=I.kc;have Ll:C∉gO X.stack:=λz=>by
  rcases Ó.mp (I.kc C z) with e|e
  ·exact absurd (Ê I.lt hC) (by rw[e];exact é _)
  ·exact I.pA hC e
 have BB:∀x,(relabel sc X.env).names.lookup x=some .cell\/(relabel sc X.env).names.lookup x=some .free->(x,ā)∈sc.names:=λx hx=>by
  rw[wk] at hx
  cases e:sc.names.lookup x with
  |none=>rw[e] at hx;rcases hx with z|z<;>cases z
  |some k =>
   have hm:(x,k)∈sc.names:=by
    obtain⟨l1,l2,e1,_⟩:=List.lookup_eq_some_iff.mp e;rw[e1];simp
   rw[e] at hx
   cases k with
   |free=>exact hm
   |cell=>exact absurd rfl (S.A3 _ hm)
   |_=>exfalso;revert hx;simp
 have AA:∀x,(x,ā)∈sc.names->∃c,X.env.cells.lookup x=some c:=λx hx=>I.ok.has x (S.frees _ hx rfl).2;have ok:Cx.Ok (cb X N sc cl C s H fp (X.pn++π)):=by
  refine⟨I.ok.mod,?_,I.ok.glob,I.ok.blt,hC,?_,?_,?_,I.ok.hd,I.ok.frames,.inl rfl,?_,I.bs,Û I.ok.i4 I.sz,?_,?_,I.stack,I.Av⟩
  ·exact S.kind
  ·intro x y c hx hy
   exact I.ok.inj x y c ((cR x c).mp hx).2 ((cR y c).mp hy).2
  ·intro x hx
   have hm:=BB x hx;obtain⟨c,e⟩:=AA x hm;exact⟨c,(cR x c).mpr ⟨hm,e⟩⟩
  ·intro x c hx
   cases hx
  ·intro b hb
   refine⟨è (Ê (gP b hb) hC),λx c e=>?_⟩;exact(hf b hb).2.2.2.2.1 x c ((cR x c).mp e).2
  ·intro b o e hb
   rcases(hf b hb).2.2.2.1 with z|z
   ·exact I.ok.lJ b o e z
   ·exact absurd (Ê (Î e) (Û I.ok.i4 z)) (é _)
  ·intro b hb z
   rcases Ó.mp (tX b z) with e|e
   ·exact(hf b hb).2.1 e
   ·exact(hf b hb).2.2.1 e
 obtain⟨m,hm⟩:=sj;obtain⟨mX,XI,Di⟩:=I.loc;refine⟨ok,rfl,I.bare,Un.kept hk,⟨m,hm,λi x v e1 e2 e3=>?_⟩,λx c e=>?_,I.aE.fresh hC,λx c e=>I.fc x c ((cR x c).mp e).2,λp hp=>?_,I.aE.kept hk,?_⟩
 ·
  have hi:nt<=i:=by
   apply ξ;intro bA;have:(lF nt cap σ)[i]?=some none:=by
    unfold lF;rw[ä (by simpa using bA),ĭ,Ú bA]
   rw[this] at e2;cases e2
  have kN:(cap.map λj=>(σ[j]?).getD none)[i-nt]?=some (some v):=by
   have e:=e2;unfold lF at e;rw[ü (by simpa using hi)] at e;simpa using e
  rw[ç] at kN
  cases ej:cap[i-nt]? with
  |none=>rw[ej] at kN;cases kN
  |some j =>
   rw[ej] at kN;have ev:(σ[j]?).getD none=some v:=Option.some.inj kN;have va:σ[j]?=some (some v):=by
    cases q:σ[j]? with
    |none=>rw[q] at ev;cases ev
    |some z=>rw[q] at ev;exact Ĺ some ev
   obtain⟨y,f1,f2,f3⟩:=S.Cu _ _ ej;rw[Nat.add_sub_cancel' hi] at f2;have Dj:y=x:=Option.some.inj (f2.symm.trans e1);subst Dj;obtain⟨g1,g2⟩:=S.frees _ f3 rfl;have Dk:uO X.env.scope y:=.inr g2;obtain⟨u,r,l⟩:=Di j y v f1 va Dk;refine⟨u,r,.inr ⟨?_,?_⟩⟩
   ·show (relabel sc X.env).names.lookup y=some .cell\/(relabel sc X.env).names.lookup y=some .free
    rw[wk,g1];simp only[Ŏ];split
    ·exact .inl rfl
    ·exact .inr rfl
   ·rcases l with ⟨k,_⟩ | ⟨_,c,hc,nF⟩
    ·exfalso
     have k':X.env.scope.names.lookup y=some .local:=k;dsimp only at g2;rw[k'] at g2
     rcases g2 with z|z<;>cases z
    ·obtain⟨oc,ho,hd⟩:=nF
     exact⟨c,(cR y c).mpr ⟨f3,hc⟩,oc,hk _ _ ho,hd⟩
 ·obtain⟨v,oc,ho,hd⟩:=I.cell x c ((cR x c).mp e).2
  exact⟨v,oc,hk _ _ ho,hd⟩
 ·have fN:p∈X.pn++π:=by simpa using hp
  obtain⟨e,n,ne,nf,d⟩:=I.pin p fN;refine⟨hk _ _ e,n,è (Ê (Î e) hC),λz=>?_,d⟩
  rcases Ó.mp (tX p.1 z) with q|q
  ·exact ne q
  ·exact nf q
 ·unfold lF
  rw[â,ů,Ä];exact S.len.symm
end
section
variable {X:Cx}
end
inductive Kn where
 |au|bl|int|str|tup|lst|aZ
 deriving DecidableEq
def oj (K:Ĳ) (H:Hp):V->Kn->Prop
 | .au,.au=>True
 | .bl _,.bl=>True
 | .int _,.int=>True
 | .str _,.str=>True
 | .ref a,.tup=>∃xs,aR K H a xs
 | .ref a,.lst=>∃xs,bp K H a xs
 | .ref a,.aZ=>∃ai,H a=some (.dK ai)
 |_,_=>False
noncomputable def rL:Kn->String->Bool
 | .int,"int"=>true
 | .bl,"int"=>true
 | .bl,"bool"=>true
 | .str,"str"=>true
 | .tup,"tuple"=>true
 | .lst,"list"=>true
 |_,_=>false
section
variable {X:Cx}
def Inv.qQ {π:List (á×Obj)} {σ:St} {H:Hp} {s:É} {a:á} {xs:List V} (I:Inv X π σ H s) (h:aR X.K H a xs):∃o,s.heap.get? a=some o/\o.cls=.type "tuple":=by
 obtain⟨its,r,⟨o,e,c,_⟩,_⟩:=I.tuple h;exact⟨o,e,c⟩
def Inv.qR {π:List (á×Obj)} {σ:St} {H:Hp} {s:É} {a:á} {xs:List V} (I:Inv X π σ H s) (h:bp X.K H a xs):∃o,s.heap.get? a=some o/\o.cls=.type "list":=by
 obtain⟨its,r,⟨o,n,e,c,_⟩,_⟩:=I.list h;exact⟨o,e,c⟩
def Inv.qS {π:List (á×Obj)} {σ:St} {H:Hp} {s:É} {a:á} {ai:List (Key×V)} (I:Inv X π σ H s) (h:H a=some (.dK ai)):∃o,s.heap.get? a=some o/\o.cls=.type "dict":=by
 obtain⟨_,_,vs,_,p⟩:=(show cF X.prog X.w H s.heap a (.dK ai) from I.aE a _ h);obtain⟨o,es,ep,h1,h2,_⟩:=p;exact⟨o,h1,h2.1⟩
def MP:bV X (.builtin "isinstance") (λxs H Q=>∃x k,xs=[x,.ty "int"]/\oj X.K H x k/\Q (.bl (rL k "int")) H):=by
 intro π s σ H xs us Q I r h;obtain⟨x,k,rfl,hk,q⟩:=h;obtain⟨u,c,rfl,ru,rc⟩:=vals2 r;cases rc
 cases k with
 |au =>
  cases x with
  |au =>
   cases ru;exact IsiPair.NoneType_int ⟨.bl false,H,I.tok _,rfl,q⟩
  |_=>exact hk.elim
 |bl =>
  cases x with
  |bl b =>
   cases ru;exact IsiPair.bool_int ⟨.bl true,H,I,rfl,q⟩
  |_=>exact hk.elim
 |int =>
  cases x with
  |int i =>
   obtain⟨t,rfl⟩:=ru;exact IsiPair.int_int ⟨.bl true,H,I,rfl,q⟩
  |_=>exact hk.elim
 |str =>
  cases x with
  |str y =>
   obtain⟨t,rfl⟩:=ru;exact IsiPair.str_int ⟨.bl false,H,I.tok _,rfl,q⟩
  |_=>exact hk.elim
 |tup =>
  cases x with
  |ref a =>
   cases ru;obtain⟨z,hz⟩:=hk;obtain⟨o,ho,hc⟩:=I.qQ hz;exact IsiPair.tuple_int ho hc ⟨.bl false,H,I.tok _,rfl,q⟩
  |_=>exact hk.elim
 |lst =>
  cases x with
  |ref a =>
   cases ru;obtain⟨z,hz⟩:=hk;obtain⟨o,ho,hc⟩:=I.qR hz;exact IsiPair.list_int ho hc ⟨.bl false,H,I.tok _,rfl,q⟩
  |_=>exact hk.elim
 |aZ =>
  cases x with
  |ref a =>
   cases ru;obtain⟨z,hz⟩:=hk;obtain⟨o,ho,hc⟩:=I.qS hz;exact IsiPair.dict_int ho hc ⟨.bl false,H,I.tok _,rfl,q⟩
  |_=>exact hk.elim
def My:bV X (.builtin "isinstance") (λxs H Q=>∃x k,xs=[x,.ty "bool"]/\oj X.K H x k/\Q (.bl (rL k "bool")) H):=by
 intro π s σ H xs us Q I r h;obtain⟨x,k,rfl,hk,q⟩:=h;obtain⟨u,c,rfl,ru,rc⟩:=vals2 r;cases rc
 cases k with
 |au =>
  cases x with
  |au =>
   cases ru;exact IsiPair.NoneType_bool ⟨.bl false,H,I.tok _,rfl,q⟩
  |_=>exact hk.elim
 |bl =>
  cases x with
  |bl b =>
   cases ru;exact IsiPair.bool_bool ⟨.bl true,H,I,rfl,q⟩
  |_=>exact hk.elim
 |int =>
  cases x with
  |int i =>
   obtain⟨t,rfl⟩:=ru;exact IsiPair.int_bool ⟨.bl false,H,I.tok _,rfl,q⟩
  |_=>exact hk.elim
 |str =>
  cases x with
  |str y =>
   obtain⟨t,rfl⟩:=ru;exact IsiPair.str_bool ⟨.bl false,H,I.tok _,rfl,q⟩
  |_=>exact hk.elim
 |tup =>
  cases x with
  |ref a =>
   cases ru;obtain⟨z,hz⟩:=hk;obtain⟨o,ho,hc⟩:=I.qQ hz;exact IsiPair.tuple_bool ho hc ⟨.bl false,H,I.tok _,rfl,q⟩
  |_=>exact hk.elim
 |lst =>
  cases x with
  |ref a =>
   cases ru;obtain⟨z,hz⟩:=hk;obtain⟨o,ho,hc⟩:=I.qR hz;exact IsiPair.list_bool ho hc ⟨.bl false,H,I.tok _,rfl,q⟩
  |_=>exact hk.elim
 |aZ =>
  cases x with
  |ref a =>
   cases ru;obtain⟨z,hz⟩:=hk;obtain⟨o,ho,hc⟩:=I.qS hz;exact IsiPair.dict_bool ho hc ⟨.bl false,H,I.tok _,rfl,q⟩
  |_=>exact hk.elim
def MQ:bV X (.builtin "isinstance") (λxs H Q=>∃x k,xs=[x,.ty "str"]/\oj X.K H x k/\Q (.bl (rL k "str")) H):=by
 intro π s σ H xs us Q I r h;obtain⟨x,k,rfl,hk,q⟩:=h;obtain⟨u,c,rfl,ru,rc⟩:=vals2 r;cases rc
 cases k with
 |au =>
  cases x with
  |au =>
   cases ru;exact IsiPair.NoneType_str ⟨.bl false,H,I.tok _,rfl,q⟩
  |_=>exact hk.elim
 |bl =>
  cases x with
  |bl b =>
   cases ru;exact IsiPair.bool_str ⟨.bl false,H,I.tok _,rfl,q⟩
  |_=>exact hk.elim
 |int =>
  cases x with
  |int i =>
   obtain⟨t,rfl⟩:=ru;exact IsiPair.int_str ⟨.bl false,H,I.tok _,rfl,q⟩
  |_=>exact hk.elim
 |str =>
  cases x with
  |str y =>
   obtain⟨t,rfl⟩:=ru;exact IsiPair.str_str ⟨.bl true,H,I,rfl,q⟩
  |_=>exact hk.elim
 |tup =>
  cases x with
  |ref a =>
   cases ru;obtain⟨z,hz⟩:=hk;obtain⟨o,ho,hc⟩:=I.qQ hz;exact IsiPair.tuple_str ho hc ⟨.bl false,H,I.tok _,rfl,q⟩
  |_=>exact hk.elim
 |lst =>
  cases x with
  |ref a =>
   cases ru;obtain⟨z,hz⟩:=hk;obtain⟨o,ho,hc⟩:=I.qR hz;exact IsiPair.list_str ho hc ⟨.bl false,H,I.tok _,rfl,q⟩
  |_=>exact hk.elim
 |aZ =>
  cases x with
  |ref a =>
   cases ru;obtain⟨z,hz⟩:=hk;obtain⟨o,ho,hc⟩:=I.qS hz;exact IsiPair.dict_str ho hc ⟨.bl false,H,I.tok _,rfl,q⟩
  |_=>exact hk.elim
def Mo:bV X (.builtin "isinstance") (λxs H Q=>∃x k,xs=[x,.ty "tuple"]/\oj X.K H x k/\Q (.bl (rL k "tuple")) H):=by
 intro π s σ H xs us Q I r h;obtain⟨x,k,rfl,hk,q⟩:=h;obtain⟨u,c,rfl,ru,rc⟩:=vals2 r;cases rc
 cases k with
 |au =>
  cases x with
  |au =>
   cases ru;exact IsiPair.NoneType_tuple ⟨.bl false,H,I.tok _,rfl,q⟩
  |_=>exact hk.elim
 |bl =>
  cases x with
  |bl b =>
   cases ru;exact IsiPair.bool_tuple ⟨.bl false,H,I.tok _,rfl,q⟩
  |_=>exact hk.elim
 |int =>
  cases x with
  |int i =>
   obtain⟨t,rfl⟩:=ru;exact IsiPair.int_tuple ⟨.bl false,H,I.tok _,rfl,q⟩
  |_=>exact hk.elim
 |str =>
  cases x with
  |str y =>
   obtain⟨t,rfl⟩:=ru;exact IsiPair.str_tuple ⟨.bl false,H,I.tok _,rfl,q⟩
  |_=>exact hk.elim
 |tup =>
  cases x with
  |ref a =>
   cases ru;obtain⟨z,hz⟩:=hk;obtain⟨o,ho,hc⟩:=I.qQ hz;exact IsiPair.tuple_tuple ho hc ⟨.bl true,H,I,rfl,q⟩
  |_=>exact hk.elim
 |lst =>
  cases x with
  |ref a =>
   cases ru;obtain⟨z,hz⟩:=hk;obtain⟨o,ho,hc⟩:=I.qR hz;exact IsiPair.list_tuple ho hc ⟨.bl false,H,I.tok _,rfl,q⟩
  |_=>exact hk.elim
 |aZ =>
  cases x with
  |ref a =>
   cases ru;obtain⟨z,hz⟩:=hk;obtain⟨o,ho,hc⟩:=I.qS hz;exact IsiPair.dict_tuple ho hc ⟨.bl false,H,I.tok _,rfl,q⟩
  |_=>exact hk.elim
def Mz:bV X (.builtin "isinstance") (λxs H Q=>∃x k,xs=[x,.ty "list"]/\oj X.K H x k/\Q (.bl (rL k "list")) H):=by
 intro π s σ H xs us Q I r h;obtain⟨x,k,rfl,hk,q⟩:=h;obtain⟨u,c,rfl,ru,rc⟩:=vals2 r;cases rc
 cases k with
 |au =>
  cases x with
  |au =>
   cases ru;exact IsiPair.NoneType_list ⟨.bl false,H,I.tok _,rfl,q⟩
  |_=>exact hk.elim
 |bl =>
  cases x with
  |bl b =>
   cases ru;exact IsiPair.bool_list ⟨.bl false,H,I.tok _,rfl,q⟩
  |_=>exact hk.elim
 |int =>
  cases x with
  |int i =>
   obtain⟨t,rfl⟩:=ru;exact IsiPair.int_list ⟨.bl false,H,I.tok _,rfl,q⟩
  |_=>exact hk.elim
 |str =>
  cases x with
  |str y =>
   obtain⟨t,rfl⟩:=ru;exact IsiPair.str_list ⟨.bl false,H,I.tok _,rfl,q⟩
  |_=>exact hk.elim
 |tup =>
  cases x with
  |ref a =>
   cases ru;obtain⟨z,hz⟩:=hk;obtain⟨o,ho,hc⟩:=I.qQ hz;exact IsiPair.tuple_list ho hc ⟨.bl false,H,I.tok _,rfl,q⟩
  |_=>exact hk.elim
 |lst =>
  cases x with
  |ref a =>
   cases ru;obtain⟨z,hz⟩:=hk;obtain⟨o,ho,hc⟩:=I.qR hz;exact IsiPair.list_list ho hc ⟨.bl true,H,I,rfl,q⟩
  |_=>exact hk.elim
 |aZ =>
  cases x with
  |ref a =>
   cases ru;obtain⟨z,hz⟩:=hk;obtain⟨o,ho,hc⟩:=I.qS hz;exact IsiPair.dict_list ho hc ⟨.bl false,H,I.tok _,rfl,q⟩
  |_=>exact hk.elim
end
def rm (p:á) (Ts:List String):ŏ->Prop:=λh=>h.get? p=some { cls:=.type "tuple",data:=.seq (Ts.map Ŷ).toArray }
def HJ:∀{Ts:List String} {us:List Í},Vals (Ts.map V.ty) us->us=Ts.map Ŷ
 | [],_,.nil=>rfl
 |_::r,_,.cons h t=>by
  cases h;rw[HJ t];rfl
def T8 (t:TA):TE:=fun σ H Q=>t σ H λxs H1=>∃Ts:List String,xs=Ts.map V.ty/\xs.length<=Õ/\∀p,H1 p=none->Q (.ref p) (upd H1 p (.ext (rm p Ts)))
section
variable {X:Cx} {es:List ļ} {t:TA} {pos:Pos}
def Qc {x1} (h:PA X es t):PE X (.Tuple es x1 pos) (T8 t):=by
 intro π s σ H Q I hq;refine wpAny_Tuple_spliced (aD (h pos π s σ H _ I hq) λus s1 ⟨xs,H1,I1,r,Ts,e,z,q⟩=>⟨by rw[<- r.length];exact z,?_⟩);subst e;have eu:=HJ r;subst eu;have hf:H1 s1.heap.objs.size=none:=I1.aE.fresh (Nat.le_refl _);refine⟨.ref s1.heap.objs.size,upd H1 s1.heap.objs.size (.ext (rm s1.heap.objs.size Ts)),I1.laid (t':=s1.toks) (λb u e=>Á _ e) (Nat.le_refl _) ?_,rfl,q _ hf⟩;refine⟨Ì _ rfl,⟨_,Ì _ rfl⟩,λh1 h2 e k=>k _ e⟩
def T9 {K:Ĳ} {π:List (á×Obj)} {σ:St} {H:Hp} {s:É} {x:V} {u:Í} {k:Kn} (I:Inv X π σ H s) (hk:oj X.K H x k) (r:RelV x u) :
  ∃Tx vs,AnswersAll (λs=>s.TypeIs u Tx) u [.type "tuple",.type "list"] vs/\s.TypeIs u Tx/\vs.any id=(decide (k=.tup)||decide (k=.lst)):=by
 cases k with
 |au =>
  cases x with
  |au=>cases r;exact⟨"NoneType",[false,false],.cons (.of_false_none (by decide +kernel) Ū F.sub_NoneType_tuple) (.cons (.of_false_none (by decide +kernel) Ÿ F.sub_NoneType_list) .nil),rfl,rfl⟩
  |_=>exact hk.elim
 |bl =>
  cases x with
  |bl b=>cases r;exact⟨"bool",[false,false],.cons (.of_false_bool (by decide +kernel) Ū F.sub_bool_tuple) (.cons (.of_false_bool (by decide +kernel) Ÿ F.sub_bool_list) .nil),rfl,rfl⟩
  |_=>exact hk.elim
 |int =>
  cases x with
  |int b=>obtain⟨t,rfl⟩:=r;exact⟨"int",[false,false],.cons (.of_false_int (by decide +kernel) Ū F.sub_int_tuple) (.cons (.of_false_int (by decide +kernel) Ÿ F.sub_int_list) .nil),rfl,rfl⟩
  |_=>exact hk.elim
 |str =>
  cases x with
  |str b=>obtain⟨t,rfl⟩:=r;exact⟨"str",[false,false],.cons (.of_false_str (by decide +kernel) Ū F.sub_str_tuple) (.cons (.of_false_str (by decide +kernel) Ÿ F.sub_str_list) .nil),rfl,rfl⟩
  |_=>exact hk.elim
 |tup =>
  cases x with
  |ref a =>
   cases r;obtain⟨z,hz⟩:=hk;exact⟨"tuple",[true,false],.cons (.of_true Ū F.sub_tuple_tuple) (.cons (.of_false_tuple (by decide +kernel) Ÿ F.sub_tuple_list) .nil),I.qQ hz,rfl⟩
  |_=>exact hk.elim
 |lst =>
  cases x with
  |ref a =>
   cases r;obtain⟨z,hz⟩:=hk;exact⟨"list",[false,true],.cons (.of_false_list (by decide +kernel) Ū F.sub_list_tuple) (.cons (.of_true Ÿ F.sub_list_list) .nil),I.qR hz,rfl⟩
  |_=>exact hk.elim
 |aZ =>
  cases x with
  |ref a =>
   cases r;obtain⟨z,hz⟩:=hk;exact⟨"dict",[false,false],.cons (.of_false_dict (by decide +kernel) Ū F.sub_dict_tuple) (.cons (.of_false_dict (by decide +kernel) Ÿ F.sub_dict_list) .nil),I.qS hz,rfl⟩
  |_=>exact hk.elim
def Nf:bV X (.builtin "isinstance") (λxs H Q=>∃x k p,xs=[x,.ref p]/\oj X.K H x k/\H p=some (.ext (rm p ["tuple","list"]))/\Q (.bl (decide (k=.tup)||decide (k=.lst))) H):=by
 intro π s σ H xs us Q I r h;obtain⟨x,k,p,rfl,hk,hp,q⟩:=h;obtain⟨u,c,rfl,ru,rc⟩:=vals2 r;cases rc;obtain⟨Tx,vs,ha,ht,hv⟩:=T9 (K:=X.K) I hk ru;have ho:cF X.prog X.w H s.heap p (.ext (rm p ["tuple","list"])):=I.aE p _ hp;exact IsiPair.tupleOfB ha ht ho.1 hv λtk=>⟨.bl _,H,I.tok _,rfl,q⟩
def GW {bs:List Bool} (r:Vals (bs.map V.bl) its):TruthOf X.prog X.w A (λi v=>its.toArray[i]?=some v) (λi=>bs.getD i false):=by
 intro i v s Q E hv hQ;have lU:its[i]?=some v:=by simpa using hv
 have hi:i<its.length:=(Å.mp lU).1;have hb:i<bs.length:=by
  have e:=r.length;rw[Ä] at e;omega
 have hx:(bs.map V.bl)[i]?=some (.bl (bs[i])):=by rw[ç,Ð hb];rfl
 obtain⟨u,hu,ru⟩:=Vals.get r hx;rw[lU] at hu;cases hu;cases ru;have e:bs.getD i false=bs[i]:=by simp[Ź,Ð hb]
 have lV:Q (bs.getD i false) s:=hQ;rw[e] at lV;exact Į lV
def range_all (bs:List Bool):(ß bs.length).all (λi=>bs.getD i false)=bs.all id:=by
 rw[ş,ý,ý];constructor
 ·intro h b hb
  obtain⟨i,hi,e⟩:=aaQ hb;have:=h i (Ā.mpr hi);simpa [Ź,Ð hi,e] using this
 ·intro h i hi
  have hi:=Ā.mp hi;have:=h _ (aaK hi);simpa [Ź,Ð hi] using this
def range_any (bs:List Bool):(ß bs.length).any (λi=>bs.getD i false)=bs.any id:=by
 rw[ş,Ņ,Ņ];constructor
 ·rintro ⟨i,hi,h⟩
  have hi:=Ā.mp hi;exact⟨bs[i],aaK hi,by simpa [Ź,Ð hi] using h⟩
 ·rintro ⟨b,hb,h⟩
  obtain⟨i,hi,e⟩:=aaQ hb;exact⟨i,Ā.mpr hi,by simpa [Ź,Ð hi,e] using h⟩
def Qd (hc:X.calm=true):bV X (.builtin "all") (λxs H Q=>∃(p:á) (bs:List Bool),xs=[.ref p]/\bp X.K H p (bs.map V.bl)/\Q (.bl (bs.all id)) H):=by
 intro π s σ H xs us Q I r h;obtain⟨p,bs,rfl,hp,q⟩:=h;obtain⟨u,rfl,ru⟩:=vals1 r;cases ru;obtain⟨its,rv,pl,hz⟩:=I.list hp;have hn:its.toArray.size=bs.length:=by
  have e:=rv.length;rw[Ä] at e;simpa using e.symm
 have hh:X.A.in1.handled=none:=I.ok.hd hc;refine call_all_walk (ŷ pl.isList ?_);have old:p≠s.heap.objs.size:=è (by obtain⟨o,n,e,_⟩:=pl;exact Î e);refine⟨s.heap.objs.size,[s.heap.objs.size,p],[s.heap.objs.size],its.toArray.size,_,_,λi=>bs.getD i false,rfl,Walks.list hh s.heap.objs.size p old its.toArray,⟨⟨_,Ì _ rfl,rfl,rfl⟩,pl.isList.at λo e=>Á _ e⟩,GW rv,λh' tk hk=>?_⟩;rw[hn,range_all];exact⟨.bl _,H,I.kept (t':=tk) λb o e=>hk b o (by simpa using è (Î e)) (Á _ e),rfl,q⟩
def Qe (hc:X.calm=true):bV X (.builtin "any") (λxs H Q=>∃(p:á) (bs:List Bool),xs=[.ref p]/\bp X.K H p (bs.map V.bl)/\Q (.bl (bs.any id)) H):=by
 intro π s σ H xs us Q I r h;obtain⟨p,bs,rfl,hp,q⟩:=h;obtain⟨u,rfl,ru⟩:=vals1 r;cases ru;obtain⟨its,rv,pl,hz⟩:=I.list hp;have hn:its.toArray.size=bs.length:=by
  have e:=rv.length;rw[Ä] at e;simpa using e.symm
 have hh:X.A.in1.handled=none:=I.ok.hd hc;refine call_any_walk (ŷ pl.isList ?_);have old:p≠s.heap.objs.size:=è (by obtain⟨o,n,e,_⟩:=pl;exact Î e);refine⟨s.heap.objs.size,[s.heap.objs.size,p],[s.heap.objs.size],its.toArray.size,_,_,λi=>bs.getD i false,rfl,Walks.list hh s.heap.objs.size p old its.toArray,⟨⟨_,Ì _ rfl,rfl,rfl⟩,pl.isList.at λo e=>Á _ e⟩,GW rv,λh' tk hk=>?_⟩;rw[hn,range_any];exact⟨.bl _,H,I.kept (t':=tk) λb o e=>hk b o (by simpa using è (Î e)) (Á _ e),rfl,q⟩
end
def rM:Key->aaD
 | .inl i=>.int i
 | .inr x=>.str x
mutual
def DV (K:Ĳ) (Z:á->Prop) (H:Hp):aaD->V->Prop
 | .none,v=>v=.au
 | .bool b,v=>v=.bl b
 | .int i,v=>v=.int i
 | .str x,v=>v=.str x
 | .tuple ds,v=>∃a xs,v=.ref a/\aR K H a xs/\ar K Z H ds xs
 | .list ds,v=>∃a xs,v=.ref a/\¬ Z a/\H a=some (.lst xs)/\ar K Z H ds xs
 | .dict ai,v=>∃a es,v=.ref a/\¬ Z a/\H a=some (.dK es)/\∃l:List (Key×Int),es=l.map (λp=>(p.1,V.int p.2))/\ai=l.map λp=>(rM p.1,PyData.int p.2)
def ar (K:Ĳ) (Z:á->Prop) (H:Hp):List aaD->List V->Prop
 | [],vs=>vs=[]
 |d::ds,vs=>∃v r,vs=v::r/\DV K Z H d v/\ar K Z H ds r
end
structure KH (K:Ĳ) (Z:á->Prop) (H H':Hp):Prop where
 tup:∀b xs,aR K H b xs->aR K H' b xs
 lst:∀b xs,¬ Z b->H b=some (.lst xs)->H' b=some (.lst xs)
 aZ:∀b es,¬ Z b->H b=some (.dK es)->H' b=some (.dK es)
mutual
def DV.hX {K:Ĳ} {Z:á->Prop} {H H':Hp} (S:KH K Z H H'):∀{d:aaD} {v:V},DV K Z H d v->DV K Z H' d v
 | .none,_,h=>h
 | .bool _,_,h=>h
 | .int _,_,h=>h
 | .str _,_,h=>h
 | .tuple ds,v,h=>by
  simp only[DV] at h |-;obtain⟨a,xs,e,hq,r⟩:=h;exact⟨a,xs,e,S.tup a xs hq,ar.hX S r⟩
 | .list ds,v,h=>by
  simp only[DV] at h |-;obtain⟨a,xs,e,hz,hq,r⟩:=h;exact⟨a,xs,e,hz,S.lst a xs hz hq,ar.hX S r⟩
 | .dict ai,v,h=>by
  simp only[DV] at h |-;obtain⟨a,es,e,hz,hq,r⟩:=h;exact⟨a,es,e,hz,S.aZ a es hz hq,r⟩
def ar.hX {K:Ĳ} {Z:á->Prop} {H H':Hp} (S:KH K Z H H'):∀{ds:List aaD} {vs:List V},ar K Z H ds vs->ar K Z H' ds vs
 | [],_,h=>h
 |d::ds,vs,h=>by
  simp only[ar] at h |-;obtain⟨v,r,e,h1,h2⟩:=h;exact⟨v,r,e,DV.hX S h1,ar.hX S h2⟩
end
mutual
def DV.more {K:Ĳ} {Z:á->Prop} {H:Hp} {p:á} (hp:H p=none):∀{d:aaD} {v:V},DV K Z H d v->DV K (λa=>Z a\/a=p) H d v
 | .none,_,h=>h
 | .bool _,_,h=>h
 | .int _,_,h=>h
 | .str _,_,h=>h
 | .tuple ds,v,h=>by
  simp only[DV] at h |-;obtain⟨a,xs,e,hq,r⟩:=h;exact⟨a,xs,e,hq,ar.more hp r⟩
 | .list ds,v,h=>by
  simp only[DV] at h |-;obtain⟨a,xs,e,hz,hq,r⟩:=h;exact⟨a,xs,e,(λz=>z.elim hz λe=>by subst e;rw[hp] at hq;cases hq),hq,ar.more hp r⟩
 | .dict ai,v,h=>by
  simp only[DV] at h |-;obtain⟨a,es,e,hz,hq,r⟩:=h;exact⟨a,es,e,(λz=>z.elim hz λe=>by subst e;rw[hp] at hq;cases hq),hq,r⟩
def ar.more {K:Ĳ} {Z:á->Prop} {H:Hp} {p:á} (hp:H p=none):∀{ds:List aaD} {vs:List V},ar K Z H ds vs->ar K (λa=>Z a\/a=p) H ds vs
 | [],_,h=>h
 |d::ds,vs,h=>by
  simp only[ar] at h |-;obtain⟨v,r,e,h1,h2⟩:=h;exact⟨v,r,e,DV.more hp h1,ar.more hp h2⟩
end
mutual
def DV.less {K:Ĳ} {Z Z':á->Prop} {H:Hp} (lW:∀a,Z' a->Z a):∀{d:aaD} {v:V},DV K Z H d v->DV K Z' H d v
 | .none,_,h=>h
 | .bool _,_,h=>h
 | .int _,_,h=>h
 | .str _,_,h=>h
 | .tuple ds,v,h=>by
  simp only[DV] at h |-;obtain⟨a,xs,e,hq,r⟩:=h;exact⟨a,xs,e,hq,ar.less lW r⟩
 | .list ds,v,h=>by
  simp only[DV] at h |-;obtain⟨a,xs,e,hz,hq,r⟩:=h;exact⟨a,xs,e,λz=>hz (lW _ z),hq,ar.less lW r⟩
 | .dict ai,v,h=>by
  simp only[DV] at h |-;obtain⟨a,es,e,hz,hq,r⟩:=h;exact⟨a,es,e,λz=>hz (lW _ z),hq,r⟩
def ar.less {K:Ĳ} {Z Z':á->Prop} {H:Hp} (lW:∀a,Z' a->Z a):∀{ds:List aaD} {vs:List V},ar K Z H ds vs->ar K Z' H ds vs
 | [],_,h=>h
 |d::ds,vs,h=>by
  simp only[ar] at h |-;obtain⟨v,r,e,h1,h2⟩:=h;exact⟨v,r,e,DV.less lW h1,ar.less lW h2⟩
end
noncomputable def XJ:aaD->Kn
 | .none=>.au
 | .bool _=>.bl
 | .int _=>.int
 | .str _=>.str
 | .tuple _=>.tup
 | .list _=>.lst
 | .dict _=>.aZ
section
variable {X:Cx} {π:List (á×Obj)} {σ:St} {H:Hp} {s:É} {Z:á->Prop}
def wz:∀{l:List (Key×Int)} {vs:List (Key×Í)} {es:List ab9},KV (l.map λp=>(p.1,V.int p.2)) vs->Pairs (jG P w) es vs ->
  ReadsAll h (es.map (·.key)) ((l.map λp=>(rM p.1,PyData.int p.2)).map (·.1)) []/\ReadsAll h (es.map (·.val)) ((l.map λp=>(rM p.1,PyData.int p.2)).map (·.2)) []
 | [],_,_,.nil,.nil=>⟨.nil,.nil⟩
 |(k,i)::l,_,_,.cons (b:=q) r t,.cons (e:=e) h1 h2 h3=>by
  obtain⟨a1,a2⟩:=wz (h:=h) t h3;obtain⟨r1,t',r2⟩:=r;have r1:k=q.1:=r1;have r2:q.2=abN i t':=r2;refine⟨?_,?_⟩
  ·have hk:oZ q.1 e.key=true:=h1
   rw[<- r1] at hk;have:Reads h e.key (rM k) []:=by
    rcases lq hk with ⟨j,u,e1,e2⟩ | ⟨x,u,e1,e2⟩
    ·rw[e1,e2];exact .int j u
    ·rw[e1,e2];exact .str x u
   exact ReadsAll.cons (as:=[]) (bs:=[]) this a1
  ·have:Reads h e.val (.int i) []:=by rw[h2,r2];exact .int i t'
   exact ReadsAll.cons (as:=[]) (bs:=[]) this a2
mutual
def DV.reads (I:Inv X π σ H s):∀{d:aaD} {v:V} {u:Í},DV X.K Z H d v->RelV v u->∃as,Reads s.heap u d as
 | .none,v,u,h,r=>by
  have e:v=.au:=h;subst e;cases r;exact⟨[],.none⟩
 | .bool b,v,u,h,r=>by
  have e:v=.bl b:=h;subst e;cases r;exact⟨[],.bool b⟩
 | .int i,v,u,h,r=>by
  have e:v=.int i:=h;subst e;obtain⟨t,rfl⟩:=r;exact⟨[],.int i t⟩
 | .str x,v,u,h,r=>by
  have e:v=.str x:=h;subst e;obtain⟨t,rfl⟩:=r;exact⟨[],.str x t⟩
 | .tuple ds,v,u,h,r=>by
  simp only[DV] at h;obtain⟨a,xs,e,hq,hr⟩:=h;subst e;cases r;obtain⟨its,rv,⟨o,e,c,n,hd⟩,_⟩:=I.tuple hq;obtain⟨as,rs⟩:=ar.reads I hr rv;exact⟨as,.tuple e c hd (by simpa using rs)⟩
 | .list ds,v,u,h,r=>by
  simp only[DV] at h;obtain⟨a,xs,e,_,hq,hr⟩:=h;subst e;cases r;obtain⟨its,rv,⟨o,n,e,c,_,hd⟩,_⟩:=I.list (bp.of hq);obtain⟨as,rs⟩:=ar.reads I hr rv;exact⟨a::as,.list e c hd (by simpa using rs)⟩
 | .dict ai,v,u,h,r=>by
  simp only[DV] at h;obtain⟨a,es,e,_,hq,l,e1,e2⟩:=h;subst e e1 e2;cases r;obtain⟨_,_,vs,kv,o,gk,ep,g1,g2,g3,_,g5,_⟩:=(show cF X.prog X.w H s.heap a (.dK _) from I.aE a _ hq);obtain⟨r1,r2⟩:=wz (h:=s.heap) kv g5;exact⟨a::[]++[],.dict g1 g2.1 g3 r1 r2⟩
def ar.reads (I:Inv X π σ H s):∀{ds:List aaD} {vs:List V} {us:List Í},ar X.K Z H ds vs->Vals vs us->∃as,ReadsAll s.heap us ds as
 | [],vs,us,h,r=>by
  have e:vs=[]:=h;subst e;cases r;exact⟨[],.nil⟩
 |d::ds,vs,us,h,r=>by
  obtain⟨v,rr,e,h1,h2⟩:=h;subst e
  cases r with
  |cons ru rt =>
   obtain⟨as,a1⟩:=DV.reads I h1 ru;obtain⟨bs,a2⟩:=ar.reads I h2 rt;exact⟨as++bs,.cons a1 a2⟩
end
def Gf (hr:bT k X.A):bV X (.builtin "repr") (λxs H Q=>∃(x:V) (d:aaD) (Z:á->Prop),xs=[x]/\DV X.K Z H d x/\d.showable=true/\(d.hasDict=false\/XJ d=.aZ)/\d.depth<=100/\d.shown.length<=Õ/\Q (.str d.shown) H):=by
 intro π s σ H xs us Q I r h;obtain⟨x,d,Z,rfl,hd,hs,sk,vd,hz,q⟩:=h;obtain⟨u,rfl,ru⟩:=vals1 r;have yM:X.A.units+(d.depth+1)<abP:=by have:=hr.un;omega
 obtain⟨as,rd⟩:=hd.reads I ru;have go:∀a,u=.ref a->(d.hasDict=true->ł∉as)->à (ø X.prog X.w) X.A (call (.builtin "repr") [u]) (EP X π σ Q) X.xe s:=λa e Dl=>by
  subst e;exact repr_of_reads' rd hs Dl hr.gd yM (λ_ _ e=>e) (λh' t tk hk=>⟨.str d.shown,H,I.kept (t':=tk) hk,⟨t,rfl⟩,q⟩) hz
 cases d with
 |none =>
  cases rd;exact P.repr_of_none ⟨.str _,H,I.tok _,⟨_,rfl⟩,q⟩
 |bool b =>
  cases rd;exact P.repr_of_bool ⟨.str _,H,I.tok _,⟨_,rfl⟩,q⟩
 |int i =>
  cases rd;exact P.repr_of_int (by simpa [aa0] using hs) ⟨.str _,H,I.tok _,⟨_,rfl⟩,q⟩
 |str y =>
  cases rd;exact P.repr_of_str ⟨.str _,H,I.tok _,⟨_,rfl⟩,q⟩ hz
 |list ds =>
  cases rd with
  |list h1 h2 h3 h4 =>
   refine go _ rfl λz=>?_
   rcases sk with e|e
   ·rw[e] at z;cases z
   ·cases e
 |tuple ds =>
  cases rd with
  |tuple h1 h2 h3 h4 =>
   refine go _ rfl λz=>?_
   rcases sk with e|e
   ·rw[e] at z;cases z
   ·cases e
 |dict ai =>
  simp only[DV] at hd;obtain⟨a,es,e,_,hq,l,e1,e2⟩:=hd;subst e e1 e2;cases ru;obtain⟨_,Cv,vs,kv,o,gk,ep,g1,g2,g3,_,g5,_⟩:=(show cF X.prog X.w H s.heap a (.dK _) from I.aE a _ hq);obtain⟨r1,r2⟩:=wz (h:=s.heap) kv g5;have XM:Reads s.heap (.ref a) (.dict (l.map λp=>(rM p.1,PyData.int p.2))) (a::[]++[]):=.dict g1 g2.1 g3 r1 r2;refine repr_of_reads' XM hs (λ_ hm=>?_) hr.gd yM (λ_ _ e=>e) (λh' t tk hk=>⟨.str _,H,I.kept (t':=tk) hk,⟨t,rfl⟩,q⟩) hz;have e:ł=a:=by simpa using hm
  subst e;simp at Cv
def KI (K:Ĳ) (neg:Bool):R2:=λx y H Q=>∃(d e:aaD) (Z:á->Prop),DV K Z H d x/\DV K Z H e y/\d.canLay0=true/\e.canLay0=true/\min d.depth e.depth<=100/\Q (.bl (if neg then !PyData.eqv d e else į d e)) H
def Ua (hr:bT k X.A):aW X (Č .Eq) (KI X.K false):=by
 intro π s σ H x y v u Q I rx ry h;obtain⟨d,e,Z,h1,h2,l1,l2,hd,q⟩:=h;obtain⟨as,r1⟩:=h1.reads I rx;obtain⟨bs,r2⟩:=h2.reads I ry;exact SeqAt.eqOverData _ _ _ _ _ _ _ _ _ _ _ _ r1 r2 l1 l2 (by have:=hr.un;omega) ⟨.bl _,H,I,rfl,q⟩
def Ub (hr:bT k X.A):aW X (Č .NotEq) (KI X.K true):=by
 intro π s σ H x y v u Q I rx ry h;obtain⟨d,e,Z,h1,h2,l1,l2,hd,q⟩:=h;obtain⟨as,r1⟩:=h1.reads I rx;obtain⟨bs,r2⟩:=h2.reads I ry;exact SeqAt.neOverData _ _ _ _ _ _ _ _ _ _ _ _ r1 r2 l1 l2 (by have:=hr.un;omega) ⟨.bl _,H,I,rfl,q⟩
end
end L2
namespace HT
open PySem PySem.Spec PyProof.Rows
section
variable {prog:ù} {w:ď} {A:đ} {E:Í->É->Prop} {s:É}
def Gg (ht:IsTup s.heap t items) (h:Q true s):à (ø prog w) A (aax (.ref t)) Q E s:=by
 unfold aax;exact À (abw ht.typeIs (Â h))
def Mp {lo hi:Option Int} {Q:Í->É->Prop} (ht:IsTup s.heap t items) (hs:s.heap.IsSliceOf sl vl vu .none) (pl:IsPart vl lo) (pu:IsPart vu hi)
 (hw:aP items.size 0 lo=0/\aP items.size items.size hi=items.size) (h:Q (.ref t) s):à (ø prog w) A (getItem (.ref t) (.ref sl)) Q E s:=by
 obtain⟨os,pY,jx,pZ⟩:=id hs;have Dd:s.TypeIs (.ref sl) "slice":=⟨os,pY,jx⟩;unfold getItem
 try with_reducible refine ė ?_
 first|refine À (Â ?_)|skip
 refine À (wpAny_sequenceKey ht.typeIs (by decide) ?_);refine À (Ĉ (name:=ì "__getitem__") ht.typeIs ĩ
  (Ą ĩ ht.typeIs entry_tuple_getitem ?_ (args_tuple_getitem _ _)))
 show à _ _ (ŧ (.ref t) >>= _) _ _ s;refine À (tupleItemsOf_ ht ?_);refine À (abw Dd ?_);rw[Ú (by decide)];refine À (Ff hs pl pu ?_);obtain⟨w1,w2⟩:=hw
 show à _ _ (if (((aP items.size 0 lo:Nat):Int)==0&&(1:Int)==1&&(aP items.size items.size hi-aP items.size 0 lo)==items.size)=true then _ else _) _ _ s
 rw[w1,w2,Ú (by simp)]
 first
  |exact À (Gg ht (by simp only[û];exact À (ś (Â ⟨_,rfl,Â h⟩))))
  |exact À (Gg ht (by simp only[û];exact À (ś (À (Â (Â ⟨_,rfl,Â h⟩))))))
end
end HT
namespace L2
open PySem PySem.Spec PyProof.Rows
def kC.XN {K:Ĳ} {H H':Hp} {a:á} {xs:List V} (e:kC H H') (h:aR K H a xs):aR K H' a xs:=by
 rcases h with (h | ⟨o,h⟩)|h
 ·exact .inl (.inl (e _ _ h))
 ·exact .inl (.inr ⟨o,e _ _ h⟩)
 ·exact .inr h
def kC.upd (hn:H p=none):kC H (upd H p o):=λb u e=>by rw[bo (eZ e hn)];exact e
def nP (K:Ĳ) (H:Hp) (ys:List V) (Q:VK):Prop:=∀a H',kC H H'->aR K H' a ys->Q (.ref a) H'
def nP.here {K:Ĳ} {H:Hp} {ys:List V} {Q:VK} {a:á} (h:nP K H ys Q) (hs:aR K H a ys):Q (.ref a) H:=h a H (kC.refl H) hs
def nP.new {K:Ĳ} {H:Hp} {ys:List V} {Q:VK} {p:á} (h:nP K H ys Q) (hn:H p=none):Q (.ref p) (L2.upd H p (.tup ys)):=h p _ (kC.upd hn) (aR.of dg)
section
variable {X:Cx} {e:ļ} {te:TE} {pos p2 p3 p4:Pos}
def Qf {lo hi:Option Int} (h:HT.aP xs.length 0 lo=0/\HT.aP xs.length xs.length hi=xs.length):kB xs lo hi=xs:=by
 unfold kB;rw[h.1,h.2];simp
def W0 (K:Ĳ):V->Option Int->Option Int->Hp->VK->Prop:=λx lo hi H Q=>∃a xs,x=.ref a/\aR K H a xs/\nP K H (kB xs lo hi) Q
def RP:u5 X (W0 X.K):=by
 intro π s σ H x v vl vu lo hi sl Q I rx hs pl pu h;obtain⟨a,xs,rfl,hx,q⟩:=h;by_cases hw:HT.aP xs.length 0 lo=0/\HT.aP xs.length xs.length hi=xs.length
 ·cases rx
  obtain⟨its,r,ht,hz⟩:=I.tuple hx;have hlen:its.toArray.size=xs.length:=by rw[Ô];exact r.length.symm
  rw[Qf hw] at q;exact⟨"tuple",_,ĩ.lookup,ht.typeIs,HT.Mp ht hs pl pu (by rw[hlen];exact hw) ⟨.ref a,H,I,rfl,q.here hx⟩⟩
 ·exact A0 π s σ H _ v vl vu lo hi sl Q I rx hs pl pu ⟨a,xs,rfl,hx,hw,λp hp=>q.new hp⟩
def VF (K:Ĳ):R2:=λx y H Q=>∃a b xs ys,x=.ref a/\y=.ref b/\aR K H a xs/\aR K H b ys/\xs.length+ys.length<=Õ/\nP K H (xs++ys) Q
def RQ:aW X (ŋ .Add) (VF X.K):=by
 intro π s σ H x y v u Q I rx ry h;obtain⟨a,b,xs,ys,rfl,rfl,ha,hb,hz,q⟩:=h;by_cases hx:xs=[]
 ·subst hx
  cases rx;cases ry;obtain⟨its,r1,p1,_⟩:=I.tuple ha;obtain⟨pG,r2,p2,_⟩:=I.tuple hb;cases r1;obtain⟨⟨cls,dd,data,sl⟩,ho,hc,n,hd⟩:=id p1;obtain⟨⟨KD,oh,data2,cQ⟩,i7,ig,n2,hd2⟩:=id p2;simp only at hc hd ig hd2;subst hc hd ig hd2;exact concat_meets ⟨_,ho,rfl⟩ ⟨_,i7,rfl⟩ noFill_tuple_add seq_tuple_add abb aaZ (aaS _ _)
   (tuple_addW0 a b _ pG.toArray n n2 dd oh sl cQ (by simp)) ⟨ho,i7,⟨.ref b,H,I,rfl,q.here hb⟩⟩
 ·refine RL π s σ H _ _ v u Q I rx ry ⟨a,b,xs,ys,rfl,rfl,ha,hb,hx,hz,λe=>?_,λ_ p hp=>q.new hp⟩
  subst e;rw[Ō] at q;exact q.here ha
end
end L2
namespace HZ
open PySem PySem.Spec PyProof.Rows
structure lX (P:ù) (w:ď) (A:đ) (i l:á) (tn:Nat->ŏ->Prop) (val:Nat->Option Í):Prop where
 keep:∀k h h',tn k h->(∀o,h.get? i=some o->h'.get? i=some o)->(∀o,h.get? l=some o->h'.get? l=some o)->tn k h'
 item:∀k (s:É) (Q:Í->É->Prop) (E:Í->É->Prop) x,tn k s.heap->val k=some x->(∀h',tn (k+1) h'->ĸ i s.heap h'->Q x { s with heap:=h' })->à (ø P w) A (Đ (.ref i)) Q E s
 stop:∀k (s:É) (Q:Í->É->Prop) (E:Í->É->Prop),tn k s.heap->val k=none->(∀h' e,abj i s.heap h'->(∃o,h'.get? e=some o/\o.cls=.type "StopIteration")->E (.ref e) { s with heap:=h' })->à (ø P w) A (Đ (.ref i)) Q E s
 obj:∀k h,tn k h->∃o,h.get? i=some o/\∀v,o.data≠.cell v
section
variable {P:ù} {w:ď} {A:đ} {E:Í->É->Prop} {s:É}
def NN (g:s.heap.IsTupleIter it t k) (gt:s.heap.IsTuple t its) (gx:its[k]?=some x)
 (q:∀h',h'.IsTupleIter it t (k+1)->ĸ it s.heap h'->Q x { s with heap:=h' }):à (ø P w) A (Đ (.ref it)) Q E s:=by
 obtain⟨o,go,gc,gd⟩:=id g;obtain⟨ol,Dm,_,nl,Dp⟩:=gt;unfold Đ;refine À (Ĉ (name:=ì "__next__") g.typeIs Ũ
  (Ą Ũ g.typeIs F.entry_tuple_iterator_next ?_ (F.args_tuple_iterator_next_1 _)))
 show à _ _ (field (.ref it) 0 >>= _) _ _ _;refine À (Ĵ go gd (x:=.ref t) rfl ?_)
 show à _ _ (if (μ t==Value.none)=true then _ else _) _ _ _
 rw[æ (λz:(μ t==Value.none)=true=>Ë z)];show à _ _ (field (.ref it) 1 >>= _) _ _ _;refine À (Ĵ go gd (x:=.int k 0) rfl ?_);show à _ _ (abS (.ref t) >>= _) _ _ _;refine À (Ě Dm Dp ?_);simp only[õ,gx];refine À (ř go gd (by simp) (Â ⟨x,rfl,Â (q _ ?_ (ĝ ..))⟩));exact⟨_,ă _ go (Ľ (Ď gd _)),(aat ..).trans gc,by rw[Ď gd];simp[Ŋ]⟩
def Mq (gh:A.handled=none) (g:s.heap.IsTupleIter it t k) (gt:s.heap.IsTuple t its) (gx:its[k]?=none)
 (q:∀h' e,abj it s.heap h'->(∃o,h'.get? e=some o/\o.cls=.type "StopIteration")->E (.ref e) { s with heap:=h' }):à (ø P w) A (Đ (.ref it)) Q E s:=by
 obtain⟨o,go,gc,gd⟩:=id g;obtain⟨ol,Dm,_,nl,Dp⟩:=gt;unfold Đ;refine À (Ĉ (name:=ì "__next__") g.typeIs Ũ
  (Ą Ũ g.typeIs F.entry_tuple_iterator_next ?_ (F.args_tuple_iterator_next_1 _)))
 show à _ _ (field (.ref it) 0 >>= _) _ _ _;refine À (Ĵ go gd (x:=.ref t) rfl ?_)
 show à _ _ (if (μ t==Value.none)=true then _ else _) _ _ _
 rw[æ (λz:(μ t==Value.none)=true=>Ë z)];show à _ _ (field (.ref it) 1 >>= _) _ _ _;refine À (Ĵ go gd (x:=.int k 0) rfl ?_);show à _ _ (abS (.ref t) >>= _) _ _ _;refine À (Ě Dm Dp ?_);simp only[õ,gx];refine À (ś (À (ř go gd (by simp) ?_)));show à _ _ (newExc (.type "StopIteration") [] >>= _) _ _ (_:É);refine À ?_;simp only[newExc,newTuple];refine À (ó ?_ (by size_fits))
 refine À (m:=aaE _ _) (Š (a:=Value.none) (by first|rfl | (unfold aaE;rfl)) ?_)
 refine ó ?_ (by size_fits);simp only[raiseNew];refine À (wpAny_handled ?_)
 first|rw[gh]|rw[show A.in1.handled=none from gh]
 refine À (Â (wpAny_throw ?_));exact q _ _ (((ĝ ..).extBut.push _).push _) ⟨_,Ì _ rfl,rfl⟩
def qL (gh:A.handled=none) (i l:á) (its:Array Í):lX P w A i l (λk h=>h.IsTupleIter i l k/\h.IsTuple l its) (λk=>its[k]?) where
 keep:=λk h h' st k1 k2=>⟨st.1.at k1,by obtain⟨o,e,r⟩:=st.2;exact⟨o,k2 o e,r⟩⟩
 item:=λk s Q E x st e q=>NN st.1 st.2 e λh' g sb=>by
  by_cases hl:l=i
  ·exfalso
   subst hl;obtain⟨o,e1,c1,_⟩:=st.1;obtain⟨o',e2,c2,_⟩:=st.2;rw[e1] at e2;cases e2;rw[c1] at c2;simp at c2
  ·obtain⟨o,e2,r⟩:=st.2
   exact q h' ⟨g,o,(sb.2 l hl).trans e2,r⟩ sb
 stop:=λk s Q E st e q=>Mq gh st.1 st.2 e q
 obj:=λk h st=>by
  obtain⟨o,e,_,d⟩:=st.1;exact⟨o,e,λv z=>by rw[d] at z;cases z⟩
def HK (gh:A.handled=none) (i l:á) (its:Array Í):lX P w A i l (λk h=>h.IsListIter i l k/\h.IsList l its) (λk=>its[k]?) where
 keep:=λk h h' st k1 k2=>⟨st.1.at k1,st.2.at k2⟩
 item:=λk s Q E x st e q=>wpAny_nextOf_list_item st.1 st.2 e λh' g sb=>by
  by_cases hl:l=i
  ·exfalso
   subst hl;obtain⟨o,e1,c1,_⟩:=st.1;obtain⟨o',e2,c2,_⟩:=st.2;rw[e1] at e2;cases e2;rw[c1] at c2;simp at c2
  ·exact q h' ⟨g,st.2.at λo e2=>(sb.2 l hl).trans e2⟩ sb
 stop:=λk s Q E st e q=>wpAny_nextOf_list_end gh st.1 st.2 e q
 obj:=λk h st=>by
  obtain⟨o,e,_,d⟩:=st.1;exact⟨o,e,λv z=>by rw[d] at z;cases z⟩
structure Apart (z ti to j1 j2 m1 m2:á):Prop where
 a1:ti≠z
 a2:to≠z
 a3:j1≠z
 a4:j2≠z
 a5:ti≠to
 a6:ti≠j1
 a7:ti≠j2
 a8:to≠j1
 a9:to≠j2
 b0:j1≠j2
 b1:m1≠z
 b2:m1≠to
 b3:m1≠j1
 b4:m1≠j2
 b5:m2≠z
 b6:m2≠to
 b7:m2≠j1
 b8:m2≠j2
def Qg {t1 t2:Nat->ŏ->Prop} {v1 v2:Nat->Option Í} {k:Nat} {Q:Í->É->Prop} (D:Apart z ti to j1 j2 m1 m2) (S1:lX P w A j1 m1 t1 v1) (S2:lX P w A j2 m2 t2 v2)
 (gz:IsZip s.heap z ti to .none) (gi:aan s.heap ti (.ref j1) (.ref j2)) (go:aan s.heap to a b) (h1:t1 k s.heap) (h2:t2 k s.heap) (hx:v1 k=some x) (hy:v2 k=some y)
 (q:∀h',IsZip h' z ti to (Ŋ s.heap.objs.size)->aan h' to x y->t1 (k+1) h'->t2 (k+1) h'->aan h' s.heap.objs.size x y->h'.objs.size=s.heap.objs.size+1 ->
 (∀c o,c≠z->c≠to->c≠j1->c≠j2->s.heap.get? c=some o->h'.get? c=some o)->Q (.ref s.heap.objs.size) { s with heap:=h' }) :
  à (ø P w) A (ň.«zip.__next__» ⟨[.ref z],[]⟩) (λfin s'=>∃v,fin=.done (.ret v)/\Q v s') E s:=by
 show à _ _ (field (.ref z) 2 >>= _) _ _ (_:É);refine À (Ĵ gz rfl (x:=.bool false) rfl ?_);show à _ _ (field (.ref z) 3 >>= _) _ _ (_:É);refine À (Ĵ gz rfl (x:=.ref ti) rfl ?_);refine À (Ě gi rfl ?_);show à _ _ (Ļ (.ref z) >>= _) _ _ (_:É);refine À ?_;unfold Ļ;refine À (Ĵ gz rfl (x:=.none) rfl (Â ?_));simp only[û];refine À (ś ?_);refine À (Ĵ gz rfl (x:=.ref to) rfl ?_);refine À (Ű gz (by simp) λp1 z1 s1=>?_)
 replace z1:IsZip p1 z ti to .ellipsis:=z1
 refine À ?_;simp only[List.zipIdx_cons,List.zipIdx_nil,List.forIn_cons,List.forIn_nil];refine À (À (wpAny_onRaise ?_));show à _ _ (Đ (.ref j1) >>= _) _ _ (_:É);refine À (S1.item k _ _ _ x (S1.keep k _ _ h1 (λo e=>s1.extBut _ _ D.a3 e) (λo e=>s1.extBut _ _ D.b1 e)) hx λp2 lY s2=>Â ?_);have o2:aan p2 to a b:=s2.extBut _ _ D.a8 (s1.extBut _ _ D.a2 go);refine À (Ě o2 rfl ?_);refine À (wpAny_updateSeq_pair o2 λp3 o3 s3=>?_)
 replace o3:aan p3 to x b:=o3
 refine À (Ŵ (Â ?_));refine À (À (wpAny_onRaise ?_));show à _ _ (Đ (.ref j2) >>= _) _ _ (_:É);refine À (S2.item k _ _ _ y (S2.keep k _ _ h2 (λo e=>s3.extBut _ _ D.a9.symm (s2.extBut _ _ D.b0.symm (s1.extBut _ _ D.a4 e))) (λo e=>s3.extBut _ _ D.b6 (s2.extBut _ _ D.b7 (s1.extBut _ _ D.b5 e)))) hy λp4 XO s4=>Â ?_);have o4:aan p4 to x b:=s4.extBut _ _ D.a9 o3;refine À (Ě o4 rfl ?_);refine À (wpAny_updateSeq_pair o4 λp5 o5 s5=>?_)
 replace o5:aan p5 to x y:=o5
 refine À (Ŵ (Â (Â ?_)));refine À (Ě o5 rfl ?_);refine À (wpAny_newTuple ?_);have gs:p5.objs.size=s.heap.objs.size:=by rw[s5.1,s4.1,s3.1,s2.1,s1.1]
 have z5:IsZip p5 z ti to .ellipsis:=s5.extBut _ _ D.a2.symm (s4.extBut _ _ D.a4.symm (s3.extBut _ _ D.a2.symm (s2.extBut _ _ D.a3.symm z1)));have k5:∀c o,c≠z->c≠to->c≠j1->c≠j2->s.heap.get? c=some o->p5.get? c=some o:=λc o c1 c2 c3 c4 e=>s5.extBut _ _ c2 (s4.extBut _ _ c4 (s3.extBut _ _ c2 (s2.extBut _ _ c3 (s1.extBut _ _ c1 e))));have ve:t1 (k+1) p5:=S1.keep _ _ _ lY (λo e=>s5.extBut _ _ D.a8.symm (s4.extBut _ _ D.b0 (s3.extBut _ _ D.a8.symm e))) (λo e=>s5.extBut _ _ D.b2 (s4.extBut _ _ D.b4 (s3.extBut _ _ D.b2 e)));have XQ:t2 (k+1) p5:=S2.keep _ _ _ XO (λo e=>s5.extBut _ _ D.a9.symm e) (λo e=>s5.extBut _ _ D.b6 e);have lz:z<p5.objs.size:=Î z5;show à _ _ (aaF (.ref z) (.ref p5.objs.size) >>= _) _ _ (_:É);refine À ?_;unfold aaF;have z6:IsZip (p5.push { cls:=.type "tuple",data:=.seq #[x,y] }) z ti to .ellipsis:=Á _ z5;refine À (Ű z6 (by simp) λp7 z7 s7=>?_)
 replace z7:IsZip p7 z ti to (Ŋ p5.objs.size):=z7
 refine Ű z7 (by simp) λp8 z8 s8=>?_
 replace z8:IsZip p8 z ti to (Ŋ p5.objs.size):=z8
 have up:∀c o,c≠z->p5.get? c=some o->p8.get? c=some o:=λc o c1 e=>s8.extBut _ _ c1 (s7.extBut _ _ c1 (Á _ e));have w8:aan p8 p5.objs.size x y:=s8.extBut _ _ (Ń lz) (s7.extBut _ _ (Ń lz) (Ì _ rfl));have n8:p8.objs.size=p5.objs.size+1:=by rw[s8.1,s7.1,ú]
 rw[gs] at z8 w8 n8;refine Â ⟨_,rfl,?_⟩;show Q (.ref p5.objs.size) _;rw[gs];exact q p8 z8 (up _ _ D.a2 o5) (S1.keep _ _ _ ve (λo e=>up _ o D.a3 e) (λo e=>up _ o D.b1 e)) (S2.keep _ _ _ XQ (λo e=>up _ o D.a4 e) (λo e=>up _ o D.b5 e)) w8 n8 λc o c1 c2 c3 c4 e=>up c o c1 (k5 c o c1 c2 c3 c4 e)
def RR (D:Apart z ti to j1 j2 m1 m2) (S1:lX P w A j1 m1 t1 v1) (S2:lX P w A j2 m2 t2 v2)
 (gz:IsZip s.heap z ti to .none) (gi:aan s.heap ti (.ref j1) (.ref j2)) (go:aan s.heap to a b) (h1:t1 k s.heap) (h2:t2 k s.heap) (Cw:v1 k=none\/v2 k=none)
 (q:∀h' e,(∀c o,c≠z->c≠to->c≠j1->c≠j2->s.heap.get? c=some o->h'.get? c=some o)->(∃o,h'.get? e=some o/\o.cls=.type "StopIteration")->E (.ref e) { s with heap:=h' }) :
  à (ø P w) A (ň.«zip.__next__» ⟨[.ref z],[]⟩) Q E s:=by
 show à _ _ (field (.ref z) 2 >>= _) _ _ (_:É);refine À (Ĵ gz rfl (x:=.bool false) rfl ?_);show à _ _ (field (.ref z) 3 >>= _) _ _ (_:É);refine À (Ĵ gz rfl (x:=.ref ti) rfl ?_);refine À (Ě gi rfl ?_);show à _ _ (Ļ (.ref z) >>= _) _ _ (_:É);refine À ?_;unfold Ļ;refine À (Ĵ gz rfl (x:=.none) rfl (Â ?_));simp only[û];refine À (ś ?_);refine À (Ĵ gz rfl (x:=.ref to) rfl ?_);refine À (Ű gz (by simp) λp1 z1 s1=>?_)
 replace z1:IsZip p1 z ti to .ellipsis:=z1
 refine À ?_;simp only[List.zipIdx_cons,List.zipIdx_nil,List.forIn_cons,List.forIn_nil];refine À (À (wpAny_onRaise ?_));show à _ _ (Đ (.ref j1) >>= _) _ _ (_:É);have lZ:t1 k p1:=S1.keep k _ _ h1 (λo e=>s1.extBut _ _ D.a3 e) (λo e=>s1.extBut _ _ D.b1 e)
 cases hx:v1 k with
 |none =>
  refine À (S1.stop k _ _ _ lZ hx λp2 e s2 he=>?_);obtain⟨oe,g1,g2⟩:=he;have z2:IsZip p2 z ti to .ellipsis:=s2 _ _ D.a3.symm z1;have ne:e≠z:=λu=>by subst u;rw[z2] at g1;cases g1;simp at g2
  refine Ű z2 (by simp) λp3 _ s3=>q p3 e (λc o c1 _ c3 _ u=>s3.extBut _ _ c1 (s2 _ _ c3 (s1.extBut _ _ c1 u))) ⟨oe,s3.extBut _ _ ne g1,g2⟩
 |some x =>
  have hy:v2 k=none:=by
   rcases Cw with h|h
   ·rw[hx] at h;cases h
   ·exact h
  refine À (S1.item k _ _ _ x lZ hx λp2 lY s2=>Â ?_);have o2:aan p2 to a b:=s2.extBut _ _ D.a8 (s1.extBut _ _ D.a2 go);refine À (Ě o2 rfl ?_);refine À (wpAny_updateSeq_pair o2 λp3 o3 s3=>?_);refine À (Ŵ (Â ?_));refine À (À (wpAny_onRaise ?_));show à _ _ (Đ (.ref j2) >>= _) _ _ (_:É);refine À (S2.stop k _ _ _ (S2.keep k _ _ h2 (λo e=>s3.extBut _ _ D.a9.symm (s2.extBut _ _ D.b0.symm (s1.extBut _ _ D.a4 e))) (λo e=>s3.extBut _ _ D.b6 (s2.extBut _ _ D.b7 (s1.extBut _ _ D.b5 e)))) hy λp4 e s4 he=>?_);obtain⟨oe,g1,g2⟩:=he;have z4:IsZip p4 z ti to .ellipsis:=s4 _ _ D.a4.symm (s3.extBut _ _ D.a2.symm (s2.extBut _ _ D.a3.symm z1));have ne:e≠z:=λu=>by subst u;rw[z4] at g1;cases g1;simp at g2
  refine Ű z4 (by simp) λp5 _ s5=>q p5 e (λc o c1 c2 c3 c4 u=>s5.extBut _ _ c1 (s4 _ _ c4 (s3.extBut _ _ c2 (s2.extBut _ _ c3 (s1.extBut _ _ c1 u))))) ⟨oe,s5.extBut _ _ ne g1,g2⟩
def next_item (D:Apart z ti to j1 j2 m1 m2) (S1:lX P w A.in1 j1 m1 t1 v1) (S2:lX P w A.in1 j2 m2 t2 v2)
 (gz:IsZip s.heap z ti to .none) (gi:aan s.heap ti (.ref j1) (.ref j2)) (go:aan s.heap to a b) (h1:t1 k s.heap) (h2:t2 k s.heap) (hx:v1 k=some x) (hy:v2 k=some y)
 (q:∀h',IsZip h' z ti to (Ŋ s.heap.objs.size)->aan h' to x y->t1 (k+1) h'->t2 (k+1) h'->aan h' s.heap.objs.size x y->h'.objs.size=s.heap.objs.size+1 ->
 (∀c o,c≠z->c≠to->c≠j1->c≠j2->s.heap.get? c=some o->h'.get? c=some o)->Q (some (.ref s.heap.objs.size)) { s with heap:=h' }):à (ø P w) A (Ť (.ref z)) Q E s:=by
 have hT:s.TypeIs (.ref z) "zip":=⟨_,gz,rfl⟩;unfold Ť;exact À (θ (Ĉ (name:=ì "__next__") hT abT
  (Ą abT hT F.entry_zip_next (Qg D S1 S2 gz gi go h1 h2 hx hy λh' a1 a2 a3 a4 a5 a6 a7=>Â (q h' a1 a2 a3 a4 a5 a6 a7)) (F.args_zip_next_1 _))))
def next_end (D:Apart z ti to j1 j2 m1 m2) (S1:lX P w A.in1 j1 m1 t1 v1) (S2:lX P w A.in1 j2 m2 t2 v2)
 (gz:IsZip s.heap z ti to .none) (gi:aan s.heap ti (.ref j1) (.ref j2)) (go:aan s.heap to a b) (h1:t1 k s.heap) (h2:t2 k s.heap) (Cw:v1 k=none\/v2 k=none)
 (q:∀h',(∀c o,c≠z->c≠to->c≠j1->c≠j2->s.heap.get? c=some o->h'.get? c=some o)->Q none { s with heap:=h' }):à (ø P w) A (Ť (.ref z)) Q E s:=by
 have hT:s.TypeIs (.ref z) "zip":=⟨_,gz,rfl⟩;unfold Ť;refine À (θ (Ĉ (name:=ì "__next__") hT abT
  (Ą abT hT F.entry_zip_next (RR D S1 S2 gz gi go h1 h2 Cw λh' e hk he=>?_) (F.args_zip_next_1 _))))
 obtain⟨o,ho,hc⟩:=he;exact À (aaL (T:="StopIteration") (b:=true) ⟨o,ho,hc⟩ isSubtype_stop (Â (q _ hk)))
end
end HZ
namespace L2
open PySem PySem.Spec PyProof.Rows
def qT {X:Cx} {π:List (á×Obj)} {σ:St} {H:Hp} {s:É} {a b:á} {xs:List V} (I:Inv X π σ H s) (h:aR X.K H a xs) (f:cj X π H b):a≠b:=by
 rintro rfl;obtain⟨f0,_,_,f3,_⟩:=f
 rcases h with (h | ⟨o,h⟩) | ⟨o,its,n,hk,_⟩
 ·rw[f0] at h;cases h
 ·rw[f0] at h;cases h
 ·have hb:=I.mod.uN a o hk
  rcases f3 with z|z
  ·exact I.ok.lJ a o hb z
  ·exact absurd (Ê (Î hb) (Û I.ok.i4 z)) (é _)
def IY {X:Cx} {π:List (á×Obj)} {σ:St} {H:Hp} {s:É} {a b:á} {xs:List V} (I:Inv X π σ H s) (h:bp X.K H a xs) (f:cj X π H b):a≠b:=by
 rintro rfl;obtain⟨f0,_,_,f3,_⟩:=f
 rcases h with (h | ⟨o,h⟩) | ⟨o,its,n,hk,_⟩
 ·rw[f0] at h;cases h
 ·rw[f0] at h;cases h
 ·have hb:=I.mod.uN a o hk
  rcases f3 with z|z
  ·exact I.ok.lJ a o hb z
  ·exact absurd (Ê (Î hb) (Û I.ok.i4 z)) (é _)
def Inv.zP {X:Cx} {π:List (á×Obj)} {σ:St} {H:Hp} {s:É} {h':ŏ} {t':Nat} {ch:List á} (I:Inv X π σ H s) (k:∀b o,b∉ch->s.heap.get? b=some o->h'.get? b=some o) (hf:∀b∈ch,cj X π H b) :
  Inv X π σ H { s with heap:=h',toks:=t' }:=by
 have Lm:∀b u,H b=some u->b∉ch:=λb u e z=>by rw[(hf b z).1] at e;cases e
 refine I.step (g':=s.gens) (d':=s.drawn) (ch:=ch) (λb hb=>?_) (λb o _ _ hc e _=>k b o hc e) (λb o _ _ hc e _=>⟨o.slots,k b o hc e⟩) (λ_ _ _ _ n=>n) (λb o hc e=>⟨o,k b o hc e⟩) (λ_ _ e=>e) (λ_ _ _ e=>e)
  (λb ps e=>⟨#[],by rw[e];simp⟩) (λm hm=>?_) (λb u e=>?_) I.bare
 ·obtain⟨_,f1,_,f3,f4,f5⟩:=hf b hb
  exact⟨f3,f1,f4,f5⟩
 ·obtain⟨o,es,ep,ho,r⟩:=hm
  exact⟨o,es,ep,k _ o (λz=>(hf _ z).2.1 rfl) ho,r⟩
 ·refine(I.aE b u e).hX (λc v hc q=>k c v ?_ q) (λ_ q=>q) λ_ _ q=>q
  rcases hc with z|z
  ·rw[z];exact Lm b u e
  ·exact Lm c _ z
def Inv.Gh {X:Cx} {π:List (á×Obj)} {σ:St} {H:Hp} {s:É} {h':ŏ} {t':Nat} {ch:List á} {p:á} {u:HO} (I:Inv X π σ H s) (k:∀b o,b∉ch->s.heap.get? b=some o->h'.get? b=some o) (hf:∀b∈ch,cj X π H b)
  (hp:s.heap.objs.size<=p) (new:cF X.prog X.w (upd H p u) h' p u):Inv X π σ (upd H p u) { s with heap:=h',toks:=t' }:=by
 have hn:H p=none:=I.aE.fresh hp;have aE:bY X.prog X.w (upd H p u) h':=(I.zP (t':=t') k hf).aE.adopt hn new;refine I.step (g':=s.gens) (d':=s.drawn) (ch:=ch) (λb hb=>?_) (λb o _ _ hc e _=>k b o hc e) (λb o _ _ hc e _=>⟨o.slots,k b o hc e⟩) (λb o _ e n=>?_) (λb o hc e=>⟨o,k b o hc e⟩) (λc xs e=>by rw[bo (eZ e hn)];exact e) (λc o v e=>by rw[bo (eZ e hn)];exact e)
  (λc ps e=>⟨#[],by rw[bo (eZ e hn),e];simp⟩) (λm hm=>?_) aE I.bare
 ·obtain⟨_,f1,_,f3,f4,f5⟩:=hf b hb
  exact⟨f3,f1,f4,f5⟩
 ·rw[bo (è (Ê (Î e) hp))]
  exact n
 ·obtain⟨o,es,ep,ho,r⟩:=hm
  exact⟨o,es,ep,k _ o (λz=>(hf _ z).2.1 rfl) ho,r⟩
def Cy (K:Ĳ) (a b:á):It :=
 ⟨λi H=>∃xs ys x y,aR K H a xs/\aR K H b ys/\xs[i]?=some x/\ys[i]?=some y,λi H v H'=>∃p x y,H p=none/\v=.ref p/\H'=upd H p (.tup [x,y])/\∀xs ys,aR K H a xs->aR K H b ys->xs[i]?=some x/\ys[i]?=some y,
  λi H=>∃xs ys,aR K H a xs/\aR K H b ys/\(xs.length<=i\/ys.length<=i)⟩
structure JR (it:Nat->ŏ->Prop) (iE:Nat->ŏ->Prop) (z ti to j1 j2:á) (i:Nat) (h:ŏ):Prop where
 z:IsZip h z ti to .none
 ti:aan h ti (.ref j1) (.ref j2)
 to:∃u v,aan h to u v
 h1:it i h
 h2:iE i h
structure Cz (z ti to j1 j2:á):Prop where
 a1:ti≠z
 a2:to≠z
 a3:j1≠z
 a4:j2≠z
 a5:ti≠to
 a6:ti≠j1
 a7:ti≠j2
 a8:to≠j1
 a9:to≠j2
 b0:j1≠j2
def OQ {P:ù} {w:ď} {K:Ĳ} {elts:List ļ} {kk:Nat} {pos:Pos} (a b z ti to j1 j2:á) (F:Cz z ti to j1 j2) :
  Turn P w K (.Tuple elts kk pos) (Cy K a b) [z,ti,to,j1,j2] z (JR (λi h=>h.IsTupleIter j1 a i) (λi h=>h.IsTupleIter j2 b i) z ti to j1 j2) where
 mem:=by simp
 obj:=λi h st c hc=>by
  have i5:c=z\/c=ti\/c=to\/c=j1\/c=j2:=by simpa using hc
  rcases i5 with rfl|rfl|rfl|rfl|rfl
  ·exact⟨_,st.z,λv q=>nomatch q⟩
  ·exact⟨_,st.ti,λv q=>nomatch q⟩
  ·obtain⟨u,v,q⟩:=st.to;exact⟨_,q,λv q=>nomatch q⟩
  ·obtain⟨o,e,_,d⟩:=st.h1;exact⟨o,e,λv q=>by rw[d] at q;cases q⟩
  ·obtain⟨o,e,_,d⟩:=st.h2;exact⟨o,e,λv q=>by rw[d] at q;cases q⟩
 keep:=λi h h' st k=>⟨k z (by simp) _ st.z,k ti (by simp) _ st.ti,by obtain⟨u,v,q⟩:=st.to;exact⟨u,v,k to (by simp) _ q⟩,st.h1.at λo e=>k j1 (by simp) o e,st.h2.at λo e=>k j2 (by simp) o e⟩
 item:=by
  intro X hP hw hK hc i π s σ H E I hf st hg;subst hP hw hK;obtain⟨xs,ys,x,y,hx,hy,ex,ey⟩:=hg;obtain⟨i1,r1,p1,z1⟩:=I.tuple hx;obtain⟨i2,r2,p2,z2⟩:=I.tuple hy;obtain⟨u,eu,ru⟩:=r1.get ex;obtain⟨v,ev,rv⟩:=r2.get ey;have ne:∀c∈[z,ti,to,j1,j2],a≠c/\b≠c:=λc gQ=>⟨qT I hx (hf c gQ),qT I hy (hf c gQ)⟩;have D:HZ.Apart z ti to j1 j2 a b:=⟨F.a1,F.a2,F.a3,F.a4,F.a5,F.a6,F.a7,F.a8,F.a9,F.b0,(ne z (by simp)).1,(ne to (by simp)).1,(ne j1 (by simp)).1,(ne j2 (by simp)).1,(ne z (by simp)).2,(ne to (by simp)).2,(ne j1 (by simp)).2,(ne j2 (by simp)).2⟩;obtain⟨w1,w2,mI⟩:=st.to;have hh:X.A.in1.handled=none:=I.ok.hd hc;refine HZ.next_item D (HZ.qL hh j1 a i1.toArray) (HZ.qL hh j2 b i2.toArray) st.z st.ti mI ⟨st.h1,p1⟩ ⟨st.h2,p2⟩ (by simpa using eu) (by simpa using ev) λh' c1 c2 c3 c4 c5 c6 c7=>⟨_,rfl,?_⟩;refine wpAny_letOwnedTupleGo_zip c1 λh2 d1 d2=>?_;have hn:H s.heap.objs.size=none:=I.aE.fresh (Nat.le_refl _);have Dq:z<s.heap.objs.size:=Î st.z;have pH:IsTup h2 s.heap.objs.size #[u,v]:=⟨_,d2.extBut _ _ (Ń Dq) c5,rfl,_,rfl⟩
  have I2:Inv X π σ (upd H s.heap.objs.size (.tup [x,y])) { s with heap:=h2,toks:=s.toks }:=I.Gh (ch:=[z,ti,to,j1,j2]) (λc o qb e=>by
   have q:c≠z/\c≠ti/\c≠to/\c≠j1/\c≠j2:=by simpa using qb
   exact d2.extBut c o q.1 (c7 c o q.1 q.2.2.1 q.2.2.2.1 q.2.2.2.2 e)) hf (Nat.le_refl _) ⟨by show 2<=Õ;decide,[u,v],.cons ru (.cons rv .nil),pH⟩
  refine⟨.ref s.heap.objs.size,_,I2,rfl,⟨_,x,y,hn,rfl,rfl,λXR XT q1 q2=>?_⟩,?_,λc gQ=>?_⟩
  ·rw[I.wK q1 hx,I.wK q2 hy];exact⟨ex,ey⟩
  ·refine⟨d1,d2.extBut _ _ F.a1 (c7 _ _ F.a1 F.a5 F.a6 F.a7 st.ti),⟨_,_,d2.extBut _ _ F.a2 c2⟩,c3.1.extBut d2.extBut F.a3,c4.1.extBut d2.extBut F.a4⟩
  ·rw[bo]
   ·exact(hf c gQ).1
   ·intro e
    obtain⟨o,eo⟩:∃o,s.heap.get? c=some o:=by
     have i5:c=z\/c=ti\/c=to\/c=j1\/c=j2:=by simpa using gQ
     rcases i5 with q|q|q|q|q
     ·rw[q];exact⟨_,st.z⟩
     ·rw[q];exact⟨_,st.ti⟩
     ·rw[q];exact⟨_,mI⟩
     ·rw[q];obtain⟨o,e,_⟩:=st.h1;exact⟨o,e⟩
     ·rw[q];obtain⟨o,e,_⟩:=st.h2;exact⟨o,e⟩
    exact absurd (Î eo) (by rw[e];exact é _)
 done:=by
  intro X hP hw hK hc i π s σ H E I hf st hg;subst hP hw hK;obtain⟨xs,ys,hx,hy,hle⟩:=hg;obtain⟨i1,r1,p1,z1⟩:=I.tuple hx;obtain⟨i2,r2,p2,z2⟩:=I.tuple hy;have ne:∀c∈[z,ti,to,j1,j2],a≠c/\b≠c:=λc gQ=>⟨qT I hx (hf c gQ),qT I hy (hf c gQ)⟩;have D:HZ.Apart z ti to j1 j2 a b:=⟨F.a1,F.a2,F.a3,F.a4,F.a5,F.a6,F.a7,F.a8,F.a9,F.b0,(ne z (by simp)).1,(ne to (by simp)).1,(ne j1 (by simp)).1,(ne j2 (by simp)).1,(ne z (by simp)).2,(ne to (by simp)).2,(ne j1 (by simp)).2,(ne j2 (by simp)).2⟩;obtain⟨w1,w2,mI⟩:=st.to;have hh:X.A.in1.handled=none:=I.ok.hd hc;have l1:=r1.length;have l2:=r2.length;refine HZ.next_end D (HZ.qL hh j1 a i1.toArray) (HZ.qL hh j2 b i2.toArray) st.z st.ti mI ⟨st.h1,p1⟩ ⟨st.h2,p2⟩ ?_ λh' c7=>⟨rfl,I.zP (t':=s.toks) (ch:=[z,ti,to,j1,j2]) (λc o qb e=>by
   have q:c≠z/\c≠ti/\c≠to/\c≠j1/\c≠j2:=by simpa using qb
   exact c7 c o q.1 q.2.2.1 q.2.2.2.1 q.2.2.2.2 e) hf⟩
  rcases hle with q|q
  ·left;simp;omega
  ·right;simp;omega
 self:=λA i s Q E st h=>abD st.z h
end L2
namespace HZ
open PySem PySem.Spec PyProof.Rows
noncomputable abbrev y1 (h:ŏ) (m1:á):ŏ:=h.push { cls:=.type "tuple_iterator",data:=.fields #[.ref m1,.int 0 0] }
abbrev y2 (h:ŏ) (m1 m2:á):ŏ:=(y1 h m1).push { cls:=.type "tuple_iterator",data:=.fields #[.ref m2,.int 0 0] }
abbrev y3 (h:ŏ) (m1 m2:á):ŏ:=(y2 h m1 m2).push { cls:=.type "tuple",data:=.seq #[.ref h.objs.size,.ref (y1 h m1).objs.size] }
abbrev y4 (h:ŏ) (m1 m2:á):ŏ:=(y3 h m1 m2).push { cls:=.type "tuple",data:=.seq #[.none,.none] }
abbrev y5 (h:ŏ) (m1 m2:á):ŏ:=(y4 h m1 m2).push { cls:=.type "zip",data:=.fields #[.none,.bool false,.bool false,.ref (y2 h m1 m2).objs.size,.ref (y3 h m1 m2).objs.size] }
def NO (m1 m2:á) (xs ys:Array Í) :
  Meets (ň.«zip.__new__» ⟨[.type "zip",.ref m1,.ref m2],[]⟩) (λ_ R s=>s.heap.IsTuple m1 xs/\s.heap.IsTuple m2 ys/\R (.ok (.ret (.ref (y4 s.heap m1 m2).objs.size))) { s with heap:=y5 s.heap m1 m2 }) :=
 .of_wp λprog w A R s h=>by
  obtain⟨hp,g,d,tk,os⟩:=s;obtain⟨h1,h2,h⟩:=h;have W2:=sub_zip;have L1:Heap.IsTuple (Shared.heap ⟨hp,g,d,tk,os⟩) m1 xs:=h1;have L2:Heap.IsTuple (Shared.heap ⟨hp.push { cls:=.type "tuple_iterator",data:=.fields #[.ref m1,.int 0 0] },g,d,tk,os⟩) m2 ys:=Heap.IsTuple.push h2 _
  wp_walk using ψ L1,ψ L2
  exact⟨_,rfl,h⟩
section
variable {P:ù} {w:ď} {A:đ} {E:Í->É->Prop} {s:É}
def MA (h1:s.heap.IsTuple m1 xs) (h2:s.heap.IsTuple m2 ys)
 (h:∀h',IsZip h' (s.heap.objs.size+4) (s.heap.objs.size+2) (s.heap.objs.size+3) .none->aan h' (s.heap.objs.size+2) (.ref s.heap.objs.size) (.ref (s.heap.objs.size+1)) ->
   aan h' (s.heap.objs.size+3) .none .none->h'.IsTupleIter s.heap.objs.size m1 0->h'.IsTupleIter (s.heap.objs.size+1) m2 0->h'.objs.size=s.heap.objs.size+5 ->
 (∀c o,s.heap.get? c=some o->h'.get? c=some o)->Q (.ref (s.heap.objs.size+4)) { s with heap:=h' }):à (ø P w) A (call (.type "zip") [.ref m1,.ref m2]) Q E s:=by
 refine callType_new F.called_zip (by decide) (F.typeCall_zip_2 _ _) (F.newCall_zip_2 _ _) (λobj=>F.args_object_init_3 obj _ _) F.entry_zip_new (NO m1 m2 xs ys) ⟨h1,h2,?_⟩;have e1:(y1 s.heap m1).objs.size=s.heap.objs.size+1:=ú ..;have e2:(y2 s.heap m1 m2).objs.size=s.heap.objs.size+2:=by rw[ú,e1]
 have e3:(y3 s.heap m1 m2).objs.size=s.heap.objs.size+3:=by rw[ú,e2]
 have e4:(y4 s.heap m1 m2).objs.size=s.heap.objs.size+4:=by rw[ú,e3]
 have e5:(y5 s.heap m1 m2).objs.size=s.heap.objs.size+5:=by rw[ú,e4]
 have g5:(y5 s.heap m1 m2).get? (y4 s.heap m1 m2).objs.size=some _:=Ì _ rfl;have g4:(y5 s.heap m1 m2).get? (y3 s.heap m1 m2).objs.size=some _:=Á _ (Ì _ rfl);have g3:(y5 s.heap m1 m2).get? (y2 s.heap m1 m2).objs.size=some _:=Á _ (Á _ (Ì _ rfl));have g2:(y5 s.heap m1 m2).get? (y1 s.heap m1).objs.size=some _:=Á _ (Á _ (Á _ (Ì _ rfl)));have g1:(y5 s.heap m1 m2).get? s.heap.objs.size=some _:=Á _ (Á _ (Á _ (Á _ (Ì _ rfl))));show _/\_;rw[e2,e3,e4] at g5;rw[e1,e2] at g3;rw[e3] at g4;rw[e1] at g2;rw[e4];exact⟨⟨_,g5,rfl⟩,h _ g5 g3 g4 ⟨_,g1,rfl,rfl⟩ ⟨_,g2,rfl,rfl⟩ e5 λc o q=>Á _ (Á _ (Á _ (Á _ (Á _ q))))⟩
end
end HZ
namespace L2
open PySem PySem.Spec PyProof.Rows
def GX (n:Nat):Cz (n+4) (n+2) (n+3) n (n+1):=by constructor<;>(show (_:Nat)≠_)<;>omega
section
variable {X:Cx} {elts:List ļ} {kk:Nat} {tp:Pos}
def VG (K:Ĳ) (ta:TA):TI:=fun σ H R=>ta σ H λvs H1=>∃a b xs ys,vs=[.ref a,.ref b]/\aR K H1 a xs/\aR K H1 b ys/\R (Cy K a b) H1
def Gi:ą "zip"=some (.type "zip"):=by decide +kernel
def IZ {π:List (á×Obj)} {σ:St} {H:Hp} {s:É} (I:Inv X π σ H s):∀b∈[s.heap.objs.size+4,s.heap.objs.size+2,s.heap.objs.size+3,s.heap.objs.size,s.heap.objs.size+1],cj X π H b:=λb hb=>by
 have gR:s.heap.objs.size<=b:=by
  have q:b=s.heap.objs.size+4\/b=s.heap.objs.size+2\/b=s.heap.objs.size+3\/b=s.heap.objs.size\/b=s.heap.objs.size+1:=by simpa using hb
  omega
 exact I.lL gR (I.aE.fresh gR)
def RS {a b:ļ} {ta:TA} {p pos:Pos} (hg:Gl X "zip") (hm:X.mg "zip"=none) (ha:PA X [a,b] ta) (hs:Þ [a,b] X.env=[(false,ţ a X.env),(false,ţ b X.env)]:=by rfl) (bZ:Þ [b] X.env=[(false,ţ b X.env)]:=by rfl) :
  PI X (.Tuple elts kk tp) (.Call (.Name "zip" p) [a,b] [] pos) (VG X.K ta):=by
 intro π s σ H R I h;refine Call_ (lE I hg hm Gi (Ĩ (aD (ha pos π s σ H _ I h) λus s1 ⟨vs,H1,I1,r1,q1⟩=>?_) (by rw[hs,bZ]) (by rw[bZ];rfl)));obtain⟨a,b,xs,ys,e,hx,hy,q⟩:=q1;subst e;obtain⟨u,v,rfl,ru,rv⟩:=vals2 r1;cases ru;cases rv;obtain⟨i1,_,p1,_⟩:=I1.tuple hx;obtain⟨i2,_,p2,_⟩:=I1.tuple hy;refine HZ.MA (xs:=i1.toArray) (ys:=i2.toArray) p1 p2 λh' c1 c2 c3 c4 c5 c6 c7=>?_
 refine abD (s:={ s1 with heap:=h' }) c1 ?_
 exact⟨_,[s1.heap.objs.size+4,s1.heap.objs.size+2,s1.heap.objs.size+3,s1.heap.objs.size,s1.heap.objs.size+1],_,_,H1,rfl,I1.kept (t':=s1.toks) c7,OQ a b _ _ _ _ _ (GX _),⟨c1,c2,⟨_,_,c3⟩,c4,c5⟩,IZ I1,q⟩
end
end L2
namespace PySem
section
variable {P:ù} {w:ď} {A:đ} {E:Í->É->Prop} {s:É}
end
end PySem
namespace L2
open PySem PySem.Spec PyProof.Rows
def map_getD (ns:List Int):(ß ns.length).map (λi=>ns.getD i 0)=ns:=by
 apply ź;intro i;rw[ç];by_cases h:i<ns.length
 ·rw[Ĕ h,Ð h]
  simp[Ź,Ð h]
 ·rw[Ċ (by simpa using h),Ċ (by omega)]
  rfl
section
variable {X:Cx}
end
section
variable {κ:Type} [DecidableEq κ]
noncomputable def putK (ai:List (κ×V)) (k:κ) (v:V):List (κ×V) :=
 if (ai.any λkv=>decide (kv.1=k))=true then ai.map (λkv=>if kv.1=k then (kv.1,v) else kv) else ai++[(k,v)]
def Ng (ai:List (κ×V)) (k:κ) (v:V):(putK ai k v).length<=ai.length+1:=by
 unfold putK;split
 ·rw[Ä];omega
 ·rw[â,å,î];omega
def KV.any (r:KV ai vs) (k:κ):(ai.any λkv=>decide (kv.1=k))=vs.any λkv=>decide (kv.1=k):=by
 unfold KV at r
 induction r with
 |nil=>rfl
 |cons h t ih=>rw[List.any_cons,List.any_cons,ih,h.1]
def KV.W3 (r:KV ai vs) (k:κ) (ry:RelV y u) :
  KV (ai.map λkv=>if kv.1=k then (kv.1,y) else kv) (vs.map λkv=>if kv.1=k then (kv.1,u) else kv):=by
 unfold KV at r |-
 induction r with
 |nil=>exact .nil
 | @cons p q ps qs h t ih =>
  rw[Ö,Ö];refine .cons ?_ ih;obtain⟨h1,h2⟩:=h;by_cases e:p.1=k
  ·rw[Ú e,Ú (h1.symm.trans e)];exact⟨h1,ry⟩
  ·rw[æ e,æ (λz=>e (h1.trans z))];exact⟨h1,h2⟩
def KV.put (r:KV ai vs) (k:κ) (ry:RelV y u):KV (putK ai k y) (stored vs k u):=by
 unfold putK stored;rw[r.any k];by_cases e:(vs.any λkv=>decide (kv.1=k))=true
 ·rw[Ú e,Ú e];exact r.W3 k ry
 ·rw[æ e,æ e];exact Paired.snoc r ⟨rfl,ry⟩
end
def VH (r:RelV (kV k) u):(jG P w).is k u=true:=by
 cases k with
 |inl i=>obtain⟨t,e⟩:=(show ∃t,u=abN i t from r);subst e;exact Nb P w i t
 |inr x=>obtain⟨t,e⟩:=(show ∃t,u=Value.str x t from r);subst e;exact Nc P w x t
section
variable {P:ù} {w:ď} {H:Hp} {h:ŏ} {a:á}
def VI (ok:bY P w H h) (e:Rd H a u):cF P w H h a u:=e.ok ok
def VJ (ok:bY P w H h) (e:Rd H a (.dK ai)):ai.length<=Õ/\(a==ł)=false/\∃vs,KV ai vs/\h.DictOf (jG P w) a vs :=
 show cF P w H h a (.dK ai) from VI ok e
def VL (ok:bY P w H h) (e:H a=some (.dK ai)):ai.length<=Õ/\(a==ł)=false/\∃vs,KV ai vs/\h.DictOf (jG P w) a vs:=VJ ok (.inl e)
end
section
variable {X:Cx} {π:List (á×Obj)} {σ:St} {H:Hp} {s:É} {a:á} {y v:V} {u r:Í} {o:Option V} {A:đ} {E:Í->É->Prop}
def Inv.big (I:Inv X π σ H s):ł<s.heap.objs.size:=by
 have h:ò<s.heap.objs.size:=(I.mod.glob.keeps I.bk).lt;exact Nat.lt_trans (by decide) h
def HL (I:Inv X π σ H s) (mu:uM (H a)) (hs:ĸ a s.heap h') (he:∃q,h'.get? a=some q) (new:cF X.prog X.w (upd H a ob) h' a ob) :
  Inv X π σ (upd H a ob) { s with heap:=h',toks:=t' } :=
 I.write (x:=a) (e:=a) mu (.inl rfl) (λb q hb z=>(hs.2 b hb).trans z) he new
def Uc (z:ai.length<=Õ) (hd:(a==ł)=false) (rel:KV ai vs) (dd:h'.DictOf (jG P w) a vs) :
  cF P w H' h' a (.dK ai):=⟨z,hd,vs,rel,dd⟩
end
section
variable {X:Cx} {π:List (á×Obj)} {σ:St} {H:Hp} {s:É} {a:á} {ai:List (Key×V)} {k:Key} {u:Í} {A:đ} {E:Í->É->Prop}
end
section
variable {X:Cx} {o i e value:ļ} {pos pos' uA:Pos} {td ty tv:TE}
end
def GY (h:ŏ) (hb:ł<h.objs.size):cF P w H (h.push { cls:=.type "dict",data:=.dict #[] }) h.objs.size (.dK []) :=
 ⟨Ę _,beq_eq_false_iff_ne.mpr (Ň (è hb)),[],.nil,Heap.DictOf.new h⟩
def Ud:TE:=λ_ H Q=>∀p,H p=none->Q (.ref p) (upd H p (.dK []))
section
variable {X:Cx} {pos:Pos}
def Qh:PE X (.Dict [] [] pos) Ud:=λπ s σ H Q I h =>
 wpAny_Dict_empty ⟨.ref s.heap.objs.size,_,I.laid (a:=s.heap.objs.size) (o:=.dK []) (t':=s.toks) (λ_ _ q=>Á _ q) (Nat.le_refl _) (GY s.heap I.big),rfl,h _ (I.aE.fresh (Nat.le_refl _))⟩
end
def A4:List (TE×TE)->St->Hp->(List (V×V)->Hp->Prop)->Prop
 | [],_,H,Q=>Q [] H
 |(tk,tv)::r,σ,H,Q=>tk σ H λx H1=>tv σ H1 λy H2=>A4 r σ H2 λps H3=>Q ((x,y)::ps) H3
abbrev VV:List (V×V)->List (Í×Í)->Prop:=Paired λp q=>RelV p.1 q.1/\RelV p.2 q.2
def yN (X:Cx) (pos:Pos) (keys:List (Option ļ)) (values:List ļ) (qc:List (TE×TE)):Prop :=
 ∀(π:List (á×Obj)) (s:É) (σ:St) (H:Hp) (Q:List (V×V)->Hp->Prop),Inv X π σ H s->A4 qc σ H Q ->
  à (ø X.prog X.w) X.A (evalPairs (pairTrees keys values X.env pos)) (λvs s'=>∃ps H',Inv X π σ H' s'/\VV ps vs/\Q ps H') X.xe s
def RT:yN X pos [] [] []:=λπ s σ H Q I h=>pairTrees_nil_walk ⟨[],H,I,.nil,h⟩
def Qi (hk:PE X k tk) (hv:PE X v tv) (hr:yN X pos ks vs qc) :
  yN X pos (some k::ks) (v::vs) ((tk,tv)::qc):=λπ s σ H Q I h =>
 pairTrees_cons_walk (aD (hk π s σ H _ I h) λu s1 ⟨x,H1,I1,rx,q1⟩=>aD (hv π s1 σ H1 _ I1 q1) λw2 s2 ⟨y,H2,I2,ry,q2⟩ =>
  aD (hr π s2 σ H2 _ I2 q2) λws s3 ⟨ps,H3,I3,rel,q3⟩=>⟨(x,y)::ps,H3,I3,.cons ⟨rx,ry⟩ rel,q3⟩)
def qU (ai more:List (Key×V)):List (Key×V):=more.foldl (λacc kv=>putK acc kv.1 kv.2) ai
def KV.merge:∀{more:List (Key×V)} {rs:List (Key×Í)} {ai:List (Key×V)} {vs:List (Key×Í)},KV more rs->KV ai vs->KV (qU ai more) (merged vs rs):=by
 intro more rs ai vs r;unfold KV at r
 induction r generalizing ai vs with
 |nil=>intro q;exact q
 | @cons p q ps qs h t ih =>
  intro r0;have e:KV (putK ai p.1 p.2) (stored vs q.1 q.2):=by
   have:=r0.put p.1 h.2;rw[<- h.1];exact this
  exact ih e
def Fj:∀(more ai:List (Key×V)),(qU ai more).length<=ai.length+more.length
 | [],ai=>by show ai.length<=ai.length+0;omega
 |p::r,ai=>by
  have h1:=Fj r (putK ai p.1 p.2);have h2:=Ng ai p.1 p.2;show (qU (putK ai p.1 p.2) r).length<=_;rw[å];omega
def FW:∀{ai:List (Key×V)} {ws:List (Í×Í)},VV (ai.map λkv=>(kV kv.1,kv.2)) ws->∃rs,Carries (jG P w) ws rs/\KV ai rs
 | [],_,r=>by rw[İ] at r;cases r;exact⟨[],True.intro,.nil⟩
 |p::ai,_,r=>by
  rw[Ö] at r
  cases r with
  | @cons a b as bs h t =>
   obtain⟨rs,c,q⟩:=FW (P:=P) (w:=w) t;obtain⟨b1,b2⟩:=b;exact⟨(p.1,b2)::rs,⟨VH h.1,rfl,c⟩,.cons ⟨rfl,h.2⟩ q⟩
def VM (qc:List (TE×TE)):TE:=fun σ H Q=>∀p,H p=none->A4 qc σ (upd H p (.dK [])) λps H2=>H2 p=some (.dK [])/\∃ai:List (Key×V),ps=ai.map (λkv=>(kV kv.1,kv.2))/\ai.length<=15/\Q (.ref p) (upd H2 p (.dK (qU [] ai)))
def RU (h:yN X pos keys values qc) (cu:keys.all (·.isSome)=true) (hl:keys.length=values.length) (h0:keys≠[])
 (ve:keys.length<=15):PE X (.Dict keys values pos) (VM qc):=by
 intro π s σ H Q I q;have hn:=I.aE.fresh (Nat.le_refl s.heap.objs.size);have I1:=I.laid (a:=s.heap.objs.size) (o:=.dK []) (h':=s.heap.push { cls:=.type "dict",data:=.dict #[] }) (t':=s.toks) (λ_ _ q=>Á _ q) (Nat.le_refl _) (GY s.heap I.big);refine wpAny_Dict_walk (knd:=jG X.prog X.w) cu hl h0 ve (aD (h π _ σ _ _ I1 (q _ hn)) λws s2 ⟨ps,H2,I2,rel,e,ai,ep,lk,q2⟩=>?_);subst ep;obtain⟨rs,c,rk⟩:=FW (P:=X.prog) (w:=X.w) rel;obtain⟨z,hd,vs0,r0,dd⟩:=VL I2.aE e;cases r0;refine⟨rs,c,dd,λh' Ln hs=>⟨.ref s.heap.objs.size,_,?_,rfl,q2⟩⟩;have hz:(qU [] ai).length<=Õ:=by
  have h1:=Fj ai [];rw[î] at h1;rw[ζ];omega
 have he:∃q,h'.get? s.heap.objs.size=some q:=let ⟨q,_,_,hq,_⟩:=Ln;⟨q,hq⟩
 exact HL I2 (by rw[e];exact True.intro) hs he (Uc hz hd (rk.merge .nil) Ln)
structure M1 (X:Cx) (o:ļ) (m:Str) (apos:Pos) (e:ļ) (eI:Pos):Prop where
 base:attributeBase o m X.env (ţ o X.env)=ţ o X.env
 kO:((aab eI (Þ [e] X.env)).all (λx=>!x.1)&&(backToKw eI (abQ [] X.env)).all (λx=>x.1.isSome)
  && decide (([e]:List ļ).length+([]:List acd).length+(if ([]:List acd).isEmpty then 0 else 1)<30))=true
 line:(apos.endLine==eI.line)=true
 trees:aab eI (Þ [e] X.env)=[(false,ţ e X.env)]
structure M2 (X:Cx) (o:ļ) (m:Str) (apos:Pos) (e f:ļ) (eI:Pos):Prop where
 base:attributeBase o m X.env (ţ o X.env)=ţ o X.env
 kO:((aab eI (Þ [e,f] X.env)).all (λx=>!x.1)&&(backToKw eI (abQ [] X.env)).all (λx=>x.1.isSome)
  && decide (([e,f]:List ļ).length+([]:List acd).length+(if ([]:List acd).isEmpty then 0 else 1)<30))=true
 line:(apos.endLine==eI.line)=true
 trees:aab eI (Þ [e,f] X.env)=[(false,ţ e X.env),(false,ţ f X.env)]
section
variable {X:Cx} {π:List (á×Obj)} {σ:St} {H:Hp} {s:É} {a:á} {y d:V} {u r:Í} {o:Option V} {A:đ} {E:Í->É->Prop}
end
section
variable {X:Cx} {o e f:ļ} {apos eI:Pos} {td ty tx:TE}
end
section
variable {X:Cx} {π:List (á×Obj)} {σ:St} {H:Hp} {s:É} {a:á} {ai:List (Key×V)} {A:đ} {E:Í->É->Prop}
end
section
variable {X:Cx} {π:List (á×Obj)} {σ:St} {H:Hp} {s:É} {a:á} {y:V} {u:Í} {A:đ} {E:Í->É->Prop}
end
section
variable {K:Ĳ} {caps:St} {H:Hp} {tf:TT} {te:TE} {Q:VK}
end
noncomputable def Ja (sc:abf) (on:List (Str×aas)) (oN N:List Str) (nt:Nat) (cap:List Nat):Bool :=
 decide (sc.kind=.function)&&sc.names.all (λx=>decide (x.2≠.cell))&&sc.names.all (λx=>decide (x.2=.local->sc.names.lookup x.1=some .local)) &&
 sc.names.all (λx=>decide (x.2=.free->sc.names.lookup x.1=some .free/\(on.lookup x.1=some .cell\/on.lookup x.1=some .free)))&&decide (N.length=nt+cap.length) &&
 (ß cap.length).all (λk=>match cap[k]? with
  |some j=>match oN[j]? with
   |some x=>decide (N[nt+k]?=some x)&&decide ((x,ā)∈sc.names)
   |none=>false
  |none=>true)
def BC (h:Ja sc X.env.scope.names X.N N nt cap=true):oT X sc N nt cap:=by
 unfold Ja at h;simp only[Ç,ý,È] at h;obtain⟨⟨⟨⟨⟨h1,h2⟩,h3⟩,h4⟩,h5⟩,h6⟩:=h;refine⟨h1,h2,h3,λx hx e=>h4 x hx e,h5,λk j e=>?_⟩;have hk:k<cap.length:=(Å.mp e).1;have:=h6 k (Ā.mpr hk);rw[e] at this;dsimp only at this
 cases ex:X.N[j]? with
 |none=>rw[ex] at this;cases this
 |some x =>
  rw[ex] at this;simp only[Ç,È] at this;exact⟨x,rfl,this.1,this.2⟩
end L2
namespace TS
open PySem
abbrev kD (l:List Nat):Prop:=l.Pairwise (· < ·)
def Qj (xs:Array Nat) (k d:Nat):xs.getD k d=xs.toList.getD k d:=by
 cases xs with
 |mk l =>
  by_cases h:k<l.length
  ·simp[aca,Ź,h]
  ·simp[aca,Ź,h]
def xc (h:kD l) (vf:a<b) (hb:b<l.length):l.getD a 0<l.getD b 0:=by
 have:=List.pairwise_iff_getElem.mp h a b (by omega) hb vf;simpa [Ź,Ð hb,Ð (show a<l.length by omega)] using this
def Qk (l:List Nat) (hk:k<l.length) (d e:Nat):l.getD k d=l.getD k e:=by
 simp[Ź,Ð hk]
def AB (xs:Array Nat) (j:Nat) (hr:kD xs.toList):∀(fuel lo hi:Nat),hi-lo<=fuel->lo<=hi->hi<=xs.toList.length->(∀k,k<lo->xs.toList.getD k 0<j)->(∀k,hi<=k->k<xs.toList.length->j<=xs.toList.getD k 0) ->
  abk xs j fuel lo hi<=xs.toList.length/\(∀k,k<abk xs j fuel lo hi->xs.toList.getD k 0<j)/\(∀k,abk xs j fuel lo hi<=k->k<xs.toList.length->j<=xs.toList.getD k 0)
 |0,lo,hi,hf,hl,hh,h1,h2=>by
  have e:lo=hi:=by omega
  subst e;exact⟨hh,h1,h2⟩
 |fuel+1,lo,hi,hf,hl,hh,h1,h2=>by
  unfold abk;by_cases bA:lo<hi
  ·rw[Ú bA]
   dsimp only;have hm:(lo+hi) / 2<xs.toList.length:=by omega
   rw[Qj,Qk _ hm j 0];by_cases hc:xs.toList.getD ((lo+hi) / 2) 0<j
   ·rw[Ú hc]
    refine AB xs j hr fuel _ _ (by omega) (by omega) hh (λk hk=>?_) h2;by_cases gr:k=(lo+hi) / 2
    ·rw[gr];exact hc
    ·exact Nat.lt_trans (xc hr (by omega) hm) hc
   ·rw[æ hc]
    refine AB xs j hr fuel _ _ (by omega) (by omega) (by omega) h1 (λk hk gr=>?_);by_cases om:k=(lo+hi) / 2
    ·rw[om];omega
    ·have:=xc hr (show (lo+hi) / 2<k by omega) gr
     omega
  ·rw[æ bA]
   have e:lo=hi:=by omega
   subst e;exact⟨hh,h1,h2⟩
def FX (xs:Array Nat) (j:Nat) (hr:kD xs.toList):ě xs j<=xs.toList.length/\(∀k,k<ě xs j->xs.toList.getD k 0<j)/\(∀k,ě xs j<=k->k<xs.toList.length->j<=xs.toList.getD k 0):=by
 unfold ě;exact AB xs j hr xs.size 0 xs.size (by omega) (Ę _) (by simp) (λk hk=>by omega) (λk hk gr=>by simp at gr;omega)
def Nh {l:List Nat} {p j:Nat} (h:∀k,k<p->l.getD k 0<j):∀x∈l.take p,x<j:=by
 intro x hx;obtain⟨k,hk,e⟩:=aaQ hx;have dZ:k<p/\k<l.length:=by rw[ő] at hk;omega
 have:=h k dZ.1;rw[List.getElem_take] at e;rw[<- e];simpa [Ź,Ð dZ.2] using this
def Ni {l:List Nat} {p j:Nat} (h:∀k,p<=k->k<l.length->j<=l.getD k 0):∀x∈l.drop p,j<=x:=by
 intro x hx;obtain⟨k,hk,e⟩:=aaQ hx;have dZ:p+k<l.length:=by rw[ν] at hk;omega
 have:=h (p+k) (by omega) dZ;rw[List.getElem_drop] at e;rw[<- e];simpa [Ź,Ð dZ] using this
def Ql {xs:Array Nat} {j:Nat} (hr:kD xs.toList) (hn:xs[ě xs j]?≠some j):kD (SetTable.insertAt xs (ě xs j) j).toList:=by
 obtain⟨h0,h1,h2⟩:=FX xs j hr;rw[SetTable.toList_insertAt];have a1:=Nh h1;have a2:∀x∈xs.toList.drop (ě xs j),j<x:=by
  intro x hx;have yO:=Ni h2;have hd:kD (xs.toList.drop (ě xs j)):=aby (List.drop_sublist _ _) hr
  cases hc:xs.toList.drop (ě xs j) with
  |nil=>rw[hc] at hx;cases hx
  |cons y r =>
   rw[hc] at hd hx yO;have hy:j≠y:=by
    intro e;apply hn;have:(xs.toList.drop (ě xs j))[0]?=some y:=by rw[hc];rfl
    rw[List.getElem?_drop] at this;have e2:xs.toList[ě xs j]?=some y:=by simpa using this
    rw[<- ĵ,e2,e]
   have Lo:j<y:=Nat.lt_of_le_of_ne (yO y Ò) hy
   rcases Ó.mp hx with e|hx
   ·rw[e];exact Lo
   ·exact Nat.lt_trans Lo ((Ă.mp hd).1 x hx)
 first
  |(refine aay.mpr ⟨aby (List.take_sublist _ _) hr,Ă.mpr ⟨a2,aby (List.drop_sublist _ _) hr⟩,λx hx y hy=>?_⟩
    rcases Ó.mp hy with e|hy
    ·rw[e];exact a1 x hx
    ·exact Nat.lt_trans (a1 x hx) (a2 y hy))
  |trace_state
def AD (t:SetTable) (h:Int):∀(fuel:Nat) (p:SetTable.Probe) (j:Nat) (dm:Option Nat),(∀d,p.dummy=some d->t.slot d=.dummy)->acb t (λ_=>h+1) h fuel p=some (.empty j dm)->t.slot j=.empty/\∀d,dm=some d->t.slot d=.dummy
 |0,p,j,dm,hp,e=>by simp[acb] at e
 |fuel+1,p,j,dm,hp,e=>by
  unfold acb at e
  cases hs:t.slot p.j with
  |empty =>
   rw[hs] at e;simp at e;rw[<- e.1,<- e.2];exact⟨hs,hp⟩
  |dummy =>
   rw[hs] at e;refine AD t h fuel _ j dm (λd hd=>?_) e;unfold SetTable.advance at hd;split at hd
   ·simp at hd;rw[<- hd];exact hs
   ·simp at hd;rw[<- hd];exact hs
  |live i =>
   rw[hs] at e;have fy:(h+1==h)=false:=by simp;omega
   simp only[fy,Ã,ê] at e;refine AD t h fuel _ j dm (λd hd=>?_) e;unfold SetTable.advance at hd;split at hd
   ·exact hp d hd
   ·exact hp d hd
def Gj {t:SetTable} {j:Nat} (h:t.slot j=.empty\/t.slot j=.dummy):t.place[ě t.place j]?≠some j:=by
 intro e;have:t.slot j=.live (ě t.place j):=by
  unfold SetTable.slot;simp[e]
 rw[this] at h
 rcases h with h|h<;>cases h
def OR {t:SetTable} {h:Int} {j:Nat} {b:Bool} (e:t.freeSlot h=some (j,b)):t.place[ě t.place j]?≠some j:=by
 unfold SetTable.freeSlot SetTable.probe at e;split at e
 ·rename_i j' dm hg
  have k:=AD t h _ _ j' dm (λd hd=>by simp[SetTable.probeStart] at hd) hg;simp at e;rw[<- e.1]
  cases dm with
  |none=>exact Gj (.inl k.1)
  |some d=>exact Gj (.inr (k.2 d rfl))
 ·cases e
structure iS (led:Bool) (t:SetTable):Prop where
 led:t.led=led
 rise:t.plain=true->kD t.place.toList
def wA (h:iS led t) (n:Nat):iS led (t.standIn n):=⟨h.led,λz=>by simp[SetTable.standIn] at z⟩
def NP {led:Bool} {t:SetTable} (h:iS led t) (es:Array (Int×Í)) (hs:Int) (x:Í):iS led (layNew t es hs x).2.1:=by
 unfold layNew;split
 ·rename_i slot wd e
  dsimp only;unfold SetTable.orStandIn;have hp:iS led (t.put slot).1:=⟨h.led,λz=>Ql (h.rise z) (OR e)⟩;split
  ·exact hp
  ·exact wA hp _
 ·exact wA h _
def Qm {mask finger moves:Nat} {led plain:Bool} {hs:Array Int} {o:Array Nat} (e:SetTable.laid mask finger moves led plain hs=some (t,o)):iS led t/\t.plain=plain:=by
 unfold SetTable.laid at e
 cases hl:SetTable.layClean mask hs with
 |none=>rw[hl] at e;simp at e
 |some owner =>
  rw[hl] at e;simp at e;obtain⟨e1,e2⟩:=e;subst e1;refine⟨⟨rfl,λ_=>?_⟩,rfl⟩;show kD (abz _).toList;simp only[List.map_filterMap];refine List.pairwise_filterMap.mpr ?_;refine List.Pairwise.imp (R:=(· < ·)) ?_ (List.pairwise_lt_range);intro a b vf x hx y hy
  cases ha:(owner[a]?.getD none) with
  |none=>rw[ha] at hx;simp at hx
  |some q =>
   cases hb:(owner[b]?.getD none) with
   |none=>rw[hb] at hy;simp at hy
   |some r =>
    rw[ha] at hx;rw[hb] at hy;simp at hx hy;omega
def OS (h:iS led t) (es:Array (Int×Í)) (n:Nat):iS led (relayAll t es n).2.1:=by
 unfold relayAll;split
 ·rename_i t' o e
  dsimp only;split
  ·unfold SetTable.relaid at e
   have k:=Qm e;exact⟨k.1.led.trans h.led,k.1.rise⟩
  ·exact wA h _
 ·exact wA h _
def OT (led:Bool):iS led (.fresh 0 0 led):=⟨rfl,λ_=>List.Pairwise.nil⟩
open PySem.Spec PyProof.Rows
section
variable {P:ù} {w:ď} {A:đ} {E:Í->É->Prop} {s:É} {led:Bool}
def gG (P:ù) (w:ď) (led:Bool) (h:ŏ) (a:á) (S:Int->Bool) (n:Nat):Prop :=
 ∃o es ep t,h.get? a=some o/\o.ExactSet/\o.data=.set es ep t/\ElemsOf (Ŧ P w) es.toList/\(∀k,S k=true↔∃e∈es.toList,(Ŧ P w).is k e.2=true)/\es.size<aaG/\t.fits es.size=true/\es.size=n/\iS led t
def gG.at (x:gG P w led h a S n) (k:∀o,h.get? a=some o->h'.get? a=some o):gG P w led h' a S n:=by
 obtain⟨o,es,ep,t,ho,r⟩:=x;exact⟨o,es,ep,t,k o ho,r⟩
def gG.congr (x:gG P w led h a S n) (e:∀k,S k=S' k) (en:n=n'):gG P w led h a S' n':=by
 obtain rfl:S=S':=funext e;subst en;exact x
def AE {a:á} {u:Obj} {es gk:Array (Int×Í)} {ep:Nat} {t t':SetTable} {h:ŏ} (hu:h.get? a=some u) (hx:u.ExactSet) (hd:u.data=.set es ep t) {S:Int->Bool}
  (c1:ElemsOf (Ŧ P w) gk.toList) (c2:∀k,S k=true↔∃e∈gk.toList,(Ŧ P w).is k e.2=true) (c3:gk.size<aaG) (c4:t'.fits gk.size=true) (c5:iS led t') :
  (h.update a (Obj.putSet gk t')).get? a=some { u with data:=.set gk (ep+1) t' }/\gG P w led (h.update a (Obj.putSet gk t')) a S gk.size:=by
 have g:=(SetOf_store (knd:=Ŧ P w) hu hx hd c1 c2 c3 c4).1;exact⟨g,_,gk,ep+1,t',g,hx,rfl,c1,c2,c3,c4,rfl,c5⟩
def RV {a:á} {S:Int->Bool} {n:Nat} {k:Int} {tk:Tok} {Q:Bool->É->Prop} (hS:gG P w led s.heap a S n) (VN:n+1<aaG)
  (h:∀h',ĸ a s.heap h'->gG P w led h' a (λj=>S j||decide (j=k)) (if S k then n else n+1)->Q (!S k) { s with heap:=h' }) :
  à (ø P w) A (setAddHashed a (.int k tk) ((Ŧ P w).hash k)) Q E s:=by
 obtain⟨u,es,ep,t,hu,hx,hd,c1,c2,c3,c4,hn,c5⟩:=hS;have ky:(Ŧ P w).is k (.int k tk)=true:=intKind_is _ _ _ _;have sc:(abN k tk).scannable=true:=rfl;have Dr:es.size+1<aaG:=by rw[hn];exact VN
 unfold setAddHashed setAddHashedIn;refine ė ?_;refine À (Ż hu hd c4 ?_);dsimp only;rw[byScan_of sc c3 c1,Ú rfl];unfold setAddByScan;refine À (À (ś ?_));refine À (wpAny_setScan_of ky hu hd c4 c1 ?_)
 cases Lp:es.toList.findIdx? (λe=>(Ŧ P w).is k e.2) with
 |some j =>
  dsimp only;obtain⟨hj,pj,_⟩:=List.findIdx?_eq_some_iff_getElem.mp Lp;have Sk:S k=true:=(c2 k).mpr ⟨es.toList[j],aaK hj,pj⟩;have q:=h s.heap (Heap.SameBut.refl a s.heap) ⟨u,es,ep,t,hu,hx,hd,c1,λj'=>by
   rw[ż,È,<- c2 j'];exact⟨λz=>z.elim id λe=>by rw[e];exact Sk,ť⟩,c3,c4,by rw[Sk];exact hn,c5⟩
  rw[Sk] at q;exact Â (Â q)
 |none =>
  dsimp only;have Sk:S k=false:=by
   rw[<- aaM,c2 k];rintro ⟨e,he,pe⟩;have z:=List.findIdx?_eq_none_iff.mp Lp e he;rw[pe] at z;cases z
  have way:∀(b:Bool) {s1:É} {Q1:Unit->É->Prop},Q1 () s1->à (ø P w) A (match b with|true=>rule "set.scan.the-table-gave-way"|false=>pure ()) Q1 E s1 :=
   λb s1 Q1 q=>by cases b<;>first|exact Â q|exact ś q
  have pm:=layNew_perm t es ((Ŧ P w).hash k) (.int k tk);have ft:=layNew_fits t es ((Ŧ P w).hash k) (.int k tk);have tb:=NP c5 es ((Ŧ P w).hash k) (.int k tk);generalize layNew t es ((Ŧ P w).hash k) (.int k tk)=L at pm ft tb |-;obtain⟨gu,t1,aag,aak⟩:=L;dsimp only at pm ft tb |-;rw[abl] at pm;have d1:ElemsOf (Ŧ P w) gu.toList:=(c1.push ky sc).perm pm;have d2:∀j,(S j||decide (j=k))=true↔∃e∈gu.toList,(Ŧ P w).is j e.2=true:=mem_push_iff ky c2 pm;have z1:gu.size=n+1:=by
   have l:=pm.length_eq;rw[â,þ,þ,hn] at l;exact l
  have d3:gu.size<aaG:=by omega
  refine À (way _ ?_);obtain⟨g1,T1⟩:=AE (S:=λj=>S j||decide (j=k)) hu hx hd d1 d2 d3 ft tb;have yP:=ĝ s.heap a (Obj.putSet gu t1)
  have fin:∀h',ĸ a s.heap h'->gG P w led h' a (λj=>S j||decide (j=k)) gu.size->Q true { s with heap:=h' }:=λh' sb T=>by
   have q:=h h' sb;rw[Sk] at q;rw[z1] at T;exact q T
  have j0:=relayAll_perm t1 gu (abu gu.size);have jy:=relayAll_fits t1 gu (abu gu.size);have sm:=OS tb gu (abu gu.size);have hv:hashByValue 8 (abN k tk)=pure true:=rfl;split
  ·refine À ?_
   rw[hv];refine Â ?_;simp only[û];refine À (abm hu hd ?_ (aau d3));split
   ·generalize relayAll t1 gu (abu gu.size)=L2 at j0 jy sm |-
    obtain⟨vh,t2,VO⟩:=L2;dsimp only at j0 jy sm |-;have z2:vh.size=gu.size:=by
     have l:=j0.length_eq;rwa [þ,þ] at l
    have f2:∀j,(S j||decide (j=k))=true↔∃e∈vh.toList,(Ŧ P w).is j e.2=true:=λj=>(d2 j).trans ⟨λ⟨e,he,q⟩=>⟨e,j0.mem_iff.mpr he,q⟩,λ⟨e,he,q⟩=>⟨e,j0.mem_iff.mp he,q⟩⟩;refine À (way _ ?_);refine À (abm g1 rfl ?_ (aau (by rw[z2];exact d3)));obtain⟨g2,T2⟩:=AE (S:=λj=>S j||decide (j=k)) (led:=led) g1 hx rfl (d1.perm j0) f2 (by rw[z2];exact d3) jy sm;rw[z2] at T2;exact Â (Â (fin _ (yP.trans (ĝ _ a _)) T2))
   ·exact Â (Â (fin _ yP T1))
  ·refine À (Â ?_)
   simp only[û];refine À (abm hu hd ?_ (aau d3));split
   ·generalize relayAll t1 gu (abu gu.size)=L2 at j0 jy sm |-
    obtain⟨vh,t2,VO⟩:=L2;dsimp only at j0 jy sm |-;have z2:vh.size=gu.size:=by
     have l:=j0.length_eq;rwa [þ,þ] at l
    have f2:∀j,(S j||decide (j=k))=true↔∃e∈vh.toList,(Ŧ P w).is j e.2=true:=λj=>(d2 j).trans ⟨λ⟨e,he,q⟩=>⟨e,j0.mem_iff.mpr he,q⟩,λ⟨e,he,q⟩=>⟨e,j0.mem_iff.mp he,q⟩⟩;refine À (way _ ?_);refine À (abm g1 rfl ?_ (aau (by rw[z2];exact d3)));obtain⟨g2,T2⟩:=AE (S:=λj=>S j||decide (j=k)) (led:=led) g1 hx rfl (d1.perm j0) f2 (by rw[z2];exact d3) jy sm;rw[z2] at T2;exact Â (Â (fin _ (yP.trans (ĝ _ a _)) T2))
   ·exact Â (Â (fin _ yP T1))
end
def Mr:entryFor table "set.__iter__"=some ň.«frozenset.__iter__»:=entryFor_alias (id':="frozenset.__iter__") (by kernel_rfl) rfl (by decide +kernel) (by kernel_rfl)
def j9:Slot "set_iterator" "__next__" "set_iterator.__next__" :=
 .of (owner:="set_iterator") (n:="__next__") (by rw[typeLookup_type,abA];kernel_rfl) (by decide +kernel) (by decide +kernel) (by decide +kernel)
  (by first|exact .inl (by decide +kernel)|exact .inr (by decide +kernel)) (by rw[isSubtype_type];kernel_rfl)
def wc:entryFor table "set_iterator.__next__"=some ň.«set_iterator.__next__»:=entryFor_of_tree (by kernel_rfl)
def wo (a:Í):argsOk "set_iterator.__next__" ⟨[a],[]⟩:=by unfold argsOk;kernel_rfl
def Fq:Slot "set_iterator" "__iter__" "set_iterator.__iter__" :=
 .of (owner:="set_iterator") (n:="__iter__") (by rw[typeLookup_type,abA];kernel_rfl) (by decide +kernel) (by decide +kernel) (by decide +kernel)
  (by first|exact .inl (by decide +kernel)|exact .inr (by decide +kernel)) (by rw[isSubtype_type];kernel_rfl)
def jo (h:ŏ) (I a:á) (first:Í) (i n ep:Nat):Prop:=∃o,h.get? I=some o/\o.cls=.type "set_iterator"/\o.data=.fields #[first,.int i 0,.ref a,.int n 0,.int ep 0]
section
variable {P:ù} {w:ď} {A:đ} {E:Í->É->Prop} {s:É}
def HM {slot i n ep nx:Nat} {es:Array (Int×Í)} {Q:Option Í->É->Prop} (hit:jo s.heap I a (.int slot 0) i n ep)
 (hu:s.heap.get? a=some u) (hd:u.data=.set es ep t) (hf:t.fits es.size=true) (hn:es.size=n)
 (hs:∀(A':đ) (Q':Option (Í×Nat)->É->Prop) (E':Í->É->Prop),Q' (some (x,nx)) s->à (ø P w) A' (setNext a slot i ep) Q' E' s)
 (hQ:∀h',jo h' I a (.int nx 0) (i+1) n ep->ĸ I s.heap h'->Q (some x) { s with heap:=h' }):à (ø P w) A (Ť (.ref I)) Q E s:=by
 obtain⟨o,ho,hc,eY⟩:=id hit;have hT:s.TypeIs (.ref I) "set_iterator":=⟨o,ho,hc⟩;unfold Ť;refine À (θ (Ĉ (name:=ì "__next__") hT j9
  (Ą j9 hT wc ?_ (wo _))))
 unfold ň.«set_iterator.__next__» slotArgs;simp only[aaN,ë,Ã,↓reduceIte,bind_assoc,î,ġ];refine À (Â ?_);refine À (aaH ho eY ?_);dsimp only;refine À (ι hu hd hf ?_);rw[hn];simp only[ġ,Ã,↓reduceIte,õ];refine À (hs _ _ _ ?_);dsimp only;refine À (ř ho eY (by simp) ?_);refine À (ř (ă _ ho (Ľ (Ď eY _))) (Ď eY _) (by simp) ?_);refine Â ⟨x,rfl,Â (hQ _ ⟨_,ă _ (ă _ ho (Ľ (Ď eY _))) (Ľ (Ď (Ď eY _) _)),(aat ..).trans ((aat ..).trans hc),?_⟩ ((ĝ ..).trans (ĝ ..)))⟩;rw[Ď (Ď eY _)];simp[Ŋ]
def NQ (hm:m≠0) (h:Q (w.draws src (s.drawn.get src) % m) { s with drawn:=s.drawn.bump src }):à (ø P w) A (choose src m) Q E s:=fun Γ p hΓ=>by
 unfold choose;rw[Sem.wp_choose];exact⟨hm,h⟩
def Gk (hh:A.handled=none) (ho:s.heap.get? I=some o) (eY:o.data=.fields vs) (h2:2<vs.size)
 (hQ:∀h',abj I s.heap h'->Q none { s with heap:=h' }) :
  à (ø P w) A.in1 (setField (.ref I) 2 .none >>= λ_=>newExc (.type "StopIteration") [] >>= λe=>(raiseNew e:Sem Fin)) (λfin s'=>∃v,fin=Fin.done (Flow.ret v)/\à (ø P w) A (pure (some v)) Q E s')
   (λe s'=>à (ø P w) A (isInstance e (Ŷ "StopIteration") >>= λb=>if b=true then pure none else throw e) Q E s') s:=by
 refine À (ř ho eY h2 ?_);refine À ?_;simp only[newExc,newTuple];refine À (ó ?_ (by size_fits))
 refine À (m:=aaE _ _) (Š (a:=Value.none) (by first|rfl | (simp only[aaE];rfl)) ?_)
 refine ó ?_ (by size_fits);simp only[raiseNew];refine À (wpAny_handled ?_)
 first|rw[show A.in1.handled=none from hh]|rw[hh]
 refine À (Â (wpAny_throw ?_));refine À (aaL (T:="StopIteration") (b:=true) ⟨_,Ì _ rfl,rfl⟩ isSubtype_stop ?_);exact Â (hQ _ (((ĝ ..).extBut.push _).push _))
def Jb {slot i n ep:Nat} {es:Array (Int×Í)} {Q:Option Í->É->Prop} (hh:A.handled=none) (hit:jo s.heap I a (.int slot 0) i n ep)
 (hu:s.heap.get? a=some u) (hd:u.data=.set es ep t) (hf:t.fits es.size=true) (hn:es.size=n)
 (hs:∀(A':đ) (Q':Option (Í×Nat)->É->Prop) (E':Í->É->Prop),Q' none s->à (ø P w) A' (setNext a slot i ep) Q' E' s)
 (hQ:∀h',abj I s.heap h'->Q none { s with heap:=h' }):à (ø P w) A (Ť (.ref I)) Q E s:=by
 obtain⟨o,ho,hc,eY⟩:=id hit;have hT:s.TypeIs (.ref I) "set_iterator":=⟨o,ho,hc⟩;unfold Ť;refine À (θ (Ĉ (name:=ì "__next__") hT j9
  (Ą j9 hT wc ?_ (wo _))))
 unfold ň.«set_iterator.__next__» slotArgs;simp only[aaN,ë,Ã,↓reduceIte,bind_assoc,î,ġ];refine À (Â ?_);refine À (aaH ho eY ?_);dsimp only;refine À (ι hu hd hf ?_);rw[hn];simp only[ġ,Ã,↓reduceIte,õ];refine À (hs _ _ _ ?_);dsimp only;exact Gk hh ho eY (by simp) hQ
def Qn {i n ep pl:Nat} {es:Array (Int×Í)} {x:Int×Í} {Q:Option Í->É->Prop} (hit:jo s.heap I a (.ref tp) i n ep)
 (hu:s.heap.get? a=some u) (hd:u.data=.set es ep t) (hf:t.fits es.size=true) (hn:es.size=n) (Ds:s.heap.IsTuple tp places) (cM:places[i]?=some (.int pl tk)) (hx:es[pl]?=some x)
 (hQ:∀h',jo h' I a (.ref tp) (i+1) n ep->ĸ I s.heap h'->Q (some x.2) { s with heap:=h' }):à (ø P w) A (Ť (.ref I)) Q E s:=by
 obtain⟨o,ho,hc,eY⟩:=id hit;obtain⟨op,Du,XU,np,vd⟩:=Ds;have hT:s.TypeIs (.ref I) "set_iterator":=⟨o,ho,hc⟩;unfold Ť;refine À (θ (Ĉ (name:=ì "__next__") hT j9
  (Ą j9 hT wc ?_ (wo _))))
 unfold ň.«set_iterator.__next__» slotArgs;simp only[aaN,ë,Ã,↓reduceIte,bind_assoc,î,ġ];refine À (Â ?_);refine À (aaH ho eY ?_);dsimp only;refine À (ι hu hd hf ?_);rw[hn];simp only[ġ,Ã,↓reduceIte,õ];refine À (Ě Du vd ?_);dsimp only;rw[cM];dsimp only;unfold setNextDrawn;refine À (À (Ż hu hd hf ?_));dsimp only;simp only[ġ,Ã,↓reduceIte,õ];rw[hx];dsimp only;refine Â ?_;refine À (ř ho eY (by simp) ?_);refine Â ⟨x.2,rfl,Â (hQ _ ⟨_,ă _ ho (Ľ (Ď eY _)),(aat ..).trans hc,?_⟩ (ĝ ..))⟩;rw[Ď eY];simp[Ŋ]
def RW (hh:A.handled=none) (hit:jo s.heap I a (.ref tp) i n ep)
 (hu:s.heap.get? a=some u) (hd:u.data=.set es ep t) (hf:t.fits es.size=true) (hn:es.size=n) (Ds:s.heap.IsTuple tp places) (cM:places[i]?=none)
 (hQ:∀h',abj I s.heap h'->Q none { s with heap:=h' }):à (ø P w) A (Ť (.ref I)) Q E s:=by
 obtain⟨o,ho,hc,eY⟩:=id hit;obtain⟨op,Du,XU,np,vd⟩:=Ds;have hT:s.TypeIs (.ref I) "set_iterator":=⟨o,ho,hc⟩;unfold Ť;refine À (θ (Ĉ (name:=ì "__next__") hT j9
  (Ą j9 hT wc ?_ (wo _))))
 unfold ň.«set_iterator.__next__» slotArgs;simp only[aaN,ë,Ã,↓reduceIte,bind_assoc,î,ġ];refine À (Â ?_);refine À (aaH ho eY ?_);dsimp only;refine À (ι hu hd hf ?_);rw[hn];simp only[ġ,Ã,↓reduceIte,õ];refine À (Ě Du vd ?_);dsimp only;rw[cM];dsimp only;refine À (ř ho eY (by simp) ?_)
 exact Gk (s:={ s with heap:=_ }) hh (ă _ ho (Ľ (Ď eY _))) (Ď eY _) (by simp) λh' e=>hQ h' (Heap.ExtBut.trans (ĝ ..).extBut e)
end
def MB:entryFor table "set_iterator.__iter__"=some ň.«dict_keyiterator.__iter__»:=entryFor_alias (id':="dict_keyiterator.__iter__") (by kernel_rfl) rfl (by decide +kernel) (by kernel_rfl)
def MR (a:Í):argsOk "set_iterator.__iter__" ⟨[a],[]⟩:=by unfold argsOk;kernel_rfl
section
variable {P:ù} {w:ď} {A:đ} {E:Í->É->Prop} {s:É}
def AF (hit:jo s.heap I a f i n ep) (h:Q (.ref I) s):à (ø P w) A (pyIter (.ref I)) Q E s:=by
 obtain⟨o,ho,hc,eY⟩:=id hit;have hT:s.TypeIs (.ref I) "set_iterator":=⟨o,ho,hc⟩;refine wpAny_pyIter_slot hT Fq (Ą Fq hT MB ?_ (MR _));show à _ _ (ret (.ref I)) _ _ s;exact Â ⟨_,rfl,"set_iterator",_,hT,j9.lookup,h⟩
def jo.at (x:jo h I a f i n ep) (k:∀o,h.get? I=some o->h'.get? I=some o):jo h' I a f i n ep:=by
 obtain⟨o,ho,r⟩:=x;exact⟨o,k o ho,r⟩
def Gm (iF:w.params.followText "set-order"=true) (hu:s.heap.get? a=some u) (hd:u.data=.set es ep t) (hf:t.fits es.size=true)
 (h:Q' (((ο (w.params.setOrder a ep) es)[i]?).map λe=>(e.2,slot)) s):à (ø P w) A (setNext a slot i ep) Q' E s:=by
 unfold setNext;refine À (Ż hu hd hf ?_);dsimp only;unfold setsByText;refine À (À (ū (Â ?_)))
 show à _ _ (if w.params.followText "set-order"=true then _ else _) _ _ _
 rw[Ú iF];simp only[ġ,Ã,↓reduceIte];unfold setWalk;refine À (À (Ż hu hd hf ?_));dsimp only;unfold setsByText;refine À (À (ū (Â ?_)))
 show à _ _ (if w.params.followText "set-order"=true then _ else _) _ _ _
 rw[Ú iF];refine À (ū (Â ?_));exact Â h
def qF (hr:kD xs.toList) (hi:i<=xs.toList.length) (h1:∀k,k<i->xs.toList.getD k 0<slot) (h2:∀k,i<=k->k<xs.toList.length->slot<=xs.toList.getD k 0):ě xs slot=i:=by
 obtain⟨a0,a1,a2⟩:=FX xs slot hr;by_cases bA:ě xs slot<i
 ·have b1:=a2 _ (Nat.le_refl _) (by omega)
  have b2:=h1 _ bA;omega
 ·by_cases XW:i<ě xs slot
  ·have b1:=a1 i XW
   have b2:=h2 i (Nat.le_refl _) (by omega);omega
  ·omega
def FY (iF:w.params.followText "set-order"=false) (hu:s.heap.get? a=some u) (hd:u.data=.set es ep t) (hf:t.fits es.size=true)
 (hl:t.led=true) (hp:t.plain=true\/es.size<=1) (hb:ě t.place slot=i)
 (h:Q' (match es[i]?,t.place[i]? with|some (_,x),some j=>some (x,j+1) | _,_=>none) s):à (ø P w) A (setNext a slot i ep) Q' E s:=by
 unfold setNext;refine À (Ż hu hd hf ?_);dsimp only;unfold setsByText;refine À (À (ū (Â ?_)))
 show à _ _ (if w.params.followText "set-order"=true then _ else _) _ _ _
 rw[æ (by rw[iF];decide)];split
 ·rename_i XX
  have CB:(!t.plain&&decide (es.size > 1))=true:=XX
  rcases hp with hp|hp
  ·rw[hp] at CB;cases CB
  ·simp at CB;omega
 ·refine À ?_
  show à _ _ (if (!t.led&&!es.isEmpty)=true then _ else _) _ _ _
  rw[hl];simp only[ë,aaA,Ã,↓reduceIte];refine Â ?_;rw[hb];exact Â h
def zH (sb:ĸ I s.heap h'):Moved [I] (λa b=>b=a) s { s with heap:=h' }:=⟨λb o hb e=>by rw[sb.2 b (λz=>hb (by simp[z]))];exact e,rfl,rfl,rfl,Nat.le_refl _⟩
def zQ (sb:abj I s.heap h'):Moved [I] (λa b=>b=a) s { s with heap:=h' }:=⟨λb o hb e=>sb b o (λz=>hb (by simp[z])) e,rfl,rfl,rfl,Nat.le_refl _⟩
end
def NR (hh:A.handled=none) (fy:a≠I) (iF:w.params.followText "set-order"=true) (hd:u.data=.set es ep t) (hf:t.fits es.size=true) (hsz:(ο (w.params.setOrder a ep) es).size=es.size) :
  WalksS P w A I [I,a] [I] (λa b=>b=a) es.size (λi v=>((ο (w.params.setOrder a ep) es).map (·.2))[i]?=some v) (λi s=>jo s.heap I a (.int 0 0) i es.size ep/\s.heap.get? a=some u) where
 sub:=λb hb=>by simp at hb;simp[hb]
 grefl:=λ_=>rfl
 gtrans:=λ_ _ _ h1 h2=>h2.trans h1
 frame:=λi s h' tk st _ hk=>⟨st.1.at λo e=>hk I (by simp) o e,hk a (by simp) _ st.2⟩
 item:=λi s Q E hi st hQ=>by
  have hx:i<(ο (w.params.setOrder a ep) es).size:=by rw[hsz];exact hi
  have ex:(ο (w.params.setOrder a ep) es)[i]?=some (ο (w.params.setOrder a ep) es)[i]:=by simp[hx]
  refine HM (nx:=0) (x:=(ο (w.params.setOrder a ep) es)[i].2) (slot:=0) st.1 st.2 hd hf rfl (λA' Q' E' q=>Gm iF st.2 hd hf (by rw[ex];exact q)) λh' it sb=>?_;exact hQ _ _ (by simp[ex]) ⟨it,by rw[sb.2 a fy];exact st.2⟩ (zH sb)
 done:=λs Q E st hQ=>by
  refine Jb (slot:=0) hh st.1 st.2 hd hf rfl (λA' Q' E' q=>Gm iF st.2 hd hf (by
   rw[show (ο (w.params.setOrder a ep) es)[es.size]?=none by simp[hsz]];exact q)) λh' sb=>hQ _ (zQ sb)
 self:=λi s Q E st hQ=>AF st.1 hQ
def Nj (hh:A.handled=none) (fy:a≠I) (iF:w.params.followText "set-order"=false) (hd:u.data=.set es ep t) (hf:t.fits es.size=true) (hl:t.led=true) (hp:t.plain=true\/es.size<=1) (hr:kD t.place.toList) :
  WalksS P w A I [I,a] [I] (λa b=>b=a) es.size (λi v=>(es.map (·.2))[i]?=some v) (λi s=>∃slot:Nat,jo s.heap I a (.int slot 0) i es.size ep/\s.heap.get? a=some u/\i<=es.size/\(∀k,k<i->t.place.toList.getD k 0<slot)/\∀k,i<=k->k<t.place.toList.length->slot<=t.place.toList.getD k 0) where
 sub:=λb hb=>by simp at hb;simp[hb]
 grefl:=λ_=>rfl
 gtrans:=λ_ _ _ h1 h2=>h2.trans h1
 frame:=λi s h' tk st _ hk=>by
  obtain⟨slot,x1,x2,x3⟩:=st;exact⟨slot,x1.at λo e=>hk I (by simp) o e,hk a (by simp) _ x2,x3⟩
 item:=λi s Q E hi st hQ=>by
  obtain⟨slot,x1,x2,x3,x4,x5⟩:=st;have cM:t.place.toList.length=es.size:=by
   simp only[SetTable.fits,Ç,beq_iff_eq,È] at hf;simpa using hf.1
  have so:i<t.place.toList.length:=by omega
  have e1:es[i]?=some es[i]:=by simp[hi]
  have e2:t.place[i]?=some (t.place.toList.getD i 0):=by
   rw[<- ĵ,Ð so];simp[Ź,Ð so]
  refine HM (nx:=t.place.toList.getD i 0+1) (x:=es[i].2) (slot:=slot) x1 x2 hd hf rfl (λA' Q' E' q=>FY iF x2 hd hf hl hp (qF hr (by omega) x4 x5) (by rw[e1,e2];exact q)) λh' it sb=>?_;refine hQ _ _ (by simp[e1]) ⟨_,it,by rw[sb.2 a fy];exact x2,hi,λk hk=>?_,λk hk gr=>?_⟩ (zH sb)
  ·by_cases XY:k=i
   ·rw[XY];omega
   ·have:=xc hr (show k<i by omega) so
    omega
  ·have:=xc hr (show i<k by omega) gr
   omega
 done:=λs Q E st hQ=>by
  obtain⟨slot,x1,x2,x3,x4,x5⟩:=st;have cM:t.place.toList.length=es.size:=by
   simp only[SetTable.fits,Ç,beq_iff_eq,È] at hf;simpa using hf.1
  refine Jb (slot:=slot) hh x1 x2 hd hf rfl (λA' Q' E' q=>FY iF x2 hd hf hl hp (qF hr (by omega) x4 x5) (by
   rw[show es[es.size]?=none by simp];exact q)) λh' sb=>hQ _ (zQ sb)
 self:=λi s Q E st hQ=>by
  obtain⟨slot,x1,_⟩:=st;exact AF x1 hQ
def Nk (hh:A.handled=none) (fy:a≠I) (XZ:tp≠I) (hd:u.data=.set es ep t) (hf:t.fits es.size=true) (pl:List Nat) (cM:pl.length=es.size) (jz:∀x∈pl,x<es.size) :
  WalksS P w A I [I,a,tp] [I] (λa b=>b=a) es.size (λi v=>(pl.map λk=>(es.getD k (0,Value.none)).2)[i]?=some v) (λi s=>jo s.heap I a (.ref tp) i es.size ep/\s.heap.get? a=some u/\s.heap.IsTuple tp (pl.map λ(k:Nat)=>Ŋ k).toArray) where
 sub:=λb hb=>by simp at hb;simp[hb]
 grefl:=λ_=>rfl
 gtrans:=λ_ _ _ h1 h2=>h2.trans h1
 frame:=λi s h' tk st _ hk=>⟨st.1.at λo e=>hk I (by simp) o e,hk a (by simp) _ st.2.1,let ⟨o,ho,r⟩:=st.2.2;⟨o,hk tp (by simp) o ho,r⟩⟩
 item:=λi s Q E hi st hQ=>by
  have so:i<pl.length:=by omega
  have e1:pl[i]?=some pl[i]:=Ð so;have hk:=jz _ (aaK so);refine Qn (pl:=pl[i]) (x:=es.getD pl[i] (0,Value.none)) (tk:=0) st.1 st.2.1 hd hf rfl st.2.2 (by simp[e1,Ŋ]) (by simp[hk,aca]) λh' it sb=>?_
  refine hQ _ _ (by simp[e1]) ⟨it,by rw[sb.2 a fy];exact st.2.1,let ⟨o,ho,r⟩:=st.2.2;⟨o,by rw[sb.2 tp XZ];exact ho,r⟩⟩ (zH sb)
 done:=λs Q E st hQ=>RW hh st.1 st.2.1 hd hf rfl st.2.2 (by simp[cM]) λh' sb=>hQ _ (zQ sb)
 self:=λi s Q E st hQ=>AF st.1 hQ
noncomputable def fx (w:ď):Bool:=!(w.params.followText "set-order")
section
variable {P:ù} {w:ď} {A:đ} {E:Í->É->Prop} {s:É}
def Qo (a:Í)
 (hq:Q₁ (.ref s.heap.objs.size) { s with heap:=s.heap.push { cls:=.type "set",dict:=none,data:=.set #[] 0 (.fresh 0 0 (fx w)) } }) :
  aaO (ø P w) A (.call (.builtin "set.__new__") ⟨[.type "set",a],[]⟩) (wants Q₁ E) s:=by
 refine abU ?_;show à _ A.in1 (checkBuiltinCall "set.__new__" ⟨[.type "set",a],[]⟩ >>= λ_=>again (.builtin "set.__new__" ⟨[.type "set",a],[]⟩)) _ _ s;refine À ?_;refine Š (F.newCall_set_1 a) ?_;refine Â ⟨Ł F.plain_set_new _,ī F.entry_set_new ?_⟩;rw[Ė F.plain_set_new _];unfold ň.«set.__new__» Builtin.Frozenset.newClass;have ss:=sub_set_self;obtain⟨h1,h2,h3,h4,h5⟩:=s;dsimp only
 wp_walk
 refine ū (Â ?_);dsimp only;simp only[newObj];refine À (wpAny_alloc ?_);exact Â (Â hq)
end
section
variable {P:ù} {w:ď} {A:đ} {R:Result->É->Prop} {I:á} {fp wr:List á} {G:Array GenState->Array GenState->Prop} {n:Nat} {Pv:Nat->Í->Prop} {St:Nat->É->Prop} {led:Bool}
def Qp (W:WalksS P w A.in1 I fp wr G n Pv St) (S:á) (vi:S∉fp)
  (val:Nat->Int) (W4:∀i v,Pv i v->∃t,v=.int (val i) t) (hb:n+1<aaG) :
  ∀(k i:Nat) (s:É),n-i=k->i<=n->St i s ->
   gG P w led s.heap S (λj=>(ω val i).any (·==j)) (ω val i).length ->
   (∀s',Moved (S::wr) G s s'->gG P w led s'.heap S (λj=>(ω val n).any (·==j)) (ω val n).length->R (.ok (.ret .none)) s') ->
   aaO (ø P w) A (.builtin "set.update.loop" ⟨[.ref S,.ref I],[]⟩) R s:=by
 have nw:S∉wr:=λz=>vi (W.sub _ z);have sw:∀b∈wr,b∈S::wr:=λb z=>Ñ _ z;intro k
 induction k with
 |zero =>
  intro i s hk hi st T hR;obtain rfl:i=n:=by omega
  refine ī F.entry_set_update_loop ?_;rw[Ė aa1 _];show à _ A.in1 (Ť (.ref I) >>= _) _ _ s;refine À (W.done s _ _ st λs' m=>?_);show à _ A.in1 (ret Value.none) _ _ s';exact Â (hR s' (m.mono sw) (T.at λo e=>m.heap S o nw e))
 |succ k ih =>
  intro i s hk hi st T hR;have lt:i<n:=by omega
  refine ī F.entry_set_update_loop ?_;rw[Ė aa1 _];show à _ A.in1 (Ť (.ref I) >>= _) _ _ s;refine À (W.item i s _ _ lt st λv s' pv dw m=>?_);obtain⟨t,rfl⟩:=W4 i v pv;have T':=T.at (h':=s'.heap) λo e=>m.heap S o nw e;show à _ A.in1 (aac [abN (val i) t] (setAdd S (.int (val i) t)) >>= _) _ _ s';refine À (ė ?_);unfold setAdd;refine ė ?_;refine À ((Ŧ P w).pyHash (k:=val i) (intKind_is _ _ _ _) ?_);have room:(ω val i).length+1<aaG:=by have:=firstMet_length_le val i;omega
  refine RV (s:={ s' with toks:=s'.toks+1 }) T' room λh' sb T2=>?_
  have T3:gG P w led h' S (λj=>(ω val (i+1)).any (·==j)) (ω val (i+1)).length:=T2.congr (λj=>by rw[firstMet_succ,step_any]) (by rw[firstMet_succ,step_length]);refine Â ⟨Ł aa1 _,ih (i+1) _ (by omega) lt (W.frame _ s' _ _ dw (ŵ _) λb gR o e=>?_) T3 λu0 X0 X1=>?_⟩
  ·rw[sb.2 b λz:b=S=>vi (z ▸ gR)];exact e
  ·refine hR u0 (Moved.trans W.gtrans ((m.mono sw).then_heap (ŵ _) λb o gR e=>?_) X0) X1
   rw[sb.2 b λz:b=S=>gR (by rw[z];exact Ò)];exact e
end
section
variable {P:ù} {w:ď} {A:đ} {E:Í->É->Prop} {s:É}
def NS   
 (hh:A.handled=none) (hl:s.heap.IsList l its) (hi:abh its.toList ns) (hb:its.size+1<aaG)
 (h:∀(h':ŏ) (tk:Nat),gG P w (fx w) h' s.heap.objs.size (λk'=>(ω (λi=>ns.getD i 0) its.size).any (·==k')) (ω (λi=>ns.getD i 0) its.size).length ->
 (∀b o,b<s.heap.objs.size->s.heap.get? b=some o->h'.get? b=some o)->Q (.ref s.heap.objs.size) { s with heap:=h',toks:=tk }) :
  à (ø P w) A (call (.type "set") [.ref l]) Q E s:=by
 obtain⟨c,tl,ur⟩:=aao.mro;have um:=aao.made;have ub:=aao.sub;refine wpAny_call (abU ?_);show à _ _ (callAny (.type "set") _) _ _ _;refine Â ⟨Code.quiet_builtin _ (by decide +kernel),ī F.entry_type_call ?_⟩;rw[Around.under_plain (weight_type_call_type "set" [.ref l] []) rfl];have h1:=aao.notType;have h2:=aao.canCreate;have uct:=F.typeCall_set_1 (.ref l)
 repeat (any_goals (first|assumption|wp_step))
 refine Ů (Qo (.ref l) (E:=E) (Q₁:=λobj bI=>obj=.ref s.heap.objs.size/\bI={ s with heap:=s.heap.push { cls:=.type "set",dict:=none,data:=.set #[] 0 (.fresh 0 0 (fx w)) } }) ⟨rfl,rfl⟩) λr bI hr=>?_
 cases r with
 |error e=>exact hr
 |ok fl =>
  cases fl with
  |ret obj =>
   obtain⟨rfl,rfl⟩:=hr;have v:(s.heap.push { cls:=.type "set",dict:=none,data:=.set #[] 0 (.fresh 0 0 (fx w)) }).get? s.heap.objs.size=some { cls:=.type "set",dict:=none,data:=.set #[] 0 (.fresh 0 0 (fx w)) }:=Ì _ rfl
   have vT:Shared.TypeIs { s with heap:=s.heap.push { cls:=.type "set",dict:=none,data:=.set #[] 0 (.fresh 0 0 (fx w)) } } (.ref s.heap.objs.size) "set":=⟨_,v,rfl⟩
   have vl:=aao.init.lookup;have vb:=aao.init.bind (.ref s.heap.objs.size)
   repeat (any_goals (first|assumption|wp_step))
   refine Ů (codeAny_call_builtin (R:=wants (λr yk=>r=.none/\∃h' tk,yk={ s with heap:=h',toks:=tk } /\
     gG P w (fx w) h' s.heap.objs.size (λk'=>(ω (λi=>ns.getD i 0) its.size).any (·==k')) (ω (λi=>ns.getD i 0) its.size).length /\
     (∀b o,b<s.heap.objs.size->s.heap.get? b=some o->h'.get? b=some o)) E) aao.init.plain F.entry_set_init (check_set_init_1 vT ?_)) λW5 yk vr=>?_
   ·obtain⟨ol,uo,uc,nn,ud⟩:=hl
    obtain⟨oc,od,oa,X2⟩:=ol;simp only at uc ud;subst uc;subst ud;have X3:(s.heap.push { cls:=.type "set",dict:=none,data:=.set #[] 0 (.fresh 0 0 (fx w)) }).get? l=some { cls:=.type "list",dict:=od,data:=.seq its nn,slots:=X2 }:=Á _ uo;have u1:=F.sub_list_set;have u2:=F.sub_list_frozenset;have fy:(Ŷ "list"==Ŷ "dict")=false:=by decide
    have ul:(s.heap.push { cls:=.type "set",dict:=none,data:=.set #[] 0 (.fresh 0 0 (fx w)) }).IsList l its:=⟨_,X3,rfl,nn,rfl⟩;unfold ň.«set.__init__» noKeywords Builtin.Frozenset.updateFrom;generalize vP:pyIter=PI
    wp_walk
    subst vP;refine ŷ ul ?_;refine À (wpAny_runValue ?_);have uS:l<s.heap.objs.size:=Î uo;have v3:A.in1.in1.in1.handled=none:=by simp[hh]
    have uI:l≠(s.heap.push { cls:=.type "set",dict:=none,data:=.set #[] 0 (.fresh 0 0 (fx w)) }).objs.size:=by
     rw[ú];exact è (Ģ uS)
    have uf:s.heap.objs.size∉[(s.heap.push { cls:=.type "set",dict:=none,data:=.set #[] 0 (.fresh 0 0 (fx w)) }).objs.size,l]:=by
     rw[ú];simp only[Ó,Ü,ĕ,or_false,not_or];exact⟨è (ς _),Ń uS⟩
    have uv:∀(i:Nat) (v:Í),its[i]?=some v->∃t,v=.int ((λi=>ns.getD i 0) i) t:=λi v hv =>
     IntsAre.int_at hi i v (by rw[ĵ];exact hv)
    refine Qp (led:=fx w) ((Walks.list v3 _ l uI its).toS) s.heap.objs.size
     uf (λi=>ns.getD i 0) uv hb (its.size-0) 0 _ (by omega) (Ę _)
     ⟨⟨_,Ì _ rfl,rfl,rfl⟩,(ul.push _)⟩ ?v0 ?vR
    case v0 =>
     have vg:((s.heap.push { cls:=.type "set",dict:=none,data:=.set #[] 0 (.fresh 0 0 (fx w)) }).push { cls:=.type "list_iterator",data:=.fields #[.ref l,.int 0 0] }).get? s.heap.objs.size
       = some { cls:=.type "set",dict:=none,data:=.set #[] 0 (.fresh 0 0 (fx w)) }:=Á _ v
     exact⟨_,#[],0,_,vg,⟨rfl,rfl,rfl⟩,rfl,λe he=>by simp at he,λk=>by simp[firstMet_zero],by unfold aaG;simp,by rfl,rfl,OT _⟩
    case vR =>
     intro s' hm vS;obtain⟨h',g',d',tq,C9⟩:=s';have eg:g'=s.gens:=hm.gens;have ed:d'=s.drawn:=hm.drawn;have eo:C9=s.os:=hm.os;subst eg;subst ed;subst eo;show à _ _ _ _ _ _;refine Â ?_;show à _ _ (ret Value.none) _ _ _;refine Â ⟨rfl,h',tq,rfl,vS,λb o hb e=>?_⟩;have v1:b≠s.heap.objs.size:=è hb;have v2:b≠(s.heap.push { cls:=.type "set",dict:=none,data:=.set #[] 0 (.fresh 0 0 (fx w)) }).objs.size:=by
      rw[ú];exact è (Ģ hb)
     exact hm.heap b o (by simp only[Ó,Ü,ĕ,or_false,not_or];exact⟨v1,v2⟩) (Á _ (Á _ e))
   ·cases W5 with
    |error e=>exact vr
    |ok VP =>
     cases VP with
     |ret r =>
      obtain⟨rfl,h',tk,rfl,vS,vk⟩:=vr
      repeat (any_goals (first|assumption|wp_step))
      exact h _ _ vS vk
     |_=>exact vr.elim
  |_=>exact hr.elim
end
def zI {α:Type}:∀{l:List α} {i:Nat} {x:α},l[i]?=some x->(x::l.eraseIdx i).Perm l
 | [],i,x,h=>by simp at h
 |y::l,0,x,h=>by
  have:y=x:=by simpa using h
  subst this;exact List.Perm.refl _
 |y::l,i+1,x,h=>by
  have ih:=zI (l:=l) (i:=i) (x:=x) (by simpa using h);rw[List.eraseIdx_cons_succ];exact(List.Perm.swap y x _).trans (List.Perm.cons y ih)
def HN {α:Type} (next:Nat->Nat):∀(fuel k:Nat) (left:List α) (out:Array α),left.length=fuel->(pickOrder.go next fuel k left out).toList.Perm (out.toList++left)
 |0,k,left,out,h=>by
  have:left=[]:=aa2.mp h;subst this;unfold pickOrder.go;simp
 |fuel+1,k,left,out,h=>by
  unfold pickOrder.go
  have hm:next k % left.length<left.length:=Nat.mod_lt _ (by omega)
  rw[Ð hm];dsimp only;have he:=zI (Ð hm)
  have ih:=HN next fuel (k+1) (left.eraseIdx (next k % left.length)) (out.push left[next k % left.length]) (by rw[List.length_eraseIdx_of_lt hm];omega)
  refine ih.trans ?_;rw[abl,ķ];exact List.Perm.append_left _ he
def Gn {α:Type} (next:Nat->Nat) (xs:Array α):(ο next xs).toList.Perm xs.toList:=by
 unfold ο
 have:=HN next xs.size 0 xs.toList #[] (by simp)
 simpa using this
section
variable {P:ù} {w:ď} {A:đ} {E:Í->É->Prop}
def NT {α:Type} (n:Nat):∀(xs:List α) (s:É) (Q:List α->É->Prop),xs.length=n->(∀ys d,ys.Perm xs->Q ys { s with drawn:=d })->à (ø P w) A (drawOrder n xs) Q E s:=by
 induction n with
 |zero =>
  intro xs s Q h hQ;have:xs=[]:=aa2.mp h;subst this;unfold drawOrder;exact Â (hQ [] s.drawn (List.Perm.refl _))
 |succ n ih =>
  intro xs s Q h hQ
  cases xs with
  |nil=>simp at h
  |cons x xs =>
   unfold drawOrder;refine À (NQ (by simp) ?_);have hm:w.draws .order (s.drawn.get .order) % (x::xs).length<(x::xs).length:=Nat.mod_lt _ (by simp);rw[Ð hm];dsimp only;refine À (ih _ _ _ (by rw[List.length_eraseIdx_of_lt hm];omega) λys d hp=>?_);refine Â (hQ _ d ?_);exact(List.Perm.cons _ hp).trans (zI (Ð hm))
def Qq {s:É} {a:á} {u:Obj} {es:Array (Int×Í)} {ep:Nat} {t:SetTable} {Q:Í->É->Prop} (hu:s.heap.get? a=some u) (hx:u.ExactSet) (hd:u.data=.set es ep t) (hf:t.fits es.size=true) (ht:iS (fx w) t)
  (hsz:es.size<=Õ)
  (hQ:∀(h':ŏ) (d':Drawn) (I:á) (fp:List á) (St:Nat->É->Prop) (order:List Í),(∀b o,s.heap.get? b=some o->h'.get? b=some o)->(∀b∈fp,b<h'.objs.size)->(∀b∈fp,b=a\/s.heap.objs.size<=b)->I∈fp->s.heap.objs.size<=I->order.Perm (es.toList.map (·.2)) ->
   (∀A':đ,A'.handled=none->WalksS P w A' I fp [I] (λa b=>b=a) es.size (λi v=>order[i]?=some v) St)->St 0 { s with heap:=h',drawn:=d' }->Q (.ref I) { s with heap:=h',drawn:=d' }) :
  à (ø P w) A (pyIter (.ref a)) Q E s:=by
 have hT:s.TypeIs (.ref a) "set":=⟨u,hu,hx.1⟩;have bA:a<s.heap.objs.size:=Î hu;refine wpAny_pyIter_slot hT F.slot_set_iter (Ą F.slot_set_iter hT Mr ?_ (F.args_set_iter_1 _));unfold ň.«frozenset.__iter__» Builtin.Frozenset.slot0 slotArgs;simp only[aaN,ë,Ã,↓reduceIte,bind_assoc,î,ġ];unfold Builtin.Frozenset.addrOf Builtin.Frozenset.sizeOf;refine À (Â ?_)
 try dsimp only
 refine À (Â ?_);refine À (À (ι hu hd hf (Â ?_)));unfold setDrawn;refine À (À (Ż hu hd hf ?_));dsimp only;unfold setsByText;refine À (À (ū (Â ?_)));refine Â ?_
 show à _ _ (if (!(w.params.followText "set-order")&&(!t.plain&&decide (es.size > 1)))=true then _ else _) _ _ _
 have Dv:∀(o1:Obj) b o,s.heap.get? b=some o->(s.heap.push o1).get? b=some o:=λo1 b o e=>Á _ e;by_cases hc:(!w.params.followText "set-order"&&(!t.plain&&decide (es.size > 1)))=true
 ·rw[Ú hc]
  refine À (NT _ _ _ _ (by simp) λys d hp=>?_);refine À ?_;simp only[newTuple];refine ó ?_ (by have:=hp.length_eq;rw[ľ] at this;show (abz _).size<=Õ;rw[Ô,Ä,this];exact hsz);have jz:∀x∈ys,x<es.size:=λx hx=>by simpa using hp.mem_iff.mp hx
  have hl:ys.length=es.size:=by simpa using hp.length_eq
  refine À (wpAny_setEpoch_of (Á _ hu) hd hf ?_);refine À (ó ?_);refine Â ⟨_,rfl,"set_iterator",_,⟨_,Ì _ rfl,rfl⟩,j9.lookup,?_⟩;have sr:(s.heap.push { cls:=.type "tuple",data:=.seq (ys.map λ(i:Nat)=>Ŋ i).toArray }).objs.size=s.heap.objs.size+1:=by simp[ú]
  refine hQ _ d _ [_,a,s.heap.objs.size] _ (ys.map λk=>(es.getD k (0,Value.none)).2) (λb o e=>Á _ (Á _ e)) ?_ ?_ (by simp) (by rw[sr];exact ŵ _) ?_ (λA' ha=>Nk (u:=u) (t:=t) (ep:=ep) ha (I:=_) (a:=a) (tp:=s.heap.objs.size) (by rw[sr];exact è (Ģ bA)) (by rw[sr];exact è (ς _)) hd hf ys hl jz) ⟨⟨_,Ì _ rfl,rfl,rfl⟩,Á _ (Á _ hu),⟨_,Á _ (Ì _ rfl),rfl,_,rfl⟩⟩
  ·intro b hb
   simp only[Ó,ĕ,or_false] at hb;rw[ú]
   rcases hb with e|e|e
   ·rw[e];exact ς _
   ·rw[e,sr];exact Ģ (Ģ bA)
   ·rw[e,sr];exact Ģ (ς _)
  ·intro b hb
   simp only[Ó,ĕ,or_false] at hb
   rcases hb with e|e|e
   ·right;rw[e,sr];exact ŵ _
   ·exact .inl e
   ·right;rw[e];exact Nat.le_refl _
  ·refine(List.Perm.map _ hp).trans ?_
   have:(ß es.size).map (λk=>(es.getD k (0,Value.none)).2)=es.toList.map (·.2):=by
    apply ź;intro i;rw[ç,ç];by_cases hi:i<es.size
    ·rw[Ĕ hi,ĵ]
     simp[aca,hi]
    ·rw[Ċ (by simpa using hi),Ċ (by simpa using hi)]
     rfl
   rw[this]
 ·rw[æ hc]
  refine À (Â ?_);refine À (wpAny_setEpoch_of hu hd hf ?_);refine À (ó ?_);refine Â ⟨_,rfl,"set_iterator",_,⟨_,Ì _ rfl,rfl⟩,j9.lookup,?_⟩;have ao:∀(o1:Obj),∀b∈[s.heap.objs.size,a],b<(s.heap.push o1).objs.size:=λo1 b hb=>by
   simp only[Ó,ĕ,or_false] at hb;rw[ú]
   rcases hb with e|e
   ·rw[e];exact ς _
   ·rw[e];exact Ģ bA
  have KJ:∀b∈[s.heap.objs.size,a],b=a\/s.heap.objs.size<=b:=λb hb=>by
   simp only[Ó,ĕ,or_false] at hb
   rcases hb with e|e
   ·right;rw[e];exact Nat.le_refl _
   ·exact .inl e
  cases iF:w.params.followText "set-order" with
  |true =>
   have X4:(ο (w.params.setOrder a ep) es).size=es.size:=by
    have:=(Gn (w.params.setOrder a ep) es).length_eq;simpa using this
   have hw:∀A':đ,A'.handled=none->WalksS P w A' s.heap.objs.size [s.heap.objs.size,a] [s.heap.objs.size] (λa b=>b=a) es.size (λi v=>((ο (w.params.setOrder a ep) es).toList.map (·.2))[i]?=some v) _:=λA' ha=>by
    have:=NR (P:=P) (u:=u) (t:=t) ha (I:=s.heap.objs.size) (a:=a) (è bA) iF hd hf X4;simpa using this
   exact hQ _ s.drawn _ [_,a] _ ((ο (w.params.setOrder a ep) es).toList.map (·.2)) (λb o e=>Á _ e) (ao _) KJ (by simp) (Nat.le_refl _) (List.Perm.map _ (Gn _ _)) hw ⟨⟨_,Ì _ rfl,rfl,rfl⟩,Á _ hu⟩
  |false =>
   have hp:t.plain=true\/es.size<=1:=by
    rw[iF] at hc;simp at hc
    cases cM:t.plain with
    |true=>exact .inl rfl
    |false=>exact .inr (hc cM)
   have hl:t.led=true:=by rw[ht.led];unfold fx;rw[iF];rfl
   have hr:kD t.place.toList:=by
    rcases hp with hp|hp
    ·exact ht.rise hp
    ·simp only[SetTable.fits,Ç,beq_iff_eq,È] at hf
     have hle:t.place.toList.length<=1:=by simp[hf.1];exact hp
     match t.place.toList,hle with
     | [],_=>exact List.Pairwise.nil
     | [x],_=>exact aa3 _ _
   have hw:∀A':đ,A'.handled=none->WalksS P w A' s.heap.objs.size [s.heap.objs.size,a] [s.heap.objs.size] (λa b=>b=a) es.size (λi v=>(es.toList.map (·.2))[i]?=some v) _:=λA' ha=>by
    have:=Nj (P:=P) (u:=u) (t:=t) (ep:=ep) ha (I:=s.heap.objs.size) (a:=a) (è bA) iF hd hf hl hp hr;simpa using this
   exact hQ _ s.drawn _ [_,a] _ (es.toList.map (·.2)) (λb o e=>Á _ e) (ao _) KJ (by simp) (Nat.le_refl _) (List.Perm.refl _) hw ⟨0,⟨_,Ì _ rfl,rfl,rfl⟩,Á _ hu,Ę _,λk hk=>by omega,λk _ _=>Ę _⟩
end
section
variable {P:ù} {w:ď} {A:đ} {E:Í->É->Prop} {s:É}
def split_len:splitId "set.__len__"=some ("set","__len__"):=by decide +kernel
def ints_of (h:ElemsOf (Ŧ P w) es) (hp:vs.Perm (es.map (·.2))):∃ns,abh vs ns:=by
 have hv:∀v∈vs,∃k t,v=.int k t:=λv hv=>by
  obtain⟨e,he,rfl⟩:=ö.mp (hp.mem_iff.mp hv);obtain⟨⟨k,hk,_⟩,_⟩:=h e he
  cases hx:e.2 with
  |int i t=>exact⟨i,t,rfl⟩
  |_=>rw[hx] at hk;simp[Ŧ,Value.isInt] at hk
 clear hp
 induction vs with
 |nil=>exact⟨[],.nil⟩
 |cons v vs ih =>
  obtain⟨k,t,rfl⟩:=hv v Ò;obtain⟨ns,h2⟩:=ih λx hx=>hv x (Ñ _ hx);exact⟨k::ns,.cons k t h2⟩
def Jc {α:Type} {c:Bool} {x y:Sem α} {Q:α->É->Prop} (hc:c=true) (h:à (ø P w) A x Q E s):à (ø P w) A (if c=true then x else y) Q E s:=by
 rw[Ú hc];exact h
def Nl {a:á} {u:Obj} {es:Array (Int×Í)} {ep:Nat} {t:SetTable} {Q:List Í->É->Prop} (hh:A.handled=none) (hu:s.heap.get? a=some u) (hx:u.ExactSet) (hd:u.data=.set es ep t) (hf:t.fits es.size=true) (ht:iS (fx w) t) (hsz:es.size<aaG)
  (hQ:∀(h':ŏ) (d':Drawn) (tk:Nat) (vs:List Í),s.heap.objs.size<=h'.objs.size->(∀b o,s.heap.get? b=some o->h'.get? b=some o)->vs.Perm (es.toList.map (·.2))->Q vs { s with heap:=h',drawn:=d',toks:=tk }):à (ø P w) A (collect (.ref a)) Q E s:=by
 have hz:es.size<=Õ:=aau hsz;have bA:a<s.heap.objs.size:=Î hu;unfold collect;refine À (wpAny_runValue (ī F.entry_proto_collect ?_));rw[Ė F.plain_proto_collect _];show à _ A.in1 (newList [] >>= λl=>again (.builtin "list.__iadd__" ⟨[l,.ref a],[]⟩)) _ _ s;refine À (ó ?_);refine Â ⟨Ł F.plain_list_iadd _,ī F.entry_list_iadd ?_⟩;rw[Ė F.plain_list_iadd _];show à _ A.in1 (abV (.ref s.heap.objs.size) (.ref a) (.ref s.heap.objs.size)) _ _ _
 generalize fO:({ s with heap:=s.heap.push { cls:=.type "list",data:=.seq ([]:List Í).toArray } }:É)=s1
 have vj:s1.heap.objs.size=s.heap.objs.size+1:=by rw[<- fO];simp[ú]
 have CC:∀b o,s.heap.get? b=some o->s1.heap.get? b=some o:=λb o e=>by rw[<- fO];exact Á _ e
 have Dw:s1.heap.get? a=some u:=by rw[<- fO];exact Á _ hu
 have hT:s1.TypeIs (.ref a) "set":=⟨u,Dw,hx.1⟩;have yQ:s1.heap.get? s.heap.objs.size=some { cls:=.type "list",data:=.seq ([]:List Í).toArray }:=by rw[<- fO];exact Ì _ rfl
 unfold abV;refine À (abw hT ?_);have n1:Builtin.List.listSameRef (.ref s.heap.objs.size) (.ref a)=false:=by
  simp[Builtin.List.listSameRef];exact Ń bA
 have n2:(Ŷ "set"==Ŷ "list")=false:=by decide
 have n3:(Ŷ "set"==Ŷ "tuple")=false:=by decide
 simp only[n1,n2,n3,Bool.or_false,Ã,ê];refine À (Qq Dw hx hd hf ht hz λh' d' I fp St order k1 k2 k6 k3 k4 k5 W st=>?_)
 have Dx:Shared.TypeIs { s1 with heap:=h',drawn:=d' } (.ref a) "set":=⟨u,k1 _ _ Dw,hx.1⟩
 have Lq:=k1 _ _ yQ;refine À (ė ?_);unfold Builtin.List.listLengthHint;refine À (abW Dx F.slot_set_len.lookup ?_);dsimp only;rw[split_len];dsimp only;refine À (aaL Dx sub_set_self ?_);rw[æ (by decide)];refine Jc (by decide +kernel) ?_;refine À (abw Dx ?_);dsimp only;refine Â ?_;refine Jc (by decide +kernel) ?_
 ··refine À (ś ?_)
   refine À ?_;show à _ A.in1 (updateSeq s.heap.objs.size (·.push .none) >>= λ_=>updateSeq s.heap.objs.size (·.pop)) _ _ _;refine À (š Lq rfl ?_);have Lr:=ă (Ī (·.push Value.none)) Lq rfl;refine š Lr rfl ?_;have X5:=ă (Ī (·.pop)) Lr rfl;have vi:s.heap.objs.size∉fp:=λhm=>by
    rcases k6 _ hm with e|e
    ·exact Ń bA e
    ·rw[vj] at e;exact Nat.not_succ_le_self _ e
   have Dv:∀b o,b≠s.heap.objs.size->h'.get? b=some o->((h'.update s.heap.objs.size (Ī (·.push Value.none))).update s.heap.objs.size (Ī (·.pop))).get? b=some o :=
    λb o hb e=>(ÿ _ _ (Ň hb)).trans ((ÿ _ _ (Ň hb)).trans e)
   refine Â ⟨Ł F.plain_extend_loop _,codeAny_extend_loopS (W A.in1 (by simp[hh])) hz _ vi _ es.size 0 _ _ _ rfl (Ę _) ((W A.in1 (by simp[hh])).frame 0 ({ s1 with heap:=h',drawn:=d' }:É) _ s1.toks st (Nat.le_refl _) λb hb o e=>Dv b o (λz=>vi (z ▸ hb)) e) X5 (ItemsOf.nil _) λs' acc c m Ls jS=>?_⟩
   show à _ A (load s.heap.objs.size >>= _) _ _ s';refine À (wpAny_load Ls ?_);refine Â ?_;have X6:order.length=es.size:=by simpa using k5.length_eq
   have W6:acc.toList=order:=by
    apply ź;intro j;by_cases hj:j<acc.size
    ·have e1:acc[j]?=some acc[j]:=by simp[hj]
     rw[ĵ,e1,jS.2 j _ e1]
    ·rw[Ċ (by simpa using hj),Ċ (by rw[X6,<- jS.1];omega)]
   obtain⟨h2,g2,d2,t2,o2⟩:=s';have eg:g2=s1.gens:=m.gens;have ed:d2=d':=m.drawn;have eo:o2=s1.os:=m.os;subst eg ed eo;have q:=hQ h2 d2 t2 acc.toList (Nat.le_of_lt (Î Ls)) (λb o e=>m.heap b o (λhb=>by
    simp only[Ó,ĕ,or_false] at hb;have mJ:=Î e
    rcases hb with z|z
    ·rw[z] at mJ;exact é _ mJ
    ·rw[vj] at k4;rw[z] at mJ;exact é _ (Ê mJ (Nat.le_of_succ_le k4))) (Dv b o (λz=>by
     have mJ:=Î e;rw[z] at mJ;exact é _ mJ) (k1 b o (CC b o e)))) (by rw[W6];exact k5)
   rw[<- fO];exact q
end
section
variable {P:ù} {w:ď} {A:đ} {E:Í->É->Prop} {s:É}
def NU (hh:A.handled=none) (hu:s.heap.get? a=some u) (hx:u.ExactSet) (hd:u.data=.set es ep t) (hf:t.fits es.size=true) (ht:iS (fx w) t) (Dy:ElemsOf (Ŧ P w) es.toList) (h64:es.size<64)
 (h:∀(h':ŏ) (d':Drawn) (tk:Nat) (p:á) (vs:List Í) (ns:List Int) (out:List Í) (ms:List Int) (e:Nat),(∀b o,s.heap.get? b=some o->h'.get? b=some o)->s.heap.objs.size<=p->vs.Perm (es.toList.map (·.2))->abh vs ns->h'.get? p=some { cls:=.type "list",data:=.seq out.toArray e }->abh out ms->ms.Perm ns->ms.Pairwise (·<=·)->Q (.ref p) { s with heap:=h',drawn:=d',toks:=tk }) :
  à (ø P w) A (call (.builtin "sorted") [.ref a]) Q E s:=by
 refine Calls.call_function_entry kind_sorted plain_sorted entry_sorted (args_sorted1 _) ?_;unfold ň.«sorted»;refine À (m:=checkCount "sorted" 1 1 _) (Â ?_);refine À (Nl (by simp[hh]) hu hx hd hf ht (by unfold aaG;omega) λh' d' tk vs k0 k1 k2=>?_);obtain⟨ns,hI⟩:=ints_of Dy k2;have hl:vs.length<64:=by have:=k2.length_eq;simp at this;omega
 refine À (abK ?_);have uR:(h'.push (ab1 "list" vs.toArray 0)).get? h'.objs.size=some (ab1 "list" vs.toArray 0):=Ì _ rfl;refine À (ė (Ą slot_list_sort ⟨_,uR,rfl⟩ entry_list_sort (list_sort_tree uR hI hl λout ms a1 a2 a3=>⟨_,rfl,?_⟩) (args_list_sort _)));obtain⟨e,he⟩:=sortedHeap_at (out:=out) uR;refine Â ⟨_,rfl,h _ d' tk h'.objs.size vs ns out.toList ms e (λb o hb=>?_) ?_ k2 hI (by simpa [ab1] using he) a1 a2 a3⟩
 ·have gR:=k1 b o hb
  have bA:=Î gR;rw[sortedHeap_old (è bA) (by rw[size_push'];exact Ģ bA)];exact Á _ gR
 ·exact k0
end
end TS
namespace L2
open PySem PySem.Spec PyProof.Rows
def lM (P:ù) (w:ď) (p:á) (ns:List Int):ŏ->Prop:=λh=>∃(S:Int->Bool) (n:Nat),TS.gG P w (TS.fx w) h p S n/\(∀k,S k=true↔k∈ns)/\n<=ns.length/\n=(ns.foldl step_dedup []).length
section
variable {X:Cx}
def ng (l:List Int) (k:Int):(l.any (·==k))=true↔k∈l:=by
 rw[Ņ];exact⟨λ⟨x,h1,h2⟩=>by rw[<- beq_iff_eq.mp h2];exact h1,λh=>⟨k,h,by simp⟩⟩
def RX (hm:m=ns.length) (hS:TS.gG X.prog X.w (TS.fx X.w) h p (λk'=>(ω (λi=>ns.getD i 0) m).any (·==k')) (ω (λi=>ns.getD i 0) m).length):lM X.prog X.w p ns h:=by
 subst hm;refine⟨_,_,hS,λk=>?_,firstMet_length_le _ _,?_⟩
 ·rw[firstMet_any,map_getD]
  exact ng ns k
 ·unfold ω
  rw[map_getD]
def RY (hx:lM X.prog X.w p ns h):cF X.prog X.w (upd H p (.ext (lM X.prog X.w p ns))) h p (.ext (lM X.prog X.w p ns)):=by
 refine⟨hx,?_,λh1 h2 q k=>?_⟩
 ·obtain⟨_,_,⟨o,_,_,_,ho,_⟩,_⟩:=hx
  exact⟨o,ho⟩
 ·obtain⟨S,n,T,r⟩:=q
  exact⟨S,n,T.at k,r⟩
def NV (hc:X.calm=true):bV X (.type "set") (λxs H Q=>∃(a:á) (ns:List Int),xs=[.ref a]/\bp X.K H a (ns.map V.int)/\ns.length<4000/\∀p,H p=none->Q (.ref p) (upd H p (.ext (lM X.prog X.w p ns)))):=by
 intro π s σ H xs us Q I r h;obtain⟨a,ns,rfl,ha,hl,q⟩:=h;obtain⟨u,rfl,ru⟩:=vals1 r;cases ru;obtain⟨its,rv,p,_⟩:=I.list ha;have hn:its.toArray.size=ns.length:=by
  have e:=rv.length;rw[Ä] at e;simpa using e.symm
 refine TS.NS (its:=its.toArray) (ns:=ns) (I.ok.hd hc) p.isList (by simpa using intsAre_of rv) (by rw[hn];show ns.length+1<4096;omega) λh' tk hS hk=>?_;exact⟨.ref _,_,I.laid (t':=tk) (λb o e=>hk b o (Î e) e) (Nat.le_refl _) (RY (RX hn hS)),rfl,q _ (I.aE.fresh (Nat.le_refl _))⟩
def Fs:∀{out:List Í} {ms:List Int},abh out ms->Vals (ms.map V.int) out
 |_,_,.nil=>.nil
 |_,_,.cons n t h=>.cons ⟨t,rfl⟩ (Fs h)
def FG:∀(ns acc:List Int),acc.Nodup->(ns.foldl step_dedup acc).Nodup
 | [],acc,h=>h
 |n::ns,acc,h=>by
  refine FG ns _ ?_;unfold step_dedup;split
  ·exact h
  ·rename_i hn
   rw[aaM] at hn;refine aav.mpr ⟨h,by simp,λa ha b hb=>?_⟩;have:b=n:=by simpa using hb
   subst this;intro e;subst e;rw[(ng acc a).mpr ha] at hn;cases hn
def GZ:∀{vs:List Í} {ns:List Int},abh vs ns->∀k,k∈ns↔∃t,abN k t∈vs
 |_,_,.nil,k=>by simp
 |_,_,.cons n t h,k=>by
  rw[Ó,GZ h k];constructor
  ·rintro (e | ⟨t',h'⟩)
   ·subst e;exact⟨t,Ò⟩
   ·exact⟨t',Ñ _ h'⟩
  ·rintro ⟨t',h'⟩
   rcases Ó.mp h' with e|h'
   ·injection e with e _;exact .inl e
   ·exact .inr ⟨t',h'⟩
def sub_len:∀{m l:List Int},m.Nodup->(∀k,k∈m->k∈l)->m.length<=l.length
 | [],l,_,_=>Ę _
 |x::m,l,h,hk=>by
  obtain⟨h1,h2⟩:=aad.mp h;have hx:=hk x Ò;have ih:=sub_len (m:=m) (l:=l.erase x) h2 λk hm=>(List.mem_erase_of_ne (λ(e:k=x)=>h1 (by rw[<- e];exact hm))).mpr (hk k (Ñ _ hm));rw[List.length_erase_of_mem hx] at ih;have:=List.length_pos_of_mem hx;rw[å];omega
def Fu:∀{l m:List Int},m.Nodup->(∀k,k∈m↔k∈l)->l.length<=m.length->l.Nodup
 | [],m,_,_,_=>ab5
 |a::r,m,hm,hk,hl=>by
  have ha:a∉r:=λh=>by
   have:=sub_len hm λk h'=>(Ó.mp ((hk k).mp h')).elim (λe=>e ▸ h) id;rw[å] at hl;omega
  have X7:a∈m:=(hk a).mpr Ò;refine aad.mpr ⟨ha,Fu (m:=m.erase a) (hm.erase a) (λk=>?_) ?_⟩
  ·rw[hm.mem_erase_iff,hk k,Ó]
   constructor
   ·rintro ⟨h1,h2|h2⟩
    ·exact absurd h2 h1
    ·exact h2
   ·intro h
    exact⟨λe=>ha (e ▸ h),.inr h⟩
  ·rw[List.length_erase_of_mem X7]
   rw[å] at hl;omega
def MS (hc:X.calm=true):bV X (.builtin "sorted") (λxs H Q=>∃(p:á) (ns:List Int),xs=[.ref p]/\H p=some (.ext (lM X.prog X.w p ns))/\ns.length<64 /\
  ∀(l:á) (ms:List Int),H l=none->ms.Pairwise (· < ·)->(∀k,k∈ms↔k∈ns)->Q (.ref l) (upd H l (.lst (ms.map V.int)))):=by
 intro π s σ H xs us Q I r h;obtain⟨p,ns,rfl,hp,hl,q⟩:=h;obtain⟨v,rfl,rv⟩:=vals1 r;cases rv;obtain⟨⟨S,n,⟨u,es,ep,t,hu,hx,hd,Dy,W7,hb,hf,hn,ht⟩,hS,Dz,sk⟩,_⟩:=I.aE p _ hp;refine TS.NU (I.ok.hd hc) hu hx hd hf ht Dy (by omega) λh' d' tk l vs ks out ms e k1 k2 k3 k4 k5 k6 k7 k8=>?_;have JS:∀k,k∈ms↔k∈ns:=λk=>by
  rw[k7.mem_iff,GZ k4 k,<- hS k,W7 k];constructor
  ·rintro ⟨t',X8⟩
   obtain⟨x,mK,l0⟩:=ö.mp (k3.mem_iff.mp X8);exact⟨x,mK,by rw[l0];exact intKind_is _ _ _ _⟩
  ·rintro ⟨x,mK,l0⟩
   obtain⟨i,t',e'⟩:∃i t',x.2=.int i t':=by
    cases hv:x.2 with
    |int i t'=>exact⟨i,t',rfl⟩
    |_=>rw[hv] at l0;simp[Ŧ,Value.isInt] at l0
   have qd:k=i:=(Ŧ X.prog X.w).inj (.int i t') k i (by rw[<- e'];exact l0) (intKind_is _ _ _ _);subst qd;exact⟨t',k3.mem_iff.mpr (ö.mpr ⟨x,mK,e'⟩)⟩
 have W8:ms.Nodup:=by
  have qe:=FG ns [] ab5;refine Fu qe (λk=>?_) ?_
  ·rw[JS k,<- ng,<- ng]
   have:=firstMet_any (λi=>ns.getD i 0) ns.length k;unfold ω at this;rw[map_getD] at this;rw[this]
  ·rw[<- sk,<- hn]
   have e1:=k7.length_eq;have e2:=k4.length;have e3:=k3.length_eq;simp at e3;omega
 have bA:ms.Pairwise (· < ·):=by
  have:=List.pairwise_and_iff.mpr ⟨k8,W8⟩;exact this.imp λ⟨a,b⟩=>by omega
 have J:=I.laid (t':=tk) (a:=l) (o:=.lst (ms.map V.int)) k1 k2 ⟨by
  rw[Ä,ζ];have e1:=k7.length_eq;have e2:=k4.length;have e3:=k3.length_eq;simp at e3;omega,out,e,Fs k6,k5⟩
 exact⟨.ref l,_,J.xJ (s':={ s with heap:=h',drawn:=d',toks:=tk }) (ch:=[]) rfl Un.refl J.aE J.bare (λb hb=>by cases hb),rfl,q l ms (I.aE.fresh k2) bA JS⟩
end
section
variable {X:Cx}
end
mutual
noncomputable def j3:aaD->Bool
 | .tuple ds=>iW ds
 | .list _=>false
 |_=>true
noncomputable def iW:List aaD->Bool
 | []=>true
 |d::ds=>j3 d&&iW ds
end
section
variable {X:Cx} {π:List (á×Obj)} {σ:St} {H:Hp} {s:É} {Z:á->Prop}
mutual
def DV.tK (I:Inv X π σ H s):∀{d:aaD} {v:V} {u:Í},DV X.K Z H d v->RelV v u->j3 d=true->∃as,Reads s.heap u d as/\ł∉as
 | .none,v,u,h,r,_=>by
  have e:v=.au:=h;subst e;cases r;exact⟨[],.none,by simp⟩
 | .bool b,v,u,h,r,_=>by
  have e:v=.bl b:=h;subst e;cases r;exact⟨[],.bool b,by simp⟩
 | .int i,v,u,h,r,_=>by
  have e:v=.int i:=h;subst e;obtain⟨t,rfl⟩:=r;exact⟨[],.int i t,by simp⟩
 | .str x,v,u,h,r,_=>by
  have e:v=.str x:=h;subst e;obtain⟨t,rfl⟩:=r;exact⟨[],.str x t,by simp⟩
 | .tuple ds,v,u,h,r,hn=>by
  simp only[DV] at h;obtain⟨a,xs,e,hq,hr⟩:=h;subst e;cases r;obtain⟨its,rv,⟨o,e,c,n,hd⟩,_⟩:=I.tuple hq;obtain⟨as,rs,hs⟩:=ar.tK I hr rv (by simpa only [j3] using hn);exact⟨as,.tuple e c hd (by simpa using rs),hs⟩
 | .list ds,v,u,h,r,hn=>by
  simp only[j3] at hn;cases hn
 | .dict ai,v,u,h,r,_=>by
  simp only[DV] at h;obtain⟨a,es,e,_,hq,l,e1,e2⟩:=h;subst e e1 e2;cases r;obtain⟨_,Cv,vs,kv,o,gk,ep,g1,g2,g3,_,g5,_⟩:=(show cF X.prog X.w H s.heap a (.dK _) from I.aE a _ hq);obtain⟨r1,r2⟩:=wz (h:=s.heap) kv g5;refine⟨a::[]++[],.dict g1 g2.1 g3 r1 r2,λhm=>?_⟩;have e:ł=a:=by simpa using hm
  subst e;simp at Cv
def ar.tK (I:Inv X π σ H s):∀{ds:List aaD} {vs:List V} {us:List Í},ar X.K Z H ds vs->Vals vs us->iW ds=true->∃as,ReadsAll s.heap us ds as/\ł∉as
 | [],vs,us,h,r,_=>by
  have e:vs=[]:=h;subst e;cases r;exact⟨[],.nil,by simp⟩
 |d::ds,vs,us,h,r,hn=>by
  obtain⟨v,rr,e,h1,h2⟩:=h;subst e;simp only[iW,Ç] at hn
  cases r with
  |cons ru rt =>
   obtain⟨as,a1,n1⟩:=DV.tK I h1 ru hn.1;obtain⟨bs,a2,n2⟩:=ar.tK I h2 rt hn.2;refine⟨as++bs,.cons a1 a2,λhm=>?_⟩
   rcases Ù.mp hm with z|z
   ·exact n1 z
   ·exact n2 z
end
end
section
variable {X:Cx}
def NW (hr:bT k X.A):bV X (.builtin "repr") (λxs H Q=>∃(x:V) (ds:List aaD) (Z:á->Prop),xs=[x]/\DV X.K Z H (.tuple ds) x/\(PyData.tuple ds).showable=true/\((PyData.tuple ds).hasDict=false\/iW ds=true)/\(PyData.tuple ds).depth<=100/\(PyData.tuple ds).shown.length<=Õ/\Q (.str (PyData.tuple ds).shown) H):=by
 intro π s σ H xs us Q I r h;obtain⟨x,ds,Z,rfl,hd,hs,sk,vd,hz,q⟩:=h;obtain⟨u,rfl,ru⟩:=vals1 r;have yM:X.A.units+((PyData.tuple ds).depth+1)<abP:=by have:=hr.un;omega
 have go:∀as,Reads s.heap u (.tuple ds) as->((PyData.tuple ds).hasDict=true->ł∉as)->à (ø X.prog X.w) X.A (call (.builtin "repr") [u]) (EP X π σ Q) X.xe s:=λas rd Dl=>by
  obtain⟨a,e⟩:∃a,u=.ref a:=by cases rd;exact⟨_,rfl⟩
  subst e;exact repr_of_reads' rd hs Dl hr.gd yM (λ_ _ e=>e) (λh' t tk hk=>⟨.str _,H,I.kept (t':=tk) hk,⟨t,rfl⟩,q⟩) hz
 rcases sk with e|e
 ·obtain⟨as,rd⟩:=hd.reads I ru
  exact go as rd λz=>by rw[e] at z;cases z
 ·obtain⟨as,rd,hn⟩:=hd.tK I ru (by simpa only [j3] using e)
  exact go as rd λ_=>hn
end
end L2
namespace HZ
open PySem PySem.Spec PyProof.Rows
open AutoSeq1 (wpAny_loadPart')
section
variable {P:ù} {w:ď} {A:đ} {E:Í->É->Prop} {s:É}
end
end HZ
namespace L2
open PySem PySem.Spec PyProof.Rows
section
variable {X:Cx} {elts:List ļ} {kk:Nat} {tp:Pos}
end
section
variable {K:Ĳ} {caps:St} {H:Hp} {tf:TT} {te:TE} {Q:VK}
end
end L2
namespace HZ
open PySem PySem.Spec PyProof.Rows
def Mh:fillsNumberSlot (.type "tuple") "mul"=pure false:=by
 first|rfl | (unfold fillsNumberSlot;kernel_rfl)|kernel_rfl
def MT:seqRepeat? (.type "tuple")=pure (some (.builtin "tuple.__mul__")):=by
 first|rfl|kernel_rfl
def NX (a:Int) (t:Tok) (l:á) (items:Array Í) (n:Nat) (d:Option á) (sl:Array (Option Í)) :
  Meets (ň.«int.__rmul__» ⟨[.int a t,.ref l],[]⟩) (λ_ R s=>s.heap.get? l=some { cls:=.type "tuple",dict:=d,data:=.seq items n,slots:=sl }/\R (.ok (.ret Value.notImplemented)) s) :=
 .of_wp λprog w A R s h=>by
  obtain⟨h1,h2,h3,h4,h5⟩:=s;obtain⟨hl,h⟩:=h;wp_walk;exact⟨_,rfl,h⟩
section
variable {P:ù} {w:ď} {A:đ} {E:Í->É->Prop} {s:É}
def AG (ht:IsTup s.heap t vs.toArray) (hv:vs≠[]) (hk:1<=k) (hz:vs.length*k.toNat<=Õ)
 (h1:k=1->Q (.ref t) s) (h2:k≠1->Q (.ref s.heap.objs.size) { s with heap:=s.heap.push { cls:=.type "tuple",data:=.seq (Ï k.toNat vs).flatten.toArray } }) :
  à (ø P w) A (ŋ .Mult (.ref t) (.int k tk)) Q E s:=by
 obtain⟨⟨cls,dd,data,sl⟩,ho,hc,n,hd⟩:=id ht;simp only at hc hd;subst hc hd;have gr:k<=16777216:=by
  have hl:1<=vs.length:=by
   cases vs with
   |nil=>exact absurd rfl hv
   |cons a r=>simp
  have lW:vs.length*k.toNat<=16777216:=by rw[<- ζ];exact hz
  have:1*k.toNat<=vs.length*k.toNat:=aaz _ hl;omega
 refine wpAny_binaryOp_repeat_ref (T:="tuple") (U:="int") (by decide) ⟨_,ho,rfl⟩ (λs'=>typeIs_int s' k tk) Mh F.fills_int_mul abR MT F.slot_int_index.lookup
  (call_meets abR (typeIs_int s k tk) F.entry_int_rmul (F.args_int_rmul_2 _ _) (NX k tk t vs.toArray n dd sl) ⟨ho,rfl,⟨_,ho,rfl⟩,?_⟩)
 refine Ą F.slot_tuple_mul ⟨_,ho,rfl⟩ F.entry_tuple_mul ?_ (F.args_tuple_mul_2 _ _);show à _ _ (asIndex (.int k tk) >>= _) _ _ _;refine À ?_
 refine Š (a:=k) (by first|rfl | (unfold asIndex;rfl)) ?_
 dsimp only;rw[æ (by simp;omega)];unfold ŧ;refine À (À (Ě ho rfl ?_));refine Â ?_;have ne:vs.toArray.isEmpty=false:=by
  cases vs with
  |nil=>exact absurd rfl hv
  |cons a r=>simp
 by_cases h:k=1
 ·rw[Ú (by rw[h];simp)]
  unfold aax;refine À (À (abw (T:="tuple") ⟨_,ho,rfl⟩ (Â ?_)));rw[Ú (by decide)];exact À (ś (Â ⟨_,rfl,h1 h⟩))
 ·rw[æ (by rw[ne];simp[h])]
  rw[æ (by rw[ne];simp;omega)];have hm:(vs.toArray.size:Int)*k=((vs.length*k.toNat:Nat):Int):=by
   rw[Ô,Int.natCast_mul];congr 1;omega
  have DA:vs.length*k.toNat<=16777216:=by rw[<- ζ];exact hz
  rw[æ (by rw[hm];omega)];rw[æ (by
   unfold Builtin.Tuple.tupleTooMany;rw[hm,ζ,È];generalize vs.length*k.toNat=q at DA;omega)]
  unfold Ő;have e:List.foldl (λx1 x2=>x1++x2) #[] (Ï k.toNat vs.toArray)=(Ï k.toNat vs).flatten.toArray:=by
   have:=L2.foldl_rep vs k.toNat [];rw[ģ] at this;exact this
  rw[e];refine À (ó ?_ (by
   show (abz _).size<=Õ;rw[Ô,L2.len_rep,Nat.mul_comm];exact hz))
  exact Â ⟨_,rfl,h2 h⟩
end
end HZ
namespace L2
open PySem PySem.Spec PyProof.Rows
section
variable {X:Cx}
def VQ (K:Ĳ):R2:=λx y H Q=>∃a xs k,x=.ref a/\y=.int k/\aR K H a xs/\xs≠[]/\1<=k/\xs.length*k.toNat<=Õ/\nP K H (Ï k.toNat xs).flatten Q
def RZ:aW X (ŋ .Mult) (VQ X.K):=by
 intro π s σ H x y v u Q I rx ry h;obtain⟨a,xs,k,rfl,rfl,hs,hx,hk,hz,q⟩:=h;cases rx;obtain⟨t,rfl⟩:=ry;obtain⟨its,r,p,z⟩:=I.tuple hs;have hl:=r.length;refine HZ.AG p (λe=>hx (by rw[e] at hl;exact aa2.mp hl)) hk (by rw[<- hl];exact hz) (λe=>?_) (λ_=>?_)
 ·have e1:(Ï k.toNat xs).flatten=xs:=by rw[e];simp
  rw[e1] at q;exact⟨.ref a,H,I,rfl,q.here hs⟩
 ·have lW:(Ï k.toNat xs).flatten.length<=Õ:=by rw[len_rep,Nat.mul_comm];exact hz
  exact⟨.ref _,_,I.laid (t':=s.toks) (o:=.tup (Ï k.toNat xs).flatten) (λb o e=>Á _ e) (Nat.le_refl _) ⟨lW,_,r.rep k.toNat,⟨_,Ì _ rfl,rfl,_,rfl⟩⟩,rfl,q.new (I.aE.fresh (Nat.le_refl _))⟩
end
end L2
namespace HZ
open PySem PySem.Spec PyProof.Rows
def HP:mroOf (.type "reversed")=pure [.type "reversed",.type "object"]:=by rw[mroOf_type];kernel_rfl
def Ms:typeLookup (.type "reversed") "__new__"=pure (some (.builtin "reversed.__new__")):=by rw[typeLookup_type,abA];kernel_rfl
def Qr:Bind.madeBy (.type "reversed")=pure (some "reversed.__new__"):=madeBy_type HP Ms (by decide +kernel)
def MC:entryFor table "reversed.__new__"=some ň.«reversed.__new__»:=entryFor_of_tree (by kernel_rfl)
def MD:plainId "reversed.__new__"=true:=by decide +kernel
def MU (a:Í):checkTypeCall "reversed" ⟨[a],[]⟩=pure ():=by kernel_rfl
def Nm (a:Í):checkBuiltinCall "reversed.__new__" ⟨[.type "reversed",a],[]⟩=pure ():=by kernel_rfl
def R1:isSubtype (.type "reversed") (.type "reversed")=pure true:=by rw[isSubtype_type];kernel_rfl
def NY:isSubtype (.type "range_iterator") (.type "reversed")=pure false:=by rw[isSubtype_type];kernel_rfl
def MV:(Ŷ "reversed"==Ŷ "type")=false:=by decide +kernel
def R3:((Manifest.find? "reversed").bind (·.mro.findSome? λt=>(Manifest.find? t).bind λb=>if b.noNew then some true else if b.attrs.any (·.1=="__new__") then some false else none)).getD false=false:=by decide +kernel
section
variable {P:ù} {w:ď} {A:đ} {E:Í->É->Prop} {s:É}
def MW (hr:s.heap.get? r=some { cls:=.type "range",data:=.fields #[.int a t1,.int b t2,.int c t3] }) (h:Q (a,b,c) s):à (ø P w) A (ab6 (.ref r)) Q E s:=by
 unfold ab6;refine À (Ĵ hr rfl (x:=.int a t1) rfl ?_);refine À (Š (a:=some a) (by rfl) ?_);refine À (Ĵ hr rfl (x:=.int b t2) rfl ?_);refine À (Š (a:=some b) (by rfl) ?_);refine À (Ĵ hr rfl (x:=.int c t3) rfl ?_);refine À (Š (a:=some c) (by rfl) ?_);exact Â h
def R4 {n:Nat} {Q:Í->É->Prop} (hr:s.heap.get? r=some { cls:=.type "range",data:=.fields #[.int 0 t1,.int n t2,.int 1 t3] }) (hn:n<2 ^ 62)
 (h:Q (.ref s.heap.objs.size) { s with heap:=s.heap.push { cls:=.type "range_iterator",data:=.fields #[Ŋ (n-1),Ŋ n,Ŋ (-1)] } }) :
  à (ø P w) A (ň.«reversed.__new__» ⟨[.type "reversed",.ref r],[]⟩) (λfin s'=>∃v,fin=.done (.ret v)/\Q v s') E s:=by
 have hT:s.TypeIs (.ref r) "range":=⟨_,hr,rfl⟩;have ss:=R1;unfold ň.«reversed.__new__» Builtin.SmallTypes.newClass Builtin.SmallTypes.refuseKeywords;have l1:=aap.lookup;have l2:=aap.bind (.ref r)
 wp_walk
 refine Ů (codeAny_call_builtin (R:=wants (λv s'=>v=.ref s.heap.objs.size/\s'={ s with heap:=s.heap.push { cls:=.type "range_iterator",data:=.fields #[Ŋ (n-1),Ŋ n,Ŋ (-1)] } }) E) aap.plain F.entry_range_reversed (aap.check _ _ _ _ _ _ _ _ hT (F.args_range_reversed_1 _) ?_)) λr2 s2 hq=>?_
 ·unfold ň.«range.__reversed__»
  refine À (Š (a:=.ref r) (by rfl) ?_);refine À (MW hr ?_);dsimp only;have sz:ŕ 0 n 1=n:=by
   unfold ŕ;rw[Ú (by decide)]
   split<;>omega
  rw[sz];have fl:(Ğ 0&&Ğ n&&Ğ 1&&Ğ (-1)&&Ğ (0-1)&&Ğ n)=true:=by
   have K7:(n:Int)<2 ^ 62:=by omega
   unfold Ğ;simp only[Ç,È];refine⟨⟨⟨⟨⟨⟨by decide,by decide⟩,by omega,by omega⟩,by decide,by decide⟩,by decide,by decide⟩,by decide,by decide⟩,by omega,by omega⟩
  rw[fl];rw[æ (by decide)];refine À (ó ?_);refine Â ?_;refine⟨rfl,?_⟩;have e:(0:Int)+((n:Int)-1)*1=n-1:=by omega
  simp[Ŋ]
 ·cases r2 with
  |error e=>exact hq
  |ok fl =>
   cases fl with
   |ret v =>
    obtain⟨rfl,rfl⟩:=hq;exact Â ⟨_,rfl,h⟩
   |_=>exact hq
def Qs {n:Nat} {Q:Í->É->Prop} (hr:s.heap.get? r=some { cls:=.type "range",data:=.fields #[.int 0 t1,.int n t2,.int 1 t3] }) (hn:n<2 ^ 62)
 (h:Q (.ref s.heap.objs.size) { s with heap:=s.heap.push { cls:=.type "range_iterator",data:=.fields #[Ŋ (n-1),Ŋ n,Ŋ (-1)] } }):à (ø P w) A (call (.type "reversed") [.ref r]) Q E s:=by
 have m1:=HP;have m2:=Qr;have m3:=NY;have m4:=MV;have m5:=R3;have m6:=MU (.ref r);refine wpAny_call (abU ?_);show à _ _ (callAny (.type "reversed") _) _ _ _;refine Â ⟨Code.quiet_builtin _ (by decide +kernel),ī F.entry_type_call ?_⟩;rw[Around.under_plain (weight_type_call_type "reversed" [.ref r] []) rfl]
 repeat (any_goals (first|assumption|wp_step))
 refine Ů (codeAny_call_builtin (R:=wants (λv s'=>v=.ref s.heap.objs.size/\s'={ s with heap:=s.heap.push { cls:=.type "range_iterator",data:=.fields #[Ŋ (n-1),Ŋ n,Ŋ (-1)] } }) E) MD MC (Š (Nm _) ?_)) λr2 s2 hq=>?_
 ·refine ĳ (R4 (Q:=λv s'=>v=.ref s.heap.objs.size/\s'={ s with heap:=s.heap.push { cls:=.type "range_iterator",data:=.fields #[Ŋ (n-1),Ŋ n,Ŋ (-1)] } }) hr hn ⟨rfl,rfl⟩) (λf s' hf=>?_) λ_ _ e=>e
  obtain⟨v,rfl,hv⟩:=hf;exact hv
 ·cases r2 with
  |error e=>exact hq
  |ok fl =>
   cases fl with
   |ret v =>
    obtain⟨rfl,rfl⟩:=hq
    have hT:Shared.TypeIs { s with heap:=s.heap.push { cls:=.type "range_iterator",data:=.fields #[Ŋ (n-1),Ŋ n,Ŋ (-1)] } } (.ref s.heap.objs.size) "range_iterator":=⟨_,Ì _ rfl,rfl⟩
    repeat (any_goals (first|assumption|wp_step))
   |_=>exact hq.elim
end
end HZ
namespace L2
open PySem PySem.Spec PyProof.Rows
noncomputable def yr (n:Nat):It:=⟨λi _=>i<n,λi H x H'=>H'=H/\x=.int ((n:Int)-1-i),λi _=>n<=i⟩
def G0 {P:ù} {w:ď} {K:Ĳ} {tg:ļ} (it:á) (n:Nat):Turn P w K tg (yr n) [it] it (λi h=>IsRangeIter h it (((n:Int)-1)+(i:Nat)*(-1)) ((n:Int)-(i:Nat)) (-1)) where
 mem:=by simp
 obj:=λi h st b hb=>by
  have e:b=it:=by simpa using hb
  subst e;exact⟨_,st,λv z=>by
   have z':Data.fields _=Data.cell v:=z;cases z'⟩
 keep:=λi h h' st k=>k it (by simp) _ st
 item:=by
  intro X hP hw hK hc i π s σ H E I hf st hg;subst hP hw hK;obtain⟨f0,f1,f2,f3,f4,f5⟩:=hf it (by simp);have W:=Walks.range (prog:=X.prog) (w:=X.w) (I.ok.hd hc) it ((n:Int)-1) (-1) n;refine W.item i s _ _ hg st λv h' tk hv dw kk=>?_;obtain⟨t,rfl⟩:=hv
  have I1:Inv X π σ H { s with heap:=h',toks:=tk }:=I.turned (λb o hb e=>kk b o (by simpa using hb) e) f0 f1 f3 f4 f5
  refine⟨_,rfl,xK (s:={ s with heap:=h',toks:=tk }) (n:="range_iterator") dw rfl rfl (by decide) ⟨.int ((n:Int)-1-i),H,I1,⟨t,?_⟩,⟨rfl,rfl⟩,dw,λb hb=>(hf b hb).1⟩⟩
  rw[Int.mul_neg_one];rfl
 done:=by
  intro X hP hw hK hc i π s σ H E I hf st hg;subst hP hw hK;obtain⟨f0,f1,f2,f3,f4,f5⟩:=hf it (by simp);exact wpAny_pyNext_range_end (I.ok.hd hc) st (by have:n<=i:=hg;omega) λh' eb=>⟨rfl,I.turned (t':=s.toks) (λb o hb e=>eb b o hb e) f0 f1 f3 f4 f5⟩
 self:=λ_ _ _ _ _ st h=>aa9 st h
section
variable {X:Cx} {tg:ļ}
def Qt:ą "reversed"=some (.type "reversed"):=by decide +kernel
def Nn:bV X (.type "range") (λxs H Q=>∃j:Int,xs=[.int j]/\∀p,H p=none->Q (.ref p) (upd H p (.bM 0 j))):=by
 intro π s σ H xs us Q I r h;obtain⟨j,rfl,q⟩:=h;obtain⟨u,rfl,ru⟩:=vals1 r;obtain⟨t,rfl⟩:=ru;exact call_range_1 ⟨.ref _,_,I.laid (o:=.bM 0 j) (t':=s.toks+1+1) (λb o e=>Á _ e) (Nat.le_refl _) ⟨_,_,_,Ì _ rfl⟩,rfl,q _ (I.aE.fresh (Nat.le_refl _))⟩
def W9 (ta:TA):TI:=fun σ H R=>ta σ H λvs H1=>∃(p:á) (n:Nat),vs=[.ref p]/\H1 p=some (.bM 0 n)/\n<2 ^ 62/\R (yr n) H1
def Ue {a:ļ} {ta:TA} {p pos:Pos} (hg:Gl X "reversed") (hm:X.mg "reversed"=none) (ha:PA X [a] ta) (hs:Þ [a] X.env=[(false,ţ a X.env)]:=by rfl):PI X tg (.Call (.Name "reversed" p) [a] [] pos) (W9 ta):=by
 intro π s σ H R I h;refine Call_ (lE I hg hm Qt (Ĩ (aD (ha pos π s σ H _ I h) λus s1 ⟨vs,H1,I1,r1,q1⟩=>?_) hs rfl));obtain⟨c,n,e,hx,hn,q⟩:=q1;subst e;obtain⟨u,rfl,ru⟩:=vals1 r1;cases ru;obtain⟨t1,t2,t3,hr⟩:=I1.aE c _ hx;refine HZ.Qs hr hn ?_;have st:IsRangeIter (s1.heap.push { cls:=.type "range_iterator",data:=.fields #[Ŋ ((n:Int)-1),Ŋ n,Ŋ (-1)] }) s1.heap.objs.size (((n:Int)-1)+((0:Nat):Int)*(-1)) ((n:Int)-((0:Nat):Int)) (-1):=by
  have e1:((n:Int)-1)+((0:Nat):Int)*(-1)=n-1:=by simp
  have e2:(n:Int)-((0:Nat):Int)=n:=by simp
  rw[e1,e2];exact Ì _ rfl
 refine aa9 (s:={ s1 with heap:=_ }) st ?_
 refine⟨s1.heap.objs.size,[s1.heap.objs.size],_,_,H1,rfl,I1.kept (t':=s1.toks) λb o e=>Á _ e,G0 _ n,st,λb hb=>?_,q⟩;have e:b=s1.heap.objs.size:=by simpa using hb
 subst e;exact I1.lL (Nat.le_refl _) (I1.aE.fresh (Nat.le_refl _))
end
end L2
namespace HZ
open PySem PySem.Spec PyProof.Rows
section
variable {P:ù} {w:ď} {A:đ} {R:Result->É->Prop} {I:á} {fp wr:List á} {n:Nat} {Pv:Nat->Í->Prop} {St:Nat->ŏ->Prop} {kw:List (Str×Í)}
end
section
variable {P:ù} {w:ď} {A:đ} {E:Í->É->Prop} {s:É}
end
end HZ
namespace L2
open PySem PySem.Spec PyProof.Rows
section
variable {X:Cx} {p pos kp:Pos} {e d:ļ} {ta tk:TA}
end
end L2
namespace DI
open PySem L2
set_option genInjectivity true in
inductive D where
 |au|bl (b:Bool)|int (i:Int)|str (x:Str)|tup (ds:List D)|lst (ds:List D)|aZ (ai:List (Key×Int))|aj (k:Nat)|ty (n:String)|bC (ns:List Int)
set_option genInjectivity true in
inductive Cell where
 |dead|lst (ds:List D)|dK (ai:List (Key×D))|dT (ai:List (D×Int))
noncomputable abbrev ag:=List Cell
noncomputable abbrev Env:=List (Option D)
structure bq where
 c:Str
 many:Option D
abbrev Res (α:Type):=Option (Except bq α×ag)
abbrev ok {α:Type} (a:α) (s:ag):Res α:=some (.ok a,s)
def ao {α β:Type} (r:Res α) (k:α->ag->Res β):Res β:=match r with
 |some (.ok a,s)=>k a s
 |some (.error x,s)=>some (.error x,s)
 |none=>none
@[simp] theorem dI {α β:Type} {a:α} {s:ag} {k:α->ag->Res β}:ao (some (.ok a,s)) k=k a s:=rfl
structure Wd where
 ρ:List á
 aG:ag
 H:Hp
def Wd.Z (w:Wd) (a:á):Prop:=∃(k:Nat) (c:Cell),w.ρ[k]?=some a/\w.aG[k]?=some c/\c≠.dead
def LstAt (w:Wd) (a:á) (xs:List V):Prop:=¬ w.Z a/\w.H a=some (.lst xs)
def LstAt.sq (h:LstAt w a xs):bp K w.H a xs:=bp.of h.2
def tY (K:Ĳ) (w:Wd) (a:á) (xs:List V):Prop:=(¬ w.Z a/\Rd w.H a (.lst xs)) \/
 ∃(o:Obj) (its:Array Í) (n:Nat),K.lookup a=some o/\o.cls=.type "list"/\o.dict=none/\o.data=.seq its n/\its.size<=Õ/\Vals xs its.toList
def tY.sq (h:tY K w a xs):bp K w.H a xs:=by
 rcases h with ⟨_,h⟩|h
 ·exact .inl h
 ·exact .inr h
mutual
def DV (K:Ĳ) (w:Wd):D->V->Prop
 | .au,v=>v=.au
 | .bl b,v=>v=.bl b
 | .int i,v=>v=.int i
 | .str x,v=>v=.str x
 | .tup ds,v=>∃a xs,v=.ref a/\aR K w.H a xs/\ar K w ds xs
 | .lst ds,v=>∃a xs,v=.ref a/\LstAt w a xs/\ar K w ds xs
 | .aZ ai,v=>∃a,v=.ref a/\¬ w.Z a/\w.H a=some (.dK (ai.map λp=>(p.1,V.int p.2)))
 | .aj k,v=>∃a,w.ρ[k]?=some a/\v=.ref a
 | .ty n,v=>v=.ty n
 | .bC ns,v=>∃a,v=.ref a/\tY K w a (ns.map V.int)
def ar (K:Ĳ) (w:Wd):List D->List V->Prop
 | [],vs=>vs=[]
 |d::ds,vs=>∃v r,vs=v::r/\DV K w d v/\ar K w ds r
end
structure Fw (K:Ĳ) (w w':Wd):Prop where
 DB:∀(k:Nat) a,w.ρ[k]?=some a->w'.ρ[k]?=some a
 tup:∀a xs,aR K w.H a xs->aR K w'.H a xs
 lst:∀a xs,¬ w.Z a->w.H a=some (.lst xs)->¬ w'.Z a/\w'.H a=some (.lst xs)
 cL:∀a o xs,¬ w.Z a->w.H a=some (.cL o (.lst xs))->¬ w'.Z a/\w'.H a=some (.cL o (.lst xs))
 aZ:∀a es,¬ w.Z a->w.H a=some (.dK es)->¬ w'.Z a/\w'.H a=some (.dK es)
def Fw.JT (S:Fw K w w') (h:LstAt w a xs):LstAt w' a xs:=S.lst a xs h.1 h.2
def Fw.VR (S:Fw K w w') (h:tY K w a xs):tY K w' a xs:=by
 rcases h with ⟨h1,h2 | ⟨o,h2⟩⟩|h
 ·have q:=S.lst a xs h1 h2
  exact .inl ⟨q.1,.inl q.2⟩
 ·have q:=S.cL a o xs h1 h2
  exact .inl ⟨q.1,.inr ⟨o,q.2⟩⟩
 ·exact .inr h
mutual
def DV.fw (S:Fw K w w'):∀{d:D} {v:V},DV K w d v->DV K w' d v
 | .au,_,h=>h
 | .bl _,_,h=>h
 | .int _,_,h=>h
 | .str _,_,h=>h
 | .tup ds,v,h=>by
  simp only[DV] at h |-;obtain⟨a,xs,e,hq,r⟩:=h;exact⟨a,xs,e,S.tup a xs hq,ar.fw S r⟩
 | .lst ds,v,h=>by
  simp only[DV] at h |-;obtain⟨a,xs,e,hq,r⟩:=h;exact⟨a,xs,e,S.JT hq,ar.fw S r⟩
 | .aZ ai,v,h=>by
  simp only[DV] at h |-;obtain⟨a,e,hz,hq⟩:=h;obtain⟨h1,h2⟩:=S.aZ a _ hz hq;exact⟨a,e,h1,h2⟩
 | .aj k,v,h=>by
  simp only[DV] at h |-;obtain⟨a,e,e2⟩:=h;exact⟨a,S.DB k a e,e2⟩
 | .ty _,_,h=>h
 | .bC ns,v,h=>by
  simp only[DV] at h |-;obtain⟨a,e,hq⟩:=h;exact⟨a,e,S.VR hq⟩
def ar.fw (S:Fw K w w'):∀{ds:List D} {vs:List V},ar K w ds vs->ar K w' ds vs
 | [],_,h=>h
 |d::ds,vs,h=>by
  simp only[ar] at h |-;obtain⟨v,r,e,h1,h2⟩:=h;exact⟨v,r,e,DV.fw S h1,ar.fw S h2⟩
end
structure Le (K:Ĳ) (w w':Wd):Prop where
 dv:∀d v,DV K w d v->DV K w' d v
 lst:∀a xs,LstAt w a xs->LstAt w' a xs
 tup:∀a xs,aR K w.H a xs->aR K w'.H a xs
noncomputable instance {K:Ĳ} {w w':Wd}:CoeFun (Le K w w') (λ_=>∀d v,DV K w d v->DV K w' d v):=⟨Le.dv⟩
def Le.refl (w:Wd):Le K w w:=⟨λ_ _ h=>h,λ_ _ h=>h,λ_ _ h=>h⟩
def Le.trans (h:Le K a b) (g:Le K b c):Le K a c:=⟨λd v x=>g.dv d v (h.dv d v x),λp xs x=>g.lst p xs (h.lst p xs x),λp xs x=>g.tup p xs (h.tup p xs x)⟩
def Fw.le (S:Fw K w w'):Le K w w':=⟨λ_ _ h=>h.fw S,λ_ _ h=>S.JT h,S.tup⟩
def Le.all (h:Le K w w'):∀{ds:List D} {vs:List V},ar K w ds vs->ar K w' ds vs
 | [],_,x=>x
 |d::ds,vs,x=>by
  simp only[ar] at x |-;obtain⟨v,r,e,h1,h2⟩:=x;exact⟨v,r,e,h d v h1,Le.all h h2⟩
def ar.length:∀{ds:List D} {vs:List V},ar K w ds vs->ds.length=vs.length
 | [],vs,h=>by
  have e:vs=[]:=h;subst e;rfl
 |d::ds,vs,h=>by
  obtain⟨v,r,e,_,h2⟩:=h;subst e;simp[ar.length h2]
def ar.get:∀{ds:List D} {vs:List V},ar K w ds vs->∀(i:Nat) v,vs[i]?=some v->∃d,ds[i]?=some d/\DV K w d v
 | [],vs,h,i,v,e=>by
  have e':vs=[]:=h;subst e';simp at e
 |d::ds,vs,h,i,v,e=>by
  obtain⟨u,r,e',h1,h2⟩:=h;subst e'
  cases i with
  |zero =>
   have:u=v:=by simpa using e
   subst this;exact⟨d,rfl,h1⟩
  |succ i=>exact ar.get h2 i v (by simpa using e)
def ar.get':∀{ds:List D} {vs:List V},ar K w ds vs->∀(i:Nat) d,ds[i]?=some d->∃v,vs[i]?=some v/\DV K w d v
 | [],vs,h,i,d,e=>by simp at e
 |d::ds,vs,h,i,d',e=>by
  obtain⟨u,r,e',h1,h2⟩:=h;subst e'
  cases i with
  |zero =>
   have:d=d':=by simpa using e
   subst this;exact⟨u,rfl,h1⟩
  |succ i=>exact ar.get' h2 i d' (by simpa using e)
def ar.append:∀{ds es:List D} {vs ws:List V},ar K w ds vs->ar K w es ws->ar K w (ds++es) (vs++ws)
 | [],es,vs,ws,h,h'=>by
  have e:vs=[]:=h;subst e;exact h'
 |d::ds,es,vs,ws,h,h'=>by
  obtain⟨v,r,e,h1,h2⟩:=h;subst e;exact⟨v,r++ws,rfl,h1,ar.append h2 h'⟩
def ar.take:∀{ds:List D} {vs:List V} (n:Nat),ar K w ds vs->ar K w (ds.take n) (vs.take n)
 | [],vs,n,h=>by
  have e:vs=[]:=h;subst e;simp[ar]
 |d::ds,vs,0,h=>by simp[ar]
 |d::ds,vs,n+1,h=>by
  obtain⟨v,r,e,h1,h2⟩:=h;subst e;exact⟨v,r.take n,rfl,h1,ar.take n h2⟩
def ar.drop:∀{ds:List D} {vs:List V} (n:Nat),ar K w ds vs->ar K w (ds.drop n) (vs.drop n)
 | [],vs,n,h=>by
  have e:vs=[]:=h;subst e;simp[ar]
 |d::ds,vs,0,h=>h
 |d::ds,vs,n+1,h=>by
  obtain⟨v,r,e,h1,h2⟩:=h;subst e;exact ar.drop n h2
def ar.reverse:∀{ds:List D} {vs:List V},ar K w ds vs->ar K w ds.reverse vs.reverse
 | [],vs,h=>by
  have e:vs=[]:=h;subst e;simp[ar]
 |d::ds,vs,h=>by
  obtain⟨v,r,e,h1,h2⟩:=h;subst e;rw[List.reverse_cons,List.reverse_cons];exact ar.append (ar.reverse h2) ⟨v,[],rfl,h1,rfl⟩
def ar.set (hd:DV K w d v):∀{ds:List D} {vs:List V} (i:Nat),ar K w ds vs->ar K w (ds.set i d) (vs.set i v)
 | [],vs,i,h=>by
  have e:vs=[]:=h;subst e;simp[ar]
 |d'::ds,vs,0,h=>by
  obtain⟨u,r,e,h1,h2⟩:=h;subst e;exact⟨v,r,rfl,hd,h2⟩
 |d'::ds,vs,i+1,h=>by
  obtain⟨u,r,e,h1,h2⟩:=h;subst e;exact⟨u,r.set i v,rfl,h1,ar.set hd i h2⟩
def ar.one (h:DV K w d v):ar K w [d] [v]:=⟨v,[],rfl,h,rfl⟩
def ar.two (h:DV K w d v) (h':DV K w d' v'):ar K w [d,d'] [v,v']:=⟨v,_,rfl,h,ar.one h'⟩
def ar.ints:∀(ns:List Int),ar K w (ns.map D.int) (ns.map V.int)
 | []=>rfl
 |n::ns=>⟨.int n,_,rfl,rfl,ar.ints ns⟩
def ar.G1:∀{ns:List Int} {vs:List V},ar K w (ns.map D.int) vs->vs=ns.map V.int
 | [],_,h=>h
 |n::ns,vs,h=>by
  obtain⟨v,r,e,h1,h2⟩:=h;have e1:v=.int n:=h1;rw[e,e1,ar.G1 h2];rfl
def ar.AH:∀{bs:List Bool} {vs:List V},ar K w (bs.map D.bl) vs->vs=bs.map V.bl
 | [],_,h=>h
 |n::ns,vs,h=>by
  obtain⟨v,r,e,h1,h2⟩:=h;have e1:v=.bl n:=h1;rw[e,e1,ar.AH h2];rfl
def DX (a:á) (es:List (Int×á)) (h:ŏ):Prop:=(a==ł)=false/\∃(o:Obj) (xs:Array ab9) (ep:Nat),h.get? a=some o/\o.ExactDict/\o.data=.dict xs ep/\xs.toList=es.map λp=>(⟨p.1,.ref p.2,.bool true⟩:ab9)
def qV (K:Ĳ) (w:Wd) (a:á):Cell->Prop
 | .dead=>True
 | .lst ds=>∃xs,w.H a=some (.lst xs)/\ar K w ds xs
 | .dK ai=>∃es:List (Key×V),w.H a=some (.dK es)/\es.map (·.1)=ai.map (·.1)/\ar K w (ai.map (·.2)) (es.map (·.2))
 | .dT ai=>∃as:List á,w.H a=some (.ext (DX a ((ai.map (·.2)).zip as)))/\ar K w (ai.map (·.1)) (as.map V.ref)/\(ai.map (·.1)).Nodup
structure aK (K:Ĳ) (w:Wd):Prop where
 len:w.ρ.length=w.aG.length
 nd:w.ρ.Nodup
 there:∀(k:Nat) a,w.ρ[k]?=some a->w.H a≠none
 cell:∀(k:Nat) a c,w.ρ[k]?=some a->w.aG[k]?=some c->qV K w a c
def qV.le (h:qV K w a c) (le:Le K w w') (e:c≠.dead->w'.H a=w.H a):qV K w' a c:=by
 cases c with
 |dead=>trivial
 |lst ds =>
  obtain⟨xs,h1,h2⟩:=h;exact⟨xs,(e (by intro z;cases z)).trans h1,le.all h2⟩
 |dK ai =>
  obtain⟨es,h1,h2,h3⟩:=h;exact⟨es,(e (by intro z;cases z)).trans h1,h2,le.all h3⟩
 |dT ai =>
  obtain⟨as,h1,h2,h3⟩:=h;exact⟨as,(e (by intro z;cases z)).trans h1,le.all h2,h3⟩
section
variable {K:Ĳ} {w:Wd}
def Wd.grow (w:Wd) (p:á) (o:HO):Wd:={ w with H:=upd w.H p o }
def Rd.grow (hp:H p=none) (h:Rd H a u):Rd (upd H p o) a u:=by
 rcases h with h | ⟨ob,h⟩
 ·exact .inl (by rw[bo (eZ h hp)];exact h)
 ·exact .inr ⟨ob,by rw[bo (eZ h hp)];exact h⟩
def aR.grow (hp:H p=none) (h:aR K H a xs):aR K (upd H p o) a xs:=by
 rcases h with h|h
 ·exact .inl (Rd.grow hp h)
 ·exact .inr h
def Fw.grow (hp:w.H p=none):Fw K w (w.grow p o) where
 DB:=λ_ _ e=>e
 tup:=λa xs h=>aR.grow hp h
 lst:=λa xs hz h=>⟨hz,by show upd w.H p o a=_;rw[bo (eZ h hp)];exact h⟩
 cL:=λa ob xs hz h=>⟨hz,by show upd w.H p o a=_;rw[bo (eZ h hp)];exact h⟩
 aZ:=λa es hz h=>⟨hz,by show upd w.H p o a=_;rw[bo (eZ h hp)];exact h⟩
def aK.grow (S:aK K w) (hp:w.H p=none):aK K (w.grow p o) where
 len:=S.len
 nd:=S.nd
 there:=λk a e=>by
  have h:=S.there k a e;show upd w.H p o a≠none;unfold upd;split
  ·intro z;cases z
  ·exact h
 cell:=λk a c e1 e2=>(S.cell k a c e1 e2).le (Fw.grow hp).le λ_=>by
  have h:=S.there k a e1;show upd w.H p o a=w.H a;rw[bo];intro z;rw[z] at h;exact h hp
def Wd.cell (w:Wd) (p:á) (o:HO) (c:Cell):Wd:=⟨w.ρ++[p],w.aG++[c],upd w.H p o⟩
def Wd.A5 (S:aK K w) (h:(w.cell p o c).Z a):w.Z a\/a=p:=by
 obtain⟨k,c',e1,e2,e3⟩:=h;have e1:(w.ρ++[p])[k]?=some a:=e1;have e2:(w.aG++[c])[k]?=some c':=e2;by_cases hk:k<w.ρ.length
 ·rw[ä hk] at e1
  rw[ä (by rw[<- S.len];exact hk)] at e2;exact .inl ⟨k,c',e1,e2,e3⟩
 ·rw[ü (by omega)] at e1
  right
  cases hj:k-w.ρ.length with
  |zero=>rw[hj] at e1;exact(Option.some.inj e1).symm
  |succ j=>rw[hj] at e1;cases e1
def Fw.cell (S:aK K w) (hp:w.H p=none):Fw K w (w.cell p o c) where
 DB:=λk a e=>by
  show (w.ρ++[p])[k]?=some a;rw[ä (Å.mp e).1];exact e
 tup:=λa xs h=>aR.grow hp h
 lst:=λa xs hz h=>⟨λz=>(Wd.A5 S z).elim hz (λe=>by (subst e;rw[hp] at h;cases h)),by show upd w.H p o a=_;rw[bo (eZ h hp)];exact h⟩
 cL:=λa ob xs hz h=>⟨λz=>(Wd.A5 S z).elim hz (λe=>by (subst e;rw[hp] at h;cases h)),by show upd w.H p o a=_;rw[bo (eZ h hp)];exact h⟩
 aZ:=λa es hz h=>⟨λz=>(Wd.A5 S z).elim hz (λe=>by (subst e;rw[hp] at h;cases h)),by show upd w.H p o a=_;rw[bo (eZ h hp)];exact h⟩
def aK.BD (S:aK K w) (hp:w.H p=none) (hc:qV K (w.cell p o c) p c):aK K (w.cell p o c) where
 len:=by show (w.ρ++[p]).length=(w.aG++[c]).length;simp[S.len]
 nd:=by
  show (w.ρ++[p]).Nodup;rw[aav];refine⟨S.nd,by simp,λa ha b hb=>?_⟩;obtain⟨k,e⟩:=List.getElem?_of_mem ha;have h:=S.there k a e;have e':b=p:=by simpa using hb
  rw[e'];intro z;rw[z] at h;exact h hp
 there:=λk a e=>by
  have e:(w.ρ++[p])[k]?=some a:=e;show upd w.H p o a≠none;unfold upd;split
  ·intro z;cases z
  ·rename_i fy
   by_cases hk:k<w.ρ.length
   ·rw[ä hk] at e
    exact S.there k a e
   ·rw[ü (by omega)] at e
    cases hj:k-w.ρ.length with
    |zero=>rw[hj] at e;exact absurd (Option.some.inj e).symm fy
    |succ j=>rw[hj] at e;cases e
 cell:=λk a c' e1 e2=>by
  have e1:(w.ρ++[p])[k]?=some a:=e1;have e2:(w.aG++[c])[k]?=some c':=e2;by_cases hk:k<w.ρ.length
  ·rw[ä hk] at e1
   rw[ä (by rw[<- S.len];exact hk)] at e2;refine(S.cell k a c' e1 e2).le (Fw.cell S hp).le λ_=>?_;have h:=S.there k a e1;show upd w.H p o a=w.H a;rw[bo];intro z;rw[z] at h;exact h hp
  ·rw[ü (by omega)] at e1
   rw[ü (by rw[<- S.len];omega)] at e2;rw[<- S.len] at e2
   cases hj:k-w.ρ.length with
   |zero =>
    rw[hj] at e1 e2;have e1:p=a:=Option.some.inj e1;have e2:c=c':=Option.some.inj e2;subst e1 e2;exact hc
   |succ j=>rw[hj] at e1;cases e1
def Wd.same (w:Wd) (H':Hp):Wd:={ w with H:=H' }
def Fw.same (e:kC w.H H'):Fw K w (w.same H') :=
 ⟨λ_ _ e=>e,λa xs h=>e.XN h,λa xs hz h=>⟨hz,e _ _ h⟩,λa o xs hz h=>⟨hz,e _ _ h⟩,λa es hz h=>⟨hz,e _ _ h⟩⟩
def aK.same (S:aK K w) (e:kC w.H H'):aK K (w.same H') where
 len:=S.len
 nd:=S.nd
 there:=λk a q=>by
  have h:=S.there k a q;show H' a≠none
  cases hq:w.H a with
  |none=>exact absurd hq h
  |some o=>rw[e _ _ hq];intro z;cases z
 cell:=λk a c e1 e2=>(S.cell k a c e1 e2).le (Fw.same e).le λ_=>by
  have h:=S.there k a e1;show H' a=w.H a
  cases hq:w.H a with
  |none=>exact absurd hq h
  |some o=>exact e _ _ hq
def Wd.put (w:Wd) (k:Nat) (a:á) (o:HO) (c:Cell):Wd:=⟨w.ρ,w.aG.set k c,upd w.H a o⟩
def Fv {α:Type} {l:List α} (nd:l.Nodup) {i j:Nat} {a:α} (h1:l[i]?=some a) (h2:l[j]?=some a):i=j:=by
 exact(List.getElem?_inj (Å.mp h1).1 nd).mp (h1.trans h2.symm)
def Wd.BE (h0:w.ρ[k]?=some a) (h1:w.aG[k]?=some c0) (h2:c0≠.dead) (h:(w.put k a o c).Z b):w.Z b:=by
 obtain⟨j,c',e1,e2,e3⟩:=h;have e1:w.ρ[j]?=some b:=e1;have e2:(w.aG.set k c)[j]?=some c':=e2;by_cases hj:k=j
 ·subst hj
  exact⟨k,c0,e1,h1,h2⟩
 ·rw[Ø hj] at e2
  exact⟨j,c',e1,e2,e3⟩
def Fw.put (S:aK K w) (h0:w.ρ[k]?=some a) (h1:w.aG[k]?=some c0) (h2:c0≠.dead):Fw K w (w.put k a o c):=by
 have hz:w.Z a:=⟨k,c0,h0,h1,h2⟩;have nt:∀xs,¬ Rd w.H a (.tup xs):=λxs h=>by
  have q:=S.cell k a c0 h0 h1
  cases c0 with
  |dead=>exact h2 rfl
  |lst ds=>obtain⟨ys,e,_⟩:=q;rcases h with h | ⟨_,h⟩<;>(rw[e] at h;cases h)
  |dK ai=>obtain⟨ys,e,_⟩:=q;rcases h with h | ⟨_,h⟩<;>(rw[e] at h;cases h)
  |dT ai=>obtain⟨ys,e,_⟩:=q;rcases h with h | ⟨_,h⟩<;>(rw[e] at h;cases h)
 refine⟨λ_ _ e=>e,λb xs h=>?_,λb xs hb h=>⟨λz=>hb (Wd.BE h0 h1 h2 z),?_⟩,λb ob xs hb h=>⟨λz=>hb (Wd.BE h0 h1 h2 z),?_⟩,λb es hb h=>⟨λz=>hb (Wd.BE h0 h1 h2 z),?_⟩⟩
 ·rcases h with h|h
  ·have ne:b≠a:=λe=>by subst e;exact nt xs h
   refine .inl ?_
   rcases h with h | ⟨ob,h⟩
   ·exact .inl (by show upd w.H a o b=_;rw[bo ne];exact h)
   ·exact .inr ⟨ob,by show upd w.H a o b=_;rw[bo ne];exact h⟩
  ·exact .inr h
 ·have ne:b≠a:=λe=>by subst e;exact hb hz
  show upd w.H a o b=_;rw[bo ne];exact h
 ·have ne:b≠a:=λe=>by subst e;exact hb hz
  show upd w.H a o b=_;rw[bo ne];exact h
 ·have ne:b≠a:=λe=>by subst e;exact hb hz
  show upd w.H a o b=_;rw[bo ne];exact h
def aK.CD {k:Nat} {a:á} {o:HO} {c c0:Cell} (S:aK K w) (h0:w.ρ[k]?=some a) (h1:w.aG[k]?=some c0) (h2:c0≠.dead) (hc:qV K (w.put k a o c) a c):aK K (w.put k a o c) where
 len:=by show w.ρ.length=(w.aG.set k c).length;rw[Ĝ];exact S.len
 nd:=S.nd
 there:=λj b e=>by
  show upd w.H a o b≠none;unfold upd;split
  ·intro z;cases z
  ·exact S.there j b e
 cell:=λj b c' e1 e2=>by
  have e1:w.ρ[j]?=some b:=e1;have e2:(w.aG.set k c)[j]?=some c':=e2;by_cases hj:k=j
  ·subst hj
   rw[h0] at e1;have e1:a=b:=Option.some.inj e1;rw[ã (Å.mp h1).1] at e2;have e2:c=c':=Option.some.inj e2;subst e1 e2;exact hc
  ·rw[Ø hj] at e2
   refine(S.cell j b c' e1 e2).le (Fw.put S h0 h1 h2).le λ_=>?_;show upd w.H a o b=w.H b;rw[bo];intro z;subst z;exact hj (Fv S.nd h0 e1)
noncomputable def Wd.freeze (w:Wd) (k:Nat):Wd:={ w with aG:=w.aG.set k .dead }
def Wd.zZ (h:(w.freeze k).Z b):w.Z b:=by
 obtain⟨j,c',e1,e2,e3⟩:=h;have e2:(w.aG.set k .dead)[j]?=some c':=e2;by_cases hj:k=j
 ·subst hj
  have hl:=(Å.mp e2).1;rw[Ĝ] at hl;rw[ã hl] at e2;exact absurd (Option.some.inj e2).symm e3
 ·rw[Ø hj] at e2
  exact⟨j,c',e1,e2,e3⟩
def Fw.freeze:Fw K w (w.freeze k) :=
 ⟨λ_ _ e=>e,λ_ _ h=>h,λ_ _ hz h=>⟨λz=>hz (Wd.zZ z),h⟩,λ_ _ _ hz h=>⟨λz=>hz (Wd.zZ z),h⟩,λ_ _ hz h=>⟨λz=>hz (Wd.zZ z),h⟩⟩
def aK.freeze (S:aK K w):aK K (w.freeze k) where
 len:=by show w.ρ.length=(w.aG.set k .dead).length;rw[Ĝ];exact S.len
 nd:=S.nd
 there:=S.there
 cell:=λj b c' e1 e2=>by
  have e2:(w.aG.set k .dead)[j]?=some c':=e2;by_cases hj:k=j
  ·subst hj
   have hl:=(Å.mp e2).1;rw[Ĝ] at hl;rw[ã hl] at e2;rw[<- Option.some.inj e2];trivial
  ·rw[Ø hj] at e2
   exact(S.cell j b c' e1 e2).le Fw.freeze.le λ_=>rfl
def Wd.OU {k:Nat} {a:á} (S:aK K w) (h:w.ρ[k]?=some a):¬ (w.freeze k).Z a:=by
 rintro ⟨j,c',e1,e2,e3⟩;have e1:w.ρ[j]?=some a:=e1;have e2:(w.aG.set k .dead)[j]?=some c':=e2;have hj:=Fv S.nd h e1;subst hj;have hl:=(Å.mp e2).1;rw[Ĝ] at hl;rw[ã hl] at e2;exact e3 (Option.some.inj e2).symm
end
structure bW (K:Ĳ) (w:Wd) (env:Env) (σ:St):Prop where
 len:env.length=σ.length
 val:∀(i:Nat) d,env[i]?=some (some d)->∃v,σ[i]?=some (some v)/\DV K w d v
def bW.le (h:bW K w env σ) (le:Le K w w'):bW K w' env σ :=
 ⟨h.len,λi d e=>by obtain⟨v,e1,e2⟩:=h.val i d e;exact⟨v,e1,le d v e2⟩⟩
def bW.set (h:bW K w env σ) (hd:DV K w d v) (i:Nat):bW K w (env.set i (some d)) (σ.set i (some v)):=by
 refine⟨by rw[Ĝ,Ĝ];exact h.len,λj d' e=>?_⟩;by_cases hj:i=j
 ·subst hj
  have hl:=(Å.mp e).1;rw[Ĝ] at hl;rw[ã hl] at e;have e:d=d':=Option.some.inj (Option.some.inj e);subst e;exact⟨v,by rw[ã (by rw[<- h.len];exact hl)],hd⟩
 ·rw[Ø hj] at e
  rw[Ø hj];exact h.val j d' e
def Out (K:Ĳ) (Ξ:Wd->bq->Prop) (w:Wd) {α:Type} (r:Res α) (k:Wd->α->Prop):Prop:=match r with
 |none=>False
 |some (.ok a,s)=>∀w',Le K w w'->aK K w'->w'.aG=s->k w' a
 |some (.error x,s)=>∀w',Le K w w'->aK K w'->w'.aG=s->Ξ w' x
section
variable {K:Ĳ} {Ξ:Wd->bq->Prop} {w w':Wd} {α β:Type} {r:Res α} {k k':Wd->α->Prop}
def Out.from (h:Out K Ξ w r k) (le:Le K w w'):Out K Ξ w' r k:=by
 unfold Out at h |-
 split<;>simp only at h
 ·exact λw2 l2 o2 e2=>h w2 (le.trans l2) o2 e2
 ·exact λw2 l2 o2 e2=>h w2 (le.trans l2) o2 e2
def Out.mono (h:Out K Ξ w r k) (hk:∀w2 a,Le K w w2->aK K w2->k w2 a->k' w2 a):Out K Ξ w r k':=by
 unfold Out at h |-
 split<;>simp only at h
 ·exact λw2 l2 o2 e2=>hk w2 _ l2 o2 (h w2 l2 o2 e2)
 ·exact h
def Out.ao {q:Wd->β->Prop} (h:Out K Ξ w (DI.ao r g) q):Out K Ξ w r (λw2 a=>Out K Ξ w2 (g a w2.aG) q):=by
 match r,h with
 |some (.ok a,s),h =>
  intro w2 l2 o2 e2;rw[e2];exact Out.from h l2
 |some (.error x,s),h=>exact h
def Out.done (h:Out K Ξ w (some (.ok a,w.aG)) k) (S:aK K w):k w a:=h w (Le.refl w) S rfl
end
end DI
namespace DI
open PySem L2
def tE (K:Ĳ) (Ξ:Wd->bq->Prop) (f:Env->ag->Res D):TE:=fun σ H Q=>∃w env,w.H=H/\aK K w/\bW K w env σ/\Out K Ξ w (f env w.aG) λw' d=>∀v,DV K w' d v->Q v w'.H
def tT (K:Ĳ) (Ξ:Wd->bq->Prop) (f:Env->ag->Res Bool):TT:=fun σ H Q=>∃w env,w.H=H/\aK K w/\bW K w env σ/\Out K Ξ w (f env w.aG) λw' b=>Q b w'.H
def tA (K:Ĳ) (Ξ:Wd->bq->Prop) (f:Env->ag->Res (List D)):TA:=fun σ H Q=>∃w env,w.H=H/\aK K w/\bW K w env σ/\Out K Ξ w (f env w.aG) λw' ds=>∀vs,ar K w' ds vs->Q vs w'.H
def rO (K:Ĳ) (Ξ:Wd->bq->Prop) (o:D->D->ag->Res D):R2:=λx y H Q=>∃w dx dy,w.H=H/\aK K w/\DV K w dx x/\DV K w dy y/\Out K Ξ w (o dx dy w.aG) λw' d=>∀v,DV K w' d v->Q v w'.H
def rU (K:Ĳ) (Ξ:Wd->bq->Prop) (o:D->ag->Res D):V->Hp->VK->Prop:=λx H Q=>∃w dx,w.H=H/\aK K w/\DV K w dx x/\Out K Ξ w (o dx w.aG) λw' d=>∀v,DV K w' d v->Q v w'.H
def rC (K:Ĳ) (Ξ:Wd->bq->Prop) (o:List D->ag->Res D):List V->Hp->VK->Prop:=λxs H Q=>∃w ds,w.H=H/\aK K w/\ar K w ds xs/\Out K Ξ w (o ds w.aG) λw' d=>∀v,DV K w' d v->Q v w'.H
def aa (i:Nat):Env->ag->Res D:=λenv s=>match env[i]? with
 |some (some d)=>ok d s
 |_=>none
def eC (d:D):Env->ag->Res D:=λ_ s=>ok d s
def e1 (o:D->ag->Res D) (f:Env->ag->Res D):Env->ag->Res D:=λenv s=>ao (f env s) λx s=>o x s
def e2 (o:D->D->ag->Res D) (f g:Env->ag->Res D):Env->ag->Res D:=λenv s=>ao (f env s) λx s=>ao (g env s) λy s=>o x y s
def ah:Env->ag->Res (List D):=λ_ s=>ok [] s
def ae (f:Env->ag->Res D) (g:Env->ag->Res (List D)):Env->ag->Res (List D):=λenv s=>ao (f env s) λx s=>ao (g env s) λxs s=>ok (x::xs) s
def eB (o:List D->ag->Res D) (f:Env->ag->Res (List D)):Env->ag->Res D:=λenv s=>ao (f env s) λds s=>o ds s
def iT {α:Type} (ds:List D) (r:Res α):Res α:=if ds.length<=Õ then r else none
def aX (f:Env->ag->Res (List D)):Env->ag->Res D:=λenv s=>ao (f env s) λds s=>iT ds (ok (.tup ds) s)
def fH (f:Env->ag->Res (List D)):Env->ag->Res D:=λenv s=>ao (f env s) λds s=>iT ds (ok (.lst ds) s)
def eNew (f:Env->ag->Res (List D)):Env->ag->Res D:=λenv s=>ao (f env s) λds s=>iT ds (ok (.aj s.length) (s++[.lst ds]))
def cL:D->ag->Res D:=λd s=>match d with
 | .aj k=>match s[k]? with
  |some (.lst ds)=>ok (.lst ds) (s.set k .dead)
  |_=>none
 |_=>none
def jT (f:Env->ag->Res D):Env->ag->Res D:=λenv s=>ao (f env s) cL
def gg (d:D) (s:ag):Res Bool:=match d with
 | .bl b=>ok b s
 |_=>none
def aF (f:Env->ag->Res D):Env->ag->Res Bool:=λenv s=>ao (f env s) gg
def truth (d:D) (s:ag):Res Bool:=match d with
 | .au=>ok false s
 | .bl b=>ok b s
 | .int i=>ok (i != 0) s
 | .str x=>if x.length<=Õ then ok ((x.length:Int) != 0) s else none
 | .tup ds=>ok (!ds.isEmpty) s
 | .lst ds=>ok (!ds.isEmpty) s
 | .aZ ai=>ok (!ai.isEmpty) s
 | .aj k=>match s[k]? with
  |some (.lst ds)=>ok (!ds.isEmpty) s
  |some (.dK ai)=>ok (!ai.isEmpty) s
  |_=>none
 | .ty _=>none
 | .bC _=>none
def cK (f:Env->ag->Res D):Env->ag->Res Bool:=λenv s=>ao (f env s) truth
def cG (f g:Env->ag->Res Bool):Env->ag->Res Bool:=λenv s=>ao (f env s) λb s=>if b=true then g env s else ok false s
def fM (f g:Env->ag->Res Bool):Env->ag->Res Bool:=λenv s=>ao (f env s) λb s=>if b=true then ok true s else g env s
def fe (f:Env->ag->Res Bool):Env->ag->Res Bool:=λenv s=>ao (f env s) λb s=>ok (!b) s
def cH (f g:Env->ag->Res D):Env->ag->Res D:=λenv s=>ao (f env s) λx s=>ao (gg x s) λb s=>if b=true then g env s else ok (.bl false) s
def kP (f g:Env->ag->Res D):Env->ag->Res D:=λenv s=>ao (f env s) λx s=>ao (gg x s) λb s=>if b=true then ok (.bl true) s else g env s
def pJ (f:Env->ag->Res D):Env->ag->Res D:=λenv s=>ao (f env s) λx s=>ao (gg x s) λb s=>ok (.bl (!b)) s
def yR (c:Env->ag->Res Bool) (f g:Env->ag->Res D):Env->ag->Res D:=λenv s=>ao (c env s) λb s=>if b=true then f env s else g env s
def mL (o o':D->D->ag->Res D) (f g h:Env->ag->Res D):Env->ag->Res D:=λenv s=>ao (f env s) λx s=>ao (g env s) λy s=>ao (o x y s) λz s=>ao (gg z s) λb s =>
 if b=true then ao (h env s) λu s=>o' y u s else ok (.bl false) s
section
variable {X:Cx} {Ξ:Wd->bq->Prop} {e a b c:ļ} {es rest:List ļ} {pos:Pos} {f g h:Env->ag->Res D} {fa:Env->ag->Res (List D)} {ft gt:Env->ag->Res Bool}
def cN {t t':TE} (h:PE X e t) (i:∀ σ H Q,t' σ H Q->t σ H Q):PE X e t':=λπ s σ H Q I hq=>h π s σ H Q I (i σ H Q hq)
def xw {t t':TT} (h:PT X e t) (i:∀ σ H Q,t' σ H Q->t σ H Q):PT X e t':=λπ s σ H Q I hq=>h π s σ H Q I (i σ H Q hq)
def Jd {t t':TT} (h:PW X e t) (i:∀ σ H Q,t' σ H Q->t σ H Q):PW X e t':=λwh π s σ H Q I hq=>h wh π s σ H Q I (i σ H Q hq)
def Je {t t':TA} (h:PA X es t) (i:∀ σ H Q,t' σ H Q->t σ H Q):PA X es t':=λp π s σ H Q I hq=>h p π s σ H Q I (i σ H Q hq)
def jg (h:PS X st t) (i:∀D σ H,t' D σ H->t D σ H):PS X st t':=λπ s σ H D I hq=>h π s σ H D I (i D σ H hq)
def HQ (h:eM X st t) (i:∀D σ H,t' D σ H->t D σ H):eM X st t':=λπ s σ H D I hq=>h π s σ H D I (i D σ H hq)
def aH {α:Type} {K:Ĳ} {w:Wd} {a:α} {k:Wd->α->Prop} (S:aK K w) (h:Out K Ξ w (ok a w.aG) k):k w a:=h w (Le.refl w) S rfl
def af (i:Nat) {x:Str} (hN:X.N[i]?=some x:=by rfl) (hv:uO X.env.scope x:=by first|exact ť rfl|exact Or.inr (ť rfl)|exact Or.inr (Or.inr rfl)) (hd:(x==("__debug__":Str))=false:=by decide)
  (kK:(x==("__classdict__":Str))=false:=by decide):PE X (.Name x pos) (tE X.K Ξ (aa i)):=cN (Tj hN hv hd kK) fun σ H Q az=>by
 obtain⟨w,env,eH,S,eo,h⟩:=az;unfold aa at h;split at h
 ·rename_i d he
  obtain⟨v,e1,e2⟩:=eo.val i d he;subst eH;exact⟨v,e1,aH S h v e2⟩
 ·exact h.elim
def rn {d:D} {v:V} (h:PE X e (tC v)) (hd:∀w,DV X.K w d v):PE X e (tE X.K Ξ (eC d)):=cN h fun σ H Q az=>by
 obtain⟨w,env,eH,S,eo,h⟩:=az;subst eH;exact aH S h v (hd w)
def aw {i j}:PE X (.Constant (.int i) j pos) (tE X.K Ξ (eC (.int i))):=rn IK λ_=>rfl
def dS {b j}:PE X (.Constant (.bool b) j pos) (tE X.K Ξ (eC (.bl b))):=rn Vc λ_=>rfl
def xO {j}:PE X (.Constant .none j pos) (tE X.K Ξ (eC .au)):=rn IL λ_=>rfl
def gB {x j}:PE X (.Constant (.str x) j pos) (tE X.K Ξ (eC (.str x))):=rn IM λ_=>rfl
def xf (σ:St) (H:Hp) (Q:VK):tE K Ξ (e2 o f g) σ H Q->uY (rO K Ξ o) (tE K Ξ f) (tE K Ξ g) σ H Q:=by
 rintro ⟨w,env,rfl,S,eo,h⟩;exact⟨w,env,rfl,S,eo,(Out.ao h).mono λw1 x l1 S1 h1 v1 fU=>⟨w1,env,rfl,S1,eo.le l1,(Out.ao h1).mono λw2 y l2 S2 h2 v2 i8=>⟨w2,x,y,rfl,S2,l2 _ _ fU,i8,h2⟩⟩⟩
def bF (ho:aW X (ŋ op) (rO X.K Ξ o)) (ha:PE X a (tE X.K Ξ f)) (hb:PE X b (tE X.K Ξ g)):PE X (.BinOp a op b pos) (tE X.K Ξ (e2 o f g)):=cN (Vm ho ha hb) xf
def ei (ho:aW X (Č op) (rO X.K Ξ o)) (ha:PE X a (tE X.K Ξ f)) (hb:PE X b (tE X.K Ξ g)) (hm:aaX op b=false):PE X (.Compare a [op] [b] pos) (tE X.K Ξ (e2 o f g)):=cN (RD ho ha hb hm) xf
def Jf {K:Ĳ} (σ:St) (H:Hp) (Q:Bool->Hp->Prop):tT K Ξ (aF f) σ H Q->tW (tE K Ξ f) σ H Q:=by
 rintro ⟨w,env,rfl,S,eo,h⟩;refine⟨w,env,rfl,S,eo,(Out.ao h).mono λw1 x l1 S1 h1 v1 fU=>?_⟩
 cases x with
 |bl b =>
  have e:v1=.bl b:=fU;exact⟨b,e,aH S1 h1⟩
 |_=>exact h1.elim
def FZ (i:∀ σ H Q,t' σ H Q->t σ H Q) (σ:St) (H:Hp) (Q:Bool->Hp->Prop):tW t' σ H Q->tW t σ H Q:=λh=>i _ _ _ h
def bz (ho:aW X (Č op) (rO X.K Ξ o)) (ha:PE X a (tE X.K Ξ f)) (hb:PE X b (tE X.K Ξ g)) (hm:aaX op b=false):PT X (.Compare a [op] [b] pos) (tT X.K Ξ (aF (e2 o f g))) :=
 xw (RE ho ha hb hm) fun σ H Q h=>FZ xf σ H Q (Jf σ H Q h)
def Jg {K:Ĳ} {o o':D->D->ag->Res D} (σ:St) (H:Hp) (Q:VK):tE K Ξ (mL o o' f g h) σ H Q->AZ (rO K Ξ o) (rO K Ξ o') (tE K Ξ f) (tE K Ξ g) (tE K Ξ h) σ H Q:=by
 rintro ⟨w,env,rfl,S,eo,h⟩;refine⟨w,env,rfl,S,eo,(Out.ao h).mono λw1 x l1 S1 h1 v1 fU=>⟨w1,env,rfl,S1,eo.le l1,(Out.ao h1).mono λw2 y l2 S2 h2 v2 i8=>⟨w2,x,y,rfl,S2,l2 _ _ fU,i8,(Out.ao h2).mono λw3 z l3 S3 h3 v3 DC=>?_⟩⟩⟩;have h4:=Out.ao h3
 cases z with
 |bl b =>
  have e:v3=.bl b:=DC;have h5:=aH S3 h4;refine⟨b,e,?_⟩
  cases b with
  |true =>
   rw[Ú rfl] at h5 |-;exact⟨w3,env,rfl,S3,eo.le (l1.trans (l2.trans l3)),(Out.ao h5).mono λw4 u l4 S4 h6 v4 DD=>⟨w4,y,u,rfl,S4,(l3.trans l4) _ _ i8,DD,h6⟩⟩
  |false =>
   rw[æ Ë] at h5 |-;exact aH S3 h5 _ rfl
 |_=>exact h4.elim
def HR (ho:aW X (Č op) (rO X.K Ξ o)) (cY:aW X (Č jv) (rO X.K Ξ o')) (ha:PE X a (tE X.K Ξ f)) (hb:PE X b (tE X.K Ξ g)) (hc:PE X c (tE X.K Ξ h))
 (hm:lastMarks [op,jv] [b,c]=false:=by with_unfolding_all rfl):PE X (.Compare a [op,jv] [b,c] pos) (tE X.K Ξ (mL o o' f g h)):=cN (P5 ho cY ha hb hc hm) Jg
def R5 (ho:aW X (Č op) (rO X.K Ξ o)) (cY:aW X (Č jv) (rO X.K Ξ o')) (ha:PE X a (tE X.K Ξ f)) (hb:PE X b (tE X.K Ξ g)) (hc:PE X c (tE X.K Ξ h))
 (hm:lastMarks [op,jv] [b,c]=false:=by with_unfolding_all rfl):PT X (.Compare a [op,jv] [b,c] pos) (tT X.K Ξ (aF (mL o o' f g h))):=xw (P6 ho cY ha hb hc hm) fun σ H Q h=>FZ Jg σ H Q (Jf σ H Q h)
def rN (ho:uX X (unaryOp op) (rU X.K Ξ o)) (ha:PE X a (tE X.K Ξ f)):PE X (.UnaryOp op a pos) (tE X.K Ξ (e1 o f)):=cN (Vn ho ha) fun σ H Q az=>by
 obtain⟨w,env,eH,S,eo,h⟩:=az;subst eH;exact⟨w,env,rfl,S,eo,(Out.ao h).mono λw1 x l1 S1 h1 v1 fU=>⟨w1,x,rfl,S1,fU,h1⟩⟩
def bL:PA X [] (tA X.K Ξ ah):=Je nq fun σ H Q az=>by
 obtain⟨w,env,eH,S,eo,h⟩:=az;subst eH;exact aH S h _ rfl
def aM (ha:PE X e (tE X.K Ξ f)) (hr:PA X es (tA X.K Ξ fa)) (hs:Þ (e::es) X.env=(false,ţ e X.env)::Þ es X.env:=by rfl):PA X (e::es) (tA X.K Ξ (ae f fa)):=Je (lA ha hr hs) fun σ H Q az=>by
 obtain⟨w,env,eH,S,eo,h⟩:=az;subst eH;exact⟨w,env,rfl,S,eo,(Out.ao h).mono λw1 x l1 S1 h1 v1 fU=>⟨w1,env,rfl,S1,eo.le l1,(Out.ao h1).mono λw2 xs l2 S2 h2 vs aq=>aH S2 h2 _ ⟨v1,vs,rfl,l2 _ _ fU,aq⟩⟩⟩
def tm {α:Type} {K:Ĳ} {w:Wd} {ds:List D} {r:Res α} {k:Wd->α->Prop} (h:Out K Ξ w (iT ds r) k):ds.length<=Õ/\Out K Ξ w r k:=by
 unfold iT at h;split at h
 ·exact⟨by assumption,h⟩
 ·exact h.elim
def bJ {x1} (ha:PA X es (tA X.K Ξ fa)):PE X (.Tuple es x1 pos) (tE X.K Ξ (aX fa)):=cN (TQ ha) fun σ H Q az=>by
 obtain⟨w,env,eH,S,eo,h⟩:=az;subst eH;refine⟨w,env,rfl,S,eo,(Out.ao h).mono λw1 ds l1 S1 h1 vs aq=>?_⟩;obtain⟨hl,h2⟩:=tm h1;refine⟨by rw[<- aq.length];exact hl,λp hp=>?_⟩;exact h2 (w1.grow p (.tup vs)) (Fw.grow hp).le (S1.grow hp) rfl (.ref p) ⟨p,vs,rfl,aR.of dg,(Fw.grow hp).le.all aq⟩
def nr {K:Ĳ} {w:Wd} {p:á} (S:aK K w) (hp:w.H p=none):¬ w.Z p:=λ⟨k,c,e1,_,_⟩=>S.there k p e1 hp
def iU (ha:PA X es (tA X.K Ξ fa)):PE X (.List es pos) (tE X.K Ξ (fH fa)):=cN (IU ha) fun σ H Q az=>by
 obtain⟨w,env,eH,S,eo,h⟩:=az;subst eH;refine⟨w,env,rfl,S,eo,(Out.ao h).mono λw1 ds l1 S1 h1 vs aq=>?_⟩;obtain⟨hl,h2⟩:=tm h1;refine⟨by rw[<- aq.length];exact hl,λp hp=>?_⟩;exact h2 (w1.grow p (.lst vs)) (Fw.grow hp).le (S1.grow hp) rfl (.ref p) ⟨p,vs,rfl,⟨(show ¬ w1.Z p from nr S1 hp),dg⟩,(Fw.grow hp).le.all aq⟩
def o7 (ha:PA X es (tA X.K Ξ fa)):PE X (.List es pos) (tE X.K Ξ (eNew fa)):=cN (IU ha) fun σ H Q az=>by
 obtain⟨w,env,eH,S,eo,h⟩:=az;subst eH;refine⟨w,env,rfl,S,eo,(Out.ao h).mono λw1 ds l1 S1 h1 vs aq=>?_⟩;obtain⟨hl,h2⟩:=tm h1;refine⟨by rw[<- aq.length];exact hl,λp hp=>?_⟩;have le:=(Fw.cell (o:=.lst vs) (c:=.lst ds) S1 hp).le;refine h2 (w1.cell p (.lst vs) (.lst ds)) le (S1.BD hp ⟨vs,dg,le.all aq⟩) rfl (.ref p) ⟨p,?_,rfl⟩;show (w1.ρ++[p])[w1.aG.length]?=some p;rw[<- S1.len];simp
def tZ (ha:PE X a (tE X.K Ξ f)):PE X a (tE X.K Ξ (jT f)):=cN ha fun σ H Q az=>by
 obtain⟨w,env,eH,S,eo,h⟩:=az;subst eH;refine⟨w,env,rfl,S,eo,(Out.ao h).mono λw1 x l1 S1 h1 v1 fU=>?_⟩;unfold cL at h1;split at h1
 ·rename_i k
  split at h1
  ·rename_i ds hk
   obtain⟨p,e1,e2⟩:=fU;obtain⟨xs,q1,q2⟩:=S1.cell k p _ e1 hk;exact h1 (w1.freeze k) Fw.freeze.le S1.freeze rfl v1 ⟨p,xs,e2,⟨Wd.OU S1 e1,q1⟩,Fw.freeze.le.all q2⟩
  ·exact h1.elim
 ·exact h1.elim
def pE.of {K:Ĳ} {w:Wd} {d:D} {v:V} {k:Wd->Bool->Prop} (S:aK K w) (hd:DV K w d v) (h:Out K Ξ w (truth d w.aG) k):∃b,pE K v w.H b/\k w b:=by
 cases d with
 |au=>have e:v=.au:=hd;subst e;exact⟨_,rfl,aH S h⟩
 |bl b=>have e:v=.bl b:=hd;subst e;exact⟨_,rfl,aH S h⟩
 |int i=>have e:v=.int i:=hd;subst e;exact⟨_,rfl,aH S h⟩
 |str x =>
  have e:v=.str x:=hd;subst e;unfold truth at h
  split at h<;>first|contradiction|skip
  all_goals (rename_i e;cases e)
  split at h
  ·exact⟨_,⟨by assumption,rfl⟩,aH S h⟩
  ·exact h.elim
 |tup ds =>
  simp only[DV] at hd;obtain⟨a,xs,rfl,hq,r⟩:=hd;refine⟨_,.inr (.inl ⟨xs,hq,?_⟩),aH S h⟩;have e:=r.length
  cases ds<;>cases xs<;>first|rfl|cases e
 |lst ds =>
  simp only[DV] at hd;obtain⟨a,xs,rfl,hq,r⟩:=hd;refine⟨_,.inl ⟨xs,hq.sq,?_⟩,aH S h⟩;have e:=r.length
  cases ds<;>cases xs<;>first|rfl|cases e
 |aZ ai =>
  simp only[DV] at hd;obtain⟨a,rfl,_,hq⟩:=hd;refine⟨_,.inr (.inr ⟨_,hq,?_⟩),aH S h⟩
  cases ai<;>rfl
 |aj j =>
  simp only[DV] at hd;obtain⟨a,e1,rfl⟩:=hd;simp only[truth] at h;split at h
  ·rename_i ds hk
   obtain⟨xs,q1,q2⟩:=S.cell j a _ e1 hk;refine⟨_,.inl ⟨xs,bp.of q1,?_⟩,aH S h⟩;have e:=q2.length
   cases ds<;>cases xs<;>first|rfl|cases e
  ·rename_i ai hk
   obtain⟨es,q1,q2,q3⟩:=S.cell j a _ e1 hk;refine⟨_,.inr (.inr ⟨es,q1,?_⟩),aH S h⟩;have e:=Ĺ List.length q2
   cases ai<;>cases es<;>first|rfl|simp at e
  ·exact h.elim
 |ty n=>exact h.elim
 |bC ns=>exact h.elim
def eD (ha:PE X a (tE X.K Ξ f)) (he:∀whole,isTrue a X.env whole=(do let v <- whole;abg a.pos;aac [v] (truthy v)):=by intro _;rfl):PT X a (tT X.K Ξ (cK f)):=xw (P7 ha he) fun σ H Q az=>by
 obtain⟨w,env,eH,S,eo,h⟩:=az;subst eH;exact⟨w,env,rfl,S,eo,(Out.ao h).mono λw1 x l1 S1 h1 v1 fU=>pE.of S1 fU h1⟩
def iV (ha:PT X a (tT X.K Ξ ft)):PT X (.UnaryOp .Not a pos) (tT X.K Ξ (fe ft)):=xw (Tp ha) fun σ H Q az=>by
 obtain⟨w,env,eH,S,eo,h⟩:=az;subst eH;exact⟨w,env,rfl,S,eo,(Out.ao h).mono λw1 b l1 S1 h1=>aH S1 h1⟩
def nu (ha:PT X a (tT X.K Ξ ft)):PW X (.BoolOp .And [a] pos) (tT X.K Ξ ft):=Ru ha
def ko (ha:PT X a (tT X.K Ξ ft)):PW X (.BoolOp .Or [a] pos) (tT X.K Ξ ft):=Tn ha
def w_and (ha:PT X a (tT X.K Ξ ft)) (hb:PW X (.BoolOp .And (b::rest) pos) (tT X.K Ξ gt)):PW X (.BoolOp .And (a::b::rest) pos) (tT X.K Ξ (cG ft gt)):=Jd (To ha hb) fun σ H Q az=>by
 obtain⟨w,env,eH,S,eo,h⟩:=az;subst eH;refine⟨w,env,rfl,S,eo,(Out.ao h).mono λw1 b l1 S1 h1=>?_⟩
 cases b with
 |true=>exact⟨w1,env,rfl,S1,eo.le l1,h1⟩
 |false=>exact aH S1 h1
def w_or (ha:PT X a (tT X.K Ξ ft)) (hb:PW X (.BoolOp .Or (b::rest) pos) (tT X.K Ξ gt)):PW X (.BoolOp .Or (a::b::rest) pos) (tT X.K Ξ (fM ft gt)):=Jd (Vd ha hb) fun σ H Q az=>by
 obtain⟨w,env,eH,S,eo,h⟩:=az;subst eH;refine⟨w,env,rfl,S,eo,(Out.ao h).mono λw1 b l1 S1 h1=>?_⟩
 cases b with
 |false=>exact⟨w1,env,rfl,S1,eo.le l1,h1⟩
 |true=>exact aH S1 h1
def dh {op} (ha:PE X a (tE X.K Ξ f)):PE X (.BoolOp op [a] pos) (tE X.K Ξ f):=Tq ha
def AI {K:Ĳ} {w:Wd} {d:D} {v:V} {k:Wd->Bool->Prop} (S:aK K w) (hd:DV K w d v) (h:Out K Ξ w (gg d w.aG) k):∃b,v=.bl b/\k w b:=by
 cases d with
 |bl b=>exact⟨b,hd,aH S h⟩
 |_=>exact h.elim
def dJ (ha:PE X a (tE X.K Ξ f)) (hb:PE X (.BoolOp .And (b::rest) pos) (tE X.K Ξ g)):PE X (.BoolOp .And (a::b::rest) pos) (tE X.K Ξ (cH f g)):=cN (Tr ha hb) fun σ H Q az=>by
 obtain⟨w,env,eH,S,eo,h⟩:=az;subst eH;refine⟨w,env,rfl,S,eo,(Out.ao h).mono λw1 x l1 S1 h1 v1 fU=>?_⟩;obtain⟨b,e,h2⟩:=AI S1 fU (Out.ao h1);refine⟨b,e,?_⟩
 cases b with
 |true=>exact⟨w1,env,rfl,S1,eo.le l1,h2⟩
 |false=>exact aH S1 h2 _ rfl
def pK (ha:PE X a (tE X.K Ξ f)) (hb:PE X (.BoolOp .Or (b::rest) pos) (tE X.K Ξ g)):PE X (.BoolOp .Or (a::b::rest) pos) (tE X.K Ξ (kP f g)):=cN (Vg ha hb) fun σ H Q az=>by
 obtain⟨w,env,eH,S,eo,h⟩:=az;subst eH;refine⟨w,env,rfl,S,eo,(Out.ao h).mono λw1 x l1 S1 h1 v1 fU=>?_⟩;obtain⟨b,e,h2⟩:=AI S1 fU (Out.ao h1);refine⟨b,e,?_⟩
 cases b with
 |false=>exact⟨w1,env,rfl,S1,eo.le l1,h2⟩
 |true=>exact aH S1 h2 _ rfl
def xP (ha:PE X a (tE X.K Ξ f)):PE X (.UnaryOp .Not a pos) (tE X.K Ξ (pJ f)):=cN (Tt ha) fun σ H Q az=>by
 obtain⟨w,env,eH,S,eo,h⟩:=az;subst eH;refine⟨w,env,rfl,S,eo,(Out.ao h).mono λw1 x l1 S1 h1 v1 fU=>?_⟩;obtain⟨b,e,h2⟩:=AI S1 fU (Out.ao h1);exact⟨b,e,aH S1 h2 _ rfl⟩
def Xa (hc:PT X c (tT X.K Ξ ft)) (ha:PE X a (tE X.K Ξ f)) (hb:PE X b (tE X.K Ξ g)):PE X (.IfExp c a b pos) (tE X.K Ξ (yR ft f g)):=cN (P2 hc ha hb) fun σ H Q az=>by
 obtain⟨w,env,eH,S,eo,h⟩:=az;subst eH;refine⟨w,env,rfl,S,eo,(Out.ao h).mono λw1 b l1 S1 h1=>?_⟩
 cases b with
 |true=>exact⟨w1,env,rfl,S1,eo.le l1,h1⟩
 |false=>exact⟨w1,env,rfl,S1,eo.le l1,h1⟩
def Jh (σ:St) (H:Hp) (Q:VK):tE K Ξ (eB o fa) σ H Q->Dc (rC K Ξ o) (tA K Ξ fa) σ H Q:=by
 rintro ⟨w,env,rfl,S,eo,h⟩;exact⟨w,env,rfl,S,eo,(Out.ao h).mono λw1 ds l1 S1 h1 vs aq=>⟨w1,ds,rfl,S1,aq,h1⟩⟩
def bc {x:Str} {p:Pos} {id:String} {o:List D->ag->Res D} (hc:bV X (.builtin id) (rC X.K Ξ o)) (hg:Gl X x) (hm:X.mg x=none) (hv:ą x=some (.builtin id)) (ha:PA X (e::es) (tA X.K Ξ fa)) (hn:x≠"__name__":=by decide) (jw:(x==("__debug__":Str))=false:=by decide)
  (he:Þ (e::es) X.env=(false,ţ e X.env)::Þ es X.env:=by rfl) (cM:(aab pos (Þ es X.env)).any (·.1)=false:=by rfl):PE X (.Call (.Name x p) (e::es) [] pos) (tE X.K Ξ (eB o fa)):=cN (zW hc hg hm hv ha hn jw he cM) Jh
def ik {x:Str} {p:Pos} {T:String} {o:List D->ag->Res D} (hc:bV X (.type T) (rC X.K Ξ o)) (hg:Gl X x) (hm:X.mg x=none) (hv:ą x=some (.type T)) (ha:PA X (e::es) (tA X.K Ξ fa)) (hn:x≠"__name__":=by decide) (jw:(x==("__debug__":Str))=false:=by decide)
  (he:Þ (e::es) X.env=(false,ţ e X.env)::Þ es X.env:=by rfl) (cM:(aab pos (Þ es X.env)).any (·.1)=false:=by rfl):PE X (.Call (.Name x p) (e::es) [] pos) (tE X.K Ξ (eB o fa)):=cN (zO hc hg hm hv ha hn jw he cM) Jh
end
set_option genInjectivity true in
inductive Fl where
 |nx (env:Env)|rt (d:D)|bk (env:Env)|ct (env:Env)
def CF (K:Ĳ) (D:Ends) (w:Wd):Fl->Prop
 | .nx env=>∀ σ,bW K w env σ->D.nx σ w.H
 | .rt d=>∀v,DV K w d v->D.rt v w.H
 | .bk env=>∀ σ,bW K w env σ->D.bk σ w.H
 | .ct env=>∀ σ,bW K w env σ->D.ct σ w.H
def tS (K:Ĳ) (Ξ:Wd->bq->Prop) (f:Env->ag->Res Fl):TS:=λD σ H=>∃w env,w.H=H/\aK K w/\bW K w env σ/\Out K Ξ w (f env w.aG) (CF K D)
def bX:Env->ag->Res Fl:=λenv s=>ok (.nx env) s
def ay (f g:Env->ag->Res Fl):Env->ag->Res Fl:=λenv s=>ao (f env s) λfl s=>match fl with
 | .nx env=>g env s
 |fl=>ok fl s
def aL (f:Env->ag->Res D):Env->ag->Res Fl:=λenv s=>ao (f env s) λd s=>ok (.rt d) s
def fF (f:Env->ag->Res D):Env->ag->Res Fl:=λenv s=>ao (f env s) λ_ s=>ok (.nx env) s
def cc (c:Env->ag->Res Bool) (f g:Env->ag->Res Fl):Env->ag->Res Fl:=λenv s=>ao (c env s) λb s=>if b=true then f env s else g env s
def JU:Env->ag->Res Fl:=λenv s=>ok (.ct env) s
def aJ (f:Env->ag->Res D) (g:D->Env->Option Env):Env->ag->Res Fl:=λenv s=>ao (f env s) λd s=>match g d env with
 |some env'=>ok (.nx env') s
 |none=>none
def gN (i:Nat):D->Env->Option Env:=λd env=>some (env.set i (some d))
def hZ:List (D->Env->Option Env)->List D->Env->Option Env
 | [],[],env=>some env
 |g::gs,d::ds,env=>match g d env with
  |some env'=>hZ gs ds env'
  |none=>none
 |_,_,_=>none
def gT (gs:List (D->Env->Option Env)):D->Env->Option Env:=λd env=>match d with
 | .tup ds=>hZ gs ds env
 |_=>none
def jK (g:D->Env->Option Env) (b:Env->ag->Res Fl):List D->Env->ag->Res Fl
 | [],env,s=>ok (.nx env) s
 |d::ds,env,s=>match g d env with
  |none=>none
  |some env'=>ao (b env' s) λfl s=>match fl with
   | .nx e=>jK g b ds e s
   | .ct e=>jK g b ds e s
   | .bk e=>ok (.nx e) s
   | .rt d=>ok (.rt d) s
def eU (it:Env->ag->Res (List D)) (g:D->Env->Option Env) (b:Env->ag->Res Fl):Env->ag->Res Fl:=λenv s=>ao (it env s) λds s=>jK g b ds env s
def ne {α:Type} (r:Res α):Res α:=match r with
 |some (.ok a,s)=>some (.ok a,s)
 |_=>none
@[simp] theorem jL {α:Type} {a:α} {s:ag}:ne (some (.ok a,s))=some (.ok a,s):=rfl
def fQ (cap:List Nat) (env:Env):Env:=cap.map λj=>(env[j]?).getD none
def eT (nt:Nat) (caps:Env) (g:D->Env->Option Env) (t:Env->ag->Res Bool) (f:Env->ag->Res D):List D->ag->Res (List D)
 | [],s=>ok [] s
 |d::ds,s=>match g d (Ï nt none++caps) with
  |none=>none
  |some env=>ao (ne (t env s)) λb s=>if b=true then ao (ne (f env s)) λx s=>ao (eT nt caps g t f ds s) λxs s=>ok (x::xs) s
   else eT nt caps g t f ds s
def aU (nt:Nat) (cap:List Nat) (it:Env->ag->Res (List D)) (g:D->Env->Option Env) (t:Env->ag->Res Bool) (f:Env->ag->Res D):Env->ag->Res D:=λenv s =>
 ao (it env s) λds s=>iT ds (ao (eT nt (fQ cap env) g t f ds s) λxs s=>ok (.lst xs) s)
def mj (nt:Nat) (cap:List Nat) (it:Env->ag->Res (List D)) (g:D->Env->Option Env) (t:Env->ag->Res Bool) (f:Env->ag->Res D):Env->ag->Res D:=λenv s =>
 ao (it env s) λds s=>iT ds (ao (eT nt (fQ cap env) g t f ds s) λxs s=>ok (.aj s.length) (s++[.lst xs]))
def bQ:Env->ag->Res Bool:=λ_ s=>ok true s
def aS (np ns:Nat) (b:Env->ag->Res Fl):List D->ag->Res D:=λds s=>if ds.length=np then ao (b (ds.map some++Ï (ns-np) none) s) λfl s=>match fl with
 | .rt d=>ok d s
 | .nx _=>ok .au s
 |_=>none else none
abbrev bE:Wd->bq->Prop:=λ_ _=>False
def l6 (K:Ĳ) (f:List D->ag->Res D):Sp:=λvs H Q _=>∃w ds,w.H=H/\aK K w/\ar K w ds vs/\Out K bE w (f ds w.aG) λw' d=>∀v,DV K w' d v->Q v w'.H
section
variable {X:Cx} {Ξ:Wd->bq->Prop} {e a b c tg:ļ} {es rest:List ļ} {pos:Pos} {f g h:Env->ag->Res D} {fa:Env->ag->Res (List D)} {ft gt:Env->ag->Res Bool} {st:Stmt} {oo CG:List Stmt} {fs gs:Env->ag->Res Fl}
def dP:eM X [] (tS X.K Ξ bX):=HQ Rv λD σ H az=>by
 obtain⟨w,env,eH,S,eo,h⟩:=az;subst eH;exact aH S h σ eo
def aC (h1:PS X st (tS X.K Ξ fs)) (h2:eM X oo (tS X.K Ξ gs)):eM X (st::oo) (tS X.K Ξ (ay fs gs)):=HQ (P4 h1 h2) λD σ H az=>by
 obtain⟨w,env,eH,S,eo,h⟩:=az;subst eH;refine⟨w,env,rfl,S,eo,(Out.ao h).mono λw1 fl l1 S1 h1=>?_⟩
 cases fl with
 |nx env'=>exact fun aY j4=>⟨w1,env',rfl,S1,j4,h1⟩
 |rt d=>have q:=aH S1 h1;exact q
 |bk env'=>have q:=aH S1 h1;exact q
 |ct env'=>have q:=aH S1 h1;exact q
def aI (h1:PS X st (tS X.K Ξ fs)):eM X [st] (tS X.K Ξ fs):=Rx h1
def aQ (he:PE X e (tE X.K Ξ f)):PS X (.Return (some e) pos) (tS X.K Ξ (aL f)):=jg (Tu he) λD σ H az=>by
 obtain⟨w,env,eH,S,eo,h⟩:=az;subst eH;exact⟨w,env,rfl,S,eo,(Out.ao h).mono λw1 d l1 S1 h1=>aH S1 h1⟩
def kg (he:PE X e (tE X.K Ξ f)) (hs:abv e none pos.line X.env=pure false:=by rfl):PS X (.Expr e pos) (tS X.K Ξ (fF f)):=jg (Ry he hs) λD σ H az=>by
 obtain⟨w,env,eH,S,eo,h⟩:=az;subst eH;exact⟨w,env,rfl,S,eo,(Out.ao h).mono λw1 d l1 S1 h1 _ _=>aH S1 h1 σ (eo.le l1)⟩
def dU (hc:PT X c (tT X.K Ξ ft)) (ha:eM X oo (tS X.K Ξ fs)) (hb:eM X CG (tS X.K Ξ gs)):PS X (.If c oo CG pos) (tS X.K Ξ (cc ft fs gs)):=jg (Vj hc ha hb) λD σ H az=>by
 obtain⟨w,env,eH,S,eo,h⟩:=az;subst eH;refine⟨w,env,rfl,S,eo,(Out.ao h).mono λw1 b l1 S1 h1=>?_⟩
 cases b with
 |true=>exact⟨w1,env,rfl,S1,eo.le l1,h1⟩
 |false=>exact⟨w1,env,rfl,S1,eo.le l1,h1⟩
def yS:Env->ag->Res Fl:=λ_ _=>none
def z0:eM X oo (tS X.K Ξ yS):=λ_ _ _ _ _ _ h=>by obtain⟨w,env,_,_,_,h⟩:=h;exact h.elim
def gD (K:Ĳ) (g:D->Env->Option Env):TG:=λv σ H Q=>∃w env d env',w.H=H/\aK K w/\bW K w env σ/\DV K w d v/\g d env=some env'/\∀ aY,bW K w env' aY->Q aY H
def vm (K:Ĳ) (g:List D->Env->Option Env):kL:=λvs σ H Q=>∃w env ds env',w.H=H/\aK K w/\bW K w env σ/\ar K w ds vs/\g ds env=some env'/\∀ aY,bW K w env' aY->Q aY H
def Ji {t t':TG} (h:PG X e t) (i:∀v σ H Q,t' v σ H Q->t v σ H Q):PG X e t':=λπ s σ H v u Q I r hq=>h π s σ H v u Q I r (i v σ H Q hq)
def HS {t t':kL} (h:lR X es t) (i:∀v σ H Q,t' v σ H Q->t v σ H Q):lR X es t':=λπ s σ H v u Q I r hq=>h π s σ H v u Q I r (i v σ H Q hq)
def cq (i:Nat) {x:Str} (hN:X.N.Nodup) (hi:X.N[i]?=some x:=by rfl) (hx:Loc X.env.scope x:=by first|exact ť rfl|exact Or.inr rfl) (hf:X.fn x=true\/X.env.scope.names.lookup x=some .local:=by first|exact .inl rfl|exact .inr rfl):PG X (.Name x pos) (gD X.K (gN i)) :=
 Ji (dG hN hi hx hf) λv σ H Q az=>by
  obtain⟨w,env,d,env',eH,S,eo,dv,eg,k⟩:=az;have e:env.set i (some d)=env':=Option.some.inj eg;subst e;exact k _ (eo.set dv i)
def nv:lR X [] (vm X.K (hZ [])):=HS oO λvs σ H Q az=>by
 obtain⟨w,env,ds,env',eH,S,eo,aq,eg,k⟩:=az
 cases ds with
 |nil =>
  have e:env=env':=Option.some.inj eg;subst e;exact⟨aq,k _ eo⟩
 |cons d ds=>cases eg
def fP {g:D->Env->Option Env} {gl:List (D->Env->Option Env)} (h1:PG X e (gD X.K g)) (h2:lR X es (vm X.K (hZ gl)))
  (hs:(ũ (e::es) X.env).map (·.2)=aaR e X.env::(ũ es X.env).map (·.2):=by rfl):lR X (e::es) (vm X.K (hZ (g::gl))):=HS (jc h1 h2 hs) λvs σ H Q az=>by
 obtain⟨w,env,ds,env',eH,S,eo,aq,eg,k⟩:=az
 cases ds with
 |nil=>cases eg
 |cons d ds =>
  obtain⟨v,r,rfl,dv,dr⟩:=aq;simp only[hZ] at eg
  cases su:g d env with
  |none=>rw[su] at eg;cases eg
  |some yt =>
   rw[su] at eg;refine⟨v,r,rfl,w,env,d,yt,eH,S,eo,dv,su,fun K9 X9=>⟨w,yt,ds,env',eH,S,X9,dr,eg,k⟩⟩
def z9:∀{gl:List (D->Env->Option Env)} {ds:List D} {env env':Env},hZ gl ds env=some env'->ds.length=gl.length
 | [],[],_,_,_=>rfl
 |g::gl,d::ds,env,env',h=>by
  simp only[hZ] at h
  cases su:g d env with
  |none=>rw[su] at h;cases h
  |some e1=>rw[su] at h;simp[z9 h]
 | [],_::_,_,_,h=>by cases h
 |_::_,[],_,_,h=>by cases h
def nG {gl:List (D->Env->Option Env)} {k:Nat} (hc:X.calm=true) (h:lR X es (vm X.K (hZ gl))) (hn:(ũ es X.env).length=gl.length:=by rfl) (pW:(ũ es X.env).findIdx? (·.1)=none:=by rfl):PG X (.Tuple es k pos) (gD X.K (gT gl)) :=
 Ji (ke hc h hn pW) λv σ H Q az=>by
  obtain⟨w,env,d,env',eH,S,eo,dv,eg,k⟩:=az
  cases d with
  |tup ds =>
   simp only[DV] at dv;obtain⟨p,xs,e1,hq,aq⟩:=dv;subst eH;exact⟨p,xs,e1,hq,by rw[<- aq.length];exact z9 eg,w,env,ds,env',rfl,S,eo,aq,eg,k⟩
  |_=>cases eg
def tF {K:Ĳ} {g:D->Env->Option Env} (D:Ends) (σ:St) (H:Hp):tS K Ξ (aJ f g) D σ H->pC (tE K Ξ f) (gD K g) D σ H:=by
 rintro ⟨w,env,rfl,S,eo,h⟩;refine⟨w,env,rfl,S,eo,(Out.ao h).mono λw1 d l1 S1 h1 v dv=>?_⟩
 cases hg:g d env with
 |none=>rw[hg] at h1;exact h1.elim
 |some env' =>
  rw[hg] at h1;exact⟨w1,env,d,env',rfl,S1,eo.le l1,dv,hg,aH S1 h1⟩
def nH {g:D->Env->Option Env} (he:PE X e (tE X.K Ξ f)) (hg:PG X tg (gD X.K g)) (hs:δ [tg] e pos.line X.env=pure false:=by rfl) (hw:ε [tg] e X.env=pure none:=by rfl)
  (h1:(ũ [tg] X.env).map (·.2)=[aaR tg X.env]:=by rfl):PS X (.Assign [tg] e pos) (tS X.K Ξ (aJ f g)):=jg (AY he hg hs hw h1) tF
def wL {K:Ĳ} {te:TE} {i:Nat} (D:Ends) (σ:St) (H:Hp):pC (tE K Ξ f) (gD K (gN i)) D σ H->pC (tE K Ξ f) (km i) D σ H:=by
 rintro ⟨w,env,rfl,S,eo,h⟩;refine⟨w,env,rfl,S,eo,h.mono λw1 d l1 S1 h1 v dv=>?_⟩;obtain⟨w',yt,d',env',e',S',j4,qf,eg,k⟩:=h1 v dv;have e:yt.set i (some d')=env':=Option.some.inj eg;subst e;exact k _ (j4.set qf i)
def bH (i:Nat) {x:Str} {pos':Pos} (hN:X.N.Nodup) (he:PE X e (tE X.K Ξ f)) (hi:X.N[i]?=some x:=by rfl) (hx:Loc X.env.scope x:=by first|exact ť rfl|exact Or.inr rfl) (hs:abv e (some (.Name x pos')) pos.line X.env=pure false:=by rfl) (hf:X.fn x=true\/X.env.scope.names.lookup x=some .local:=by first|exact .inl rfl|exact .inr rfl) :
  PS X (.Assign [.Name x pos'] e pos) (tS X.K Ξ (aJ f (gN i))):=jg (Tv hN hi hx he hs hf) λD σ H h=>wL (te:=tE X.K Ξ f) D σ H (tF D σ H h)
def oq (K:Ĳ) (w:Wd) (J:It) (ds:List D):Prop:=∀w',Le K w w'->aK K w'->∀i,
 (∀d,ds[i]?=some d->J.go i w'.H/\∀x H',J.uT i w'.H x H'->∃w2,w2.H=H'/\Le K w' w2/\aK K w2/\w2.aG=w'.aG/\DV K w2 d x)/\(ds.length<=i->J.stop i w'.H)
def cZ (K:Ĳ) (Ξ:Wd->bq->Prop) (f:Env->ag->Res (List D)):TI:=fun σ H R=>∃w env,w.H=H/\aK K w/\bW K w env σ/\Out K Ξ w (f env w.aG) λw' ds=>∀J,oq K w' J ds->R J w'.H
def oU {t t':TI} (h:PI X tg e t) (i:∀ σ H R,t' σ H R->t σ H R):PI X tg e t':=λπ s σ H R I hq=>h π s σ H R I (i σ H R hq)
def R6 {K:Ĳ} {it:Env->ag->Res (List D)} {g:D->Env->Option Env} (D0:Ends) (σ:St) (H:Hp):tS K Ξ (eU it g fs) D0 σ H->Kz (cZ K Ξ it) (gD K g) (tS K Ξ fs) D0 σ H:=by
 rintro ⟨w,env,rfl,S,eo,h⟩;refine⟨w,env,rfl,S,eo,(Out.ao h).mono λw1 ds l1 S1 h1 J hJ=>?_⟩;refine⟨λi m aY H'=>m=ds.length-i/\i<=ds.length/\∃w' env',w'.H=H'/\Le K w1 w'/\aK K w'/\bW K w' env' aY/\Out K Ξ w' (jK g fs (ds.drop i) env' w'.aG) (CF K D0),
  ⟨ds.length,rfl,Ę _,w1,env,rfl,Le.refl _,S1,eo.le l1,h1⟩,?_⟩
 rintro i m aY H' ⟨rfl,hi,w',env',rfl,l',S',j4,h'⟩;by_cases bA:i<ds.length
 ·right
  obtain⟨fV,hy⟩:=(hJ w' l' S' i).1 _ (Ð bA);rw[aaI bA] at h';simp only[jK] at h'
  cases hg:g ds[i] env' with
  |none=>rw[hg] at h';exact h'.elim
  |some jU =>
   rw[hg] at h';refine⟨fV,fun mG H2=>∃w2 yu,w2.H=H2/\Le K w1 w2/\aK K w2/\bW K w2 yu mG/\Out K Ξ w2 (jK g fs (ds.drop (i+1)) yu w2.aG) (CF K D0),fun mG H2 ⟨w2,yu,q⟩=>⟨ds.length-(i+1),by omega,rfl,bA,w2,yu,q⟩,λx H2 y=>?_⟩;obtain⟨w2,rfl,l2,S2,es,dv⟩:=hy x H2 y;refine⟨w2,env',ds[i],jU,rfl,S2,j4.le l2,dv,hg,fun mG l7=>⟨w2,jU,rfl,S2,l7,?_⟩⟩;rw[<- es] at h';refine(Out.ao (h'.from l2)).mono λw3 fl l3 S3 h3=>?_
   cases fl with
   |nx e3=>exact fun lS DE=>⟨w3,e3,rfl,l'.trans (l2.trans l3),S3,DE,h3⟩
   |ct e3=>exact fun lS DE=>⟨w3,e3,rfl,l'.trans (l2.trans l3),S3,DE,h3⟩
   |bk e3=>have q:=aH S3 h3;exact q
   |rt d=>have q:=aH S3 h3;exact q
 ·left
  have e:i=ds.length:=by omega
  subst e;rw[List.drop_length] at h';exact⟨(hJ w' l' S' _).2 (Nat.le_refl _),aH S' h' aY j4⟩
def iu {iter:ļ} {it:Env->ag->Res (List D)} {g:D->Env->Option Env} (hp:PassesOwn (ø X.prog X.w) X.A X.env X.xe) (hc:X.calm=true) (hi:PI X tg iter (cZ X.K Ξ it)) (hg:PG X tg (gD X.K g)) (hb:eM X oo (tS X.K Ξ fs))
  (hs:∀x,ô iter X.env x=pure x:=by intro _;rfl):PS X (.For tg iter oo [] pos) (tS X.K Ξ (eU it g fs)):=jg (TC hp hc hi hg hb hs) R6
def Out.ne {α:Type} {K:Ĳ} {w:Wd} {r:Res α} {k:Wd->α->Prop} (h:Out K Ξ w (DI.ne r) k):Out K bE w r k:=by
 match r,h with
 |some (.ok a,s),h=>exact h
def bW.block {K:Ĳ} {w:Wd} {env:Env} {σ:St} (h:bW K w env σ) (nt:Nat) (cap:List Nat) (o:St) (ho:o.length=nt):bW K w (Ï nt none++fQ cap env) (o++mq cap σ):=by
 refine⟨by simp[fQ,mq,ho],λi d e=>?_⟩;by_cases hi:i<nt
 ·rw[ä (by simpa using hi),ĭ,Ú hi] at e
  cases e
 ·rw[ü (by simpa using ξ hi)] at e
  rw[ü (by omega),ho];simp only[ů] at e;unfold fQ at e;unfold mq;rw[ç] at e |-
  cases ej:cap[i-nt]? with
  |none=>rw[ej] at e;cases e
  |some j =>
   rw[ej] at e;have ev:(env[j]?).getD none=some d:=Option.some.inj e;have va:env[j]?=some (some d):=by
    cases q:env[j]? with
    |none=>rw[q] at ev;cases ev
    |some z=>rw[q] at ev;exact Ĺ some ev
   obtain⟨v,e1,e2⟩:=h.val j d va;exact⟨v,by rw[Ŏ,e1];rfl,e2⟩
def Gp {K:Ĳ} {nt:Nat} {cap:List Nat} {it:Env->ag->Res (List D)} {g:D->Env->Option Env} {fin:List D->ag->Res D} (σ:St) (H:Hp) (Q:VK)
  (CH:∀(w2:Wd) (xs:List D) (vs:List V),aK K w2->ar K w2 xs vs->Out K Ξ w2 (fin xs w2.aG) (λw' d=>∀v,DV K w' d v->Q v w'.H)->∀p,w2.H p=none->Q (.ref p) (upd w2.H p (.lst vs))) :
  tE K Ξ (λenv s=>ao (it env s) λds s=>iT ds (ao (eT nt (fQ cap env) g ft f ds s) fin)) σ H Q->mr (cZ K Ξ it) nt cap (gD K g) (tT K bE ft) (tE K bE f) σ H Q:=by
 rintro ⟨w,env,rfl,S,eo,h⟩;refine⟨w,env,rfl,S,eo,(Out.ao h).mono λw1 ds l1 S1 h1 J hJ=>?_⟩;obtain⟨hz,h1⟩:=tm h1;refine⟨λi m acc H'=>m=ds.length-i/\i<=ds.length/\acc.length<=i/\∃w' accD,w'.H=H'/\Le K w1 w'/\aK K w'/\ar K w' accD acc/\Out K Ξ w' (eT nt (fQ cap env) g ft f (ds.drop i) w'.aG) λw2 xs=>∀vs,ar K w2 (accD++xs) vs->∀p,w2.H p=none->Q (.ref p) (upd w2.H p (.lst vs)),
  ⟨ds.length,rfl,Ę _,Ę _,w1,[],rfl,Le.refl _,S1,rfl,(Out.ao h1).mono λw2 xs l2 S2 h2 vs aq p hp=>?_⟩,?_⟩
 ·exact CH w2 xs vs S2 aq h2 p hp
 rintro i m acc H' ⟨rfl,hi,ha,w',accD,rfl,l',S',da,h'⟩;by_cases bA:i<ds.length
 ·right
  obtain⟨fV,hy⟩:=(hJ w' l' S' i).1 _ (Ð bA);rw[aaI bA] at h';simp only[eT] at h'
  cases hg:g ds[i] (Ï nt none++fQ cap env) with
  |none=>rw[hg] at h';exact h'.elim
  |some jU =>
   rw[hg] at h';refine⟨fV,by omega,λyv H2=>yv.length<=i+1/\∃w' accD,w'.H=H2/\Le K w1 w'/\aK K w'/\ar K w' accD yv/\Out K Ξ w' (eT nt (fQ cap env) g ft f (ds.drop (i+1)) w'.aG) λw2 xs=>∀vs,ar K w2 (accD++xs) vs->∀p,w2.H p=none->Q (.ref p) (upd w2.H p (.lst vs)),
    λyv H2 ⟨Ya,q⟩=>⟨ds.length-(i+1),by omega,rfl,bA,Ya,q⟩,λo x H3 ho y=>?_⟩
   obtain⟨w2,rfl,l2,S2,es,dv⟩:=hy x H3 y;refine⟨w2,_,ds[i],jU,rfl,S2,(eo.le (l1.trans (l'.trans l2))).block nt cap o ho,dv,hg,fun mG l7=>?_⟩;rw[<- es] at h';refine⟨w2,jU,rfl,S2,l7,(Out.ao (h'.from l2)).ne.mono λw3 b l3 S3 h3=>?_⟩
   cases b with
   |true =>
    refine⟨w3,jU,rfl,S3,l7.le l3,(Out.ao h3).ne.mono λw4 d l4 S4 h4 v DD=>⟨by rw[â];simp;omega,w4,accD++[d],rfl,l'.trans (l2.trans (l3.trans l4)),S4,ar.append ((l2.trans (l3.trans l4)).all da) (ar.one DD),(Out.ao h4).mono λw5 xs l5 S5 h5 vs aq p hp=>?_⟩⟩;exact aH S5 h5 vs (by rw[ķ] at aq;exact aq) p hp
   |false =>
    exact⟨by omega,w3,accD,rfl,l'.trans (l2.trans l3),S3,(l2.trans l3).all da,h3⟩
 ·left
  have e:i=ds.length:=by omega
  subst e;rw[List.drop_length] at h';refine⟨(hJ w' l' S' _).2 (Nat.le_refl _),by omega,λp hp=>aH S' h' acc (by rw[Ō];exact da) p hp⟩
def G2 {K:Ĳ} {nt:Nat} {cap:List Nat} {it:Env->ag->Res (List D)} {g:D->Env->Option Env} (σ:St) (H:Hp) (Q:VK) :
  tE K Ξ (aU nt cap it g ft f) σ H Q->mr (cZ K Ξ it) nt cap (gD K g) (tT K bE ft) (tE K bE f) σ H Q :=
 Gp σ H Q λw2 xs vs S2 aq h2 p hp=>h2 (w2.grow p (.lst vs)) (Fw.grow hp).le (S2.grow hp) rfl (.ref p) ⟨p,vs,rfl,⟨(show ¬ w2.Z p from nr S2 hp),dg⟩,(Fw.grow hp).le.all aq⟩
def Gq {K:Ĳ} {nt:Nat} {cap:List Nat} {it:Env->ag->Res (List D)} {g:D->Env->Option Env} (σ:St) (H:Hp) (Q:VK) :
  tE K Ξ (mj nt cap it g ft f) σ H Q->mr (cZ K Ξ it) nt cap (gD K g) (tT K bE ft) (tE K bE f) σ H Q :=
 Gp σ H Q λw2 xs vs S2 aq h2 p hp=>by
  have le:=(Fw.cell (o:=.lst vs) (c:=.lst xs) S2 hp).le;refine h2 (w2.cell p (.lst vs) (.lst xs)) le (S2.BD hp ⟨vs,dg,le.all aq⟩) rfl (.ref p) ⟨p,?_,rfl⟩;show (w2.ρ++[p])[w2.aG.length]?=some p;rw[<- S2.len];simp
end
def HU {o caps:St} {v:V} {i nt:Nat} (ho:o.length=nt) (hi:i<nt):(o++caps).set i (some v)=o.set i (some v)++caps:=by
 rw[List.set_append_left _ _ (by omega)]
def OV {i nt:Nat} (hi:i<nt):lT (km i) nt:=by
 intro x o caps H R ho h;exact⟨⟨o.set i (some x),by rw[Ĝ];exact ho,HU ho hi⟩,h⟩
def uB (g:kL) (nt:Nat):Prop:=∀(xs:List V) (o caps:St) (H:Hp) (R:St->Hp->Prop),o.length=nt->g xs (o++caps) H R->g xs (o++caps) H fun τ H2=>(∃o2:St,o2.length=nt/\τ=o2++caps)/\R τ H2
def Qu:uB Cm nt:=λxs o caps H R ho h=>⟨h.1,⟨o,ho,rfl⟩,h.2⟩
def OW {i nt:Nat} {g:kL} (hi:i<nt) (hg:uB g nt):uB (Bx (km i) g) nt:=by
 rintro xs o caps H R ho ⟨v,r,e,h⟩;refine⟨v,r,e,?_⟩;have h:g r ((o++caps).set i (some v)) H R:=h;show g r ((o++caps).set i (some v)) H _;rw[HU ho hi] at h |-;exact hg r _ caps H R (by rw[Ĝ];exact ho) h
def Qv (hg:uB g nt):lT (Cn K n g) nt:=by
 rintro x o caps H R ho ⟨a,xs,e,hq,hl,h⟩;exact⟨a,xs,e,hq,hl,hg xs o caps H R ho h⟩
structure Tg (K:Ĳ) (g0:TG) (g:D->Env->Option Env) (nt:Nat):Prop where
 i9:lT g0 nt
 imp:∀v σ H Q,gD K g v σ H Q->g0 v σ H Q
structure yT (K:Ĳ) (g0:kL) (g:List (D->Env->Option Env)) (nt:Nat):Prop where
 i9:uB g0 nt
 imp:∀v σ H Q,vm K (hZ g) v σ H Q->g0 v σ H Q
def je (i:Nat) (hi:i<nt:=by decide):Tg K (km i) (gN i) nt:=⟨OV hi,λv σ H Q az=>by
 obtain⟨w,env,d,env',eH,S,eo,dv,eg,k⟩:=az;have e:env.set i (some d)=env':=Option.some.inj eg;subst e;exact k _ (eo.set dv i)⟩
def qM:yT K Cm [] nt:=⟨Qu,λvs σ H Q az=>by
 obtain⟨w,env,ds,env',eH,S,eo,aq,eg,k⟩:=az
 cases ds with
 |nil =>
  have e:env=env':=Option.some.inj eg;subst e;exact⟨aq,k _ eo⟩
 |cons d ds=>cases eg⟩
def jF (i:Nat) (h:yT K g0 gl nt) (hi:i<nt:=by decide):yT K (Bx (km i) g0) (gN i::gl) nt:=⟨OW hi h.i9,λvs σ H Q az=>by
 obtain⟨w,env,ds,env',eH,S,eo,aq,eg,k⟩:=az
 cases ds with
 |nil=>cases eg
 |cons d ds =>
  obtain⟨v,r,rfl,dv,dr⟩:=aq;exact⟨v,r,rfl,h.imp _ _ _ _ ⟨w,_,ds,env',eH,S,eo.set dv i,dr,eg,k⟩⟩⟩
def qW (h:yT K g0 gl nt) (hn:gl.length=n:=by rfl):Tg K (Cn K n g0) (gT gl) nt:=⟨Qv h.i9,λv σ H Q az=>by
 obtain⟨w,env,d,env',eH,S,eo,dv,eg,k⟩:=az
 cases d with
 |tup ds =>
  simp only[DV] at dv;obtain⟨p,xs,e1,hq,aq⟩:=dv;subst eH;exact⟨p,xs,e1,hq,by rw[<- aq.length,z9 eg];exact hn,h.imp _ _ _ _ ⟨w,env,ds,env',rfl,S,eo,aq,eg,k⟩⟩
 |_=>cases eg⟩
section
variable {X:Cx} {Ξ:Wd->bq->Prop} {e a b c tg el src:ļ} {es rest tests:List ļ} {pos:Pos} {f g h:Env->ag->Res D} {fa:Env->ag->Res (List D)} {ft gt:Env->ag->Res Bool} {st:Stmt} {oo CG:List Stmt} {fs gs:Env->ag->Res Fl}
def Ug (h:PF X tests t) (i:∀ σ H Q,t' σ H Q->t σ H Q):PF X tests t':=λπ s σ H Q I hq=>h π s σ H Q I (i σ H Q hq)
def cJ:PF X [] (tT K Ξ bQ):=Ug T6 fun σ H Q az=>by
 obtain⟨w,env,eH,S,eo,h⟩:=az;subst eH;exact aH S h
def fq (h:PT X c (tT K Ξ ft)):PF X [c] (tT K Ξ ft):=T7 h
def wF (i_:∀v σ H Q,g1 v σ H Q->g0 v σ H Q) (wm:∀R R':It->Hp->Prop,(∀J H',R J H'->R' J H')->wi σ H R->wi σ H R') (h:mr wi nt cap g1 tf te σ H Q):mr wi nt cap g0 tf te σ H Q:=by
 refine wm _ _ (λJ H' hc=>?_) h;obtain⟨W,w0,step⟩:=hc;refine⟨W,w0,λi m acc H2 hw=>?_⟩
 rcases step i m acc H2 hw with q | ⟨q1,q2,N,q3,q4⟩
 ·exact .inl q
 ·exact .inr ⟨q1,q2,N,q3,λo x H3 ho y=>i_ _ _ _ _ (q4 o x H3 ho y)⟩
def wV (R R':It->Hp->Prop) (i:∀J H',R J H'->R' J H') (h:cZ K Ξ it σ H R):cZ K Ξ it σ H R':=by
 obtain⟨w,env,eH,S,eo,h⟩:=h;exact⟨w,env,eH,S,eo,h.mono λw1 ds _ _ h1 J hJ=>i J _ (h1 J hJ)⟩
def bj (f:Env->ag->Res D):Env->ag->Res (List D):=λenv s=>ao (f env s) λd s=>match d with
 | .lst ds=>ok ds s
 | .tup ds=>ok ds s
 |_=>none
def Qw {K:Ĳ} {w:Wd} {a:á} {ds:List D} (h:DV K w (.lst ds) (.ref a)):oq K w (C7 K a) ds:=λw' l' S' i=>by
 have h':=l' _ _ h;simp only[DV] at h';obtain⟨p,xs,e,hq,aq⟩:=h';cases e;refine⟨λd ed=>?_,λhl=>⟨xs,hq.sq,by rw[<- aq.length];exact hl⟩⟩;obtain⟨v,ev,dv⟩:=aq.get' i d ed;exact⟨⟨xs,v,hq.sq,ev⟩,λx H' ⟨e1,e2⟩=>⟨w',e1.symm,Le.refl _,S',rfl,by
  have q:=e2 xs hq.sq;rw[ev] at q;cases q;exact dv⟩⟩
def R7 {K:Ĳ} {w:Wd} {a:á} {ds:List D} (h:DV K w (.tup ds) (.ref a)):oq K w (C8 K a) ds:=λw' l' S' i=>by
 have h':=l' _ _ h;simp only[DV] at h';obtain⟨p,xs,e,hq,aq⟩:=h';cases e;refine⟨λd ed=>?_,λhl=>⟨xs,hq,by rw[<- aq.length];exact hl⟩⟩;obtain⟨v,ev,dv⟩:=aq.get' i d ed;exact⟨⟨xs,v,hq,ev⟩,λx H' ⟨e1,e2⟩=>⟨w',e1.symm,Le.refl _,S',rfl,by
  have q:=e2 xs hq;rw[ev] at q;cases q;exact dv⟩⟩
def cP (hl:PE X a (tE X.K Ξ f)):PI X tg a (cZ X.K Ξ (bj f)):=by
 have both:PI X tg a (fun σ H R=>JP X.K (tE X.K Ξ f) σ H R\/Ky X.K (tE X.K Ξ f) σ H R):=λπ s σ H R I h=>h.elim (Rz hl π s σ H R I) (Tz hl π s σ H R I);refine oU both fun σ H R ⟨w,env,eH,S,eo,h⟩=>?_;subst eH;simp only[bj] at h
 cases hf:f env w.aG with
 |none=>rw[hf] at h;exact h.elim
 |some r =>
  obtain⟨r,s⟩:=r;rw[hf] at h
  cases r with
  |error x=>exact .inl ⟨w,env,rfl,S,eo,by rw[hf];exact h⟩
  |ok d =>
   rw[dI] at h
   cases d with
   |lst ds =>
    refine .inl ⟨w,env,rfl,S,eo,?_⟩;rw[hf];intro w1 l1 S1 e1 v dv;have qf:=dv;simp only[DV] at dv;obtain⟨p,xs,rfl,hq,aq⟩:=dv;exact⟨p,rfl,⟨xs,hq.sq⟩,h w1 l1 S1 e1 _ (Qw qf)⟩
   |tup ds =>
    refine .inr ⟨w,env,rfl,S,eo,?_⟩;rw[hf];intro w1 l1 S1 e1 v dv;have qf:=dv;simp only[DV] at dv;obtain⟨p,xs,rfl,hq,aq⟩:=dv;exact⟨p,rfl,⟨xs,hq⟩,h w1 l1 S1 e1 _ (R7 qf)⟩
   |_=>exact h.elim
noncomputable def bM (lo:Int) (n:Nat):List D:=(ß n).map λ(i:Nat)=>D.int (lo+(i:Int))
def gA:(bM lo n)[i]?=if i<n then some (.int (lo+i)) else none:=by
 unfold bM;rw[ç];by_cases h:i<n
 ·rw[Ĕ h,Ú h];rfl
 ·rw[Ċ (by simp;omega),æ h];rfl
def cg:(bM lo n).length=n:=by simp[bM]
def HV:oq K w (uU lo n) (bM lo n):=λw' l' S' i=>by
 refine⟨λd ed=>?_,λhl=>by rw[cg] at hl;exact hl⟩;rw[gA] at ed;split at ed
 ·cases ed
  exact⟨by assumption,λx H' ⟨e1,e2⟩=>⟨w',e1.symm,Le.refl _,S',rfl,e2⟩⟩
 ·cases ed
noncomputable def jM (j:Int):Bool:=decide (-(2 ^ 62)<=j)&&decide (j<2 ^ 62)
def bP (fa:Env->ag->Res (List D)):Env->ag->Res (List D):=λenv s=>ao (fa env s) λds s=>match ds with
 | [.int j]=>if jM j=true then ok (bM 0 j.toNat) s else none
 |_=>none
def vn (fa:Env->ag->Res (List D)):Env->ag->Res (List D):=λenv s=>ao (fa env s) λds s=>match ds with
 | [.int i,.int j]=>if (jM i&&jM j)=true then ok (bM i (j-i).toNat) s else none
 |_=>none
def cX (hg:Gl X "range") (hm:X.mg "range"=none) (ha:PA X [a] (tA X.K Ξ fa)) (hs:Þ [a] X.env=[(false,ţ a X.env)]:=by rfl):PI X tg (.Call (.Name "range" p) [a] [] pos) (cZ X.K Ξ (bP fa)) :=
 oU (OI hg hm ha hs) fun σ H R az=>by
  obtain⟨w,env,eH,S,eo,h⟩:=az;subst eH;refine⟨w,env,rfl,S,eo,(Out.ao h).mono λw1 ds l1 S1 h1 vs aq=>?_⟩;split at h1
  ·rename_i j
   split at h1
   ·rename_i hj
    simp only[jM,Ç,È] at hj;obtain⟨v,r,rfl,dv,dr⟩:=aq;have e1:v=.int j:=dv;have e2:r=[]:=dr;subst e1 e2;exact⟨j,rfl,hj.1,hj.2,aH S1 h1 _ HV⟩
   ·exact h1.elim
  ·exact h1.elim
def Jj {p:Pos} (hg:Gl X "range") (hm:X.mg "range"=none) (ha:PA X [a,b] (tA X.K Ξ fa)) (hs:Þ [a,b] X.env=[(false,ţ a X.env),(false,ţ b X.env)]:=by rfl) (bZ:Þ [b] X.env=[(false,ţ b X.env)]:=by rfl):PI X tg (.Call (.Name "range" p) [a,b] [] pos) (cZ X.K Ξ (vn fa)) :=
 oU (OJ hg hm ha hs bZ) fun σ H R az=>by
  obtain⟨w,env,eH,S,eo,h⟩:=az;subst eH;refine⟨w,env,rfl,S,eo,(Out.ao h).mono λw1 ds l1 S1 h1 vs aq=>?_⟩;split at h1
  ·rename_i i j
   split at h1
   ·rename_i hj
    simp only[jM,Ç,È] at hj;obtain⟨v,r,rfl,dv,v2,r2,rfl,i8,dr⟩:=aq;have e1:v=.int i:=dv;have e2:v2=.int j:=i8;have e3:r2=[]:=dr;subst e1 e2 e3;exact⟨i,j,rfl,⟨hj.1.1,hj.1.2,hj.2.1,hj.2.2⟩,aH S1 h1 _ HV⟩
   ·exact h1.elim
  ·exact h1.elim
noncomputable def eV (xs ys:List D):List D:=(xs.zip ys).map λp=>.tup [p.1,p.2]
def G3 {i:Nat} (h:(eV xs ys)[i]?=some d):∃x y,xs[i]?=some x/\ys[i]?=some y/\d=.tup [x,y]:=by
 unfold eV at h;rw[ç] at h
 cases hz:(xs.zip ys)[i]? with
 |none=>rw[hz] at h;cases h
 |some p =>
  rw[hz] at h;obtain⟨q1,q2⟩:=List.getElem?_zip_eq_some.mp hz;exact⟨p.1,p.2,q1,q2,(Option.some.inj h).symm⟩
def oH:(eV xs ys).length=min xs.length ys.length:=by simp[eV]
def Gr (S':aK K w') (hp:w'.H p=none) (h1:DV K w' d x) (h2:DV K w' d2 y) :
  ∃w2,w2.H=upd w'.H p (.tup [x,y])/\Le K w' w2/\aK K w2/\w2.aG=w'.aG/\DV K w2 (.tup [d,d2]) (.ref p) :=
 ⟨w'.grow p (.tup [x,y]),rfl,(Fw.grow hp).le,S'.grow hp,rfl,p,[x,y],rfl,aR.of dg,(Fw.grow hp).le.all (ar.two h1 h2)⟩
def Qx {K:Ĳ} {w:Wd} {a b:á} {ds es:List D} (h:DV K w (.tup ds) (.ref a)) (g:DV K w (.tup es) (.ref b)):oq K w (Cy K a b) (eV ds es):=λw' l' S' i=>by
 have h':=l' _ _ h;have g':=l' _ _ g;simp only[DV] at h' g';obtain⟨p,xs,e,hq,aq⟩:=h';obtain⟨q,ys,e',gq,vo⟩:=g';cases e;cases e';refine⟨λd ed=>?_,λhl=>⟨xs,ys,hq,gq,?_⟩⟩
 ·obtain⟨x,y,e1,e2,rfl⟩:=G3 ed
  obtain⟨v,ev,dv⟩:=aq.get' i x e1;obtain⟨u,eu,du⟩:=vo.get' i y e2;refine⟨⟨xs,ys,v,u,hq,gq,ev,eu⟩,λz H' ⟨r,x1,y1,hr,ez,eH,DF⟩=>?_⟩;obtain⟨q1,q2⟩:=DF xs ys hq gq;rw[ev] at q1;rw[eu] at q2;cases q1;cases q2;subst ez eH;exact Gr S' hr dv du
 ·rw[oH] at hl
  have:=aq.length;have:=vo.length;omega
def kE (fa:Env->ag->Res (List D)):Env->ag->Res (List D):=λenv s=>ao (fa env s) λds s=>match ds with
 | [.tup xs,.tup ys]=>ok (eV xs ys) s
 |_=>none
def xQ {p:Pos} {elts:List ļ} {kk:Nat} {uA:Pos} (hg:Gl X "zip") (hm:X.mg "zip"=none) (ha:PA X [a,b] (tA X.K Ξ fa)) (hs:Þ [a,b] X.env=[(false,ţ a X.env),(false,ţ b X.env)]:=by rfl) (bZ:Þ [b] X.env=[(false,ţ b X.env)]:=by rfl) :
  PI X (.Tuple elts kk uA) (.Call (.Name "zip" p) [a,b] [] pos) (cZ X.K Ξ (kE fa)):=by
 refine oU (RS hg hm ha hs bZ) fun σ H R az=>?_;obtain⟨w,env,eH,S,eo,h⟩:=az;subst eH;refine⟨w,env,rfl,S,eo,(Out.ao h).mono λw1 ds l1 S1 h vs aq=>?_⟩;split at h
 ·obtain⟨v,r,rfl,dv,v2,r2,rfl,i8,dr⟩:=aq
  have e3:r2=[]:=dr;subst e3;have q1:=dv;have q2:=i8;simp only[DV] at q1 q2;obtain⟨p,xs,rfl,hq,_⟩:=q1;obtain⟨q,ys,rfl,gq,_⟩:=q2;exact⟨p,q,xs,ys,rfl,hq,gq,aH S1 h _ (Qx dv i8)⟩
 ·exact h.elim
def ax (fn:List D->ag->Res D) (fa:Env->ag->Res (List D)):Env->ag->Res D:=λenv s=>ao (fa env s) λds s=>ne (fn ds s)
def A6 {k:Nat} {fA:á} {fd:Ŗ} {Lu:List Str} {fn:List D->ag->Res D} {x:Str} {p:Pos} (F:fu X.prog X.w X.K X.mg X.base gp k fA fd Lu (l6 X.K fn)) (hr:bT k X.A) (hg:Gl X x) (hm:X.mg x=some (.ref fA)) (hk:Ų X.K (.ref fA)=true) (hb:Binds X.K fd Lu [])
  (ha:PA X (e::es) (tA X.K Ξ fa)) (jw:(x==("__debug__":Str))=false:=by decide) (he:Þ (e::es) X.env=(false,ţ e X.env)::Þ es X.env:=by rfl) (cM:(aab pos (Þ es X.env)).any (·.1)=false:=by rfl) :
  PE X (.Call (.Name x p) (e::es) [] pos) (tE X.K Ξ (ax fn fa)):=cN (RF F hr hg hm hk hb .nil JQ ha jw he cM) fun σ H Q az=>by
 obtain⟨w,env,eH,S,eo,h⟩:=az;subst eH;refine⟨w,env,rfl,S,eo,(Out.ao h).mono λw1 ds l1 S1 h1 vs aq=>?_⟩;show l6 X.K fn (vs++[]) w1.H Q E0;rw[Ō];exact⟨w1,ds,rfl,S1,aq,h1.ne⟩
def ar.env (h:ar K w ds vs) (n:Nat):bW K w (ds.map some++Ï (n-ds.length) none) (vs.map some++Ï (n-vs.length) none):=by
 have hl:=h.length;refine⟨by simp[hl],λi d e=>?_⟩;by_cases hi:i<ds.length
 ·rw[ä (by simpa using hi),ç] at e
  rw[ä (by simp;omega),ç]
  cases hd:ds[i]? with
  |none=>rw[hd] at e;cases e
  |some d' =>
   rw[hd] at e;cases e;obtain⟨v,ev,dv⟩:=h.get' i d hd;exact⟨v,by rw[ev];rfl,dv⟩
 ·rw[ü (by simpa using ξ hi),ĭ] at e
  split at e<;>cases e
end
def JV (F:p9 K x qual st f fd) (S:qK N ps (gy st))
 (hb:∀(cw:Í) (A:đ) (outer:List PySem.Env) (s:É) (H:Hp) (E:XK),bT k (A.deeper (PyProof.Rows.envOfC qual (gy st) s.heap.objs.size f cw))->eM (nO gp P w K mg base N qual (gy st) f cw A outer s H E).si (lB st) (tS K bE b)) :
  fu P w K mg base gp (k+1) f fd ps (l6 K (aS ps.length N.length b)):=by
 refine F.ok S (λvs H Q E h=>?_) (λcw A outer s H vs Q E hr h=>?_)
 ·obtain⟨w,ds,rfl,S,aq,h⟩:=h
  rw[<- aq.length];unfold aS at h;split at h
  ·assumption
  ·exact h.elim
 ·obtain⟨w,ds,rfl,S,aq,h⟩:=h
  refine⟨_,hb cw A outer s w.H E hr,?_⟩;unfold aS at h;split at h
  ·rename_i hl
   rw[<- hl] at h;refine⟨w,_,rfl,S,aq.env N.length,(Out.ao h).mono λw1 fl l1 S1 h1=>?_⟩
   cases fl with
   |nx env=>intro aY _;exact aH S1 h1 _ rfl
   |rt d=>have q:=aH S1 h1;exact q
   |bk env=>exact h1.elim
   |ct env=>exact h1.elim
  ·exact h.elim
mutual
noncomputable def py:D->aaD
 | .au=>.none
 | .bl b=>.bool b
 | .int i=>.int i
 | .str x=>.str x
 | .tup ds=>.tuple (bN ds)
 | .lst ds=>.list (bN ds)
 | .aZ ai=>.dict (ai.map λp=>(rM p.1,PyData.int p.2))
 | .aj _=>.none
 | .ty _=>.none
 | .bC _=>.none
noncomputable def bN:List D->List aaD
 | []=>[]
 |d::ds=>py d::bN ds
end
mutual
noncomputable def plain:D->Bool
 | .au=>true
 | .bl _=>true
 | .int _=>true
 | .str _=>true
 | .tup ds=>iQ ds
 | .lst ds=>iQ ds
 | .aZ _=>true
 | .aj _=>false
 | .ty _=>false
 | .bC _=>false
noncomputable def iQ:List D->Bool
 | []=>true
 |d::ds=>plain d&&iQ ds
end
mutual
noncomputable def lay:D->Bool
 | .au=>true
 | .bl _=>true
 | .int _=>true
 | .str x=>abB x
 | .tup ds=>cD ds
 | .lst ds=>cD ds
 | .aZ _=>false
 | .aj _=>false
 | .ty _=>false
 | .bC _=>false
noncomputable def cD:List D->Bool
 | []=>true
 |d::ds=>lay d&&cD ds
end
mutual
noncomputable def dep:D->Nat
 | .tup ds=>cz ds+1
 | .lst ds=>cz ds+1
 | .aZ ai=>1
 | .au=>0
 | .bl _=>0
 | .int _=>0
 | .str _=>0
 | .aj _=>0
 | .ty _=>0
 | .bC _=>0
noncomputable def cz:List D->Nat
 | []=>0
 |d::ds=>max (dep d) (cz ds)
end
mutual
noncomputable def beq:D->D->Bool
 | .au,.au=>true
 | .bl a,.bl b=>a==b
 | .bl a,.int j=>(if a then 1 else 0)==j
 | .int i,.bl b=>i==(if b then 1 else 0)
 | .int i,.int j=>i==j
 | .str x,.str y=>x==y
 | .tup xs,.tup ys=>ib xs ys
 | .lst xs,.lst ys=>ib xs ys
 |_,_=>false
noncomputable def ib:List D->List D->Bool
 | [],[]=>true
 |x::xs,y::ys=>beq x y&&ib xs ys
 |_,_=>false
end
mutual
def oF:∀(d:D),lay d=true->plain d=true
 | .au,_=>rfl
 | .bl _,_=>rfl
 | .int _,_=>rfl
 | .str _,_=>rfl
 | .tup ds,h=>by simp only[lay,plain] at h |-;exact oA ds h
 | .lst ds,h=>by simp only[lay,plain] at h |-;exact oA ds h
 | .aZ _,h=>by simp[lay] at h
 | .aj _,h=>by simp[lay] at h
 | .ty _,h=>by simp[lay] at h
 | .bC _,h=>by simp[lay] at h
def oA:∀(ds:List D),cD ds=true->iQ ds=true
 | [],_=>rfl
 |d::ds,h=>by
  simp only[cD,iQ,Ç] at h |-;exact⟨oF d h.1,oA ds h.2⟩
end
mutual
def kh:∀(d:D),lay d=true->(py d).canLay0=true/\(py d).depth=dep d
 | .au,_=>⟨rfl,by simp[py,dep,PyData.depth]⟩
 | .bl _,_=>⟨rfl,by simp[py,dep,PyData.depth]⟩
 | .int _,_=>⟨rfl,by simp[py,dep,PyData.depth]⟩
 | .str _,h=>⟨h,by simp[py,dep,PyData.depth]⟩
 | .tup ds,h=>by
  obtain⟨h1,h2⟩:=tu ds (by simpa [lay] using h);simp only[py,dep,PyData.depth,PyData.canLay0];exact⟨h1,by rw[h2]⟩
 | .lst ds,h=>by
  obtain⟨h1,h2⟩:=tu ds (by simpa [lay] using h);simp only[py,dep,PyData.depth,PyData.canLay0];exact⟨h1,by rw[h2]⟩
 | .aZ _,h=>by simp[lay] at h
 | .aj _,h=>by simp[lay] at h
 | .ty _,h=>by simp[lay] at h
 | .bC _,h=>by simp[lay] at h
def tu:∀(ds:List D),cD ds=true->PyData.canLayAll0 (bN ds)=true/\Ž (bN ds)=cz ds
 | [],_=>⟨rfl,rfl⟩
 |d::ds,h=>by
  simp only[cD,Ç] at h;obtain⟨a1,a2⟩:=kh d h.1;obtain⟨b1,b2⟩:=tu ds h.2;simp only[bN,cz,PyData.canLayAll0,Ž,a1,b1,a2,b2,Ĥ,ğ]
end
mutual
def qX:∀(d e:D),lay d=true->lay e=true->į (py d) (py e)=beq d e
 | .tup xs,.tup ys,h,g=>by
  simp only[py,beq,į];exact Aa xs ys (by simpa [lay] using h) (by simpa [lay] using g)
 | .lst xs,.lst ys,h,g=>by
  simp only[py,beq,į];exact Aa xs ys (by simpa [lay] using h) (by simpa [lay] using g)
 | .au,e,_,g=>by cases e<;>simp_all [py,beq,į,lay]
 | .bl _,e,_,g=>by cases e<;>simp_all [py,beq,į,lay]
 | .int _,e,_,g=>by cases e<;>simp_all [py,beq,į,lay]
 | .str _,e,_,g=>by cases e<;>simp_all [py,beq,į,lay]
 | .tup _,.au,_,_=>by simp[py,beq,į]
 | .tup _,.bl _,_,_=>by simp[py,beq,į]
 | .tup _,.int _,_,_=>by simp[py,beq,į]
 | .tup _,.str _,_,_=>by simp[py,beq,į]
 | .tup _,.lst _,_,_=>by simp[py,beq,į]
 | .lst _,.au,_,_=>by simp[py,beq,į]
 | .lst _,.bl _,_,_=>by simp[py,beq,į]
 | .lst _,.int _,_,_=>by simp[py,beq,į]
 | .lst _,.str _,_,_=>by simp[py,beq,į]
 | .lst _,.tup _,_,_=>by simp[py,beq,į]
 | .aZ _,_,h,_=>by simp[lay] at h
 | .aj _,_,h,_=>by simp[lay] at h
 | .ty _,_,h,_=>by simp[lay] at h
 | .bC _,_,h,_=>by simp[lay] at h
 |_,.aZ _,_,h=>by simp[lay] at h
 |_,.aj _,_,h=>by simp[lay] at h
 |_,.ty _,_,h=>by simp[lay] at h
 |_,.bC _,_,h=>by simp[lay] at h
def Aa:∀(ds es:List D),cD ds=true->cD es=true->PyData.eqvAll (bN ds) (bN es)=ib ds es
 | [],[],_,_=>rfl
 | [],_::_,_,_=>rfl
 |_::_,[],_,_=>rfl
 |d::ds,e::es,h,g=>by
  simp only[cD,Ç] at h g;simp only[bN,ib,PyData.eqvAll,qX d e h.1 g.1,Aa ds es h.2 g.2]
end
mutual
def DV.py:∀{d:D} {v:V},DV K w d v->plain d=true->L2.DV K (λ_=>False) w.H (DI.py d) v
 | .au,_,h,_=>h
 | .bl _,_,h,_=>h
 | .int _,_,h,_=>h
 | .str _,_,h,_=>h
 | .tup ds,v,h,p=>by
  simp only[DV] at h;obtain⟨a,xs,e,hq,r⟩:=h;simp only[DI.py,L2.DV];exact⟨a,xs,e,hq,ar.py r (by simpa [plain] using p)⟩
 | .lst ds,v,h,p=>by
  simp only[DV] at h;obtain⟨a,xs,e,hq,r⟩:=h;simp only[DI.py,L2.DV];exact⟨a,xs,e,not_false,hq.2,ar.py r (by simpa [plain] using p)⟩
 | .aZ ai,v,h,p=>by
  simp only[DV] at h;obtain⟨a,e,hz,hq⟩:=h;simp only[DI.py,L2.DV];exact⟨a,_,e,not_false,hq,ai,rfl,rfl⟩
 | .aj _,_,_,p=>by simp[plain] at p
 | .ty _,_,_,p=>by simp[plain] at p
 | .bC _,_,_,p=>by simp[plain] at p
def ar.py:∀{ds:List D} {vs:List V},ar K w ds vs->iQ ds=true->L2.ar K (λ_=>False) w.H (DI.bN ds) vs
 | [],_,h,_=>h
 |d::ds,vs,h,p=>by
  simp only[ar] at h;obtain⟨v,r,e,h1,h2⟩:=h;simp only[iQ,Ç] at p;exact⟨v,r,e,DV.py h1 p.1,ar.py h2 p.2⟩
end
def res (d:D) (s:ag):D:=match d with
 | .aj k=>match s[k]? with
  |some (.lst ds)=>.lst ds
  |_=>d
 |_=>d
def DV.res (S:aK K w) (h:DV K w d v) (p:plain (DI.res d w.aG)=true):L2.DV K (λ_=>False) w.H (DI.py (DI.res d w.aG)) v:=by
 cases d with
 |aj k =>
  unfold DI.res at p |-;simp only at p |-
  split at p<;>rename_i hk
  ·rename_i ds
   obtain⟨a,e1,rfl⟩:=h;obtain⟨xs,q1,q2⟩:=S.cell k a _ e1 hk;simp only[DI.py,L2.DV];exact⟨a,xs,rfl,not_false,q1,q2.py (by simpa [plain] using p)⟩
  ·simp[plain] at p
 |_=>exact h.py p
noncomputable def kQ:D->Bool
 | .str _=>true
 |_=>false
def Uh (h:kQ d=true):∃x,d=.str x:=by cases d<;>first|exact⟨_,rfl⟩|cases h
def gC (x y:D):Option Bool:=if (kQ x&&kQ y)=true then some (beq x y) else if (lay x&&lay y&&decide (min (dep x) (dep y)<=100))=true then some (beq x y) else none
def aT (x y:D) (s:ag):Res D:=match gC (res x s) (res y s) with
 |some b=>ok (.bl b) s
 |none=>none
def gj (x y:D) (s:ag):Res D:=match gC (res x s) (res y s) with
 |some b=>ok (.bl (!b)) s
 |none=>none
def HW (S:aK K w) (hx:DV K w x v) (hy:DV K w y u) (h:gC (res x w.aG) (res y w.aG)=some b) :
  (Cp v u=true/\decide (v=u)=b)\/∃(d e:aaD),L2.DV K (λ_=>False) w.H d v/\L2.DV K (λ_=>False) w.H e u/\d.canLay0=true/\e.canLay0=true/\min d.depth e.depth<=100/\į d e=b:=by
 have str:∀{d:D} {v:V},kQ (res d w.aG)=true->DV K w d v->∃x,res d w.aG=.str x/\v=.str x:=λ{d v} hs hd=>by
  obtain⟨x,e⟩:=Uh hs
  cases d with
  |str y=>cases e;exact⟨x,rfl,hd⟩
  |aj k =>
   unfold res at e;simp only at e
   split at e<;>cases e
  |_=>cases e
 unfold gC at h;split at h
 ·rename_i hs
  rw[Ç] at hs;obtain⟨a,ea,rfl⟩:=str hs.1 hx;obtain⟨c,ec,rfl⟩:=str hs.2 hy;rw[ea,ec] at h;exact .inl ⟨rfl,by rw[<- Option.some.inj h];exact Ax⟩
 split at h
 ·rename_i hl
  right;simp only[Ç,È] at hl;obtain⟨⟨l1,l2⟩,l3⟩:=hl;obtain⟨p1,p2⟩:=kh _ l1;obtain⟨q1,q2⟩:=kh _ l2;exact⟨_,_,hx.res S (oF _ l1),hy.res S (oF _ l2),p1,q1,by rw[p2,q2];exact l3,by rw[qX _ _ l1 l2];exact Option.some.inj h⟩
 ·cases h
section
variable {X:Cx} {Ξ:Wd->bq->Prop}
def dj (hr:bT k X.A):aW X (Č .Eq) (rO X.K Ξ aT):=by
 rintro π s σ H x y v u Q I rx ry ⟨w,dx,dy,rfl,S,hx,hy,h⟩;unfold aT at h;split at h
 ·rename_i b hb
  rcases HW S hx hy hb with ⟨h1,h2⟩ | ⟨d,e,h1,h2,h3,h4,h5,h6⟩
  ·exact Vo π s σ w.H x y v u Q I rx ry ⟨h1,by rw[h2];exact aH S h _ rfl⟩
  exact Ua hr π s σ w.H x y v u Q I rx ry ⟨d,e,_,h1,h2,h3,h4,h5,by simp only[Ã,ê];rw[h6];exact aH S h _ rfl⟩
 ·exact h.elim
def lO (hr:bT k X.A):aW X (Č .NotEq) (rO X.K Ξ gj):=by
 rintro π s σ H x y v u Q I rx ry ⟨w,dx,dy,rfl,S,hx,hy,h⟩;unfold gj at h;split at h
 ·rename_i b hb
  rcases HW S hx hy hb with ⟨h1,h2⟩ | ⟨d,e,h1,h2,h3,h4,h5,h6⟩
  ·exact Vp π s σ w.H x y v u Q I rx ry ⟨h1,by rw[h2];exact aH S h _ rfl⟩
  exact Ub hr π s σ w.H x y v u Q I rx ry ⟨d,e,_,h1,h2,h3,h4,h5,by simp only[û];rw[h6];exact aH S h _ rfl⟩
 ·exact h.elim
end
end DI
namespace DI
open PySem L2
def bx (r:Option D) (s:ag):Res D:=match r with
 |some d=>ok d s
 |none=>none
def fm (h:Out K Ξ w (bx r w.aG) k):∃d,r=some d/\Out K Ξ w (ok d w.aG) k:=by
 unfold bx at h;split at h
 ·exact⟨_,rfl,h⟩
 ·exact h.elim
noncomputable def pL (xs ys:List D):Bool:=decide (xs.length+ys.length<=Õ)
def rP:D->D->Option D
 | .int i,.int j=>some (.int (i+j))
 | .tup xs,.tup ys=>if pL xs ys=true then some (.tup (xs++ys)) else none
 | .lst xs,.lst ys=>if pL xs ys=true then some (.lst (xs++ys)) else none
 | .str x,.str y=>if decide (x.length+y.length<=Õ)=true then some (.str (x++y)) else none
 |_,_=>none
def bO (x y:D) (s:ag):Res D:=bx (rP (res x s) (res y s)) s
noncomputable def KL:D->D->Option D
 | .int i,.int j=>some (.int (i-j))
 |_,_=>none
def rq (x y:D) (s:ag):Res D:=bx (KL x y) s
noncomputable def t4 (i j:Int):Bool:=(decide (-(2 ^ 64)<i)&&decide (i<2 ^ 64))||(decide (-(2 ^ 64)<j)&&decide (j<2 ^ 64))
def yw:D->D->Option D
 | .int i,.int j=>if t4 i j=true then some (.int (i*j)) else none
 | .tup xs,.int k=>if (!xs.isEmpty&&decide (1<=k)&&decide (xs.length*k.toNat<=Õ))=true then some (.tup (Ï k.toNat xs).flatten) else none
 | .lst xs,.int k=>if (decide (-(2 ^ 63)<=k)&&decide (k<2 ^ 63)&&decide (xs.length*k.toNat<=Õ))=true then some (.lst (Ï k.toNat xs).flatten) else none
 |_,_=>none
def hV (x y:D) (s:ag):Res D:=bx (yw x y) s
noncomputable def CI:D->D->Option D
 | .int i,.int j=>if decide (0<j)=true then some (.int (i % j)) else none
 |_,_=>none
def mv (x y:D) (s:ag):Res D:=bx (CI x y) s
noncomputable def CJ:D->D->Option D
 | .int i,.int j=>if (decide (0<j)&&decide (j<1073741824))=true then some (.int (i / j)) else none
 |_,_=>none
def t6 (x y:D) (s:ag):Res D:=bx (CJ x y) s
noncomputable def CK:D->D->Option D
 | .int i,.int j=>if (decide (0<=j)&&decide (j<=1000000)&&decide (i.natAbs<2 ^ 64))=true then some (.int (i ^ j.toNat)) else none
 |_,_=>none
def rA (x y:D) (s:ag):Res D:=bx (CK x y) s
noncomputable def KN:D->Option D
 | .int i=>some (.int (-i))
 |_=>none
def jN (x:D) (s:ag):Res D:=bx (KN x) s
def ar.flat (h:ar K w ds vs):∀n:Nat,ar K w (Ï n ds).flatten (Ï n vs).flatten
 |0=>rfl
 |n+1=>by
  rw[ĺ,ĺ,Ŝ,Ŝ];exact ar.append h (ar.flat h n)
def jH (S:aK K w) (h:DV K w d v) (e:res d w.aG=.lst ds):∃a xs,v=.ref a/\w.H a=some (.lst xs)/\ar K w ds xs:=by
 unfold res at e;split at e
 ·rename_i k
  split at e
  ·rename_i es hk
   cases e;obtain⟨a,e1,rfl⟩:=h;obtain⟨xs,q1,q2⟩:=S.cell k a _ e1 hk;exact⟨a,xs,rfl,q1,q2⟩
  ·cases e
 ·subst e
  simp only[DV] at h;obtain⟨a,xs,e,hq,r⟩:=h;exact⟨a,xs,e,hq.2,r⟩
def fb (h:res d s=e) (hl:∀ds,e≠.lst ds):d=e:=by
 unfold res at h;split at h
 ·split at h
  ·exact absurd h.symm (hl _)
  ·exact h
 ·exact h
section
variable {X:Cx} {Ξ:Wd->bq->Prop}
def pH (S:aK K w) (aq:ar K w ds vs) (h:Out K Ξ w (ok (D.tup ds) w.aG) λw' d=>∀v,DV K w' d v->Q v w'.H):nP K w.H vs Q:=λa H' e hq =>
 h (w.same H') (Fw.same e).le (S.same e) rfl (.ref a) ⟨a,vs,rfl,hq,(Fw.same e).le.all aq⟩
def rQ {K:Ĳ} {w:Wd} {ds:List D} {vs:List V} {Q:VK} (S:aK K w) (aq:ar K w ds vs) (h:Out K Ξ w (ok (D.lst ds) w.aG) λw' d=>∀v,DV K w' d v->Q v w'.H):∀p,w.H p=none->Q (.ref p) (upd w.H p (.lst vs)):=λp hp =>
 h (w.grow p (.lst vs)) (Fw.grow hp).le (S.grow hp) rfl (.ref p) ⟨p,vs,rfl,⟨(show ¬ w.Z p from nr S hp),dg⟩,(Fw.grow hp).le.all aq⟩
def Ui {K:Ĳ} {w:Wd} {ds:List D} {vs:List V} {Q:VK} (S:aK K w) (aq:ar K w ds vs) (h:Out K Ξ w (ok (D.tup ds) w.aG) λw' d=>∀v,DV K w' d v->Q v w'.H):∀p,w.H p=none->Q (.ref p) (upd w.H p (.tup vs)):=λp hp =>
 h (w.grow p (.tup vs)) (Fw.grow hp).le (S.grow hp) rfl (.ref p) ⟨p,vs,rfl,aR.of dg,(Fw.grow hp).le.all aq⟩
def dQ:aW X (ŋ .Add) (rO X.K Ξ bO):=by
 rintro π s σ H x y v u Q I rx ry ⟨w,dx,dy,rfl,S,hx,hy,h⟩;obtain⟨d,e,h⟩:=fm h;unfold rP at e;split at e
 ·rename_i i j e1 e2
  rw[fb e1 (by intro _ z;cases z)] at hx;rw[fb e2 (by intro _ z;cases z)] at hy;cases e;cases hx;cases hy;exact TF π s σ w.H _ _ v u Q I rx ry ⟨i,j,rfl,rfl,aH S h _ rfl⟩
 ·rename_i xs ys e1 e2
  rw[fb e1 (by intro _ z;cases z)] at hx;rw[fb e2 (by intro _ z;cases z)] at hy;split at e
  ·rename_i hl
   cases e;simp only[DV] at hx hy;obtain⟨a,as,rfl,ha,jA⟩:=hx;obtain⟨b,bs,rfl,hb,vp⟩:=hy;exact RQ π s σ w.H _ _ v u Q I rx ry ⟨a,b,as,bs,rfl,rfl,ha,hb,by rw[<- jA.length,<- vp.length];exact Ĭ hl,pH S (jA.append vp) h⟩
  ·cases e
 ·rename_i xs ys e1 e2
  split at e
  ·rename_i hl
   cases e;obtain⟨a,as,rfl,ha,jA⟩:=jH S hx e1;obtain⟨b,bs,rfl,hb,vp⟩:=jH S hy e2;exact T4 π s σ w.H _ _ v u Q I rx ry ⟨a,b,as,bs,rfl,rfl,ha,hb,by rw[<- jA.length,<- vp.length];exact Ĭ hl,rQ S (jA.append vp) h⟩
  ·cases e
 ·rename_i i j e1 e2
  rw[fb e1 (by intro _ z;cases z)] at hx;rw[fb e2 (by intro _ z;cases z)] at hy;split at e
  ·rename_i hl
   cases e;cases hx;cases hy;exact NI π s σ w.H _ _ v u Q I rx ry ⟨i,j,rfl,rfl,Ĭ hl,aH S h _ rfl⟩
  ·cases e
 ·cases e
def BF:aW X (ŋ .Sub) (rO X.K Ξ rq):=by
 rintro π s σ H x y v u Q I rx ry ⟨w,dx,dy,rfl,S,hx,hy,h⟩;obtain⟨d,e,h⟩:=fm h;unfold KL at e;split at e
 ·rename_i i j
  cases e;cases hx;cases hy;exact TH π s σ w.H _ _ v u Q I rx ry ⟨i,j,rfl,rfl,aH S h _ rfl⟩
 ·cases e
def rB:aW X (ŋ .Mult) (rO X.K Ξ hV):=by
 rintro π s σ H x y v u Q I rx ry ⟨w,dx,dy,rfl,S,hx,hy,h⟩;obtain⟨d,e,h⟩:=fm h;unfold yw at e;split at e
 ·rename_i i j
  split at e
  ·rename_i hm
   cases e;cases hx;cases hy;refine TJ π s σ w.H _ _ v u Q I rx ry ⟨i,j,rfl,rfl,?_,aH S h _ rfl⟩;unfold ym;simpa [t4] using hm
  ·cases e
 ·rename_i xs k
  split at e
  ·rename_i hm
   cases e;cases hy;simp only[Ç,È] at hm;simp only[DV] at hx;obtain⟨a,as,rfl,ha,jA⟩:=hx;have hl:=jA.length;refine RZ π s σ w.H _ _ v u Q I rx ry ⟨a,as,k,rfl,rfl,ha,?_,hm.1.2,by rw[<- hl];exact hm.2,pH S (jA.flat _) h⟩;intro z;subst z
   cases xs with
   |nil=>simp at hm
   |cons _ _=>cases hl
  ·cases e
 ·rename_i xs k
  split at e
  ·rename_i hm
   cases e;cases hy;simp only[Ç,È] at hm;simp only[DV] at hx;obtain⟨a,as,rfl,ha,jA⟩:=hx;exact T5 π s σ w.H _ _ v u Q I rx ry ⟨a,k,as,rfl,rfl,ha.2,hm.1.1,hm.1.2,by rw[<- jA.length];exact hm.2,rQ S (jA.flat _) h⟩
  ·cases e
 ·cases e
def rD:aW X (ŋ .Mod) (rO X.K Ξ mv):=by
 rintro π s σ H x y v u Q I rx ry ⟨w,dx,dy,rfl,S,hx,hy,h⟩;obtain⟨d,e,h⟩:=fm h;unfold CI at e;split at e
 ·rename_i i j
  split at e
  ·rename_i hm
   cases e;cases hx;cases hy;exact TL π s σ w.H _ _ v u Q I rx ry ⟨i,j,rfl,rfl,Ĭ hm,aH S h _ rfl⟩
  ·cases e
 ·cases e
def JW:aW X (ŋ .FloorDiv) (rO X.K Ξ t6):=by
 rintro π s σ H x y v u Q I rx ry ⟨w,dx,dy,rfl,S,hx,hy,h⟩;obtain⟨d,e,h⟩:=fm h;unfold CJ at e;split at e
 ·rename_i i j
  split at e
  ·rename_i hm
   simp only[Ç,È] at hm;cases e;cases hx;cases hy;exact RA π s σ w.H _ _ v u Q I rx ry ⟨i,j,rfl,rfl,hm,aH S h _ rfl⟩
  ·cases e
 ·cases e
def BG:aW X (ŋ .Pow) (rO X.K Ξ rA):=by
 rintro π s σ H x y v u Q I rx ry ⟨w,dx,dy,rfl,S,hx,hy,h⟩;obtain⟨d,e,h⟩:=fm h;unfold CK at e;split at e
 ·rename_i i j
  split at e
  ·rename_i hm
   simp only[Ç,È] at hm;cases e;cases hx;cases hy;exact TM π s σ w.H _ _ v u Q I rx ry ⟨i,j,rfl,rfl,⟨hm.1.1,hm.1.2,hm.2⟩,aH S h _ rfl⟩
  ·cases e
 ·cases e
def rE:uX X (unaryOp .USub) (rU X.K Ξ jN):=by
 rintro π s σ H x v Q I rx ⟨w,dx,rfl,S,hx,h⟩;obtain⟨d,e,h⟩:=fm h;unfold KN at e;split at e
 ·rename_i i
  cases e;cases hx;exact TN π s σ w.H _ v Q I rx ⟨i,rfl,aH S h _ rfl⟩
 ·cases e
noncomputable def nQ (p:Int->Int->Bool):D->D->Option D
 | .int i,.int j=>some (.bl (p i j))
 |_,_=>none
def kF (x y:D) (s:ag):Res D:=bx (nQ (λi j=>decide (i<=j)) x y) s
def rR (x y:D) (s:ag):Res D:=bx (nQ (λi j=>decide (j<i)) x y) s
def yx (x y:D) (s:ag):Res D:=bx (nQ (λi j=>decide (j<=i)) x y) s
def xR (x y:D) (s:ag):Res D:=bx (nQ (λi j=>decide (i<j)) x y) s
def rS:aW X (Č .LtE) (rO X.K Ξ kF):=by
 rintro π s σ H x y v u Q I rx ry ⟨w,dx,dy,rfl,S,hx,hy,h⟩;obtain⟨d,e,h⟩:=fm h;unfold nQ at e;split at e
 ·rename_i i j
  cases e;cases hx;cases hy;exact Vr π s σ w.H _ _ v u Q I rx ry ⟨i,j,rfl,rfl,aH S h _ rfl⟩
 ·cases e
def KO:aW X (Č .Gt) (rO X.K Ξ rR):=by
 rintro π s σ H x y v u Q I rx ry ⟨w,dx,dy,rfl,S,hx,hy,h⟩;obtain⟨d,e,h⟩:=fm h;unfold nQ at e;split at e
 ·rename_i i j
  cases e;cases hx;cases hy;exact Vs π s σ w.H _ _ v u Q I rx ry ⟨i,j,rfl,rfl,aH S h _ rfl⟩
 ·cases e
def Xb:aW X (Č .GtE) (rO X.K Ξ yx):=by
 rintro π s σ H x y v u Q I rx ry ⟨w,dx,dy,rfl,S,hx,hy,h⟩;obtain⟨d,e,h⟩:=fm h;unfold nQ at e;split at e
 ·rename_i i j
  cases e;cases hx;cases hy;exact Vt π s σ w.H _ _ v u Q I rx ry ⟨i,j,rfl,rfl,aH S h _ rfl⟩
 ·cases e
def VS:aW X (Č .Lt) (rO X.K Ξ xR):=by
 rintro π s σ H x y v u Q I rx ry ⟨w,dx,dy,rfl,S,hx,hy,h⟩;obtain⟨d,e,h⟩:=fm h;unfold nQ at e;split at e
 ·rename_i i j
  cases e;cases hx;cases hy;exact Vq π s σ w.H _ _ v u Q I rx ry ⟨i,j,rfl,rfl,aH S h _ rfl⟩
 ·cases e
noncomputable def Lv:D->Bool
 | .au=>true
 |_=>false
def ny (x y:D) (s:ag):Res D:=match y with
 | .au=>ok (.bl (!Lv x)) s
 |_=>none
def Uj (h:DV K w d v):decide (v=.au)=Lv d:=by
 cases d with
 |au=>cases h;rfl
 |bl b=>cases h;rfl
 |int b=>cases h;rfl
 |str b=>cases h;rfl
 |ty b=>cases h;rfl
 |tup ds=>simp only[DV] at h;obtain⟨a,xs,rfl,_⟩:=h;rfl
 |lst ds=>simp only[DV] at h;obtain⟨a,xs,rfl,_⟩:=h;rfl
 |aZ ds=>simp only[DV] at h;obtain⟨a,rfl,_⟩:=h;rfl
 |aj k=>simp only[DV] at h;obtain⟨a,_,rfl⟩:=h;rfl
 |bC k=>simp only[DV] at h;obtain⟨a,rfl,_⟩:=h;rfl
def Jk:aW X (Č .IsNot) (rO X.K Ξ ny):=by
 rintro π s σ H x y v u Q I rx ry ⟨w,dx,dy,rfl,S,hx,hy,h⟩;unfold ny at h;split at h
 ·cases hy
  exact RC π s σ w.H _ _ v u Q I rx ry ⟨rfl,by rw[Uj hx];exact aH S h _ rfl⟩
 ·exact h.elim
def gU (d i:D) (s:ag):Option D:=match res d s,i with
 | .lst ds,.int i=>dA ds i
 | .tup ds,.int i=>dA ds i
 | .bC ns,.int i=>(dA ns i).map D.int
 | .str x,.int i=>if decide (x.length<=Õ)=true then (dA x.cps.toList i).map λc=>.str ⟨#[c]⟩ else none
 |_,_=>none
def ak (x y:D) (s:ag):Res D:=bx (gU x y s) s
def ar.at (h:ar K w ds vs) (e:dA ds i=some d):∃v,dA vs i=some v/\DV K w d v:=by
 unfold dA at e |-;rw[h.length] at e
 cases hi:gn vs.length i with
 |none=>rw[hi] at e;cases e
 |some j =>
  rw[hi] at e;exact h.get' j d e
def Xc:u6 X (rO X.K Ξ ak):=by
 rintro value slice π s σ H x y v u Q I rx ry ⟨w,dx,dy,rfl,S,hx,hy,h⟩ hs;obtain⟨d,e,h2⟩:=fm h;clear h;unfold gU at e;split at e
 ·rename_i ds i e1
  cases hy;obtain⟨a,xs,rfl,ha,aq⟩:=jH S hx e1;obtain⟨z,ez,dz⟩:=aq.at e;exact tD value slice π s σ w.H _ _ v u Q I rx ry ⟨a,xs,i,z,rfl,rfl,bp.of ha,ez,aH S h2 _ dz⟩ hs
 ·rename_i ds i e1
  cases hy;rw[fb e1 (by intro _ z;cases z)] at hx;simp only[DV] at hx;obtain⟨a,xs,rfl,ha,aq⟩:=hx;obtain⟨z,ez,dz⟩:=aq.at e;exact xu value slice π s σ w.H _ _ v u Q I rx ry ⟨a,xs,i,z,rfl,rfl,ha,ez,aH S h2 _ dz⟩ hs
 ·rename_i ns i e1
  cases hy;rw[fb e1 (by intro _ z;cases z)] at hx;simp only[DV] at hx;obtain⟨a,rfl,ha⟩:=hx
  cases hn:dA ns i with
  |none=>rw[hn] at e;cases e
  |some n =>
   rw[hn] at e;cases e;refine tD value slice π s σ w.H _ _ v u Q I rx ry ⟨a,ns.map V.int,i,.int n,rfl,rfl,ha.sq,?_,aH S h2 _ rfl⟩ hs;unfold dA at hn |-;rw[Ä]
   cases hj:gn ns.length i with
   |none=>rw[hj] at hn;cases hn
   |some j =>
    rw[hj] at hn;show (ns.map V.int)[j]?=some (.int n);rw[ç,show ns[j]?=some n from hn];rfl
 ·rename_i z i e1
  cases hy;rw[fb e1 (by intro _ z;cases z)] at hx;cases hx;split at e
  ·rename_i hl
   cases hc:dA z.cps.toList i with
   |none=>rw[hc] at e;cases e
   |some c =>
    rw[hc] at e;cases e;exact TX value slice π s σ w.H _ _ v u Q I rx ry ⟨z,i,c,rfl,rfl,Ĭ hl,hc,aH S h2 _ rfl⟩ hs
  ·cases e
 ·cases e
def aN (ha:PE X a (tE X.K Ξ f)) (hb:PE X b (tE X.K Ξ g)) (hs:HH b:=by intro _ _;rfl):PE X (.Subscript a b pos) (tE X.K Ξ (e2 ak f g)):=cN (Vz Xc ha hb hs) xf
def yy (d:D) (s:ag):Option D:=match res d s with
 | .lst ds=>some (.int ds.length)
 | .tup ds=>some (.int ds.length)
 | .bC ns=>some (.int ns.length)
 | .str x=>if decide (x.length<=Õ)=true then some (.int x.length) else none
 |_=>none
def bK (ds:List D) (s:ag):Res D:=match ds with
 | [d]=>bx (yy d s) s
 |_=>none
def lG (h:ar K w [d] vs):∃v,vs=[v]/\DV K w d v:=by
 obtain⟨v,r,rfl,dv,dr⟩:=h;have e:r=[]:=dr;subst e;exact⟨v,rfl,dv⟩
def tL (h:ar K w [d,e] vs):∃v u,vs=[v,u]/\DV K w d v/\DV K w e u:=by
 obtain⟨v,r,rfl,dv,h⟩:=h;obtain⟨u,rfl,du⟩:=lG h;exact⟨v,u,rfl,dv,du⟩
def iw:bV X (.builtin "len") (rC X.K Ξ bK):=by
 rintro π s σ H xs us Q I r ⟨w,ds,rfl,S,aq,h⟩;unfold bK at h;split at h
 ·obtain⟨v,rfl,dv⟩:=lG aq
  obtain⟨d,e,h⟩:=fm h;unfold yy at e;split at e
  ·rename_i ys e1
   cases e;obtain⟨a,xs,rfl,ha,aq⟩:=jH S dv e1;exact zA π s σ w.H _ us Q I r ⟨a,xs,rfl,.inl (bp.of ha),by rw[<- aq.length];exact aH S h _ rfl⟩
  ·rename_i ys e1
   cases e;rw[fb e1 (by intro _ z;cases z)] at dv;simp only[DV] at dv;obtain⟨a,xs,rfl,ha,aq⟩:=dv;exact zA π s σ w.H _ us Q I r ⟨a,xs,rfl,.inr ha,by rw[<- aq.length];exact aH S h _ rfl⟩
  ·rename_i ns e1
   cases e;rw[fb e1 (by intro _ z;cases z)] at dv;simp only[DV] at dv;obtain⟨a,rfl,ha⟩:=dv;exact zA π s σ w.H _ us Q I r ⟨a,ns.map V.int,rfl,.inl ha.sq,by rw[Ä];exact aH S h _ rfl⟩
  ·rename_i z e1
   rw[fb e1 (by intro _ z;cases z)] at dv;cases dv;split at e
   ·rename_i hl
    cases e;exact MO π s σ w.H _ us Q I r ⟨z,rfl,Ĭ hl,aH S h _ rfl⟩
   ·cases e
  ·cases e
 ·exact h.elim
noncomputable def iG:List D->Option (List Bool)
 | []=>some []
 | .bl b::ds=>(iG ds).map λr=>b::r
 |_::_=>none
def A7:∀{ds:List D} {bs:List Bool},iG ds=some bs->ds=bs.map D.bl
 | [],bs,h=>by cases h;rfl
 | .bl b::ds,bs,h=>by
  simp only[iG] at h
  cases hd:iG ds with
  |none=>rw[hd] at h;cases h
  |some r=>rw[hd] at h;cases h;rw[A7 hd];rfl
 | .au::_,_,h=>by cases h
 | .int _::_,_,h=>by cases h
 | .str _::_,_,h=>by cases h
 | .tup _::_,_,h=>by cases h
 | .lst _::_,_,h=>by cases h
 | .aZ _::_,_,h=>by cases h
 | .aj _::_,_,h=>by cases h
 | .ty _::_,_,h=>by cases h
 | .bC _::_,_,h=>by cases h
def R8:iG (bs.map D.bl)=some bs:=by
 induction bs with
 |nil=>rfl
 |cons b bs ih=>simp only[Ö,iG,ih,Ŏ]
def kG (ds:List D) (s:ag):Res D:=match ds with
 | [d]=>match res d s with
  | .lst es=>bx ((iG es).map λbs=>.bl (bs.all id)) s
  |_=>none
 |_=>none
def rT (ds:List D) (s:ag):Res D:=match ds with
 | [d]=>match res d s with
  | .lst es=>bx ((iG es).map λbs=>.bl (bs.any id)) s
  |_=>none
 |_=>none
def nJ (hc:X.calm=true):bV X (.builtin "all") (rC X.K Ξ kG):=by
 rintro π s σ H xs us Q I r ⟨w,ds,rfl,S,aq,h⟩;unfold kG at h;split at h
 ·obtain⟨v,rfl,dv⟩:=lG aq
  split at h
  ·rename_i es e1
   obtain⟨d,e,h⟩:=fm h
   cases hb:iG es with
   |none=>rw[hb] at e;cases e
   |some bs =>
    rw[hb] at e;cases e;obtain⟨a,xs,rfl,ha,aq⟩:=jH S dv e1;rw[A7 hb] at aq;rw[aq.AH] at ha;exact Qd hc π s σ w.H _ us Q I r ⟨a,bs,rfl,bp.of ha,aH S h _ rfl⟩
  ·exact h.elim
 ·exact h.elim
def JX (hc:X.calm=true):bV X (.builtin "any") (rC X.K Ξ rT):=by
 rintro π s σ H xs us Q I r ⟨w,ds,rfl,S,aq,h⟩;unfold rT at h;split at h
 ·obtain⟨v,rfl,dv⟩:=lG aq
  split at h
  ·rename_i es e1
   obtain⟨d,e,h⟩:=fm h
   cases hb:iG es with
   |none=>rw[hb] at e;cases e
   |some bs =>
    rw[hb] at e;cases e;obtain⟨a,xs,rfl,ha,aq⟩:=jH S dv e1;rw[A7 hb] at aq;rw[aq.AH] at ha;exact Qe hc π s σ w.H _ us Q I r ⟨a,bs,rfl,bp.of ha,aH S h _ rfl⟩
  ·exact h.elim
 ·exact h.elim
def rF (ds:List D) (s:ag):Res D:=match ds with
 | [.int i,.int j]=>ok (.int (if j > i then j else i)) s
 |_=>none
def xS (ds:List D) (s:ag):Res D:=match ds with
 | [.int i,.int j]=>ok (.int (if j<i then j else i)) s
 |_=>none
def Jl (hc:X.calm=true):bV X (.builtin "max") (rC X.K Ξ rF):=by
 rintro π s σ H xs us Q I r ⟨w,ds,rfl,S,aq,h⟩;unfold rF at h;split at h
 ·rename_i i j
  obtain⟨v,u,rfl,dv,du⟩:=tL aq;cases dv;cases du;exact OK hc π s σ w.H _ us Q I r ⟨i,j,rfl,aH S h _ rfl⟩
 ·exact h.elim
def Uk (hc:X.calm=true):bV X (.builtin "min") (rC X.K Ξ xS):=by
 rintro π s σ H xs us Q I r ⟨w,ds,rfl,S,aq,h⟩;unfold xS at h;split at h
 ·rename_i i j
  obtain⟨v,u,rfl,dv,du⟩:=tL aq;cases dv;cases du;exact OL hc π s σ w.H _ us Q I r ⟨i,j,rfl,aH S h _ rfl⟩
 ·exact h.elim
def cC (ds:List D) (s:ag):Res D:=match ds with
 | [d]=>match res d s with
  | .lst es=>ok (.tup es) s
  | .tup es=>ok (.tup es) s
  |_=>none
 |_=>none
def jf:bV X (.type "tuple") (rC X.K Ξ cC):=by
 rintro π s σ H xs us Q I r ⟨w,ds,rfl,S,aq,h⟩;unfold cC at h;split at h
 ·obtain⟨v,rfl,dv⟩:=lG aq
  split at h
  ·rename_i es e1
   obtain⟨a,xs,rfl,ha,aq⟩:=jH S dv e1;exact Fi π s σ w.H _ us Q I r ⟨a,xs,rfl,.inl ⟨bp.of ha,Ui S aq h⟩⟩
  ·rename_i es e1
   rw[fb e1 (by intro _ z;cases z)] at dv;have qf:=dv;simp only[DV] at dv;obtain⟨a,xs,rfl,ha,aq⟩:=dv;exact Fi π s σ w.H _ us Q I r ⟨a,xs,rfl,.inr ⟨ha,aH S h _ qf⟩⟩
  ·exact h.elim
 ·exact h.elim
def xT (ds:List D) (s:ag):Res D:=match ds with
 | [d]=>match res d s with
  | .lst es=>ok (.lst es) s
  | .tup es=>ok (.lst es) s
  |_=>none
 |_=>none
def Ul:bV X (.type "list") (rC X.K Ξ xT):=by
 rintro π s σ H xs us Q I r ⟨w,ds,rfl,S,aq,h⟩;unfold xT at h;split at h
 ·obtain⟨v,rfl,dv⟩:=lG aq
  split at h
  ·rename_i es e1
   obtain⟨a,xs,rfl,ha,aq⟩:=jH S dv e1;exact Fp π s σ w.H _ us Q I r ⟨a,xs,rfl,.inl (bp.of ha),rQ S aq h⟩
  ·rename_i es e1
   rw[fb e1 (by intro _ z;cases z)] at dv;simp only[DV] at dv;obtain⟨a,xs,rfl,ha,aq⟩:=dv;exact Fp π s σ w.H _ us Q I r ⟨a,xs,rfl,.inr ha,rQ S aq h⟩
  ·exact h.elim
 ·exact h.elim
end
def o9 (n:Nat) (x:D) (ds:List D):Bool:=lay x&&cD ds&&decide (dep x<=n)
def inD (x:D) (ds:List D):Option Bool:=if o9 100 x ds=true then some (ds.any λy=>beq y x) else none
def nK (d:D) (s:ag):Option (List D):=match res d s with
 | .lst ds=>some ds
 | .tup ds=>some ds
 |_=>none
def cv (x y:D) (s:ag):Res D:=match nK y s with
 |some ds=>bx ((inD x ds).map D.bl) s
 |none=>none
def fE (x y:D) (s:ag):Res D:=match nK y s with
 |some ds=>bx ((inD x ds).map λb=>D.bl (!b)) s
 |none=>none
def G4 (S:aK K w) (h:DV K w d v) (e:nK d w.aG=some ds):∃a xs,v=.ref a/\(w.H a=some (.lst xs)\/aR K w.H a xs)/\ar K w ds xs:=by
 unfold nK at e;split at e
 ·rename_i es e1
  cases e;obtain⟨a,xs,rfl,ha,aq⟩:=jH S h e1;exact⟨a,xs,rfl,.inl ha,aq⟩
 ·rename_i es e1
  cases e;rw[fb e1 (by intro _ z;cases z)] at h;simp only[DV] at h;obtain⟨a,xs,rfl,ha,aq⟩:=h;exact⟨a,xs,rfl,.inr ha,aq⟩
 ·cases e
section
variable {X:Cx} {Ξ:Wd->bq->Prop} {π:List (á×Obj)} {σ:St} {s:É}
def A8 (lx:lay x=true):∀{ds:List D},cD ds=true->((bN ds).any λy=>į y (py x))=ds.any λy=>beq y x
 | [],_=>rfl
 |d::ds,h=>by
  simp only[cD,Ç] at h;simp only[bN,List.any_cons,qX d x h.1 lx,A8 lx h.2]
def Jm (h:inD x ds=some b):lay x=true/\cD ds=true/\dep x<=100/\(ds.any λy=>beq y x)=b:=by
 unfold inD o9 at h;split at h
 ·rename_i hl
  simp only[Ç,È] at hl;exact⟨hl.1.1,hl.1.2,hl.2,Option.some.inj h⟩
 ·cases h
def gH (hr:bT k X.A):aW X (Č .In) (rO X.K Ξ cv):=by
 rintro π s σ H x y v u Q I rx ry ⟨w,dx,dy,rfl,S,hx,hy,h⟩;unfold cv at h;split at h
 ·rename_i ds hd
  obtain⟨d,e,h⟩:=fm h
  cases hb:inD dx ds with
  |none=>rw[hb] at e;cases e
  |some b =>
   rw[hb] at e;cases e;obtain⟨l1,l2,l3,l4⟩:=Jm hb;obtain⟨p1,p2⟩:=kh _ l1;obtain⟨q1,q2⟩:=tu _ l2;obtain⟨bs,rd⟩:=(hx.py (oF _ l1)).reads I rx;have hu:X.A.units+1+min (Ž (bN ds)) (py dx).depth<abP:=by
    have:=hr.un;rw[p2];omega
   obtain⟨a,xs,rfl,ha,aq⟩:=G4 S hy hd;have fin:EP X π σ Q (.bool ((bN ds).any λy=>į y (py dx))) s:=⟨.bl b,w.H,I,by rw[A8 l1 l2,l4];rfl,aH S h _ rfl⟩
   rcases ha with ha|ha
   ·obtain⟨cs,rc⟩:=(show L2.DV X.K (λ_=>False) w.H (.list (bN ds)) (.ref a) by simp only[L2.DV];exact⟨a,xs,rfl,not_false,ha,aq.py (oA _ l2)⟩).reads I ry
    exact SeqAt.in_list_reads rc rd q1 p1 hu fin
   ·obtain⟨cs,rc⟩:=(show L2.DV X.K (λ_=>False) w.H (.tuple (bN ds)) (.ref a) by simp only[L2.DV];exact⟨a,xs,rfl,ha,aq.py (oA _ l2)⟩).reads I ry
    exact SeqAt.in_tuple_reads rc rd q1 p1 hu fin
 ·exact h.elim
def qN (hr:bT k X.A):aW X (Č .NotIn) (rO X.K Ξ fE):=by
 rintro π s σ H x y v u Q I rx ry ⟨w,dx,dy,rfl,S,hx,hy,h⟩;unfold fE at h;split at h
 ·rename_i ds hd
  obtain⟨d,e,h⟩:=fm h
  cases hb:inD dx ds with
  |none=>rw[hb] at e;cases e
  |some b =>
   rw[hb] at e;cases e;obtain⟨l1,l2,l3,l4⟩:=Jm hb;obtain⟨p1,p2⟩:=kh _ l1;obtain⟨q1,q2⟩:=tu _ l2;obtain⟨bs,rd⟩:=(hx.py (oF _ l1)).reads I rx;have hu:X.A.units+1+min (Ž (bN ds)) (py dx).depth<abP:=by
    have:=hr.un;rw[p2];omega
   obtain⟨a,xs,rfl,ha,aq⟩:=G4 S hy hd;have fin:EP X π σ Q (.bool (!(bN ds).any λy=>į y (py dx))) s:=⟨.bl (!b),w.H,I,by rw[A8 l1 l2,l4];rfl,aH S h _ rfl⟩
   rcases ha with ha|ha
   ·obtain⟨cs,rc⟩:=(show L2.DV X.K (λ_=>False) w.H (.list (bN ds)) (.ref a) by simp only[L2.DV];exact⟨a,xs,rfl,not_false,ha,aq.py (oA _ l2)⟩).reads I ry
    exact SeqAt.notIn_list_reads rc rd q1 p1 hu fin
   ·obtain⟨cs,rc⟩:=(show L2.DV X.K (λ_=>False) w.H (.tuple (bN ds)) (.ref a) by simp only[L2.DV];exact⟨a,xs,rfl,ha,aq.py (oA _ l2)⟩).reads I ry
    exact SeqAt.notIn_tuple_reads rc rd q1 p1 hu fin
 ·exact h.elim
def tP (K:Ĳ) (Ξ:Wd->bq->Prop) (f:Env->ag->Res (Option Int)):TO:=fun σ H Q=>∃w env,w.H=H/\aK K w/\bW K w env σ/\Out K Ξ w (f env w.aG) λw' i=>Q i w'.H
def iH:Env->ag->Res (Option Int):=λ_ s=>ok none s
def iz (f:Env->ag->Res D):Env->ag->Res (Option Int):=λenv s=>ao (f env s) λd s=>match d with
 | .int i=>ok (some i) s
 |_=>none
variable {e a b:ļ} {lo hi:Option ļ} {pos p2 p3 p4:Pos} {f g:Env->ag->Res D}
def Jn (h:PO X lo t) (i:∀ σ H Q,t' σ H Q->t σ H Q):PO X lo t':=λπ s σ H Q I hq=>h π s σ H Q I (i σ H Q hq)
def mC:PO X none (tP X.K Ξ iH):=Jn RJ fun σ H Q az=>by
 obtain⟨w,env,eH,S,eo,h⟩:=az;subst eH;exact aH S h
def mw (he:PE X e (tE X.K Ξ f)):PO X (some e) (tP X.K Ξ (iz f)):=Jn (RK he) fun σ H Q az=>by
 obtain⟨w,env,eH,S,eo,h⟩:=az;subst eH;refine⟨w,env,rfl,S,eo,(Out.ao h).mono λw1 d l1 S1 h1 v dv=>?_⟩
 cases d with
 |int i=>exact⟨i,dv,aH S1 h1⟩
 |_=>exact h1.elim
noncomputable def cutD (xs:List D) (lo hi:Option Int):List D:=(xs.drop (HT.aP xs.length 0 lo)).take (HT.aP xs.length xs.length hi-HT.aP xs.length 0 lo)
def jh (d:D) (lo hi:Option Int) (s:ag):Res D:=match res d s with
 | .tup ds=>ok (.tup (cutD ds lo hi)) s
 | .lst ds=>ok (.lst (cutD ds lo hi)) s
 |_=>none
def iI (f:Env->ag->Res D) (l h:Env->ag->Res (Option Int)):Env->ag->Res D:=λenv s=>ao (f env s) λd s=>ao (l env s) λlo s=>ao (h env s) λhi s=>jh d lo hi s
def Yb (K:Ĳ) (Ξ:Wd->bq->Prop):V->Option Int->Option Int->Hp->VK->Prop:=λx lo hi H Q=>∃w dx,w.H=H/\aK K w/\DV K w dx x/\Out K Ξ w (jh dx lo hi w.aG) λw' d=>∀v,DV K w' d v->Q v w'.H
def Um:u5 X (Yb X.K Ξ):=by
 rintro π s σ H x v vl vu lo hi sl Q I rx hs pl pu ⟨w,dx,rfl,S,hx,h⟩;unfold jh at h;split at h
 ·rename_i ds e1
  rw[fb e1 (by intro _ z;cases z)] at hx;simp only[DV] at hx;obtain⟨a,xs,rfl,ha,aq⟩:=hx;refine RP π s σ w.H _ v vl vu lo hi sl Q I rx hs pl pu ⟨a,xs,rfl,ha,pH S ?_ h⟩;unfold cutD kB;rw[aq.length];exact(aq.drop _).take _
 ·rename_i ds e1
  obtain⟨a,xs,rfl,ha,aq⟩:=jH S hx e1;refine RM π s σ w.H _ v vl vu lo hi sl Q I rx hs pl pu ⟨a,xs,rfl,bp.of ha,rQ S ?_ h⟩;unfold cutD kB;rw[aq.length];exact(aq.drop _).take _
 ·exact h.elim
def mE (he:PE X e (tE X.K Ξ f)) (hl:PO X lo (tP X.K Ξ fl)) (hu:PO X hi (tP X.K Ξ fh)):PE X (.Subscript e (.Slice lo hi none p2) pos) (tE X.K Ξ (iI f fl fh)) :=
 cN (P9 Um he hl hu) fun σ H Q az=>by
  obtain⟨w,env,eH,S,eo,h⟩:=az;subst eH;exact⟨w,env,rfl,S,eo,(Out.ao h).mono λw1 d l1 S1 h1 v dv=>⟨w1,env,rfl,S1,eo.le l1,(Out.ao h1).mono λw2 i l2 S2 h2=>⟨w2,env,rfl,S2,eo.le (l1.trans l2),(Out.ao h2).mono λw3 j l3 S3 h3=>⟨w3,d,rfl,S3,(l2.trans l3) _ _ dv,h3⟩⟩⟩⟩
def iX (d x:D) (s:ag):Res D:=match d with
 | .aj k=>match s[k]? with
  |some (.lst ds)=>if decide (ds.length<Õ)=true then ok .au (s.set k (.lst (ds++[x]))) else none
  |_=>none
 |_=>none
def iY (d:D) (s:ag):Bool:=match d with
 | .aj k=>match s[k]? with
  |some (.lst _)=>true
  |_=>false
 |_=>false
def ic (f g:Env->ag->Res D):Env->ag->Res D:=λenv s=>ao (f env s) λd s=>if iY d s=true then ao (g env s) λx s=>iX d x s else none
def R9 (S:aK K w) (dv:DV K w d v) (h:iY d w.aG=true):∃k a ds xs,d=.aj k/\v=.ref a/\w.ρ[k]?=some a/\w.aG[k]?=some (.lst ds)/\w.H a=some (.lst xs)/\ar K w ds xs:=by
 unfold iY at h;split at h
 ·rename_i k
  split at h
  ·rename_i ds hk
   obtain⟨a,e1,rfl⟩:=dv;obtain⟨xs,q1,q2⟩:=S.cell k a _ e1 hk;exact⟨k,a,ds,xs,rfl,rfl,e1,hk,q1,q2⟩
  ·cases h
 ·cases h
def Uo (S:aK K w) (dv:DV K w d v) (du:DV K w y u) (h:Out K Ξ w (iX d y w.aG) q):∃a xs,v=.ref a/\w.H a=some (.lst xs)/\xs.length<Õ/\∃w',w'.H=upd w.H a (.lst (xs++[u]))/\q w' .au:=by
 unfold iX at h;split at h
 ·rename_i k
  split at h
  ·rename_i ds hk
   split at h
   ·rename_i hl
    obtain⟨a,e1,rfl⟩:=dv;obtain⟨xs,q1,q2⟩:=S.cell k a _ e1 hk;have nd:(Cell.lst ds)≠.dead:=by intro z;cases z
    have le:=(Fw.put (K:=K) (o:=.lst (xs++[u])) (c:=.lst (ds++[y])) S e1 hk nd).le;refine⟨a,xs,rfl,q1,by rw[<- q2.length];exact Ĭ hl,w.put k a (.lst (xs++[u])) (.lst (ds++[y])),rfl,?_⟩;exact h _ le (S.CD e1 hk nd ⟨_,dg,le.all (q2.append (ar.one du))⟩) rfl
   ·exact h.elim
  ·exact h.elim
 ·exact h.elim
def pb {o:ļ} {apos eI:Pos} (ho:PE X o (tE X.K Ξ f)) (ha:PE X a (tE X.K Ξ g))
  (Bz:attributeBase o "append" X.env (ţ o X.env)=ţ o X.env:=by rfl)
  (Cr:((aab eI (Þ [a] X.env)).all (λx=>!x.1)&&(backToKw eI (abQ [] X.env)).all (λx=>x.1.isSome)
   && decide (([a]:List ļ).length+([]:List acd).length+(if ([]:List acd).isEmpty then 0 else 1)<30))=true:=by rfl)
  (BA:(apos.endLine==eI.line)=true:=by rfl) (hs:Þ [a] X.env=(false,ţ a X.env)::Þ [] X.env:=by rfl) (A1:(aab eI (Þ [] X.env)).any (·.1)=false:=by rfl) :
  PE X (.Call (.Attribute o "append" apos) [a] [] eI) (tE X.K Ξ (ic f g)) :=
 cN (VB PySem.F.plainAttrs_list PySem.F.slot_list_append PySem.F.type_list_append ON ho (lA ha nq hs) Bz Cr BA hs A1) fun σ H Q az=>by
  obtain⟨w,env,eH,S,eo,h⟩:=az;subst eH;refine⟨w,env,rfl,S,eo,(Out.ao h).mono λw1 d l1 S1 h1 v dv=>?_⟩;split at h1
  ·rename_i hl
   obtain⟨k,p,ds,xs,rfl,rfl,e1,e2,e3,e4⟩:=R9 S1 dv hl;refine⟨.inl ⟨rfl,xs,bp.of e3⟩,w1,env,rfl,S1,eo.le l1,(Out.ao h1).mono λw2 y l2 S2 h2 u du=>?_⟩;obtain⟨a',ys,ea,q1,q2,w3,eH,q3⟩:=Uo S2 (l2 _ _ dv) du h2;refine⟨a',ys,u,ea,rfl,q1,q2,?_⟩;rw[<- eH];exact q3 _ rfl
  ·exact h1.elim
def iA (d i x:D) (s:ag):Option ag:=match d,i with
 | .aj k,.int n=>match s[k]? with
  |some (.lst ds)=>(gn ds.length n).map λj=>s.set k (.lst (ds.set j x))
  |_=>none
 |_,_=>none
def ie (f o i:Env->ag->Res D):Env->ag->Res Fl:=λenv s=>ao (f env s) λx s=>ao (o env s) λd s=>ao (i env s) λn s=>match iA d n x s with
 |some s'=>ok (.nx env) s'
 |none=>none
def Uq (S:aK K w) (dv:DV K w d v) (dn:DV K w i n) (du:DV K w x u) (h:iA d i x w.aG=some s'):∃a xs k j,v=.ref a/\n=.int k/\w.H a=some (.lst xs)/\gn xs.length k=some j/\∃w',w'.H=upd w.H a (.lst (xs.set j u))/\w'.aG=s'/\Le K w w'/\aK K w':=by
 unfold iA at h;split at h
 ·rename_i k m
  split at h
  ·rename_i ds hk
   cases hj:gn ds.length m with
   |none=>rw[hj] at h;cases h
   |some j =>
    rw[hj] at h;cases h;obtain⟨a,e1,rfl⟩:=dv;obtain⟨xs,q1,q2⟩:=S.cell k a _ e1 hk;have nd:(Cell.lst ds)≠.dead:=by intro z;cases z
    have le:=(Fw.put (K:=K) (o:=.lst (xs.set j u)) (c:=.lst (ds.set j x)) S e1 hk nd).le;exact⟨a,xs,m,j,rfl,dn,q1,by rw[<- q2.length];exact hj,w.put k a (.lst (xs.set j u)) (.lst (ds.set j x)),rfl,rfl,le,S.CD e1 hk nd ⟨_,dg,le.all (q2.set du j)⟩⟩
  ·cases h
 ·cases h
def pd (he:PE X e (tE X.K Ξ f)) (ho:PE X o (tE X.K Ξ fo)) (hi:PE X i (tE X.K Ξ fi))
 (ha:∀v,aaR (.Subscript o i iB) X.env v=(do
   let ov <- aac [v] (ţ o X.env)
   let iv <- aac [v,ov] (ţ i X.env)
   abg iB
   aac [v,ov,iv] (setItem ov iv v)
   release [v,ov,iv] []):=by intro _;rfl)
 (hs:δ [.Subscript o i iB] e pos.line X.env=pure false:=by rfl) (hw:ε [.Subscript o i iB] e X.env=pure none:=by rfl)
 (h1:(ũ [.Subscript o i iB] X.env).map (·.2)=[aaR (.Subscript o i iB) X.env]:=by rfl):PS X (.Assign [.Subscript o i iB] e pos) (tS X.K Ξ (ie f fo fi)) :=
 jg (AY he (IQ ho hi set_list ha) hs hw h1) λD0 σ H az=>by
  obtain⟨w,env,eH,S,eo,h⟩:=az;subst eH;refine⟨w,env,rfl,S,eo,(Out.ao h).mono λw1 x l1 S1 h1 u du=>?_⟩;refine⟨w1,env,rfl,S1,eo.le l1,(Out.ao h1).mono λw2 d l2 S2 h2 v dv=>?_⟩;refine⟨w2,env,rfl,S2,eo.le (l1.trans l2),(Out.ao h2).mono λw3 n l3 S3 h3 m dm=>?_⟩
  cases hd:iA d n x w3.aG with
  |none=>rw[hd] at h3;exact h3.elim
  |some s' =>
   rw[hd] at h3;obtain⟨a,xs,k,j,e1,e2,q1,q2,w4,eH,es,le,S4⟩:=Uq S3 (l3 _ _ dv) dm ((l2.trans l3) _ _ du) hd;refine⟨a,xs,k,j,e1,e2,q1,q2,?_⟩;rw[<- eH];exact h3 w4 le S4 es σ (eo.le (l1.trans (l2.trans (l3.trans le))))
end
def kd (d:D) (s:ag):Option Kn:=match res d s with
 | .au=>some .au
 | .bl _=>some .bl
 | .int _=>some .int
 | .str _=>some .str
 | .tup _=>some .tup
 | .lst _=>some .lst
 | .aZ _=>some .aZ
 |_=>none
def JY (S:aK K w) (h:DV K w d v) (e:kd d w.aG=some k):oj K w.H v k:=by
 unfold kd at e
 split at e<;>rename_i e1<;>first | (cases e;done) | (try cases e)
 ·rw[fb e1 (by intro _ z;cases z)] at h;cases h;trivial
 ·rw[fb e1 (by intro _ z;cases z)] at h;cases h;trivial
 ·rw[fb e1 (by intro _ z;cases z)] at h;cases h;trivial
 ·rw[fb e1 (by intro _ z;cases z)] at h;cases h;trivial
 ·rw[fb e1 (by intro _ z;cases z)] at h
  simp only[DV] at h;obtain⟨a,xs,rfl,ha,_⟩:=h;exact⟨xs,ha⟩
 ·obtain⟨a,xs,rfl,ha,_⟩:=jH S h e1
  exact⟨xs,bp.of ha⟩
 ·rw[fb e1 (by intro _ z;cases z)] at h
  simp only[DV] at h;obtain⟨a,rfl,_,ha⟩:=h;exact⟨_,ha⟩
noncomputable def JZ (T:String):Bool:=T=="int"||T=="bool"||T=="str"||T=="tuple"||T=="list"
def ck (ds:List D) (s:ag):Res D:=match ds with
 | [d,.ty T]=>if JZ T=true then bx ((kd d s).map λk=>.bl (rL k T)) s else none
 |_=>none
section
variable {X:Cx} {Ξ:Wd->bq->Prop} {e a b:ļ} {es:List ļ} {pos:Pos} {f g:Env->ag->Res D} {fa:Env->ag->Res (List D)}
def gE:bV X (.builtin "isinstance") (rC X.K Ξ ck):=by
 rintro π s σ H xs us Q I r ⟨w,ds,rfl,S,aq,h⟩;unfold ck at h;split at h
 ·rename_i d T
  obtain⟨v,u,rfl,dv,du⟩:=tL aq;have eu:u=.ty T:=du;subst eu;split at h
  ·rename_i hT
   obtain⟨d',e,h⟩:=fm h
   cases hk:kd d w.aG with
   |none=>rw[hk] at e;cases e
   |some k =>
    rw[hk] at e;cases e;have vq:=JY S dv hk;simp only[JZ,ż,beq_iff_eq] at hT
    rcases hT with (((rfl|rfl)|rfl)|rfl)|rfl
    ·exact MP π s σ w.H _ us Q I r ⟨v,k,rfl,vq,aH S h _ rfl⟩
    ·exact My π s σ w.H _ us Q I r ⟨v,k,rfl,vq,aH S h _ rfl⟩
    ·exact MQ π s σ w.H _ us Q I r ⟨v,k,rfl,vq,aH S h _ rfl⟩
    ·exact Mo π s σ w.H _ us Q I r ⟨v,k,rfl,vq,aH S h _ rfl⟩
    ·exact Mz π s σ w.H _ us Q I r ⟨v,k,rfl,vq,aH S h _ rfl⟩
  ·exact h.elim
 ·exact h.elim
def gJ (hv:ą x=some (.type T)) (hg:Gl X x) (hm:X.mg x=none) (hn:x≠"__name__":=by decide) (hd:(x==("__debug__":Str))=false:=by decide):PE X (.Name x pos) (tE X.K Ξ (eC (.ty T))):=rn (v:=.ty T) (Aw hg hm hv rfl hn hd) λ_=>rfl
def dq (g:∃t,X.mg x=some (.int i t)) (hg:Gl X x) (hd:(x==("__debug__":Str))=false:=by decide):PE X (.Name x pos) (tE X.K Ξ (eC (.int i))):=by
 obtain⟨t,e⟩:=g;exact rn (v:=.int i) (HB hg e ⟨t,rfl⟩ hd) λ_=>rfl
def KP (d:D) (s:ag):Res D:=bx ((kd d s).map λk=>.bl (decide (k=.tup)||decide (k=.lst))) s
def Sa {x1} (ha:PE X a (tE X.K Ξ f)) (hg:Gl X "isinstance") (hm:X.mg "isinstance"=none) (hv:ą "isinstance"=some (.builtin "isinstance")) (h1:PE X (.Name "tuple" p1) (tC (.ty "tuple"))) (h2:PE X (.Name "list" p2) (tC (.ty "list")))
 (he:Þ (a::[.Tuple [.Name "tuple" p1,.Name "list" p2] x1 p3]) X.env=(false,ţ a X.env)::Þ [.Tuple [.Name "tuple" p1,.Name "list" p2] x1 p3] X.env:=by rfl) :
  PE X (.Call (.Name "isinstance" p) [a,.Tuple [.Name "tuple" p1,.Name "list" p2] x1 p3] [] pos) (tE X.K Ξ (e1 KP f)) :=
 cN (zW Nf hg hm hv (lA ha (lA (Qc (lA h1 (lA h2 nq))) nq) he) (by decide) (by decide) he) fun σ H Q az=>by
  obtain⟨w,env,eH,S,eo,h⟩:=az;subst eH;refine⟨w,env,rfl,S,eo,(Out.ao h).mono λw1 d l1 S1 h1 v dv=>?_⟩;refine⟨["tuple","list"],rfl,(by show 2<=Õ;decide),λp hp=>?_⟩;obtain⟨d',e,h1⟩:=fm h1
  cases hk:kd d w1.aG with
  |none=>rw[hk] at e;cases e
  |some k =>
   rw[hk] at e;cases e;have S2:=S1.grow (o:=.ext (rm p ["tuple","list"])) hp;have l2:=(Fw.grow (K:=X.K) (o:=.ext (rm p ["tuple","list"])) hp).le;exact⟨v,k,p,rfl,JY (w:=w1.grow p _) S2 (l2 _ _ dv) hk,dg,h1 _ l2 S2 rfl _ rfl⟩
def xU (d:D):Bool:=plain d&&(py d).showable&&(!(py d).hasDict||(match py d with | .tuple ds=>iW ds | .dict _=>true | _=>false))&&decide ((py d).depth<=100)&&decide ((py d).shown.length<=Õ)
def t9 (ds:List D) (s:ag):Res D:=match ds with
 | [d]=>if xU (res d s)=true then ok (.str (py (res d s)).shown) s else none
 |_=>none
def Jo (hr:bT k X.A):bV X (.builtin "repr") (rC X.K Ξ t9):=by
 rintro π s σ H xs us Q I r ⟨w,ds,rfl,S,aq,h⟩;unfold t9 at h;split at h
 ·rename_i d
  obtain⟨v,rfl,dv⟩:=lG aq;split at h
  ·rename_i hk
   simp only[xU,Ç,È] at hk;obtain⟨⟨⟨⟨h1,h2⟩,h3⟩,h4⟩,h5⟩:=hk;have dp:=dv.res S h1;have fin:=aH S h _ rfl;generalize hp:py (res d w.aG)=P at *
   cases P with
   |tuple ps =>
    refine NW hr π s σ w.H _ us Q I r ⟨v,ps,_,rfl,dp,h2,?_,h4,h5,fin⟩;simpa using h3
   |dict ai=>exact Gf hr π s σ w.H _ us Q I r ⟨v,_,_,rfl,dp,h2,.inr rfl,h4,h5,fin⟩
   |_ =>
    refine Gf hr π s σ w.H _ us Q I r ⟨v,_,_,rfl,dp,h2,.inl ?_,h4,h5,fin⟩;simpa using h3
  ·exact h.elim
 ·exact h.elim
noncomputable def pf:List D->Option (List Int)
 | []=>some []
 | .int i::ds=>(pf ds).map λr=>i::r
 |_::_=>none
def G5:∀{ds:List D} {ns:List Int},pf ds=some ns->ds=ns.map D.int
 | [],ns,h=>by cases h;rfl
 | .int b::ds,ns,h=>by
  simp only[pf] at h
  cases hd:pf ds with
  |none=>rw[hd] at h;cases h
  |some r=>rw[hd] at h;cases h;rw[G5 hd];rfl
 | .au::_,_,h=>by cases h
 | .bl _::_,_,h=>by cases h
 | .str _::_,_,h=>by cases h
 | .tup _::_,_,h=>by cases h
 | .lst _::_,_,h=>by cases h
 | .aZ _::_,_,h=>by cases h
 | .aj _::_,_,h=>by cases h
 | .ty _::_,_,h=>by cases h
 | .bC _::_,_,h=>by cases h
def OX:pf (ns.map D.int)=some ns:=by
 induction ns with
 |nil=>rfl
 |cons b bs ih=>simp only[Ö,pf,ih,Ŏ]
noncomputable def lP (i:Int):List Int->List Int
 | []=>[i]
 |j::r=>if i<j then i::j::r else if i=j then j::r else j::lP i r
def gF:List Int->List Int
 | []=>[]
 |i::r=>lP i (gF r)
def Ab:∀{l:List Int},k∈lP i l↔k=i\/k∈l
 | []=>by simp[lP]
 |j::r=>by
  unfold lP;split
  ·simp
  ·split
   ·rename_i h;subst h;simp
   ·rw[Ó,Ab,Ó]
    constructor
    ·rintro (h|h|h)
     ·exact .inr (.inl h)
     ·exact .inl h
     ·exact .inr (.inr h)
    ·rintro (h|h|h)
     ·exact .inr (.inl h)
     ·exact .inl h
     ·exact .inr (.inr h)
def FH:∀{l:List Int},l.Pairwise (· < ·)->(lP i l).Pairwise (· < ·)
 | [],_=>by simp[lP]
 |j::r,h=>by
  obtain⟨h1,h2⟩:=Ă.mp h;unfold lP;split
  ·rename_i ff
   refine Ă.mpr ⟨λk hk=>?_,h⟩
   rcases Ó.mp hk with rfl|hk
   ·exact ff
   ·have:=h1 k hk;omega
  ·split
   ·exact h
   ·refine Ă.mpr ⟨λk hk=>?_,FH h2⟩
    rcases Ab.mp hk with rfl|hk
    ·omega
    ·exact h1 k hk
def oG:∀{l:List Int},k∈gF l↔k∈l
 | []=>by simp[gF]
 |i::r=>by simp[gF,Ab,oG]
def Fx:∀(l:List Int),(gF l).Pairwise (· < ·)
 | []=>List.Pairwise.nil
 |i::r=>FH (Fx r)
def Fm:∀{l m:List Int},l.Pairwise (· < ·)->m.Pairwise (· < ·)->(∀k,k∈l↔k∈m)->l=m
 | [],[],_,_,_=>rfl
 | [],j::m,_,_,h=>by have:=(h j).mpr Ò;cases this
 |i::l,[],_,_,h=>by have:=(h i).mp Ò;cases this
 |i::l,j::m,hl,hm,h=>by
  obtain⟨l1,l2⟩:=Ă.mp hl;obtain⟨m1,m2⟩:=Ă.mp hm;have e:i=j:=by
   rcases Ó.mp ((h i).mp Ò) with e|e
   ·exact e
   ·rcases Ó.mp ((h j).mpr Ò) with e'|e'
    ·exact e'.symm
    ·have:=m1 i e;have:=l1 j e';omega
  subst e;congr 1;refine Fm l2 m2 λk=>?_;constructor
  ·intro hk
   rcases Ó.mp ((h k).mp (Ñ _ hk)) with e|e
   ·subst e;have:=l1 k hk;omega
   ·exact e
  ·intro hk
   rcases Ó.mp ((h k).mpr (Ñ _ hk)) with e|e
   ·subst e;have:=m1 k hk;omega
   ·exact e
def qG (d:D) (s:ag):Res D:=match d with
 | .lst ds=>match pf ds with
  |some ns=>if decide (ns.length<64)=true then ok (.lst ((gF ns).map D.int)) s else none
  |none=>none
 |_=>none
def NZ {p p2 kH:Pos} (ha:PE X a (tE X.K Ξ f)) (hc:X.calm=true) (hg:Gl X "sorted") (hm:X.mg "sorted"=none) (hv:ą "sorted"=some (.builtin "sorted")) (DG:Gl X "set") (DH:X.mg "set"=none) (Yc:ą "set"=some (.type "set"))
  (he:Þ [a] X.env=(false,ţ a X.env)::Þ [] X.env:=by rfl) (cM:(aab kH (Þ [] X.env)).any (·.1)=false:=by rfl)
  (yU:Þ [.Call (.Name "set" p2) [a] [] kH] X.env=(false,ţ (.Call (.Name "set" p2) [a] [] kH) X.env)::Þ [] X.env:=by rfl) (Xd:(aab pos (Þ [] X.env)).any (·.1)=false:=by rfl) :
  PE X (.Call (.Name "sorted" p) [.Call (.Name "set" p2) [a] [] kH] [] pos) (tE X.K Ξ (e1 qG f)) :=
 cN (zW (MS hc) hg hm hv (lA (zO (NV hc) DG DH Yc (lA ha nq he) (by decide) (by decide) he cM) nq yU) (by decide) (by decide) yU Xd) fun σ H Q az=>by
  obtain⟨w,env,eH,S,eo,h⟩:=az;subst eH;refine⟨w,env,rfl,S,eo,(Out.ao h).mono λw1 d l1 S1 h1 v dv=>?_⟩;unfold qG at h1;split at h1
  ·rename_i ds
   split at h1
   ·rename_i ns hn
    split at h1
    ·rename_i hl
     have hl:=Ĭ hl;simp only[DV] at dv;obtain⟨p,xs,rfl,hp,aq⟩:=dv;rw[G5 hn] at aq;rw[aq.G1] at hp;refine⟨p,ns,rfl,hp.sq,by omega,λq hq=>?_⟩;refine⟨q,ns,rfl,dg,hl,λl ms Lh hs hk=>?_⟩;have e:=Fm hs (Fx ns) λk=>(hk k).trans oG.symm;subst e;have DJ:(w1.grow q (.ext (lM X.prog X.w q ns))).H l=none:=Lh;have S2:=S1.grow (o:=.ext (lM X.prog X.w q ns)) hq;exact h1 ((w1.grow q (.ext (lM X.prog X.w q ns))).grow l (.lst ((gF ns).map V.int))) ((Fw.grow hq).le.trans (Fw.grow DJ).le) (S2.grow DJ) rfl (.ref l) ⟨l,_,rfl,⟨(show ¬ (w1.grow q (.ext (lM X.prog X.w q ns))).Z l from nr S2 DJ),dg⟩,ar.ints _⟩
    ·exact h1.elim
   ·exact h1.elim
  ·exact h1.elim
def pM (i j:Nat) (fa:Env->ag->Res (List D)):Env->ag->Res Fl:=λenv s=>ao (fa env s) λds s=>match ds with
 | [x,y]=>ok (.nx ((env.set i (some x)).set j (some y))) s
 |_=>none
def xx (i j:Nat) {x y:Str} {px py pt:Pos} {kt k2 iC} (hc:X.calm=true) (hN:X.N.Nodup) (ha:PA X [a,b] (tA X.K Ξ fa)) (hi:X.N[i]?=some x:=by rfl) (hj:X.N[j]?=some y:=by rfl) (ff:i≠j:=by decide)
  (hx:X.env.scope.names.lookup x=some .local:=by rfl) (hy:X.env.scope.names.lookup y=some .local:=by rfl)
  (hw:ε [.Tuple [.Name x px,.Name y py] kt pt] (.Tuple [a,b] k2 iC) X.env=pure (some [x,y]):=by rfl)
  (hs:δ [.Tuple [.Name x px,.Name y py] kt pt] (.Tuple [a,b] k2 iC) pos.line X.env=pure false:=by rfl) :
  PS X (.Assign [.Tuple [.Name x px,.Name y py] kt pt] (.Tuple [a,b] k2 iC) pos) (tS X.K Ξ (pM i j fa)):=jg (Tw hc hN hi hj ff hx hy ha hw hs) λD0 σ H az=>by
 obtain⟨w,env,eH,S,eo,h⟩:=az;subst eH;refine⟨w,env,rfl,S,eo,(Out.ao h).mono λw1 ds l1 S1 h1 vs aq=>?_⟩;split at h1
 ·obtain⟨v,u,rfl,dv,du⟩:=tL aq
  exact⟨v,u,rfl,aH S1 h1 _ (((eo.le l1).set dv i).set du j)⟩
 ·exact h1.elim
end
end DI
namespace L2
open PySem PySem.Spec PyProof.Rows
structure DS (Y:Cx) (D:á) (π:List (á×Obj)):Prop where
 loc:D≠Y.env.locals
 fs:D∉Y.fs
 new:Y.dM.heap.objs.size<=D
 cell:∀x c,Y.env.cells.lookup x=some c->c≠D
 pin:∀p∈Y.pn++π,p.1≠D
structure qg (Y:Cx) (D:á) (nt:Nat) (caps:St) (π:List (á×Obj)) (o:St) (H:Hp) (s:É) (acc:List V):Prop where
 inv:Inv Y π (o++caps) H s
 len:o.length=nt
 lst:∃ys,s.heap.PlainList D ys/\Vals acc ys.toList
 free:H D=none
 kO:acc.length<=Õ
abbrev jV:=St->Hp->List V->(St->List V->Hp->Prop)->Prop
def rV (Y:Cx) (D:á) (nt:Nat) (caps:St) (c:Code) (m:Sem acf) (ta:jV):Prop :=
 ∀(π:List (á×Obj)) (o:St) (H:Hp) (s:É) (acc:List V) (Q:St->List V->Hp->Prop),DS Y D π->qg Y D nt caps π o H s acc->ta (o++caps) H acc Q ->
  à (ø Y.prog Y.w) Y.A m (λfn s'=>fn=.again c/\∃o' H' fv,qg Y D nt caps π o' H' s' fv/\Q (o'++caps) fv H') (λ_ _=>False) s
def CA (J:It) (g:TG) (tf:TT) (ta:jV) (τ:St) (acc:List V) (H:Hp) (Q:St->List V->Hp->Prop):Prop:=∃W:Nat->Nat->St->List V->Hp->Prop,(∃m,W 0 m τ acc H) /\
 ∀i m τ acc H2,W i m τ acc H2->(J.stop i H2/\Q τ acc H2) \/
  (J.go i H2/\∃N:St->List V->Hp->Prop,(∀ cT fv H',N cT fv H'->∃m',m' < m/\W (i+1) m' cT fv H') /\
   ∀x H3,J.uT i H2 x H3->g x τ H3 fun qa H4=>tf qa H4 λb H5=>if b=true then ta qa H5 acc N else N qa acc H5)
def J0 (te:TE):jV:=fun τ H acc Q=>acc.length+1<=Õ/\te τ H λv H'=>Q τ (acc++[v]) H'
def J1 (wi:TI) (g:TG) (tf:TT) (ta:jV):jV:=fun τ H acc Q=>wi τ H λJ H1=>CA J g tf ta τ acc H1 Q
section
variable {Y:Cx} {D:á} {nt:Nat} {caps:St}
def DS.obj (ds:DS Y D π) (B:qg Y D nt caps π o H s acc):∃oD ys nn,s.heap.get? D=some oD/\oD={ cls:=.type "list",data:=.seq ys nn }/\Vals acc ys.toList/\Inv Y (π++[(D,oD)]) (o++caps) H s:=by
 obtain⟨ys,⟨nn,ho⟩,rv⟩:=B.lst;refine⟨_,ys,nn,ho,rfl,rv,B.inv.ip λp hp=>?_⟩
 rcases Ù.mp hp with z|z
 ·exact B.inv.pin p (Æ _ z)
 ·have e:p=(D,{ cls:=.type "list",data:=.seq ys nn }):=by simpa using z
  subst e;exact⟨ho,B.free,ds.loc,ds.fs,λv z=>by cases z⟩
def Ac (hx:Y.xe=λ_ _=>False) (hE:PE Y el te):rV Y D nt caps c ((do let _ <- call (.builtin "list.append") [.ref D,<- ţ el Y.env]:Sem Unit) >>= λ_=>again c) (J0 te):=by
 intro π o H s acc Q ds B h;obtain⟨hz,h⟩:=h;obtain⟨oD,ys,nn,ho,eo,rv,I⟩:=ds.obj B;have q:=hE _ s _ H _ I h;rw[hx] at q;refine À (À (aD q λy s8 h8=>?_));obtain⟨v,H8,I8,r8,q9⟩:=h8;have pD:=I8.pin (D,oD) (Æ _ (Æ _ (by simp)));have DK:s8.heap.PlainList D ys:=⟨nn,by rw[<- eo];exact pD.1⟩;have DL:ys.size<=Õ:=by
  have e:=rv.length;simp only[þ] at e;omega
 refine À (wpAny_list_append_plain (hsz:=DL) DK λh9 DM yV=>Â (Â ⟨rfl,?_⟩));have DN:Inv Y π (o++caps) H8 s8:=I8.jd
 have I9:Inv Y π (o++caps) H8 { s8 with heap:=h9,toks:=s8.toks }:=DN.turned (it:=D) (λb o hb e=>(yV.2 b hb).trans e) pD.2.1 ds.loc (.inr ds.new) ds.cell ds.pin
 refine⟨o,H8,acc++[v],⟨I9,B.len,⟨ys.push y,DM,?_⟩,pD.2.1,by rw[â];simpa using hz⟩,q9⟩;rw[abl];exact Vals.append rv (.cons r8 .nil)
def zJ (hx:Y.xe=λ_ _=>False) (hc:Y.calm=true)
 (T:Turn Y.prog Y.w Y.K tg J fp it tn) (Yd:tn 0 s.heap) (hf:∀b∈fp,cj Y π H b) (kR:D∉fp) (hG:PG Y tg g) (fV:lT g nt) (hF:PF Y tests tf) (hA:rV Y D nt caps (.compLoop e d (.ref it) (.ref D) Y.env) act ta) (ds:DS Y D π) (B:qg Y D nt caps π o H s acc) (hq:(Code.compLoop e d (.ref it) (.ref D) Y.env).quiet=true)
 (Xe:∀(M:Model) (A:đ) (Q':Fin->É->Prop) (E':Í->É->Prop) (s':É),à (ø Y.prog Y.w) A (compTurn e d (.ref it) (.ref D) Y.env) Q' (λ_ _=>False) s'->à (ø Y.prog Y.w) (A.under (.compLoop e d (.ref it) (.ref D) Y.env)) ((ø Y.prog Y.w).den (.compLoop e d (.ref it) (.ref D) Y.env)) Q' E' s')
 (ht:compTurn e d (.ref it) (.ref D) Y.env=(do
   abg p0
   match <- Ť (.ref it) with
   |none=>pure (.done .next)
   |some v =>
    Ş tg (.ref it) v
    aaR tg Y.env v
    let mut ok:=true
    for c in tests do
     if ok then ok <- isTrue c Y.env (ţ c Y.env)
    if ok then act else again (.compLoop e d (.ref it) (.ref D) Y.env)))
 (h:CA J g tf ta (o++caps) acc H Q) :
  aaO (ø Y.prog Y.w) Y.A (.compLoop e d (.ref it) (.ref D) Y.env) (λr s'=>r=.ok .next/\∃o' H' fv,qg Y D nt caps π o' H' s' fv/\Q (o'++caps) fv H') s:=by
 obtain⟨W,⟨m0,w0⟩,turn⟩:=h;have kS:∀{H':Hp} {pl:List (á×Obj)},(∀b∈fp,H' b=none)->(∀p∈pl,p.1∉fp)->∀b∈fp,cj Y (π++pl) H' b:=λ{H' pl} hn hp b hb=>by
  obtain⟨_,f1,mM,f3,f4,f5⟩:=hf b hb;refine⟨hn b hb,f1,mM,f3,f4,λp qh=>?_⟩
  rcases Ù.mp qh with z|z
  ·exact f5 p (ħ _ z)
  ·rcases Ù.mp z with z|z
   ·exact f5 p (Æ _ z)
   ·exact λe=>hp p z (e ▸ hb)
 refine codeAny_loop hq (λn s'=>∃i acc o H',qg Y D nt caps π o H' s' acc/\tn i s'.heap/\(∀b∈fp,H' b=none)/\W i n (o++caps) acc H') (λn s3 hJ=>?_) m0 ⟨0,acc,o,H,B,Yd,λb hb=>(hf b hb).1,w0⟩;obtain⟨i,acc,o3,H3,B3,gm,n5,w3⟩:=hJ;refine Xe (ø Y.prog Y.w) _ _ _ _ ?_;rw[ht];obtain⟨oD,ys,nn,ho,eo,ot,vt⟩:=ds.obj B3;have qi:∀p∈[(D,oD)],p.1∉fp:=λp hp=>by
  have e:p=(D,oD):=by simpa using hp
  subst e;exact kR
 have sv:∀{pl:List (á×Obj)} {cT:St} {H':Hp} {s':É},Inv Y (π++[(D,oD)]++pl) cT H' s'->s'.heap.PlainList D ys/\H' D=none:=λ{pl cT H' s'} I'=>by
  have q:=I'.pin (D,oD) (Æ _ (ħ _ (Æ _ (by simp))));exact⟨⟨nn,by rw[<- eo];exact q.1⟩,q.2.1⟩
 refine À (Ŕ (À ?_))
 rcases turn i n _ acc H3 w3 with ⟨stop,q⟩ | ⟨go,N',hN,step⟩
 ·have hd:=T.done Y rfl rfl rfl hc i _ s3 _ H3 (λ_ _=>False) vt (kS n5 qi) gm stop
  refine aD hd λr s4 h4=>?_;obtain⟨hr,I4⟩:=h4;subst hr;obtain⟨DO,n4⟩:=sv (pl:=[]) (by simpa using I4);exact Â ⟨rfl,o3,H3,acc,⟨I4.jd,B3.len,⟨ys,DO,ot⟩,n4,B3.kO⟩,q⟩
 ·have hd:=T.item Y rfl rfl rfl hc i _ s3 _ H3 (λ_ _=>False) vt (kS n5 qi) gm go
  refine aD hd λr s4 h4=>?_;obtain⟨u,hr,h4⟩:=h4;subst hr;refine À (aD h4 λ_ s5 h5=>?_);obtain⟨x,H5,I5,r5,y5,iD,uV⟩:=h5;have uW:=I5.pinned (kS uV qi) (T.obj _ _ iD);have q5:=hG _ s5 _ H5 x u _ uW r5 (fV x o3 _ H5 _ B3.len (step x H5 y5));rw[hx] at q5;refine À (aD q5 λ_ s6 h6=>?_);obtain⟨sx,H6,I6,⟨o6,vv,yz⟩,q6⟩:=h6;have q7:=hF _ s6 sx H6 _ I6 q6;rw[hx] at q7;refine À (aD q7 λb s7 h7=>?_);obtain⟨H7,I7,q7⟩:=h7;subst yz;obtain⟨yW,n7⟩:=sv I7;have DP:Inv Y (π++nk fp s5.heap) (o6++caps) H7 s7:=I7.ip λp hp=>by
   rcases Ù.mp hp with z|z
   ·exact I7.pin p (Æ _ (ħ _ (ħ _ z)))
   ·exact I7.pin p (Æ _ (Æ _ z))
  have uC:∀{cT:St} {H':Hp} {s':É},Inv Y (π++nk fp s5.heap) cT H' s'->tn (i+1) s'.heap/\∀b∈fp,H' b=none:=λ{cT H' s'} I'=>by
   refine⟨T.keep _ _ _ iD λb hb o e=>(I'.pin (b,o) (Æ _ (Æ _ (qC hb e)))).1,λb hb=>?_⟩;obtain⟨o,e,_⟩:=T.obj _ _ iD b hb;exact(I'.pin (b,o) (Æ _ (Æ _ (qC hb e)))).2.1
  cases b with
  |false =>
   rw[æ Ë] at q7;obtain⟨m',hm,w7⟩:=hN _ _ _ q7;obtain⟨t7,f7⟩:=uC DP;exact Â ⟨rfl,m',hm,i+1,acc,o6,H7,⟨DP.jd,vv,⟨ys,yW,ot⟩,n7,B3.kO⟩,t7,f7,w7⟩
  |true =>
   rw[Ú rfl] at q7;have Ye:DS Y D (π++nk fp s5.heap):=⟨ds.loc,ds.fs,ds.new,ds.cell,λp hp=>by
    rcases Ù.mp hp with z|z
    ·exact ds.pin p (ħ _ z)
    ·rcases Ù.mp z with z|z
     ·exact ds.pin p (Æ _ z)
     ·exact λe=>kR (e ▸ (F7 z).1)⟩
   refine aD (hA _ o6 H7 s7 acc N' Ye ⟨DP,vv,⟨ys,yW,ot⟩,n7,B3.kO⟩ q7) λfn s8 h8=>?_;obtain⟨Yf,o8,H8,Xf,B8,q8⟩:=h8;subst Yf;obtain⟨m',hm,w8⟩:=hN _ _ _ q8;obtain⟨t8,f8⟩:=uC B8.inv;exact⟨rfl,m',hm,i+1,Xf,o8,H8,⟨B8.inv.jd,B8.len,B8.lst,B8.free,B8.kO⟩,t8,f8,w8⟩
end
def A9 (A:đ) (Q':Fin->É->Prop) (E':Í->É->Prop) (s':É)
 (h:à (ø P w) A (compTurn (.ListComp el gens sc ps) d i6 av ce) Q' (λ_ _=>False) s'):à (ø P w) (A.under (.compLoop (.ListComp el gens sc ps) d i6 av ce)) ((ø P w).den (.compLoop (.ListComp el gens sc ps) d i6 av ce)) Q' E' s':=by
 show à _ A ((compTurn (.ListComp el gens sc ps) d i6 av ce).onRaise (λx=>do noteFrame x ce;theTreesLotGoes x)) _ _ s'
 exact wpAny_noted (ĳ h (λ_ _ q=>q) λ_ _ z=>z.elim)
def Qy (hd:gens[d]?=some ⟨target,iter,ifs,0⟩)
 (h0:aaO (ø P w) A (.compLoop (.ListComp el gens sc ps) d it acc env) R s)
 (h:à (ø P w) A (pyIter it) (λkT s'=>aaO (ø P w) A (.compLoop (.ListComp el gens sc ps) d kT acc env) R s') (λ_ _=>False) s) :
  aaO (ø P w) A (.compStart (.ListComp el gens sc ps) d it acc env) R s:=by
 refine abU ?_
 show à _ _ ((compStart (.ListComp el gens sc ps) d it acc env).onRaise (λx=>do noteFrame x env;abg theWindowsPlace)) _ _ s
 refine wpAny_notedAt ?_;have dY:(clausesOf (.ListComp el gens sc ps))[d]?=some ⟨target,iter,ifs,0⟩:=hd;unfold compStart;rw[dY];show à _ _ (ask >>= _) _ _ s;refine À (ū (wpAny_ite ?_));split
 ·first
   |exact À (Â (Â (And.intro rfl h0)))
   |exact Â (And.intro rfl h0)
 ·refine À (ś ?_)
  show à _ _ (abg iter.pos >>= _) _ _ s;exact À (Ŕ (À (ĳ h (λkT s' h'=>Â (And.intro rfl h')) λ_ _ x=>x.elim)))
section
variable {Y:Cx} {D:á} {nt:Nat} {caps:St}
def wW {el tg src:ļ} {gens:List Comprehension} {sc:abf} {ps:Pos} {tests:List ļ} {d:Nat} {wi:TI} {g:TG} {tf:TT} {ta:jV} {act:á->Sem acf} {c:Code} (hx:Y.xe=λ_ _=>False) (hc:Y.calm=true) (hd:gens[d]?=some ⟨tg,src,tests,0⟩)
  (hi:PI Y tg src wi) (hG:PG Y tg g) (fV:lT g nt) (hF:PF Y tests tf) (hA:∀it:á,rV Y D nt caps (.compLoop (.ListComp el gens sc ps) d (.ref it) (.ref D) Y.env) (act it) ta)
  (ht:∀it:á,compTurn (.ListComp el gens sc ps) d (.ref it) (.ref D) Y.env=(do
   abg src.pos
   match <- Ť (.ref it) with
   |none=>pure (.done .next)
   |some v =>
    Ş tg (.ref it) v
    aaR tg Y.env v
    let mut ok:=true
    for c in tests do
     if ok then ok <- isTrue c Y.env (ţ c Y.env)
    if ok then act it else again (.compLoop (.ListComp el gens sc ps) d (.ref it) (.ref D) Y.env)))
  (hs:∀x,ô src Y.env x=pure x) :
  rV Y D nt caps c (do
   let x <- ţ src Y.env
   abg src.pos
   let x <- ô src Y.env x
   let _ <- runOwn (.compStart (.ListComp el gens sc ps) d (<- aac [x] (pyIter x)) (.ref D) Y.env) Y.env
   again c) (J1 wi g tf ta):=by
 intro π o H s acc Q ds B h;obtain⟨oD,ys,nn,ho,eo,rv,I⟩:=ds.obj B;have q:=hi _ s _ H _ I h;rw[hx] at q;refine À (aD q λv s1 h1=>À (Ŕ ?_));rw[hs];refine À (Â (À (ė (aD h1 λi6 s2 h2=>?_))));obtain⟨it,fp,tn,J,H2,e,I2,T,dO,f2,ca⟩:=h2;subst e;have pD:=I2.pin (D,oD) (Æ _ (Æ _ (by simp)));have kR:D∉fp:=λz=>(f2 D z).2.2.2.2.2 (D,oD) (Æ _ (Æ _ (by simp))) rfl;have mM:∀b∈fp,cj Y π H2 b:=λb hb=>by
  obtain⟨a1,a2,a3,a4,a5,a6⟩:=f2 b hb;refine⟨a1,a2,a3,a4,a5,λp hp=>a6 p ?_⟩
  rcases Ù.mp hp with z|z
  ·exact ħ _ z
  ·exact Æ _ (ħ _ z)
 have B2:qg Y D nt caps π o H2 s2 acc:=⟨I2.jd,B.len,⟨ys,⟨nn,by rw[<- eo];exact pD.1⟩,rv⟩,pD.2.1,B.kO⟩;have loop:=zJ (e:=.ListComp el gens sc ps) (d:=d) hx hc T dO mM kR hG fV hF (hA it) ds B2 rfl (λ_ A Q' E' s' h=>A9 A Q' E' s' h) (ht it) ca;refine À (wpAny_runOwn ?_);refine Ů (Qy hd loop (T.self _ _ _ _ _ dO loop)) λr s' hr=>?_;obtain⟨e,q⟩:=hr;subst e;exact Â ⟨rfl,q⟩
end
def xy (wi:TI) (nt:Nat) (cap:List Nat) (g:TG) (tf:TT) (ta:jV):TE:=fun σ H Q=>wi σ H λJ H1=>CA J g tf ta (Ï nt none++mq cap σ) [] H1 λ_ acc H2=>∀D,H2 D=none->Q (.ref D) (upd H2 D (.lst acc))
section
variable {X:Cx}
def G6 {el tg src:ļ} {tests:List ļ} {rest:List Comprehension} {sc:abf} {ps:Pos} {N:List Str} {nt:Nat} {cap:List Nat} {wi:TI} {g:TG} {tf:TT} {ta:jV} {act:Env->á->á->Sem acf} (hc:X.calm=true) (S:oT X sc N nt cap) (fV:lT g nt) (hi:PI X tg src wi)
  (hY:∀(cl:List (Str×á)) (C:á) (s:É) (H:Hp) (ex:List á) (pn:List (á×Obj)),PG (cb X N sc cl C s H ex pn) tg g/\PF (cb X N sc cl C s H ex pn) tests tf/\∀D caps it,rV (cb X N sc cl C s H ex pn) D nt caps (.compLoop (.ListComp el (⟨tg,src,tests,0⟩::rest) sc ps) 0 (.ref it) (.ref D) (compEnvC sc cl C X.env)) (act (compEnvC sc cl C X.env) D it) ta)
  (ht:∀(it D:á) (ce:Env),compTurn (.ListComp el (⟨tg,src,tests,0⟩::rest) sc ps) 0 (.ref it) (.ref D) ce=(do
   abg src.pos
   match <- Ť (.ref it) with
   |none=>pure (.done .next)
   |some v =>
    Ş tg (.ref it) v
    aaR tg ce v
    let mut ok:=true
    for c in tests do
     if ok then ok <- isTrue c ce (ţ c ce)
    if ok then act ce D it else again (.compLoop (.ListComp el (⟨tg,src,tests,0⟩::rest) sc ps) 0 (.ref it) (.ref D) ce)))
  (hs:∀x,ô src X.env x=pure x:=by intro _;rfl):PE X (.ListComp el (⟨tg,src,tests,0⟩::rest) sc ps) (xy wi nt cap g tf ta):=by
 intro π s σ H Q I h;obtain⟨cl,ua,cR⟩:=A2 (env:=X.env) (sc:=sc) λn hn=>I.ok.has n (S.frees _ hn rfl).2;rw[eval_ListComp];refine aaU (use:=none) rfl hs ua S.kind S.names (aD (hi π s σ H _ I h) λxv s1 h1=>aD h1 λi6 s2 h2=>?_);obtain⟨it,fp,tn,J,H2,e,I2,T,dO,f2,ca⟩:=h2;subst e;refine ó (wpAny_newFunctionEnv S.A3 (by intro y hy;simp at hy) (λh3 gK jq=>?_) S.kind);dsimp only at gK jq |-;generalize hD:s2.heap.objs.size=D at gK jq |-;generalize hG:s2.heap.push { cls:=.type "list",dict:=none,data:=.seq ([]:List Í).toArray }=G at gK jq |-;generalize vw:G.objs.size=C at gK jq |-;have hC:C=D+1:=by rw[<- vw,<- hG,ú,hD]
 have kU:D≠C:=by omega
 have dN:s2.heap.objs.size<=D:=ō hD;have dW:s2.heap.objs.size<=C:=by omega
 have old:∀b o,s2.heap.get? b=some o->h3.get? b=some o:=λb o e=>jq.extBut b o (è (Ê (Î e) dW)) (Á _ (hG ▸ Á _ e));have jS:h3.PlainList D #[]:=⟨_,jq.extBut _ _ kU (Á _ (hG ▸ hD ▸ Ì _ rfl))⟩;have gP:∀b∈fp,b<s2.heap.objs.size:=λb hb=>by
  obtain⟨o,e,_⟩:=T.obj _ _ dO b hb;exact Î e
 have IB:=I2.block (t':=s2.toks+([]:List (Str×Í)).length) S cR f2 gP old dW ⟨_,gK⟩;have vz:D∉gO X.stack:=λz=>by
  rcases Ó.mp (I2.kc D z) with e|e
  ·exact absurd (Ê I2.lt dN) (by rw[e];exact é _)
  ·exact I2.pA dN e
 have kR:D∉fp:=λz=>absurd (Ê (gP D z) dN) (é _);have tM:∀x c,cl.lookup x=some c->c≠D:=λx c e z=>by
  obtain⟨v,o,ho,_⟩:=I2.cell x c ((cR x c).mp e).2;exact absurd (Ê (Î ho) (by rw[z];exact dN)) (é _)
 have ue:∀p∈X.pn++π,p.1≠D:=λp hp z=>absurd (Ê (Î (I2.pin p hp).1) (by rw[z];exact dN)) (é _);have fin:∀(s':É) (τ:St) (H':Hp) (acc:List V) (ys:Array Í),Inv (cb X N sc cl C s2 H2 fp (X.pn++π)) [] τ H' s'->s'.heap.PlainList D ys->Vals acc ys.toList->H' D=none->acc.length<=Õ->(∀D,H' D=none->Q (.ref D) (upd H' D (.lst acc))) ->
   compPost (ø X.prog X.w) X.A X.xe none (EP X π σ Q) (.ref D) C (.ok .next) s':=by
  intro s' τ H' acc ys I' pl rv hn hz q;obtain⟨m,hm,_⟩:=id I'.loc;refine⟨m,hm,λh' sb=>?_⟩;have uD:bY X.prog X.w H' h':=I'.aE.but I'.free sb;obtain⟨n,ho⟩:=pl;have cY:h'.get? D=some { cls:=.type "list",data:=.seq ys n }:=(sb.2 D kU).trans ho;have new:cF X.prog X.w (upd H' D (.lst acc)) h' D (.lst acc):=⟨hz,ys.toList,n,rv,by simpa using cY⟩;have u:=(I'.base.but dW sb).adopt (o:=.lst acc) dN hn
  refine⟨.ref D,upd H' D (.lst acc),I2.xJ (s':={ s' with heap:=h' }) (ch:=fp) I'.os u (uD.adopt hn new) I'.bare (λb hb=>?_),rfl,q D hn⟩
  obtain⟨_,f1,_,f3,f4,f5⟩:=f2 b hb;exact⟨f3,f1,f4,f5⟩
 have kS:∀b∈fp,cj (cb X N sc cl C s2 H2 fp (X.pn++π)) [] H2 b:=λb hb=>by
  obtain⟨f0,f1,mM,f3,f4,f5⟩:=f2 b hb;refine⟨f0,è (Ê (gP b hb) dW),λz=>?_,.inl hb,λx c e=>f4 x c ((cR x c).mp e).2,λp qh=>?_⟩
  ·rcases Ó.mp (I2.kc b z) with e|e
   ·exact f1 e
   ·exact mM e
  ·exact f5 p (by simpa using qh)
 obtain⟨vA,vB,DQ⟩:=hY cl C s2 H2 fp (X.pn++π);have loop:=zJ (Y:=cb X N sc cl C s2 H2 fp (X.pn++π)) (D:=D) (nt:=nt) (caps:=mq cap σ) (e:=.ListComp el (⟨tg,src,tests,0⟩::rest) sc ps) (d:=0) (π:=[]) (o:=Ï nt none) (acc:=[]) rfl hc T
  (T.keep _ _ _ dO λb _ o e=>old b o e) kS kR vA fV vB (DQ D _ it) ⟨kU,vz,dN,tM,λp hp=>ue p (by simpa using hp)⟩ ⟨IB,by simp,⟨#[],jS,.nil⟩,I2.aE.fresh dN,Ę _⟩ rfl (λ_ A Q' E' s' h=>A9 A Q' E' s' h) (ht it D _) ca
 have ug:=Ů loop (R':=compPost (ø X.prog X.w) X.A X.xe none (EP X π σ Q) (.ref D) C) λr s' hr=>by
  obtain⟨e,o',H',fv,B',q'⟩:=hr;subst e;obtain⟨ys,pl,rv⟩:=B'.lst;exact fin s' _ H' fv ys B'.inv pl rv B'.free B'.kO q'
 exact abc ug (T.self _ _ _ _ _ (T.keep _ _ _ dO λb _ o e=>old b o e) ug)
def Qz {el tg src:ļ} {tests:List ļ} {rest:List Comprehension} {sc:abf} {ps pos pos':Pos} {N:List Str} {nt:Nat} {cap:List Nat} {wi:TI} {g:TG} {tf:TT} {ta:jV} {act:Env->á->á->Sem acf} {i0:Nat} {x0:Str} (mO:X.N.Nodup) (mP:X.N[i0]?=some x0) (mQ:Loc X.env.scope x0) (hc:X.calm=true) (S:oT X sc N nt cap) (fV:lT g nt) (hi:PI X tg src wi)
  (hY:∀(cl:List (Str×á)) (C:á) (s:É) (H:Hp) (ex:List á) (pn:List (á×Obj)),PG (cb X N sc cl C s H ex pn) tg g/\PF (cb X N sc cl C s H ex pn) tests tf/\∀D caps it,rV (cb X N sc cl C s H ex pn) D nt caps (.compLoop (.ListComp el (⟨tg,src,tests,0⟩::rest) sc ps) 0 (.ref it) (.ref D) (compEnvC sc cl C X.env)) (act (compEnvC sc cl C X.env) D it) ta)
  (ht:∀(it D:á) (ce:Env),compTurn (.ListComp el (⟨tg,src,tests,0⟩::rest) sc ps) 0 (.ref it) (.ref D) ce=(do
   abg src.pos
   match <- Ť (.ref it) with
   |none=>pure (.done .next)
   |some v =>
    Ş tg (.ref it) v
    aaR tg ce v
    let mut ok:=true
    for c in tests do
     if ok then ok <- isTrue c ce (ţ c ce)
    if ok then act ce D it else again (.compLoop (.ListComp el (⟨tg,src,tests,0⟩::rest) sc ps) 0 (.ref it) (.ref D) ce)))
  (hs:∀x,ô src X.env x=pure x:=by intro _;rfl)
  (mR:abv (.ListComp el (⟨tg,src,tests,0⟩::rest) sc ps) (some (.Name x0 pos')) pos.line X.env=pure true:=by rfl)
  (mS:X.fn x0=true\/X.env.scope.names.lookup x0=some .local:=by first|exact .inl rfl|exact .inr rfl|assumption):PS X (.Assign [.Name x0 pos'] (.ListComp el (⟨tg,src,tests,0⟩::rest) sc ps) pos) (pC (xy wi nt cap g tf ta) (km i0)):=by
 intro π s σ H D0 I h;obtain⟨cl,ua,cR⟩:=A2 (env:=X.env) (sc:=sc) λn hn=>I.ok.has n (S.frees _ hn rfl).2;rw[exec_Assign_Name_used _ _ _ _ mR];refine À (Ŕ (À ?_));obtain⟨Q,hQ⟩:∃Q:VK,Q=λv H1=>km i0 v σ H1 D0.nx:=⟨_,rfl⟩;have h:xy wi nt cap g tf ta σ H Q:=by rw[hQ];exact h
 have lV:∀v H1,Q v H1->D0.nx (σ.set i0 (some v)) H1:=λv H1 q=>by rw[hQ] at q;exact q
 unfold evalThenUse
 refine À (ĳ (Q:=λ_ s'=>SP X π D0 .next s') ?_ (λ_ s' q=>Â (Â q)) (λ_ _ z=>z))
 refine aaU (use:=some (aaR (.Name x0 pos') X.env)) rfl hs ua S.kind S.names (aD (hi π s σ H _ I h) λxv s1 h1=>aD h1 λi6 s2 h2=>?_);obtain⟨it,fp,tn,J,H2,e,I2,T,dO,f2,ca⟩:=h2;subst e;refine ó (wpAny_newFunctionEnv S.A3 (by intro y hy;simp at hy) (λh3 gK jq=>?_) S.kind);dsimp only at gK jq |-;generalize hD:s2.heap.objs.size=D at gK jq |-;generalize hG:s2.heap.push { cls:=.type "list",dict:=none,data:=.seq ([]:List Í).toArray }=G at gK jq |-;generalize vw:G.objs.size=C at gK jq |-;have hC:C=D+1:=by rw[<- vw,<- hG,ú,hD]
 have kU:D≠C:=by omega
 have dN:s2.heap.objs.size<=D:=ō hD;have dW:s2.heap.objs.size<=C:=by omega
 have old:∀b o,s2.heap.get? b=some o->h3.get? b=some o:=λb o e=>jq.extBut b o (è (Ê (Î e) dW)) (Á _ (hG ▸ Á _ e));have jS:h3.PlainList D #[]:=⟨_,jq.extBut _ _ kU (Á _ (hG ▸ hD ▸ Ì _ rfl))⟩;have gP:∀b∈fp,b<s2.heap.objs.size:=λb hb=>by
  obtain⟨o,e,_⟩:=T.obj _ _ dO b hb;exact Î e
 have IB:=I2.block (t':=s2.toks+([]:List (Str×Í)).length) S cR f2 gP old dW ⟨_,gK⟩;have vz:D∉gO X.stack:=λz=>by
  rcases Ó.mp (I2.kc D z) with e|e
  ·exact absurd (Ê I2.lt dN) (by rw[e];exact é _)
  ·exact I2.pA dN e
 have kR:D∉fp:=λz=>absurd (Ê (gP D z) dN) (é _);have tM:∀x c,cl.lookup x=some c->c≠D:=λx c e z=>by
  obtain⟨v,o,ho,_⟩:=I2.cell x c ((cR x c).mp e).2;exact absurd (Ê (Î ho) (by rw[z];exact dN)) (é _)
 have ue:∀p∈X.pn++π,p.1≠D:=λp hp z=>absurd (Ê (Î (I2.pin p hp).1) (by rw[z];exact dN)) (é _);have fin:∀(s':É) (τ:St) (H':Hp) (acc:List V) (ys:Array Í),Inv (cb X N sc cl C s2 H2 fp (X.pn++π)) [] τ H' s'->s'.heap.PlainList D ys->Vals acc ys.toList->H' D=none->acc.length<=Õ->(∀D,H' D=none->Q (.ref D) (upd H' D (.lst acc))) ->
   compPost (ø X.prog X.w) X.A X.xe (some (aaR (.Name x0 pos') X.env)) (λ_ s'=>SP X π D0 .next s') (.ref D) C (.ok .next) s':=by
  intro s' τ H' acc ys I' pl rv hn hz q;obtain⟨m,hm,_⟩:=id I'.loc;have uD:bY X.prog X.w H' s'.heap:=I'.aE;obtain⟨n,ho⟩:=pl;have new:cF X.prog X.w (upd H' D (.lst acc)) s'.heap D (.lst acc):=⟨hz,ys.toList,n,rv,by simpa using ho⟩;have u:=(I'.base.but dW (Heap.SameBut.refl _ _)).adopt (o:=.lst acc) dN hn;have IX:Inv X π σ (upd H' D (.lst acc)) s':=I2.xJ (s':=s') (ch:=fp) I'.os u (uD.adopt hn new) I'.bare (λb hb=>by
   obtain⟨_,f1,_,f3,f4,f5⟩:=f2 b hb;exact⟨f3,f1,f4,f5⟩)
  have vC:upd H' D (.lst acc) C=none:=by
   rw[bo (Ň kU)];exact I'.free
  have vD:C≠X.env.locals:=λz=>absurd (Ê I2.lt dW) (by rw[z];exact é _);have DR:C∉X.fs:=I2.pA dW;obtain⟨oC,es,ep,DT,vE,pW⟩:=id hm;have IP:Inv X ((C,oC)::π) σ (upd H' D (.lst acc)) s':=IX.ip λp hp=>by
   rcases Ó.mp hp with e|e
   ·subst e
    exact⟨DT,vC,vD,DR,λv z=>by rw[vE] at z;cases z⟩
   ·exact IX.pin p (Æ _ e)
  show à _ _ (aaR (.Name x0 pos') X.env (.ref D)) _ _ s';refine wpAny_assign_Name (mf IP mO mP mQ (show RelV (.ref D) (.ref D) from rfl) (λs3 I3=>?_) mS);have p3:=(I3.pin (C,oC) (Æ _ (Ò ..))).1;refine⟨m,⟨oC,es,ep,p3,vE,pW⟩,λh' sb=>⟨_,upd H' D (.lst acc),?_,lV _ _ (q D hn)⟩⟩;have I4:Inv X π (σ.set i0 (some (.ref D))) (upd H' D (.lst acc)) s3:=I3.ip λp hp=>I3.pin p (Æ _ (Ñ _ hp));refine I4.turned (it:=C) (t':=s3.toks) (λb o hb e=>(sb.2 b hb).trans e) vC vD (.inr (Û I2.sz dW)) (λx c e z=>?_) (λp hp z=>?_)
  ·obtain⟨v,o,i7,_⟩:=I2.cell x c e
   exact absurd (Ê (Î i7) (by rw[z];exact dW)) (é _)
  ·exact absurd (Ê (Î (I2.pin p hp).1) (by rw[z];exact dW)) (é _)
 have kS:∀b∈fp,cj (cb X N sc cl C s2 H2 fp (X.pn++π)) [] H2 b:=λb hb=>by
  obtain⟨f0,f1,mM,f3,f4,f5⟩:=f2 b hb;refine⟨f0,è (Ê (gP b hb) dW),λz=>?_,.inl hb,λx c e=>f4 x c ((cR x c).mp e).2,λp qh=>?_⟩
  ·rcases Ó.mp (I2.kc b z) with e|e
   ·exact f1 e
   ·exact mM e
  ·exact f5 p (by simpa using qh)
 obtain⟨vA,vB,DQ⟩:=hY cl C s2 H2 fp (X.pn++π);have loop:=zJ (Y:=cb X N sc cl C s2 H2 fp (X.pn++π)) (D:=D) (nt:=nt) (caps:=mq cap σ) (e:=.ListComp el (⟨tg,src,tests,0⟩::rest) sc ps) (d:=0) (π:=[]) (o:=Ï nt none) (acc:=[]) rfl hc T
  (T.keep _ _ _ dO λb _ o e=>old b o e) kS kR vA fV vB (DQ D _ it) ⟨kU,vz,dN,tM,λp hp=>ue p (by simpa using hp)⟩ ⟨IB,by simp,⟨#[],jS,.nil⟩,I2.aE.fresh dN,Ę _⟩ rfl (λ_ A Q' E' s' h=>A9 A Q' E' s' h) (ht it D _) ca
 have ug:=Ů loop (R':=compPost (ø X.prog X.w) X.A X.xe (some (aaR (.Name x0 pos') X.env)) (λ_ s'=>SP X π D0 .next s') (.ref D) C) λr s' hr=>by
  obtain⟨e,o',H',fv,B',q'⟩:=hr;subst e;obtain⟨ys,pl,rv⟩:=B'.lst;exact fin s' _ H' fv ys B'.inv pl rv B'.free B'.kO q'
 exact abc ug (T.self _ _ _ _ _ (T.keep _ _ _ dO λb _ o e=>old b o e) ug)
end
end L2
namespace DI
open PySem L2
def gf:ą "isinstance"=some (.builtin "isinstance"):=by decide +kernel
def J2:ą "int"=some (.type "int"):=by decide +kernel
def xA:ą "bool"=some (.type "bool"):=by decide +kernel
def eR:ą "tuple"=some (.type "tuple"):=by decide +kernel
def tN:ą "list"=some (.type "list"):=by decide +kernel
def VT:ą "set"=some (.type "set"):=by decide +kernel
def nL:ą "all"=some (.builtin "all"):=by decide +kernel
def J3:ą "any"=some (.builtin "any"):=by decide +kernel
def ix:ą "len"=some (.builtin "len"):=by decide +kernel
def Jp:ą "repr"=some (.builtin "repr"):=by decide +kernel
def BH:ą "max"=some (.builtin "max"):=by decide +kernel
def xV:ą "min"=some (.builtin "min"):=by decide +kernel
def G7:ą "sorted"=some (.builtin "sorted"):=by decide +kernel
structure Gd (K:Ĳ) (mg:Str->Option Í) (x:Str) (st:Stmt) (ps:List Str) (f:á) (fd:Ŗ):Prop where
 mg:mg x=some (.ref f)
 fn:p9 K x x st f fd
 b:Binds K fd ps []
def VU {P:ù} {w:ď} {K:Ĳ} {mg:Str->Option Í} {base:ŏ} {k:Nat} {f:á} {fd:Ŗ} {ps:List Str} {g:List D->ag->Res D} (h:∀ds s,g ds s=none):fu P w K mg base gp k f fd ps (l6 K g) :=
 ⟨λvs H Q E h'=>by obtain⟨w,ds,_,_,_,q⟩:=h';rw[h] at q;exact q.elim,λA outer s H args us vs Q E _ _ _ _ h'=>by obtain⟨w,ds,_,_,_,q⟩:=h';rw[h] at q;exact q.elim⟩
def xW (K:Ĳ):Sp:=λvs H Q _=>∃(a:á) (ns:List Int),vs=[.ref a]/\bp K H a (ns.map V.int)/\ns.length<=63/\∀H',Q (.bl true) H'
def Ur (F:fu P w K mg base gp k f fd [x] (l6 K g))
 (h:∀ns:List Int,ns.length<=63->∃s,g [.bC ns] []=some (.ok (.bl true),s)):fu P w K mg base gp k f fd [x] (xW K):=F.imp λvs H Q E ⟨a,ns,e,hS,hl,q⟩=>by
 subst e;obtain⟨s,hs⟩:=h ns hl;have nz:∀b,¬ (⟨[],[],H⟩:Wd).Z b:=λb ⟨k,c,e1,_,_⟩=>by simp at e1
 refine⟨⟨[],[],H⟩,[.bC ns],rfl,⟨rfl,ab5,λk a e=>by simp at e,λk a c e=>by simp at e⟩,ar.one ⟨a,rfl,?_⟩,?_⟩
 ·rcases hS with hS|hS
  ·exact .inl ⟨nz a,hS⟩
  ·exact .inr hS
 ·show Out K bE _ (g [.bC ns] []) _
  rw[hs];intro w' _ _ _ v dv;have e:v=.bl true:=dv;subst e;exact q _
def jW (g:D->Env->Option Env) (t:Env->ag->Res Bool) (act:Env->ag->Res (List D)) (pF:Env):List D->ag->Res (List D)
 | [],s=>ok [] s
 |d::ds,s=>match g d pF with
  |none=>none
  |some env=>ao (ne (t env s)) λb s=>if b=true then ao (ne (act env s)) λxs s=>ao (jW g t act pF ds s) λys s=>ok (xs++ys) s
   else jW g t act pF ds s
def emit (f:Env->ag->Res D):Env->ag->Res (List D):=λenv s=>ao (f env s) λx s=>ok [x] s
def more (it:Env->ag->Res (List D)) (g:D->Env->Option Env) (t:Env->ag->Res Bool) (act:Env->ag->Res (List D)):Env->ag->Res (List D):=λenv s=>ao (it env s) λds s=>jW g t act env ds s
def tO (nt:Nat) (cap:List Nat) (it:Env->ag->Res (List D)) (g:D->Env->Option Env) (t:Env->ag->Res Bool) (act:Env->ag->Res (List D)):Env->ag->Res D:=λenv s =>
 ao (it env s) λds s=>ao (ne (jW g t act (Ï nt none++fQ cap env) ds s)) λxs s=>iT xs (ok (.lst xs) s)
def Sl (g:D->Env->Option Env) (sl:List Nat):Prop:=∀d env env',g d env=some env'->env'.length=env.length/\∀i,i∉sl->env'[i]?=env[i]?
def qO (i:Nat):Sl (gN i) [i]:=λd env env' h=>by
 have e:env.set i (some d)=env':=Option.some.inj h;subst e;refine⟨Ĝ ..,λj hj=>?_⟩;rw[Ø (λz=>hj (by simp[z]))]
def J4:∀(is:List Nat) (ds:List D) (env env':Env),hZ (is.map gN) ds env=some env'->env'.length=env.length/\∀i,i∉is->env'[i]?=env[i]?
 | [],[],env,env',h=>by
  have e:env=env':=Option.some.inj h;rw[e];exact⟨rfl,λ_ _=>rfl⟩
 | [],_::_,_,_,h=>by cases h
 |_::_,[],_,_,h=>by cases h
 |j::is,d::ds,env,env',h=>by
  have h':hZ (is.map gN) ds (env.set j (some d))=some env':=h;obtain⟨h1,h2⟩:=J4 is ds _ env' h';refine⟨by rw[h1,Ĝ],λi hi=>?_⟩;rw[h2 i (λz=>hi (Ñ _ z)),Ø (λz=>hi (by rw[z];exact Ò ..))]
def A0 (is:List Nat):Sl (gT (is.map gN)) is:=λd env env' h=>by
 cases d with
 |tup ds=>exact J4 is ds env env' h
 |_=>cases h
def len_same {g:D->Env->Option Env} {sl:List Nat} {d:D} {env env':Env} (hs:Sl g sl) (hg:g d env=some env'):env'.length=env.length:=(hs d env env' hg).1
def gv (sl:List Nat) (env:Env):Prop:=∀i∈sl,∀d,env[i]?≠some (some d)
def bW.back {K:Ĳ} {w:Wd} {env env':Env} {σ:St} {g:D->Env->Option Env} {sl:List Nat} {d:D} (hs:Sl g sl) (hf:gv sl env) (hg:g d env=some env') (hl:env.length=σ.length) (h:bW K w env' σ):bW K w env σ :=
 ⟨hl,λi x e=>by
  by_cases hi:i∈sl
  ·exact absurd e (hf i hi x)
  ·exact h.val i x (by rw[(hs d env env' hg).2 i hi];exact e)⟩
def uh (K:Ĳ) (Pre:Env->Prop) (ta:jV) (act:Env->ag->Res (List D)):Prop:=∀(w:Wd) (env:Env) (τ:St) (acc:List V) (accD xs:List D) (s':ag) (Q:St->List V->Hp->Prop),Pre env->aK K w->bW K w env τ->ar K w accD acc ->
 act env w.aG=some (.ok xs,s')->acc.length+xs.length<=Õ->(∀w' cT vs,Le K w w'->aK K w'->w'.aG=s'->bW K w' env cT->ar K w' (accD++xs) vs->Q cT vs w'.H)->ta τ w.H acc Q
def qH {α β:Type} {r:Res α} {k:α->ag->Res β} {b:β} {s':ag} (h:ao r k=some (.ok b,s')):∃a s,r=some (.ok a,s)/\k a s=some (.ok b,s'):=by
 match r,h with
 |some (.ok a,s),h=>exact⟨a,s,rfl,h⟩
def AJ {α:Type} {r:Res α} {a:α} {s:ag} (h:ne r=some (.ok a,s)):r=some (.ok a,s):=by
 match r,h with
 |some (.ok b,s2),h=>exact h
def zE {K:Ĳ} {f:Env->ag->Res D}:uh K (λ_=>True) (J0 (tE K bE f)) (emit f):=by
 intro w env τ acc accD xs s' Q _ S eo da h hl hQ;obtain⟨x,s1,h1,h2⟩:=qH h;cases h2;refine⟨by simpa using hl,w,env,rfl,S,eo,?_⟩;rw[h1];intro w' le S' e' v dv;exact hQ w' τ (acc++[v]) le S' e' (eo.le le) (ar.append (le.all da) (ar.one dv))
def Gs {K:Ĳ} {Pre:Env->Prop} {g0:TG} {g:D->Env->Option Env} {nt:Nat} {sl:List Nat} {t:Env->ag->Res Bool} {act:Env->ag->Res (List D)} {ta:jV} {env:Env} {w1:Wd} {J:It} {ds xs accD:List D} {s':ag} {τ:St} {acc:List V} {Q:St->List V->Hp->Prop}
  (T:Tg K g0 g nt) (hs:Sl g sl) (hf:gv sl env) (hp:∀d env',g d env=some env'->Pre env') (hA:uh K Pre ta act) (hJ:oq K w1 J ds) (S1:aK K w1) (eo:bW K w1 env τ) (da:ar K w1 accD acc)
  (h:jW g t act env ds w1.aG=some (.ok xs,s')) (hl:acc.length+xs.length<=Õ) (hQ:∀w' cT vs,Le K w1 w'->aK K w'->w'.aG=s'->bW K w' env cT->ar K w' (accD++xs) vs->Q cT vs w'.H) :
  CA J g0 (tT K bE t) ta τ acc w1.H Q:=by
 refine⟨λi m τ acc H'=>m=ds.length-i/\i<=ds.length/\∃w' accD xs,w'.H=H'/\Le K w1 w'/\aK K w'/\bW K w' env τ/\ar K w' accD acc/\jW g t act env (ds.drop i) w'.aG=some (.ok xs,s')/\acc.length+xs.length<=Õ /\
   (∀w2 cT vs,Le K w' w2->aK K w2->w2.aG=s'->bW K w2 env cT->ar K w2 (accD++xs) vs->Q cT vs w2.H),
  ⟨ds.length,rfl,Ę _,w1,accD,xs,rfl,Le.refl _,S1,eo,da,h,hl,hQ⟩,?_⟩
 rintro i m τ acc H' ⟨rfl,hi,w',accD,xs,rfl,l',S',j4,yX,h',ou,lV⟩;by_cases bA:i<ds.length
 ·right
  obtain⟨fV,hy⟩:=(hJ w' l' S' i).1 _ (Ð bA);rw[aaI bA] at h';simp only[jW] at h'
  cases hg:g ds[i] env with
  |none=>rw[hg] at h';cases h'
  |some jU =>
   rw[hg] at h';obtain⟨b,s2,hb,h2⟩:=qH h';have hb:=AJ hb;refine⟨fV,fun τ acc H2=>∃w' accD xs,w'.H=H2/\Le K w1 w'/\aK K w'/\bW K w' env τ/\ar K w' accD acc/\jW g t act env (ds.drop (i+1)) w'.aG=some (.ok xs,s')/\acc.length+xs.length<=Õ /\
    (∀w2 cT vs,Le K w' w2->aK K w2->w2.aG=s'->bW K w2 env cT->ar K w2 (accD++xs) vs->Q cT vs w2.H),fun qa yv H2 q=>⟨ds.length-(i+1),by omega,rfl,bA,q⟩,λx H3 y=>?_⟩
   obtain⟨w2,rfl,l2,S2,es,dv⟩:=hy x H3 y;refine T.imp _ _ _ _ ⟨w2,env,ds[i],jU,rfl,S2,j4.le l2,dv,hg,fun mG l7=>⟨w2,jU,rfl,S2,l7,?_⟩⟩;have hlen:∀{lS:St},lS.length=mG.length->jU.length=lS.length:=λe=>by rw[l7.len,e]
   have el:env.length=jU.length\/True:=.inr trivial;rw[es,hb];intro w3 l3 S3 e3
   cases b with
   |true =>
    rw[Ú rfl] at h2 |-;obtain⟨ys,s3,yY,h3⟩:=qH h2;have yY:=AJ yY;obtain⟨zs,s4,hz,h4⟩:=qH h3;cases h4;rw[<- e3] at yY;refine hA w3 jU mG acc accD ys s3 _ (hp _ _ hg) S3 (l7.le l3) ((l2.trans l3).all yX) yY (by rw[â] at ou;omega) λw4 τ4 vs l4 S4 e4 Lw KQ=>?_;have lv:=KQ.length;refine⟨w4,accD++ys,zs,rfl,l'.trans (l2.trans (l3.trans l4)),S4,Lw.back hs hf hg ?_,KQ,by rw[e4];exact hz,?_,λw5 DU DW l5 S5 e5 DY CL=>lV w5 DU DW (l2.trans (l3.trans (l4.trans l5))) S5 e5 DY (by rw[<- ķ];exact CL)⟩
    ·rw[<- Lw.len]
     exact(len_same hs hg).symm
    ·rw[â] at ou lv
     have:=yX.length;omega
   |false =>
    rw[æ Ë] at h2 |-;exact⟨w3,accD,xs,rfl,l'.trans (l2.trans l3),S3,(l7.le l3).back hs hf hg (by rw[<- l7.len];exact(len_same hs hg).symm),(l2.trans l3).all yX,by rw[e3];exact h2,ou,λw5 DU DW l5 S5 e5 DY CL=>lV w5 DU DW (l2.trans (l3.trans l5)) S5 e5 DY CL⟩
 ·left
  have e:i=ds.length:=by omega
  subst e;rw[List.drop_length] at h';cases h';exact⟨(hJ w' l' S' _).2 (Nat.le_refl _),lV w' τ acc (Le.refl _) S' rfl j4 (by rw[Ō];exact yX)⟩
def wB {K:Ĳ} {Pre Pre':Env->Prop} {g0:TG} {g:D->Env->Option Env} {nt:Nat} {sl:List Nat} {it:Env->ag->Res (List D)} {t:Env->ag->Res Bool} {act:Env->ag->Res (List D)} {ta:jV} (T:Tg K g0 g nt) (hs:Sl g sl) (hA:uh K Pre ta act)
  (h1:∀env,Pre' env->gv sl env) (h2:∀d env env',Pre' env->g d env=some env'->Pre env'):uh K Pre' (J1 (cZ K bE it) g0 (tT K bE t) ta) (more it g t act):=by
 intro w env τ acc accD xs s' Q hp S eo da h hl hQ;obtain⟨ds,s1,hd,h3⟩:=qH h;refine⟨w,env,rfl,S,eo,?_⟩;rw[hd];intro w1 l1 S1 e1 J hJ;exact Gs T hs (h1 env hp) (λd env' hg=>h2 d env env' hp hg) hA hJ S1 (eo.le l1) (l1.all da) (by rw[e1];exact h3) hl λw' cT vs l' S' e' j4 aq=>hQ w' cT vs (l1.trans l') S' e' j4 aq
def zR (T:Tg K g0 g nt) (hs:Sl g sl) (vF:∀i∈sl,i<nt) (hA:uh K Pre ta act)
 (hp:∀d caps env',g d (Ï nt none++caps)=some env'->Pre env') (σ:St) (H:Hp) (Q:VK) :
  tE K Ξ (tO nt cap it g t act) σ H Q->xy (cZ K Ξ it) nt cap g0 (tT K bE t) ta σ H Q:=by
 rintro ⟨w,env,rfl,S,eo,h⟩;refine⟨w,env,rfl,S,eo,(Out.ao h).mono λw1 ds l1 S1 h1 J hJ=>?_⟩
 cases hr:jW g t act (Ï nt none++fQ cap env) ds w1.aG with
 |none=>rw[hr] at h1;exact h1.elim
 |some r =>
  obtain⟨r,s'⟩:=r;rw[hr] at h1
  cases r with
  |error x=>exact h1.elim
  |ok xs =>
   have h1:Out K Ξ w1 (iT xs (ok (D.lst xs) s')) (λw' d=>∀v,DV K w' d v->Q v w'.H):=h1;obtain⟨hz,h1⟩:=tm h1;have eb:=(eo.le l1).block nt cap (Ï nt none) (by simp);refine Gs T hs (λi hi d e=>?_) (λd env' hg=>hp d _ env' hg) hA hJ S1 eb (accD:=[]) rfl hr (by simpa using hz) λw' cT vs l' S' e' j4 aq p yZ=>?_
   ·rw[ä (by simpa using vF i hi),ĭ,Ú (vF i hi)] at e
    cases e
   ·exact h1 (w'.grow p (.lst vs)) (l'.trans (Fw.grow yZ).le) (S'.grow yZ) e' (.ref p) ⟨p,vs,rfl,⟨(show ¬ w'.Z p from nr S' yZ),dg⟩,(Fw.grow yZ).le.all aq⟩
def gv.of {nt:Nat} {g:D->Env->Option Env} {sl cQ:List Nat} (hs:Sl g sl) (hd:∀i∈cQ,i<nt/\i∉sl) {d:D} {caps env':Env} (hg:g d (Ï nt none++caps)=some env'):gv cQ env':=λi hi x e=>by
 obtain⟨h1,h2⟩:=hd i hi;rw[(hs _ _ _ hg).2 i h2,ä (by simpa using h1),ĭ,Ú h1] at e;cases e
def gv.on (hs:Sl g sl) (hd:∀i∈cQ,i∉sl) (hf:gv cQ env) (hg:g d env=some env'):gv cQ env':=λi hi x e=>by
 rw[(hs _ _ _ hg).2 i (hd i hi)] at e;exact hf i hi x e
section
variable {X:Cx} {Ξ:Wd->bq->Prop} {el tg src gW fJ sy pN:ļ} {tests iR tQ:List ļ} {sc:abf} {ps pos:Pos} {N:List Str} {nt:Nat} {cap:List Nat} {it iE za:Env->ag->Res (List D)} {gd mT DZ:D->Env->Option Env} {g0 sA Lx:TG} {sl cQ vG:List Nat} {ft jy Ly:Env->ag->Res Bool} {f:Env->ag->Res D}
abbrev qY (nt:Nat) (cap:List Nat) (it:Env->ag->Res (List D)) (g:D->Env->Option Env) (t:Env->ag->Res Bool) (iE:Env->ag->Res (List D)) (g2:D->Env->Option Env) (t2:Env->ag->Res Bool) (f:Env->ag->Res D):Env->ag->Res D:=tO nt cap it g t (more iE g2 t2 (emit f))
abbrev Jq (nt:Nat) (cap:List Nat) (it:Env->ag->Res (List D)) (g:D->Env->Option Env) (t:Env->ag->Res Bool) (iE:Env->ag->Res (List D)) (g2:D->Env->Option Env) (t2:Env->ag->Res Bool) (za:Env->ag->Res (List D)) (g3:D->Env->Option Env) (t3:Env->ag->Res Bool) (f:Env->ag->Res D):Env->ag->Res D:=tO nt cap it g t (more iE g2 t2 (more za g3 t3 (emit f)))
noncomputable def apart (nt:Nat) (sl cQ:List Nat):Bool:=cQ.all (λi=>decide (i<nt)&&!sl.contains i)
def m7 (h:apart nt sl cQ=true):∀i∈cQ,i<nt/\i∉sl:=λi hi=>by
 have:=ý.mp h i hi;simp only[Ç,È,ē,List.contains_eq_mem,decide_eq_false_iff_not] at this;exact this
noncomputable abbrev CM (e el:ļ) (d:Nat):PySem.Env->á->á->Sem acf:=λce D it=>(do let _ <- call (.builtin "list.append") [.ref D,<- ţ el ce]:Sem Unit) >>= λ_=>again (.compLoop e d (.ref it) (.ref D) ce)
noncomputable abbrev yA (e src:ļ) (d:Nat):PySem.Env->á->á->Sem acf:=λce D it=>do
 let x <- ţ src ce
 abg src.pos
 let x <- ô src ce x
 let _ <- runOwn (.compStart e (d+1) (<- aac [x] (pyIter x)) (.ref D) ce) ce
 again (.compLoop e d (.ref it) (.ref D) ce)
def Sb (hc:X.calm=true) (S:oT X sc N nt cap) (T:Tg X.K g0 gd nt) (fO:Sl gd sl) (T2:Tg X.K sA mT nt) (bZ:Sl mT cQ) (hi:PI X tg src (cZ X.K Ξ it))
  (hY:∀(cl:List (Str×á)) (C:á) (s:É) (H:Hp) (ex:List á) (pn:List (á×Obj)),PG (cb X N sc cl C s H ex pn) tg g0/\PF (cb X N sc cl C s H ex pn) tests (tT X.K bE ft)/\PI (cb X N sc cl C s H ex pn) gW fJ (cZ X.K bE iE)/\PG (cb X N sc cl C s H ex pn) gW sA/\PF (cb X N sc cl C s H ex pn) iR (tT X.K bE jy)/\PE (cb X N sc cl C s H ex pn) el (tE X.K bE f))
  (lY:apart nt sl cQ=true:=by rfl) (lZ:apart nt [] sl=true:=by rfl)
  (hs:∀x,ô src X.env x=pure x:=by intro _;rfl) (vH:∀ce x,ô fJ ce x=pure x:=by intro _ _;rfl):PE X (.ListComp el [⟨tg,src,tests,0⟩,⟨gW,fJ,iR,0⟩] sc ps) (tE X.K Ξ (qY nt cap it gd ft iE mT jy f)) :=
 cN (G6 (act:=yA (.ListComp el [⟨tg,src,tests,0⟩,⟨gW,fJ,iR,0⟩] sc ps) fJ 0) hc S T.i9 hi (λcl C s H ex pn=>by
   obtain⟨y1,y2,y3,y4,y5,y6⟩:=hY cl C s H ex pn;exact⟨y1,y2,λD caps it=>wW (d:=1) (act:=λkT=>CM (.ListComp el [⟨tg,src,tests,0⟩,⟨gW,fJ,iR,0⟩] sc ps) el 1 _ D kT) rfl hc rfl y3 y4 T2.i9 y5 (λkT=>Ac rfl y6) (λ_=>rfl) (vH _)⟩) (λ_ _ _=>rfl) hs)
  (zR (Pre:=gv cQ) T fO (λi hi=>(m7 lZ i hi).1) (wB T2 bZ zE (λ_ h=>h) (λ_ _ _ _ _=>trivial)) λd caps env' hg=>gv.of fO (m7 lY) hg)
def Sd {pos':Pos} (i0:Nat) {x0:Str} (mO:X.N.Nodup) (hc:X.calm=true) (S:oT X sc N nt cap) (T:Tg X.K g0 gd nt) (fO:Sl gd sl) (T2:Tg X.K sA mT nt) (bZ:Sl mT cQ) (hi:PI X tg src (cZ X.K Ξ it))
  (hY:∀(cl:List (Str×á)) (C:á) (s:É) (H:Hp) (ex:List á) (pn:List (á×Obj)),PG (cb X N sc cl C s H ex pn) tg g0/\PF (cb X N sc cl C s H ex pn) tests (tT X.K bE ft)/\PI (cb X N sc cl C s H ex pn) gW fJ (cZ X.K bE iE)/\PG (cb X N sc cl C s H ex pn) gW sA/\PF (cb X N sc cl C s H ex pn) iR (tT X.K bE jy)/\PE (cb X N sc cl C s H ex pn) el (tE X.K bE f))
  (lY:apart nt sl cQ=true:=by rfl) (lZ:apart nt [] sl=true:=by rfl)
  (mP:X.N[i0]?=some x0:=by rfl) (mQ:Loc X.env.scope x0:=by first|exact ť rfl|exact Or.inr rfl)
  (hs:∀x,ô src X.env x=pure x:=by intro _;rfl) (vH:∀ce x,ô fJ ce x=pure x:=by intro _ _;rfl)
  (mR:abv (.ListComp el [⟨tg,src,tests,0⟩,⟨gW,fJ,iR,0⟩] sc ps) (some (.Name x0 pos')) pos.line X.env=pure true:=by rfl)
  (mS:X.fn x0=true\/X.env.scope.names.lookup x0=some .local:=by first|exact .inl rfl|exact .inr rfl):PS X (.Assign [.Name x0 pos'] (.ListComp el [⟨tg,src,tests,0⟩,⟨gW,fJ,iR,0⟩] sc ps) pos) (tS X.K Ξ (aJ (qY nt cap it gd ft iE mT jy f) (gN i0))) :=
 jg (Qz (act:=yA (.ListComp el [⟨tg,src,tests,0⟩,⟨gW,fJ,iR,0⟩] sc ps) fJ 0) mO mP mQ hc S T.i9 hi (λcl C s H ex pn=>by
   obtain⟨y1,y2,y3,y4,y5,y6⟩:=hY cl C s H ex pn;exact⟨y1,y2,λD caps it=>wW (d:=1) (act:=λkT=>CM (.ListComp el [⟨tg,src,tests,0⟩,⟨gW,fJ,iR,0⟩] sc ps) el 1 _ D kT) rfl hc rfl y3 y4 T2.i9 y5 (λkT=>Ac rfl y6) (λ_=>rfl) (vH _)⟩) (λ_ _ _=>rfl) hs mR mS)
  λD σ H h=>zR (Pre:=gv cQ) T fO (λi hi=>(m7 lZ i hi).1) (wB T2 bZ zE (λ_ h=>h) (λ_ _ _ _ _=>trivial)) (λd caps env' hg=>gv.of fO (m7 lY) hg) σ H _ (wL (te:=tE X.K Ξ f) D σ H (tF D σ H h))
def Se (hc:X.calm=true) (S:oT X sc N nt cap) (T:Tg X.K g0 gd nt) (fO:Sl gd sl) (T2:Tg X.K sA mT nt) (bZ:Sl mT cQ) (T3:Tg X.K Lx DZ nt) (Yg:Sl DZ vG) (hi:PI X tg src (cZ X.K Ξ it))
  (hY:∀(cl:List (Str×á)) (C:á) (s:É) (H:Hp) (ex:List á) (pn:List (á×Obj)),PG (cb X N sc cl C s H ex pn) tg g0/\PF (cb X N sc cl C s H ex pn) tests (tT X.K bE ft)/\PI (cb X N sc cl C s H ex pn) gW fJ (cZ X.K bE iE)/\PG (cb X N sc cl C s H ex pn) gW sA/\PF (cb X N sc cl C s H ex pn) iR (tT X.K bE jy) /\
   PI (cb X N sc cl C s H ex pn) sy pN (cZ X.K bE za)/\PG (cb X N sc cl C s H ex pn) sy Lx/\PF (cb X N sc cl C s H ex pn) tQ (tT X.K bE Ly)/\PE (cb X N sc cl C s H ex pn) el (tE X.K bE f))
  (lY:apart nt sl cQ=true:=by rfl) (D1:apart nt sl vG=true:=by rfl) (Yh:apart nt cQ vG=true:=by rfl) (lZ:apart nt [] sl=true:=by rfl)
  (hs:∀x,ô src X.env x=pure x:=by intro _;rfl) (vH:∀ce x,ô fJ ce x=pure x:=by intro _ _;rfl) (Yi:∀ce x,ô pN ce x=pure x:=by intro _ _;rfl):PE X (.ListComp el [⟨tg,src,tests,0⟩,⟨gW,fJ,iR,0⟩,⟨sy,pN,tQ,0⟩] sc ps) (tE X.K Ξ (Jq nt cap it gd ft iE mT jy za DZ Ly f)) :=
 cN (G6 (act:=yA (.ListComp el [⟨tg,src,tests,0⟩,⟨gW,fJ,iR,0⟩,⟨sy,pN,tQ,0⟩] sc ps) fJ 0) hc S T.i9 hi (λcl C s H ex pn=>by
   obtain⟨y1,y2,y3,y4,y5,y6,y7,y8,y9⟩:=hY cl C s H ex pn;exact⟨y1,y2,λD caps it=>wW (d:=1) (act:=λkT=>yA (.ListComp el [⟨tg,src,tests,0⟩,⟨gW,fJ,iR,0⟩,⟨sy,pN,tQ,0⟩] sc ps) pN 1 _ D kT) rfl hc rfl y3 y4 T2.i9 y5 (λkT=>wW (d:=2) (act:=λiE=>CM (.ListComp el [⟨tg,src,tests,0⟩,⟨gW,fJ,iR,0⟩,⟨sy,pN,tQ,0⟩] sc ps) el 2 _ D iE) rfl hc rfl y6 y7 T3.i9 y8 (λiE=>Ac rfl y9) (λ_=>rfl) (Yi _)) (λ_=>rfl) (vH _)⟩) (λ_ _ _=>rfl) hs)
  (zR (Pre:=λenv=>gv cQ env/\gv vG env) T fO (λi hi=>(m7 lZ i hi).1) (wB T2 bZ (wB (Pre':=gv vG) T3 Yg zE (λ_ h=>h) (λ_ _ _ _ _=>trivial)) (λ_ h=>h.1) (λd env env' h hg=>gv.on bZ (λi hi=>(m7 Yh i hi).2) h.2 hg)) λd caps env' hg=>⟨gv.of fO (m7 lY) hg,gv.of fO (m7 D1) hg⟩)
end
end DI
namespace L2
open PySem PySem.Spec PyProof.Rows
noncomputable abbrev Cx.cx (X:Cx):Cx:={ X with A:=X.A.in1,xe:=λ_ _=>False }
def Inv.cx {X:Cx} {π:List (á×Obj)} {σ:St} {H:Hp} {s:É} (I:Inv X π σ H s):Inv X.cx π σ H s :=
 ⟨⟨I.ok.mod,I.ok.kind,I.ok.glob,I.ok.blt,I.ok.above,I.ok.inj,I.ok.has,I.ok.pU,I.ok.hd,I.ok.frames,I.ok.sf,I.ok.yH,I.ok.bs,I.ok.i4,I.ok.lJ,I.ok.rJ,I.ok.jn,I.ok.n0⟩,I.os,I.bare,I.base,I.loc,I.cell,I.free,I.fc,I.pin,I.aE,I.len⟩
def Inv.CN {X:Cx} {π:List (á×Obj)} {σ:St} {H:Hp} {s:É} (I:Inv X.cx π σ H s):Inv X π σ H s :=
 ⟨⟨I.ok.mod,I.ok.kind,I.ok.glob,I.ok.blt,I.ok.above,I.ok.inj,I.ok.has,I.ok.pU,I.ok.hd,I.ok.frames,I.ok.sf,I.ok.yH,I.ok.bs,I.ok.i4,I.ok.lJ,I.ok.rJ,I.ok.jn,I.ok.n0⟩,I.os,I.bare,I.base,I.loc,I.cell,I.free,I.fc,I.pin,I.aE,I.len⟩
def CO (X:Cx) (kv:Í) (rk:V->Hp->VK->Prop):Prop :=
 ∀(π:List (á×Obj)) (s:É) (σ:St) (H:Hp) (x:V) (v:Í) (Q:VK),Inv X π σ H s->RelV x v->rk x H Q->à (ø X.prog X.w) X.A (call kv [v]) (EP X π σ Q) X.xe s
def vI (K:Ĳ) (l:á) (all:List V) (rk:V->Hp->VK->Prop) (rc:R2):List V->V->V->Hp->VK->Prop
 | [],vb,_,H,Q=>bp K H l all/\Q vb H
 |x::xs,vb,kb,H,Q=>bp K H l all/\rk x H λk H1=>rc k kb H1 λz H2=>∃b,z=.bl b/\if b=true then vI K l all rk rc xs x k H2 Q else vI K l all rk rc xs vb kb H2 Q
def CP (K:Ĳ) (l:á) (all:List V) (rk:V->Hp->VK->Prop) (rc:R2) (dv:V) (H:Hp) (Q:VK):Prop:=bp K H l all/\match all with
 | []=>Q dv H
 |x::xs=>rk x H λk H1=>vI K l all rk rc xs x k H1 Q
abbrev qj:V->Hp->VK->Prop:=λx H Q=>Q x H
def xB (X:Cx) (π:List (á×Obj)) (σ:St) (Q:VK) (r:Result) (s':É):Prop:=match r with
 | .ok (.ret v)=>EP X π σ Q v s'
 | .ok _=>False
 | .error e=>X.xe e s'
def OY {X:Cx} {l I S:á} {q:á} {kw:List (Str×Í)} {all:List V} {π:List (á×Obj)} {σ:St} {rk:V->Hp->VK->Prop} {rc:R2} {Q:VK} (hc:X.calm=true) (kW:l≠I) (iJ:S≠I) (vJ:S≠l) (hK:CO X.cx (.ref q) rk) (hC:aW X.cx (Č .Lt) rc) :
  ∀(rest:List V) (j:Nat) (s:É) (H:Hp) (vb kb:V) (ub uk:Í) (c:Nat),all.drop j=rest->j<=all.length->Inv X.cx π σ H s->cj X π H S->cj X π H I->s.heap.get? S=some { cls:=.type "list",dict:=none,data:=.seq #[ub,uk] c,slots:=#[] }->s.heap.IsListIter I l j->RelV vb ub->RelV kb uk ->
   vI X.K l all rk rc rest vb kb H Q->aaO (ø X.prog X.w) X.A (.builtin "min.loop" ⟨[.ref I,.ref q,.ref S],kw⟩) (xB X π σ Q) s:=by
 have ui:(toString "min"++toString ".loop":String)="min.loop":=by decide
 intro rest
 induction rest with
 |nil =>
  intro j s H vb kb ub uk c hd sC I0 fS fI gS hit rb Yj h;obtain⟨hq,h⟩:=h;have hj:j=all.length:=Nat.le_antisymm sC (by simpa using hd);subst hj;obtain⟨its,rv,pl,hz⟩:=I0.list hq;have hh:X.A.in1.handled=none:=I0.ok.hd hc;have W:=Walks.list (prog:=X.prog) (w:=X.w) (A:=X.A.in1) hh I l kW its.toArray;have hsz:its.toArray.size=all.length:=by rw[Ô];exact rv.length.symm
  refine ī χ ?_;rw[Ė Ħ _];show à _ X.A.in1 (abS (.ref S) >>= _) _ _ _;refine À (Ě gS rfl ?_);show à _ X.A.in1 (tryCatch (Ť (.ref I)) _ >>= _) _ _ _;refine À (ŀ (W.done _ _ _ ⟨by rw[hsz];exact hit,pl.isList⟩ λh' fW dZ=>?_));have kX:=dZ S _ (by simpa using iJ) gS
  have I1:Inv X.cx π σ H { s with heap:=h',toks:=fW }:=I0.turned (it:=I) (λb o hb e=>dZ b o (by simpa using hb) e) fI.1 fI.2.1 fI.2.2.2.1 fI.2.2.2.2.1 fI.2.2.2.2.2
  show à _ X.A.in1 (updateSeq S (λ_=>#[]) >>= _) _ _ _;refine À ?_;refine š kX rfl (À (Ŵ (Â ?_)));have I2:=I1.turned (h':=h'.update S (Ī λ_=>(#[]:Array Í))) (t':=fW) (it:=S) (λb o hb e=>(ÿ _ _ (Ň hb)).trans e) fS.1 fS.2.1 fS.2.2.2.1 fS.2.2.2.2.1 fS.2.2.2.2.2;exact⟨vb,H,I2.CN,rb,h⟩
 |cons x rest ih =>
  intro j s H vb kb ub uk c hd sC I0 fS fI gS hit rb vK h;obtain⟨hq,h⟩:=h;have hx:all[j]?=some x:=by
   have:=Ĺ (λl=>l[0]?) hd;simpa using this
  have dY:all.drop (j+1)=rest:=by
   have:=Ĺ (List.drop 1) hd;simpa [ab7] using this
  obtain⟨its,rv,pl,hz⟩:=I0.list hq;have hh:X.A.in1.handled=none:=I0.ok.hd hc;have W:=Walks.list (prog:=X.prog) (w:=X.w) (A:=X.A.in1) hh I l kW its.toArray;have hsz:its.toArray.size=all.length:=by rw[Ô];exact rv.length.symm
  refine ī χ ?_;rw[Ė Ħ _];show à _ X.A.in1 (abS (.ref S) >>= _) _ _ _;refine À (Ě gS rfl ?_);show à _ X.A.in1 (tryCatch (Ť (.ref I)) _ >>= _) _ _ _;refine À (ŀ (W.item j _ _ _ (by rw[hsz];exact(Å.mp hx).1) ⟨hit,pl.isList⟩ λv h' fW hP pO dZ=>?_));obtain⟨v',lU,rx⟩:=rv.get hx;have ev:v'=v:=by
   have:its.toArray[j]?=some v:=hP;rw[aaq,lU] at this;exact Option.some.inj this
  subst ev;have kX:=dZ S _ (by simpa using iJ) gS
  have I1:Inv X.cx π σ H { s with heap:=h',toks:=fW }:=I0.turned (it:=I) (λb o hb e=>dZ b o (by simpa using hb) e) fI.1 fI.2.1 fI.2.2.2.1 fI.2.2.2.2.1 fI.2.2.2.2.2
  obtain⟨oI,qk,jY,fg⟩:=id pO.1;have nS:∀v,({ cls:=.type "list",dict:=none,data:=.seq #[ub,uk] c,slots:=#[] }:Obj).data≠.cell v:=λv z=>by cases z
  have nI:∀v,oI.data≠.cell v:=λv z=>by rw[fg] at z;cases z
  have I2:=I1.ip (pins':=π++[(S,{ cls:=.type "list",dict:=none,data:=.seq #[ub,uk] c,slots:=#[] }),(I,oI)]) λp hp=>by
   rcases Ù.mp hp with z|z
   ·exact I1.pin p (Æ _ z)
   ·rcases Ó.mp z with rfl|z
    ·exact⟨kX,fS.1,fS.2.1,fS.2.2.1,nS⟩
    ·rw[Ü.mp z]
     exact⟨qk,fI.1,fI.2.1,fI.2.2.1,nI⟩
  show à _ X.A.in1 (tryCatch (aac [v'] (call (.ref q) [v'])) _ >>= _) _ _ _;refine À (ŀ (ė (ĳ (hK _ _ σ H x v' _ I2 rx h) (λuv s2 gr=>?_) λ_ _ z=>z.elim)));obtain⟨k,H2,I3,mU,h⟩:=gr;show à _ X.A.in1 (tryCatch (aac [v',uv] (richCompare .Lt uv uk >>= _)) _ >>= _) _ _ _;refine À (ŀ (ė (À (ĳ (hC _ s2 σ H2 k kb uv uk _ I3 mU vK h) (λz s3 D2=>?_) λ_ _ z=>z.elim))));obtain⟨zv,H3,I4,rz,b,eb,h⟩:=D2;subst eb;cases rz;refine À (ė (Į ?_));refine À (Ŵ (Â ?_));have pS:=I4.pin (S,{ cls:=.type "list",dict:=none,data:=.seq #[ub,uk] c,slots:=#[] }) (Æ _ (Æ _ (by simp)));have pI:=I4.pin (I,oI) (Æ _ (Æ _ (by simp)));have I5:Inv X.cx π σ H3 s3:=I4.jd;have cU:cj X π H3 S:=⟨pS.2.1,fS.2⟩;have mV:cj X π H3 I:=⟨pI.2.1,fI.2⟩
  cases b with
  |true =>
   rw[Ú rfl] at h;rw[Ú rfl];refine À ?_;refine š pS.1 rfl (À (Ŵ ?_));rw[ui];obtain⟨c2,ig⟩:∃c2,(s3.heap.update S (Ī λ_=>#[v',uv])).get? S=some { cls:=.type "list",dict:=none,data:=.seq #[v',uv] c2,slots:=#[] }:=⟨_,ă _ pS.1 rfl⟩
   have I6:Inv X.cx π σ H3 { s3 with heap:=s3.heap.update S (Ī λ_=>#[v',uv]),toks:=s3.toks }:=I5.turned (t':=s3.toks) (it:=S) (λb o hb e=>(ÿ _ _ (Ň hb)).trans e) cU.1 cU.2.1 cU.2.2.2.1 cU.2.2.2.2.1 cU.2.2.2.2.2
   exact Â ⟨Ł Ħ _,ih (j+1) _ H3 x k v' uv c2 dY (Å.mp hx).1 I6 cU mV ig ⟨oI,(ÿ _ _ iJ).trans pI.1,jY,fg⟩ rx mU h⟩
  |false =>
   rw[æ Ë] at h;rw[æ Ë];refine À (Ŵ ?_);rw[ui];exact Â ⟨Ł Ħ _,ih (j+1) _ H3 vb kb ub uk c dY (Å.mp hx).1 I5 cU mV pS.1 ⟨oI,pI.1,jY,fg⟩ rb vK h⟩
def Np (a v d:Í):argsOk "min" ⟨[a],[(ì "key",v),(ì "default",d)]⟩:=by unfold argsOk;kernel_rfl
def OZ {X:Cx} {l:á} {q:á} {all:List V} {π:List (á×Obj)} {σ:St} {H:Hp} {s:É} {rk:V->Hp->VK->Prop} {rc:R2} {dv:V} {du:Í} {Q:VK} (hc:X.calm=true) (hK:CO X.cx (.ref q) rk) (hC:aW X.cx (Č .Lt) rc)
  (I0:Inv X π σ H s) (rd:RelV dv du) (h:CP X.K l all rk rc dv H Q):à (ø X.prog X.w) X.A (call (.builtin "min") [.ref l] [(ì "key",.ref q),(ì "default",du)]) (EP X π σ Q) X.xe s:=by
 have ui:(toString "min"++toString ".loop":String)="min.loop":=by decide
 obtain⟨hq,h⟩:=h;obtain⟨its,rv,pl,hz⟩:=I0.list hq;have vL:l<s.heap.objs.size:=by obtain⟨o,n,ho,_⟩:=pl;exact Î ho
 have hh:X.A.in1.handled=none:=I0.cx.ok.hd hc;refine kmk_tree PySem.F.kind_min PySem.F.plain_min PySem.F.entry_min (Np _ _ _) ?_;show à _ X.A.in1 (Ţ "min" ["key","default"] 0 ⟨[],[(ì "key",.ref q),(ì "default",du)]⟩ >>= _) _ _ s;refine À (Š (show Ţ "min" ["key","default"] 0 ⟨[],[(ì "key",.ref q),(ì "default",du)]⟩=pure [some (.ref q),some du] from rfl) ?_);refine À (Â ?_);refine À (ŷ pl.isList ?_);refine À (abK ?_ (Ę _));rw[ui];generalize hI:s.heap.objs.size=I at *;have hS:(s.heap.push { cls:=.type "list_iterator",data:=.fields #[.ref l,.int 0 0] }).objs.size=I+1:=by rw[<- hI];exact ú ..
 generalize D3:(s.heap.push { cls:=.type "list_iterator",data:=.fields #[.ref l,.int 0 0] }).objs.size=S at *;have kW:l≠I:=è vL;have iJ:S≠I:=by rw[hS];exact Nat.succ_ne_self _
 have vJ:S≠l:=by rw[hS];exact Ń (Ģ vL)
 have kk:∀b o,s.heap.get? b=some o->((s.heap.push { cls:=.type "list_iterator",data:=.fields #[.ref l,.int 0 0] }).push { cls:=.type "list",dict:=none,data:=.seq #[] 0,slots:=#[] }).get? b=some o:=λb o e=>Á _ (Á _ e);have gI:((s.heap.push { cls:=.type "list_iterator",data:=.fields #[.ref l,.int 0 0] }).push { cls:=.type "list",dict:=none,data:=.seq #[] 0,slots:=#[] }).get? I=some { cls:=.type "list_iterator",data:=.fields #[.ref l,.int 0 0] }:=Á _ (hI ▸ Ì _ rfl);have gS:((s.heap.push { cls:=.type "list_iterator",data:=.fields #[.ref l,.int 0 0] }).push { cls:=.type "list",dict:=none,data:=.seq #[] 0,slots:=#[] }).get? S=some { cls:=.type "list",dict:=none,data:=.seq #[] 0,slots:=#[] }:=D3 ▸ Ì _ rfl;have nI:H I=none:=I0.aE.fresh (ō hI);have nS:H S=none:=I0.aE.fresh (by rw[hS];exact Û (ō hI) (ŵ _));have fI:cj X π H I:=I0.lL (ō hI) nI;have fS:cj X π H S:=I0.lL (by rw[hS];exact Û (ō hI) (ŵ _)) nS;have I1:=I0.cx.kept (t':=s.toks) kk;refine Â ⟨Ł Ħ _,?_⟩;show aaO (ø X.prog X.w) X.A (.builtin "min.loop" ⟨[.ref I,.ref q,.ref S],[(ì "default",du)]⟩) (xB X π σ Q) _;have W:=Walks.list (prog:=X.prog) (w:=X.w) (A:=X.A.in1) hh I l kW its.toArray;have hsz:its.toArray.size=all.length:=by rw[Ô];exact rv.length.symm
 have hit:Heap.IsListIter ((s.heap.push { cls:=.type "list_iterator",data:=.fields #[.ref l,.int 0 0] }).push { cls:=.type "list",dict:=none,data:=.seq #[] 0,slots:=#[] }) I l 0:=⟨_,gI,rfl,rfl⟩;have zb:Heap.IsList ((s.heap.push { cls:=.type "list_iterator",data:=.fields #[.ref l,.int 0 0] }).push { cls:=.type "list",dict:=none,data:=.seq #[] 0,slots:=#[] }) l its.toArray:=pl.isList.at λo e=>kk l o e;refine ī χ ?_;rw[Ė Ħ _];show à _ X.A.in1 (abS (.ref S) >>= _) _ _ _;refine À (Ě gS rfl ?_);show à _ X.A.in1 (tryCatch (Ť (.ref I)) _ >>= _) _ _ _
 cases all with
 |nil =>
  refine À (ŀ (W.done _ _ _ ⟨by rw[hsz];exact hit,zb⟩ λh' fW dZ=>?_));have I2:=I1.turned (h':=h') (t':=fW) (it:=I) (λb o hb e=>dZ b o (by simpa using hb) e) fI.1 fI.2.1 fI.2.2.2.1 fI.2.2.2.2.1 fI.2.2.2.2.2;refine À (ś (Â ?_));exact⟨dv,H,I2.CN,rd,h⟩
 |cons x rest =>
  refine À (ŀ (W.item 0 _ _ _ (by rw[hsz];simp) ⟨hit,zb⟩ λv h' fW hP pO dZ=>?_));obtain⟨v',lU,rx⟩:=rv.get (i:=0) (x:=x) rfl;have ev:v'=v:=by
   have:its.toArray[0]?=some v:=hP;rw[aaq,lU] at this;exact Option.some.inj this
  subst ev;have kX:=dZ S _ (by simpa using iJ) gS;have I2:=I1.turned (h':=h') (t':=fW) (it:=I) (λb o hb e=>dZ b o (by simpa using hb) e) fI.1 fI.2.1 fI.2.2.2.1 fI.2.2.2.2.1 fI.2.2.2.2.2;obtain⟨oI,qk,jY,fg⟩:=id pO.1;have cS:∀v,({ cls:=.type "list",dict:=none,data:=.seq #[] 0,slots:=#[] }:Obj).data≠.cell v:=λv z=>by cases z
  have cI:∀v,oI.data≠.cell v:=λv z=>by rw[fg] at z;cases z
  have I3:=I2.ip (pins':=π++[(S,{ cls:=.type "list",dict:=none,data:=.seq #[] 0,slots:=#[] }),(I,oI)]) λp hp=>by
   rcases Ù.mp hp with z|z
   ·exact I2.pin p (Æ _ z)
   ·rcases Ó.mp z with rfl|z
    ·exact⟨kX,fS.1,fS.2.1,fS.2.2.1,cS⟩
    ·rw[Ü.mp z]
     exact⟨qk,fI.1,fI.2.1,fI.2.2.1,cI⟩
  show à _ X.A.in1 (tryCatch (aac [v'] (call (.ref q) [v'])) _ >>= _) _ _ _;refine À (ŀ (ė (ĳ (hK _ _ σ H x v' _ I3 rx h) (λuv s2 gr=>?_) λ_ _ z=>z.elim)));obtain⟨k,H2,I4,mU,h⟩:=gr;have pS:=I4.pin (S,{ cls:=.type "list",dict:=none,data:=.seq #[] 0,slots:=#[] }) (Æ _ (Æ _ (by simp)));have pI:=I4.pin (I,oI) (Æ _ (Æ _ (by simp)));have I5:Inv X.cx π σ H2 s2:=I4.jd;have cU:cj X π H2 S:=⟨pS.2.1,fS.2⟩;have mV:cj X π H2 I:=⟨pI.2.1,fI.2⟩;show à _ X.A.in1 (updateSeq S (λ_=>#[v',uv]) >>= _) _ _ _;refine À ?_;refine š pS.1 rfl ?_;rw[ui];obtain⟨c2,ig⟩:∃c2,(s2.heap.update S (Ī λ_=>#[v',uv])).get? S=some { cls:=.type "list",dict:=none,data:=.seq #[v',uv] c2,slots:=#[] }:=⟨_,ă _ pS.1 rfl⟩
  have I6:Inv X.cx π σ H2 { s2 with heap:=s2.heap.update S (Ī λ_=>#[v',uv]),toks:=s2.toks }:=I5.turned (t':=s2.toks) (it:=S) (λb o hb e=>(ÿ _ _ (Ň hb)).trans e) cU.1 cU.2.1 cU.2.2.2.1 cU.2.2.2.2.1 cU.2.2.2.2.2
  exact Â ⟨Ł Ħ _,OY hc kW iJ vJ hK hC rest 1 _ H2 x k v' uv c2 rfl (by simp) I6 cU mV ig ⟨oI,(ÿ _ _ iJ).trans pI.1,jY,fg⟩ rx mU h⟩
def N0 (a:Í):argsOk "max" ⟨[a],[]⟩:=by unfold argsOk;kernel_rfl
def N1 (a:Í):argsOk "min" ⟨[a],[]⟩:=by unfold argsOk;kernel_rfl
end L2
namespace HT
open PySem PyProof.Rows
def CQ (A:đ) (s:É) (y x:Í) (b:Bool):Prop:=∀(prog:ù) (w:ď) (E:Í->É->Prop) (Q:Í->É->Prop),Q (.bool b) s->à (ø prog w) A (richCompare .Lt y x) Q E s
inductive ji (A:đ) (s:É):List Í->List Í->Bool->Prop where
 |nn:ji A s [] [] false
 |nc (y:Í) (ys:List Í):ji A s [] (y::ys) true
 |cn (x:Í) (xs:List Í):ji A s (x::xs) [] false
 |eq {x y:Í} {xs ys:List Í} {b:Bool}:SeqAt.EqAt A s x y true->ji A s xs ys b->ji A s (x::xs) (y::ys) b
 |lt {x y:Í} {xs ys:List Í} {b:Bool}:SeqAt.EqAt A s x y false->CQ A s x y b->ji A s (x::xs) (y::ys) b
section
open PySem.SeqAt
open PySem.AutoSeq1 (wpAny_loadPart')
open PySem.MeetsSeq PySem.MeetsSeq2 PySem.MeetsSeq3
def N2 (l b:á) (items nA:Array Í) (n n2:Nat) (dd oh:Option á) (sl cQ:Array (Option Í)) (mW:Bool) :
  Meets (ň.«tuple.__lt__» ⟨[.ref l,.ref b],[]⟩)
   (λA R s=>s.heap.get? l=some { cls:=.type "tuple",dict:=dd,data:=.seq items n,slots:=sl }/\s.heap.get? b=some { cls:=.type "tuple",dict:=oh,data:=.seq nA n2,slots:=cQ } /\
    ji A.in1 s items.toList nA.toList mW/\R (.ok (.ret (.bool mW))) s) :=
 .of_wp λprog w A R s h=>by
  obtain⟨hp,g,d,tk,os⟩:=s;obtain⟨hl,hb,hA,h⟩:=h;have f2:=AutoSeq1.sub_tuple_tuple
  wp_walk using wpAny_loadPart' hl,wpAny_loadPart' hb,wpAny_forIn_list _ (λrest b s'=>b.1=none/\s'=⟨hp,g,d,tk,os⟩/\∃(vs ws:List Í),rest=vs.zip ws /\
   ji A.in1 ⟨hp,g,d,tk,os⟩ vs ws mW/\vs.length+nA.size=ws.length+items.size) _
  case turn =>
   rintro ⟨y,x⟩ rest b s' ⟨gR,rfl,vs,ws,hz,ha,hlen⟩
   cases ha with
   |nn=>cases hz
   |nc _ _=>cases hz
   |cn _ _=>cases hz
   |eq he hr =>
    rw[ı] at hz
    injection hz with ql J5
    injection ql with hy hx
    subst hy hx;simp only[å] at hlen;refine À (he prog w _ _ ?_)
    wp_walk
    exact⟨rfl,rfl,_,_,J5,hr,by omega⟩
   |lt he hr =>
    rw[ı] at hz
    injection hz with ql J5
    injection ql with hy hx
    subst hy hx;refine À (he prog w _ _ ?_);have Yk:=hr prog w
    wp_walk using Yk
    exact⟨_,rfl,by simpa using h⟩
  case fin =>
   rintro ⟨b1,b2⟩ s' ⟨gR,rfl,vs,ws,hz,ha,hlen⟩;simp only at gR;subst gR;have hv:mW=decide (items.size<nA.size):=by
    cases ha with
    |nn=>simp only[î] at hlen;exact(ñ (by omega)).symm
    |nc _ _=>simp only[î,å] at hlen;exact(Ý (by omega)).symm
    |cn _ _=>simp only[î,å] at hlen;exact(ñ (by omega)).symm
    |eq _ _=>rw[ı] at hz;cases hz
    |lt _ _=>rw[ı] at hz;cases hz
   rw[hv] at h
   wp_walk
   exact⟨_,rfl,by simpa [Builtin.Tuple.tupleCompareSizes] using h⟩
  case h =>
   exact⟨rfl,rfl,items.toList,nA.toList,rfl,hA,by simp only[þ];omega⟩
end
open PySem.SeqAt PySem.MeetsSeq
section
variable {prog:ù} {w:ď} {A:đ} {E:Í->É->Prop} {s:É}
def HX (hl:IsTup s.heap l items) (hb:IsTup s.heap b nA) (hA:∀A':đ,A'.units<=A.units+4->ji A' s items.toList nA.toList mW)
 (hu:A.units<abP) (h:Q (.bool mW) s):à (ø prog w) A (richCompare .Lt (.ref l) (.ref b)) Q E s:=by
 obtain⟨⟨cls,dd,data,sl⟩,ho,hc,n,hd⟩:=id hl;obtain⟨⟨KD,oh,data2,cQ⟩,i7,ig,n2,hd2⟩:=id hb;simp only at hc hd ig hd2;subst hc hd ig hd2;refine richCompare_meets_room (op:=.Lt) ⟨_,ho,rfl⟩ ⟨_,i7,rfl⟩ PySem.F.slot_tuple_lt PySem.F.entry_tuple_lt (PySem.F.args_tuple_lt_2 _ _) (N2 l b items nA n n2 dd oh sl cQ mW)
  ⟨ho,i7,hA _ ?_,show Value.bool mW≠Value.notImplemented/\Q (.bool mW) s from ⟨(λx=>nomatch x),h⟩⟩ hu
 show A.units+1<=A.units+4;omega
end
end HT
namespace DI
open PySem L2 HT
mutual
noncomputable def ij:D->D->Option Bool
 | .int i,.int j=>some (decide (i<j))
 | .str x,.str y=>some (decide (x.cps.toList<y.cps.toList))
 | .tup xs,.tup ys=>fK xs ys
 |_,_=>none
noncomputable def fK:List D->List D->Option Bool
 | [],[]=>some false
 | [],_::_=>some true
 |_::_,[]=>some false
 |x::xs,y::ys=>if beq x y=true then fK xs ys else ij x y
end
section
variable {X:Cx} {Ξ:Wd->bq->Prop} {π:List (á×Obj)} {σ:St} {s:É} {w:Wd}
def VW (I:Inv X π σ w.H s) (A:đ) (lx:lay x=true) (ly:lay y=true) (hu:A.units+dep x<abP) (hx:DV X.K w x v) (hy:DV X.K w y u) (rx:RelV v vx) (ry:RelV u vy):SeqAt.EqAt A s vx vy (beq x y):=by
 obtain⟨as,r1⟩:=(hx.py (oF _ lx)).reads I rx;obtain⟨bs,r2⟩:=(hy.py (oF _ ly)).reads I ry;obtain⟨p1,p2⟩:=kh _ lx;obtain⟨q1,q2⟩:=kh _ ly;have:=SeqAt.eqAt_reads _ _ A s vx vy as bs r1 r2 p1 q1 (by rw[p2];omega);rw[qX _ _ lx ly] at this;exact this
mutual
def J6 (I:Inv X π σ w.H s):∀(A:đ) (x y:D) (b:Bool) (v u:V) (vx vy:Í),ij x y=some b->lay x=true->lay y=true->A.units+5*dep x+5<abP->DV X.K w x v->DV X.K w y u->RelV v vx->RelV u vy->CQ A s vx vy b
 |A,.int i,.int j,b,v,u,vx,vy,h,_,_,_,hx,hy,rx,ry=>by
  cases h;cases hx;cases hy;obtain⟨t,rfl⟩:=rx;obtain⟨t',rfl⟩:=ry;intro prog w E Q q;exact GU A s i t j t' prog w E Q q
 |A,.str i,.str j,b,v,u,vx,vy,h,_,_,hu,hx,hy,rx,ry=>by
  cases h;cases hx;cases hy;obtain⟨t,rfl⟩:=rx;obtain⟨t',rfl⟩:=ry;intro prog w E Q q;exact(PyProof.Rows.lt_str q:à (ø prog w) A (Č .Lt (.str i t) (.str j t')) Q E s)
 |A,.tup xs,.tup ys,b,v,u,vx,vy,h,lx,ly,hu,hx,hy,rx,ry=>by
  simp only[ij] at h;simp only[DV] at hx hy;obtain⟨a,as,rfl,ha,jA⟩:=hx;obtain⟨c,cs,rfl,hc,Yl⟩:=hy;cases rx;cases ry;obtain⟨its,r1,p1,_⟩:=I.tuple ha;obtain⟨pG,r2,p2,_⟩:=I.tuple hc;intro prog w' E Q q;simp only[dep] at hu;exact HX p1 p2 (λA' hA'=>by
   have:=Jr I A' xs ys b as cs its pG h (by simpa [lay] using lx) (by simpa [lay] using ly) (by omega) jA Yl r1 r2;simpa using this) (by omega) q
 |_,.au,_,_,_,_,_,_,h,_,_,_,_,_,_,_=>by cases h
 |_,.bl _,_,_,_,_,_,_,h,_,_,_,_,_,_,_=>by cases h
 |_,.lst _,_,_,_,_,_,_,h,_,_,_,_,_,_,_=>by cases h
 |_,.aZ _,_,_,_,_,_,_,h,_,_,_,_,_,_,_=>by cases h
 |_,.aj _,_,_,_,_,_,_,h,_,_,_,_,_,_,_=>by cases h
 |_,.ty _,_,_,_,_,_,_,h,_,_,_,_,_,_,_=>by cases h
 |_,.bC _,_,_,_,_,_,_,h,_,_,_,_,_,_,_=>by cases h
 |_,.int _,.au,_,_,_,_,_,h,_,_,_,_,_,_,_=>by cases h
 |_,.int _,.bl _,_,_,_,_,_,h,_,_,_,_,_,_,_=>by cases h
 |_,.int _,.str _,_,_,_,_,_,h,_,_,_,_,_,_,_=>by cases h
 |_,.int _,.tup _,_,_,_,_,_,h,_,_,_,_,_,_,_=>by cases h
 |_,.int _,.lst _,_,_,_,_,_,h,_,_,_,_,_,_,_=>by cases h
 |_,.int _,.aZ _,_,_,_,_,_,h,_,_,_,_,_,_,_=>by cases h
 |_,.int _,.aj _,_,_,_,_,_,h,_,_,_,_,_,_,_=>by cases h
 |_,.int _,.ty _,_,_,_,_,_,h,_,_,_,_,_,_,_=>by cases h
 |_,.int _,.bC _,_,_,_,_,_,h,_,_,_,_,_,_,_=>by cases h
 |_,.str _,.au,_,_,_,_,_,h,_,_,_,_,_,_,_=>by cases h
 |_,.str _,.bl _,_,_,_,_,_,h,_,_,_,_,_,_,_=>by cases h
 |_,.str _,.int _,_,_,_,_,_,h,_,_,_,_,_,_,_=>by cases h
 |_,.str _,.tup _,_,_,_,_,_,h,_,_,_,_,_,_,_=>by cases h
 |_,.str _,.lst _,_,_,_,_,_,h,_,_,_,_,_,_,_=>by cases h
 |_,.str _,.aZ _,_,_,_,_,_,h,_,_,_,_,_,_,_=>by cases h
 |_,.str _,.aj _,_,_,_,_,_,h,_,_,_,_,_,_,_=>by cases h
 |_,.str _,.ty _,_,_,_,_,_,h,_,_,_,_,_,_,_=>by cases h
 |_,.str _,.bC _,_,_,_,_,_,h,_,_,_,_,_,_,_=>by cases h
 |_,.tup _,.au,_,_,_,_,_,h,_,_,_,_,_,_,_=>by cases h
 |_,.tup _,.bl _,_,_,_,_,_,h,_,_,_,_,_,_,_=>by cases h
 |_,.tup _,.int _,_,_,_,_,_,h,_,_,_,_,_,_,_=>by cases h
 |_,.tup _,.str _,_,_,_,_,_,h,_,_,_,_,_,_,_=>by cases h
 |_,.tup _,.lst _,_,_,_,_,_,h,_,_,_,_,_,_,_=>by cases h
 |_,.tup _,.aZ _,_,_,_,_,_,h,_,_,_,_,_,_,_=>by cases h
 |_,.tup _,.aj _,_,_,_,_,_,h,_,_,_,_,_,_,_=>by cases h
 |_,.tup _,.ty _,_,_,_,_,_,h,_,_,_,_,_,_,_=>by cases h
 |_,.tup _,.bC _,_,_,_,_,_,h,_,_,_,_,_,_,_=>by cases h
def Jr (I:Inv X π σ w.H s):∀(A:đ) (xs ys:List D) (b:Bool) (vs us:List V) (ps qs:List Í),fK xs ys=some b->cD xs=true->cD ys=true->A.units+5*cz xs+5<abP->ar X.K w xs vs->ar X.K w ys us->Vals vs ps->Vals us qs->ji A s ps qs b
 |A,[],[],b,vs,us,ps,qs,h,_,_,_,hx,hy,rx,ry=>by
  cases h;cases hx;cases hy;cases rx;cases ry;exact .nn
 |A,[],y::ys,b,vs,us,ps,qs,h,_,_,_,hx,hy,rx,ry=>by
  cases h;cases hx;cases rx;obtain⟨u,r,rfl,_,_⟩:=hy;cases ry;exact .nc _ _
 |A,x::xs,[],b,vs,us,ps,qs,h,_,_,_,hx,hy,rx,ry=>by
  cases h;cases hy;cases ry;obtain⟨u,r,rfl,_,_⟩:=hx;cases rx;exact .cn _ _
 |A,x::xs,y::ys,b,vs,us,ps,qs,h,lx,ly,hu,hx,hy,rx,ry=>by
  obtain⟨v,r,rfl,dx,dr⟩:=hx;obtain⟨u,r',rfl,dy,Ym⟩:=hy;simp only[cD,Ç] at lx ly;simp only[cz] at hu;have m1:=Nat.le_max_left (dep x) (cz xs);have m2:=abE (dep x) (cz xs)
  cases rx with
  |cons rx Yn =>
   cases ry with
   |cons ry Yo =>
    have he:=VW I A lx.1 ly.1 (by omega) dx dy rx ry;simp only[fK] at h;split at h
    ·rename_i hb
     rw[hb] at he;exact .eq he (Jr I A xs ys b _ _ _ _ h lx.2 ly.2 (by omega) dr Ym Yn Yo)
    ·rename_i hb
     rw[aaM] at hb;rw[hb] at he;exact .lt he (J6 I A x y b _ _ _ _ h lx.1 ly.1 (by omega) dx dy rx ry)
end
def fR (x y:D) (s:ag):Res D:=if (lay x&&lay y&&decide (dep x<=30))=true then bx ((ij x y).map D.bl) s else none
def nR (hr:bT k X.A):aW X (Č .Lt) (rO X.K Ξ fR):=by
 rintro π s σ H x y v u Q I rx ry ⟨w,dx,dy,rfl,S,hx,hy,h⟩;unfold fR at h;split at h
 ·rename_i hl
  simp only[Ç,È] at hl;obtain⟨d,e,h⟩:=fm h
  cases hb:ij dx dy with
  |none=>rw[hb] at e;cases e
  |some b =>
   rw[hb] at e;cases e;exact J6 I X.A dx dy b x y v u hb hl.1.1 hl.1.2 (by have:=hr.un;have:=hl.2;have:abP=9900:=rfl;omega) hx hy rx ry _ _ _ _ ⟨.bl b,w.H,I,rfl,aH S h _ rfl⟩
 ·exact h.elim
end
end DI
namespace DI
open PySem L2
def pP (kf:D->ag->Res D) (o:D->D->ag->Res D):D->D->List D->ag->Res D
 |b,_,[],s=>ok b s
 |b,k,d::ds,s=>ao (ne (kf d s)) λk' s=>ao (ne (o k' k s)) λc s=>match c with
  | .bl true=>pP kf o d k' ds s
  | .bl false=>pP kf o b k ds s
  |_=>none
def BK (kf:D->ag->Res D) (o:D->D->ag->Res D) (dflt:Option D):List D->ag->Res D
 | [],s=>match dflt with
  |some d=>ok d s
  |none=>none
 |d::ds,s=>ao (ne (kf d s)) λk s=>pP kf o d k ds s
def rK (K:Ĳ) (kf:D->ag->Res D):V->Hp->VK->Prop:=λx H Q=>∃w dx,w.H=H/\aK K w/\DV K w dx x/\Out K bE w (kf dx w.aG) λw' d=>∀v,DV K w' d v->Q v w'.H
def Ba:∀{ds:List D} {vs:List V} {w:Wd} {b k:D} {vb vk:V},aK K w->LstAt w l all->ar K w ds vs->DV K w b vb->DV K w k vk ->
  Out K Ξ w (pP kf o b k ds w.aG) (λw' d=>∀v,DV K w' d v->Q v w'.H)->vI K l all (rK K kf) (rO K bE o) vs vb vk w.H Q
 | [],vs,w,b,k,vb,vk,S,hl,hd,hb,hk,h=>by
  have e:vs=[]:=hd;subst e;exact⟨hl.sq,aH S h _ hb⟩
 |d::ds,vs,w,b,k,vb,vk,S,hl,hd,hb,hk,h=>by
  obtain⟨v,r,rfl,dv,dr⟩:=hd;refine⟨hl.sq,w,d,rfl,S,dv,(Out.ao h).ne.mono λw1 k' l1 S1 h1 vk' Lz=>⟨w1,k',k,rfl,S1,Lz,l1 _ _ hk,(Out.ao h1).ne.mono λw2 c l2 S2 h2 vc dc=>?_⟩⟩;have qm:=l1.trans l2
  cases c with
  |bl c =>
   have e:vc=.bl c:=dc;refine⟨c,e,?_⟩
   cases c with
   |true =>
    rw[Ú rfl];exact Ba (Ξ:=Ξ) S2 (qm.lst _ _ hl) (qm.all dr) (qm _ _ dv) (l2 _ _ Lz) h2
   |false =>
    rw[æ Ë];exact Ba (Ξ:=Ξ) S2 (qm.lst _ _ hl) (qm.all dr) (qm _ _ hb) (qm _ _ hk) h2
  |_=>exact h2.elim
def Sf (S:aK K w) (hl:DV K w (.lst ds) v) (hd:∀d,dflt=some d->∀w',DV K w' d dv)
 (h:Out K Ξ w (BK kf o dflt ds w.aG) (λw' d=>∀v,DV K w' d v->Q v w'.H)):∃l all,v=.ref l/\(all=[]->dflt≠none)/\CP K l all (rK K kf) (rO K bE o) dv w.H Q:=by
 simp only[DV] at hl;obtain⟨l,all,rfl,ha,aq⟩:=hl;refine⟨l,all,rfl,λe z=>?_,ha.sq,?_⟩
 ·subst e z
  have hn:ds.length=0:=aq.length
  cases ds with
  |nil=>exact h
  |cons _ _=>cases hn
 ·cases ds with
  |nil =>
   have e:all=[]:=aq;subst e
   cases dflt with
   |none=>exact h.elim
   |some d=>exact aH S h _ (hd d rfl w)
  |cons d ds =>
   obtain⟨x,r,rfl,dx,dr⟩:=aq;exact⟨w,d,rfl,S,dx,(Out.ao h).ne.mono λw1 k l1 S1 h1 vk dk=>Ba (Ξ:=Ξ) S1 (l1.lst _ _ ha) (l1.all dr) (l1 _ _ dx) dk h1⟩
def Us {X:Cx} {kn:Nat} {fA:á} {fd:Ŗ} {p:Str} {fn:List D->ag->Res D} (F:fu X.prog X.w X.K X.mg X.base gp kn fA fd [p] (l6 X.K fn)) (hr:bT (kn+1) X.A) (hb:Binds X.K fd [p] []):CO X.cx (.ref fA) (rK X.K λd s=>fn [d] s):=by
 rintro π s σ H x v Q I rx ⟨w,dx,rfl,S,hx,h⟩;exact IV (X:=X.cx) (us:=[v]) (vs:=[x]) F hr.in1 hb .nil JQ I (.cons rx .nil) ⟨w,[dx],rfl,S,ar.one hx,h⟩
def Bb (kf:D->ag->Res D) (o:D->D->ag->Res D) (dflt:Option D) (d:D) (s:ag):Res D:=match d with
 | .lst ds=>BK kf o dflt ds s
 |_=>none
abbrev xX (fn:List D->ag->Res D):D->ag->Res D:=Bb (λd s=>fn [d] s) fR (some .au)
def Sg (S:aK K w) (hl:DV K w d v) (hd:∀d,dflt=some d->∀w',DV K w' d dv)
 (h:Out K Ξ w (Bb kf o dflt d w.aG) (λw' d=>∀v,DV K w' d v->Q v w'.H)):∃l all,v=.ref l/\(all=[]->dflt≠none)/\CP K l all (rK K kf) (rO K bE o) dv w.H Q:=by
 unfold Bb at h;split at h
 ·exact Sf S hl hd h
 ·exact h.elim
section
variable {X:Cx} {Ξ:Wd->bq->Prop} {e:ļ} {p pos LA LB yo KR:Pos} {f:Env->ag->Res D}
def Sh {j:Nat} {kn:Nat} (F:fu X.prog X.w X.K X.mg X.base gp kn fA fd [pn] (l6 X.K fn)) (hr:bT (kn+1) X.A) (hk:X.mg kx=some (.ref fA)) (hb:Binds X.K fd [pn] []) (he:PE X e (tE X.K Ξ f)) (hc:X.calm=true) (hg:Gl X "min") (hm:X.mg "min"=none) (Yp:Gl X kx)
 (hs:Þ [e] X.env=(false,ţ e X.env)::Þ [] X.env:=by rfl) (Yq:(kx==("__debug__":Str))=false:=by decide)
 (Yr:aab pos (Þ [e] X.env)=(false,ţ e X.env)::aab pos (Þ [] X.env):=by rfl) (cM:(aab pos (Þ [e] X.env)).any (·.1)=false:=by rfl) :
  PE X (.Call (.Name "min" p) [e] [⟨some "key",.Name kx yo,LA⟩,⟨some "default",.Constant .none j KR,LB⟩] pos) (tE X.K Ξ (e1 (xX fn) f)):=by
 rintro π s σ H Q I ⟨w,env,rfl,S,eo,h⟩;refine aaY (lE I hg hm xV ?_);have ha:=lA he (nq (X:=X)) hs;have Ys:PK X [⟨some "key",.Name kx yo,LA⟩,⟨some "default",.Constant .none j KR,LB⟩] (xM (tC (.ref fA)) (xM (tC .au) Cq)):=HE (HB Yp hk rfl Yq) (HE IL TR);refine PyProof.Rows.callWith_kw (aD (ha pos π s σ w.H (λvs H1=>∃v,vs=[v]/\∃(w1:Wd) (d:D),w1.H=H1/\aK X.K w1/\DV X.K w1 d v/\Out X.K Ξ w1 (xX fn d w1.aG) (λw' d=>∀v,DV X.K w' d v->Q v w'.H)) I ⟨w,env,rfl,S,eo,(Out.ao h).mono λw1 d l1 S1 h1 v dv=>⟨v,rfl,w1,d,rfl,S1,dv,h1⟩⟩) λus s1 ⟨vs,H1,I1,r1,q1⟩=>?_) Yr cM;refine aD (Ys pos π s1 σ H1 (λzs H2=>zs=[.ref fA,.au]/\H2=H1) I1 ⟨rfl,rfl⟩) λws s2 ⟨zs,H2,I2,r2,q2⟩=>?_;obtain⟨e1,e2⟩:=q2;subst e1 e2;obtain⟨v,rfl,w1,d,rfl,S1,dv,h1⟩:=q1;obtain⟨l,all,rfl,_,vM⟩:=Sg (dv:=.au) S1 dv (λd e w'=>by cases e;rfl) h1;obtain⟨u,rfl,ru⟩:=vals1 r1;obtain⟨z1,z2,rfl,Yt,Yu⟩:=vals2 r2;cases ru;cases Yt;cases Yu;exact OZ (dv:=.au) hc (Us F hr hb) (nR (X:=X.cx) (hr.in1)) I2 rfl vM
end
def sT:List D->ag->Res D:=aS 2 2 (ay (cc (aF (e2 fR (aa 1) (eB bK (ae (aa 0) ah)))) (aL (e2 ak (aa 0) (aa 1))) bX) (aL (eC (.int 0))))
def wX:List D->ag->Res D:=aS 2 3 (ay (aJ (ax sT (ae (aa 0) (ae (aa 1) ah))) (gN 2)) (aL (eNew (ae (eB rF (ae (eC (.int 0)) (ae (e2 rq (aa 2) (e2 rA (eC (.int 10)) (eC (.int 18)))) ah))) (ae (e2 mv (aa 2) (eC (.int 2147483647))) ah)))))
def bG:List D->ag->Res D:=aS 2 4 (ay (cc (aF (e2 rR (e2 ak (aa 0) (eC (.int 0))) (eC (.int 0)))) (ay (aJ (e2 mv (e2 ak (aa 0) (eC (.int 0))) (aa 1)) (gN 2)) (ay (ie (e2 t6 (e2 ak (aa 0) (eC (.int 0))) (aa 1)) (aa 0) (eC (.int 0))) (aL (aa 2)))) bX) (ay (ie (e2 mv (e2 bO (e2 hV (e2 ak (aa 0) (eC (.int 1))) (eC (.int 48271))) (eC (.int 29))) (eC (.int 2147483647))) (aa 0) (eC (.int 1))) (ay (aJ (e2 mv (e2 bO (e2 bO (e2 hV (e2 ak (aa 0) (eC (.int 1))) (e2 ak (aa 0) (eC (.int 1)))) (e2 hV (eC (.int 39373)) (e2 ak (aa 0) (eC (.int 1))))) (eC (.int 7))) (eC (.int 2147483629))) (gN 3)) (ay (aJ (e2 mv (e2 bO (e2 hV (aa 3) (aa 3)) (e2 hV (eC (.int 16807)) (aa 3))) (eC (.int 2147483587))) (gN 3)) (aL (e2 mv (e2 t6 (aa 3) (eC (.int 8))) (aa 1)))))))
def tw:List D->ag->Res D:=aS 2 3 (ay (aJ (e2 bO (eC (.int 1)) (ax bG (ae (aa 0) (ae (eC (.int 4)) ah)))) (gN 2)) (aL (eB cC (ae (aU 1 [0,2] (bP (ae (aa 1) ah)) (gN 0) (aF (e2 aT (ax bG (ae (aa 1) (ae (e2 bO (aa 2) (eC (.int 1))) ah))) (eC (.int 0)))) (aa 0)) ah))))
def xg:Nat->List D->ag->Res D
 |0=>λ_ _=>none
 |n+1=>aS 2 2 (ay (cc (cK (e1 KP (aa 1))) (ay (cc (fM (aF (e2 gj (eB ck (ae (aa 0) (ae (eC (.ty "tuple")) ah))) (eB ck (ae (aa 1) (ae (eC (.ty "tuple")) ah))))) (aF (e2 gj (eB ck (ae (aa 0) (ae (eC (.ty "list")) ah))) (eB ck (ae (aa 1) (ae (eC (.ty "list")) ah)))))) (aL (eC (.bl false))) bX) (aL (cH (e2 aT (eB bK (ae (aa 0) ah)) (eB bK (ae (aa 1) ah))) (eB kG (ae (aU 2 [] (kE (ae (aa 0) (ae (aa 1) ah))) (gT [gN 0,gN 1]) bQ (ax (xg n) (ae (aa 0) (ae (aa 1) ah)))) ah))))) bX) (aL (cH (e2 aT (eB ck (ae (aa 0) (ae (eC (.ty "bool")) ah))) (eB ck (ae (aa 1) (ae (eC (.ty "bool")) ah)))) (e2 aT (aa 0) (aa 1)))))
def oB:List D->ag->Res D:=aS 1 1 (aL (eB kG (ae (aU 2 [] (kE (ae (aa 0) (ae (iI (aa 0) (iz (eC (.int 1))) iH) ah))) (gT [gN 0,gN 1]) bQ (e2 fR (aa 0) (aa 1))) ah)))
def sQ:List D->ag->Res D:=aS 1 1 (aL (cH (eB ck (ae (aa 0) (ae (eC (.ty "int")) ah))) (cH (pJ (eB ck (ae (aa 0) (ae (eC (.ty "bool")) ah)))) (e2 yx (aa 0) (eC (.int 0))))))
def lu:List D->ag->Res D:=aS 2 2 (aL (cH (ax sQ (ae (aa 0) ah)) (e2 fR (aa 0) (aa 1))))
def sY:List D->ag->Res D:=aS 1 1 (aL (ax lu (ae (aa 0) (ae (eC (.int (8))) ah))))
def sR:List D->ag->Res D:=aS 1 1 (aL (cH (eB ck (ae (aa 0) (ae (eC (.ty "tuple")) ah))) (cH (eB kG (ae (aU 1 [] (bj (aa 0)) (gN 0) bQ (ax sY (ae (aa 0) ah))) ah)) (ax oB (ae (aa 0) ah)))))
end DI
namespace ST
open PySem PySem.W PyProof.Rows
structure Ord (α:Type) where
 lt:α->α->Bool
 D4:∀a,lt a a=false
 tr:∀a b c,lt a b=true->lt b c=true->lt a c=true
 vN:∀a b,lt a b=false->lt b a=false->a=b
section
variable {α:Type} (O:Ord α)
def Ord.le (a b:α):Prop:=O.lt b a=false
variable {O}
def Ord.le_refl (a:α):O.le a a:=O.D4 a
def Ord.le_of_lt (h:O.lt a b=true):O.le a b:=by
 unfold Ord.le
 cases hb:O.lt b a with
 |false=>rfl
 |true=>have:=O.tr _ _ _ h hb;rw[O.D4] at this;cases this
def Ord.rG (h:O.le a b) (g:O.le b c):O.le a c:=by
 unfold Ord.le at *
 cases hc:O.lt c a with
 |false=>rfl
 |true =>
  cases hb:O.lt a b with
  |true=>have:=O.tr _ _ _ hc hb;rw[g] at this;cases this
  |false =>
   have e:=O.vN a b hb h;subst e;rw[g] at hc;cases hc
def Ord.J7 (h:O.le a b) (g:O.le b a):a=b:=O.vN _ _ g h
end
def ok {β:Type} (c:Nat->Nat->Bool) (n:Nat):KasT β->(β->Prop)->Prop
 | .ret a,Q=>Q a
 | .ask i j k,Q=>i<n/\j<n/\ok c n (k (c i j)) Q
def ka {β:Type} {c:Nat->Nat->Bool} {n:Nat} {Q R:β->Prop}:∀{t:KasT β},ok c n t Q->(∀a,Q a->R a)->ok c n t R
 | .ret a,h,i=>i a h
 | .ask _ _ k,h,i=>⟨h.1,h.2.1,ka (t:=k _) h.2.2 i⟩
def qP {β γ:Type} {c:Nat->Nat->Bool} {n:Nat} {f:β->KasT γ} {Q:γ->Prop}:∀{t:KasT β},ok c n t (λa=>ok c n (f a) Q)->ok c n (t.bind f) Q
 | .ret _,h=>h
 | .ask _ _ k,h=>⟨h.1,h.2.1,qP (t:=k _) h.2.2⟩
def J8 {β:Type} {c:Nat->Nat->Bool} {n:Nat} {cmp:Nat->Nat->(Bool->É->Prop)->É->Prop} (hc:∀i j C,i<n->j<n->C (c i j) s->cmp i j C s) {Q:β->É->Prop}:∀{t:KasT β},ok c n t (λa=>Q a s)->t.kasWp cmp Q s
 | .ret _,h=>h
 | .ask _ _ k,h=>hc _ _ _ h.1 h.2.1 (J8 hc (t:=k _) h.2.2)
section
variable {α:Type} {O:Ord α} {x:Nat->α} {n:Nat}
noncomputable def ky (x:Nat->α) (p:Array Nat) (i:Nat):α:=x (p.getD i 0)
def Pm (n:Nat) (p:Array Nat):Prop:=p.size=n/\p.toList.Perm (ß n)
def Up (O:Ord α) (f:Nat->α) (k:Nat):Prop:=∀i j,i<j->j<k->O.le (f i) (f j)
def Dn (O:Ord α) (f:Nat->α) (k:Nat):Prop:=∀i j,i<j->j<k->O.le (f j) (f i)
def Up.more (h:Up O f k) (hk:1<=k) (h1:O.le (f (k-1)) (f k)):Up O f (k+1):=λi j ff hj=>by
 by_cases e:j=k
 ·subst e
  by_cases e':i=j-1
  ·subst e';exact h1
  ·exact Ord.rG (h i (j-1) (by omega) (by omega)) h1
 ·exact h i j ff (by omega)
def Dn.more (h:Dn O f k) (hk:1<=k) (h1:O.le (f k) (f (k-1))):Dn O f (k+1):=λi j ff hj=>by
 by_cases e:j=k
 ·subst e
  by_cases e':i=j-1
  ·subst e';exact h1
  ·exact Ord.rG h1 (h i (j-1) (by omega) (by omega))
 ·exact h i j ff (by omega)
def Pm.lt (h:Pm n p) (hi:i<n):p.getD i 0<n:=by
 have hs:i<p.size:=by rw[h.1];exact hi
 have:p[i]∈p.toList:=by simp
 have e:p.getD i 0=p[i]:=by simp[aca,hs]
 rw[e];exact Ā.mp (h.2.mem_iff.mp this)
def Pm.rev (h:Pm n p) (i j:Nat):Pm n (kas_rev p i j):=⟨by rw[kas_rev_size];exact h.1,(Array.perm_iff_toList_perm.mp (mirror_perm p i j _)).trans h.2⟩
def Pm.Yv (h:Pm n p) (i j:Nat):Pm n (bubble p i j):=⟨by rw[bubble_size];exact h.1,(Array.perm_iff_toList_perm.mp (bubble_perm p i j)).trans h.2⟩
def tG {p q:Array Nat} {i j:Nat} (h:p[i]?=q[j]?):p.getD i 0=q.getD j 0:=by
 rw[Array.getD_eq_getD_getElem?,Array.getD_eq_getD_getElem?,h]
def Bc {p:Array Nat} {i j:Nat} (hj:j<=p.size) (k:Nat):ky x (kas_rev p i j) k=if i<=k/\k<j then ky x p (i+j-1-k) else ky x p k:=by
 have e:=getElem?_mirror_all (i:=i) hj k;unfold ky kas_rev
 split<;>rename_i h
 ·rw[Ú h] at e;rw[tG e]
 ·rw[æ h] at e;rw[tG e]
def Js {p:Array Nat} {k d:Nat} (hk:k<p.size) (hd:d<=k) (i:Nat):ky x (bubble p k d) i=if i=k-d then ky x p k else if k-d<i/\i<=k then ky x p (i-1) else ky x p i:=by
 have e:=getElem?_bubble hk d hd i;by_cases h:i=k-d
 ·rw[Ú h] at e |-;exact Ĺ x (tG e)
 ·rw[æ h] at e |-
  by_cases h2:k-d<i/\i<=k
  ·rw[Ú h2] at e |-;exact Ĺ x (tG e)
  ·rw[æ h2] at e |-;exact Ĺ x (tG e)
def HY (hj:j<=p.size) (he:∀k,i<=k->k<j->ky x p k=ky x p (j-1)):ky x (kas_rev p i j)=ky x p:=funext λk=>by
 rw[Bc hj];split
 ·rw[he _ (by omega) (by omega),he k (by omega) (by omega)]
 ·rfl
noncomputable abbrev asks (O:Ord α) (x:Nat->α) (i j:Nat):Bool:=O.lt (x i) (x j)
def Bd {p:Array Nat} (hp:Pm n p):∀(f m:Nat),1<=m->m+f<=n->Up O (ky x p) m->ok (asks O x) n (kas_asc p f m) λr=>m<=r/\r<=m+f/\Up O (ky x p) r/\(r<m+f->O.lt (ky x p r) (ky x p (r-1))=true)
 |0,m,h1,h2,hu=>⟨Nat.le_refl _,Nat.le_refl _,hu,λz=>absurd z (é _)⟩
 |f+1,m,h1,h2,hu=>by
  refine⟨hp.lt (by omega),hp.lt (by omega),?_⟩
  show ok _ _ (if O.lt (ky x p m) (ky x p (m-1))=true then _ else _) _
  cases hc:O.lt (ky x p m) (ky x p (m-1)) with
  |true =>
   rw[Ú rfl];exact⟨Nat.le_refl _,by omega,hu,λ_=>hc⟩
  |false =>
   rw[æ Ë];refine ka (Bd hp f (m+1) (by omega) (by omega) (hu.more h1 hc)) λr hr=>⟨by omega,by omega,hr.2.2.1,λz=>hr.2.2.2 (by omega)⟩
structure DS (O:Ord α) (x:Nat->α) (n:Nat) (p:Array Nat) (m q:Nat):Prop where
 pm:Pm n p
 q1:q+1<=m
 mn:m<=n
 dn:Dn O (ky x p) m
 bl:∀k,m-(q+1)<=k->k<m->ky x p k=ky x p (m-1)
def DS.turn (D:DS O x n p m q):Pm n (kas_rev p (m-(q+1)) m)/\ky x (kas_rev p (m-(q+1)) m)=ky x p :=
 ⟨D.pm.rev _ _,HY (by rw[D.pm.1];exact D.mn) D.bl⟩
def xh:∀(f:Nat) (p:Array Nat) (m q:Nat),m+f<=n->DS O x n p m q->ok (asks O x) n (kas_desc f p m q) λr=>m<=r.2.1/\DS O x n r.1 r.2.1 r.2.2
 |0,p,m,q,_,D=>⟨Nat.le_refl _,D⟩
 |f+1,p,m,q,hm,D=>by
  have q1:=D.q1;refine⟨D.pm.lt (by omega),D.pm.lt (by omega),?_⟩
  show ok _ _ (if O.lt (ky x p m) (ky x p (m-1))=true then _ else _) _
  cases hc:O.lt (ky x p m) (ky x p (m-1)) with
  |true =>
   rw[Ú rfl];have one:∀p',Pm n p'->ky x p'=ky x p->DS O x n p' (m+1) 0:=λp' h1 h2=>⟨h1,by omega,by omega,by rw[h2];exact D.dn.more (by omega) (Ord.le_of_lt hc),λk k1 k2=>by rw[show k=m+1-1 by omega]⟩;by_cases hq:q > 0
   ·rw[Ú hq]
    exact ka (xh f _ (m+1) 0 (by omega) (one _ D.turn.1 D.turn.2)) λr hr=>⟨by omega,hr.2⟩
   ·rw[æ hq]
    exact ka (xh f _ (m+1) 0 (by omega) (one _ D.pm rfl)) λr hr=>⟨by omega,hr.2⟩
  |false =>
   rw[æ Ë];refine⟨D.pm.lt (by omega),D.pm.lt (by omega),?_⟩
   show ok _ _ (if O.lt (ky x p (m-1)) (ky x p m)=true then _ else _) _
   cases hd:O.lt (ky x p (m-1)) (ky x p m) with
   |true =>
    rw[Ú rfl];exact⟨Nat.le_refl _,D⟩
   |false =>
    rw[æ Ë];have e:ky x p m=ky x p (m-1):=O.vN _ _ hc hd;refine ka (xh f p (m+1) (q+1) (by omega) ⟨D.pm,by omega,by omega,D.dn.more (by omega) (by rw[e];exact Ord.le_refl _),λk k1 k2=>?_⟩) λr hr=>⟨by omega,hr.2⟩;show _=ky x p m;by_cases hk:k=m
    ·rw[hk]
    ·rw[D.bl k (by omega) (by omega),e]
def H0 {p:Array Nat} {m:Nat} (hp:Pm n p) (h1:1<=m) (hm:m<=n) (hd:Dn O (ky x p) m):ok (asks O x) n (kas_tail3 m n p) λr=>1<=r.1/\r.1<=n/\Pm n r.2/\Up O (ky x r.2) r.1:=by
 refine qP ?_;have hu:Up O (ky x (kas_rev p 0 m)) m:=λi j ff hj=>by
  rw[Bc (by rw[hp.1];exact hm),Bc (by rw[hp.1];exact hm),Ú ⟨by omega,by omega⟩,Ú ⟨by omega,hj⟩];exact hd _ _ (by omega) (by omega)
 exact ka (Bd (hp.rev 0 m) (n-m) m h1 (by omega) hu) λr hr=>⟨by show 1<=r;omega,by show r<=n;omega,hp.rev 0 m,hr.2.2.1⟩
def FI {p:Array Nat} {m:Nat} (hp:Pm n p) (h1:1<=m) (hm:m+1<=n) (hd:Dn O (ky x p) (m+1)):ok (asks O x) n (kas_descPart m n p) λr=>1<=r.1/\r.1<=n/\Pm n r.2/\Up O (ky x r.2) r.1:=by
 refine qP (ka (xh (n-(m+1)) p (m+1) 0 (by omega) ⟨hp,by omega,hm,hd,λk k1 k2=>by rw[show k=m+1-1 by omega]⟩) λr hr=>?_);obtain⟨h2,D⟩:=hr;split
 ·exact H0 D.turn.1 (by have:=D.q1;omega) D.mn (by rw[D.turn.2];exact D.dn)
 ·exact H0 D.pm (by have:=D.q1;omega) D.mn D.dn
def QA {p:Array Nat} (hp:Pm n p) (hn:1<=n):ok (asks O x) n (kas_count n p) λr=>1<=r.1/\r.1<=n/\Pm n r.2/\Up O (ky x r.2) r.1:=by
 refine qP (ka (Bd hp (n-1) 1 (Nat.le_refl _) (by omega) λi j ff hj=>by omega) λm hm=>?_);obtain⟨h1,h2,h3,h4⟩:=hm;split
 ·rename_i e
  rw[beq_iff_eq] at e;exact⟨h1,by omega,hp,h3⟩
 ·rename_i e
  have fy:m≠n:=λz=>e (by rw[z];exact Ġ n);have hs:=h4 (by omega);split
  ·refine⟨hp.lt (by omega),hp.lt (by omega),?_⟩
   show ok _ _ (if O.lt (ky x p 0) (ky x p (m-1))=true then _ else _) _
   cases hc:O.lt (ky x p 0) (ky x p (m-1)) with
   |true =>
    rw[Ú rfl];exact⟨h1,by omega,hp,h3⟩
   |false =>
    rw[æ Ë];have cu:∀k,0<=k->k<m->ky x p k=ky x p (m-1):=λk _ hk=>by
     have a1:O.le (ky x p k) (ky x p (m-1)):=by
      by_cases e:k=m-1
      ·rw[e];exact Ord.le_refl _
      ·exact h3 k (m-1) (by omega) (by omega)
     have a2:O.le (ky x p (m-1)) (ky x p k):=by
      by_cases e:k=0
      ·rw[e];exact hc
      ·exact Ord.rG hc (h3 0 k (by omega) hk)
     exact Ord.J7 a1 a2
    have hk:=HY (x:=x) (p:=p) (i:=0) (j:=m) (by rw[hp.1];omega) cu;refine FI (hp.rev 0 m) h1 (by omega) ?_;rw[hk];refine Dn.more (λi j ff hj=>?_) h1 (Ord.le_of_lt hs);rw[cu i (by omega) (by omega),cu j (by omega) hj];exact Ord.le_refl _
  ·refine FI hp h1 (by omega) (Dn.more (λi j ff hj=>by omega) h1 (Ord.le_of_lt hs))
def Ad (hp:Pm n p) (hk:k<n) (hu:Up O (ky x p) k):∀(f l r:Nat),r-l<=f->l<=r->r<=k->(∀i,i<l->O.le (ky x p i) (ky x p k))->(∀i,r<=i->i<k->O.le (ky x p k) (ky x p i)) ->
  ok (asks O x) n (kas_place p k f l r) λm=>m<=k/\(∀i,i<m->O.le (ky x p i) (ky x p k))/\(∀i,m<=i->i<k->O.le (ky x p k) (ky x p i))
 |0,l,r,hf,hl,hr,a,b=>⟨by omega,a,λi hi=>b i (by omega)⟩
 |f+1,l,r,hf,hl,hr,a,b=>by
  unfold kas_place;by_cases h:l ≥ r
  ·rw[Ú h]
   exact⟨by omega,a,λi hi=>b i (by omega)⟩
  ·rw[æ h]
   refine⟨hp.lt hk,hp.lt (by omega),?_⟩
   show ok _ _ (if O.lt (ky x p k) (ky x p ((l+r) / 2))=true then _ else _) _
   cases hc:O.lt (ky x p k) (ky x p ((l+r) / 2)) with
   |true =>
    rw[Ú rfl];refine Ad hp hk hu f l ((l+r) / 2) (by omega) (by omega) (by omega) a λi hi qd=>?_;by_cases e:i=(l+r) / 2
    ·rw[e];exact Ord.le_of_lt hc
    ·exact Ord.rG (Ord.le_of_lt hc) (hu _ _ (by omega) qd)
   |false =>
    rw[æ Ë];refine Ad hp hk hu f ((l+r) / 2+1) r (by omega) (by omega) hr (λi hi=>?_) b;by_cases e:i=(l+r) / 2
    ·rw[e];exact hc
    ·exact Ord.rG (hu _ _ (by omega) (by omega)) hc
def Jt:∀(f:Nat) (p:Array Nat) (k:Nat),Pm n p->k+f=n->Up O (ky x p) k->ok (asks O x) n (kas_bin f p k) λq=>Pm n q/\Up O (ky x q) n
 |0,p,k,hp,hk,hu=>⟨hp,by rw[<- hk];exact hu⟩
 |f+1,p,k,hp,hk,hu=>by
  refine qP (ka (Ad hp (by omega) hu k 0 k (by omega) (Ę _) (Nat.le_refl _) (λi hi=>by omega) λi h1 h2=>by omega) λm hm=>?_);obtain⟨h1,h2,h3⟩:=hm;refine Jt f _ (k+1) (hp.Yv _ _) (by omega) λi j ff hj=>?_;have hz:k<p.size:=by rw[hp.1];omega
  have ek:k-(k-m)=m:=by omega
  rw[Js hz (by omega),Js hz (by omega),ek];by_cases i1:i=m
  ·rw[Ú i1,æ (by omega),Ú (by omega)]
   exact h3 _ (by omega) (by omega)
  ·rw[æ i1]
   by_cases i2:m<i/\i<=k
   ·rw[Ú i2,æ (by omega),Ú (by omega)]
    exact hu _ _ (by omega) (by omega)
   ·rw[æ i2]
    by_cases j1:j=m
    ·rw[Ú j1];exact h2 _ (by omega)
    ·rw[æ j1]
     by_cases j2:m<j/\j<=k
     ·rw[Ú j2]
      by_cases e:i=j-1
      ·rw[e];exact Ord.le_refl _
      ·exact hu _ _ (by omega) (by omega)
     ·rw[æ j2];exact hu _ _ ff (by omega)
def Si (hn:1<=n):ok (asks O x) n (kas_sort n) λq=>Pm n q/\Up O (ky x q) n:=by
 refine qP (ka (QA (p:=abz (ß n)) ⟨by simp,by simp⟩ hn) λr hr=>?_);obtain⟨h1,h2,h3,h4⟩:=hr;split
 ·rw[Nat.max_eq_left h1]
  exact Jt _ _ _ h3 (by omega) h4
 ·rw[show r.1=n by omega] at h4
  exact⟨h3,h4⟩
end
section
variable {α:Type} {O:Ord α} {x:Nat->α} {prog:ù} {w:ď} {A:đ} {E:Í->É->Prop} {s:É}
def yB (prog:ù) (w:ď) (A:đ) (O:Ord α) (x:Nat->α) (us:List Í) (t:É):Prop :=
 à (ø prog w) A (keyKind' us.toArray) (fun κ t'=>t'=t/\∀i j (C:Bool->É->Prop),i<us.length->j<us.length->C (O.lt (x i) (x j)) t->à (ø prog w) A (keyLt' κ (us.getD i Value.none) (us.getD j Value.none)) C (λ_ _=>False) t) (λ_ _=>False) t
def kO (us:List Í) (h:us.length<2):(us.toArray.zip us.toArray).map (·.2)=((abz (ß us.length)).toList.map λi=>us.getD i Value.none).toArray:=by
 rcases us with _ | ⟨u,_ | ⟨v,r⟩⟩
 ·exact Array.toList_inj.mp (by simp)
 ·exact Array.toList_inj.mp (by simp)
 ·(simp at h;omega)
def MX (hb:s.heap.get? b=some (ab1 "list" us.toArray m)) (hz:us.length<64)
 (hk:2<=us.length->∀h1,(∀c o,c≠b->s.heap.get? c=some o->h1.get? c=some o)->yB prog w A O x us { s with heap:=h1 })
 (hR:∀(q:Array Nat) h' e,Pm us.length q->Up O (ky x q) us.length->(∀c o,c≠b->s.heap.get? c=some o->h'.get? c=some o)->h'.get? b=some (ab1 "list" (q.toList.map λi=>us.getD i Value.none).toArray e)->R (.done (.ret .none)) { s with heap:=h' }) :
  à (ø prog w) A (ň.«list.sort» ⟨[.ref b],[]⟩) R E s:=by
 have bA:b<s.heap.objs.size:=Î hb;have line:us.length<=Õ:=by rw[ζ];omega
 obtain⟨e1,Dr⟩:∃e1,(s.heap.update b (Ī λ_=>(#[]:Array Í))).get? b=some (ab1 "list" #[] e1):=⟨_,get?_update_seq hb λ_=>#[]⟩;generalize hg:((s.heap.update b (Ī λ_=>(#[]:Array Í))).push (ab1 "tuple" us.toArray 0)).push (ab1 "list" #[] 0)=h2;have iK:h2.get? b=some (ab1 "list" #[] e1):=by rw[<- hg];exact Á _ (Á _ Dr)
 have old:∀c o,c≠b->s.heap.get? c=some o->h2.get? c=some o:=λc o hc e=>by
  rw[<- hg];exact Á _ (Á _ (by rw[abX _ _ _ _ hc];exact e))
 have last:∀(q:Array Nat),Pm us.length q->Up O (ky x q) us.length->R (.done (.ret .none)) { s with heap:=h2.update b (Ī λ_=>(q.toList.map λi=>us.getD i Value.none).toArray) }:=λq h1 h3 =>
  hR q _ _ h1 h3 (λc o hc e=>by rw[abX _ _ _ _ hc];exact old c o hc e) (get?_update_seq iK λ_=>(q.toList.map λi=>us.getD i Value.none).toArray)
 rw[list_sort_plain];refine À (listItems_at hb rfl (À (listUpdate_at hb rfl ?_ (by rw[Ô];exact line) (Ę _))));refine À (seqEpoch_at Dr rfl (À (wpAny_newTuple (À (abK (ė ?_) (Ę _))) (by show us.length<=_;exact line))))
 show à (ø prog w) A _ R E { s with heap:=_ }
 rw[hg];dsimp only;by_cases qo:us.toArray.size<2
 ·rw[Ú qo,Ú qo]
  refine À (Â ?_);rw[StateT.run_pure];refine À (Â ?_);dsimp only;have eo:(us.toArray.zip us.toArray).map (·.2)=((abz (ß us.length)).toList.map λi=>us.getD i Value.none).toArray:=by
   exact kO us (by rw[<- Ô];exact qo)
  refine À (seqEpoch_at iK rfl (À (listUpdate_at iK rfl ?_ (Ę _) ?_)))
  ·simp only[ġ,Ã,ê]
   show à _ _ _ _ _ { s with heap:=h2.update b (Ī λ_=>(us.toArray.zip us.toArray).map (·.2)) }
   rw[eo];refine Â (last _ ⟨by simp,by simp⟩ λi j ff hj=>?_);rw[Ô] at qo;omega
  ·show ((us.toArray.zip us.toArray).map (·.2)).size<=Õ+1
   simp;omega
 ·rw[æ qo,æ qo]
  rw[Ô] at qo;refine À (ĳ (hk (by omega) h2 old) (fun κ t ht=>?_) λ_ _ z=>z.elim);obtain⟨rfl,ht⟩:=ht
  have tree:(kas_sort us.length).kasWp (kas_ask prog w A κ us) (λq t=>t={ s with heap:=h2 }/\Pm us.length q/\Up O (ky x q) us.length) { s with heap:=h2 } :=
   J8 (c:=asks O x) (n:=us.length) (λi j C hi hj hC=>ht i j C hi hj hC) (ka (Si (by omega)) λq hq=>⟨rfl,hq⟩)
  refine À (ĳ (kat_run (Q:=λdw t=>∃q:Array Nat,q.size=us.length/\arrOf dw=q.map (kas_item (us.toArray.zip us.toArray))/\failedOf dw=none/\t={ s with heap:=h2 }/\Pm us.length q/\Up O (ky x q) us.length)
   rfl (by omega) hz (λq dw t a1 a2 a3 a4=>⟨q,a1,a2,a3,a4⟩) tree) ?_ λ_ _ z=>z)
  rintro ⟨⟨⟩,dw⟩ t ⟨q,hq,Yw,hf,rfl,h3,h4⟩;dsimp only;rw[kat_snds rfl Yw];refine À (seqEpoch_at iK rfl (À (listUpdate_at iK rfl ?_ (Ę _) ?_)))
  ·rw[hf]
   simp only[ġ,Ã,ê];exact Â (last q h3 h4)
  ·show ((q.toList.map λi=>us.getD i Value.none).toArray).size<=Õ+1
   rw[Ô,Ä,þ,hq];omega
def O0 (hl:s.heap.IsList l us.toArray) (hz:us.length<64)
 (hk:2<=us.length->∀h1,(∀c o,s.heap.get? c=some o->h1.get? c=some o)->yB prog w A.in1.in1 O x us { s with heap:=h1 })
 (hQ:∀(q:Array Nat) h' b e,Pm us.length q->Up O (ky x q) us.length->(∀c o,s.heap.get? c=some o->h'.get? c=some o)->s.heap.objs.size<=b->h'.get? b=some (ab1 "list" (q.toList.map λi=>us.getD i Value.none).toArray e)->Q (.ref b) { s with heap:=h' }) :
  à (ø prog w) A (call (.builtin "sorted") [.ref l]) Q E s:=by
 have line:us.length<=Õ:=by rw[ζ];omega
 refine Calls.call_function_entry kind_sorted plain_sorted entry_sorted (args_sorted1 _) ?_;unfold ň.«sorted»;refine À (m:=checkCount "sorted" 1 1 _) (Â (À (collect_list hl (À (abK ?_ line)) line)));generalize hg:((s.heap.push (ab1 "list" #[] 0)).update s.heap.objs.size (Ī (·++us.toArray)))=h1;have vj:h1.objs.size=s.heap.objs.size+1:=by rw[<- hg,Heap.size_update,size_push']
 have CC:∀c o,s.heap.get? c=some o->h1.get? c=some o:=λc o e=>by
  have bA:c<s.heap.objs.size:=Î e;rw[<- hg,abX _ _ _ _ (è bA)];exact Á _ e
 show à _ _ _ _ _ { s with heap:=h1.push (ab1 "list" us.toArray 0) }
 have hb:(h1.push (ab1 "list" us.toArray 0)).get? h1.objs.size=some (ab1 "list" us.toArray 0):=Ì _ rfl;have old:∀c o,s.heap.get? c=some o->c≠h1.objs.size/\(h1.push (ab1 "list" us.toArray 0)).get? c=some o:=λc o e=>by
  have bA:c<s.heap.objs.size:=Î e;exact⟨è (by rw[vj];exact Ģ bA),Á _ (CC c o e)⟩
 refine À (ė (Ą slot_list_sort ⟨_,hb,rfl⟩ entry_list_sort (MX hb hz (λz h' ho=>hk z h' λc o e=>ho c o (old c o e).1 (old c o e).2) λq h' e h3 h4 ho hq=>⟨_,rfl,?_⟩) (args_list_sort _)));exact Â ⟨_,rfl,hQ q h' _ e h3 h4 (λc o e=>ho c o (old c o e).1 (old c o e).2) (by show _<=h1.objs.size;rw[vj];exact ŵ _) hq⟩
end
open HT
def AK:∀a:List Int,lexLt a a=false:=λa=>by
 induction a with
 |nil=>rfl
 |cons i r ih=>rw[jE,Ú rfl];exact ih
def Ut:∀a b c:List Int,lexLt a b=true->lexLt b c=true->lexLt a c=true:=λa=>by
 induction a with
 |nil =>
  intro b c h g
  cases b with
  |nil=>cases h
  |cons j s=>cases c with
   |nil=>cases g
   |cons k t=>rfl
 |cons i r ih =>
  intro b c h g
  cases b with
  |nil=>cases h
  |cons j s =>
   cases c with
   |nil=>cases g
   |cons k t =>
    rw[jE] at h g |-;by_cases e1:i=j
    ·subst e1
     rw[Ú rfl] at h;by_cases e2:i=k
     ·rw[Ú e2] at g |-;exact ih s t h g
     ·rw[æ e2] at g |-;exact g
    ·rw[æ e1] at h
     have h:=Ĭ h;by_cases e2:j=k
     ·subst e2
      rw[æ e1];exact Ý h
     ·rw[æ e2] at g
      have g:=Ĭ g;rw[æ (by omega)];exact Ý (by omega)
def Sj:∀a b:List Int,lexLt a b=false->lexLt b a=false->a=b:=λa=>by
 induction a with
 |nil =>
  intro b h g
  cases b with
  |nil=>rfl
  |cons j s=>cases h
 |cons i r ih =>
  intro b h g
  cases b with
  |nil=>cases g
  |cons j s =>
   rw[jE] at h g;by_cases e:i=j
   ·subst e
    rw[Ú rfl] at h g;rw[ih s h g]
   ·rw[æ e] at h
    rw[æ (Ň e)] at g;have h:=of_decide_eq_false h;have g:=of_decide_eq_false g;omega
section
variable {prog:ù} {w:ď} {A:đ} {E:Í->É->Prop} {s:É}
inductive nT (h:ŏ):List Í->List (List Int)->Prop where
 |nil:nT h [] []
 |cons {a:á} {its:Array Í} {ns:List Int} {us:List Í} {j5:List (List Int)}:IsTup h a its->abh its.toList ns->nT h us j5->nT h (.ref a::us) (ns::j5)
def nT.keep (k:∀c o,h.get? c=some o->h'.get? c=some o) (t:nT h us j5):nT h' us j5:=by
 induction t with
 |nil=>exact .nil
 |cons a b _ ih =>
  obtain⟨o,ho,r⟩:=a;exact .cons ⟨o,k _ _ ho,r⟩ b ih
def nT.at (t:nT h us j5):∀i,i<us.length->∃a its,us.getD i Value.none=.ref a/\IsTup h a its/\abh its.toList (j5.getD i []):=by
 induction t with
 |nil=>intro i hi;simp at hi
 |cons a b _ ih =>
  intro i hi
  cases i with
  |zero=>exact⟨_,_,rfl,a,b⟩
  |succ i =>
   obtain⟨c,its,e,r⟩:=ih i (by simpa using hi);exact⟨c,its,by simpa using e,r⟩
inductive vO:List (Option Í)->List (List Int)->Prop where
 |nil:vO [] []
 |au {fs:List (Option Í)} {j5:List (List Int)}:vO fs j5->vO (none::fs) ([]::j5)
 |one {fs:List (Option Í)} {j5:List (List Int)} {n:Int} {t:Tok} {r:List Int}:vO fs j5->vO (some (.int n t)::fs) ((n::r)::j5)
noncomputable def ins {α:Type} (O:Ord α) (a:α):List α->List α
 | []=>[a]
 |b::r=>if O.lt b a=true then b::ins O a r else a::b::r
def jO {α:Type} (O:Ord α):List α->List α
 | []=>[]
 |a::r=>ins O a (jO O r)
end
section
variable {α:Type} {O:Ord α}
def G8 (a:α) (l:List α):(ins O a l).Perm (a::l):=by
 induction l with
 |nil=>exact .refl _
 |cons b r ih =>
  unfold ins;split
  ·exact(List.Perm.cons b ih).trans (List.Perm.swap a b r)
  ·exact .refl _
def sU (l:List α):(jO O l).Perm l:=by
 induction l with
 |nil=>exact .refl _
 |cons a r ih=>exact(G8 a _).trans (ih.cons a)
def Uu (a:α) (l:List α) (h:l.Pairwise O.le):(ins O a l).Pairwise O.le:=by
 induction l with
 |nil=>exact aa3 _ _
 |cons b r ih =>
  obtain⟨h1,h2⟩:=Ă.mp h;unfold ins
  split<;>rename_i hb
  ·refine Ă.mpr ⟨λc hc=>?_,ih h2⟩
   rcases Ó.mp ((G8 a r).mem_iff.mp hc) with e|e
   ·rw[e];exact Ord.le_of_lt hb
   ·exact h1 c e
  ·have hb:O.le a b:=by rw[aaM] at hb;exact hb
   refine Ă.mpr ⟨λc hc=>?_,h⟩
   rcases Ó.mp hc with e|e
   ·rw[e];exact hb
   ·exact Ord.rG hb (h1 c e)
def G9 (l:List α):(jO O l).Pairwise O.le:=by
 induction l with
 |nil=>exact .nil
 |cons a r ih=>exact Uu a _ ih
def O1:∀{l m:List α},l.Perm m->l.Pairwise O.le->m.Pairwise O.le->l=m:=by
 intro l
 induction l with
 |nil=>intro m h _ _;exact h.nil_eq
 |cons a r ih =>
  intro m h h1 h2
  cases m with
  |nil=>exact absurd h.length_eq (by simp)
  |cons b t =>
   obtain⟨a1,a2⟩:=Ă.mp h1;obtain⟨b1,b2⟩:=Ă.mp h2;have e:a=b:=by
    rcases Ó.mp (h.mem_iff.mp Ò) with e|e
    ·exact e
    ·rcases Ó.mp (h.mem_iff.mpr Ò) with e'|e'
     ·exact e'.symm
     ·exact Ord.J7 (a1 b e') (b1 a e)
   subst e;rw[ih h.cons_inv a2 b2]
def O2 (hp:Pm xs.length q) (hu:Up O (ky (λi=>xs.getD i d) q) xs.length):q.toList.map (λi=>xs.getD i d)=jO O xs:=by
 refine O1 ?_ ?_ (G9 xs)
 ·refine(hp.2.map _).trans ?_
  have:(ß xs.length).map (λi=>xs.getD i d)=xs:=by
   apply ź;intro i;by_cases hi:i<xs.length
   ·simp[hi]
   ·simp[hi,ξ hi]
  rw[this];exact(sU xs).symm
 ·rw[List.pairwise_iff_getElem]
  intro i j hi hj ff;have l1:(q.toList.map λi=>xs.getD i d).length=xs.length:=by rw[Ä,þ,hp.1]
  have Yx:j<q.size:=by rw[hp.1];omega
  have qp:i<q.size:=by omega
  have:=hu i j ff (by omega);unfold ky at this;simpa [aca,qp,Yx] using this
end
end ST
namespace DI
open PySem L2
section
variable {X:Cx} {Ξ:Wd->bq->Prop} {a e tg:ļ} {p pos:Pos} {f:Env->ag->Res D} {fa:Env->ag->Res (List D)}
noncomputable def ph (n:Nat):List D:=(ß n).map λi:Nat=>D.int ((n:Int)-1-i)
def O3 (n:Nat):(ph n).length=n:=by simp[ph]
def O4 (n i:Nat):(ph n)[i]?=if i<n then some (.int ((n:Int)-1-i)) else none:=by
 unfold ph;rw[ç];split
 ·rename_i h;rw[Ĕ h];rfl
 ·rename_i h;rw[Ċ (by simp;omega)];rfl
def Ju:oq K w (yr n) (ph n):=λw' l' S' i=>by
 refine⟨λd ed=>?_,λhl=>by rw[O3] at hl;exact hl⟩;rw[O4] at ed;split at ed
 ·cases ed
  exact⟨by assumption,λx H' ⟨e1,e2⟩=>⟨w',e1.symm,Le.refl _,S',rfl,e2⟩⟩
 ·cases ed
def D5 (fa:Env->ag->Res (List D)):Env->ag->Res (List D):=λenv s=>ao (fa env s) λds s=>match ds with
 | [.int j]=>if (jM j&&decide (0<=j))=true then ok (ph j.toNat) s else none
 |_=>none
def VX {p2 kH:Pos} (hg:Gl X "reversed") (hm:X.mg "reversed"=none) (DG:Gl X "range") (DH:X.mg "range"=none) (ha:PA X [a] (tA X.K Ξ fa))
  (he:Þ [a] X.env=(false,ţ a X.env)::Þ [] X.env:=by rfl) (cM:(aab kH (Þ [] X.env)).any (·.1)=false:=by rfl)
  (hs:Þ [.Call (.Name "range" p2) [a] [] kH] X.env=[(false,ţ (.Call (.Name "range" p2) [a] [] kH) X.env)]:=by rfl)
  (yU:Þ [.Call (.Name "range" p2) [a] [] kH] X.env=(false,ţ (.Call (.Name "range" p2) [a] [] kH) X.env)::Þ [] X.env:=by rfl) :
  PI X tg (.Call (.Name "reversed" p) [.Call (.Name "range" p2) [a] [] kH] [] pos) (cZ X.K Ξ (D5 fa)) :=
 oU (Ue hg hm (lA (zO Nn DG DH (by decide +kernel) ha (by decide) (by decide) he cM) nq yU) hs) fun σ H R az=>by
  obtain⟨w,env,eH,S,eo,h⟩:=az;subst eH;refine⟨w,env,rfl,S,eo,(Out.ao h).mono λw1 ds l1 S1 h1 vs aq=>?_⟩;split at h1
  ·rename_i j
   split at h1
   ·rename_i hj
    simp only[jM,Ç,È] at hj;obtain⟨v,r,rfl,dv,dr⟩:=aq;have e1:v=.int j:=dv;have e2:r=[]:=dr;subst e1 e2;refine⟨j,rfl,λq hq=>?_⟩;refine⟨q,j.toNat,rfl,?_,by omega,?_⟩
    ·rw[dg,Int.toNat_of_nonneg hj.2]
    ·exact h1 (w1.grow q (.bM 0 j)) (Fw.grow hq).le (S1.grow hq) rfl _ Ju
   ·exact h1.elim
  ·exact h1.elim
end
end DI
namespace L2
open PySem PySem.Spec PyProof.Rows
structure Jv (sc:abf) (cl gX:List (Str×á)) (C:Nat) (h:ŏ):Prop where
 old:∀n c,gX.lookup n=some c->(C<c/\(n,NameKind.cell)∈sc.names/\∃v,h.IsCell c v)\/cl.lookup n=some c
 own:∀n,sc.names.lookup n=some .cell\/(cl.lookup n).isSome=true->∃c,gX.lookup n=some c
 inj:(∀x y c,cl.lookup x=some c->cl.lookup y=some c->x=y)->(∀x c,cl.lookup x=some c->c<C)->∀x y c,gX.lookup x=some c->gX.lookup y=some c->x=y
def zS:∀(names:List (Str×aas)) (n:Nat) (acc:List (Str×á)),(aaB n names acc).lookup x=some c->((x,NameKind.cell)∈names/\n<=c)\/acc.lookup x=some c
 | [],n,acc,h=>.inr h
 |(y,k)::r,n,acc,h=>by
  unfold aaB at h;split at h
  ·rename_i hk
   have hk:k=.cell:=by simpa using hk
   subst hk
   rcases zS r (n+1) _ h with ⟨h1,h2⟩|h1
   ·exact .inl ⟨Ñ _ h1,by omega⟩
   ·rw[ń] at h1
    split at h1
    ·rename_i e
     have e:x=y:=by simpa using e
     subst e;cases h1;exact .inl ⟨Ò,Nat.le_refl _⟩
    ·exact .inr h1
  ·rcases zS r n acc h with ⟨h1,h2⟩|h1
   ·exact .inl ⟨Ñ _ h1,h2⟩
   ·exact .inr h1
def zT:∀(names:List (Str×aas)) (n:Nat) (acc:List (Str×á)),(∀x y c,acc.lookup x=some c->acc.lookup y=some c->x=y)->(∀x c,acc.lookup x=some c->c<n)->∀x y c,(aaB n names acc).lookup x=some c->(aaB n names acc).lookup y=some c->x=y
 | [],n,acc,hi,hb=>hi
 |(z,k)::r,n,acc,hi,hb=>by
  unfold aaB;split
  ·refine zT r (n+1) _ (λx y c h1 h2=>?_) λx c h1=>?_
   ·rw[ń] at h1 h2
    split at h1
    ·rename_i e1
     split at h2
     ·rename_i e2
      exact(by simpa using e1:x=z).trans (by simpa using e2:y=z).symm
     ·cases h1
      exact absurd (hb y _ h2) (é _)
    ·split at h2
     ·cases h2
      exact absurd (hb x _ h1) (é _)
     ·exact hi x y c h1 h2
   ·rw[ń] at h1
    split at h1
    ·cases h1;exact ς _
    ·exact Ģ (hb x c h1)
  ·exact zT r n acc hi hb
def Ae {lo:Nat}:∀(names:List (Str×aas)) (h:ŏ) (acc:List (Str×á)),lo<=h.objs.size->(∀x c,acc.lookup x=some c->lo<=c->h.IsCell c none)->(aaB h.objs.size names acc).lookup x=some c->lo<=c->(pushCells h names).IsCell c none
 | [],h,acc,_,ha,e,hl=>ha x c e hl
 |(z,k)::r,h,acc,Lj,ha,e,hl=>by
  unfold aaB at e;unfold pushCells;split at e
  ·rename_i hk
   rw[Ú hk];have hz:(h.push { cls:=.type "cell",data:=.cell none }).objs.size=h.objs.size+1:=ú ..;refine Ae (lo:=lo) r _ ((z,h.objs.size)::acc) (by omega) (λy d hy hd=>?_) (by rw[hz];exact e) hl;rw[ń] at hy;split at hy
   ·cases hy
    exact⟨_,Ì _ rfl,rfl⟩
   ·exact(ha y d hy hd).keeps λb o q=>Á _ q
  ·rename_i hk
   rw[æ hk];exact Ae r h acc Lj ha e hl
def ME {E:Í->É->Prop} {Q:Env->É->Prop}
 (hQ:∀gX h3,((∀x c,cl.lookup x=some c->c<s.heap.objs.size)->Jv scope cl gX s.heap.objs.size h3)->h3.Ns s.heap.objs.size (λ_=>none)->(∀b o,s.heap.get? b=some o->h3.get? b=some o)->Q (newEnv scope s.heap.objs.size globals gX qual none .none (some env) bi) { s with heap:=h3 }) :
  à M A (newFunctionEnv scope globals cl [] qual none .none (some env) bi) Q E s:=by
 simp only[newFunctionEnv,Option.isSome_some,û];refine À (wpAny_alloc ?_)
 refine À (wpAny_layCells _ (λname kind cells=>by cases Yy:kind==NameKind.cell<;>simp[Yy]) _ _ _ _ ?_)
 rw[show ({ s with heap:=s.heap.push { cls:=.type "dict",data:=.dict #[] } }:É).heap.objs.size=s.heap.objs.size+1 from ú ..]
 simp only[List.forIn_nil];refine À (Â (Â ?_));have hz:(s.heap.push { cls:=.type "dict",data:=.dict #[] }).objs.size=s.heap.objs.size+1:=ú ..;refine hQ (aaB (s.heap.objs.size+1) scope.names cl) _ (λhb=>⟨λn c e=>?_,λn hn=>?_,λhi gR=>zT _ _ _ hi λx c e=>Ģ (gR x c e)⟩) ((Heap.Ns.new s.heap (.type "dict")).keeps (pushCells_keeps _ _)) λb o e=>pushCells_keeps _ _ b o (Á _ e)
 ·rcases zS _ _ _ e with ⟨h1,h2⟩|h1
  ·exact .inl ⟨by omega,h1,none,Ae (lo:=s.heap.objs.size+1) scope.names _ cl (by omega) (λx d q hd=>absurd (hb x d q) (Nat.not_lt.mpr (Nat.le_of_succ_le hd))) (by rw[hz];exact e) h2⟩
  ·exact .inr h1
 ·exact Option.isSome_iff_exists.mp (aba scope.names _ cl hn)
abbrev dB (X:Cx) (N:List Str) (sc:abf) (cl:List (Str×á)) (C:á) (s:É) (H:Hp) (ex:List á) (pn:List (á×Obj)):Cx:={ cb X N sc cl C s H ex pn with fn:=λx=>sc.names.lookup x==some .cell }
structure mm (X:Cx) (sc:abf) (N:List Str) (nt:Nat) (cap:List Nat):Prop where
 kind:sc.kind=.function
 names:∀x∈sc.names,x.2=.local->sc.names.lookup x.1=some .local
 cells:∀x∈sc.names,x.2=.cell->sc.names.lookup x.1=some .cell
 frees:∀x∈sc.names,x.2=.free->sc.names.lookup x.1=some .free/\(X.env.scope.names.lookup x.1=some .cell\/X.env.scope.names.lookup x.1=some .free)
 len:N.length=nt+cap.length
 Cu:∀(k:Nat) j,cap[k]?=some j->∃x,X.N[j]?=some x/\N[nt+k]?=some x/\(x,ā)∈sc.names
section
variable {X:Cx} {sc:abf} {N:List Str} {nt:Nat} {cap:List Nat} {cl gX:List (Str×á)} {s:É} {h1:ŏ} {H:Hp} {σ:St} {π:List (á×Obj)} {fp:List á} {C:á} {t':Nat}
def Inv.Uv (I:Inv X π σ H s) (S:mm X sc N nt cap) (cR:∀n c,cl.lookup n=some c↔((n,ā)∈sc.names/\X.env.cells.lookup n=some c)) (jx:Jv sc cl gX C h1) (hf:∀b∈fp,cj X π H b) (gP:∀b∈fp,b<s.heap.objs.size)
  (hk:∀b o,s.heap.get? b=some o->h1.get? b=some o) (hC:s.heap.objs.size<=C) (sj:∃m,h1.Ns C m):Inv (dB X N sc gX C s H fp (X.pn++π)) [] (lF nt cap σ) H { s with heap:=h1,toks:=t' }:=by
 have tX:∀b∈gO X.stack,b∈X.env.locals::X.fs:=I.kc;have Xg:∀x c,cl.lookup x=some c->c<s.heap.objs.size:=λx c e=>by
  obtain⟨v,o,ho,_⟩:=I.cell x c ((cR x c).mp e).2;exact Î ho
 have BB:∀x,(relabel sc X.env).names.lookup x=some .cell\/(relabel sc X.env).names.lookup x=some .free->(x,ā)∈sc.names\/sc.names.lookup x=some .cell:=λx hx=>by
  rw[wk] at hx
  cases e:sc.names.lookup x with
  |none=>rw[e] at hx;rcases hx with z|z<;>cases z
  |some k =>
   have hm:(x,k)∈sc.names:=by
    obtain⟨l1,l2,e1,_⟩:=List.lookup_eq_some_iff.mp e;rw[e1];simp
   rw[e] at hx
   cases k with
   |free=>exact .inl hm
   |cell=>exact .inr rfl
   |_=>exfalso;revert hx;simp
 have AA:∀x,(x,ā)∈sc.names->∃c,X.env.cells.lookup x=some c:=λx hx=>I.ok.has x (S.frees _ hx rfl).2;have KS:∀x c,(x,ā)∈sc.names->X.env.cells.lookup x=some c->gX.lookup x=some c:=λx c hx hc=>by
  have e:=(cR x c).mpr ⟨hx,hc⟩;obtain⟨d,hd⟩:=jx.own x (.inr (by rw[e];rfl))
  rcases jx.old x d hd with ⟨_,q,_⟩|q
  ·have z1:=S.cells _ q rfl
   have z2:=(S.frees _ hx rfl).1;dsimp only at z1 z2;rw[z1] at z2;cases z2
  ·rw[e] at q
   cases q;exact hd
 have ok:Cx.Ok (dB X N sc gX C s H fp (X.pn++π)):=by
  refine⟨I.ok.mod,?_,I.ok.glob,I.ok.blt,hC,?_,?_,?_,I.ok.hd,I.ok.frames,.inl rfl,?_,I.bs,Û I.ok.i4 I.sz,?_,?_,I.stack,I.Av⟩
  ·exact S.kind
  ·exact jx.inj (λx y c hx hy=>I.ok.inj x y c ((cR x c).mp hx).2 ((cR y c).mp hy).2) λx c e=>Ê (Xg x c e) hC
  ·intro x hx
   rcases BB x hx with hm|hm
   ·obtain⟨c,e⟩:=AA x hm
    exact⟨c,KS x c hm e⟩
   ·exact jx.own x (.inl hm)
  ·intro x c hx e
   rcases jx.old x c e with ⟨q,_,_⟩|q
   ·exact Û hC (Nat.le_of_lt q)
   ·have z2:=(S.frees _ ((cR x c).mp q).1 rfl).1
    have z1:sc.names.lookup x=some .cell:=by simpa using hx
    dsimp only at z2;rw[z1] at z2;cases z2
  ·intro b hb
   refine⟨è (Ê (gP b hb) hC),λx c e=>?_⟩
   rcases jx.old x c e with ⟨q,_,_⟩|q
   ·exact Ń (Ê (gP b hb) (Û hC (Nat.le_of_lt q)))
   ·exact(hf b hb).2.2.2.2.1 x c ((cR x c).mp q).2
  ·intro b o e hb
   rcases(hf b hb).2.2.2.1 with z|z
   ·exact I.ok.lJ b o e z
   ·exact absurd (Ê (Î e) (Û I.ok.i4 z)) (é _)
  ·intro b hb z
   rcases Ó.mp (tX b z) with e|e
   ·exact(hf b hb).2.1 e
   ·exact(hf b hb).2.2.1 e
 obtain⟨m,hm⟩:=sj;obtain⟨mX,XI,Di⟩:=I.loc;refine⟨ok,rfl,I.bare,Un.kept hk,⟨m,hm,λi x v e1 e2 e3=>?_⟩,λx c e=>?_,I.aE.fresh hC,λx c e=>?_,λp hp=>?_,I.aE.kept hk,?_⟩
 ·
  have hi:nt<=i:=by
   apply ξ;intro bA;have:(lF nt cap σ)[i]?=some none:=by
    unfold lF;rw[ä (by simpa using bA),ĭ,Ú bA]
   rw[this] at e2;cases e2
  have kN:(cap.map λj=>(σ[j]?).getD none)[i-nt]?=some (some v):=by
   have e:=e2;unfold lF at e;rw[ü (by simpa using hi)] at e;simpa using e
  rw[ç] at kN
  cases ej:cap[i-nt]? with
  |none=>rw[ej] at kN;cases kN
  |some j =>
   rw[ej] at kN;have ev:(σ[j]?).getD none=some v:=Option.some.inj kN;have va:σ[j]?=some (some v):=by
    cases q:σ[j]? with
    |none=>rw[q] at ev;cases ev
    |some z=>rw[q] at ev;exact Ĺ some ev
   obtain⟨y,f1,f2,f3⟩:=S.Cu _ _ ej;rw[Nat.add_sub_cancel' hi] at f2;have Dj:y=x:=Option.some.inj (f2.symm.trans e1);subst Dj;obtain⟨g1,g2⟩:=S.frees _ f3 rfl;have Dk:uO X.env.scope y:=.inr g2;obtain⟨u,r,l⟩:=Di j y v f1 va Dk;refine⟨u,r,.inr ⟨?_,?_⟩⟩
   ·show (relabel sc X.env).names.lookup y=some .cell\/(relabel sc X.env).names.lookup y=some .free
    rw[wk,g1];simp only[Ŏ];split
    ·exact .inl rfl
    ·exact .inr rfl
   ·rcases l with ⟨k,_⟩ | ⟨_,c,hc,nF⟩
    ·exfalso
     have k':X.env.scope.names.lookup y=some .local:=k;dsimp only at g2;rw[k'] at g2
     rcases g2 with z|z<;>cases z
    ·obtain⟨oc,ho,hd⟩:=nF
     exact⟨c,KS y c f3 hc,oc,hk _ _ ho,hd⟩
 ·rcases jx.old x c e with ⟨_,_,q⟩|q
  ·exact q
  ·obtain⟨v,oc,ho,hd⟩:=I.cell x c ((cR x c).mp q).2
   exact⟨v,oc,hk _ _ ho,hd⟩
 ·rcases jx.old x c e with ⟨q,_,_⟩|q
  ·exact I.aE.fresh (by omega)
  ·exact I.fc x c ((cR x c).mp q).2
 ·have fN:p∈X.pn++π:=by simpa using hp
  obtain⟨e,n,ne,nf,d⟩:=I.pin p fN;refine⟨hk _ _ e,n,è (Ê (Î e) hC),λz=>?_,d⟩
  rcases Ó.mp (tX p.1 z) with q|q
  ·exact ne q
  ·exact nf q
 ·unfold lF
  rw[â,ů,Ä];exact S.len.symm
end
section
variable {X:Cx}
def F0 {el tg src:ļ} {tests:List ļ} {sc:abf} {ps:Pos} {N:List Str} {nt:Nat} {cap:List Nat} {wi:TI} {g:TG} {tf:TT} {te:TE} {p1:Pos} {use:Option (Í->Sem Unit)} {R:Í->É->Prop} {π:List (á×Obj)} {s:É} {σ:St} {H:Hp} {Q:VK} (hc:X.calm=true) (S:mm X sc N nt cap) (fV:lT g nt) (hi:PI X tg src wi)
  (hY:∀(cl:List (Str×á)) (C:á) (s:É) (H:Hp) (ex:List á) (pn:List (á×Obj)),PG (dB X N sc cl C s H ex pn) tg g/\PF (dB X N sc cl C s H ex pn) tests tf/\PE (dB X N sc cl C s H ex pn) el te)
  (hs:∀x,ô src X.env x=pure x) (I:Inv X π σ H s) (h:mr wi nt cap g tf te σ H Q)
  (CH:∀(s':É) (H1:Hp) (D C:á) (m:Str->Option Í),(∀h',ĸ C s'.heap h'->Inv X π σ H1 { s' with heap:=h' })->s'.heap.Ns C m->H1 C=none->C≠X.env.locals->C∉X.fs->X.dM.heap.objs.size<=C->(∀x c,X.env.cells.lookup x=some c->c≠C)->(∀p∈X.pn++π,p.1≠C)->Q (.ref D) H1->compPost (ø X.prog X.w) X.A X.xe use R (.ref D) C (.ok .next) s') :
  à (ø X.prog X.w) X.A (comprehension (.ListComp el [⟨tg,src,tests,0⟩] sc ps) sc X.env p1 (newList []) false (ţ src X.env) use) R X.xe s:=by
 obtain⟨cl,ua,cR⟩:=A2 (env:=X.env) (sc:=sc) λn hn=>I.ok.has n (S.frees _ hn rfl).2;refine aaU (use:=use) rfl hs ua S.kind S.names (aD (hi π s σ H _ I h) λxv s1 h1=>aD h1 λi6 s2 h2=>?_);obtain⟨it,fp,tn,J,H2,e,I2,T,dO,f2,W,⟨m0,w0⟩,turn⟩:=h2;subst e;refine ó (ME λgX h3 mF gK om=>?_);dsimp only at mF gK om |-;generalize hD:s2.heap.objs.size=D at mF gK om |-;generalize hG:s2.heap.push { cls:=.type "list",dict:=none,data:=.seq ([]:List Í).toArray }=G at mF gK om |-;generalize vw:G.objs.size=C at mF gK om |-;have hC:C=D+1:=by rw[<- vw,<- hG,ú,hD]
 have kU:D≠C:=by omega
 have dN:s2.heap.objs.size<=D:=ō hD;have dW:s2.heap.objs.size<=C:=by omega
 have old:∀b o,s2.heap.get? b=some o->h3.get? b=some o:=λb o e=>om b o (hG ▸ Á _ e);have jS:h3.PlainList D #[]:=⟨_,om _ _ (hG ▸ hD ▸ Ì _ rfl)⟩;have gP:∀b∈fp,b<s2.heap.objs.size:=λb hb=>by
  obtain⟨o,e,_⟩:=T.obj _ _ dO b hb;exact Î e
 have mF:=mF λx c e=>by
  obtain⟨v,o,ho,_⟩:=I2.cell x c ((cR x c).mp e).2;exact Ê (Î ho) dW
 have IB:=I2.Uv (t':=s2.toks) S cR mF f2 gP old dW ⟨_,gK⟩;have vz:D∉gO X.stack:=λz=>by
  rcases Ó.mp (I2.kc D z) with e|e
  ·exact absurd (Ê I2.lt dN) (by rw[e];exact é _)
  ·exact I2.pA dN e
 have kR:D∉fp:=λz=>absurd (Ê (gP D z) dN) (é _);have tM:∀x c,gX.lookup x=some c->c≠D:=λx c e z=>by
  rcases mF.old x c e with ⟨q,_,_⟩|e
  ·rw[z] at q
   exact absurd q (by rw[hC];exact Nat.not_lt.mpr (ŵ D))
  ·obtain⟨v,o,ho,_⟩:=I2.cell x c ((cR x c).mp e).2
   exact absurd (Ê (Î ho) (by rw[z];exact dN)) (é _)
 have ue:∀p∈X.pn++π,p.1≠D:=λp hp z=>absurd (Ê (Î (I2.pin p hp).1) (by rw[z];exact dN)) (é _);generalize gY:dB X N sc gX C s2 H2 fp (X.pn++π)=Y at IB;have kS:∀{H':Hp} {pl:List (á×Obj)},(∀b∈fp,H' b=none)->(∀p∈pl,p.1∉fp)->∀b∈fp,cj Y pl H' b:=λ{H' pl} hn hp b hb=>by
  subst gY;obtain⟨_,f1,mM,f3,f4,f5⟩:=f2 b hb;refine⟨hn b hb,è (Ê (gP b hb) dW),λz=>?_,.inl hb,λx c e=>(mF.old x c e).elim (λq z=>Ń (Ê (gP b hb) (Û dW (Nat.le_of_lt q.1))) z) λe=>f4 x c ((cR x c).mp e).2,λp qh=>?_⟩
  ·rcases Ó.mp (I2.kc b z) with e|e
   ·exact f1 e
   ·exact mM e
  ·rcases Ù.mp qh with z|z
   ·exact f5 p z
   ·exact λe=>hp p z (e ▸ hb)
 have vA:PG Y tg g:=by subst gY;exact(hY _ _ _ _ _ _).1
 have vB:PF Y tests tf:=by subst gY;exact(hY _ _ _ _ _ _).2.1
 have Yz:PE Y el te:=by subst gY;exact(hY _ _ _ _ _ _).2.2
 have eP:Y.prog=X.prog:=by subst gY;rfl
 have eW:Y.w=X.w:=by subst gY;rfl
 have eA:Y.A=X.A:=by subst gY;rfl
 have eK:Y.K=X.K:=by subst gY;rfl
 have eE:Y.env=compEnvC sc gX C X.env:=by subst gY;rfl
 have eX:Y.xe=λ_ _=>False:=by subst gY;rfl
 have eC:Y.calm=true:=by subst gY;exact hc
 have eS:Y.dM.heap.objs.size<=D:=by subst gY;exact dN
 have eF:D∉Y.fs:=by subst gY;exact vz
 have eL:D≠Y.env.locals:=by subst gY;exact kU
 have YA:∀x c,Y.env.cells.lookup x=some c->c≠D:=by subst gY;exact tM
 have eN:∀p∈Y.pn,p.1≠D:=by subst gY;exact ue
 have fin:∀(s':É) (τ:St) (H':Hp) (acc:List V) (ys:Array Í),Inv Y [] τ H' s'->s'.heap.PlainList D ys->Vals acc ys.toList->H' D=none->acc.length<=Õ->(∀D,H' D=none->Q (.ref D) (upd H' D (.lst acc))) ->
   compPost (ø X.prog X.w) X.A X.xe use R (.ref D) C (.ok .next) s':=by
  intro s' τ H' acc ys I' pl rv hn hz q;subst gY;obtain⟨m,hm,_⟩:=id I'.loc;refine CH s' (upd H' D (.lst acc)) D C m (λh' sb=>?_) hm ?_ (λz=>absurd (Ê I2.lt dW) (by rw[z];exact é _)) (I2.pA dW) (Û I2.sz dW) (λx c e z=>?_) (λp hp z=>absurd (Ê (Î (I2.pin p hp).1) (by rw[z];exact dW)) (é _)) (q D hn)
  ·have uD:bY X.prog X.w H' h':=I'.aE.but I'.free sb
   obtain⟨n,ho⟩:=pl;have cY:h'.get? D=some { cls:=.type "list",data:=.seq ys n }:=(sb.2 D kU).trans ho;have new:cF X.prog X.w (upd H' D (.lst acc)) h' D (.lst acc):=⟨hz,ys.toList,n,rv,by simpa using cY⟩;have u:=(I'.base.but dW sb).adopt (o:=.lst acc) dN hn
   refine I2.xJ (s':={ s' with heap:=h' }) (ch:=fp) I'.os u (uD.adopt hn new) I'.bare (λb hb=>?_)
   obtain⟨_,f1,_,f3,f4,f5⟩:=f2 b hb;exact⟨f3,f1,f4,f5⟩
  ·rw[bo (Ň kU)]
   exact I'.free
  ·obtain⟨v,o,i7,_⟩:=I2.cell x c e
   exact absurd (Ê (Î i7) (by rw[z];exact dW)) (é _)
 have loop:aaO (ø X.prog X.w) X.A (.compLoop (.ListComp el [⟨tg,src,tests,0⟩] sc ps) 0 (.ref it) (.ref D) (compEnvC sc gX C X.env)) (compPost (ø X.prog X.w) X.A X.xe use R (.ref D) C)
   { s2 with heap:=h3 }:=by
  refine NM (λn s'=>∃i acc o H' ys,Inv Y [] (o++mq cap σ) H' s'/\o.length=nt/\tn i s'.heap/\(∀b∈fp,H' b=none)/\s'.heap.PlainList D ys/\Vals acc ys.toList/\H' D=none/\W i n acc H') ?_ m0
   ⟨0,[],Ï nt none,H2,#[],IB,by simp,T.keep _ _ _ dO λb _ o e=>old b o e,λb hb=>(f2 b hb).1,jS,.nil,I2.aE.fresh dN,w0⟩
  rintro n s3 ⟨i,acc,o3,H3,ys,I3,LC,gm,n5,YB,ot,YC,w3⟩;generalize YD:o3++mq cap σ=τ at I3;obtain⟨nn,ho⟩:=id YB;generalize LD:({ cls:=.type "list",data:=.seq ys nn }:Obj)=oD at ho;have VY:∀v,oD.data≠.cell v:=λv z=>by subst LD;cases z
  have vt:Inv Y [(D,oD)] τ H3 s3:=I3.ip λp hp=>by
   have e:p=(D,oD):=by simpa using hp
   subst e;exact⟨ho,YC,eL,eF,VY⟩
  have qi:∀p∈[(D,oD)],p.1∉fp:=λp hp=>by
   have e:p=(D,oD):=by simpa using hp
   subst e;exact kR
  have sv:∀{pl:List (á×Obj)} {cT:St} {H':Hp} {s':É},Inv Y ([(D,oD)]++pl) cT H' s'->s'.heap.PlainList D ys/\H' D=none:=λ{pl cT H' s'} I'=>by
   have q:=I'.pin (D,oD) (Æ _ (ħ _ (by simp)));exact⟨⟨nn,by rw[LD];exact q.1⟩,q.2.1⟩
  rcases turn i n acc H3 w3 with ⟨stop,hz,q⟩ | ⟨go,hz,N',hN,step⟩
  ·have hd:=T.done Y eP eW eK eC i [(D,oD)] s3 τ H3 (λ_ _=>False) vt (kS n5 qi) gm stop
   rw[eA] at hd;refine aD hd λr s4 h4=>?_;obtain⟨hr,I4⟩:=h4;subst hr;obtain⟨DO,n4⟩:=sv (pl:=[]) (by simpa using I4);exact fin s4 τ H3 acc ys (Inv.jd (π:=[]) I4) DO ot n4 hz q
  ·have hd:=T.item Y eP eW eK eC i [(D,oD)] s3 τ H3 (λ_ _=>False) vt (kS n5 qi) gm go
   rw[eA] at hd;refine aD hd λr s4 h4=>?_;obtain⟨u,hr,h4⟩:=h4;subst hr;refine aD h4 λ_ s5 h5=>?_;obtain⟨x,H5,I5,r5,y5,iD,uV⟩:=h5;have uW:=I5.pinned (kS uV qi) (T.obj _ _ iD);have q5:=vA _ s5 τ H5 x u _ uW r5 (YD ▸ fV x o3 _ H5 _ LC (step o3 x H5 LC y5));rw[eP,eW,eA,eE,eX] at q5;refine aD q5 λ_ s6 h6=>?_;obtain⟨sx,H6,I6,⟨o6,vv,yz⟩,q6⟩:=h6;have q7:=vB _ s6 sx H6 _ I6 q6;rw[eP,eW,eA,eE,eX] at q7;refine aD q7 λb s7 h7=>?_;obtain⟨H7,I7,q7⟩:=h7;have uC:∀{cT:St} {H':Hp} {s':É},Inv Y ([(D,oD)]++nk fp s5.heap) cT H' s'->tn (i+1) s'.heap/\∀b∈fp,H' b=none:=λ{cT H' s'} I'=>by
    refine⟨T.keep _ _ _ iD λb hb o e=>(I'.pin (b,o) (Æ _ (Æ _ (qC hb e)))).1,λb hb=>?_⟩;obtain⟨o,e,_⟩:=T.obj _ _ iD b hb;exact(I'.pin (b,o) (Æ _ (Æ _ (qC hb e)))).2.1
   cases b with
   |false =>
    rw[æ Ë] at q7 |-;obtain⟨m',hm,w7⟩:=hN _ _ q7;obtain⟨yW,n7⟩:=sv I7;obtain⟨t7,f7⟩:=uC I7;exact⟨m',hm,i+1,acc,o6,H7,ys,yz ▸ I7.ip (λp hp=>by simp at hp),vv,t7,f7,yW,ot,n7,w7⟩
   |true =>
    rw[Ú rfl] at q7 |-;have q8:=Yz _ s7 sx H7 _ I7 q7;rw[eP,eW,eA,eE,eX] at q8;refine aD q8 λy s8 h8=>?_;obtain⟨v,H8,I8,r8,q9⟩:=h8;obtain⟨m',hm,w8⟩:=hN _ _ q9;obtain⟨DK,n8⟩:=sv I8;obtain⟨t8,f8⟩:=uC I8;have DL:ys.size<=Õ:=by
     have e:=ot.length;simp only[þ] at e;omega
    refine wpAny_list_append_plain (hsz:=DL) DK λh9 DM yV=>?_;have DN:Inv Y [] sx H8 s8:=I8.ip (λp hp=>by simp at hp)
    have I9:Inv Y [] sx H8 { s8 with heap:=h9,toks:=s8.toks }:=DN.turned (it:=D) (λb o hb e=>(yV.2 b hb).trans e) n8 eL (.inr eS) YA (λp hp=>eN p (by simpa using hp))
    refine⟨m',hm,i+1,acc++[v],o6,H8,ys.push y,yz ▸ I9,vv,T.keep _ _ _ t8 λb hb o e=>(yV.2 b (λz=>kR (z ▸ hb))).trans e,f8,DM,?_,n8,w8⟩;rw[abl];exact Vals.append ot (.cons r8 .nil)
 exact abc loop (T.self _ _ _ _ _ (T.keep _ _ _ dO λb _ o e=>old b o e) loop)
def Ha (hc:X.calm=true) (S:mm X sc N nt cap) (fV:lT g nt) (hi:PI X tg src wi)
 (hY:∀(cl:List (Str×á)) (C:á) (s:É) (H:Hp) (ex:List á) (pn:List (á×Obj)),PG (dB X N sc cl C s H ex pn) tg g/\PF (dB X N sc cl C s H ex pn) tests tf/\PE (dB X N sc cl C s H ex pn) el te)
 (hs:∀x,ô src X.env x=pure x:=by intro _;rfl):PE X (.ListComp el [⟨tg,src,tests,0⟩] sc ps) (mr wi nt cap g tf te):=by
 intro π s σ H Q I h;rw[eval_ListComp];exact F0 (use:=none) hc S fV hi hY hs I h λs' H1 D C m IX hm _ _ _ _ _ _ q=>⟨m,hm,λh' sb=>⟨.ref D,H1,IX h' sb,rfl,q⟩⟩
def Hb {el tg src:ļ} {tests:List ļ} {sc:abf} {ps pos pos':Pos} {N:List Str} {nt:Nat} {cap:List Nat} {wi:TI} {g:TG} {tf:TT} {te:TE} {i0:Nat} {x0:Str} (mO:X.N.Nodup) (mP:X.N[i0]?=some x0) (mQ:Loc X.env.scope x0) (hc:X.calm=true) (S:mm X sc N nt cap) (fV:lT g nt) (hi:PI X tg src wi)
  (hY:∀(cl:List (Str×á)) (C:á) (s:É) (H:Hp) (ex:List á) (pn:List (á×Obj)),PG (dB X N sc cl C s H ex pn) tg g/\PF (dB X N sc cl C s H ex pn) tests tf/\PE (dB X N sc cl C s H ex pn) el te)
  (hs:∀x,ô src X.env x=pure x:=by intro _;rfl)
  (mR:abv (.ListComp el [⟨tg,src,tests,0⟩] sc ps) (some (.Name x0 pos')) pos.line X.env=pure true:=by rfl)
  (mS:X.fn x0=true\/X.env.scope.names.lookup x0=some .local:=by first|exact .inl rfl|exact .inr rfl|assumption):PS X (.Assign [.Name x0 pos'] (.ListComp el [⟨tg,src,tests,0⟩] sc ps) pos) (pC (mr wi nt cap g tf te) (km i0)):=by
 intro π s σ H D0 I h;rw[exec_Assign_Name_used _ _ _ _ mR];refine À (Ŕ (À ?_));obtain⟨Q,hQ⟩:∃Q:VK,Q=λv H1=>km i0 v σ H1 D0.nx:=⟨_,rfl⟩;have h:mr wi nt cap g tf te σ H Q:=by rw[hQ];exact h
 have lV:∀v H1,Q v H1->D0.nx (σ.set i0 (some v)) H1:=λv H1 q=>by rw[hQ] at q;exact q
 unfold evalThenUse
 refine À (ĳ (Q:=λ_ s'=>SP X π D0 .next s') ?_ (λ_ s' q=>Â (Â q)) (λ_ _ z=>z))
 refine F0 (use:=some (aaR (.Name x0 pos') X.env)) hc S fV hi hY hs I h λs' H1 D C m IX hm vC vD DR Ll nF Xh q=>?_;have LF:Inv X π σ H1 s':=IX s'.heap (Heap.SameBut.refl _ _);obtain⟨oC,es,ep,DT,vE,pW⟩:=id hm;have IP:Inv X ((C,oC)::π) σ H1 s':=LF.ip λp hp=>by
  rcases Ó.mp hp with e|e
  ·subst e
   exact⟨DT,vC,vD,DR,λv z=>by rw[vE] at z;cases z⟩
  ·exact LF.pin p (Æ _ e)
 show à _ _ (aaR (.Name x0 pos') X.env (.ref D)) _ _ s';refine wpAny_assign_Name (mf IP mO mP mQ (show RelV (.ref D) (.ref D) from rfl) (λs3 I3=>?_) mS);have p3:=(I3.pin (C,oC) (Æ _ (Ò ..))).1;refine⟨m,⟨oC,es,ep,p3,vE,pW⟩,λh' sb=>⟨_,H1,?_,lV _ _ q⟩⟩;have I4:Inv X π (σ.set i0 (some (.ref D))) H1 s3:=I3.ip λp hp=>I3.pin p (Æ _ (Ñ _ hp));exact I4.turned (it:=C) (t':=s3.toks) (λb o hb e=>(sb.2 b hb).trans e) vC vD (.inr Ll) nF Xh
end
noncomputable def Be (sc:abf) (on:List (Str×aas)) (oN N:List Str) (nt:Nat) (cap:List Nat):Bool :=
 decide (sc.kind=.function)&&sc.names.all (λx=>decide (x.2=.local->sc.names.lookup x.1=some .local))&&sc.names.all (λx=>decide (x.2=.cell->sc.names.lookup x.1=some .cell)) &&
 sc.names.all (λx=>decide (x.2=.free->sc.names.lookup x.1=some .free/\(on.lookup x.1=some .cell\/on.lookup x.1=some .free)))&&decide (N.length=nt+cap.length) &&
 (ß cap.length).all (λk=>match cap[k]? with
  |some j=>match oN[j]? with
   |some x=>decide (N[nt+k]?=some x)&&decide ((x,ā)∈sc.names)
   |none=>false
  |none=>true)
def jP (h:Be sc X.env.scope.names X.N N nt cap=true):mm X sc N nt cap:=by
 unfold Be at h;simp only[Ç,ý,È] at h;obtain⟨⟨⟨⟨⟨h1,h2⟩,h3⟩,h4⟩,h5⟩,h6⟩:=h;refine⟨h1,h2,h3,λx hx e=>h4 x hx e,h5,λk j e=>?_⟩;have hk:k<cap.length:=(Å.mp e).1;have:=h6 k (Ā.mpr hk);rw[e] at this;dsimp only at this
 cases ex:X.N[j]? with
 |none=>rw[ex] at this;cases this
 |some x =>
  rw[ex] at this;simp only[Ç,È] at this;exact⟨x,rfl,this.1,this.2⟩
end L2
namespace DI
open PySem L2
section
variable {X:Cx} {Ξ:Wd->bq->Prop} {e a b c tg el src:ļ} {es rest tests:List ļ} {pos:Pos} {f g h:Env->ag->Res D} {fa:Env->ag->Res (List D)} {ft gt:Env->ag->Res Bool}
def oQ (hc:X.calm=true) (S:mm X sc N nt cap) (T:Tg X.K g0 gd nt) (hi:PI X tg src (cZ X.K Ξ it))
 (hY:∀(cl:List (Str×á)) (C:á) (s:É) (H:Hp) (ex:List á) (pn:List (á×Obj)),PG (dB X N sc cl C s H ex pn) tg g0/\PF (dB X N sc cl C s H ex pn) tests (tT X.K bE ft)/\PE (dB X N sc cl C s H ex pn) el (tE X.K bE f))
 (hs:∀x,ô src X.env x=pure x:=by intro _;rfl):PE X (.ListComp el [⟨tg,src,tests,0⟩] sc ps) (tE X.K Ξ (aU nt cap it gd ft f)) :=
 cN (Ha hc S T.i9 hi hY hs) fun σ H Q h=>wF T.imp (λR R' i h=>wV R R' i h) (G2 σ H Q h)
def H9 {sc:abf} {ps pos':Pos} {N:List Str} {nt:Nat} {cap:List Nat} {it:Env->ag->Res (List D)} {gd:D->Env->Option Env} {g0:TG} (i0:Nat) {x0:Str} (mO:X.N.Nodup) (hc:X.calm=true) (S:mm X sc N nt cap) (T:Tg X.K g0 gd nt) (hi:PI X tg src (cZ X.K Ξ it))
  (hY:∀(cl:List (Str×á)) (C:á) (s:É) (H:Hp) (ex:List á) (pn:List (á×Obj)),PG (dB X N sc cl C s H ex pn) tg g0/\PF (dB X N sc cl C s H ex pn) tests (tT X.K bE ft)/\PE (dB X N sc cl C s H ex pn) el (tE X.K bE f))
  (mP:X.N[i0]?=some x0:=by rfl) (mQ:Loc X.env.scope x0:=by first|exact ť rfl|exact Or.inr rfl)
  (hs:∀x,ô src X.env x=pure x:=by intro _;rfl)
  (mR:abv (.ListComp el [⟨tg,src,tests,0⟩] sc ps) (some (.Name x0 pos')) pos.line X.env=pure true:=by rfl)
  (mS:X.fn x0=true\/X.env.scope.names.lookup x0=some .local:=by first|exact .inl rfl|exact .inr rfl):PS X (.Assign [.Name x0 pos'] (.ListComp el [⟨tg,src,tests,0⟩] sc ps) pos) (tS X.K Ξ (aJ (aU nt cap it gd ft f) (gN i0))) :=
 jg (Hb mO mP mQ hc S T.i9 hi hY hs mR mS) λD σ H h=>by
  have h2:=wL (te:=tE X.K Ξ f) D σ H (tF D σ H h);exact wF T.imp (λR R' i h=>wV R R' i h) (G2 σ H _ h2)
def Hc (hc:X.calm=true) (S:mm X sc N nt cap) (T:Tg X.K g0 gd nt) (hi:PI X tg src (cZ X.K Ξ it))
 (hY:∀(cl:List (Str×á)) (C:á) (s:É) (H:Hp) (ex:List á) (pn:List (á×Obj)),PG (dB X N sc cl C s H ex pn) tg g0/\PF (dB X N sc cl C s H ex pn) tests (tT X.K bE ft)/\PE (dB X N sc cl C s H ex pn) el (tE X.K bE f))
 (hs:∀x,ô src X.env x=pure x:=by intro _;rfl):PE X (.ListComp el [⟨tg,src,tests,0⟩] sc ps) (tE X.K Ξ (mj nt cap it gd ft f)) :=
 cN (Ha hc S T.i9 hi hY hs) fun σ H Q h=>wF T.imp (λR R' i h=>wV R R' i h) (Gq σ H Q h)
def QC {sc:abf} {ps pos':Pos} {N:List Str} {nt:Nat} {cap:List Nat} {it:Env->ag->Res (List D)} {gd:D->Env->Option Env} {g0:TG} (i0:Nat) {x0:Str} (mO:X.N.Nodup) (hc:X.calm=true) (S:mm X sc N nt cap) (T:Tg X.K g0 gd nt) (hi:PI X tg src (cZ X.K Ξ it))
  (hY:∀(cl:List (Str×á)) (C:á) (s:É) (H:Hp) (ex:List á) (pn:List (á×Obj)),PG (dB X N sc cl C s H ex pn) tg g0/\PF (dB X N sc cl C s H ex pn) tests (tT X.K bE ft)/\PE (dB X N sc cl C s H ex pn) el (tE X.K bE f))
  (mP:X.N[i0]?=some x0:=by rfl) (mQ:Loc X.env.scope x0:=by first|exact ť rfl|exact Or.inr rfl)
  (hs:∀x,ô src X.env x=pure x:=by intro _;rfl)
  (mR:abv (.ListComp el [⟨tg,src,tests,0⟩] sc ps) (some (.Name x0 pos')) pos.line X.env=pure true:=by rfl)
  (mS:X.fn x0=true\/X.env.scope.names.lookup x0=some .local:=by first|exact .inl rfl|exact .inr rfl):PS X (.Assign [.Name x0 pos'] (.ListComp el [⟨tg,src,tests,0⟩] sc ps) pos) (tS X.K Ξ (aJ (mj nt cap it gd ft f) (gN i0))) :=
 jg (Hb mO mP mQ hc S T.i9 hi hY hs mR mS) λD σ H h=>by
  have h2:=wL (te:=tE X.K Ξ f) D σ H (tF D σ H h);exact wF T.imp (λR R' i h=>wV R R' i h) (Gq σ H _ h2)
end
end DI
namespace L2
open PySem PySem.Spec PyProof.Rows
section
variable {X:Cx} {tg:ļ}
def Ia (h:-1<=i):ŕ i (-1) (-1)=i+1:=by
 unfold ŕ;simp;omega
def VZ (ta:TA):TI:=fun σ H R=>ta σ H λvs H1=>∃i:Int,vs=[.int i,.int (-1),.int (-1)]/\-1<=i/\i<1000000/\R (yr (i+1).toNat) H1
def O5 {a b c:ļ} {ta:TA} {p pos:Pos} (hg:Gl X "range") (hm:X.mg "range"=none) (ha:PA X [a,b,c] ta) (hs:Þ [a,b,c] X.env=[(false,ţ a X.env),(false,ţ b X.env),(false,ţ c X.env)]:=by rfl) (bZ:Þ [b,c] X.env=[(false,ţ b X.env),(false,ţ c X.env)]:=by rfl) :
  PI X tg (.Call (.Name "range" p) [a,b,c] [] pos) (VZ ta):=by
 intro π s σ H R I h;refine Call_ (lE I hg hm boot_range (Ĩ (aD (ha pos π s σ H _ I h) λus s1 az=>?_) (by rw[hs,bZ]) (by rw[bZ];rfl)));obtain⟨vs,H1,I1,r1,q1⟩:=az;obtain⟨i,e,q1,q2,q⟩:=q1;subst e
 cases r1 with
 |cons r rr =>
  cases rr with
  |cons r' rr =>
   cases rr with
   |cons YE rr =>
    cases rr;obtain⟨t,rfl⟩:=r;obtain⟨t',rfl⟩:=r';obtain⟨zc,rfl⟩:=YE;refine call_range_3 (by decide) ?_ (.inl (PyProof.noPylong_small (by omega)));refine wpAny_pyIter_range (IsRange.new ..) ?_ ?_
    ·unfold Builtin.Range.small
     rw[Ia q1];simp only[Ğ,Ç,ż,È,beq_iff_eq,show ¬ (-1:Int) > 0 by decide,ê];omega
    ·have I2:Inv X π σ H1 { s1 with heap:=s1.heap.push { cls:=.type "range",data:=.fields #[.int i t,.int (-1) t',.int (-1) zc] },toks:=s1.toks }:=I1.kept λb o e=>Á _ e
     rw[Ia q1];refine⟨(s1.heap.push { cls:=.type "range",data:=.fields #[.int i t,.int (-1) t',.int (-1) zc] }).objs.size,[(s1.heap.push { cls:=.type "range",data:=.fields #[.int i t,.int (-1) t',.int (-1) zc] }).objs.size],_,_,H1,rfl,
      I2.kept (t':=s1.toks) λb o e=>Á _ e,G0 _ (i+1).toNat,?_,λb hb=>?_,q⟩
     ·have e1:(((i+1).toNat:Nat):Int)-1+((0:Nat):Int)*(-1)=i:=by simp;omega
      have e2:(((i+1).toNat:Nat):Int)-((0:Nat):Int)=i+1:=by simp;omega
      show IsRangeIter _ _ ((((i+1).toNat:Nat):Int)-1+((0:Nat):Int)*(-1)) ((((i+1).toNat:Nat):Int)-((0:Nat):Int)) (-1);rw[e1,e2];exact Ì _ rfl
     ·have e:b=(s1.heap.push { cls:=.type "range",data:=.fields #[.int i t,.int (-1) t',.int (-1) zc] }).objs.size:=by simpa using hb
      subst e;exact I2.lL (Nat.le_refl _) (I2.aE.fresh (Nat.le_refl _))
end
end L2
namespace DI
open PySem L2
section
variable {X:Cx} {Ξ:Wd->bq->Prop} {a b c tg:ļ} {pos:Pos} {fa:Env->ag->Res (List D)}
def D6 (fa:Env->ag->Res (List D)):Env->ag->Res (List D):=λenv s=>ao (fa env s) λds s=>match ds with
 | [.int i,.int (-1),.int (-1)]=>if (decide (-1<=i)&&decide (i<1000000))=true then ok (ph (i+1).toNat) s else none
 |_=>none
def Uw {p:Pos} (hg:Gl X "range") (hm:X.mg "range"=none) (ha:PA X [a,b,c] (tA X.K Ξ fa)) (hs:Þ [a,b,c] X.env=[(false,ţ a X.env),(false,ţ b X.env),(false,ţ c X.env)]:=by rfl) (bZ:Þ [b,c] X.env=[(false,ţ b X.env),(false,ţ c X.env)]:=by rfl):PI X tg (.Call (.Name "range" p) [a,b,c] [] pos) (cZ X.K Ξ (D6 fa)) :=
 oU (O5 hg hm ha hs bZ) fun σ H R az=>by
  obtain⟨w,env,eH,S,eo,h⟩:=az;subst eH;refine⟨w,env,rfl,S,eo,(Out.ao h).mono λw1 ds l1 S1 h1 vs aq=>?_⟩;split at h1
  ·rename_i i
   split at h1
   ·rename_i hj
    simp only[Ç,È] at hj;obtain⟨v,r,rfl,dv,v2,r2,rfl,i8,v3,r3,rfl,DC,dr⟩:=aq;have e1:v=.int i:=dv;have e2:v2=.int (-1):=i8;have e3:v3=.int (-1):=DC;have e4:r3=[]:=dr;subst e1 e2 e3 e4;exact⟨i,rfl,hj.1,hj.2,aH S1 h1 _ Ju⟩
   ·exact h1.elim
  ·exact h1.elim
end
end DI
namespace L2
open PySem PySem.Spec PyProof.Rows
section
variable {X:Cx}
end
end L2
namespace DI
open PySem L2
section
variable {X:Cx} {Ξ:Wd->bq->Prop} {a:ļ} {p pos:Pos} {fa:Env->ag->Res (List D)}
end
section
variable {X:Cx} {Ξ:Wd->bq->Prop} {a:ļ} {p pos:Pos} {f g:Env->ag->Res D} {fa:Env->ag->Res (List D)}
def ar.erase:∀{ds:List D} {xs:List V} (j:Nat),ar K w ds xs->ar K w (ds.eraseIdx j) (xs.eraseIdx j)
 | [],xs,j,h=>by
  have e:xs=[]:=h;subst e;exact h
 |d::ds,xs,0,h=>by
  obtain⟨v,r,rfl,_,dr⟩:=h;exact dr
 |d::ds,xs,j+1,h=>by
  obtain⟨v,r,rfl,dv,dr⟩:=h;exact⟨v,r.eraseIdx j,rfl,dv,ar.erase j dr⟩
end
open HT PyProof.Rows
section
variable {X:Cx} {Ξ:Wd->bq->Prop}
def O6 (h:Vals xs us):∀{q:List Nat},(∀i∈q,i<us.length)->Vals (q.map λi=>xs.getD i .au) (q.map λi=>us.getD i Value.none):=by
 intro q
 induction q with
 |nil=>intro _;exact .nil
 |cons i q ih =>
  intro hq;refine .cons ?_ (ih λj hj=>hq j (Ñ _ hj));have hi:=hq i Ò;clear ih hq
  induction h generalizing i with
  |nil=>simp at hi
  |cons a _ ih =>
   cases i with
   |zero=>exact a
   |succ i=>simpa using ih i (by simpa using hi)
def QD {K:Ĳ} {w:Wd} {ds:List D} {xs:List V} (h:ar K w ds xs):∀{q:List Nat},(∀i∈q,i<ds.length)->ar K w (q.map λi=>ds.getD i .au) (q.map λi=>xs.getD i .au):=by
 intro q
 induction q with
 |nil=>intro _;exact rfl
 |cons i q ih =>
  intro hq;have hi:=hq i Ò;obtain⟨v,e,dv⟩:=h.get' i _ (Ð hi);refine⟨_,_,rfl,?_,ih λj hj=>hq j (Ñ _ hj)⟩;have e1:ds.getD i .au=ds[i]:=by simp[hi]
  have e2:xs.getD i .au=v:=by simp[e]
  show DV K w (ds.getD i .au) (xs.getD i .au);rw[e1,e2];exact dv
def QE {α:Type} {O:ST.Ord α} {ks:List α} {f:α->D} {d:α} {q:Array Nat} (hp:ST.Pm ks.length q) (hu:ST.Up O (ST.ky (λi=>ks.getD i d) q) ks.length):q.toList.map (λi=>(ks.map f).getD i .au)=(ST.jO O ks).map f:=by
 rw[<- ST.O2 hp hu,Ē];refine aaP λi hi=>?_;have:i<ks.length:=Ā.mp (hp.2.mem_iff.mp hi);simp[this]
end
end DI
namespace TK
open PySem PySem.W PyProof.Rows DI
mutual
noncomputable def kd:D->Bool
 | .int _=>true
 | .str x=>abB x
 | .tup ks=>cV ks
 |_=>false
noncomputable def cV:List D->Bool
 | []=>true
 |k::ks=>kd k&&cV ks
end
mutual
def KA (h:ŏ):D->Í->Prop
 | .int i,v=>∃t,v=.int i t
 | .str x,v=>∃t,v=.str x t
 | .tup ks,v=>∃a o its n,v=.ref a/\h.get? a=some o/\o.cls=.type "tuple"/\o.data=.seq its n/\cW h ks its.toList
 |_,_=>False
def cW (h:ŏ):List D->List Í->Prop
 | [],vs=>vs=[]
 |k::ks,vs=>∃v r,vs=v::r/\KA h k v/\cW h ks r
end
mutual
def oV:∀k:D,kd k=true->lay k=true
 | .int _,_=>rfl
 | .str _,h=>h
 | .tup ks,h=>by simp only[kd] at h;simp only[lay];exact wY ks h
 | .au,h=>by cases h
 | .bl _,h=>by cases h
 | .lst _,h=>by cases h
 | .aZ _,h=>by cases h
 | .aj _,h=>by cases h
 | .ty _,h=>by cases h
 | .bC _,h=>by cases h
def wY:∀ks:List D,cV ks=true->cD ks=true
 | [],_=>rfl
 |k::ks,h=>by
  simp only[cV,cD,Ç] at h |-;exact⟨oV k h.1,wY ks h.2⟩
end
mutual
def qZ:∀x y:D,kd x=true->kd y=true->(beq x y=true↔x=y)
 | .int i,.int j,_,_=>by simp[beq]
 | .str i,.str j,_,_=>by simp[beq]
 | .tup xs,.tup ys,h,g=>by
  simp only[kd] at h g;simp only[beq,Af xs ys h g];exact⟨λe=>by rw[e],λe=>by injection e⟩
 | .int _,.str _,_,_=>by simp[beq]
 | .int _,.tup _,_,_=>by simp[beq]
 | .str _,.int _,_,_=>by simp[beq]
 | .str _,.tup _,_,_=>by simp[beq]
 | .tup _,.int _,_,_=>by simp[beq]
 | .tup _,.str _,_,_=>by simp[beq]
 | .au,_,h,_=>by cases h
 | .bl _,_,h,_=>by cases h
 | .lst _,_,h,_=>by cases h
 | .aZ _,_,h,_=>by cases h
 | .aj _,_,h,_=>by cases h
 | .ty _,_,h,_=>by cases h
 | .bC _,_,h,_=>by cases h
 |_,.au,_,h=>by cases h
 |_,.bl _,_,h=>by cases h
 |_,.lst _,_,h=>by cases h
 |_,.aZ _,_,h=>by cases h
 |_,.aj _,_,h=>by cases h
 |_,.ty _,_,h=>by cases h
 |_,.bC _,_,h=>by cases h
def Af:∀xs ys:List D,cV xs=true->cV ys=true->(ib xs ys=true↔xs=ys)
 | [],[],_,_=>by simp[ib]
 | [],_::_,_,_=>by simp[ib]
 |_::_,[],_,_=>by simp[ib]
 |x::xs,y::ys,h,g=>by
  simp only[cV,Ç] at h g;simp only[ib,Ç,qZ x y h.1 g.1,Af xs ys h.2 g.2,aa4]
end
mutual
def KA.reads:∀(k:D) (v:Í),KA h k v->∃as,Reads h v (py k) as
 | .int i,v,q=>by obtain⟨t,rfl⟩:=q;exact⟨_,.int i t⟩
 | .str x,v,q=>by obtain⟨t,rfl⟩:=q;exact⟨_,.str x t⟩
 | .tup ks,v,q=>by
  simp only[KA] at q;obtain⟨a,o,its,n,rfl,ho,hc,hd,r⟩:=q;obtain⟨as,r⟩:=cW.reads ks _ r;exact⟨as,.tuple ho hc hd r⟩
 | .au,_,q=>by cases q
 | .bl _,_,q=>by cases q
 | .lst _,_,q=>by cases q
 | .aZ _,_,q=>by cases q
 | .aj _,_,q=>by cases q
 | .ty _,_,q=>by cases q
 | .bC _,_,q=>by cases q
def cW.reads:∀(ks:List D) (vs:List Í),cW h ks vs->∃as,ReadsAll h vs (bN ks) as
 | [],vs,q=>by cases q;exact⟨_,.nil⟩
 |k::ks,vs,q=>by
  obtain⟨v,r,rfl,h1,h2⟩:=q;obtain⟨as,h1⟩:=KA.reads k v h1;obtain⟨bs,h2⟩:=cW.reads ks r h2;exact⟨_,.cons h1 h2⟩
end
def Ux (q:KA h y (.int i t)):y=.int i:=by
 cases y with
 |int j=>obtain⟨_,e⟩:=q;cases e;rfl
 |str j=>obtain⟨_,e⟩:=q;cases e
 |tup ks=>simp only[KA] at q;obtain⟨_,_,_,_,e,_⟩:=q;cases e
 |_=>cases q
def Uy (q:KA h y (.str i t)):y=.str i:=by
 cases y with
 |str j=>obtain⟨_,e⟩:=q;cases e;rfl
 |int j=>obtain⟨_,e⟩:=q;cases e
 |tup ks=>simp only[KA] at q;obtain⟨_,_,_,_,e,_⟩:=q;cases e
 |_=>cases q
def Uz (q:KA h y (.ref a)):∃ks o its n,y=.tup ks/\h.get? a=some o/\o.cls=.type "tuple"/\o.data=.seq its n/\cW h ks its.toList:=by
 cases y with
 |str j=>obtain⟨_,e⟩:=q;cases e
 |int j=>obtain⟨_,e⟩:=q;cases e
 |tup ks =>
  simp only[KA] at q;obtain⟨_,o,its,n,e,r⟩:=q;cases e;exact⟨ks,o,its,n,rfl,r⟩
 |_=>cases q
mutual
def KA.inj:∀(x y:D) (v:Í),KA h x v->KA h y v->x=y
 | .int i,y,v,p,q=>by
  obtain⟨t,rfl⟩:=p;exact(Ux q).symm
 | .str i,y,v,p,q=>by
  obtain⟨t,rfl⟩:=p;exact(Uy q).symm
 | .tup xs,y,v,p,q=>by
  simp only[KA] at p;obtain⟨a,o,its,n,rfl,ho,hc,hd,r⟩:=p;obtain⟨ks,o',its',n',rfl,cY,i5,dY,r'⟩:=Uz q;cases ho.symm.trans cY;cases hd.symm.trans dY;rw[cW.inj xs _ _ r r']
 | .au,_,_,q,_=>by cases q
 | .bl _,_,_,q,_=>by cases q
 | .lst _,_,_,q,_=>by cases q
 | .aZ _,_,_,q,_=>by cases q
 | .aj _,_,_,q,_=>by cases q
 | .ty _,_,_,q,_=>by cases q
 | .bC _,_,_,q,_=>by cases q
def cW.inj:∀(xs ys:List D) (vs:List Í),cW h xs vs->cW h ys vs->xs=ys
 | [],ys,vs,p,q=>by
  cases p
  cases ys with
  |nil=>rfl
  |cons y ys=>obtain⟨_,_,e,_⟩:=q;cases e
 |x::xs,ys,vs,p,q=>by
  obtain⟨v,r,rfl,h1,h2⟩:=p
  cases ys with
  |nil=>cases q
  |cons y ys =>
   obtain⟨v',r',e,g1,g2⟩:=q;cases e;rw[KA.inj x y v h1 g1,cW.inj xs ys r h2 g2]
end
mutual
def KA.keep (hk:∀a o,h.get? a=some o->o.cls=.type "tuple"->(∃its n,o.data=.seq its n)->h'.get? a=some o):∀(x:D) (v:Í),KA h x v->KA h' x v
 | .int i,v,p=>p
 | .str i,v,p=>p
 | .tup xs,v,p=>by
  simp only[KA] at p |-;obtain⟨a,o,its,n,e,ho,hc,hd,r⟩:=p;exact⟨a,o,its,n,e,hk a o ho hc ⟨its,n,hd⟩,hc,hd,cW.keep hk xs _ r⟩
 | .au,_,q=>by cases q
 | .bl _,_,q=>by cases q
 | .lst _,_,q=>by cases q
 | .aZ _,_,q=>by cases q
 | .aj _,_,q=>by cases q
 | .ty _,_,q=>by cases q
 | .bC _,_,q=>by cases q
def cW.keep (hk:∀a o,h.get? a=some o->o.cls=.type "tuple"->(∃its n,o.data=.seq its n)->h'.get? a=some o):∀(xs:List D) (vs:List Í),cW h xs vs->cW h' xs vs
 | [],vs,p=>p
 |x::xs,vs,p=>by
  obtain⟨v,r,e,h1,h2⟩:=p;exact⟨v,r,e,KA.keep hk x v h1,cW.keep hk xs r h2⟩
end
def Ib (h:k∈ks):dep k<=cz ks:=by
 induction ks with
 |nil=>cases h
 |cons x xs ih =>
  simp only[cz]
  rcases Ó.mp h with rfl|h
  ·exact Nat.le_max_left _ _
  ·exact Û (ih h) (abE _ _)
mutual
noncomputable def hs (w:ď):D->Int
 | .int i=>hashInt i
 | .str x=>hashStr w x
 | .tup ks=>reduceHash (aaJ (l8 w ks))
 |_=>0
noncomputable def l8 (w:ď):List D->List Int
 | []=>[]
 |k::ks=>hs w k::l8 w ks
end
mutual
noncomputable def dr:D->Nat
 | .int _=>1
 | .str _=>1
 | .tup ks=>kY ks+1
 |_=>0
noncomputable def kY:List D->Nat
 | []=>0
 |k::ks=>dr k+kY ks
end
def Ic (w:ď) (xs ys:List D):l8 w (xs++ys)=l8 w xs++l8 w ys:=by
 induction xs with
 |nil=>rfl
 |cons x xs ih=>simp only[ċ,l8,ih]
def Ie (xs ys:List D):kY (xs++ys)=kY xs+kY ys:=by
 induction xs with
 |nil=>simp[kY]
 |cons x xs ih=>simp only[ċ,kY,ih,aa5]
section
variable {prog:ù} {w:ď}
def QG (hu:A.units<abP) (ho:s.heap.get? a=some o) (hc:o.cls=.type "tuple") (hd:o.data=.seq items m) (hi:cW s.heap ks items.toList)
 (ih:∀k∈ks,∀(A':đ) (s':É) (v:Í) (E':Í->É->Prop) (Q':Int->É->Prop),A'.units<=A.units+1->KA s'.heap k v->Q' (hs w k) { s' with toks:=s'.toks+dr k }->à (ø prog w) A' (pyHash v) Q' E' s')
 (h:Q (hs w (.tup ks)) { s with toks:=s.toks+dr (.tup ks) }):à (ø prog w) A (pyHash (.ref a)) Q E s:=by
 have hT:s.TypeIs (.ref a) "tuple":=⟨o,ho,hc⟩;unfold pyHash
 first|unfold pyHashByItsType|skip
 first|refine À (wpAny_cRoomFor_or (.inr hu) ?_)|skip
 refine À (abW hT abn.lookup ?_)
 show à _ _ (if (some (Value.builtin "tuple.__hash__")==some Value.none)=true then _ else _) Q E s
 rw[æ (by rw[beq_builtin_none];exact Ë)];refine À (abW hT abn.lookup ?_);show à _ _ (callSpecialIfBoundUnlessNone? (.ref a) "__hash__" _ >>= _) Q E s;refine À (wpAny_callSpecialIfBoundUnlessNone?_slot hT abn (Ą abn hT F.entry_tuple_hash ?_ (F.args_tuple_hash_1 _)));show à _ _ (ŧ (.ref a) >>= _) _ _ s;refine À (wpAny_tupleItemsOf ho hd ?_);refine À ?_;rw[<- Array.forIn_toList];refine wpAny_forIn_list _
  (λrest (b:Array Int) s'=>∃done left,ks=done++left/\cW s.heap left rest/\b.toList=l8 w done/\s'={ s with toks:=s.toks+kY done })
  _ ?_ ?_ _ _ ⟨[],ks,rfl,hi,rfl,rfl⟩
 ·rintro x rest b s' ⟨done,left,e,hl,hb,rfl⟩
  cases left with
  |nil=>cases hl
  |cons k left =>
   obtain⟨x',r',ex,h1,ou⟩:=hl;cases ex
   refine À (ih k (by rw[e];simp) _ { s with toks:=s.toks+kY done } _ _ _ ?_ h1 ?_)
   ·exact Nat.le_refl _
   ·first
     |exact Â ⟨done++[k],left,by simp[e],ou,by simp[hb,Ic,l8],by simp[aa5,Ie,kY]⟩
     |exact À (Â (Â ⟨done++[k],left,by simp[e],ou,by simp[hb,Ic,l8],by simp[aa5,Ie,kY]⟩))
 ·rintro b s' ⟨done,left,e,hl,hb,rfl⟩
  cases left with
  |cons k left=>obtain⟨_,_,ex,_⟩:=hl;cases ex
  |nil =>
  rw[Ō] at e;subst e;simp only[hs,dr] at h;show à _ _ (retInt (aaJ b.toList)) _ _ _;rw[hb];generalize aaJ (l8 w ks)=z at h |-;refine wpAny_ret_mkInt ?_
  show à _ _ (if (decide (-(2:Int) ^ 63<=z)&&decide (z<2 ^ 63))=true then _ else _) Q E _
  unfold reduceHash at h;by_cases hr:(decide (-(2:Int) ^ 63<=z)&&decide (z<2 ^ 63))=true
  ·rw[Ú hr]
   rw[Ú hr] at h;exact Â (by simpa [aa5] using h)
  ·rw[æ hr]
   rw[æ hr] at h;exact À (ś (Â (by simpa [aa5] using h)))
def Sm:∀(n:Nat) (k:D),dep k<=n->∀(A:đ) (s:É) (v:Í) (E:Í->É->Prop) (Q:Int->É->Prop),KA s.heap k v->A.units+n<abP->Q (hs w k) { s with toks:=s.toks+dr k }->à (ø prog w) A (pyHash v) Q E s:=by
 intro n
 induction n with
 |zero =>
  intro k hn A s v E Q q hu h
  cases k with
  |int i=>obtain⟨t,rfl⟩:=q;exact wpAny_pyHash_int h
  |str i=>obtain⟨t,rfl⟩:=q;exact wpAny_pyHash_str h
  |tup ks=>simp[dep] at hn
  |_=>cases q
 |succ n ih =>
  intro k hn A s v E Q q hu h
  cases k with
  |int i=>obtain⟨t,rfl⟩:=q;exact wpAny_pyHash_int h
  |str i=>obtain⟨t,rfl⟩:=q;exact wpAny_pyHash_str h
  |tup ks =>
   simp only[dep] at hn;simp only[KA] at q;obtain⟨a,o,items,m,rfl,ho,hc,hd,hi⟩:=q;exact QG (by omega) ho hc hd hi (λk hk A' s' v E' Q' hA q' h'=>ih k (by have:=Ib hk;omega) A' s' v E' Q' q' (by omega) h') h
  |_=>cases q
def QH:∀(n:Nat) (k:D),dep k<=n->∀{A:đ} {s:É} {v:Í} {E:Í->É->Prop} {Q:Bool->É->Prop},KA s.heap k v->Q true s->à (ø prog w) A (eqIsQuiet n v) Q E s:=by
 intro n
 induction n with
 |zero =>
  intro k hn A s v E Q q h
  cases k with
  |int i=>obtain⟨t,rfl⟩:=q;rw[abo _ rfl];exact Â h
  |str i=>obtain⟨t,rfl⟩:=q;rw[abo _ rfl];exact Â h
  |tup ks=>simp[dep] at hn
  |_=>cases q
 |succ n ih =>
  intro k hn A s v E Q q h
  cases k with
  |int i=>obtain⟨t,rfl⟩:=q;rw[abo _ rfl];exact Â h
  |str i=>obtain⟨t,rfl⟩:=q;rw[abo _ rfl];exact Â h
  |tup ks =>
   simp only[dep] at hn;simp only[KA] at q;obtain⟨a,o,items,m,rfl,ho,hc,hd,hi⟩:=q;have hT:s.TypeIs (.ref a) "tuple":=⟨o,ho,hc⟩;unfold eqIsQuiet;refine À (abW hT F.slot_tuple_eq.lookup ?_);show à _ _ (isInstance (.ref a) (.type "tuple") >>= _) _ _ s;refine À (aaL hT isSubtype_tuple_tuple ?_);simp only[ë,Ã,ê];refine À (Ě ho hd ?_);refine À ?_;show à _ _ (forIn items _ _) _ _ s;rw[<- Array.forIn_toList];refine wpAny_forIn_list _ (λrest r s'=>r.1=none/\s'=s/\∃left,cW s.heap left rest/\∀k∈left,dep k<=n) _ ?_ ?_ _ _ ⟨rfl,rfl,ks,hi,λk hk=>by have:=Ib hk;omega⟩
   ·rintro v rest r s' ⟨hr,rfl,left,hl,cu⟩
    cases left with
    |nil=>cases hl
    |cons k left =>
     obtain⟨x',r',ex,h1,ou⟩:=hl;cases ex;refine À (ih k (cu k Ò) h1 ?_);simp only[ë,Ã,ê];exact Â ⟨rfl,rfl,left,ou,λu YF=>cu u (Ñ _ YF)⟩
   ·rintro ⟨r1,r2⟩ s' ⟨hr,rfl,_⟩
    simp only at hr;subst hr;exact Â h
  |_=>cases q
def zd (h:ŏ) (ks:List D) (a:á):Prop:=cV ks=true/\cz ks<=6/\KA h (.tup ks) (.ref a)
noncomputable instance aal:DecidableEq (List D):=λa b=>Classical.propDecidable (a=b)
def UA (hu:A.units+10<abP) (hx:zd s.heap x a) (hy:zd s.heap y b) (h:Q (decide (x=y)) s):à (ø prog w) A (PySem.eqBool (.ref a) (.ref b)) Q E s:=by
 obtain⟨k1,d1,r1⟩:=hx;obtain⟨k2,d2,r2⟩:=hy;obtain⟨as,r1⟩:=KA.reads _ _ r1;obtain⟨bs,r2⟩:=KA.reads _ _ r2;have l1:lay (.tup x)=true:=by simp only[lay];exact wY x k1
 have l2:lay (.tup y)=true:=by simp only[lay];exact wY y k2
 obtain⟨p1,p2⟩:=kh _ l1;obtain⟨q1,q2⟩:=kh _ l2;have e:=SeqAt.eqAt_reads _ _ A s _ _ as bs r1 r2 p1 q1 (by rw[p2,q2];simp only[dep];omega);rw[qX _ _ l1 l2] at e;refine e prog w E Q ?_;have:beq (.tup x) (.tup y)=decide (x=y):=by
  have:=Af x y k1 k2;simp only[beq]
  cases hb:ib x y with
  |true=>exact(Ý (this.mp hb)).symm
  |false=>exact(ñ λz=>by rw[this.mpr z] at hb;cases hb).symm
 rw[this];exact h
def kind (prog:ù) (w:ď):HeapKind prog w (List D) where
 is:=zd
 hash:=λks=>hs w (.tup ks)
 draws:=λks=>dr (.tup ks)
 room:=λA=>A.units+10<abP
 inj:=λhx hy=>by have:=KA.inj _ _ _ hx.2.2 hy.2.2;injection this
 keeps:=λ{h h' k a d o es ep} x ho hd hs=>⟨x.1,x.2.1,KA.keep (λb u hb hc hq=>(hs.2 b (λe=>by
  subst e;rw[ho] at hb;cases hb;obtain⟨_,_,hq⟩:=hq;rw[hd] at hq;cases hq)).trans hb) _ _ x.2.2⟩
 pyHash:=λhu hk h=>Sm 7 _ (by simp only[dep];have:=hk.2.1;omega) _ _ _ _ _ hk.2.2 (by omega) h
 eqBool:=λhu hx hy h=>UA hu hx hy h
 quiet:=λhk h=>QH 8 _ (by simp only[dep];have:=hk.2.1;omega) hk.2.2 h
end
end TK
namespace TK
open PySem PySem.W PyProof.Rows DI L2
def DX.hX (h1 h2:ŏ) (h:DX a es h1) (k:∀o,h1.get? a=some o->h2.get? a=some o):DX a es h2:=by
 obtain⟨z,o,xs,ep,ho,r⟩:=h;exact⟨z,o,xs,ep,k o ho,r⟩
def J9 (x:DX a es h):cF P w H h a (.ext (DX a es)):=by
 obtain⟨z,o,xs,ep,ho,r⟩:=id x;exact⟨x,⟨o,ho⟩,DX.hX⟩
def AllK (w:ď) (ai:List (D×Int)):Prop:=∀p∈ai,∃ks,p.1=.tup ks/\cV ks=true/\cz ks<=6/\p.2=hs w p.1
noncomputable def its:D->List D
 | .tup ks=>ks
 |_=>[]
def XS:List (D×Int)->List á->List (List D×á×Í)
 |p::r,a::as=>(its p.1,a,.bool true)::XS r as
 |_,_=>[]
def UB:∀{as:List á},ai.length=as.length->∀(p:D×Int) (a:á),XS (ai++[p]) (as++[a])=XS ai as++[(its p.1,a,.bool true)]:=by
 induction ai with
 |nil =>
  intro as e p a
  cases as with
  |nil=>rfl
  |cons _ _=>simp at e
 |cons q r ih =>
  intro as e p a
  cases as with
  |nil=>simp at e
  |cons b as =>
   simp only[ċ,XS];rw[ih (by simpa using e)]
def UC:∀{as:List á},ai.length=as.length->(XS ai as).length=ai.length:=by
 induction ai with
 |nil=>intro as e;cases as<;>rfl
 |cons q r ih =>
  intro as e
  cases as with
  |nil=>simp at e
  |cons b as=>simp only[XS,å,ih (by simpa using e)]
def Ig:∀{as:List á},AllK w ai->ai.length=as.length->(XS ai as).map (λx=>D.tup x.1)=ai.map (·.1):=by
 induction ai with
 |nil=>intro as _ e;cases as<;>rfl
 |cons q r ih =>
  intro as k e
  cases as with
  |nil=>simp at e
  |cons b as =>
   obtain⟨ks,e1,_⟩:=k q Ò;simp only[XS,Ö,ih (λp hp=>k p (Ñ _ hp)) (by simpa using e),e1,its]
def Hd:∀{as:List á},AllK w ai->ai.length=as.length ->
  (((ai.map (·.2)).zip as).map λp=>(⟨p.1,.ref p.2,.bool true⟩:ab9))=(XS ai as).map (entryOfKey (kind P w)):=by
 induction ai with
 |nil=>intro as _ e;cases as<;>rfl
 |cons q r ih =>
  intro as k e
  cases as with
  |nil=>simp at e
  |cons b as =>
   obtain⟨ks,e1,_,_,e2⟩:=k q Ò;simp only[XS,Ö,ı,ih (λp hp=>k p (Ñ _ hp)) (by simpa using e)];rw[e2,e1];rfl
section
variable {X:Cx} {π:List (á×Obj)} {σ:L2.St} {s:É} {w:Wd}
mutual
def BL (I:Inv X π σ w.H s):∀(d:D) (v:V) (u:Í),kd d=true->DI.DV X.K w d v->RelV v u->KA s.heap d u
 | .int i,v,u,_,h,r=>by cases h;exact r
 | .str x,v,u,_,h,r=>by cases h;exact r
 | .tup ds,v,u,k,h,r=>by
  simp only[DI.DV] at h;obtain⟨a,xs,rfl,hq,dv⟩:=h;cases r;obtain⟨its,r1,⟨o,ho,hc,n,hd⟩,_⟩:=I.tuple hq;simp only[kd] at k;simp only[KA];exact⟨a,o,_,n,rfl,ho,hc,hd,Bf I ds xs _ k dv (by simpa using r1)⟩
 | .au,_,_,k,_,_=>by cases k
 | .bl _,_,_,k,_,_=>by cases k
 | .lst _,_,_,k,_,_=>by cases k
 | .aZ _,_,_,k,_,_=>by cases k
 | .aj _,_,_,k,_,_=>by cases k
 | .ty _,_,_,k,_,_=>by cases k
 | .bC _,_,_,k,_,_=>by cases k
def Bf (I:Inv X π σ w.H s):∀(ds:List D) (vs:List V) (us:List Í),cV ds=true->DI.ar X.K w ds vs->Vals vs us->cW s.heap ds us
 | [],vs,us,_,h,r=>by cases h;cases r;rfl
 |d::ds,vs,us,k,h,r=>by
  obtain⟨v,r',rfl,h1,h2⟩:=h;simp only[cV,Ç] at k
  cases r with
  |cons r rs=>exact⟨_,_,rfl,BL I d v _ k.1 h1 r,Bf I ds r' _ k.2 h2 rs⟩
end
def V0 (I:Inv X π σ w.H s):∀{ai:List (D×Int)} {as:List á},AllK W ai->DI.ar X.K w (ai.map (·.1)) (as.map V.ref)->∀x∈XS ai as,zd s.heap x.1 x.2.1:=by
 intro ai
 induction ai with
 |nil =>
  intro as _ _ x hx
  cases as<;>cases hx
 |cons q r ih =>
  intro as k dv x hx
  cases as with
  |nil=>cases hx
  |cons b as =>
   obtain⟨v,r',e,h1,h2⟩:=dv
   injection e with e1 e2
   subst e1 e2;obtain⟨ks,e1,k1,k2,_⟩:=k q Ò
   rcases Ó.mp hx with rfl|hx
   ·refine⟨by simpa only [e1,its] using k1,by simpa only [e1,its] using k2,?_⟩
    have h1:DI.DV X.K w q.1 (V.ref b):=h1;rw[e1] at h1;simpa only [e1,its] using BL I (.tup ks) (.ref b) (.ref b) (by simpa only [kd] using k1) h1 rfl
   ·exact ih (λp hp=>k p (Ñ _ hp)) h2 x hx
end
def fL (w:ď) (ai:List (D×Int)) (k:D):List (D×Int):=if (ai.any λp=>beq p.1 k)=true then ai else ai++[(k,hs w k)]
def keyOk (w:ď) (p:D×Int):Bool:=match p.1 with
 | .tup ks=>cV ks&&decide (cz ks<=6)&&decide (p.2=hs w p.1)
 |_=>false
def O7 (h:ai.all (keyOk w)=true):AllK w ai:=λp hp=>by
 have:=ý.mp h p hp;unfold keyOk at this;split at this
 ·rename_i ks e
  simp only[Ç,È] at this;exact⟨ks,e,this.1.1,this.1.2,this.2⟩
 ·cases this
def ng (k:AllK w ai) (hk:cV ks=true):(ai.any λp=>beq p.1 (.tup ks))=true↔D.tup ks∈ai.map (·.1):=by
 rw[Ņ,ö];constructor
 ·rintro ⟨p,hp,hb⟩
  obtain⟨ls,e,k1,_⟩:=k p hp;refine⟨p,hp,?_⟩;exact(qZ p.1 (.tup ks) (by rw[e];simpa only [kd] using k1) (by simpa only [kd] using hk)).mp hb
 ·rintro ⟨p,hp,e⟩
  exact⟨p,hp,by rw[e];exact(qZ _ _ (by simpa only [kd] using hk) (by simpa only [kd] using hk)).mpr rfl⟩
def Jw (k:AllK w ai) (e:ai.length=as.length) (ks:List D):ks∈(XS ai as).map (·.1)↔D.tup ks∈ai.map (·.1):=by
 rw[<- Ig k e,ö,ö];exact⟨λ⟨x,hx,e⟩=>⟨x,hx,by rw[e]⟩,λ⟨x,hx,e⟩=>⟨x,hx,by injection e⟩⟩
def MY {xs:List (List D×á×Í)} (h:∀x∈xs,x.2.2=Value.bool true) (k:List D):xs.map (putAt k (.bool true))=xs:=by
 induction xs with
 |nil=>rfl
 |cons x xs ih =>
  rw[Ö,ih λy hy=>h y (Ñ _ hy)];congr 1;unfold putAt;split
  ·obtain⟨a,b,c⟩:=x
   have:=h (a,b,c) Ò;simp only at this;rw[this]
  ·rfl
def Ih:∀(ai:List (D×Int)) (as:List á),∀x∈XS ai as,x.2.2=Value.bool true
 | [],as,x,h=>by cases as<;>cases h
 |p::r,[],x,h=>by cases h
 |p::r,a::as,x,h=>by
  rcases Ó.mp h with rfl|h
  ·rfl
  ·exact Ih r as x h
def O8 {w:ď} {ai:List (D×Int)} {as:List á} (k:AllK w ai) (e:ai.length=as.length) {ks:List D} (hk:cV ks=true) (a:á) :
  storedH (XS ai as) ks a (.bool true)=XS (fL w ai (.tup ks)) (if (ai.any λp=>beq p.1 (.tup ks))=true then as else as++[a]):=by
 unfold fL;by_cases hm:(ai.any λp=>beq p.1 (.tup ks))=true
 ·rw[Ú hm,Ú hm]
  have jz:=(Jw k e ks).mpr ((ng k hk).mp hm)
  cases h:atKey (XS ai as) ks with
  |none =>
   exfalso;obtain⟨x,hx,e'⟩:=ö.mp jz;unfold atKey at h;rw[Option.map_eq_none_iff,List.find?_eq_none] at h;exact h x hx (Ý e')
  |some p=>rw[storedH_old h,MY (Ih ai as)]
 ·rw[æ hm,æ hm]
  have jz:ks∉(XS ai as).map (·.1):=λz=>hm ((ng k hk).mpr ((Jw k e ks).mp z));have h:atKey (XS ai as) ks=none:=by
   unfold atKey;rw[Option.map_eq_none_iff,List.find?_eq_none];intro x hx z;exact jz (ö.mpr ⟨x,hx,Ĭ z⟩)
  rw[storedH_new h,UB e];rfl
def QI (k:AllK w ai) (hk:cV ks=true) (hd:cz ks<=6):AllK w (fL w ai (.tup ks)):=by
 unfold fL;split
 ·exact k
 ·intro p hp
  rcases Ù.mp hp with hp|hp
  ·exact k p hp
  ·rw[Ü.mp hp]
   exact⟨ks,rfl,hk,hd,rfl⟩
def N3 (k:AllK w ai) (hk:cV ks=true) (h:(ai.map (·.1)).Nodup):((fL w ai (.tup ks)).map (·.1)).Nodup:=by
 unfold fL;split
 ·exact h
 ·rename_i hm
  rw[č,aav];refine⟨h,by simp,λa ha b hb=>?_⟩;have:b=.tup ks:=by simpa using hb
  rw[this];intro z;rw[z] at ha;exact hm ((ng k hk).mpr ha)
def kI (w:ď) (d k x:D) (s:ag):Option ag:=match d,k,x with
 | .aj j,.tup ks,.bl true=>match s[j]? with
  |some (.dT ai)=>if (cV ks&&decide (cz ks<=6)&&ai.all (keyOk w)&&decide (ai.length<Õ))=true then some (s.set j (.dT (fL w ai (.tup ks)))) else none
  |_=>none
 |_,_,_=>none
def my (w:ď) (f o i:DI.Env->ag->Res D):DI.Env->ag->Res Fl:=λenv s=>ao (f env s) λx s=>ao (o env s) λd s=>ao (i env s) λn s=>match kI w d n x s with
 |some s'=>ok (.nx env) s'
 |none=>none
def xY:DI.Env->ag->Res D:=λ_ s=>ok (.aj s.length) (s++[.dT []])
section
variable {X:Cx} {Ξ:Wd->bq->Prop} {e o i:ļ} {pos iB:Pos} {f fo fi:DI.Env->ag->Res D}
def Sn:PE X (.Dict [] [] pos) (λ_ H Q=>∀p,H p=none->Q (.ref p) (upd H p (.ext (DX p [])))):=λπ s σ H Q I h=>by
 refine wpAny_Dict_empty ⟨.ref s.heap.objs.size,_,I.laid (a:=s.heap.objs.size) (o:=.ext (DX s.heap.objs.size [])) (t':=s.toks) (λ_ _ q=>Á _ q) (Nat.le_refl _) (J9 ?_),rfl,h _ (I.aE.fresh (Nat.le_refl _))⟩;have hb:=I.big;exact⟨by simp only[beq_eq_false_iff_ne,ne_eq];intro z;rw[z] at hb;exact é _ hb,_,#[],0,Ì _ rfl,⟨rfl,rfl,rfl⟩,rfl,rfl⟩
def UD:PE X (.Dict [] [] pos) (tE X.K Ξ xY):=cN Sn fun σ H Q az=>by
 obtain⟨w,env,eH,S,eo,h⟩:=az;subst eH;intro p hp;have le:=(Fw.cell (o:=.ext (DX p [])) (c:=.dT []) S hp).le (K:=X.K);refine h (w.cell p (.ext (DX p [])) (.dT [])) le (S.BD hp ⟨[],dg,rfl,ab5⟩) rfl (.ref p) ⟨p,?_,rfl⟩;show (w.ρ++[p])[w.aG.length]?=some p;rw[<- S.len];simp
def V1 (K:Ĳ) (W:ď):yj:=λo i v H Q=>∃(w:Wd) (d b:á) (ai:List (D×Int)) (as:List á) (ks:List D),w.H=H/\o=.ref d/\i=.ref b/\v=.bl true/\H d=some (.ext (DX d ((ai.map (·.2)).zip as))) /\
 AllK W ai/\ai.length<Õ/\DI.ar K w (ai.map (·.1)) (as.map V.ref)/\(ai.map (·.1)).Nodup/\cV ks=true/\cz ks<=6/\DI.DV K w (.tup ks) (.ref b) /\
 Q (upd H d (.ext (DX d (((fL W ai (.tup ks)).map (·.2)).zip (if (ai.any λp=>beq p.1 (.tup ks))=true then as else as++[b])))))
def QJ {w:ď} {ai:List (D×Int)} {as:List á} {ks:List D} {b:á} (e:ai.length=as.length):(fL w ai (.tup ks)).length=(if (ai.any λp=>beq p.1 (.tup ks))=true then as else as++[b]).length:=by
 unfold fL
 split<;>simp[e]
def V2 (hr:bT k X.A):Ck X (V1 X.K X.w):=by
 rintro π s σ H o i v ov iv u Q I ro ri rv ⟨w,d,b,ai,as,ks,rfl,rfl,rfl,rfl,hd,cu,hl,aq,nd,k1,k2,dk,q⟩;cases ro;cases ri;cases rv;have len:ai.length=as.length:=by have:=aq.length;simpa using this
 obtain⟨⟨hz,ob,es,ep,ho,hex,rW,ze⟩,_,_⟩:=I.aE _ _ hd;have hD:s.heap.DictOfH (kind X.prog X.w) d (XS ai as):=⟨ob,es,ep,ho,hex,rW,by rw[ze,Hd cu len],V0 I cu aq,by
  have:=Ig cu len;rw[<- this] at nd;have e:(XS ai as).map (λx=>D.tup x.1)=((XS ai as).map (·.1)).map D.tup:=by rw[Ē];rfl
  rw[e] at nd;exact List.Pairwise.of_map D.tup (λa b h e=>h (by rw[e])) nd⟩
 have hu:X.A.units+100<abP:=by have:=hr.un;have:abP=9900:=rfl;omega
 refine wpAny_setItem_heap (hsz:=by rw[UC len];exact Nat.le_of_lt hl) (knd:=kind X.prog X.w) (show X.A.in1.units+10<abP from ?_) ⟨k1,k2,BL I (.tup ks) (.ref b) (.ref b) (by simpa only [kd] using k1) dk rfl⟩ hD λh' LG hs=>⟨_,?_,q⟩
 ·have:X.A.in1.units<=X.A.units+1:=by first|exact Nat.le_refl _|exact ŵ _
  omega
 ·rw[O8 cu len k1] at LG
  obtain⟨o',gk,uQ,cY,Xi,V3,Xj,_⟩:=LG;refine HL I (by rw[hd];exact True.intro) hs ⟨o',cY⟩ (J9 ⟨hz,o',gk,uQ,cY,Xi,V3,?_⟩);rw[Xj];exact(Hd (QI cu k1 k2) (QJ len)).symm
def Jx (hW:X.w=W) (hr:bT k X.A) (he:PE X e (tE X.K Ξ f)) (ho:PE X o (tE X.K Ξ fo)) (hi:PE X i (tE X.K Ξ fi))
 (ha:∀v,aaR (.Subscript o i iB) X.env v=(do
   let ov <- aac [v] (ţ o X.env)
   let iv <- aac [v,ov] (ţ i X.env)
   abg iB
   aac [v,ov,iv] (setItem ov iv v)
   release [v,ov,iv] []):=by intro _;rfl)
 (hs:δ [.Subscript o i iB] e pos.line X.env=pure false:=by rfl) (hw:ε [.Subscript o i iB] e X.env=pure none:=by rfl)
 (h1:(ũ [.Subscript o i iB] X.env).map (·.2)=[aaR (.Subscript o i iB) X.env]:=by rfl):PS X (.Assign [.Subscript o i iB] e pos) (tS X.K Ξ (my W f fo fi)) :=
 jg (AY he (IQ ho hi (V2 hr) ha) hs hw h1) λD0 σ H az=>by
  subst hW;obtain⟨w,env,eH,S,eo,h⟩:=az;subst eH;refine⟨w,env,rfl,S,eo,(Out.ao h).mono λw1 x l1 S1 h1 u du=>?_⟩;refine⟨w1,env,rfl,S1,eo.le l1,(Out.ao h1).mono λw2 d l2 S2 h2 v dv=>?_⟩;refine⟨w2,env,rfl,S2,eo.le (l1.trans l2),(Out.ao h2).mono λw3 n l3 S3 h3 m dm=>?_⟩
  cases hd:kI X.w d n x w3.aG with
  |none=>rw[hd] at h3;exact h3.elim
  |some s' =>
   rw[hd] at h3;unfold kI at hd;split at hd
   ·rename_i j ks
    split at hd
    ·rename_i ai hj
     split at hd
     ·rename_i hc
      simp only[Ç,È] at hc;obtain⟨⟨⟨k1,k2⟩,k3⟩,k4⟩:=hc;cases hd;obtain⟨a,e1,rfl⟩:=(l3 _ _ dv);obtain⟨as,q1,q2,q3⟩:=S3.cell j a _ e1 hj;have cu:=O7 k3;have eu:u=.bl true:=((l2.trans l3) _ _ du);have LH:=dm;simp only[DI.DV] at LH;obtain⟨b,_,rfl,_⟩:=LH;have len:ai.length=as.length:=by have:=q2.length;simpa using this
      have le:=(Fw.put (o:=.ext (DX a (((fL X.w ai (.tup ks)).map (·.2)).zip (if (ai.any λp=>beq p.1 (.tup ks))=true then as else as++[b])))) (c:=.dT (fL X.w ai (.tup ks))) S3 e1 hj (by intro z;cases z)).le
      refine⟨w3,a,b,ai,as,ks,rfl,rfl,rfl,eu,q1,cu,k4,q2,q3,k1,k2,dm,?_⟩;refine h3 (w3.put j a _ _) le (S3.CD e1 hj (by intro z;cases z) ⟨_,dg,?_,N3 cu k1 q3⟩) rfl σ (eo.le (l1.trans (l2.trans (l3.trans le))));refine le.all ?_;unfold fL;split
      ·exact q2
      ·rw[č,č]
       exact q2.append (ar.one dm)
     ·cases hd
    ·cases hd
   ·cases hd
end
end TK
namespace TK
open PySem PySem.W PyProof.Rows DI L2
def jr (h:ŏ) (d:á) (es:Array ab9) (ep:Nat):Prop:=∃o,h.get? d=some o/\o.ExactDict/\o.data=.dict es ep
section
variable {prog:ù} {w:ď} {A:đ} {E:Í->É->Prop} {s:É} {d it:á} {es:Array ab9} {ep i:Nat}
def jr.ty (r:jr s.heap d es ep):s.TypeIs (.ref d) "dict":=by obtain⟨o,ho,x,_⟩:=r;exact⟨o,ho,x.1⟩
def jr.lt (r:jr h d es ep):d<h.objs.size:=by obtain⟨o,ho,_⟩:=r;exact Î ho
def QK (hd:(d==ł)=false) (r:jr s.heap d es ep)
 (hQ:Q (.ref s.heap.objs.size) { s with heap:=s.heap.push { cls:=.type "dict_keyiterator",data:=.fields #[.ref d,.int 0 0,.int es.size 0,.int ep 0] } }):à (ø prog w) A (pyIter (.ref d)) Q E s:=by
 have ty:=r.ty;obtain⟨o,ho,x,rW⟩:=r;refine wpAny_pyIter_slot ty F.slot_dict_iter (Ą F.slot_dict_iter ty F.entry_dict_iter ?_ (F.args_dict_iter_1 _));unfold ň.«dict.__iter__» Builtin.Dict.dictSlotNone;refine À (À (wpAny_notOrdered_dict ty ?_));refine(Â ?_:à _ _ (pure (μ d)) _ _ s);show à _ _ (Builtin.Dict.showsAll d >>= _) _ _ s;unfold Builtin.Dict.showsAll;rw[æ (by rw[hd];decide)];refine À (Â (À (wpAny_dictEntries ho rW (À (wpAny_dictEpoch ho rW ?_)))));refine À (ó (Â ⟨_,rfl,"dict_keyiterator",_,⟨_,Ì _ rfl,rfl⟩,Ŀ.lookup,?_⟩));simpa [Ŋ] using hQ
def QM (hit:s.heap.IsKeyIter it d i es.size ep) (r:jr s.heap d es ep) (he:es[i]?=some e)
 (hQ:∀h',h'.IsKeyIter it d (i+1) es.size ep->ĸ it s.heap h'->Q (some e.key) { s with heap:=h' }):à (ø prog w) A (Ť (.ref it)) Q E s:=by
 obtain⟨oi,sD,ci,di⟩:=id hit;obtain⟨od,fg,_,qe⟩:=r;have own:abL "dict_keyiterator"=false:=by decide
 unfold Ť;refine À (θ (Ĉ (name:=ì "__next__") hit.typeIs Ŀ (Ą Ŀ hit.typeIs F.entry_dict_keyiterator_next ?_ (F.args_dict_keyiterator_next_1 _))));refine À (Â (À (À (À (Œ hit.typeIs (Â (À (aaH sD di ?_))))))));simp only[own,Ã,ê]
 refine(show à _ _ (if (μ d==Value.none)=true then _ else _) _ _ s from ?_)
 rw[æ (show ¬ ((μ d==Value.none)=true) by intro z;cases z)];refine À (Â (À (wpAny_dictEntries fg qe ?_)));rw[æ (by simp)];refine À (Â (À (wpAny_dictEpoch fg qe ?_)));rw[æ (by simp)];refine Â ?_;simp only[show ¬ ((i:Int)<0) by omega,ê,õ,he];refine À (À (Œ hit.typeIs (Â (À (wpAny_isOneOf_keyiter hit.typeIs ?_)))));show à _ _ (setField (.ref it) 1 (Ŋ ((i:Int)+1)) >>= _) _ _ s;refine À (ř sD di (by simp) ?_);generalize hh:s.heap.update it (Obj.mapFields (·.setIfInBounds 1 (Ŋ ((i:Int)+1))))=h';have sb:ĸ it s.heap h':=by rw[<- hh];exact ĝ ..
 have nx:h'.IsKeyIter it d (i+1) es.size ep:=by
  rw[<- hh];exact⟨_,ă _ sD (Ľ (Ď di _)),(aat ..).trans ci,by rw[Ď di];simp[Ŋ]⟩
 refine À (ė (À (wpAny_isOneOf_keyiter (s:={ s with heap:=h' }) nx.typeIs ?_)))
 show à _ _ (pure e.key) _ _ _;exact Â (Â ⟨_,rfl,Â (hQ _ nx sb)⟩)
def So (hh:A.handled=none) (hit:s.heap.IsKeyIter it d i es.size ep) (r:jr s.heap d es ep) (yO:es.size<=i)
 (hQ:∀h',abj it s.heap h'->Q none { s with heap:=h' }):à (ø prog w) A (Ť (.ref it)) Q E s:=by
 obtain⟨oi,sD,ci,di⟩:=id hit;obtain⟨od,fg,_,qe⟩:=r;have own:abL "dict_keyiterator"=false:=by decide
 unfold Ť;refine À (θ (Ĉ (name:=ì "__next__") hit.typeIs Ŀ (Ą Ŀ hit.typeIs F.entry_dict_keyiterator_next ?_ (F.args_dict_keyiterator_next_1 _))));refine À (Â (À (À (À (Œ hit.typeIs (Â (À (aaH sD di ?_))))))));simp only[own,Ã,ê]
 refine(show à _ _ (if (μ d==Value.none)=true then _ else _) _ _ s from ?_)
 rw[æ (show ¬ ((μ d==Value.none)=true) by intro z;cases z)];refine À (Â (À (wpAny_dictEntries fg qe ?_)));rw[æ (by simp)];refine À (Â (À (wpAny_dictEpoch fg qe ?_)));rw[æ (by simp)];refine Â ?_;simp only[show ¬ ((i:Int)<0) by omega,ê,õ,Array.getElem?_eq_none yO];refine À (À (Œ hit.typeIs (Â ?_)));refine(À (ř sD di (by simp) ?_):à _ _ (setField (.ref it) 0 .none >>= _) _ _ s);show à _ _ (newExc (.type "StopIteration") [] >>= _) _ _ _;simp only[newExc,newTuple];refine À (À (ó ?_ (by size_fits)))
 refine À (m:=aaE _ _) (Š (a:=Value.none) (by first|rfl | (simp only[aaE];rfl)) (ó ?_ (by size_fits)))
 simp only[raiseNew];refine À (wpAny_handled ?_);rw[show A.in1.handled=none from hh];refine À (Â (wpAny_throw ?_));refine À (aaL (T:="StopIteration") (b:=true) ⟨_,Ì _ rfl,rfl⟩ isSubtype_stop ?_);exact Â (hQ _ (((ĝ ..).extBut.push _).push _))
def jr.at (r:jr h d es ep) (k:∀o,h.get? d=some o->h'.get? d=some o):jr h' d es ep:=by obtain⟨o,ho,x⟩:=r;exact⟨o,k o ho,x⟩
def O9 (hh:A.handled=none) (I:á) (fy:d≠I) :
  Walks prog w A I [I,d] [I] es.size (λi v=>∃e,es[i]?=some e/\v=e.key) (λi h=>h.IsKeyIter I d i es.size ep/\jr h d es ep) where
 sub:=λb hb=>by simp at hb;simp[hb]
 frame:=λ_ _ _ st hk=>⟨st.1.at λo e=>hk I (by simp) o e,st.2.at λo e=>hk d (by simp) o e⟩
 item:=λi s Q E hi st hQ=>by
  have he:es[i]?=some es[i]:=by simp[hi]
  exact QM st.1 st.2 he λh' nx sb=>hQ _ h' s.toks ⟨_,he,rfl⟩ ⟨nx,st.2.at λo e=>sb.extBut d o fy e⟩ λb o hb e=>sb.extBut b o (λh=>hb (by simp[h])) e
 done:=λs Q E st hQ=>So hh st.1 st.2 (Nat.le_refl _) λh' YG=>hQ h' s.toks λb o hb e=>YG b o (λh=>hb (by simp[h])) e
 self:=λ_ _ _ _ st hQ=>wpAny_pyIter_keyiter st.1 hQ
def Sq (lo:(d==ł)=false):KdlSrc prog w "dict" d d es.size (λi v=>∃e,es[i]?=some e/\v=e.key) (λh=>jr h d es ep) where
 type:=λ_ hm=>hm.ty
 there:=λ_ hm=>⟨hm.lt,hm.lt⟩
 keep:=λ_ _ hm hk=>hm.at λo e=>hk d (.inl rfl) o e
 notList:=by decide
 notTuple:=by decide
 hint:=λ_ _ _ _ hm hq=>kdl_hint_dict hm.ty hq
 iter:=λ_ _ hh hm=>⟨_,_,(λ_ _ hq=>QK lo hm hq),O9 hh _ (è hm.lt),⟨⟨_,Ì _ rfl,rfl,rfl⟩,hm.at λo e=>Á _ e⟩⟩
end
def q0 (ds:List D) (s:ag):Res D:=match ds with
 | [.aj j]=>match s[j]? with
  |some (.dT ai)=>if ai.length<=Õ then ok (.lst (ai.map (·.1))) s else none
  |_=>none
 |_=>none
def He:∀as:List á,Vals (as.map V.ref) (as.map μ)
 | []=>.nil
 |_::as=>.cons rfl (He as)
section
variable {X:Cx} {Ξ:Wd->bq->Prop}
def Sr (hc:X.calm=true):bV X (.type "list") (rC X.K Ξ q0):=by
 rintro π s σ H xs us Q I r ⟨w,ds,rfl,S,aq,h⟩;unfold q0 at h;split at h
 ·rename_i j
  split at h
  ·rename_i ai hj
   split at h
   ·rename_i hl
    obtain⟨v,r',rfl,h1,h2⟩:=aq;cases h2;obtain⟨a,e1,rfl⟩:=h1
    cases r with
    |cons r rs =>
    cases rs;cases r;obtain⟨as,q1,q2,q3⟩:=S.cell j a _ e1 hj;have len:ai.length=as.length:=by have:=q2.length;simpa using this
    obtain⟨⟨hz,ob,es,ep,ho,hex,rW,ze⟩,_,_⟩:=I.aE _ _ q1;have ez:es.size=as.length:=by rw[<- þ,ze];simp[len]
    refine kdl_call (Sq hz) (I.ok.hd hc) (⟨ob,ho,hex,rW⟩:jr s.heap a es ep) (by rw[ez,<- len];exact hl) λh' tk fv c' hk hD jS=>?_;have hf:w.H s.heap.objs.size=none:=I.aE.fresh (Nat.le_refl _);have ev:fv.toList=as.map μ:=by
     apply ź;intro i;rw[ĵ];by_cases hi:i<as.length
     ·have DA:i<fv.size:=by rw[jS.1,ez];exact hi
      have h3:fv[i]?=some fv[i]:=Array.getElem?_eq_getElem DA;obtain⟨e,he,ev⟩:=jS.2 i _ h3;rw[h3,ev];rw[<- ĵ,ze] at he;have YH:i<ai.length:=by omega
      simp only[ç,List.zip,List.getElem?_zipWith,Ð YH,Ð hi,Ŏ] at he |-;rw[<- Option.some.inj he]
     ·rw[Array.getElem?_eq_none (by rw[jS.1,ez];omega),Ċ (by rw[Ä];omega)]
    refine⟨.ref s.heap.objs.size,upd w.H s.heap.objs.size (.lst (as.map V.ref)),I.laid (t':=tk) hk (Nat.le_refl _) ?_,rfl,?_⟩
    ·refine⟨by rw[Ä,<- len];exact hl,fv.toList,c',?_,by simpa using hD⟩
     rw[ev];exact He as
    ·exact h (w.grow _ (.lst (as.map V.ref))) (Fw.grow hf).le (S.grow hf) rfl (.ref s.heap.objs.size) ⟨_,_,rfl,⟨(show ¬ w.Z _ from nr S hf),dg⟩,(Fw.grow hf).le.all q2⟩
   ·exact h.elim
  ·exact h.elim
 ·exact h.elim
end
open HT
section
variable {s:É}
def V4 (kx:kd x=true) (ky:kd y=true) (hu:A.units+dep x<abP) (hx:KA s.heap x vx) (hy:KA s.heap y vy):SeqAt.EqAt A s vx vy (beq x y):=by
 obtain⟨as,r1⟩:=KA.reads _ _ hx;obtain⟨bs,r2⟩:=KA.reads _ _ hy;obtain⟨p1,p2⟩:=kh _ (oV _ kx);obtain⟨q1,q2⟩:=kh _ (oV _ ky);have:=SeqAt.eqAt_reads _ _ A s vx vy as bs r1 r2 p1 q1 (by rw[p2];omega);rw[qX _ _ (oV _ kx) (oV _ ky)] at this;exact this
mutual
def V5:∀(A:đ) (x y:D) (b:Bool) (vx vy:Í),ij x y=some b->kd x=true->kd y=true->A.units+5*dep x+5<abP->KA s.heap x vx->KA s.heap y vy->CQ A s vx vy b
 |A,.int i,y,b,vx,vy,h,_,_,_,hx,hy=>by
  cases y with
  |int j =>
   cases h;obtain⟨t,rfl⟩:=hx;obtain⟨t',rfl⟩:=hy;exact λprog w E Q q=>GU A s i t j t' prog w E Q q
  |_=>cases h
 |A,.str i,y,b,vx,vy,h,_,_,_,hx,hy=>by
  cases y with
  |str j =>
   cases h;obtain⟨t,rfl⟩:=hx;obtain⟨t',rfl⟩:=hy;exact λprog w E Q q=>(PyProof.Rows.lt_str q:à (ø prog w) A (Č .Lt (.str i t) (.str j t')) Q E s)
  |_=>cases h
 |A,.tup xs,y,b,vx,vy,h,kx,ky,hu,hx,hy=>by
  cases y with
  |tup ys =>
   simp only[ij] at h;simp only[KA] at hx hy;obtain⟨a,o,its,n,rfl,ho,hc,hd,r⟩:=hx;obtain⟨a',o',its',n',rfl,cY,i5,dY,r'⟩:=hy;simp only[dep] at hu;simp only[kd] at kx ky;exact λprog w E Q q=>HX ⟨o,ho,hc,n,hd⟩ ⟨o',cY,i5,n',dY⟩ (λA' hA=>Bg A' xs ys b _ _ h kx ky (by omega) r r') (by omega) q
  |_=>cases h
 |_,.au,_,_,_,_,_,k,_,_,_,_=>by cases k
 |_,.bl _,_,_,_,_,_,k,_,_,_,_=>by cases k
 |_,.lst _,_,_,_,_,_,k,_,_,_,_=>by cases k
 |_,.aZ _,_,_,_,_,_,k,_,_,_,_=>by cases k
 |_,.aj _,_,_,_,_,_,k,_,_,_,_=>by cases k
 |_,.ty _,_,_,_,_,_,k,_,_,_,_=>by cases k
 |_,.bC _,_,_,_,_,_,k,_,_,_,_=>by cases k
def Bg:∀(A:đ) (xs ys:List D) (b:Bool) (ps qs:List Í),fK xs ys=some b->cV xs=true->cV ys=true->A.units+5*cz xs+5<abP->cW s.heap xs ps->cW s.heap ys qs->ji A s ps qs b
 |A,[],ys,b,ps,qs,h,_,_,_,hx,hy=>by
  cases hx
  cases ys with
  |nil=>cases h;cases hy;exact .nn
  |cons y ys=>cases h;obtain⟨v,r,rfl,_⟩:=hy;exact .nc _ _
 |A,x::xs,ys,b,ps,qs,h,kx,ky,hu,hx,hy=>by
  obtain⟨v,r,rfl,h1,h2⟩:=hx
  cases ys with
  |nil=>cases h;cases hy;exact .cn _ _
  |cons y ys =>
   obtain⟨u,r',rfl,g1,g2⟩:=hy;simp only[cV,Ç] at kx ky;simp only[cz] at hu;have m1:=Nat.le_max_left (dep x) (cz xs);have m2:=abE (dep x) (cz xs);have he:=V4 (A:=A) kx.1 ky.1 (by omega) h1 g1;simp only[fK] at h;split at h
   ·rename_i hb
    rw[hb] at he;exact .eq he (Bg A xs ys b _ _ h kx.2 ky.2 (by omega) h2 g2)
   ·rename_i hb
    rw[aaM] at hb;rw[hb] at he;exact .lt he (V5 A x y b _ _ h kx.1 ky.1 (by omega) h1 g1)
end
end
section
variable {prog:ù} {w:ď} {A:đ} {E:Í->É->Prop} {s:É}
def Pa (h:ji A s xs ys b):∀(i:Nat),fin=decide (xs.length<ys.length)->Q b s->KatLex prog w A t fin Q (xs.zip ys) (i+1) s:=by
 induction h with
 |nn=>intro i hf q;rw[hf];exact q
 |nc y ys=>intro i hf q;rw[hf];exact q
 |cn x xs=>intro i hf q;rw[hf];exact q
 |eq he _ ih =>
  intro i hf q;rw[ı];exact kat_cons (he prog w _ _ (kat_yes (ih (i+1) (by rw[hf];simp) q)))
 |lt he hr =>
  intro i hf q;rw[ı];refine kat_cons (he prog w _ _ (kat_no ?_));rw[show (t&&(i+1==0))=false by simp];exact kat_one _ _ (hr prog w _ _ q)
def Pb (hs:x=y->ji A s xs ys b) (hf:fin=decide (xs.length<ys.length)) (q:Q (if x=y then b else decide (x.cps.toList<y.cps.toList)) s) :
  KatLex prog w A true fin Q ((.str x t::xs).zip (.str y u::ys)) 0 s:=by
 rw[ı];refine kat_cons (wpAny_eqBool_str ?_);by_cases e:x=y
 ·rw[Ú e] at q
  rw[Ý e];exact kat_yes (Pa (hs e) 0 hf q)
 ·rw[æ e] at q
  rw[ñ e];exact kat_no (oneLt_str q)
end
inductive Pg where
 |made (m d:Int) (h l:List Int)
 |aO (m d k:Int)
noncomputable def ti (l:List Int):D:=.tup (l.map D.int)
def Pg.d:Pg->D
 | .made m d h l=>.tup [.str "made",.int m,.int d,.tup [ti h,ti l]]
 | .aO m d k=>.tup [.str "mended",.int m,.int d,.int k]
def Jy (h:ti a=ti b):a=b:=by
 injection h with h
 exact List.map_inj_right (λx y e=>by injection e) |>.mp h
def Pg.Ka {p q:Pg} (h:p.d=q.d):p=q:=by
 cases p<;>cases q<;>simp only[Pg.d,D.tup.injEq,aa4,D.int.injEq,and_true,reduceCtorEq,and_false,false_and] at h
 ·obtain⟨_,h1,h2,h3,h4⟩:=h
  rw[h1,h2,Jy h3,Jy h4]
 ·obtain⟨_,h1,h2,h3⟩:=h
  rw[h1,h2,h3]
noncomputable def encL:List Int->List Int
 | []=>[0]
 |x::xs=>1::x::encL xs
def Pg.enc:Pg->List Int
 | .made m d h l=>0::m::d::(encL h++encL l)
 | .aO m d k=>[1,m,d,k]
def Ah:∀{a b u v:List Int},encL a++u=encL b++v->a=b/\u=v
 | [],[],u,v,h=>by simpa [encL] using h
 | [],y::b,u,v,h=>by simp[encL] at h
 |x::a,[],u,v,h=>by simp[encL] at h
 |x::a,y::b,u,v,h=>by
  simp only[encL,ċ,aa4,true_and] at h;obtain⟨h1,h2⟩:=Ah h.2;exact⟨by rw[h.1,h1],h2⟩
def Pg.Su {p q:Pg} (h:p.enc=q.enc):p=q:=by
 cases p<;>cases q<;>simp only[Pg.enc,aa4,and_true,true_and,reduceCtorEq,false_and,Int.reduceEq] at h
 ·obtain⟨h1,h2,h3⟩:=h
  have h4:=Ah (u:=encL _++[]) (v:=encL _++[]) (by simpa using h3);have h5:=Ah h4.2;rw[h1,h2,h4.1,h5.1]
 ·rw[h.1,h.2.1,h.2.2]
def fj:ST.Ord Pg where
 lt p q:=lexLt p.enc q.enc
 D4 p:=ST.AK _
 tr _ _ _ h g:=ST.Ut _ _ _ h g
 vN _ _ h g:=Pg.Su (ST.Sj _ _ h g)
def Gu:∀a b:List Int,ib (a.map D.int) (b.map D.int)=decide (a=b)
 | [],[]=>rfl
 | [],_::_=>rfl
 |_::_,[]=>rfl
 |x::a,y::b=>by
  simp only[Ö,ib,beq,Gu a b]
  by_cases e:x=y<;>simp[e]
def Gv:∀a b:List Int,fK (a.map D.int) (b.map D.int)=some (lexLt a b)
 | [],[]=>rfl
 | [],_::_=>rfl
 |_::_,[]=>rfl
 |x::a,y::b=>by
  simp only[Ö,fK,beq,ij,jE,Gv a b]
  by_cases e:x=y<;>simp[e]
def AL:∀a b u v:List Int,lexLt (encL a++u) (encL b++v)=if a=b then lexLt u v else lexLt a b
 | [],[],u,v=>by simp[encL,jE]
 | [],y::b,u,v=>by simp[encL,jE];rfl
 |x::a,[],u,v=>by simp[encL,jE];rfl
 |x::a,y::b,u,v=>by
  simp only[encL,ċ,jE,û,AL a b u v,aa4]
  by_cases e:x=y<;>simp[e]
def Kb (p q:Pg):ij p.d q.d=some (fj.lt p q):=by
 have n1:¬ ((ì "made")=ì "mended"):=by decide +kernel
 have n2:¬ ((ì "mended")=ì "made"):=by decide +kernel
 have s1:decide ((ì "made").cps.toList<(ì "mended").cps.toList)=true:=by decide +kernel
 have s2:decide ((ì "mended").cps.toList<(ì "made").cps.toList)=false:=by decide +kernel
 show _=some (lexLt p.enc q.enc)
 cases p with
 |made m d h l =>
  cases q with
  |made m' d' h' l' =>
   simp only[Pg.d,Pg.enc,ij,fK,beq,ib,ti,jE,Gu,Gv,AL,Ġ,û,ŗ];have:=AL l l' [] [];simp only[Ō] at this;rw[this]
   by_cases e1:m=m'<;>by_cases e2:d=d'<;>by_cases e3:h=h'<;>by_cases e4:l=l'<;>simp[e1,e2,e3,e4,ST.AK]
  |aO m' d' k'=>simp only[Pg.d,Pg.enc,ij,fK,beq,jE,beq_iff_eq,n1,s1,ê];simp
 |aO m d k =>
  cases q with
  |made m' d' h' l'=>simp only[Pg.d,Pg.enc,ij,fK,beq,jE,beq_iff_eq,n2,s2,ê];simp
  |aO m' d' k' =>
   simp only[Pg.d,Pg.enc,ij,fK,beq,jE,Ġ,û]
   by_cases e1:m=m'<;>by_cases e2:d=d'<;>by_cases e3:k=k'<;>simp[e1,e2,e3,ST.AK]
def Sv (l:List Int):cV (l.map D.int)=true:=by
 induction l with
 |nil=>rfl
 |cons x l ih=>simpa only [Ö,cV,kd,í] using ih
def QN (l:List Int):cz (l.map D.int)=0:=by
 induction l with
 |nil=>rfl
 |cons x l ih=>simp only[Ö,cz,dep,ih];rfl
def kq (p:Pg):kd p.d=true:=by
 have s1:abB "made"=true:=by decide +kernel
 have s2:abB "mended"=true:=by decide +kernel
 cases p<;>simp only[Pg.d,kd,cV,ti,Sv,s1,s2,Ĥ]
def Bh (p:Pg):dep p.d<=3:=by
 cases p<;>simp only[Pg.d,dep,cz,ti,QN]<;>decide
def Hf (p:Pg):∃(x:Str) (r:List D),p.d=.tup (.str x::r):=by
 cases p<;>exact⟨_,_,rfl⟩
def BM {h:ŏ} {p:Pg} {v:Í} (q:KA h p.d v):∃(x:Str) (r:List D) (a:á) (o:Obj) (its:Array Í) (n:Nat) (t:Tok) (us:List Í),p.d=.tup (.str x::r)/\v=.ref a/\h.get? a=some o/\o.cls=.type "tuple"/\o.data=.seq its n/\its.toList=.str x t::us/\cW h r us/\cV r=true:=by
 obtain⟨x,r,e⟩:=Hf p;have k:=kq p;rw[e] at q k;simp only[KA] at q;obtain⟨a,o,its,n,e1,ho,hc,hd,u,us,e2,⟨t,e3⟩,r2⟩:=q;simp only[kd,cV,Ç] at k;exact⟨x,r,a,o,its,n,t,us,e,e1,ho,hc,hd,by rw[e2,e3],r2,k.2⟩
section
variable {prog:ù} {w:ď} {A:đ} {E:Í->É->Prop} {s:É}
def Pc:∀{ps:List Pg} {us:List Í},cW s.heap (ps.map Pg.d) us->∃fs,KatTups s.heap us fs/\(∀v∈fs,∃x t,v=Value.str x t)/\fs.length=us.length:=by
 intro ps
 induction ps with
 |nil=>intro us h;cases h;exact⟨[],KatTups.nil,λv (hv:v∈[])=>(ĕ hv).elim,rfl⟩
 |cons p ps ih =>
  intro us h;obtain⟨v,r,rfl,h1,h2⟩:=h;obtain⟨fs,k1,k2,k3⟩:=ih h2;obtain⟨x,_,a,o,its,n,t,vs,_,rfl,ho,hc,hd,hi,_⟩:=BM h1;refine⟨.str x t::fs,.cons ho hc hd (by rw[<- ĵ,hi];rfl) k1,λv hv=>?_,by simp[k3]⟩
  rcases Ó.mp hv with rfl|hv
  ·exact⟨x,t,rfl⟩
  ·exact k2 v hv
def kas_get:∀{ds:List D} {us:List Í},cW h ds us->∀i,i<us.length->KA h (ds.getD i .au) (us.getD i Value.none):=by
 intro ds
 induction ds with
 |nil=>intro us h i hi;cases h;cases hi
 |cons d ds ih =>
  intro us h i hi;obtain⟨v,r,rfl,h1,h2⟩:=h
  cases i with
  |zero=>exact h1
  |succ i=>exact ih h2 i (by simpa using hi)
def Sw:∀{ds:List D} {us:List Í},cW h ds us->ds.length=us.length:=by
 intro ds
 induction ds with
 |nil=>intro us h;cases h;rfl
 |cons d ds ih=>intro us h;obtain⟨v,r,rfl,h1,h2⟩:=h;simp[ih h2]
def UE (hu:A.units+100<abP) (h1:KA s.heap p.d v) (h2:KA s.heap q.d u) (hC:C (fj.lt p q) s):à (ø prog w) A (keyLt' (tuples' true) v u) C E s:=by
 obtain⟨x,r,a,o,its,n,t,vs,e,rfl,ho,hc,hd,hi,kr,k⟩:=BM h1;obtain⟨x',r',a',o',its',n',t',vs',e',rfl,cY,i5,dY,qp,YI,k'⟩:=BM h2;have dl:=Bh p;rw[e] at dl;simp only[dep,cz] at dl;have lt:=Kb p q;rw[e,e'] at lt;simp only[ij,fK] at lt;have be:beq (.str x) (.str x')=true↔x=x':=by simp[beq]
 refine kat_lt ho hd cY dY ?_;rw[hi,qp];refine Pb (b:=fj.lt p q) (λex=>?_) ?_ ?_
 ·rw[Ú (be.mpr ex)] at lt
  exact Bg A r r' _ _ _ lt k k' (by have:=abE (0:Nat) (cz r);omega) kr YI
 ·simp[<- þ,hi,qp]
 ·by_cases ex:x=x'
  ·rw[Ú ex];exact hC
  ·rw[æ λz=>ex (be.mp z)] at lt
   rw[æ ex,Option.some.inj lt];exact hC
def QP {us:List Í} {ps:List Pg} (t:cW s.heap (ps.map Pg.d) us) (h2:2<=us.length) (hu:A.units+100<abP) (d:Pg):ST.yB prog w A fj (λi=>ps.getD i d) us s:=by
 obtain⟨fs,k1,k2,k3⟩:=Pc t;have hl:=Sw t;rw[Ä] at hl;have at_:∀i,i<us.length->KA s.heap (ps.getD i d).d (us.getD i Value.none):=λi hi=>by
  have:=kas_get t i hi;rwa [show (ps.map Pg.d).getD i .au=(ps.getD i d).d by simp[Ź,ç,Ð (show i<ps.length by omega)]] at this
 unfold ST.yB;refine kat_kind (T:=.type "str") k1 (by omega) (λv hv=>?_) (by decide) ⟨rfl,λi j C hi hj hC=>?_⟩
 ·obtain⟨x,tk,rfl⟩:=k2 v hv
  exact .of_pure rfl
 ·exact UE hu (at_ i hi) (at_ j hj) hC
end
end TK
namespace TK
open PySem PySem.W PyProof.Rows DI L2
open Classical in
def xZ (xs:List D):Option D:=if h:∃ps:List Pg,xs=ps.map Pg.d then some (.lst ((ST.jO fj (Classical.choose h)).map Pg.d)) else none
def N4:∀{a b:List Pg},a.map Pg.d=b.map Pg.d->a=b:=λh=>List.map_inj_right (λ_ _ e=>Pg.Ka e) |>.mp h
def Hg (ps:List Pg):xZ (ps.map Pg.d)=some (.lst ((ST.jO fj ps).map Pg.d)):=by
 unfold xZ;have h:∃qs:List Pg,ps.map Pg.d=qs.map Pg.d:=⟨ps,rfl⟩;rw[dif_pos h];have:=N4 (Classical.choose_spec h);rw[<- this]
def ra (ds:List D) (s:ag):Res D:=match ds with
 | [d]=>match res d s with
  | .lst xs=>if xs.length<64 then bx (xZ xs) s else none
  |_=>none
 |_=>none
section
variable {X:Cx} {Ξ:Wd->bq->Prop}
def Sx (ps:List Pg):cV (ps.map Pg.d)=true:=by
 induction ps with
 |nil=>rfl
 |cons p ps ih=>simp only[Ö,cV,kq,ih,Ĥ]
def Sy (hr:bT k X.A):bV X (.builtin "sorted") (rC X.K Ξ ra):=by
 rintro π s σ H xs us Q I r ⟨w,ds,rfl,S,aq,h⟩;unfold ra at h;split at h
 ·obtain⟨v,rfl,dv⟩:=lG aq
  split at h
  ·rename_i es e1
   obtain⟨a,xs,rfl,ha,aq⟩:=jH S dv e1;split at h
   ·rename_i hz
    obtain⟨d',e2,h⟩:=fm h;obtain⟨u,rfl,ru⟩:=vals1 r;cases ru;obtain⟨its,r1,pl,hx⟩:=I.list (bp.of ha);have hl:its.length=es.length:=r1.length.symm.trans aq.length.symm;have e3:=e2;unfold xZ at e3;split at e3
    ·rename_i hp
     obtain⟨ps,en⟩:=hp;clear e3;subst en;rw[Hg] at e2;cases e2;have Dz:ps.length=its.length:=by rw[hl,Ä]
     refine ST.O0 (O:=fj) (x:=λi=>ps.getD i (.aO 0 0 0)) pl.isList (by omega) (λh2 h1 ho=>QP (cW.keep (λb o hb _ _=>ho b o hb) _ _ (Bf I _ _ _ (Sx ps) aq r1)) h2 (by have:=hr.un;show X.A.units+1+1+100<abP;have:abP=9900:=rfl;omega) _) λq h' b e hp hu ho hb hn=>?_;have hm:∀i∈q.toList,i<(ps.map Pg.d).length:=λi hi=>by rw[<- hl];exact Ā.mp (hp.2.mem_iff.mp hi)
     rw[<- Dz] at hp hu;have mJ:=I.aE.fresh hb;refine⟨.ref b,_,I.laid (o:=.lst (q.toList.map λi=>xs.getD i .au)) (t':=s.toks) ho hb ⟨?_,_,e,O6 r1 (by rw[hl];exact hm),hn⟩,rfl,?_⟩
     ·rw[Ä,þ,hp.1,Dz,r1.length.symm];exact hx
     ·refine rQ S ?_ h b mJ
      rw[<- QE hp hu];exact QD aq hm
    ·cases e3
   ·exact h.elim
  ·exact h.elim
 ·exact h.elim
end
section
variable {prog:ù} {w:ď} {A:đ} {E:Í->É->Prop} {s:É}
end
section
variable {X:Cx} {Ξ:Wd->bq->Prop} {e:ļ} {te:TE} {pos p2 p4:Pos} {f:DI.Env->ag->Res D}
end
def BN (f:DI.Env->ag->Res D):DI.Env->ag->Res D:=λenv s=>ao (f env s) λx s=>ao (truth x s) λb s=>ok (.bl (!b)) s
def UG (ha:PE X a (tE X.K Ξ f)):PE X (.UnaryOp .Not a pos) (tE X.K Ξ (BN f)):=by
 rintro π s σ H Q I ⟨w,env,rfl,S,eo,h⟩;refine UnaryOp_ (aD (ha π s σ w.H (λv H'=>∃b,pE X.K v H' b/\Q (.bl (!b)) H') I ⟨w,env,rfl,S,eo,(Out.ao h).mono λw1 x l1 S1 h1 v dv=>?_⟩) λv s1 ⟨x,H1,I1,r1,b,q1,q2⟩=>?_)
 ·obtain⟨b,t,h2⟩:=pE.of S1 dv (Out.ao h1)
  exact⟨b,t,aH S1 h2 _ rfl⟩
 ·refine not_of (ĳ (IT π s1 σ H1 x v (λc H2=>Q (.bl (!c)) H2) I1 r1 ⟨b,q1,q2⟩) (λc s2 ⟨H2,I2,q⟩=>⟨.bl (!c),H2,I2,rfl,q⟩) λ_ _ z=>z)
end TK
namespace ST
open PySem PySem.Spec PyProof.Rows
section
variable {prog:ù} {w:ď} {A:đ} {E:Í->É->Prop} {s:É}
end
end ST
namespace DI
open PySem L2
section
variable {X:Cx} {Ξ:Wd->bq->Prop}
end
section
variable {X:Cx} {Ξ:Wd->bq->Prop} {e o i:ļ} {pos iB:Pos} {f fo fi:Env->ag->Res D}
end
end DI
namespace L2
open PySem PySem.Spec PyProof.Rows
section
variable {X:Cx}
end
end L2
namespace DI
open PySem L2
section
variable {X:Cx} {Ξ:Wd->bq->Prop}
end
end DI
namespace L2
open PySem PySem.Spec PyProof.Rows
section
variable {X:Cx}
end
end L2
namespace DI
open PySem L2
section
variable {X:Cx} {Ξ:Wd->bq->Prop} {a:ļ} {pos:Pos} {f:Env->ag->Res D}
end
end DI
namespace L2
open PySem PySem.Spec PyProof.Rows
section
variable {X:Cx}
end
end L2
namespace DI
open PySem L2
section
variable {X:Cx} {Ξ:Wd->bq->Prop} {pos:Pos}
def UH:PE X (.Dict [] [] pos) (tE X.K Ξ (eC (.aZ []))):=cN Qh fun σ H Q az=>by
 obtain⟨w,env,eH,S,eo,h⟩:=az;subst eH;intro p hp;exact h (w.grow p (.dK [])) (Fw.grow hp).le (S.grow hp) rfl (.ref p) ⟨p,rfl,(show ¬ w.Z p from nr S hp),dg⟩
end
end DI
namespace L2
open PySem PySem.Spec PyProof.Rows
end L2
namespace DI
open PySem L2
section
variable {X:Cx} {Ξ:Wd->bq->Prop}
end
end DI
namespace L2
open PySem PySem.Spec PyProof.Rows
open AutoSeq1 (wpAny_loadPart')
section
variable {prog:ù} {w:ď} {A:đ} {E:Í->É->Prop} {s:É}
end
section
variable {X:Cx}
end
end L2
namespace DI
open PySem L2
section
variable {X:Cx} {Ξ:Wd->bq->Prop} {a:ļ} {p pos:Pos} {fa:Env->ag->Res (List D)}
end
end DI
namespace L2
open PySem PySem.Spec PyProof.Rows
section
variable {X:Cx} {pos:Pos}
def V6 (i j k:Nat) (ta:TA):TS:=λD σ H=>ta σ H λvs H1=>∃v w u,vs=[v,w,u]/\D.nx (((σ.set i (some v)).set j (some w)).set k (some u)) H1
def vals3 (r:Vals [v,w,u] us):∃a b c,us=[a,b,c]/\RelV v a/\RelV w b/\RelV u c:=by
 cases r with
 |cons p q =>
  obtain⟨b,c,rfl,h1,h2⟩:=vals2 q;exact⟨_,b,c,rfl,p,h1,h2⟩
def Sz {kt k2 iC} (hc:X.calm=true) (hN:X.N.Nodup) (hi:X.N[i]?=some x) (hj:X.N[j]?=some y) (hk:X.N[k]?=some z) (ff:i≠j) (qd:i≠k) (D7:j≠k)
 (hx:X.env.scope.names.lookup x=some .local) (hy:X.env.scope.names.lookup y=some .local) (hz:X.env.scope.names.lookup z=some .local) (ha:PA X [a,b,c] ta)
 (hw:ε [.Tuple [.Name x px,.Name y py,.Name z pz] kt pt] (.Tuple [a,b,c] k2 iC) X.env=pure (some [x,y,z]))
 (hs:δ [.Tuple [.Name x px,.Name y py,.Name z pz] kt pt] (.Tuple [a,b,c] k2 iC) pos.line X.env=pure false) :
  PS X (.Assign [.Tuple [.Name x px,.Name y py,.Name z pz] kt pt] (.Tuple [a,b,c] k2 iC) pos) (V6 i j k ta):=by
 intro π s σ H D I h;rw[exec_Assign_arm];refine À (Ŕ ?_);rw[hs];refine À (Â ?_);rw[æ (by decide)];refine À (Tuple_ (aD (ha _ π s σ H _ I h) λus s1 az=>?_));obtain⟨vs,H1,I1,r1,v,w,u,e1,q1⟩:=az;subst e1;obtain⟨u1,u2,u3,rfl,rv,pX,ru⟩:=vals3 r1;refine ó ?_ (by show 3<=Õ;decide)
 have I2:Inv X π σ H1 { s1 with heap:=s1.heap.push { cls:=.type "tuple",data:=.seq [u1,u2,u3].toArray } }:=I1.kept (t':=s1.toks) λb o e=>Á _ e
 rw[hw];refine À (Â ?_)
 show à (ø X.prog X.w) X.A (do rule "assign.swapped-stores";let items <- unpackItems (.ref s1.heap.objs.size) 3 none;abI [λv=>abJ X.env z v,λv=>abJ X.env y v,λv=>abJ X.env x v] items.reverse;pure Flow.next) _ _ _
 refine À (ś (À (unpackItems_tuple (items:=#[u1,u2,u3]) (I.ok.hd hc) (IsTup.new s1.heap _) λh' C6=>?_)));have I3:=I2.kept (h':=h') (t':=s1.toks) λb o e=>C6 b o (è (Î e)) e
 show à _ _ (abI [λv=>abJ X.env z v,λv=>abJ X.env y v,λv=>abJ X.env x v] [u3,u2,u1] >>= λ_=>pure Flow.next) _ _ _
 refine À (ŭ (abq (mf I3 hN hk (.inl hz) ru (λs2 I4=>?_) (.inr hz))));refine ŭ (abq (mf I4 hN hj (.inl hy) pX (λs3 I5=>?_) (.inr hy)));refine ŭ (abq (mf I5 hN hi (.inl hx) rv (λs4 I6=>assignInOrder_nil (Â ?_)) (.inr hx)));rw[List.set_comm _ _ (Ň D7),List.set_comm _ _ (Ň qd),List.set_comm _ _ (Ň ff)] at I6;exact⟨_,H1,I6,q1⟩
end
end L2
namespace DI
open PySem L2
section
variable {X:Cx} {Ξ:Wd->bq->Prop} {a b c:ļ} {pos:Pos} {fa:Env->ag->Res (List D)}
def yC (i j k:Nat) (fa:Env->ag->Res (List D)):Env->ag->Res Fl:=λenv s=>ao (fa env s) λds s=>match ds with
 | [x,y,z]=>ok (.nx (((env.set i (some x)).set j (some y)).set k (some z))) s
 |_=>none
def UI (i j k:Nat) {x y z:Str} {px py pz pt:Pos} {kt k2 iC} (hc:X.calm=true) (hN:X.N.Nodup) (ha:PA X [a,b,c] (tA X.K Ξ fa)) (hi:X.N[i]?=some x:=by rfl) (hj:X.N[j]?=some y:=by rfl) (hk:X.N[k]?=some z:=by rfl) (ff:i≠j:=by decide) (qd:i≠k:=by decide) (D7:j≠k:=by decide)
  (hx:X.env.scope.names.lookup x=some .local:=by rfl) (hy:X.env.scope.names.lookup y=some .local:=by rfl) (hz:X.env.scope.names.lookup z=some .local:=by rfl)
  (hw:ε [.Tuple [.Name x px,.Name y py,.Name z pz] kt pt] (.Tuple [a,b,c] k2 iC) X.env=pure (some [x,y,z]):=by rfl)
  (hs:δ [.Tuple [.Name x px,.Name y py,.Name z pz] kt pt] (.Tuple [a,b,c] k2 iC) pos.line X.env=pure false:=by rfl) :
  PS X (.Assign [.Tuple [.Name x px,.Name y py,.Name z pz] kt pt] (.Tuple [a,b,c] k2 iC) pos) (tS X.K Ξ (yC i j k fa)):=jg (Sz hc hN hi hj hk ff qd D7 hx hy hz ha hw hs) λD0 σ H az=>by
 obtain⟨w,env,eH,S,eo,h⟩:=az;subst eH;refine⟨w,env,rfl,S,eo,(Out.ao h).mono λw1 ds l1 S1 h1 vs aq=>?_⟩;split at h1
 ·obtain⟨v,r,rfl,dv,dr⟩:=aq
  obtain⟨u,t,rfl,du,dt⟩:=tL dr;exact⟨v,u,t,rfl,aH S1 h1 _ ((((eo.le l1).set dv i).set du j).set dt k)⟩
 ·exact h1.elim
end
def qI:List D->ag->Res D:=aS 2 6 (ay (yC 2 3 4 (ae (e2 aT (ax bG (ae (aa 0) (ae (eC (.int 3)) ah))) (eC (.int 0))) (ae (eNew ah) (ae (e2 bO (eC (.int 2)) (ax bG (ae (aa 0) (ae (eC (.int 9)) ah)))) ah)))) (ay (eU (bP (ae (eC (.int 31)) ah)) (gN 5) (ay (aJ (cH (kP (aa 2) (e2 aT (ax bG (ae (aa 0) (ae (aa 4) ah))) (eC (.int 0)))) (e2 fE (aa 5) (aa 1))) (gN 2)) (cc (cK (aa 2)) (fF (ic (aa 3) (aa 5))) bX))) (aL (jT (aa 3)))))
def xi (W:ď):List D->ag->Res D:=aS 1 12 (ay (aJ (aX (ae TK.xY (ae (e2 bO (eC (.int 1)) (ax bG (ae (aa 0) (ae (eC (.int 3)) ah)))) (ae (e2 bO (eC (.int 1)) (ax bG (ae (aa 0) (ae (eC (.int 3)) ah)))) ah)))) (gT [(gN 1),(gN 2),(gN 3)])) (ay (eU (bP (ae (aa 2) ah)) (gN 4) (ay (aJ (aX (ae (aU 1 [] (bP (ae (eC (.int 8)) ah)) (gN 0) bQ (eNew ah)) (ae (eNew ah) ah))) (gT [(gN 5),(gN 6)])) (ay (eU (bP (ae (ax bG (ae (aa 0) (ae (eC (.int 4)) ah))) ah)) (gN 7) (ay (aJ (aX (ae (ax bG (ae (aa 0) (ae (eC (.int 8)) ah))) (ae (ax bG (ae (aa 0) (ae (eC (.int 31)) ah))) ah))) (gT [(gN 8),(gN 9)])) (ay (fF (ic (e2 ak (aa 5) (aa 8)) (aa 9))) (TK.my W (eC (.bl true)) (aa 1) (aX (ae (eC (.str "mended")) (ae (aa 4) (ae (aa 9) (ae (aa 8) ah))))))))) (ay (eU (bP (ae (eC (.int 8)) ah)) (gN 8) (fF (ic (aa 6) (ax qI (ae (aa 0) (ae (e2 ak (aa 5) (aa 8)) ah)))))) (eU (bP (ae (ax bG (ae (aa 0) (ae (eC (.int 5)) ah))) ah)) (gN 7) (ay (aJ (ax bG (ae (aa 0) (ae (eC (.int 31)) ah))) (gN 9)) (ay (aJ (aU 1 [0,3] (bP (ae (eC (.int 8)) ah)) (gN 0) (aF (e2 aT (ax bG (ae (aa 1) (ae (aa 2) ah))) (eC (.int 0)))) (aa 0)) (gN 10)) (ay (aJ (eB cC (ae (aU 1 [9,6] (bj (aa 10)) (gN 0) (aF (e2 cv (aa 1) (e2 ak (aa 2) (aa 0)))) (aa 0)) ah)) (gN 11)) (TK.my W (eC (.bl true)) (aa 1) (aX (ae (eC (.str "made")) (ae (aa 4) (ae (aa 9) (ae (aX (ae (aa 11) (ae (eB cC (ae (aU 1 [9,6] (bj (aa 10)) (gN 0) (aF (e2 fE (aa 1) (e2 ak (aa 2) (aa 0)))) (aa 0)) ah)) ah))) ah)))))))))))))) (aL (eB cC (ae (eB TK.ra (ae (eB TK.q0 (ae (aa 1) ah)) ah)) ah)))))
def qB:List D->ag->Res D:=aS 2 2 (aL (pJ (eB rT (ae (aU 1 [1] (bj (aa 0)) (gN 0) bQ (e2 cv (aa 0) (aa 1))) ah))))
def qD:List D->ag->Res D:=aS 1 3 (ay (cc (fM (fe (cK (eB ck (ae (aa 0) (ae (eC (.ty "tuple")) ah))))) (aF (e2 gj (eB bK (ae (aa 0) ah)) (eC (.int 2))))) (aL (eC (.bl false))) bX) (ay (aJ (aa 0) (gT [(gN 1),(gN 2)])) (aL (cH (ax sR (ae (aa 1) ah)) (cH (ax sR (ae (aa 2) ah)) (ax qB (ae (aa 1) (ae (aa 2) ah))))))))
def sV:List D->ag->Res D:=aS 1 1 (aL (ax lu (ae (aa 0) (ae (eC (.int (4))) ah))))
def m8:List D->ag->Res D:=aS 1 1 (aL (ax lu (ae (aa 0) (ae (eC (.int (31))) ah))))
def wM:List D->ag->Res D:=aS 1 5 (ay (cc (fM (fe (cK (eB ck (ae (aa 0) (ae (eC (.ty "tuple")) ah))))) (aF (e2 gj (eB bK (ae (aa 0) ah)) (eC (.int 4))))) (aL (eC (.bl false))) bX) (ay (aJ (aa 0) (gT [(gN 1),(gN 2),(gN 3),(gN 4)])) (ay (cc (fM (fe (cK (ax sV (ae (aa 2) ah)))) (fe (cK (ax m8 (ae (aa 3) ah))))) (aL (eC (.bl false))) bX) (ay (cc (aF (e2 aT (aa 1) (eC (.str "made")))) (aL (ax qD (ae (aa 4) ah))) bX) (aL (cH (e2 aT (aa 1) (eC (.str "mended"))) (ax sY (ae (aa 4) ah))))))))
def wG:List D->ag->Res D:=aS 1 1 (aL (cH (eB ck (ae (aa 0) (ae (eC (.ty "tuple")) ah))) (cH (e2 kF (eB bK (ae (aa 0) ah)) (eC (.int (24)))) (cH (eB kG (ae (aU 1 [] (bj (aa 0)) (gN 0) bQ (ax wM (ae (aa 0) ah))) ah)) (ax oB (ae (aa 0) ah))))))
def lr:List D->ag->Res D:=aS 4 4 (aL (aU 1 [1,2,3] (bj (aa 0)) (gN 0) (cG (aF (e2 aT (e2 ak (aa 0) (eC (.int 0))) (eC (.str "made")))) (cG (aF (e2 aT (e2 ak (aa 0) (eC (.int 1))) (aa 1))) (aF (e2 cv (aa 2) (e2 ak (e2 ak (aa 0) (eC (.int 3))) (aa 3)))))) (e2 ak (aa 0) (eC (.int 2)))))
def oz:List D->ag->Res D:=aS 3 3 (aL (aU 1 [1,2] (bj (aa 0)) (gN 0) (cG (aF (e2 aT (e2 ak (aa 0) (eC (.int 0))) (eC (.str "mended")))) (cG (aF (e2 aT (e2 ak (aa 0) (eC (.int 1))) (aa 1))) (aF (e2 aT (e2 ak (aa 0) (eC (.int 3))) (aa 2))))) (e2 ak (aa 0) (eC (.int 2)))))
def sM:List D->ag->Res D:=aS 3 3 (aL (eB rT (ae (aU 1 [1,2] (bj (aa 0)) (gN 0) bQ (mL fR kF (aa 1) (aa 0) (aa 2))) ah)))
def sZ:List D->ag->Res D:=aS 3 5 (ay (aJ (ax lr (ae (aa 0) (ae (aa 1) (ae (aa 2) (ae (eC (.int (1))) ah))))) (gN 3)) (ay (aJ (ax oz (ae (aa 0) (ae (aa 1) (ae (aa 2) ah)))) (gN 4)) (aL (qY 2 [3,4] (bj (e1 qG (ax lr (ae (aa 0) (ae (aa 1) (ae (aa 2) (ae (eC (.int (0))) ah))))))) (gN 0) bQ (vn (ae (aa 0) (ae (eC (.int (31))) ah))) (gN 1) (cG (fM (aF (e2 cv (aa 1) (aa 2))) (cG (aF (e2 aT (aa 1) (aa 0))) (aF (e2 cv (aa 0) (aa 3))))) (fe (cK (ax sM (ae (aa 3) (ae (aa 0) (ae (aa 1) ah))))))) (aX (ae (aa 0) (ae (aa 1) ah)))))))
def sS:List D->ag->Res D:=aS 1 1 (aL (Jq 4 [0] (bP (ae (eC (.int (4))) ah)) (gN 0) bQ (bP (ae (eC (.int (8))) ah)) (gN 1) bQ (bj (ax sZ (ae (aa 4) (ae (aa 0) (ae (aa 1) ah))))) (gT [gN 2,gN 3]) bQ (aX (ae (aa 0) (ae (aa 1) (ae (aa 2) (ae (aa 3) ah)))))))
def wN:List D->ag->Res D:=aS 1 1 (aL (cH (ax wG (ae (aa 0) ah)) (TK.BN (ax sS (ae (aa 0) ah)))))
def Ai:List D->ag->Res D:=aS 3 3 (aL (kP (e2 cv (eC (.bl true)) (aa 0)) (cH (e2 cv (eC (.bl false)) (aa 0)) (kP (pJ (aa 1)) (aa 2)))))
def AM:List D->ag->Res D:=aS 3 3 (aL (cH (pJ (aa 1)) (kP (e2 cv (eC (.bl false)) (aa 0)) (cH (aa 2) (e2 gj (aa 0) (fH ah))))))
def rf:List D->ag->Res D:=aS 3 9 (ay (aJ (mj 1 [] (bP (ae (eC (.int 31)) ah)) (gN 0) bQ (fH (ae (eC (.bl false)) (ae (eC (.bl true)) ah)))) (gN 3)) (ay (aJ (mj 1 [] (bP (ae (eC (.int 32)) ah)) (gN 0) bQ (eC (.bl false))) (gN 4)) (ay (eU (bj (aa 0)) (gN 5) (ay (cc (cG (aF (e2 aT (e2 ak (aa 5) (eC (.int 0))) (eC (.str "mended")))) (cG (aF (e2 aT (e2 ak (aa 5) (eC (.int 1))) (aa 1))) (aF (e2 aT (e2 ak (aa 5) (eC (.int 3))) (aa 2))))) (ay (ie (aU 1 [] (bj (e2 ak (aa 3) (e2 ak (aa 5) (eC (.int 2))))) (gN 0) (fe (cK (aa 0))) (aa 0)) (aa 3) (e2 ak (aa 5) (eC (.int 2)))) (ie (eC (.bl true)) (aa 4) (e2 ak (aa 5) (eC (.int 2))))) bX) (cc (cG (aF (e2 aT (e2 ak (aa 5) (eC (.int 0))) (eC (.str "made")))) (cG (aF (e2 aT (e2 ak (aa 5) (eC (.int 1))) (aa 1))) (aF (e2 cv (aa 2) (e2 bO (e2 ak (e2 ak (aa 5) (eC (.int 3))) (eC (.int 0))) (e2 ak (e2 ak (aa 5) (eC (.int 3))) (eC (.int 1)))))))) (ie (aU 1 [2,5] (bj (e2 ak (aa 3) (e2 ak (aa 5) (eC (.int 2))))) (gN 0) (aF (e2 aT (aa 0) (e2 cv (aa 1) (e2 ak (e2 ak (aa 2) (eC (.int 3))) (eC (.int 0)))))) (aa 0)) (aa 3) (e2 ak (aa 5) (eC (.int 2)))) bX))) (ay (eU (vn (ae (eC (.int 1)) (ae (eC (.int 31)) ah))) (gN 6) (ay (aJ (aX (ae (e2 ak (aa 3) (e2 rq (aa 6) (eC (.int 1)))) (ae (e2 ak (aa 4) (aa 6)) ah))) (gT [(gN 7),(gN 8)])) (ie (aU 1 [7,8] (bj (e2 ak (aa 3) (aa 6))) (gN 0) (fM (cG (cK (aa 0)) (aF (e2 gj (aa 1) (fH ah)))) (cK (ax AM (ae (aa 1) (ae (aa 0) (ae (aa 2) ah)))))) (aa 0)) (aa 3) (aa 6)))) (ay (eU (D6 (ae (eC (.int 29)) (ae (e1 jN (eC (.int 1))) (ae (e1 jN (eC (.int 1))) ah)))) (gN 6) (ie (aU 1 [3,4,6] (bj (e2 ak (aa 3) (aa 6))) (gN 0) (cK (ax Ai (ae (e2 ak (aa 1) (e2 bO (aa 3) (eC (.int 1)))) (ae (aa 0) (ae (e2 ak (aa 2) (e2 bO (aa 3) (eC (.int 1)))) ah))))) (aa 0)) (aa 3) (aa 6))) (aL (aU 1 [] (bj (jT (aa 3))) (gN 0) bQ (eB cC (ae (aa 0) ah)))))))))
def wC:List D->ag->Res D:=aS 1 1 (cc (fe (cK (ax wN (ae (aa 0) ah)))) yS bX)
def wq:List D->ag->Res D:=aS 1 1 (cc (fe (cK (ax sV (ae (aa 0) ah)))) yS bX)
def v9:List D->ag->Res D:=aS 3 8 (ay (aJ (ax lr (ae (aa 0) (ae (aa 1) (ae (aa 2) (ae (eC (.int (0))) ah))))) (gN 3)) (ay (aJ (ax oz (ae (aa 0) (ae (aa 1) (ae (aa 2) ah)))) (gN 4)) (ay (aJ (eNew ah) (gN 5)) (ay (aJ (eC (.bl false)) (gN 6)) (ay (eU (bP (ae (eC (.int (31))) ah)) (gN 7) (ay (aJ (kP (e2 cv (aa 7) (aa 3)) (cH (aa 6) (e2 fE (aa 7) (aa 4)))) (gN 6)) (cc (cK (aa 6)) (fF (ic (aa 5) (aa 7))) bX))) (aL (jT (aa 5))))))))
def we:List D->ag->Res D:=aS 3 8 (ay (aJ (ax lr (ae (aa 0) (ae (aa 1) (ae (aa 2) (ae (eC (.int (1))) ah))))) (gN 3)) (ay (aJ (ax oz (ae (aa 0) (ae (aa 1) (ae (aa 2) ah)))) (gN 4)) (ay (aJ (eNew ah) (gN 5)) (ay (aJ (eC (.bl false)) (gN 6)) (ay (eU (D5 (ae (eC (.int (31))) ah)) (gN 7) (ay (cc (fM (cK (aa 6)) (fM (aF (e2 cv (aa 7) (aa 3))) (aF (e2 cv (aa 7) (aa 4))))) (fF (ic (aa 5) (aa 7))) bX) (aJ (cH (kP (aa 6) (e2 cv (aa 7) (aa 3))) (e2 fE (aa 7) (aa 4))) (gN 6)))) (aL (jT (aa 5))))))))
def sW:List D->ag->Res D:=aS 2 2 (aL (eB cC (ae (aU 1 [1,0] (bP (ae (eC (.int (8))) ah)) (gN 0) (aF (e2 cv (aa 1) (e2 ak (aa 2) (aa 0)))) (aa 0)) ah)))
def wg:List D->ag->Res D:=aS 2 4 (ay (aJ (aU 1 [0,1] (bP (ae (eC (.int (8))) ah)) (gN 0) bQ (ax v9 (ae (aa 1) (ae (aa 2) (ae (aa 0) ah))))) (gN 2)) (ay (aJ (aU 1 [0,1] (bP (ae (eC (.int (8))) ah)) (gN 0) bQ (ax we (ae (aa 1) (ae (aa 2) (ae (aa 0) ah))))) (gN 3)) (aL (aU 1 [2,3] (bP (ae (eC (.int (31))) ah)) (gN 0) bQ (aX (ae (ax sW (ae (aa 1) (ae (aa 0) ah))) (ae (ax sW (ae (aa 2) (ae (aa 0) ah))) ah)))))))
section
variable {X:Cx} {Ξ:Wd->bq->Prop} {a b:ļ} {pos:Pos} {fa:Env->ag->Res (List D)}
def UJ {j1 j2}:PE X (.Dict [some (.Constant (.str i) j1 p1)] [.Constant (.int v) j2 p2] pos) (tE X.K Ξ (eC (.aZ [(abe i,v)]))) :=
 cN (RU (Qi IM IK RT) rfl rfl (by simp) (by simp)) fun σ H Q az=>by
  obtain⟨w,env,eH,S,eo,h⟩:=az;subst eH;intro p hp;refine⟨dg,[(abe i,.int v)],rfl,by simp,?_⟩;have e:upd (upd w.H p (.dK [])) p (.dK (qU [] [(abe i,.int v)]))=upd w.H p (.dK [(abe i,.int v)]):=by
   funext b;by_cases hb:b=p
   ·subst hb;rw[dg,dg];rfl
   ·rw[bo hb,bo hb,bo hb]
  rw[e];exact h (w.grow p (.dK [(abe i,.int v)])) (Fw.grow hp).le (S.grow hp) rfl (.ref p) ⟨p,rfl,(show ¬ w.Z p from nr S hp),dg⟩
end
noncomputable def notStar:ļ->Bool
 | .Starred ..=>false
 |_=>true
def SA (h:notStar e=true):Þ (e::es) env=(false,ţ e env)::Þ es env:=by
 cases e<;>first|rfl|cases h
section
variable {X:Cx} {Ξ:Wd->bq->Prop} {e:ļ} {es:List ļ} {f:Env->ag->Res D} {fa:Env->ag->Res (List D)} {pos:Pos}
def cy (ha:PE X e (tE X.K Ξ f)) (hr:PA X es (tA X.K Ξ fa)) (h:notStar e=true):PA X (e::es) (tA X.K Ξ (ae f fa)):=aM ha hr (SA h)
def UK {e1 e2 e3 e4 e5 e6 e7:ļ} {f1 f2 f3 f4 f5 f6 f7:Env->ag->Res D} (h1:PE X e1 (tE X.K Ξ f1)) (h2:PE X e2 (tE X.K Ξ f2)) (h3:PE X e3 (tE X.K Ξ f3)) (h4:PE X e4 (tE X.K Ξ f4)) (h5:PE X e5 (tE X.K Ξ f5)) (h6:PE X e6 (tE X.K Ξ f6)) (h7:PE X e7 (tE X.K Ξ f7)) (s1:notStar e1=true:=by rfl) (s2:notStar e2=true:=by rfl) (s3:notStar e3=true:=by rfl) (s4:notStar e4=true:=by rfl) (s5:notStar e5=true:=by rfl) (s6:notStar e6=true:=by rfl) (s7:notStar e7=true:=by rfl):PE X (.List [e1,e2,e3,e4,e5,e6,e7] pos) (tE X.K Ξ (fH (ae f1 (ae f2 (ae f3 (ae f4 (ae f5 (ae f6 (ae f7 ah))))))))):=iU (cy h1 (cy h2 (cy h3 (cy h4 (cy h5 (cy h6 (cy h7 bL s7) s6) s5) s4) s3) s2) s1)
def UL {e1 e2 e3 e4 e5 e6 e7 e8:ļ} {f1 f2 f3 f4 f5 f6 f7 f8:Env->ag->Res D} (h1:PE X e1 (tE X.K Ξ f1)) (h2:PE X e2 (tE X.K Ξ f2)) (h3:PE X e3 (tE X.K Ξ f3)) (h4:PE X e4 (tE X.K Ξ f4)) (h5:PE X e5 (tE X.K Ξ f5)) (h6:PE X e6 (tE X.K Ξ f6)) (h7:PE X e7 (tE X.K Ξ f7)) (h8:PE X e8 (tE X.K Ξ f8)) (s1:notStar e1=true:=by rfl) (s2:notStar e2=true:=by rfl) (s3:notStar e3=true:=by rfl) (s4:notStar e4=true:=by rfl) (s5:notStar e5=true:=by rfl) (s6:notStar e6=true:=by rfl) (s7:notStar e7=true:=by rfl) (s8:notStar e8=true:=by rfl):PE X (.List [e1,e2,e3,e4,e5,e6,e7,e8] pos) (tE X.K Ξ (fH (ae f1 (ae f2 (ae f3 (ae f4 (ae f5 (ae f6 (ae f7 (ae f8 ah)))))))))):=iU (cy h1 (cy h2 (cy h3 (cy h4 (cy h5 (cy h6 (cy h7 (cy h8 bL s8) s7) s6) s5) s4) s3) s2) s1)
def SD {e1 e2 e3 e4 e5 e6 e7 e8 e9 de kZ k9 D8 D9 Ea Eb Ec Ed:ļ} {f1 f2 f3 f4 f5 f6 f7 f8 f9 LI LJ LK LM LN LO LP LQ LR:Env->ag->Res D} (h1:PE X e1 (tE X.K Ξ f1)) (h2:PE X e2 (tE X.K Ξ f2)) (h3:PE X e3 (tE X.K Ξ f3)) (h4:PE X e4 (tE X.K Ξ f4)) (h5:PE X e5 (tE X.K Ξ f5)) (h6:PE X e6 (tE X.K Ξ f6)) (h7:PE X e7 (tE X.K Ξ f7)) (h8:PE X e8 (tE X.K Ξ f8)) (h9:PE X e9 (tE X.K Ξ f9)) (YJ:PE X de (tE X.K Ξ LI)) (lZ:PE X kZ (tE X.K Ξ LJ)) (lY:PE X k9 (tE X.K Ξ LK)) (D1:PE X D8 (tE X.K Ξ LM)) (YK:PE X D9 (tE X.K Ξ LN)) (ve:PE X Ea (tE X.K Ξ LO)) (YL:PE X Eb (tE X.K Ξ LP)) (YM:PE X Ec (tE X.K Ξ LQ)) (YN:PE X Ed (tE X.K Ξ LR)) (s1:notStar e1=true:=by rfl) (s2:notStar e2=true:=by rfl) (s3:notStar e3=true:=by rfl) (s4:notStar e4=true:=by rfl) (s5:notStar e5=true:=by rfl) (s6:notStar e6=true:=by rfl) (s7:notStar e7=true:=by rfl) (s8:notStar e8=true:=by rfl) (s9:notStar e9=true:=by rfl) (YO:notStar de=true:=by rfl) (YQ:notStar kZ=true:=by rfl) (YR:notStar k9=true:=by rfl) (YS:notStar D8=true:=by rfl) (YT:notStar D9=true:=by rfl) (YU:notStar Ea=true:=by rfl) (YV:notStar Eb=true:=by rfl) (YW:notStar Ec=true:=by rfl) (YX:notStar Ed=true:=by rfl):PE X (.List [e1,e2,e3,e4,e5,e6,e7,e8,e9,de,kZ,k9,D8,D9,Ea,Eb,Ec,Ed] pos) (tE X.K Ξ (fH (ae f1 (ae f2 (ae f3 (ae f4 (ae f5 (ae f6 (ae f7 (ae f8 (ae f9 (ae LI (ae LJ (ae LK (ae LM (ae LN (ae LO (ae LP (ae LQ (ae LR ah)))))))))))))))))))):=iU (cy h1 (cy h2 (cy h3 (cy h4 (cy h5 (cy h6 (cy h7 (cy h8 (cy h9 (cy YJ (cy lZ (cy lY (cy D1 (cy YK (cy ve (cy YL (cy YM (cy YN bL YX) YW) YV) YU) YT) YS) YR) YQ) YO) s9) s8) s7) s6) s5) s4) s3) s2) s1)
end
end DI
namespace L2
open PySem PySem.Spec PyProof.Rows
def nU (K:Ĳ) (l:á) (all:List V) (rk:V->Hp->VK->Prop) (rc:R2):List V->V->V->Hp->VK->Prop
 | [],vb,_,H,Q=>aR K H l all/\Q vb H
 |x::xs,vb,kb,H,Q=>aR K H l all/\rk x H λk H1=>rc k kb H1 λz H2=>∃b,z=.bl b/\if b=true then nU K l all rk rc xs x k H2 Q else nU K l all rk rc xs vb kb H2 Q
def Kc (K:Ĳ) (l:á) (all:List V) (rk:V->Hp->VK->Prop) (rc:R2) (dv:V) (H:Hp) (Q:VK):Prop:=aR K H l all/\match all with
 | []=>Q dv H
 |x::xs=>rk x H λk H1=>nU K l all rk rc xs x k H1 Q
noncomputable def vQ:Bool->String
 |true=>"max"
 |false=>"min"
noncomputable def Ee:Bool->String
 |true=>"max.loop"
 |false=>"min.loop"
noncomputable def LS:Bool->CmpOp
 |true=>.Gt
 |false=>.Lt
noncomputable def YY:Bool->ň
 |true=>ň.«max.loop»
 |false=>ň.«min.loop»
noncomputable def YZ:Bool->ň
 |true=>Builtin.max
 |false=>Builtin.min
def x8:∀m,entryFor table (Ee m)=some (YY m)
 |true=>PySem.F.entry_max_loop
 |false=>χ
def lH:∀m,plainId (Ee m)=true
 |true=>PySem.F.plain_max_loop
 |false=>Ħ
def Xk:∀m,builtinKind (vQ m)=none
 |true=>PySem.F.kind_max
 |false=>PySem.F.kind_min
def Xl:∀m,plainId (vQ m)=true
 |true=>PySem.F.plain_max
 |false=>PySem.F.plain_min
def Xm:∀m,entryFor table (vQ m)=some (YZ m)
 |true=>PySem.F.entry_max
 |false=>PySem.F.entry_min
def Xn:∀(m:Bool) (a:Í),argsOk (vQ m) ⟨[a],[]⟩
 |true=>N0
 |false=>N1
def Xo (n:String):Ţ n ["key","default"] 0 ⟨[],[]⟩=pure [none,none]:=rfl
def x9:(toString "max"++toString ".loop":String)="max.loop":=by decide
def yb:(toString "min"++toString ".loop":String)="min.loop":=by decide
def QQ (m:Bool) {X:Cx} {l I S:á}  {kw:List (Str×Í)} {all:List V} {π:List (á×Obj)} {σ:St} {rc:R2} {Q:VK} (hc:X.calm=true) (kW:l≠I) (iJ:S≠I) (vJ:S≠l) (hC:aW X.cx (Č (LS m)) rc) :
  ∀(rest:List V) (j:Nat) (s:É) (H:Hp) (vb kb:V) (ub uk:Í) (c:Nat),all.drop j=rest->j<=all.length->Inv X.cx π σ H s->cj X π H S->cj X π H I->s.heap.get? S=some { cls:=.type "list",dict:=none,data:=.seq #[ub,uk] c,slots:=#[] }->s.heap.IsTupleIter I l j->RelV vb ub->RelV kb uk ->
   nU X.K l all qj rc rest vb kb H Q->aaO (ø X.prog X.w) X.A (.builtin (Ee m) ⟨[.ref I,.none,.ref S],kw⟩) (xB X π σ Q) s:=by
 cases m
 all_goals
  intro rest
  induction rest with
  |nil =>
   intro j s H vb kb ub uk c hd sC I0 fS fI gS hit rb Yj h;obtain⟨hq,h⟩:=h;have hj:j=all.length:=Nat.le_antisymm sC (by simpa using hd);subst hj;obtain⟨its,rv,pl,hz⟩:=I0.tuple hq;have hh:X.A.in1.handled=none:=I0.ok.hd hc;have W:=Walks.tuple (prog:=X.prog) (w:=X.w) (A:=X.A.in1) hh I l kW its.toArray;have hsz:its.toArray.size=all.length:=by rw[Ô];exact rv.length.symm
   refine ī (x8 _) ?_;rw[Ė (lH _) _];show à _ X.A.in1 (abS (.ref S) >>= _) _ _ _;refine À (Ě gS rfl ?_);show à _ X.A.in1 (tryCatch (Ť (.ref I)) _ >>= _) _ _ _;refine À (ŀ (W.done _ _ _ ⟨by rw[hsz];exact hit,(show s.heap.IsTuple l its.toArray from pl)⟩ λh' fW dZ=>?_));have kX:=dZ S _ (by simpa using iJ) gS
   have I1:Inv X.cx π σ H { s with heap:=h',toks:=fW }:=I0.turned (it:=I) (λb o hb e=>dZ b o (by simpa using hb) e) fI.1 fI.2.1 fI.2.2.2.1 fI.2.2.2.2.1 fI.2.2.2.2.2
   show à _ X.A.in1 (updateSeq S (λ_=>#[]) >>= _) _ _ _;refine À ?_;refine š kX rfl (À (Ŵ (Â ?_)));have I2:=I1.turned (h':=h'.update S (Ī λ_=>(#[]:Array Í))) (t':=fW) (it:=S) (λb o hb e=>(ÿ _ _ (Ň hb)).trans e) fS.1 fS.2.1 fS.2.2.2.1 fS.2.2.2.2.1 fS.2.2.2.2.2;exact⟨vb,H,I2.CN,rb,h⟩
  |cons x rest ih =>
   intro j s H vb kb ub uk c hd sC I0 fS fI gS hit rb vK h;obtain⟨hq,h⟩:=h;have hx:all[j]?=some x:=by
    have:=Ĺ (λl=>l[0]?) hd;simpa using this
   have dY:all.drop (j+1)=rest:=by
    have:=Ĺ (List.drop 1) hd;simpa [ab7] using this
   obtain⟨its,rv,pl,hz⟩:=I0.tuple hq;have hh:X.A.in1.handled=none:=I0.ok.hd hc;have W:=Walks.tuple (prog:=X.prog) (w:=X.w) (A:=X.A.in1) hh I l kW its.toArray;have hsz:its.toArray.size=all.length:=by rw[Ô];exact rv.length.symm
   refine ī (x8 _) ?_;rw[Ė (lH _) _];show à _ X.A.in1 (abS (.ref S) >>= _) _ _ _;refine À (Ě gS rfl ?_);show à _ X.A.in1 (tryCatch (Ť (.ref I)) _ >>= _) _ _ _;refine À (ŀ (W.item j _ _ _ (by rw[hsz];exact(Å.mp hx).1) ⟨hit,(show s.heap.IsTuple l its.toArray from pl)⟩ λv h' fW hP pO dZ=>?_));obtain⟨v',lU,rx⟩:=rv.get hx;have ev:v'=v:=by
    have:its.toArray[j]?=some v:=hP;rw[aaq,lU] at this;exact Option.some.inj this
   subst ev;have kX:=dZ S _ (by simpa using iJ) gS
   have I1:Inv X.cx π σ H { s with heap:=h',toks:=fW }:=I0.turned (it:=I) (λb o hb e=>dZ b o (by simpa using hb) e) fI.1 fI.2.1 fI.2.2.2.1 fI.2.2.2.2.1 fI.2.2.2.2.2
   obtain⟨oI,qk,jY,fg⟩:=id pO.1;have nS:∀v,({ cls:=.type "list",dict:=none,data:=.seq #[ub,uk] c,slots:=#[] }:Obj).data≠.cell v:=λv z=>by cases z
   have nI:∀v,oI.data≠.cell v:=λv z=>by rw[fg] at z;cases z
   have I2:=I1.ip (pins':=π++[(S,{ cls:=.type "list",dict:=none,data:=.seq #[ub,uk] c,slots:=#[] }),(I,oI)]) λp hp=>by
    rcases Ù.mp hp with z|z
    ·exact I1.pin p (Æ _ z)
    ·rcases Ó.mp z with rfl|z
     ·exact⟨kX,fS.1,fS.2.1,fS.2.2.1,nS⟩
     ·rw[Ü.mp z]
      exact⟨qk,fI.1,fI.2.1,fI.2.2.1,nI⟩
   refine À (Â ?_)
   have gr:EP X.cx _ σ (λk H1=>rc k kb H1 (λz H2=>∃b,z=.bl b/\if b=true then nU X.K l all qj rc rest x k H2 Q else nU X.K l all qj rc rest vb kb H2 Q)) v' { s with heap:=h',toks:=fW }:=⟨x,H,I2,rx,h⟩
   obtain⟨s2,bZ⟩:∃s2:É,s2={ s with heap:=h',toks:=fW }:=⟨_,rfl⟩
   rw[<- bZ] at gr;rw[<- bZ];obtain⟨k,H2,I3,mU,h⟩:=gr;show à _ X.A.in1 (tryCatch (aac [v',v'] (richCompare _ v' uk >>= _)) _ >>= _) _ _ _;refine À (ŀ (ė (À (ĳ (hC _ s2 σ H2 k kb v' uk _ I3 mU vK h) (λz s3 D2=>?_) λ_ _ z=>z.elim))));obtain⟨zv,H3,I4,rz,b,eb,h⟩:=D2;subst eb;cases rz;refine À (ė (Į ?_));refine À (Ŵ (Â ?_));have pS:=I4.pin (S,{ cls:=.type "list",dict:=none,data:=.seq #[ub,uk] c,slots:=#[] }) (Æ _ (Æ _ (by simp)));have pI:=I4.pin (I,oI) (Æ _ (Æ _ (by simp)));have I5:Inv X.cx π σ H3 s3:=I4.jd;have cU:cj X π H3 S:=⟨pS.2.1,fS.2⟩;have mV:cj X π H3 I:=⟨pI.2.1,fI.2⟩
   cases b with
   |true =>
    rw[Ú rfl] at h;rw[Ú rfl];refine À ?_;refine š pS.1 rfl (À (Ŵ ?_))
    first|rw[x9]|rw[yb]
    obtain⟨c2,ig⟩:∃c2,(s3.heap.update S (Ī λ_=>#[v',v'])).get? S=some { cls:=.type "list",dict:=none,data:=.seq #[v',v'] c2,slots:=#[] }:=⟨_,ă _ pS.1 rfl⟩
    have I6:Inv X.cx π σ H3 { s3 with heap:=s3.heap.update S (Ī λ_=>#[v',v']),toks:=s3.toks }:=I5.turned (t':=s3.toks) (it:=S) (λb o hb e=>(ÿ _ _ (Ň hb)).trans e) cU.1 cU.2.1 cU.2.2.2.1 cU.2.2.2.2.1 cU.2.2.2.2.2
    exact Â ⟨Ł (by first|exact lH true|exact lH false) _,ih (j+1) _ H3 x k v' v' c2 dY (Å.mp hx).1 I6 cU mV ig ⟨oI,(ÿ _ _ iJ).trans pI.1,jY,fg⟩ rx mU h⟩
   |false =>
    rw[æ Ë] at h;rw[æ Ë];refine À (Ŵ ?_)
    first|rw[x9]|rw[yb]
    exact Â ⟨Ł (by first|exact lH true|exact lH false) _,ih (j+1) _ H3 vb kb ub uk c dY (Å.mp hx).1 I5 cU mV pS.1 ⟨oI,pI.1,jY,fg⟩ rb vK h⟩
def Hh (m:Bool) {X:Cx} {l:á}  {all:List V} {π:List (á×Obj)} {σ:St} {H:Hp} {s:É} {rc:R2} {Q:VK} (hc:X.calm=true) (hC:aW X.cx (Č (LS m)) rc)
  (I0:Inv X π σ H s) (fy:all≠[]) (h:Kc X.K l all qj rc .au H Q):à (ø X.prog X.w) X.A (call (.builtin (vQ m)) [.ref l] []) (EP X π σ Q) X.xe s:=by
 cases m
 all_goals
  obtain⟨hq,h⟩:=h;obtain⟨its,rv,pl,hz⟩:=I0.tuple hq;have vL:l<s.heap.objs.size:=by obtain⟨o,ho,_⟩:=pl;exact Î ho
  have hh:X.A.in1.handled=none:=I0.cx.ok.hd hc;refine kmk_tree (Xk _) (Xl _) (Xm _) (Xn _ _) ?_;show à _ X.A.in1 (Ţ _ ["key","default"] 0 ⟨[],[]⟩ >>= _) _ _ s;refine À (Š (Xo _) ?_);refine À (Â ?_);refine À (ψ (show s.heap.IsTuple l its.toArray from pl) ?_);refine À (abK ?_ (Ę _))
  first|rw[x9]|rw[yb]
  generalize hI:s.heap.objs.size=I at *;have hS:(s.heap.push { cls:=.type "tuple_iterator",data:=.fields #[.ref l,.int 0 0] }).objs.size=I+1:=by rw[<- hI];exact ú ..
  generalize D3:(s.heap.push { cls:=.type "tuple_iterator",data:=.fields #[.ref l,.int 0 0] }).objs.size=S at *;have kW:l≠I:=è vL;have iJ:S≠I:=by rw[hS];exact Nat.succ_ne_self _
  have vJ:S≠l:=by rw[hS];exact Ń (Ģ vL)
  have kk:∀b o,s.heap.get? b=some o->((s.heap.push { cls:=.type "tuple_iterator",data:=.fields #[.ref l,.int 0 0] }).push { cls:=.type "list",dict:=none,data:=.seq #[] 0,slots:=#[] }).get? b=some o:=λb o e=>Á _ (Á _ e);have gI:((s.heap.push { cls:=.type "tuple_iterator",data:=.fields #[.ref l,.int 0 0] }).push { cls:=.type "list",dict:=none,data:=.seq #[] 0,slots:=#[] }).get? I=some { cls:=.type "tuple_iterator",data:=.fields #[.ref l,.int 0 0] }:=Á _ (hI ▸ Ì _ rfl);have gS:((s.heap.push { cls:=.type "tuple_iterator",data:=.fields #[.ref l,.int 0 0] }).push { cls:=.type "list",dict:=none,data:=.seq #[] 0,slots:=#[] }).get? S=some { cls:=.type "list",dict:=none,data:=.seq #[] 0,slots:=#[] }:=D3 ▸ Ì _ rfl;have nI:H I=none:=I0.aE.fresh (ō hI);have nS:H S=none:=I0.aE.fresh (by rw[hS];exact Û (ō hI) (ŵ _));have fI:cj X π H I:=I0.lL (ō hI) nI;have fS:cj X π H S:=I0.lL (by rw[hS];exact Û (ō hI) (ŵ _)) nS;have I1:=I0.cx.kept (t':=s.toks) kk
  refine Â ⟨Ł (by first|exact lH true|exact lH false) _,?_⟩
  show aaO (ø X.prog X.w) X.A (.builtin _ ⟨[.ref I,.none,.ref S],[]⟩) (xB X π σ Q) _;have W:=Walks.tuple (prog:=X.prog) (w:=X.w) (A:=X.A.in1) hh I l kW its.toArray;have hsz:its.toArray.size=all.length:=by rw[Ô];exact rv.length.symm
  have hit:Heap.IsTupleIter ((s.heap.push { cls:=.type "tuple_iterator",data:=.fields #[.ref l,.int 0 0] }).push { cls:=.type "list",dict:=none,data:=.seq #[] 0,slots:=#[] }) I l 0:=⟨_,gI,rfl,rfl⟩;have zb:Heap.IsTuple ((s.heap.push { cls:=.type "tuple_iterator",data:=.fields #[.ref l,.int 0 0] }).push { cls:=.type "list",dict:=none,data:=.seq #[] 0,slots:=#[] }) l its.toArray:=by obtain⟨o,e,r⟩:=pl;exact⟨o,kk l o e,r⟩
  first|refine ī (x8 true) ?_|refine ī (x8 false) ?_
  first|rw[Ė PySem.F.plain_max_loop _]|rw[Ė Ħ _]
  show à _ X.A.in1 (abS (.ref S) >>= _) _ _ _;refine À (Ě gS rfl ?_);show à _ X.A.in1 (tryCatch (Ť (.ref I)) _ >>= _) _ _ _
  cases all with
  |nil =>
   exact absurd rfl fy
  |cons x rest =>
   refine À (ŀ (W.item 0 _ _ _ (by rw[hsz];simp) ⟨hit,zb⟩ λv h' fW hP pO dZ=>?_));obtain⟨v',lU,rx⟩:=rv.get (i:=0) (x:=x) rfl;have ev:v'=v:=by
    have:its.toArray[0]?=some v:=hP;rw[aaq,lU] at this;exact Option.some.inj this
   subst ev;have kX:=dZ S _ (by simpa using iJ) gS;have I2:=I1.turned (h':=h') (t':=fW) (it:=I) (λb o hb e=>dZ b o (by simpa using hb) e) fI.1 fI.2.1 fI.2.2.2.1 fI.2.2.2.2.1 fI.2.2.2.2.2;obtain⟨oI,qk,jY,fg⟩:=id pO.1;have cS:∀v,({ cls:=.type "list",dict:=none,data:=.seq #[] 0,slots:=#[] }:Obj).data≠.cell v:=λv z=>by cases z
   have cI:∀v,oI.data≠.cell v:=λv z=>by rw[fg] at z;cases z
   have I3:=I2.ip (pins':=π++[(S,{ cls:=.type "list",dict:=none,data:=.seq #[] 0,slots:=#[] }),(I,oI)]) λp hp=>by
    rcases Ù.mp hp with z|z
    ·exact I2.pin p (Æ _ z)
    ·rcases Ó.mp z with rfl|z
     ·exact⟨kX,fS.1,fS.2.1,fS.2.2.1,cS⟩
     ·rw[Ü.mp z]
      exact⟨qk,fI.1,fI.2.1,fI.2.2.1,cI⟩
   refine À (Â ?_)
   have gr:EP X.cx _ σ (λk H1=>nU X.K l (x::rest) qj rc rest x k H1 Q) v' { s with heap:=h',toks:=fW }:=⟨x,H,I3,rx,h⟩
   obtain⟨s2,bZ⟩:∃s2:É,s2={ s with heap:=h',toks:=fW }:=⟨_,rfl⟩
   rw[<- bZ] at gr;rw[<- bZ];obtain⟨k,H2,I4,mU,h⟩:=gr;have pS:=I4.pin (S,{ cls:=.type "list",dict:=none,data:=.seq #[] 0,slots:=#[] }) (Æ _ (Æ _ (by simp)));have pI:=I4.pin (I,oI) (Æ _ (Æ _ (by simp)));have I5:Inv X.cx π σ H2 s2:=I4.jd;have cU:cj X π H2 S:=⟨pS.2.1,fS.2⟩;have mV:cj X π H2 I:=⟨pI.2.1,fI.2⟩;show à _ X.A.in1 (updateSeq S (λ_=>#[v',v']) >>= _) _ _ _;refine À ?_;refine š pS.1 rfl ?_
   first|rw[x9]|rw[yb]
   obtain⟨c2,ig⟩:∃c2,(s2.heap.update S (Ī λ_=>#[v',v'])).get? S=some { cls:=.type "list",dict:=none,data:=.seq #[v',v'] c2,slots:=#[] }:=⟨_,ă _ pS.1 rfl⟩
   have I6:Inv X.cx π σ H2 { s2 with heap:=s2.heap.update S (Ī λ_=>#[v',v']),toks:=s2.toks }:=I5.turned (t':=s2.toks) (it:=S) (λb o hb e=>(ÿ _ _ (Ň hb)).trans e) cU.1 cU.2.1 cU.2.2.2.1 cU.2.2.2.2.1 cU.2.2.2.2.2
   exact Â ⟨Ł (by first|exact lH true|exact lH false) _,QQ _ hc kW iJ vJ hC rest 1 _ H2 x k v' v' c2 rfl (by simp) I6 cU mV ig ⟨oI,(ÿ _ _ iJ).trans pI.1,jY,fg⟩ rx mU h⟩
end L2
namespace DI
open PySem L2
def nV (o:D->D->ag->Res D):D->List D->ag->Res D
 |b,[],s=>ok b s
 |b,d::ds,s=>ao (ne (o d b s)) λc s=>match c with
  | .bl true=>nV o d ds s
  | .bl false=>nV o b ds s
  |_=>none
def yc (o:D->D->ag->Res D) (d:D) (s:ag):Res D:=match d with
 | .tup (d::ds)=>nV o d ds s
 |_=>none
def Bi {K:Ĳ} {Ξ:Wd->bq->Prop} {o:D->D->ag->Res D} {l:á} {all:List V} {Q:VK}:∀{ds:List D} {vs:List V} {w:Wd} {b:D} {vb:V},aK K w->aR K w.H l all->ar K w ds vs->DV K w b vb ->
  Out K Ξ w (nV o b ds w.aG) (λw' d=>∀v,DV K w' d v->Q v w'.H)->nU K l all qj (rO K bE o) vs vb vb w.H Q
 | [],vs,w,b,vb,S,hl,hd,hb,h=>by
  have e:vs=[]:=hd;subst e;exact⟨hl,aH S h _ hb⟩
 |d::ds,vs,w,b,vb,S,hl,hd,hb,h=>by
  obtain⟨v,r,rfl,dv,dr⟩:=hd;refine⟨hl,w,d,b,rfl,S,dv,hb,(Out.ao h).ne.mono λw2 c l2 S2 h2 vc dc=>?_⟩
  cases c with
  |bl c =>
   have e:vc=.bl c:=dc;refine⟨c,e,?_⟩
   cases c with
   |true =>
    rw[Ú rfl];exact Bi (Ξ:=Ξ) S2 (l2.tup _ _ hl) (l2.all dr) (l2 _ _ dv) h2
   |false =>
    rw[æ Ë];exact Bi (Ξ:=Ξ) S2 (l2.tup _ _ hl) (l2.all dr) (l2 _ _ hb) h2
  |_=>exact h2.elim
def Kd {K:Ĳ} {Ξ:Wd->bq->Prop} {o:D->D->ag->Res D} {w:Wd} {d:D} {v:V} {Q:VK} (S:aK K w) (hl:DV K w d v) (h:Out K Ξ w (yc o d w.aG) (λw' d=>∀v,DV K w' d v->Q v w'.H)):∃l all,v=.ref l/\all≠[]/\Kc K l all qj (rO K bE o) .au w.H Q:=by
 unfold yc at h;split at h
 ·simp only[DV] at hl
  obtain⟨l,all,rfl,ha,x,r,rfl,dx,dr⟩:=hl;exact⟨l,_,rfl,by simp,ha,Bi (Ξ:=Ξ) S ha dr dx h⟩
 ·exact h.elim
def yd (ds:List D) (s:ag):Res D:=match ds with
 | [d]=>yc rR d s
 |_=>none
def uj (ds:List D) (s:ag):Res D:=match ds with
 | [d]=>yc xR d s
 |_=>none
section
variable {X:Cx} {Ξ:Wd->bq->Prop}
def UM (hc:X.calm=true):bV X (.builtin "max") (rC X.K Ξ yd):=by
 rintro π s σ H xs us Q I r ⟨w,ds,rfl,S,aq,h⟩;unfold yd at h;split at h
 ·obtain⟨v,rfl,dv⟩:=lG aq
  obtain⟨l,all,rfl,fy,vM⟩:=Kd S dv h;obtain⟨u,rfl,ru⟩:=vals1 r;cases ru;exact Hh true hc (KO (X:=X.cx)) I fy vM
 ·exact h.elim
def Jz (hc:X.calm=true):bV X (.builtin "min") (rC X.K Ξ uj):=by
 rintro π s σ H xs us Q I r ⟨w,ds,rfl,S,aq,h⟩;unfold uj at h;split at h
 ·obtain⟨v,rfl,dv⟩:=lG aq
  obtain⟨l,all,rfl,fy,vM⟩:=Kd S dv h;obtain⟨u,rfl,ru⟩:=vals1 r;cases ru;exact Hh false hc (VS (X:=X.cx)) I fy vM
 ·exact h.elim
end
end DI
namespace L2
open PySem PySem.Spec PyProof.Rows
def CS (K:Ĳ) (a b:á):It :=
 ⟨λi H=>∃xs ys x y,bp K H a xs/\aR K H b ys/\xs[i]?=some x/\ys[i]?=some y,λi H v H'=>∃p x y,H p=none/\v=.ref p/\H'=upd H p (.tup [x,y])/\∀xs ys,bp K H a xs->aR K H b ys->xs[i]?=some x/\ys[i]?=some y,
  λi H=>∃xs ys,bp K H a xs/\aR K H b ys/\(xs.length<=i\/ys.length<=i)⟩
def Pd {P:ù} {w:ď} {K:Ĳ} {elts:List ļ} {kk:Nat} {pos:Pos} (a b z ti to j1 j2:á) (F:Cz z ti to j1 j2) :
  Turn P w K (.Tuple elts kk pos) (CS K a b) [z,ti,to,j1,j2] z (JR (λi h=>h.IsListIter j1 a i) (λi h=>h.IsTupleIter j2 b i) z ti to j1 j2) where
 mem:=by simp
 obj:=λi h st c hc=>by
  have i5:c=z\/c=ti\/c=to\/c=j1\/c=j2:=by simpa using hc
  rcases i5 with rfl|rfl|rfl|rfl|rfl
  ·exact⟨_,st.z,λv q=>nomatch q⟩
  ·exact⟨_,st.ti,λv q=>nomatch q⟩
  ·obtain⟨u,v,q⟩:=st.to;exact⟨_,q,λv q=>nomatch q⟩
  ·obtain⟨o,e,_,d⟩:=st.h1;exact⟨o,e,λv q=>by rw[d] at q;cases q⟩
  ·obtain⟨o,e,_,d⟩:=st.h2;exact⟨o,e,λv q=>by rw[d] at q;cases q⟩
 keep:=λi h h' st k=>⟨k z (by simp) _ st.z,k ti (by simp) _ st.ti,by obtain⟨u,v,q⟩:=st.to;exact⟨u,v,k to (by simp) _ q⟩,st.h1.at λo e=>k j1 (by simp) o e,st.h2.at λo e=>k j2 (by simp) o e⟩
 item:=by
  intro X hP hw hK hc i π s σ H E I hf st hg;subst hP hw hK;obtain⟨xs,ys,x,y,hx,hy,ex,ey⟩:=hg;obtain⟨i1,r1,p1,z1⟩:=I.list hx;obtain⟨i2,r2,p2,z2⟩:=I.tuple hy;obtain⟨u,eu,ru⟩:=r1.get ex;obtain⟨v,ev,rv⟩:=r2.get ey;have ne:∀c∈[z,ti,to,j1,j2],a≠c/\b≠c:=λc gQ=>⟨IY I hx (hf c gQ),qT I hy (hf c gQ)⟩;have D:HZ.Apart z ti to j1 j2 a b:=⟨F.a1,F.a2,F.a3,F.a4,F.a5,F.a6,F.a7,F.a8,F.a9,F.b0,(ne z (by simp)).1,(ne to (by simp)).1,(ne j1 (by simp)).1,(ne j2 (by simp)).1,(ne z (by simp)).2,(ne to (by simp)).2,(ne j1 (by simp)).2,(ne j2 (by simp)).2⟩;obtain⟨w1,w2,mI⟩:=st.to;have hh:X.A.in1.handled=none:=I.ok.hd hc;refine HZ.next_item D (HZ.HK hh j1 a i1.toArray) (HZ.qL hh j2 b i2.toArray) st.z st.ti mI ⟨st.h1,p1.isList⟩ ⟨st.h2,p2⟩ (by simpa using eu) (by simpa using ev) λh' c1 c2 c3 c4 c5 c6 c7=>⟨_,rfl,?_⟩;refine wpAny_letOwnedTupleGo_zip c1 λh2 d1 d2=>?_;have hn:H s.heap.objs.size=none:=I.aE.fresh (Nat.le_refl _);have Dq:z<s.heap.objs.size:=Î st.z;have pH:IsTup h2 s.heap.objs.size #[u,v]:=⟨_,d2.extBut _ _ (Ń Dq) c5,rfl,_,rfl⟩
  have I2:Inv X π σ (upd H s.heap.objs.size (.tup [x,y])) { s with heap:=h2,toks:=s.toks }:=I.Gh (ch:=[z,ti,to,j1,j2]) (λc o qb e=>by
   have q:c≠z/\c≠ti/\c≠to/\c≠j1/\c≠j2:=by simpa using qb
   exact d2.extBut c o q.1 (c7 c o q.1 q.2.2.1 q.2.2.2.1 q.2.2.2.2 e)) hf (Nat.le_refl _) ⟨by show 2<=Õ;decide,[u,v],.cons ru (.cons rv .nil),pH⟩
  refine⟨.ref s.heap.objs.size,_,I2,rfl,⟨_,x,y,hn,rfl,rfl,λXR XT q1 q2=>?_⟩,?_,λc gQ=>?_⟩
  ·rw[I.GQ q1 hx,I.wK q2 hy];exact⟨ex,ey⟩
  ·refine⟨d1,d2.extBut _ _ F.a1 (c7 _ _ F.a1 F.a5 F.a6 F.a7 st.ti),⟨_,_,d2.extBut _ _ F.a2 c2⟩,c3.1.extBut d2.extBut F.a3,c4.1.extBut d2.extBut F.a4⟩
  ·rw[bo]
   ·exact(hf c gQ).1
   ·intro e
    obtain⟨o,eo⟩:∃o,s.heap.get? c=some o:=by
     have i5:c=z\/c=ti\/c=to\/c=j1\/c=j2:=by simpa using gQ
     rcases i5 with q|q|q|q|q
     ·rw[q];exact⟨_,st.z⟩
     ·rw[q];exact⟨_,st.ti⟩
     ·rw[q];exact⟨_,mI⟩
     ·rw[q];obtain⟨o,e,_⟩:=st.h1;exact⟨o,e⟩
     ·rw[q];obtain⟨o,e,_⟩:=st.h2;exact⟨o,e⟩
    exact absurd (Î eo) (by rw[e];exact é _)
 done:=by
  intro X hP hw hK hc i π s σ H E I hf st hg;subst hP hw hK;obtain⟨xs,ys,hx,hy,hle⟩:=hg;obtain⟨i1,r1,p1,z1⟩:=I.list hx;obtain⟨i2,r2,p2,z2⟩:=I.tuple hy;have ne:∀c∈[z,ti,to,j1,j2],a≠c/\b≠c:=λc gQ=>⟨IY I hx (hf c gQ),qT I hy (hf c gQ)⟩;have D:HZ.Apart z ti to j1 j2 a b:=⟨F.a1,F.a2,F.a3,F.a4,F.a5,F.a6,F.a7,F.a8,F.a9,F.b0,(ne z (by simp)).1,(ne to (by simp)).1,(ne j1 (by simp)).1,(ne j2 (by simp)).1,(ne z (by simp)).2,(ne to (by simp)).2,(ne j1 (by simp)).2,(ne j2 (by simp)).2⟩;obtain⟨w1,w2,mI⟩:=st.to;have hh:X.A.in1.handled=none:=I.ok.hd hc;have l1:=r1.length;have l2:=r2.length;refine HZ.next_end D (HZ.HK hh j1 a i1.toArray) (HZ.qL hh j2 b i2.toArray) st.z st.ti mI ⟨st.h1,p1.isList⟩ ⟨st.h2,p2⟩ ?_ λh' c7=>⟨rfl,I.zP (t':=s.toks) (ch:=[z,ti,to,j1,j2]) (λc o qb e=>by
   have q:c≠z/\c≠ti/\c≠to/\c≠j1/\c≠j2:=by simpa using qb
   exact c7 c o q.1 q.2.2.1 q.2.2.2.1 q.2.2.2.2 e) hf⟩
  rcases hle with q|q
  ·left;simp;omega
  ·right;simp;omega
 self:=λA i s Q E st h=>abD st.z h
end L2
namespace HZ
open PySem PySem.Spec PyProof.Rows
noncomputable abbrev zf (h:ŏ) (m1:á):ŏ:=h.push { cls:=.type "list_iterator",data:=.fields #[.ref m1,.int 0 0] }
abbrev zg (h:ŏ) (m1 m2:á):ŏ:=(zf h m1).push { cls:=.type "tuple_iterator",data:=.fields #[.ref m2,.int 0 0] }
abbrev zh (h:ŏ) (m1 m2:á):ŏ:=(zg h m1 m2).push { cls:=.type "tuple",data:=.seq #[.ref h.objs.size,.ref (zf h m1).objs.size] }
abbrev zi (h:ŏ) (m1 m2:á):ŏ:=(zh h m1 m2).push { cls:=.type "tuple",data:=.seq #[.none,.none] }
abbrev qq (h:ŏ) (m1 m2:á):ŏ:=(zi h m1 m2).push { cls:=.type "zip",data:=.fields #[.none,.bool false,.bool false,.ref (zg h m1 m2).objs.size,.ref (zh h m1 m2).objs.size] }
def Pe (m1 m2:á) (xs ys:Array Í) :
  Meets (ň.«zip.__new__» ⟨[.type "zip",.ref m1,.ref m2],[]⟩) (λ_ R s=>s.heap.IsList m1 xs/\s.heap.IsTuple m2 ys/\R (.ok (.ret (.ref (zi s.heap m1 m2).objs.size))) { s with heap:=qq s.heap m1 m2 }) :=
 .of_wp λprog w A R s h=>by
  obtain⟨hp,g,d,tk,os⟩:=s;obtain⟨h1,h2,h⟩:=h;have W2:=sub_zip;have L1:Heap.IsList (Shared.heap ⟨hp,g,d,tk,os⟩) m1 xs:=h1;have L2:Heap.IsTuple (Shared.heap ⟨hp.push { cls:=.type "list_iterator",data:=.fields #[.ref m1,.int 0 0] },g,d,tk,os⟩) m2 ys:=Heap.IsTuple.push h2 _
  wp_walk using ŷ L1,ψ L2
  exact⟨_,rfl,h⟩
section
variable {P:ù} {w:ď} {A:đ} {E:Í->É->Prop} {s:É}
def MZ (h1:s.heap.IsList m1 xs) (h2:s.heap.IsTuple m2 ys)
 (h:∀h',IsZip h' (s.heap.objs.size+4) (s.heap.objs.size+2) (s.heap.objs.size+3) .none->aan h' (s.heap.objs.size+2) (.ref s.heap.objs.size) (.ref (s.heap.objs.size+1)) ->
   aan h' (s.heap.objs.size+3) .none .none->h'.IsListIter s.heap.objs.size m1 0->h'.IsTupleIter (s.heap.objs.size+1) m2 0->h'.objs.size=s.heap.objs.size+5 ->
 (∀c o,s.heap.get? c=some o->h'.get? c=some o)->Q (.ref (s.heap.objs.size+4)) { s with heap:=h' }):à (ø P w) A (call (.type "zip") [.ref m1,.ref m2]) Q E s:=by
 refine callType_new F.called_zip (by decide) (F.typeCall_zip_2 _ _) (F.newCall_zip_2 _ _) (λobj=>F.args_object_init_3 obj _ _) F.entry_zip_new (Pe m1 m2 xs ys) ⟨h1,h2,?_⟩;have e1:(zf s.heap m1).objs.size=s.heap.objs.size+1:=ú ..;have e2:(zg s.heap m1 m2).objs.size=s.heap.objs.size+2:=by rw[ú,e1]
 have e3:(zh s.heap m1 m2).objs.size=s.heap.objs.size+3:=by rw[ú,e2]
 have e4:(zi s.heap m1 m2).objs.size=s.heap.objs.size+4:=by rw[ú,e3]
 have e5:(qq s.heap m1 m2).objs.size=s.heap.objs.size+5:=by rw[ú,e4]
 have g5:(qq s.heap m1 m2).get? (zi s.heap m1 m2).objs.size=some _:=Ì _ rfl;have g4:(qq s.heap m1 m2).get? (zh s.heap m1 m2).objs.size=some _:=Á _ (Ì _ rfl);have g3:(qq s.heap m1 m2).get? (zg s.heap m1 m2).objs.size=some _:=Á _ (Á _ (Ì _ rfl));have g2:(qq s.heap m1 m2).get? (zf s.heap m1).objs.size=some _:=Á _ (Á _ (Á _ (Ì _ rfl)));have g1:(qq s.heap m1 m2).get? s.heap.objs.size=some _:=Á _ (Á _ (Á _ (Á _ (Ì _ rfl))));show _/\_;rw[e2,e3,e4] at g5;rw[e1,e2] at g3;rw[e3] at g4;rw[e1] at g2;rw[e4];exact⟨⟨_,g5,rfl⟩,h _ g5 g3 g4 ⟨_,g1,rfl,rfl⟩ ⟨_,g2,rfl,rfl⟩ e5 λc o q=>Á _ (Á _ (Á _ (Á _ (Á _ q))))⟩
end
end HZ
namespace L2
open PySem PySem.Spec PyProof.Rows
section
variable {X:Cx} {elts:List ļ} {kk:Nat} {tp:Pos}
def UN (K:Ĳ) (ta:TA):TI:=fun σ H R=>ta σ H λvs H1=>∃a b xs ys,vs=[.ref a,.ref b]/\bp K H1 a xs/\aR K H1 b ys/\R (CS K a b) H1
def SE {a b:ļ} {ta:TA} {p pos:Pos} (hg:Gl X "zip") (hm:X.mg "zip"=none) (ha:PA X [a,b] ta) (hs:Þ [a,b] X.env=[(false,ţ a X.env),(false,ţ b X.env)]:=by rfl) (bZ:Þ [b] X.env=[(false,ţ b X.env)]:=by rfl) :
  PI X (.Tuple elts kk tp) (.Call (.Name "zip" p) [a,b] [] pos) (UN X.K ta):=by
 intro π s σ H R I h;refine Call_ (lE I hg hm Gi (Ĩ (aD (ha pos π s σ H _ I h) λus s1 ⟨vs,H1,I1,r1,q1⟩=>?_) (by rw[hs,bZ]) (by rw[bZ];rfl)));obtain⟨a,b,xs,ys,e,hx,hy,q⟩:=q1;subst e;obtain⟨u,v,rfl,ru,rv⟩:=vals2 r1;cases ru;cases rv;obtain⟨i1,_,p1,_⟩:=I1.list hx;obtain⟨i2,_,p2,_⟩:=I1.tuple hy;refine HZ.MZ (xs:=i1.toArray) (ys:=i2.toArray) p1.isList p2 λh' c1 c2 c3 c4 c5 c6 c7=>?_
 refine abD (s:={ s1 with heap:=h' }) c1 ?_
 exact⟨_,[s1.heap.objs.size+4,s1.heap.objs.size+2,s1.heap.objs.size+3,s1.heap.objs.size,s1.heap.objs.size+1],_,_,H1,rfl,I1.kept (t':=s1.toks) c7,Pd a b _ _ _ _ _ (GX _),⟨c1,c2,⟨_,_,c3⟩,c4,c5⟩,IZ I1,q⟩
end
end L2
namespace DI
open PySem L2
def QR (h:DV K w (.lst ds) (.ref a)) (g:DV K w (.tup es) (.ref b)):oq K w (CS K a b) (eV ds es):=λw' l' S' i=>by
 have h':=l' _ _ h;have g':=l' _ _ g;simp only[DV] at h' g';obtain⟨p,xs,e,hq,aq⟩:=h';obtain⟨q,ys,e',gq,vo⟩:=g';cases e;cases e';refine⟨λd ed=>?_,λhl=>⟨xs,ys,hq.sq,gq,?_⟩⟩
 ·obtain⟨x,y,e1,e2,rfl⟩:=G3 ed
  obtain⟨v,ev,dv⟩:=aq.get' i x e1;obtain⟨u,eu,du⟩:=vo.get' i y e2;refine⟨⟨xs,ys,v,u,hq.sq,gq,ev,eu⟩,λz H' ⟨r,x1,y1,hr,ez,eH,DF⟩=>?_⟩;obtain⟨q1,q2⟩:=DF xs ys hq.sq gq;rw[ev] at q1;rw[eu] at q2;cases q1;cases q2;subst ez eH;exact Gr S' hr dv du
 ·rw[oH] at hl
  have:=aq.length;have:=vo.length;omega
section
variable {X:Cx} {Ξ:Wd->bq->Prop} {a b:ļ} {pos:Pos} {fa:Env->ag->Res (List D)}
def BO (fa:Env->ag->Res (List D)):Env->ag->Res (List D):=λenv s=>ao (fa env s) λds s=>match ds with
 | [.lst xs,.tup ys]=>ok (eV xs ys) s
 |_=>none
def UO {p:Pos} {elts:List ļ} {kk:Nat} {uA:Pos} (hg:Gl X "zip") (hm:X.mg "zip"=none) (ha:PA X [a,b] (tA X.K Ξ fa)) (hs:Þ [a,b] X.env=[(false,ţ a X.env),(false,ţ b X.env)]:=by rfl) (bZ:Þ [b] X.env=[(false,ţ b X.env)]:=by rfl) :
  PI X (.Tuple elts kk uA) (.Call (.Name "zip" p) [a,b] [] pos) (cZ X.K Ξ (BO fa)):=by
 refine oU (SE hg hm ha hs bZ) fun σ H R az=>?_;obtain⟨w,env,eH,S,eo,h⟩:=az;subst eH;refine⟨w,env,rfl,S,eo,(Out.ao h).mono λw1 ds l1 S1 h vs aq=>?_⟩;split at h
 ·obtain⟨v,r,rfl,dv,v2,r2,rfl,i8,dr⟩:=aq
  have e3:r2=[]:=dr;subst e3;have q1:=dv;have q2:=i8;simp only[DV] at q1 q2;obtain⟨p,xs,rfl,hq,_⟩:=q1;obtain⟨q,ys,rfl,gq,_⟩:=q2;exact⟨p,q,xs,ys,rfl,hq.sq,gq,aH S1 h _ (QR dv i8)⟩
 ·exact h.elim
end
def wZ:List D->ag->Res D:=aS 1 3 (ay (aJ (aX (ae (ax tw (ae (aa 0) (ae (eC (.int 8)) ah))) (ae (ax tw (ae (aa 0) (ae (eC (.int 8)) ah))) ah))) (gT [(gN 1),(gN 2)])) (aL (aX (ae (aa 1) (ae (eB cC (ae (aU 1 [1] (bj (aa 2)) (gN 0) (aF (e2 fE (aa 0) (aa 1))) (aa 0)) ah)) ah)))))
def zK:Env->ag->Res Fl:=(ay (aJ (aX (ae (ax bG (ae (aa 0) (ae (eC (.int 31)) ah))) (ae (e2 bO (eC (.int 1)) (ax bG (ae (aa 0) (ae (eC (.int 3)) ah)))) ah))) (gT [(gN 6),(gN 7)])) (ay (aJ (aU 1 [6,1,2] (bP (ae (eC (.int 8)) ah)) (gN 0) bQ (e2 ak (ax rf (ae (aa 2) (ae (aa 3) (ae (aa 0) ah)))) (aa 1))) (gN 8)) (ay (aJ (aU 1 [0,7] (bP (ae (eC (.int 8)) ah)) (gN 0) (aF (e2 aT (ax bG (ae (aa 1) (ae (aa 2) ah))) (eC (.int 0)))) (aa 0)) (gN 9)) (ay (aJ (eB cC (ae (aU 1 [8] (bj (aa 9)) (gN 0) (cK (e2 ak (e2 ak (aa 1) (aa 0)) (e1 jN (eC (.int 1))))) (aa 0)) ah)) (gN 10)) (ay (aJ (aX (ae (aa 10) (ae (eB cC (ae (aU 1 [10] (bj (aa 9)) (gN 0) (aF (e2 fE (aa 0) (aa 1))) (aa 0)) ah)) ah))) (gN 11)) (ay (aJ (yR (aF (e2 gj (aa 3) (fH ah))) (e2 ak (aa 3) (ax bG (ae (aa 0) (ae (eB bK (ae (aa 3) ah)) ah)))) (aa 11)) (gN 12)) (fF (ic (aa 4) (e2 ak (fH (ae (aa 11) (ae (aa 11) (ae (aa 12) (ae (ax wZ (ae (aa 0) ah)) ah))))) (ax bG (ae (aa 0) (ae (eC (.int 4)) ah))))))))))))
def wO:List D->ag->Res D:=aS 3 13 (ay (pM 3 4 (ae (aU 1 [2] (bj (aa 1)) (gN 0) (aF (e2 aT (iI (aa 0) iH (iz (eC (.int 2)))) (aX (ae (eC (.str "made")) (ae (aa 1) ah))))) (e2 ak (aa 0) (eC (.int 3)))) (ae (eNew ah) ah))) (ay (eU (bP (ae (e2 bO (eC (.int 1)) (ax bG (ae (aa 0) (ae (eC (.int 3)) ah)))) ah)) (gN 5) zK) (aL (eB cC (ae (aa 4) ah)))))
def ma:List D->ag->Res D:=aS 1 1 (aL (aX (ae (e2 rq (eB yd (ae (aa 0) ah)) (eB uj (ae (aa 0) ah))) (ae (eB uj (ae (aa 0) ah)) (ae (aa 0) ah)))))
def wu:List D->ag->Res D:=aS 1 1 (aL (cH (eB ck (ae (aa 0) (ae (eC (.ty "tuple")) ah))) (cH (mL kF kF (eC (.int 1)) (eB bK (ae (aa 0) ah)) (eC (.int (3)))) (eB kG (ae (aU 1 [] (bj (aa 0)) (gN 0) bQ (ax qD (ae (aa 0) ah))) ah)))))
def sO:List D->ag->Res D:=aS 3 3 (ay (fF (ax wC (ae (aa 0) ah))) (ay (fF (ax wq (ae (aa 1) ah))) (cc (fe (cK (ax wu (ae (aa 2) ah)))) yS bX)))
def sL:List D->ag->Res D:=aS 4 4 (aL (aU 1 [0,1,3] (bj (e2 ak (aa 2) (eC (.int (0))))) (gN 0) (aF (e2 cv (aa 0) (e2 ak (aa 3) (eC (.int (1)))))) (ax oz (ae (aa 1) (ae (aa 2) (ae (aa 0) ah))))))
def sX:List D->ag->Res D:=aS 3 3 (aL (kP (e2 fR (aa 2) (aa 1)) (eB kG (ae (aU 1 [1,2] (bj (aa 0)) (gN 0) bQ (ax sM (ae (aa 0) (ae (aa 1) (ae (aa 2) ah))))) ah))))
def v8:List D->ag->Res D:=aS 4 6 (ay (aJ (ax sL (ae (aa 0) (ae (aa 1) (ae (aa 2) (ae (aa 3) ah))))) (gN 4)) (ay (aJ (ax sL (ae (aa 0) (ae (aa 1) (ae (aa 3) (ae (aa 2) ah))))) (gN 5)) (aL (aU 1 [4,5] (bP (ae (eC (.int (31))) ah)) (gN 0) bQ (aU 1 [1,0,2] (bP (ae (eC (.int (31))) ah)) (gN 0) bQ (cH (ax sX (ae (aa 1) (ae (aa 2) (ae (aa 0) ah)))) (ax sX (ae (aa 3) (ae (aa 0) (ae (aa 2) ah))))))))))
def xj:List D->ag->Res D:=aS 2 2 (aL (cH (ax qB (ae (e2 ak (aa 0) (eC (.int (0)))) (ae (e2 ak (aa 1) (eC (.int (1)))) ah))) (ax qB (ae (e2 ak (aa 0) (eC (.int (1)))) (ae (e2 ak (aa 1) (eC (.int (0)))) ah)))))
def wQ:List D->ag->Res D:=aS 3 3 (aL (eB kG (ae (aU 2 [2] (BO (ae (aa 0) (ae (aa 1) ah))) (gT [gN 0,gN 1]) bQ (e2 ak (e2 ak (aa 0) (aa 1)) (aa 2))) ah)))
def zL:Env->ag->Res Fl:=(ay (aJ (aU 1 [2,5,3] (bP (ae (eC (.int (31))) ah)) (gN 0) (cK (ax xj (ae (e2 ak (aa 1) (aa 2)) (ae (e2 ak (aa 3) (aa 0)) ah)))) (aa 0)) (gN 6)) (ay (aJ (aU 1 [0,1,2,5] (bP (ae (aa 5) ah)) (gN 0) bQ (ax v8 (ae (aa 1) (ae (aa 2) (ae (e2 ak (aa 3) (aa 0)) (ae (e2 ak (aa 3) (aa 4)) ah)))))) (gN 7)) (aJ (qY 2 [7,6] (bj (aa 4)) (gN 0) bQ (bj (aa 3)) (gN 1) (cK (ax wQ (ae (aa 2) (ae (aa 0) (ae (aa 1) ah))))) (e2 bO (aa 0) (aX (ae (aa 1) ah)))) (gN 4))))
def wR:List D->ag->Res D:=aS 3 8 (ay (aJ (ax wg (ae (aa 0) (ae (aa 1) ah))) (gN 3)) (ay (aJ (fH (ae (aX ah) ah)) (gN 4)) (ay (eU (bP (ae (eB bK (ae (aa 2) ah)) ah)) (gN 5) zL) (aL (aa 4)))))
def wD:List D->ag->Res D:=aS 3 3 (ay (fF (ax sO (ae (aa 0) (ae (aa 1) (ae (aa 2) ah))))) (aL (e1 (xX ma) (ax wR (ae (aa 0) (ae (aa 1) (ae (aa 2) ah)))))))
def xC:List D->ag->Res D:=aS 1 2 (ay (aJ (fH (ae (eC .au) (ae (eC (.bl true)) (ae (eC (.bl false)) (ae (e1 jN (eC (.int 1))) (ae (eC (.int 8)) (ae (eC (.int 31)) (ae (eC (.int 4)) (ae (eC (.str "")) (ae (eC (.str "0")) (ae (eC (.str "made")) (ae (aX ah) (ae (fH ah) (ae (eC (.aZ [])) (ae (aX (ae (eC (.int 0)) ah)) (ae (fH (ae (eC (.int 0)) ah)) (ae (e2 rA (eC (.int 10)) (eC (.int 29))) (ae (e1 jN (e2 rA (eC (.int 10)) (eC (.int 20)))) (ae (aX (ae (eC (.int 8)) ah)) ah))))))))))))))))))) (gN 1)) (ay (aJ (e2 bO (aa 1) (fH (ae (aX (ae (eC (.str "made")) ah)) (ae (aX (ae (eC (.int 0)) (ae (eC (.int 0)) ah))) (ae (aX (ae (aX (ae (eC (.int 0)) ah)) (ae (aX (ae (eC (.int 0)) ah)) ah))) (ae (eC (.aZ [(abe "made",0)])) (ae (aX (ae (aX ah) (ae (aX ah) ah))) (ae (aX (ae (aX (ae (eC (.bl true)) ah)) (ae (aX ah) ah))) (ae (aX (ae (aX (ae (eC (.int 1)) (ae (eC (.int 0)) ah))) (ae (aX ah) ah))) (ae (eC (.str "made 0 0 -/-")) ah)))))))))) (gN 1)) (aL (e2 ak (aa 1) (ax bG (ae (aa 0) (ae (eC (.int 26)) ah)))))))
def w6:List D->ag->Res D:=aS 3 8 (ay (pM 3 4 (ae (eB bK (ae (aa 1) ah)) (ae (ax bG (ae (aa 0) (ae (eC (.int 8)) ah))) ah))) (ay (aJ (eB cC (ae (aU 1 [0] (bj (aa 1)) (gN 0) bQ (ax bG (ae (aa 1) (ae (eC (.int 31)) ah)))) ah)) (gN 5)) (ay (pM 6 7 (ae (ax bG (ae (aa 0) (ae (aa 3) ah))) (ae (e2 ak (fH (ae (e1 jN (eC (.int 1))) (ae (eC (.int 31)) (ae (eC (.bl true)) (ae (eC .au) (ae (eC (.str "1")) (ae (eC (.int 0)) (ae (eC (.int 30)) ah)))))))) (ax bG (ae (aa 0) (ae (eC (.int 7)) ah)))) ah))) (ay (cc (aF (e2 aT (aa 4) (eC (.int 0)))) (aL (e2 ak (fH (ae (e2 bO (aa 5) (iI (aa 5) iH (iz (eC (.int 1))))) (ae (iI (aa 5) (iz (eC (.int 1))) iH) (ae (eB xT (ae (aa 5) ah)) (ae (ax xC (ae (aa 0) ah)) ah))))) (ax bG (ae (aa 0) (ae (eC (.int 4)) ah))))) bX) (ay (cc (aF (e2 aT (aa 4) (eC (.int 1)))) (aL (e2 bO (e2 bO (iI (aa 5) iH (iz (aa 6))) (aX (ae (aa 7) ah))) (iI (aa 5) (iz (e2 bO (aa 6) (eC (.int 1)))) iH))) bX) (ay (cc (aF (e2 fR (aa 4) (eC (.int 4)))) (aL (e2 hV (aX (ae (e2 ak (aa 5) (eC (.int 0))) ah)) (aa 3))) bX) (ay (cc (cG (aF (e2 fR (aa 4) (eC (.int 6)))) (aF (e2 ny (aa 2) (eC .au)))) (aL (e2 bO (e2 bO (iI (aa 2) iH (iz (aa 6))) (aX (ae (e2 ak (aa 5) (aa 6)) ah))) (iI (aa 2) (iz (e2 bO (aa 6) (eC (.int 1)))) iH))) bX) (aL (aa 5)))))))))
def wj:Env->ag->Res Fl:=(cc (fM (fe (cK (eB ck (ae (aa 2) (ae (eC (.ty "int")) ah))))) (fM (cK (eB ck (ae (aa 2) (ae (eC (.ty "bool")) ah)))) (fe (aF (mL kF kF (eC (.int 0)) (aa 2) (eC (.int 30))))))) (aL (eC (.bl false))) bX)
def sP:List D->ag->Res D:=aS 2 3 (ay (cc (fM (fe (cK (eB ck (ae (aa 0) (ae (eC (.ty "tuple")) ah))))) (aF (e2 gj (eB bK (ae (aa 0) ah)) (aa 1)))) (aL (eC (.bl false))) bX) (ay (eU (bj (aa 0)) (gN 2) wj) (aL (eC (.bl true)))))
def tj:List D->ag->Res D:=aS 4 5 (ay (aJ (e2 bO (aa 0) (eB cC (ae (aU 2 [1] (kE (ae (aa 2) (ae (aa 3) ah))) (gT [gN 0,gN 1]) bQ (aX (ae (eC (.str "made")) (ae (aa 2) (ae (aa 1) (ae (aa 0) ah)))))) ah))) (gN 4)) (aL (e2 aT (aU 1 [4,1] (bP (ae (eC (.int 8)) ah)) (gN 0) (aF (e2 cv (aX ah) (ax rf (ae (aa 1) (ae (aa 2) (ae (aa 0) ah)))))) (aa 0)) (fH ah))))
def wH:List D->ag->Res D:=aS 1 1 (aL (cH (eB ck (ae (aa 0) (ae (eC (.ty "tuple")) ah))) (eB kG (ae (aU 1 [] (bj (aa 0)) (gN 0) bQ (ax m8 (ae (aa 0) ah))) ah))))
def oE:List D->ag->Res D:=aS 4 5 (ay (fF (ax sO (ae (aa 0) (ae (aa 1) (ae (aa 2) ah))))) (ay (cc (fM (fe (cK (ax wH (ae (aa 3) ah)))) (aF (e2 gj (eB bK (ae (aa 3) ah)) (eB bK (ae (aa 2) ah))))) (aL (eC (.bl false))) bX) (ay (aJ (eB cC (ae (aU 2 [1] (kE (ae (aa 3) (ae (aa 2) ah))) (gT [gN 0,gN 1]) bQ (aX (ae (eC (.str "made")) (ae (aa 2) (ae (aa 0) (ae (aa 1) ah)))))) ah)) (gN 4)) (aL (e2 aT (ax sS (ae (e2 bO (aa 0) (aa 4)) ah)) (fH ah))))))
def xD:Env->ag->Res Fl:=(ay (aJ (eB t9 (ae (aX (ae (aa 3) (ae (aa 5) (ae (aa 8) ah)))) ah)) (gN 9)) (ay (aJ (cH (ax sP (ae (aa 8) (ae (eB bK (ae (aa 5) ah)) ah))) (ax tj (ae (aa 3) (ae (aa 4) (ae (aa 5) (ae (aa 8) ah)))))) (gN 10)) (cc (fM (fe (cK (ax (xg 8) (ae (ax oE (ae (aa 3) (ae (aa 4) (ae (aa 5) (ae (aa 8) ah))))) (ae (aa 10) ah))))) (aF (e2 gj (eB t9 (ae (aX (ae (aa 3) (ae (aa 5) (ae (aa 8) ah)))) ah)) (aa 9)))) (aL (eC (.bl false))) bX)))
def Bj (W:ď):Env->ag->Res Fl:=(ay (aJ (ax wX (ae (aa 0) (ae (aa 1) ah))) (gN 2)) (ay (pM 3 4 (ae (iI (ax (xi W) (ae (aa 2) ah)) iH (iz (eC (.int 24)))) (ae (ax bG (ae (aa 2) (ae (eC (.int 4)) ah))) ah))) (ay (aJ (ax wO (ae (aa 2) (ae (aa 3) (ae (aa 4) ah)))) (gN 5)) (ay (aJ (ax wD (ae (aa 3) (ae (aa 4) (ae (aa 5) ah)))) (gN 6)) (ay (aJ (mj 1 [2,5,6] (bP (ae (eC (.int 8)) ah)) (gN 0) bQ (ax w6 (ae (aa 1) (ae (aa 2) (ae (aa 3) ah))))) (gN 7)) (ay (cc (aF (e2 ny (aa 6) (eC .au))) (fF (ic (aa 7) (aa 6))) bX) (eU (bj (jT (aa 7))) (gN 8) xD)))))))
def ye (W:ď):List D->ag->Res D:=aS 1 11 (ay (eU (bP (ae (eB rF (ae (eC (.int 1)) (ae (eB xS (ae (eB bK (ae (aa 0) ah)) (ae (eC (.int 2)) ah))) ah))) ah)) (gN 1) (Bj W)) (aL (eC (.bl true))))
abbrev GG (K:Ĳ) (mg:Str->Option Í) (x:Str) (st:Stmt) (ps:List Str):Prop:=∃f fd,Gd K mg x st ps f fd
abbrev ba (P:ù) (w:ď) (K:Ĳ) (mg:Str->Option Í) (base:ŏ) (x:Str) (st:Stmt) (ps:List Str) (k:Nat) (fn:List D->ag->Res D):Prop:=∀{f:á} {fd:Ŗ},Gd K mg x st ps f fd->fu P w K mg base gp k f fd ps (l6 K fn)
noncomputable def CT (N ps:List Str) (sc:abf):Bool:=decide (sc.kind=.function)&&!sc.isCoroutine&&!sc.isGenerator&&decide N.Nodup&&decide (N.take ps.length=ps)&&ps.all (λx=>decide (sc.names.lookup x=some .local\/sc.names.lookup x=some .cell))&&sc.names.all (λy=>decide (y.2≠.free))
def JA (h:CT N ps sc=true):qK N ps sc:=by
 unfold CT at h;simp only[Ç,ē,È,ý] at h;obtain⟨⟨⟨⟨⟨⟨h1,h2⟩,h3⟩,h4⟩,h5⟩,h6⟩,h7⟩:=h;exact⟨h1,h2,h3,h4,h5,h6,h7⟩
def fo (G:Gd K mg x st ps f fd) (N:List Str) (S:CT N ps (gy st)=true)
 (hb:N.Nodup->∀(cw:Í) (A:đ) (outer:List PySem.Env) (s:É) (H:Hp) (E:XK),bT k (A.deeper (PyProof.Rows.envOfC x (gy st) s.heap.objs.size f cw))->eM (nO gp P w K mg base N x (gy st) f cw A outer s H E).si (lB st) (tS K bE b)) :
  fu P w K mg base gp (k+1) f fd ps (l6 K (aS ps.length N.length b)):=JV G.fn (JA S) (hb (JA S).nd)
section
variable {X:Cx} {Ξ:Wd->bq->Prop} {e a b c tg el src:ļ} {es rest tests:List ļ} {pos:Pos} {f g h:Env->ag->Res D} {fa:Env->ag->Res (List D)} {ft gt:Env->ag->Res Bool}
def aB {k n:Nat} {x:Str} {st:Stmt} {ps:List Str} {fn:List D->ag->Res D} {p:Pos} (G:GG X.K X.mg x st ps) (F:ba X.prog X.w X.K X.mg X.base x st ps k fn) (hr:bT n X.A) (ha:PA X (e::es) (tA X.K Ξ fa)) (hk:k<=n:=by decide) (hg:Gl X x:=by rfl) (jw:(x==("__debug__":Str))=false:=by decide)
  (he:Þ (e::es) X.env=(false,ţ e X.env)::Þ es X.env:=by rfl) (cM:(aab pos (Þ es X.env)).any (·.1)=false:=by rfl):PE X (.Call (.Name x p) (e::es) [] pos) (tE X.K Ξ (ax fn fa)):=by
 obtain⟨f,fd,G⟩:=G;exact A6 (F G) (hr.mono hk) hg G.mg G.fn.kp G.b ha jw he cM
def a1 (ha:PE X a (tE X.K Ξ f)) (hs:Þ [a] X.env=(false,ţ a X.env)::Þ [] X.env:=by rfl):PA X [a] (tA X.K Ξ (ae f ah)):=aM ha bL hs
def a2 (ha:PE X a (tE X.K Ξ f)) (hb:PE X b (tE X.K Ξ g)) (h1:Þ [a,b] X.env=(false,ţ a X.env)::Þ [b] X.env:=by rfl) (h2:Þ [b] X.env=(false,ţ b X.env)::Þ [] X.env:=by rfl):PA X [a,b] (tA X.K Ξ (ae f (ae g ah))):=aM ha (aM hb bL h2) h1
def a3 (ha:PE X a (tE X.K Ξ f)) (hb:PE X b (tE X.K Ξ g)) (hc:PE X c (tE X.K Ξ h)) (h1:Þ [a,b,c] X.env=(false,ţ a X.env)::Þ [b,c] X.env:=by rfl) (h2:Þ [b,c] X.env=(false,ţ b X.env)::Þ [c] X.env:=by rfl) (h3:Þ [c] X.env=(false,ţ c X.env)::Þ [] X.env:=by rfl):PA X [a,b,c] (tA X.K Ξ (ae f (ae g (ae h ah)))):=aM ha (aM hb (aM hc bL h3) h2) h1
def cA {x:Str} {px:Pos} {sc:abf} {ps:Pos} (N:List Str) {cap:List Nat} {it:Env->ag->Res (List D)} (hi:PI X (.Name x px) src (cZ X.K Ξ it))
  (hY:∀(cl:List (Str×á)) (C:á) (s:É) (H:Hp) (ex:List á) (pn:List (á×Obj)),PF (dB X N sc cl C s H ex pn) tests (tT X.K bE ft)/\PE (dB X N sc cl C s H ex pn) el (tE X.K bE f))
  (hc:X.calm=true:=by rfl) (S:Be sc X.env.scope.names X.N N 1 cap=true:=by kernel_rfl) (nd:N.Nodup:=by decide +kernel) (h0:N[0]?=some x:=by rfl) (hx:∀cl C s H ex pn,(dB X N sc cl C s H ex pn).env.scope.names.lookup x=some .local:=by intros;rfl) (hs:∀x,ô src X.env x=pure x:=by intro _;rfl) :
  PE X (.ListComp el [⟨.Name x px,src,tests,0⟩] sc ps) (tE X.K Ξ (aU 1 cap it (gN 0) ft f)) :=
 oQ hc (jP S) (je 0) hi (λcl C s H ex pn=>⟨dG nd h0 (.inl (hx cl C s H ex pn)) (.inr (hx cl C s H ex pn)),hY cl C s H ex pn⟩) hs
end
end DI
namespace DI.jB
open PySem L2 DI
noncomputable def top (i:Nat):Stmt:=PySem.Challenge.pw_twinmoulds_k08_datings_looked_at.main.body.getD i (.Pass ⟨0,0,0,0⟩)
noncomputable abbrev uE:List Str:=["_law_script","_law_k"]
noncomputable abbrev KU:List Str:=["_law_state_here","_law_many"]
noncomputable abbrev CU:List Str:=["_law_later","_law_one","_law_free"]
noncomputable abbrev CV:List Str:=["_law_ahead","_law_one","_law_free"]
noncomputable abbrev KW:List Str:=["_law_laid","_law_mould","_law_mark"]
noncomputable abbrev KY:List Str:=["_law_state_here","_law_most"]
noncomputable abbrev rX:List Str:=["_law_state_here"]
noncomputable abbrev KZ:List Str:=["_law_state_here","_law_book_here","_law_mould"]
noncomputable abbrev CY:List Str:=["dating"]
noncomputable abbrev CZ:List Str:=["things"]
noncomputable abbrev bS:List Str:=["thing"]
noncomputable abbrev BP:List Str:=["thing","many"]
noncomputable abbrev BQ:List Str:=["marks","others"]
noncomputable abbrev BR:List Str:=["pages","mould","mark","half"]
noncomputable abbrev uq:List Str:=["pages","mould","mark"]
noncomputable abbrev BS:List Str:=["days","day","later"]
noncomputable abbrev BU:List Str:=["pages"]
noncomputable abbrev nM:List Str:=["book","mould","sheets"]
noncomputable abbrev yf:List Str:=["book","mould","mark"]
noncomputable abbrev BV:List Str:=["days_by_mark","day"]
noncomputable abbrev Ke:List Str:=["book","mould"]
noncomputable abbrev uu:List Str:=["book","mould","sheet","other"]
noncomputable abbrev BW:List Str:=["mendings","day","later"]
noncomputable abbrev BX:List Str:=["sheet","sure"]
noncomputable abbrev BY:List Str:=["tables","dating","day"]
noncomputable abbrev Kf:List Str:=["_law_state_here","_law_sheets_here","_law_told"]
noncomputable abbrev Kg:List Str:=["_law_state_here","_law_mended"]
noncomputable abbrev Kh:List Str:=["_law_thing_here","_law_many"]
noncomputable abbrev Ki:List Str:=["_law_book_here","_law_mould","_law_sheets_here","_law_days"]
noncomputable abbrev V7:List Str:=["_law_found","_law_due"]
noncomputable abbrev Kj:List Str:=["book","mould","sheets","thing"]
noncomputable abbrev V8:List Str:=["_law_script"]
structure bb (K:Ĳ) (mg:Str->Option Í):Prop where
 nB:mg "all"=none
 JB:mg "any"=none
 xk:mg "bool"=none
 JC:mg "int"=none
 gb:mg "isinstance"=none
 iq:mg "len"=none
 tH:mg "list"=none
 Bk:mg "max"=none
 xE:mg "min"=none
 cB:mg "range"=none
 Ii:mg "repr"=none
 Nq:mg "reversed"=none
 UP:mg "set"=none
 Gw:mg "sorted"=none
 eQ:mg "tuple"=none
 tR:mg "zip"=none
 oJ:∃t,mg "MARKS"=some (.int (8) t)
 wU:∃t,mg "MOULDS"=some (.int (4) t)
 lC:∃t,mg "DAYS"=some (.int (31) t)
 Aj:∃t,mg "PAGES"=some (.int (24) t)
 oW:∃t,mg "HAS"=some (.int (0) t)
 oK:∃t,mg "LACKS"=some (.int (1) t)
 zU:∃t,mg "SHEETS"=some (.int (3) t)
 Nr:GG K mg "_law_cell_at" (top 52) uE
 Pf:GG K mg "_law_state" (top 53) uE
 dE:GG K mg "_law_take" (top 54) KU
 Ph:GG K mg "_law_leads" (top 64) CU
 QS:GG K mg "_law_gone" (top 63) CV
 Ij:GG K mg "_law_may" (top 62) KW
 Gx:GG K mg "_law_marks" (top 57) KY
 Pj:GG K mg "_law_sheet" (top 58) rX
 N5:GG K mg "_law_sheets" (top 65) KZ
 Nt:GG K mg "by_width" (top 42) CY
 Fy:GG K mg "is_rising" (top 14) CZ
 M0:GG K mg "is_number" (top 9) bS
 zF:GG K mg "is_below" (top 10) BP
 F1:GG K mg "is_mark" (top 11) bS
 Fz:GG K mg "are_marks" (top 20) bS
 zB:GG K mg "are_apart" (top 22) BQ
 FJ:GG K mg "is_sheet" (top 21) bS
 FK:GG K mg "is_mould" (top 12) bS
 Gy:GG K mg "is_day" (top 13) bS
 N6:GG K mg "is_page" (top 23) bS
 Nu:GG K mg "are_laid" (top 24) bS
 wx:GG K mg "days_seen" (top 29) BR
 wa:GG K mg "days_mended" (top 30) uq
 Fg:GG K mg "is_any_behind" (top 28) BS
 N7:GG K mg "clashes" (top 27) uq
 FA:GG K mg "faults_of" (top 26) BU
 N8:GG K mg "is_book" (top 25) bS
 M3:GG K mg "need_book" (top 31) bS
 MF:GG K mg "need_mould" (top 15) bS
 MG:GG K mg "are_sheets" (top 44) bS
 Fn:GG K mg "need_asked" (top 45) nM
 Mm:GG K mg "days_present" (top 35) yf
 Mt:GG K mg "days_absent" (top 36) yf
 FL:GG K mg "marks_on" (top 34) BV
 Mu:GG K mg "sure_sheets" (top 33) Ke
 Fd:GG K mg "mendings_between" (top 49) uu
 FN:GG K mg "is_clear" (top 50) BW
 Mi:GG K mg "days_together" (top 48) uu
 QT:GG K mg "agree" (top 37) BX
 N9:GG K mg "is_free" (top 47) BY
 Oa:GG K mg "datings" (top 46) nM
 M4:GG K mg "narrowest" (top 41) nM
 SF:GG K mg "_law_odd" (top 56) rX
 Pk:GG K mg "_law_thing" (top 67) Kf
 Pl:GG K mg "_law_lived" (top 60) Kg
 QU:GG K mg "_law_book" (top 61) rX
 MH:GG K mg "_law_good_days" (top 68) Kh
 Ob:GG K mg "_law_agrees" (top 66) Ki
 QV:GG K mg "_law_same" (top 55) V7
 Nv:GG K mg "are_days" (top 43) bS
 M5:GG K mg "is_dating" (top 40) Kj
section
variable {P:ù} {w:ď} {K:Ĳ} {mg:Str->Option Í} {base:ŏ}
def Nw (F:bb K mg):ba P w K mg base "_law_cell_at" (top 52) uE 1 sT:=λ{_ _} G =>
 fo G uE (by kernel_rfl) λaA _ _ _ _ _ _ hr=>(aC (dU (bz (nR hr) (af 1) (bc iw rfl F.iq ix (a1 (af 0))) (bt _)) (aI (aQ (aN (af 0) (af 1)))) dP) (aI (aQ aw)))
def Pn (F:bb K mg):ba P w K mg base "_law_state" (top 53) uE 2 wX:=λ{_ _} G =>
 fo G ["_law_script","_law_k","_law_cell"] (by kernel_rfl) λaA _ _ _ _ _ _ hr=>(aC (bH 2 aA (aB F.Nr (Nw F) hr (a2 (af 0) (af 1)))) (aI (aQ (o7 (a2 (bc (Jl rfl) rfl F.Bk BH (a2 aw (bF BF (af 2) (bF BG aw aw)))) (bF rD (af 2) aw))))))
def dF (F:bb K mg):ba P w K mg base "_law_take" (top 54) KU 1 bG:=λ{_ _} G =>
 fo G ["_law_state_here","_law_many","_law_found","_law_stirred"] (by kernel_rfl) λaA _ _ _ _ _ _ hr=>(aC (dU (bz KO (aN (af 0) aw) aw (bt _)) (aC (bH 2 aA (bF rD (aN (af 0) aw) (af 1))) (aC (pd (bF JW (aN (af 0) aw) (af 1)) (af 0) aw) (aI (aQ (af 2))))) dP) (aC (pd (bF rD (bF dQ (bF rB (aN (af 0) aw) aw) aw) aw) (af 0) aw) (aC (bH 3 aA (bF rD (bF dQ (bF dQ (bF rB (aN (af 0) aw) (aN (af 0) aw)) (bF rB aw (aN (af 0) aw))) aw) aw)) (aC (bH 3 aA (bF rD (bF dQ (bF rB (af 3) (af 3)) (bF rB aw (af 3))) aw)) (aI (aQ (bF rD (bF JW (af 3) aw) (af 1))))))))
def Po (F:bb K mg):ba P w K mg base "_law_leads" (top 64) CU 1 Ai:=λ{_ _} G =>
 fo G CU (by kernel_rfl) λaA _ _ _ _ _ _ hr=>(aI (aQ (pK (ei (gH hr) dS (af 0) rfl) (dh (dJ (ei (gH hr) dS (af 0) rfl) (dh (pK (xP (af 1)) (dh (af 2)))))))))
def QW (F:bb K mg):ba P w K mg base "_law_gone" (top 63) CV 1 AM:=λ{_ _} G =>
 fo G CV (by kernel_rfl) λaA _ _ _ _ _ _ hr=>(aI (aQ (dJ (xP (af 1)) (dh (pK (ei (gH hr) dS (af 0) rfl) (dh (dJ (af 2) (dh (ei (lO hr) (af 0) (iU bL) (bt _))))))))))
def Ik (F:bb K mg):ba P w K mg base "_law_may" (top 62) KW 2 rf:=λ{_ _} G=>by
 have df:(["_law_day"]:List Str).Nodup:=by decide +kernel
 have Ef:(["_law_day"]:List Str).Nodup:=by decide +kernel
 exact fo G ["_law_laid","_law_mould","_law_mark","_law_rows","_law_free","_law_page","_law_day","_law_ahead","_law_off"] (by kernel_rfl) λaA _ _ _ _ _ _ hr=>(aC (bH 3 aA (Hc (N:=["_law_day"]) (nt:=1) (cap:=[]) rfl (jP (by kernel_rfl)) (je 0) (cX rfl F.cB (a1 aw)) (λcl C s H ex pn=>⟨(dG (i:=0) df rfl (ť rfl)),cJ,(iU (a2 dS dS))⟩))) (aC (bH 4 aA (Hc (N:=["_law_day"]) (nt:=1) (cap:=[]) rfl (jP (by kernel_rfl)) (je 0) (cX rfl F.cB (a1 aw)) (λcl C s H ex pn=>⟨(dG (i:=0) Ef rfl (ť rfl)),cJ,dS⟩))) (aC (iu ĥ rfl (cP (af 0)) (cq 5 aA) (aC (dU (PW.pt (w_and (bz (dj hr) (aN (af 5) aw) gB (bt _)) (w_and (bz (dj hr) (aN (af 5) aw) (af 1) (bt _)) (nu (bz (dj hr) (aN (af 5) aw) (af 2) (bt _)))))) (aC (pd (cA ["_law_one"] (cP (aN (af 3) (aN (af 5) aw))) (λ_ _ _ _ _ _=>⟨(fq (iV (eD (af 0)))),(af 0)⟩)) (af 3) (aN (af 5) aw)) (aI (pd dS (af 4) (aN (af 5) aw)))) dP) (aI (dU (PW.pt (w_and (bz (dj hr) (aN (af 5) aw) gB (bt _)) (w_and (bz (dj hr) (aN (af 5) aw) (af 1) (bt _)) (nu (bz (gH hr) (af 2) (bF dQ (aN (aN (af 5) aw) aw) (aN (aN (af 5) aw) aw)) rfl))))) (aI (pd (cA ["_law_one","_law_mark","_law_page"] (cP (aN (af 3) (aN (af 5) aw))) (λ_ _ _ _ _ _=>⟨(fq (bz (dj hr) (af 0) (ei (gH hr) (af 1) (aN (aN (af 2) aw) aw) rfl) (bt _))),(af 0)⟩)) (af 3) (aN (af 5) aw))) dP)))) (aC (iu ĥ rfl (Jj rfl F.cB (a2 aw aw)) (cq 6 aA) (aC (nH (bJ (a2 (aN (af 3) (bF BF (af 6) aw)) (aN (af 4) (af 6)))) (nG rfl (fP (cq 7 aA) (fP (cq 8 aA) nv)))) (aI (pd (cA ["_law_one","_law_ahead","_law_off"] (cP (aN (af 3) (af 6))) (λ_ _ _ _ _ _=>⟨(fq (PW.pt (w_or (PW.pt (w_and (eD (af 0)) (nu (bz (lO hr) (af 1) (iU bL) (bt _))))) (ko (eD (aB F.QS (QW F) hr (a3 (af 1) (af 0) (af 2)))))))),(af 0)⟩)) (af 3) (af 6))))) (aC (iu ĥ rfl (Uw rfl F.cB (a3 aw (rN rE aw) (rN rE aw))) (cq 6 aA) (aI (pd (cA ["_law_one","_law_rows","_law_free","_law_day"] (cP (aN (af 3) (af 6))) (λ_ _ _ _ _ _=>⟨(fq (eD (aB F.Ph (Po F) hr (a3 (aN (af 1) (bF dQ (af 3) aw)) (af 0) (aN (af 2) (bF dQ (af 3) aw)))))),(af 0)⟩)) (af 3) (af 6)))) (aI (aQ (cA ["_law_row"] (cP (tZ (af 3))) (λ_ _ _ _ _ _=>⟨cJ,(ik jf rfl F.eQ eR (a1 (af 0)))⟩)))))))))
def Gz (F:bb K mg):ba P w K mg base "_law_marks" (top 57) KY 2 tw:=λ{_ _} G =>
 fo G ["_law_state_here","_law_most","_law_way"] (by kernel_rfl) λaA _ _ _ _ _ _ hr=>(aC (bH 2 aA (bF dQ aw (aB F.dE (dF F) hr (a2 (af 0) aw)))) (aI (aQ (ik jf rfl F.eQ eR (a1 (cA ["_law_mark","_law_state_here","_law_way"] (cX rfl F.cB (a1 (af 1))) (λ_ _ _ _ _ _=>⟨(fq (bz (dj hr) (aB F.dE (dF F) hr (a2 (af 1) (bF dQ (af 2) aw))) aw (bt _))),(af 0)⟩)))))))
def Pp (F:bb K mg):ba P w K mg base "_law_sheet" (top 58) rX 3 wZ:=λ{_ _} G =>
 fo G ["_law_state_here","_law_has","_law_lacks"] (by kernel_rfl) λaA _ _ _ _ _ _ hr=>(aC (nH (bJ (a2 (aB F.Gx (Gz F) hr (a2 (af 0) aw)) (aB F.Gx (Gz F) hr (a2 (af 0) aw)))) (nG rfl (fP (cq 1 aA) (fP (cq 2 aA) nv)))) (aI (aQ (bJ (a2 (af 1) (ik jf rfl F.eQ eR (a1 (cA ["_law_mark","_law_has"] (cP (af 2)) (λ_ _ _ _ _ _=>⟨(fq (bz (qN hr) (af 0) (af 1) rfl)),(af 0)⟩)))))))))
def Oc (F:bb K mg):ba P w K mg base "_law_sheets" (top 65) KZ 4 wO:=λ{_ _} G=>by
 have zj:(["_law_mark","_law_state_here","_law_often"]:List Str).Nodup:=by decide +kernel
 exact fo G ["_law_state_here","_law_book_here","_law_mould","_law_made","_law_found","_law_turn","_law_day","_law_often","_law_rows","_law_seen","_law_has","_law_own","_law_one"] (by kernel_rfl) λaA _ _ _ _ _ _ hr=>(aC (xx 3 4 rfl aA (a2 (cA ["_law_page","_law_mould"] (cP (af 1)) (λ_ _ _ _ _ _=>⟨(fq (bz (dj hr) (mE (af 0) mC (mw aw)) (bJ (a2 gB (af 1))) (bt _))),(aN (af 0) aw)⟩)) (o7 bL))) (aC (iu ĥ rfl (cX rfl F.cB (a1 (bF dQ aw (aB F.dE (dF F) hr (a2 (af 0) aw))))) (cq 5 aA) (aC (nH (bJ (a2 (aB F.dE (dF F) hr (a2 (af 0) aw)) (bF dQ aw (aB F.dE (dF F) hr (a2 (af 0) aw))))) (nG rfl (fP (cq 6 aA) (fP (cq 7 aA) nv)))) (aC (bH 8 aA (cA ["_law_mark","_law_day","_law_book_here","_law_mould"] (cX rfl F.cB (a1 aw)) (λ_ _ _ _ _ _=>⟨cJ,(aN (aB F.Ij (Ik F) hr (a3 (af 2) (af 3) (af 0))) (af 1))⟩))) (aC (H9 9 (N:=["_law_mark","_law_state_here","_law_often"]) (nt:=1) (cap:=[0,7]) aA rfl (jP (by kernel_rfl)) (je 0) (cX rfl F.cB (a1 aw)) (λcl C s H ex pn=>⟨(dG (i:=0) zj rfl (ť rfl)),(fq (bz (dj hr) (aB F.dE (dF F) hr (a2 (af 1) (af 2))) aw (bt _))),(af 0)⟩)) (aC (bH 10 aA (ik jf rfl F.eQ eR (a1 (cA ["_law_mark","_law_rows"] (cP (af 9)) (λ_ _ _ _ _ _=>⟨(fq (eD (aN (aN (af 1) (af 0)) (rN rE aw)))),(af 0)⟩))))) (aC (bH 11 aA (bJ (a2 (af 10) (ik jf rfl F.eQ eR (a1 (cA ["_law_mark","_law_has"] (cP (af 9)) (λ_ _ _ _ _ _=>⟨(fq (bz (qN hr) (af 0) (af 1) rfl)),(af 0)⟩))))))) (aC (bH 12 aA (Xa (bz (lO hr) (af 3) (iU bL) (bt _)) (aN (af 3) (aB F.dE (dF F) hr (a2 (af 0) (bc iw rfl F.iq ix (a1 (af 3)))))) (af 11))) (aI (kg (pb (af 4) (aN (iU (aM (af 11) (aM (af 11) (aM (af 12) (aM (aB F.Pj (Pp F) hr (a1 (af 0))) bL))))) (aB F.dE (dF F) hr (a2 (af 0) aw))))))))))))) (aI (aQ (ik jf rfl F.eQ eR (a1 (af 4)))))))
def Nx (F:bb K mg):ba P w K mg base "by_width" (top 42) CY 1 ma:=λ{_ _} G =>
 fo G CY (by kernel_rfl) λaA _ _ _ _ _ _ hr=>(aI (aQ (bJ (a3 (bF BF (bc (UM rfl) rfl F.Bk BH (a1 (af 0))) (bc (Jz rfl) rfl F.xE xV (a1 (af 0)))) (bc (Jz rfl) rfl F.xE xV (a1 (af 0))) (af 0)))))
def FC (F:bb K mg):ba P w K mg base "is_rising" (top 14) CZ 1 oB:=λ{_ _} G=>by
 have df:(["ahead","behind"]:List Str).Nodup:=by decide +kernel
 exact fo G CZ (by kernel_rfl) λaA _ _ _ _ _ _ hr=>(aI (aQ (bc (nJ rfl) rfl F.nB nL (a1 (oQ (N:=["ahead","behind"]) (nt:=2) (cap:=[]) rfl (jP (by kernel_rfl)) (qW (jF 0 (jF 1 qM))) (xQ rfl F.tR (a2 (af 0) (mE (af 0) (mw aw) mC))) (λcl C s H ex pn=>⟨(ke rfl (jc (dG (i:=0) df rfl (ť rfl)) (jc (dG (i:=1) df rfl (ť rfl)) oO))),cJ,(ei (nR hr) (af 0) (af 1) (bt _))⟩))))))
def M6 (F:bb K mg):ba P w K mg base "is_number" (top 9) bS 1 sQ:=λ{_ _} G =>
 fo G bS (by kernel_rfl) λaA _ _ _ _ _ _ hr=>(aI (aQ (dJ (bc gE rfl F.gb gf (a2 (af 0) (gJ J2 rfl F.JC))) (dJ (xP (bc gE rfl F.gb gf (a2 (af 0) (gJ xA rfl F.xk)))) (dh (ei Xb (af 0) aw (bt _)))))))
def zG (F:bb K mg):ba P w K mg base "is_below" (top 10) BP 2 lu:=λ{_ _} G =>
 fo G BP (by kernel_rfl) λaA _ _ _ _ _ _ hr=>(aI (aQ (dJ (aB F.M0 (M6 F) hr (a1 (af 0))) (dh (ei (nR hr) (af 0) (af 1) (bt _))))))
def F2 (F:bb K mg):ba P w K mg base "is_mark" (top 11) bS 3 sY:=λ{_ _} G =>
 fo G bS (by kernel_rfl) λaA _ _ _ _ _ _ hr=>(aI (aQ (aB F.zF (zG F) hr (a2 (af 0) (dq F.oJ rfl)))))
def FD (F:bb K mg):ba P w K mg base "are_marks" (top 20) bS 4 sR:=λ{_ _} G =>
 fo G bS (by kernel_rfl) λaA _ _ _ _ _ _ hr=>(aI (aQ (dJ (bc gE rfl F.gb gf (a2 (af 0) (gJ eR rfl F.eQ))) (dJ (bc (nJ rfl) rfl F.nB nL (a1 (cA ["mark"] (cP (af 0)) (λ_ _ _ _ _ _=>⟨cJ,(aB F.F1 (F2 F) hr (a1 (af 0)))⟩)))) (dh (aB F.Fy (FC F) hr (a1 (af 0))))))))
def zC (F:bb K mg):ba P w K mg base "are_apart" (top 22) BQ 1 qB:=λ{_ _} G =>
 fo G BQ (by kernel_rfl) λaA _ _ _ _ _ _ hr=>(aI (aQ (xP (bc (JX rfl) rfl F.JB J3 (a1 (cA ["mark","others"] (cP (af 0)) (λ_ _ _ _ _ _=>⟨cJ,(ei (gH hr) (af 0) (af 1) rfl)⟩)))))))
def FO (F:bb K mg):ba P w K mg base "is_sheet" (top 21) bS 5 qD:=λ{_ _} G =>
 fo G ["thing","has","lacks"] (by kernel_rfl) λaA _ _ _ _ _ _ hr=>(aC (dU (PW.pt (w_or (iV (eD (bc gE rfl F.gb gf (a2 (af 0) (gJ eR rfl F.eQ))))) (ko (bz (lO hr) (bc iw rfl F.iq ix (a1 (af 0))) aw (bt _))))) (aI (aQ dS)) dP) (aC (nH (af 0) (nG rfl (fP (cq 1 aA) (fP (cq 2 aA) nv)))) (aI (aQ (dJ (aB F.Fz (FD F) hr (a1 (af 1))) (dJ (aB F.Fz (FD F) hr (a1 (af 2))) (dh (aB F.zB (zC F) hr (a2 (af 1) (af 2))))))))))
def FP (F:bb K mg):ba P w K mg base "is_mould" (top 12) bS 3 sV:=λ{_ _} G =>
 fo G bS (by kernel_rfl) λaA _ _ _ _ _ _ hr=>(aI (aQ (aB F.zF (zG F) hr (a2 (af 0) (dq F.wU rfl)))))
def GA (F:bb K mg):ba P w K mg base "is_day" (top 13) bS 3 m8:=λ{_ _} G =>
 fo G bS (by kernel_rfl) λaA _ _ _ _ _ _ hr=>(aI (aQ (aB F.zF (zG F) hr (a2 (af 0) (dq F.lC rfl)))))
def Od (F:bb K mg):ba P w K mg base "is_page" (top 23) bS 6 wM:=λ{_ _} G =>
 fo G ["thing","word","mould","day","what"] (by kernel_rfl) λaA _ _ _ _ _ _ hr=>(aC (dU (PW.pt (w_or (iV (eD (bc gE rfl F.gb gf (a2 (af 0) (gJ eR rfl F.eQ))))) (ko (bz (lO hr) (bc iw rfl F.iq ix (a1 (af 0))) aw (bt _))))) (aI (aQ dS)) dP) (aC (nH (af 0) (nG rfl (fP (cq 1 aA) (fP (cq 2 aA) (fP (cq 3 aA) (fP (cq 4 aA) nv)))))) (aC (dU (PW.pt (w_or (iV (eD (aB F.FK (FP F) hr (a1 (af 2))))) (ko (iV (eD (aB F.Gy (GA F) hr (a1 (af 3)))))))) (aI (aQ dS)) dP) (aC (dU (bz (dj hr) (af 1) gB (bt _)) (aI (aQ (aB F.FJ (FO F) hr (a1 (af 4))))) dP) (aI (aQ (dJ (ei (dj hr) (af 1) gB (bt _)) (dh (aB F.F1 (F2 F) hr (a1 (af 4)))))))))))
def Ny (F:bb K mg):ba P w K mg base "are_laid" (top 24) bS 7 wG:=λ{_ _} G =>
 fo G bS (by kernel_rfl) λaA _ _ _ _ _ _ hr=>(aI (aQ (dJ (bc gE rfl F.gb gf (a2 (af 0) (gJ eR rfl F.eQ))) (dJ (ei rS (bc iw rfl F.iq ix (a1 (af 0))) (dq F.Aj rfl) (bt _)) (dJ (bc (nJ rfl) rfl F.nB nL (a1 (cA ["page"] (cP (af 0)) (λ_ _ _ _ _ _=>⟨cJ,(aB F.N6 (Od F) hr (a1 (af 0)))⟩)))) (dh (aB F.Fy (FC F) hr (a1 (af 0)))))))))
def wy (F:bb K mg):ba P w K mg base "days_seen" (top 29) BR 1 lr:=λ{_ _} G =>
 fo G BR (by kernel_rfl) λaA _ _ _ _ _ _ hr=>(aI (aQ (cA ["page","mould","mark","half"] (cP (af 0)) (λ_ _ _ _ _ _=>⟨(fq (PW.pt (w_and (bz (dj hr) (aN (af 0) aw) gB (bt _)) (w_and (bz (dj hr) (aN (af 0) aw) (af 1) (bt _)) (nu (bz (gH hr) (af 2) (aN (aN (af 0) aw) (af 3)) rfl)))))),(aN (af 0) aw)⟩))))
def wb (F:bb K mg):ba P w K mg base "days_mended" (top 30) uq 1 oz:=λ{_ _} G =>
 fo G uq (by kernel_rfl) λaA _ _ _ _ _ _ hr=>(aI (aQ (cA ["page","mould","mark"] (cP (af 0)) (λ_ _ _ _ _ _=>⟨(fq (PW.pt (w_and (bz (dj hr) (aN (af 0) aw) gB (bt _)) (w_and (bz (dj hr) (aN (af 0) aw) (af 1) (bt _)) (nu (bz (dj hr) (aN (af 0) aw) (af 2) (bt _))))))),(aN (af 0) aw)⟩))))
def Fh (F:bb K mg):ba P w K mg base "is_any_behind" (top 28) BS 1 sM:=λ{_ _} G =>
 fo G BS (by kernel_rfl) λaA _ _ _ _ _ _ hr=>(aI (aQ (bc (JX rfl) rfl F.JB J3 (a1 (cA ["other","day","later"] (cP (af 0)) (λ_ _ _ _ _ _=>⟨cJ,(HR (nR hr) rS (af 1) (af 0) (af 2))⟩))))))
def Oe (F:bb K mg):ba P w K mg base "clashes" (top 27) uq 2 sZ:=λ{_ _} G=>by
 have df:(["day","later","lacked","mended"]:List Str).Nodup:=by decide +kernel
 exact fo G ["pages","mould","mark","lacked","mended"] (by kernel_rfl) λaA _ _ _ _ _ _ hr=>(aC (bH 3 aA (aB F.wx (wy F) hr (aM (af 0) (aM (af 1) (aM (af 2) (aM (dq F.oK rfl) bL)))))) (aC (bH 4 aA (aB F.wa (wb F) hr (a3 (af 0) (af 1) (af 2)))) (aI (aQ (Sb (N:=["day","later","lacked","mended"]) (nt:=2) (cap:=[3,4]) rfl (BC (by kernel_rfl)) (je 0) (qO 0) (je 1) (qO 1) (cP (NZ (aB F.wx (wy F) hr (aM (af 0) (aM (af 1) (aM (af 2) (aM (dq F.oW rfl) bL))))) rfl rfl F.Gw G7 rfl F.UP VT)) (λcl C s H ex pn=>⟨(dG (i:=0) df rfl (ť rfl)),cJ,(Jj rfl F.cB (a2 (af 0) (dq F.lC rfl))),(dG (i:=1) df rfl (ť rfl)),(fq (PW.pt (w_and (PW.pt (w_or (bz (gH hr) (af 1) (af 2) rfl) (ko (PW.pt (w_and (bz (dj hr) (af 1) (af 0) (bt _)) (nu (bz (gH hr) (af 0) (af 3) rfl))))))) (nu (iV (eD (aB F.Fg (Fh F) hr (a3 (af 3) (af 0) (af 1))))))))),(bJ (a2 (af 0) (af 1)))⟩))))))
def FE (F:bb K mg):ba P w K mg base "faults_of" (top 26) BU 3 sS:=λ{_ _} G=>by
 have df:(["mould","mark","day","later","pages"]:List Str).Nodup:=by decide +kernel
 exact fo G BU (by kernel_rfl) λaA _ _ _ _ _ _ hr=>(aI (aQ (Se (N:=["mould","mark","day","later","pages"]) (nt:=4) (cap:=[0]) rfl (BC (by kernel_rfl)) (je 0) (qO 0) (je 1) (qO 1) (qW (jF 2 (jF 3 qM))) (A0 [2,3]) (cX rfl F.cB (a1 (dq F.wU rfl))) (λcl C s H ex pn=>⟨(dG (i:=0) df rfl (ť rfl)),cJ,(cX rfl F.cB (a1 (dq F.oJ rfl))),(dG (i:=1) df rfl (ť rfl)),cJ,(cP (aB F.N7 (Oe F) hr (a3 (af 4) (af 0) (af 1)))),(ke rfl (jc (dG (i:=2) df rfl (ť rfl)) (jc (dG (i:=3) df rfl (ť rfl)) oO))),cJ,(bJ (aM (af 0) (aM (af 1) (aM (af 2) (aM (af 3) bL)))))⟩))))
def Of (F:bb K mg):ba P w K mg base "is_book" (top 25) bS 8 wN:=λ{_ _} G =>
 fo G bS (by kernel_rfl) λaA _ _ _ _ _ _ hr=>(aI (aQ (dJ (aB F.Nu (Ny F) hr (a1 (af 0))) (dh (TK.UG (aB F.FA (FE F) hr (a1 (af 0))))))))
def M7 (F:bb K mg):ba P w K mg base "need_book" (top 31) bS 9 wC:=λ{_ _} G =>
 fo G bS (by kernel_rfl) λaA _ _ _ _ _ _ hr=>(aI (dU (iV (eD (aB F.N8 (Of F) hr (a1 (af 0))))) z0 dP))
def MI (F:bb K mg):ba P w K mg base "need_mould" (top 15) bS 4 wq:=λ{_ _} G =>
 fo G bS (by kernel_rfl) λaA _ _ _ _ _ _ hr=>(aI (dU (iV (eD (aB F.FK (FP F) hr (a1 (af 0))))) z0 dP))
def MJ (F:bb K mg):ba P w K mg base "are_sheets" (top 44) bS 6 wu:=λ{_ _} G =>
 fo G bS (by kernel_rfl) λaA _ _ _ _ _ _ hr=>(aI (aQ (dJ (bc gE rfl F.gb gf (a2 (af 0) (gJ eR rfl F.eQ))) (dJ (HR rS rS aw (bc iw rfl F.iq ix (a1 (af 0))) (dq F.zU rfl)) (dh (bc (nJ rfl) rfl F.nB nL (a1 (cA ["sheet"] (cP (af 0)) (λ_ _ _ _ _ _=>⟨cJ,(aB F.FJ (FO F) hr (a1 (af 0)))⟩)))))))))
def Fo (F:bb K mg):ba P w K mg base "need_asked" (top 45) nM 10 sO:=λ{_ _} G =>
 fo G nM (by kernel_rfl) λaA _ _ _ _ _ _ hr=>(aC (kg (aB F.M3 (M7 F) hr (a1 (af 0)))) (aC (kg (aB F.MF (MI F) hr (a1 (af 1)))) (aI (dU (iV (eD (aB F.MG (MJ F) hr (a1 (af 2))))) z0 dP))))
def Mn (F:bb K mg):ba P w K mg base "days_present" (top 35) yf 2 v9:=λ{_ _} G =>
 fo G ["book","mould","mark","shown","mended","present","stays","day"] (by kernel_rfl) λaA _ _ _ _ _ _ hr=>(aC (bH 3 aA (aB F.wx (wy F) hr (aM (af 0) (aM (af 1) (aM (af 2) (aM (dq F.oW rfl) bL)))))) (aC (bH 4 aA (aB F.wa (wb F) hr (a3 (af 0) (af 1) (af 2)))) (aC (bH 5 aA (o7 bL)) (aC (bH 6 aA dS) (aC (iu ĥ rfl (cX rfl F.cB (a1 (dq F.lC rfl))) (cq 7 aA) (aC (bH 6 aA (pK (ei (gH hr) (af 7) (af 3) rfl) (dh (dJ (af 6) (dh (ei (qN hr) (af 7) (af 4) rfl)))))) (aI (dU (eD (af 6)) (aI (kg (pb (af 5) (af 7)))) dP)))) (aI (aQ (tZ (af 5)))))))))
def Mv (F:bb K mg):ba P w K mg base "days_absent" (top 36) yf 2 we:=λ{_ _} G =>
 fo G ["book","mould","mark","lacked","mended","absent","barred","day"] (by kernel_rfl) λaA _ _ _ _ _ _ hr=>(aC (bH 3 aA (aB F.wx (wy F) hr (aM (af 0) (aM (af 1) (aM (af 2) (aM (dq F.oK rfl) bL)))))) (aC (bH 4 aA (aB F.wa (wb F) hr (a3 (af 0) (af 1) (af 2)))) (aC (bH 5 aA (o7 bL)) (aC (bH 6 aA dS) (aC (iu ĥ rfl (VX rfl F.Nq rfl F.cB (a1 (dq F.lC rfl))) (cq 7 aA) (aC (dU (PW.pt (w_or (eD (af 6)) (w_or (bz (gH hr) (af 7) (af 3) rfl) (ko (bz (gH hr) (af 7) (af 4) rfl))))) (aI (kg (pb (af 5) (af 7)))) dP) (aI (bH 6 aA (dJ (pK (af 6) (dh (ei (gH hr) (af 7) (af 3) rfl))) (dh (ei (qN hr) (af 7) (af 4) rfl))))))) (aI (aQ (tZ (af 5)))))))))
def FQ (F:bb K mg):ba P w K mg base "marks_on" (top 34) BV 1 sW:=λ{_ _} G =>
 fo G BV (by kernel_rfl) λaA _ _ _ _ _ _ hr=>(aI (aQ (ik jf rfl F.eQ eR (a1 (cA ["mark","day","days_by_mark"] (cX rfl F.cB (a1 (dq F.oJ rfl))) (λ_ _ _ _ _ _=>⟨(fq (bz (gH hr) (af 1) (aN (af 2) (af 0)) rfl)),(af 0)⟩))))))
def Mw (F:bb K mg):ba P w K mg base "sure_sheets" (top 33) Ke 3 wg:=λ{_ _} G =>
 fo G ["book","mould","present","absent"] (by kernel_rfl) λaA _ _ _ _ _ _ hr=>(aC (bH 2 aA (cA ["mark","book","mould"] (cX rfl F.cB (a1 (dq F.oJ rfl))) (λ_ _ _ _ _ _=>⟨cJ,(aB F.Mm (Mn F) hr (a3 (af 1) (af 2) (af 0)))⟩))) (aC (bH 3 aA (cA ["mark","book","mould"] (cX rfl F.cB (a1 (dq F.oJ rfl))) (λ_ _ _ _ _ _=>⟨cJ,(aB F.Mt (Mv F) hr (a3 (af 1) (af 2) (af 0)))⟩))) (aI (aQ (cA ["day","present","absent"] (cX rfl F.cB (a1 (dq F.lC rfl))) (λ_ _ _ _ _ _=>⟨cJ,(bJ (a2 (aB F.FL (FQ F) hr (a2 (af 1) (af 0))) (aB F.FL (FQ F) hr (a2 (af 2) (af 0)))))⟩))))))
def Fe (F:bb K mg):ba P w K mg base "mendings_between" (top 49) uu 2 sL:=λ{_ _} G =>
 fo G uu (by kernel_rfl) λaA _ _ _ _ _ _ hr=>(aI (aQ (cA ["mark","book","mould","other"] (cP (aN (af 2) (dq F.oW rfl))) (λ_ _ _ _ _ _=>⟨(fq (bz (gH hr) (af 0) (aN (af 3) (dq F.oK rfl)) rfl)),(aB F.wa (wb F) hr (a3 (af 1) (af 2) (af 0)))⟩))))
def FR (F:bb K mg):ba P w K mg base "is_clear" (top 50) BW 2 sX:=λ{_ _} G =>
 fo G BW (by kernel_rfl) λaA _ _ _ _ _ _ hr=>(aI (aQ (pK (ei (nR hr) (af 2) (af 1) (bt _)) (dh (bc (nJ rfl) rfl F.nB nL (a1 (cA ["mended","day","later"] (cP (af 0)) (λ_ _ _ _ _ _=>⟨cJ,(aB F.Fg (Fh F) hr (a3 (af 0) (af 1) (af 2)))⟩))))))))
def Mj (F:bb K mg):ba P w K mg base "days_together" (top 48) uu 3 v8:=λ{_ _} G=>by
 have df:(["day","onward","backward"]:List Str).Nodup:=by decide +kernel
 exact fo G ["book","mould","sheet","other","onward","backward"] (by kernel_rfl) λaA _ _ _ _ _ _ hr=>(aC (bH 4 aA (aB F.Fd (Fe F) hr (aM (af 0) (aM (af 1) (aM (af 2) (aM (af 3) bL)))))) (aC (bH 5 aA (aB F.Fd (Fe F) hr (aM (af 0) (aM (af 1) (aM (af 3) (aM (af 2) bL)))))) (aI (aQ (oQ (N:=["day","onward","backward"]) (nt:=1) (cap:=[4,5]) rfl (jP (by kernel_rfl)) (je 0) (cX rfl F.cB (a1 (dq F.lC rfl))) (λcl C s H ex pn=>⟨(dG (i:=0) df rfl (Or.inr rfl)),cJ,(cA ["later","onward","day","backward"] (cX rfl F.cB (a1 (dq F.lC rfl))) (λ_ _ _ _ _ _=>⟨cJ,(dJ (aB F.FN (FR F) hr (a3 (af 1) (af 2) (af 0))) (dh (aB F.FN (FR F) hr (a3 (af 3) (af 0) (af 2)))))⟩))⟩))))))
def QX (F:bb K mg):ba P w K mg base "agree" (top 37) BX 2 xj:=λ{_ _} G =>
 fo G BX (by kernel_rfl) λaA _ _ _ _ _ _ hr=>(aI (aQ (dJ (aB F.zB (zC F) hr (a2 (aN (af 0) (dq F.oW rfl)) (aN (af 1) (dq F.oK rfl)))) (dh (aB F.zB (zC F) hr (a2 (aN (af 0) (dq F.oK rfl)) (aN (af 1) (dq F.oW rfl))))))))
def Og (F:bb K mg):ba P w K mg base "is_free" (top 47) BY 1 wQ:=λ{_ _} G=>by
 have df:(["table","other","day"]:List Str).Nodup:=by decide +kernel
 exact fo G BY (by kernel_rfl) λaA _ _ _ _ _ _ hr=>(aI (aQ (bc (nJ rfl) rfl F.nB nL (a1 (oQ (N:=["table","other","day"]) (nt:=2) (cap:=[2]) rfl (jP (by kernel_rfl)) (qW (jF 0 (jF 1 qM))) (UO rfl F.tR (a2 (af 0) (af 1))) (λcl C s H ex pn=>⟨(ke rfl (jc (dG (i:=0) df rfl (ť rfl)) (jc (dG (i:=1) df rfl (ť rfl)) oO))),cJ,(aN (aN (af 0) (af 1)) (af 2))⟩))))))
def Oh (F:bb K mg):ba P w K mg base "datings" (top 46) nM 4 wR:=λ{_ _} G=>by
 have zj:(["dating","day","tables","days"]:List Str).Nodup:=by decide +kernel
 exact fo G ["book","mould","sheets","sure","told","at","days","tables"] (by kernel_rfl) λaA _ _ _ _ _ _ hr=>(aC (bH 3 aA (aB F.Mu (Mw F) hr (a2 (af 0) (af 1)))) (aC (bH 4 aA (iU (a1 (bJ bL)))) (aC (iu ĥ rfl (cX rfl F.cB (a1 (bc iw rfl F.iq ix (a1 (af 2))))) (cq 5 aA) (aC (bH 6 aA (cA ["day","sheets","at","sure"] (cX rfl F.cB (a1 (dq F.lC rfl))) (λ_ _ _ _ _ _=>⟨(fq (eD (aB F.QT (QX F) hr (a2 (aN (af 1) (af 2)) (aN (af 3) (af 0)))))),(af 0)⟩))) (aC (bH 7 aA (cA ["ahead","book","mould","sheets","at"] (cX rfl F.cB (a1 (af 5))) (λ_ _ _ _ _ _=>⟨cJ,(aB F.Mi (Mj F) hr (aM (af 1) (aM (af 2) (aM (aN (af 3) (af 0)) (aM (aN (af 3) (af 4)) bL)))))⟩))) (aI (Sd 4 (N:=["dating","day","tables","days"]) (nt:=2) (cap:=[7,6]) aA rfl (BC (by kernel_rfl)) (je 0) (qO 0) (je 1) (qO 1) (cP (af 4)) (λcl C s H ex pn=>⟨(dG (i:=0) zj rfl (ť rfl)),cJ,(cP (af 3)),(dG (i:=1) zj rfl (ť rfl)),(fq (eD (aB F.N9 (Og F) hr (a3 (af 2) (af 0) (af 1))))),(bF dQ (af 0) (bJ (a1 (af 1))))⟩)))))) (aI (aQ (af 4))))))
def M8 (F:bb K mg):ba P w K mg base "narrowest" (top 41) nM 12 wD:=λ{_ _} G=>by
 obtain⟨_,_,zM⟩:=F.Nt;exact fo G nM (by kernel_rfl) λaA _ _ _ _ _ _ hr=>(aC (kg (aB F.Fn (Fo F) hr (a3 (af 0) (af 1) (af 2)))) (aI (aQ (Sh (Nx F zM) (hr.mono (by decide)) zM.mg zM.b (aB F.Oa (Oh F) hr (a3 (af 0) (af 1) (af 2))) rfl rfl F.xE rfl))))
def SG (F:bb K mg):ba P w K mg base "_law_odd" (top 56) rX 2 xC:=λ{_ _} G =>
 fo G ["_law_state_here","_law_some"] (by kernel_rfl) λaA _ _ _ _ _ _ hr=>(aC (bH 1 aA (by refine' SD ?_ ?_ ?_ ?_ ?_ ?_ ?_ ?_ ?_ ?_ ?_ ?_ ?_ ?_ ?_ ?_ ?_ ?_;exact xO;exact dS;exact dS;exact(rN rE aw);exact aw;exact aw;exact aw;exact gB;exact gB;exact gB;exact(bJ bL);exact(iU bL);exact UH;exact(bJ (a1 aw));exact(iU (a1 aw));exact(bF BG aw aw);exact(rN rE (bF BG aw aw));exact(bJ (a1 aw)))) (aC (bH 1 aA (bF dQ (af 1) (by refine' UL ?_ ?_ ?_ ?_ ?_ ?_ ?_ ?_;exact(bJ (a1 gB));exact(bJ (a2 aw aw));exact(bJ (a2 (bJ (a1 aw)) (bJ (a1 aw))));exact UJ;exact(bJ (a2 (bJ bL) (bJ bL)));exact(bJ (a2 (bJ (a1 dS)) (bJ bL)));exact(bJ (a2 (bJ (a2 aw aw)) (bJ bL)));exact gB))) (aI (aQ (aN (af 1) (aB F.dE (dF F) hr (a2 (af 0) aw)))))))
def Pq (F:bb K mg):ba P w K mg base "_law_thing" (top 67) Kf 3 w6:=λ{_ _} G =>
 fo G ["_law_state_here","_law_sheets_here","_law_told","_law_many","_law_way","_law_days","_law_at","_law_odd_here"] (by kernel_rfl) λaA _ _ _ _ _ _ hr=>(aC (xx 3 4 rfl aA (a2 (bc iw rfl F.iq ix (a1 (af 1))) (aB F.dE (dF F) hr (a2 (af 0) aw)))) (aC (bH 5 aA (ik jf rfl F.eQ eR (a1 (cA ["_law_sheet_here","_law_state_here"] (cP (af 1)) (λ_ _ _ _ _ _=>⟨cJ,(aB F.dE (dF F) hr (a2 (af 1) aw))⟩))))) (aC (xx 6 7 rfl aA (a2 (aB F.dE (dF F) hr (a2 (af 0) (af 3))) (aN (by refine' UK ?_ ?_ ?_ ?_ ?_ ?_ ?_;exact(rN rE aw);exact aw;exact dS;exact xO;exact gB;exact aw;exact aw) (aB F.dE (dF F) hr (a2 (af 0) aw))))) (aC (dU (bz (dj hr) (af 4) aw (bt _)) (aI (aQ (aN (iU (aM (bF dQ (af 5) (mE (af 5) mC (mw aw))) (aM (mE (af 5) (mw aw) mC) (aM (ik Ul rfl F.tH tN (a1 (af 5))) (aM (aB F.SF (SG F) hr (a1 (af 0))) bL))))) (aB F.dE (dF F) hr (a2 (af 0) aw))))) dP) (aC (dU (bz (dj hr) (af 4) aw (bt _)) (aI (aQ (bF dQ (bF dQ (mE (af 5) mC (mw (af 6))) (bJ (a1 (af 7)))) (mE (af 5) (mw (bF dQ (af 6) aw)) mC)))) dP) (aC (dU (bz (nR hr) (af 4) aw (bt _)) (aI (aQ (bF rB (bJ (a1 (aN (af 5) aw))) (af 3)))) dP) (aC (dU (PW.pt (w_and (bz (nR hr) (af 4) aw (bt _)) (nu (bz Jk (af 2) xO (bt _))))) (aI (aQ (bF dQ (bF dQ (mE (af 2) mC (mw (af 6))) (bJ (a1 (aN (af 5) (af 6))))) (mE (af 2) (mw (bF dQ (af 6) aw)) mC)))) dP) (aI (aQ (af 5))))))))))
def Pr (F:bb K mg):ba P w K mg base "_law_lived" (top 60) Kg 2 qI:=λ{_ _} G =>
 fo G ["_law_state_here","_law_mended","_law_there","_law_found","_law_way","_law_day"] (by kernel_rfl) λaA _ _ _ _ _ _ hr=>(aC (UI 2 3 4 rfl aA (a3 (ei (dj hr) (aB F.dE (dF F) hr (a2 (af 0) aw)) aw (bt _)) (o7 bL) (bF dQ aw (aB F.dE (dF F) hr (a2 (af 0) aw))))) (aC (iu ĥ rfl (cX rfl F.cB (a1 aw)) (cq 5 aA) (aC (bH 2 aA (dJ (pK (af 2) (dh (ei (dj hr) (aB F.dE (dF F) hr (a2 (af 0) (af 4))) aw (bt _)))) (dh (ei (qN hr) (af 5) (af 1) rfl)))) (aI (dU (eD (af 2)) (aI (kg (pb (af 3) (af 5)))) dP)))) (aI (aQ (tZ (af 3))))))
def QY (F:bb K mg):ba P w K mg base "_law_book" (top 61) rX 3 (xi w):=λ{_ _} G=>by
 have Ef:(["_law_mark","_law_state_here","_law_often"]:List Str).Nodup:=by decide +kernel
 exact fo G ["_law_state_here","_law_found","_law_moulds","_law_often","_law_mould","_law_mended","_law_lives","_law_turn","_law_mark","_law_day","_law_seen","_law_has"] (by kernel_rfl) λaA _ _ _ _ _ _ hr=>(aC (nH (bJ (a3 TK.UD (bF dQ aw (aB F.dE (dF F) hr (a2 (af 0) aw))) (bF dQ aw (aB F.dE (dF F) hr (a2 (af 0) aw))))) (nG rfl (fP (cq 1 aA) (fP (cq 2 aA) (fP (cq 3 aA) nv))))) (aC (iu ĥ rfl (cX rfl F.cB (a1 (af 2))) (cq 4 aA) (aC (nH (bJ (a2 (cA ["_law_mark"] (cX rfl F.cB (a1 aw)) (λ_ _ _ _ _ _=>⟨cJ,(o7 bL)⟩)) (o7 bL))) (nG rfl (fP (cq 5 aA) (fP (cq 6 aA) nv)))) (aC (iu ĥ rfl (cX rfl F.cB (a1 (aB F.dE (dF F) hr (a2 (af 0) aw)))) (cq 7 aA) (aC (nH (bJ (a2 (aB F.dE (dF F) hr (a2 (af 0) aw)) (aB F.dE (dF F) hr (a2 (af 0) aw)))) (nG rfl (fP (cq 8 aA) (fP (cq 9 aA) nv)))) (aC (kg (pb (aN (af 5) (af 8)) (af 9))) (aI (TK.Jx rfl hr dS (af 1) (bJ (aM gB (aM (af 4) (aM (af 9) (aM (af 8) bL)))))))))) (aC (iu ĥ rfl (cX rfl F.cB (a1 aw)) (cq 8 aA) (aI (kg (pb (af 6) (aB F.Pl (Pr F) hr (a2 (af 0) (aN (af 5) (af 8)))))))) (aI (iu ĥ rfl (cX rfl F.cB (a1 (aB F.dE (dF F) hr (a2 (af 0) aw)))) (cq 7 aA) (aC (bH 9 aA (aB F.dE (dF F) hr (a2 (af 0) aw))) (aC (H9 10 (N:=["_law_mark","_law_state_here","_law_often"]) (nt:=1) (cap:=[0,3]) aA rfl (jP (by kernel_rfl)) (je 0) (cX rfl F.cB (a1 aw)) (λcl C s H ex pn=>⟨(dG (i:=0) Ef rfl (ť rfl)),(fq (bz (dj hr) (aB F.dE (dF F) hr (a2 (af 1) (af 2))) aw (bt _))),(af 0)⟩)) (aC (bH 11 aA (ik jf rfl F.eQ eR (a1 (cA ["_law_mark","_law_day","_law_lives"] (cP (af 10)) (λ_ _ _ _ _ _=>⟨(fq (bz (gH hr) (af 1) (aN (af 2) (af 0)) rfl)),(af 0)⟩))))) (aI (TK.Jx rfl hr dS (af 1) (bJ (aM gB (aM (af 4) (aM (af 9) (aM (bJ (a2 (af 11) (ik jf rfl F.eQ eR (a1 (cA ["_law_mark","_law_day","_law_lives"] (cP (af 10)) (λ_ _ _ _ _ _=>⟨(fq (bz (qN hr) (af 1) (aN (af 2) (af 0)) rfl)),(af 0)⟩)))))) bL)))))))))))))))) (aI (aQ (ik jf rfl F.eQ eR (a1 (bc (TK.Sy hr) rfl F.Gw G7 (a1 (ik (TK.Sr rfl) rfl F.tH tN (a1 (af 1)))))))))))
def MK (F:bb K mg):ba P w K mg base "_law_good_days" (top 68) Kh 1 sP:=λ{_ _} G =>
 fo G ["_law_thing_here","_law_many","_law_day"] (by kernel_rfl) λaA _ _ _ _ _ _ hr=>(aC (dU (PW.pt (w_or (iV (eD (bc gE rfl F.gb gf (a2 (af 0) (gJ eR rfl F.eQ))))) (ko (bz (lO hr) (bc iw rfl F.iq ix (a1 (af 0))) (af 1) (bt _))))) (aI (aQ dS)) dP) (aC (iu ĥ rfl (cP (af 0)) (cq 2 aA) (aI (dU (PW.pt (w_or (iV (eD (bc gE rfl F.gb gf (a2 (af 2) (gJ J2 rfl F.JC))))) (w_or (eD (bc gE rfl F.gb gf (a2 (af 2) (gJ xA rfl F.xk)))) (ko (iV (R5 rS rS aw (af 2) aw)))))) (aI (aQ dS)) dP))) (aI (aQ dS))))
def Oi (F:bb K mg):ba P w K mg base "_law_agrees" (top 66) Ki 3 tj:=λ{_ _} G=>by
 have df:(["_law_sheet_here","_law_day","_law_mould"]:List Str).Nodup:=by decide +kernel
 exact fo G ["_law_book_here","_law_mould","_law_sheets_here","_law_days","_law_more"] (by kernel_rfl) λaA _ _ _ _ _ _ hr=>(aC (bH 4 aA (bF dQ (af 0) (ik jf rfl F.eQ eR (a1 (oQ (N:=["_law_sheet_here","_law_day","_law_mould"]) (nt:=2) (cap:=[1]) rfl (jP (by kernel_rfl)) (qW (jF 0 (jF 1 qM))) (xQ rfl F.tR (a2 (af 2) (af 3))) (λcl C s H ex pn=>⟨(ke rfl (jc (dG (i:=0) df rfl (ť rfl)) (jc (dG (i:=1) df rfl (ť rfl)) oO))),cJ,(bJ (aM gB (aM (af 2) (aM (af 1) (aM (af 0) bL)))))⟩)))))) (aI (aQ (ei (dj hr) (cA ["_law_mark","_law_more","_law_mould"] (cX rfl F.cB (a1 aw)) (λ_ _ _ _ _ _=>⟨(fq (bz (gH hr) (bJ bL) (aB F.Ij (Ik F) hr (a3 (af 1) (af 2) (af 0))) rfl)),(af 0)⟩)) (iU bL) (bt _)))))
def Hi:qK ["_law_found","_law_due"] ["_law_found","_law_due"] (gy (top 55)):=⟨rfl,rfl,rfl,by decide +kernel,rfl,by decide +kernel,by decide +kernel⟩
def Hj (F:bb K mg) {f:á} {fd:Ŗ} (G:Gd K mg "_law_same" (top 55) ["_law_found","_law_due"] f fd):∀n,fu P w K mg base gp (1+n) f fd ["_law_found","_law_due"] (l6 K (xg n))
 |0=>VU λ_ _=>rfl
 |n+1=>by
  have df:(["_law_one","_law_other"]:List Str).Nodup:=by decide +kernel
  have aA:=Hi.nd;have ih:=Hj F G n;exact JV G.fn Hi λcw A outer s H E hr=>(aC (dU (eD (Sa (af 1) rfl F.gb gf (Aw rfl F.eQ eR rfl) (Aw rfl F.tH tN rfl))) (aC (dU (PW.pt (w_or (bz (lO hr) (bc gE rfl F.gb gf (a2 (af 0) (gJ eR rfl F.eQ))) (bc gE rfl F.gb gf (a2 (af 1) (gJ eR rfl F.eQ))) (bt _)) (ko (bz (lO hr) (bc gE rfl F.gb gf (a2 (af 0) (gJ tN rfl F.tH))) (bc gE rfl F.gb gf (a2 (af 1) (gJ tN rfl F.tH))) (bt _))))) (aI (aQ dS)) dP) (aI (aQ (dJ (ei (dj hr) (bc iw rfl F.iq ix (a1 (af 0))) (bc iw rfl F.iq ix (a1 (af 1))) (bt _)) (dh (bc (nJ rfl) rfl F.nB nL (a1 (oQ (N:=["_law_one","_law_other"]) (nt:=2) (cap:=[]) rfl (jP (by kernel_rfl)) (qW (jF 0 (jF 1 qM))) (xQ rfl F.tR (a2 (af 0) (af 1))) (λcl C s H ex pn=>⟨(ke rfl (jc (dG (i:=0) df rfl (ť rfl)) (jc (dG (i:=1) df rfl (ť rfl)) oO))),cJ,(A6 ih hr rfl G.mg G.fn.kp G.b (a2 (af 0) (af 1)))⟩))))))))) dP) (aI (aQ (dJ (ei (dj hr) (bc gE rfl F.gb gf (a2 (af 0) (gJ xA rfl F.xk))) (bc gE rfl F.gb gf (a2 (af 1) (gJ xA rfl F.xk))) (bt _)) (dh (ei (dj hr) (af 0) (af 1) (bt _)))))))
def Nz (F:bb K mg):ba P w K mg base "are_days" (top 43) bS 4 wH:=λ{_ _} G =>
 fo G bS (by kernel_rfl) λaA _ _ _ _ _ _ hr=>(aI (aQ (dJ (bc gE rfl F.gb gf (a2 (af 0) (gJ eR rfl F.eQ))) (dh (bc (nJ rfl) rfl F.nB nL (a1 (cA ["day"] (cP (af 0)) (λ_ _ _ _ _ _=>⟨cJ,(aB F.Gy (GA F) hr (a1 (af 0)))⟩))))))))
def M9 (F:bb K mg):ba P w K mg base "is_dating" (top 40) Kj 11 oE:=λ{_ _} G=>by
 have df:(["day","sheet","mould"]:List Str).Nodup:=by decide +kernel
 exact fo G ["book","mould","sheets","thing","pages"] (by kernel_rfl) λaA _ _ _ _ _ _ hr=>(aC (kg (aB F.Fn (Fo F) hr (a3 (af 0) (af 1) (af 2)))) (aC (dU (PW.pt (w_or (iV (eD (aB F.Nv (Nz F) hr (a1 (af 3))))) (ko (bz (lO hr) (bc iw rfl F.iq ix (a1 (af 3))) (bc iw rfl F.iq ix (a1 (af 2))) (bt _))))) (aI (aQ dS)) dP) (aC (bH 4 aA (ik jf rfl F.eQ eR (a1 (oQ (N:=["day","sheet","mould"]) (nt:=2) (cap:=[1]) rfl (jP (by kernel_rfl)) (qW (jF 0 (jF 1 qM))) (xQ rfl F.tR (a2 (af 3) (af 2))) (λcl C s H ex pn=>⟨(ke rfl (jc (dG (i:=0) df rfl (ť rfl)) (jc (dG (i:=1) df rfl (ť rfl)) oO))),cJ,(bJ (aM gB (aM (af 2) (aM (af 0) (aM (af 1) bL)))))⟩))))) (aI (aQ (ei (dj hr) (aB F.FA (FE F) hr (a1 (bF dQ (af 0) (af 4)))) (iU bL) (bt _)))))))
def UQ (F:bb K mg):ba P w K mg base "law" (top 69) V8 13 (ye w):=λ{_ _} G=>by
 obtain⟨_,_,xl⟩:=F.QV;have df:(["_law_turn","_law_state_here","_law_sheets_here","_law_told"]:List Str).Nodup:=by decide +kernel
 exact fo G ["_law_script","_law_k","_law_state_here","_law_book_here","_law_mould","_law_sheets_here","_law_told","_law_things","_law_thing_here","_law_kept","_law_due"] (by kernel_rfl) λaA _ _ _ _ _ _ hr=>(aC (iu ĥ rfl (cX rfl F.cB (a1 (bc (Jl rfl) rfl F.Bk BH (a2 aw (bc (Uk rfl) rfl F.xE xV (a2 (bc iw rfl F.iq ix (a1 (af 0))) aw)))))) (cq 1 aA) (aC (bH 2 aA (aB F.Pf (Pn F) hr (a2 (af 0) (af 1)))) (aC (xx 3 4 rfl aA (a2 (mE (aB F.QU (QY F) hr (a1 (af 2))) mC (mw aw)) (aB F.dE (dF F) hr (a2 (af 2) aw)))) (aC (bH 5 aA (aB F.N5 (Oc F) hr (a3 (af 2) (af 3) (af 4)))) (aC (bH 6 aA (aB F.M4 (M8 F) hr (a3 (af 3) (af 4) (af 5)))) (aC (QC 7 (N:=["_law_turn","_law_state_here","_law_sheets_here","_law_told"]) (nt:=1) (cap:=[2,5,6]) aA rfl (jP (by kernel_rfl)) (je 0) (cX rfl F.cB (a1 aw)) (λcl C s H ex pn=>⟨(dG (i:=0) df rfl (ť rfl)),cJ,(aB F.Pk (Pq F) hr (a3 (af 1) (af 2) (af 3)))⟩)) (aC (dU (bz Jk (af 6) xO (bt _)) (aI (kg (pb (af 7) (af 6)))) dP) (aI (iu ĥ rfl (cP (tZ (af 7))) (cq 8 aA) (aC (bH 9 aA (bc (Jo hr) rfl F.Ii Jp (a1 (bJ (a3 (af 3) (af 5) (af 8)))))) (aC (bH 10 aA (dJ (aB F.MH (MK F) hr (a2 (af 8) (bc iw rfl F.iq ix (a1 (af 5))))) (dh (aB F.Ob (Oi F) hr (aM (af 3) (aM (af 4) (aM (af 5) (aM (af 8) bL)))))))) (aI (dU (PW.pt (w_or (iV (eD (A6 (Hj F xl 8) (hr.mono (by decide)) rfl xl.mg xl.fn.kp xl.b (a2 (aB F.M5 (M9 F) hr (aM (af 3) (aM (af 4) (aM (af 5) (aM (af 8) bL))))) (af 10))))) (ko (bz (lO hr) (bc (Jo hr) rfl F.Ii Jp (a1 (bJ (a3 (af 3) (af 5) (af 8))))) (af 9) (bt _))))) (aI (aQ dS)) dP))))))))))))) (aI (aQ dS)))
end
end DI.jB
namespace DI
open PySem L2
def Wp {α:Type} (r:Res α) (Q:α->ag->Prop):Prop:=∃a s,r=some (.ok a,s)/\Q a s
section
variable {α β:Type} {r:Res α} {k:α->ag->Res β} {Q Q':α->ag->Prop} {R:β->ag->Prop} {env:Env} {s:ag}
def Wp.ok {a:α} (h:Q a s):Wp (DI.ok a s) Q:=⟨a,s,rfl,h⟩
def Wp.mono (h:Wp r Q) (i:∀a s,Q a s->Q' a s):Wp r Q':=by
 obtain⟨a,s,e,q⟩:=h;exact⟨a,s,e,i a s q⟩
def Wp.ao (h:Wp r λa s=>Wp (k a s) R):Wp (DI.ao r k) R:=by
 obtain⟨a,s,e,b,s',e',q⟩:=h;exact⟨b,s',by rw[e];exact e',q⟩
def Wp.ne (h:Wp r Q):Wp (DI.ne r) Q:=by
 obtain⟨a,s,e,q⟩:=h;exact⟨a,s,by rw[e];rfl,q⟩
def Wp.of (e:r=some (.ok a,s)) (h:Q a s):Wp r Q:=⟨a,s,e,h⟩
def Wp.seq {f g:Env->ag->Res Fl} {Q:Fl->ag->Prop} (h:Wp (f env s) λfl s=>match fl with
  | .nx env=>Wp (g env s) Q
  |fl=>Q fl s):Wp (ay f g env s) Q:=by
 obtain⟨fl,s',e,h⟩:=h;unfold ay;rw[e]
 cases fl with
 |nx env=>exact h
 |rt d=>exact⟨_,_,rfl,h⟩
 |bk e=>exact⟨_,_,rfl,h⟩
 |ct e=>exact⟨_,_,rfl,h⟩
def Wp.iZ {Q:Fl->ag->Prop} (I:Nat->Env->ag->Prop) (all:List D) (h0:I 0 env s)
 (step:∀i d env s,all[i]?=some d->I i env s->∃env',g d env=some env'/\Wp (b env' s) λfl s=>match fl with
   | .nx e=>I (i+1) e s
   | .ct e=>I (i+1) e s
   | .bk e=>Q (.nx e) s
   | .rt d=>Q (.rt d) s) (fin:∀env s,I all.length env s->Q (.nx env) s):Wp (jK g b all env s) Q:=by
 have key:∀(ds:List D) (i:Nat) (env:Env) (s:ag),all.drop i=ds->i<=all.length->I i env s->Wp (jK g b ds env s) Q:=by
  intro ds
  induction ds with
  |nil =>
   intro i env s hd hi h;have e:i=all.length:=by
    have:=Ĺ List.length hd;simp at this;omega
   subst e;exact Wp.ok (fin _ _ h)
  |cons d ds ih =>
   intro i env s hd hi h;have hx:all[i]?=some d:=by
    have:=Ĺ (λl=>l[0]?) hd;simpa using this
   have dY:all.drop (i+1)=ds:=by
    have:=Ĺ (List.drop 1) hd;simpa [ab7] using this
   obtain⟨env',hg,hb⟩:=step i d env s hx h;have bA:=(Å.mp hx).1;unfold jK;rw[hg];refine Wp.ao (hb.mono λfl s q=>?_)
   cases fl with
   |nx e=>exact ih (i+1) e s dY bA q
   |ct e=>exact ih (i+1) e s dY bA q
   |bk e=>exact Wp.ok q
   |rt d=>exact Wp.ok q
 exact key all 0 env s rfl (Ę _) h0
def mi {nt:Nat} {t:Env->ag->Res Bool} {Q:List D->ag->Prop} (I:Nat->List D->ag->Prop) (all:List D) (h0:I 0 [] s)
 (step:∀i d acc s,all[i]?=some d->I i acc s->∃env,g d (Ï nt none++caps)=some env/\Wp (t env s) λb s=>if b=true then Wp (f env s) λx s=>I (i+1) (acc++[x]) s else I (i+1) acc s)
 (fin:∀acc s,I all.length acc s->Q acc s):Wp (eT nt caps g t f all s) Q:=by
 have key:∀(ds:List D) (i:Nat) (acc:List D) (s:ag),all.drop i=ds->i<=all.length->I i acc s->Wp (eT nt caps g t f ds s) λxs s=>Q (acc++xs) s:=by
  intro ds
  induction ds with
  |nil =>
   intro i acc s hd hi h;have e:i=all.length:=by
    have:=Ĺ List.length hd;simp at this;omega
   subst e;exact Wp.ok (by rw[Ō];exact fin _ _ h)
  |cons d ds ih =>
   intro i acc s hd hi h;have hx:all[i]?=some d:=by
    have:=Ĺ (λl=>l[0]?) hd;simpa using this
   have dY:all.drop (i+1)=ds:=by
    have:=Ĺ (List.drop 1) hd;simpa [ab7] using this
   obtain⟨env',hg,hb⟩:=step i d acc s hx h;have bA:=(Å.mp hx).1;unfold eT;rw[hg];refine Wp.ao (Wp.ne (hb.mono λb s q=>?_))
   cases b with
   |true =>
    rw[Ú rfl] at q |-;refine Wp.ao (Wp.ne (q.mono λx s q=>?_));refine Wp.ao ((ih (i+1) (acc++[x]) s dY bA q).mono λxs s q=>Wp.ok ?_);rw[ķ] at q;exact q
   |false =>
    rw[æ Ë] at q |-;exact ih (i+1) acc s dY bA q
 have:=key all 0 [] s rfl (Ę _) h0;simpa using this
end
section
variable {α β:Type} {Q:D->ag->Prop} {QL:List D->ag->Prop} {QB:Bool->ag->Prop} {QF:Fl->ag->Prop} {QO:Option Int->ag->Prop} {env:Env} {s:ag} {f g h:Env->ag->Res D} {fa:Env->ag->Res (List D)} {c c':Env->ag->Res Bool} {st dw:Env->ag->Res Fl} {o o':D->D->ag->Res D} {u:D->ag->Res D} {bf:List D->ag->Res D}
def wp_ok {a:α} {Q:α->ag->Prop}:Wp (ok a s) Q=Q a s:=propext ⟨λ⟨b,s',e,q⟩=>by cases e;exact q,λq=>⟨a,s,rfl,q⟩⟩
def wp_ok' {Q:α->ag->Prop}:Wp (some (Except.ok a,s)) Q=Q a s:=wp_ok
def bB {r:Res α} {k:α->ag->Res β} {R:β->ag->Prop}:Wp (ao r k) R=Wp r λa s=>Wp (k a s) R:=propext ⟨λ⟨b,s',e,q⟩=>by
 obtain⟨a,s,e1,e2⟩:=qH e;exact⟨a,s,e1,b,s',e2,q⟩,λh=>Wp.ao h⟩
def wp_ne {Q:α->ag->Prop}:Wp (ne r) Q=Wp r Q:=propext ⟨λ⟨b,s',e,q⟩=>⟨b,s',AJ e,q⟩,λh=>h.ne⟩
def wp_loc0 {a:D} {r:Env}:Wp (aa 0 (some a::r) s) Q=Q a s:=by rw[show aa 0 (some a::r) s=ok a s from rfl,wp_ok]
def wp_locS {i:Nat} {a:Option D} {r:Env}:Wp (aa (i+1) (a::r) s) Q=Wp (aa i r s) Q:=by rw[show aa (i+1) (a::r) s=aa i r s from rfl]
def wp_C:Wp (eC d env s) Q=Q d s:=by rw[show eC d env s=ok d s from rfl,wp_ok]
def wp_e1:Wp (e1 u f env s) Q=Wp (f env s) λx s=>Wp (u x s) Q:=by unfold e1;rw[bB]
def wp_e2:Wp (e2 o f g env s) Q=Wp (f env s) λx s=>Wp (g env s) λy s=>Wp (o x y s) Q:=by unfold e2;simp only[bB]
def wp_aNil:Wp (ah env s) QL=QL [] s:=by unfold ah;rw[wp_ok]
def wp_aCons:Wp (ae f fa env s) QL=Wp (f env s) λx s=>Wp (fa env s) λxs s=>QL (x::xs) s:=by unfold ae;simp only[bB,wp_ok]
def wp_eB:Wp (eB bf fa env s) Q=Wp (fa env s) λds s=>Wp (bf ds s) Q:=by unfold eB;rw[bB]
def wp_call:Wp (ax fn fa env s) Q=Wp (fa env s) λds s=>Wp (fn ds s) Q:=by unfold ax;simp only[bB,wp_ne]
def m9 {Q:α->ag->Prop}:Wp (iT ds r) Q=(ds.length<=Õ/\Wp r Q):=propext ⟨λ⟨b,s',e,q⟩=>by
 unfold iT at e;split at e
 ·exact⟨by assumption,b,s',e,q⟩
 ·(cases e),λ⟨hl,b,s',e,q⟩=>⟨b,s',by unfold iT;rw[Ú hl];exact e,q⟩⟩
def wp_tup:Wp (aX fa env s) Q=Wp (fa env s) λds s=>ds.length<=Õ/\Q (.tup ds) s:=by unfold aX;simp only[bB,m9,wp_ok]
def wp_lst:Wp (fH fa env s) Q=Wp (fa env s) λds s=>ds.length<=Õ/\Q (.lst ds) s:=by unfold fH;simp only[bB,m9,wp_ok]
def wp_new:Wp (eNew fa env s) Q=Wp (fa env s) λds s=>ds.length<=Õ/\Q (.aj s.length) (s++[.lst ds]):=by unfold eNew;simp only[bB,m9,wp_ok]
def wp_frz:Wp (jT f env s) Q=Wp (f env s) λd s=>Wp (cL d s) Q:=by unfold jT;rw[bB]
def wp_tBl:Wp (aF f env s) QB=Wp (f env s) λd s=>Wp (gg d s) QB:=by unfold aF;rw[bB]
def wp_isBl {b:Bool}:Wp (gg (.bl b) s) QB=QB b s:=by rw[show gg (.bl b) s=ok b s from rfl,wp_ok]
def wp_tru:Wp (cK f env s) QB=Wp (f env s) λd s=>Wp (truth d s) QB:=by unfold cK;rw[bB]
def wp_truB {b:Bool}:Wp (truth (.bl b) s) QB=QB b s:=by rw[show truth (.bl b) s=ok b s from rfl,wp_ok]
def wp_tAnd:Wp (cG c c' env s) QB=Wp (c env s) λb s=>if b=true then Wp (c' env s) QB else QB false s:=by
 unfold cG;rw[bB];congr 1;funext b s
 cases b<;>simp[wp_ok]
def wp_tOr:Wp (fM c c' env s) QB=Wp (c env s) λb s=>if b=true then QB true s else Wp (c' env s) QB:=by
 unfold fM;rw[bB];congr 1;funext b s
 cases b<;>simp[wp_ok]
def wp_tNot:Wp (fe c env s) QB=Wp (c env s) λb s=>QB (!b) s:=by unfold fe;simp only[bB,wp_ok]
def wp_eAnd:Wp (cH f g env s) Q=Wp (f env s) λx s=>Wp (gg x s) λb s=>if b=true then Wp (g env s) Q else Q (.bl false) s:=by
 unfold cH;rw[bB];congr 1;funext x s;rw[bB];congr 1;funext b s
 cases b<;>simp[wp_ok]
def wp_eOr:Wp (kP f g env s) Q=Wp (f env s) λx s=>Wp (gg x s) λb s=>if b=true then Q (.bl true) s else Wp (g env s) Q:=by
 unfold kP;rw[bB];congr 1;funext x s;rw[bB];congr 1;funext b s
 cases b<;>simp[wp_ok]
def wp_eNot:Wp (pJ f env s) Q=Wp (f env s) λx s=>Wp (gg x s) λb s=>Q (.bl (!b)) s:=by unfold pJ;simp only[bB,wp_ok]
def wp_eIf:Wp (yR c f g env s) Q=Wp (c env s) λb s=>if b=true then Wp (f env s) Q else Wp (g env s) Q:=by
 unfold yR;rw[bB];congr 1;funext b s
 cases b<;>simp
def wp_eCh:Wp (mL o o' f g h env s) Q=Wp (f env s) λx s=>Wp (g env s) λy s=>Wp (o x y s) λz s=>Wp (gg z s) λb s=>if b=true then Wp (h env s) λu s=>Wp (o' y u s) Q else Q (.bl false) s:=by
 unfold mL;simp only[bB];congr 1;funext x s;congr 1;funext y s;congr 1;funext z s;congr 1;funext b s
 cases b<;>simp[wp_ok,bB]
def wp_sNil:Wp (bX env s) QF=QF (.nx env) s:=by unfold bX;rw[wp_ok]
def wp_sRet:Wp (aL f env s) QF=Wp (f env s) λd s=>QF (.rt d) s:=by unfold aL;simp only[bB,wp_ok]
def wp_sExpr:Wp (fF f env s) QF=Wp (f env s) λ_ s=>QF (.nx env) s:=by unfold fF;simp only[bB,wp_ok]
def wp_sCont:Wp (JU env s) QF=QF (.ct env) s:=by unfold JU;rw[wp_ok]
def mY (st:Env->ag->Res Fl) (Q:Fl->ag->Prop):Fl->ag->Prop:=λfl s=>match fl with
 | .nx env=>Wp (st env s) Q
 |fl=>Q fl s
def wp_sSeq:Wp (ay st dw env s) QF=Wp (st env s) (mY dw QF):=propext ⟨λh=>by
 unfold ay at h;rw[bB] at h;refine h.mono λfl s q=>?_
 cases fl with
 |nx e=>exact q
 |rt d=>have q:Wp (ok (Fl.rt d) s) QF:=q;rw[wp_ok] at q;exact q
 |bk d=>have q:Wp (ok (Fl.bk d) s) QF:=q;rw[wp_ok] at q;exact q
 |ct d=>have q:Wp (ok (Fl.ct d) s) QF:=q;rw[wp_ok] at q;exact q,λh=>Wp.seq (h.mono λfl s q=>by cases fl<;>exact q)⟩
def Wp.step (h:∀R,R=dw->Wp (st env s) (mY R QF)):Wp (ay st dw env s) QF:=by rw[wp_sSeq];exact h _ rfl
def nN {env':Env} {s':ag} (h:st env s=ok (.nx env') s') (k:Wp (dw env' s') QF):Wp (ay st dw env s) QF:=by
 rw[wp_sSeq,h,wp_ok];exact k
def aft_nx:mY st QF (.nx env) s=Wp (st env s) QF:=rfl
def aft_rt:mY st QF (.rt d) s=QF (.rt d) s:=rfl
def aft_ct:mY st QF (.ct env) s=QF (.ct env) s:=rfl
def wp_sIf:Wp (cc c st dw env s) QF=Wp (c env s) λb s=>if b=true then Wp (st env s) QF else Wp (dw env s) QF:=by
 unfold cc;rw[bB];congr 1;funext b s
 cases b<;>simp
def wp_sAsg {gd:D->Env->Option Env}:Wp (aJ f gd env s) QF=Wp (f env s) λd s=>∃e,gd d env=some e/\QF (.nx e) s:=by
 unfold aJ;rw[bB];congr 1;funext d s
 cases h:gd d env with
 |none=>exact propext ⟨λ⟨_,_,e,_⟩=>(by cases e),λ⟨_,e,_⟩=>(by cases e)⟩
 |some e=>rw[wp_ok];exact propext ⟨λq=>⟨e,rfl,q⟩,λ⟨e',z,q⟩=>by cases z;exact q⟩
def asg_N {i:Nat} {P:Env->Prop}:(∃e,gN i d env=some e/\P e)=P (env.set i (some d)):=propext ⟨λ⟨e,z,q⟩=>by cases z;exact q,λq=>⟨_,rfl,q⟩⟩
def asg_T {P:Env->Prop}:(∃e,gT gs (.tup ds) env=some e/\P e)=∃e,hZ gs ds env=some e/\P e:=rfl
def asg_nil {P:Env->Prop}:(∃e,hZ [] [] env=some e/\P e)=P env:=propext ⟨λ⟨e,z,q⟩=>by cases z;exact q,λq=>⟨_,rfl,q⟩⟩
def asg_cons {i:Nat} {P:Env->Prop}:(∃e,hZ (gN i::gs) (d::ds) env=some e/\P e)=∃e,hZ gs ds (env.set i (some d))=some e/\P e:=rfl
def wp_par2 {i j:Nat}:Wp (pM i j fa env s) QF=Wp (fa env s) λds s=>∃x y,ds=[x,y]/\QF (.nx ((env.set i (some x)).set j (some y))) s:=by
 unfold pM;rw[bB];congr 1;funext ds s
 match ds with
 | [x,y] =>
  show Wp (ok (Fl.nx ((env.set i (some x)).set j (some y))) s) QF=_;rw[wp_ok];exact propext ⟨λq=>⟨x,y,rfl,q⟩,λ⟨x',y',e,q⟩=>by cases e;exact q⟩
 | []=>exact propext ⟨λ⟨_,_,e,_⟩=>(by cases e),λ⟨_,_,e,_⟩=>(by cases e)⟩
 | [_]=>exact propext ⟨λ⟨_,_,e,_⟩=>(by cases e),λ⟨_,_,e,_⟩=>(by cases e)⟩
 |_::_::_::_=>exact propext ⟨λ⟨_,_,e,_⟩=>(by cases e),λ⟨_,_,e,_⟩=>(by cases e)⟩
def par_of {P:D->D->Prop}:(∃x' y',[x,y]=[x',y']/\P x' y')=P x y:=propext ⟨λ⟨_,_,e,q⟩=>by cases e;exact q,λq=>⟨x,y,rfl,q⟩⟩
def wp_sFor:Wp (eU it gd st env s) QF=Wp (it env s) λds s=>Wp (jK gd st ds env s) QF:=by unfold eU;rw[bB]
def wp_sSub {fo fi:Env->ag->Res D}:Wp (ie f fo fi env s) QF=Wp (f env s) λx s=>Wp (fo env s) λd s=>Wp (fi env s) λn s=>∃s',iA d n x s=some s'/\QF (.nx env) s':=by
 unfold ie;simp only[bB];congr 1;funext x s;congr 1;funext d s;congr 1;funext n s
 cases h:iA d n x s with
 |none=>exact propext ⟨λ⟨_,_,e,_⟩=>(by cases e),λ⟨_,e,_⟩=>(by cases e)⟩
 |some e=>simp only[wp_ok];exact propext ⟨λq=>⟨e,rfl,q⟩,λ⟨e',z,q⟩=>by cases z;exact q⟩
def wp_app:Wp (ic f g env s) Q=Wp (f env s) λd s=>iY d s=true/\Wp (g env s) λx s=>Wp (iX d x s) Q:=by
 unfold ic;rw[bB];congr 1;funext d s
 cases h:iY d s with
 |true=>rw[Ú rfl,bB];simp
 |false=>rw[æ Ë];exact propext ⟨λ⟨_,_,e,_⟩=>(by cases e),λ⟨e,_⟩=>(by cases e)⟩
def rY (Q:D->ag->Prop):Fl->ag->Prop:=λfl s=>match fl with
 | .rt d=>Q d s
 | .nx _=>Q .au s
 |_=>False
def wp_fn:Wp (aS np ns st ds s) Q=(ds.length=np/\Wp (st (ds.map some++Ï (ns-np) none) s) (rY Q)):=by
 unfold aS;by_cases h:ds.length=np
 ·rw[Ú h,bB]
  refine propext ⟨λq=>⟨h,q.mono λfl s q=>?_⟩,λ⟨_,q⟩=>q.mono λfl s q=>?_⟩
  ·cases fl with
   |rt d=>exact(show Wp (ok d s) Q from q) |> λz=>by rw[wp_ok] at z;exact z
   |nx e=>exact(show Wp (ok D.au s) Q from q) |> λz=>by rw[wp_ok] at z;exact z
   |bk e=>obtain⟨_,_,e,_⟩:=q;cases e
   |ct e=>obtain⟨_,_,e,_⟩:=q;cases e
  ·cases fl with
   |rt d=>exact Wp.ok q
   |nx e=>exact Wp.ok q
   |bk e=>exact q.elim
   |ct e=>exact q.elim
 ·rw[æ h]
  exact propext ⟨λ⟨_,_,e,_⟩=>(by cases e),λ⟨e,_⟩=>absurd e h⟩
def fin_rt:rY Q (.rt d) s=Q d s:=rfl
def fin_nx:rY Q (.nx env) s=Q .au s:=rfl
def wp_comp:Wp (aU nt cap it gd c f env s) Q=Wp (it env s) λds s=>ds.length<=Õ/\Wp (eT nt (fQ cap env) gd c f ds s) λxs s=>Q (.lst xs) s:=by
 unfold aU;simp only[bB,m9,wp_ok]
def wp_sl:Wp (iI f l' h' env s) Q=Wp (f env s) λd s=>Wp (l' env s) λlo s=>Wp (h' env s) λhi s=>Wp (jh d lo hi s) Q:=by unfold iI;simp only[bB]
def wp_pNo:Wp (iH env s) QO=QO none s:=by unfold iH;rw[wp_ok]
def lD {i:Int} (hi:f env s=ok (.int i) s):Wp (iz f env s) QO=QO (some i) s:=by unfold iz;rw[hi,dI,wp_ok]
end
def bh (s:ag) (k:Nat):Prop:=∃a b:Int,s[k]?=some (.lst [.int a,.int b])/\0<=a/\0<=b/\b<2147483647
structure Ex (k:Nat) (s s':ag):Prop where
 len:s.length<=s'.length
 val:∀j,j<s.length->j≠k->s'[j]?=s[j]?
def Ex.refl (k:Nat) (s:ag):Ex k s s:=⟨Nat.le_refl _,λ_ _ _=>rfl⟩
def Ex.trans (h:Ex k a b) (g:Ex k b c):Ex k a c:=⟨Û h.len g.len,λj hj hk=>(g.val j (Ê hj h.len) hk).trans (h.val j hj hk)⟩
def Ex.set (k:Nat) (s:ag) (c:Cell):Ex k s (s.set k c):=⟨by simp,λj _ hj=>Ø (Ň hj)⟩
def Ex.app (k:Nat) (s:ag) (c:List Cell):Ex k s (s++c):=⟨by simp,λj hj _=>ä hj⟩
def bh.lt (h:bh s k):k<s.length:=by
 obtain⟨a,b,e,_⟩:=h;exact(Å.mp e).1
def bh.app (h:bh s k) (c:List Cell):bh (s++c) k:=by
 obtain⟨a,b,e,r⟩:=h;exact⟨a,b,by rw[ä (Å.mp e).1];exact e,r⟩
def bh.set (h:bh s k) (hj:j≠k) (c:Cell):bh (s.set j c) k:=by
 obtain⟨a,b,e,r⟩:=h;exact⟨a,b,by rw[Ø hj];exact e,r⟩
def Eg (x y:D) (k:Nat) (s:ag) (h:s[k]?=some (.lst [x,y])):ak (.aj k) (.int 0) s=ok x s:=by
 simp[ak,gU,res,h,dA,gn,bx]
def Eh (x y:D) (k:Nat) (s:ag) (h:s[k]?=some (.lst [x,y])):ak (.aj k) (.int 1) s=ok y s:=by
 simp[ak,gU,res,h,dA,gn,bx]
def K0 (x y z:D) (k:Nat) (s:ag) (h:s[k]?=some (.lst [x,y])):iA (.aj k) (.int 0) z s=some (s.set k (.lst [z,y])):=by
 simp[iA,h,gn]
def K1 (x y z:D) (k:Nat) (s:ag) (h:s[k]?=some (.lst [x,y])):iA (.aj k) (.int 1) z s=some (s.set k (.lst [x,z])):=by
 simp[iA,h,gn]
@[simp] theorem rg {a:D} {r:Env} {s:ag}:aa 0 (some a::r) s=ok a s:=rfl
@[simp] theorem rj {i:Nat} {a:Option D} {r:Env} {s:ag}:aa (i+1) (a::r) s=aa i r s:=rfl
def ltI (i j:Int) (s:ag):fR (.int i) (.int j) s=ok (.bl (decide (i<j))) s:=rfl
def zk (i j:Int) (s:ag):rR (.int i) (.int j) s=ok (.bl (decide (j<i))) s:=rfl
def Y0 (i j:Int) (s:ag):yx (.int i) (.int j) s=ok (.bl (decide (j<=i))) s:=rfl
def Y1 (i j:Int) (s:ag):kF (.int i) (.int j) s=ok (.bl (decide (i<=j))) s:=rfl
def C0 (i j:Int) (s:ag):bO (.int i) (.int j) s=ok (.int (i+j)) s:=rfl
def K2 (i j:Int) (s:ag):rq (.int i) (.int j) s=ok (.int (i-j)) s:=rfl
def LU (i j:Int) (s:ag):aT (.int i) (.int j) s=ok (.bl (i==j)) s:=rfl
def LV (i j:Int) (s:ag):gj (.int i) (.int j) s=ok (.bl (!(i==j))) s:=rfl
def rZ {i j:Int} (s:ag) (h:0<j):mv (.int i) (.int j) s=ok (.int (i % j)) s:=by
 simp[mv,CI,h,bx]
def K3 (s:ag) (h:0<j) (h2:j<1073741824):t6 (.int i) (.int j) s=ok (.int (i / j)) s:=by
 simp[t6,CJ,h,h2,bx]
def uF (s:ag) (h:t4 i j=true):hV (.int i) (.int j) s=ok (.int (i*j)) s:=by
 simp[hV,yw,h,bx]
def mulOk_of (h1:-(2 ^ 64)<i) (h2:i<2 ^ 64):t4 i j=true:=by
 unfold t4;rw[Ý h1,Ý h2];rfl
def dH (h:bh s k) (h1:0<m) (h2:m<1073741824):Wp (bG [.aj k,.int m] s) λd s'=>∃r:Int,d=.int r/\0<=r/\r<m/\bh s' k/\Ex k s s':=by
 obtain⟨a,b,e,ha,hb,iK⟩:=h;have hk:=(Å.mp e).1;by_cases h0:0<a
 ·have es:(s.set k (.lst [.int (a / m),.int b]))[k]?=some (.lst [.int (a / m),.int b]):=ã hk
  refine⟨.int (a % m),s.set k (.lst [.int (a / m),.int b]),?_,a % m,rfl,aa6 _ (by omega),aaa _ h1,⟨a / m,b,es,Int.ediv_nonneg ha (by omega),hb,iK⟩,Ex.set _ _ _⟩;simp only[bG,aS,ay,cc,aF,e2,rg,rj,eC,dI,Ö,İ,ċ,ģ,Eg _ _ k s e,zk,gg,å,î,Ý h0,û,aJ,gN,rZ s h1,ie,K3 s h1 h2,K0 _ _ _ k s e,aL,ï,ð,Ï]
 ·have hn:decide (0<a)=false:=ñ h0
  have ex:0<=(b*48271+29) % 2147483647/\(b*48271+29) % 2147483647<2147483647:=⟨aa6 _ (by decide),aaa _ (by decide)⟩;generalize hx:(b*48271+29) % 2147483647=x at ex;have es:(s.set k (.lst [.int a,.int x]))[k]?=some (.lst [.int a,.int x]):=ã hk;generalize hy:(x*x+39373*x+7) % 2147483629=y;have ey:0<=y/\y<2147483629:=by rw[<- hy];exact⟨aa6 _ (by decide),aaa _ (by decide)⟩
  generalize hz:(y*y+16807*y) % 2147483587=z;refine⟨.int (z / 8 % m),s.set k (.lst [.int a,.int x]),?_,_,rfl,aa6 _ (by omega),aaa _ h1,⟨a,x,es,ha,ex.1,ex.2⟩,Ex.set _ _ _⟩;have m1:hV (.int b) (.int 48271) s=ok (.int (b*48271)) s:=uF s (mulOk_of (by omega) (by omega));have m2:∀s',hV (.int x) (.int x) s'=ok (.int (x*x)) s':=λs'=>uF s' (mulOk_of (by omega) (by omega));have m3:∀s',hV (.int 39373) (.int x) s'=ok (.int (39373*x)) s':=λs'=>uF s' (mulOk_of (by decide) (by decide));have m4:∀s',hV (.int y) (.int y) s'=ok (.int (y*y)) s':=λs'=>uF s' (mulOk_of (by omega) (by omega));have m5:∀s',hV (.int 16807) (.int y) s'=ok (.int (16807*y)) s':=λs'=>uF s' (mulOk_of (by decide) (by decide));simp only[bG,aS,ay,cc,aF,e2,rg,rj,eC,dI,Ö,İ,ċ,ģ,Eg _ _ k s e,Eh _ _ k s e,zk,gg,å,î,hn,Ã,ê,û,bX,ie,m1,C0,rZ _ (show (0:Int)<2147483647 by decide),hx,K1 _ _ _ k s e,aJ,gN,Eh _ _ k _ es,m2,m3,
   rZ _ (show (0:Int)<2147483629 by decide),hy,ï,ð,Ï,m4,m5,rZ _ (show (0:Int)<2147483587 by decide),hz,aL,K3 _ (show (0:Int)<8 by decide) (by decide),rZ _ h1]
def le_size (h:n<=1000000):n<=Õ:=Û h (by decide)
def Ak (h1:-1000000<=j) (h2:j<=1000000):jM j=true:=by
 unfold jM;rw[Ý (show -(2 ^ 62)<=j by omega),Ý (show j<2 ^ 62 by omega)];rfl
def Hk {α:Type} {ds:List D} {r:Res α} (h:ds.length<=1000000):iT ds r=r:=Ú (le_size h)
def AN {α β:Type} (f:α->β) (xs:List α) (i:Int):dA (xs.map f) i=(dA xs i).map f:=by
 unfold dA;rw[Ä]
 cases gn xs.length i with
 |none=>rfl
 |some j=>simp
def nC {α:Type} {xs:List α} {i:Int} (h0:0<=i) (h1:i<xs.length):∃x,dA xs i=some x/\xs[i.toNat]?=some x:=by
 have hj:i.toNat<xs.length:=by omega
 refine⟨xs[i.toNat],?_,Ð hj⟩;unfold dA gn;rw[Ú h0,Ú h1];exact Ð hj
def SH {ns:List Int} {i:Int} {s:ag} (h0:0<=i):∃c:Int,sT [.bC ns,.int i] s=ok (.int c) s:=by
 by_cases h:i<(ns.length:Int)
 ·obtain⟨x,h1,_⟩:=nC h0 h
  refine⟨x,?_⟩;have hx:ak (.bC ns) (.int i) s=ok (.int x) s:=by simp[ak,gU,res,h1,bx]
  simp only[sT,aS,ay,cc,aF,e2,eB,ae,ah,bK,yy,res,bx,rg,rj,eC,dI,Ö,İ,ċ,ģ,å,î,û,ltI,gg,Ý h,aL,hx,Ï]
 ·refine⟨0,?_⟩
  simp only[sT,aS,ay,cc,aF,e2,eB,ae,ah,bK,yy,res,bx,rg,rj,eC,dI,Ö,İ,ċ,ģ,å,î,û,ltI,gg,ñ h,Ã,ê,bX,aL,Ï]
def QZ {ns:List Int} {i:Int} {s:ag} (h0:0<=i):Wp (wX [.bC ns,.int i] s) λd s'=>d=.aj s.length/\bh s' s.length/\∃c,s'=s++[c]:=by
 obtain⟨c,hc⟩:=SH (ns:=ns) (s:=s) h0;have hp:∀s,rA (.int 10) (.int 18) s=ok (.int (10 ^ 18)) s:=λs=>by
  have e:CK (.int 10) (.int 18)=some (.int (10 ^ 18)):=by
   show (if (decide ((0:Int)<=18)&&decide ((18:Int)<=1000000)&&decide ((10:Int).natAbs<2 ^ 64))=true then some (D.int (10 ^ (18:Int).toNat)) else none)=_
   rw[Ú (by decide)];rfl
  simp only[rA,e,bx]
 refine⟨.aj s.length,s++[.lst [.int (if c-10 ^ 18 > 0 then c-10 ^ 18 else 0),.int (c % 2147483647)]],?_,rfl,⟨_,_,by simp;exact⟨rfl,rfl⟩,?_,aa6 _ (by decide),aaa _ (by decide)⟩,_,rfl⟩
 ·simp only[wX,aS,ay,aJ,ax,ae,ah,rg,rj,eC,dI,Ö,İ,ċ,ģ,å,î,û,hc,jL,gN,ï,ð,Ï,aL,eNew,eB,rF,e2,hp,K2,rZ _ (show (0:Int)<2147483647 by decide)]
  rw[Hk (by simp)];rfl
 ·split<;>omega
structure dC (m:Nat) (ns:List Int):Prop where
 lo:∀x∈ns,0<=x/\x<m
 up:ns.Pairwise (· < ·)
noncomputable abbrev mD (ns:List Int):D:=.tup (ns.map D.int)
def dC.len (h:dC m ns):ns.length<=m:=by
 have key:∀(l:List Int) (b:Int),l.Pairwise (· < ·)->(∀x∈l,b<=x/\x<m)->(l.length:Int)<=m-b\/l=[]:=by
  intro l
  induction l with
  |nil=>intro b _ _;exact .inr rfl
  |cons x l ih =>
   intro b hp hb;obtain⟨h1,h2⟩:=Ă.mp hp;have hx:=hb x Ò;left
   rcases ih (x+1) h2 (λy hy=>⟨by have:=h1 y hy;omega,(hb y (Ñ _ hy)).2⟩) with h|h
   ·rw[å];omega
   ·subst h
    simp;omega
 rcases key ns 0 h.up h.lo with h'|h'
 ·omega
 ·subst h';simp
def Pt {k n:Nat} {w:Int} (h1:bh s1 k) (w0:0<=w) (w1:w<4):Wp (eT 1 (fQ [0,2] [some (.aj k),some (.int n),some (.int (1+w))]) (gN 0) (aF (e2 aT (ax bG (ae (aa 1) (ae (e2 bO (aa 2) (eC (.int 1))) ah))) (eC (.int 0)))) (aa 0) (bM 0 n) s1)
   λxs s'=>∃ns,xs=ns.map D.int/\dC n ns/\bh s' k/\Ex k s1 s':=by
 refine mi (λi acc s'=>∃ns:List Int,acc=ns.map D.int/\dC i ns/\bh s' k/\Ex k s1 s') (bM 0 n) ⟨[],rfl,⟨by simp,.nil⟩,h1,Ex.refl _ _⟩ (λi d acc s' hd hI=>?_) λacc s' hI=>?_
 ·obtain⟨ns,rfl,hm,h2,x2⟩:=hI
  rw[gA] at hd;split at hd
  ·cases hd
   refine⟨[some (.int (0+i)),some (.aj k),some (.int (1+w))],rfl,?_⟩;have ht:=dH h2 (m:=1+w+1) (by omega) (by omega);obtain⟨d,s3,e3,r,rfl,r0,r1,h3,x3⟩:=ht;have hb:aF (e2 aT (ax bG (ae (aa 1) (ae (e2 bO (aa 2) (eC (.int 1))) ah))) (eC (.int 0))) [some (.int (0+(i:Int))),some (.aj k),some (.int (1+w))] s'=ok (r==0) s3:=by
    simp only[aF,e2,ax,ae,ah,rg,rj,eC,dI,C0,e3,jL,LU,gg]
   refine Wp.of hb ?_;split
   ·refine Wp.ok ⟨ns++[0+(i:Int)],by simp,⟨λx hx=>?_,?_⟩,h3,x2.trans x3⟩
    ·rcases Ù.mp hx with hx|hx
     ·have:=hm.lo x hx;omega
     ·rw[Ü.mp hx];omega
    ·refine aay.mpr ⟨hm.up,by simp,λx hx y hy=>?_⟩
     rw[Ü.mp hy];have:=hm.lo x hx;omega
   ·exact⟨ns,rfl,⟨λx hx=>by have:=hm.lo x hx;omega,hm.up⟩,h3,x2.trans x3⟩
  ·cases hd
 ·rw[cg] at hI
  exact hI
def Q0 {nt:Nat} {cap:List Nat} {it:Env->ag->Res (List D)} {g:D->Env->Option Env} {t:Env->ag->Res Bool} {f:Env->ag->Res D} {env:Env} {s s1 s2:ag} {ds xs:List D} (h1:it env s=ok ds s1) (hl:ds.length<=1000000) (h2:eT nt (fQ cap env) g t f ds s1=ok xs s2):aU nt cap it g t f env s=ok (.lst xs) s2:=by
 unfold aU;rw[h1,dI,Hk hl,h2,dI]
def eh (h:fa env s=ok [.int n] s1) (hn:n<=1000000):bP fa env s=ok (bM 0 n) s1:=by
 unfold bP;rw[h,dI]
 show (if jM (n:Int)=true then ok (bM 0 (n:Int).toNat) s1 else none)=_
 rw[Ú (Ak (by omega) (by omega)),õ]
def xm {n:Nat} {i:Int} (h:fa env s=ok [.int i] s1) (hi:i=n) (hn:n<=1000000):bP fa env s=ok (bM 0 n) s1:=by
 subst hi;exact eh h hn
def JD (h:fa env s=ok [.int i,.int j] s1) (h1:-1000000<=i) (h2:i<=1000000) (h3:-1000000<=j) (h4:j<=1000000):vn fa env s=ok (bM i (j-i).toNat) s1:=by
 unfold vn;rw[h,dI]
 show (if (jM i&&jM j)=true then ok (bM i (j-i).toNat) s1 else none)=_
 rw[Ú (by rw[Ak h1 h2,Ak h3 h4];rfl)]
def wp_ltI:Wp (fR (.int i) (.int j) s) Q=Q (.bl (decide (i<j))) s:=by rw[ltI,wp_ok]
def wp_gtI:Wp (rR (.int i) (.int j) s) Q=Q (.bl (decide (j<i))) s:=by rw[zk,wp_ok]
def wp_geI:Wp (yx (.int i) (.int j) s) Q=Q (.bl (decide (j<=i))) s:=by rw[Y0,wp_ok]
def wp_leI:Wp (kF (.int i) (.int j) s) Q=Q (.bl (decide (i<=j))) s:=by rw[Y1,wp_ok]
def wp_addI:Wp (bO (.int i) (.int j) s) Q=Q (.int (i+j)) s:=by rw[C0,wp_ok]
def wp_subI:Wp (rq (.int i) (.int j) s) Q=Q (.int (i-j)) s:=by rw[K2,wp_ok]
def wp_eqI:Wp (aT (.int i) (.int j) s) Q=Q (.bl (i==j)) s:=by rw[LU,wp_ok]
def wp_neI:Wp (gj (.int i) (.int j) s) Q=Q (.bl (!(i==j))) s:=by rw[LV,wp_ok]
def Hl {k n:Nat} (h:bh s k) (hn:n<=8):Wp (tw [.aj k,.int n] s) λd s'=>∃ns,d=mD ns/\dC n ns/\bh s' k/\Ex k s s':=by
 unfold tw;simp only[wp_ok,wp_ok',wp_ne,wp_loc0,wp_locS,wp_C,wp_e1,wp_e2,wp_aNil,wp_aCons,wp_eB,wp_call,wp_tup,wp_lst,wp_new,wp_frz,wp_tBl,wp_isBl,wp_tru,wp_truB,wp_tAnd,wp_tOr,wp_tNot,wp_eAnd,wp_eOr,wp_eNot,wp_eIf,wp_eCh,wp_sNil,wp_sRet,wp_sExpr,wp_sCont,wp_sSeq,aft_nx,aft_rt,aft_ct,wp_sIf,wp_sAsg,asg_N,asg_T,asg_nil,asg_cons,wp_par2,par_of,wp_sFor,wp_sSub,wp_app,wp_fn,fin_rt,fin_nx,wp_comp,wp_sl,wp_pNo,Ö,İ,ċ,ģ,å,î,ï,ð,Ï,true_and,Nat.reduceSub,Nat.reduceAdd,wp_ltI,wp_gtI,wp_geI,wp_leI,wp_addI,wp_subI,wp_eqI,wp_neI];refine(dH h (by decide) (by decide)).mono λd s1 hd=>?_;obtain⟨w,rfl,w0,w1,h1,x1⟩:=hd;simp only[wp_ok,wp_ok',wp_ne,wp_loc0,wp_locS,wp_C,wp_e1,wp_e2,wp_aNil,wp_aCons,wp_eB,wp_call,wp_tup,wp_lst,wp_new,wp_frz,wp_tBl,wp_isBl,wp_tru,wp_truB,wp_tAnd,wp_tOr,wp_tNot,wp_eAnd,wp_eOr,wp_eNot,wp_eIf,wp_eCh,wp_sNil,wp_sRet,wp_sExpr,wp_sCont,wp_sSeq,aft_nx,aft_rt,aft_ct,wp_sIf,wp_sAsg,asg_N,asg_T,asg_nil,asg_cons,wp_par2,par_of,wp_sFor,wp_sSub,wp_app,wp_fn,fin_rt,fin_nx,wp_comp,wp_sl,wp_pNo,Ö,İ,ċ,ģ,å,î,ï,ð,Ï,true_and,Nat.reduceSub,Nat.reduceAdd,wp_ltI,wp_gtI,wp_geI,wp_leI,wp_addI,wp_subI,wp_eqI,wp_neI];refine Wp.of (eh rfl (by omega)) ⟨by rw[cg];exact le_size (by omega),(Pt h1 w0 w1).mono λxs s2 hx=>?_⟩;obtain⟨ns,rfl,hm,h2,x2⟩:=hx;exact Wp.of rfl ⟨ns,rfl,hm,h2,x1.trans x2⟩
end DI
local macro_rules | `(tactic| simp only[VC])=>`(tactic| simp only[DI.wp_ok,DI.wp_ok',DI.wp_ne,DI.wp_loc0,DI.wp_locS,DI.wp_C,DI.wp_e1,DI.wp_e2,DI.wp_aNil,DI.wp_aCons,DI.wp_eB,DI.wp_call,DI.wp_tup,DI.wp_lst,DI.wp_new,DI.wp_frz,DI.wp_tBl,DI.wp_isBl,DI.wp_tru,DI.wp_truB,DI.wp_tAnd,DI.wp_tOr,DI.wp_tNot,DI.wp_eAnd,DI.wp_eOr,DI.wp_eNot,DI.wp_eIf,DI.wp_eCh,DI.wp_sNil,DI.wp_sRet,DI.wp_sExpr,DI.wp_sCont,DI.wp_sSeq,DI.aft_nx,DI.aft_rt,DI.aft_ct,DI.wp_sIf,DI.wp_sAsg,DI.asg_N,DI.asg_T,DI.asg_nil,DI.asg_cons,DI.wp_par2,DI.par_of,DI.wp_sFor,DI.wp_sSub,DI.wp_app,DI.wp_fn,DI.fin_rt,DI.fin_nx,DI.wp_comp,DI.wp_sl,DI.wp_pNo,List.map_cons,List.map_nil,List.cons_append,List.nil_append,List.length_cons,List.length_nil,List.set_cons_succ,List.set_cons_zero,List.replicate,true_and,Nat.reduceSub,Nat.reduceAdd,DI.wp_ltI,DI.wp_gtI,DI.wp_geI,DI.wp_leI,DI.wp_addI,DI.wp_subI,DI.wp_eqI,DI.wp_neI])
local macro_rules | `(tactic| simp only[VC,$xs,*])=>`(tactic| simp only[DI.wp_ok,DI.wp_ok',DI.wp_ne,DI.wp_loc0,DI.wp_locS,DI.wp_C,DI.wp_e1,DI.wp_e2,DI.wp_aNil,DI.wp_aCons,DI.wp_eB,DI.wp_call,DI.wp_tup,DI.wp_lst,DI.wp_new,DI.wp_frz,DI.wp_tBl,DI.wp_isBl,DI.wp_tru,DI.wp_truB,DI.wp_tAnd,DI.wp_tOr,DI.wp_tNot,DI.wp_eAnd,DI.wp_eOr,DI.wp_eNot,DI.wp_eIf,DI.wp_eCh,DI.wp_sNil,DI.wp_sRet,DI.wp_sExpr,DI.wp_sCont,DI.wp_sSeq,DI.aft_nx,DI.aft_rt,DI.aft_ct,DI.wp_sIf,DI.wp_sAsg,DI.asg_N,DI.asg_T,DI.asg_nil,DI.asg_cons,DI.wp_par2,DI.par_of,DI.wp_sFor,DI.wp_sSub,DI.wp_app,DI.wp_fn,DI.fin_rt,DI.fin_nx,DI.wp_comp,DI.wp_sl,DI.wp_pNo,List.map_cons,List.map_nil,List.cons_append,List.nil_append,List.length_cons,List.length_nil,List.set_cons_succ,List.set_cons_zero,List.replicate,true_and,Nat.reduceSub,Nat.reduceAdd,DI.wp_ltI,DI.wp_gtI,DI.wp_geI,DI.wp_leI,DI.wp_addI,DI.wp_subI,DI.wp_eqI,DI.wp_neI,$xs,*])
namespace DI
open PySem L2
def Wp.eq {α:Type} {r:Res α} {d:α} {s:ag} (h:Wp r λa s'=>a=d/\s'=s):r=DI.ok d s:=by
 obtain⟨a,s',e,rfl,rfl⟩:=h;exact e
def iP {f:Env->ag->Res D} {env:Env} {s s1:ag} {ds:List D} (h:f env s=ok (.tup ds) s1):bj f env s=ok ds s1:=by
 unfold bj;rw[h];rfl
def il (h:f env s=ok (.lst ds) s1):bj f env s=ok ds s1:=by
 unfold bj;rw[h];rfl
def qE:∀(ns:List Int),cD (ns.map D.int)=true
 | []=>rfl
 |n::ns=>by simp only[Ö,cD,lay,qE ns,Ĥ]
def GB:∀(ns:List Int),cz (ns.map D.int)=0
 | []=>rfl
 |n::ns=>by simp only[Ö,cz,dep,GB ns,Nat.max_self]
def Il (x:Int) (ns:List Int):((ns.map D.int).any λy=>beq y (.int x))=decide (x∈ns):=by
 induction ns with
 |nil=>simp
 |cons n ns ih =>
  simp only[Ö,List.any_cons,ih,beq];by_cases h:n=x
  ·subst h;simp
  ·have h':¬ x=n:=λe=>h e.symm
   simp[h,h']
def oR {x:Int} {ns:List Int} {s:ag}:cv (.int x) (mD ns) s=ok (.bl (decide (x∈ns))) s:=by
 have hl:o9 100 (.int x) (ns.map D.int)=true:=by simp only[o9,lay,qE,dep,Ĥ,Ę,ę]
 have e:inD (.int x) (ns.map D.int)=some (decide (x∈ns)):=by unfold inD;rw[Ú hl,Il]
 unfold cv;rw[show nK (mD ns) s=some (ns.map D.int) from rfl];simp only[e];rfl
def Oj:fE (.int x) (mD ns) s=ok (.bl (!decide (x∈ns))) s:=by
 have hl:o9 100 (.int x) (ns.map D.int)=true:=by simp only[o9,lay,qE,dep,Ĥ,Ę,ę]
 have e:inD (.int x) (ns.map D.int)=some (decide (x∈ns)):=by unfold inD;rw[Ú hl,Il]
 unfold fE;rw[show nK (mD ns) s=some (ns.map D.int) from rfl];simp only[e];rfl
noncomputable def sub (a b:List Int):Bool:=a.all λx=>decide (x∈b)
def nh {α:Type} (p:α->Bool) (xs:List α) (s:ag):kG [.lst (xs.map λx=>D.bl (p x))] s=ok (.bl (xs.all p)) s:=by
 have e:iG (xs.map λx=>D.bl (p x))=some (xs.map p):=by
  have:=R8 (bs:=xs.map p);rw[Ē] at this;exact this
 show bx ((iG (xs.map λx=>D.bl (p x))).map λ(bs:List Bool)=>D.bl (bs.all id)) s=_;rw[e];show ok (D.bl ((xs.map p).all id)) s=_;rw[List.all_map];rfl
def filter_tt {α:Type} (xs:List α):xs.filter (λ_=>true)=xs:=by simp
def gZ {nt:Nat} {caps:Env} {g:D->Env->Option Env} {t:Env->ag->Res Bool} {f:Env->ag->Res D} {s:ag} (p:Int->Bool) (h:Int->D) (ns:List Int) (hh:∀n∈ns,∃env,g (.int n) (Ï nt none++caps)=some env/\t env s=ok (p n) s/\(p n=true->f env s=ok (h n) s)) :
  eT nt caps g t f (ns.map D.int) s=ok ((ns.filter p).map h) s:=by
 induction ns with
 |nil=>rfl
 |cons n ns ih =>
  obtain⟨env,h1,h2,h3⟩:=hh n Ò;have ih:=ih λn' h'=>hh n' (Ñ _ h');rw[Ö];unfold eT;rw[h1];simp only[h2,jL,dI]
  cases hp:p n with
  |true=>simp only[û,h3 hp,jL,dI,ih,ņ,hp,Ö]
  |false=>simp only[Ã,ê,ih,ņ,hp]
def comp_map {α:Type} (d:α->D) (p:α->Bool) (h:α->D) (xs:List α) (hh:∀x∈xs,∃env,g (d x) (Ï nt none++caps)=some env/\t env s=ok (p x) s/\(p x=true->f env s=ok (h x) s)) :
  eT nt caps g t f (xs.map d) s=ok ((xs.filter p).map h) s:=by
 induction xs with
 |nil=>rfl
 |cons n ns ih =>
  obtain⟨env,h1,h2,h3⟩:=hh n Ò;have ih:=ih λn' h'=>hh n' (Ñ _ h');rw[Ö];unfold eT;rw[h1];simp only[h2,jL,dI]
  cases hp:p n with
  |true=>simp only[û,h3 hp,jL,dI,ih,ņ,hp,Ö]
  |false=>simp only[Ã,ê,ih,ņ,hp]
def Pu:sQ [.int i] s=ok (.bl (decide (0<=i))) s:=by
 rfl
def qF:lu [.int i,.int m] s=ok (.bl (decide (0<=i)&&decide (i<m))) s:=by
 refine Wp.eq ?_;unfold lu;simp only[VC,Pu];by_cases h:0<=i
 ·simp[h]
 ·simp[h]
def Im:sY [.int i] s=ok (.bl (decide (0<=i)&&decide (i<8))) s:=by
 refine Wp.eq ?_;unfold sY;simp only[VC,qF,true_and]
def Hm (xs:List D):cutD xs (some 1) none=xs.drop 1:=by
 unfold cutD HT.aP
 cases xs with
 |nil=>simp
 |cons x xs =>
  simp only[å]
  have e:(if (1:Int)<0 then (1+((xs.length+1:Nat):Int)).toNat else min (1:Int).toNat (xs.length+1))=1:=by simp
  simp
noncomputable def rise:List Int->Bool
 | []=>true
 | [_]=>true
 |a::b::r=>decide (a<b)&&rise (b::r)
def SI (h:ns.Pairwise (· < ·)):rise ns=true:=by
 induction ns with
 |nil=>rfl
 |cons a ns ih =>
  cases ns with
  |nil=>rfl
  |cons b r =>
   obtain⟨h1,h2⟩:=Ă.mp h;simp only[rise,ih h2,ŗ];exact Ý (h1 b Ò)
def Hn:∀(ns:List Int),((ns.zip (ns.drop 1)).all λp=>decide (p.1<p.2))=rise ns
 | []=>rfl
 | [_]=>rfl
 |a::b::r=>by
  have ih:=Hn (b::r);simp only[List.drop_succ_cons,List.drop_zero,ı,List.all_cons,rise] at ih |-;rw[ih]
def Pw (xs ys:List Int):eV (xs.map D.int) (ys.map D.int)=(xs.zip ys).map λp=>D.tup [.int p.1,.int p.2]:=by
 unfold eV;rw[List.zip_map,Ē];rfl
def Ho (h:fa env s=ok [.tup xs,.tup ys] s1):kE fa env s=ok (eV xs ys) s1:=by
 unfold kE;rw[h];rfl
def Px (hl:ns.length<=1000000):oB [mD ns] s=ok (.bl (rise ns)) s:=by
 refine Wp.eq ?_;unfold oB;simp only[VC];have hz:kE (ae (aa 0) (ae (iI (aa 0) (iz (eC (.int 1))) iH) ah)) [some (mD ns)] s=ok (eV (ns.map D.int) ((ns.drop 1).map D.int)) s:=by
  refine Ho (Wp.eq ?_);simp only[VC];rw[lD (i:=1) rfl]
  try simp only[VC]
  refine Wp.of (show jh (mD ns) (some 1) none s=ok (.tup (cutD (ns.map D.int) (some 1) none)) s from rfl) ⟨?_,rfl⟩;rw[Hm,List.map_drop]
 refine Wp.of hz ⟨le_size (by rw[oH];simp only[Ä];omega),?_⟩;rw[Pw];refine Wp.of (comp_map (λp:Int×Int=>D.tup [.int p.1,.int p.2]) (λ_=>true) (λp=>.bl (decide (p.1<p.2))) _ λp _=>⟨[some (.int p.1),some (.int p.2)],rfl,rfl,λ_=>rfl⟩) ?_;rw[filter_tt];exact Wp.of (nh _ _ _) ⟨by rw[Hn],rfl⟩
structure aam (rs:List (List Int)):Prop where
 lo:1<=rs.length
 hi:rs.length<=10
 zl:∀r∈rs,dC 8 r
def xn (lo:Int) (n:Nat):bM lo n=(ß n).map λi:Nat=>D.int (lo+i):=rfl
def UR (rs:List (List Int)) (laid:List Int) (m:Int):Bool:=((ß laid.length).filter λi=>laid.getD i 0==m).all λi=>sub (rs.getD i []) (rs.getD laid.length [])
def oX {α:Type} (d:α->D) (p:α->Bool) (h:α->List D) (xs:List α) (hh:∀x∈xs,∃env,g (d x) pF=some env/\t env s=ok (p x) s/\(p x=true->act env s=ok (h x) s)) :
  jW g t act pF (xs.map d) s=ok ((xs.filter p).flatMap h) s:=by
 induction xs with
 |nil=>rfl
 |cons n ns ih =>
  obtain⟨env,h1,h2,h3⟩:=hh n Ò;have ih:=ih λn' h'=>hh n' (Ñ _ h');rw[Ö];unfold jW;rw[h1];simp only[h2,jL,dI]
  cases hp:p n with
  |true=>simp only[û,h3 hp,jL,dI,ih,ņ,hp,List.flatMap_cons]
  |false=>simp only[Ã,ê,ih,ņ,hp]
def Al :
  Wp (tO nt cap it gd c act env s) Q=Wp (it env s) λds s=>Wp (jW gd c act (Ï nt none++fQ cap env) ds s) λxs s=>xs.length<=Õ/\Q (.lst xs) s:=by
 unfold tO;simp only[bB,wp_ne,m9,wp_ok]
def step (rs:List (List Int)) (told:List (List Int)):List (List Int):=told.flatMap λlaid=>([0,1].filter λm=>UR rs laid m).map λm=>laid++[m]
def fL (h:a.length+b.length<=1000000):bO (mD a) (mD b) s=ok (mD (a++b)) s:=by
 have e:rP (mD a) (mD b)=some (mD (a++b)):=by
  show (if pL (a.map D.int) (b.map D.int)=true then some (D.tup (a.map D.int++b.map D.int)) else none)=_
  have hf:pL (a.map D.int) (b.map D.int)=true:=by
   unfold pL;rw[Ä,Ä];exact Ý (le_size h)
  rw[Ú hf];show some (D.tup (a.map D.int++b.map D.int))=some (D.tup ((a++b).map D.int));rw[č]
 show bx (rP (mD a) (mD b)) s=_;rw[e];rfl
open TK
noncomputable def markB (i:Int):Bool:=decide (0<=i)&&decide (i<8)
noncomputable def jI (i:Int):Bool:=decide (0<=i)&&decide (i<4)
noncomputable def kJ (i:Int):Bool:=decide (0<=i)&&decide (i<31)
def jJ (ns:List Int):Bool:=ns.all markB&&rise ns
noncomputable def ki (a b:List Int):Bool:=!(a.any λx=>decide (x∈b))
def dR:Pg->Bool
 | .made m d h l=>jI m&&kJ d&&(jJ h&&(jJ l&&ki h l))
 | .aO m d k=>jI m&&kJ d&&markB k
def jX:Pg->Prop
 | .made _ _ h l=>h.length<=1000/\l.length<=1000
 | .aO _ _ _=>True
def Q2:iG (bs.map D.bl)=some bs:=by
 induction bs with
 |nil=>rfl
 |cons b bs ih=>simp only[Ö,iG,ih];rfl
def Hq {α:Type} (p:α->Bool) (xs:List α) (s:ag):rT [.lst (xs.map λx=>D.bl (p x))] s=ok (.bl (xs.any p)) s:=by
 have e:iG (xs.map λx=>D.bl (p x))=some (xs.map p):=by
  have:=Q2 (bs:=xs.map p);rw[Ē] at this;exact this
 simp only[rT,res,e,bx,Ŏ,List.any_map,ŝ,id]
def Hr (hl:ns.length<=1000):sR [mD ns] s=ok (.bl (jJ ns)) s:=by
 refine Wp.eq ?_;unfold sR;simp only[VC];refine Wp.of (show ck [mD ns,.ty "tuple"] s=ok (.bl true) s from rfl) ?_;simp only[VC,û];refine Wp.of (iP rfl) ⟨le_size (by rw[Ä];omega),?_⟩;refine Wp.of (gZ (λ_=>true) (λx=>.bl (markB x)) ns λn _=>⟨[some (.int n)],rfl,rfl,λ_=>?_⟩) ?_
 ·refine Wp.eq ?_
  simp only[VC,Im,markB,true_and]
 ·rw[filter_tt]
  refine Wp.of (nh _ _ _) ?_;simp only[VC];unfold jJ
  cases e:ns.all markB with
  |true =>
   simp only[û,í];exact Wp.of (Px (by omega)) ⟨rfl,rfl⟩
  |false=>simp
def Am (ha:a.length<=1000):qB [mD a,mD b] s=ok (.bl (ki a b)) s:=by
 refine Wp.eq ?_;unfold qB;simp only[VC];refine Wp.of (iP rfl) ⟨le_size (by rw[Ä];omega),?_⟩;refine Wp.of (gZ (λ_=>true) (λx=>.bl (decide (x∈b))) a λn _=>⟨[some (.int n),some (mD b)],rfl,rfl,λ_=>?_⟩) ?_
 ·refine Wp.eq ?_
  simp only[VC,oR,true_and]
 ·rw[filter_tt]
  refine Wp.of (Hq _ _ _) ?_;simp only[VC];exact⟨rfl,trivial⟩
def Hs (h1:h.length<=1000) (h2:l.length<=1000):qD [.tup [mD h,mD l]] s=ok (.bl (jJ h&&(jJ l&&ki h l))) s:=by
 refine Wp.eq ?_;unfold qD;simp only[VC];refine Wp.of (show ck [.tup [mD h,mD l],.ty "tuple"] s=ok (.bl true) s from rfl) ?_;simp only[VC,ë,Ã,ê];refine Wp.of (show bK [.tup [mD h,mD l]] s=ok (.int 2) s from rfl) ?_;simp only[VC];simp only[VC,Ġ,ë,Ã,ê];refine Wp.of (Hr h1) ?_;simp only[VC]
 cases jJ h with
 |false=>simp
 |true =>
  simp only[û,í];refine Wp.of (Hr h2) ?_;simp only[VC]
  cases jJ l with
  |false=>simp
  |true =>
   simp only[û,í];exact Wp.of (Am h1) ⟨rfl,rfl⟩
def An:sV [.int i] s=ok (.bl (jI i)) s:=by
 refine Wp.eq ?_;unfold sV;simp only[VC,qF,jI,ğ]
def Bl:m8 [.int i] s=ok (.bl (kJ i)) s:=by
 refine Wp.eq ?_;unfold m8;simp only[VC,qF,kJ,ğ]
def jC:aT (.str x) (.str y) s=ok (.bl (decide (x=y))) s:=by
 show ok (D.bl (x==y)) s=_
 by_cases e:x=y<;>simp[e]
def Io:¬ (ì "made"=ì "mended"):=by decide +kernel
def tI:¬ (ì "mended"=ì "made"):=by decide +kernel
def SJ (hf:jX p):wM [p.d] s=ok (.bl (dR p)) s:=by
 refine Wp.eq ?_;unfold wM;have key:∀(a b c d:D),p.d=.tup [a,b,c,d]->ck [p.d,.ty "tuple"] s=ok (.bl true) s/\bK [p.d] s=ok (.int 4) s:=λa b c d e=>by rw[e];exact⟨rfl,rfl⟩
 cases p with
 |made m d h l =>
  obtain⟨k1,k2⟩:=key _ _ _ _ rfl;simp only[VC];refine Wp.of k1 ?_;simp only[VC,ë,Ã,ê];refine Wp.of k2 ?_;simp only[VC];simp only[VC,Ġ,ë,Ã,ê,Pg.d];refine Wp.of An ?_;simp only[VC,dR]
  cases jI m with
  |false=>simp[aft_rt,fin_rt,wp_sRet,wp_C]
  |true =>
   simp only[ë,Ã,ê,í];refine Wp.of Bl ?_;simp only[VC]
   cases kJ d with
   |false=>simp[aft_rt,fin_rt,wp_sRet,wp_C]
   |true =>
    simp only[VC,ë,Ã,ê,í];refine Wp.of jC ?_;simp only[VC,ę,û];exact Wp.of (Hs hf.1 hf.2) ⟨rfl,rfl⟩
 |aO m d k =>
  obtain⟨k1,k2⟩:=key _ _ _ _ rfl;simp only[VC];refine Wp.of k1 ?_;simp only[VC,ë,Ã,ê];refine Wp.of k2 ?_;simp only[VC];simp only[VC,Ġ,ë,Ã,ê,Pg.d];refine Wp.of An ?_;simp only[VC,dR]
  cases jI m with
  |false=>simp[aft_rt,fin_rt,wp_sRet,wp_C]
  |true =>
   simp only[ë,Ã,ê,í];refine Wp.of Bl ?_;simp only[VC]
   cases kJ d with
   |false=>simp[aft_rt,fin_rt,wp_sRet,wp_C]
   |true =>
    simp only[VC,ë,Ã,ê,í];refine Wp.of jC ?_;simp only[VC,ñ tI,Ã,ê];refine Wp.of jC ?_;simp only[VC,ę,û];exact Wp.of Im ⟨rfl,rfl⟩
abbrev bD (ps:List Pg):D:=.tup (ps.map Pg.d)
def US:fR p.d q.d s=ok (.bl (fj.lt p q)) s:=by
 unfold fR;rw[Ú (by rw[oV _ (kq p),oV _ (kq q)];simp only[Ĥ,í,È];have:=Bh p;omega),Kb];rfl
noncomputable def yg (ps:List Pg):Bool:=(ps.zip (ps.drop 1)).all λp=>fj.lt p.1 p.2
def Q3 (xs ys:List Pg):eV (xs.map Pg.d) (ys.map Pg.d)=(xs.zip ys).map λp=>D.tup [p.1.d,p.2.d]:=by
 unfold eV;rw[List.zip_map,Ē];rfl
def Ol (hl:ps.length<=1000):oB [bD ps] s=ok (.bl (yg ps)) s:=by
 refine Wp.eq ?_;unfold oB;simp only[VC];have hz:kE (ae (aa 0) (ae (iI (aa 0) (iz (eC (.int 1))) iH) ah)) [some (bD ps)] s=ok (eV (ps.map Pg.d) ((ps.drop 1).map Pg.d)) s:=by
  refine Ho (Wp.eq ?_);simp only[VC];rw[lD (i:=1) rfl]
  try simp only[VC]
  refine Wp.of (show jh (bD ps) (some 1) none s=ok (.tup (cutD (ps.map Pg.d) (some 1) none)) s from rfl) ⟨?_,rfl⟩;rw[Hm,List.map_drop]
 refine Wp.of hz ⟨le_size (by rw[oH];simp only[Ä];omega),?_⟩;rw[Q3];refine Wp.of (comp_map (λp:Pg×Pg=>D.tup [p.1.d,p.2.d]) (λ_=>true) (λp=>.bl (fj.lt p.1 p.2)) _ λp _=>⟨[some p.1.d,some p.2.d],rfl,rfl,λ_=>?_⟩) ?_
 ·refine Wp.eq ?_
  simp only[VC,US,ğ]
 rw[filter_tt];exact Wp.of (nh _ _ _) ⟨rfl,rfl⟩
def jl (ps:List Pg):Bool:=decide (ps.length<=24)&&(ps.all dR&&yg ps)
def SK (hl:ps.length<=1000) (hf:∀p∈ps,jX p):wG [bD ps] s=ok (.bl (jl ps)) s:=by
 refine Wp.eq ?_;unfold wG jl;simp only[VC];refine Wp.of (show ck [bD ps,.ty "tuple"] s=ok (.bl true) s from rfl) ?_;simp only[VC,û];refine Wp.of (show bK [bD ps] s=ok (.int ps.length) s from by show ok (D.int (ps.map Pg.d).length) s=_;rw[Ä]) ?_;simp only[VC];by_cases h:ps.length<=24
 ·have h':(ps.length:Int)<=24:=by omega
  simp only[h,h',ę,û,í];refine Wp.of (iP rfl) ⟨le_size (by rw[Ä];omega),?_⟩;refine Wp.of (comp_map Pg.d (λ_=>true) (λp=>.bl (dR p)) ps λp hp=>⟨[some p.d],rfl,rfl,λ_=>?_⟩) ?_
  ·refine Wp.eq ?_
   simp only[VC,SJ (hf p hp),ğ]
  ·rw[filter_tt]
   refine Wp.of (nh _ _ _) ?_;simp only[VC]
   cases ps.all dR with
   |false=>simp
   |true =>
    simp only[û,í];exact Wp.of (Ol hl) ⟨rfl,rfl⟩
 ·have h':¬ (ps.length:Int)<=24:=by omega
  simp[h,h']
noncomputable def _root_.TK.Pg.day:Pg->Int
 | .made _ d _ _=>d
 | .aO _ d _=>d
noncomputable def j6 (m k:Int):Pg->Bool
 | .made m' _ h _=>decide (m'=m)&&decide (k∈h)
 |_=>false
noncomputable def j7 (m k:Int):Pg->Bool
 | .made m' _ _ l=>decide (m'=m)&&decide (k∈l)
 |_=>false
noncomputable def ja (m k:Int):Pg->Bool
 | .aO m' _ k'=>decide (m'=m)&&decide (k'=k)
 |_=>false
def shown (ps:List Pg) (m k:Int):List Int:=(ps.filter (j6 m k)).map Pg.day
def cO (ps:List Pg) (m k:Int):List Int:=(ps.filter (j7 m k)).map Pg.day
def bR (ps:List Pg) (m k:Int):List Int:=(ps.filter (ja m k)).map Pg.day
noncomputable abbrev lI (ns:List Int):D:=.lst (ns.map D.int)
def fk (a b c d:D) (s:ag):ak (.tup [a,b,c,d]) (.int 0) s=ok a s/\ak (.tup [a,b,c,d]) (.int 1) s=ok b s/\ak (.tup [a,b,c,d]) (.int 2) s=ok c s/\ak (.tup [a,b,c,d]) (.int 3) s=ok d s:=⟨rfl,rfl,rfl,rfl⟩
def qr (a b:D) (s:ag):ak (.tup [a,b]) (.int 0) s=ok a s/\ak (.tup [a,b]) (.int 1) s=ok b s:=⟨rfl,rfl⟩
def qt (p:Pg) (s:ag):ak p.d (.int 1) s=ok (.int (match p with | .made m _ _ _=>m | .aO m _ _=>m)) s/\ak p.d (.int 2) s=ok (.int p.day) s:=by cases p<;>exact⟨rfl,rfl⟩
def xo (hl:ps.length<=1000):lr [bD ps,.int m,.int k,.int 0] s=ok (lI (shown ps m k)) s/\lr [bD ps,.int m,.int k,.int 1] s=ok (lI (cO ps m k)) s:=by
 constructor
 ·refine Wp.eq ?_
  unfold lr;simp only[VC];refine Wp.of (iP rfl) ⟨le_size (by rw[Ä];omega),?_⟩;refine Wp.of (comp_map Pg.d (j6 m k) (λp=>.int p.day) ps λp hp=>⟨[some p.d,some (.int m),some (.int k),some (.int 0)],rfl,?_,λ_=>?_⟩) ?_
  ·refine Wp.eq ?_
   cases p with
   |made m' d h l =>
    simp only[VC,Pg.d];rw[(fk _ _ _ _ s).1];simp only[VC,jC,ę,û];rw[(fk _ _ _ _ s).2.1];simp only[VC,j6];by_cases e:m'=m
    ·simp only[e,Ġ,û,ę,í]
     rw[(fk _ _ _ _ s).2.2.2];simp only[VC];rw[(qr _ _ s).1];simp only[VC];refine Wp.of (oR (ns:=h)) ?_;simp only[VC,ğ]
    ·simp[e]
   |aO m' d k' =>
    simp only[VC,Pg.d];rw[(fk _ _ _ _ s).1];simp only[VC,jC,ñ tI,Ã,ê,j6,ğ]
  ·refine Wp.eq ?_
   simp only[VC,(qt p s).2,ğ]
  ·simp only[shown,lI,Ē,ŝ,ğ]
 ·refine Wp.eq ?_
  unfold lr;simp only[VC];refine Wp.of (iP rfl) ⟨le_size (by rw[Ä];omega),?_⟩;refine Wp.of (comp_map Pg.d (j7 m k) (λp=>.int p.day) ps λp hp=>⟨[some p.d,some (.int m),some (.int k),some (.int 1)],rfl,?_,λ_=>?_⟩) ?_
  ·refine Wp.eq ?_
   cases p with
   |made m' d h l =>
    simp only[VC,Pg.d];rw[(fk _ _ _ _ s).1];simp only[VC,jC,ę,û];rw[(fk _ _ _ _ s).2.1];simp only[VC,j7];by_cases e:m'=m
    ·simp only[e,Ġ,û,ę,í]
     rw[(fk _ _ _ _ s).2.2.2];simp only[VC];rw[(qr _ _ s).2];simp only[VC];refine Wp.of (oR (ns:=l)) ?_;simp only[VC,ğ]
    ·simp[e]
   |aO m' d k' =>
    simp only[VC,Pg.d];rw[(fk _ _ _ _ s).1];simp only[VC,jC,ñ tI,Ã,ê,j7,ğ]
  ·refine Wp.eq ?_
   simp only[VC,(qt p s).2,ğ]
  ·simp only[cO,lI,Ē,ŝ,ğ]
def xp (hl:ps.length<=1000):oz [bD ps,.int m,.int k] s=ok (lI (bR ps m k)) s:=by
 refine Wp.eq ?_;unfold oz;simp only[VC];refine Wp.of (iP rfl) ⟨le_size (by rw[Ä];omega),?_⟩;refine Wp.of (comp_map Pg.d (ja m k) (λp=>.int p.day) ps λp hp=>⟨[some p.d,some (.int m),some (.int k)],rfl,?_,λ_=>?_⟩) ?_
 ·refine Wp.eq ?_
  cases p with
  |aO m' d k' =>
   simp only[VC,Pg.d];rw[(fk _ _ _ _ s).1];simp only[VC,jC,ę,û];rw[(fk _ _ _ _ s).2.1];simp only[VC,ja];by_cases e:m'=m
   ·simp only[e,Ġ,û,ę,í]
    rw[(fk _ _ _ _ s).2.2.2];simp only[VC]
    by_cases e:k'=k<;>simp[e]
   ·simp[e]
  |made m' d h l =>
   simp only[VC,Pg.d];rw[(fk _ _ _ _ s).1];simp only[VC,jC,ñ Io,Ã,ê,ja,ğ]
 ·refine Wp.eq ?_
  simp only[VC,(qt p s).2,ğ]
 ·simp only[bR,lI,Ē,ŝ,ğ]
def hU (h:n<=1000):n<=Õ:=le_size (by omega)
def rH:cv (.int x) (lI ns) s=ok (.bl (decide (x∈ns))) s:=by
 show cv (.int x) (mD ns) s=_;exact oR
def oM:fE (.int x) (lI ns) s=ok (.bl (!decide (x∈ns))) s:=by
 show fE (.int x) (mD ns) s=_;exact Oj
noncomputable def pQ (ds:List Int) (a b:Int):Bool:=ds.any λx=>decide (a<x)&&decide (x<=b)
def GC (hl:ds.length<=1000):sM [lI ds,.int a,.int b] s=ok (.bl (pQ ds a b)) s:=by
 refine Wp.eq ?_;unfold sM;simp only[VC];refine Wp.of (il rfl) ⟨hU (by rw[Ä];omega),?_⟩;refine Wp.of (gZ (λ_=>true) (λx=>.bl (decide (a<x)&&decide (x<=b))) ds λn _=>⟨[some (.int n),some (.int a),some (.int b)],rfl,rfl,λ_=>?_⟩) ?_
 ·refine Wp.eq ?_
  simp only[VC]
  by_cases e:a<n<;>simp[e,wp_ok,wp_leI,wp_locS,wp_loc0]
 ·rw[filter_tt]
  exact Wp.of (Hq _ _ _) ⟨rfl,rfl⟩
def lg (ps:List Pg) (m k d l:Int):Bool:=(decide (l∈cO ps m k)||(decide (l=d)&&decide (d∈bR ps m k)))&&!pQ (bR ps m k) d l
noncomputable def oY (d:Int):List Int:=(ß (31-d).toNat).map λi:Nat=>d+(i:Int)
def kj (ps:List Pg) (m k:Int):List (Int×Int):=(gF (shown ps m k)).flatMap λd=>((oY d).filter (lg ps m k d)).map λl=>(d,l)
def tB {ps:List Pg} {f:Pg->Bool}:((ps.filter f).map Pg.day).length<=ps.length:=by rw[Ä];exact Ķ _ _
def qJ {α β:Type} {f:α->List β} {b:Nat}:∀{l:List α},(∀x∈l,(f x).length<=b)->(l.flatMap f).length<=l.length*b
 | [],_=>by simp
 |x::l,h=>by
  rw[List.flatMap_cons,â,å,Nat.succ_mul];have h1:=h x Ò;have h2:=qJ (l:=l) λy hy=>h y (Ñ _ hy);omega
def F3 (d:Int) (h:0<=d):(oY d).length<=31:=by unfold oY;rw[Ä,ľ];omega
structure nW (ps:List Pg):Prop where
 len:ps.length<=24
 lo:∀p∈ps,0<=p.day/\p.day<31
def nW.of (h:nW ps) (hx:x∈(ps.filter f).map Pg.day):0<=x/\x<31:=by
 obtain⟨p,hp,rfl⟩:=ö.mp hx;exact h.lo p (ć.mp hp).1
def GD (l:List Int):(gF l).length<=l.length:=by
 induction l with
 |nil=>exact Nat.le_refl _
 |cons x l ih =>
  have:(gF (x::l)).length<=(gF l).length+1:=by
   show (lP x (gF l)).length<=_;generalize gF l=m
   induction m with
   |nil=>exact Nat.le_refl _
   |cons y m ih2 =>
    unfold lP;split
    ·simp
    ·split
     ·simp
     ·simp only[å];omega
  simp only[å];omega
def Om {ps:List Pg} {m k:Int} {s:ag} (h:nW ps):sZ [bD ps,.int m,.int k] s=ok (.lst ((kj ps m k).map λp=>D.tup [.int p.1,.int p.2])) s:=by
 have hl:=h.len;have l1:(shown ps m k).length<=24:=Û tB hl;have l2:(cO ps m k).length<=24:=Û tB hl;have l3:(bR ps m k).length<=24:=Û tB hl;refine Wp.eq ?_;unfold sZ;simp only[VC];refine Wp.of (xo (by omega)).2 ?_;refine Wp.of (xp (by omega)) ?_;rw[Al];have hs:bj (e1 qG (ax lr (ae (aa 0) (ae (aa 1) (ae (aa 2) (ae (eC (.int (0))) ah)))))) [some (bD ps),some (.int m),some (.int k),some (lI (cO ps m k)),some (lI (bR ps m k))] s=ok ((gF (shown ps m k)).map D.int) s:=by
  refine il (Wp.eq ?_);simp only[VC];refine Wp.of (xo (by omega)).1 ?_;refine Wp.of (show qG (lI (shown ps m k)) s=ok (lI (gF (shown ps m k))) s from ?_) ⟨rfl,rfl⟩;unfold qG;simp only[OX];rw[Ú (by rw[È];omega)]
 refine Wp.of hs ?_;have day:∀d∈gF (shown ps m k),0<=d/\d<31:=λd hd=>h.of (oG.mp hd);refine Wp.of (oX D.int (λ_=>true) (λd=>((oY d).filter (lg ps m k d)).map λl=>D.tup [.int d,.int l]) _ λd hd=>⟨[some (.int d),none,some (lI (cO ps m k)),some (lI (bR ps m k))],rfl,rfl,λ_=>?_⟩) ?_
 ·have hd:=day d hd
  unfold more;rw[JD (i:=d) (j:=31) rfl (by omega) (by omega) (by omega) (by omega),dI];have er:bM d (31-d).toNat=(oY d).map D.int:=by unfold oY;rw[xn,Ē];rfl
  rw[er];rw[oX D.int (lg ps m k d) (λl=>[D.tup [.int d,.int l]]) (oY d) λl hl=>⟨[some (.int d),some (.int l),some (lI (cO ps m k)),some (lI (bR ps m k))],rfl,?_,λ_=>?_⟩]
  ·rw[<- abY]
  ·refine Wp.eq ?_
   simp only[VC,rH];unfold lg;have LW:=GC (ds:=bR ps m k) (a:=d) (b:=l) (s:=s) (by omega);by_cases c1:l∈cO ps m k
   ·simp only[VC,c1,ę,û,Bool.true_or,í]
    exact Wp.of LW (by simp only[VC,ğ])
   ·simp only[c1,ab2,Ã,ê,abM]
    by_cases c2:l=d
    ·subst c2
     simp only[VC,Ġ,û,ę,í];by_cases c3:l∈bR ps m k
     ·simp only[c3,ę,û,í]
      exact Wp.of LW (by simp only[VC,ğ])
     ·simp[c3]
    ·simp[c2]
  ·refine Wp.eq ?_
   unfold emit;rw[bB];simp only[VC];exact⟨by decide,trivial⟩
 ·rw[filter_tt]
  refine⟨?_,?_,rfl⟩
  ·refine hU (Û (qJ (b:=31) λd hd=>?_) ?_)
   ·rw[Ä]
    exact Û (Ķ _ _) (F3 d (day d hd).1)
   ·have:=GD (shown ps m k)
    have:(gF (shown ps m k)).length<=24:=by omega
    omega
  ·unfold kj
   simp only[List.map_flatMap,Ē,ŝ]
noncomputable def m4:List Int:=(ß 4).map λi:Nat=>(i:Int)
noncomputable def k8:List Int:=(ß 8).map λi:Nat=>(i:Int)
def jj (ps:List Pg):List (Int×Int×Int×Int):=m4.flatMap λm=>k8.flatMap λk=>(kj ps m k).map λp=>(m,k,p.1,p.2)
noncomputable def fD (p:Int×Int×Int×Int):D:=.tup [.int p.1,.int p.2.1,.int p.2.2.1,.int p.2.2.2]
theorem Py {ps:List Pg} (h:nW ps) (m k:Int):(kj ps m k).length<=744:=by
 have l1:(shown ps m k).length<=24:=Û tB h.len;have:=GD (shown ps m k);refine Û (qJ (b:=31) λd hd=>?_) (by omega);rw[Ä];exact Û (Ķ _ _) (F3 d (h.of (oG.mp hd)).1)
def GF {ps:List Pg} {s:ag} (h:nW ps):sS [bD ps] s=ok (.lst ((jj ps).map fD)) s:=by
 refine Wp.eq ?_;unfold sS;simp only[wp_fn,wp_sRet,fin_rt,Ö,İ,ċ,ģ,å,î,Ï,true_and,Nat.reduceSub,Nat.reduceAdd];rw[Al];refine Wp.of (eh (n:=4) rfl (by decide)) ?_;have e4:bM 0 4=m4.map D.int:=rfl;have e8:bM 0 8=k8.map D.int:=rfl;rw[e4];refine Wp.of (oX D.int (λ_=>true) (λm=>k8.flatMap λk=>(kj ps m k).map λp=>fD (m,k,p.1,p.2)) m4 λm hm=>⟨[some (.int m),none,none,none,some (bD ps)],rfl,rfl,λ_=>?_⟩) ?_
 ·unfold more
  rw[eh (n:=8) rfl (by decide),dI,e8];rw[oX D.int (λ_=>true) (λk=>(kj ps m k).map λp=>fD (m,k,p.1,p.2)) k8 λk hk=>⟨[some (.int m),some (.int k),none,none,some (bD ps)],rfl,rfl,λ_=>?_⟩]
  ·rw[filter_tt]
  ·have hi:bj (ax sZ (ae (aa 4) (ae (aa 0) (ae (aa 1) ah)))) [some (.int m),some (.int k),none,none,some (bD ps)] s=ok ((kj ps m k).map λp=>D.tup [.int p.1,.int p.2]) s:=by
    refine il (Wp.eq ?_);simp only[VC];exact Wp.of (Om h) ⟨rfl,rfl⟩
   rw[hi,dI];rw[oX (λp:Int×Int=>D.tup [.int p.1,.int p.2]) (λ_=>true) (λp=>[fD (m,k,p.1,p.2)]) (kj ps m k) λp hp=>⟨[some (.int m),some (.int k),some (.int p.1),some (.int p.2),some (bD ps)],rfl,rfl,λ_=>?_⟩]
   ·rw[filter_tt,<- abY]
   ·refine Wp.eq ?_
    unfold emit;rw[bB];simp only[VC];exact⟨by decide,rfl,trivial⟩
 ·rw[filter_tt]
  refine⟨?_,?_,rfl⟩
  ·refine le_size (Û (qJ (b:=8*744) λm hm=>?_) (by decide))
   refine Û (qJ (b:=744) λk hk=>?_) (by decide);rw[Ä];exact Py h m k
  ·unfold jj
   simp only[List.map_flatMap,Ē,ŝ]
def eG (ps:List Pg):Bool:=jl ps&&(jj ps).isEmpty
def GH (h:jl ps=true):nW ps:=by
 unfold jl at h;simp only[Ç,È,ý] at h;refine⟨h.1,λp hp=>?_⟩;have:=h.2.1 p hp
 cases p<;>simp only[dR,kJ,Ç,È] at this<;>exact this.1.2
def SM (hl:ps.length<=1000) (hf:∀p∈ps,jX p):wN [bD ps] s=ok (.bl (eG ps)) s:=by
 refine Wp.eq ?_;unfold wN;simp only[VC];refine Wp.of (SK hl hf) ?_;simp only[VC];unfold eG
 cases h:jl ps with
 |false=>simp
 |true =>
  simp only[û,í];unfold BN;simp only[VC,bB];refine Wp.of (GF (GH h)) ?_;refine Wp.of (show truth (.lst ((jj ps).map fD)) s=ok (!((jj ps).map fD).isEmpty) s from rfl) ?_;simp only[wp_ok];refine⟨?_,trivial⟩
  cases jj ps<;>rfl
def Bm:m∈m4↔0<=m/\m<4:=by
 unfold m4;rw[ö];constructor
 ·rintro ⟨i,hi,rfl⟩
  have:=Ā.mp hi;omega
 ·rintro ⟨h1,h2⟩
  exact⟨m.toNat,Ā.mpr (by omega),by omega⟩
def rl:m∈k8↔0<=m/\m<8:=by
 unfold k8;rw[ö];constructor
 ·rintro ⟨i,hi,rfl⟩
  have:=Ā.mp hi;omega
 ·rintro ⟨h1,h2⟩
  exact⟨m.toNat,Ā.mpr (by omega),by omega⟩
def Q4 (h:eG ps=true) (hm:0<=m/\m<4) (hk:0<=k/\k<8) (hd:d∈shown ps m k) (h1:d<=l) (h2:l<31):lg ps m k d l=false:=by
 unfold eG at h;rw[Ç,abF] at h
 cases hc:lg ps m k d l with
 |false=>rfl
 |true =>
  exfalso;have jz:(d,l)∈kj ps m k:=by
   refine Ŭ.mpr ⟨d,oG.mpr hd,ö.mpr ⟨l,ć.mpr ⟨?_,hc⟩,rfl⟩⟩;exact ö.mpr ⟨(l-d).toNat,Ā.mpr (by omega),by omega⟩
  have:(m,k,d,l)∈jj ps:=Ŭ.mpr ⟨m,Bm.mpr hm,Ŭ.mpr ⟨k,rl.mpr hk,ö.mpr ⟨(d,l),jz,rfl⟩⟩⟩;rw[h.2] at this;cases this
def Ip:∀{ns:List Int},rise ns=true->ns.Pairwise (· < ·)
 | [],_=>.nil
 | [a],_=>by simp
 |a::b::r,h=>by
  simp only[rise,Ç,È] at h;have ih:=Ip h.2;refine Ă.mpr ⟨λx hx=>?_,ih⟩
  rcases Ó.mp hx with rfl|hx
  ·exact h.1
  ·have:=(Ă.mp ih).1 x hx
   omega
def wI (h:jJ ns=true):dC 8 ns:=by
 unfold jJ at h;rw[Ç,ý] at h;refine⟨λx hx=>?_,Ip h.2⟩;have:=h.1 x hx;unfold markB at this;simp only[Ç,È] at this;exact this
def wJ (h:dC n ns) (hn:n<=8):jJ ns=true:=by
 unfold jJ;rw[Ç,ý];refine⟨λx hx=>?_,SI h.up⟩;have:=h.lo x hx;unfold markB;simp only[Ç,È];omega
def dC.filter (h:dC n ns) (p:Int->Bool):dC n (ns.filter p):=⟨λx hx=>h.lo x (ć.mp hx).1,h.up.filter p⟩
def Pz (hm:0<=m/\m<4) (hd:0<=d/\d<31) (hk:0<=k/\k<8):dR (.aO m d k)=true:=by
 simp only[dR,jI,kJ,markB,Ç,È];omega
def PB (hm:0<=m/\m<4) (hd:0<=d/\d<31) (h1:dC n h) (h2:dC n l) (hn:n<=8) (ha:∀x∈h,x∉l):dR (.made m d h l)=true:=by
 simp only[dR,jI,kJ,Ç,È,ki,ē,aaw];exact⟨⟨hm,hd⟩,wJ h1 hn,wJ h2 hn,ha⟩
def fB (W:ď) (R:Pg->Prop) (s:ag) (j n:Nat):Prop:=∃ps:List Pg,s[j]?=some (.dT (ps.map λp=>(p.d,hs W p.d)))/\(ps.Nodup/\∀p∈ps,R p)/\ps.length<=n
def fB.lt (h:fB W R s j n):j<s.length:=by
 obtain⟨ps,e,_⟩:=h;exact(Å.mp e).1
def fB.ex (h:fB W R s j n) (x:Ex k s s') (hj:j≠k):fB W R s' j n:=by
 have hl:=h.lt;obtain⟨ps,e,r⟩:=h;exact⟨ps,(x.val j hl hj).trans e,r⟩
def fB.more (h:fB W R s j n) (hm:n<=m):fB W R s j m:=by
 obtain⟨ps,e,r,l⟩:=h;exact⟨ps,e,r,by omega⟩
def fB.app (h:fB W R s j n) (c:List Cell):fB W R (s++c) j n:=by
 have hl:=h.lt;obtain⟨ps,e,r⟩:=h;exact⟨ps,by rw[ä hl];exact e,r⟩
def fB.set (h:fB W R s j n) (hi:i≠j) (c:Cell):fB W R (s.set i c) j n:=by
 obtain⟨ps,e,r⟩:=h;exact⟨ps,by rw[Ø hi];exact e,r⟩
def fB.mono (h:fB W R s j n) (hR:∀p,R p->R' p):fB W R' s j n:=by
 obtain⟨ps,e,r,l⟩:=h;exact⟨ps,e,⟨r.1,λp hp=>hR p (r.2 p hp)⟩,l⟩
def Ex.qu (h:Ex k s s') (hj:s.length<=j) (c:Cell):Ex k s (s'.set j c) :=
 ⟨by rw[Ĝ];exact h.len,λi hi hk=>by rw[Ø (by omega)];exact h.val i hi hk⟩
def ke (p:Pg):∃ks,p.d=.tup ks/\cV ks=true/\cz ks<=6:=by
 have h1:=kq p;have h2:=Bh p;obtain⟨x,r,e⟩:=Hf p;rw[e] at h1 h2;simp only[kd,dep] at h1 h2;exact⟨_,e,h1,by omega⟩
def JE (W:ď) (ps:List Pg):(ps.map λp=>(p.d,hs W p.d)).all (keyOk W)=true:=by
 rw[List.all_map,ý];intro p _;obtain⟨ks,e,h1,h2⟩:=ke p;simp only[Function.comp,keyOk];rw[e];simp only[h1,Ý h2,ę,Ĥ]
def UT (h:fB W R s j n) (hf:R p) (hn:n<1000):∃c,kI W (.aj j) p.d (.bl true) s=some (s.set j c)/\fB W R (s.set j c) j (n+1):=by
 have hl:=h.lt;obtain⟨ps,e,cu,len⟩:=h;obtain⟨ks,ep,k1,k2⟩:=ke p;have uG:=JE W ps;generalize hk:(ps.map λp=>(p.d,hs W p.d))=ai at e uG;have kl:ai.length=ps.length:=by rw[<- hk,Ä]
 refine⟨.dT (TK.fL W ai (.tup ks)),?_,?_⟩
 ·rw[ep]
  unfold kI;simp only[e];rw[Ú];rw[k1,Ý k2,uG,Ý (Ê (show ai.length<1000 by omega) (le_size (by decide)))];rfl
 ·unfold TK.fL
  split
  ·exact⟨ps,by rw[hk];exact ã hl,cu,by omega⟩
  ·rename_i mH
   refine⟨ps++[p],?_,⟨aav.mpr ⟨cu.1,by simp,λa ha b hb=>?_⟩,λq hq=>?_⟩,by simp;omega⟩
   ·rw[ã hl,č,hk]
    simp only[Ö,İ,ep]
   ·rw[Ü.mp hb]
    rintro rfl;refine mH (Ņ.mpr ⟨(a.d,hs W a.d),?_,?_⟩)
    ·rw[<- hk];exact ö.mpr ⟨a,ha,rfl⟩
    ·rw[<- ep];exact(qZ _ _ (kq a) (kq a)).mpr rfl
   ·rcases Ù.mp hq with hq|hq
    ·exact cu.2 q hq
    ·rw[Ü.mp hq];exact hf
def Iq:Wp (my W f fo fi env s) QF=Wp (f env s) λx s=>Wp (fo env s) λd s=>Wp (fi env s) λn s=>∃s',kI W d n x s=some s'/\QF (.nx env) s':=by
 unfold my;simp only[bB];congr 1;funext x s;congr 1;funext d s;congr 1;funext n s
 cases kI W d n x s with
 |none=>exact propext ⟨λ⟨_,_,e,_⟩=>(by cases e),λ⟨_,e,_⟩=>(by cases e)⟩
 |some s'=>exact propext ⟨λh=>⟨s',rfl,by simpa only [wp_ok] using h⟩,λ⟨t,e,h⟩=>by cases e;simpa only [wp_ok] using h⟩
def SN:Wp (xY env s) Q=Q (.aj s.length) (s++[.dT []]):=by unfold xY;rw[wp_ok]
def Ir:∀{ps:List Pg},ps.Pairwise (λa b=>fj.lt a b=true)->yg ps=true
 | [],_=>rfl
 | [a],_=>rfl
 |a::b::r,h=>by
  obtain⟨h1,h2⟩:=Ă.mp h;have ih:=Ir h2;unfold yg at ih |-;simp only[List.drop_succ_cons,List.drop_zero,ı,List.all_cons,Ç] at ih |-;exact⟨h1 b Ò,ih⟩
def Q5 (h:ps.Nodup):(ST.jO fj ps).Pairwise λa b=>fj.lt a b=true:=by
 have h1:=ST.G9 (O:=fj) ps;have h2:(ST.jO fj ps).Nodup:=(ST.sU ps).nodup_iff.mpr h;refine(h1.and h2).imp λ{a b} vf=>?_
 cases hl:fj.lt a b with
 |true=>rfl
 |false=>exact(vf.2 (fj.vN a b hl vf.1)).elim
def Wp.V9 (h:Wp (fa env s) λds s=>∃x y z,ds=[x,y,z]/\QF (.nx (((env.set i (some x)).set j (some y)).set k (some z))) s):Wp (yC i j k fa env s) QF:=by
 unfold yC;refine Wp.ao (h.mono λds s ⟨x,y,z,e,q⟩=>?_);subst e;exact Wp.ok q
abbrev Y2 (p:Pg):Prop:=dR p=true
structure Laid (ps:List Pg):Prop where
 pg:∀p∈ps,dR p=true
 up:ps.Pairwise λa b=>fj.lt a b=true
def Laid.jl (h:Laid ps) (hl:ps.length<=24):jl ps=true:=by
 unfold DI.jl;rw[Ý hl,ý.mpr h.pg,Ir h.up];rfl
def Laid.sub (h:Laid ps) (hs:qs.Sublist ps):Laid qs:=⟨λp hp=>h.pg p (hs.subset hp),h.up.sublist hs⟩
def iL (s:ag) (j n:Nat):Prop:=∃ns:List Int,s[j]?=some (.lst (ns.map D.int))/\ns.length<=n
def iL.lt (h:iL s j n):j<s.length:=by
 obtain⟨ps,e,_⟩:=h;exact(Å.mp e).1
def iL.ex (h:iL s j n) (x:Ex k s s') (hj:j≠k):iL s' j n:=by
 have hl:=h.lt;obtain⟨ps,e,r⟩:=h;exact⟨ps,(x.val j hl hj).trans e,r⟩
def iL.set (h:iL s j n) (hi:i≠j) (c:Cell):iL (s.set i c) j n:=by
 obtain⟨ps,e,r⟩:=h;exact⟨ps,by rw[Ø hi];exact e,r⟩
def iL.app (h:iL s j n) (c:List Cell):iL (s++c) j n:=by
 have hl:=h.lt;obtain⟨ps,e,r⟩:=h;exact⟨ps,by rw[ä hl];exact e,r⟩
structure Lf (md:List Int) (b:Bool) (n:Nat) (ns:List Int):Prop where
 len:ns.length<=n
 lo:∀d∈ns,0<=d/\d<n/\d∉md
 on:∀d∈ns,d+1<n->d+1∉md->d+1∈ns
 la:0<n->(n:Int)-1∈ns->b=true
def Lf.put (h:Lf md b n ns) (hn:(n:Int)∉md):Lf md true (n+1) (ns++[(n:Int)]):=by
 refine⟨by rw[â,abx];have:=h.len;omega,λd hd=>?_,λd hd h1 h2=>?_,λ_ _=>rfl⟩
 ·rcases Ù.mp hd with hd|hd
  ·have:=h.lo d hd
   exact⟨this.1,by omega,this.2.2⟩
  ·rw[Ü.mp hd]
   exact⟨by omega,by omega,hn⟩
 ·rcases Ù.mp hd with hd|hd
  ·by_cases e:d+1=n
   ·exact Ù.mpr (.inr (Ü.mpr e))
   ·exact Ù.mpr (.inl (h.on d hd (by omega) h2))
  ·rw[Ü.mp hd] at h1
   omega
def Lf.pass (h:Lf md b n ns) (hn:b=true->(n:Int)∈md):Lf md false (n+1) ns:=by
 refine⟨by have:=h.len;omega,λd hd=>?_,λd hd h1 h2=>?_,λ_ hd=>?_⟩
 ·have:=h.lo d hd
  exact⟨this.1,by omega,this.2.2⟩
 ·by_cases e:d+1=n
  ·exfalso
   have d0:=(h.lo d hd).1;have:=h.la (by omega) (by rw[show (n:Int)-1=d by omega];exact hd);exact h2 (by rw[e];exact hn this)
  ·exact h.on d hd (by omega) h2
 ·have:=h.lo _ hd
  omega
def GI {j:Nat} {x:Int} {ns:List Int} (e:s[j]?=some (.lst (ns.map D.int))):fE (.int x) (.aj j) s=ok (.bl (!decide (x∈ns))) s:=by
 have h2:fE (.int x) (.aj j) s=fE (.int x) (lI ns) s:=by simp only[fE,nK,res,e]
 exact h2.trans oM
def Iu (e:s[j]?=some (.lst (ns.map D.int))) (hn:ns.length<1000):iY (.aj j) s=true/\iX (.aj j) (.int x) s=ok .au (s.set j (.lst ((ns++[x]).map D.int))):=by
 refine⟨by simp only[iY,e],?_⟩;unfold iX;simp only[e];rw[Ú (by rw[È,Ä];exact Ê hn (le_size (by decide)))];simp
def PC {k m:Nat} {md:List Int} (h:bh s k) (hm:s[m]?=some (.lst (md.map D.int))) (LX:m≠k):Wp (qI [.aj k,.aj m] s) λd s'=>∃(ds:List Int) (b:Bool),d=lI ds/\Lf md b 31 ds/\bh s' k/\Ex k s s':=by
 unfold qI;rw[wp_fn];refine⟨rfl,?_⟩;rw[wp_sSeq];refine Wp.V9 ?_
 try simp only[VC]
 refine(dH h (by decide) (by decide)).mono λd t1 qv=>?_;obtain⟨x1,rfl,sE,sF,h1,e1⟩:=qv
 try simp only[VC]
 refine⟨by decide,?_⟩;have qw:t1.length≠k:=by have:=h1.lt;omega
 refine(dH (h1.app _) (by decide) (by decide)).mono λd t2 hd2=>?_;obtain⟨x2,rfl,Ei,Ej,h2,e2⟩:=hd2
 try simp only[VC]
 refine⟨_,_,_,rfl,?_⟩
 try simp only[VC]
 have LY:Ex k s t2:=e1.trans ((Ex.app k t1 _).trans e2);have i2:t2[t1.length]?=some (.lst (([]:List Int).map D.int)):=(e2.val t1.length (by simp) qw).trans (by simp);have hlen:s.length<=t1.length:=e1.len;refine Wp.of (eh (n:=31) rfl (by decide)) ?_;have Y3:=(Å.mp hm).1;have Y4:m≠t1.length:=by omega
 refine Wp.iZ (λi env s'=>i<=31->∃b a5 ns,env=[some (.aj k),some (.aj m),some (.bl b),some (.aj t1.length),some (.int (2+x2)),a5]/\bh s' k/\s'[t1.length]?=some (.lst (ns.map D.int))/\Lf md b i ns/\s'[m]?=some (.lst (md.map D.int))/\Ex k s s') _ (λ_=>⟨_,_,[],rfl,h2,i2,⟨Nat.le_refl _,by simp,by simp,by simp⟩,(LY.val m Y3 LX).trans hm,LY⟩) (λi d env s' hd hI=>?_) (λenv s' hI=>?_)
 ·rw[gA] at hd
  split at hd
  ·rename_i hi
   cases hd;obtain⟨b,a5,ns,rfl,g1,g2,gl,g3,g4⟩:=hI (by omega);refine⟨_,rfl,?_⟩;simp only[VC,aaV];have fin:∀(c:Bool) (s2:ag),(c=true->(i:Int)∉md)->(c=false->b=true->(i:Int)∈md)->bh s2 k->s2[t1.length]?=some (.lst (ns.map D.int))->s2[m]?=some (.lst (md.map D.int))->Ex k s s2 ->
     if c=true then iY (.aj t1.length) s2=true/\Wp (iX (.aj t1.length) (.int (i:Int)) s2) λx s3=>i+1<=31->∃b a5 ns,([some (.aj k),some (.aj m),some (.bl c),some (.aj t1.length),some (.int (2+x2)),some (.int (i:Int))]:Env)=[some (.aj k),some (.aj m),some (.bl b),some (.aj t1.length),some (.int (2+x2)),a5]/\bh s3 k/\s3[t1.length]?=some (.lst (ns.map D.int))/\Lf md b (i+1) ns/\s3[m]?=some (.lst (md.map D.int))/\Ex k s s3
     else i+1<=31->∃b a5 ns,([some (.aj k),some (.aj m),some (.bl c),some (.aj t1.length),some (.int (2+x2)),some (.int (i:Int))]:Env)=[some (.aj k),some (.aj m),some (.bl b),some (.aj t1.length),some (.int (2+x2)),a5]/\bh s2 k/\s2[t1.length]?=some (.lst (ns.map D.int))/\Lf md b (i+1) ns/\s2[m]?=some (.lst (md.map D.int))/\Ex k s s2:=λc s2 c1 c2 k1 k2 k3 k4=>by
    cases c with
    |true =>
     obtain⟨q1,q2⟩:=Iu (x:=(i:Int)) k2 (by have:=gl.len;omega);rw[Ú rfl];exact⟨q1,Wp.of q2 λ_=>⟨_,_,_,rfl,k1.set qw _,ã (Å.mp k2).1,gl.put (c1 rfl),(Ø (Ň Y4)).trans k3,k4.qu hlen _⟩⟩
    |false =>
     rw[æ Ë];exact λ_=>⟨_,_,_,rfl,k1,k2,gl.pass (c2 rfl),k3,k4⟩
   cases b with
   |true =>
    simp only[û];refine Wp.of (GI (x:=(i:Int)) g3) ?_;simp only[wp_truB];exact fin _ s' (by simp) (by simp) g1 g2 g3 g4
   |false =>
    simp only[Ã,ê];refine(dH g1 (by omega) (by omega)).mono λd s2 hd2=>?_;obtain⟨x3,rfl,_,_,k1,e3⟩:=hd2;have k2:=(e3.val _ (Å.mp g2).1 qw).trans g2;have k3:=(e3.val _ (Å.mp g3).1 LX).trans g3;have k4:=g4.trans e3;simp only[wp_eqI,wp_isBl]
    cases (x3==0) with
    |true =>
     simp only[û];refine Wp.of (GI (x:=(i:Int)) k3) ?_;simp only[wp_truB];exact fin _ s2 (by simp) (λ_ z=>by cases z) k1 k2 k3 k4
    |false =>
     simp only[Ã,ê,wp_truB];exact fin false s2 (λz=>by cases z) (λ_ z=>by cases z) k1 k2 k3 k4
  ·cases hd
 ·rw[cg] at hI
  obtain⟨b,a5,ns,rfl,g1,z1,gl,g3,g4⟩:=hI (Nat.le_refl _);simp only[VC];refine Wp.of (show cL (.aj t1.length) s'=ok (lI ns) (s'.set t1.length .dead) from by simp only[cL,z1]) ?_;exact⟨ns,b,rfl,gl,g1.set qw _,g4.qu hlen _⟩
def iL.more (h:iL s j n) (hm:n<=m):iL s j m:=by
 obtain⟨ns,e,l⟩:=h;exact⟨ns,e,by omega⟩
def ox (s:ag) (j n:Nat):Prop:=∃ls:List (List Int),s[j]?=some (.lst (ls.map lI))/\ls.length=n
def ox.lt (h:ox s j n):j<s.length:=by
 obtain⟨ps,e,_⟩:=h;exact(Å.mp e).1
def ox.ex (h:ox s j n) (x:Ex k s s') (hj:j≠k):ox s' j n:=by
 have hl:=h.lt;obtain⟨ps,e,r⟩:=h;exact⟨ps,(x.val j hl hj).trans e,r⟩
def ox.set (h:ox s j n) (hi:i≠j) (c:Cell):ox (s.set i c) j n:=by
 obtain⟨ps,e,r⟩:=h;exact⟨ps,by rw[Ø hi];exact e,r⟩
structure BI (W:ď) (k j b n q:Nat) (s0 s:ag):Prop where
 st:bh s k
 dict:fB W Y2 s j n
 aO:∀i,i<8->iL s (b+i) q
 ext:Ex k s0 s
section
variable {W:ď} {k j b n q:Nat} {s0 s:ag}
def BI.draw (h:BI W k j b n q s0 s) (hj:j≠k) (hb:∀i,i<8->b+i≠k) (x:Ex k s s') (hs:bh s' k):BI W k j b n q s0 s' :=
 ⟨hs,h.dict.ex x hj,λi hi=>(h.aO i hi).ex x (hb i hi),h.ext.trans x⟩
def BI.put (h:BI W k j b n q s0 s) (hj:j≠k) (lh:∀i,i<8->b+i≠j) (hl:s0.length<=j) (hf:dR p=true) (hn:n<1000):∃s',kI W (.aj j) p.d (.bl true) s=some s'/\BI W k j b (n+1) q s0 s'/\Ex j s s':=by
 obtain⟨c,e,d⟩:=UT h.dict hf hn;exact⟨_,e,⟨h.st.set hj c,d,λi hi=>(h.aO i hi).set (Ň (lh i hi)) c,h.ext.qu hl c⟩,Ex.set j s c⟩
end
noncomputable def memD (b:Nat):D:=.lst ((ß 8).map λi:Nat=>D.aj (b+i))
def JF (h0:0<=i) (h1:i<8):ak (memD b) (.int i) s=ok (.aj (b+i.toNat)) s:=by
 obtain⟨x,e1,e2⟩:=nC (xs:=(ß 8).map λi:Nat=>D.aj (b+i)) h0 (by simpa using h1);have:x=.aj (b+i.toNat):=by
  rw[ç,Ĕ (by omega)] at e2;exact(Option.some.inj e2).symm
 subst this;simp only[ak,gU,res,memD,e1,bx]
def SO (q:Q (memD s.length) (s++Ï 8 (.lst []))):Wp (aU 1 [] (bP (ae (eC (.int 8)) ah)) (gN 0) bQ (eNew ah) env s) Q:=by
 rw[wp_comp];refine Wp.of (eh (n:=8) rfl (by decide)) ⟨by rw[cg];exact le_size (by decide),?_⟩;refine mi (λi acc s'=>acc=(ß i).map (λx:Nat=>D.aj (s.length+x))/\s'=s++Ï i (.lst [])) (bM 0 8) ⟨rfl,by simp⟩ (λi d acc s' hd hI=>?_) λacc s' hI=>?_
 ·obtain⟨rfl,rfl⟩:=hI
  rw[gA] at hd;split at hd
  ·cases hd
   refine⟨[some (.int (0+i))],rfl,?_⟩;refine Wp.of (show bQ _ _=ok true _ from rfl) ?_;rw[Ú rfl];simp only[wp_new,wp_aNil];refine⟨by decide,?_,?_⟩
   ·rw[ž,č]
    simp
   ·rw[List.replicate_succ',ķ]
  ·cases hd
 ·rw[cg] at hI
  obtain⟨rfl,rfl⟩:=hI;exact q
def eJ (W:ď) (R T:Pg->Prop) (s:ag) (j n:Nat):Prop:=∃ps:List Pg,s[j]?=some (.dT (ps.map λp=>(p.d,hs W p.d)))/\(ps.Nodup/\(∀p∈ps,R p)/\∀p,T p->p∈ps)/\ps.length<=n
section
variable {W:ď} {R T:Pg->Prop} {s s':ag} {j n k:Nat}
def eJ.lt (h:eJ W R T s j n):j<s.length:=by
 obtain⟨ps,e,_⟩:=h;exact(Å.mp e).1
def eJ.ex (h:eJ W R T s j n) (x:Ex k s s') (hj:j≠k):eJ W R T s' j n:=by
 have hl:=h.lt;obtain⟨ps,e,r⟩:=h;exact⟨ps,(x.val j hl hj).trans e,r⟩
def eJ.more (h:eJ W R T s j n) (hm:n<=m):eJ W R T s j m:=by
 obtain⟨ps,e,r,l⟩:=h;exact⟨ps,e,r,by omega⟩
def eJ.set (h:eJ W R T s j n) (hi:i≠j) (c:Cell):eJ W R T (s.set i c) j n:=by
 obtain⟨ps,e,r⟩:=h;exact⟨ps,by rw[Ø hi];exact e,r⟩
def eJ.mono (h:eJ W R T s j n) (hR:∀p,R p->R' p) (hT:∀p,T' p->T p):eJ W R' T' s j n:=by
 obtain⟨ps,e,r,l⟩:=h;exact⟨ps,e,⟨r.1,λp hp=>hR p (r.2.1 p hp),λp hp=>r.2.2 p (hT p hp)⟩,l⟩
def AO (h:eJ W R T s j n) (hf:R p) (hn:n<1000):∃c,kI W (.aj j) p.d (.bl true) s=some (s.set j c)/\eJ W R (λq=>T q\/q=p) (s.set j c) j (n+1):=by
 have hl:=h.lt;obtain⟨ps,e,cu,len⟩:=h;obtain⟨ks,ep,k1,k2⟩:=ke p;have uG:=JE W ps;generalize hk:(ps.map λp=>(p.d,hs W p.d))=ai at e uG;have kl:ai.length=ps.length:=by rw[<- hk,Ä]
 refine⟨.dT (TK.fL W ai (.tup ks)),?_,?_⟩
 ·rw[ep]
  unfold kI;simp only[e];rw[Ú];rw[k1,Ý k2,uG,Ý (Ê (show ai.length<1000 by omega) (le_size (by decide)))];rfl
 ·unfold TK.fL
  split
  ·rename_i hy
   obtain⟨kv,h1,h2⟩:=Ņ.mp hy;rw[<- hk] at h1;obtain⟨q,hq,rfl⟩:=ö.mp h1;have eq:q=p:=Pg.Ka ((qZ _ _ (kq q) (kq p)).mp (by rw[ep];exact h2));subst eq;exact⟨ps,by rw[hk];exact ã hl,⟨cu.1,cu.2.1,λq' Ek=>by
    rcases Ek with Ek|rfl
    ·exact cu.2.2 q' Ek
    ·exact hq⟩,by omega⟩
  ·rename_i mH
   refine⟨ps++[p],?_,⟨aav.mpr ⟨cu.1,by simp,λa ha b hb=>?_⟩,λq hq=>?_,λq hq=>?_⟩,by simp;omega⟩
   ·rw[ã hl,č,hk]
    simp only[Ö,İ,ep]
   ·rw[Ü.mp hb]
    rintro rfl;refine mH (Ņ.mpr ⟨(a.d,hs W a.d),?_,?_⟩)
    ·rw[<- hk];exact ö.mpr ⟨a,ha,rfl⟩
    ·rw[<- ep];exact(qZ _ _ (kq a) (kq a)).mpr rfl
   ·rcases Ù.mp hq with hq|hq
    ·exact cu.2.1 q hq
    ·rw[Ü.mp hq];exact hf
   ·rcases hq with hq|rfl
    ·exact Ù.mpr (.inl (cu.2.2 q hq))
    ·exact Ù.mpr (.inr (Ü.mpr rfl))
def eJ.plain (h:eJ W R T s j n):fB W R s j n:=by
 obtain⟨ps,e,r,l⟩:=h;exact⟨ps,e,⟨r.1,r.2.1⟩,l⟩
end
structure BJ (W:ď) (k j b n:Nat) (s0 s:ag) (M:Nat->List Int) (R T:Pg->Prop):Prop where
 st:bh s k
 dict:eJ W R T s j n
 aO:∀i,i<8->s[b+i]?=some (.lst ((M i).map D.int))
 ext:Ex k s0 s
section
variable {W:ď} {k j b n:Nat} {s0 s:ag} {M:Nat->List Int} {R T:Pg->Prop}
def BJ.draw (h:BJ W k j b n s0 s M R T) (hj:j≠k) (hb:∀i,i<8->b+i≠k) (x:Ex k s s') (hs:bh s' k):BJ W k j b n s0 s' M R T :=
 ⟨hs,h.dict.ex x hj,λi hi=>(x.val _ (Å.mp (h.aO i hi)).1 (hb i hi)).trans (h.aO i hi),h.ext.trans x⟩
def BJ.put (h:BJ W k j b n s0 s M R T) (hj:j≠k) (lh:∀i,i<8->b+i≠j) (hl:s0.length<=j) (hf:R p) (hn:n<1000):∃s',kI W (.aj j) p.d (.bl true) s=some s'/\BJ W k j b (n+1) s0 s' M R (λq=>T q\/q=p)/\Ex j s s':=by
 obtain⟨c,e,d⟩:=AO h.dict hf hn;exact⟨_,e,⟨h.st.set hj c,d,λi hi=>(Ø (Ň (lh i hi))).trans (h.aO i hi),h.ext.qu hl c⟩,Ex.set j s c⟩
def Oo (h:BJ W k j b n s0 s M R T) (hj:j≠k) (hb:∀i,i<8->b+i≠k) (lh:∀i,i<8->b+i≠j) (hl:s0.length<=j) (Y5:s0.length<=b) (hn:n<1000) (hq:∀i,i<8->(M i).length<1000)
 (g:∀(x:Nat) (d:Int) (b8 b9:Option D) (s':ag),x<8->0<=d/\d<31->(∀{R':Pg->Prop},(∀p,R p->R' p)->R' (.aO mu d x)->BJ W k j b (n+1) s0 s' (λi=>if i=x then M i++[d] else M i) R' (λq=>T q\/q=.aO mu d x))->(∀t,t<s.length->t≠k->t≠j->(∀i,i<8->b+i≠t)->s'[t]?=s[t]?)->Q (.nx [some (.aj k),some (.aj j),some (.int mo),some (.int of),some (.int mu),some (memD b),a6,a7,b8,b9,sG,sH]) s') :
  Wp ((ay (aJ (aX (ae (ax bG (ae (aa 0) (ae (eC (.int 8)) ah))) (ae (ax bG (ae (aa 0) (ae (eC (.int 31)) ah))) ah))) (gT [(gN 8),(gN 9)])) (ay (fF (ic (e2 ak (aa 5) (aa 8)) (aa 9))) (TK.my W (eC (.bl true)) (aa 1) (aX (ae (eC (.str "mended")) (ae (aa 4) (ae (aa 9) (ae (aa 8) ah)))))))) [some (.aj k),some (.aj j),some (.int mo),some (.int of),some (.int mu),some (memD b),a6,a7,a8,a9,sG,sH] s) Q:=by
 simp only[VC];refine(dH h.st (by decide) (by decide)).mono λd t1 qv=>?_;obtain⟨x1,rfl,sE,sF,h1,e1⟩:=qv;refine(dH h1 (by decide) (by decide)).mono λd t2 hd2=>?_;obtain⟨x2,rfl,Ei,Ej,h2,e2⟩:=hd2;refine⟨by decide,?_⟩
 try simp only[VC]
 refine Wp.of (JF sE sF) ?_;obtain⟨y,rfl⟩:∃y:Nat,x1=y:=⟨x1.toNat,by omega⟩;rw[õ];have hy:y<8:=by omega
 have B2:=h.draw hj hb (e1.trans e2) h2;obtain⟨q1,q2⟩:=Iu (x:=x2) (B2.aO y hy) (hq y hy);refine⟨q1,Wp.of q2 ?_⟩;have hx:=hb y hy;have Y6:=lh y hy
 have B3:BJ W k j b n s0 (t2.set (b+y) (.lst ((M y++[x2]).map D.int))) (λi=>if i=y then M i++[x2] else M i) R T:=⟨B2.st.set hx _,B2.dict.set Y6 _,λi hi=>by
  by_cases qp:i=y
  ·subst qp
   rw[Ú rfl];exact ã (Å.mp (B2.aO i hi)).1
  ·rw[æ qp,Ø (by omega)]
   exact B2.aO i hi,B2.ext.qu (by omega) _⟩
 rw[Iq];simp only[VC];refine⟨by decide,?_⟩;obtain⟨c,ec,dc⟩:=AO (p:=.aO mu x2 y) (R:=λ_=>True) (T:=T) (B3.dict.mono (λ_ _=>trivial) λ_ h=>h) trivial hn;refine⟨_,ec,g y x2 _ _ _ hy ⟨Ei,Ej⟩ (λ{R'} hR hp=>?_) λt ht Lb Y7 Y8=>?_⟩
 ·obtain⟨c',Y9,Za⟩:=AO (p:=.aO mu x2 y) (R:=R') (T:=T) (B3.dict.mono hR λ_ h=>h) hp hn
  have eq:=Option.some.inj (ec.symm.trans Y9);rw[eq];exact⟨B3.st.set hj c',Za,λi hi=>(Ø (Ň (lh i hi))).trans (B3.aO i hi),B3.ext.qu hl c'⟩
 ·have l2:s.length<=t2.length:=(e1.trans e2).len
  rw[Ø (Ň Y7),Ø (Y8 _ hy),(e1.trans e2).val t ht Lb]
end
section
variable (s l m:Nat->Bool)
noncomputable def pr:Nat->Bool
 |0=>s 0
 |d+1=>s (d+1)||(pr d&&!m (d+1))
noncomputable def gw:Nat->Bool
 |0=>false
 |n+1=>(gw n||l (30-n))&&!m (30-n)
def br (d:Nat):Bool:=gw l m (31-d)
def ab (d:Nat):Bool:=br l m (d+1)||(l d||m d)
def Kk (h:d<=30):br l m d=((br l m (d+1)||l d)&&!m d):=by
 unfold br;have e1:31-d=(30-d)+1:=by omega
 have e2:31-(d+1)=30-d:=by omega
 rw[e1,e2];simp only[gw];rw[show 30-(30-d)=d by omega]
def Kl:br l m 31=false:=rfl
noncomputable def f0 (d:Nat):Bool:=!s d
noncomputable def t0 (d:Nat):Bool:=!m d&&!l d
def fw:Nat->Bool×Bool
 |0=>(f0 s 0,t0 l m 0)
 |d+1=>(f0 s (d+1)&&((fw d).1||(m (d+1)&&((fw d).1||(fw d).2))),t0 l m (d+1)&&((fw d).1||(fw d).2))
def sI:Nat->Bool×Bool
 |0=>fw s l m 30
 |n+1=>let q:=sI n;let a:=fw s l m (29-n);(a.1&&(q.2||q.1),a.2&&(q.2||(q.1&&m (30-n))))
def bw (d:Nat):Bool×Bool:=sI s l m (30-d)
def ni:Prop:=∀d e,s d=true->d<=e->e<=30->(l e=true\/(e=d/\m d=true))->∃x,d<x/\x<=e/\m x=true
variable {s l m}
def Bn:∀{d:Nat},pr s m d=true↔∃e,e<=d/\s e=true/\∀x,e<x->x<=d->m x=false
 |0=>by
  simp only[pr];constructor
  ·intro h;exact⟨0,Nat.le_refl _,h,λx h1 h2=>by omega⟩
  ·rintro ⟨e,h1,h2,_⟩
   have:e=0:=by omega
   rw[<- this];exact h2
 |d+1=>by
  simp only[pr,ż,Ç,ē];rw[Bn (d:=d)];constructor
  ·rintro (h | ⟨⟨e,h1,h2,h3⟩,h4⟩)
   ·exact⟨d+1,Nat.le_refl _,h,λx h1 h2=>by omega⟩
   ·refine⟨e,by omega,h2,λx mK l0=>?_⟩
    by_cases hx:x=d+1
    ·rw[hx];exact h4
    ·exact h3 x mK (by omega)
  ·rintro ⟨e,h1,h2,h3⟩
   by_cases he:e=d+1
   ·left;rw[<- he];exact h2
   ·right
    exact⟨⟨e,by omega,h2,λx mK l0=>h3 x mK (by omega)⟩,h3 (d+1) (by omega) (Nat.le_refl _)⟩
def Wa:∀{n:Nat},n<=31->br l m (31-n)=true->∃e,31-n<=e/\e<=30/\l e=true/\∀x,31-n<=x->x<=e->m x=false:=by
 intro n
 induction n with
 |zero=>intro _ h;rw[show 31-0=31 from rfl,Kl] at h;cases h
 |succ n ih =>
  intro hn h;have e1:31-(n+1)+1=31-n:=by omega
  rw[Kk l m (by omega),e1,Ç,ż,ē] at h
  rcases h.1 with h1|h1
  ·obtain⟨e,q1,q2,q3,q4⟩:=ih (by omega) h1
   refine⟨e,by omega,q2,q3,λx mK l0=>?_⟩;by_cases hx:x=31-(n+1)
   ·rw[hx];exact h.2
   ·exact q4 x (by omega) l0
  ·refine⟨31-(n+1),Nat.le_refl _,by omega,h1,λx mK l0=>?_⟩
   rw[show x=31-(n+1) by omega];exact h.2
section
variable (N:ni s l m)
include N
def BZ (hd:d<=30) (h:pr s m d=true):t0 l m d=true:=by
 obtain⟨e,h1,h2,h3⟩:=Bn.mp h;unfold t0;rw[Ç,ē,ē];constructor
 ·cases hm:m d with
  |false=>rfl
  |true =>
   by_cases he:e=d
   ·subst he
    obtain⟨x,q1,q2,_⟩:=N e e h2 (Nat.le_refl _) hd (.inr ⟨rfl,hm⟩);omega
   ·have:=h3 d (by omega) (Nat.le_refl _)
    rw[this] at hm;cases hm
 ·cases hl:l d with
  |false=>rfl
  |true =>
   obtain⟨x,q1,q2,q3⟩:=N e d h2 h1 hd (.inl hl);rw[h3 x q1 q2] at q3;cases q3
def B0:∀{d:Nat},d<=30->fw s l m d=(!pr s m d,t0 l m d)
 |0,_=>rfl
 |d+1,h=>by
  have ih:=B0 (d:=d) (by omega);have ne:(!pr s m d||t0 l m d)=true:=by
   cases hp:pr s m d with
   |false=>rfl
   |true=>rw[BZ N (by omega) hp];rfl
  simp only[fw,ih,ne,ŗ,f0,pr]
  cases s (d+1)<;>cases pr s m d<;>cases m (d+1)<;>simp
def Km (hd:d<=30) (h:pr s m d=true):ab l m d=false:=by
 have ht:=BZ N hd h;unfold t0 at ht;rw[Ç,ē,ē] at ht;unfold ab;rw[ht.1,ht.2]
 cases hb:br l m (d+1) with
 |false=>rfl
 |true =>
  exfalso;have gR:br l m (31-(30-d))=true:=by rw[show 31-(30-d)=d+1 by omega];exact hb
  obtain⟨e,q1,q2,q3,q4⟩:=Wa (by omega) gR;obtain⟨c,h1,h2,h3⟩:=Bn.mp h;obtain⟨x,z1,z2,z3⟩:=N c e h2 (by omega) q2 (.inl q3);by_cases hx:x<=d
  ·rw[h3 x z1 hx] at z3;cases z3
  ·rw[q4 x (by omega) z2] at z3;cases z3
def JG:∀{n:Nat},n<=30->sI s l m n=(!pr s m (30-n),!ab l m (30-n))
 |0,_=>by
  simp only[sI,B0 N (Nat.le_refl 30),Nat.sub_zero];congr 1;unfold ab t0;rw[Kl]
  cases m 30<;>cases l 30<;>rfl
 |n+1,h=>by
  have ih:=JG (n:=n) (by omega);have Zb:29-n=30-(n+1):=by omega
  have Zc:30-n=(30-(n+1))+1:=by omega
  generalize hd:30-(n+1)=d at *;have C1:d+1<=30:=by omega
  simp only[sI,ih,Zb,Zc,B0 N (show d<=30 by omega)];have p1:=λz=>Km N C1 z;have p2:=λz=>BZ N C1 z;have eb:=Kk l m C1;congr 1
  ·cases hp:pr s m (d+1) with
   |false=>simp
   |true=>rw[p1 hp];simp
  ·show (t0 l m d&&(!ab l m (d+1)||(!pr s m (d+1)&&m (d+1))))=!(br l m (d+1)||(l d||m d))
   rw[eb];unfold ab
   cases hm:m (d+1) with
   |false=>unfold t0;cases m d<;>cases l d<;>cases br l m (d+1+1)<;>cases l (d+1)<;>simp
   |true =>
    have hp:pr s m (d+1)=false:=by
     cases hp:pr s m (d+1) with
     |false=>rfl
     |true=>have:=p2 hp;unfold t0 at this;rw[hm] at this;cases this
    rw[hp];unfold t0
    cases m d<;>cases l d<;>simp
def Wb (h:d<=30):bw s l m d=(!pr s m d,!ab l m d):=by
 unfold bw;rw[JG N (by omega),show 30-(30-d)=d by omega]
end
end
section
variable (ps:List Pg) (m k:Int)
def sN (d:Nat):Bool:=decide ((d:Int)∈shown ps m k)
def lN (d:Nat):Bool:=decide ((d:Int)∈cO ps m k)
def mN (d:Nat):Bool:=decide ((d:Int)∈bR ps m k)
def jD:List Int:=((ß 31).filter λd=>pr (sN ps m k) (mN ps m k) d).map λd:Nat=>(d:Int)
def iM:List Int:=((ß 31).filter λn=>ab (lN ps m k) (mN ps m k) (30-n)).map λn:Nat=>((30-n:Nat):Int)
end
def Iv (h:eG ps=true) (hm:0<=m/\m<4) (hk:0<=k/\k<8):ni (sN ps m k) (lN ps m k) (mN ps m k):=by
 intro d e hs El he hc;simp only[sN,lN,mN,È] at hs hc;have c:=Q4 h hm hk hs (l:=(e:Int)) (by omega) (by omega);unfold lg at c;have c1:(decide ((e:Int)∈cO ps m k)||(decide ((e:Int)=(d:Int))&&decide ((d:Int)∈bR ps m k)))=true:=by
  rcases hc with hc | ⟨h1,h2⟩
  ·rw[Ý hc];rfl
  ·rw[Ý (show (e:Int)=d by omega),Ý h2];simp
 rw[c1,í,Bool.not_eq_false'] at c;unfold pQ at c;obtain⟨x,hx,hb⟩:=Ņ.mp c;simp only[Ç,È] at hb;refine⟨x.toNat,by omega,by omega,?_⟩;simp only[mN,È];rw[show ((x.toNat:Nat):Int)=x by omega];exact hx
def Iw {s:ag} {ns:List Int} {x:Int} (hn:ns.length<1000):iY (.aj s.length) (s++[.lst (ns.map D.int)])=true/\iX (.aj s.length) (.int x) (s++[.lst (ns.map D.int)])=ok .au (s++[.lst ((ns++[x]).map D.int)]):=by
 have e:(s++[Cell.lst (ns.map D.int)])[s.length]?=some (.lst (ns.map D.int)):=by simp
 refine⟨by simp only[iY,e],?_⟩;unfold iX;simp only[e];rw[Ú (by rw[È,Ä];exact Ê hn (le_size (by decide)))];simp[ű]
def Iy {s:ag} {ns:List Int}:cL (.aj s.length) (s++[.lst (ns.map D.int)])=ok (lI ns) (s++[.dead]):=by
 have e:(s++[Cell.lst (ns.map D.int)])[s.length]?=some (.lst (ns.map D.int)):=by simp
 simp only[cL,e];simp[ű]
def F4 {p:Nat->Bool} {f:Nat->Int} {i:Nat}:((ß (i+1)).filter p).map f=((ß i).filter p).map f++(if p i=true then [f i] else []):=by
 rw[ž,aa7,č];congr 1
 cases h:p i<;>simp[h]
def GJ {p:Nat->Bool} {f:Nat->Int} {i:Nat}:(((ß i).filter p).map f).length<=i:=by
 rw[Ä];exact Û (Ķ _ _) (by rw[ľ];exact Nat.le_refl _)
def pv (s m:Nat->Bool):Nat->Bool
 |0=>false
 |i+1=>pr s m i
def Oq (hl:ps.length<=1000):v9 [bD ps,.int m,.int k] s=ok (lI (jD ps m k)) (s++[.dead]):=by
 refine Wp.eq ?_;unfold v9;simp only[VC];refine Wp.of (xo hl).1 ?_;refine Wp.of (xp hl) ?_
 try simp only[VC]
 refine⟨by decide,?_⟩;refine Wp.of (eh (n:=31) rfl (by decide)) ?_;refine Wp.iZ (λi env s'=>i<=31->∃a7,env=[some (bD ps),some (.int m),some (.int k),some (lI (shown ps m k)),some (lI (bR ps m k)),some (.aj s.length),some (.bl (pv (sN ps m k) (mN ps m k) i)),a7]/\s'=s++[.lst ((((ß i).filter λd=>pr (sN ps m k) (mN ps m k) d).map λd:Nat=>(d:Int)).map D.int)]) _ (λ_=>⟨_,rfl,rfl⟩) (λi d env s' hd hI=>?_) (λenv s' hI=>?_)
 ·rw[gA] at hd
  split at hd
  ·rename_i hi
   cases hd;obtain⟨a7,rfl,rfl⟩:=hI (by omega);refine⟨_,rfl,?_⟩;have e0:(0:Int)+(i:Int)=i:=by omega
   have key:(decide ((i:Int)∈shown ps m k)||(pv (sN ps m k) (mN ps m k) i&&!decide ((i:Int)∈bR ps m k)))=pr (sN ps m k) (mN ps m k) i:=by
    cases i with
    |zero=>simp[pv,pr,sN]
    |succ i=>rfl
   have fin:∀c:Bool,c=pr (sN ps m k) (mN ps m k) i->if c=true then iY (.aj s.length) (s++[.lst ((((ß i).filter λd=>pr (sN ps m k) (mN ps m k) d).map λd:Nat=>(d:Int)).map D.int)])=true/\Wp (iX (.aj s.length) (.int (0+(i:Int))) (s++[.lst ((((ß i).filter λd=>pr (sN ps m k) (mN ps m k) d).map λd:Nat=>(d:Int)).map D.int)])) λx s'=>i+1<=31->∃a7,([some (bD ps),some (.int m),some (.int k),some (lI (shown ps m k)),some (lI (bR ps m k)),some (.aj s.length),some (.bl c),some (.int (0+(i:Int)))]:Env)=[some (bD ps),some (.int m),some (.int k),some (lI (shown ps m k)),some (lI (bR ps m k)),some (.aj s.length),some (.bl (pv (sN ps m k) (mN ps m k) (i+1))),a7]/\s'=s++[.lst ((((ß (i+1)).filter λd=>pr (sN ps m k) (mN ps m k) d).map λd:Nat=>(d:Int)).map D.int)]
     else i+1<=31->∃a7,([some (bD ps),some (.int m),some (.int k),some (lI (shown ps m k)),some (lI (bR ps m k)),some (.aj s.length),some (.bl c),some (.int (0+(i:Int)))]:Env)=[some (bD ps),some (.int m),some (.int k),some (lI (shown ps m k)),some (lI (bR ps m k)),some (.aj s.length),some (.bl (pv (sN ps m k) (mN ps m k) (i+1))),a7]/\s++[.lst ((((ß i).filter λd=>pr (sN ps m k) (mN ps m k) d).map λd:Nat=>(d:Int)).map D.int)]=s++[.lst ((((ß (i+1)).filter λd=>pr (sN ps m k) (mN ps m k) d).map λd:Nat=>(d:Int)).map D.int)]:=λc hc=>by
    rw[F4];have hv:pv (sN ps m k) (mN ps m k) (i+1)=c:=hc.symm;rw[hv,<- hc]
    cases c with
    |true =>
     rw[Ú rfl];obtain⟨q1,q2⟩:=Iw (s:=s) (ns:=((ß i).filter λd=>pr (sN ps m k) (mN ps m k) d).map λd:Nat=>(d:Int)) (x:=0+(i:Int)) (Nat.lt_of_le_of_lt GJ (by omega));exact⟨q1,Wp.of q2 λ_=>⟨_,rfl,by rw[e0];rfl⟩⟩
    |false =>
     rw[æ Ë];exact λ_=>⟨_,rfl,by simp⟩
   simp only[VC,rH,e0];rw[e0] at fin;by_cases c1:(i:Int)∈shown ps m k
   ·simp only[c1,ę,û]
    exact fin true (by rw[<- key,Ý c1];rfl)
   ·simp only[c1,ab2,Ã,ê]
    cases hp:pv (sN ps m k) (mN ps m k) i with
    |false =>
     simp only[VC,Ã,ê];exact fin false (by rw[<- key,ñ c1,hp];rfl)
    |true =>
     simp only[VC,û,oM];exact fin _ (by rw[<- key,ñ c1,hp];rfl)
  ·cases hd
 ·rw[cg] at hI
  obtain⟨a7,rfl,rfl⟩:=hI (Nat.le_refl _);simp only[VC];exact Wp.of Iy ⟨rfl,rfl⟩
noncomputable def downs:List D:=(ß 31).map λn:Nat=>D.int ((30-n:Nat):Int)
def UU:D5 (ae (eC (.int 31)) ah) env s=ok downs s:=by
 have:(bM 0 31).reverse=downs:=by rfl
 rw[<- this];rfl
def PD:downs[i]?=if i<31 then some (.int ((30-i:Nat):Int)) else none:=by
 unfold downs;rw[ç];by_cases h:i<31
 ·rw[Ú h,Ĕ h];rfl
 ·rw[æ h,Ċ (by simpa using h)];rfl
abbrev jb (ps:List Pg) (m k:Int) (i:Nat):List Int:=((ß i).filter λn=>ab (lN ps m k) (mN ps m k) (30-n)).map λn:Nat=>((30-n:Nat):Int)
def PH (hl:ps.length<=1000):we [bD ps,.int m,.int k] s=ok (lI (iM ps m k)) (s++[.dead]):=by
 refine Wp.eq ?_;unfold we;simp only[VC];refine Wp.of (xo hl).2 ?_;refine Wp.of (xp hl) ?_
 try simp only[VC]
 refine⟨by decide,?_⟩;refine Wp.of UU ?_;refine Wp.iZ (λi env s'=>i<=31->∃a7,env=[some (bD ps),some (.int m),some (.int k),some (lI (cO ps m k)),some (lI (bR ps m k)),some (.aj s.length),some (.bl (gw (lN ps m k) (mN ps m k) i)),a7]/\s'=s++[.lst ((jb ps m k i).map D.int)]) _ (λ_=>⟨_,rfl,rfl⟩) (λi d env s' hd hI=>?_) (λenv s' hI=>?_)
 ·rw[PD] at hd
  split at hd
  ·rename_i hi
   cases hd;obtain⟨a7,rfl,rfl⟩:=hI (by omega);refine⟨_,rfl,?_⟩;generalize hd:((30-i:Nat):Int)=d;have ea:ab (lN ps m k) (mN ps m k) (30-i)=(gw (lN ps m k) (mN ps m k) i||(decide (d∈cO ps m k)||decide (d∈bR ps m k))):=by
    unfold ab br lN mN;rw[show 31-(30-i+1)=i by omega,hd]
   have eb:gw (lN ps m k) (mN ps m k) (i+1)=((gw (lN ps m k) (mN ps m k) i||decide (d∈cO ps m k))&&!decide (d∈bR ps m k)):=by
    show ((gw _ _ i||lN ps m k (30-i))&&!mN ps m k (30-i))=_;unfold lN mN;rw[hd]
   have sec:∀s2,s2=s++[.lst ((jb ps m k (i+1)).map D.int)]->Wp (aJ (cH (kP (aa 6) (e2 cv (aa 7) (aa 3))) (e2 fE (aa 7) (aa 4))) (gN 6) [some (bD ps),some (.int m),some (.int k),some (lI (cO ps m k)),some (lI (bR ps m k)),some (.aj s.length),some (.bl (gw (lN ps m k) (mN ps m k) i)),some (.int d)] s2) λfl s'=>match fl with
     | .nx env=>i+1<=31->∃a7,env=[some (bD ps),some (.int m),some (.int k),some (lI (cO ps m k)),some (lI (bR ps m k)),some (.aj s.length),some (.bl (gw (lN ps m k) (mN ps m k) (i+1))),a7]/\s'=s++[.lst ((jb ps m k (i+1)).map D.int)]
     | .ct env=>i+1<=31->∃a7,env=[some (bD ps),some (.int m),some (.int k),some (lI (cO ps m k)),some (lI (bR ps m k)),some (.aj s.length),some (.bl (gw (lN ps m k) (mN ps m k) (i+1))),a7]/\s'=s++[.lst ((jb ps m k (i+1)).map D.int)]
     | .bk env=>mY (aL (jT (aa 5))) (rY λa s'=>a=lI (iM ps m k)/\s'=s++[.dead]) (.nx env) s'
     | .rt d=>mY (aL (jT (aa 5))) (rY λa s'=>a=lI (iM ps m k)/\s'=s++[.dead]) (.rt d) s':=λs2 bZ=>by
    simp only[VC,rH,oM];rw[eb]
    cases gw (lN ps m k) (mN ps m k) i with
    |true =>
     simp only[VC,û,oM];exact λ_=>⟨some (.int d),by simp,bZ⟩
    |false =>
     simp only[Ã,ê,abM];by_cases c:d∈cO ps m k
     ·simp only[VC,c,ę,û,oM]
      exact λ_=>⟨some (.int d),by simp,bZ⟩
     ·simp only[c,ab2,Ã,ê]
      exact λ_=>⟨some (.int d),by simp,bZ⟩
   have LZ:=Iw (s:=s) (ns:=jb ps m k i) (x:=d) (Nat.lt_of_le_of_lt GJ (by omega))
   have st:jb ps m k (i+1)=jb ps m k i++(if ab (lN ps m k) (mN ps m k) (30-i)=true then [d] else []):=by
    rw[<- hd];exact F4
   have yes:ab (lN ps m k) (mN ps m k) (30-i)=true->Wp (fF (ic (aa 5) (aa 7)) [some (bD ps),some (.int m),some (.int k),some (lI (cO ps m k)),some (lI (bR ps m k)),some (.aj s.length),some (.bl (gw (lN ps m k) (mN ps m k) i)),some (.int d)] (s++[.lst ((jb ps m k i).map D.int)])) λfl s'=>fl=.nx [some (bD ps),some (.int m),some (.int k),some (lI (cO ps m k)),some (lI (bR ps m k)),some (.aj s.length),some (.bl (gw (lN ps m k) (mN ps m k) i)),some (.int d)]/\s'=s++[.lst ((jb ps m k (i+1)).map D.int)]:=λha=>by
    simp only[VC];refine⟨LZ.1,Wp.of LZ.2 ?_⟩;rw[st,ha];simp
   have no:ab (lN ps m k) (mN ps m k) (30-i)=false->s++[Cell.lst ((jb ps m k i).map D.int)]=s++[Cell.lst ((jb ps m k (i+1)).map D.int)]:=λha=>by
    rw[st,ha];simp
   have go:∀{c:Bool},c=ab (lN ps m k) (mN ps m k) (30-i)->∀{Q:Fl->ag->Prop},(∀s2,s2=s++[.lst ((jb ps m k (i+1)).map D.int)]->Q (.nx [some (bD ps),some (.int m),some (.int k),some (lI (cO ps m k)),some (lI (bR ps m k)),some (.aj s.length),some (.bl (gw (lN ps m k) (mN ps m k) i)),some (.int d)]) s2)->if c=true then Wp (fF (ic (aa 5) (aa 7)) [some (bD ps),some (.int m),some (.int k),some (lI (cO ps m k)),some (lI (bR ps m k)),some (.aj s.length),some (.bl (gw (lN ps m k) (mN ps m k) i)),some (.int d)] (s++[.lst ((jb ps m k i).map D.int)])) Q else Wp (bX [some (bD ps),some (.int m),some (.int k),some (lI (cO ps m k)),some (lI (bR ps m k)),some (.aj s.length),some (.bl (gw (lN ps m k) (mN ps m k) i)),some (.int d)] (s++[.lst ((jb ps m k i).map D.int)])) Q:=λ{c} hc {Q} q=>by
    cases c with
    |true =>
     rw[Ú rfl];exact(yes hc.symm).mono λfl s2 ⟨e1,e2⟩=>by subst e1;exact q s2 e2
    |false =>
     rw[æ Ë,wp_sNil];exact q _ (no hc.symm)
   rw[wp_sSeq,wp_sIf];simp only[wp_tOr,wp_tru,wp_loc0,wp_locS,wp_truB,wp_tBl,wp_e2,rH,wp_ok,wp_isBl,ï,ð];rw[ea] at go
   cases hb:gw (lN ps m k) (mN ps m k) i with
   |true =>
    simp only[û];rw[hb] at go sec;exact go (c:=true) rfl λs2 h2=>sec s2 h2
   |false =>
    simp only[Ã,ê];rw[hb] at go sec;by_cases c:d∈cO ps m k
    ·simp only[c,ę,û]
     exact go (c:=true) (by simp[c]) λs2 h2=>sec s2 h2
    ·simp only[c,ab2,Ã,ê]
     exact go (by simp[c]) λs2 h2=>sec s2 h2
  ·cases hd
 ·rw[show downs.length=31 from rfl] at hI
  obtain⟨a7,rfl,rfl⟩:=hI (Nat.le_refl _);simp only[VC];exact Wp.of Iy ⟨rfl,rfl⟩
def qx (F:Int->List Int):D:=.lst (k8.map λk=>lI (F k))
def UW (h:0<=k/\k<8):ak (qx F) (.int k) s=ok (lI (F k)) s:=by
 obtain⟨x,e1,e2⟩:=nC (xs:=k8.map λk=>lI (F k)) h.1 (by show k<8;exact h.2);have:x=lI (F k):=by
  rw[ç] at e2;have e3:k8[k.toNat]?=some k:=by
   unfold k8;rw[ç,Ĕ (by omega)];simp;omega
  rw[e3] at e2;exact(Option.some.inj e2).symm
 subst this;simp only[ak,gU,res,qx,e1,bx]
def Xp:bM 0 8=k8.map D.int:=rfl
def Ko:sW [qx F,.int d] s=ok (mD (k8.filter λk=>decide (d∈F k))) s:=by
 refine Wp.eq ?_;unfold sW;simp only[VC];refine Wp.of (eh (n:=8) rfl (by decide)) ⟨by rw[cg];exact le_size (by decide),?_⟩;rw[Xp];refine Wp.of (gZ (λk=>decide (d∈F k)) (λk=>.int k) k8 λk hk=>⟨[some (.int k),some (.int d),some (qx F)],rfl,?_,λ_=>rfl⟩) ?_
 ·refine Wp.eq ?_
  simp only[VC];refine Wp.of (UW (rl.mp hk)) ?_;simp only[VC,rH,ğ]
 ·exact Wp.of (show cC [.lst ((k8.filter λk=>decide (d∈F k)).map λk=>.int k)] s=ok (mD (k8.filter λk=>decide (d∈F k))) s from rfl) ⟨rfl,rfl⟩
noncomputable def cf:List Int:=(ß 31).map λi:Nat=>(i:Int)
def uw:bM 0 31=cf.map D.int:=by unfold cf;rw[xn,Ē];congr 1;funext i;simp
def ku (P A:Int->List Int) (d:Int):D:=.tup [mD (k8.filter λk=>decide (d∈P k)),mD (k8.filter λk=>decide (d∈A k))]
def Iz (hf:∀k s,fn [b,.int mu,.int k] s=ok (lI (F k)) (s++[.dead])) (e0:env[0]?=some (some b)) (e1:env[1]?=some (some (.int mu))) (q:∀c,Q (qx F) (s++c)) :
  Wp (aU 1 [0,1] (bP (ae (eC (.int (8))) ah)) (gN 0) bQ (ax fn (ae (aa 1) (ae (aa 2) (ae (aa 0) ah)))) env s) Q:=by
 rw[wp_comp];refine Wp.of (eh (n:=8) rfl (by decide)) ⟨by rw[cg];exact le_size (by decide),?_⟩;have ec:fQ [0,1] env=[some b,some (.int mu)]:=by simp[fQ,e0,e1]
 rw[ec];refine mi (λi acc s'=>i<=8->acc=((ß i).map λi:Nat=>(i:Int)).map (λk=>lI (F k))/\∃c,s'=s++c) (bM 0 8) (λ_=>⟨rfl,[],by simp⟩) (λi d acc s' hd hI=>?_) λacc s' hI=>?_
 ·rw[gA] at hd
  split at hd
  ·rename_i hi
   cases hd;obtain⟨rfl,c,rfl⟩:=hI (by omega);refine⟨[some (.int (0+i)),some b,some (.int mu)],rfl,?_⟩;refine Wp.of (show bQ _ _=ok true _ from rfl) ?_;rw[Ú rfl];simp only[VC];refine Wp.of (hf (0+(i:Int)) _) λ_=>⟨?_,c++[.dead],by simp⟩;rw[ž,č,č];simp
  ·cases hd
 ·rw[cg] at hI
  obtain⟨rfl,c,rfl⟩:=hI (Nat.le_refl _);exact q c
def SQ (hl:ps.length<=1000):Wp (wg [bD ps,.int m] s) λd s'=>d=.lst (cf.map (ku (jD ps m) (iM ps m)))/\∃c,s'=s++c:=by
 unfold wg;rw[wp_fn];refine⟨rfl,?_⟩;rw[wp_sSeq,wp_sAsg];refine Iz (b:=bD ps) (mu:=m) (λk s=>Oq hl) rfl rfl λc=>?_;simp only[asg_N,Ö,İ,ċ,ģ,Ï,Nat.reduceSub,ï,ð,aft_nx];rw[wp_sSeq,wp_sAsg];refine Iz (b:=bD ps) (mu:=m) (λk s=>PH hl) rfl rfl λc'=>?_;simp only[asg_N,ï,ð,aft_nx,wp_sRet,wp_comp,fin_rt];refine Wp.of (eh (n:=31) rfl (by decide)) ⟨by rw[cg];exact le_size (by decide),?_⟩;rw[uw];refine Wp.of (gZ (λ_=>true) (ku (jD ps m) (iM ps m)) cf λd hd=>⟨[some (.int d),some (qx (jD ps m)),some (qx (iM ps m))],rfl,rfl,λ_=>?_⟩) ?_
 ·refine Wp.eq ?_
  simp only[VC];refine Wp.of Ko ?_;refine Wp.of Ko ?_;exact⟨by decide,rfl,rfl⟩
 ·rw[filter_tt]
  exact⟨rfl,c++c',by simp⟩
noncomputable def js (x:Bool×Bool):List Bool:=(if x.1=true then [false] else [])++(if x.2=true then [true] else [])
abbrev fT (x:Bool×Bool):D:=.lst ((js x).map D.bl)
def NA (x:Bool×Bool) (p:Bool->Bool):(js x).filter p=js (x.1&&p false,x.2&&p true):=by
 obtain⟨f,t⟩:=x
 cases f<;>cases t<;>cases h1:p false<;>cases h2:p true<;>simp[js,h1,h2]
noncomputable abbrev Rw:=Nat->Bool×Bool
abbrev ux (R:Rw):Cell:=.lst ((ß 31).map λd=>fT (R d))
noncomputable abbrev fc (F:Nat->Bool):Cell:=.lst ((ß 32).map λd=>D.bl (F d))
abbrev bU (s:ag) (R:Rw) (F:Nat->Bool):ag:=s++[ux R,fc F]
noncomputable def dX {α:Type} (R:Nat->α) (d:Nat) (x:α):Nat->α:=λe=>if e=d then x else R e
def C2 (s:ag) (R:Rw) (F:Nat->Bool):(bU s R F)[s.length]?=some (ux R):=by simp[bU]
def K4 (s:ag) (R:Rw) (F:Nat->Bool):(bU s R F)[s.length+1]?=some (fc F):=by simp[bU]
def xq {α:Type} {n:Nat} {f:Nat->α} {d:Int} (h0:0<=d) (h1:d<n):dA ((ß n).map f) d=some (f d.toNat):=by
 obtain⟨x,e1,e2⟩:=nC (xs:=(ß n).map f) h0 (by simpa using h1);rw[ç,Ĕ (by omega)] at e2;rw[e1];exact e2.symm
def tU {F:Nat->Bool} {d:Int} (h0:0<=d) (h1:d<31):ak (.aj s.length) (.int d) (bU s R F)=ok (fT (R d.toNat)) (bU s R F):=by
 simp only[ak,gU,res,C2,xq h0 h1,bx]
def IA {F:Nat->Bool} {d:Int} (h0:0<=d) (h1:d<32):ak (.aj (s.length+1)) (.int d) (bU s R F)=ok (.bl (F d.toNat)) (bU s R F):=by
 simp only[ak,gU,res,K4,xq h0 h1,bx]
def IC {α:Type} {n d:Nat} {f:Nat->α} {x:α}:((ß n).map f).set d x=(ß n).map (dX f d x):=by
 apply ź;intro i;by_cases hi:i<n
 ·by_cases e:d=i
  ·subst e
   rw[ã (by simpa using hi),ç,Ĕ hi];simp[dX]
  ·rw[Ø e,ç,ç,Ĕ hi]
   simp[dX,Ň e]
 ·rw[Ċ (by simpa using hi),Ċ (by simpa using hi)]
def xF {n:Nat} {d:Int} (h0:0<=d) (h1:d<n):gn n d=some d.toNat:=by
 unfold gn;rw[Ú h0,Ú h1]
def Ht {α β:Type} {f:Nat->α} {g:α->β} {d:Nat} {x:α}:(λe=>g (dX f d x e))=dX (λe=>g (f e)) d (g x):=by
 funext e;unfold dX
 split<;>rfl
def xr {s:ag} {R:Rw} {F:Nat->Bool} {d:Int} {x:Bool×Bool} (h0:0<=d) (h1:d<31):iA (.aj s.length) (.int d) (fT x) (bU s R F)=some (bU s (dX R d.toNat x) F):=by
 have e:ux (dX R d.toNat x)=.lst (((ß 31).map λd=>fT (R d)).set d.toNat (fT x)):=by
  rw[IC];show Cell.lst ((ß 31).map λe=>fT (dX R d.toNat x e))=_;rw[Ht (g:=fT)]
 rw[show bU s (dX R d.toNat x) F=s++[ux (dX R d.toNat x),fc F] from rfl,e];simp only[iA,C2,Ä,ľ,xF h0 h1];simp[bU,ű]
def Q6 {s:ag} {R:Rw} {F:Nat->Bool} {d:Int} {x:Bool} (h0:0<=d) (h1:d<32):iA (.aj (s.length+1)) (.int d) (.bl x) (bU s R F)=some (bU s R (dX F d.toNat x)):=by
 have e:fc (dX F d.toNat x)=.lst (((ß 32).map λd=>D.bl (F d)).set d.toNat (.bl x)):=by
  rw[IC];show Cell.lst ((ß 32).map λe=>D.bl (dX F d.toNat x e))=_;rw[Ht (g:=D.bl)]
 rw[show bU s R (dX F d.toNat x)=s++[ux R,fc (dX F d.toNat x)] from rfl,e];simp only[iA,K4,Ä,ľ,xF h0 h1];simp[bU,ű]
def xt (p:Bool->Bool) (h:∀b,t (some (.bl b)::caps) s=ok (p b) s):eT 1 caps (gN 0) t (aa 0) ((js x).map D.bl) s=ok ((js (x.1&&p false,x.2&&p true)).map D.bl) s:=by
 rw[comp_map D.bl p D.bl (js x) λb _=>⟨some (.bl b)::caps,rfl,h b,λ_=>rfl⟩,NA]
def w9 (x:Bool×Bool):((js x).map D.bl).length<=Õ:=by
 refine hU ?_;obtain⟨f,t⟩:=x
 cases f<;>cases t<;>simp[js]
def gL (m k:Int) (x:Rw×(Nat->Bool)) (p:Pg):Rw×(Nat->Bool):=match p with
 | .aO m' d k'=>if (decide (m'=m)&&decide (k'=k))=true then (dX x.1 d.toNat ((x.1 d.toNat).1,false),dX x.2 d.toNat true) else x
 | .made m' d h l=>if (decide (m'=m)&&decide (k∈h++l))=true then (dX x.1 d.toNat ((x.1 d.toNat).1&&!decide (k∈h),(x.1 d.toNat).2&&decide (k∈h)),x.2) else x
def Q7 (hd:0<=p.day/\p.day<31) (hf:jX p)
 (q:Q (.nx [some (bD ps),some (.int m),some (.int k),some (.aj s.length),some (.aj (s.length+1)),some p.d,a6,a7,a8]) (bU s (gL m k (R,F) p).1 (gL m k (R,F) p).2)) :
  Wp ((ay (cc (cG (aF (e2 aT (e2 ak (aa 5) (eC (.int 0))) (eC (.str "mended")))) (cG (aF (e2 aT (e2 ak (aa 5) (eC (.int 1))) (aa 1))) (aF (e2 aT (e2 ak (aa 5) (eC (.int 3))) (aa 2))))) (ay (ie (aU 1 [] (bj (e2 ak (aa 3) (e2 ak (aa 5) (eC (.int 2))))) (gN 0) (fe (cK (aa 0))) (aa 0)) (aa 3) (e2 ak (aa 5) (eC (.int 2)))) (ie (eC (.bl true)) (aa 4) (e2 ak (aa 5) (eC (.int 2))))) bX) (cc (cG (aF (e2 aT (e2 ak (aa 5) (eC (.int 0))) (eC (.str "made")))) (cG (aF (e2 aT (e2 ak (aa 5) (eC (.int 1))) (aa 1))) (aF (e2 cv (aa 2) (e2 bO (e2 ak (e2 ak (aa 5) (eC (.int 3))) (eC (.int 0))) (e2 ak (e2 ak (aa 5) (eC (.int 3))) (eC (.int 1)))))))) (ie (aU 1 [2,5] (bj (e2 ak (aa 3) (e2 ak (aa 5) (eC (.int 2))))) (gN 0) (aF (e2 aT (aa 0) (e2 cv (aa 1) (e2 ak (e2 ak (aa 2) (eC (.int 3))) (eC (.int 0)))))) (aa 0)) (aa 3) (e2 ak (aa 5) (eC (.int 2)))) bX)) [some (bD ps),some (.int m),some (.int k),some (.aj s.length),some (.aj (s.length+1)),some p.d,a6,a7,a8] (bU s R F)) Q:=by
 have row:∀{R:Rw} {F:Nat->Bool},bj (e2 ak (aa 3) (e2 ak (aa 5) (eC (.int 2)))) [some (bD ps),some (.int m),some (.int k),some (.aj s.length),some (.aj (s.length+1)),some p.d,a6,a7,a8] (bU s R F)=ok ((js (R p.day.toNat)).map D.bl) (bU s R F):=λ{R F}=>by
  refine il (Wp.eq ?_);simp only[VC,(qt p _).2];exact Wp.of (tU hd.1 hd.2) ⟨rfl,rfl⟩
 cases p with
 |aO m' d k' =>
  have t1:cG (aF (e2 aT (e2 ak (aa 5) (eC (.int 0))) (eC (.str "mended")))) (cG (aF (e2 aT (e2 ak (aa 5) (eC (.int 1))) (aa 1))) (aF (e2 aT (e2 ak (aa 5) (eC (.int 3))) (aa 2)))) [some (bD ps),some (.int m),some (.int k),some (.aj s.length),some (.aj (s.length+1)),some (Pg.aO m' d k').d,a6,a7,a8] (bU s R F)=ok (decide (m'=m)&&decide (k'=k)) (bU s R F):=by
   refine Wp.eq ?_;simp only[VC,Pg.d,(fk _ _ _ _ _).1,(fk _ _ _ _ _).2.1,(fk _ _ _ _ _).2.2.2,jC,ę,û];by_cases e:m'=m
   ·by_cases e2:k'=k<;>simp[e,e2]
   ·simp[e]
  have t2:∀st,cG (aF (e2 aT (e2 ak (aa 5) (eC (.int 0))) (eC (.str "made")))) (cG (aF (e2 aT (e2 ak (aa 5) (eC (.int 1))) (aa 1))) (aF (e2 cv (aa 2) (e2 bO (e2 ak (e2 ak (aa 5) (eC (.int 3))) (eC (.int 0))) (e2 ak (e2 ak (aa 5) (eC (.int 3))) (eC (.int 1))))))) [some (bD ps),some (.int m),some (.int k),some (.aj s.length),some (.aj (s.length+1)),some (Pg.aO m' d k').d,a6,a7,a8] st=ok false st:=λst=>by
   refine Wp.eq ?_;simp only[VC,Pg.d,(fk _ _ _ _ _).1,jC,ñ tI,Ã,ê,ğ]
  have fin:∀st,Q (.nx [some (bD ps),some (.int m),some (.int k),some (.aj s.length),some (.aj (s.length+1)),some (Pg.aO m' d k').d,a6,a7,a8]) st->Wp (cc (cG (aF (e2 aT (e2 ak (aa 5) (eC (.int 0))) (eC (.str "made")))) (cG (aF (e2 aT (e2 ak (aa 5) (eC (.int 1))) (aa 1))) (aF (e2 cv (aa 2) (e2 bO (e2 ak (e2 ak (aa 5) (eC (.int 3))) (eC (.int 0))) (e2 ak (e2 ak (aa 5) (eC (.int 3))) (eC (.int 1)))))))) (ie (aU 1 [2,5] (bj (e2 ak (aa 3) (e2 ak (aa 5) (eC (.int 2))))) (gN 0) (aF (e2 aT (aa 0) (e2 cv (aa 1) (e2 ak (e2 ak (aa 2) (eC (.int 3))) (eC (.int 0)))))) (aa 0)) (aa 3) (e2 ak (aa 5) (eC (.int 2)))) bX [some (bD ps),some (.int m),some (.int k),some (.aj s.length),some (.aj (s.length+1)),some (Pg.aO m' d k').d,a6,a7,a8] st) Q:=λst q=>by
   rw[wp_sIf];refine Wp.of (t2 st) ?_;rw[æ Ë,wp_sNil];exact q
  rw[wp_sSeq,wp_sIf];refine Wp.of t1 ?_;unfold gL at q
  cases hc:(decide (m'=m)&&decide (k'=k)) with
  |false =>
   simp only[hc,Ã,ê] at q;rw[æ Ë,wp_sNil,aft_nx];exact fin _ q
  |true =>
   simp only[hc,û] at q;rw[Ú rfl,wp_sSeq,wp_sSub,wp_comp];refine Wp.of row ⟨w9 _,?_⟩;refine Wp.of (xt (λb=>!b) λb=>rfl) ?_;simp only[wp_loc0,wp_locS,wp_e2,wp_C,(qt (Pg.aO m' d k') _).2,wp_ok];refine⟨_,xr hd.1 hd.2,?_⟩;rw[aft_nx,wp_sSub];simp only[wp_loc0,wp_locS,wp_e2,wp_C,(qt (Pg.aO m' d k') _).2,wp_ok];refine⟨_,Q6 hd.1 (by have:=hd.2;omega),?_⟩;rw[aft_nx];refine fin _ ?_;simpa [TK.Pg.day] using q
 |made m' d h l =>
  have t1:∀st,cG (aF (e2 aT (e2 ak (aa 5) (eC (.int 0))) (eC (.str "mended")))) (cG (aF (e2 aT (e2 ak (aa 5) (eC (.int 1))) (aa 1))) (aF (e2 aT (e2 ak (aa 5) (eC (.int 3))) (aa 2)))) [some (bD ps),some (.int m),some (.int k),some (.aj s.length),some (.aj (s.length+1)),some (Pg.made m' d h l).d,a6,a7,a8] st=ok false st:=λst=>by
   refine Wp.eq ?_;simp only[VC,Pg.d,(fk _ _ _ _ _).1,jC,ñ Io,Ã,ê,ğ]
  have t2:cG (aF (e2 aT (e2 ak (aa 5) (eC (.int 0))) (eC (.str "made")))) (cG (aF (e2 aT (e2 ak (aa 5) (eC (.int 1))) (aa 1))) (aF (e2 cv (aa 2) (e2 bO (e2 ak (e2 ak (aa 5) (eC (.int 3))) (eC (.int 0))) (e2 ak (e2 ak (aa 5) (eC (.int 3))) (eC (.int 1))))))) [some (bD ps),some (.int m),some (.int k),some (.aj s.length),some (.aj (s.length+1)),some (Pg.made m' d h l).d,a6,a7,a8] (bU s R F)=ok (decide (m'=m)&&decide (k∈h++l)) (bU s R F):=by
   refine Wp.eq ?_;simp only[VC,Pg.d,(fk _ _ _ _ _).1,(fk _ _ _ _ _).2.1,(fk _ _ _ _ _).2.2.2,jC,ę,û];by_cases e:m'=m
   ·simp only[VC,e,Ġ,û,(qr _ _ _).1,(qr _ _ _).2,ę,í]
    refine Wp.of (fL (a:=h) (b:=l) (by have:=hf.1;have:=hf.2;omega)) ?_;refine Wp.of (oR (ns:=h++l)) ?_;simp only[VC,ğ]
   ·simp[e]
  rw[wp_sSeq,wp_sIf];refine Wp.of (t1 _) ?_;rw[æ Ë,wp_sNil,aft_nx,wp_sIf];refine Wp.of t2 ?_;unfold gL at q
  cases hc:(decide (m'=m)&&decide (k∈h++l)) with
  |false =>
   simp only[hc,Ã,ê] at q;rw[æ Ë,wp_sNil];exact q
  |true =>
   simp only[hc,û] at q;rw[Ú rfl,wp_sSub,wp_comp];refine Wp.of row ⟨w9 _,?_⟩;refine Wp.of (xt (caps:=[some (.int k),some (Pg.made m' d h l).d]) (λb=>b==decide (k∈h)) λb=>?_) ?_
   ·refine Wp.eq ?_
    simp only[VC,Pg.d,(fk _ _ _ _ _).2.2.2,(qr _ _ _).1];refine Wp.of (oR (ns:=h)) ?_;refine Wp.of (show aT (.bl b) (.bl (decide (k∈h))) (bU s R F)=ok (.bl (b==decide (k∈h))) (bU s R F) from rfl) ?_;simp only[VC,ğ]
   ·simp only[wp_loc0,wp_locS,wp_e2,wp_C,(qt (Pg.made m' d h l) _).2,wp_ok]
    refine⟨_,xr hd.1 hd.2,?_⟩
    have e1:(false==decide (k∈h))=!decide (k∈h):=by cases decide (k∈h)<;>rfl
    have e2:(true==decide (k∈h))=decide (k∈h):=by cases decide (k∈h)<;>rfl
    rw[e1,e2];exact q
abbrev iN (L:Nat->List Int) (n:Nat):List D:=(ß n).map λx=>lI (L x)
section
variable {W:ď} {k j b n:Nat} {s0 s:ag} {M L:Nat->List Int} {R T:Pg->Prop}
def Ot (h:BJ W k j b n s0 s M R T) (hL:s[b+8]?=some (.lst (iN L i))) (hi:i<8) (hj:j≠k) (hb:∀i,i<8->b+i≠k) (lj:b+8≠k) (qy:b+8≠j) (Y5:s0.length<=b)
 (g:∀(ds:List Int) (c:Bool) s',Lf (M i) c 31 ds->BJ W k j b n s0 s' M R T->s'[b+8]?=some (.lst (iN (λx=>if x=i then ds else L x) (i+1)))->Q (.nx [some (.aj k),some (.aj j),some (.int mo),some (.int of),some (.int mu),some (memD b),some (.aj (b+8)),a7,some (.int i),a9,sG,sH]) s') :
  Wp ((fF (ic (aa 6) (ax qI (ae (aa 0) (ae (e2 ak (aa 5) (aa 8)) ah))))) [some (.aj k),some (.aj j),some (.int mo),some (.int of),some (.int mu),some (memD b),some (.aj (b+8)),a7,some (.int i),a9,sG,sH] s) Q:=by
 simp only[VC];refine⟨by simp only[iY,hL],?_⟩;refine Wp.of (JF (i:=(i:Int)) (by omega) (by omega)) ?_;rw[õ];refine(PC h.st (h.aO i hi) (hb i hi)).mono λd t1 hd=>?_;obtain⟨ds,c,rfl,lf,h1,e1⟩:=hd;have B1:=h.draw hj hb e1 h1;have yQ:t1[b+8]?=some (.lst (iN L i)):=(e1.val _ (Å.mp hL).1 lj).trans hL
 have ap:iX (.aj (b+8)) (lI ds) t1=ok .au (t1.set (b+8) (.lst (iN (λx=>if x=i then ds else L x) (i+1)))):=by
  unfold iX;simp only[yQ];rw[Ú (by rw[È,Ä,ľ];exact Ê (show i<1000 by omega) (le_size (by decide)))];congr 4;unfold iN;rw[ž,č];congr 1
  ·refine aaP λx hx=>?_
   rw[Ā] at hx
   show lI (L x)=lI (if x=i then ds else L x)
   rw[æ (by omega)]
  ·simp
 refine Wp.of ap (g ds c _ lf ⟨B1.st.set lj _,B1.dict.set qy _,λi hi=>(Ø (by omega)).trans (B1.aO i hi),B1.ext.qu (by omega) _⟩ (ã (Å.mp yQ).1))
def Ou (h:BJ W k j b n s0 s M R T) (hL:s[b+8]?=some (.lst (iN L 8))) (hj:j≠k) (hb:∀i,i<8->b+i≠k) (lj:b+8≠k) (lh:∀i,i<8->b+i≠j) (qy:b+8≠j) (hl:s0.length<=j) (hn:n<1000) (o1:0<of) (o2:of<=3) (zm:0<=mu/\mu<4)
 (hR:∀(d:Int) (u v:List Int),dR (.made mu d u v)=true->(∀x∈u,d∈L x.toNat)->(∀x∈v,d∉L x.toNat)->R (.made mu d u v))
 (g:∀(b9 fX fY:Option D) (s':ag),BJ W k j b (n+1) s0 s' M R T->s'[b+8]?=some (.lst (iN L 8))->Q (.nx [some (.aj k),some (.aj j),some (.int mo),some (.int of),some (.int mu),a5,some (.aj (b+8)),a7,a8,b9,fX,fY]) s') :
  Wp ((ay (aJ (ax bG (ae (aa 0) (ae (eC (.int 31)) ah))) (gN 9)) (ay (aJ (aU 1 [0,3] (bP (ae (eC (.int 8)) ah)) (gN 0) (aF (e2 aT (ax bG (ae (aa 1) (ae (aa 2) ah))) (eC (.int 0)))) (aa 0)) (gN 10)) (ay (aJ (eB cC (ae (aU 1 [9,6] (bj (aa 10)) (gN 0) (aF (e2 cv (aa 1) (e2 ak (aa 2) (aa 0)))) (aa 0)) ah)) (gN 11)) (TK.my W (eC (.bl true)) (aa 1) (aX (ae (eC (.str "made")) (ae (aa 4) (ae (aa 9) (ae (aX (ae (aa 11) (ae (eB cC (ae (aU 1 [9,6] (bj (aa 10)) (gN 0) (aF (e2 fE (aa 1) (e2 ak (aa 2) (aa 0)))) (aa 0)) ah)) ah))) ah))))))))) [some (.aj k),some (.aj j),some (.int mo),some (.int of),some (.int mu),a5,some (.aj (b+8)),a7,a8,a9,sG,sH] s) Q:=by
 rw[wp_sSeq];simp only[VC];refine(dH h.st (by decide) (by decide)).mono λd t1 qv=>?_;obtain⟨x1,rfl,sE,sF,h1,e1⟩:=qv;have B1:=h.draw hj hb e1 h1;have L1:t1[b+8]?=some (.lst (iN L 8)):=(e1.val _ (Å.mp hL).1 lj).trans hL
 try simp only[VC]
 refine Wp.of (eh (n:=8) rfl (by decide)) ⟨by rw[cg];exact le_size (by decide),?_⟩;have seen:Wp (eT 1 (fQ [0,3] [some (.aj k),some (.aj j),some (.int mo),some (.int of),some (.int mu),a5,some (.aj (b+8)),a7,a8,some (.int x1),sG,sH]) (gN 0) (aF (e2 aT (ax bG (ae (aa 1) (ae (aa 2) ah))) (eC (.int 0)))) (aa 0) (bM 0 8) t1)
   λxs s'=>∃ns:List Int,xs=ns.map D.int/\(∀x∈ns,0<=x/\x<8)/\(ns.Pairwise (· < ·)/\ns.length<=8)/\BJ W k j b n s0 s' M R T/\s'[b+8]?=some (.lst (iN L 8)):=by
  refine mi (λi acc s'=>i<=8->∃ns:List Int,acc=ns.map D.int/\(∀x∈ns,0<=x/\x<8/\x<i)/\(ns.Pairwise (· < ·)/\ns.length<=i)/\BJ W k j b n s0 s' M R T/\s'[b+8]?=some (.lst (iN L 8))) (bM 0 8) (λ_=>⟨[],rfl,by simp,⟨.nil,Nat.le_refl _⟩,B1,L1⟩) (λi d acc s' hd hI=>?_) λacc s' hI=>?_
  ·rw[gA] at hd
   split at hd
   ·rename_i hi
    cases hd;obtain⟨ns,rfl,m1,⟨zo,m2⟩,B,L'⟩:=hI (by omega);refine⟨[some (.int (0+i)),some (.aj k),some (.int of)],rfl,?_⟩;simp only[VC];refine(dH B.st o1 (by omega)).mono λd t2 hd2=>?_;obtain⟨x2,rfl,_,_,h2,e2⟩:=hd2
    try simp only[VC]
    have B':=B.draw hj hb e2 h2;have L2:t2[b+8]?=some (.lst (iN L 8)):=(e2.val _ (Å.mp L').1 lj).trans L';split
    ·exact λ_=>⟨ns++[0+(i:Int)],by simp,λx hx=>by
      rcases Ù.mp hx with hx|hx
      ·have:=m1 x hx;omega
      ·rw[Ü.mp hx];omega,⟨aay.mpr ⟨zo,aa3 _ _,λa ha b hb=>by rw[Ü.mp hb];have:=m1 a ha;omega⟩,by simp;omega⟩,B',L2⟩
    ·exact λ_=>⟨ns,rfl,λx hx=>by have:=m1 x hx;omega,⟨zo,by omega⟩,B',L2⟩
   ·cases hd
  ·rw[cg] at hI
   obtain⟨ns,e,m1,r⟩:=hI (Nat.le_refl _);exact⟨ns,e,λx hx=>⟨(m1 x hx).1,(m1 x hx).2.1⟩,r⟩
 refine seen.mono λxs t2 hx=>?_;obtain⟨ns,rfl,m1,⟨zo,m2⟩,B2,le⟩:=hx;have mk:dC 8 ns:=⟨m1,zo⟩
 try simp only[VC]
 have L0:∀x∈ns,ak (.aj (b+8)) (.int x) t2=ok (lI (L x.toNat)) t2:=λx hx=>by
  have:=m1 x hx;simp only[ak,gU,res,le,iN,xq (n:=8) this.1 (by omega),bx]
 refine Wp.of (il (ds:=ns.map D.int) rfl) ⟨hU (by rw[Ä];omega),?_⟩;refine Wp.of (gZ (λx=>decide (x1∈L x.toNat)) (λx=>.int x) ns λx hx=>⟨[some (.int x),some (.int x1),some (.aj (b+8))],rfl,?_,λ_=>rfl⟩) ?_
 ·refine Wp.eq ?_
  simp only[VC];refine Wp.of (L0 x hx) ?_;simp only[VC,rH,ğ]
 refine Wp.of (show cC [.lst ((ns.filter λx=>decide (x1∈L x.toNat)).map λx=>.int x)] t2=ok (mD (ns.filter λx=>decide (x1∈L x.toNat))) t2 from rfl) ?_;rw[Iq];simp only[VC];refine Wp.of (il (ds:=ns.map D.int) rfl) ⟨hU (by rw[Ä];omega),?_⟩;refine Wp.of (gZ (λx=>!decide (x1∈L x.toNat)) (λx=>.int x) ns λx hx=>⟨[some (.int x),some (.int x1),some (.aj (b+8))],rfl,?_,λ_=>rfl⟩) ?_
 ·refine Wp.eq ?_
  simp only[VC];refine Wp.of (L0 x hx) ?_;simp only[VC,oM,ğ]
 refine Wp.of (show cC [.lst ((ns.filter λx=>!decide (x1∈L x.toNat)).map λx=>.int x)] t2=ok (mD (ns.filter λx=>!decide (x1∈L x.toNat))) t2 from rfl) ?_;refine⟨by decide,by decide,?_⟩;obtain⟨s',e,B4,e4⟩:=B2.put hj lh hl (p:=.made mu x1 (ns.filter λx=>decide (x1∈L x.toNat)) (ns.filter λx=>!decide (x1∈L x.toNat))) (hR x1 _ _ (PB zm ⟨sE,sF⟩ (mk.filter _) (mk.filter _) (Nat.le_refl _) λx hx hl=>by simpa [(ć.mp hx).2] using (ć.mp hl).2) (λx hx=>by simpa using (ć.mp hx).2) (λx hx=>by simpa using (ć.mp hx).2)) hn;exact⟨s',e,g _ _ _ _ ⟨B4.st,B4.dict.mono (λ_ h=>h) (λ_ h=>.inl h),B4.aO,B4.ext⟩ ((e4.val _ (Å.mp le).1 qy).trans le)⟩
end
def zp (mu:Int) (M:Nat->List Int) (p:Pg):Prop:=dR p=true/\∃(d:Int) (x:Nat),x<8/\p=.aO mu d x/\d∈M x
def Zd (mu:Int) (M L:Nat->List Int):Pg->Prop
 | .aO m d k=>m=mu/\d∈M k.toNat
 | .made m d u v=>m=mu/\(∀x∈u,d∈L x.toNat)/\∀x∈v,d∉L x.toNat
def Ag (mu:Int) (M L:Nat->List Int) (p:Pg):Prop:=dR p=true/\Zd mu M L p
def NB (h:bh s k) (hd:eJ W R0 T0 s j n) (x0:Ex k s0 s) (hj:j≠k) (hl:s0.length<=j) (hn:n<900) (o1:0<of) (o2:of<=3) (zm:0<=mu/\mu<4)
 (g:∀(b5 b6 b7 b8 b9 fX fY:Option D) (s':ag) (M L:Nat->List Int),(∀x,x<8->∃c,Lf (M x) c 31 (L x))->bh s' k->eJ W (λp=>R0 p\/Ag mu M L p) (λq=>T0 q\/∃(x:Nat) (d:Int),x<8/\d∈M x/\q=.aO mu d x) s' j (n+7)->Ex k s0 s'->Q (.nx [some (.aj k),some (.aj j),some (.int mo),some (.int of),some (.int mu),b5,b6,b7,b8,b9,fX,fY]) s') :
  Wp ((ay (aJ (aX (ae (aU 1 [] (bP (ae (eC (.int 8)) ah)) (gN 0) bQ (eNew ah)) (ae (eNew ah) ah))) (gT [(gN 5),(gN 6)])) (ay (eU (bP (ae (ax bG (ae (aa 0) (ae (eC (.int 4)) ah))) ah)) (gN 7) (ay (aJ (aX (ae (ax bG (ae (aa 0) (ae (eC (.int 8)) ah))) (ae (ax bG (ae (aa 0) (ae (eC (.int 31)) ah))) ah))) (gT [(gN 8),(gN 9)])) (ay (fF (ic (e2 ak (aa 5) (aa 8)) (aa 9))) (TK.my W (eC (.bl true)) (aa 1) (aX (ae (eC (.str "mended")) (ae (aa 4) (ae (aa 9) (ae (aa 8) ah))))))))) (ay (eU (bP (ae (eC (.int 8)) ah)) (gN 8) (fF (ic (aa 6) (ax qI (ae (aa 0) (ae (e2 ak (aa 5) (aa 8)) ah)))))) (eU (bP (ae (ax bG (ae (aa 0) (ae (eC (.int 5)) ah))) ah)) (gN 7) (ay (aJ (ax bG (ae (aa 0) (ae (eC (.int 31)) ah))) (gN 9)) (ay (aJ (aU 1 [0,3] (bP (ae (eC (.int 8)) ah)) (gN 0) (aF (e2 aT (ax bG (ae (aa 1) (ae (aa 2) ah))) (eC (.int 0)))) (aa 0)) (gN 10)) (ay (aJ (eB cC (ae (aU 1 [9,6] (bj (aa 10)) (gN 0) (aF (e2 cv (aa 1) (e2 ak (aa 2) (aa 0)))) (aa 0)) ah)) (gN 11)) (TK.my W (eC (.bl true)) (aa 1) (aX (ae (eC (.str "made")) (ae (aa 4) (ae (aa 9) (ae (aX (ae (aa 11) (ae (eB cC (ae (aU 1 [9,6] (bj (aa 10)) (gN 0) (aF (e2 fE (aa 1) (e2 ak (aa 2) (aa 0)))) (aa 0)) ah)) ah))) ah))))))))))))) [some (.aj k),some (.aj j),some (.int mo),some (.int of),some (.int mu),a5,a6,a7,a8,a9,sG,sH] s) Q:=by
 have hk:=h.lt;have sC:=hd.lt;have vF:s0.length<=s.length:=x0.len;rw[wp_sSeq];simp only[wp_sAsg,wp_tup,wp_aCons,wp_aNil];refine SO ?_;simp only[wp_new,wp_aNil];refine⟨by decide,le_size (by simp only[å,î];decide),?_⟩;simp only[asg_T,asg_cons,asg_nil,ï,ð,aft_nx];generalize fO:s++Ï 8 (Cell.lst [])++[Cell.lst []]=s1;have Ze:(s++Ï 8 (Cell.lst [])).length=s.length+8:=by simp
 rw[Ze];have e1:Ex k s s1:=by rw[<- fO,ķ];exact Ex.app k s _
 have B1:BJ W k j s.length n s0 s1 (λ_=>[]) R0 T0:=by
  refine⟨by rw[<- fO,ķ];exact h.app _,hd.ex e1 hj,λi hi=>?_,x0.trans e1⟩;rw[<- fO,ķ,ü (by omega),ä (by simp;omega),show s.length+i-s.length=i by omega,ĭ,Ú hi];rfl
 have L1:s1[s.length+8]?=some (.lst []):=by rw[<- fO,ü (by simp)];simp
 have hb:∀i,i<8->s.length+i≠k:=λi _=>by omega
 have lh:∀i,i<8->s.length+i≠j:=λi _=>by omega
 have lj:s.length+8≠k:=by omega
 have qy:s.length+8≠j:=by omega
 rw[wp_sSeq,wp_sFor];obtain⟨_,t1,et,x1,rfl,sE,sF,h1,L7⟩:=dH (m:=4) B1.st (by decide) (by decide);refine Wp.of (xm (s1:=t1) (n:=x1.toNat) (i:=x1) (Wp.eq (by simp only[VC];exact Wp.of et ⟨rfl,rfl⟩)) (by omega) (by omega)) ?_;have B2:=B1.draw hj hb L7 h1;have L2:t1[s.length+8]?=some (.lst []):=(L7.val _ (Å.mp L1).1 lj).trans L1;have Zf:BJ W k j s.length n s0 t1 (λ_=>[]) (λp=>R0 p\/zp mu (λ_=>[]) p) (λq=>T0 q\/∃(x:Nat) (d:Int),x<8/\d∈(λ_=>([]:List Int)) x/\q=.aO mu d x) :=
  ⟨B2.st,B2.dict.mono (λ_ h=>.inl h) (λq hq=>by rcases hq with hq | ⟨x,d,_,hd,_⟩;exact hq;exact(ĕ hd).elim),B2.aO,B2.ext⟩
 refine Wp.iZ (λi env s'=>i<=x1.toNat->∃b7 b8 b9 fX fY M,env=[some (.aj k),some (.aj j),some (.int mo),some (.int of),some (.int mu),some (memD s.length),some (.aj (s.length+8)),b7,b8,b9,fX,fY]/\(∀x,x<8->(M x).length<=i)/\BJ W k j s.length (n+i) s0 s' M (λp=>R0 p\/zp mu M p) (λq=>T0 q\/∃(x:Nat) (d:Int),x<8/\d∈M x/\q=.aO mu d x)/\s'[s.length+8]?=some (.lst [])) _ (λ_=>⟨_,_,_,_,_,_,rfl,λ_ _=>Nat.le_refl _,Zf,L2⟩) (λi d env s' hd hI=>?_) (λenv s' hI=>?_)
 ·rw[gA] at hd
  split at hd
  ·cases hd
   obtain⟨b7,b8,b9,fX,fY,M,rfl,ml,B,L⟩:=hI (by omega);refine⟨_,rfl,?_⟩
   refine Oo B hj hb lh hl vF (by omega) (λx hx=>by have:=ml x hx;omega) λx d c8 c9 s2 hx hd B' keep=>(λ_=>⟨_,_,_,_,_,λi=>if i=x then M i++[d] else M i,rfl,λy hy=>?_,?_,(keep _ (Å.mp L).1 lj qy λi hi=>by omega).trans L⟩)
   ·have:=ml y hy
    show (if y=x then M y++[d] else M y).length<=i+1
    split
    ·rw[â,abx];omega
    ·omega
   ·have sub:∀y e,e∈M y->e∈(if y=x then M y++[d] else M y):=λy e he=>by
     split
     ·exact Ù.mpr (.inl he)
     ·exact he
    have zq:=B' (R':=λp=>R0 p\/zp mu (λi=>if i=x then M i++[d] else M i) p) (λp hp=>by
     rcases hp with hp | ⟨h1,e,y,h2,h3,h4⟩
     ·exact .inl hp
     ·exact .inr ⟨h1,e,y,h2,h3,sub y e h4⟩) (.inr ⟨Pz zm hd (by omega),d,x,hx,rfl,by show d∈(if x=x then M x++[d] else M x);rw[Ú rfl];simp⟩)
    exact⟨zq.st,zq.dict.mono (λ_ h=>h) (λq hq=>by
     rcases hq with hq | ⟨y,e,h1,h2,h3⟩
     ·exact .inl (.inl hq)
     ·have h5:e∈(if y=x then M y++[d] else M y):=h2
      by_cases ql:y=x
      ·rw[Ú ql] at h5
       rcases Ù.mp h5 with h6|h6
       ·exact .inl (.inr ⟨y,e,h1,h6,h3⟩)
       ·rw[Ü.mp h6,ql] at h3
        exact .inr h3
      ·rw[æ ql] at h5
       exact .inl (.inr ⟨y,e,h1,h5,h3⟩)),zq.aO,zq.ext⟩
  ·cases hd
 rw[cg] at hI;obtain⟨b7,b8,b9,fX,fY,M,rfl,ml,B3,L3⟩:=hI (Nat.le_refl _);rw[aft_nx,wp_sSeq,wp_sFor];refine Wp.of (eh (n:=8) rfl (by decide)) ?_;refine Wp.iZ (λi env s'=>i<=8->∃b7 b8 b9 fX fY L,env=[some (.aj k),some (.aj j),some (.int mo),some (.int of),some (.int mu),some (memD s.length),some (.aj (s.length+8)),b7,b8,b9,fX,fY]/\(∀x,x<i->∃c,Lf (M x) c 31 (L x))/\BJ W k j s.length (n+x1.toNat) s0 s' M (λp=>R0 p\/zp mu M p) (λq=>T0 q\/∃(x:Nat) (d:Int),x<8/\d∈M x/\q=.aO mu d x)/\s'[s.length+8]?=some (.lst (iN L i))) _ (λ_=>⟨_,_,_,_,_,λ_=>[],rfl,λx hx=>(Nat.not_lt_zero x hx).elim,B3,L3⟩) (λi d env s' hd hI=>?_) (λenv s' hI=>?_)
 ·rw[gA] at hd
  split at hd
  ·rename_i hi
   cases hd;obtain⟨b7,b8,b9,fX,fY,L,rfl,lf,B,hL⟩:=hI (by omega);refine⟨_,rfl,?_⟩;simp only[aaV,ï,ð]
   refine Ot B hL hi hj hb lj qy vF λds c s2 l2 B' L'=>(λ_=>⟨_,_,_,_,_,λx=>if x=i then ds else L x,rfl,λx hx=>?_,B',L'⟩)
   by_cases L8:x=i
   ·subst L8
    exact⟨c,by show Lf (M x) c 31 (if x=x then ds else L x);rw[Ú rfl];exact l2⟩
   ·obtain⟨c,l⟩:=lf x (by omega)
    exact⟨c,by show Lf (M x) c 31 (if x=i then ds else L x);rw[æ L8];exact l⟩
  ·cases hd
 rw[cg] at hI;obtain⟨b7,b8,b9,fX,fY,L,rfl,lf,zr,L4⟩:=hI (Nat.le_refl _);have B4:BJ W k j s.length (n+x1.toNat) s0 s' M (λp=>R0 p\/Ag mu M L p) (λq=>T0 q\/∃(x:Nat) (d:Int),x<8/\d∈M x/\q=.aO mu d x):=⟨zr.st,zr.dict.mono (λp hp=>by
  rcases hp with hp | ⟨h1,e,y,h2,rfl,h4⟩
  ·exact .inl hp
  ·exact .inr ⟨h1,rfl,by rw[õ];exact h4⟩) (λ_ h=>h),zr.aO,zr.ext⟩
 rw[aft_nx,wp_sFor];obtain⟨_,t5,Zg,x5,rfl,x50,x51,h5,L9⟩:=dH (m:=5) B4.st (by decide) (by decide);refine Wp.of (xm (s1:=t5) (n:=x5.toNat) (i:=x5) (Wp.eq (by simp only[VC];exact Wp.of Zg ⟨rfl,rfl⟩)) (by omega) (by omega)) ?_;have B5:=B4.draw hj hb L9 h5;have L5:t5[s.length+8]?=some (.lst (iN L 8)):=(L9.val _ (Å.mp L4).1 lj).trans L4;refine Wp.iZ (λi env s'=>i<=x5.toNat->∃b7 b8 b9 fX fY,env=[some (.aj k),some (.aj j),some (.int mo),some (.int of),some (.int mu),some (memD s.length),some (.aj (s.length+8)),b7,b8,b9,fX,fY]/\BJ W k j s.length (n+x1.toNat+i) s0 s' M (λp=>R0 p\/Ag mu M L p) (λq=>T0 q\/∃(x:Nat) (d:Int),x<8/\d∈M x/\q=.aO mu d x)/\s'[s.length+8]?=some (.lst (iN L 8))) _ (λ_=>⟨_,_,_,_,_,rfl,B5,L5⟩) (λi d env s' hd hI=>?_) (λenv s' hI=>?_)
 ·rw[gA] at hd
  split at hd
  ·rename_i hi
   cases hd;obtain⟨b7,b8,b9,fX,fY,rfl,B,hL⟩:=hI (by omega);refine⟨_,rfl,?_⟩;exact Ou B hL hj hb lj lh qy hl (by omega) o1 o2 zm (λd u v hp h1 h2=>.inr ⟨hp,rfl,h1,h2⟩) λc9 Zh Zi s2 B' L'=>(λ_=>⟨_,_,_,_,_,rfl,B',L'⟩)
  ·cases hd
 rw[cg] at hI;obtain⟨b7,b8,b9,fX,fY,rfl,B6,L6⟩:=hI (Nat.le_refl _);exact g _ _ _ _ _ _ _ _ M L lf B6.st (B6.dict.more (by omega)) B6.ext
def nX (ps:List Pg) (m k:Int):Rw×(Nat->Bool):=ps.foldl (gL m k) (λ_=>(true,true),λ_=>false)
def tV:Pg->Prop
 | .made _ _ h l=>∀x∈h,x∉l
 | .aO _ _ _=>True
def Ao {x a:Int} {l:List Int}:decide (x∈a::l)=(decide (x=a)||decide (x∈l)):=by
 by_cases h:x=a<;>simp[h]
def Hu {m k:Int} {d:Nat}:∀(ps:List Pg) (x:Rw×(Nat->Bool)),(∀p∈ps,0<=p.day/\tV p) ->
  ((ps.foldl (gL m k) x).1 d).1=((x.1 d).1&&!sN ps m k d)/\((ps.foldl (gL m k) x).1 d).2=((x.1 d).2&&(!mN ps m k d&&!lN ps m k d))/\(ps.foldl (gL m k) x).2 d=(x.2 d||mN ps m k d)
 | [],x,_=>by simp[sN,mN,lN,shown,bR,cO]
 |p::ps,x,h=>by
  obtain⟨i1,i2,i3⟩:=Hu (d:=d) ps (gL m k x p) λq hq=>h q (Ñ _ hq);obtain⟨hd,ha⟩:=h p Ò;rw[List.foldl_cons,i1,i2,i3];have key:((gL m k x p).1 d).1=((x.1 d).1&&!(j6 m k p&&decide ((d:Int)=p.day)))/\((gL m k x p).1 d).2=((x.1 d).2&&(!(ja m k p&&decide ((d:Int)=p.day))&&!(j7 m k p&&decide ((d:Int)=p.day))))/\(gL m k x p).2 d=(x.2 d||(ja m k p&&decide ((d:Int)=p.day))):=by
   have ed:decide ((d:Int)=p.day)=decide (d=p.day.toNat):=by
    by_cases e:d=p.day.toNat
    ·rw[Ý e,Ý (by omega)]
    ·rw[ñ e,ñ (by omega)]
   rw[ed]
   cases p with
   |aO m' d' k' =>
    simp only[gL,j6,j7,ja,TK.Pg.day,aaA,Ś,ŗ]
    cases (decide (m'=m)&&decide (k'=k)) with
    |false=>simp
    |true =>
     simp only[û,í,dX]
     by_cases e:d=d'.toNat<;>simp[e]
   |made m' d' h' l' =>
    simp only[gL,j6,j7,ja,TK.Pg.day,aaA,Ś,í,Bool.or_false];by_cases em:m'=m
    ·simp only[em,ę,í]
     by_cases e:d=d'.toNat
     ·subst e
      simp only[ę,ŗ];by_cases c1:k∈h'
      ·have c2:k∉l':=ha k c1
       simp[c1,c2,dX]
      ·by_cases c2:k∈l'<;>simp[c1,c2,dX]
     ·simp only[e,ab2,Bool.and_false,Ś,ŗ]
      by_cases c:k∈h'++l'<;>simp[c,dX,e]
    ·simp[em]
  obtain⟨k1,k2,k3⟩:=key;rw[k1,k2,k3];have e1:sN (p::ps) m k d=((j6 m k p&&decide ((d:Int)=p.day))||sN ps m k d):=by
   unfold sN shown;rw[ņ]
   cases j6 m k p with
   |false=>rw[æ Ë];rfl
   |true=>rw[Ú rfl,Ö,Ao];rfl
  have e2:lN (p::ps) m k d=((j7 m k p&&decide ((d:Int)=p.day))||lN ps m k d):=by
   unfold lN cO;rw[ņ]
   cases j7 m k p with
   |false=>rw[æ Ë];rfl
   |true=>rw[Ú rfl,Ö,Ao];rfl
  have e3:mN (p::ps) m k d=((ja m k p&&decide ((d:Int)=p.day))||mN ps m k d):=by
   unfold mN bR;rw[ņ]
   cases ja m k p with
   |false=>rw[æ Ë];rfl
   |true=>rw[Ú rfl,Ö,Ao];rfl
  rw[e1,e2,e3];generalize (j6 m k p&&decide ((d:Int)=p.day))=a;generalize (j7 m k p&&decide ((d:Int)=p.day))=b;generalize (ja m k p&&decide ((d:Int)=p.day))=c;refine⟨?_,?_,?_⟩
  ·cases a<;>cases sN ps m k d<;>cases (x.1 d).1<;>rfl
  ·cases b<;>cases c<;>cases lN ps m k d<;>cases mN ps m k d<;>cases (x.1 d).2<;>rfl
  ·cases c<;>cases mN ps m k d<;>cases x.2 d<;>rfl
def SR (h:∀p∈ps,0<=p.day/\tV p) (d:Nat):(nX ps m k).1 d=(f0 (sN ps m k) d,t0 (lN ps m k) (mN ps m k) d)/\(nX ps m k).2 d=mN ps m k d:=by
 obtain⟨h1,h2,h3⟩:=Hu (m:=m) (k:=k) (d:=d) ps (λ_=>(true,true),λ_=>false) h;refine⟨Prod.ext ?_ ?_,?_⟩
 ·show ((nX ps m k).1 d).1=_;unfold nX f0;rw[h1];simp
 ·show ((nX ps m k).1 d).2=_;unfold nX t0;rw[h2];simp
 ·unfold nX;rw[h3];simp
noncomputable abbrev ne2 (x:Bool×Bool):Bool:=x.1||x.2
def UX:gj (fT x) (.lst []) s=ok (.bl (ne2 x)) s:=by
 obtain⟨f,t⟩:=x
 cases f<;>cases t<;>rfl
def SS:AM [fT x,.bl b,.bl f] s=ok (.bl (!b&&(x.1||(f&&ne2 x)))) s:=by
 obtain⟨u,v⟩:=x
 cases u<;>cases v<;>cases b<;>cases f<;>rfl
def Q8:Ai [fT x,.bl b,.bl f] s=ok (.bl (x.2||(x.1&&(!b||f)))) s:=by
 obtain⟨u,v⟩:=x
 cases u<;>cases v<;>cases b<;>cases f<;>rfl
def UY:D6 (ae (eC (.int 29)) (ae (e1 jN (eC (.int 1))) (ae (e1 jN (eC (.int 1))) ah))) env s=ok ((ß 30).map λn:Nat=>D.int ((29-n:Nat):Int)) s:=by rfl
def r6 (x:Bool×Bool):D:=.tup ((js x).map D.bl)
def r9 (ps:List Pg) (m k:Int):D:=.lst ((ß 31).map λd=>r6 (bw (sN ps m k) (lN ps m k) (mN ps m k) d))
def Kp (s l m:Nat->Bool):bw s l m 30=fw s l m 30:=rfl
def ID (s l m:Nat->Bool) (h:d<=29):bw s l m d=((fw s l m d).1&&((bw s l m (d+1)).2||(bw s l m (d+1)).1),(fw s l m d).2&&((bw s l m (d+1)).2||((bw s l m (d+1)).1&&m (d+1)))):=by
 unfold bw;rw[show 30-d=(29-d)+1 by omega,show 30-(d+1)=29-d by omega];simp only[sI];rw[show 29-(29-d)=d by omega,show 30-(29-d)=d+1 by omega]
def JH (hl:ps.length<=1000) (hp:∀p∈ps,(0<=p.day/\p.day<31)/\jX p/\tV p):Wp (rf [bD ps,.int m,.int k] s) λd s'=>d=r9 ps m k/\∃c,s'=s++c:=by
 unfold rf;rw[wp_fn];refine⟨rfl,?_⟩;rw[wp_sSeq,wp_sAsg];unfold mj;simp only[bB];refine Wp.of (eh (n:=31) rfl (by decide)) ?_;rw[m9];refine⟨by rw[cg];exact le_size (by decide),?_⟩;rw[bB,uw];refine Wp.of (gZ (λ_=>true) (λ_=>fT (true,true)) cf λd hd=>⟨[some (.int d)],rfl,rfl,λ_=>rfl⟩) ?_;simp only[wp_ok,asg_N,filter_tt,Ö,İ,ċ,ģ,Ï,Nat.reduceSub,ï,ð,aft_nx];rw[wp_sSeq,wp_sAsg];simp only[bB];refine Wp.of (eh (n:=32) rfl (by decide)) ?_;rw[m9];refine⟨by rw[cg];exact le_size (by decide),?_⟩;rw[bB];have Zj:bM 0 32=((ß 32).map λi:Nat=>(i:Int)).map D.int:=by rw[xn,Ē];congr 1;funext i;simp
 rw[Zj];refine Wp.of (gZ (λ_=>true) (λ_=>.bl false) _ λd hd=>⟨[some (.int d)],rfl,rfl,λ_=>rfl⟩) ?_;simp only[wp_ok,asg_N,filter_tt,ï,ð,aft_nx];have es:s++[Cell.lst (cf.map λ_=>fT (true,true))]++[Cell.lst (((ß 32).map λi:Nat=>(i:Int)).map λ_=>D.bl false)]=bU s (λ_=>(true,true)) (λ_=>false):=by
  unfold cf;simp only[Ē,ŝ,ķ,ċ,ģ]
 have el:(s++[Cell.lst (cf.map λ_=>fT (true,true))]).length=s.length+1:=by simp
 rw[es,el];rw[wp_sSeq,wp_sFor];refine Wp.of (iP (ds:=ps.map Pg.d) rfl) ?_;refine Wp.iZ (λi env s'=>∃a5 a6 a7 a8,env=[some (bD ps),some (.int m),some (.int k),some (.aj s.length),some (.aj (s.length+1)),a5,a6,a7,a8]/\s'=bU s ((ps.take i).foldl (gL m k) (λ_=>(true,true),λ_=>false)).1 ((ps.take i).foldl (gL m k) (λ_=>(true,true),λ_=>false)).2) _ ⟨_,_,_,_,rfl,rfl⟩ (λi d env s' hd hI=>?_) (λenv s' hI=>?_)
 ·obtain⟨a5,a6,a7,a8,rfl,rfl⟩:=hI
  rw[ç] at hd
  cases zt:ps[i]? with
  |none=>rw[zt] at hd;cases hd
  |some p =>
   rw[zt] at hd;cases hd;obtain⟨h1,h2,h3⟩:=hp p (œ zt);refine⟨_,rfl,?_⟩;refine Q7 h1 h2 ⟨_,_,_,_,rfl,?_⟩;rw[List.take_add_one,zt];simp only[Option.toList_some,List.foldl_append,List.foldl_cons,List.foldl_nil]
 obtain⟨a5,a6,a7,a8,rfl,rfl⟩:=hI;rw[Ä,List.take_length];have h0:=SR (ps:=ps) (m:=m) (k:=k) λp q=>⟨(hp p q).1.1,(hp p q).2.2⟩;unfold nX at h0;generalize (ps.foldl (gL m k) (λ_=>(true,true),λ_=>false))=x0 at h0;obtain⟨R,F⟩:=x0;have hR:∀d,R d=(f0 (sN ps m k) d,t0 (lN ps m k) (mN ps m k) d):=λd=>(h0 d).1;have hF:∀d,F d=mN ps m k d:=λd=>(h0 d).2;clear h0;rw[aft_nx,wp_sSeq,wp_sFor];refine Wp.of (JD (i:=1) (j:=31) rfl (by decide) (by decide) (by decide) (by decide)) ?_;rw[show ((31:Int)-1).toNat=30 from rfl]
 refine Wp.iZ (λi env s'=>i<=30->∃a5 a6 a7 a8 R,env=[some (bD ps),some (.int m),some (.int k),some (.aj s.length),some (.aj (s.length+1)),a5,a6,a7,a8]/\s'=bU s R F/\∀d,R d=if d<=i then fw (sN ps m k) (lN ps m k) (mN ps m k) d else (f0 (sN ps m k) d,t0 (lN ps m k) (mN ps m k) d)) _ (λ_=>⟨_,_,_,_,R,rfl,rfl,λd=>?_⟩) (λi d env s' hd hI=>?_) (λenv s' hI=>?_)
 ·split
  ·rw[show d=0 by omega,hR];rfl
  ·exact hR d
 ·rw[gA] at hd
  split at hd
  ·rename_i hi
   cases hd;obtain⟨a5,a6,a7,a8,R,rfl,rfl,hR⟩:=hI (by omega);refine⟨_,rfl,?_⟩;have ed:(1:Int)+(i:Int)=((i+1:Nat):Int):=by omega
   rw[ed];simp only[ï,ð];rw[wp_sSeq,wp_sAsg];simp only[wp_tup,wp_aCons,wp_aNil,wp_e2,wp_loc0,wp_locS,wp_C,wp_subI];rw[show (((i+1:Nat):Int)-1)=(i:Int) by omega];refine Wp.of (tU (by omega) (by omega)) (Wp.of (IA (by omega) (by omega)) ?_);refine⟨le_size (by simp only[å,î];decide),?_⟩;simp only[asg_T,asg_cons,asg_nil,ï,ð,aft_nx,õ];rw[wp_sSub,wp_comp];have row:bj (e2 ak (aa 3) (aa 6)) [some (bD ps),some (.int m),some (.int k),some (.aj s.length),some (.aj (s.length+1)),a5,some (.int ((i+1:Nat):Int)),some (fT (R i)),some (.bl (F (i+1)))] (bU s R F)=ok ((js (R (i+1))).map D.bl) (bU s R F):=by
    refine il (Wp.eq ?_);simp only[wp_e2,wp_loc0,wp_locS];exact Wp.of (tU (by omega) (by omega)) ⟨by rw[õ],rfl⟩
   refine Wp.of row ⟨w9 _,?_⟩;refine Wp.of (xt (caps:=[some (fT (R i)),some (.bl (F (i+1)))]) (λb=>(b&&ne2 (R i))||(!b&&((R i).1||(F (i+1)&&ne2 (R i))))) λb=>?_) ?_
   ·refine Wp.eq ?_
    simp only[VC,UX,SS]
    cases b with
    |true=>cases ne2 (R i)<;>simp[wp_ok]
    |false=>simp[wp_ok]
   ·simp only[wp_loc0,wp_locS]
    refine⟨_,xr (by omega) (by omega),λ_=>⟨_,_,_,_,_,rfl,rfl,λd=>?_⟩⟩;rw[õ];unfold dX;by_cases e:d=i+1
    ·rw[Ú e,Ú (by omega),e]
     have h1:=hR (i+1);rw[æ (by omega)] at h1;have h2:=hR i;rw[Ú (Nat.le_refl _)] at h2;simp only[fw,h1,h2,hF,aaA,í,Ś,ë,abM,Bool.or_false,ne2]
    ·rw[æ e,hR d]
     by_cases e2:d<=i
     ·rw[Ú e2,Ú (by omega)]
     ·rw[æ e2,æ (by omega)]
  ·cases hd
 rw[cg] at hI;obtain⟨a5,a6,a7,a8,R,rfl,rfl,hR⟩:=hI (Nat.le_refl _);rw[aft_nx,wp_sSeq,wp_sFor];refine Wp.of UY ?_
 refine Wp.iZ (λn env s'=>n<=30->∃a5 a6 a7 a8 R,env=[some (bD ps),some (.int m),some (.int k),some (.aj s.length),some (.aj (s.length+1)),a5,a6,a7,a8]/\s'=bU s R F/\∀d,d<=30->R d=if 30-n<=d then bw (sN ps m k) (lN ps m k) (mN ps m k) d else fw (sN ps m k) (lN ps m k) (mN ps m k) d) _ (λ_=>⟨_,_,_,_,R,rfl,rfl,λd hd=>?_⟩) (λn d env s' hd hI=>?_) (λenv s' hI=>?_)
 ·rw[hR d,Ú hd]
  split
  ·rw[show d=30 by omega,Kp]
  ·rfl
 ·rw[ç] at hd
  by_cases hn:n<30
  ·rw[Ĕ hn] at hd
   cases hd;obtain⟨a5,a6,a7,a8,R,rfl,rfl,hR⟩:=hI (by omega);refine⟨_,rfl,?_⟩;simp only[ï,ð];generalize hd:29-n=d;rw[wp_sSub,wp_comp];have row:bj (e2 ak (aa 3) (aa 6)) [some (bD ps),some (.int m),some (.int k),some (.aj s.length),some (.aj (s.length+1)),a5,some (.int (d:Int)),a7,a8] (bU s R F)=ok ((js (R d)).map D.bl) (bU s R F):=by
    refine il (Wp.eq ?_);simp only[wp_e2,wp_loc0,wp_locS];exact Wp.of (tU (by omega) (by omega)) ⟨by rw[õ],rfl⟩
   refine Wp.of row ⟨w9 _,?_⟩;refine Wp.of (xt (caps:=[some (.aj s.length),some (.aj (s.length+1)),some (.int (d:Int))]) (λb=>(R (d+1)).2||((R (d+1)).1&&(!b||F (d+1)))) λb=>?_) ?_
   ·refine Wp.eq ?_
    simp only[VC];refine Wp.of (tU (by omega) (by omega)) (Wp.of (IA (by omega) (by omega)) ?_);rw[show ((d:Int)+1).toNat=d+1 by omega];refine Wp.of Q8 ?_;simp only[VC,ğ]
   ·simp only[wp_loc0,wp_locS]
    refine⟨_,xr (by omega) (by omega),λ_=>⟨_,_,_,_,_,rfl,rfl,λe he=>?_⟩⟩;rw[õ];unfold dX;by_cases ee:e=d
    ·rw[Ú ee,Ú (by omega),ee,ID _ _ _ (by omega)]
     have h1:=hR d (by omega);rw[æ (by omega)] at h1;have h2:=hR (d+1) (by omega);rw[Ú (by omega)] at h2;simp only[h1,h2,hF,Ś,ë,Bool.true_or,abM,ŗ]
    ·rw[æ ee,hR e he]
     by_cases e2:30-n<=e
     ·rw[Ú e2,Ú (by omega)]
     ·rw[æ e2,æ (by omega)]
  ·rw[Ċ (by simpa using hn)] at hd
   cases hd
 rw[Ä,ľ] at hI;obtain⟨a5,a6,a7,a8,R,rfl,rfl,hR⟩:=hI (Nat.le_refl _);rw[aft_nx,wp_sRet,wp_comp];have fz:bj (jT (aa 3)) [some (bD ps),some (.int m),some (.int k),some (.aj s.length),some (.aj (s.length+1)),a5,a6,a7,a8] (bU s R F)=ok ((ß 31).map λd=>fT (R d)) (s++[.dead,fc F]):=by
  refine il (Wp.eq ?_);simp only[wp_frz,wp_loc0,wp_locS];refine Wp.of (show cL (.aj s.length) (bU s R F)=ok (.lst ((ß 31).map λd=>fT (R d))) (s++[.dead,fc F]) from ?_) ⟨rfl,rfl⟩;simp only[cL,C2];simp[bU,ű]
 refine Wp.of fz ⟨by rw[Ä,ľ];exact le_size (by decide),?_⟩;refine Wp.of (comp_map (λd=>fT (R d)) (λ_=>true) (λd=>r6 (R d)) (ß 31) λd hd=>⟨[some (fT (R d))],rfl,rfl,λ_=>rfl⟩) ?_;rw[filter_tt,fin_rt];refine⟨?_,[.dead,fc F],rfl⟩;unfold r9;congr 1;apply aaP;intro d hd;have:=Ā.mp hd;rw[hR d (by omega),Ú (by omega)]
def Kq (s l m:Nat->Bool) (hd:d<=30):((fw s l m d).1=false->(bw s l m d).1=false)/\((fw s l m d).2=false->(bw s l m d).2=false):=by
 by_cases h:d=30
 ·subst h
  rw[Kp];exact⟨id,id⟩
 ·rw[ID s l m (by omega)]
  exact⟨λh=>by simp[h],λh=>by simp[h]⟩
def Ov (h:∀d,d<=30->bw s l m d≠(false,false)):ni s l m:=by
 intro d e hs El he hc;apply Classical.byContradiction;intro mH;have hm:∀x,d<x->x<=e->m x=false:=λx h1 h2=>by
  cases hx:m x with
  |false=>rfl
  |true=>exact(mH ⟨x,h1,h2,hx⟩).elim
 have F:∀i,d+i<=e->(fw s l m (d+i)).1=false:=by
  intro i
  induction i with
  |zero =>
   intro _
   cases d with
   |zero=>simp[fw,f0,hs]
   |succ d=>simp[fw,f0,hs]
  |succ i ih =>
   intro hi;have:=ih (by omega);rw[<- aa5];simp[fw,this,hm (d+i+1) (by omega) (by omega)]
 have h1:=F (e-d) (by omega);rw[show d+(e-d)=e by omega] at h1;have t:t0 l m e=false:=by
  unfold t0
  rcases hc with hc | ⟨rfl,hc⟩<;>simp[hc]
 have h2:(fw s l m e).2=false:=by cases e<;>simp[fw,t]
 exact h e he (Prod.ext ((Kq s l m he).1 h1) ((Kq s l m he).2 h2))
def IE (N:ni s l m) (hd:d<=30):bw s l m d≠(false,false):=by
 rw[Wb N hd]
 cases hp:pr s m d with
 |false=>simp
 |true=>simp[Km N hd hp]
def FT (hd:nW ps) (h:∀m∈m4,∀k∈k8,ni (sN ps m k) (lN ps m k) (mN ps m k)):jj ps=[]:=by
 unfold jj;rw[aa8];intro m hm;rw[aa8];intro k hk;rw[abZ];unfold kj;rw[aa8];intro d dY;rw[abZ,abd];intro e he hc;have hs:d∈shown ps m k:=oG.mp dY;obtain⟨i,hi,rfl⟩:=ö.mp he;rw[Ā] at hi;have d0:=hd.of hs;unfold lg at hc;simp only[Ç,ż,È,ē] at hc;have e1:((d.toNat:Nat):Int)=d:=by omega
 have e2:(((d+(i:Int)).toNat:Nat):Int)=d+(i:Int):=by omega
 obtain⟨x,x1,x2,x3⟩:=h m hm k hk d.toNat (d+(i:Int)).toNat (by simp only[sN,e1,È];exact hs) (by omega) (by omega) (by
  rcases hc.1 with z | ⟨z1,z2⟩
  ·exact .inl (by simp only[lN,e2,È];exact z)
  ·exact .inr ⟨by omega,by simp only[mN,e1,È];exact z2⟩)
 have hb:=hc.2;unfold pQ at hb;rw[aaw] at hb;simp only[mN,È] at x3;refine hb _ x3 ?_;simp only[Ç,È];omega
abbrev RB (n:Nat) (MM LL:Nat->Nat->List Int) (p:Pg):Prop:=∃m:Nat,m<n/\Ag m (MM m) (LL m) p
abbrev TB (n:Nat) (MM:Nat->Nat->List Int) (q:Pg):Prop:=∃m:Nat,m<n/\∃(x:Nat) (d:Int),x<8/\d∈MM m x/\q=.aO m d x
def Q9 (h:eJ W R T s j n) (hn:n<64) (hj:env[1]?=some (some (.aj j)))
 (q:∀ps:List Pg,(∀p∈ps,R p)->(∀p,T p->p∈ps)->ps.length<=n->(ps.Pairwise λa b=>fj.lt a b=true)->Q (bD ps) s):Wp (eB cC (ae (eB ra (ae (eB q0 (ae (aa 1) ah)) ah)) ah) env s) Q:=by
 obtain⟨ps,e,cu,len⟩:=h;have e1:aa 1 env s=ok (.aj j) s:=by unfold aa;rw[hj]
 have e2:q0 [.aj j] s=ok (.lst (ps.map Pg.d)) s:=by
  unfold q0;simp only[e];rw[Ú (by rw[Ä];exact hU (by omega)),Ē];rfl
 have e3:ra [.lst (ps.map Pg.d)] s=ok (.lst ((ST.jO fj ps).map Pg.d)) s:=by
  unfold ra;simp only[res];rw[Ú (by rw[Ä];omega),Hg];rfl
 simp only[wp_eB,wp_aCons,wp_aNil];refine Wp.of e1 (Wp.of e2 (Wp.of e3 ?_));refine Wp.of (show cC [.lst ((ST.jO fj ps).map Pg.d)] s=ok (bD (ST.jO fj ps)) s from rfl) (q _ (λp hp=>cu.2.1 p ((ST.sU ps).mem_iff.mp hp)) (λp hp=>(ST.sU ps).mem_iff.mpr (cu.2.2 p hp)) (by rw[(ST.sU ps).length_eq];exact len) (Q5 cu.1))
def ML (lf:∀m x,m<n->x<8->∃c,Lf (MM m x) c 31 (LL m x)) (hp:∀p∈ps,RB n MM LL p) (ht:∀p,TB n MM p->p∈ps) (hk:0<=k/\k<8):ni (sN ps m k) (lN ps m k) (mN ps m k):=by
 have sh:∀{d:Int},d∈shown ps m k->∃m0:Nat,m0<n/\m=m0/\d∈LL m0 k.toNat:=λ{d} h=>by
  obtain⟨p,fN,rfl⟩:=ö.mp h;rw[ć] at fN;obtain⟨m0,h0,ha⟩:=hp p fN.1
  cases p with
  |made m' d' u v =>
   have h2:=fN.2;simp only[j6,Ç,È] at h2;obtain⟨_,hm,hu,_⟩:=ha;exact⟨m0,h0,by rw[<- h2.1];exact hm,hu k h2.2⟩
  |aO m' d' k'=>cases fN.2
 have la:∀{d:Int} {m0:Nat},m=m0->d∈cO ps m k->d∉LL m0 k.toNat:=λ{d m0} e h=>by
  obtain⟨p,fN,rfl⟩:=ö.mp h;rw[ć] at fN;obtain⟨m1,h0,ha⟩:=hp p fN.1
  cases p with
  |made m' d' u v =>
   have h2:=fN.2;simp only[j7,Ç,È] at h2;obtain⟨_,hm,_,hv⟩:=ha;have:m1=m0:=by have:=h2.1;omega
   rw[<- this];exact hv k h2.2
  |aO m' d' k'=>cases fN.2
 have me:∀{d:Int} {m0:Nat},m=m0->d∈bR ps m k->d∈MM m0 k.toNat:=λ{d m0} e h=>by
  obtain⟨p,fN,rfl⟩:=ö.mp h;rw[ć] at fN;obtain⟨m1,h0,ha⟩:=hp p fN.1
  cases p with
  |made m' d' u v=>cases fN.2
  |aO m' d' k' =>
   have h2:=fN.2;simp only[ja,Ç,È] at h2;obtain⟨_,hm,hd⟩:=ha;have:m1=m0:=by have:=h2.1;omega
   rw[<- this,<- h2.2];exact hd
 intro d e hs El he hc;simp only[sN,lN,mN,È] at hs hc;obtain⟨m0,h0,em,hd⟩:=sh hs;obtain⟨c,F⟩:=lf m0 k.toNat h0 (by omega)
 rcases hc with hc | ⟨rfl,hc⟩
 ·apply Classical.byContradiction
  intro mH;have hm:∀x:Nat,d<x->x<=e->(x:Int)∉MM m0 k.toNat:=λx h1 h2 hx=>by
   refine mH ⟨x,h1,h2,?_⟩;simp only[mN,È];have jz:=ht (.aO m0 x (k.toNat:Int)) ⟨m0,h0,k.toNat,x,by omega,hx,rfl⟩;refine ö.mpr ⟨_,ć.mpr ⟨jz,?_⟩,rfl⟩;simp only[ja,Ç,È];exact⟨em.symm,by omega⟩
  have all:∀i:Nat,d+i<=e->((d+i:Nat):Int)∈LL m0 k.toNat:=by
   intro i
   induction i with
   |zero=>intro _;exact hd
   |succ i ih =>
    intro hi;have:=F.on _ (ih (by omega)) (by omega) (by
     have:=hm (d+i+1) (by omega) (by omega);rwa [show ((d+i+1:Nat):Int)=((d+i:Nat):Int)+1 by omega] at this)
    rwa [show ((d+(i+1):Nat):Int)=((d+i:Nat):Int)+1 by omega]
  have:=all (e-d) (by omega);rw[show d+(e-d)=e by omega] at this;exact la em hc this
 ·exact((F.lo _ hd).2.2 (me em hc)).elim
def Ra (h:bh s k):Wp (xi W [.aj k] s) λd s'=>∃ps,d=bD ps/\ps.length<=21/\bh s' k/\Ex k s s'/\eG ps=true:=by
 have hk:=h.lt;have qw:s.length≠k:=by omega
 unfold xi;rw[wp_fn];refine⟨rfl,?_⟩;rw[wp_sSeq];simp only[wp_sAsg,wp_tup,wp_aCons,wp_aNil,SN];have d0:eJ W (RB 0 (λ_ _=>[]) (λ_ _=>[])) (TB 0 (λ_ _=>[])) (s++[.dT []]) s.length 0:=⟨[],by simp,⟨.nil,λ_ h=>(ĕ h).elim,λp ⟨m,hm,_⟩=>(Nat.not_lt_zero m hm).elim⟩,Nat.le_refl _⟩;have h0:bh (s++[.dT []]) k:=h.app _
 try simp only[VC]
 refine(dH h0 (by decide) (by decide)).mono λd t1 qv=>?_;obtain⟨x1,rfl,sE,sF,h1,e1⟩:=qv
 try simp only[VC]
 refine(dH h1 (by decide) (by decide)).mono λd t2 hd2=>?_;obtain⟨x2,rfl,Ei,Ej,h2,e2⟩:=hd2
 try simp only[VC]
 refine⟨by decide,?_⟩;have dt:=d0.ex (e1.trans e2) qw;have ext:Ex k s t2:=(Ex.app k s _).trans (e1.trans e2)
 try simp only[VC]
 refine Wp.of (xm (s1:=t2) (n:=(1+x1).toNat) (i:=1+x1) rfl (by omega) (by omega)) ?_;refine Wp.iZ (λi env s'=>i<=(1+x1).toNat->∃b4 b5 b6 b7 b8 b9 fX fY MM LL,env=[some (.aj k),some (.aj s.length),some (.int (1+x1)),some (.int (1+x2)),b4,b5,b6,b7,b8,b9,fX,fY]/\(∀m x,m<i->x<8->∃c,Lf (MM m x) c 31 (LL m x))/\bh s' k/\eJ W (RB i MM LL) (TB i MM) s' s.length (7*i)/\Ex k s s') _ (λ_=>⟨_,_,_,_,_,_,_,_,_,_,rfl,λm x hm=>(Nat.not_lt_zero m hm).elim,h2,dt,ext⟩) (λi d env s' hd hI=>?_) (λenv s' hI=>?_)
 ·rw[gA] at hd
  split at hd
  ·rename_i hi
   cases hd;obtain⟨b4,b5,b6,b7,b8,b9,fX,fY,MM,LL,rfl,lf,g1,g2,g3⟩:=hI (by omega);refine⟨_,rfl,?_⟩
   refine NB g1 g2 g3 qw (Nat.le_refl _) (by omega) (by omega) (by omega) (by omega) λc5 c6 c7 c8 c9 Zh Zi s2 M L Zk k1 k2 k3=>(λ_=>⟨_,_,_,_,_,_,_,_,λm=>if m=i then M else MM m,λm=>if m=i then L else LL m,rfl,λm x hm hx=>?_,k1,(k2.more (by omega)).mono (λp hp=>?_) (λq hq=>?_),k3⟩)
   ·by_cases vU:m=i
    ·obtain⟨c,l⟩:=Zk x hx
     exact⟨c,by simp only[vU,û];exact l⟩
    ·obtain⟨c,l⟩:=lf m x (by omega) hx
     exact⟨c,by simp only[vU,ê];exact l⟩
   ·rcases hp with ⟨m,hm,ha⟩|ha
    ·exact⟨m,by omega,by simp only[show m≠i by omega,ê];exact ha⟩
    ·exact⟨i,by omega,by simp only[û];rw[aaV] at ha;exact ha⟩
   ·obtain⟨m,hm,x,d,h1,h2,rfl⟩:=hq
    by_cases vU:m=i
    ·subst vU
     simp only[û] at h2;exact .inr ⟨x,d,h1,h2,by rw[aaV]⟩
    ·simp only[vU,ê] at h2
     exact .inl ⟨m,by omega,x,d,h1,h2,rfl⟩
  ·cases hd
 ·rw[cg] at hI
  obtain⟨b4,b5,b6,b7,b8,b9,fX,fY,MM,LL,rfl,lf,g1,g2,g3⟩:=hI (Nat.le_refl _);simp only[wp_sRet,aft_nx,fin_rt];refine Q9 (g2.more (m:=21) (by omega)) (by decide) rfl λps hp ht hl hu=>⟨ps,rfl,hl,g1,g3,?_⟩;have laid:Laid ps:=⟨λp h=>by obtain⟨m,_,ha⟩:=hp p h;exact ha.1,hu⟩;have lb:=laid.jl (by omega);unfold eG;rw[lb,í,abF];exact FT (GH lb) λm _ x hx=>ML lf hp ht (rl.mp hx)
noncomputable def brk (l:List Int):List Int:=((ß (l.length-1)).filter λi=>l.getD (i+1) 0==l.getD i 0).map λi:Nat=>1+(i:Int)
noncomputable def yD:List Int->List Int->Bool
 | [],[]=>false
 | [],_::_=>true
 |_::_,[]=>false
 |x::xs,y::ys=>if (x==y)=true then yD xs ys else decide (x<y)
def xG (h:beq x y=true):fK (x::xs) (y::ys)=fK xs ys:=by
 rw[fK,Ú h]
def xH (h:beq x y=false):fK (x::xs) (y::ys)=ij x y:=by
 rw[fK,æ (by rw[h];exact Ë)]
def JI:∀(xs ys:List Int),fK (xs.map D.int) (ys.map D.int)=some (yD xs ys)
 | [],[]=>rfl
 | [],_::_=>rfl
 |_::_,[]=>rfl
 |x::xs,y::ys=>by
  rw[Ö,Ö,yD]
  cases h:(x==y) with
  |true=>rw[xG (show beq (.int x) (.int y)=true from h),Ú rfl];exact JI xs ys
  |false=>rw[xH (show beq (.int x) (.int y)=false from h),æ Ë];rfl
def Ex.get (h:Ex k s s') (e:s[j]?=some c) (hj:j≠k):s'[j]?=some c:=by
 rw[h.val j (Å.mp e).1 hj];exact e
def Ex.hi (h:Ex k s s') (hj:s.length<=j) (c:Cell):Ex k s (s'.set j c):=⟨by rw[Ĝ];exact h.len,λi hi hk=>by rw[Ø (by omega)];exact h.val i hi hk⟩
structure RI (s0:ag) (k rh mh:Nat) (rs:List (List Int)) (s:ag):Prop where
 st:bh s k
 ex:Ex k s0 s
 run:s[rh]?=some (.lst (rs.map mD))
 mo:∃a b,s[mh]?=some (.lst [mD a,mD b])/\dC 8 a/\dC 8 b
 zl:∀r∈rs,dC 8 r
 k1:k<s0.length
 r1:s0.length<=rh
 m1:s0.length<=mh
 ne:rh≠mh
def RI.draw (h:RI s0 k rh mh rs s) (g:bh s' k) (x:Ex k s s'):RI s0 k rh mh rs s':=by
 have:=h.k1;have:=h.r1;have:=h.m1;obtain⟨a,b,e,ha,hb⟩:=h.mo;exact⟨g,h.ex.trans x,x.get h.run (by omega),⟨a,b,x.get e (by omega),ha,hb⟩,h.zl,h.k1,h.r1,h.m1,h.ne⟩
def RI.push (h:RI s0 k rh mh rs s) (hr:dC 8 r):RI s0 k rh mh (rs++[r]) (s.set rh (.lst (rs.map mD++[mD r]))):=by
 have:=h.k1;have:=h.r1;have:=h.m1;have:=h.ne;obtain⟨a,b,e,ha,hb⟩:=h.mo;refine⟨h.st.set (by omega) _,h.ex.hi (by omega) _,?_,⟨a,b,by rw[Ø (by omega)];exact e,ha,hb⟩,λx hx=>?_,h.k1,h.r1,h.m1,h.ne⟩
 ·rw[ã (Å.mp h.run).1,č]
  rfl
 ·rcases Ù.mp hx with hx|hx
  ·exact h.zl x hx
  ·rw[Ü.mp hx];exact hr
def RI.put (h:RI s0 k rh mh rs s) (h0:at_=0\/at_=1):(∃a,ak (.aj mh) (.int at_) s=ok (mD a) s/\dC 8 a)/\∀c,dC 8 c->∃s',iA (.aj mh) (.int at_) (mD c) s=some s'/\RI s0 k rh mh rs s':=by
 have:=h.k1;have:=h.r1;have:=h.m1;have:=h.ne;obtain⟨a,b,e,ha,hb⟩:=h.mo;have key:∀a b,dC 8 a->dC 8 b->RI s0 k rh mh rs (s.set mh (.lst [mD a,mD b])):=λa b ha hb=>⟨h.st.set (by omega) _,h.ex.hi (by omega) _,by rw[Ø (by omega)];exact h.run,⟨a,b,ã (Å.mp e).1,ha,hb⟩,h.zl,h.k1,h.r1,h.m1,h.ne⟩
 rcases h0 with rfl|rfl
 ·exact⟨⟨a,Eg _ _ _ _ e,ha⟩,λc hc=>⟨_,K0 _ _ _ _ _ e,key _ _ hc hb⟩⟩
 ·exact⟨⟨b,Eh _ _ _ _ e,hb⟩,λc hc=>⟨_,K1 _ _ _ _ _ e,key _ _ ha hc⟩⟩
structure Ft (n W:Nat) (d:D):Prop where
 pl:plain d=true
 sh:(py d).showable=true
 nd:(py d).hasDict=false
 dp:(py d).depth<=n
 wt:(py d).weight<=W
 lv:(py d).leavesShort 40=true
def yE (d:D):Bool:=plain d&&(py d).showable&&!(py d).hasDict&&decide ((py d).depth<=0)&&decide ((py d).weight<=110)&&(py d).leavesShort 40
def yh (h:yE d=true):Ft 0 110 d:=by
 unfold yE at h;simp only[Ç,È,ē] at h;obtain⟨⟨⟨⟨⟨h0,h1⟩,h2⟩,h3⟩,h4⟩,h5⟩:=h;exact⟨h0,h1,h2,h3,h4,h5⟩
def UZ:∀n:Fin 62,yE (.int ((n.val:Int)-1))=true:=by decide +kernel
def nD (h1:-1<=n) (h2:n<=60):Ft 0 110 (.int n):=by
 refine yh ?_;have:=UZ ⟨(n+1).toNat,by omega⟩;have e2:(((n+1).toNat:Nat):Int)-1=n:=by omega
 rw[e2] at this;exact this
def Bo:∀{ds:List D},(∀x∈ds,Ft n W x)->iQ ds=true/\ab3 (bN ds)=true/\abp (bN ds)=false/\Ž (bN ds)<=n/\υ (bN ds)<=ds.length*(W+1)/\abC 40 (bN ds)=true
 | [],_=>⟨rfl,rfl,rfl,Ę _,by simp[bN,υ],rfl⟩
 |x::xs,h=>by
  obtain⟨z,a,b,c,d,e⟩:=Bo (ds:=xs) λy hy=>h y (Ñ _ hy);have k:=h x Ò;refine⟨?_,?_,?_,?_,?_,?_⟩
  ·simp only[iQ,k.pl,z,Ĥ]
  ·simp only[bN,ab3,k.sh,a,Ĥ]
  ·simp only[bN,abp,k.nd,b,Bool.or_self]
  ·simp only[bN,Ž];have:=k.dp;omega
  ·simp only[bN,υ,å]
   have:=k.wt;rw[Nat.add_mul];omega
  ·simp only[bN,abC,k.lv,e,Ĥ]
def nE (hl:ds.length<=c) (h:∀x∈ds,Ft n W x):Ft (n+1) (c*(W+1)) (.tup ds):=by
 obtain⟨z,a,b,c',d',e'⟩:=Bo h;have hw:υ (bN ds)<=c*(W+1):=Û d' (aaz _ hl);exact⟨by simp only[plain];exact z,by simp only[py,aa0];exact a,by simp only[py,PyData.hasDict];exact b,by simp only[py,PyData.depth];omega,by simp only[py,ace];exact hw,by simp only[py,ab4];exact e'⟩
def U0 (hl:ds.length<=c) (h:∀x∈ds,Ft n W x):Ft (n+1) (c*(W+1)) (.lst ds):=by
 obtain⟨z,a,b,c',d',e'⟩:=Bo h;have hw:υ (bN ds)<=c*(W+1):=Û d' (aaz _ hl);exact⟨by simp only[plain];exact z,by simp only[py,aa0];exact a,by simp only[py,PyData.hasDict];exact b,by simp only[py,PyData.depth];omega,by simp only[py,ace];exact hw,by simp only[py,ab4];exact e'⟩
def ne_str:gj (.str x) (.str x) s=ok (.bl false) s:=by
 show (match gC (.str x) (.str x) with|some b=>ok (D.bl (!b)) s|none=>none)=_
 have e:gC (.str x) (.str x)=some true:=by
  unfold gC;rw[Ú (show (kQ (.str x)&&kQ (.str x))=true from rfl)];simp[beq]
 rw[e];rfl
structure Ma (p:Pg):Prop where
 day:0<=p.day/\p.day<31
 jX:jX p
 apart:tV p
 ft:Ft 3 7116 p.d
def Ft.mono (h:Ft n W d) (h1:n<=n') (h2:W<=W'):Ft n' W' d:=⟨h.pl,h.sh,h.nd,Û h.dp h1,Û h.wt h2,h.lv⟩
def JJ:Ft 0 110 (.str "made")/\Ft 0 110 (.str "mended"):=⟨yh (by decide +kernel),yh (by decide +kernel)⟩
def xI (h:dC 8 ns):Ft 1 888 (mD ns):=by
 refine nE (c:=8) (W:=110) (by rw[Ä];exact h.len) λx hx=>?_;obtain⟨y,hy,rfl⟩:=ö.mp hx;have:=h.lo y hy;exact nD (by omega) (by omega)
def SU (h:dR p=true):Ma p:=by
 cases p with
 |made m d h' l =>
  simp only[dR,jI,kJ,Ç,È] at h;obtain⟨⟨hm,hd⟩,h1,h2,h3⟩:=h;have k1:=wI h1;have k2:=wI h2;refine⟨hd,⟨by have:=k1.len;omega,by have:=k2.len;omega⟩,λx hx hl=>?_,?_⟩
  ·unfold ki at h3
   rw[ē,aaw] at h3;exact h3 x hx (Ý hl)
  ·refine nE (c:=4) (n:=2) (W:=1778) (by simp) λx hx=>?_
   simp only[Ó,ĕ,or_false] at hx
   rcases hx with rfl|rfl|rfl|rfl
   ·exact JJ.1.mono (by omega) (by omega)
   ·exact(nD (by omega) (by omega)).mono (by omega) (by omega)
   ·exact(nD (by omega) (by omega)).mono (by omega) (by omega)
   ·refine nE (c:=2) (n:=1) (W:=888) (by simp) λx hx=>?_
    simp only[Ó,ĕ,or_false] at hx
    rcases hx with rfl|rfl
    ·exact xI k1
    ·exact xI k2
 |aO m d k =>
  simp only[dR,jI,kJ,markB,Ç,È] at h;obtain⟨⟨hm,hd⟩,hk⟩:=h;refine⟨hd,trivial,trivial,(nE (c:=4) (n:=0) (W:=110) (by simp) λx hx=>?_).mono (by omega) (by omega)⟩;simp only[Ó,ĕ,or_false] at hx
  rcases hx with rfl|rfl|rfl|rfl
  ·exact JJ.2
  ·exact nD (by omega) (by omega)
  ·exact nD (by omega) (by omega)
  ·exact nD (by omega) (by omega)
def mZ (h:eG ps=true):ps.length<=24/\∀p∈ps,Ma p:=by
 unfold eG jl at h;simp only[Ç,È,ý] at h;exact⟨h.1.1,λp hp=>SU (h.1.2.1 p hp)⟩
def Wc (h:0<=k/\k<8):ak (.lst (k8.map G)) (.int k) s=ok (G k) s:=by
 obtain⟨x,e1,e2⟩:=nC (xs:=k8.map G) h.1 (by show k<8;exact h.2);have:x=G k:=by
  rw[ç] at e2;have e3:k8[k.toNat]?=some k:=by
   unfold k8;rw[ç,Ĕ (by omega)];simp;omega
  rw[e3] at e2;exact(Option.some.inj e2).symm
 subst this;simp only[ak,gU,res,e1,bx]
def U1 (h:0<=d/\d<31):ak (r9 ps m k) (.int d) s=ok (r6 (bw (sN ps m k) (lN ps m k) (mN ps m k) d.toNat)) s:=by
 simp only[ak,gU,res,r9,xq h.1 h.2,bx]
def U2 {n:Nat}:jh (bD ps) none (some (n:Int)) s=ok (bD (ps.take n)) s:=by
 show ok (D.tup (cutD (ps.map Pg.d) none (some (n:Int)))) s=_;unfold cutD;rw[HT.xb];show ok (D.tup (((ps.map Pg.d).drop 0).take (min n (ps.map Pg.d).length-0))) s=_;rw[List.drop_zero,Nat.sub_zero,<- List.map_take,Ä];congr 3;rw[List.take_eq_take_min (i:=n)]
def Rb (hl:ps.length<=1000) (hf:∀p∈ps,jX p) (hb:eG ps=true):wC [bD ps] s=ok .au s:=by
 refine Wp.eq ?_;unfold wC;simp only[VC];refine Wp.of (SM hl hf) ?_;rw[hb];simp only[VC,ë,Ã,ê,ğ]
def PJ (hm:0<=m/\m<4):wq [.int m] s=ok .au s:=by
 refine Wp.eq ?_;unfold wq;simp only[VC];refine Wp.of An ?_;rw[show jI m=true by unfold jI;simp[hm]];simp only[VC,ë,Ã,ê,ğ]
def xa {α:Type} (f:α->D) (h:∀x,lay (f x)=true):∀l:List α,cD (l.map f)=true
 | []=>rfl
 |x::l=>by rw[Ö,cD,h x,xa f h l];rfl
def GK (h:cD ds=true):gC (.lst ds) (.lst [])=some ds.isEmpty:=by
 unfold gC;rw[æ (by simp[kQ]),Ú (by simp only[lay,h,cD,dep,cz,Ĥ,í,È];exact Ý (Û (Nat.min_le_right _ 1) (show 1<=100 by decide)))]
 cases ds<;>rfl
def eq_nil (h:cD ds=true):aT (.lst ds) (.lst []) s=ok (.bl ds.isEmpty) s:=by
 show (match gC (.lst ds) (.lst []) with|some b=>ok (D.bl b) s|none=>none)=_
 rw[GK h]
def ne_nil (h:cD ds=true):gj (.lst ds) (.lst []) s=ok (.bl (!ds.isEmpty)) s:=by
 show (match gC (.lst ds) (.lst []) with|some b=>ok (D.bl !b) s|none=>none)=_
 rw[GK h]
noncomputable abbrev ef:=List Int×List Int
def aV (p:ef):D:=.tup [mD p.1,mD p.2]
structure dD (p:ef):Prop where
 h:dC 8 p.1
 l:dC 8 p.2
 ap:∀x∈p.1,x∉p.2
abbrev bu (ss:List ef):D:=.tup (ss.map aV)
def Hv:fE (.int x) (mD ns) s=ok (.bl (!decide (x∈ns))) s:=oM (s:=s)
def PL (h:bh s k):Wp (wZ [.aj k] s) λd s'=>∃p,d=aV p/\dD p/\bh s' k/\Ex k s s':=by
 unfold wZ;simp only[VC];refine(Hl h (n:=8) (by decide)).mono λd s1 hd=>?_;obtain⟨a,rfl,ha,h1,e1⟩:=hd;refine(Hl h1 (n:=8) (by decide)).mono λd s2 hd=>?_;obtain⟨b,rfl,hb,h2,e2⟩:=hd;refine⟨by decide,?_⟩;have lb:=hb.len;refine Wp.of (iP (ds:=b.map D.int) rfl) ⟨hU (by rw[Ä];omega),?_⟩;refine Wp.of (gZ (λx=>!decide (x∈a)) (λx=>.int x) b λx _=>⟨[some (.int x),some (mD a)],rfl,Wp.eq (by simp only[VC,Hv,ğ]),λ_=>rfl⟩) ?_;refine Wp.of (show cC [.lst ((b.filter λx=>!decide (x∈a)).map λx=>.int x)] s2=ok (mD (b.filter λx=>!decide (x∈a))) s2 from rfl) ?_;exact⟨by decide,(a,_),rfl,⟨ha,hb.filter _,λx hx hl=>by simpa [hx] using (ć.mp hl).2⟩,h2,e1.trans e2⟩
noncomputable def uH (m:Int):Pg->Bool
 | .made m' _ _ _=>decide (m'=m)
 | .aO _ _ _=>false
def zu:Pg->ef
 | .made _ _ a b=>(a,b)
 | .aO _ _ _=>([],[])
def Hw (h:dR p=true) (hm:uH m p=true):dD (zu p)/\p.d=.tup [.str "made",.int m,.int p.day,aV (zu p)]:=by
 cases p with
 |made m' d a b =>
  simp only[uH,È] at hm;subst hm;simp only[dR,Ç] at h;refine⟨⟨wI h.2.1,wI h.2.2.1,λx hx hl=>?_⟩,rfl⟩;have:=h.2.2.2;unfold ki at this;rw[ē,aaw] at this;exact this x hx (Ý hl)
 |aO m' d k=>cases hm
def Mb:abB (ì "made")=true:=by decide +kernel
def Mc:abB (ì "mended")=true:=by decide +kernel
def We:Wp (jh p.d none (some 2) s) λd s1=>Wp (aT d (.tup [.str "made",.int m]) s1) λx s2=>x=.bl (uH m p)/\s2=s:=by
 cases p with
 |aO m' d k =>
  refine Wp.of (show jh (Pg.aO m' d k).d none (some 2) s=ok (.tup [.str "mended",.int m']) s from rfl) ?_;have e:gC (.tup [.str "mended",.int m']) (.tup [.str "made",.int m])=some false:=by
   unfold gC;rw[æ (show ¬ (kQ (.tup _)&&kQ (.tup _))=true from Ë),Ú (by simp[lay,cD,dep,cz,Mb,Mc])];simp only[beq,ib,show (ì "mended"==ì "made")=false from beq_eq_false_iff_ne.mpr tI,aaA]
  exact Wp.of (show aT (.tup [.str "mended",.int m']) (.tup [.str "made",.int m]) s=ok (.bl false) s by show (match gC (.tup [.str "mended",.int m']) (.tup [.str "made",.int m]) with|some b=>ok (D.bl b) s|none=>none)=_;rw[e]) ⟨rfl,rfl⟩
 |made m' d a b =>
  refine Wp.of (show jh (Pg.made m' d a b).d none (some 2) s=ok (.tup [.str "made",.int m']) s from rfl) ?_;have e:gC (.tup [.str "made",.int m']) (.tup [.str "made",.int m])=some (decide (m'=m)):=by
   unfold gC;rw[æ (show ¬ (kQ (.tup _)&&kQ (.tup _))=true from Ë),Ú (by simp[lay,cD,dep,cz,Mb,Mc])];simp only[beq,ib]
   by_cases h:m'=m<;>simp[h]
  exact Wp.of (show aT (.tup [.str "made",.int m']) (.tup [.str "made",.int m]) s=ok (.bl (decide (m'=m))) s by show (match gC (.tup [.str "made",.int m']) (.tup [.str "made",.int m]) with|some b=>ok (D.bl b) s|none=>none)=_;rw[e]) ⟨rfl,rfl⟩
def SV (p:ef):lay (aV p)=true:=by
 show cD [mD p.1,mD p.2]=true;simp only[cD,lay,qE,Ĥ]
def fZ (ps:List Pg) (m:Int):List ef:=(ps.filter (uH m)).map zu
def PM (hl:ps.length<=24) (hp:∀p∈ps,dR p=true) :
  aU 1 [2] (bj (aa 1)) (gN 0) (aF (e2 aT (iI (aa 0) iH (iz (eC (.int 2)))) (aX (ae (eC (.str "made")) (ae (aa 1) ah))))) (e2 ak (aa 0) (eC (.int 3))) (x::some (bD ps)::some (.int m)::q) s=ok (.lst ((fZ ps m).map aV)) s:=by
 refine Q0 (iP (ds:=ps.map Pg.d) rfl) (by rw[Ä];omega) ?_;rw[comp_map Pg.d (uH m) (λp=>aV (zu p)) ps λp fN=>⟨[some p.d,some (.int m)],rfl,Wp.eq ?_,λEm=>Wp.eq ?_⟩]
 ·unfold fZ;rw[Ē];rfl
 ·simp only[wp_tBl,wp_e2,wp_sl,wp_loc0,wp_locS,wp_pNo,lD (show eC (.int 2) [some p.d,some (.int m)] s=ok (.int 2) s from rfl)]
  refine(We (m:=m)).mono λd s1 z=>?_;simp only[wp_tup,wp_aCons,wp_aNil,wp_C,wp_loc0,wp_locS];refine⟨by show 2<=Õ;decide,z.mono λy s2 w=>?_⟩;obtain⟨rfl,rfl⟩:=w;rw[wp_isBl];exact⟨rfl,rfl⟩
 ·simp only[wp_e2,wp_loc0,wp_C]
  rw[(Hw (hp p fN) Em).2];exact Wp.of (fk _ _ _ _ _).2.2.2 ⟨rfl,rfl⟩
def PN (h:bh s k) (o0:0<of) (o1:of<100):Wp (eT 1 [some (.aj k),some (.int of)] (gN 0) (aF (e2 aT (ax bG (ae (aa 1) (ae (aa 2) ah))) (eC (.int 0)))) (aa 0) (bM 0 8) s) λxs s'=>∃ns,xs=ns.map D.int/\dC 8 ns/\bh s' k/\Ex k s s':=by
 refine mi (λi acc s'=>∃ns:List Int,acc=ns.map D.int/\dC i ns/\bh s' k/\Ex k s s') (bM 0 8) ⟨[],rfl,⟨by simp,.nil⟩,h,Ex.refl _ _⟩ (λi d acc s' hd hI=>?_) λacc s' hI=>?_
 ·obtain⟨ns,rfl,hm,h2,x2⟩:=hI
  rw[gA] at hd;split at hd
  ·have hd:D.int (0+(i:Int))=d:=Option.some.inj hd
   subst hd;refine⟨[some (.int (0+i)),some (.aj k),some (.int of)],rfl,?_⟩;simp only[VC];refine(dH h2 o0 (by omega)).mono λd s3 hx=>?_;obtain⟨r,rfl,r0,r1,h3,x3⟩:=hx;simp only[VC];split
   ·refine⟨ns++[0+(i:Int)],by simp,⟨λx hx=>?_,?_⟩,h3,x2.trans x3⟩
    ·rcases Ù.mp hx with hx|hx
     ·have:=hm.lo x hx;omega
     ·rw[Ü.mp hx];omega
    ·refine aay.mpr ⟨hm.up,by simp,λx hx y hy=>?_⟩
     rw[Ü.mp hy];have:=hm.lo x hx;omega
   ·exact⟨ns,rfl,⟨λx hx=>by have:=hm.lo x hx;omega,hm.up⟩,h3,x2.trans x3⟩
  ·cases hd
 ·rw[cg] at hI
  exact hI
def sd (ps:List Pg) (m d k:Int):D:=r6 (bw (sN ps m k) (lN ps m k) (mN ps m k) d.toNat)
def PQ (hb:eG ps=true) (hd:0<=d/\d<31):Wp (eT 1 [some (.int d),some (bD ps),some (.int m)] (gN 0) bQ (e2 ak (ax rf (ae (aa 2) (ae (aa 3) (ae (aa 0) ah)))) (aa 1)) (bM 0 8) s) λxs s'=>xs=k8.map (sd ps m d)/\∃c,s'=s++c:=by
 obtain⟨hl,hg⟩:=mZ hb;refine mi (λi acc s'=>i<=8->acc=((ß i).map λi:Nat=>(i:Int)).map (sd ps m d)/\∃c,s'=s++c) (bM 0 8) (λ_=>⟨rfl,[],by simp⟩) (λi e acc s' he hI=>?_) λacc s' hI=>?_
 ·rw[gA] at he
  split at he
  ·rename_i hi
   have he:D.int (0+(i:Int))=e:=Option.some.inj he;subst he;obtain⟨rfl,c,rfl⟩:=hI (by omega);refine⟨[some (.int (0+i)),some (.int d),some (bD ps),some (.int m)],rfl,?_⟩;refine Wp.of (show bQ _ _=ok true _ from rfl) ?_;rw[Ú rfl];simp only[VC];refine(JH (by omega) λp hp=>⟨(hg p hp).day,(hg p hp).jX,(hg p hp).apart⟩).mono λx s2 hx=>?_;obtain⟨rfl,c2,rfl⟩:=hx;refine Wp.of (U1 hd) λ_=>⟨?_,c++c2,by simp⟩;rw[ž,č,č];simp[sd]
  ·cases he
 ·rw[cg] at hI
  exact hI (Nat.le_refl _)
def Rc (h:x≠(false,false)):∃b,ak (r6 x) (.int (-1)) s=ok (.bl b) s:=by
 obtain⟨f,t⟩:=x
 cases f<;>cases t<;>first|exact absurd rfl h|exact⟨_,rfl⟩
def tD {α:Type} {f:α->D} {xs:List α} {r:Int} {s:ag} (h0:0<=r) (h1:r<xs.length):∃x∈xs,ak (.lst (xs.map f)) (.int r) s=ok (f x) s:=by
 obtain⟨x,e,e2⟩:=nC h0 h1;exact⟨x,œ e2,by simp only[ak,gU,res,AN,e,Ŏ,bx]⟩
structure Ss (s0:ag) (k j:Nat) (ss:List ef) (s:ag):Prop where
 st:bh s k
 ex:Ex k s0 s
 at_:s[j]?=some (.lst (ss.map aV))
 sh:∀p∈ss,dD p
 jk:j≠k
 hj:s0.length<=j
def Ss.draw (h:Ss s0 k j ss s) (st:bh s' k) (ex:Ex k s s'):Ss s0 k j ss s' :=
 ⟨st,h.ex.trans ex,by rw[ex.val j (Å.mp h.at_).1 h.jk];exact h.at_,h.sh,h.jk,h.hj⟩
def C3 (e:s[j]?=some (.lst L)) (hL:L.length<=1000):iY (.aj j) s=true/\iX (.aj j) x s=ok .au (s.set j (.lst (L++[x]))):=by
 refine⟨by simp only[iY,e],?_⟩;unfold iX;simp only[e];rw[Ú (by rw[È];exact Ê (show L.length<1001 by omega) (le_size (by decide)))]
def Ex.cell (h:Ex k s0 s) (hj:s0.length<=j):Ex k s0 (s.set j c):=⟨by rw[Ĝ];exact h.len,λi hi hk=>by rw[Ø (by omega)];exact h.val i hi hk⟩
def Ow (hb:eG ps=true) (hm:0<=m/\m<4) (h:Ss s0 k j ss s) (hs:ss.length<=100)
 (q:∀p s' e6 e7 e8 e9 de kZ k9,Ss s0 k j (ss++[p]) s'->Q (.nx [some (.aj k),some (bD ps),some (.int m),some (.lst ((fZ ps m).map aV)),some (.aj j),e5,e6,e7,e8,e9,de,kZ,k9]) s') :
  Wp (zK [some (.aj k),some (bD ps),some (.int m),some (.lst ((fZ ps m).map aV)),some (.aj j),e5,e6,e7,e8,e9,de,kZ,k9] s) Q:=by
 obtain⟨hl,hg⟩:=mZ hb;unfold zK;refine Wp.step λR hR=>?_;simp only[VC];refine(dH h.st (by decide) (by decide)).mono λx s1 hx=>?_;obtain⟨d,rfl,d0,d1,vV,x1⟩:=hx;refine(dH vV (by decide) (by decide)).mono λx s2 hx=>?_;obtain⟨o,rfl,o0,o1,dO,x2⟩:=hx;simp only[VC];refine⟨by decide,?_⟩;subst hR;have g2:=h.draw dO (x1.trans x2);clear x1 x2 vV h;refine Wp.step λR hR=>?_;simp only[wp_sAsg,asg_N,wp_comp,ï,ð];refine Wp.of (eh (n:=8) rfl (by decide)) ⟨by rw[cg];exact le_size (by decide),(PQ hb ⟨d0,d1⟩).mono λxs s3 hx=>?_⟩;obtain⟨rfl,c,rfl⟩:=hx;rw[aft_nx];subst hR;have gm:=g2.st.app c;have g3:=g2.draw gm (Ex.app k s2 c);generalize s2++c=s3 at gm g3;clear g2 dO;refine Wp.step λR hR=>?_;simp only[wp_sAsg,asg_N,wp_comp,ï,ð];refine Wp.of (eh (n:=8) rfl (by decide)) ⟨by rw[cg];exact le_size (by decide),(PN gm (by omega) (by omega)).mono λxs s4 hx=>?_⟩;obtain⟨sn,rfl,zw,oy,x4⟩:=hx;rw[aft_nx];subst hR;have g4:=g3.draw oy x4;clear g3 gm x4;have Zl:∀x:Int,∃b:Bool,x∈sn->Wp (e2 ak (e2 ak (aa 1) (aa 0)) (e1 jN (eC (.int 1))) [some (.int x),some (.lst (k8.map (sd ps m d)))] s4) λy s'=>y=.bl b/\s'=s4:=λx=>by
  by_cases hx:x∈sn
  ·have hk:=zw.lo x hx
   obtain⟨b,e⟩:=Rc (s:=s4) (IE (Iv hb hm (k:=x) (by omega)) (d:=d.toNat) (by omega));refine⟨b,λ_=>?_⟩;simp only[VC];refine Wp.of (Wc (by omega)) ?_;exact Wp.of (show jN (.int 1) s4=ok (.int (-1)) s4 from rfl) (Wp.of e ⟨rfl,rfl⟩)
  ·exact⟨false,λz=>absurd z hx⟩
 obtain⟨pB,Zm⟩:=Classical.axiomOfChoice Zl;refine Wp.step λR hR=>?_;simp only[wp_sAsg,asg_N,wp_eB,wp_aCons,wp_aNil,wp_comp,ï,ð];have ls:=zw.len;refine Wp.of (il (ds:=sn.map D.int) rfl) ⟨hU (by rw[Ä];omega),?_⟩;refine Wp.of (gZ pB (λx=>.int x) sn λx hx=>⟨[some (.int x),some (.lst (k8.map (sd ps m d)))],rfl,Wp.eq ?_,λ_=>rfl⟩) ?_
 ·rw[wp_tru]
  refine(Zm x hx).mono λy s' z=>?_;obtain⟨rfl,rfl⟩:=z;rw[wp_truB];exact⟨rfl,rfl⟩
 refine Wp.of (show cC [.lst ((sn.filter pB).map λx=>.int x)] s4=ok (mD (sn.filter pB)) s4 from rfl) ?_;rw[aft_nx];subst hR;have hh:=zw.filter pB;generalize sn.filter pB=ha at hh;refine Wp.step λR hR=>?_;simp only[wp_sAsg,asg_N,wp_tup,wp_eB,wp_aCons,wp_aNil,wp_comp,wp_loc0,wp_locS,ï,ð];refine Wp.of (il (ds:=sn.map D.int) rfl) ⟨hU (by rw[Ä];omega),?_⟩;refine Wp.of (gZ (λx=>!decide (x∈ha)) (λx=>.int x) sn λx _=>⟨[some (.int x),some (mD ha)],rfl,Wp.eq (by simp only[VC,Hv,ğ]),λ_=>rfl⟩) ?_;refine Wp.of (show cC [.lst ((sn.filter λx=>!decide (x∈ha)).map λx=>.int x)] s4=ok (mD (sn.filter λx=>!decide (x∈ha))) s4 from rfl) ⟨by show 2<=Õ;decide,?_⟩;rw[aft_nx];subst hR;have own:dD (ha,sn.filter λx=>!decide (x∈ha)):=⟨hh,zw.filter _,λx hx hl=>by simpa [hx] using (ć.mp hl).2⟩;generalize ho:(ha,sn.filter λx=>!decide (x∈ha))=ow at own;rw[show D.tup [mD ha,mD (sn.filter λx=>!decide (x∈ha))]=aV ow by rw[<- ho];rfl];clear ho;have hS:∀p∈fZ ps m,dD p:=λp hp=>by
  unfold fZ at hp;obtain⟨q,hq,rfl⟩:=ö.mp hp;obtain⟨hq,Em⟩:=ć.mp hq;have En:∀p∈ps,dR p=true:=by
   have iK:=hb;unfold eG jl at iK;simp only[Ç,ý] at iK;exact iK.1.2.1
  exact(Hw (En q hq) Em).1
 refine Wp.step λR hR=>?_;simp only[wp_sAsg,asg_N,wp_eIf,wp_tBl,wp_e2,wp_lst,wp_aNil,wp_loc0,wp_locS,ï,ð];refine⟨by decide,Wp.of (ne_nil (xa aV SV _)) ?_⟩;rw[wp_isBl];have fin:∀(on:ef) (s5:ag),dD on->Ss s0 k j ss s5->∀Eo:Option D,Eo=e5->mY R Q (.nx [some (.aj k),some (bD ps),some (.int m),some (.lst ((fZ ps m).map aV)),some (.aj j),Eo,some (.int d),some (.int (1+o)),some (.lst (k8.map (sd ps m d))),some (.lst (sn.map D.int)),some (mD ha),some (aV ow),some (aV on)]) s5:=λon s5 Zn g5 Eo Zo=>by
  subst Zo;rw[aft_nx];subst hR;simp only[wp_sExpr,wp_app,wp_e2,wp_lst,wp_call,wp_aCons,wp_aNil,wp_loc0,wp_locS,wp_C];refine⟨(C3 (x:=.au) g5.at_ (by rw[Ä];omega)).1,?_⟩;refine(PL g5.st).mono λx s6 hx=>?_;obtain⟨p6,rfl,Zp,Ep,x6⟩:=hx;refine⟨by show 4<=Õ;decide,(dH Ep (by decide) (by decide)).mono λx s7 hx=>?_⟩;obtain⟨r,rfl,r0,r1,Zq,x7⟩:=hx;have g7:=g5.draw Zq (x6.trans x7);obtain⟨p,hp,e⟩:=tD (f:=aV) (xs:=[ow,ow,on,p6]) (s:=s7) r0 r1;have Zr:dD p:=by
   simp only[Ó,ĕ,or_false] at hp
   rcases hp with rfl|rfl|rfl|rfl
   ·exact own
   ·exact own
   ·exact Zn
   ·exact Zp
  refine Wp.of e (Wp.of (C3 g7.at_ (by rw[Ä];omega)).2 (q p _ _ _ _ _ _ _ _ ⟨g7.st.set g7.jk _,g7.ex.cell g7.hj,by rw[ã (Å.mp g7.at_).1,č];rfl,λy hy=>?_,g7.jk,g7.hj⟩))
  rcases Ù.mp hy with hy|hy
  ·exact g7.sh y hy
  ·rw[Ü.mp hy];exact Zr
 have lm:(fZ ps m).length<=24:=by unfold fZ;rw[Ä];exact Û (Ķ _ _) hl
 cases hd:((fZ ps m).map aV).isEmpty with
 |true =>
  simp only[ë,Ã,ê];exact fin ow s4 own g4 _ rfl
 |false =>
  simp only[Ś,û,wp_call,wp_eB,wp_aCons,wp_aNil,wp_loc0,wp_locS];refine Wp.of (show bK [.lst ((fZ ps m).map aV)] s4=ok (.int (fZ ps m).length) s4 by rw[show bK [.lst ((fZ ps m).map aV)] s4=ok (.int (((fZ ps m).map aV).length:Nat)) s4 from rfl,Ä]) ?_
  have hn:0<(fZ ps m).length:=by cases hq:fZ ps m with|nil=>rw[hq] at hd;cases hd|cons a b=>simp
  refine(dH oy (by omega) (by omega)).mono λx s5 hx=>?_;obtain⟨r,rfl,r0,r1,iD,x5⟩:=hx;obtain⟨p,hp,e⟩:=tD (f:=aV) (xs:=fZ ps m) (s:=s5) r0 r1;exact Wp.of e (fin p s5 (hS p hp) (g4.draw iD x5) _ rfl)
def PR (hb:eG ps=true) (hm:0<=m/\m<4) (h:bh s k):Wp (wO [.aj k,bD ps,.int m] s) λx s'=>∃ss,x=bu ss/\1<=ss.length/\ss.length<=3/\(∀p∈ss,dD p)/\bh s' k/\Ex k s s':=by
 obtain⟨hl,hg⟩:=mZ hb;have En:∀p∈ps,dR p=true:=by
  have iK:=hb;unfold eG jl at iK;simp only[Ç,ý] at iK;exact iK.1.2.1
 unfold wO;refine wp_fn.symm ▸ ⟨rfl,?_⟩;refine nN (env':=[some (.aj k),some (bD ps),some (.int m),some (.lst ((fZ ps m).map aV)),some (.aj s.length),none,none,none,none,none,none,none,none]) (s':=s++[.lst []]) (Wp.eq ?_) ?_
 ·rw[wp_par2]
  simp only[wp_aCons,wp_aNil,wp_new];refine Wp.of (PM (x:=some (.aj k)) hl En) ⟨by decide,_,_,rfl,rfl,rfl⟩
 have g0:Ss s k s.length [] (s++[.lst []]):=⟨h.app _,Ex.app k s _,by simp,λp hp=>(by cases hp),Ń h.lt,Nat.le_refl _⟩;generalize s++[Cell.lst []]=s1 at g0;generalize s.length=j at g0;refine Wp.step λR hR=>?_;rw[wp_sFor];refine Wp.mono (Q:=λds s2=>∃n:Nat,n<3/\ds=bM 0 (n+1)/\bh s2 k/\Ex k s1 s2) ?_ λds s2 hx=>?_
 ·have ht:=dH g0.st (m:=3) (by decide) (by decide)
  obtain⟨x,s2,e,r,rfl,r0,r1,dO,x2⟩:=ht;refine Wp.of (xm (i:=1+r) (n:=r.toNat+1) (Wp.eq ?_) (by omega) (by omega)) ⟨r.toNat,by omega,rfl,dO,x2⟩;simp only[VC];refine Wp.of e ?_;simp only[VC,ğ]
 obtain⟨n,hn,rfl,dO,x2⟩:=hx;have g2:=g0.draw dO x2;refine Wp.iZ (λi env t=>∃ss e5 e6 e7 e8 e9 de kZ k9,Ss s k j ss t/\ss.length=i/\env=[some (.aj k),some (bD ps),some (.int m),some (.lst ((fZ ps m).map aV)),some (.aj j),e5,e6,e7,e8,e9,de,kZ,k9]) _ ⟨[],_,_,_,_,_,_,_,_,g2,rfl,rfl⟩ (λi d env t hd hI=>?_) λenv t hI=>?_
 ·obtain⟨ss,e5,e6,e7,e8,e9,de,kZ,k9,g,hl,rfl⟩:=hI
  have hi:=(Å.mp hd).1;rw[cg] at hi;refine⟨_,rfl,Ow hb hm g (by omega) λp s' e6 e7 e8 e9 de kZ k9 g'=>⟨_,_,_,_,_,_,_,_,_,g',by rw[â,hl];rfl,rfl⟩⟩
 ·obtain⟨ss,e5,e6,e7,e8,e9,de,kZ,k9,g,hl,rfl⟩:=hI
  rw[cg] at hl;rw[aft_nx];subst hR;simp only[wp_sRet,wp_eB,wp_aCons,wp_aNil,wp_loc0,wp_locS];refine Wp.of (show cC [.aj j] t=ok (bu ss) t by unfold cC;simp only[res,g.at_]) ?_;exact⟨ss,rfl,by omega,by omega,g.sh,g.st,g.ex⟩
def AQ:d∈cf↔0<=d/\d<31:=by
 unfold cf;rw[ö];constructor
 ·rintro ⟨i,hi,rfl⟩
  rw[Ā] at hi;omega
 ·intro h
  exact⟨d.toNat,by rw[Ā];omega,by omega⟩
def Bp (h:0<=d/\d<31):ak (.lst (cf.map G)) (.int d) s=ok (G d) s:=by
 have e:dA (cf.map G) d=some (G d):=by
  rw[AN];unfold dA;rw[xF h.1 (show d<(cf.length:Nat) by simp[cf];omega)];show Option.map G (cf[d.toNat]?)=_;unfold cf;rw[ç,Ĕ (by omega)];show some (G ((d.toNat:Nat):Int))=_;rw[show ((d.toNat:Nat):Int)=d by omega]
 simp only[ak,gU,res,e,bx]
def yi (p:ef) (s:ag):ak (aV p) (.int 0) s=ok (mD p.1) s/\ak (aV p) (.int 1) s=ok (mD p.2) s:=⟨rfl,rfl⟩
def zx (p:ef) (a b:List Int):Bool:=ki p.1 b&&ki p.2 a
def Rf (h:dD p):xj [aV p,ku P A d] s=ok (.bl (zx p (k8.filter λk=>decide (d∈P k)) (k8.filter λk=>decide (d∈A k)))) s:=by
 have l1:=h.h.len;have l2:=h.l.len;refine Wp.eq ?_;unfold xj zx ku;simp only[VC,(yi p s).1];refine Wp.of (qr _ _ _).2 (Wp.of (Am (by omega)) ?_);simp only[VC,(yi p s).2];generalize (k8.filter λk=>decide (d∈P k))=u;generalize (k8.filter λk=>decide (d∈A k))=v
 cases ki p.1 v with
 |false=>simp
 |true =>
  simp only[û,í];exact Wp.of (qr _ _ _).1 (Wp.of (Am (by omega)) ⟨rfl,rfl⟩)
def j8 (ps:List Pg) (m:Int) (p q:ef):List (List Int):=(p.1.filter λk=>decide (k∈q.2)).map λk=>bR ps m k
def F5 (hl:ps.length<=1000) (h:dD p):sL [bD ps,.int m,aV p,aV q] s=ok (.lst ((j8 ps m p q).map lI)) s:=by
 have l1:=h.h.len;refine Wp.eq ?_;unfold sL;simp only[VC];refine Wp.of (iP (s1:=s) (ds:=p.1.map D.int) (Wp.eq (by simp only[VC,(yi p s).1,ğ]))) ⟨hU (by rw[Ä];omega),?_⟩;refine Wp.of (gZ (λk=>decide (k∈q.2)) (λk=>lI (bR ps m k)) p.1 λk _=>⟨[some (.int k),some (bD ps),some (.int m),some (aV q)],rfl,Wp.eq (by simp only[VC,(yi q s).2,oR,ğ]),λ_=>Wp.eq ?_⟩) ?_
 ·simp only[VC]
  exact Wp.of (xp hl) ⟨rfl,rfl⟩
 ·unfold j8
  rw[Ē];exact⟨rfl,rfl⟩
def JK (h:dD p) (hl:ps.length<=1000):(j8 ps m p q).length<=8/\∀ds∈j8 ps m p q,ds.length<=1000:=by
 unfold j8;refine⟨by rw[Ä];exact Û (Ķ _ _) h.h.len,λds hd=>?_⟩;obtain⟨k,_,rfl⟩:=ö.mp hd;exact Û tB hl
def uJ (L:List (List Int)) (d l:Int):Bool:=decide (l<d)||L.all λds=>pQ ds d l
def Hx (h1:L.length<=8) (h2:∀ds∈L,ds.length<=1000):sX [.lst (L.map lI),.int d,.int l] s=ok (.bl (uJ L d l)) s:=by
 refine Wp.eq ?_;unfold sX uJ;simp only[VC]
 cases decide (l<d) with
 |true=>simp
 |false =>
  simp only[Ã,ê,abM];refine Wp.of (il (ds:=L.map lI) rfl) ⟨hU (by rw[Ä];omega),?_⟩;refine Wp.of (comp_map lI (λ_=>true) (λds=>.bl (pQ ds d l)) L λds hd=>⟨[some (lI ds),some (.int d),some (.int l)],rfl,rfl,λ_=>Wp.eq ?_⟩) ?_
  ·simp only[VC]
   exact Wp.of (GC (h2 ds hd)) ⟨rfl,rfl⟩
  rw[filter_tt];exact Wp.of (nh _ _ _) ⟨rfl,rfl⟩
noncomputable abbrev Tb:=Int->Int->Bool
def jt (t:Tb):D:=.lst (cf.map λd=>.lst (cf.map λl=>.bl (t d l)))
def sJ (ps:List Pg) (m:Int) (p q:ef):Tb:=λd l=>uJ (j8 ps m p q) d l&&uJ (j8 ps m q p) l d
def NC (hl:ps.length<=1000) (hp:dD p) (hq:dD q):v8 [bD ps,.int m,aV p,aV q] s=ok (jt (sJ ps m p q)) s:=by
 obtain⟨a1,a2⟩:=JK (m:=m) (q:=q) hp hl;obtain⟨b1,b2⟩:=JK (m:=m) (q:=p) hq hl;refine Wp.eq ?_;unfold v8;simp only[VC];refine Wp.of (F5 hl hp) ?_;refine Wp.of (F5 hl hq) ?_;refine Wp.of (eh (n:=31) rfl (by decide)) ⟨by rw[cg];exact le_size (by decide),?_⟩;rw[uw];refine Wp.of (gZ (λ_=>true) (λd=>.lst (cf.map λl=>.bl (sJ ps m p q d l))) cf λd _=>⟨[some (.int d),some (.lst ((j8 ps m p q).map lI)),some (.lst ((j8 ps m q p).map lI))],rfl,rfl,λ_=>Wp.eq ?_⟩) ?_
 ·simp only[VC]
  refine Wp.of (eh (n:=31) rfl (by decide)) ⟨by rw[cg];exact le_size (by decide),?_⟩;rw[uw];refine Wp.of (gZ (λ_=>true) (λl=>.bl (sJ ps m p q d l)) cf λl _=>⟨[some (.int l),some (.lst ((j8 ps m p q).map lI)),some (.int d),some (.lst ((j8 ps m q p).map lI))],rfl,rfl,λ_=>Wp.eq ?_⟩) ?_
  ·simp only[VC]
   refine Wp.of (Hx a1 a2) ?_;simp only[VC,sJ]
   cases uJ (j8 ps m p q) d l with
   |false=>simp
   |true =>
    simp only[û,í];exact Wp.of (Hx b1 b2) ⟨rfl,rfl⟩
  ·rw[filter_tt];exact⟨rfl,rfl⟩
 ·rw[filter_tt];exact⟨rfl,rfl⟩
def Rg (ts:List Tb) (ds:List Int):eV (ts.map jt) (ds.map D.int)=(ts.zip ds).map λp=>D.tup [jt p.1,.int p.2]:=by
 unfold eV;rw[List.zip_map,Ē];rfl
def free_eq {ts:List Tb} {ds:List Int} {d:Int} {s:ag} (ht:ts.length<=10) (hd:0<=d/\d<31) (pZ:∀x∈ds,0<=x/\x<31):wQ [.lst (ts.map jt),mD ds,.int d] s=ok (.bl ((ts.zip ds).all λp=>p.1 p.2 d)) s:=by
 refine Wp.eq ?_;unfold wQ;simp only[VC];refine Wp.of (show BO (ae (aa 0) (ae (aa 1) ah)) [some (.lst (ts.map jt)),some (mD ds),some (.int d)] s=ok (eV (ts.map jt) (ds.map D.int)) s from rfl) ⟨?_,?_⟩
 ·rw[oH,Ä]
  exact hU (by omega)
 rw[Rg];refine Wp.of (comp_map (λp:Tb×Int=>D.tup [jt p.1,.int p.2]) (λ_=>true) (λp=>.bl (p.1 p.2 d)) (ts.zip ds) λp hp=>⟨[some (jt p.1),some (.int p.2),some (.int d)],rfl,rfl,λ_=>Wp.eq ?_⟩) ?_
 ·simp only[VC]
  have h2:=pZ p.2 (aae hp).2;refine Wp.of (show ak (jt p.1) (.int p.2) s=ok (.lst (cf.map λl=>.bl (p.1 p.2 l))) s from Bp h2) ?_;exact Wp.of (Bp hd) ⟨rfl,rfl⟩
 rw[filter_tt];exact Wp.of (nh _ _ _) ⟨rfl,rfl⟩
def iO:ef:=([],[])
def nY (ps:List Pg) (m:Int) (p:ef):List Int:=cf.filter λd=>zx p (k8.filter λk=>decide (d∈jD ps m k)) (k8.filter λk=>decide (d∈iM ps m k))
def pk (ps:List Pg) (m:Int) (ss:List ef) (i:Nat):List Tb:=(ß i).map λa=>sJ ps m (ss.getD a iO) (ss.getD i iO)
def vW (ps:List Pg) (m:Int) (ss:List ef) (i:Nat) (dt:List Int):List (List Int):=((nY ps m (ss.getD i iO)).filter λd=>((pk ps m ss i).zip dt).all λp=>p.1 p.2 d).map λd=>dt++[d]
def fC (ps:List Pg) (m:Int) (ss:List ef):Nat->List (List Int)
 |0=>[[]]
 |i+1=>(fC ps m ss i).flatMap (vW ps m ss i)
def Dt (n:Nat) (dt:List Int):Prop:=dt.length=n/\∀d∈dt,0<=d/\d<31
def Bq:∀dt∈fC ps m ss i,Dt i dt:=by
 induction i with
 |zero=>intro dt h;rw[fC,Ü] at h;subst h;exact⟨rfl,λd hd=>(by cases hd)⟩
 |succ i ih =>
  intro dt h;rw[fC] at h;obtain⟨b,hb,h⟩:=Ŭ.mp h;obtain⟨d,hd,rfl⟩:=ö.mp h;obtain⟨l,r⟩:=ih b hb;refine⟨by rw[â,l];rfl,λx hx=>?_⟩
  rcases Ù.mp hx with hx|hx
  ·exact r x hx
  ·rw[Ü.mp hx]
   exact AQ.mp (ć.mp (ć.mp hd).1).1
def SW:(fC ps m ss i).length<=31 ^ i:=by
 induction i with
 |zero=>simp[fC]
 |succ i ih =>
  rw[fC,Nat.pow_succ];refine Û (qJ (b:=31) λx _=>?_) (aaz 31 ih);unfold vW nY;rw[Ä];exact Û (Ķ _ _) (Û (Ķ _ _) (by simp[cf]))
def Br {i:Nat} (h:i<ss.length):ak (bu ss) (.int i) s=ok (aV (ss.getD i iO)) s:=by
 have e:dA (ss.map aV) (i:Int)=some (aV (ss.getD i iO)):=by
  rw[AN];unfold dA;rw[xF (by omega) (by omega)];show Option.map aV (ss[(i:Int).toNat]?)=_;rw[õ,Ð h,List.getD_eq_getElem?_getD,Ð h];rfl
 simp only[ak,gU,res,e,bx]
def IF {ss:List ef} (h:∀p∈ss,dD p) {i:Nat} (hi:i<ss.length):dD (ss.getD i iO):=by
 rw[List.getD_eq_getElem?_getD,Ð hi];exact h _ (aaK hi)
def ND {ps:List Pg} {m:Int} {ss:List ef} {i:Nat} {s:ag} {e6 e7:Option D} {Q:Fl->ag->Prop} (hl:ps.length<=1000) (h3:ss.length<=3) (hs:∀p∈ss,dD p) (hi:i<ss.length)
  (q:∀e6 e7,Q (.nx [some (bD ps),some (.int m),some (bu ss),some (.lst (cf.map (ku (jD ps m) (iM ps m)))),some (.lst ((fC ps m ss (i+1)).map mD)),some (.int i),e6,e7]) s) :
  Wp (zL [some (bD ps),some (.int m),some (bu ss),some (.lst (cf.map (ku (jD ps m) (iM ps m)))),some (.lst ((fC ps m ss i).map mD)),some (.int i),e6,e7] s) Q:=by
 have hp:=IF hs hi;unfold zL;refine nN (env':=[some (bD ps),some (.int m),some (bu ss),some (.lst (cf.map (ku (jD ps m) (iM ps m)))),some (.lst ((fC ps m ss i).map mD)),some (.int i),some (lI (nY ps m (ss.getD i iO))),e7]) (s':=s) (Wp.eq ?_) ?_
 ·simp only[wp_sAsg,asg_N,wp_comp]
  refine Wp.of (eh (n:=31) rfl (by decide)) ⟨by rw[cg];exact le_size (by decide),?_⟩;rw[uw];refine Wp.of (gZ (λd=>zx (ss.getD i iO) (k8.filter λk=>decide (d∈jD ps m k)) (k8.filter λk=>decide (d∈iM ps m k))) (λd=>.int d) cf λd hd=>⟨[some (.int d),some (bu ss),some (.int i),some (.lst (cf.map (ku (jD ps m) (iM ps m))))],rfl,Wp.eq ?_,λ_=>rfl⟩) ⟨rfl,rfl⟩;simp only[VC,Br hi,Bp (AQ.mp hd)];refine Wp.of (Rf hp) ?_;rw[wp_truB];exact⟨rfl,rfl⟩
 refine nN (env':=[some (bD ps),some (.int m),some (bu ss),some (.lst (cf.map (ku (jD ps m) (iM ps m)))),some (.lst ((fC ps m ss i).map mD)),some (.int i),some (lI (nY ps m (ss.getD i iO))),some (.lst ((pk ps m ss i).map jt))]) (s':=s) (Wp.eq ?_) ?_
 ·simp only[wp_sAsg,asg_N,wp_comp]
  refine Wp.of (eh (n:=i) rfl (by omega)) ⟨by rw[cg];exact le_size (by omega),?_⟩;rw[xn];refine Wp.of (comp_map (λa:Nat=>D.int (0+(a:Int))) (λ_=>true) (λa:Nat=>jt (sJ ps m (ss.getD a iO) (ss.getD i iO))) (ß i) λa ha=>⟨[some (.int (0+(a:Int))),some (bD ps),some (.int m),some (bu ss),some (.int i)],rfl,rfl,λ_=>Wp.eq ?_⟩) ?_
  ·have ha:=Ā.mp ha
   simp only[VC];rw[aaV];refine Wp.of (Br (show a<ss.length by omega)) (Wp.of (Br hi) ?_);exact Wp.of (NC hl (IF hs (by omega)) hp) ⟨rfl,rfl⟩
  ·rw[filter_tt]
   unfold pk;rw[Ē];exact⟨rfl,rfl⟩
 simp only[wp_sAsg,asg_N];show Wp (qY 2 [7,6] _ _ _ _ _ _ _ _ _) _;unfold qY;rw[Al];refine Wp.of (il (ds:=(fC ps m ss i).map mD) rfl) ?_;refine Wp.of (oX mD (λ_=>true) (λdt=>(vW ps m ss i dt).map mD) _ λdt Zs=>⟨[some (mD dt),none,some (.lst ((pk ps m ss i).map jt)),some (lI (nY ps m (ss.getD i iO)))],rfl,rfl,λ_=>?_⟩) ?_
 ·obtain⟨dl,dd⟩:=Bq dt Zs
  unfold more;rw[il (ds:=(nY ps m (ss.getD i iO)).map D.int) rfl,dI];rw[oX D.int (λd=>((pk ps m ss i).zip dt).all λp=>p.1 p.2 d) (λd=>[mD (dt++[d])]) (nY ps m (ss.getD i iO)) λd hd=>⟨[some (mD dt),some (.int d),some (.lst ((pk ps m ss i).map jt)),some (lI (nY ps m (ss.getD i iO)))],rfl,Wp.eq ?_,λ_=>Wp.eq ?_⟩]
  ·unfold vW
   rw[Ē,<- abY];rfl
  ·simp only[VC]
   refine Wp.of (free_eq (by unfold pk;rw[Ä,ľ];omega) (AQ.mp (ć.mp hd).1) dd) ?_;rw[wp_truB];exact⟨rfl,rfl⟩
  ·unfold emit
   rw[bB];simp only[VC];refine⟨by decide,?_⟩;refine Wp.of (show bO (mD dt) (.tup [.int d]) _=_ from fL (b:=[d]) (by rw[dl];simp;omega)) ?_;simp
 ·rw[filter_tt]
  have e:((fC ps m ss i).flatMap λdt=>(vW ps m ss i dt).map mD)=(fC ps m ss (i+1)).map mD:=by
   rw[fC,List.map_flatMap]
  rw[e];refine⟨?_,q _ _⟩;rw[Ä];refine le_size (Û SW ?_);have:i+1<=3:=by omega
  exact Û (Nat.pow_le_pow_right (by decide) this) (by decide)
def Ox (hl:ps.length<=1000) (h3:ss.length<=3) (hs:∀p∈ss,dD p):Wp (wR [bD ps,.int m,bu ss] s) λx s'=>x=.lst ((fC ps m ss ss.length).map mD)/\∃c,s'=s++c:=by
 unfold wR;refine wp_fn.symm ▸ ⟨rfl,Wp.step λR hR=>?_⟩;simp only[VC];refine(SQ hl).mono λx s1 hx=>?_;obtain⟨rfl,c,rfl⟩:=hx;subst hR;refine nN (env':=[some (bD ps),some (.int m),some (bu ss),some (.lst (cf.map (ku (jD ps m) (iM ps m)))),some (.lst ((fC ps m ss 0).map mD)),none,none,none]) (s':=s++c) rfl ?_;refine Wp.step λR hR=>?_;rw[wp_sFor];refine Wp.of (eh (s1:=s++c) (n:=ss.length) (Wp.eq ?_) (by omega)) ?_
 ·simp only[VC]
  exact Wp.of (show bK [bu ss] (s++c)=ok (.int ss.length) (s++c) by rw[show bK [bu ss] (s++c)=ok (.int ((ss.map aV).length:Nat)) (s++c) from rfl,Ä]) ⟨rfl,rfl⟩
 refine Wp.iZ (λi env t=>t=s++c/\∃e5 e6 e7,env=[some (bD ps),some (.int m),some (bu ss),some (.lst (cf.map (ku (jD ps m) (iM ps m)))),some (.lst ((fC ps m ss i).map mD)),e5,e6,e7]) _ ⟨rfl,_,_,_,rfl⟩ (λi d env t hd hI=>?_) λenv t hI=>?_
 ·obtain⟨rfl,e5,e6,e7,rfl⟩:=hI
  rw[gA] at hd;split at hd
  ·rename_i hi
   have hd:D.int (0+(i:Int))=d:=Option.some.inj hd;rw[aaV] at hd;subst hd;exact⟨_,rfl,ND hl h3 hs hi λe6 e7=>⟨rfl,_,_,_,rfl⟩⟩
  ·cases hd
 ·obtain⟨rfl,e5,e6,e7,rfl⟩:=hI
  rw[cg,aft_nx];subst hR;simp only[wp_sRet,wp_loc0,wp_locS,fin_rt];exact⟨trivial,c,rfl⟩
noncomputable def vX:Int->List Int->Int
 |b,[]=>b
 |b,d::ds=>if b<d then vX d ds else vX b ds
noncomputable def vY:Int->List Int->Int
 |b,[]=>b
 |b,d::ds=>if d<b then vY d ds else vY b ds
def B7:∀(ds:List Int) (b:Int),nV rR (.int b) (ds.map D.int) s=ok (.int (vX b ds)) s
 | [],b=>rfl
 |d::ds,b=>by
  rw[Ö];unfold nV vX;rw[zk,jL,dI];by_cases h:b<d
  ·rw[Ý h,Ú h];exact B7 ds d
  ·rw[ñ h,æ h];exact B7 ds b
def B9:∀(ds:List Int) (b:Int),nV xR (.int b) (ds.map D.int) s=ok (.int (vY b ds)) s
 | [],b=>rfl
 |d::ds,b=>by
  rw[Ö];unfold nV vY;rw[show xR (.int d) (.int b) s=ok (.bl (decide (d<b))) s from rfl,jL,dI];by_cases h:d<b
  ·rw[Ý h,Ú h];exact B9 ds d
  ·rw[ñ h,æ h];exact B9 ds b
def mx:List Int->Int
 | []=>0
 |d::ds=>vX d ds
def mn:List Int->Int
 | []=>0
 |d::ds=>vY d ds
def max_eq (h:ds≠[]):yd [mD ds] s=ok (.int (mx ds)) s/\uj [mD ds] s=ok (.int (mn ds)) s:=by
 cases ds with
 |nil=>exact absurd rfl h
 |cons d ds=>exact⟨B7 ds d,B9 ds d⟩
abbrev nZ (ds:List Int):D:=.tup [.int (mx ds-mn ds),.int (mn ds),mD ds]
def Hy (h:ds≠[]):ma [mD ds] s=ok (nZ ds) s:=by
 refine Wp.eq ?_;unfold ma;simp only[VC];refine Wp.of (max_eq h).1 (Wp.of (max_eq h).2 ?_);simp only[VC];exact Wp.of (max_eq h).2 ⟨by decide,rfl,rfl⟩
def vZ (a b:List Int):Bool:=if (mx a-mn a==mx b-mn b)=true then (if (mn a==mn b)=true then (if beq (mD a) (mD b)=true then false else yD a b) else decide (mn a<mn b)) else decide (mx a-mn a<mx b-mn b)
def U3:fR (nZ a) (nZ b) s=ok (.bl (vZ a b)) s:=by
 have l1:∀l,lay (nZ l)=true:=λl=>by simp only[lay,DI.cD,qE,Ĥ]
 have d1:dep (nZ a)<=30:=by simp only[dep,cz,GB];decide
 have e:ij (nZ a) (nZ b)=some (vZ a b):=by
  show fK [.int (mx a-mn a),.int (mn a),mD a] [.int (mx b-mn b),.int (mn b),mD b]=_;unfold vZ
  cases h:(mx a-mn a==mx b-mn b) with
  |true =>
   rw[xG (show beq (.int (mx a-mn a)) (.int (mx b-mn b))=true from h),Ú rfl]
   cases h1:(mn a==mn b) with
   |true =>
    rw[xG (show beq (.int (mn a)) (.int (mn b))=true from h1),Ú rfl]
    cases h2:beq (mD a) (mD b) with
    |true=>rw[xG h2,Ú rfl];rfl
    |false=>rw[xH h2,æ Ë];exact JI a b
   |false =>
    rw[xH (show beq (.int (mn a)) (.int (mn b))=false from h1),æ Ë];rfl
  |false =>
   rw[xH (show beq (.int (mx a-mn a)) (.int (mx b-mn b))=false from h),æ Ë];rfl
 unfold fR;rw[Ú (by rw[l1 a,l1 b,Ý d1];rfl),e];rfl
def mz:List Int->List (List Int)->List Int
 |b,[]=>b
 |b,y::ys=>if vZ y b=true then mz y ys else mz b ys
def Ap:∀{ys:List (List Int)} {b:List Int},mz b ys=b\/mz b ys∈ys
 | [],b=>.inl rfl
 |y::ys,b=>by
  unfold mz;split
  ·rcases Ap (ys:=ys) (b:=y) with h|h
   ·rw[h];exact .inr Ò
   ·exact .inr (Ñ _ h)
  ·rcases Ap (ys:=ys) (b:=b) with h|h
   ·exact .inl h
   ·exact .inr (Ñ _ h)
def JL:∀(ys:List (List Int)) (b:List Int),(∀y∈ys,y≠[])->pP (λd s=>ma [d] s) fR (mD b) (nZ b) (ys.map mD) s=ok (mD (mz b ys)) s
 | [],b,_=>rfl
 |y::ys,b,h=>by
  have h1:=Hy (s:=s) (h y Ò);have ih:=λb=>JL (s:=s) ys b λz hz=>h z (Ñ _ hz);rw[Ö];unfold pP;simp only[h1,jL,dI,U3,mz]
  cases vZ y b with
  |true=>simp only[û];exact ih y
  |false=>simp only[Ã,ê];exact ih b
def pq:List (List Int)->Option (List Int)
 | []=>none
 |x::xs=>some (mz x xs)
def uK:Option (List Int)->D
 |none=>.au
 |some x=>mD x
def Rh (h:pq L=some x):x∈L:=by
 cases L with
 |nil=>cases h
 |cons y ys =>
  have h:mz y ys=x:=Option.some.inj h;subst h
  rcases Ap (ys:=ys) (b:=y) with h|h
  ·rw[h];exact Ò
  ·exact Ñ _ h
def Ri (h:∀y∈L,y≠[]):xX ma (.lst (L.map mD)) s=ok (uK (pq L)) s:=by
 show BK (λd s=>ma [d] s) fR (some .au) (L.map mD) s=_
 cases L with
 |nil=>rfl
 |cons x xs =>
  rw[Ö];show ao (ne (ma [mD x] s)) (λk s=>pP (λd s=>ma [d] s) fR (mD x) k (xs.map mD) s)=_;rw[Hy (h x Ò),jL,dI];exact JL xs x λy hy=>h y (Ñ _ hy)
def Aq (hb:eG ps=true) (hm:0<=m/\m<4) (h1:1<=ss.length) (h3:ss.length<=3) (hs:∀p∈ss,dD p):sO [bD ps,.int m,bu ss] s=ok .au s:=by
 obtain⟨hl,hg⟩:=mZ hb;have Zt:wu [bu ss] s=ok (.bl true) s:=by
  refine Wp.eq ?_;unfold wu;simp only[VC];refine Wp.of (show ck [bu ss,.ty "tuple"] s=ok (.bl true) s from rfl) ?_;simp only[VC,û];refine Wp.of (show bK [bu ss] s=ok (.int ss.length) s by rw[show bK [bu ss] s=ok (.int ((ss.map aV).length:Nat)) s from rfl,Ä]) ?_;simp only[VC];rw[Ý (show (1:Int)<=ss.length by omega),Ú rfl,Ý (show (ss.length:Int)<=3 by omega),Ú rfl];refine Wp.of (iP (ds:=ss.map aV) rfl) ⟨hU (by rw[Ä];omega),?_⟩;refine Wp.of (comp_map aV (λ_=>true) (λ_=>.bl true) ss λp hp=>⟨[some (aV p)],rfl,rfl,λ_=>Wp.eq ?_⟩) ?_
  ·simp only[VC]
   have q:=hs p hp;have a1:=q.h.len;have a2:=q.l.len;refine Wp.of (show qD [aV p] s=_ from Hs (by omega) (by omega)) ?_;have e:ki p.1 p.2=true:=by
    unfold ki;rw[ē,aaw];intro x hx;simpa using q.ap x hx
   rw[wJ q.h (Nat.le_refl _),wJ q.l (Nat.le_refl _),e];exact⟨rfl,rfl⟩
  rw[filter_tt];refine Wp.of (nh (λ_=>true) _ _) ?_;simp
 refine Wp.eq ?_;unfold sO;simp only[VC];refine Wp.of (Rb (by omega) (λp hp=>(hg p hp).jX) hb) (Wp.of (PJ hm) (Wp.of Zt ?_));simp only[VC,ë,Ã,ê,ğ]
def PU (hb:eG ps=true) (hm:0<=m/\m<4) (h1:1<=ss.length) (h3:ss.length<=3) (hs:∀p∈ss,dD p):Wp (wD [bD ps,.int m,bu ss] s) λx s'=>x=uK (pq (fC ps m ss ss.length))/\∃c,s'=s++c:=by
 obtain⟨hl,hg⟩:=mZ hb;unfold wD;simp only[VC];refine Wp.of (Aq hb hm h1 h3 hs) ?_;refine(Ox (by omega) h3 hs).mono λx s1 hx=>?_;obtain⟨rfl,c,rfl⟩:=hx;refine Wp.of (Ri λy hy=>?_) ⟨rfl,c,rfl⟩;have:=(Bq y hy).1;intro z;rw[z] at this;simp at this;omega
def Rj (h:jj ps=[]) (hm:0<=m/\m<4) (hk:0<=k/\k<8):ni (sN ps m k) (lN ps m k) (mN ps m k):=by
 intro d e hs El he hc;simp only[sN,lN,mN,È] at hs hc;have c:lg ps m k d e=false:=by
  cases hc:lg ps m k d e with
  |false=>rfl
  |true =>
   exfalso;have jz:((d:Int),(e:Int))∈kj ps m k:=by
    refine Ŭ.mpr ⟨d,oG.mpr hs,ö.mpr ⟨e,ć.mpr ⟨?_,hc⟩,rfl⟩⟩;exact ö.mpr ⟨e-d,Ā.mpr (by omega),by omega⟩
   have:(m,k,(d:Int),(e:Int))∈jj ps:=Ŭ.mpr ⟨m,Bm.mpr hm,Ŭ.mpr ⟨k,rl.mpr hk,ö.mpr ⟨((d:Int),(e:Int)),jz,rfl⟩⟩⟩;rw[h] at this;cases this
 unfold lg at c;have c1:(decide ((e:Int)∈cO ps m k)||(decide ((e:Int)=(d:Int))&&decide ((d:Int)∈bR ps m k)))=true:=by
  rcases hc with hc | ⟨h1,h2⟩
  ·rw[Ý hc];rfl
  ·rw[Ý (show (e:Int)=d by omega),Ý h2];simp
 rw[c1,í,Bool.not_eq_false'] at c;unfold pQ at c;obtain⟨x,hx,hb⟩:=Ņ.mp c;simp only[Ç,È] at hb;refine⟨x.toNat,by omega,by omega,?_⟩;simp only[mN,È];rw[show ((x.toNat:Nat):Int)=x by omega];exact hx
def l9 (ps:List Pg) (m k:Int):Bool:=(ß 31).all λd=>(bw (sN ps m k) (lN ps m k) (mN ps m k) d).1||(bw (sN ps m k) (lN ps m k) (mN ps m k) d).2
def IG:l9 ps m k=true↔ni (sN ps m k) (lN ps m k) (mN ps m k):=by
 unfold l9;rw[ý];constructor
 ·intro h
  refine Ov λd hd e=>?_;have:=h d (by rw[Ā];omega);rw[e] at this;cases this
 ·intro N d hd
  rw[Ā] at hd;have:=IE N (show d<=30 by omega);generalize bw (sN ps m k) (lN ps m k) (mN ps m k) d=x at this;obtain⟨f,t⟩:=x
  cases f<;>cases t<;>first|rfl|exact(this rfl).elim
def Rk (x:Bool×Bool):lay (r6 x)=true:=by
 obtain⟨f,t⟩:=x
 cases f<;>cases t<;>rfl
def U4:cv (.tup []) (r9 ps m k) s=ok (.bl (!l9 ps m k)) s:=by
 unfold cv r9;simp only[nK,res,inD];rw[Ú (by unfold o9;rw[show lay (.tup [])=true from rfl,xa _ (λd=>Rk _),Ĥ,í];rfl)];simp only[Ŏ,bx];congr 2;unfold l9;rw[List.any_map,List.not_all_eq_any_not];congr 1;funext d;simp only[Function.comp];generalize bw (sN ps m k) (lN ps m k) (mN ps m k) d=x;obtain⟨f,t⟩:=x
 cases f<;>cases t<;>rfl
def eO (m:Int) (ds:List Int) (ss:List ef):List Pg:=(ds.zip ss).map λp=>Pg.made m p.1 p.2.1 p.2.2
def IH (h:p∈eO m ds ss):∃d sh,d∈ds/\sh∈ss/\p=.made m d sh.1 sh.2:=by
 unfold eO at h;obtain⟨q,hq,rfl⟩:=ö.mp h;exact⟨q.1,q.2,(aae hq).1,(aae hq).2,rfl⟩
def AR (h:ss.length<=3):(eO m ds ss).length<=3:=by
 unfold eO;rw[Ä,List.length_zip];omega
def zV (hb:eG ps=true) (hd:∀d∈ds,0<=d/\d<31) (hs:∀p∈ss,dD p):∀p∈ps++eO m ds ss,(0<=p.day/\p.day<31)/\jX p/\tV p:=λp hp=>by
 obtain⟨hl,hg⟩:=mZ hb
 rcases Ù.mp hp with hp|hp
 ·exact⟨(hg p hp).day,(hg p hp).jX,(hg p hp).apart⟩
 ·obtain⟨d,sh,h1,h2,rfl⟩:=IH hp
  have q:=hs sh h2;have a1:=q.h.len;have a2:=q.l.len;exact⟨hd d h1,⟨by omega,by omega⟩,q.ap⟩
def Oy (h:¬ m'=m):shown (ps++eO m ds ss) m' k=shown ps m' k/\cO (ps++eO m ds ss) m' k=cO ps m' k/\bR (ps++eO m ds ss) m' k=bR ps m' k:=by
 have no:∀f:Pg->Bool,(∀d a b,f (.made m d a b)=false)->((ps++eO m ds ss).filter f).map Pg.day=(ps.filter f).map Pg.day:=λf hf=>by
  have e:(eO m ds ss).filter f=[]:=by
   rw[abd];intro p hp;obtain⟨d,sh,_,_,rfl⟩:=IH hp;rw[hf];exact Ë
  rw[aa7,e,Ō]
 have h':¬ m=m':=λe=>h e.symm;exact⟨no _ λd a b=>by simp[j6,h'],no _ λd a b=>by simp[j7,h'],no _ λd a b=>by simp[ja]⟩
def Oz (hb:eG ps=true) (hq:ps.length<=21) (h3:ss.length<=3) (hm:0<=m/\m<4) (hd:∀d∈ds,0<=d/\d<31) (hs:∀p∈ss,dD p):(jj (ps++eO m ds ss)).isEmpty=k8.all λk=>l9 (ps++eO m ds ss) m k:=by
 rw[ş,abF,ý];constructor
 ·intro h k hk
  exact IG.mpr (Rj h hm (rl.mp hk))
 ·intro h
  refine FT ⟨by have:=AR (m:=m) (ds:=ds) h3;rw[â];omega,λp hp=>(zV hb hd hs p hp).1⟩ λm' Zu k hk=>?_;by_cases e:m'=m
  ·subst e
   exact IG.mp (h k hk)
  ·have N:=Iv hb (Bm.mp Zu) (rl.mp hk)
   obtain⟨e1,e2,e3⟩:=Oy (ps:=ps) (k:=k) (ds:=ds) (ss:=ss) e;unfold sN lN mN at N |-;rw[e1,e2,e3];exact N
def JM (h:a.length+b.length<=1000):bO (bD a) (bD b) s=ok (bD (a++b)) s:=by
 unfold bO bD;simp only[rP,res];rw[Ú (by unfold pL;rw[Ä,Ä];exact Ý (le_size (by omega))),č];rfl
def PV {m:Int} {ds:List Int}:(eV (ds.map D.int) (ss.map aV))=(ds.zip ss).map λp=>D.tup [.int p.1,aV p.2]:=by
 unfold eV;rw[List.zip_map,Ē];rfl
def OA {m:Int} {ds:List Int}:(eV (ss.map aV) (ds.map D.int))=(ds.zip ss).map λp=>D.tup [aV p.2,.int p.1]:=by
 induction ds generalizing ss with
 |nil=>cases ss<;>rfl
 |cons d ds ih =>
  cases ss with
  |nil=>rfl
  |cons s ss=>exact Ĺ (D.tup [aV s,.int d]::·) ih
def PX (hb:eG ps=true) (hd:∀d∈ds,0<=d/\d<31) (h3:ss.length<=3) (hs:∀p∈ss,dD p):Wp (tj [bD ps,.int m,bu ss,mD ds] s) λx s'=>x=.bl (k8.all λk=>l9 (ps++eO m ds ss) m k)/\∃c,s'=s++c:=by
 obtain⟨hl,hg⟩:=mZ hb;have l3:=AR (m:=m) (ds:=ds) h3;unfold tj;refine wp_fn.symm ▸ ⟨rfl,?_⟩;refine nN (env':=[some (bD ps),some (.int m),some (bu ss),some (mD ds),some (bD (ps++eO m ds ss))]) (s':=s) (Wp.eq ?_) ?_
 ·simp only[wp_sAsg,asg_N,wp_e2,wp_eB,wp_aCons,wp_aNil,wp_comp,wp_loc0,wp_locS,Ö,İ,ċ,ģ]
  refine Wp.of (show kE (ae (aa 2) (ae (aa 3) ah)) _ s=ok (eV (ss.map aV) (ds.map D.int)) s from rfl) ⟨by rw[oH,Ä,Ä];exact hU (by omega),?_⟩;rw[OA (m:=m)];refine Wp.of (comp_map (λp:Int×ef=>D.tup [aV p.2,.int p.1]) (λ_=>true) (λp=>(Pg.made m p.1 p.2.1 p.2.2).d) (ds.zip ss) λp _=>⟨[some (aV p.2),some (.int p.1),some (.int m)],rfl,rfl,λ_=>rfl⟩) ?_;rw[filter_tt];refine Wp.of (show cC [.lst ((ds.zip ss).map λp=>(Pg.made m p.1 p.2.1 p.2.2).d)] s=ok (bD (eO m ds ss)) s by unfold bD eO;rw[Ē];rfl) ?_;exact Wp.of (JM (by omega)) ⟨rfl,rfl⟩
 have mg:=zV (m:=m) hb hd hs;have lm:(ps++eO m ds ss).length<=1000:=by rw[â];omega
 generalize ps++eO m ds ss=qs at mg lm;simp only[wp_sRet,wp_e2,wp_comp,wp_lst,wp_aNil];refine Wp.of (eh (n:=8) rfl (by decide)) ⟨by rw[cg];exact le_size (by decide),?_⟩;refine mi (λi acc s'=>acc=((((ß i).map λi:Nat=>(i:Int)).filter λk=>!l9 qs m k)).map D.int/\∃c,s'=s++c) (bM 0 8) ⟨rfl,[],by simp⟩ (λi e acc s' he hI=>?_) λacc s' hI=>?_
 ·rw[gA] at he
  split at he
  ·rename_i hi
   have he:D.int (0+(i:Int))=e:=Option.some.inj he;rw[aaV] at he;subst he;obtain⟨rfl,c,rfl⟩:=hI;refine⟨[some (.int i),some (bD qs),some (.int m)],rfl,?_⟩;simp only[VC];refine⟨by decide,(JH lm mg).mono λx s2 hx=>?_⟩;obtain⟨rfl,c2,rfl⟩:=hx;refine Wp.of U4 ?_;rw[wp_isBl]
   cases hk:l9 qs m i with
   |true =>
    simp only[ë,Ã,ê];refine⟨?_,c++c2,by simp⟩;rw[ž,č,aa7];simp[hk]
   |false =>
    simp only[Ś,û];refine⟨?_,c++c2,by simp⟩;rw[ž,č,aa7,č];simp[hk]
  ·cases he
 ·rw[cg] at hI
  obtain⟨rfl,c,rfl⟩:=hI;refine⟨by decide,Wp.of (eq_nil (qE _)) ?_⟩;rw[fin_rt];refine⟨?_,c,rfl⟩;congr 1;rw[ş,abF,abZ,abd,ý];show (∀a∈k8,¬ (!l9 qs m a)=true)↔_;simp
def F6 (h:iQ ds=true) (hd:d∈ds):plain d=true:=by
 induction ds with
 |nil=>cases hd
 |cons e ds ih =>
  simp only[iQ,Ç] at h
  rcases Ó.mp hd with z|z
  ·rw[z];exact h.1
  ·exact ih h.2 z
noncomputable def zy:D->Bool
 | .tup _=>true
 |_=>false
def II (h:plain d=true):ck [d,.ty "tuple"] s=ok (.bl (zy d)) s:=by
 cases d<;>first|rfl | (simp[plain] at h)
noncomputable def gM:D->Bool
 | .int i=>decide (0<=i)&&decide (i<31)
 |_=>false
def PY (h:plain d=true) (hi:∀i,d≠.int i):lu [d,.int n] s=ok (.bl false) s:=by
 have no:∀d:D,ck [d,.ty "int"] s=ok (.bl false) s->lu [d,.int n] s=ok (.bl false) s:=λd h=>by
  refine Wp.eq ?_;unfold lu sQ;simp only[VC,h,Ã,ê,ğ]
 cases d with
 |int i=>exact absurd rfl (hi i)
 |bl b =>
  refine Wp.eq ?_;unfold lu sQ;simp only[VC];refine Wp.of (show ck [.bl b,.ty "int"] s=ok (.bl true) s from rfl) ?_;simp only[VC,û];refine Wp.of (show ck [.bl b,.ty "bool"] s=ok (.bl true) s from rfl) ?_;simp only[VC,ë,Ã,ê,ğ]
 |au=>exact no _ rfl
 |str x=>exact no _ rfl
 |tup ds=>exact no _ rfl
 |lst ds=>exact no _ rfl
 |aZ ai=>exact no _ rfl
 |aj k=>simp[plain] at h
 |ty k=>simp[plain] at h
 |bC k=>simp[plain] at h
def SX (h:plain d=true):m8 [d] s=ok (.bl (gM d)) s:=by
 by_cases hi:∃i,d=.int i
 ·obtain⟨i,rfl⟩:=hi
  exact Bl
 ·have e:gM d=false:=by
   cases d<;>first|rfl|exact(hi ⟨_,rfl⟩).elim
  refine Wp.eq ?_;unfold m8;simp only[VC];refine Wp.of (PY h λi z=>hi ⟨i,z⟩) ?_;rw[e];exact⟨rfl,rfl⟩
def PZ {d:D} {s:ag} {e0 e1:Option D} (h:plain d=true):Wp (wj [e0,e1,some d] s) λfl s'=>s'=s/\if gM d=true then ∃e,fl=.nx e/\(∃y,e=[e0,e1,y]) else fl=.rt (.bl false):=by
 unfold wj
 have no:ck [d,.ty "int"] s=ok (.bl false) s->gM d=false->Wp (cc (fM (fe (cK (eB ck (ae (aa 2) (ae (eC (.ty "int")) ah))))) (fM (cK (eB ck (ae (aa 2) (ae (eC (.ty "bool")) ah)))) (fe (aF (mL kF kF (eC (.int 0)) (aa 2) (eC (.int 30))))))) (aL (eC (.bl false))) bX [e0,e1,some d] s) λfl s'=>s'=s/\if gM d=true then ∃e,fl=.nx e/\(∃y,e=[e0,e1,y]) else fl=.rt (.bl false):=λh1 h2=>by
  simp only[VC,h1,h2,Ś,û,Ã,ê,ğ]
 cases d with
 |int i =>
  simp only[VC];refine Wp.of (show ck [.int i,.ty "int"] s=ok (.bl true) s from rfl) ?_;simp only[VC,ë,Ã,ê];refine Wp.of (show ck [.int i,.ty "bool"] s=ok (.bl false) s from rfl) ?_;simp only[VC,Ã,ê,gM];by_cases h0:0<=i
  ·by_cases h1:i<31
   ·simp[h0,h1,show i<=30 by omega]
   ·simp[h0,h1,show ¬ i<=30 by omega]
  ·simp[h0]
 |bl b =>
  simp only[VC];refine Wp.of (show ck [.bl b,.ty "int"] s=ok (.bl true) s from rfl) ?_;simp only[VC,ë,Ã,ê];refine Wp.of (show ck [.bl b,.ty "bool"] s=ok (.bl true) s from rfl) ?_;simp[wp_truB,gM,wp_sIf,wp_sRet,wp_C]
 |au=>exact no rfl rfl
 |str x=>exact no rfl rfl
 |tup ds=>exact no rfl rfl
 |lst ds=>exact no rfl rfl
 |aZ ai=>exact no rfl rfl
 |aj k=>simp[plain] at h
 |ty k=>simp[plain] at h
 |bC k=>simp[plain] at h
def SY {α:Type} (f:α->D) (p:α->Bool) (E:Env->Prop):∀(xs:List α),(∀x∈xs,∀env,E env->∃env',g (f x) env=some env'/\Wp (b env' s) λfl s'=>s'=s/\if p x=true then ∃e,fl=.nx e/\E e else fl=.rt (.bl false)) ->
  ∀env,E env->Wp (jK g b (xs.map f) env s) λfl s'=>s'=s/\if xs.all p=true then ∃e,fl=.nx e/\E e else fl=.rt (.bl false):=by
 intro xs
 induction xs with
 |nil=>intro _ env h;exact Wp.ok ⟨rfl,by simpa using h⟩
 |cons x xs ih =>
  intro hs env h;obtain⟨env',e1,q⟩:=hs x Ò env h;rw[Ö];unfold jK;rw[e1];refine Wp.ao (q.mono λfl s' hq=>?_);obtain⟨rfl,hq⟩:=hq
  cases hp:p x with
  |false =>
   rw[hp,æ Ë] at hq;subst hq;exact Wp.ok ⟨rfl,by simp[hp]⟩
  |true =>
   rw[hp,Ú rfl] at hq;obtain⟨e,rfl,he⟩:=hq;refine(ih (λy hy=>hs y (Ñ _ hy)) e he).mono λfl s' z=>?_;simpa [hp] using z
def qz (n:Nat):D->Bool
 | .tup ds=>decide (ds.length=n)&&ds.all gM
 |_=>false
def Rl {n:Nat} (h:plain d=true) (hl:∀ds,d=.tup ds->ds.length<=1000):sP [d,.int n] s=ok (.bl (qz n d)) s:=by
 refine Wp.eq ?_;unfold sP;refine wp_fn.symm ▸ ⟨rfl,Wp.step λR hR=>?_⟩;simp only[VC];refine Wp.of (II h) ?_;rw[wp_truB]
 cases ht:zy d with
 |false =>
  have e:qz n d=false:=by cases d<;>first|rfl|cases ht
  simp[e,aft_rt,fin_rt]
 |true =>
  cases d with
  |tup ds =>
   have hd:∀x∈ds,plain x=true:=λx=>F6 (show iQ ds=true from h);have hl:=hl ds rfl;simp only[ë,Ã,ê];refine Wp.of (show bK [.tup ds] s=ok (.int ds.length) s from rfl) ?_
   refine Wp.of (show gj (.int ds.length) (.int n) s=ok (.bl (!decide (ds.length=n))) s by rw[LV];by_cases e:ds.length=n<;>simp[e,Int.ofNat_inj]) ?_
   simp only[VC,qz];by_cases hn:ds.length=n
   ·simp only[hn,ę,ë,Ã,ê,í,aft_nx]
    subst hR;refine Wp.step λR hR=>?_;rw[wp_sFor];refine Wp.of (iP rfl) ?_;have:=SY (g:=gN 2) (b:=wj) (s:=s) (λd:D=>d) gM (λe=>∃y,e=[some (.tup ds),some (.int n),y]) ds (λx hx env he=>by
     obtain⟨y,rfl⟩:=he;exact⟨_,rfl,PZ (hd x hx)⟩) [some (.tup ds),some (.int n),none] ⟨_,rfl⟩
    rw[List.map_id'' (λ_=>rfl)] at this;refine this.mono λfl s' z=>?_;obtain⟨rfl,z⟩:=z
    cases ha:ds.all gM with
    |false =>
     rw[ha,æ Ë] at z;subst z;rw[aft_rt,fin_rt];exact⟨rfl,rfl⟩
    |true =>
     rw[ha,Ú rfl] at z;obtain⟨e,rfl,y,rfl⟩:=z;rw[aft_nx];subst hR;simp only[wp_sRet,wp_C,fin_rt,ğ]
   ·simp[hn,aft_rt,fin_rt]
  |_=>cases ht
def zz:D->Bool
 | .tup ds=>ds.all gM
 |_=>false
def Hz (h:plain d=true) (hl:∀ds,d=.tup ds->ds.length<=1000):wH [d] s=ok (.bl (zz d)) s:=by
 refine Wp.eq ?_;unfold wH;simp only[VC];refine Wp.of (II h) ?_;rw[wp_isBl]
 cases d with
 |tup ds =>
  have hd:∀x∈ds,plain x=true:=λx=>F6 (show iQ ds=true from h);have hl:=hl ds rfl;simp only[zy,û];refine Wp.of (iP rfl) ⟨le_size (by omega),?_⟩;have cm:=comp_map (λd:D=>d) (nt:=1) (caps:=[]) (g:=gN 0) (t:=bQ) (f:=ax m8 (ae (aa 0) ah)) (s:=s) (λ_=>true) (λd=>.bl (gM d)) ds λx hx=>⟨[some x],rfl,rfl,λ_=>Wp.eq (by simp only[VC];exact Wp.of (SX (hd x hx)) ⟨rfl,rfl⟩)⟩;rw[List.map_id'' (λ_=>rfl),filter_tt] at cm;refine Wp.of cm (Wp.of (nh gM ds s) ⟨rfl,rfl⟩)
 |_=>first|exact⟨rfl,rfl⟩ | (simp[zy];done) | (simp[plain] at h)
def S0 (h:ds.all gM=true):∃is:List Int,ds=is.map D.int/\∀i∈is,0<=i/\i<31:=by
 induction ds with
 |nil=>exact⟨[],rfl,λ_ h=>(by cases h)⟩
 |cons d ds ih =>
  rw[List.all_cons,Ç] at h;obtain⟨is,rfl,hi⟩:=ih h.2
  cases d with
  |int i =>
   have h1:=h.1;simp only[gM,Ç,È] at h1;exact⟨i::is,rfl,λx hx=>(Ó.mp hx).elim (λe=>by rw[e];exact h1) (hi x)⟩
  |_=>cases h.1
def U5 (f:Int×Int×Int×Int):lay (fD f)=true:=rfl
def GN (hb:eG ps=true) (hq:ps.length<=21) (hm:0<=m/\m<4) (h1:1<=ss.length) (h3:ss.length<=3) (hs:∀p∈ss,dD p) (h:plain d=true) (hl:∀ds,d=.tup ds->ds.length<=1000) :
  (qz ss.length d=false->oE [bD ps,.int m,bu ss,d] s=ok (.bl false) s)/\∀is:List Int,d=mD is->is.length=ss.length->(∀i∈is,0<=i/\i<31)->oE [bD ps,.int m,bu ss,d] s=ok (.bl (k8.all λk=>l9 (ps++eO m is ss) m k)) s:=by
 refine⟨λhg=>Wp.eq ?_,λis e hn hi=>Wp.eq ?_⟩
 ·unfold oE
  refine wp_fn.symm ▸ ⟨rfl,Wp.step λR hR=>?_⟩;simp only[VC];refine Wp.of (Aq hb hm h1 h3 hs) ?_;subst hR;refine Wp.step λR hR=>?_;simp only[VC];refine Wp.of (Hz h hl) ?_;rw[wp_truB]
  cases ht:zz d with
  |false=>simp[aft_rt,fin_rt,wp_sRet,wp_C]
  |true =>
   simp only[ë,Ã,ê]
   cases d with
   |tup ds =>
    refine Wp.of (show bK [.tup ds] s=ok (.int ds.length) s from rfl) ?_;refine Wp.of (show bK [bu ss] s=ok (.int ss.length) s by rw[show bK [bu ss] s=ok (.int ((ss.map aV).length:Nat)) s from rfl,Ä]) ?_;simp only[VC];have:¬ ds.length=ss.length:=λe=>by
     simp only[qz,e,ę,í] at hg;simp only[zz] at ht;rw[ht] at hg;cases hg
    simp[this,Int.ofNat_inj,aft_rt,fin_rt,wp_sRet,wp_C]
   |_=>cases ht
 ·subst e
  unfold oE;refine wp_fn.symm ▸ ⟨rfl,Wp.step λR hR=>?_⟩;simp only[VC];refine Wp.of (Aq hb hm h1 h3 hs) ?_;subst hR;refine Wp.step λR hR=>?_;simp only[VC];have ht:zz (mD is)=true:=by
   show (is.map D.int).all gM=true;rw[List.all_map,ý];intro i hx;have:=hi i hx;simp[Function.comp,gM,this]
  refine Wp.of (Hz h hl) ?_;rw[wp_truB,ht];simp only[ë,Ã,ê];refine Wp.of (show bK [mD is] s=ok (.int is.length) s by rw[show bK [mD is] s=ok (.int ((is.map D.int).length:Nat)) s from rfl,Ä]) ?_;refine Wp.of (show bK [bu ss] s=ok (.int ss.length) s by rw[show bK [bu ss] s=ok (.int ((ss.map aV).length:Nat)) s from rfl,Ä]) ?_;simp only[VC,hn,Ġ,ë,Ã,ê,aft_nx];subst hR;have l3:=AR (m:=m) (ds:=is) h3;refine nN (env':=[some (bD ps),some (.int m),some (bu ss),some (mD is),some (bD (eO m is ss))]) (s':=s) (Wp.eq ?_) ?_
  ·simp only[wp_sAsg,asg_N,wp_e2,wp_eB,wp_aCons,wp_aNil,wp_comp,wp_loc0,wp_locS,Ö,İ,ċ,ģ]
   refine Wp.of (show kE (ae (aa 3) (ae (aa 2) ah)) _ s=ok (eV (is.map D.int) (ss.map aV)) s from rfl) ⟨by rw[oH,Ä,Ä];exact hU (by omega),?_⟩;rw[PV (m:=m)];refine Wp.of (comp_map (λp:Int×ef=>D.tup [.int p.1,aV p.2]) (λ_=>true) (λp=>(Pg.made m p.1 p.2.1 p.2.2).d) (is.zip ss) λp _=>⟨[some (.int p.1),some (aV p.2),some (.int m)],rfl,rfl,λ_=>rfl⟩) ?_;rw[filter_tt];exact Wp.of (show cC [.lst ((is.zip ss).map λp=>(Pg.made m p.1 p.2.1 p.2.2).d)] s=ok (bD (eO m is ss)) s by unfold bD eO;rw[Ē];rfl) ⟨rfl,rfl⟩
  simp only[VC];refine Wp.of (JM (by omega)) ?_;have dy:nW (ps++eO m is ss):=⟨by rw[â];omega,λp hp=>(zV hb hi hs p hp).1⟩;refine Wp.of (GF dy) ⟨by decide,Wp.of (eq_nil (xa fD U5 _)) ?_⟩;simp only[fin_rt];refine⟨?_,trivial⟩;rw[<- Oz hb hq h3 hm hi hs]
  cases jj (ps++eO m is ss)<;>rfl
def Wf {ps:List Pg} {m:Int} {ss:List ef} {d:D} {s:ag} {e0 e1 Zv e6 e7 e9 de:Option D} (hb:eG ps=true) (hq:ps.length<=21) (hm:0<=m/\m<4) (h1:1<=ss.length) (h3:ss.length<=3) (hs:∀p∈ss,dD p) (h:plain d=true) (hl:∀ds,d=.tup ds->ds.length<=1000) :
  Wp (cH (ax sP (ae (aa 8) (ae (eB bK (ae (aa 5) ah)) ah))) (ax tj (ae (aa 3) (ae (aa 4) (ae (aa 5) (ae (aa 8) ah))))) [e0,e1,Zv,some (bD ps),some (.int m),some (bu ss),e6,e7,some d,e9,de] s) λx s'=>∃b c,x=.bl b/\s'=s++c/\∀t,oE [bD ps,.int m,bu ss,d] t=ok (.bl b) t:=by
 simp only[VC];refine Wp.of (show bK [bu ss] s=ok (.int ss.length) s by rw[show bK [bu ss] s=ok (.int ((ss.map aV).length:Nat)) s from rfl,Ä]) ?_;refine Wp.of (Rl h hl) ?_;rw[wp_isBl]
 cases hg:qz ss.length d with
 |false =>
  rw[æ Ë];exact⟨false,[],rfl,by simp,λt=>(GN (s:=t) hb hq hm h1 h3 hs h hl).1 hg⟩
 |true =>
  rw[Ú rfl]
  cases d with
  |tup ds =>
   simp only[qz,Ç,È] at hg;obtain⟨is,rfl,hi⟩:=S0 hg.2;have hn:is.length=ss.length:=by rw[<- hg.1,Ä]
   refine(PX (ds:=is) hb hi h3 hs).mono λx s' hx=>?_;obtain⟨rfl,c,rfl⟩:=hx;exact⟨_,c,rfl,rfl,λt=>(GN (s:=t) hb hq hm h1 h3 hs h hl).2 is rfl hn hi⟩
  |_=>cases hg
structure ll (d:D):Prop where
 pl:plain d=true
 sh:(py d).showable=true
 dp:(py d).depth<=3
 wt:(py d).weight<=1000
 lv:(py d).leavesShort 40=true
 nd:(py d).hasDict=false\/j3 (py d)=true
 ln:∀ds,d=.tup ds->ds.length<=1000
def Er (d:D):Bool:=plain d&&(py d).showable&&decide ((py d).depth<=3)&&decide ((py d).weight<=1000)&&(py d).leavesShort 40&&(!(py d).hasDict||j3 (py d))&&(match d with | .tup ds=>decide (ds.length<=1000) | _=>true)
def U6 (h:Er d=true):ll d:=by
 unfold Er at h;simp only[Ç,È,ż,ē] at h;obtain⟨⟨⟨⟨⟨⟨h0,h1⟩,h2⟩,h3⟩,h4⟩,h5⟩,h6⟩:=h;refine⟨h0,h1,h2,h3,h4,h5,λds e=>?_⟩;subst e;exact Ĭ h6
def Kr (h:Ft n W d) (hn:n<=3) (hw:W<=1000) (hl:∀ds,d=.tup ds->ds.length<=1000):ll d:=⟨h.pl,h.sh,Û h.dp hn,Û h.wt hw,h.lv,.inl h.nd,hl⟩
def GO (ns:List Int):iW (bN (ns.map D.int))=true:=by
 induction ns with
 |nil=>rfl
 |cons n r ih=>rw[Ö];simp only[bN,py,iW,j3,ih,Ĥ]
def S6 (ss:List ef):iW (bN (ss.map aV))=true:=by
 induction ss with
 |nil=>rfl
 |cons n r ih=>rw[Ö];simp only[aV,bN,py,iW,j3,GO,ih,Ĥ]
def S7 (ps:List Pg):iW (bN (ps.map Pg.d))=true:=by
 induction ps with
 |nil=>rfl
 |cons p r ih=>rw[Ö];cases p<;>simp only[Pg.d,ti,bN,py,iW,j3,GO,ih,Ĥ]
def Wg (h:dD p):Ft 2 1778 (aV p):=by
 refine nE (c:=2) (n:=1) (W:=888) (by simp) λx hx=>?_;simp only[Ó,ĕ,or_false] at hx
 rcases hx with rfl|rfl
 ·exact xI h.h
 ·exact xI h.l
def U7 (hb:eG ps=true) (h3:ss.length<=3) (hs:∀p∈ss,dD p) (h:ll d):t9 [.tup [bD ps,bu ss,d]] s=ok (.str (py (.tup [bD ps,bu ss,d])).shown) s:=by
 obtain⟨l1,l2⟩:=mZ hb;have F:Ft 4 (24*(7116+1)) (bD ps):=nE (by rw[Ä];exact l1) λx hx=>by
  obtain⟨p,hp,rfl⟩:=ö.mp hx;exact(l2 p hp).ft
 have G:Ft 3 (3*(1778+1)) (bu ss):=nE (by rw[Ä];exact h3) λx hx=>by
  obtain⟨p,hp,rfl⟩:=ö.mp hx;exact Wg (hs p hp)
 have nb:j3 (py (bD ps))=true:=S7 ps;have ns:j3 (py (bu ss))=true:=S6 ss;generalize bD ps=B at F nb |-;generalize bu ss=S at G ns |-;have f3:=F.wt;have g3:=G.wt;have h3:=h.wt;have f2:=F.dp;have g2:=G.dp;have h2:=h.dp;have lv:(py (.tup [B,S,d])).leavesShort 40=true:=by simp only[py.eq_5,bN,ab4,abC,ŗ,F.lv,G.lv,h.lv]
 have l:=PyData.shown_le 40 (by decide) _ lv;have w:(py (.tup [B,S,d])).weight<=200000:=by
  show ace (.tuple [py B,py S,py d])<=200000;simp only[ace,υ];omega
 have dp:(py (.tup [B,S,d])).depth<=10:=by
  show PyData.depth (.tuple [py B,py S,py d])<=10;simp only[PyData.depth,Ž];omega
 have z:Õ=16777216:=ζ
 show (if xU (.tup [B,S,d])=true then ok (D.str (py (.tup [B,S,d])).shown) s else none)=_
 rw[Ú];unfold xU;have e1:plain (.tup [B,S,d])=true:=by simp only[plain,iQ,h.pl,F.pl,G.pl,ŗ]
 have e2:(py (.tup [B,S,d])).showable=true:=by
  show aa0 (.tuple [py B,py S,py d])=true;simp only[aa0,ab3,F.sh,G.sh,h.sh,ŗ]
 rw[e1,e2,Ý (show (py (.tup [B,S,d])).depth<=100 by omega),Ý (show (py (.tup [B,S,d])).shown.length<=Õ by rw[z];omega)];show (true&&true&&(!(abp [py B,py S,py d])||iW [py B,py S,py d])&&true&&true)=true
 rcases h.nd with nd|nd
 ·simp[abp,F.nd,G.nd,nd]
 ·simp[iW,nb,ns,nd]
noncomputable def yF:List D:=[.au,.bl true,.bl false,.int (-1),.int 8,.int 31,.int 4,.str "",.str "0",.str "made",.tup [],.lst [],.aZ [],.tup [.int 0],.lst [.int 0],.int (10 ^ 29),.int (-(10 ^ 20)),.tup [.int 8]]
noncomputable def C4:List D:=[.tup [.str "made"],.tup [.int 0,.int 0],.tup [.tup [.int 0],.tup [.int 0]],.aZ [(abe "made",0)],.tup [.tup [],.tup []],.tup [.tup [.bl true],.tup []],.tup [.tup [.int 1,.int 0],.tup []],.str "made 0 0 -/-"]
def S8:(yF++C4).all Er=true:=by decide +kernel
def Bs (h0:0<=r) (h1:r<ds.length):∃d∈ds,ak (.lst ds) (.int r) s=ok d s:=by
 obtain⟨x,e,e2⟩:=nC h0 h1;exact⟨x,œ e2,by simp only[ak,gU,res,e,bx]⟩
def U8 (h:bh s k):Wp (xC [.aj k] s) λd s'=>bh s' k/\Ex k s s'/\ll d:=by
 unfold xC;refine wp_fn.symm ▸ ⟨rfl,?_⟩;refine nN (env':=[some (.aj k),some (.lst yF)]) (s':=s) rfl ?_;refine nN (env':=[some (.aj k),some (.lst (yF++C4))]) (s':=s) rfl ?_;simp only[wp_sRet,wp_e2,wp_call,wp_aCons,wp_aNil,wp_loc0,wp_locS,wp_C,fin_rt];refine(dH h (by decide) (by decide)).mono λx s1 hx=>?_;obtain⟨r,rfl,r0,r1,st,ex⟩:=hx;obtain⟨d,hd,e⟩:=Bs (ds:=yF++C4) (s:=s1) r0 r1;exact Wp.of e ⟨st,ex,U6 (ý.mp S8 d hd)⟩
structure lp (ds:List D):Prop where
 ln:ds.length<=4
 ft:∀x∈ds,Ft 0 110 x
def lp.th (h:lp ds):ll (.tup ds):=Kr (nE (c:=4) h.ln h.ft) (by decide) (by decide) λes e=>by
 injection e with e
 have:=h.ln;rw[<- e];omega
def lp.Zw (h:lp ds):ll (.lst ds):=Kr (U0 (c:=4) h.ln h.ft) (by decide) (by decide) λes e=>by cases e
def IJ (ds:List D) (lo hi:Option Int):∃es,(∀s,jh (.tup ds) lo hi s=ok (.tup es) s)/\es.length<=ds.length/\∀x∈es,x∈ds :=
 ⟨cutD ds lo hi,λs=>rfl,by unfold cutD;rw[ő,ν];omega,λx h=>abG (abH h)⟩
def JN (h0:0<=i) (h1:i<ds.length):∃es fs,(∀s,jh (.tup ds) none (some i) s=ok (.tup es) s)/\(∀s,jh (.tup ds) (some (i+1)) none s=ok (.tup fs) s)/\es.length+fs.length+1<=ds.length/\(∀x∈es,x∈ds)/\∀x∈fs,x∈ds:=by
 refine⟨_,_,λs=>rfl,λs=>rfl,?_,λx h=>abG (abH h),λx h=>abG (abH h)⟩;unfold cutD;rw[ő,ν,ő,ν];obtain⟨n,rfl⟩:=Int.eq_ofNat_of_zero_le h0;rw[HT.zX,HT.zX,show ((n:Int)+1)=((n+1:Nat):Int) from rfl,HT.xb,HT.xb];omega
def tJ (h:a.length+b.length<=1000):bO (.tup a) (.tup b) s=ok (.tup (a++b)) s:=by
 unfold bO;simp only[rP,res];rw[Ú (by unfold pL;exact Ý (le_size (by omega)))];rfl
def xu (h0:0<=r) (h1:r<ds.length):∃d∈ds,ak (.tup ds) (.int r) s=ok d s:=by
 obtain⟨x,e,e2⟩:=nC h0 h1;exact⟨x,œ e2,by simp only[ak,gU,res,e,bx]⟩
def Rm {α:Type} (n:Nat) (x:α):(Ï n [x]).flatten=Ï n x:=by
 induction n with
 |zero=>rfl
 |succ n ih=>rw[ĺ,Ŝ,ih];rfl
def AG {n:Nat} (h1:1<=n) (h2:n<=1000):hV (.tup [y]) (.int n) s=ok (.tup (Ï n y)) s:=by
 unfold hV;simp only[yw];rw[Ú (by simp only[List.isEmpty_cons,Ś,í,Ç,È,å,î,õ];exact⟨by omega,le_size (by omega)⟩),õ,Rm];rfl
def Xq:([.int (-1),.int 31,.bl true,.au,.str "1",.int 0,.int 30]:List D).all yE=true:=by decide +kernel
def Rn {k:Nat} (h:bh s k) (h1:1<=ss.length) (h3:ss.length<=3) (ht:told=.au\/∃ds,told=.tup ds/\ds.length=ss.length/\∀x∈ds,Ft 0 110 x):Wp (w6 [.aj k,bu ss,told] s) λd s'=>bh s' k/\Ex k s s'/\ll d:=by
 unfold w6;refine wp_fn.symm ▸ ⟨rfl,Wp.step λR hR=>?_⟩;simp only[VC];refine Wp.of (show bK [bu ss] s=ok (.int ss.length) s by rw[show bK [bu ss] s=ok (.int ((ss.map aV).length:Nat)) s from rfl,Ä]) ?_;refine(dH h (by decide) (by decide)).mono λx s1 hx=>?_;obtain⟨way,rfl,w0,w1,vV,x1⟩:=hx;subst hR;refine Wp.step λR hR=>?_;simp only[VC];refine Wp.of (iP (ds:=ss.map aV) rfl) ⟨hU (by rw[Ä];omega),?_⟩;refine mi (λi acc s'=>bh s' k/\Ex k s s'/\acc.length=i/\∀x∈acc,Ft 0 110 x) (ss.map aV) ⟨vV,x1,rfl,λx hx=>(by cases hx)⟩ (λi e acc s' he hI=>?_) λacc s2 hI=>?_
 ·obtain⟨st,ex,ha,hf⟩:=hI
  refine⟨[some e,some (.aj k)],rfl,?_⟩;simp only[VC];refine Wp.ok ?_;rw[Ú rfl];refine(dH st (by decide) (by decide)).mono λx s3 hx=>?_;obtain⟨r,rfl,r0,r1,gm,x3⟩:=hx;refine⟨gm,ex.trans x3,by rw[â,ha];rfl,λx hx=>?_⟩
  rcases Ù.mp hx with hx|hx
  ·exact hf x hx
  ·rw[Ü.mp hx];exact nD (by omega) (by omega)
 obtain⟨dO,x2,ln,ft⟩:=hI;rw[Ä] at ln;clear vV x1;refine Wp.of (show cC [.lst acc] s2=ok (.tup acc) s2 from rfl) ?_;subst hR;refine Wp.step λR hR=>?_;simp only[VC];refine(dH dO (by omega) (by omega)).mono λx s3 hx=>?_;obtain⟨at_,rfl,a0,a1,gm,x3⟩:=hx;refine Wp.of (show jN (.int 1) s3=ok (.int (-1)) s3 from rfl) ⟨by decide,?_⟩;refine(dH gm (by decide) (by decide)).mono λx s4 hx=>?_;obtain⟨r,rfl,r0,r1,oy,x4⟩:=hx;obtain⟨od,fg,eo⟩:=Bs (ds:=[.int (-1),.int 31,.bl true,.au,.str "1",.int 0,.int 30]) (s:=s4) r0 r1;have fo:Ft 0 110 od:=yh (ý.mp Xq od fg);refine Wp.of eo ?_;subst hR;have ex:=x2.trans (x3.trans x4);clear x2 x3 x4 dO gm eo fg;have ia:lp acc:=⟨by omega,ft⟩;refine Wp.step λR hR=>?_;simp only[wp_sIf,wp_tBl,wp_e2,wp_loc0,wp_locS,wp_C,wp_eqI,wp_isBl];by_cases hw:way=0
 ·rw[Ú (by simp[hw])]
  simp only[VC];rw[lD (i:=1) rfl];obtain⟨L1,e1,l1,i1⟩:=IJ acc none (some 1);obtain⟨L2,e2,l2,i2⟩:=IJ acc (some 1) none;have l1':L1.length<=1:=by
   have:=e1 s4
   have e:D.tup (cutD acc none (some ((1:Nat):Int)))=.tup L1:=by injection this with this;injection this with this _;injection this
   injection e with e
   rw[<- e];unfold cutD;rw[ő,HT.zX,HT.xb];omega
  refine Wp.of (e1 s4) (Wp.of (tJ (by omega)) ?_);rw[lD (i:=1) rfl];refine Wp.of (e2 s4) (Wp.of (show xT [.tup acc] s4=ok (.lst acc) s4 from rfl) ?_);refine(U8 oy).mono λd s5 hd=>?_;obtain⟨iD,x5,td⟩:=hd;refine⟨le_size (n:=4) (by decide),?_⟩;refine(dH iD (by decide) (by decide)).mono λx s6 hx=>?_;obtain⟨r,rfl,r0,r1,Ep,x6⟩:=hx;obtain⟨y,hy,e⟩:=Bs (ds:=[.tup (acc++L1),.tup L2,.lst acc,d]) (s:=s6) r0 r1;refine Wp.of e ⟨Ep,ex.trans (x5.trans x6),?_⟩;simp only[Ó,ĕ,or_false] at hy
  rcases hy with rfl|rfl|rfl|rfl
  ·refine lp.th ⟨by rw[â];omega,λx hx=>?_⟩
   rcases Ù.mp hx with hx|hx
   ·exact ft x hx
   ·exact ft x (i1 x hx)
  ·exact lp.th ⟨by omega,λx hx=>ft x (i2 x hx)⟩
  ·exact ia.Zw
  ·exact td
 rw[æ (by simpa using hw)];simp only[wp_sNil,aft_nx];subst hR;refine Wp.step λR hR=>?_;simp only[wp_sIf,wp_tBl,wp_e2,wp_loc0,wp_locS,wp_C,wp_eqI,wp_isBl];by_cases Md:way=1
 ·rw[Ú (by simp[Md])]
  obtain⟨es,fs,e1,e2,hl,he,hf⟩:=JN (ds:=acc) a0 (by omega);simp only[wp_sRet,wp_e2,wp_sl,wp_tup,wp_aCons,wp_aNil,wp_pNo,wp_loc0,wp_locS];rw[lD (i:=at_) rfl];refine Wp.of (e1 s4) ⟨le_size (n:=1) (by decide),Wp.of (tJ (by simp only[å,î];omega)) ?_⟩;rw[lD (i:=at_ + 1) rfl];refine Wp.of (e2 s4) (Wp.of (tJ (by simp only[â,å,î];omega)) ?_);rw[aft_rt,fin_rt];refine⟨oy,ex,lp.th ⟨by simp only[â,å,î];omega,λx hx=>?_⟩⟩
  rcases Ù.mp hx with hx|hx
  ·rcases Ù.mp hx with hx|hx
   ·exact ft x (he x hx)
   ·rw[Ü.mp hx];exact fo
  ·exact ft x (hf x hx)
 rw[æ (by simpa using Md)];simp only[wp_sNil,aft_nx];subst hR;obtain⟨y0,g0,e0⟩:=xu (ds:=acc) (s:=s4) (r:=0) (by decide) (by omega);refine Wp.step λR hR=>?_;simp only[wp_sIf,wp_tBl,wp_e2,wp_loc0,wp_locS,wp_C,wp_ltI,wp_isBl];by_cases Me:way<4
 ·rw[Ú (by simp[Me])]
  simp only[wp_sRet,wp_e2,wp_tup,wp_aCons,wp_aNil,wp_loc0,wp_locS,wp_C];refine Wp.of e0 ⟨le_size (n:=1) (by decide),Wp.of (AG h1 (by omega)) ?_⟩;rw[aft_rt,fin_rt];exact⟨oy,ex,lp.th ⟨by rw[ů];omega,λx hx=>by rw[(List.mem_replicate.mp hx).2];exact ft _ g0⟩⟩
 rw[æ (by simpa using Me)];simp only[wp_sNil,aft_nx];subst hR;obtain⟨ya,ga,ea⟩:=xu (ds:=acc) (s:=s4) (r:=at_) a0 (by omega);refine Wp.step λR hR=>?_;simp only[wp_sIf,wp_tAnd,wp_tBl,wp_e2,wp_loc0,wp_locS,wp_C,wp_ltI,wp_isBl];have fin:Wp (bX [some (.aj k),some (bu ss),some told,some (.int ss.length),some (.int way),some (.tup acc),some (.int at_),some od] s4) (mY R (rY λd s'=>bh s' k/\Ex k s s'/\ll d)):=by
  simp only[wp_sNil,aft_nx];subst hR;simp only[wp_sRet,wp_loc0,wp_locS,fin_rt];exact⟨oy,ex,ia.th⟩
 by_cases Mf:way<6
 ·rw[Ú (by simp[Mf])]
  rcases ht with rfl | ⟨ds,rfl,hd,hf⟩
  ·exact Wp.of (show ny .au .au s4=ok (.bl false) s4 from rfl) (by rw[wp_isBl,æ Ë];exact fin)
  ·refine Wp.of (show ny (.tup ds) .au s4=ok (.bl true) s4 from rfl) ?_
   rw[wp_isBl,Ú rfl];obtain⟨es,fs,e1,e2,hl,he,hg⟩:=JN (ds:=ds) a0 (by omega);simp only[wp_sRet,wp_e2,wp_sl,wp_tup,wp_aCons,wp_aNil,wp_pNo,wp_loc0,wp_locS];rw[lD (i:=at_) rfl];refine Wp.of (e1 s4) (Wp.of ea ⟨le_size (n:=1) (by decide),Wp.of (tJ (by simp only[å,î];omega)) ?_⟩);rw[lD (i:=at_ + 1) rfl];refine Wp.of (e2 s4) (Wp.of (tJ (by simp only[â,å,î];omega)) ?_);rw[aft_rt,fin_rt];refine⟨oy,ex,lp.th ⟨by simp only[â,å,î];omega,λx hx=>?_⟩⟩
   rcases Ù.mp hx with hx|hx
   ·rcases Ù.mp hx with hx|hx
    ·exact hf x (he x hx)
    ·rw[Ü.mp hx];exact ft _ ga
   ·exact hf x (hg x hx)
 ·rw[æ (by simpa using Mf),æ Ë]
  exact fin
def S9 (b:Bool) (s:ag):xg 8 [.bl b,.bl b] s=ok (.bl true) s:=by cases b<;>rfl
def OB {ps:List Pg} {m:Int} {ss:List ef} {d:D} {s:ag} {e0 e1 e2 e6 e7 e9 de:Option D} (hb:eG ps=true) (hq:ps.length<=21) (hm:0<=m/\m<4) (h1:1<=ss.length) (h3:ss.length<=3) (hs:∀p∈ss,dD p) (h:ll d):Wp (xD [e0,e1,e2,some (bD ps),some (.int m),some (bu ss),e6,e7,some d,e9,de] s) λfl s'=>∃x y,fl=.nx [e0,e1,e2,some (bD ps),some (.int m),some (bu ss),e6,e7,some d,x,y]:=by
 have rp:=λs=>U7 (s:=s) hb h3 hs h;generalize (py (.tup [bD ps,bu ss,d])).shown=X at rp;unfold xD;refine Wp.step λR hR=>?_;simp only[VC];refine⟨le_size (n:=3) (by decide),Wp.of (rp s) ?_⟩;subst hR;refine Wp.step λR hR=>?_;simp only[wp_sAsg,asg_N];refine(Wf hb hq hm h1 h3 hs h.pl h.ln).mono λx s1 hx=>?_;obtain⟨b,c,rfl,rfl,g⟩:=hx;subst hR;simp only[VC];refine Wp.of (g _) (Wp.of (S9 b _) ?_);simp only[VC,ë,Ã,ê];refine⟨le_size (n:=3) (by decide),Wp.of (rp _) (Wp.of ne_str ?_)⟩;simp only[VC,Ã,ê];exact⟨_,_,rfl⟩
def Ta (h:∀y∈L,y.length=n/\∀i∈y,0<=i/\i<31):uK (pq L)=.au\/∃ds,uK (pq L)=.tup ds/\ds.length=n/\∀x∈ds,Ft 0 110 x:=by
 cases e:pq L with
 |none=>exact .inl rfl
 |some y =>
  obtain⟨h1,h2⟩:=h y (Rh e);refine .inr ⟨y.map D.int,rfl,by rw[Ä];exact h1,λx hx=>?_⟩;obtain⟨i,hi,rfl⟩:=ö.mp hx;have:=h2 i hi;exact nD (by omega) (by omega)
def Ro (h:Wp (it env s) λds s=>ds.length<=Õ/\Wp (eT nt (fQ cap env) g t f ds s) λxs s=>Q (.aj s.length) (s++[.lst xs])):Wp (mj nt cap it g t f env s) Q:=by
 unfold mj;simp only[bB,m9,wp_ok];exact h
def P0 {W:ď} {ns:List Int} {i:Int} {s:ag} {e2 e3 e4 e5 e6 e7 e8 e9 de:Option D} {Q:Fl->ag->Prop} (hi:0<=i)
  (q:∀e2 e3 e4 e5 e6 e7 e8 e9 de s',Q (.nx [some (.bC ns),some (.int i),e2,e3,e4,e5,e6,e7,e8,e9,de]) s') :
  Wp (Bj W [some (.bC ns),some (.int i),e2,e3,e4,e5,e6,e7,e8,e9,de] s) Q:=by
 unfold Bj;refine Wp.step λR hR=>?_;simp only[VC];refine(QZ hi).mono λd s1 hd=>?_;obtain⟨rfl,h1,c1,rfl⟩:=hd;generalize s.length=k at h1;subst hR;refine Wp.step λR hR=>?_;simp only[VC];refine(Ra h1).mono λd s2 hd=>?_;obtain⟨ps,rfl,Zx,h2,x2,hb⟩:=hd;rw[lD (i:=24) rfl];refine Wp.of (U2 (n:=24)) ?_;rw[List.take_of_length_le (by omega)];refine(dH h2 (by decide) (by decide)).mono λd s3 hd=>?_;obtain⟨m,rfl,m0,m1,h3,x3⟩:=hd;subst hR;have hm:0<=m/\m<4:=⟨m0,m1⟩;refine Wp.step λR hR=>?_;simp only[VC];refine(PR hb hm h3).mono λd s4 hd=>?_;obtain⟨ss,rfl,n1,n3,hs,h4,x4⟩:=hd;subst hR;refine Wp.step λR hR=>?_;simp only[VC];refine(PU hb hm n1 n3 hs).mono λd s5 hd=>?_;obtain⟨rfl,c5,rfl⟩:=hd;subst hR;have h5:=h4.app c5;have ht:=Ta (n:=ss.length) (L:=fC ps m ss ss.length) Bq;generalize uK (pq (fC ps m ss ss.length))=told at ht |-;generalize s4++c5=s5 at h5 |-;refine Wp.step λR hR=>?_;simp only[wp_sAsg,asg_N];refine Ro (Wp.of (eh (n:=8) rfl (by decide)) ⟨by rw[cg];exact le_size (by decide),?_⟩);refine mi (λn acc t=>bh t k/\acc.length=n/\∀x∈acc,ll x) (bM 0 8) ⟨h5,rfl,λx hx=>(by cases hx)⟩ (λn e acc t he hI=>?_) λacc t hI=>?_
 ·obtain⟨st,ha,hf⟩:=hI
  refine⟨[some e,some (.aj k),some (bu ss),some told],rfl,Wp.ok ?_⟩;rw[Ú rfl];simp only[wp_call,wp_aCons,wp_aNil,wp_loc0,wp_locS];refine(Rn st n1 n3 ht).mono λx t1 hx=>?_;refine⟨hx.1,by rw[â,ha];rfl,λy hy=>?_⟩
  rcases Ù.mp hy with hy|hy
  ·exact hf y hy
  ·rw[Ü.mp hy];exact hx.2.2
 obtain⟨st,ln,th⟩:=hI;rw[cg] at ln;rw[aft_nx];subst hR;have v5:(t++[Cell.lst acc])[t.length]?=some (.lst acc):=by simp
 generalize t.length=j at v5 |-;generalize t++[Cell.lst acc]=t0 at v5 |-;have last:∀(ds:List D) (t:ag),t[j]?=some (.lst ds)->(∀x∈ds,ll x)->Wp (eU (bj (jT (aa 7))) (gN 8) xD [some (.bC ns),some (.int i),some (.aj k),some (bD ps),some (.int m),some (bu ss),some told,some (.aj j),e8,e9,de] t) Q:=λds t ht hd=>by
  rw[wp_sFor];refine Wp.of (il (s1:=t.set j .dead) (ds:=ds) (Wp.eq ?_)) ?_
  ·simp only[wp_frz,wp_loc0,wp_locS]
   exact Wp.of (show cL (.aj j) t=ok (.lst ds) (t.set j .dead) by unfold cL;simp only[ht]) ⟨rfl,rfl⟩
  generalize t.set j Cell.dead=t';refine Wp.iZ (λn env t=>∃e8 e9 de,env=[some (.bC ns),some (.int i),some (.aj k),some (bD ps),some (.int m),some (bu ss),some told,some (.aj j),e8,e9,de]) _ ⟨_,_,_,rfl⟩ (λn d env t dY hI=>?_) λenv t hI=>?_
  ·obtain⟨e8,e9,de,rfl⟩:=hI
   refine⟨_,rfl,(OB hb Zx hm n1 n3 hs (hd d (œ dY))).mono λfl s' z=>?_⟩;obtain⟨x,y,rfl⟩:=z;exact⟨_,_,_,rfl⟩
  ·obtain⟨e8,e9,de,rfl⟩:=hI
   exact q _ _ _ _ _ _ _ _ _ _
 refine Wp.step λR hR=>?_;simp only[wp_sIf,wp_tBl,wp_e2,wp_loc0,wp_locS,wp_C,ð,ï]
 rcases ht with rfl | ⟨ds,rfl,hd,hf⟩
 ·refine Wp.of (show ny .au .au _=ok (.bl false) _ from rfl) ?_
  rw[wp_isBl,æ Ë,wp_sNil,aft_nx];subst hR;exact last acc t0 v5 th
 ·refine Wp.of (show ny (.tup ds) .au _=ok (.bl true) _ from rfl) ?_
  rw[wp_isBl,Ú rfl];obtain⟨g1,g2⟩:=C3 (x:=.tup ds) v5 (by omega);simp only[wp_sExpr,wp_app,wp_loc0,wp_locS];refine⟨g1,Wp.of g2 ?_⟩;rw[aft_nx];subst hR;refine last (acc++[.tup ds]) _ (by rw[ã (Å.mp v5).1]) λx hx=>?_
  rcases Ù.mp hx with hx|hx
  ·exact th x hx
  ·rw[Ü.mp hx];exact lp.th ⟨by omega,hf⟩
def Rp (W:ď) (ns:List Int) (hn:ns.length<=63):∃s,ye W [.bC ns] []=some (.ok (.bl true),s):=by
 suffices h:Wp (ye W [.bC ns] []) λd _=>d=.bl true by
  obtain⟨d,s,e,rfl⟩:=h;exact⟨s,e⟩
 unfold ye;refine wp_fn.symm ▸ ⟨rfl,Wp.step λR hR=>?_⟩;rw[wp_sFor];have hr:∃n:Nat,n<=1000/\(ae (eB rF (ae (eC (.int 1)) (ae (eB xS (ae (eB bK (ae (aa 0) ah)) (ae (eC (.int 2)) ah))) ah))) ah) [some (.bC ns),none,none,none,none,none,none,none,none,none,none] []=ok [.int n] []:=by
  refine⟨(if (if (2:Int)<ns.length then (2:Int) else ns.length) > 1 then (if (2:Int)<ns.length then (2:Int) else ns.length) else 1).toNat,by split<;>split<;>omega,?_⟩
  rw[Int.toNat_of_nonneg (by split<;>split<;>omega)]
  rfl
 obtain⟨n,hn,hr⟩:=hr;refine Wp.of (eh hr (by omega)) ?_;refine Wp.iZ (λi env s=>∃e1 e2 e3 e4 e5 e6 e7 e8 e9 de,env=[some (.bC ns),e1,e2,e3,e4,e5,e6,e7,e8,e9,de]) _ ⟨_,_,_,_,_,_,_,_,_,_,rfl⟩ (λi d env s hd hI=>?_) (λenv s hI=>?_)
 ·obtain⟨e1,e2,e3,e4,e5,e6,e7,e8,e9,de,rfl⟩:=hI
  rw[gA] at hd;split at hd
  ·have hd:D.int (0+(i:Int))=d:=Option.some.inj hd
   subst hd;exact⟨_,rfl,P0 (by omega) λ_ _ _ _ _ _ _ _ _ _=>⟨_,_,_,_,_,_,_,_,_,_,rfl⟩⟩
  ·cases hd
 ·obtain⟨e1,e2,e3,e4,e5,e6,e7,e8,e9,de,rfl⟩:=hI
  rw[aft_nx];subst hR;simp only[wp_sRet,wp_C,fin_rt]
end DI
end
namespace DI.jB
open PySem L2 DI
def Df (K:Ĳ) (x:Str) (st:Stmt):Prop:=∃(f:á) (oc:Í) (od:Option á) (sl:Array (Option Í)) (kV dc pm:Í) (an:Option á) (cd ct:Í),Ć K ò x=some (some (.ref f))/\K.lookup f=some ⟨oc,od,.func (ſ x x (oP st) (lB st) (gy st) .none kV dc pm an cd ct),sl⟩/\abt K cd x=true/\Ų K (.ref f)=true
def Wh {K:Ĳ} {x:Str} {st:Stmt} {f:á} {oc:Í} {od:Option á} {sl:Array (Option Í)} {kV dc pm:Í} {an:Option á} {cd ct:Í} (a:Ć K ò x=some (some (.ref f))) (l:K.lookup f=some ⟨oc,od,.func (ſ x x (oP st) (lB st) (gy st) .none kV dc pm an cd ct),sl⟩) (c:abt K cd x=true) (k:Ų K (.ref f)=true):Df K x st:=⟨f,oc,od,sl,kV,dc,pm,an,cd,ct,a,l,c,k⟩
def pw {K:Ĳ} {x:Str} {i:Int} {t:Tok} (e:Ć K ò x=some (some (.int i t))):∃t,Ć K ò x=some (some (.int i t)):=⟨t,e⟩
def bg {K:Ĳ} {h:ŏ} {mg:Str->Option Í} {x:Str} {st:Stmt} {ps:List Str} (X:K.In h) (G:h.Ns ò mg) (D:Df K x st) (hb:∀(kV doc pm:Í) (an:Option á) (cw ct:Í) (us:List Í),us.length=ps.length->bindArgs (ſ x x (oP st) (lB st) (gy st) .none kV doc pm an cw ct) ⟨us,[]⟩=pure (ps.zip us)):∃f fd,Gd K mg x st ps f fd:=by
 obtain⟨f,oc,od,sl,kV,dc,pm,an,cd,ct,a,l,c,k⟩:=D;have F:=IW (st:=st) l c k;exact⟨f,_,Ř X G a,F,F.binds hb⟩
def fG {P:List Í->Prop} (h:∀a0:Í,P [a0]) (us:List Í) (hl:us.length=1):P us:=by
 cases us with
 |nil=>simp at hl
 |cons a0 qA =>
 cases qA with
 |cons _ _=>simp at hl
 |nil =>
 exact h a0
def jQ {P:List Í->Prop} (h:∀a0 a1:Í,P [a0,a1]) (us:List Í) (hl:us.length=2):P us:=by
 cases us with
 |nil=>simp at hl
 |cons a0 qA =>
 cases qA with
 |nil=>simp at hl
 |cons a1 v7 =>
 cases v7 with
 |cons _ _=>simp at hl
 |nil =>
 exact h a0 a1
def iy {P:List Í->Prop} (h:∀a0 a1 a2:Í,P [a0,a1,a2]) (us:List Í) (hl:us.length=3):P us:=by
 cases us with
 |nil=>simp at hl
 |cons a0 qA =>
 cases qA with
 |nil=>simp at hl
 |cons a1 v7 =>
 cases v7 with
 |nil=>simp at hl
 |cons a2 Es =>
 cases Es with
 |cons _ _=>simp at hl
 |nil =>
 exact h a0 a1 a2
def uy {P:List Í->Prop} (h:∀a0 a1 a2 a3:Í,P [a0,a1,a2,a3]) (us:List Í) (hl:us.length=4):P us:=by
 cases us with
 |nil=>simp at hl
 |cons a0 qA =>
 cases qA with
 |nil=>simp at hl
 |cons a1 v7 =>
 cases v7 with
 |nil=>simp at hl
 |cons a2 Es =>
 cases Es with
 |nil=>simp at hl
 |cons a3 Zy =>
 cases Zy with
 |cons _ _=>simp at hl
 |nil =>
 exact h a0 a1 a2 a3
def all_mk {P:ù} {w:ď} {K:Ĳ} {h:ŏ} {mg:Str->Option Í} {fa:á} (X:K.In h) (G:h.Ns ò mg) (Zz:mg "law"=some (.ref fa))
  (d0:Df K "_law_cell_at" (top 52))
  (d1:Df K "_law_state" (top 53))
  (d2:Df K "_law_take" (top 54))
  (d3:Df K "_law_leads" (top 64))
  (d4:Df K "_law_gone" (top 63))
  (d5:Df K "_law_may" (top 62))
  (d6:Df K "_law_marks" (top 57))
  (d7:Df K "_law_sheet" (top 58))
  (d8:Df K "_law_sheets" (top 65))
  (d9:Df K "by_width" (top 42))
  (Et:Df K "is_rising" (top 14))
  (Eu:Df K "is_number" (top 9))
  (Ew:Df K "is_below" (top 10))
  (Ey:Df K "is_mark" (top 11))
  (Ez:Df K "are_marks" (top 20))
  (EA:Df K "are_apart" (top 22))
  (EB:Df K "is_sheet" (top 21))
  (EC:Df K "is_mould" (top 12))
  (ED:Df K "is_day" (top 13))
  (EE:Df K "is_page" (top 23))
  (EF:Df K "are_laid" (top 24))
  (EG:Df K "days_seen" (top 29))
  (EH:Df K "days_mended" (top 30))
  (EI:Df K "is_any_behind" (top 28))
  (EJ:Df K "clashes" (top 27))
  (EK:Df K "faults_of" (top 26))
  (EL:Df K "is_book" (top 25))
  (EM:Df K "need_book" (top 31))
  (EN:Df K "need_mould" (top 15))
  (EO:Df K "are_sheets" (top 44))
  (ER:Df K "need_asked" (top 45))
  (cf:Df K "days_present" (top 35))
  (ES:Df K "days_absent" (top 36))
  (ET:Df K "marks_on" (top 34))
  (EU:Df K "sure_sheets" (top 33))
  (EV:Df K "mendings_between" (top 49))
  (EW:Df K "is_clear" (top 50))
  (EX:Df K "days_together" (top 48))
  (EY:Df K "agree" (top 37))
  (EZ:Df K "is_free" (top 47))
  (E1:Df K "datings" (top 46))
  (E2:Df K "narrowest" (top 41))
  (E3:Df K "_law_odd" (top 56))
  (E4:Df K "_law_thing" (top 67))
  (E5:Df K "_law_lived" (top 60))
  (E6:Df K "_law_book" (top 61))
  (E7:Df K "_law_good_days" (top 68))
  (E8:Df K "_law_agrees" (top 66))
  (E9:Df K "_law_same" (top 55))
  (Fb:Df K "are_days" (top 43))
  (Fc:Df K "is_dating" (top 40))
  (dl:Df K "law" (top 69))
  (AS:∃t,Ć K ò "MARKS"=some (some (.int (8) t)))
  (Ar:∃t,Ć K ò "MOULDS"=some (some (.int (4) t)))
  (Bt:∃t,Ć K ò "DAYS"=some (some (.int (31) t)))
  (AU:∃t,Ć K ò "PAGES"=some (some (.int (24) t)))
  (Ca:∃t,Ć K ò "HAS"=some (some (.int (0) t)))
  (AV:∃t,Ć K ò "LACKS"=some (some (.int (1) t)))
  (As:∃t,Ć K ò "SHEETS"=some (some (.int (3) t)))
  (Cb:Ć K ò "all"=some none)
  (Cc:Ć K ò "any"=some none)
  (Bu:Ć K ò "bool"=some none)
  (Cd:Ć K ò "int"=some none)
  (zD:Ć K ò "isinstance"=some none)
  (Ce:Ć K ò "len"=some none)
  (Bv:Ć K ò "list"=some none)
  (Cf:Ć K ò "max"=some none)
  (Cg:Ć K ò "min"=some none)
  (AW:Ć K ò "range"=some none)
  (Bw:Ć K ò "repr"=some none)
  (zN:Ć K ò "reversed"=some none)
  (Ci:Ć K ò "set"=some none)
  (Au:Ć K ò "sorted"=some none)
  (AX:Ć K ò "tuple"=some none)
  (Cj:Ć K ò "zip"=some none)
  : ∃fd:Ŗ,(∀(s:É) (v:Í),BindsTo s fd ⟨[v],[]⟩ [("_law_script",v)])/\∀base:ŏ,K.In base->base.Ns ò mg->fu P w K mg base gp 13 fa fd ["_law_script"] (xW K):=by
 have g0:=bg (ps:=["_law_script","_law_k"]) X G d0 λ_ _ _ _ _ _=>jQ λ_ _=>rfl;have g1:=bg (ps:=["_law_script","_law_k"]) X G d1 λ_ _ _ _ _ _=>jQ λ_ _=>rfl;have g2:=bg (ps:=["_law_state_here","_law_many"]) X G d2 λ_ _ _ _ _ _=>jQ λ_ _=>rfl;have g3:=bg (ps:=["_law_later","_law_one","_law_free"]) X G d3 λ_ _ _ _ _ _=>iy λ_ _ _=>rfl;have g4:=bg (ps:=["_law_ahead","_law_one","_law_free"]) X G d4 λ_ _ _ _ _ _=>iy λ_ _ _=>rfl;have g5:=bg (ps:=["_law_laid","_law_mould","_law_mark"]) X G d5 λ_ _ _ _ _ _=>iy λ_ _ _=>rfl;have g6:=bg (ps:=["_law_state_here","_law_most"]) X G d6 λ_ _ _ _ _ _=>jQ λ_ _=>rfl;have g7:=bg (ps:=["_law_state_here"]) X G d7 λ_ _ _ _ _ _=>fG λ_=>rfl;have g8:=bg (ps:=["_law_state_here","_law_book_here","_law_mould"]) X G d8 λ_ _ _ _ _ _=>iy λ_ _ _=>rfl;have g9:=bg (ps:=["dating"]) X G d9 λ_ _ _ _ _ _=>fG λ_=>rfl;have ZA:=bg (ps:=["things"]) X G Et λ_ _ _ _ _ _=>fG λ_=>rfl;have ZC:=bg (ps:=["thing"]) X G Eu λ_ _ _ _ _ _=>fG λ_=>rfl;have ZD:=bg (ps:=["thing","many"]) X G Ew λ_ _ _ _ _ _=>jQ λ_ _=>rfl;have ZE:=bg (ps:=["thing"]) X G Ey λ_ _ _ _ _ _=>fG λ_=>rfl;have ZF:=bg (ps:=["thing"]) X G Ez λ_ _ _ _ _ _=>fG λ_=>rfl;have ZG:=bg (ps:=["marks","others"]) X G EA λ_ _ _ _ _ _=>jQ λ_ _=>rfl;have ZH:=bg (ps:=["thing"]) X G EB λ_ _ _ _ _ _=>fG λ_=>rfl;have ZI:=bg (ps:=["thing"]) X G EC λ_ _ _ _ _ _=>fG λ_=>rfl;have ZJ:=bg (ps:=["thing"]) X G ED λ_ _ _ _ _ _=>fG λ_=>rfl;have ZK:=bg (ps:=["thing"]) X G EE λ_ _ _ _ _ _=>fG λ_=>rfl;have ZL:=bg (ps:=["thing"]) X G EF λ_ _ _ _ _ _=>fG λ_=>rfl;have ZM:=bg (ps:=["pages","mould","mark","half"]) X G EG λ_ _ _ _ _ _=>uy λ_ _ _ _=>rfl;have ZN:=bg (ps:=["pages","mould","mark"]) X G EH λ_ _ _ _ _ _=>iy λ_ _ _=>rfl;have ZO:=bg (ps:=["days","day","later"]) X G EI λ_ _ _ _ _ _=>iy λ_ _ _=>rfl;have ZP:=bg (ps:=["pages","mould","mark"]) X G EJ λ_ _ _ _ _ _=>iy λ_ _ _=>rfl;have ZQ:=bg (ps:=["pages"]) X G EK λ_ _ _ _ _ _=>fG λ_=>rfl;have ZR:=bg (ps:=["thing"]) X G EL λ_ _ _ _ _ _=>fG λ_=>rfl;have ZS:=bg (ps:=["thing"]) X G EM λ_ _ _ _ _ _=>fG λ_=>rfl;have ZT:=bg (ps:=["thing"]) X G EN λ_ _ _ _ _ _=>fG λ_=>rfl;have ZU:=bg (ps:=["thing"]) X G EO λ_ _ _ _ _ _=>fG λ_=>rfl;have ZV:=bg (ps:=["book","mould","sheets"]) X G ER λ_ _ _ _ _ _=>iy λ_ _ _=>rfl;have ZW:=bg (ps:=["book","mould","mark"]) X G cf λ_ _ _ _ _ _=>iy λ_ _ _=>rfl;have ZX:=bg (ps:=["book","mould","mark"]) X G ES λ_ _ _ _ _ _=>iy λ_ _ _=>rfl;have ZY:=bg (ps:=["days_by_mark","day"]) X G ET λ_ _ _ _ _ _=>jQ λ_ _=>rfl;have ZZ:=bg (ps:=["book","mould"]) X G EU λ_ _ _ _ _ _=>jQ λ_ _=>rfl;have Z0:=bg (ps:=["book","mould","sheet","other"]) X G EV λ_ _ _ _ _ _=>uy λ_ _ _ _=>rfl;have Z1:=bg (ps:=["mendings","day","later"]) X G EW λ_ _ _ _ _ _=>iy λ_ _ _=>rfl;have Z2:=bg (ps:=["book","mould","sheet","other"]) X G EX λ_ _ _ _ _ _=>uy λ_ _ _ _=>rfl;have Z3:=bg (ps:=["sheet","sure"]) X G EY λ_ _ _ _ _ _=>jQ λ_ _=>rfl;have Z4:=bg (ps:=["tables","dating","day"]) X G EZ λ_ _ _ _ _ _=>iy λ_ _ _=>rfl;have Z5:=bg (ps:=["book","mould","sheets"]) X G E1 λ_ _ _ _ _ _=>iy λ_ _ _=>rfl;have Z6:=bg (ps:=["book","mould","sheets"]) X G E2 λ_ _ _ _ _ _=>iy λ_ _ _=>rfl;have Z7:=bg (ps:=["_law_state_here"]) X G E3 λ_ _ _ _ _ _=>fG λ_=>rfl;have Z8:=bg (ps:=["_law_state_here","_law_sheets_here","_law_told"]) X G E4 λ_ _ _ _ _ _=>iy λ_ _ _=>rfl;have Z9:=bg (ps:=["_law_state_here","_law_mended"]) X G E5 λ_ _ _ _ _ _=>jQ λ_ _=>rfl;have g45:=bg (ps:=["_law_state_here"]) X G E6 λ_ _ _ _ _ _=>fG λ_=>rfl;have g46:=bg (ps:=["_law_thing_here","_law_many"]) X G E7 λ_ _ _ _ _ _=>jQ λ_ _=>rfl;have g47:=bg (ps:=["_law_book_here","_law_mould","_law_sheets_here","_law_days"]) X G E8 λ_ _ _ _ _ _=>uy λ_ _ _ _=>rfl;have g48:=bg (ps:=["_law_found","_law_due"]) X G E9 λ_ _ _ _ _ _=>jQ λ_ _=>rfl;have g49:=bg (ps:=["thing"]) X G Fb λ_ _ _ _ _ _=>fG λ_=>rfl;have g50:=bg (ps:=["book","mould","sheets","thing"]) X G Fc λ_ _ _ _ _ _=>uy λ_ _ _ _=>rfl;have oJ:∃t,mg "MARKS"=some (.int (8) t):=by obtain⟨t,e⟩:=AS;exact⟨t,Ř X G e⟩
 have wU:∃t,mg "MOULDS"=some (.int (4) t):=by obtain⟨t,e⟩:=Ar;exact⟨t,Ř X G e⟩
 have lC:∃t,mg "DAYS"=some (.int (31) t):=by obtain⟨t,e⟩:=Bt;exact⟨t,Ř X G e⟩
 have Aj:∃t,mg "PAGES"=some (.int (24) t):=by obtain⟨t,e⟩:=AU;exact⟨t,Ř X G e⟩
 have oW:∃t,mg "HAS"=some (.int (0) t):=by obtain⟨t,e⟩:=Ca;exact⟨t,Ř X G e⟩
 have oK:∃t,mg "LACKS"=some (.int (1) t):=by obtain⟨t,e⟩:=AV;exact⟨t,Ř X G e⟩
 have zU:∃t,mg "SHEETS"=some (.int (3) t):=by obtain⟨t,e⟩:=As;exact⟨t,Ř X G e⟩
 have Wi:=ĉ X G Cb;have Wj:=ĉ X G Cc;have U9:=ĉ X G Bu;have Wk:=ĉ X G Cd;have Na:=ĉ X G zD;have Wl:=ĉ X G Ce;have Va:=ĉ X G Bv;have Wm:=ĉ X G Cf;have Wn:=ĉ X G Cg;have Tc:=ĉ X G AW;have Vb:=ĉ X G Bw;have OC:=ĉ X G zN;have Wo:=ĉ X G Ci;have Rq:=ĉ X G Au;have Td:=ĉ X G AX;have Wq:=ĉ X G Cj;obtain⟨f,oc,od,sl,kV,dc,pm,an,cd,ct,a,l,c,k⟩:=dl;have e:=Zz.symm.trans (Ř X G a);cases e;have F:=IW (st:=(top 69)) l c k;have GL:Gd K mg "law" (top 69) ["_law_script"] _ _:=⟨Ř X G a,F,F.binds λ_ _ _ _ _ _=>fG λ_=>rfl⟩;exact⟨_,λs v=>.of_eq rfl,λbase _ _=>Ur (UQ ⟨Wi,Wj,U9,Wk,Na,Wl,Va,Wm,Wn,Tc,Vb,OC,Wo,Rq,Td,Wq,oJ,wU,lC,Aj,oW,oK,zU,g0,g1,g2,g3,g4,g5,g6,g7,g8,g9,ZA,ZC,ZD,ZE,ZF,ZG,ZH,ZI,ZJ,ZK,ZL,ZM,ZN,ZO,ZP,ZQ,ZR,ZS,ZT,ZU,ZV,ZW,ZX,ZY,ZZ,Z0,Z1,Z2,Z3,Z4,Z5,Z6,Z7,Z8,Z9,g45,g46,g47,g48,g49,g50⟩ GL) (Rp w)⟩
def walk {l:PySem.W.OpenLaw} {q:ù} {loose:List Str} {XP:(Str->Option Í)->ŏ->Prop} {YP:ď->ŏ->Prop} {d:DefRec} {K:Params->Ĳ} (hn:l.most=some 63) (u7:d.params.defaults=[])
  (hY:∀(w:ď) (h:ŏ),YP w h->(K w.params).In h)
  (F:∀(w:ď) (mg:Str->Option Í) (fa:á) (h:ŏ),(K w.params).In h->h.Ns ò mg->mg d.name=some (.ref fa) ->
   ∃fd:Ŗ,(∀(s:É) (u:Í),BindsTo s fd ⟨[u],[]⟩ [("_law_script",u)])/\∀base:ŏ,(K w.params).In base->base.Ns ò mg->fu l.prog w (K w.params) mg base gp 13 fa fd ["_law_script"] (xW (K w.params))) :
  PySem.W.WalkO q loose XP YP l.row.toRowW d [] (λf vs=>PySem.call f vs) :=
 L2.RO (n:=63) (k:=13) (x:="_law_script") (CX:=λ_=>gp) (sp:=λw=>xW (K w.params)) hn (by decide) u7 ⟨rfl,by decide,by decide,rfl⟩ hY F (λ_ _ a ns hl _ hS=>⟨a,ns,rfl,hS,hl,λ_=>rfl⟩) λ_ _ _ _ _ z=>z
end DI.jB
open PySem PySem.W PyProof.Rows
theorem PySem.W.Fast.te15153001465725154811:True:=trivial
theorem PySem.W.Fast.te5995666498464447792:True:=trivial
theorem PySem.W.Fast.te3803001024047422272:True:=trivial
theorem PySem.W.Fast.te8403559534865787773:True:=trivial
theorem PySem.W.Fast.te15500001179271910561:True:=trivial
theorem PySem.W.Fast.te11050979591101752323:True:=trivial
theorem PySem.W.Fast.te1105925389330978991:True:=trivial
theorem PySem.W.Fast.te6352022920386593623:True:=trivial
theorem PySem.W.Fast.te13951900729427702021:True:=trivial
theorem PySem.W.Fast.te2095505792424464408:True:=trivial
theorem PySem.W.Fast.te2523890310161891664:True:=trivial
theorem PySem.W.Fast.te16055216738188405661:True:=trivial
theorem PySem.W.Fast.te2242574654237065149:True:=trivial
theorem PySem.W.Fast.te1389782796405144899:True:=trivial
theorem PySem.W.Fast.te8851545819654144617:True:=trivial
theorem PySem.W.Fast.te901417309943336117:True:=trivial
theorem PySem.W.Fast.te4326932780976467135:True:=trivial
theorem PySem.W.Fast.te4675057698280592698:True:=trivial
theorem PySem.W.Fast.te9660847140627098644:True:=trivial
theorem PySem.W.Fast.te1020614262643507545:True:=trivial
theorem PySem.W.Fast.te12272347766707202831:True:=trivial
theorem PySem.W.Fast.te549769654524631483:True:=trivial
theorem PySem.W.Fast.te16495383925964484191:True:=trivial
theorem PySem.W.Fast.te5000404682729639453:True:=trivial
theorem PySem.W.Fast.te497068777744905060:True:=trivial
theorem PySem.W.Fast.te8038159626549558038:True:=trivial
theorem PySem.W.Fast.te5096972540916343484:True:=trivial
theorem PySem.W.Fast.te15278050212498685951:True:=trivial
theorem PySem.W.Fast.te10264194519855129536:True:=trivial
set_option maxRecDepth 100000 in
set_option maxHeartbeats 0 in
theorem PySem.Challenge.cw_twinmoulds_k08_datings_looked_at_holds : PySem.Challenge.rw_twinmoulds_k08_datings_looked_at.Holds := by
 w_on;o_law;k_head;(case hw=>w_witness2)
 k_fill
 refine DI.jB.walk (l:=PySem.Challenge.rw_twinmoulds_k08_datings_looked_at) rfl rfl (λw h Y=>PySem.W.kIn_of Y) ?F
 case F =>
  intro w mg fa h KX G u9;refine' DI.jB.all_mk KX G u9 ?d0 ?d1 ?d2 ?d3 ?d4 ?d5 ?d6 ?d7 ?d8 ?d9 ?Et ?Eu ?Ew ?Ey ?Ez ?EA ?EB ?EC ?ED ?EE ?EF ?EG ?EH ?EI ?EJ ?EK ?EL ?EM ?EN ?EO ?ER ?cf ?ES ?ET ?EU ?EV ?EW ?EX ?EY ?EZ ?E1 ?E2 ?E3 ?E4 ?E5 ?E6 ?E7 ?E8 ?E9 ?Fb ?Fc ?dl ?AS ?Ar ?Bt ?AU ?Ca ?AV ?As ?Cb ?Cc ?Bu ?Cd ?zD ?Ce ?Bv ?Cf ?Cg ?AW ?Bw ?zN ?Ci ?Au ?AX ?Cj
  (case d0|d1|d2|d3|d4|d5|d6|d7|d8|d9|Et|Eu|Ew|Ey|Ez|EA|EB|EC|ED|EE|EF|EG|EH|EI|EJ|EK|EL|EM|EN|EO|ER|cf|ES|ET|EU|EV|EW|EX|EY|EZ|E1|E2|E3|E4|E5|E6|E7|E8|E9|Fb|Fc|dl=>refine' DI.jB.Wh ?a ?l ?c ?k;(case a=>k_is);(case l=>k_is);(case c=>k_is);(case k=>k_is))
  (case AS=>refine' DI.jB.pw ?e;(case e=>k_is))
  (case Ar=>refine' DI.jB.pw ?e;(case e=>k_is))
  (case Bt=>refine' DI.jB.pw ?e;(case e=>k_is))
  (case AU=>refine' DI.jB.pw ?e;(case e=>k_is))
  (case Ca=>refine' DI.jB.pw ?e;(case e=>k_is))
  (case AV=>refine' DI.jB.pw ?e;(case e=>k_is))
  (case As=>refine' DI.jB.pw ?e;(case e=>k_is))
  (case Cb|Cc|Bu|Cd|zD|Ce|Bv|Cf|Cg|AW|Bw|zN|Ci|Au|AX|Cj=>k_is)
