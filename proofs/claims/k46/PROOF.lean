import PyProof.Rows.All
import Wide.All
import OpenK.AllK
import Wide.FinOn
import Lean
import PyProof.EqAt
import PyProof.EqKinds
import PyProof.TupleCall
import PyProof.NeData
import PyProof.P3In
import PyProof.FactsAll.set
import PyProof.CollectWalk
import PyProof.FactsAll.range
import PyProof.MinMaxWalk
import KE.KMinKey
import PyProof.WalkInts
import PyProof.Rows.CallKwBuiltin
import KE.KLam
import KE.KSortTup
import PyProof.Rows.Range3
import PyProof.ListRange
import PyProof.DictRoadsH
import KE.KDictList
import PyProof.Rows.SortKeyStr
import PyProof.DictCompW
import PyProof.DictWalks
import PyProof.Rows.CompDC
import PyProof.SumAny
import PyProof.TupleOfGen
import PyProof.CollectIter
import KE.KTryMore
import OpenK.KOwn
import PyProof.ExcBaseAll.ValueError
import KE.KNestM
import PyProof.NsDelKeeps
import PyProof.ExcAttrAll.ValueError
import PyProof.InstStoreFacts
import PyProof.Rows.SumAny
import PySem.Challenge.RW_twinmoulds_k46_a_loft_and_its_deeds
set_option bootstrap.genMatcherCode false
set_option genInjectivity false
set_option genSizeOfSpec false
set_option Elab.async false
set_option linter.all false
set_option maxRecDepth 100000
set_option maxHeartbeats 4000000
open PySem renaming wpAny_bind→À,Shared→Á,Value→Â,starEach→Ä,mainGlobals→Ç,wpAny_pure→Ë,Addr→Ì,Program→Ó,sizeLine→Ô,wpAny→Ö,model→Ø,Around→Ù,World→î,bootBuiltins→õ,FuncData→ú,wpAny_mono→ü,Expr→ÿ,Heap→Ă,compareOp→ă,mem_of_lookup→ą,backTo→Ĉ,wpAny_holding→ċ,binaryOp→Ē,eval→Ĕ,wpAny_seqItems→Ė,foldedSetIterable→Ğ,wpAny_field→ġ,attributeBase→Ĥ,wpAny_setField_rec→ĥ,assignEach→Ī,keywordEach→ĭ,NameKind→Į,wpAny_callSpecial?_slot→į,wpAny_call_entry→ı,wpAny_call→Ĵ,wpAny_Call_Name_kw→ķ,wpAny_truthy_bool→Ŀ,wpAny_newObj_type→ŀ,wpAny_loadPart_at→Ł,wpAny_newFunctionEnv_cells→ł,Scope→Ń,codeAny_call_builtin→ń,cellsFrom→Ň,IsPair→Ŋ,codeAny_mono→Ŕ,wpAny_standAt→ř,letOwnedTupleGo→Ś,wpAny_passesOwn→ś,behindInMarks→Ŝ,Arguments→Š,PyData→Ŧ,holding→Ũ,sizeLine_eq→ũ,codeAny→Ū,eqIsQuiet_byValue→Ů,recursionLimit→ű,rawInt→Ų,codeAny_call_function→Ŵ,Stmt→ŷ,wpAny_execs_cons→Ÿ,swapsWithSole→ż,swappedStores→Ž,backToKw→ž,wpAny_attempt→ſ,sysModules→ε,wpAny_execs_nil→θ,getAttrByItsOwn→χ,excClassObj→ψ,Keyword→Po,Builtin→Pp,getMethod→Pu
open PySem.Heap renaming get?_push_of_some→Ã,lt_size→É,get?_push_size→Ï,size_push→ö,SameBut→Ĭ,get?_some_iff→ĸ,get?_update_self→ŵ,FlyingW→Ŷ,get?_update_ne→υ
open Bool renaming and_eq_true→Å,false_eq_true→Í,false_ne_true→Î,not_true→Ħ,eq_iff_iff→Ļ,not_eq_true'→ů
open Nat renaming lt_of_lt_of_le→Æ,ne_of_lt→â,le_trans→ç,lt_irrefl→ð,ne_of_gt→ĺ,zero_le→ū,le_of_not_lt→ź,add_assoc→δ,not_lt→ζ
open List renaming getElem?_eq_some_iff→È,replicate→Ê,mem_cons_of_mem→Ð,getElem?_append_left→Ñ,getElem?_set_ne→Õ,size_toArray→Û,getElem?_set_self→Þ,length_map→ß,getElem?_append_right→à,mem_cons→á,mem_cons_self→ä,set_cons_succ→å,set_cons_zero→æ,mem_append_right→è,map_cons→é,getElem?_eq_getElem→ì,length_cons→ò,lookup_cons→ø,length_set→ù,getElem?_map→û,replicate_succ→Ā,not_mem_nil→Ą,append_nil→Č,length_append→č,mem_of_getElem?→ď,all_eq_true→đ,flatten_cons→ē,length_nil→ę,cons_append→Ě,getElem?_replicate→ě,nil_append→Ġ,mem_append_left→ħ,mem_append→ĩ,filter_cons→ĳ,mem_filterMap→Ķ,range→ľ,mem_range→Ņ,drop_eq_getElem_cons→Ō,filterMap_cons→Ő,lookup→Œ,filter_eq_self→œ,map_nil→Ř,of_mem_zip→ş,forIn_cons→Ţ,zip_cons_cons→ţ,append_assoc→Ŭ,length_replicate→ų,mem_filter→η,nodup_cons→ν
open PySem.NameKind renaming free→Ü
open PySem.W renaming nsIn→Ý,mg_none_of→ó,Frag→ô,emptyDict→ĉ,findIn→Ċ,keepIn→ĕ,mg_of→ė,fnOf→Ĝ,instObj→ğ,cellsFrom_some→ĵ,looks_findIn→Ľ,lookIn→ņ,codeIn→ň,hideAll_get→ŏ,callWith_K→Ş,plainGet→Ź,plainGet_of→μ,methodObj→Pq,hasDictIn→Pt,tabIn→Px,excIn→Py
open PySem.Builtin.SmallTypes renaming nextOf→ê,ownedTupleIsFree→Ć,ownedTupleHandOut→ŋ
open False renaming elim→ñ
open PySem.Value renaming ref→ý,bool→ĝ
open PySem.PyData renaming eqv→þ
open PyProof.Rows renaming envOfC→ć,callWith_type1→ι,AllBare→Pw,envOfC→Pz
open ForInStep renaming yield→Ď
open PySem.F renaming slot_tuple_iterator_next→Ģ,isi_meta_tuple→ģ,isi_meta_list→ī,args_tuple_add_2→Ŗ,entry_tuple_add→š,slot_tuple_add→ť,slot_tuple_hash→ŭ,attr_ValueError→Ű,slot_int_rmul→ξ,slot_zip_next→ο
open PySem.Sem renaming wp→Ĳ
open Int renaming emod_lt_of_pos→Ĺ,emod_nonneg→Ť
open Option renaming map_some→ļ,isNone_iff_eq_none→Ŏ,isSome_iff_exists→ŕ
open PySem.Builtin.Tuple renaming tupleHashOf→ō,tupleItemsOf→ω
open Array renaming length_toList→ő
open PySem.Builtin.List renaming listTooLong→ŗ
open PySem.Calls renaming spliced_cons→ŝ,evalArgs_plain→Ż
open Ne renaming symm→ŧ
open List.cons renaming injEq→ς
def Ò:=@decide_eq_true
def Ú:=@decide_eq_true_eq
def ã:=@if_pos
def ë:=@if_neg
def í:=@of_decide_eq_true
def ï:=@decide_eq_false
def ā:=@if_false
def Đ:=@beq_self_eq_true
def Ę:=@if_true
def Ĩ:=@congrArg
def İ:=@and_self
def PJ:=@Nat.le_refl
def PK:=@Option.some.inj
abbrev PL:PySem.Str:="_law_script"
abbrev PM:PySem.Str:="_law_state_here"
abbrev PN:PySem.Str:="_law_many"
abbrev PO:PySem.Str:="_law_count_here"
abbrev PQ:PySem.Str:="_law_loft"
abbrev PR:PySem.Str:="_law_told"
abbrev PU:PySem.Str:="_law_due"
abbrev PV:PySem.Str:="_law_deed"
abbrev PX:PySem.Str:="_law_sort"
abbrev PY:PySem.Str:="_law_sheets_here"
noncomputable section
local macro_rules | `(tactic| omega) => `(tactic| lia)
open PySem.W (Frag)
namespace L2
open PySem PySem.Spec PyProof.Rows
noncomputable abbrev Key:=Sum Int Str
def vf:Key->Â->Bool
 | .inl k,v=>Value.isInt k v
 | .inr x,v=>Value.isStrOf x v
def Lj (w:î):Key->Int
 | .inl k=>hashInt k
 | .inr x=>hashStr w x
def iL:∀{k:Key} {v:Â},vf k v=true->(∃i t,k=Sum.inl i/\v=Value.int i t)\/(∃x t,k=Sum.inr x/\v=Value.str x t)
 | .inl i,v,h=>by
  obtain ⟨t,e⟩:=Value.isInt_shape (k:=i) (v:=v) h;exact .inl ⟨i,t,rfl,e⟩
 | .inr x,v,h=>by
  obtain ⟨t,e⟩:=Value.isStrOf_shape (x:=x) (v:=v) h;exact .inr ⟨x,t,rfl,e⟩
def HV (a b:Int):decide ((Sum.inl a:Key)=Sum.inl b)=(a==b):=by
 by_cases e:a=b
 ·subst e;simp
 ·have h:¬ (Sum.inl a:Key)=Sum.inl b:=fun q=>e (Sum.inl.inj q)
  rw [ï h];exact (beq_eq_false_iff_ne.mpr e).symm
def HW (a b:Str):decide ((Sum.inr a:Key)=Sum.inr b)=decide (a=b):=by
 by_cases e:a=b
 ·subst e;simp
 ·have h:¬ (Sum.inr a:Key)=Sum.inr b:=fun q=>e (Sum.inr.inj q)
  rw [ï h,ï e]
def HX (a:Int) (b:Str):decide ((Sum.inl a:Key)=Sum.inr b)=false:=ï (fun q=>nomatch q)
def HY (a:Str) (b:Int):decide ((Sum.inr a:Key)=Sum.inl b)=false:=ï (fun q=>nomatch q)
def qd (prog:Ó) (w:î):PySem.KeyKind prog w Key where
 is:=vf
 hash:=Lj w
 inj:=fun v a b X Y=>by
  rcases iL X with ⟨i,t,rfl,rfl⟩ | ⟨x,t,rfl,rfl⟩
  ·rcases iL Y with ⟨j,u,rfl,e⟩ | ⟨y,u,rfl,e⟩
   ·injection e with e1 _;rw [e1]
   ·exact nomatch e
  ·rcases iL Y with ⟨j,u,rfl,e⟩ | ⟨y,u,rfl,e⟩
   ·exact nomatch e
   ·injection e with e1 _;rw [e1]
 byValue:=fun k v h=>by
  rcases iL h with ⟨i,t,rfl,rfl⟩ | ⟨x,t,rfl,rfl⟩<;>rfl
 pyHash:=fun Z h=>by
  rcases iL Z with ⟨i,t,rfl,rfl⟩ | ⟨x,t,rfl,rfl⟩
  ·exact wpAny_pyHash_int h
  ·exact wpAny_pyHash_str h
 eqBool:=fun W Z h=>by
  rcases iL W with ⟨i,t,rfl,rfl⟩ | ⟨x,t,rfl,rfl⟩
  ·rcases iL Z with ⟨j,u,rfl,rfl⟩ | ⟨y,u,rfl,rfl⟩
   ·rw [HV] at h;exact wpAny_eqBool_int h
   ·rw [HX] at h;exact SeqAt.EqAt.int_str i t y u _ _ _ _ h
  ·rcases iL Z with ⟨j,u,rfl,rfl⟩ | ⟨y,u,rfl,rfl⟩
   ·rw [HY] at h;exact SeqAt.EqAt.str_int x t j u _ _ _ _ h
   ·rw [HW] at h;exact wpAny_eqBool_str h
 «strs»:=fun k x t v h=>by
  rcases iL h with ⟨i,u,rfl,e⟩ | ⟨y,u,rfl,e⟩
  ·exact nomatch e
  ·injection e with e1 _
   subst e1
   cases v<;>rfl
set_option genInjectivity true in
inductive V where
 |au|bl (b:Bool)|int (i:Int)|str (x:Str)|fR (b:Array UInt8)|nr (b:UInt64)|ref (a:Ì)|ty (n:String)
 deriving DecidableEq
def RelV:V->Â->Prop
 | .au,u=>u=Value.none
 | .bl b,u=>u=ĝ b
 | .int i,u=>∃t,u=Value.int i t
 | .str x,u=>∃t,u=Value.str x t
 | .fR b,u=>∃t,u=Value.bytes b t
 | .nr b,u=>∃t,u=Value.float b t
 | .ref a,u=>u=ý a
 | .ty n,u=>u=Value.type n
abbrev Vals:List V->List Â->Prop:=Paired RelV
theorem Vals.length (r:Vals xs us):xs.length=us.length:=Paired.length r
theorem Vals.get:∀{xs:List V} {us:List Â} {i:Nat} {x:V},Vals xs us->xs[i]?=some x->∃u,us[i]?=some u/\RelV x u
 |_,_,_,_,.nil,e=>by simp at e
 |_,_,0,_,.cons r _,e=>by simp at e;subst e;exact ⟨_,rfl,r⟩
 |_,_,i+1,x,.cons _ t,e=>by
  obtain ⟨u,Z,Y⟩:=Vals.get (i:=i) (x:=x) t (by simpa using e);exact ⟨u,by simpa using Z,Y⟩
theorem Vals.set (r:RelV x u):∀{xs:List V} {us:List Â} (i:Nat),Vals xs us->Vals (xs.set i x) (us.set i u)
 |_,_,_,.nil=>.nil
 |_,_,0,.cons _ t=>.cons r t
 |_,_,i+1,.cons q t=>.cons q (Vals.set r i t)
theorem Vals.append:∀{xs ys:List V} {us ws:List Â},Vals xs us->Vals ys ws->Vals (xs++ys) (us++ws)
 |_,_,_,_,.nil,s=>s
 |_,_,_,_,.cons r t,s=>.cons r (Vals.append t s)
def iS:Option V->Option Â->Prop
 |some v,some u=>RelV v u
 |none,none=>True
 |_,_=>False
def KV {κ:Type}:List (κ×V)->List (κ×Â)->Prop:=Paired fun (p:κ×V) (q:κ×Â)=>p.1=q.1/\RelV p.2 q.2
def kV:Key->V
 | .inl i=>.int i
 | .inr x=>.str x
inductive HO where
 |lst (xs:List V)
 |tup (xs:List V)
 |dK (aE:List (Key×V))|dT (aE:List (List Key×V))
 |set (S:Int->Bool) (n:Nat)
 |ins (C dx:Ì) (fs:List (Str×V))
 |own (x:Ì)
 |xd (fs:List (Str×V))
 |met (f x:Ì)
 |fe (lo hi:Int)
 |aO (o:Obj) (u:HO)
 |cz (ps:Array Â)
 |ext (φ:Ă->Prop)
noncomputable abbrev Hp:=Ì->Option HO
def upd (H:Hp) (a:Ì) (o:HO):Hp:=fun b=>if b=a then some o else H b
def bZ:upd H a o a=some o:=by unfold upd;rw [ã rfl]
def aG (h:b≠a):upd H a o b=H b:=by unfold upd;rw [ë h]
def bM {H:Hp} {a b:Ì} {o:HO} (h:H a=some o) (h':H b=none):a≠b:=by
 intro e;subst e;rw [h] at h';cases h'
section
variable (P:Ó) (w:î)
def cV (H:Hp) (h:Ă) (a:Ì):HO->Prop
 | .lst Z=>Z.length<=Ô/\∃(ao:List Â) (n:Nat),Vals Z ao/\h.get? a=some { cls:=.type "list",data:=.seq ao.toArray n }
 | .tup Z=>Z.length<=Ô/\∃ao:List Â,Vals Z ao/\IsTup h a ao.toArray
 | .dK X=>X.length<=Ô/\(a==ε)=false/\∃T,KV X T/\h.DictOf (qd P w) a T
 | .dT X=>X.length<=Ô/\(a==ε)=false/\∃Z:List (List Key×Ì×Â),
   Paired (fun (p:List Key×V) (q:List Key×Ì×Â)=>p.1=q.1/\H q.2.1=some (.tup (p.1.map kV))/\RelV p.2 q.2.2) X Z /\
   ∃o R N,h.get? a=some o/\o.ExactDict/\o.data=.dict R N/\R.toList=Z.map (entryOfKey (tupleKind (qd P w)))/\(Z.map (·.1)).Nodup
 | .set S n=>h.SetOf (intKind P w) a S n
 | .ins C W fs=>H W=some (.own a)/\fs.length<=1000/\W≠a/\h.get? a=some (ğ C W) /\
   ∃Y,h.Ns1 W Y/\(∀f,iS (fs.lookup f) (Y f))/\PySem.Within Y (fs.map (·.1))
 | .own _=>∃o,h.get? a=some o
 | .xd fs=>∃Y,h.Ns1 a Y/\∀f,iS (fs.lookup f) (Y f)
 | .fe lo hi=>∃t u v,h.get? a=some { cls:=.type "range",data:=.fields #[.int lo t,.int hi u,.int 1 v] }
 | .aO o u=>h.get? a=some o/\cV H h a u
 | .cz M=>h.get? a=some { cls:=.none,data:=.fields M }
 | .met f x=>h.get? a=some (Pq (.ref f) (.ref x))
 | .ext U=>U h/\(∃o,h.get? a=some o)/\∀Q O:Ă,U Q->(∀o,Q.get? a=some o->O.get? a=some o)->U O
def bL (H:Hp) (h:Ă):Prop:=∀a o,H a=some o->cV P w H h a o
end
section
variable {P:Ó} {w:î} {H H':Hp} {h h':Ă} {a:Ì} {o:HO}
theorem cV.lt (x:cV P w H h a o):a<h.objs.size:=by
 cases o with
 |lst Z=>obtain ⟨_,_,_,_,e⟩:=x;exact É e
 |tup Z=>obtain ⟨_,_,_,p⟩:=x;exact p.lt
 |dK Y=>obtain ⟨_,_,_,_,o,_,_,e,_⟩:=x;exact É e
 |dT Y=>obtain ⟨_,_,_,_,o,_,_,e,_⟩:=x;exact É e
 |set S n=>obtain ⟨o,_,_,_,e,_⟩:=x;exact É e
 |ins C X fs=>obtain ⟨_,_,_,e,_⟩:=x;exact É e
 |own y=>obtain ⟨_,e⟩:=x;exact É e
 |xd fs=>obtain ⟨_,⟨_,_,_,e,_⟩,_⟩:=x;exact É e
 |fe lo hi=>obtain ⟨_,_,_,e⟩:=x;exact É e
 |aO W u=>obtain ⟨e,_⟩:=x;exact É e
 |cz V=>exact É (show h.get? a=some _ from x)
 |met f y=>exact É (show h.get? a=some _ from x)
 |ext U=>obtain ⟨_,⟨_,e⟩,_⟩:=x;exact É e
theorem Paired.BI {α β:Type} {F G:α->β->Prop}:∀{BJ:List α} {BK:List β},Paired F BJ BK->(∀a b,F a b->G a b)->Paired G BJ BK
 |_,_,.nil,_=>.nil
 |_,_,.cons r t,f=>.cons (f _ _ r) (Paired.BI t f)
def cV.cG (x:cV P w H h a o) (k:∀b u,(b=a\/H b=some (.own a))->h.get? b=some u->h'.get? b=some u)
  (ho:∀b,H b=some (.own a)->H' b=some (.own a)) (ht:∀b xs,H b=some (.tup xs)->H' b=some (.tup xs)):cV P w H' h' a o:=by
 induction o with
 |lst xs=>obtain ⟨z,ao,n,r,e⟩:=x;exact ⟨z,ao,n,r,k _ _ (.inl rfl) e⟩
 |tup xs=>obtain ⟨z,ao,r,Z,e,c⟩:=x;exact ⟨z,ao,r,Z,k _ _ (.inl rfl) e,c⟩
 |dK R=>obtain ⟨z,y,Q,r,Z,Y,X,e,c⟩:=x;exact ⟨z,y,Q,r,Z,Y,X,k _ _ (.inl rfl) e,c⟩
 |dT R =>
  obtain ⟨z,y,xs,r,Z,Y,X,e,c⟩:=x;exact ⟨z,y,xs,Paired.BI r fun p q z=>⟨z.1,ht _ _ z.2.1,z.2.2⟩,Z,Y,X,k _ _ (.inl rfl) e,c⟩
 |set S n=>obtain ⟨Z,Y,X,t,e,c⟩:=x;exact ⟨Z,Y,X,t,k _ _ (.inl rfl) e,c⟩
 |ins C O fs =>
  obtain ⟨d,z,ne,e,W,⟨V,Y,X,e2,c⟩,r⟩:=x;exact ⟨ho _ d,z,ne,k _ _ (.inl rfl) e,W,⟨V,Y,X,k _ _ (.inr d) e2,c⟩,r⟩
 |own y=>obtain ⟨Z,e⟩:=x;exact ⟨Z,k _ _ (.inl rfl) e⟩
 |xd fs=>obtain ⟨W,⟨V,Y,X,e,c⟩,r⟩:=x;exact ⟨W,⟨V,Y,X,k _ _ (.inl rfl) e,c⟩,r⟩
 |fe lo hi=>obtain ⟨t,u,v,e⟩:=x;exact ⟨t,u,v,k _ _ (.inl rfl) e⟩
 |aO Z u ih=>obtain ⟨e,q⟩:=x;exact ⟨k _ _ (.inl rfl) e,ih q⟩
 |cz U =>
  have e:h.get? a=some { cls:=.none,data:=.fields U }:=x;show h'.get? a=some { cls:=.none,data:=.fields U };exact k a _ (.inl rfl) e
 |met f y =>
  have e:h.get? a=some (Pq (.ref f) (.ref y)):=x;show h'.get? a=some (Pq (.ref f) (.ref y));exact k a _ (.inl rfl) e
 |ext N=>obtain ⟨p,⟨o,e⟩,T⟩:=x;exact ⟨T _ _ p fun o q=>k _ _ (.inl rfl) q,⟨o,k _ _ (.inl rfl) e⟩,T⟩
theorem bL.lt (x:bL P w H h) (e:H a=some o):a<h.objs.size:=(x a o e).lt
def bL.fresh (x:bL P w H h) (e:h.objs.size<=a):H a=none:=by
 cases q:H a with
 |none=>rfl
 |some u=>exact absurd (Æ (x.lt q) e) (ð _)
def bL.kept (x:bL P w H h) (k:∀b u,h.get? b=some u->h'.get? b=some u):bL P w H h':=fun a o e =>
 (x a o e).cG (fun b u _ q=>k b u q) (fun _ q=>q) fun _ _ q=>q
def bL.laid (x:bL P w H h) (k:∀b u,h.get? b=some u->h'.get? b=some u) (hp:h.objs.size<=a) (new:cV P w (upd H a o) h' a o):bL P w (upd H a o) h':=fun b u e=>by
 have Z:=x.fresh hp;by_cases Y:b=a
 ·subst Y;rw [bZ] at e;cases e;exact new
 ·rw [aG Y] at e
  exact (x b u e).cG (fun c v _ q=>k c v q) (fun c q=>by rw [aG (bM q Z)];exact q) fun c X q=>by rw [aG (bM q Z)];exact q
end
def Rd (H:Hp) (a:Ì) (u:HO):Prop:=H a=some u\/∃o,H a=some (.aO o u)
def Rd.ok (r:Rd H a u) (x:bL P w H h):cV P w H h a u:=by
 rcases r with r | ⟨o,r⟩
 ·exact x a u r
 ·obtain ⟨_,q⟩:=x a _ r
  exact q
def rY:Option HO->Prop
 |some (.lst _)=>True
 |some (.dK _)=>True
 |some (.dT _)=>True
 |some (.set _ _)=>True
 |some (.ins _ _ _)=>True
 |some (.ext _)=>True
 |_=>False
section
variable {P:Ó} {w:î} {H:Hp} {h h':Ă} {x e:Ì} {o':HO}
def bL.write (ok:bL P w H h) (mu:rY (H x)) (he:e=x\/H e=some (.own x)) (k:∀b u,b≠e->h.get? b=some u->h'.get? b=some u) (nu:∃u,h'.get? e=some u)
  (new:cV P w (upd H x o') h' x o'):bL P w (upd H x o') h':=fun b u q=>by
 have W:∀c y,H c=some (.own y)->c≠x:=fun c y r z=>by subst z;rw [r] at mu;exact mu
 have U:∀c Z,H c=some (.tup Z)->c≠x:=fun c Z r z=>by subst z;rw [r] at mu;exact mu
 by_cases Y:b=x
 ·subst Y;rw [bZ] at q;cases q;exact new
 ·rw [aG Y] at q
  by_cases X:b=e
  ·have V:H b=some (.own x):=by
    rcases he with z|z
    ·exact absurd (X.trans z) Y
    ·rw [X];exact z
   rw [q] at V;cases V;obtain ⟨v,T⟩:=nu;exact ⟨v,by rw [X];exact T⟩
  ·refine (ok b u q).cG (fun c v hc r=>k c v ?_ r) (fun c r=>by rw [aG (W c b r)];exact r) fun c Z r=>by rw [aG (U c Z r)];exact r
   rcases hc with rfl|hc
   ·exact X
   ·rintro rfl
    rcases he with z|z
    ·exact W c b hc z
    ·rw [hc] at z;cases z;exact Y rfl
end
structure Un (fs ex:List Ì) (H H':Hp) (h h':Ă):Prop where
 keep:∀b o,h.get? b=some o->H b=none->b∉fs->b∉ex->h'.get? b=some o
 slot:∀b o,h.get? b=some o->H b=none->b∈fs->b∉ex->∃sl,h'.get? b=some { o with slots:=sl }
 free:∀b o,h.get? b=some o->H b=none->b∉ex->H' b=none
 there:∀b o,h.get? b=some o->b∉ex->∃o',h'.get? b=some o'
 c9:∀b xs,H b=some (.tup xs)->H' b=some (.tup xs)
 cL:∀b o u,H b=some (.aO o u)->H' b=some (.aO o u)
 de:∀b ps,H b=some (.cz ps)->∃more,H' b=some (.cz (ps++more))
section
variable {fs Mu ex OX:List Ì} {H H1 H2:Hp} {h h1 h2 h':Ă} {a x e:Ì} {o:HO}
def Un.any (u:Un fs ex H H1 h h1) (q:h.get? b=some ob) (n:H b=none) (hx:b∉ex):∃sl,h1.get? b=some { ob with slots:=sl }:=by
 by_cases Z:b∈fs
 ·exact u.slot b ob q n Z hx
 ·exact ⟨ob.slots,u.keep b ob q n Z hx⟩
def Un.kept (k:∀b u,h.get? b=some u->h'.get? b=some u):Un fs ex H H h h' :=
 ⟨fun b Z q _ _ _=>k b Z q,fun b Z q _ _ _=>⟨Z.slots,k b Z q⟩,fun _ _ _ n _=>n,fun b Z q _=>⟨Z,k b Z q⟩,fun _ _ q=>q,fun _ _ _ q=>q,fun _ Y q=>⟨#[],by rw [q];simp⟩⟩
def Un.refl:Un fs ex H H h h:=Un.kept fun _ _ q=>q
def Un.laid (k:∀b u,h.get? b=some u->h'.get? b=some u) (hp:h.objs.size<=a) (hn:H a=none):Un fs ex H (upd H a o) h h' where
 keep:=fun b u q _ _ _=>k b u q
 slot:=fun b u q _ _ _=>⟨u.slots,k b u q⟩
 free:=fun b u q n _=>by rw [aG (â (Æ (É q) hp))];exact n
 there:=fun b u q _=>⟨u,k b u q⟩
 c9:=fun b Z q=>by rw [aG (bM q hn)];exact q
 cL:=fun b u Z q=>by rw [aG (bM q hn)];exact q
 de:=fun b Y q=>⟨#[],by rw [aG (bM q hn),q];simp⟩
def Un.write (mu:rY (H x)) (he:e=x\/H e=some (.own x)) (k:∀b u,b≠e->h.get? b=some u->h'.get? b=some u) (nu:∃u,h'.get? e=some u):Un fs ex H (upd H x o) h h':=by
 have Y:∀b,H b=none->b≠x:=fun b n z=>by subst z;rw [n] at mu;exact mu
 have X:∀b,H b=none->b≠e:=fun b n z=>by
  subst z
  rcases he with r|r
  ·exact Y b n r
  ·rw [n] at r;cases r
 have Z:∀b u,H b=some u->¬ rY (some u)->b≠x:=fun b u q nm z=>by subst z;rw [q] at mu;exact nm mu
 refine ⟨fun b u q n _ _=>k b u (X b n) q,fun b u q n _ _=>⟨u.slots,k b u (X b n) q⟩,fun b u q n _=>by rw [aG (Y b n)];exact n,fun b u q _=>?_,
  fun b V q=>by rw [aG (Z b _ q fun z=>z)];exact q,fun b u V q=>by rw [aG (Z b _ q fun z=>z)];exact q,fun b U q=>⟨#[],by rw [aG (Z b _ q fun z=>z),q];simp⟩⟩
 by_cases W:b=e
 ·subst W;exact nu
 ·exact ⟨u,k b u W q⟩
end
def nv (h:Ă) (H:Hp):List Ì:=(ľ h.objs.size).filter fun a=>(H a).isSome
def jn (h:Ă) (H:Hp):Ă:=PySem.W.hideAll h (nv h H)
def E1 (h:Ă) (H:Hp):(jn h H).objs.size=h.objs.size:=PySem.W.hideAll_size _ _
def tM (e:h.get? b=some o) (n:H b=none):(jn h H).get? b=some o :=
 ŏ _ e fun Z=>by
  have q:(H b).isSome=true:=(η.mp Z).2;rw [n] at q;simp at q
def G3 (e:(jn h H).get? b=some o):h.get? b=some o/\H b=none:=by
 have Z:h.get? b=some o:=PySem.W.of_hideAll (nv h H) e;refine ⟨Z,?_⟩
 cases q:H b with
 |none=>rfl
 |some x =>
  have Y:b∈nv h H:=η.mpr ⟨Ņ.mpr (É Z),by simp [q]⟩;have z:(jn h H).get? b=none:=PySem.W.hideAll_none (nv h H) Y;rw [z] at e;cases e
noncomputable def G4 (g h:Ă) (L:Ì):List (Ì×Obj):=(ľ h.objs.size).filterMap fun a=>if a=L\/(g.get? a).isSome=true then none else (h.get? a).map fun o=>(a,o)
def rest (g h:Ă) (L d:Ì):List (Ì×Obj):=(G4 g h L).filter fun p=>decide (p.1≠d)
structure Mod (K:ô) (mg:Str->Option Â) (base:Ă):Prop where
 gn:K.In base
 glob:base.Ns Ç mg
 blt:∃mb,base.Ns builtinsNs mb/\∀x:Str,x≠"__name__"->mb x=õ x
 nolimit:base.NoLimit
structure Cx where
 prog:Ó
 w:î
 K:ô
 mg:Str->Option Â
 base:Ă
 A:Ù
 N:List Str
 bV:Á
 iT:Hp
 env:Env
 outer:List Env
 stack:List Env
 ex:List Ì
 fn:Str->Bool
 calm:Bool
 pn:List (Ì×Obj)
 xe:Â->Á->Prop
noncomputable def bp (l:List Env):List Ì:=l.filterMap (·.frame)
abbrev Cx.fs (X:Cx):List Ì:=bp X.outer
def ny (sc:Ń) (x:Str):Prop:=sc.names.lookup x=some .local\/sc.names.lookup x=some .cell\/sc.names.lookup x=some .free
def Loc (sc:Ń) (x:Str):Prop:=sc.names.lookup x=some .local\/sc.names.lookup x=some .cell
def Look (env:Env) (h:Ă) (m:Str->Option Â) (x:Str) (u:Â):Prop :=
 (env.kindOf x=some .local/\m x=some u)\/((env.kindOf x=some .cell\/env.kindOf x=some .free)/\∃c,env.cells.lookup x=some c/\h.IsCell c (some u))
structure Cx.Ok (X:Cx):Prop where
 mod:Mod X.K X.mg X.base
 kind:X.env.scope.kind=.function
 glob:X.env.globals=Ç
 blt:X.env.builtins=builtinsNs
 above:X.bV.heap.objs.size<=X.env.locals
 inj:∀x y c,X.env.cells.lookup x=some c->X.env.cells.lookup y=some c->x=y
 has:∀x,(X.env.kindOf x=some .cell\/X.env.kindOf x=some .free)->∃c,X.env.cells.lookup x=some c
 nA:∀x c,X.fn x=true->X.env.cells.lookup x=some c->X.bV.heap.objs.size<=c
 hd:X.calm=true->X.A.handled=none
 frames:X.A.frames=some X.stack
 gY:X.stack=X.outer\/(X.stack=X.env::X.outer/\X.env.frame=some X.env.locals)
 Cq:∀b∈X.ex,b≠X.env.locals/\∀x c,X.env.cells.lookup x=some c->c≠b
 bs:∀b o,X.base.get? b=some o->X.bV.heap.get? b=some o/\X.iT b=none
 gp:X.base.objs.size<=X.bV.heap.objs.size
 lF:∀b o,X.base.get? b=some o->b∉X.ex
 rq:∀b∈X.ex,b∉X.fs
 fq:X.bV.heap.FunFrames X.base X.outer
 gZ:∀b∈X.fs,X.iT b=none
structure Inv (X:Cx) (π:List (Ì×Obj)) (σ:List (Option V)) (H:Hp) (s:Á):Prop where
 ok:X.Ok
 os:s.os=X.bV.os
 bare:Pw s.gens
 base:Un X.fs X.ex X.iT H X.bV.heap s.heap
 loc:∃m,s.heap.Ns X.env.locals m/\∀(i:Nat) (x:Str) (v:V),X.N[i]?=some x->σ[i]?=some (some v)->ny X.env.scope x->∃u,RelV v u/\Look X.env s.heap m x u
 cell:∀x c,X.env.cells.lookup x=some c->∃v,s.heap.IsCell c v
 free:H X.env.locals=none
 gO:∀x c,X.env.cells.lookup x=some c->H c=none
 pin:∀p∈X.pn++π,s.heap.get? p.1=some p.2/\H p.1=none/\p.1≠X.env.locals/\p.1∉X.fs/\∀v,p.2.data≠.cell v
 aA:bL X.prog X.w H s.heap
 len:σ.length=X.N.length
section
variable {X:Cx} {π:List (Ì×Obj)} {σ:List (Option V)} {H H':Hp} {s:Á} {h':Ă}
def Cx.Ok.Ll (ok:X.Ok) (e:X.base.get? b=some o):b∉X.fs:=fun Z=>by
 have:=(ok.fq.mem Z).1;rw [e] at this;cases this
theorem Inv.bs (I:Inv X π σ H s):∀b o,X.base.get? b=some o->s.heap.get? b=some o/\H b=none:=fun b o e =>
 ⟨I.base.keep b o (I.ok.bs b o e).1 (I.ok.bs b o e).2 (I.ok.Ll e) (I.ok.lF b o e),I.base.free b o (I.ok.bs b o e).1 (I.ok.bs b o e).2 (I.ok.lF b o e)⟩
def Inv.bk (I:Inv X π σ H s):∀b o,X.base.get? b=some o->s.heap.get? b=some o:=fun b o e=>(I.bs b o e).1
theorem Inv.mod (I:Inv X π σ H s):Mod X.K X.mg X.base:=I.ok.mod
def Inv.cH (I:Inv X π σ H s):X.K.In s.heap:=I.ok.mod.gn.keeps I.bk
theorem Inv.nolimit (I:Inv X π σ H s):s.heap.NoLimit:=I.ok.mod.nolimit.keeps I.bk
theorem Inv.lt (I:Inv X π σ H s):X.env.locals<s.heap.objs.size:=let ⟨_,Z,_⟩:=I.loc;Z.lt
def Inv.sz (I:Inv X π σ H s):X.bV.heap.objs.size<=s.heap.objs.size:=ç I.ok.above (Nat.le_of_lt I.lt)
def Inv.vP (I:Inv X π σ H s) {a:Ì} (h:s.heap.objs.size<=a):a∉X.fs:=fun Z=>by
 obtain ⟨_,o,Y,_⟩:=I.ok.fq.mem Z;exact absurd (Æ (É Y) (ç I.sz h)) (ð _)
def Inv.hV (I:Inv X π σ H s):∀x c,X.env.cells.lookup x=some c->c≠X.env.locals:=fun x c e z=>by
 obtain ⟨v,o,Z,Y⟩:=I.cell x c e;obtain ⟨m,⟨U,T,S,W,V,_⟩,_⟩:=I.loc;rw [z,W] at Z;cases Z;rw [V] at Y;cases Y
theorem Inv.fq (I:Inv X π σ H s):s.heap.FunFrames X.base X.outer:=by
 have all:∀(l:List Env),(∀b∈bp l,b∈X.fs)->X.bV.heap.FunFrames X.base l->s.heap.FunFrames X.base l:=by
  intro l
  induction l with
  |nil=>intro _ _;trivial
  |cons env r ih =>
   intro hs V;obtain ⟨U,⟨L,o,Z,T,S,R⟩,Q⟩:=V;have Y:L∈X.fs:=hs L (by unfold bp;rw [Ő,Z];exact ä);obtain ⟨P,e⟩:=I.base.slot L o S (I.ok.gZ L Y) Y fun z=>I.ok.rq L z Y;exact ⟨U,⟨L,_,Z,T,e,R⟩,ih (fun b W=>hs b (by unfold bp;rw [Ő,Z];exact Ð _ W)) Q⟩
 exact all X.outer (fun _ W=>W) I.ok.fq
theorem Inv.stack (I:Inv X π σ H s):s.heap.FunFrames X.base X.stack:=by
 rcases I.ok.gY with e | ⟨e,Z⟩
 ·rw [e];exact I.fq
 ·rw [e]
  obtain ⟨m,Y,_⟩:=I.loc;refine .cons (by rw [I.ok.kind];decide) Z Y ?_ I.fq;exact Heap.get?_none_of_le (ç I.ok.gp I.ok.above)
def Inv.kT (I:Inv X π σ H s):∀b∈bp X.stack,b∈X.env.locals::X.fs:=fun b Z=>by
 rcases I.ok.gY with e | ⟨e,Y⟩
 ·rw [e] at Z;exact Ð _ Z
 ·rw [e] at Z
  unfold bp at Z;rw [Ő,Y] at Z;exact Z
def Inv.nU (I:Inv X π σ H s):∀b∈bp X.stack,H b=none:=fun b hb=>by
 rcases á.mp (I.kT b hb) with e|hb
 ·rw [e];exact I.free
 ·obtain ⟨_,o,Z,_⟩:=I.ok.fq.mem hb
  exact I.base.free b o Z (I.ok.gZ b hb) fun z=>I.ok.rq b z hb
def Inv.step {g':Array GenState} {t':Nat} {d':Drawn} {ch:List Ì} (I:Inv X π σ H s)
  (i4:∀b∈ch,(b∈X.ex\/X.bV.heap.objs.size<=b)/\b≠X.env.locals/\(∀x c,X.env.cells.lookup x=some c->c≠b)/\∀p∈X.pn++π,p.1≠b)
  (keep:∀b o,b≠X.env.locals->b∉X.fs->b∉ch->s.heap.get? b=some o->H b=none->h'.get? b=some o)
  (slot:∀b o,b≠X.env.locals->b∈X.fs->b∉ch->s.heap.get? b=some o->H b=none->∃sl,h'.get? b=some { o with slots:=sl }) (free:∀b o,b∉ch->s.heap.get? b=some o->H b=none->H' b=none)
  (there:∀b o,b∉ch->s.heap.get? b=some o->∃o',h'.get? b=some o')
  (c9:∀b xs,H b=some (.tup xs)->H' b=some (.tup xs)) (cL:∀b o u,H b=some (.aO o u)->H' b=some (.aO o u)) (de:∀b ps,H b=some (.cz ps)->∃more,H' b=some (.cz (ps++more)))
  (ns:∀m,s.heap.Ns X.env.locals m->h'.Ns X.env.locals m) (aA:bL X.prog X.w H' h') (hg:Pw g') :
  Inv X π σ H' { s with heap:=h',gens:=g',drawn:=d',toks:=t' }:=by
 have S:∀b o,X.bV.heap.get? b=some o->b≠X.env.locals:=fun b o e=>â (Æ (É e) I.ok.above);have U:∀b o,X.bV.heap.get? b=some o->b∉X.ex->b∉ch:=fun b o e Z Y=>by
  rcases (i4 b Y).1 with z|z
  ·exact Z z
  ·exact absurd (Æ (É e) z) (ð _)
 have cellK:∀x c,X.env.cells.lookup x=some c->∀v,s.heap.IsCell c v->h'.IsCell c v:=fun x c e v ⟨o,W,T⟩=>by
  have V:c∉ch:=fun z=>(i4 c z).2.2.1 x c e rfl;by_cases R:c∈X.fs
  ·obtain ⟨sl,q⟩:=slot c o (I.hV x c e) R V W (I.gO x c e)
   exact ⟨_,q,T⟩
  ·exact ⟨o,keep c o (I.hV x c e) R V W (I.gO x c e),T⟩
 refine ⟨I.ok,I.os,hg,⟨fun b o e n Y Z=>?_,fun b o e n Y Z=>?_,fun b o e n Z=>?_,fun b o e Z=>?_,fun b xs e=>c9 b xs (I.base.c9 b xs e),fun b o xs e=>cL b o xs (I.base.cL b o xs e),fun b ps e=>?_⟩,?_,fun x c e=>?_,?_,fun x c e=>?_,fun p Q=>?_,aA,I.len⟩
 ·exact keep b o (S b o e) Y (U b o e Z) (I.base.keep b o e n Y Z) (I.base.free b o e n Z)
 ·obtain ⟨sl,e1⟩:=I.base.slot b o e n Y Z
  obtain ⟨O,e2⟩:=slot b _ (S b o e) Y (U b o e Z) e1 (I.base.free b o e n Z);exact ⟨O,e2⟩
 ·obtain ⟨o',e1⟩:=I.base.there b o e Z
  exact free b o' (U b o e Z) e1 (I.base.free b o e n Z)
 ·obtain ⟨o',e1⟩:=I.base.there b o e Z
  exact there b o' (U b o e Z) e1
 ·obtain ⟨N,e1⟩:=I.base.de b ps e
  obtain ⟨M,e2⟩:=de b _ e1;exact ⟨N++M,by rw [e2,Array.append_assoc]⟩
 ·obtain ⟨m,L,K⟩:=I.loc
  refine ⟨m,ns m L,fun i x v e1 e2 J=>?_⟩;obtain ⟨u,r,l⟩:=K i x v e1 e2 J;refine ⟨u,r,?_⟩
  rcases l with l | ⟨k,c,e,z⟩
  ·exact .inl l
  ·exact .inr ⟨k,c,e,cellK x c e _ z⟩
 ·obtain ⟨v,z⟩:=I.cell x c e
  exact ⟨v,cellK x c e v z⟩
 ·obtain ⟨m,⟨o,_,_,W,_⟩,_⟩:=I.loc
  exact free _ o (fun z=>(i4 _ z).2.1 rfl) W I.free
 ·obtain ⟨v,o,W,T⟩:=I.cell x c e
  exact free c o (fun z=>(i4 c z).2.2.1 x c e rfl) W (I.gO x c e)
 ·obtain ⟨e,n,ne,P,d⟩:=I.pin p Q
  have V:p.1∉ch:=fun z=>(i4 p.1 z).2.2.2 p Q rfl;exact ⟨keep p.1 p.2 ne P V e n,free p.1 p.2 V e n,ne,P,d⟩
def Inv.un {t':Nat} (I:Inv X π σ H s) (u:Un X.fs [] H H' s.heap h') (aA:bL X.prog X.w H' h'):Inv X π σ H' { s with heap:=h',toks:=t' }:=by
 obtain ⟨m,⟨o,Q,P,Y,r⟩,_⟩:=id I.loc;obtain ⟨O,V⟩:=u.any Y I.free (by simp)
 exact I.step (g':=s.gens) (d':=s.drawn) (ch:=[]) (fun _ z=>nomatch z) (fun b o _ Z _ e n=>u.keep b o e n Z (by simp)) (fun b o _ Z _ e n=>u.slot b o e n Z (by simp)) (fun b o _ e n=>u.free b o e n (by simp)) (fun b o _ e=>u.there b o e (by simp)) u.c9 u.cL u.de (fun N U=>by
  obtain ⟨M,T,S,W,R⟩:=U;rw [Y] at W;cases W;exact ⟨_,T,S,V,R⟩) aA I.bare
def Inv.call {g':Array GenState} {t':Nat} {d':Drawn} {ch:List Ì} (I:Inv X π σ H s) (u:Un (bp X.stack) ch H H' s.heap h') (aA:bL X.prog X.w H' h') (hg:Pw g')
  (i4:∀b∈ch,(b∈X.ex\/X.bV.heap.objs.size<=b)/\b≠X.env.locals/\(∀x c,X.env.cells.lookup x=some c->c≠b)/\∀p∈X.pn++π,p.1≠b) :
  Inv X π σ H' { s with heap:=h',gens:=g',drawn:=d',toks:=t' }:=by
 obtain ⟨m,⟨o,P,O,W,r⟩,_⟩:=id I.loc;obtain ⟨N,Y⟩:=u.any W I.free fun z=>(i4 _ z).2.1 rfl;exact I.step (ch:=ch) i4 (fun b o Y U Z e n=>u.keep b o e n (fun z=>(á.mp (I.kT b z)).elim Y U) Z) (fun b o _ _ Z e n=>u.any e n Z) (fun b o Z e n=>u.free b o e n Z) (fun b o Z e=>u.there b o e Z) u.c9 u.cL u.de (fun M T=>by
  obtain ⟨L,S,R,V,Q⟩:=T;rw [W] at V;cases V;exact ⟨_,S,R,Y,Q⟩) aA hg
def Inv.turned {t':Nat} {it:Ì} (I:Inv X π σ H s) (k:∀b o,b≠it->s.heap.get? b=some o->h'.get? b=some o) (hn:H it=none) (hL:it≠X.env.locals)
  (h1:it∈X.ex\/X.bV.heap.objs.size<=it) (h2:∀x c,X.env.cells.lookup x=some c->c≠it) (h3:∀p∈X.pn++π,p.1≠it):Inv X π σ H { s with heap:=h',toks:=t' }:=by
 have Y:∀b u,H b=some u->b≠it:=fun b u e z=>by rw [z,hn] at e;cases e
 refine I.step (g':=s.gens) (d':=s.drawn) (ch:=[it]) (fun b W=>?_) (fun b o _ _ Z e _=>k b o (fun z=>Z (by simp [z])) e) (fun b o _ _ Z e _=>⟨o.slots,k b o (fun z=>Z (by simp [z])) e⟩) (fun _ _ _ _ n=>n)
  (fun b o Z e=>⟨o,k b o (fun z=>Z (by simp [z])) e⟩) (fun _ _ e=>e) (fun _ _ _ e=>e) (fun b R e=>⟨#[],by rw [e];simp⟩) (fun m V=>?_) (fun b u e=>?_) I.bare
 ·have e:b=it:=by simpa using W
  subst e;exact ⟨h1,hL,h2,h3⟩
 ·obtain ⟨o,U,T,S,r⟩:=V
  exact ⟨o,U,T,k _ o (ŧ hL) S,r⟩
 ·refine (I.aA b u e).cG (fun c v Z q=>k c v ?_ q) (fun _ q=>q) fun _ _ q=>q
  rcases Z with z|z
  ·rw [z];exact Y b u e
  ·exact Y c _ z
def Inv.tok (I:Inv X π σ H s) (t:Nat):Inv X π σ H { s with toks:=t }:=I.un (h':=s.heap) (t':=t) Un.refl I.aA
theorem Inv.kept (I:Inv X π σ H s) (k:∀b u,s.heap.get? b=some u->h'.get? b=some u):Inv X π σ H { s with heap:=h',toks:=t' }:=I.un (Un.kept k) (I.aA.kept k)
theorem Inv.laid {a:Ì} {o:HO} {t':Nat} (I:Inv X π σ H s) (k:∀b u,s.heap.get? b=some u->h'.get? b=some u) (hp:s.heap.objs.size<=a) (new:cV X.prog X.w (upd H a o) h' a o) :
  Inv X π σ (upd H a o) { s with heap:=h',toks:=t' }:=I.un (Un.laid k hp (I.aA.fresh hp)) (I.aA.laid k hp new)
theorem Inv.write (I:Inv X π σ H s) (mu:rY (H x)) (he:e=x\/H e=some (.own x)) (k:∀b u,b≠e->s.heap.get? b=some u->h'.get? b=some u) (nu:∃u,h'.get? e=some u)
 (new:cV X.prog X.w (upd H x o) h' x o):Inv X π σ (upd H x o) { s with heap:=h',toks:=t' }:=I.un (Un.write mu he k nu) (I.aA.write mu he k nu new)
def Inv.mq (I:Inv X π σ H s) (h:∀p∈JR,s.heap.get? p.1=some p.2/\H p.1=none/\p.1≠X.env.locals/\p.1∉X.fs/\∀v,p.2.data≠.cell v):Inv X JR σ H s :=
 ⟨I.ok,I.os,I.bare,I.base,I.loc,I.cell,I.free,I.gO,fun p Z=>(ĩ.mp Z).elim (fun z=>I.pin p (ħ _ z)) (h p),I.aA,I.len⟩
def tN {N:List Str} (hN:N.Nodup) {i j:Nat} {x:Str} (a:N[i]?=some x) (b:N[j]?=some x):i=j:=by
 obtain ⟨Z,e1⟩:=È.mp a;obtain ⟨Y,e2⟩:=È.mp b;exact (List.getElem_inj hN).mp (e1.trans e2.symm)
def E2 {M:Model} {A:Ù} {E:Â->Á->Prop} {i:Nat} {x:Str} {v:V} {u:Â} {Q:Unit->Á->Prop} (I:Inv X π σ H s) (hN:X.N.Nodup) (hi:X.N[i]?=some x) (hx:Loc X.env.scope x) (r:RelV v u)
  (h:∀s',Inv X π (σ.set i (some v)) H s'->(∃a,Ĭ a s.heap s'.heap/\(a=X.env.locals\/X.env.cells.lookup x=some a))->Q () s') (hf:X.fn x=true\/X.env.scope.names.lookup x=some .local:=by first|exact .inl rfl|exact .inr rfl|assumption):Ö M A (storeName X.env x u) Q E s:=by
 obtain ⟨m,T,D⟩:=id I.loc;have oH:(X.env.scope.kind==.class||(X.env.scope.kind==.module&&X.env.locals != X.env.globals))=false:=by rw [I.ok.kind];rfl
 have C:i < σ.length:=by rw [I.len];exact (È.mp hi).1
 have hV:=I.hV;have tracked:∀{a:Ì} {h':Ă},(∃o,s.heap.get? a=some o/\H a=none)->Ĭ a s.heap h'->bL X.prog X.w H h':=fun {a h'} ha hs b ob e=>by
  obtain ⟨_,_,B⟩:=ha;refine (I.aA b ob e).cG (fun c W hc q=>(hs.2 c ?_).trans q) (fun _ q=>q) fun _ _ q=>q;rintro rfl
  rcases hc with rfl|hc
  ·rw [B] at e;cases e
  ·rw [B] at hc;cases hc
 rcases hx with hk|hk
 ·refine wpAny_storeName_local hk T (fun h' gr hs=>?_) oH
  obtain ⟨oL,_,_,Cv,_⟩:=id T;refine h _ ⟨I.ok,I.os,I.bare,⟨fun b o e n Z hx=>?_,fun b o e n Z hx=>?_,I.base.free,fun b o e hx=>?_,I.base.c9,I.base.cL,I.base.de⟩,⟨_,gr,fun j y S e1 e2 R=>?_⟩,fun y c e=>?_,I.free,I.gO,fun p P=>?_,tracked ⟨oL,Cv,I.free⟩ hs,by simpa using I.len⟩ ⟨_,hs,.inl rfl⟩
  ·exact (hs.2 b (â (Æ (É e) I.ok.above))).trans (I.base.keep b o e n Z hx)
  ·obtain ⟨O,e1⟩:=I.base.slot b o e n Z hx
   exact ⟨O,(hs.2 b (â (Æ (É e) I.ok.above))).trans e1⟩
  ·obtain ⟨L,e1⟩:=I.base.there b o e hx
   exact ⟨L,(hs.2 b (â (Æ (É e) I.ok.above))).trans e1⟩
  ·by_cases Y:j=i
   ·subst Y
    rw [hi] at e1;cases e1;rw [Þ C] at e2;cases e2;exact ⟨u,r,.inl ⟨hk,by simp⟩⟩
   ·rw [Õ (ŧ Y)] at e2
    obtain ⟨K,J,q⟩:=D j y S e1 e2 R;refine ⟨K,J,?_⟩
    rcases q with ⟨k,e⟩ | ⟨k,c,e,z⟩
    ·refine .inl ⟨k,?_⟩
     have:y≠x:=fun e=>Y (tN hN e1 (e ▸ hi));simp [this,e]
    ·exact .inr ⟨k,c,e,z.sameBut hs (hV y c e)⟩
  ·obtain ⟨W,z⟩:=I.cell y c e
   exact ⟨W,z.sameBut hs (hV y c e)⟩
  ·obtain ⟨e,n,ne,G,d⟩:=I.pin p P
   exact ⟨(hs.2 p.1 ne).trans e,n,ne,G,d⟩
 ·have F:X.fn x=true:=by
   rcases hf with z|z
   ·exact z
   ·rw [z] at hk;cases hk
  obtain ⟨c,hc⟩:=I.ok.has x (.inl hk);obtain ⟨W,z⟩:=I.cell x c hc;refine wpAny_storeName_cell I.ok.kind hk hc z (fun h' t hs=>?_);obtain ⟨l,g,Lm⟩:=id z
  refine h { s with heap:=h' } ⟨I.ok,I.os,I.bare,⟨fun b o e n Z hx=>?_,fun b o e n Z hx=>?_,I.base.free,fun b o e hx=>?_,I.base.c9,I.base.cL,I.base.de⟩,⟨m,T.sameBut hs (ŧ (hV x c hc)),fun j y S e1 e2 R=>?_⟩,fun y U e=>?_,I.free,I.gO,fun p P=>?_,tracked ⟨l,g,I.gO x c hc⟩ hs,by simpa using I.len⟩ ⟨c,hs,.inr hc⟩
  ·exact (hs.2 b (â (Æ (É e) (I.ok.nA x c F hc)))).trans (I.base.keep b o e n Z hx)
  ·obtain ⟨O,e1⟩:=I.base.slot b o e n Z hx
   exact ⟨O,(hs.2 b (â (Æ (É e) (I.ok.nA x c F hc)))).trans e1⟩
  ·obtain ⟨L,e1⟩:=I.base.there b o e hx
   exact ⟨L,(hs.2 b (â (Æ (É e) (I.ok.nA x c F hc)))).trans e1⟩
  ·by_cases Y:j=i
   ·subst Y
    rw [hi] at e1;cases e1;rw [Þ C] at e2;cases e2;exact ⟨u,r,.inr ⟨.inl hk,c,hc,t⟩⟩
   ·rw [Õ (ŧ Y)] at e2
    obtain ⟨K,J,q⟩:=D j y S e1 e2 R;refine ⟨K,J,?_⟩
    rcases q with q | ⟨k,U,e,z'⟩
    ·exact .inl q
    ·refine .inr ⟨k,U,e,z'.sameBut hs ?_⟩
     rintro rfl;exact Y (tN hN e1 (I.ok.inj _ _ _ e hc ▸ hi))
  ·by_cases f:U=c
   ·subst f;exact ⟨_,t⟩
   ·obtain ⟨w2,z2⟩:=I.cell y U e
    exact ⟨w2,z2.sameBut hs f⟩
  ·obtain ⟨e,n,ne,G,d⟩:=I.pin p P
   refine ⟨(hs.2 p.1 ?_).trans e,n,ne,G,d⟩;intro q;rw [q,g] at e;have q':l=p.2:=PK e;exact d W (by rw [<- q'];exact Lm)
def nO (I:Inv X π σ H s) (hN:X.N.Nodup) (hi:X.N[i]?=some x) (hx:Loc X.env.scope x) (r:RelV v u)
 (h:∀s',Inv X π (σ.set i (some v)) H s'->Q () s') (hf:X.fn x=true\/X.env.scope.names.lookup x=some .local:=by first|exact .inl rfl|exact .inr rfl|assumption):Ö M A (storeName X.env x u) Q E s :=
 E2 I hN hi hx r (fun s' Z _=>h s' Z) hf
def Inv.vg (I:Inv X π σ H s) (ho:s'.os=s.os) (u:Un (bp X.stack) ch H H' s.heap s'.heap) (aA:bL X.prog X.w H' s'.heap) (hg:Pw s'.gens)
 (i4:∀b∈ch,(b∈X.ex\/X.bV.heap.objs.size<=b)/\b≠X.env.locals/\(∀x c,X.env.cells.lookup x=some c->c≠b)/\∀p∈X.pn++π,p.1≠b):Inv X π σ H' s':=by
 obtain ⟨h',g',d',t',Z⟩:=s';have e:Z=s.os:=ho;subst e;exact I.call (g':=g') (t':=t') (d':=d') u aA hg i4
end
abbrev XK:=Â->Option Ì->Hp->Prop
noncomputable abbrev St:=List (Option V)
abbrev VK:=V->Hp->Prop
abbrev TE:=St->Hp->VK->Prop
abbrev TT:=St->Hp->(Bool->Hp->Prop)->Prop
abbrev TA:=St->Hp->(List V->Hp->Prop)->Prop
structure Ends where
 nx:St->Hp->Prop
 rt:VK
 bk:St->Hp->Prop:=fun _ _=>False
 ct:St->Hp->Prop:=fun _ _=>False
abbrev TS:=Ends->St->Hp->Prop
def EP (X:Cx) (π:List (Ì×Obj)) (σ:St) (Q:VK) (u:Â) (s':Á):Prop:=∃v Z,Inv X π σ Z s'/\RelV v u/\Q v Z
def TP (X:Cx) (π:List (Ì×Obj)) (σ:St) (Q:Bool->Hp->Prop) (b:Bool) (s':Á):Prop:=∃Z,Inv X π σ Z s'/\Q b Z
def AP (X:Cx) (π:List (Ì×Obj)) (σ:St) (Q:List V->Hp->Prop) (us:List Â) (s':Á):Prop:=∃Z Y,Inv X π σ Y s'/\Vals Z us/\Q Z Y
def SP (X:Cx) (π:List (Ì×Obj)) (D:Ends) (f:Flow) (s':Á):Prop :=
 match f with
 | .next=>∃ Y Z,Inv X π Y Z s'/\D.nx Y Z
 | .brk=>∃ Y Z,Inv X π Y Z s'/\D.bk Y Z
 | .cont=>∃ Y Z,Inv X π Y Z s'/\D.ct Y Z
 | .ret u=>∃v Y Z,Inv X π Y Z s'/\RelV v u/\D.rt v Z
def PE (X:Cx) (e:ÿ) (t:TE):Prop :=
 ∀(Z:List (Ì×Obj)) (s:Á) (σ:St) (H:Hp) (Q:VK),Inv X Z σ H s->t σ H Q->Ö (Ø X.prog X.w) X.A (Ĕ e X.env) (EP X Z σ Q) X.xe s
def PT (X:Cx) (e:ÿ) (t:TT):Prop :=
 ∀(Z:List (Ì×Obj)) (s:Á) (σ:St) (H:Hp) (Q:Bool->Hp->Prop),Inv X Z σ H s->t σ H Q->Ö (Ø X.prog X.w) X.A (isTrue e X.env (Ĕ e X.env)) (TP X Z σ Q) X.xe s
def PW (X:Cx) (e:ÿ) (t:TT):Prop :=
 ∀(whole:Sem Â) (Z:List (Ì×Obj)) (s:Á) (σ:St) (H:Hp) (Q:Bool->Hp->Prop),Inv X Z σ H s->t σ H Q->Ö (Ø X.prog X.w) X.A (isTrue e X.env whole) (TP X Z σ Q) X.xe s
def PW.pt (h:PW X e t):PT X e t:=h _
def PA (X:Cx) (es:List ÿ) (t:TA):Prop :=
 ∀(pos:Pos) (Z:List (Ì×Obj)) (s:Á) (σ:St) (H:Hp) (Q:List V->Hp->Prop),Inv X Z σ H s->t σ H Q->Ö (Ø X.prog X.w) X.A (spliced (Ĉ pos (Ä es X.env))) (AP X Z σ Q) X.xe s
def PS (X:Cx) (st:ŷ) (t:TS):Prop :=
 ∀(Z:List (Ì×Obj)) (s:Á) (σ:St) (H:Hp) (D:Ends),Inv X Z σ H s->t D σ H->Ö (Ø X.prog X.w) X.A (exec st X.env) (SP X Z D) X.xe s
def bX (X:Cx) (st:List ŷ) (t:TS):Prop :=
 ∀(Z:List (Ì×Obj)) (s:Á) (σ:St) (H:Hp) (D:Ends),Inv X Z σ H s->t D σ H->Ö (Ø X.prog X.w) X.A (execs st X.env) (SP X Z D) X.xe s
def aM {α:Type} {t:Sem α} {Q Q':α->Á->Prop} {M:Model} {A:Ù} {E:Â->Á->Prop} {s:Á} (h:Ö M A t Q E s) (hQ:∀a s,Q a s->Q' a s):Ö M A t Q' E s:=ü h hQ fun _ _ x=>x
section
variable {X:Cx}
def Ln (i:Nat):TE:=fun σ H Q=>∃v,σ[i]?=some (some v)/\Q v H
def tC (v:V):TE:=fun _ H Q=>Q v H
def Ah {i:Nat} {x:Str} {pos:Pos} (hN:X.N[i]?=some x) (hv:ny X.env.scope x) (hd:(x==("__debug__":Str))=false:=by decide) (bJ:(x==("__classdict__":Str))=false:=by decide):PE X (.Name x pos) (Ln i):=by
 intro W s σ H Q I h;obtain ⟨v,e,h⟩:=h;obtain ⟨m,V,U⟩:=I.loc;obtain ⟨u,r,l⟩:=U i x v hN e hv;have fin:EP X W σ Q u s:=⟨v,H,I,r,h⟩
 rcases l with ⟨hk,T⟩ | ⟨hk,c,Z,Y⟩
 ·exact wpAny_Name (wpAny_loadName_local I.ok.kind hk V T fin) hd
 ·rcases hk with hk|hk
  ·exact wpAny_Name (wpAny_loadName_cell I.ok.kind hk Z Y fin) hd
  ·exact wpAny_Name (wpAny_loadName_free I.ok.kind hk Z Y fin bJ) hd
def H0 {i j pos}:PE X (.Constant (.int i) j pos) (tC (.int i)):=fun _ _ _ H _ I h=>wpAny_Constant_int ⟨.int i,H,I.tok _,⟨_,rfl⟩,h⟩
def vh {b j pos}:PE X (.Constant (.bool b) j pos) (tC (.bl b)):=fun _ _ _ H _ I h=>Constant_bool ⟨.bl b,H,I,rfl,h⟩
def H9 {j pos}:PE X (.Constant .none j pos) (tC .au):=fun _ _ _ H _ I h=>Constant_none ⟨.au,H,I,rfl,h⟩
def Ia {x j pos}:PE X (.Constant (.str x) j pos) (tC (.str x)):=fun _ _ _ H _ I h=>Calls.Constant_str ⟨.str x,H,I.tok _,⟨_,rfl⟩,h⟩
def Gl (X:Cx) (x:Str):Prop:=X.env.kindOf x=some .globalImplicit
def jP {E:Â->Á->Prop} {π:List (Ì×Obj)} {s:Á} {σ:St} {H:Hp} {x:Str} {u:Â} {pos:Pos} {Q:Â->Á->Prop} (I:Inv X π σ H s) (hg:Gl X x) (hm:X.mg x=some u) (h:Q u s)
  (hd:(x==("__debug__":Str))=false:=by decide):Ö (Ø X.prog X.w) X.A (Ĕ (.Name x pos) X.env) Q E s :=
 Calls.Name_function_global I.ok.kind hg (Calls.loadGlobal_global (by rw [I.ok.glob];exact I.mod.glob.keeps I.bk) hm h) hd
def qA {E:Â->Á->Prop} {π:List (Ì×Obj)} {s:Á} {σ:St} {H:Hp} {x:Str} {u:Â} {pos:Pos} {Q:Â->Á->Prop} (I:Inv X π σ H s) (hg:Gl X x) (hm:X.mg x=none) (hv:õ x=some u) (h:Q u s)
  (hn:x≠"__name__":=by decide) (hd:(x==("__debug__":Str))=false:=by decide):Ö (Ø X.prog X.w) X.A (Ĕ (.Name x pos) X.env) Q E s:=by
 obtain ⟨W,Z,Y⟩:=I.mod.blt;exact Calls.Name_function_global I.ok.kind hg (Calls.loadGlobal_builtin (by rw [I.ok.glob];exact I.mod.glob.keeps I.bk) hm (by rw [I.ok.blt];exact Z.keeps I.bk) ((Y x hn).trans hv) h) hd
def zu (hg:Gl X x) (hm:X.mg x=some u) (r:RelV v u) (hd:(x==("__debug__":Str))=false:=by decide):PE X (.Name x pos) (tC v) :=
 fun _ _ _ H _ I h=>jP I hg hm ⟨v,H,I,r,h⟩ hd
def qe {x:Str} {v:V} {u:Â} {pos:Pos} (hg:Gl X x) (hm:X.mg x=none) (hv:õ x=some u) (r:RelV v u) (hn:x≠"__name__":=by decide) (hd:(x==("__debug__":Str))=false:=by decide):PE X (.Name x pos) (tC v) :=
 fun _ _ _ H _ I h=>qA I hg hm hv ⟨v,H,I,r,h⟩ hn hd
variable {a b:ÿ} {ta tb:TE} {pos:Pos}
variable {tA sg:TT} {rest:List ÿ}
def lG (t u:TT):TT:=fun σ H Q=>t σ H fun c Z=>if c=true then u σ Z Q else Q false Z
def jA (t u:TT):TT:=fun σ H Q=>t σ H fun c Z=>if c=true then Q true Z else u σ Z Q
def fu (t:TT):TT:=fun σ H Q=>t σ H fun c Z=>Q (!c) Z
def G5 (ha:PT X a tA):PW X (.BoolOp .And [a] pos) tA:=by
 intro Y Z s σ H Q I h;refine isTrue_and (aM (ha Z s σ H Q I h) fun c W e=>?_)
 cases c with
 |true=>exact isTrue_and_nil e
 |false=>exact e
def Ib (ha:PT X a tA):PW X (.BoolOp .Or [a] pos) tA:=by
 intro Y Z s σ H Q I h;refine isTrue_or (aM (ha Z s σ H Q I h) fun c W e=>?_)
 cases c with
 |false=>exact isTrue_or_nil e
 |true=>exact e
def Ic (ha:PT X a tA) (hb:PW X (.BoolOp .And (b::rest) pos) sg):PW X (.BoolOp .And (a::b::rest) pos) (lG tA sg):=by
 intro U Z s σ H Q I h;refine isTrue_and (aM (ha Z s σ H _ I h) fun c T ⟨Y,W,V⟩=>?_)
 cases c with
 |true=>exact hb U Z T σ Y Q W V
 |false=>exact ⟨Y,W,V⟩
def JS (ha:PT X a tA) (hb:PW X (.BoolOp .Or (b::rest) pos) sg):PW X (.BoolOp .Or (a::b::rest) pos) (jA tA sg):=by
 intro U Z s σ H Q I h;refine isTrue_or (aM (ha Z s σ H _ I h) fun c T ⟨Y,W,V⟩=>?_)
 cases c with
 |true=>exact ⟨Y,W,V⟩
 |false=>exact hb U Z T σ Y Q W V
def Ie (ha:PT X a tA):PT X (.UnaryOp .Not a pos) (fu tA):=by
 intro Z s σ H Q I h;exact isTrue_not (ha Z s σ H (fun c Y=>Q (!c) Y) I h)
def JT (ta tb:TE):TE:=fun σ H Q=>ta σ H fun x Z=>∃c,x=.bl c/\if c=true then tb σ Z Q else Q (.bl false) Z
def JU (ta:TE):TE:=fun σ H Q=>ta σ H fun x Z=>∃c,x=.bl c/\Q (.bl (!c)) Z
def Ig {op} (h:PE X a t):PE X (.BoolOp op [a] pos) t:=fun Z s σ H Q I hw=>BoolOp_one (h Z s σ H Q I hw)
def Ih (ha:PE X a ta) (hb:PE X (.BoolOp .And (b::rest) pos) tb):PE X (.BoolOp .And (a::b::rest) pos) (JT ta tb):=by
 intro Y s σ H Q I h;refine BoolOp_and (aM (ha Y s σ H _ I h) fun v U ⟨x,W,V,T,Z⟩=>?_);obtain ⟨c,rfl,Z⟩:=Z;cases T;refine Ŀ ?_
 cases c with
 |true=>exact hb Y U σ W Q V Z
 |false=>exact ⟨.bl false,W,V,rfl,Z⟩
def Ii (ha:PE X a ta):PE X (.UnaryOp .Not a pos) (JU ta):=by
 intro Y s σ H Q I h;refine UnaryOp_ (aM (ha Y s σ H _ I h) fun v T ⟨x,W,V,U,Z⟩=>?_);obtain ⟨c,rfl,Z⟩:=Z;cases U;exact not_of (Ŀ ⟨.bl (!c),W,V,rfl,Z⟩)
def Mv (t:TT) (ta tb:TE):TE:=fun σ H Q=>t σ H fun c Z=>if c=true then ta σ Z Q else tb σ Z Q
def FV {c:ÿ} (hc:PT X c tA) (ha:PE X a ta) (hb:PE X b tb):PE X (.IfExp c a b pos) (Mv tA ta tb):=by
 intro Z s σ H Q I h;refine wpAny_IfExp (aM (hc Z s σ H _ I h) fun d Y ⟨W,V,U⟩=>?_)
 cases d with
 |true=>exact ha Z Y σ W Q V U
 |false=>exact hb Z Y σ W Q V U
end
def bb (K:ô) (H:Hp) (a:Ì) (xs:List V):Prop :=
 Rd H a (.lst xs) \/
  ∃(o:Obj) (ao:Array Â) (n:Nat),K.lookup a=some o/\o.cls=.type "list"/\o.dict=none/\o.data=.seq ao n/\ao.size<=Ô/\Vals xs ao.toList
def bh (K:ô) (H:Hp) (a:Ì) (xs:List V):Prop :=
 Rd H a (.tup xs) \/
  ∃(o:Obj) (ao:Array Â) (n:Nat),K.lookup a=some o/\o.cls=.type "tuple"/\o.data=.seq ao n/\ao.size<=Ô/\Vals xs ao.toList
noncomputable def Lp:Â->Option V
 | .none=>some .au
 | .bool b=>some (.bl b)
 | .int i _=>some (.int i)
 | .str x _=>some (.str x)
 | .bytes b _=>some (.fR b)
 | .float b _=>some (.nr b)
 | .ref a=>some (.ref a)
 | .type n=>some (.ty n)
 |_=>none
def RelV.abs (r:RelV x u):Lp u=some x:=by
 cases x with
 |au=>cases r;rfl
 |bl _=>cases r;rfl
 |int _=>obtain ⟨t,rfl⟩:=r;rfl
 |str _=>obtain ⟨t,rfl⟩:=r;rfl
 |fR _=>obtain ⟨t,rfl⟩:=r;rfl
 |nr _=>obtain ⟨t,rfl⟩:=r;rfl
 |ref _=>cases r;rfl
 |ty _=>cases r;rfl
def RelV.inj (r:RelV x u) (q:RelV y u):x=y:=PK (r.abs.symm.trans q.abs)
theorem Vals.inj:∀{xs ys:List V} {us:List Â},Vals xs us->Vals ys us->xs=ys
 |_,_,_,.nil,.nil=>rfl
 |_,_,_,.cons r t,.cons Z Y=>by rw [r.inj Z,Vals.inj t Y]
section
variable {X:Cx} {π:List (Ì×Obj)} {σ:St} {H:Hp} {s:Á} {a:Ì} {xs ys:List V}
def bb.of {K:ô} (h:H a=some (.lst xs)):bb K H a xs:=.inl (.inl h)
def bh.of {K:ô} (h:H a=some (.tup xs)):bh K H a xs:=.inl (.inl h)
def Inv.list (I:Inv X π σ H s) (h:bb X.K H a xs):∃ao:List Â,Vals xs ao/\PlainL s.heap a ao.toArray/\xs.length<=Ô:=by
 rcases h with h | ⟨o,ao,n,Z,Y,W,hs,V,r⟩
 ·obtain ⟨z,ao,n,r,e⟩:=h.ok I.aA
  exact ⟨ao,r,⟨_,n,e,rfl,rfl,rfl⟩,z⟩
 ·refine ⟨ao.toList,r,⟨o,n,I.cH a o Z,Y,W,by simpa using hs⟩,?_⟩
  have e:=r.length;simp only [ő] at e;omega
def Inv.tuple (I:Inv X π σ H s) (h:bh X.K H a xs):∃ao:List Â,Vals xs ao/\IsTup s.heap a ao.toArray/\xs.length<=Ô:=by
 rcases h with h | ⟨o,ao,n,Z,Y,hs,W,r⟩
 ·obtain ⟨z,ao,r,p⟩:=h.ok I.aA
  exact ⟨ao,r,p,z⟩
 ·refine ⟨ao.toList,r,⟨o,I.cH a o Z,Y,n,by simpa using hs⟩,?_⟩
  have e:=r.length;simp only [ő] at e;omega
def Inv.yY (I:Inv X π σ H s) (h:bb X.K H a xs) (h':bb X.K H a ys):xs=ys:=by
 obtain ⟨ao,r,⟨o,n,e,_,_,d⟩,_⟩:=I.list h;obtain ⟨W,V,⟨T,S,Z,_,_,Y⟩,_⟩:=I.list h';rw [e] at Z;cases Z;rw [d] at Y
 injection Y with U _
 have:ao=W:=by simpa using Ĩ Array.toList U
 subst this;exact r.inj V
def Inv.yM (I:Inv X π σ H s) (h:bh X.K H a xs) (h':bh X.K H a ys):xs=ys:=by
 obtain ⟨ao,r,⟨o,e,_,n,d⟩,_⟩:=I.tuple h;obtain ⟨W,V,⟨T,Z,_,S,Y⟩,_⟩:=I.tuple h';rw [e] at Z;cases Z;rw [d] at Y
 injection Y with U _
 have:ao=W:=by simpa using Ĩ Array.toList U
 subst this;exact r.inj V
end
noncomputable abbrev Cx.gX (X:Cx) (E:Â->Á->Prop):Cx:={ X with xe:=E }
noncomputable abbrev Cx.jB (X:Cx):Cx:=X.gX fun _ _=>False
theorem Cx.Ok.gX {X:Cx} (ok:X.Ok) (E:Â->Á->Prop):(X.gX E).Ok :=
 ⟨ok.mod,ok.kind,ok.glob,ok.blt,ok.above,ok.inj,ok.has,ok.nA,ok.hd,ok.frames,ok.gY,ok.Cq,ok.bs,ok.gp,ok.lF,ok.rq,ok.fq,ok.gZ⟩
def Cx.Ok.jg {X:Cx} {E:Â->Á->Prop} (ok:(X.gX E).Ok):X.Ok :=
 ⟨ok.mod,ok.kind,ok.glob,ok.blt,ok.above,ok.inj,ok.has,ok.nA,ok.hd,ok.frames,ok.gY,ok.Cq,ok.bs,ok.gp,ok.lF,ok.rq,ok.fq,ok.gZ⟩
section
variable {X:Cx} {π:List (Ì×Obj)} {σ:St} {H:Hp} {s:Á} {E:Â->Á->Prop}
theorem Inv.gX (I:Inv X π σ H s) (E:Â->Á->Prop):Inv (X.gX E) π σ H s:=⟨I.ok.gX E,I.os,I.bare,I.base,I.loc,I.cell,I.free,I.gO,I.pin,I.aA,I.len⟩
theorem Inv.jg (I:Inv (X.gX E) π σ H s):Inv X π σ H s:=⟨I.ok.jg,I.os,I.bare,I.base,I.loc,I.cell,I.free,I.gO,I.pin,I.aA,I.len⟩
theorem SP.jg (h:SP (X.gX E) π D f s'):SP X π D f s':=by
 cases f with
 |next=>obtain ⟨Z,Y,I,q⟩:=h;exact ⟨Z,Y,I.jg,q⟩
 |brk=>obtain ⟨Z,Y,I,q⟩:=h;exact ⟨Z,Y,I.jg,q⟩
 |cont=>obtain ⟨Z,Y,I,q⟩:=h;exact ⟨Z,Y,I.jg,q⟩
 |ret u=>obtain ⟨v,Z,Y,I,r,q⟩:=h;exact ⟨v,Z,Y,I.jg,r,q⟩
theorem bX.jB {st:List ŷ} {t:TS} (h:bX X.jB st t):bX X st t:=fun π s σ H D I hw =>
 ü (h π s σ H D (I.gX _) hw) (fun _ _ q=>q.jg) fun _ _ z=>ñ z
end
section
variable {X:Cx} {st:ŷ} {rest:List ŷ} {t u:TS} {e:ÿ} {te:TE} {pos:Pos}
def JV:TS:=fun D σ H=>D.nx σ H
def Lq (t u:TS):TS:=fun D σ H=>t { D with nx:=u D } σ H
def G6:bX X [] JV:=fun _ _ σ H _ I h=>θ ⟨σ,H,I,h⟩
def FW (h1:PS X st t) (h2:bX X rest u):bX X (st::rest) (Lq t u):=by
 intro Z s σ H D I h
 refine Ÿ (aM (h1 Z s σ H { D with nx:=u D } I h) fun f Y q=>?_)
 cases f with
 |next =>
  obtain ⟨W,V,U,q⟩:=q;exact h2 Z Y W V D U q
 |ret v=>exact q
 |brk=>exact q
 |cont=>exact q
def G7 (h1:PS X st t):bX X [st] t:=by
 intro Z s σ H D I h;refine Ÿ (aM (h1 Z s σ H D I h) fun f Y q=>?_)
 cases f with
 |next=>exact θ q
 |ret v=>exact q
 |brk=>exact q
 |cont=>exact q
def Inv.quiet {π:List (Ì×Obj)} {σ:St} {H:Hp} {s:Á} (I:Inv X π σ H s):interactive X.env=false:=by simp [interactive,I.ok.kind]
def JW (te:TE):TS:=fun D σ H=>te σ H fun _ Z=>D.nx σ Z
def G8 (he:PE X e te) (hs:swapsWith e none pos.line X.env=pure false:=by rfl):PS X (.Expr e pos) (JW te):=by
 intro Z s σ H D I h;exact wpAny_Expr_any (aM (he Z s σ H _ I h) fun v U ⟨x,Y,W,T,V⟩=>⟨σ,Y,W,V⟩) I.quiet hs
def Lr (te:TE):TS:=fun D σ H=>te σ H D.rt
def Ij (he:PE X e te):PS X (.Return (some e) pos) (Lr te):=by
 intro Z s σ H D I h;exact wpAny_Return_some (aM (he Z s σ H _ I h) fun v T ⟨x,Y,W,V,U⟩=>⟨x,σ,Y,W,V,U⟩)
def Ls (c:TT) (t u:TS):TS:=fun D σ H=>c σ H fun b Z=>if b=true then t D σ Z else u D σ Z
def JX {c:ÿ} {a b:List ŷ} {tc:TT} (hc:PT X c tc) (ha:bX X a t) (hb:bX X b u):PS X (.If c a b pos) (Ls tc t u):=by
 intro Z s σ H D I h;refine wpAny_If (aM (hc Z s σ H _ I h) fun d Y ⟨W,V,U⟩=>?_)
 cases d with
 |true=>exact ha Z Y σ W D V U
 |false=>exact hb Z Y σ W D V U
end
abbrev TG:=V->St->Hp->(St->Hp->Prop)->Prop
abbrev iw:=List V->St->Hp->(St->Hp->Prop)->Prop
def PG (X:Cx) (target:ÿ) (t:TG):Prop :=
 ∀(Z:List (Ì×Obj)) (s:Á) (σ:St) (H:Hp) (v:V) (u:Â) (Q:St->Hp->Prop),Inv X Z σ H s->RelV v u->t v σ H Q ->
  Ö (Ø X.prog X.w) X.A (assign target X.env u) (fun _ U=>∃ Y W,Inv X Z Y W U/\Q Y W) X.xe s
def i5 (X:Cx) (ts:List ÿ) (t:iw):Prop :=
 ∀(Z:List (Ì×Obj)) (s:Á) (σ:St) (H:Hp) (Y:List V) (W:List Â) (Q:St->Hp->Prop),Inv X Z σ H s->Vals Y W->t Y σ H Q ->
  Ö (Ø X.prog X.w) X.A (assignInOrder ((Ī ts X.env).map (·.2)) W) (fun _ S=>∃ U T,Inv X Z U T S/\Q U T) X.xe s
abbrev vQ:=V->V->V->Hp->(Hp->Prop)->Prop
def BN (X:Cx) (t:vQ):Prop :=
 ∀(Z:List (Ì×Obj)) (s:Á) (σ:St) (H:Hp) (o i v:V) (Y W u:Â) (Q:Hp->Prop),Inv X Z σ H s->RelV o Y->RelV i W->RelV v u->t o i v H Q ->
  Ö (Ø X.prog X.w) X.A (setItem Y W u) (fun _ T=>∃U,Inv X Z σ U T/\Q U) X.xe s
section
variable {X:Cx} {pos:Pos}
def lg (i:Nat):TG:=fun v σ H Q=>Q (σ.set i (some v)) H
def kQ (hN:X.N.Nodup) (hi:X.N[i]?=some x) (hx:Loc X.env.scope x) (hf:X.fn x=true\/X.env.scope.names.lookup x=some .local:=by first|exact .inl rfl|exact .inr rfl|assumption):PG X (.Name x pos) (lg i):=by
 intro Y s σ H v u Q I r h;exact wpAny_assign_Name (nO I hN hi hx r (fun W Z=>⟨_,H,Z,h⟩) hf)
def vR:iw:=fun Z σ H Q=>Z=[]/\Q σ H
def vi (t:TG) (u:iw):iw:=fun Z σ H Q=>∃v r,Z=v::r/\t v σ H fun Y X=>u r Y X Q
def zv:i5 X [] vR:=by
 intro Z s σ H Y W Q I r h;obtain ⟨e,h⟩:=h;subst e;cases r;exact assignInOrder_nil ⟨σ,H,I,h⟩
def tO {e:ÿ} {es:List ÿ} {t:TG} {u:iw} (h1:PG X e t) (h2:i5 X es u)
  (hs:(Ī (e::es) X.env).map (·.2)=assign e X.env::(Ī es X.env).map (·.2):=by rfl):i5 X (e::es) (vi t u):=by
 intro Z s σ H R P Q I r h;obtain ⟨v,O,e1,h⟩:=h;subst e1
 cases r with
 |cons r Y =>
  rw [hs];refine assignInOrder_cons (aM (h1 Z s σ H _ _ _ I r h) fun _ W ⟨V,U,T,S⟩=>?_);exact h2 Z W V U _ _ Q T Y S
def vS (K:ô) (n:Nat) (t:iw):TG:=fun v σ H Q=>∃a Z,v=.ref a/\bh K H a Z/\Z.length=n/\t Z σ H Q
def Ai {k:Nat} {n:Nat} (hc:X.calm=true) (h:i5 X es t)
 (hn:(Ī es X.env).length=n:=by rfl) (jC:(Ī es X.env).findIdx? (·.1)=none:=by rfl):PG X (.Tuple es k pos) (vS X.K n t):=by
 intro Z s σ H v u Q I r hw;obtain ⟨a,W,e1,V,U,hw⟩:=hw;subst e1;cases r;obtain ⟨ao,Y,T,O⟩:=I.tuple V;refine assign_Tuple_tuple (I.ok.hd hc) T (by simp [hn,<- U,Y.length]) jC fun S R=>?_
 have P:Inv X Z σ H { s with heap:=S }:=I.kept (t':=s.toks) fun b o e=>R b o (â (É e)) e
 exact h Z _ σ H W _ Q P (by simpa using Y) hw
def Lu (to ti:TE) (t:vQ):TG:=fun v σ H Q=>to σ H fun o Z=>ti σ Z fun i Y=>t o i v Y fun X=>Q σ X
def Ik {o i:ÿ} {to ti:TE} {t:vQ} (ho:PE X o to) (hi:PE X i ti) (hs:BN X t)
  (ha:∀v,assign (.Subscript o i pos) X.env v=(do
   let ov <- Ũ [v] (Ĕ o X.env)
   let iv <- Ũ [v,ov] (Ĕ i X.env)
   standAt pos
   Ũ [v,ov,iv] (setItem ov iv v)
   release [v,ov,iv] []):=by intro _;rfl):PG X (.Subscript o i pos) (Lu to ti t):=by
 intro Z s σ H v u Q I r h;rw [ha];refine À (ċ (aM (ho Z s σ H _ I h) fun ov Y ⟨x,W,V,U,T⟩=>?_));refine À (ċ (aM (hi Z Y σ W _ V T) fun iv S ⟨y,R,P,O,N⟩=>?_));refine À (ř (À (ċ (aM (hs Z S σ R x y v ov iv u _ P U O r N) fun _ J ⟨M,L,K⟩=>?_))));exact wpAny_release ⟨σ,M,L,K⟩
def oI (te:TE) (g:TG):TS:=fun D σ H=>te σ H fun x Z=>g x σ Z D.nx
def Aj {tg e:ÿ} {te:TE} {g:TG} (he:PE X e te) (hg:PG X tg g) (hs:ż [tg] e pos.line X.env=pure false:=by rfl) (hw:Ž [tg] e X.env=pure none:=by rfl)
  (h1:(Ī [tg] X.env).map (·.2)=[assign tg X.env]:=by rfl):PS X (.Assign [tg] e pos) (oI te g):=by
 intro Z s σ H D I h;refine wpAny_Assign_stores (aM (he Z s σ H _ I h) fun v Y ⟨x,W,V,U,T⟩=>?_) hs hw;rw [h1];exact aM (hg Z Y σ W x v _ V U T) fun _ S q=>q
def Il {i:Nat} {x:Str} {e:ÿ} {te:TE} {pos':Pos} (hN:X.N.Nodup) (hi:X.N[i]?=some x) (hx:Loc X.env.scope x) (he:PE X e te) (hs:swapsWith e (some (.Name x pos')) pos.line X.env=pure false:=by rfl) (hf:X.fn x=true\/X.env.scope.names.lookup x=some .local:=by first|exact .inl rfl|exact .inr rfl|assumption) :
  PS X (.Assign [.Name x pos'] e pos) (oI te (lg i)):=by
 intro Z s σ H D I h;refine wpAny_Assign_Name (aM (he Z s σ H _ I h) fun v S ⟨y,Y,W,V,U⟩=>?_) hs;exact nO W hN hi hx V (fun R T=>⟨_,Y,T,U⟩) hf
def Lw (i j:Nat) (ta:TA):TS:=fun D σ H=>ta σ H fun Z Y=>∃v w,Z=[v,w]/\D.nx ((σ.set i (some v)).set j (some w)) Y
def Im {i j:Nat} {x y:Str} {a b:ÿ} {ta:TA} {px py pt:Pos} {kt k2 lS} (hc:X.calm=true) (hN:X.N.Nodup) (hi:X.N[i]?=some x) (hj:X.N[j]?=some y) (ix:i≠j)
  (hx:X.env.scope.names.lookup x=some .local) (hy:X.env.scope.names.lookup y=some .local) (ha:PA X [a,b] ta)
  (hw:Ž [.Tuple [.Name x px,.Name y py] kt pt] (.Tuple [a,b] k2 lS) X.env=pure (some [x,y]))
  (hs:ż [.Tuple [.Name x px,.Name y py] kt pt] (.Tuple [a,b] k2 lS) pos.line X.env=pure false:=by rfl) :
  PS X (.Assign [.Tuple [.Name x px,.Name y py] kt pt] (.Tuple [a,b] k2 lS) pos) (Lw i j ta):=by
 intro U s σ H D I h;rw [exec_Assign_arm];refine À (ř ?_);rw [hs];refine À (Ë ?_);rw [ë (by decide)];refine À (Tuple_ (aM (ha _ U s σ H _ I h) fun R Z ⟨C,T,Q,P,V⟩=>?_));obtain ⟨v,w,e1,V⟩:=V;subst e1;obtain ⟨Y,W,rfl,O,M⟩:∃Y W,R=[Y,W]/\RelV v Y/\RelV w W:=by
  cases P with
  |cons p q =>
   cases q with
   |cons L K =>
    cases K;exact ⟨_,_,rfl,p,L⟩
 refine ŀ ?_ (by show 2<=Ô;decide)
 have J:Inv X U σ T { Z with heap:=Z.heap.push { cls:=.type "tuple",data:=.seq [Y,W].toArray } }:=Q.kept (t':=Z.toks) fun b o e=>Ã _ e
 rw [hw];refine À (Ë ?_)
 show Ö (Ø X.prog X.w) X.A (do rule "assign.swapped-stores";let items <- unpackItems (.ref Z.heap.objs.size) 2 none;assignInOrder [fun v=>bindName X.env y v,fun v=>bindName X.env x v] items.reverse;pure Flow.next) _ _ _
 refine À (wpAny_rule (À (unpackItems_tuple (items:=#[Y,W]) (I.ok.hd hc) (IsTup.new Z.heap _) fun h' G=>?_)));have F:=J.kept (h':=h') (t':=Z.toks) fun b o e=>G b o (â (É e)) e
 show Ö _ _ (assignInOrder [fun v=>bindName X.env y v,fun v=>bindName X.env x v] [W,Y] >>= fun _=>pure Flow.next) _ _ _
 refine À (assignInOrder_cons (wpAny_bindName (nO F hN hj (.inl hy) M (fun B E=>?_) (.inr hy))));refine assignInOrder_cons (wpAny_bindName (nO E hN hi (.inl hx) O (fun z S=>assignInOrder_nil (Ë ?_)) (.inr hx)));rw [List.set_comm _ _ (ŧ ix)] at S;exact ⟨_,T,S,V⟩
end
section
variable {X:Cx} {pos:Pos}
end
structure It where
 go:Nat->Hp->Prop
 o7:Nat->Hp->V->Hp->Prop
 stop:Nat->Hp->Prop
def fM (X:Cx) (π:List (Ì×Obj)) (H:Hp) (b:Ì):Prop :=
 H b=none/\b≠X.env.locals/\b∉X.fs/\(b∈X.ex\/X.bV.heap.objs.size<=b)/\(∀x c,X.env.cells.lookup x=some c->c≠b)/\∀p∈X.pn++π,p.1≠b
def Inv.rz {X:Cx} {π:List (Ì×Obj)} {σ:St} {H H':Hp} {s:Á} {b:Ì} (I:Inv X π σ H s) (hb:s.heap.objs.size<=b) (hn:H' b=none):fM X π H' b:=by
 refine ⟨hn,ĺ (Æ I.lt hb),I.vP hb,.inr (ç I.sz hb),fun x c e z=>?_,fun p Z z=>?_⟩
 ·obtain ⟨v,q⟩:=I.cell x c e
  exact absurd (Æ q.lt (by rw [z];exact hb)) (ð _)
 ·exact absurd (Æ (É (I.pin p Z).1) (by rw [z];exact hb)) (ð _)
structure Turn (P:Ó) (w:î) (K:ô) (tg:ÿ) (J:It) (fp:List Ì) (it:Ì) (tn:Nat->Ă->Prop):Prop where
 mem:it∈fp
 obj:∀i h,tn i h->∀b∈fp,∃o,h.get? b=some o/\∀v,o.data≠.cell v
 keep:∀i h h',tn i h->(∀b∈fp,∀o,h.get? b=some o->h'.get? b=some o)->tn i h'
 item:∀(X:Cx),X.prog=P->X.w=w->X.K=K->X.calm=true->∀(i:Nat) (π:List (Ì×Obj)) (s:Á) (σ:St) (H:Hp) (E:Â->Á->Prop),Inv X π σ H s->(∀b∈fp,fM X π H b)->tn i s.heap->J.go i H ->
  Ö (Ø P w) X.A (pyNext (.ref it)) (fun r s1=>∃u,r=some u /\
   Ö (Ø P w) X.A (Ś tg (.ref it) u) (fun _ s2=>∃x H',Inv X π σ H' s2/\RelV x u/\J.o7 i H x H'/\tn (i+1) s2.heap/\∀b∈fp,H' b=none) E s1) E s
 done:∀(X:Cx),X.prog=P->X.w=w->X.K=K->X.calm=true->∀(i:Nat) (π:List (Ì×Obj)) (s:Á) (σ:St) (H:Hp) (E:Â->Á->Prop),Inv X π σ H s->(∀b∈fp,fM X π H b)->tn i s.heap->J.stop i H ->
  Ö (Ø P w) X.A (pyNext (.ref it)) (fun r s1=>r=none/\Inv X π σ H s1) E s
 self:∀(A:Ù) (i:Nat) (s:Á) (Q:Â->Á->Prop) (E:Â->Á->Prop),tn i s.heap->Q (.ref it) s->Ö (Ø P w) A (pyIter (.ref it)) Q E s
abbrev TI:=St->Hp->(It->Hp->Prop)->Prop
def Cy (X:Cx) (π:List (Ì×Obj)) (σ:St) (tg:ÿ) (R:It->Hp->Prop) (iy:Â) (s2:Á):Prop :=
 ∃(it:Ì) (Y:List Ì) (W:Nat->Ă->Prop) (J:It) (Z:Hp),iy=.ref it/\Inv X π σ Z s2/\Turn X.prog X.w X.K tg J Y it W/\W 0 s2.heap/\(∀b∈Y,fM X π Z b)/\R J Z
def PI (X:Cx) (tg iter:ÿ) (wi:TI):Prop :=
 ∀(Z:List (Ì×Obj)) (s:Á) (σ:St) (H:Hp) (R:It->Hp->Prop),Inv X Z σ H s->wi σ H R ->
  Ö (Ø X.prog X.w) X.A (Ĕ iter X.env) (fun v Y=>Ö (Ø X.prog X.w) X.A (pyIter v) (Cy X Z σ tg R) X.xe Y) X.xe s
def vj (ho:s.heap.get? it=some o) (hc:o.cls=.type n) (hd:o.data=.fields vs)
 (hn:["enumerate","zip","dict_itemiterator","dict_reverseitemiterator","odict_iterator","itertools.zip_longest","itertools.pairwise"].contains n=false) (hQ:Q () s):Ö M A (Ś tg (.ref it) u) Q E s:=by
 unfold Ś
 cases tg<;>first
  |exact Ë hQ
  |(cases u<;>first
    |exact Ë hQ
    |(refine À (wpAny_load ho ?_)
      rw [hc,hd]
      show Ö M A (if (["enumerate","zip","dict_itemiterator","dict_reverseitemiterator","odict_iterator","itertools.zip_longest","itertools.pairwise"].contains n&&vs[0]?==some (Ų _))=true then _ else _) Q E s
      rw [ë (by intro h;rw [hn,Bool.false_and] at h;cases h)];exact Ë hQ))
noncomputable def wM (K:ô) (a:Ì):It :=
 ⟨fun i H=>∃Z x,bb K H a Z/\Z[i]?=some x,fun i H x Y=>Y=H/\∀Z,bb K H a Z->Z[i]?=some x,fun i H=>∃Z,bb K H a Z/\Z.length<=i⟩
noncomputable def wN (K:ô) (a:Ì):It :=
 ⟨fun i H=>∃Z x,bh K H a Z/\Z[i]?=some x,fun i H x Y=>Y=H/\∀Z,bh K H a Z->Z[i]?=some x,fun i H=>∃Z,bh K H a Z/\Z.length<=i⟩
noncomputable def sj (lo:Int) (n:Nat):It:=⟨fun i _=>i<n,fun i H x Z=>Z=H/\x=.int (lo+i),fun i _=>n<=i⟩
def E3 {P:Ó} {w:î} {K:ô} {tg:ÿ} (a it:Ì):Turn P w K tg (wM K a) [it] it (fun i h=>h.IsListIter it a i) where
 mem:=by simp
 obj:=fun i h Z b Y=>by
  have e:b=it:=by simpa using Y
  subst e;obtain ⟨o,e,c,d⟩:=Z;exact ⟨o,e,fun v z=>by rw [d] at z;cases z⟩
 keep:=fun i h W Z k=>Z.at fun o e=>k it (by simp) o e
 item:=by
  intro X T hw S L i J s σ H E I V Z R;subst T hw S;obtain ⟨F,x,U,Q⟩:=R;obtain ⟨ao,O,p,D⟩:=I.list U;obtain ⟨u,C,B⟩:=O.get Q;obtain ⟨f0,f1,f2,N,f4,M⟩:=V it (by simp);refine wpAny_pyNext_list_item Z p.isList (x:=u) (by simpa using C) fun W G A=>?_
  have y:Inv X J σ H { s with heap:=W }:=I.turned (t':=s.toks) (fun b o Y e=>(A.2 b Y).trans e) f0 f1 N f4 M
  obtain ⟨o,e,c,d⟩:=id G
  exact ⟨u,rfl,vj (s:={ s with heap:=W }) e c d (by decide) ⟨x,H,y,B,⟨rfl,fun q t=>by rw [I.yY t U];exact Q⟩,G,fun b Y=>(V b Y).1⟩⟩
 done:=by
  intro X T hw S L i J s σ H E I V Z R;subst T hw S;obtain ⟨F,U,Q⟩:=R;obtain ⟨ao,O,p,D⟩:=I.list U;obtain ⟨f0,f1,f2,N,f4,M⟩:=V it (by simp);have n:=O.length;exact wpAny_pyNext_list_end (I.ok.hd L) Z p.isList (by simp;omega) fun W r=>⟨rfl,I.turned (t':=s.toks) (fun b o Y e=>r b o Y e) f0 f1 N f4 M⟩
 self:=fun _ _ _ _ _ Z h=>wpAny_pyIter_listiter Z h
def Eo {P:Ó} {w:î} {K:ô} {tg:ÿ} (a it:Ì):Turn P w K tg (wN K a) [it] it (fun i h=>h.IsTupleIter it a i) where
 mem:=by simp
 obj:=fun i h Z b Y=>by
  have e:b=it:=by simpa using Y
  subst e;obtain ⟨o,e,c,d⟩:=Z;exact ⟨o,e,fun v z=>by rw [d] at z;cases z⟩
 keep:=fun i h W Z k=>Z.at fun o e=>k it (by simp) o e
 item:=by
  intro X T hw S L i J s σ H E I V Z R;subst T hw S;obtain ⟨F,x,U,Q⟩:=R;obtain ⟨ao,O,p,D⟩:=I.tuple U;obtain ⟨u,C,B⟩:=O.get Q;obtain ⟨f0,f1,f2,N,f4,M⟩:=V it (by simp);refine wpAny_pyNext_tuple_item Z (show s.heap.IsTuple a ao.toArray from p) (x:=u) (by simpa using C) fun W G A=>?_
  have y:Inv X J σ H { s with heap:=W }:=I.turned (t':=s.toks) (fun b o Y e=>(A.2 b Y).trans e) f0 f1 N f4 M
  obtain ⟨o,e,c,d⟩:=id G
  exact ⟨u,rfl,vj (s:={ s with heap:=W }) e c d (by decide) ⟨x,H,y,B,⟨rfl,fun q t=>by rw [I.yM t U];exact Q⟩,G,fun b Y=>(V b Y).1⟩⟩
 done:=by
  intro X T hw S L i J s σ H E I V Z R;subst T hw S;obtain ⟨F,U,Q⟩:=R;obtain ⟨ao,O,p,D⟩:=I.tuple U;obtain ⟨f0,f1,f2,N,f4,M⟩:=V it (by simp);have n:=O.length;exact wpAny_pyNext_tuple_end (I.ok.hd L) Z (show s.heap.IsTuple a ao.toArray from p) (by simp;omega) fun W r=>⟨rfl,I.turned (t':=s.toks) (fun b o Y e=>r b o Y e) f0 f1 N f4 M⟩
 self:=fun _ _ _ _ _ Z h=>wpAny_pyIter_tupleiter Z h
def Ep {P:Ó} {w:î} {K:ô} {tg:ÿ} (it:Ì) (lo:Int) (n:Nat):Turn P w K tg (sj lo n) [it] it (fun i h=>IsRangeIter h it (lo+(i:Nat)*1) ((n:Int)-(i:Nat)) 1) where
 mem:=by simp
 obj:=fun i h Z b Y=>by
  have e:b=it:=by simpa using Y
  subst e;exact ⟨_,Z,fun v z=>by
   have G:Data.fields _=Data.cell v:=z;cases G⟩
 keep:=fun i h V Z k=>k it (by simp) _ Z
 item:=by
  intro X T hw S R i M s σ H E I U Z Q;subst T hw S;obtain ⟨f0,f1,f2,O,f4,N⟩:=U it (by simp);have W:=Walks.range (prog:=X.prog) (w:=X.w) (I.ok.hd R) it lo 1 n;refine W.item i s _ _ Q Z fun v V L F J D=>?_;obtain ⟨t,rfl⟩:=F
  have C:Inv X M σ H { s with heap:=V,toks:=L }:=I.turned (fun b o Y e=>D b o (by simpa using Y) e) f0 f1 O f4 N
  refine ⟨_,rfl,vj (s:={ s with heap:=V,toks:=L }) (n:="range_iterator") J rfl rfl (by decide) ⟨.int (lo+i),H,C,⟨t,?_⟩,⟨rfl,rfl⟩,J,fun b Y=>(U b Y).1⟩⟩
  rw [Int.mul_one]
 done:=by
  intro X T hw S R i M s σ H E I U Z Q;subst T hw S;obtain ⟨f0,f1,f2,O,f4,N⟩:=U it (by simp);exact wpAny_pyNext_range_end (I.ok.hd R) Z (by have:n<=i:=Q;omega) fun V B=>⟨rfl,I.turned (t':=s.toks) (fun b o Y e=>B b o Y e) f0 f1 O f4 N⟩
 self:=fun _ _ _ _ _ Z h=>wpAny_pyIter_rangeiter Z h
section
variable {X:Cx} {tg:ÿ}
def Bc (K:ô) (tl:TE):TI:=fun σ H R=>tl σ H fun x Z=>∃a,x=.ref a/\(∃Y,bb K Z a Y)/\R (wM K a) Z
def BO (K:ô) (tl:TE):TI:=fun σ H R=>tl σ H fun x Z=>∃a,x=.ref a/\(∃Y,bh K Z a Y)/\R (wN K a) Z
def zw {l:ÿ} {tl:TE} (hl:PE X l tl):PI X tg l (Bc X.K tl):=by
 intro W s σ H R I h;refine aM (hl W s σ H _ I h) fun v Z ⟨x,V,Y,U,T⟩=>?_;obtain ⟨a,e,⟨P,S⟩,q⟩:=T;subst e;cases U;obtain ⟨ao,O,p,N⟩:=Y.list S;refine wpAny_pyIter_list p.isList ?_;refine ⟨Z.heap.objs.size,[Z.heap.objs.size],_,_,V,rfl,Y.kept (t':=Z.toks) fun b o e=>Ã _ e,E3 a _,⟨_,Ï _ rfl,rfl,rfl⟩,fun b Q=>?_,q⟩;have e:b=Z.heap.objs.size:=by simpa using Q
 subst e;exact Y.rz (PJ _) (Y.aA.fresh (PJ _))
def Io {l:ÿ} {tl:TE} (hl:PE X l tl):PI X tg l (BO X.K tl):=by
 intro W s σ H R I h;refine aM (hl W s σ H _ I h) fun v Z ⟨x,V,Y,U,T⟩=>?_;obtain ⟨a,e,⟨P,S⟩,q⟩:=T;subst e;cases U;obtain ⟨ao,O,p,N⟩:=Y.tuple S;refine wpAny_pyIter_tuple (show Z.heap.IsTuple a ao.toArray from p) ?_;refine ⟨Z.heap.objs.size,[Z.heap.objs.size],_,_,V,rfl,Y.kept (t':=Z.toks) fun b o e=>Ã _ e,Eo a _,⟨_,Ï _ rfl,rfl,rfl⟩,fun b Q=>?_,q⟩;have e:b=Z.heap.objs.size:=by simpa using Q
 subst e;exact Y.rz (PJ _) (Y.aA.fresh (PJ _))
def FX {π:List (Ì×Obj)} {σ:St} {H:Hp} {s:Á} {R:It->Hp->Prop} {E:Â->Á->Prop} {lo hi:Int} {t u v:Tok} {tk:Nat} (I:Inv X π σ H s) (h1:-(2 ^ 62)<=lo) (h2:lo<2 ^ 62) (h3:-(2 ^ 62)<=hi) (h4:hi<2 ^ 62)
  (q:R (sj lo (hi-lo).toNat) H):Ö (Ø X.prog X.w) X.A (pyIter (.ref s.heap.objs.size)) (Cy X π σ tg R) E { s with heap:=s.heap.push { cls:=.type "range",data:=.fields #[.int lo t,.int hi u,.int 1 v] },toks:=tk }:=by
 refine wpAny_pyIter_range (IsRange.new ..) (small_one h1 h2 h3 h4) ?_
 have Z:Inv X π σ H { s with heap:=s.heap.push { cls:=.type "range",data:=.fields #[.int lo t,.int hi u,.int 1 v] },toks:=tk }:=I.kept fun b o e=>Ã _ e
 refine ⟨(s.heap.push { cls:=.type "range",data:=.fields #[.int lo t,.int hi u,.int 1 v] }).objs.size,[(s.heap.push { cls:=.type "range",data:=.fields #[.int lo t,.int hi u,.int 1 v] }).objs.size],_,_,H,rfl,
  Z.kept (t':=tk) fun b o e=>Ã _ e,Ep _ lo (hi-lo).toNat,?_,fun b Y=>?_,q⟩
 ·have e1:lo+((0:Nat):Int)*1=lo:=by simp
  have e2:(((hi-lo).toNat:Nat):Int)-((0:Nat):Int)=Builtin.Range.rangeSize lo hi 1:=by rw [rangeSize_one];split<;>omega
  show IsRangeIter _ _ (lo+((0:Nat):Int)*1) ((((hi-lo).toNat:Nat):Int)-((0:Nat):Int)) 1;rw [e1,e2];exact Ï _ rfl
 ·have e:b=(s.heap.push { cls:=.type "range",data:=.fields #[.int lo t,.int hi u,.int 1 v] }).objs.size:=by simpa using Y
  subst e;exact Z.rz (PJ _) (Z.aA.fresh (PJ _))
def JY (ta:TA):TI:=fun σ H R=>ta σ H fun Z Y=>∃j:Int,Z=[.int j]/\-(2 ^ 62)<=j/\j<2 ^ 62/\R (sj 0 j.toNat) Y
def E4 {a:ÿ} {ta:TA} {p pos:Pos} (hg:Gl X "range") (hm:X.mg "range"=none) (ha:PA X [a] ta) (hs:Ä [a] X.env=[(false,Ĕ a X.env)]:=by rfl):PI X tg (.Call (.Name "range" p) [a] [] pos) (JY ta):=by
 intro Y s σ H R I h;refine Call_ (qA I hg hm boot_range (ι (aM (ha pos Y s σ H _ I h) fun S Q ⟨P,O,W,V,Z⟩=>?_) hs rfl));obtain ⟨j,e,Z,U,q⟩:=Z;subst e
 cases V with
 |cons r T =>
  cases T;obtain ⟨t,rfl⟩:=r;exact call_range_1 (FX W (by omega) (by omega) Z U (by simpa using q))
def BP (wi:TI) (g:TG) (tb:TS):TS:=fun D σ H=>wi σ H fun J V=>∃W:Nat->Nat->St->Hp->Prop,(∃m,W 0 m σ V)/\∀i m σ H,W i m σ H ->
 (J.stop i H/\D.nx σ H)\/(J.go i H/\∃N:St->Hp->Prop,(∀ Y Z,N Y Z->∃X,X < m/\W (i+1) X Y Z)/\∀x Z,J.o7 i H x Z->g x σ Z fun U T=>tb { D with nx:=N,ct:=N,bk:=D.nx } U T)
noncomputable def nY (fp:List Ì) (h:Ă):List (Ì×Obj):=fp.filterMap fun b=>(h.get? b).map fun o=>(b,o)
def pP (hb:b∈fp) (e:h.get? b=some o):(b,o)∈nY fp h:=Ķ.mpr ⟨b,hb,by rw [e];rfl⟩
def E5 (hp:p∈nY fp h):p.1∈fp/\h.get? p.1=some p.2:=by
 obtain ⟨b,Z,e⟩:=Ķ.mp hp
 cases q:h.get? b with
 |none=>rw [q] at e;cases e
 |some o =>
  rw [q] at e;have Y:(b,o)=p:=PK e;subst Y;exact ⟨Z,q⟩
def Inv.pinned {π:List (Ì×Obj)} {σ:St} {H:Hp} {s:Á} {fp:List Ì} (I:Inv X π σ H s) (hf:∀b∈fp,fM X π H b) (ho:∀b∈fp,∃o,s.heap.get? b=some o/\∀v,o.data≠.cell v):Inv X (π++nY fp s.heap) σ H s :=
 I.mq fun p W=>(ĩ.mp W).elim (fun z=>I.pin p (è _ z)) fun z=>by
  obtain ⟨Z,e⟩:=E5 z;obtain ⟨f0,f1,f2,_⟩:=hf p.1 Z;obtain ⟨o,Y,d⟩:=ho p.1 Z;rw [e] at Y;cases Y;exact ⟨e,f0,f1,f2,d⟩
def Inv.pW {π pl:List (Ì×Obj)} {σ:St} {H:Hp} {s:Á} (I:Inv X (π++pl) σ H s):Inv X π σ H s:=I.mq fun p Z=>I.pin p (è _ (ħ _ Z))
def Ip {iter:ÿ} {body:List ŷ} {wi:TI} {g:TG} {tb:TS} {pos:Pos} (hp:PassesOwn (Ø X.prog X.w) X.A X.env X.xe) (hc:X.calm=true) (hi:PI X tg iter wi) (hg:PG X tg g) (hb:bX X body tb)
  (hs:∀x,Ğ iter X.env x=pure x:=by intro _;rfl):PS X (.For tg iter body [] pos) (BP wi g tb):=by
 intro R s σ H D I h;refine wpAny_For (aM (hi R s σ H _ I h) fun v s1 p=>aM p fun iy s2 l=>?_) hs;obtain ⟨it,Q,E,J,k,e,j,T,c,f2,W,⟨m0,a⟩,turn⟩:=l;subst e;have stat:∀{U:Hp},(∀b∈Q,U b=none)->∀b∈Q,fM X R U b:=fun hn b hb=>⟨hn b hb,(f2 b hb).2⟩;refine codeAny_forLoop_any (fun n C=>∃i P U,Inv X R P U C/\E i C.heap/\(∀b∈Q,U b=none)/\W i n P U) ?_ m0 ⟨0,σ,k,j,c,fun b hb=>(f2 b hb).1,a⟩;rintro n B ⟨i,O,L,z,y,t,w3⟩
 rcases turn i n O L w3 with ⟨stop,qn⟩ | ⟨go,N,hN,step⟩
 ·refine ś hp (aM (T.done X rfl rfl rfl hc i R B O L X.xe z (stat t) y stop) fun r s4 ⟨K,I4⟩=>?_)
  subst K;exact θ ⟨O,L,I4,qn⟩
 ·refine ś hp (aM (T.item X rfl rfl rfl hc i R B O L X.xe z (stat t) y go) fun r s4 ⟨u,K,h4⟩=>?_)
  subst K;refine ś hp (aM h4 fun _ s5 ⟨x,q,I5,r5,y5,G,wO⟩=>?_);have wQ:=I5.pinned (stat wO) (T.obj _ _ G);refine ś hp (aM (hg _ s5 O q x u _ wQ r5 (step x q y5)) fun _ s6 ⟨Mw,H6,I6,q6⟩=>?_);refine ś hp (aM (hb _ s6 Mw H6 _ I6 q6) fun f F S=>?_);have again:∀{Z:St} {Y:Hp},Inv X (R++nY Q s5.heap) Z Y F->N Z Y->∃m,m<n/\∃i P U,Inv X R P U F/\E i F.heap/\(∀b∈Q,U b=none)/\W i m P U:=fun {Z Y} V M=>by
   obtain ⟨m',hm,w7⟩:=hN Z Y M;refine ⟨m',hm,i+1,Z,Y,V.pW,T.keep _ _ _ G fun b hb o e=>(V.pin (b,o) (è _ (è _ (pP hb e)))).1,fun b hb=>?_,w7⟩;obtain ⟨o,e,d⟩:=T.obj _ _ G b hb;exact (V.pin (b,o) (è _ (è _ (pP hb e)))).2.1
  cases f with
  |next=>obtain ⟨Z,Y,V,M⟩:=S;exact again V M
  |cont=>obtain ⟨Z,Y,V,M⟩:=S;exact again V M
  |brk=>obtain ⟨Z,Y,V,S⟩:=S;exact ⟨Z,Y,V.pW,S⟩
  |ret v=>obtain ⟨x7,Z,Y,V,r7,S⟩:=S;exact ⟨x7,Z,Y,V.pW,r7,S⟩
end
abbrev R2:=V->V->Hp->VK->Prop
def bq (X:Cx) (f:Â->Â->Sem Â) (r:R2):Prop :=
 ∀(Z:List (Ì×Obj)) (s:Á) (σ:St) (H:Hp) (x y:V) (v u:Â) (Q:VK),Inv X Z σ H s->RelV x v->RelV y u->r x y H Q ->
  Ö (Ø X.prog X.w) X.A (f v u) (EP X Z σ Q) X.xe s
def pd (X:Cx) (f:Â->Sem Â) (r:V->Hp->VK->Prop):Prop :=
 ∀(Z:List (Ì×Obj)) (s:Á) (σ:St) (H:Hp) (x:V) (v:Â) (Q:VK),Inv X Z σ H s->RelV x v->r x H Q ->
  Ö (Ø X.prog X.w) X.A (f v) (EP X Z σ Q) X.xe s
def dB (X:Cx) (f:Â) (r:List V->Hp->VK->Prop):Prop :=
 ∀(Z:List (Ì×Obj)) (s:Á) (σ:St) (H:Hp) (Y:List V) (W:List Â) (Q:VK),Inv X Z σ H s->Vals Y W->r Y H Q ->
  Ö (Ø X.prog X.w) X.A (call f W) (EP X Z σ Q) X.xe s
def Lx (X:Cx) (r:V->Hp->(Bool->Hp->Prop)->Prop):Prop :=
 ∀(Z:List (Ì×Obj)) (s:Á) (σ:St) (H:Hp) (x:V) (v:Â) (Q:Bool->Hp->Prop),Inv X Z σ H s->RelV x v->r x H Q ->
  Ö (Ø X.prog X.w) X.A (truthy v) (TP X Z σ Q) X.xe s
def pe (r:R2) (ta tb:TE):TE:=fun σ H Q=>ta σ H fun x Z=>tb σ Z fun y Y=>r x y Y Q
def Mx (r:V->Hp->VK->Prop) (ta:TE):TE:=fun σ H Q=>ta σ H fun x Z=>r x Z Q
def rI (C:Int->Int->Prop) (g:Int->Int->V):R2:=fun x y H Q=>∃i j,x=.int i/\y=.int j/\C i j/\Q (g i j) H
def lV (g:Int->Int->V):R2:=fun x y H Q=>∃i j,x=.int i/\y=.int j/\Q (g i j) H
def rU (g:Int->V):V->Hp->VK->Prop:=fun x H Q=>∃i,x=.int i/\Q (g i) H
section
variable {X:Cx} {a b c:ÿ} {ta tb tc:TE} {pos:Pos}
def vU (ha:PE X a ta) (hb:PE X b tb) {π:List (Ì×Obj)} {s:Á} {σ:St} {H:Hp} {R:V->V->Hp->Prop} (I:Inv X π σ H s)
  (h:ta σ H fun x H1=>tb σ H1 fun y H2=>R x y H2) {Q:Â->Á->Prop} {f:Â->Â->Sem Â}
  (hf:∀v u s2 x y H2,Inv X π σ H2 s2->RelV x v->RelV y u->R x y H2->Ö (Ø X.prog X.w) X.A (f v u) Q X.xe s2) :
  Ö (Ø X.prog X.w) X.A (Ĕ a X.env) (fun v aZ=>Ö (Ø X.prog X.w) X.A (Ĕ b X.env) (fun u fx=>Ö (Ø X.prog X.w) X.A (f v u) Q X.xe fx) X.xe aZ) X.xe s:=by
 refine aM (ha π s σ H _ I h) fun v Z ⟨x,H1,Y,W,U⟩=>?_;refine aM (hb π Z σ H1 _ Y U) fun u s2 ⟨y,H2,T,S,P⟩=>?_;exact hf v u s2 x y H2 T W S P
def JZ (ho:bq X (Ē op) r) (ha:PE X a ta) (hb:PE X b tb):PE X (.BinOp a op b pos) (pe r ta tb):=by
 intro Z s σ H Q I h;exact wpAny_BinOp (vU ha hb I h fun v u Y x y W V U T q=>ho Z Y σ W x y v u Q V U T q)
def J0 {op:UnaryOp} {r:V->Hp->VK->Prop} (ho:pd X (unaryOp op) r) (ha:PE X a ta):PE X (.UnaryOp op a pos) (Mx r ta):=by
 intro Z s σ H Q I h;exact UnaryOp_ (aM (ha Z s σ H _ I h) fun v Y ⟨x,W,U,T,S⟩=>ho Z Y σ W x v Q U T S)
def sk {C:Int->Int->Prop} {g:Int->Int->Int}
 (rule:∀(i j:Int) (t u:Tok) (s:Á) (Q:Â->Á->Prop) (E:Â->Á->Prop),C i j->Q (.int (g i j) s.toks) { s with toks:=s.toks+1 }->Ö (Ø X.prog X.w) X.A (f (.int i t) (.int j u)) Q E s) :
  bq X f (rI C fun i j=>.int (g i j)):=by
 intro U s σ H x y v u Q I Z Y h;obtain ⟨i,j,rfl,rfl,W,q⟩:=h;obtain ⟨t,rfl⟩:=Z;obtain ⟨V,rfl⟩:=Y;exact rule i j t V s _ _ W ⟨.int (g i j),H,I.tok _,⟨_,rfl⟩,q⟩
def BQ {g:Int->Int->Int}
 (rule:∀(i j:Int) (t u:Tok) (s:Á) (Q:Â->Á->Prop) (E:Â->Á->Prop),Q (.int (g i j) s.toks) { s with toks:=s.toks+1 }->Ö (Ø X.prog X.w) X.A (f (.int i t) (.int j u)) Q E s) :
  bq X f (lV fun i j=>.int (g i j)):=by
 intro V s σ H x y v u Q I Z Y h;obtain ⟨i,j,rfl,rfl,q⟩:=h;obtain ⟨t,rfl⟩:=Z;obtain ⟨W,rfl⟩:=Y;exact rule i j t W s _ _ ⟨.int (g i j),H,I.tok _,⟨_,rfl⟩,q⟩
def vV {g:Int->Int->Bool}
 (rule:∀(i j:Int) (t u:Tok) (s:Á) (Q:Â->Á->Prop) (E:Â->Á->Prop),Q (.bool (g i j)) s->Ö (Ø X.prog X.w) X.A (f (.int i t) (.int j u)) Q E s) :
  bq X f (lV fun i j=>.bl (g i j)):=by
 intro V s σ H x y v u Q I Z Y h;obtain ⟨i,j,rfl,rfl,q⟩:=h;obtain ⟨t,rfl⟩:=Z;obtain ⟨W,rfl⟩:=Y;exact rule i j t W s _ _ ⟨.bl (g i j),H,I,rfl,q⟩
def Ly (i j:Int):Prop:=0<j/\j<1073741824
def Lz (i j:Int):Prop:=0<=j/\j<=1000000/\i.natAbs<2 ^ 64
def rA (i j:Int):Prop:=(-(2 ^ 64)<i/\i<2 ^ 64)\/(-(2 ^ 64)<j/\j<2 ^ 64)
def rA.ok (h:rA i j):IntMulOk i j:=by
 rcases h with ⟨Z,Y⟩ | ⟨Z,Y⟩
 ·exact .of_left (intBits_le_64 Z Y)
 ·exact .of_right (intBits_le_64 Z Y)
def Iq:bq X (Ē .Add) (lV fun i j=>.int (i+j)):=BQ fun _ _ _ _ _ _ _ q=>add_int q
def Ir:bq X (Ē .Sub) (lV fun i j=>.int (i-j)):=BQ fun _ _ _ _ _ _ _ q=>sub_int q
def Iu:bq X (Ē .Mult) (rI rA fun i j=>.int (i*j)):=sk fun _ _ _ _ _ _ _ Z q=>mul_int q Z.ok
def G9:bq X (Ē .FloorDiv) (rI Ly fun i j=>.int (i / j)):=sk fun i j _ _ _ _ _ Z q=>by
 have Y:(0:Int)<j:=Z.1;have W:j<1073741824:=Z.2;exact floordiv_int (by omega) (by rw [Int.fdiv_eq_ediv_of_nonneg i (by omega)];exact q) (.inl (PyProof.noPylong_small (by omega)))
def Iv:bq X (Ē .Mod) (rI (fun _ j=>0<j) fun i j=>.int (i % j)):=sk fun i j _ _ _ _ _ Z q=>by
 have Y:(0:Int)<j:=Z;exact mod_int' (by omega) (by rw [Int.fmod_eq_emod_of_nonneg i (by omega)];exact q)
def Iw:bq X (Ē .Pow) (rI Lz fun i j=>.int (i ^ j.toNat)):=sk fun _ _ _ _ _ _ _ Z q=>pow_int_small Z.1 Z.2.1 Z.2.2 q
def My {g:Int->Int}
 (rule:∀(i:Int) (t:Tok) (s:Á) (Q:Â->Á->Prop) (E:Â->Á->Prop),Q (.int (g i) s.toks) { s with toks:=s.toks+1 }->Ö (Ø X.prog X.w) X.A (f (.int i t)) Q E s) :
  pd X f (rU fun i=>.int (g i)):=by
 intro Y s σ H x v Q I Z h;obtain ⟨i,rfl,q⟩:=h;obtain ⟨t,rfl⟩:=Z;exact rule i t s _ _ ⟨.int (g i),H,I.tok _,⟨_,rfl⟩,q⟩
def Iy:pd X (unaryOp .USub) (rU fun i=>.int (-i)):=My fun _ _ _ _ _ q=>neg_int q
end
noncomputable def vW:V->V->Bool
 | .au,.au=>true | .au,.int _=>true | .int _,.au=>true | .au,.bl _=>true | .bl _,.au=>true | .au,.str _=>true | .str _,.au=>true
 | .int _,.int _=>true | .bl _,.bl _=>true | .str _,.str _=>true | .fR _,.fR _=>true
 | .int _,.str _=>true | .str _,.int _=>true | .bl _,.str _=>true | .str _,.bl _=>true
 |_,_=>false
def Mz:R2:=fun x y H Q=>vW x y=true/\Q (.bl (decide (x=y))) H
def MA:R2:=fun x y H Q=>vW x y=true/\Q (.bl (!decide (x=y))) H
def zx:decide (V.int i=V.int j)=(i==j):=by
 rw [Ļ];simp
def Ak:decide (V.bl i=V.bl j)=(i==j):=by
 rw [Ļ];simp
def uh:decide (V.str i=V.str j)=(i==j):=by
 rw [Ļ];simp
def zy:decide (V.fR i=V.fR j)=(i.toList==j.toList):=by
 rw [Ļ];cases i;cases j;simp
section
variable {X:Cx} {a b c:ÿ} {ta tb tc:TE} {pos:Pos}
def bU {π:List (Ì×Obj)} {σ:St} {H:Hp} {s:Á} {Q:VK} {k k':Bool} (I:Inv X π σ H s) (q:Q (.bl k) H) (e:k=k'):EP X π σ Q (.bool k') s:=by
 subst e;exact ⟨.bl k,H,I,rfl,q⟩
def J1:bq X (ă .Eq) Mz:=by
 intro U s σ H x y v u Q I V Z h;obtain ⟨hs,q⟩:=h
 cases x with
 |au =>
  cases V
  cases y with
  |au=>cases Z;exact PySem.EqNone.eq_none_none (bU I q (by simp))
  |bl j=>cases Z;exact PySem.EqNone.eq_none_bool (bU I q (by simp))
  |int j=>obtain ⟨Y,rfl⟩:=Z;exact PySem.EqNone.eq_none_int (bU I q (by simp))
  |str j=>obtain ⟨Y,rfl⟩:=Z;exact PySem.EqNone.eq_none_str (bU I q (by simp))
  |_=>exact absurd (show false=true from hs) Î
 |bl i =>
  cases V
  cases y with
  |au=>cases Z;exact PySem.EqNone.eq_bool_none (bU I q (by simp))
  |bl j=>cases Z;exact eq_bool (bU I q Ak)
  |str j=>obtain ⟨Y,rfl⟩:=Z;exact PySem.EqMixed.eq_bool_str (bU I q (by simp))
  |_=>exact absurd (show false=true from hs) Î
 |int i =>
  obtain ⟨t,rfl⟩:=V
  cases y with
  |au=>cases Z;exact PySem.EqNone.eq_int_none (bU I q (by simp))
  |int j=>obtain ⟨Y,rfl⟩:=Z;exact eq_int (bU I q zx)
  |str j=>obtain ⟨Y,rfl⟩:=Z;exact PySem.EqMixed.eq_int_str (bU I q (by simp))
  |_=>exact absurd (show false=true from hs) Î
 |str i =>
  obtain ⟨t,rfl⟩:=V
  cases y with
  |au=>cases Z;exact PySem.EqNone.eq_str_none (bU I q (by simp))
  |bl j=>cases Z;exact PySem.EqMixed.eq_str_bool (bU I q (by simp))
  |int j=>obtain ⟨Y,rfl⟩:=Z;exact PySem.EqMixed.eq_str_int (bU I q (by simp))
  |str j=>obtain ⟨Y,rfl⟩:=Z;exact eq_str (bU I q uh)
  |_=>exact absurd (show false=true from hs) Î
 |fR i =>
  obtain ⟨t,rfl⟩:=V
  cases y with
  |fR j=>obtain ⟨Y,rfl⟩:=Z;exact PySem.W.eq_bytes (bU I q zy)
  |_=>exact absurd (show false=true from hs) Î
 |_=>cases y<;>exact absurd (show false=true from hs) Î
def Bd:bq X (ă .NotEq) MA:=by
 intro U s σ H x y v u Q I V Z h;obtain ⟨hs,q⟩:=h
 cases x with
 |au =>
  cases V
  cases y with
  |au=>cases Z;exact PySem.EqNone.ne_none_none (bU I q (by simp))
  |bl j=>cases Z;exact PySem.EqNone.ne_none_bool (bU I q (by simp))
  |int j=>obtain ⟨Y,rfl⟩:=Z;exact PySem.EqNone.ne_none_int (bU I q (by simp))
  |str j=>obtain ⟨Y,rfl⟩:=Z;exact PySem.EqNone.ne_none_str (bU I q (by simp))
  |_=>exact absurd (show false=true from hs) Î
 |bl i =>
  cases V
  cases y with
  |au=>cases Z;exact PySem.EqNone.ne_bool_none (bU I q (by simp))
  |bl j=>cases Z;exact ne_bool (bU I q (Ĩ not Ak))
  |str j=>obtain ⟨Y,rfl⟩:=Z;exact PySem.EqMixed.ne_bool_str (bU I q (by simp))
  |_=>exact absurd (show false=true from hs) Î
 |int i =>
  obtain ⟨t,rfl⟩:=V
  cases y with
  |au=>cases Z;exact PySem.EqNone.ne_int_none (bU I q (by simp))
  |int j=>obtain ⟨Y,rfl⟩:=Z;exact ne_int (bU I q (Ĩ not zx))
  |str j=>obtain ⟨Y,rfl⟩:=Z;exact PySem.EqMixed.ne_int_str (bU I q (by simp))
  |_=>exact absurd (show false=true from hs) Î
 |str i =>
  obtain ⟨t,rfl⟩:=V
  cases y with
  |au=>cases Z;exact PySem.EqNone.ne_str_none (bU I q (by simp))
  |bl j=>cases Z;exact PySem.EqMixed.ne_str_bool (bU I q (by simp))
  |int j=>obtain ⟨Y,rfl⟩:=Z;exact PySem.EqMixed.ne_str_int (bU I q (by simp))
  |str j=>obtain ⟨Y,rfl⟩:=Z;exact ne_str (bU I q (Ĩ not uh))
  |_=>exact absurd (show false=true from hs) Î
 |fR i =>
  obtain ⟨t,rfl⟩:=V
  cases y with
  |fR j=>obtain ⟨Y,rfl⟩:=Z;exact PySem.W.ne_bytes (bU I q (Ĩ not zy))
  |_=>exact absurd (show false=true from hs) Î
 |_=>cases y<;>exact absurd (show false=true from hs) Î
def J2:bq X (ă .LtE) (lV fun i j=>.bl (decide (i<=j))):=vV fun _ _ _ _ _ _ _ q=>le_int q
def J3:bq X (ă .Gt) (lV fun i j=>.bl (decide (j<i))):=vV fun _ _ _ _ _ _ _ q=>gt_int q
def J4:bq X (ă .GtE) (lV fun i j=>.bl (decide (j<=i))):=vV fun _ _ _ _ _ _ _ q=>ge_int q
def b9 (b:ÿ) (h:op≠.In:=by decide) (h2:op≠.NotIn:=by decide):Ŝ op b=false:=by
 have e1:(op==CmpOp.In)=false:=by cases op<;>first|rfl|exact absurd rfl h
 have e2:(op==CmpOp.NotIn)=false:=by cases op<;>first|rfl|exact absurd rfl h2
 cases b<;>simp [Ŝ,e1,e2]
def Ha (ho:bq X (ă op) r) (ha:PE X a ta) (hb:PE X b tb) (hm:Ŝ op b=false):PE X (.Compare a [op] [b] pos) (pe r ta tb):=by
 intro Z s σ H Q I h;exact wpAny_Compare1 (vU ha hb I h fun v u Y x y W V U T q=>ho Z Y σ W x y v u Q V U T q) hm
def qV (t:TE):TT:=fun σ H Q=>t σ H fun x Z=>∃k,x=.bl k/\Q k Z
def Hb {op:CmpOp} {r:R2} (ho:bq X (ă op) r) (ha:PE X a ta) (hb:PE X b tb) (hm:Ŝ op b=false):PT X (.Compare a [op] [b] pos) (qV (pe r ta tb)):=by
 intro Z s σ H Q I h;refine wpAny_isTrue_Compare1 (aM (ha Z s σ H _ I h) fun v Y ⟨x,W,V,U,T⟩=>aM (hb Z Y σ W _ V T) fun u S ⟨y,R,P,O,N⟩ =>
  aM (ho Z S σ R x y v u _ P U O N) fun c G ⟨z,M,L,K,k,e,J⟩=>?_) hm
 subst e;cases K;exact Ŀ ⟨M,L,J⟩
def oJ (K:ô) (x:V) (H:Hp) (k:Bool):Prop :=
 match x with
 | .au=>k=false
 | .bl b=>k=b
 | .int i=>k=(i != 0)
 | .str y=>y.length<=Ô/\k=((y.length:Int) != 0)
 | .fR y=>y.size<=Ô/\k=((y.size:Int) != 0)
 | .ref p=>(∃Z,bb K H p Z/\k=!Z.isEmpty)\/(∃Z,bh K H p Z/\k=!Z.isEmpty)\/∃Y,H p=some (.dK Y)/\k=!Y.isEmpty
 |_=>False
def Er {κ:Type} {aE:List (κ×V)} {vs:List (κ×Â)} (r:KV aE vs):(!vs.isEmpty)=!aE.isEmpty:=by
 cases r<;>rfl
def yC (r:Vals xs ao):(!ao.toArray.isEmpty)=!xs.isEmpty:=by
 cases r<;>simp
def kU:(Ô:Nat)<2 ^ 63:=by rw [ũ];decide
def Iz:Lx X (fun x H Q=>∃k,oJ X.K x H k/\Q k H):=by
 intro J s σ H x v Q I U h;obtain ⟨k,e,q⟩:=h;have G:=kU;have hs:Ô=16777216:=ũ
 cases x with
 |au =>
  cases U;have Z:k=false:=e;subst Z;exact truthy_none ⟨H,I,q⟩
 |bl b =>
  cases U;have Z:k=b:=e;subst Z;exact Ŀ ⟨H,I,q⟩
 |int i =>
  obtain ⟨t,rfl⟩:=U;have Z:k=(i != 0):=e;subst Z;exact PySem.P.truthy_int ⟨H,I,q⟩
 |str y =>
  obtain ⟨t,rfl⟩:=U;obtain ⟨M,Z⟩:y.length<=Ô/\k=((y.length:Int) != 0):=e;subst Z;exact PySem.P.truthy_str (by omega) ⟨H,I.tok _,q⟩
 |fR y =>
  obtain ⟨t,rfl⟩:=U;obtain ⟨M,Z⟩:y.size<=Ô/\k=((y.size:Int) != 0):=e;subst Z;exact PySem.W.truthy_bytes (by omega) ⟨H,I.tok _,q⟩
 |ref p =>
  cases U;have Z:(∃V,bb X.K H p V/\k=!V.isEmpty)\/(∃V,bh X.K H p V/\k=!V.isEmpty)\/∃T,H p=some (.dK T)/\k=!T.isEmpty:=e
  rcases Z with ⟨V,S,Z⟩ | ⟨V,S,Z⟩ | ⟨T,S,Z⟩
  ·subst Z
   obtain ⟨ao,r,O,N⟩:=I.list S;have Y:=r.length;exact wpAny_truthy_list O.isList (by simp only [Û];omega) ⟨H,I.tok _,by rw [yC r];exact q⟩
  ·subst Z
   obtain ⟨ao,r,O,N⟩:=I.tuple S;have Y:=r.length;exact truthy_tuple O (by simp only [Û];omega) ⟨H,I.tok _,by rw [yC r];exact q⟩
  ·subst Z
   obtain ⟨N,L,R,r,m⟩:T.length<=Ô/\(p==ε)=false/\∃R,KV T R/\s.heap.DictOf (qd X.prog X.w) p R:=I.aA p _ S;have Y:T.length=R.length:=Paired.length r;exact wpAny_truthy_dict L m (by omega) ⟨H,I.tok _,by rw [Er r];exact q⟩
 |_=>exact (show False from e).elim
def FY (ha:PE X a ta) (he:∀whole,isTrue a X.env whole=(do let v <- whole;standAt a.pos;Ũ [v] (truthy v))) :
  PT X a (fun σ H Q=>ta σ H fun x H'=>∃k,oJ X.K x H' k/\Q k H'):=by
 intro Z s σ H Q I h;exact isTrue_plain (aM (ha Z s σ H _ I h) fun v Y ⟨x,W,V,U,T⟩=>Iz Z Y σ W x v Q V U T) (he _)
def Es:bq X (Ē .Add) (fun x y H Q=>∃i j,x=.str i/\y=.str j/\i.length+j.length<=Ô/\Q (.str (i++j)) H):=by
 intro U s σ H x y v u Q I Z Y h;obtain ⟨i,j,rfl,rfl,W,q⟩:=h;obtain ⟨t,rfl⟩:=Z;obtain ⟨V,rfl⟩:=Y;exact add_str (fun V T=>⟨.str (i++j),H,I.tok _,⟨_,rfl⟩,q⟩) W
def vals1 (r:Vals [x] us):∃u,us=[u]/\RelV x u:=by
 cases r with
 |cons Z Y=>cases Y;exact ⟨_,rfl,Z⟩
def vals2 (r:Vals [x,y] us):∃u w',us=[u,w']/\RelV x u/\RelV y w':=by
 cases r with
 |cons Z Y =>
  cases Y with
  |cons X W=>cases W;exact ⟨_,_,rfl,Z,X⟩
def E6 (hc:X.calm=true):dB X (.builtin "max") (fun xs H Q=>∃i j,xs=[.int i,.int j]/\Q (.int (if j > i then j else i)) H):=by
 intro Y s σ H xs W Q I r h;obtain ⟨i,j,rfl,q⟩:=h;obtain ⟨u,V,rfl,⟨t,rfl⟩,⟨U,rfl⟩⟩:=vals2 r;refine max_two_ints (I.ok.hd hc) fun T S k=>⟨_,H,I.kept k,?_,q⟩;by_cases Z:j > i
 ·rw [ã Z,ã Z];exact ⟨_,rfl⟩
 ·rw [ë Z,ë Z];exact ⟨_,rfl⟩
def E7 (hc:X.calm=true):dB X (.builtin "min") (fun xs H Q=>∃i j,xs=[.int i,.int j]/\Q (.int (if j<i then j else i)) H):=by
 intro Y s σ H xs W Q I r h;obtain ⟨i,j,rfl,q⟩:=h;obtain ⟨u,V,rfl,⟨t,rfl⟩,⟨U,rfl⟩⟩:=vals2 r;refine min_two_ints (I.ok.hd hc) fun T S k=>⟨_,H,I.kept k,?_,q⟩;by_cases Z:j<i
 ·rw [ã Z,ã Z];exact ⟨_,rfl⟩
 ·rw [ë Z,ë Z];exact ⟨_,rfl⟩
end
structure lH (h:Ă) (x dx C:Ì) (mA:Str->Option Â):Prop where
 obj:h.get? x=some (ğ C dx)
 ns:h.Ns1 dx mA
 ne:dx≠x
def yN {h:Ă} {dx:Ì} {mA:Str->Option Â} (n:h.Ns1 dx mA):∃od,h.get? dx=some od/\∀name,ņ name od=some (mA name):=by
 obtain ⟨o,Z,R,Y,X,W,_,V⟩:=n;refine ⟨o,Y,fun name=>?_⟩;have e:=V name;unfold nsFind findBy at e;rw [<- Array.find?_toList] at e;unfold ņ;rw [X];dsimp only;split
 ·rename_i y q
  rw [q] at e;exact Ĩ some e
 ·rename_i q
  rw [q] at e;have a:Z.toList.any (·.refKey)=false:=by
   rw [List.any_eq_false];intro y U;obtain ⟨z,t,T⟩:=W y (Array.mem_toList_iff.mp U);simp [DictEntry.refKey,T]
  have S:¬ Z.toList.any (·.refKey)=true:=by rw [a];exact Î
  rw [ë S];exact Ĩ some e
def lH.look (I:lH h x dx C mA):∃od,PySem.W.InstAt h x (ğ C dx) C (some od)/\∀name,ņ name od=some (mA name) :=
 let ⟨od,Z,Y⟩:=yN I.ns
 ⟨od,⟨I.obj,rfl,rfl,Z⟩,Y⟩
section
variable {prog:Ó} {w:î} {A:Ù} {E:Â->Á->Prop} {s:Á} {K:ô} {x dx C f:Ì} {mA:Str->Option Â} {name:Str} {v:Â}
def get_map (X:K.In s.heap) (I:lH s.heap x dx C mA) (hg:Ź K C name=true) (hh:Pt K C=true)
 (ha:Ċ K (.ref C) name=some none) (hv:mA name=some v) (sm:PySem.W.handedIn v=true) (h:Q v { s with toks:=s.toks+1 }) :
  Ö (Ø prog w) A (getAttr (.ref x) name expr) Q E s:=by
 obtain ⟨Y,J,Z⟩:=I.look;exact PySem.W.get_value X J (μ hg).1 (PySem.W.findObj_own hh ha rfl (by rw [Z,hv])) sm h
def FZ (X:K.In s.heap) (I:lH s.heap x dx C mA) (hg:Ź K C name=true)
 (hf:Ċ K (.ref C) name=some (some (.ref f))) (ht:PySem.W.isFn K (.ref f)=true) (hv:mA name=none) (h:Q (.ref f,[.ref x]) s) :
  Ö (Ø prog w) A (Pu (.ref x) name pl) Q E s:=by
 obtain ⟨Z,J,Y⟩:=I.look;exact PySem.W.method_fn X J (μ hg).1 (μ hg).2 hf (beq_iff_eq.mp ht) (by show (ņ name Z).map (·.isSome)=some false;rw [Y,hv];rfl) h
def Hc (X:K.In s.heap) (I:lH s.heap x dx C mA)
 (hs:Ċ K (.ref C) "__setattr__"=some (some (.builtin "object.__setattr__"))) (hp:PySem.W.plainOver K C=true) (ht:PySem.W.takerIn K C name=some none) (hh:Pt K C=true)
 (hw:PySem.Within mA ns) (hsz:ns.length<=Ô)
 (h:∀h',lH h' x dx C (fun y=>if y=name then some v else mA y)->Ĭ dx s.heap h'->Q () { s with heap:=h',toks:=s.toks+2 }) :
  Ö (Ø prog w) A (setAttr (.ref x) name v) Q E s:=by
 obtain ⟨O,J,N⟩:=I.look
 refine PySem.W.set_plain X J hs (PySem.W.osa_open (s:={ s with toks:=s.toks+1 }) (r:=none) X J hp ht fun b=>?_)
 obtain ⟨cd,V,U⟩:=PySem.W.any_some hh;have T:s.heap.get? x=some ⟨.ref C,some dx,.plain,#[]⟩:=I.obj
 refine À (Ë (À (À (wpAny_loadPart T (À (PySem.W.Looks.here (s:={ s with toks:=s.toks+1 }) (PySem.W.looks_clsIn X V) ?_))))))
 rw [U];refine Ë (a:=some dx) (À (Ë (À ?_)))
 refine wpAny_nsSet1 (s:={ s with toks:=s.toks+1 }) I.ns fun h' Z Y=>?_
 obtain ⟨M,L,H,S,R,P⟩:=Z.count (PySem.Within.cons name v hw);refine À (wpAny_lookBehind S (by rw [R];exact pastItsLine_dict (ç P (by rw [ò];omega))) ?_);exact Ë (h _ ⟨(Y.2 _ (ŧ I.ne)).trans I.obj,Z,I.ne⟩ Y)
def F0 (X:K.In s.heap) (hm:PySem.W.makesIn K C=true)
 (hi:Ċ K (.ref C) "__init__"=some (some (.ref f))) (hf:PySem.W.typeIn K (.ref f)=some (.type "function"))
 (h:Ū (Ø prog w) (A.under (.builtin "type.__call__" ⟨.ref C::vs,kw⟩)) (.call (.ref f) ⟨.ref (s.heap.objs.size+1)::vs,kw⟩) (PySem.W.InitBack (s.heap.objs.size+1) R)
 { s with heap:=(s.heap.push ĉ).push (ğ C s.heap.objs.size) }) :
  Ū (Ø prog w) A (.call (.ref C) ⟨vs,kw⟩) R s:=by
 obtain ⟨Z,g,d,t,os⟩:=s;exact PySem.W.make_core (PySem.W.makes_of X hm) (PySem.W.looks_findIn X hi) (fun self=>PySem.W.bind_fn X self hf) (.inl rfl) h
end
noncomputable def df (f:Str) (v:V):List (Str×V)->List (Str×V)
 | []=>[(f,v)]
 |(g,x)::r=>if g=f then (g,v)::r else (g,x)::df f v r
theorem yt (f g:Str) (v:V):∀fs:List (Str×V),(df f v fs).lookup g=if g=f then some v else fs.lookup g
 | []=>by
  show Œ g [(f,v)]=_;by_cases h:g=f
  ·have Z:(g==f)=true:=beq_iff_eq.mpr h
   simp only [Œ,Z,ã h]
  ·have Z:(g==f)=false:=beq_eq_false_iff_ne.mpr h
   simp only [Œ,Z,ë h]
 |(k,x)::r=>by
  have ih:=yt f g v r
  rw [show df f v ((k,x)::r)=(if k=f then (k,v)::r else (k,x)::df f v r) from rfl]
  by_cases Y:k=f
  ·rw [ã Y]
   by_cases h:g=k
   ·have Z:(g==k)=true:=beq_iff_eq.mpr h
    simp only [Œ,Z,ã (h.trans Y)]
   ·have Z:(g==k)=false:=beq_eq_false_iff_ne.mpr h
    simp only [Œ,Z,ë (fun e:g=f=>h (e.trans Y.symm))]
  ·rw [ë Y]
   by_cases h:g=k
   ·have Z:(g==k)=true:=beq_iff_eq.mpr h
    simp only [Œ,Z,ë (fun e:g=f=>Y (h.symm.trans e))]
   ·have Z:(g==k)=false:=beq_eq_false_iff_ne.mpr h
    simp only [Œ,Z];exact ih
theorem tF (f:Str) (v:V):∀fs:List (Str×V),f∈(df f v fs).map (·.1)/\∀g,g∈fs.map (·.1)->g∈(df f v fs).map (·.1)
 | []=>⟨by simp [df],fun g h=>by simp at h⟩
 |(k,x)::r=>by
  obtain ⟨Y,X⟩:=tF f v r
  rw [show df f v ((k,x)::r)=(if k=f then (k,v)::r else (k,x)::df f v r) from rfl]
  by_cases Z:k=f
  ·rw [ã Z]
   subst Z;exact ⟨by simp,fun g h=>by simpa using h⟩
  ·rw [ë Z]
   refine ⟨?_,fun g h=>?_⟩
   ·rw [é]
    exact Ð _ Y
   ·rw [é] at h |-
    rcases á.mp h with e|e
    ·exact á.mpr (.inl e)
    ·exact Ð _ (X g e)
theorem yu (f:Str) (v:V):∀fs:List (Str×V),(df f v fs).length<=fs.length+1
 | []=>by simp [df]
 |(k,x)::r=>by
  have ih:=yu f v r
  rw [show df f v ((k,x)::r)=(if k=f then (k,v)::r else (k,x)::df f v r) from rfl]
  by_cases Z:k=f
  ·rw [ã Z,ò,ò];omega
  ·rw [ë Z,ò,ò];omega
def iS.some_of (r:iS (some v) o):∃u,o=some u/\RelV v u:=by
 cases o with
 |none=>exact (show False from r).elim
 |some u=>exact ⟨u,rfl,r⟩
def iS.none_of (r:iS none o):o=none:=by
 cases o with
 |none=>rfl
 |some u=>exact (show False from r).elim
def E8 (r:RelV v u):PySem.W.handedIn u=true:=by
 cases v with
 |au=>cases (show u=Value.none from r);rfl
 |bl b=>cases (show u=ĝ b from r);rfl
 |int i=>obtain ⟨t,e⟩:=(show ∃t,u=Value.int i t from r);cases e;rfl
 |str x=>obtain ⟨t,e⟩:=(show ∃t,u=Value.str x t from r);cases e;rfl
 |fR b=>obtain ⟨t,e⟩:=(show ∃t,u=Value.bytes b t from r);cases e;rfl
 |nr b=>obtain ⟨t,e⟩:=(show ∃t,u=Value.float b t from r);cases e;rfl
 |ref a=>cases (show u=ý a from r);rfl
 |ty n=>cases (show u=Value.type n from r);rfl
section
variable {P:Ó} {w:î} {H H':Hp} {h h':Ă} {a C dx:Ì} {fs Mu:List (Str×V)}
def uk (aA:bL P w H h) (e:H a=some (.ins C dx fs)):∃mA,lH h a dx C mA/\(∀f,iS (fs.lookup f) (mA f))/\PySem.Within mA (fs.map (·.1))/\fs.length<=1000/\H dx=some (.own a):=by
 obtain ⟨d,z,ne,Z,mA,n,r,q⟩:=(show cV P w H h a (.ins C dx fs) from aA a _ e);exact ⟨mA,⟨Z,n,ne⟩,r,q,z,d⟩
end
structure gu (K:ô) (C:Ì):Prop where
 pg:Ź K C Str.empty=true
 hd:Pt K C=true
 po:PySem.W.plainOver K C=true
 sa:Ċ K (.ref C) "__setattr__"=some (some (.builtin "object.__setattr__"))
def gu.get {K:ô} {C:Ì} (c:gu K C) (f:Str):Ź K C f=true:=c.pg
def jh (K:ô) (C:Ì) (f:Str):Prop:=Ċ K (.ref C) f=some none
def jh.J5 {K:ô} {C:Ì} {f:Str} (n:jh K C f):PySem.W.takerIn K C f=some none:=by
 unfold PySem.W.takerIn;rw [show Ċ K (.ref C) f=some none from n];rfl
structure OY (K:ô) (C:Ì) (f:Str) (v:V) (u:Â):Prop where
 at_:Ċ K (.ref C) f=some (some u)
 rel:RelV v u
 get:PySem.W.specialIn K u "__get__"=some none
 cp:PySem.W.copiedNames.contains f=false
structure Meth (K:ô) (C:Ì) (m:Str) (f:Ì):Prop where
 at_:Ċ K (.ref C) m=some (some (.ref f))
 fn:PySem.W.isFn K (.ref f)=true
 kp:ĕ K (.ref f)=true
section
variable {X:Cx} {π:List (Ì×Obj)} {σ:St} {H:Hp} {s:Á} {a C dx:Ì} {fs:List (Str×V)} {f:Str} {v:V} {A:Ù} {E:Â->Á->Prop}
def Et (I:Inv X π σ H s) (e:H a=some (.ins C dx fs)) (c:gu X.K C) (n:jh X.K C f) (l:fs.lookup f=some v)
 (h:∀u s',Inv X π σ H s'->RelV v u->Q u s'):Ö (Ø X.prog X.w) A (getAttr (.ref a) f b) Q E s:=by
 obtain ⟨Y,O,r,_,_,_⟩:=uk I.aA e;obtain ⟨u,W,Z⟩:=iS.some_of (v:=v) (o:=Y f) (by rw [<- l];exact r f);exact get_map I.cH O (c.get f) c.hd n W (E8 Z) (h u _ (I.tok _) Z)
def yD (I:Inv X π σ H s) (e:H a=some (.ins C dx fs)) (c:gu X.K C) (k:Meth X.K C m g) (l:fs.lookup m=none)
 (h:Q (.ref g,[.ref a]) s):Ö (Ø X.prog X.w) A (Pu (.ref a) m pl) Q E s:=by
 obtain ⟨Z,O,r,_,_,_⟩:=uk I.aA e;have Y:Z m=none:=iS.none_of (by rw [<- l];exact r m);exact FZ I.cH O (c.get m) k.at_ k.fn Y h
def Eu (I:Inv X π σ H s) (e:H a=some (.ins C dx fs)) (c:gu X.K C) (n:jh X.K C f) (hl:fs.length<1000) (ry:RelV y u)
 (h:∀s',Inv X π σ (upd H a (.ins C dx (df f y fs))) s'->Q () s'):Ö (Ø X.prog X.w) A (setAttr (.ref a) f u) Q E s:=by
 obtain ⟨Y,O,r,W,_,V⟩:=uk I.aA e;have U:(fs.map (·.1)).length<=Ô:=by rw [ß,ũ];omega
 refine Hc I.cH O c.sa c.po n.J5 c.hd W U fun T Z S=>h _ ?_
 have hd:∃o,T.get? dx=some o:=let ⟨o,_,_,R,_⟩:=Z.ns;⟨o,R⟩
 refine I.write (x:=a) (e:=dx) (by rw [e];exact True.intro) (.inr V) (fun b q P z=>(S.2 b P).trans z) hd ?_;refine ⟨by rw [aG O.ne];exact V,?_,O.ne,Z.obj,_,Z.ns,fun g=>?_,fun g N=>?_⟩
 ·have:=yu f y fs;omega
 ·show iS ((df f y fs).lookup g) (if g=f then some u else Y g)
  rw [yt];by_cases q:g=f
  ·rw [ã q,ã q];exact ry
  ·rw [ë q,ë q];exact r g
 ·by_cases q:g=f
  ·rw [q];exact (tF f y fs).1
  ·refine (tF f y fs).2 g (W g fun z=>N ?_)
   show (if g=f then some u else Y g)=none
   rw [ë q];exact z
def Inv.made (I:Inv X π σ H s):Inv X π σ (upd (upd H s.heap.objs.size (.own (s.heap.objs.size+1))) (s.heap.objs.size+1) (.ins C s.heap.objs.size []))
  { s with heap:=(s.heap.push ĉ).push (ğ C s.heap.objs.size) }:=by
 have e1:(s.heap.push ĉ).get? s.heap.objs.size=some ĉ:=Ï s.heap rfl;have e2:((s.heap.push ĉ).push (ğ C s.heap.objs.size)).get? (s.heap.objs.size+1)=some (ğ C s.heap.objs.size):=by
  have:=Ï (s.heap.push ĉ) (o:=ğ C s.heap.objs.size) rfl;rwa [ö] at this
 have Z:(s.heap.push ĉ).Ns s.heap.objs.size (fun _=>none):=⟨ĉ,#[],_,e1,rfl,(fun e Y=>absurd Y (by simp)),fun _=>rfl⟩;have W:=I.laid (a:=s.heap.objs.size) (o:=.own (s.heap.objs.size+1)) (h':=s.heap.push ĉ) (t':=s.toks) (fun b u q=>Ã _ q) (PJ _) ⟨_,e1⟩;refine W.laid (a:=s.heap.objs.size+1) (o:=.ins C s.heap.objs.size []) (t':=s.toks) (fun b u q=>Ã _ q) (Nat.le_of_eq (ö _ _)) ?_;have ne:s.heap.objs.size≠s.heap.objs.size+1:=â (Nat.lt_succ_self _);refine ⟨by rw [aG ne,bZ],ū _,ne,e2,fun _=>none,(Heap.Ns1.of_empty Z).at fun o q=>Ã _ q,fun _=>True.intro,fun y V=>absurd rfl V⟩
def zz (hb:Ĥ e f env (Ĕ e env)=Ĕ e env)
 (h:Ö (Ø prog w) A (Ĕ e env) (fun o aZ=>Ö (Ø prog w) A (getAttr o f true) Q E aZ) E s):Ö (Ø prog w) A (Ĕ (.Attribute e f pos) env) Q E s :=
 Attribute_any_ h (by rw [arm_eval_Attribute,hb])
end
def LB (K:ô) (ta:TE) (f:Str):TE:=fun σ H Q=>ta σ H fun x Z=>∃a C Y fs v,x=.ref a/\Z a=some (.ins C Y fs)/\gu K C/\jh K C f/\fs.lookup f=some v/\Q v Z
def LC (K:ô) (ta tv:TE) (f:Str):TS:=fun D σ H=>tv σ H fun y X=>ta σ X fun x Z=>∃a C Y fs,x=.ref a/\Z a=some (.ins C Y fs)/\gu K C/\jh K C f/\fs.length<1000 /\
 D.nx σ (upd Z a (.ins C Y (df f y fs)))
section
variable {X:Cx} {o e value:ÿ} {f:Str} {pos pos' lI:Pos} {ta tv:TE}
def IA (he:PE X e ta) (hb:Ĥ e f X.env (Ĕ e X.env)=Ĕ e X.env):PE X (.Attribute e f pos) (LB X.K ta f):=by
 intro Z s σ H Q I h;refine zz hb (aM (he Z s σ H _ I h) fun u R ⟨x,Y,W,V,a,C,P,fs,v,ex,U,c,n,l,q⟩=>?_);subst ex;obtain rfl:u=ý a:=V;exact Et W U c n l fun O N T S=>⟨v,Y,T,S,q⟩
def IC (ha:PE X o ta) (hv:PE X value tv) (hs:swapsWith value (some (.Attribute o f pos')) pos.line X.env=pure false):PS X (.Assign [.Attribute o f pos'] value pos) (LC X.K ta tv f):=by
 intro Z s σ H D I h;refine plainObj_wpAny_Assign_Attribute (aM (hv Z s σ H _ I h) fun u Y ⟨y,W,V,U,q⟩=>aM (ha Z Y σ W _ V q) fun T N ⟨x,M,S,R,a,C,L,fs,ex,Q,c,n,l,P⟩=>?_) hs;subst ex;obtain rfl:T=ý a:=R;exact Eu S Q c n l U fun J O=>⟨σ,_,O,P⟩
end
section
variable {X:Cx} {π:List (Ì×Obj)} {σ:St} {H:Hp} {s:Á} {A:Ù} {E:Â->Á->Prop} {Q:Â->Á->Prop} {c:Â} {b:Bool}
inductive il (K:ô) (H:Hp):V->Â->Prop where
 |au:il K H .au (.type "NoneType")
 |bl (x:Bool):il K H (.bl x) (.type "bool")
 |int (i:Int):il K H (.int i) (.type "int")
 |str (x:Str):il K H (.str x) (.type "str")
 |nr (x:UInt64):il K H (.nr x) (.type "float")
 |lst {a:Ì} {xs:List V} (e:H a=some (.lst xs)):il K H (.ref a) (.type "list")
 |aO {a:Ì} {o:Obj} {xs:List V} (e:H a=some (.aO o (.lst xs))):il K H (.ref a) (.type "list")
 |tup {a:Ì} {xs:List V} (e:H a=some (.tup xs)):il K H (.ref a) (.type "tuple")
 |dK {a:Ì} {aE:List (Key×V)} (e:H a=some (.dK aE)):il K H (.ref a) (.type "dict")
 |dT {a:Ì} {aE:List (List Key×V)} (e:H a=some (.dT aE)):il K H (.ref a) (.type "dict")
 |ins {a C dx:Ì} {fs:List (Str×V)} (e:H a=some (.ins C dx fs)) (cl:gu K C) (ha:Ċ K (.ref C) "__class__"=some (some (.builtin "object.__class__")))
   (hn:PySem.W.specialIn K (.builtin "object.__class__") "__get__"=some (some (.builtin "getset_descriptor.__get__"))) (OZ:PySem.W.takesIn K (.builtin "object.__class__")=some true)
   (hm:PySem.W.mroIn K C (.type "object")=some true):il K H (.ref a) (.ref C)
end
structure aY (k:Nat) (A:Ù):Prop where
 hd:A.handled=none
 dp:A.depth+3*k+5<ű
 un:A.units+16*k+200<cLine
 gd:A.guards=some []
def aY.mono (r:aY k A) (h:j<=k):aY j A:=⟨r.hd,by have:=r.dp;omega,by have:=r.un;omega,r.gd⟩
theorem aY.deeper (r:aY (k+1) A) (env:Env):aY k (A.deeper env) :=
 ⟨r.hd,by have:=r.dp;show A.depth+1+3*k+5 < _;omega,by have:=r.un;show A.units+3+16*k+200 < _;omega,r.gd⟩
def yE {A:Ù} {C:Ì} {us:List Â} {kw:List (Str×Â)}:(A.under (.builtin "type.__call__" ⟨.ref C::us,kw⟩)).depth=A.depth+1:=by
 first|rfl|simp [Around.under,Code.weight,Code.isCreation,Code.isGuard,Code.isCaller,Code.frames,Code.isFrame,guardIds]
def Ew {A:Ù} {C:Ì} {us:List Â} {kw:List (Str×Â)}:(A.under (.builtin "type.__call__" ⟨.ref C::us,kw⟩)).units=A.units+1:=by
 first|rfl|simp [Around.under,Code.cUnits,Code.frames,Code.isFrame]
def aY.make (r:aY (k+1) A) (C:Ì) (us:List Â) (kw:List (Str×Â)):aY k (A.under (.builtin "type.__call__" ⟨.ref C::us,kw⟩)) :=
 ⟨r.hd,by have:=r.dp;rw [yE];omega,by have:=r.un;rw [Ew];omega,by first|exact r.gd | (simp [Around.under,Code.isGuard,guardIds];exact r.gd)⟩
theorem aY.depth (r:aY k A):A.depth<ű:=by have:=r.dp;omega
def vX:TA:=fun _ H Q=>Q [] H
def J6 (ta:TE) (tr:TA):TA:=fun σ H Q=>ta σ H fun x Z=>tr σ Z fun Y X=>Q (x::Y) X
section
variable {X:Cx} {e:ÿ} {es:List ÿ} {te:TE} {t:TA} {pos:Pos}
def kW:PA X [] vX:=fun _ _ _ _ H Q I h=>Calls.spliced_nil ⟨[],H,I,.nil,h⟩
def iM (ha:PE X e te) (hr:PA X es t) (hs:Ä (e::es) X.env=(false,Ĕ e X.env)::Ä es X.env:=by rfl):PA X (e::es) (J6 te t):=by
 intro pos Z s σ H Q I h;rw [hs];show Ö _ _ (spliced ((false,Ĕ e X.env)::Ĉ pos (Ä es X.env))) _ _ s;refine ŝ (aM (ha Z s σ H _ I h) fun u Y ⟨x,W,V,U,T⟩=>?_);exact aM (hr pos Z Y σ W _ V T) fun M L ⟨S,R,P,O,N⟩=>⟨x::S,R,P,.cons U O,N⟩
def LD (t:TA):TE:=fun σ H Q=>t σ H fun Z Y=>Z.length<=Ô/\∀p,Y p=none->Q (.ref p) (upd Y p (.tup Z))
def LG (t:TA):TE:=fun σ H Q=>t σ H fun Z Y=>Z.length<=Ô/\∀p,Y p=none->Q (.ref p) (upd Y p (.lst Z))
def ID {x1} (h:PA X es t):PE X (.Tuple es x1 pos) (LD t):=by
 intro V s σ H Q I U;refine wpAny_Tuple_spliced (aM (h pos V s σ H _ I U) fun T Z ⟨S,Y,W,r,z,q⟩=>⟨by rw [<- r.length];exact z,?_⟩);have R:Y Z.heap.objs.size=none:=W.aA.fresh (PJ _);refine ⟨.ref Z.heap.objs.size,upd Y Z.heap.objs.size (.tup S),W.laid (t':=Z.toks) (fun b u e=>Ã _ e) (PJ _) ?_,rfl,q _ R⟩;exact ⟨z,T,r,⟨_,Ï _ rfl,rfl,_,rfl⟩⟩
def Al (h:PA X es t):PE X (.List es pos) (LG t):=by
 intro V s σ H Q I U;refine wpAny_List_spliced (aM (h pos V s σ H _ I U) fun T Z ⟨S,Y,W,r,z,q⟩=>⟨by rw [<- r.length];exact z,?_⟩);have R:Y Z.heap.objs.size=none:=W.aA.fresh (PJ _);refine ⟨.ref Z.heap.objs.size,upd Y Z.heap.objs.size (.lst S),W.laid (t':=Z.toks) (fun b u e=>Ã _ e) (PJ _) ?_,rfl,q _ R⟩;exact ⟨z,T,0,r,Ï _ rfl⟩
end
abbrev Sp:=List V->Hp->VK->XK->Prop
abbrev gv:=List Env->Hp->Á->XK->Â->Á->Prop
structure jo (P:Ó) (w:î) (K:ô) (mg:Str->Option Â) (base:Ă) (A:Ù) (outer:List Env) (s:Á) (H:Hp):Prop where
 frames:A.frames=some outer
 mod:Mod K mg base
 bs:∀b o,base.get? b=some o->s.heap.get? b=some o/\H b=none
 gp:base.objs.size<=s.heap.objs.size
 fq:s.heap.FunFrames base outer
 gZ:∀b∈bp outer,H b=none
 aA:bL P w H s.heap
 bare:Pw s.gens
def CE (outer:List Env) (P:Ó) (w:î) (H:Hp) (s:Á) (Q:VK) (u:Â) (s':Á):Prop :=
 ∃v Z,s'.os=s.os/\Pw s'.gens/\Un (bp outer) [] H Z s.heap s'.heap/\bL P w Z s'.heap/\RelV v u/\Q v Z
def CR (CX:gv) (outer:List Env) (P:Ó) (w:î) (H:Hp) (s:Á) (Q:VK) (E:XK) (r:Result) (s':Á):Prop :=
 match r with
 | .ok (.ret u)=>CE outer P w H s Q u s'
 | .ok _=>False
 | .error e=>CX outer H s E e s'
structure bK (P:Ó) (w:î) (K:ô) (mg:Str->Option Â) (base:Ă) (CX:gv) (k:Nat) (f:Ì) (fd:ú) (ps:List Str) (sp:Sp):Prop where
 len:∀vs H Q E,sp vs H Q E->vs.length=ps.length
 run:∀(A:Ù) (outer:List Env) (s:Á) (H:Hp) (args:Args) (us:List Â) (vs:List V) (Q:VK) (E:XK),aY k A->jo P w K mg base A outer s H->BindsTo s fd args (ps.zip us)->Vals vs us->sp vs H Q E ->
  Ū (Ø P w) A (.call (.ref f) args) (CR CX outer P w H s Q E) s
def bK.imp {P:Ó} {w:î} {K:ô} {mg:Str->Option Â} {base:Ă} {CX:gv} {k:Nat} {f:Ì} {fd:ú} {ps:List Str} {sp Cz:Sp} (F:bK P w K mg base CX k f fd ps sp)
  (h:∀vs H Q E,Cz vs H Q E->sp vs H Q E):bK P w K mg base CX k f fd ps Cz :=
 ⟨fun vs H Q E q=>F.len vs H Q E (h _ _ _ _ q),fun A outer s H args Z vs Q E Y X W V hs=>F.run A outer s H args Z vs Q E Y X W V (h _ _ _ _ hs)⟩
def jo.make {P:Ó} {w:î} {K:ô} {mg:Str->Option Â} {base:Ă} {A:Ù} {outer:List Env} {s:Á} {H:Hp} (e:jo P w K mg base A outer s H) (C:Ì) (us:List Â) (kw:List (Str×Â)) :
  jo P w K mg base (A.under (.builtin "type.__call__" ⟨.ref C::us,kw⟩)) outer s H:=⟨by first|exact e.frames | (simpa [Around.under,Code.envs,Code.isFrame,pushEnvs] using e.frames),e.mod,e.bs,e.gp,e.fq,e.gZ,e.aA,e.bare⟩
section
variable {X:Cx} {π:List (Ì×Obj)} {σ:St} {H:Hp} {s s':Á}
def Inv.kf (I:Inv X π σ H s):jo X.prog X.w X.K X.mg X.base X.A X.stack s H :=
 ⟨I.ok.frames,I.ok.mod,I.bs,ç I.ok.gp I.sz,I.stack,I.nU,I.aA,I.bare⟩
def Inv.after (I:Inv X π σ H s) (h:CE X.stack X.prog X.w H s Q u s'):EP X π σ Q u s':=by
 obtain ⟨v,Z,os,bare,un,Y,r,q⟩:=h;obtain ⟨W,g,d,t,V⟩:=s';obtain rfl:V=s.os:=os;exact ⟨v,Z,I.call (h':=W) (g':=g) (d':=d) (t':=t) (ch:=[]) un Y bare (fun b z=>absurd z (by simp)),r,q⟩
end
def Be (sp:Sp) (aq:List V) (E:XK) (t:TA):TE:=fun σ H Q=>t σ H fun Z Y=>sp (Z++aq) Y Q E
def qW (C:Ì) (m:Str) (sp:Sp) (aq:List V) (E:XK) (ta:TE) (t:TA):TE:=fun σ H Q=>ta σ H fun x Z=>∃a Y fs,x=.ref a/\Z a=some (.ins C Y fs)/\fs.lookup m=none /\
 t σ Z fun X W=>sp (x::(X++aq)) W Q E
def J8 (C:Ì) (sp:Sp) (aq:List V) (E:XK) (t:TA):TE:=fun σ H Q=>t σ H fun X Y=>∀x Z,Y x=none->Y Z=none->Z≠x ->
 sp (.ref x::(X++aq)) (upd (upd Y Z (.own x)) x (.ins C Z [])) (fun v W=>v=.au/\Q (.ref x) W) E
def Binds (K:ô) (fd:ú) (ps:List Str) (ds:List Â):Prop :=
 ∀(s:Á) (Z:List Â),K.In s.heap->(Z++ds).length=ps.length->BindsTo s fd ⟨Z,[]⟩ (ps.zip (Z++ds))
def Binds.all {K:ô} {fd:ú} {ps:List Str} (h:∀us:List Â,us.length=ps.length->bindArgs fd ⟨us,[]⟩=pure (ps.zip us)):Binds K fd ps []:=fun s us _ Z=>by
 rw [Č] at Z |-;exact .of_eq (h us Z)
def Passes (CX:gv) (X:Cx) (E:XK):Prop:=∀(Y:List (Ì×Obj)) (σ:St) (H:Hp) (s:Á) (e:Â) (Z:Á),Inv X Y σ H s->CX X.stack H s E e Z->X.xe e Z
section
variable {X:Cx} {CX:gv} {k:Nat} {f C:Ì} {fd:ú} {ps:List Str} {sp:Sp} {aq:List V} {ds:List Â} {E:XK} {x m:Str} {p pos apos:Pos} {e o:ÿ} {es:List ÿ} {ta:TE} {t:TA}
def uH {π:List (Ì×Obj)} {σ:St} {H:Hp} {s:Á} {Q:VK} {us:List Â} {vs:List V} (F:bK X.prog X.w X.K X.mg X.base CX k f fd ps sp) (hr:aY k X.A) (hb:Binds X.K fd ps ds) (hd:Vals aq ds) (hx:Passes CX X E)
  (I:Inv X π σ H s) (r:Vals vs us) (h:sp (vs++aq) H Q E):Ö (Ø X.prog X.w) X.A (call (.ref f) us) (EP X π σ Q) X.xe s:=by
 have Y:Vals (vs++aq) (us++ds):=r.append hd;have W:(us++ds).length=ps.length:=by rw [<- Y.length];exact F.len _ _ _ _ h
 refine Ĵ (Ŕ (F.run X.A X.stack s H ⟨us,[]⟩ (us++ds) (vs++aq) Q E hr I.kf (hb s us I.cH W) Y h) fun r U Z=>?_)
 cases r with
 |error e=>exact hx π σ H s e U I Z
 |ok T =>
  cases T with
  |ret u=>exact I.after Z
  |next=>exact ñ Z
  |brk=>exact ñ Z
  |cont=>exact ñ Z
def zA (F:bK X.prog X.w X.K X.mg X.base CX k f fd ps sp) (hr:aY k X.A) (hg:Gl X x) (hm:X.mg x=some (.ref f)) (hk:ĕ X.K (.ref f)=true) (hb:Binds X.K fd ps ds) (hd:Vals aq ds) (hx:Passes CX X E)
  (ha:PA X (e::es) t) (cN:(x==("__debug__":Str))=false:=by decide) (he:Ä (e::es) X.env=(false,Ĕ e X.env)::Ä es X.env:=by rfl) (bP:(Ĉ pos (Ä es X.env)).any (·.1)=false:=by rfl) :
  PE X (.Call (.Name x p) (e::es) [] pos) (Be sp aq E t):=by
 intro Y s σ H Q I h;refine ķ (jP I hg hm ?_ cN);refine Ş (h₀:=X.base) I.ok.mod.gn hk (aM (ha pos Y s σ H _ I h) fun W V ⟨U,T,Z,r,q⟩=>⟨Z.cH,?_⟩) he bP;exact uH F hr hb hd hx Z r q
def zB {pl:Sem Bool} (he:PE X o ta) (c:gu X.K C) (hm:Meth X.K C m f) (F:bK X.prog X.w X.K X.mg X.base CX k f fd ps sp) (hr:aY k X.A) (hb:Binds X.K fd ps ds) (hd:Vals aq ds) (hx:Passes CX X E) (ha:PA X (e::es) t)
  (jC:Ä (e::es) X.env=(false,Ĕ e X.env)::Ä es X.env:=by rfl) (bP:(Ĉ pos (Ä es X.env)).any (·.1)=false:=by rfl)
  (ht:Ĕ (.Call (.Attribute o m apos) (e::es) [] pos) X.env=(do
   let ov <- Ĕ o X.env
   standAt apos.atName
   let (f,first) <- Ũ [ov] (Pu ov m pl)
   callWith pos f first (Ĉ pos (Ä (e::es) X.env)) (ž pos (ĭ [] X.env))):=by rfl) :
  PE X (.Call (.Attribute o m apos) (e::es) [] pos) (qW C m sp aq E ta t):=by
 intro Z s σ H Q I h;refine PySem.W.methodCall_KW (pl:=pl) (aM (he Z s σ H _ I h) fun u U ⟨x,T,Y,S,a,O,fs,ex,R,l,q⟩=>?_) ht;subst ex;obtain rfl:u=ý a:=S;refine yD Y R c hm l ?_
 refine Ş (first:=[.ref a]) (h₀:=X.base) I.ok.mod.gn hm.kp (aM (ha pos Z U σ T _ Y q) fun us N ⟨vs,M,V,r,P⟩=>⟨V.cH,?_⟩) jC bP
 exact uH (us:=.ref a::us) (vs:=.ref a::vs) F hr hb hd hx V (.cons rfl r) P
def F1 (he:PE X o ta) (c:gu X.K C) (hm:Meth X.K C m f) (F:bK X.prog X.w X.K X.mg X.base CX k f fd ps sp) (hr:aY k X.A) (hb:Binds X.K fd ps ds) (hd:Vals aq ds) (hx:Passes CX X E)
 (ht:Ĕ (.Call (.Attribute o m apos) [] [] pos) X.env=(do
   let ov <- Ĕ o X.env
   standAt apos.atName
   let (f,first) <- Ũ [ov] (Pu ov m pl)
   callWith pos f first (Ĉ pos (Ä [] X.env)) (ž pos (ĭ [] X.env))):=by rfl) :
  PE X (.Call (.Attribute o m apos) [] [] pos) (qW C m sp aq E ta vX):=by
 intro Y s σ H Q I h;refine PySem.W.methodCall_KW (pl:=pl) (aM (he Y s σ H _ I h) fun u T ⟨x,S,Z,V,a,R,fs,ex,U,l,q⟩=>?_) ht;subst ex;obtain rfl:u=ý a:=V;refine yD Z U c hm l ?_
 exact PySem.W.callWith_K0 (first:=[.ref a]) Z.cH hm.kp (uH (us:=[.ref a]) (vs:=[.ref a]) F hr hb hd hx Z (.cons rfl .nil) q)
structure Mk (K:ô) (C f:Ì):Prop where
 makes:PySem.W.makesIn K C=true
 init:Ċ K (.ref C) "__init__"=some (some (.ref f))
 fn:PySem.W.isFn K (.ref f)=true
 kp:ĕ K (.ref C)=true
def F2 {π:List (Ì×Obj)} {σ:St} {H:Hp} {s:Á} {Q:VK} {us:List Â} {vs:List V} (M:Mk X.K C f) (F:bK X.prog X.w X.K X.mg X.base CX k f fd ps sp) (hr:aY (k+1) X.A) (hb:Binds X.K fd ps ds) (hd:Vals aq ds)
  (hx:Passes CX X E) (I:Inv X π σ H s) (r:Vals vs us)
  (h:∀x dx,H x=none->H dx=none->dx≠x->sp (.ref x::(vs++aq)) (upd (upd H dx (.own x)) x (.ins C dx [])) (fun v H2=>v=.au/\Q (.ref x) H2) E) :
  Ö (Ø X.prog X.w) X.A (call (.ref C) us) (EP X π σ Q) X.xe s:=by
 have W:=h (s.heap.objs.size+1) s.heap.objs.size (I.aA.fresh (Nat.le_succ _)) (I.aA.fresh (PJ _)) (â (Nat.lt_succ_self _));have Y:=Inv.made (C:=C) I;have U:Vals (V.ref (s.heap.objs.size+1)::(vs++aq)) (ý (s.heap.objs.size+1)::(us++ds)):=.cons rfl (r.append hd);have T:(ý (s.heap.objs.size+1)::us++ds).length=ps.length:=by
  have e:=U.length;rw [F.len _ _ _ _ W] at e;exact e.symm
 refine Ĵ (F0 (f:=f) I.cH M.makes M.init (beq_iff_eq.mp M.fn) (Ŕ (F.run _ X.stack _ _ ⟨ý (s.heap.objs.size+1)::us,[]⟩ (ý (s.heap.objs.size+1)::(us++ds)) _ _ E (hr.make C us [])
  (Y.kf.make C us []) (hb _ (ý (s.heap.objs.size+1)::us) Y.cH T) U W) fun r S Z=>?_))
 cases r with
 |error e=>exact hx π σ _ _ e S Y Z
 |ok R =>
  cases R with
  |ret u =>
   obtain ⟨v,P,O,N,ev,L⟩:=Y.after Z;subst ev;exact ⟨N,⟨V.ref (s.heap.objs.size+1),P,O,rfl,L⟩⟩
  |next=>exact ñ Z
  |brk=>exact ñ Z
  |cont=>exact ñ Z
def F5 (M:Mk X.K C f) (F:bK X.prog X.w X.K X.mg X.base CX k f fd ps sp) (hr:aY (k+1) X.A) (hg:Gl X x) (hm:X.mg x=some (.ref C)) (hb:Binds X.K fd ps ds) (hd:Vals aq ds) (hx:Passes CX X E)
  (cN:(x==("__debug__":Str))=false:=by decide):PE X (.Call (.Name x p) [] [] pos) (J8 C sp aq E vX):=by
 intro Z s σ H Q I h;refine ķ (jP I hg hm ?_ cN);exact PySem.W.callWith_K0 I.cH M.kp (F2 (us:=[]) M F hr hb hd hx I .nil h)
end
section
variable {X:Cx} {CX:gv} {k:Nat} {f C:Ì} {fd:ú} {ps ks:List Str} {sp:Sp} {E:XK} {x m:Str} {p pos apos LH:Pos} {e o:ÿ} {es:List ÿ} {O0:List Po} {te ta:TE} {t tk:TA} {nm:Option Str}
structure ON (K:ô) (fd:ú) (ps ks:List Str) (g:List Â->List Â->List Â) (gV:List V->List V->List V):Prop where
 to:∀(s:Á) (us ws:List Â),K.In s.heap->(g us ws).length=ps.length->BindsTo s fd ⟨us,ks.zip ws⟩ (ps.zip (g us ws))
 rel:∀{vs:List V} {us:List Â} {zs:List V} {ws:List Â},Vals vs us->Vals zs ws->Vals (gV vs zs) (g us ws)
variable {g:List Â->List Â->List Â} {gV:List V->List V->List V}
end
structure je (N P:List Str) (sc:Ń):Prop where
 kind:sc.kind=.function
 co:sc.isCoroutine=false
 gen:sc.isGenerator=false
 nd:N.Nodup
 pre:N.take P.length=P
 par:∀x∈P,sc.names.lookup x=some .local\/sc.names.lookup x=some .cell
 IE:∀y∈sc.names,y.2≠.free
theorem yO {kindOf:Str->Option Į} {x:Str}:∀{binds:List (Str×Â)} {m:Str->Option Â},(∀v,(x,v)∉binds)->bindL kindOf binds m x=m x
 | [],_,_=>rfl
 |(n,v)::r,m,h=>by
  unfold bindL;rw [yO fun w hw=>h w (Ð _ hw)];split
  ·have:x≠n:=by rintro rfl;exact h v ä
   simp [this]
  ·rfl
theorem yP {kindOf:Str->Option Į} {x:Str}:∀{binds:List (Str×Â)} {m:Str->Option Â},(∀v,(x,v)∉binds)->bindC kindOf binds m x=m x
 | [],_,_=>rfl
 |(n,v)::r,m,h=>by
  unfold bindC;rw [yP fun w hw=>h w (Ð _ hw)];split
  ·rfl
  ·have:x≠n:=by rintro rfl;exact h v ä
   simp [this]
theorem pR {kindOf:Str->Option Į} {x:Str} {v:Â}:∀{P:List Str} {vs:List Â} {i:Nat} {m:Str->Option Â},P.Nodup->P[i]?=some x->vs[i]?=some v->kindOf x=some .local ->
  bindL kindOf (P.zip vs) m x=some v
 | [],_,_,_,_,h,_,_=>by simp at h
 |_::_,[],_,_,_,_,h,_=>by simp at h
 |p::P,w::vs,0,m,X,Z,Y,W=>by
  simp at Z Y;subst Z;subst Y;show bindL kindOf ((p,w)::P.zip vs) m p=_;unfold bindL;rw [yO fun v V=>(ν.mp X).1 (ş V).1,ã W];simp
 |p::P,w::vs,i+1,m,X,Z,Y,W=>by
  show bindL kindOf ((p,w)::P.zip vs) m x=_;unfold bindL;exact pR (i:=i) (ν.mp X).2 (by simpa using Z) (by simpa using Y) W
theorem yQ {kindOf:Str->Option Į} {x:Str} {v:Â}:∀{P:List Str} {vs:List Â} {i:Nat} {m:Str->Option Â},P.Nodup->P[i]?=some x->vs[i]?=some v->kindOf x≠some .local ->
  bindC kindOf (P.zip vs) m x=some v
 | [],_,_,_,_,h,_,_=>by simp at h
 |_::_,[],_,_,_,_,h,_=>by simp at h
 |p::P,w::vs,0,m,X,Z,Y,W=>by
  simp at Z Y;subst Z;subst Y;show bindC kindOf ((p,w)::P.zip vs) m p=_;unfold bindC;rw [yP fun v V=>(ν.mp X).1 (ş V).1,ë W];simp
 |p::P,w::vs,i+1,m,X,Z,Y,W=>by
  show bindC kindOf ((p,w)::P.zip vs) m x=_;unfold bindC;exact yQ (i:=i) (ν.mp X).2 (by simpa using Z) (by simpa using Y) W
def start (N:List Str) (vs:List V):St:=vs.map some++Ê (N.length-vs.length) none
def ef (CX:gv) (P:Ó) (w:î) (K:ô) (mg:Str->Option Â) (base:Ă) (N:List Str) (qual:Str) (scope:Ń) (f:Ì) (cd:Â) (A:Ù) (outer:List Env) (s:Á) (H:Hp) (E:XK):Cx where
 prog:=P
 w:=w
 K:=K
 mg:=mg
 base:=base
 A:=A.deeper (Pz qual scope s.heap.objs.size f cd)
 N:=N
 bV:=s
 iT:=H
 env:=Pz qual scope s.heap.objs.size f cd
 outer:=outer
 stack:=Pz qual scope s.heap.objs.size f cd::outer
 ex:=[]
 calm:=true
 fn:=fun _=>true
 pn:=[]
 xe:=fun e Y=>Ö (Ø P w) (A.deeper (Pz qual scope s.heap.objs.size f cd)) (leaving (Pz qual scope s.heap.objs.size f cd) e) (fun _ Z=>CX outer H s E e Z) (fun X Z=>CX outer H s E X Z) Y
def yZ {sc:Ń} {n:Nat} {x:Str} (h:sc.names.lookup x=some .cell):∃c,(Ň n sc.names []).lookup x=some c:=by
 have q:=ĵ sc.names n [] (.inl h);exact ŕ.mp q
def yR {CX:gv} {P:Ó} {w:î} {K:ô} {mg:Str->Option Â} {base:Ă} {N ps:List Str} {qual:Str} {scope:Ń} {f:Ì} {cd:Â} {A:Ù} {outer:List Env} {s s1:Á} {H:Hp} {E:XK} {us:List Â} {vs:List V}
  (S:je N ps scope) (hd:A.handled=none) (e0:jo P w K mg base A outer s H) (hl:vs.length=ps.length) (r:Vals vs us)
  (x:InCallC s s.heap.objs.size (bindL (Pz qual scope s.heap.objs.size f cd).kindOf (ps.zip us) fun _=>none) (Ň (s.heap.objs.size+1) scope.names []) (bindC (Pz qual scope s.heap.objs.size f cd).kindOf (ps.zip us) fun _=>none) s1) :
  Inv (ef CX P w K mg base N qual scope f cd A outer s H E) [] (start N vs) H s1:=by
 have M:ps.length<=N.length:=by have:=Ĩ List.length S.pre;rw [List.length_take] at this;omega
 obtain ⟨X,L,rfl,U⟩:=x.done;have W:∀b:Ì,b∉(ef CX P w K mg base N qual scope f cd A outer s H E).ex:=fun b z=>absurd (show b∈([]:List Ì) from z) (by simp);refine ⟨⟨e0.mod,S.kind,rfl,rfl,PJ _,fun y z c X Z=>?_,fun y hy=>?_,fun y c _ h=>?_,fun _=>hd,Around.frames_deeper e0.frames,.inr ⟨rfl,rfl⟩,fun b z=>absurd z (W b),e0.bs,e0.gp,fun b _ _=>W b,fun b z=>absurd z (W b),e0.fq,e0.gZ⟩,
  rfl,e0.bare,Un.kept U,⟨_,x.toInCall.ns,fun i y v X Z J=>?_⟩,fun y c h=>⟨_,x.cell y c h⟩,e0.aA.fresh (PJ _),fun y c h=>?_,fun p Y=>absurd (show p∈([]:List (Ì×Obj)) from Y) (by simp),e0.aA.kept U,?_⟩
 ·exact name_of_addr x.apart (ą X) (ą Z)
 ·have hy:scope.names.lookup y=some .cell\/scope.names.lookup y=some .free:=hy
  rcases hy with hy|hy
  ·exact yZ hy
  ·exact absurd rfl (S.IE _ (ą hy))
 ·exact Nat.le_of_lt (x.above y c (ą h))
 ·have hi:i<vs.length:=by
   unfold start at Z;by_cases hi:i<vs.length
   ·exact hi
   ·rw [à (by simpa using hi)] at Z
    rw [ě] at Z
    split at Z<;>cases Z
  have Q:vs[i]?=some v:=by
   unfold start at Z;rw [Ñ (by simpa using hi),û] at Z
   cases e:vs[i]? with
   |none=>rw [e] at Z;cases Z
   |some a=>rw [e] at Z;cases Z;rfl
  obtain ⟨u,T,O⟩:=r.get Q;have Y:ps[i]?=some y:=by
   rw [<- S.pre,List.getElem?_take_of_lt (by omega)];exact X
  have R:ps.Nodup:=by rw [<- S.pre];exact S.nd.sublist (List.take_sublist _ _)
  refine ⟨u,O,?_⟩
  rcases S.par y (ď Y) with k|k
  ·exact .inl ⟨k,pR R Y T k⟩
  ·obtain ⟨c,e⟩:=yZ (n:=s.heap.objs.size+1) k
   refine .inr ⟨.inl k,c,e,?_⟩;have q:=x.cell y c e;rw [yQ R Y T (by show scope.names.lookup y≠_;rw [k];decide)] at q;exact q
 ·exact e0.aA.fresh (Nat.le_of_lt (x.above y c (ą h)))
 ·unfold start
  show _=N.length;rw [č,ß,ų];omega
def qX {CX:gv} {P:Ó} {w:î} {K:ô} {mg:Str->Option Â} {base:Ă} {k:Nat} {f:Ì} {name qual:Str} {params:Š} {body:List ŷ} {scope:Ń} {dV kV doc pm aD ct oc:Â} {an od:Option Ì}
  {cO:Array (Option Â)} {N ps:List Str} {sp:Sp} (lk:K.lookup f=some ⟨oc,od,.func (Ĝ name qual params body scope dV kV doc pm an aD ct),cO⟩) (bJ:ň K aD qual=true) (S:je N ps scope)
  (len:∀vs H Q E,sp vs H Q E->vs.length=ps.length)
  (ij:∀(A:Ù) (outer:List Env) (s:Á) (H:Hp) (vs:List V) (Q:VK) (E:XK),aY k (A.deeper (Pz qual scope s.heap.objs.size f aD))->sp vs H Q E ->
   ∃t,bX (ef CX P w K mg base N qual scope f aD A outer s H E) body t/\t { nx:=fun _ H'=>Q .au H',rt:=Q } (start N vs) H) :
  bK P w K mg base CX (k+1) f (Ĝ name qual params body scope dV kV doc pm an aD ct) ps sp:=by
 refine ⟨len,fun A outer s H args L vs Q E X Z G r R=>?_⟩;have F:=len _ _ _ _ R;have O:K.In s.heap:=Z.mod.gn.keeps fun b o e=>(Z.bs b o e).1;have lim:s.heap.NoLimit:=Z.mod.nolimit.keeps fun b o e=>(Z.bs b o e).1;have D:∀y∈ps.zip L,scope.names.lookup y.1=some .local\/(scope.names.lookup y.1=some .cell/\((Ň (s.heap.objs.size+1) scope.names []).lookup y.1).isSome=true):=fun ⟨n,v⟩ C=>by
  rcases S.par n (ş C).1 with q|q
  ·exact .inl q
  ·exact .inr ⟨q,ĵ _ _ _ (.inl q)⟩
 refine Ŵ X.depth (O _ _ lk) rfl S.co S.gen rfl (PySem.W.codeRec_of O bJ) (G _ _ _ _ ?_);refine ł S.kind D fun env B M x=>?_;subst B;refine ⟨lim.keeps x.toInCall.keep,codeAny_func ?_⟩;obtain ⟨t,z,p⟩:=ij A outer s H vs Q E (X.deeper _) R;have I:Inv (ef CX P w K mg base N qual scope f aD A outer s H E) [] (start N vs) H M:=yR S X.hd Z F r x;refine ü (z [] M (start N vs) H _ I p) (fun m U hs=>?_) fun e U hs=>hs;have fin:∀{Y:St} {H':Hp} {v:V} {u:Â},Inv (ef CX P w K mg base N qual scope f aD A outer s H E) [] Y H' U->RelV v u->Q v H'->CE outer P w H s Q u U :=
  fun {Y H' v u} J T q=>⟨v,H',J.os,J.bare,J.base,J.aA,T,q⟩
 cases m with
 |ret u =>
  obtain ⟨v,Y,H',J,T,q⟩:=hs;exact fin J T q
 |next =>
  obtain ⟨Y,H',J,q⟩:=hs;exact fin (v:=V.au) (u:=Value.none) J rfl q
 |brk =>
  obtain ⟨_,_,_,q⟩:=hs;exact ñ q
 |cont =>
  obtain ⟨_,_,_,q⟩:=hs;exact ñ q
section
variable {X:Cx} {x:Str} {p pos:Pos} {e:ÿ} {es:List ÿ} {t:TA} {id T:String} {r:List V->Hp->VK->Prop}
def CB (r:List V->Hp->VK->Prop) (t:TA):TE:=fun σ H Q=>t σ H fun Z Y=>r Z Y Q
def tP (hc:dB X (.builtin id) r) (hg:Gl X x) (hm:X.mg x=none) (hv:õ x=some (.builtin id)) (ha:PA X (e::es) t) (hn:x≠"__name__":=by decide) (cN:(x==("__debug__":Str))=false:=by decide)
  (he:Ä (e::es) X.env=(false,Ĕ e X.env)::Ä es X.env:=by rfl) (bP:(Ĉ pos (Ä es X.env)).any (·.1)=false:=by rfl):PE X (.Call (.Name x p) (e::es) [] pos) (CB r t):=by
 intro Z s σ H Q I h;refine ķ (qA I hg hm hv ?_ hn cN);exact PyProof.Rows.callWith_builtin1 (aM (ha pos Z s σ H _ I h) fun Y W ⟨V,U,T,S,R⟩=>hc Z W σ U V Y Q T S R) he bP
end
end L2
namespace HT
open PySem PyProof.Rows
def y6 (A:Ù) (s:Á) (a:Int) (t:Tok) (c:Int) (u:Tok) (prog:Ó) (w:î) (E:Â->Á->Prop) (Q:Â->Á->Prop) (h:Q (.bool (decide (a<c))) s) :
  Ö (Ø prog w) A (richCompare .Lt (.int a t) (.int c u)) Q E s :=
 (PyProof.Rows.lt_int h:Ö (Ø prog w) A (ă .Lt (.int a t) (.int c u)) Q E s)
section
open PySem.SeqAt
open PySem.AutoSeq1 (wpAny_loadPart')
open PySem.MeetsSeq PySem.MeetsSeq2 PySem.MeetsSeq3
end
section
variable {prog:Ó} {w:î} {A:Ù} {E:Â->Á->Prop} {s:Á}
def Hd (ht:IsTup s.heap t vs.toArray) (hb:IsTup s.heap b ws.toArray) (hv:vs≠[])
 (h1:ws=[]->Q (.ref t) s) (h2:ws≠[]->Q (.ref s.heap.objs.size) { s with heap:=s.heap.push { cls:=.type "tuple",data:=.seq (vs++ws).toArray } })
 (hsz:vs.length+ws.length<=Ô):Ö (Ø prog w) A (Ē .Add (.ref t) (.ref b)) Q E s:=by
 obtain ⟨⟨cls,X,data,W⟩,Z,V,n,U⟩:=id ht;obtain ⟨⟨O,T,data2,S⟩,Y,R,P,hd2⟩:=id hb;simp only at V U R hd2;subst V U R hd2;have e:vs.toArray++ws.toArray=(vs++ws).toArray:=by simp
 by_cases hw:ws=[]
 ·exact concat_meets ⟨_,Z,rfl⟩ ⟨_,Y,rfl⟩ noFill_tuple_add seq_tuple_add ť š (Ŗ _ _)
   (tuple_addW1 t b vs.toArray ws.toArray n P X T W S (by simpa using hv) (by simp [hw])) ⟨Z,Y,h1 hw⟩
 ·refine concat_meets ⟨_,Z,rfl⟩ ⟨_,Y,rfl⟩ noFill_tuple_add seq_tuple_add ť š (Ŗ _ _)
   (tuple_addW2 t b vs.toArray ws.toArray n P X T W S (by simpa using hv) (by simpa using hw) (by rw [Û,Û];exact hsz)) ⟨Z,Y,?_⟩
  rw [e];exact h2 hw
noncomputable def wW (n d:Nat):Option Int->Nat
 |none=>d
 |some v=>if v<0 then (v+(n:Int)).toNat else min v.toNat n
end
end HT
namespace L2
open PySem PySem.Spec PyProof.Rows
abbrev TO:=St->Hp->(Option Int->Hp->Prop)->Prop
section
variable {X:Cx} {e:ÿ} {te:TE} {lo hi:Option ÿ} {tl th:TO} {pos p2:Pos}
def Ka (K:ô):R2:=fun x y H Q=>∃a b Y Z,x=.ref a/\y=.ref b/\bh K H a Y/\bh K H b Z/\Y≠[]/\Y.length+Z.length<=Ô /\
 (Z=[]->Q (.ref a) H)/\(Z≠[]->∀p,H p=none->Q (.ref p) (upd H p (.tup (Y++Z))))
def Vals.um (r:Vals xs us):us=[]↔xs=[]:=by
 cases r with
 |nil=>simp
 |cons _ _=>simp
def He:bq X (Ē .Add) (Ka X.K):=by
 intro J s σ H x y v u Q I V U h;obtain ⟨a,b,T,S,rfl,rfl,R,P,O,W,N,M⟩:=h;cases V;cases U;obtain ⟨ao,Y,L,_⟩:=I.tuple R;obtain ⟨G,Z,p2,_⟩:=I.tuple P;refine HT.Hd L p2 (fun z=>O (Y.um.mp z)) (fun z=>⟨.ref a,H,I,rfl,N (Z.um.mp z)⟩) (fun z=>?_) (by rw [<- Y.length,<- Z.length];exact W);refine ⟨.ref s.heap.objs.size,_,I.laid (t':=s.toks) (o:=.tup (T++S)) (fun b F q=>Ã _ q) (PJ _) ?_,rfl,M (fun w=>z (Z.um.mpr w)) _ (I.aA.fresh (PJ _))⟩;exact ⟨by rw [č];exact W,_,Y.append Z,IsTup.new _ _⟩
end
noncomputable def et (n:Nat) (i:Int):Option Nat:=if 0<=i then (if i<n then some i.toNat else none) else if -(n:Int)<=i then some (i+n).toNat else none
def cP {α:Type} (xs:List α) (i:Int):Option α:=(et xs.length i).bind fun j=>xs[j]?
def zC (h:et n i=some j):seqIndex? i n=some j/\j<n/\-(n:Int)<=i/\i<n:=by
 unfold et at h;by_cases Y:0<=i
 ·rw [ã Y] at h
  by_cases Z:i<n
  ·rw [ã Z] at h
   have e:i.toNat=j:=PK h;exact ⟨by rw [seqIndex_of Y Z,e],by omega,by omega,Z⟩
  ·rw [ë Z] at h;cases h
 ·rw [ë Y] at h
  by_cases Z:-(n:Int)<=i
  ·rw [ã Z] at h
   have e:(i+n).toNat=j:=PK h;exact ⟨by rw [seqIndex_neg (by omega) Z,e],by omega,Z,by omega⟩
  ·rw [ë Z] at h;cases h
def uo {α:Type} {xs:List α} {i:Int} {v:α} (h:cP xs i=some v):∃j,seqIndex? i xs.length=some j/\xs[j]?=some v/\j<xs.length/\-(xs.length:Int)<=i/\i<xs.length:=by
 unfold cP at h
 cases e:et xs.length i with
 |none=>rw [e] at h;cases h
 |some j =>
  rw [e] at h;obtain ⟨Z,Y,X,W⟩:=zC e;exact ⟨j,Z,h,Y,X,W⟩
def zD (b:ÿ):Prop:=∀o i,subscripted b false o i=operate [o,i] (getItem o i)
def ph (X:Cx) (r:R2):Prop :=
 ∀(value slice:ÿ) (Z:List (Ì×Obj)) (s:Á) (σ:St) (H:Hp) (x y:V) (v u:Â) (Q:VK),Inv X Z σ H s->RelV x v->RelV y u->r x y H Q ->
  subscripted slice false v u=operate [v,u] (getItem v u)->Ö (Ø X.prog X.w) X.A (subscriptTail value slice v u) (EP X Z σ Q) X.xe s
def wX (X:Cx) (id:String) (r:V->List V->Hp->VK->Prop):Prop :=
 ∀(Z:List (Ì×Obj)) (s:Á) (σ:St) (H:Hp) (x:V) (Y:List V) (v:Â) (W:List Â) (Q:VK),Inv X Z σ H s->RelV x v->Vals Y W->r x Y H Q ->
  Ö (Ø X.prog X.w) X.A (call (.builtin id) (v::W)) (EP X Z σ Q) X.xe s
section
variable {X:Cx} {a b:ÿ} {ta tb:TE} {pos:Pos}
def Kb (hr:ph X r) (ha:PE X a ta) (hb:PE X b tb) (hs:zD b):PE X (.Subscript a b pos) (pe r ta tb):=by
 intro Z s σ H Q I h;exact Subscript_ (vU ha hb I h fun v u Y x y W V U T q=>hr a b Z Y σ W x y v u Q V U T q (hs _ _))
def LI (K:ô):R2:=fun x y H Q=>∃p Z i v,x=.ref p/\y=.int i/\bb K H p Z/\cP Z i=some v/\Q v H
def LJ (K:ô):R2:=fun x y H Q=>∃p Z i v,x=.ref p/\y=.int i/\bh K H p Z/\cP Z i=some v/\Q v H
def LK:R2:=fun x y H Q=>∃z i c,x=.str z/\y=.int i/\z.length<=Ô/\cP z.cps.toList i=some c/\Q (.str ⟨#[c]⟩) H
def zE:ph X (LI X.K):=by
 intro value slice V s σ H x y v u Q I S R h hs;obtain ⟨p,E,i,z,rfl,rfl,P,O,q⟩:=h;cases S;obtain ⟨t,rfl⟩:=R;obtain ⟨ao,r,Y,D⟩:=I.list P;obtain ⟨j,Z,N,C,M,L⟩:=uo O;obtain ⟨w,U,J⟩:=r.get N;have G:=r.length;have B:=kU;have fin:EP X V σ Q w s:=⟨z,H,I,J,q⟩;by_cases T:0<=i
 ·have W:i.toNat=j:=by
   rw [seqIndex_of T L] at Z;exact PK Z
  exact item_listR Y.isList T (by omega) (by rw [W];simpa using U) fin hs
 ·have W:(i+(ao.toArray.size:Int)).toNat=j:=by
   rw [seqIndex_neg (by omega) M] at Z;rw [Û,<- G];exact PK Z
  exact subscriptTail_builtinR (x:=w) Y.isList.typeIs slot_list_getitem.lookup
   (wpAny_getItem_list_neg (Q:=fun r F=>r=w/\EP X V σ Q r F) Y.isList (by omega) (by rw [Û]<;>omega) (by omega) (by rw [W];simpa using U) ⟨rfl,fin⟩) hs
def IF:ph X (LJ X.K):=by
 intro value slice Z s σ H x y v u Q I W V h hs;obtain ⟨p,L,i,z,rfl,rfl,U,T,q⟩:=h;cases W;obtain ⟨t,rfl⟩:=V;obtain ⟨ao,r,Y,J⟩:=I.tuple U;obtain ⟨j,S,R,G,F,E⟩:=uo T;obtain ⟨w,P,O⟩:=r.get R;have N:=r.length;have D:=kU;have fin:EP X Z σ Q w s:=⟨z,H,I,O,q⟩;exact subscriptTail_builtinR (x:=w) Y.typeIs slot_tuple_getitem.lookup
  (getItem_tuple (j:=j) (Q:=fun r M=>r=w/\EP X Z σ Q r M) Y (by omega) (by omega) (by rw [Û,<- N];exact S) (by simpa using P) ⟨rfl,fin⟩) hs
def IG:ph X LK:=by
 intro value slice P s σ H x y v u Q I Y W h hs;obtain ⟨z,i,c,rfl,rfl,O,V,q⟩:=h;obtain ⟨t,rfl⟩:=Y;obtain ⟨N,rfl⟩:=W;obtain ⟨j,Z,U,M,T,S⟩:=uo V;have R:z.cps.toList.length=z.length:=by simp [Str.length]
 rw [R] at Z T S;have L:=kU;exact tail_any (typeIs_str s z t) slot_str_getitem.lookup (getItem_str (c:=c) (by
  have e1:decide (i < -(2 ^ 63:Int))=false:=ï (by omega);have e2:decide (i ≥ 2 ^ 63)=false:=ï (by omega);rw [e1,e2,Bool.or_false]) (by rw [Z];simpa using U) ⟨.str ⟨#[c]⟩,H,I.tok _,⟨_,rfl⟩,q⟩) hs
def Ey (ao:List Â) (n j:Nat) (u:Â):Obj.mapSeq (·.setIfInBounds j u) { cls:=.type "list",data:=.seq ao.toArray n }={ cls:=.type "list",data:=.seq (ao.set j u).toArray n }:=by
 simp [Obj.mapSeq]
theorem Inv.lst {π:List (Ì×Obj)} {σ:St} {H:Hp} {s:Á} {p:Ì} {xs:List V} (I:Inv X π σ H s) (h:H p=some (.lst xs)) :
  ∃(ao:List Â) (n:Nat),Vals xs ao/\s.heap.get? p=some { cls:=.type "list",data:=.seq ao.toArray n }/\xs.length<=Ô:=by
 obtain ⟨z,ao,n,r,e⟩:=I.aA p _ h;exact ⟨ao,n,r,e,z⟩
def Inv.IH {π:List (Ì×Obj)} {σ:St} {H:Hp} {s:Á} {p:Ì} {xs ys:List V} {ao iU:List Â} {n n':Nat} {f:Obj->Obj} (I:Inv X π σ H s) (h:H p=some (.lst xs))
  (ho:s.heap.get? p=some { cls:=.type "list",data:=.seq ao.toArray n }) (hf:f { cls:=.type "list",data:=.seq ao.toArray n }={ cls:=.type "list",data:=.seq iU.toArray n' }) (r:Vals ys iU) (hz:ys.length<=Ô) (t:Nat) :
  Inv X π σ (upd H p (.lst ys)) { s with heap:=s.heap.update p f,toks:=t }:=by
 have e:(s.heap.update p f).get? p=some { cls:=.type "list",data:=.seq iU.toArray n' }:=by
  rw [ŵ f ho (by rw [hf]<;>rfl),hf]
 refine I.write (x:=p) (e:=p) (by rw [h];trivial) (.inl rfl) (fun b u Z q=>(Heap.get?_update_other _ _ (ŧ Z)).trans q) ⟨_,e⟩ ?_;exact ⟨hz,iU,n',r,e⟩
def Kc:V->V->V->Hp->(Hp->Prop)->Prop:=fun o i v H Q=>∃p Z k j,o=.ref p/\i=.int k/\H p=some (.lst Z)/\et Z.length k=some j/\Q (upd H p (.lst (Z.set j v)))
def set_list:BN X Kc:=by
 intro N s σ H o i v E D u Q I M L K h;obtain ⟨p,J,k,j,rfl,rfl,T,G,q⟩:=h;cases M;obtain ⟨t,rfl⟩:=L;obtain ⟨ao,n,r,Y,F⟩:=I.lst T;obtain ⟨Z,C,S,R⟩:=zC G;have V:=r.length;have B:=kU
 have P:Inv X N σ (upd H p (.lst (J.set j v))) { s with heap:=s.heap.update p (Obj.mapSeq (·.setIfInBounds j u)) } :=
  I.IH T Y (Ey ao n j u) (r.set K j) (by rw [ù];exact F) s.toks
 by_cases O:0<=k
 ·have U:k.toNat=j:=by
   rw [seqIndex_of O R] at Z;exact PK Z
  exact PySem.W.ki_setAt Y O (by omega) (by rw [Û,<- V];exact R) (by rw [U];exact ⟨_,P,q⟩)
 ·have U:(k+(ao.toArray.size:Int)).toNat=j:=by
   rw [seqIndex_neg (by omega) S] at Z;rw [Û,<- V];exact PK Z
  exact PySem.W.ki_setBack Y (by omega) (by rw [Û,<- V];exact S) (by omega) (by rw [U];exact ⟨_,P,q⟩)
def sT:dB X (.builtin "len") (fun xs H Q=>∃p ys,xs=[.ref p]/\(bb X.K H p ys\/bh X.K H p ys)/\Q (.int ys.length) H):=by
 intro T s σ H xs S Q I r h;obtain ⟨p,ys,rfl,hq,q⟩:=h;obtain ⟨u,rfl,V⟩:=vals1 r;cases V;have R:=kU
 rcases hq with hq|hq
 ·obtain ⟨ao,Y,W,U⟩:=I.list hq
  have Z:=Y.length
  exact Calls.call_len_list W.isList (by simp only [Û]<;>omega) ⟨.int ys.length,H,I.tok _,⟨s.toks+1,by rw [Û,Z]⟩,q⟩
 ·obtain ⟨ao,Y,W,U⟩:=I.tuple hq
  have Z:=Y.length
  exact len_tuple W (by simp only [Û]<;>omega) ⟨.int ys.length,H,I.tok _,⟨s.toks+1,by rw [Û,Z]⟩,q⟩
def DW:dB X (.builtin "len") (fun xs H Q=>∃z,xs=[.str z]/\z.length<=Ô/\Q (.int z.length) H):=by
 intro Z s σ H xs Y Q I r h;obtain ⟨z,rfl,W,q⟩:=h;obtain ⟨u,rfl,t,rfl⟩:=vals1 r;have V:=kU;exact len_str (by omega) ⟨.int z.length,H,I.tok _,⟨_,rfl⟩,q⟩
def CC (K:ô) (T:String) (x:V) (H:Hp):Prop:=match x with
 | .str _=>T="str"
 | .int _=>T="int"
 | .ref p=>(T="list"/\∃Y,bb K H p Y)\/(T="tuple"/\∃o,K.lookup p=some o/\o.cls=.type "tuple"/\o.dict=none) \/
   (T="dict"/\((∃Z,H p=some (.dK Z))\/∃Z,H p=some (.dT Z)))\/(T="set"/\∃S n,H p=some (.set S n))
 |_=>False
def II {π:List (Ì×Obj)} {σ:St} {H:Hp} {s:Á} {T:String} {x:V} {v:Â} (I:Inv X π σ H s) (r:RelV x v) (ty:CC X.K T x H) :
  s.TypeIs v T/\∀a,v=.ref a->∃ob,s.heap.get? a=some ob/\ob.dict=none:=by
 cases x with
 |str z =>
  obtain ⟨t,rfl⟩:=r;cases (show T="str" from ty)
  exact ⟨typeIs_str s z t,fun _ e=>nomatch e⟩
 |int i =>
  obtain ⟨t,rfl⟩:=r;cases (show T="int" from ty)
  exact ⟨typeIs_int s i t,fun _ e=>nomatch e⟩
 |ref p =>
  cases r
  rcases ty with ⟨rfl,P,U⟩ | ⟨rfl,o,Z,R,Y⟩ | ⟨rfl,Z⟩ | ⟨rfl,S,n,Z⟩
  ·obtain ⟨ao,_,W,_⟩:=I.list U
   refine ⟨W.isList.typeIs,fun a e=>?_⟩;cases e;obtain ⟨o,n,e,c,Y,_⟩:=W;exact ⟨o,e,Y⟩
  ·refine ⟨⟨o,I.cH p o Z,R⟩,fun a e=>?_⟩
   cases e;exact ⟨o,I.cH _ o Z,Y⟩
  ·have z:∃o,s.heap.get? p=some o/\o.ExactDict:=by
    rcases Z with ⟨Q,Z⟩ | ⟨Q,Z⟩
    ·obtain ⟨_,_,_,_,o,_,_,e,ex,_⟩:=I.aA p _ Z
     exact ⟨o,e,ex⟩
    ·obtain ⟨_,_,_,_,o,_,_,e,ex,_⟩:=I.aA p _ Z
     exact ⟨o,e,ex⟩
   obtain ⟨o,e,ex⟩:=z;refine ⟨⟨o,e,ex.1⟩,fun a e2=>?_⟩;cases e2;exact ⟨o,e,ex.2.1⟩
  ·obtain ⟨o,_,_,_,e,ex,_⟩:=I.aA p _ Z
   refine ⟨⟨o,e,ex.1⟩,fun a e2=>?_⟩;cases e2;exact ⟨o,e,ex.2.1⟩
 |_=>exact ñ ty
def MF (K:ô) (T:String) (r:V->List V->Hp->VK->Prop) (to:TE) (t:TA):TE:=fun σ H Q=>to σ H fun x Z=>CC K T x Z/\t σ Z fun Y X=>r x Y X Q
variable {o e:ÿ} {es:List ÿ} {to:TE} {t:TA} {name:Str} {apos aV:Pos} {T id:String} {r:V->List V->Hp->VK->Prop}
def Bf (pa:PlainAttrs T) (slot:Slot T name id) (MG:typeOf (.builtin id)=pure (.type "method_descriptor")) (hm:wX X id r) (ho:PE X o to) (ha:PA X (e::es) t)
  (lh:Ĥ o name X.env (Ĕ o X.env)=Ĕ o X.env:=by rfl)
  (oK:((Ĉ aV (Ä (e::es) X.env)).all (fun x=>!x.1)&&(ž aV (ĭ [] X.env)).all (fun x=>x.1.isSome)
   && decide ((e::es).length+([]:List Po).length+(if ([]:List Po).isEmpty then 0 else 1)<30))=true:=by rfl)
  (oa:(apos.endLine==aV.line)=true:=by rfl) (hs:Ä (e::es) X.env=(false,Ĕ e X.env)::Ä es X.env:=by rfl) (fk:(Ĉ aV (Ä es X.env)).any (·.1)=false:=by rfl) :
  PE X (.Call (.Attribute o name apos) (e::es) [] aV) (MF X.K T r to t):=by
 intro Z s σ H Q I h;refine wpAny_Call_method_late lh oK oa rfl (aM (ho Z s σ H _ I h) fun v U ⟨x,S,Y,W,ty,R⟩=>?_);obtain ⟨P,O⟩:=II Y W ty;refine ⟨T,id,pa,slot,MG,P,O,?_⟩;have V:=ha aV Z U σ S _ Y R;rw [hs] at V |-
 refine Calls.callWith_builtin (by show (false||(Ĉ aV (Ä es X.env)).any (·.1))=false;rw [fk]<;>rfl) (Ż ?_)
 exact aM V fun N M ⟨L,J,G,F,E⟩=>hm Z M σ J x L v N Q G W F E
end
theorem Vals.rep (h:Vals xs us):∀k:Nat,Vals (Ê k xs).flatten (Ê k us).flatten
 |0=>.nil
 |k+1=>by
  rw [Ā,Ā,ē,ē];exact Vals.append h (Vals.rep h k)
theorem foldl_rep (ao:List Â):∀(k:Nat) (acc:List Â),
  List.foldl (fun x1 x2=>x1++x2) acc.toArray (Ê k ao.toArray)=(acc++(Ê k ao).flatten).toArray
 |0,acc=>by simp
 |k+1,acc=>by
  have e:acc.toArray++ao.toArray=(acc++ao).toArray:=by simp
  have e2:(acc++ao)++(Ê k ao).flatten=acc++(Ê (k+1) ao).flatten:=by
   rw [Ā,ē,Ŭ]
  rw [<- e2,<- foldl_rep ao k (acc++ao),<- e,Ā,List.foldl_cons]
section
variable {X:Cx} {π:List (Ì×Obj)} {σ:St} {H:Hp} {s:Á} {l b:Ì} {xs ys zs:List V}
def Inv.BS (I:Inv X π σ H s) (hv:Vals ys ao) (hz:ys.length<=Ô) :
  Inv X π σ (upd H s.heap.objs.size (.lst ys)) { s with heap:=s.heap.push { cls:=.type "list",data:=.seq ao.toArray },toks:=t' } :=
 I.laid (fun _ _ q=>Ã _ q) (PJ _) ⟨hz,ao,0,hv,Ï _ rfl⟩
theorem Inv.fresh (I:Inv X π σ H s):H s.heap.objs.size=none:=I.aA.fresh (PJ _)
def Inv.vY (I:Inv X π σ H s) (hH:H l=some (.lst xs)):xs.length<=Ô/\∃(ao:List Â) (n:Nat),Vals xs ao/\xs.length=ao.length/\s.heap.get? l=some { cls:=.type "list",data:=.seq ao.toArray n }:=by
 obtain ⟨z,ao,n,r,e⟩:=I.aA l _ hH;exact ⟨z,ao,n,r,r.length,e⟩
def F6 (h:n<=Ô):ŗ n=false:=by
 unfold ŗ;exact ï (by omega)
end
section
variable {X:Cx}
def LL:R2:=fun x y H Q=>∃l b Z zs,x=.ref l/\y=.ref b/\H l=some (.lst Z)/\H b=some (.lst zs)/\Z.length+zs.length<=Ô/\∀p,H p=none->Q (.ref p) (upd H p (.lst (Z++zs)))
def IJ:bq X (Ē .Add) LL:=by
 intro R s σ H x y v u Q I Y W h;obtain ⟨l,b,O,zs,rfl,rfl,V,U,N,q⟩:=h;cases Y;cases W;obtain ⟨z,ao,n,r,M,e⟩:=I.vY V;obtain ⟨L,Z,K,T,J,e2⟩:=I.vY U;refine PySem.P.add_list e e2 ?_ (by rw [Û,Û];omega);have S:ao.toArray++Z.toArray=(ao++Z).toArray:=by simp
 rw [S];exact ⟨.ref _,_,I.BS (t':=s.toks) (r.append T) (by rw [č];omega),rfl,q _ I.fresh⟩
def LM:R2:=fun x y H Q=>∃l k Z,x=.ref l/\y=.int k/\H l=some (.lst Z)/\-(2 ^ 63)<=k/\k<2 ^ 63/\Z.length*k.toNat<=Ô /\
 ∀p,H p=none->Q (.ref p) (upd H p (.lst (Ê k.toNat Z).flatten))
def len_rep {α:Type} (xs:List α) (k:Nat):(Ê k xs).flatten.length=k*xs.length:=by
 induction k with
 |zero=>simp
 |succ k ih=>rw [Ā,ē,č,ih,Nat.succ_mul,Nat.add_comm]
def Am:bq X (Ē .Mult) LM:=by
 intro D s σ H x y v u Q I S R h;obtain ⟨l,k,C,rfl,rfl,P,O,N,V,q⟩:=h;cases S;obtain ⟨t,rfl⟩:=R;obtain ⟨z,ao,n,r,M,e⟩:=I.vY P;have Z:ao.toArray.size*k.toNat<=Ô:=by rw [Û,<- M];exact V
 have L:¬ ao.toArray.size*k.toNat > (2 ^ 63-1) / 8:=by
  have:(Ô:Nat)<=(2 ^ 63-1) / 8:=by decide
  omega
 have K:¬ (!Builtin.List.listFitsIndex k)=true:=by
  rw [fitsIndex_both O N];exact Î
 have J:¬ ŗ (ao.toArray.size*k.toNat)=true:=by
  rw [F6 Z];exact Î
 have G:List.foldl (fun Y W=>Y++W) #[] (Ê (if ao.toArray.isEmpty=true then 0 else k.toNat) ao.toArray)=(Ê k.toNat ao).flatten.toArray:=by
  have f0:∀m:Nat,List.foldl (fun Y W=>Y++W) #[] (Ê m ao.toArray)=(Ê m ao).flatten.toArray:=fun m=>by
   have:=foldl_rep ao m [];rw [Ġ] at this;exact this
  rw [f0]
  cases ao with
  |nil=>simp
  |cons a B=>rw [ë (by simp)]
 refine wpAny_binaryOp_repeat_ref (T:="list") (U:="int") (by decide) ⟨_,e,rfl⟩ (fun E=>typeIs_int E k t) noFill_list_mul F.fills_int_mul ξ repeat_list F.slot_int_index.lookup
  (call_meets ξ (typeIs_int s k t) F.entry_int_rmul (F.args_int_rmul_2 _ _) (int___rmul___int_list k t l ao.toArray n)
   ⟨e,rfl,⟨_,e,rfl⟩,call_meets F.slot_list_mul ⟨_,e,rfl⟩ F.entry_list_mul (F.args_list_mul_2 _ _) (AutoListH.list___mul___list_int_3 l ao.toArray n k t K L J) ⟨e,?_⟩⟩)
 rw [G];exact ⟨.ref _,_,I.BS (t':=s.toks) (r.rep k.toNat) (by rw [len_rep,Nat.mul_comm];exact V),rfl,q _ I.fresh⟩
end
section
variable {prog:Ó} {w:î} {A:Ù} {E:Â->Á->Prop} {s:Á}
set_option maxRecDepth 100000 in
end
section
variable {X:Cx}
end
end L2
namespace CD
open PySem PySem.W PySem.Calls PyProof.Rows
def DG:∀(ns:List Int) (vs:List Â),WellAll P h vs (ns.map WData.int)->IntsAre vs ns:=by
 intro ns
 induction ns with
 |nil =>
  intro vs w;rw [Ř] at w;cases w;exact .nil
 |cons n ns ih =>
  intro vs w;rw [é] at w
  cases w with
  |cons a b =>
   cases a;exact .cons _ _ (ih _ b)
def E9 {l:OpenLaw} {n:Nat} (hn:l.most=some n) {P:Params} {h:Ă} {args:List WData} {vals:List Â}
  (rB:l.row.toRowW.claim.pre args=true) (wY:WellAll P h vals args) :
  ∃a vs ns,vals=[ý a]/\args=[WData.list (ns.map WData.int)]/\h.get? a=some { cls:=.type "list",data:=.seq vs.toArray }/\IntsAre vs ns/\ns.length<=n:=by
 have V:WShape.hasAll [] args [.list .int]=true:=(pre_splitW rB).1;have W:l.pre.holds [] { args:=args }=true:=(pre_splitW rB).2;obtain ⟨d,r,rfl,U,T⟩:=hasAllW_cons V;obtain rfl:=hasAllW_nil T;obtain ⟨L,rfl,S⟩:=hasW_list U;obtain ⟨ns,rfl⟩:=items_int S;have Z:ns.length<=n:=by
  unfold OpenLaw.pre at W;have Y:(WTm.not (.lt (.lit (.int (n:Int))) (.len (.arg 0)))).holds [] { args:=[.list (ns.map .int)] }=true:=by
   have Y:=(holds_andW W).1;rw [hn] at Y;exact Y
  have X:=condW_of Y (w_not (w_lt w_lit (w_len_list (w_arg rfl))));rw [ß] at X;refine ź fun q=>?_;have R:(n:Int)<((ns.length:Nat):Int):=by omega
  first
   |(rw [Ò R] at X;exact absurd X (by decide))
   |(simp at X;omega)
 cases wY with
 |cons Q O =>
  cases O
  cases Q with
  |list N M=>exact ⟨_,_,ns,rfl,rfl,N,DG ns _ M,Z⟩
def Fb (l:OpenLaw) (args:List WData):l.row.toRowW.claim.post args (.bool true) args=true :=
 postW_of (r:=l.row.toRowW) (X:=(true==true))
  (show WShape.has [] (.bool true) .bool=true by first|rfl|decide|simp [WShape.has,WShape.arms,WShape.armsAll])
  (show (WTm.eq .res (.lit (.bool true))).value [] { args:=args,res:=some (.bool true),after:=args }=some (.bool (true==true)) from w_eq_bool (w_res rfl) w_lit) rfl
def Ed {l:OpenLaw} {n:Nat} {q:Ó} {loose:List Str} {XP:(Str->Option Â)->Ă->Prop} {YP:î->Ă->Prop} {d:DefRec}
  (hn:l.most=some n) (pj:d.params.defaults=[])
  (call:∀(w:î) (bV aZ:Á) (mg mb:Str->Option Â) (fa:Ì) (o:Obj) (pm cd doc:Â) (a:Ì) (vs:List Â) (ns:List Int),
   Ground q loose [] XP w bV mg mb aZ.heap->YP w aZ.heap ->
   aZ.heap.get? fa=some o->o.data=.func (docDef d.name d.params d.body d.scope pm cd doc)->aZ.heap.CodeRec cd d.name->mg d.name=some (.ref fa) ->
   aZ.heap.get? a=some { cls:=.type "list",data:=.seq vs.toArray }->IntsAre vs ns->ns.length<=n->aZ.gens=#[] ->
   Ū (Ø l.prog w) callerA (.call (.ref fa) ⟨[.ref a],[]⟩) (fun r s'=>r=.ok (.ret (.bool true))/\OldK aZ.heap s'.heap/\s'.os=aZ.os/\Pw s'.gens) aZ) :
  WalkO q loose XP YP l.row.toRowW d [] (fun f vs=>PySem.call f vs):=by
 intro w bV aZ mg mb G Y fa o pm cd doc W kV V U T X S R args vals as Q I H P F;obtain rfl:W=.none:=Dflts.none X pj;obtain rfl:kV=.none:=Dflts.noKw X;obtain ⟨a,vs,ns,rfl,rfl,O,hints,Z⟩:=E9 hn Q P;refine enter_call (Ŕ (call w bV aZ mg mb fa o pm cd doc a vs ns G Y V (fd_plain U) T S O hints Z R) fun r s' N=>?_);obtain ⟨rfl,M,L,K⟩:=N
 exact ⟨.inl ⟨.bool true,.bool true,[],rfl,fun _=>rfl,.bool true,Fb l _,fun _=>⟨List.Pairwise.nil,fun _ J=>(nomatch J)⟩⟩,M,L,K⟩
section
variable {prog:Ó} {w:î} {A:Ù} {E:Â->Á->Prop} {s:Á} {K:ô}
noncomputable def ledger (h:Ă) (L d:Ì):List (Ì×Obj):=(ľ h.objs.size).filterMap fun a=>if a=L\/a=d then none else (h.get? a).map fun o=>(a,o)
end
end CD
namespace L2
open PySem PySem.Spec PyProof.Rows
theorem yS:∀{vs:List Â} {ns:List Int},IntsAre vs ns->Vals (ns.map V.int) vs
 |_,_,.nil=>.nil
 |_,_,.cons n t h=>.cons ⟨t,rfl⟩ (yS h)
noncomputable abbrev O3 {K:ô} {h:Ă} (_:K.In h):ô:=K
noncomputable def ib (s:ŷ):Š:=match s with
 | .FunctionDef _ a _ _ _ _ _ _ _ _=>a
 |_=>{ posonlyargs:=[],args:=[],vararg:=none,kwonlyargs:=[],kw_defaults:=[],kwarg:=none,defaults:=[] }
noncomputable def dE (s:ŷ):List ŷ:=match s with
 | .FunctionDef _ _ b _ _ _ _ _ _ _=>b
 |_=>[]
noncomputable def bz (s:ŷ):Ń:=match s with
 | .FunctionDef _ _ _ _ _ _ sc _ _ _=>sc
 |_=>{ kind:=.function,names:=[],isGenerator:=false,isCoroutine:=false }
abbrev cg:gv:=fun _ _ _ _ _ _=>False
abbrev E0:XK:=fun _ _ _=>False
def Ke:Passes cg X E0:=fun _ _ _ _ _ _ _ h=>h.elim
structure kq (K:ô) (x qual:Str) (st:ŷ) (f:Ì) (fd:ú):Prop where
 ex:∃(oc:Â) (od:Option Ì) (kV doc pm:Â) (an:Option Ì) (aD ct:Â) (cO:Array (Option Â)),
  fd=Ĝ x qual (ib st) (dE st) (bz st) .none kV doc pm an aD ct/\K.lookup f=some ⟨oc,od,.func fd,cO⟩/\ň K aD qual=true
 kp:ĕ K (.ref f)=true
section
variable {P:Ó} {w:î} {K:ô} {mg:Str->Option Â} {base:Ă}
def kq.ok {x qual:Str} {st:ŷ} {f:Ì} {fd:ú} {N ps:List Str} {k:Nat} {sp:Sp} (F:kq K x qual st f fd) (S:je N ps (bz st)) (len:∀vs H Q E,sp vs H Q E->vs.length=ps.length)
  (ij:∀(aD:Â) (A:Ù) (outer:List Env) (s:Á) (H:Hp) (vs:List V) (Q:VK) (E:XK),aY k (A.deeper (Pz qual (bz st) s.heap.objs.size f aD))->sp vs H Q E ->
   ∃t,bX (ef cg P w K mg base N qual (bz st) f aD A outer s H E).jB (dE st) t/\t { nx:=fun _ H'=>Q .au H',rt:=Q } (start N vs) H):bK P w K mg base cg (k+1) f fd ps sp:=by
 obtain ⟨W,U,kV,doc,pm,an,aD,T,R,rfl,lk,Z⟩:=F.ex;refine qX lk Z S len fun A outer s H vs Q E Y X=>?_;obtain ⟨t,h,q⟩:=ij aD A outer s H vs Q E Y X;exact ⟨t,h.jB,q⟩
def kq.binds {x qual:Str} {st:ŷ} {f:Ì} {fd:ú} {ps:List Str} (F:kq K x qual st f fd)
  (h:∀(kV doc pm:Â) (an:Option Ì) (aD ct:Â) (us:List Â),us.length=ps.length->bindArgs (Ĝ x qual (ib st) (dE st) (bz st) .none kV doc pm an aD ct) ⟨us,[]⟩=pure (ps.zip us)):Binds K fd ps []:=by
 obtain ⟨Z,Y,kV,doc,pm,an,aD,ct,X,rfl,lk,W⟩:=F.ex;exact .all (h kV doc pm an aD ct)
def qB {x qual:Str} {st:ŷ} {f:Ì} {oc:Â} {od an:Option Ì} {cO:Array (Option Â)} {kV doc pm aD ct:Â} (l:K.lookup f=some ⟨oc,od,.func (Ĝ x qual (ib st) (dE st) (bz st) .none kV doc pm an aD ct),cO⟩)
  (c:ň K aD qual=true) (k:ĕ K (.ref f)=true):kq K x qual st f (Ĝ x qual (ib st) (dE st) (bz st) .none kV doc pm an aD ct):=⟨⟨oc,od,kV,doc,pm,an,aD,ct,cO,rfl,l,c⟩,k⟩
end
section
variable {X:Cx}
end
def ip (H H':Hp):Prop:=∀b o,H b=some o->H' b=some o
def ip.refl (H:Hp):ip H H:=fun _ _ h=>h
def Ez (J:Nat->Á->Prop)
 (turn:∀n s,J n s->Ö (Ø P w) A (pyNext iy) (fun r s1=>match r with
   |none=>R (.ok .next) s1
   |some v=>Ö (Ø P w) A (Ś tg iy v) (fun _ s2=>Ö (Ø P w) A (assign tg ce v) (fun _ s3 =>
     Ö (Ø P w) A (forIn tests true fun c r=>if r=true then do let ok <- isTrue c ce (Ĕ c ce);pure (Ď ok) else pure (Ď r)) (fun ok s4 =>
      if ok=true then Ö (Ø P w) A (Ĕ el ce) (fun y s5=>Ö (Ø P w) A (call (.builtin "list.append") [av,y]) (fun _ s6=>∃m,m<n/\J m s6) (fun _ _=>False) s5) (fun _ _=>False) s4
      else ∃m,m<n/\J m s4) (fun _ _=>False) s3) (fun _ _=>False) s2) (fun _ _=>False) s1) (fun _ _=>False) s)
 (n:Nat) (h:J n s):Ū (Ø P w) A (.compLoop (.ListComp el [⟨tg,src,tests,0⟩] sc ps) 0 iy av ce) R s:=by
 refine codeAny_loop rfl J (fun n s X=>?_) n h
 show Ö _ A ((compTurn (.ListComp el [⟨tg,src,tests,0⟩] sc ps) 0 iy av ce).onRaise (fun x=>do noteFrame x ce;theTreesLotGoes x)) _ _ s
 refine wpAny_noted ?_;rw [compTurn_list];refine À (ř (À (ü (turn n s X) (fun r s1 Z=>?_) fun _ _ z=>z.elim)))
 cases r with
 |none=>exact Ë Z
 |some v =>
  refine À (ü Z (fun _ s2 W=>?_) fun _ _ z=>z.elim);refine À (ü W (fun _ s3 V=>À (ü V (fun ok s4 Y=>?_) fun _ _ z=>z.elim)) fun _ _ z=>z.elim)
  cases ok with
  |false=>exact Ë ⟨rfl,Y⟩
  |true =>
   exact À (À (ü Y (fun y s5 U=>À (ü U (fun _ s6 T=>Ë (Ë ⟨rfl,T⟩)) fun _ _ z=>z.elim)) fun _ _ z=>z.elim))
theorem tQ (env:Env):∀(l:List (Str×Į)) (acc:List (Str×Ì)),(∀n,(n,Ü)∈l->∃c,env.cells.lookup n=some c) ->
  ∃cl,(forIn l acc (fun (p:Str×Į) (cs:List (Str×Ì))=>(do
   if (p.2==Ü)=true then do let c <- cellOf env p.1;pure (Ď ((p.1,c)::cs)) else pure (Ď cs):Sem (ForInStep (List (Str×Ì))))))=pure cl /\
   ∀n c,cl.lookup n=some c↔(((n,Ü)∈l/\env.cells.lookup n=some c)\/((n,Ü)∉l/\acc.lookup n=some c))
 | [],acc,_=>⟨acc,rfl,fun n c=>by simp⟩
 |(x,k)::r,acc,h=>by
  rw [Ţ]
  cases Y:(k==Ü) with
  |false =>
   have U:k≠.free:=by intro e;rw [e] at Y;cases Y
   obtain ⟨cl,e,q⟩:=tQ env r acc fun n X=>h n (Ð _ X);refine ⟨cl,?_,fun n c=>?_⟩
   ·simp only [Í,ā]
    exact e
   ·rw [q n c]
    have:(n,Ü)∈(x,k)::r↔(n,Ü)∈r:=by
     constructor
     ·intro Z
      rcases á.mp Z with z|z
      ·injection z with _ T
       exact absurd T.symm U
      ·exact z
     ·exact Ð _
    rw [this]
  |true =>
   have S:k=.free:=by cases k<;>first|rfl|cases Y
   subst S;obtain ⟨R,W⟩:=h x ä;obtain ⟨cl,e,q⟩:=tQ env r ((x,R)::acc) fun n X=>h n (Ð _ X);refine ⟨cl,?_,fun n c=>?_⟩
   ·simp only [Ę,cellOf,W]
    exact e
   ·rw [q n c]
    by_cases V:n=x
    ·subst V
     constructor
     ·rintro (⟨_,z⟩ | ⟨_,z⟩)
      ·exact .inl ⟨ä,z⟩
      ·rw [ø,Đ] at z
       exact .inl ⟨ä,W.trans z⟩
     ·rintro (⟨_,z⟩ | ⟨z,_⟩)
      ·by_cases Z:(n,Ü)∈r
       ·exact .inl ⟨Z,z⟩
       ·refine .inr ⟨Z,?_⟩
        rw [ø,Đ];exact W.symm.trans z
      ·exact absurd ä z
    ·have:(n,Ü)∈(x,Ü)::r↔(n,Ü)∈r:=by
      constructor
      ·intro Z
       rcases á.mp Z with z|z
       ·injection z with Q _
        exact absurd Q V
       ·exact z
      ·exact Ð _
     rw [this,ø,beq_false_of_ne V]
def IK (h:∀n,(n,Ü)∈sc.names->∃c,env.cells.lookup n=some c) :
  ∃cl,closureFor sc env=pure cl/\∀n c,cl.lookup n=some c↔((n,Ü)∈sc.names/\env.cells.lookup n=some c):=by
 obtain ⟨cl,e,q⟩:=tQ env sc.names [] h;refine ⟨cl,?_,fun n c=>?_⟩
 ·unfold closureFor
  exact (Ĩ (fun z:Sem (List (Str×Ì))=>z >>= fun r=>pure r) e)
 ·rw [q n c]
  simp
theorem y7 (f:Str->Į->Į) (x:Str):∀l:List (Str×Į),(l.map fun p=>(p.1,f p.1 p.2)).lookup x=(l.lookup x).map (f x)
 | []=>rfl
 |(n,k)::r=>by
  rw [é,ø,ø]
  cases h:x==n with
  |true =>
   have e:x=n:=by simpa using h
   subst e;rfl
  |false=>exact y7 f x r
def yj (sc:Ń) (env:Env) (x:Str):(relabel sc env).names.lookup x=(sc.names.lookup x).map fun k=>if (k==Ü&&env.scope.kind==.function&&env.kindOf x==some .cell)=true then NameKind.cell else k:=by
 rw [<- y7 (fun x k=>if (k==Ü&&env.scope.kind==.function&&env.kindOf x==some .cell)=true then NameKind.cell else k)]
 show Œ x (sc.names.map _)=_;congr 1;apply List.map_congr_left;rintro ⟨n,k⟩ _;dsimp only
 split<;>rfl
abbrev MI (X:Cx) (N:List Str) (sc:Ń) (cl:List (Str×Ì)) (C:Ì) (s:Á) (H:Hp) (ex:List Ì) (pn:List (Ì×Obj)):Cx where
 prog:=X.prog
 w:=X.w
 K:=X.K
 mg:=X.mg
 base:=X.base
 A:=X.A
 N:=N
 bV:=s
 iT:=H
 env:=compEnvC sc cl C X.env
 outer:=X.stack
 stack:=X.stack
 ex:=ex
 fn:=fun _=>false
 calm:=X.calm
 pn:=pn
 xe:=fun _ _=>False
structure OO (X:Cx) (sc:Ń) (N:List Str) (nt:Nat) (cap:List Nat):Prop where
 kind:sc.kind=.function
 uI:∀x∈sc.names,x.2≠.cell
 names:∀x∈sc.names,x.2=.local->sc.names.lookup x.1=some .local
 frees:∀x∈sc.names,x.2=.free->sc.names.lookup x.1=some .free/\(X.env.scope.names.lookup x.1=some .cell\/X.env.scope.names.lookup x.1=some .free)
 len:N.length=nt+cap.length
 BU:∀(k:Nat) j,cap[k]?=some j->∃x,X.N[j]?=some x/\N[nt+k]?=some x/\(x,Ü)∈sc.names
def nZ (nt:Nat) (cap:List Nat) (σ:St):St:=Ê nt none++cap.map fun j=>(σ[j]?).getD none
def PF (X:Cx) (tests:List ÿ) (t:TT):Prop :=
 ∀(Z:List (Ì×Obj)) (s:Á) (σ:St) (H:Hp) (Q:Bool->Hp->Prop),Inv X Z σ H s->t σ H Q ->
  Ö (Ø X.prog X.w) X.A (forIn tests true fun c r=>if r=true then do let ok <- isTrue c X.env (Ĕ c X.env);pure (Ď ok) else pure (Ď r)) (TP X Z σ Q) X.xe s
def LQ:TT:=fun _ H Q=>Q true H
def IL:PF X [] LQ:=fun _ _ _ H _ I h=>wpAny_tests_nil ⟨H,I,h⟩
def IM (h:PT X c t):PF X [c] t:=fun Z s σ H Q I hw=>wpAny_tests_one (h Z s σ H Q I hw)
def pq (g:TG) (nt:Nat):Prop:=∀(x:V) (o Z:St) (H:Hp) (R:St->Hp->Prop),o.length=nt->g x (o++Z) H R->g x (o++Z) H fun Y W=>(∃X:St,X.length=nt/\Y=X++Z)/\R Y W
def ll (cap:List Nat) (σ:St):St:=cap.map fun j=>(σ[j]?).getD none
def CG (mk:Ì->List V->HO) (iB:List V->Prop) (J:It) (nt:Nat) (caps:St) (g:TG) (tf:TT) (te:TE) (H:Hp) (Q:VK):Prop:=∃W:Nat->Nat->List V->Hp->Prop,(∃m,W 0 m [] H) /\
 ∀i m Z Y,W i m Z Y->(J.stop i Y/\iB Z/\∀D,Y D=none->Q (.ref D) (upd Y D (mk D Z))) \/
  (J.go i Y/\iB Z/\∃N:List V->Hp->Prop,(∀X U,N X U->∃T,T < m/\W (i+1) T X U) /\
   ∀o x S,o.length=nt->J.o7 i Y x S->g x (o++caps) S fun R O=>tf R O fun b P=>if b=true then te R P fun v M=>N (Z++[v]) M else N Z P)
def CW (J:It) (nt:Nat) (caps:St) (g:TG) (tf:TT) (te:TE) (H:Hp) (Q:VK):Prop:=CG (fun _ Z=>.lst Z) (fun Z=>Z.length<=Ô) J nt caps g tf te H Q
def mP (wi:TI) (nt:Nat) (cap:List Nat) (g:TG) (tf:TT) (te:TE):TE:=fun σ H Q=>wi σ H fun J Z=>CW J nt (ll cap σ) g tf te Z Q
section
variable {fs ex:List Ì} {H H':Hp} {h h1 h2:Ă} {P:Ó} {w:î}
def Un.adopt {D:Ì} {o:HO} (u:Un fs ex H H' h h1) (hp:h.objs.size<=D) (hn:H' D=none):Un fs ex H (upd H' D o) h h1 where
 keep:=u.keep
 slot:=u.slot
 free:=fun b Y q n X=>by rw [aG (â (Æ (É q) hp))];exact u.free b Y q n X
 there:=u.there
 c9:=fun b Z q=>by rw [aG (bM (u.c9 b Z q) hn)];exact u.c9 b Z q
 cL:=fun b Y Z q=>by rw [aG (bM (u.cL b Y Z q) hn)];exact u.cL b Y Z q
 de:=fun b W q=>by
  obtain ⟨more,e⟩:=u.de b W q;exact ⟨more,by rw [aG (bM e hn)];exact e⟩
def Un.but {C:Ì} (u:Un fs ex H H' h h1) (hp:h.objs.size<=C) (sb:Ĭ C h1 h2):Un fs ex H H' h h2:=by
 have ne:∀b Z,h.get? b=some Z->b≠C:=fun b Z q=>â (Æ (É q) hp);refine ⟨fun b Z q n X Y=>(sb.2 b (ne b Z q)).trans (u.keep b Z q n X Y),fun b Z q n X Y=>?_,u.free,fun b Z q Y=>?_,u.c9,u.cL,u.de⟩
 ·obtain ⟨W,e⟩:=u.slot b Z q n X Y
  exact ⟨W,(sb.2 b (ne b Z q)).trans e⟩
 ·obtain ⟨V,e⟩:=u.there b Z q Y
  exact ⟨V,(sb.2 b (ne b Z q)).trans e⟩
def bL.but (x:bL P w H h1) (hn:H C=none) (sb:Ĭ C h1 h2):bL P w H h2:=fun a o e =>
 (x a o e).cG (fun b u Z q=>(sb.2 b (by
  rintro rfl
  rcases Z with z|z
  ·subst z;rw [hn] at e;cases e
  ·rw [hn] at z;cases z)).trans q) (fun _ q=>q) fun _ _ q=>q
def bL.adopt (x:bL P w H h) (hn:H D=none) (new:cV P w (upd H D o) h D o):bL P w (upd H D o) h:=fun b u e=>by
 by_cases Z:b=D
 ·subst Z;rw [bZ] at e;cases e;exact new
 ·rw [aG Z] at e
  exact (x b u e).cG (fun c v _ q=>q) (fun c q=>by rw [aG (bM q hn)];exact q) fun c Y q=>by rw [aG (bM q hn)];exact q
end
section
variable {X:Cx} {sc:Ń} {N:List Str} {nt:Nat} {cap:List Nat} {cl:List (Str×Ì)} {s:Á} {h1:Ă} {H:Hp} {σ:St} {π:List (Ì×Obj)} {fp:List Ì} {C:Ì} {t':Nat}
end
section
variable {X:Cx}
end
inductive Kn where
 |au|bl|int|str|tup|lst|br
 deriving DecidableEq
def ku (K:ô) (H:Hp):V->Kn->Prop
 | .au,.au=>True
 | .bl _,.bl=>True
 | .int _,.int=>True
 | .str _,.str=>True
 | .ref a,.tup=>∃Z,bh K H a Z
 | .ref a,.lst=>∃Z,bb K H a Z
 | .ref a,.br=>∃Y,H a=some (.dK Y)
 |_,_=>False
noncomputable def mY:Kn->String->Bool
 | .int,"int"=>true
 | .bl,"int"=>true
 | .bl,"bool"=>true
 | .str,"str"=>true
 | .tup,"tuple"=>true
 | .lst,"list"=>true
 |_,_=>false
section
variable {X:Cx}
def Inv.mB {π:List (Ì×Obj)} {σ:St} {H:Hp} {s:Á} {a:Ì} {xs:List V} (I:Inv X π σ H s) (h:bh X.K H a xs):∃o,s.heap.get? a=some o/\o.cls=.type "tuple":=by
 obtain ⟨ao,r,⟨o,e,c,_⟩,_⟩:=I.tuple h;exact ⟨o,e,c⟩
def Inv.mC {π:List (Ì×Obj)} {σ:St} {H:Hp} {s:Á} {a:Ì} {xs:List V} (I:Inv X π σ H s) (h:bb X.K H a xs):∃o,s.heap.get? a=some o/\o.cls=.type "list":=by
 obtain ⟨ao,r,⟨o,n,e,c,_⟩,_⟩:=I.list h;exact ⟨o,e,c⟩
def Inv.mE {π:List (Ì×Obj)} {σ:St} {H:Hp} {s:Á} {a:Ì} {aE:List (Key×V)} (I:Inv X π σ H s) (h:H a=some (.dK aE)):∃o,s.heap.get? a=some o/\o.cls=.type "dict":=by
 obtain ⟨_,_,W,_,p⟩:=(show cV X.prog X.w H s.heap a (.dK aE) from I.aA a _ h);obtain ⟨o,U,T,Z,Y,_⟩:=p;exact ⟨o,Z,Y.1⟩
def DY:dB X (.builtin "isinstance") (fun xs H Q=>∃x k,xs=[x,.ty "int"]/\ku X.K H x k/\Q (.bl (mY k "int")) H):=by
 intro T s σ H xs S Q I r h;obtain ⟨x,k,rfl,Z,q⟩:=h;obtain ⟨u,c,rfl,Y,rc⟩:=vals2 r;cases rc
 cases k with
 |au =>
  cases x with
  |au =>
   cases Y;exact IsiPair.NoneType_int ⟨.bl false,H,I.tok _,rfl,q⟩
  |_=>exact Z.elim
 |bl =>
  cases x with
  |bl b =>
   cases Y;exact IsiPair.bool_int ⟨.bl true,H,I,rfl,q⟩
  |_=>exact Z.elim
 |int =>
  cases x with
  |int i =>
   obtain ⟨t,rfl⟩:=Y;exact IsiPair.int_int ⟨.bl true,H,I,rfl,q⟩
  |_=>exact Z.elim
 |str =>
  cases x with
  |str y =>
   obtain ⟨t,rfl⟩:=Y;exact IsiPair.str_int ⟨.bl false,H,I.tok _,rfl,q⟩
  |_=>exact Z.elim
 |tup =>
  cases x with
  |ref a =>
   cases Y;obtain ⟨z,W⟩:=Z;obtain ⟨o,V,U⟩:=I.mB W;exact IsiPair.tuple_int V U ⟨.bl false,H,I.tok _,rfl,q⟩
  |_=>exact Z.elim
 |lst =>
  cases x with
  |ref a =>
   cases Y;obtain ⟨z,W⟩:=Z;obtain ⟨o,V,U⟩:=I.mC W;exact IsiPair.list_int V U ⟨.bl false,H,I.tok _,rfl,q⟩
  |_=>exact Z.elim
 |br =>
  cases x with
  |ref a =>
   cases Y;obtain ⟨z,W⟩:=Z;obtain ⟨o,V,U⟩:=I.mE W;exact IsiPair.dict_int V U ⟨.bl false,H,I.tok _,rfl,q⟩
  |_=>exact Z.elim
def DM:dB X (.builtin "isinstance") (fun xs H Q=>∃x k,xs=[x,.ty "bool"]/\ku X.K H x k/\Q (.bl (mY k "bool")) H):=by
 intro T s σ H xs S Q I r h;obtain ⟨x,k,rfl,Z,q⟩:=h;obtain ⟨u,c,rfl,Y,rc⟩:=vals2 r;cases rc
 cases k with
 |au =>
  cases x with
  |au =>
   cases Y;exact IsiPair.NoneType_bool ⟨.bl false,H,I.tok _,rfl,q⟩
  |_=>exact Z.elim
 |bl =>
  cases x with
  |bl b =>
   cases Y;exact IsiPair.bool_bool ⟨.bl true,H,I,rfl,q⟩
  |_=>exact Z.elim
 |int =>
  cases x with
  |int i =>
   obtain ⟨t,rfl⟩:=Y;exact IsiPair.int_bool ⟨.bl false,H,I.tok _,rfl,q⟩
  |_=>exact Z.elim
 |str =>
  cases x with
  |str y =>
   obtain ⟨t,rfl⟩:=Y;exact IsiPair.str_bool ⟨.bl false,H,I.tok _,rfl,q⟩
  |_=>exact Z.elim
 |tup =>
  cases x with
  |ref a =>
   cases Y;obtain ⟨z,W⟩:=Z;obtain ⟨o,V,U⟩:=I.mB W;exact IsiPair.tuple_bool V U ⟨.bl false,H,I.tok _,rfl,q⟩
  |_=>exact Z.elim
 |lst =>
  cases x with
  |ref a =>
   cases Y;obtain ⟨z,W⟩:=Z;obtain ⟨o,V,U⟩:=I.mC W;exact IsiPair.list_bool V U ⟨.bl false,H,I.tok _,rfl,q⟩
  |_=>exact Z.elim
 |br =>
  cases x with
  |ref a =>
   cases Y;obtain ⟨z,W⟩:=Z;obtain ⟨o,V,U⟩:=I.mE W;exact IsiPair.dict_bool V U ⟨.bl false,H,I.tok _,rfl,q⟩
  |_=>exact Z.elim
def DZ:dB X (.builtin "isinstance") (fun xs H Q=>∃x k,xs=[x,.ty "str"]/\ku X.K H x k/\Q (.bl (mY k "str")) H):=by
 intro T s σ H xs S Q I r h;obtain ⟨x,k,rfl,Z,q⟩:=h;obtain ⟨u,c,rfl,Y,rc⟩:=vals2 r;cases rc
 cases k with
 |au =>
  cases x with
  |au =>
   cases Y;exact IsiPair.NoneType_str ⟨.bl false,H,I.tok _,rfl,q⟩
  |_=>exact Z.elim
 |bl =>
  cases x with
  |bl b =>
   cases Y;exact IsiPair.bool_str ⟨.bl false,H,I.tok _,rfl,q⟩
  |_=>exact Z.elim
 |int =>
  cases x with
  |int i =>
   obtain ⟨t,rfl⟩:=Y;exact IsiPair.int_str ⟨.bl false,H,I.tok _,rfl,q⟩
  |_=>exact Z.elim
 |str =>
  cases x with
  |str y =>
   obtain ⟨t,rfl⟩:=Y;exact IsiPair.str_str ⟨.bl true,H,I,rfl,q⟩
  |_=>exact Z.elim
 |tup =>
  cases x with
  |ref a =>
   cases Y;obtain ⟨z,W⟩:=Z;obtain ⟨o,V,U⟩:=I.mB W;exact IsiPair.tuple_str V U ⟨.bl false,H,I.tok _,rfl,q⟩
  |_=>exact Z.elim
 |lst =>
  cases x with
  |ref a =>
   cases Y;obtain ⟨z,W⟩:=Z;obtain ⟨o,V,U⟩:=I.mC W;exact IsiPair.list_str V U ⟨.bl false,H,I.tok _,rfl,q⟩
  |_=>exact Z.elim
 |br =>
  cases x with
  |ref a =>
   cases Y;obtain ⟨z,W⟩:=Z;obtain ⟨o,V,U⟩:=I.mE W;exact IsiPair.dict_str V U ⟨.bl false,H,I.tok _,rfl,q⟩
  |_=>exact Z.elim
def DH:dB X (.builtin "isinstance") (fun xs H Q=>∃x k,xs=[x,.ty "tuple"]/\ku X.K H x k/\Q (.bl (mY k "tuple")) H):=by
 intro T s σ H xs S Q I r h;obtain ⟨x,k,rfl,Z,q⟩:=h;obtain ⟨u,c,rfl,Y,rc⟩:=vals2 r;cases rc
 cases k with
 |au =>
  cases x with
  |au =>
   cases Y;exact IsiPair.NoneType_tuple ⟨.bl false,H,I.tok _,rfl,q⟩
  |_=>exact Z.elim
 |bl =>
  cases x with
  |bl b =>
   cases Y;exact IsiPair.bool_tuple ⟨.bl false,H,I.tok _,rfl,q⟩
  |_=>exact Z.elim
 |int =>
  cases x with
  |int i =>
   obtain ⟨t,rfl⟩:=Y;exact IsiPair.int_tuple ⟨.bl false,H,I.tok _,rfl,q⟩
  |_=>exact Z.elim
 |str =>
  cases x with
  |str y =>
   obtain ⟨t,rfl⟩:=Y;exact IsiPair.str_tuple ⟨.bl false,H,I.tok _,rfl,q⟩
  |_=>exact Z.elim
 |tup =>
  cases x with
  |ref a =>
   cases Y;obtain ⟨z,W⟩:=Z;obtain ⟨o,V,U⟩:=I.mB W;exact IsiPair.tuple_tuple V U ⟨.bl true,H,I,rfl,q⟩
  |_=>exact Z.elim
 |lst =>
  cases x with
  |ref a =>
   cases Y;obtain ⟨z,W⟩:=Z;obtain ⟨o,V,U⟩:=I.mC W;exact IsiPair.list_tuple V U ⟨.bl false,H,I.tok _,rfl,q⟩
  |_=>exact Z.elim
 |br =>
  cases x with
  |ref a =>
   cases Y;obtain ⟨z,W⟩:=Z;obtain ⟨o,V,U⟩:=I.mE W;exact IsiPair.dict_tuple V U ⟨.bl false,H,I.tok _,rfl,q⟩
  |_=>exact Z.elim
def DN:dB X (.builtin "isinstance") (fun xs H Q=>∃x k,xs=[x,.ty "list"]/\ku X.K H x k/\Q (.bl (mY k "list")) H):=by
 intro T s σ H xs S Q I r h;obtain ⟨x,k,rfl,Z,q⟩:=h;obtain ⟨u,c,rfl,Y,rc⟩:=vals2 r;cases rc
 cases k with
 |au =>
  cases x with
  |au =>
   cases Y;exact IsiPair.NoneType_list ⟨.bl false,H,I.tok _,rfl,q⟩
  |_=>exact Z.elim
 |bl =>
  cases x with
  |bl b =>
   cases Y;exact IsiPair.bool_list ⟨.bl false,H,I.tok _,rfl,q⟩
  |_=>exact Z.elim
 |int =>
  cases x with
  |int i =>
   obtain ⟨t,rfl⟩:=Y;exact IsiPair.int_list ⟨.bl false,H,I.tok _,rfl,q⟩
  |_=>exact Z.elim
 |str =>
  cases x with
  |str y =>
   obtain ⟨t,rfl⟩:=Y;exact IsiPair.str_list ⟨.bl false,H,I.tok _,rfl,q⟩
  |_=>exact Z.elim
 |tup =>
  cases x with
  |ref a =>
   cases Y;obtain ⟨z,W⟩:=Z;obtain ⟨o,V,U⟩:=I.mB W;exact IsiPair.tuple_list V U ⟨.bl false,H,I.tok _,rfl,q⟩
  |_=>exact Z.elim
 |lst =>
  cases x with
  |ref a =>
   cases Y;obtain ⟨z,W⟩:=Z;obtain ⟨o,V,U⟩:=I.mC W;exact IsiPair.list_list V U ⟨.bl true,H,I,rfl,q⟩
  |_=>exact Z.elim
 |br =>
  cases x with
  |ref a =>
   cases Y;obtain ⟨z,W⟩:=Z;obtain ⟨o,V,U⟩:=I.mE W;exact IsiPair.dict_list V U ⟨.bl false,H,I.tok _,rfl,q⟩
  |_=>exact Z.elim
end
def mQ (p:Ì) (Ts:List String):Ă->Prop:=fun h=>h.get? p=some { cls:=.type "tuple",data:=.seq (Ts.map Value.type).toArray }
theorem zF:∀{Ts:List String} {us:List Â},Vals (Ts.map V.ty) us->us=Ts.map Value.type
 | [],_,.nil=>rfl
 |_::r,_,.cons h t=>by
  cases h;rw [zF t];rfl
def IP (t:TA):TE:=fun σ H Q=>t σ H fun Z Y=>∃X:List String,Z=X.map V.ty/\Z.length<=Ô/\∀p,Y p=none->Q (.ref p) (upd Y p (.ext (mQ p X)))
section
variable {X:Cx} {es:List ÿ} {t:TA} {pos:Pos}
def F7 {x1} (h:PA X es t):PE X (.Tuple es x1 pos) (IP t):=by
 intro V s σ H Q I U;refine wpAny_Tuple_spliced (aM (h pos V s σ H _ I U) fun P Z ⟨O,Y,W,r,T,e,z,q⟩=>⟨by rw [<- r.length];exact z,?_⟩);subst e;have S:=zF r;subst S;have R:Y Z.heap.objs.size=none:=W.aA.fresh (PJ _);refine ⟨.ref Z.heap.objs.size,upd Y Z.heap.objs.size (.ext (mQ Z.heap.objs.size T)),W.laid (t':=Z.toks) (fun b u e=>Ã _ e) (PJ _) ?_,rfl,q _ R⟩;refine ⟨Ï _ rfl,⟨_,Ï _ rfl⟩,fun N M e k=>k _ e⟩
def IQ {K:ô} {π:List (Ì×Obj)} {σ:St} {H:Hp} {s:Á} {x:V} {u:Â} {k:Kn} (I:Inv X π σ H s) (hk:ku X.K H x k) (r:RelV x u) :
  ∃Tx vs,AnswersAll (fun s=>s.TypeIs u Tx) u [.type "tuple",.type "list"] vs/\s.TypeIs u Tx/\vs.any id=(decide (k=.tup)||decide (k=.lst)):=by
 cases k with
 |au =>
  cases x with
  |au=>cases r;exact ⟨"NoneType",[false,false],.cons (.of_false_none (by decide +kernel) ģ F.sub_NoneType_tuple) (.cons (.of_false_none (by decide +kernel) ī F.sub_NoneType_list) .nil),rfl,rfl⟩
  |_=>exact hk.elim
 |bl =>
  cases x with
  |bl b=>cases r;exact ⟨"bool",[false,false],.cons (.of_false_bool (by decide +kernel) ģ F.sub_bool_tuple) (.cons (.of_false_bool (by decide +kernel) ī F.sub_bool_list) .nil),rfl,rfl⟩
  |_=>exact hk.elim
 |int =>
  cases x with
  |int b=>obtain ⟨t,rfl⟩:=r;exact ⟨"int",[false,false],.cons (.of_false_int (by decide +kernel) ģ F.sub_int_tuple) (.cons (.of_false_int (by decide +kernel) ī F.sub_int_list) .nil),rfl,rfl⟩
  |_=>exact hk.elim
 |str =>
  cases x with
  |str b=>obtain ⟨t,rfl⟩:=r;exact ⟨"str",[false,false],.cons (.of_false_str (by decide +kernel) ģ F.sub_str_tuple) (.cons (.of_false_str (by decide +kernel) ī F.sub_str_list) .nil),rfl,rfl⟩
  |_=>exact hk.elim
 |tup =>
  cases x with
  |ref a =>
   cases r;obtain ⟨z,Z⟩:=hk;exact ⟨"tuple",[true,false],.cons (.of_true ģ F.sub_tuple_tuple) (.cons (.of_false_tuple (by decide +kernel) ī F.sub_tuple_list) .nil),I.mB Z,rfl⟩
  |_=>exact hk.elim
 |lst =>
  cases x with
  |ref a =>
   cases r;obtain ⟨z,Z⟩:=hk;exact ⟨"list",[false,true],.cons (.of_false_list (by decide +kernel) ģ F.sub_list_tuple) (.cons (.of_true ī F.sub_list_list) .nil),I.mC Z,rfl⟩
  |_=>exact hk.elim
 |br =>
  cases x with
  |ref a =>
   cases r;obtain ⟨z,Z⟩:=hk;exact ⟨"dict",[false,false],.cons (.of_false_dict (by decide +kernel) ģ F.sub_dict_tuple) (.cons (.of_false_dict (by decide +kernel) ī F.sub_dict_list) .nil),I.mE Z,rfl⟩
  |_=>exact hk.elim
def F8 {bs:List Bool} (r:Vals (bs.map V.bl) ao):TruthOf X.prog X.w A (fun i v=>ao.toArray[i]?=some v) (fun i=>bs.getD i false):=by
 intro i v s Q E T S;have Z:ao[i]?=some v:=by simpa using T
 have hi:i<ao.length:=(È.mp Z).1;have Y:i<bs.length:=by
  have e:=r.length;rw [ß] at e;omega
 have R:(bs.map V.bl)[i]?=some (.bl (bs[i])):=by rw [û,ì Y];rfl
 obtain ⟨u,W,P⟩:=Vals.get r R;rw [Z] at W;cases W;cases P;have e:bs.getD i false=bs[i]:=by simp [List.getD,ì Y]
 have U:Q (bs.getD i false) s:=S;rw [e] at U;exact Ŀ U
def range_all (bs:List Bool):(ľ bs.length).all (fun i=>bs.getD i false)=bs.all id:=by
 rw [Ļ,đ,đ];constructor
 ·intro h b Z
  obtain ⟨i,hi,e⟩:=List.getElem_of_mem Z;have:=h i (Ņ.mpr hi);simpa [List.getD,ì hi,e] using this
 ·intro h i hi
  have hi:=Ņ.mp hi;have:=h _ (List.getElem_mem hi);simpa [List.getD,ì hi] using this
def F9 (hc:X.calm=true):dB X (.builtin "all") (fun xs H Q=>∃(p:Ì) (bs:List Bool),xs=[.ref p]/\bb X.K H p (bs.map V.bl)/\Q (.bl (bs.all id)) H):=by
 intro O s σ H xs N Q I r h;obtain ⟨p,bs,rfl,W,q⟩:=h;obtain ⟨u,rfl,U⟩:=vals1 r;cases U;obtain ⟨ao,Y,Z,M⟩:=I.list W;have T:ao.toArray.size=bs.length:=by
  have e:=Y.length;rw [ß] at e;simpa using e.symm
 have S:X.A.in1.handled=none:=I.ok.hd hc;refine call_all_walk (wpAny_pyIter_list Z.isList ?_);have old:p≠s.heap.objs.size:=â (by obtain ⟨o,n,e,_⟩:=Z;exact É e);refine ⟨s.heap.objs.size,[s.heap.objs.size,p],[s.heap.objs.size],ao.toArray.size,_,_,fun i=>bs.getD i false,rfl,Walks.list S s.heap.objs.size p old ao.toArray,⟨⟨_,Ï _ rfl,rfl,rfl⟩,Z.isList.at fun o e=>Ã _ e⟩,F8 Y,fun L R P=>?_⟩;rw [T,range_all];exact ⟨.bl _,H,I.kept (t':=R) fun b o e=>P b o (by simpa using â (É e)) (Ã _ e),rfl,q⟩
end
def oM:Key->Ŧ
 | .inl i=>.int i
 | .inr x=>.str x
mutual
def DV (K:ô) (Z:Ì->Prop) (H:Hp):Ŧ->V->Prop
 | .none,v=>v=.au
 | .bool b,v=>v=.bl b
 | .int i,v=>v=.int i
 | .str x,v=>v=.str x
 | .tuple X,v=>∃a Y,v=.ref a/\bh K H a Y/\ar K Z H X Y
 | .list X,v=>∃a Y,v=.ref a/\¬ Z a/\H a=some (.lst Y)/\ar K Z H X Y
 | .dict U,v=>∃a W,v=.ref a/\¬ Z a/\H a=some (.dK W)/\∃l:List (Key×Int),W=l.map (fun p=>(p.1,V.int p.2))/\U=l.map fun p=>(oM p.1,PyData.int p.2)
def ar (K:ô) (Z:Ì->Prop) (H:Hp):List Ŧ->List V->Prop
 | [],Y=>Y=[]
 |d::X,Y=>∃v r,Y=v::r/\DV K Z H d v/\ar K Z H X r
end
structure BW (K:ô) (Z:Ì->Prop) (H H':Hp):Prop where
 tup:∀b xs,bh K H b xs->bh K H' b xs
 lst:∀b xs,¬ Z b->H b=some (.lst xs)->H' b=some (.lst xs)
 br:∀b es,¬ Z b->H b=some (.dK es)->H' b=some (.dK es)
mutual
theorem DV.cG {K:ô} {Z:Ì->Prop} {H H':Hp} (S:BW K Z H H'):∀{d:Ŧ} {v:V},DV K Z H d v->DV K Z H' d v
 | .none,_,h=>h
 | .bool _,_,h=>h
 | .int _,_,h=>h
 | .str _,_,h=>h
 | .tuple T,v,h=>by
  simp only [DV] at h |-;obtain ⟨a,Y,e,X,r⟩:=h;exact ⟨a,Y,e,S.tup a Y X,ar.cG S r⟩
 | .list T,v,h=>by
  simp only [DV] at h |-;obtain ⟨a,Y,e,W,X,r⟩:=h;exact ⟨a,Y,e,W,S.lst a Y W X,ar.cG S r⟩
 | .dict R,v,h=>by
  simp only [DV] at h |-;obtain ⟨a,U,e,W,X,r⟩:=h;exact ⟨a,U,e,W,S.br a U W X,r⟩
theorem ar.cG {K:ô} {Z:Ì->Prop} {H H':Hp} (S:BW K Z H H'):∀{ds:List Ŧ} {vs:List V},ar K Z H ds vs->ar K Z H' ds vs
 | [],_,h=>h
 |d::ds,vs,h=>by
  simp only [ar] at h |-;obtain ⟨v,r,e,Y,X⟩:=h;exact ⟨v,r,e,DV.cG S Y,ar.cG S X⟩
end
mutual
theorem DV.more {K:ô} {Z:Ì->Prop} {H:Hp} {p:Ì} (hp:H p=none):∀{d:Ŧ} {v:V},DV K Z H d v->DV K (fun a=>Z a\/a=p) H d v
 | .none,_,h=>h
 | .bool _,_,h=>h
 | .int _,_,h=>h
 | .str _,_,h=>h
 | .tuple U,v,h=>by
  simp only [DV] at h |-;obtain ⟨a,X,e,Y,r⟩:=h;exact ⟨a,X,e,Y,ar.more hp r⟩
 | .list U,v,h=>by
  simp only [DV] at h |-;obtain ⟨a,X,e,W,Y,r⟩:=h;exact ⟨a,X,e,(fun z=>z.elim W fun e=>by subst e;rw [hp] at Y;cases Y),Y,ar.more hp r⟩
 | .dict S,v,h=>by
  simp only [DV] at h |-;obtain ⟨a,T,e,W,Y,r⟩:=h;exact ⟨a,T,e,(fun z=>z.elim W fun e=>by subst e;rw [hp] at Y;cases Y),Y,r⟩
theorem ar.more {K:ô} {Z:Ì->Prop} {H:Hp} {p:Ì} (hp:H p=none):∀{ds:List Ŧ} {vs:List V},ar K Z H ds vs->ar K (fun a=>Z a\/a=p) H ds vs
 | [],_,h=>h
 |d::ds,vs,h=>by
  simp only [ar] at h |-;obtain ⟨v,r,e,Y,X⟩:=h;exact ⟨v,r,e,DV.more hp Y,ar.more hp X⟩
end
mutual
theorem DV.less {K:ô} {Z Z':Ì->Prop} {H:Hp} (hW:∀a,Z' a->Z a):∀{d:Ŧ} {v:V},DV K Z H d v->DV K Z' H d v
 | .none,_,h=>h
 | .bool _,_,h=>h
 | .int _,_,h=>h
 | .str _,_,h=>h
 | .tuple U,v,h=>by
  simp only [DV] at h |-;obtain ⟨a,X,e,Y,r⟩:=h;exact ⟨a,X,e,Y,ar.less hW r⟩
 | .list U,v,h=>by
  simp only [DV] at h |-;obtain ⟨a,X,e,W,Y,r⟩:=h;exact ⟨a,X,e,fun z=>W (hW _ z),Y,ar.less hW r⟩
 | .dict S,v,h=>by
  simp only [DV] at h |-;obtain ⟨a,T,e,W,Y,r⟩:=h;exact ⟨a,T,e,fun z=>W (hW _ z),Y,r⟩
theorem ar.less {K:ô} {Z Z':Ì->Prop} {H:Hp} (hW:∀a,Z' a->Z a):∀{ds:List Ŧ} {vs:List V},ar K Z H ds vs->ar K Z' H ds vs
 | [],_,h=>h
 |d::ds,vs,h=>by
  simp only [ar] at h |-;obtain ⟨v,r,e,Y,X⟩:=h;exact ⟨v,r,e,DV.less hW Y,ar.less hW X⟩
end
section
variable {X:Cx} {π:List (Ì×Obj)} {σ:St} {H:Hp} {s:Á} {Z:Ì->Prop}
theorem sY:∀{l:List (Key×Int)} {vs:List (Key×Â)} {es:List DictEntry},KV (l.map fun p=>(p.1,V.int p.2)) vs->Pairs (qd P w) es vs ->
  ReadsAll h (es.map (·.key)) ((l.map fun p=>(oM p.1,PyData.int p.2)).map (·.1)) []/\ReadsAll h (es.map (·.val)) ((l.map fun p=>(oM p.1,PyData.int p.2)).map (·.2)) []
 | [],_,_,.nil,.nil=>⟨.nil,.nil⟩
 |(k,i)::l,_,_,.cons (b:=q) r t,.cons (e:=e) U T S=>by
  obtain ⟨a1,a2⟩:=sY (h:=h) t S;obtain ⟨Z,X,Y⟩:=r;have Z:k=q.1:=Z;have Y:q.2=Value.int i X:=Y;refine ⟨?_,?_⟩
  ·have W:vf q.1 e.key=true:=U
   rw [<- Z] at W;have:Reads h e.key (oM k) []:=by
    rcases iL W with ⟨j,u,e1,e2⟩ | ⟨x,u,e1,e2⟩
    ·rw [e1,e2];exact .int j u
    ·rw [e1,e2];exact .str x u
   exact ReadsAll.cons (as:=[]) (bs:=[]) this a1
  ·have:Reads h e.val (.int i) []:=by rw [T,Y];exact .int i X
   exact ReadsAll.cons (as:=[]) (bs:=[]) this a2
mutual
theorem DV.reads (I:Inv X π σ H s):∀{d:Ŧ} {v:V} {u:Â},DV X.K Z H d v->RelV v u->∃as,Reads s.heap u d as
 | .none,v,u,h,r=>by
  have e:v=.au:=h;subst e;cases r;exact ⟨[],.none⟩
 | .bool b,v,u,h,r=>by
  have e:v=.bl b:=h;subst e;cases r;exact ⟨[],.bool b⟩
 | .int i,v,u,h,r=>by
  have e:v=.int i:=h;subst e;obtain ⟨t,rfl⟩:=r;exact ⟨[],.int i t⟩
 | .str x,v,u,h,r=>by
  have e:v=.str x:=h;subst e;obtain ⟨t,rfl⟩:=r;exact ⟨[],.str x t⟩
 | .tuple R,v,u,h,r=>by
  simp only [DV] at h;obtain ⟨a,Q,e,Y,W⟩:=h;subst e;cases r;obtain ⟨ao,U,⟨o,e,c,n,T⟩,_⟩:=I.tuple Y;obtain ⟨as,S⟩:=ar.reads I W U;exact ⟨as,.tuple e c T (by simpa using S)⟩
 | .list R,v,u,h,r=>by
  simp only [DV] at h;obtain ⟨a,Q,e,_,Y,W⟩:=h;subst e;cases r;obtain ⟨ao,U,⟨o,n,e,c,_,T⟩,_⟩:=I.list (bb.of Y);obtain ⟨as,S⟩:=ar.reads I W U;exact ⟨a::as,.list e c T (by simpa using S)⟩
 | .dict L,v,u,h,r=>by
  simp only [DV] at h;obtain ⟨a,J,e,_,Y,l,e1,e2⟩:=h;subst e e1 e2;cases r;obtain ⟨_,_,G,P,o,F,E,g1,g2,g3,_,O,_⟩:=(show cV X.prog X.w H s.heap a (.dK _) from I.aA a _ Y);obtain ⟨N,M⟩:=sY (h:=s.heap) P O;exact ⟨a::[]++[],.dict g1 g2.1 g3 N M⟩
theorem ar.reads (I:Inv X π σ H s):∀{ds:List Ŧ} {vs:List V} {us:List Â},ar X.K Z H ds vs->Vals vs us->∃as,ReadsAll s.heap us ds as
 | [],vs,us,h,r=>by
  have e:vs=[]:=h;subst e;cases r;exact ⟨[],.nil⟩
 |d::ds,vs,us,h,r=>by
  obtain ⟨v,S,e,Y,W⟩:=h;subst e
  cases r with
  |cons U T =>
   obtain ⟨as,a1⟩:=DV.reads I Y U;obtain ⟨bs,a2⟩:=ar.reads I W T;exact ⟨as++bs,.cons a1 a2⟩
end
def BX (K:ô) (neg:Bool):R2:=fun x y H Q=>∃(d e:Ŧ) (Z:Ì->Prop),DV K Z H d x/\DV K Z H e y/\d.canLay0=true/\e.canLay0=true/\min d.depth e.depth<=100/\Q (.bl (if neg then !PyData.eqv d e else þ d e)) H
def IS (hr:aY k X.A):bq X (ă .Eq) (BX X.K false):=by
 intro O s σ H x y v u Q I Y W h;obtain ⟨d,e,Z,V,U,T,S,N,q⟩:=h;obtain ⟨as,R⟩:=V.reads I Y;obtain ⟨bs,P⟩:=U.reads I W;exact SeqAt.eqOverData _ _ _ _ _ _ _ _ _ _ _ _ R P T S (by have:=hr.un;omega) ⟨.bl _,H,I,rfl,q⟩
def IT (hr:aY k X.A):bq X (ă .NotEq) (BX X.K true):=by
 intro O s σ H x y v u Q I Y W h;obtain ⟨d,e,Z,V,U,T,S,N,q⟩:=h;obtain ⟨as,R⟩:=V.reads I Y;obtain ⟨bs,P⟩:=U.reads I W;exact SeqAt.neOverData _ _ _ _ _ _ _ _ _ _ _ _ R P T S (by have:=hr.un;omega) ⟨.bl _,H,I,rfl,q⟩
end
end L2
namespace HT
open PySem PySem.Spec PyProof.Rows
section
variable {prog:Ó} {w:î} {A:Ù} {E:Â->Á->Prop} {s:Á}
end
end HT
namespace L2
open PySem PySem.Spec PyProof.Rows
def ip.MJ {K:ô} {H H':Hp} {a:Ì} {xs:List V} (e:ip H H') (h:bh K H a xs):bh K H' a xs:=by
 rcases h with (h | ⟨o,h⟩)|h
 ·exact .inl (.inl (e _ _ h))
 ·exact .inl (.inr ⟨o,e _ _ h⟩)
 ·exact .inr h
theorem ip.upd (hn:H p=none):ip H (upd H p o):=fun b u e=>by rw [aG (bM e hn)];exact e
def lK (K:ô) (H:Hp) (ys:List V) (Q:VK):Prop:=∀a Z,ip H Z->bh K Z a ys->Q (.ref a) Z
def lK.here {K:ô} {H:Hp} {ys:List V} {Q:VK} {a:Ì} (h:lK K H ys Q) (hs:bh K H a ys):Q (.ref a) H:=h a H (ip.refl H) hs
def lK.new {K:ô} {H:Hp} {ys:List V} {Q:VK} {p:Ì} (h:lK K H ys Q) (hn:H p=none):Q (.ref p) (L2.upd H p (.tup ys)):=h p _ (ip.upd hn) (bh.of bZ)
section
variable {X:Cx} {e:ÿ} {te:TE} {pos p2 p3 p4:Pos}
def Kf (K:ô):R2:=fun x y H Q=>∃a b Z Y,x=.ref a/\y=.ref b/\bh K H a Z/\bh K H b Y/\Z.length+Y.length<=Ô/\lK K H (Z++Y) Q
def Hf:bq X (Ē .Add) (Kf X.K):=by
 intro M s σ H x y v u Q I W V h;obtain ⟨a,b,U,L,rfl,rfl,Z,Y,J,q⟩:=h;by_cases T:U=[]
 ·subst T
  cases W;cases V;obtain ⟨ao,G,F,_⟩:=I.tuple Z;obtain ⟨E,t,p2,_⟩:=I.tuple Y;cases G;obtain ⟨⟨cls,D,data,C⟩,S,R,n,P⟩:=id F;obtain ⟨⟨r,B,data2,A⟩,O,N,z,hd2⟩:=id p2;simp only at R P N hd2;subst R P N hd2;exact concat_meets ⟨_,S,rfl⟩ ⟨_,O,rfl⟩ noFill_tuple_add seq_tuple_add ť š (Ŗ _ _)
   (tuple_addW0 a b _ E.toArray n z D B C A (by simp)) ⟨S,O,⟨.ref b,H,I,rfl,q.here Y⟩⟩
 ·refine He M s σ H _ _ v u Q I W V ⟨a,b,U,L,rfl,rfl,Z,Y,T,J,fun e=>?_,fun _ p w=>q.new w⟩
  subst e;rw [Č] at q;exact q.here Z
end
end L2
namespace HZ
open PySem PySem.Spec PyProof.Rows
structure iC (P:Ó) (w:î) (A:Ù) (i l:Ì) (tn:Nat->Ă->Prop) (val:Nat->Option Â):Prop where
 keep:∀k h h',tn k h->(∀o,h.get? i=some o->h'.get? i=some o)->(∀o,h.get? l=some o->h'.get? l=some o)->tn k h'
 item:∀k (s:Á) (Q:Â->Á->Prop) (E:Â->Á->Prop) x,tn k s.heap->val k=some x->(∀h',tn (k+1) h'->Ĭ i s.heap h'->Q x { s with heap:=h' })->Ö (Ø P w) A (ê (.ref i)) Q E s
 stop:∀k (s:Á) (Q:Â->Á->Prop) (E:Â->Á->Prop),tn k s.heap->val k=none->(∀h' e,Heap.ExtBut i s.heap h'->(∃o,h'.get? e=some o/\o.cls=.type "StopIteration")->E (.ref e) { s with heap:=h' })->Ö (Ø P w) A (ê (.ref i)) Q E s
 obj:∀k h,tn k h->∃o,h.get? i=some o/\∀v,o.data≠.cell v
section
variable {P:Ó} {w:î} {A:Ù} {E:Â->Á->Prop} {s:Á}
def EA (g:s.heap.IsTupleIter it t k) (gt:s.heap.IsTuple t ao) (gx:ao[k]?=some x)
 (q:∀h',h'.IsTupleIter it t (k+1)->Ĭ it s.heap h'->Q x { s with heap:=h' }):Ö (Ø P w) A (ê (.ref it)) Q E s:=by
 obtain ⟨o,go,Y,Z⟩:=id g;obtain ⟨ol,X,_,nl,W⟩:=gt;unfold ê;refine À (į (name:=Str.ofString "__next__") g.typeIs Ģ
  (ı Ģ g.typeIs F.entry_tuple_iterator_next ?_ (F.args_tuple_iterator_next_1 _)))
 show Ö _ _ (field (.ref it) 0 >>= _) _ _ _;refine À (ġ go Z (x:=.ref t) rfl ?_)
 show Ö _ _ (if (ý t==Value.none)=true then _ else _) _ _ _
 rw [ë (fun z:(ý t==Value.none)=true=>Î z)];show Ö _ _ (field (.ref it) 1 >>= _) _ _ _;refine À (ġ go Z (x:=.int k 0) rfl ?_);show Ö _ _ (seqItems? (.ref t) >>= _) _ _ _;refine À (Ė X W ?_);simp only [Int.toNat_natCast,gx];refine À (wpAny_setField go Z (by simp) (Ë ⟨x,rfl,Ë (q _ ?_ (Heap.SameBut.update ..))⟩));exact ⟨_,ŵ _ go (Obj.isFreed_of_fields (Obj.data_mapFields Z _)),(Obj.cls_mapFields ..).trans Y,by rw [Obj.data_mapFields Z];simp [Ų]⟩
def DJ (gh:A.handled=none) (g:s.heap.IsTupleIter it t k) (gt:s.heap.IsTuple t ao) (gx:ao[k]?=none)
 (q:∀h' e,Heap.ExtBut it s.heap h'->(∃o,h'.get? e=some o/\o.cls=.type "StopIteration")->E (.ref e) { s with heap:=h' }):Ö (Ø P w) A (ê (.ref it)) Q E s:=by
 obtain ⟨o,go,W,Z⟩:=id g;obtain ⟨ol,Y,_,nl,X⟩:=gt;unfold ê;refine À (į (name:=Str.ofString "__next__") g.typeIs Ģ
  (ı Ģ g.typeIs F.entry_tuple_iterator_next ?_ (F.args_tuple_iterator_next_1 _)))
 show Ö _ _ (field (.ref it) 0 >>= _) _ _ _;refine À (ġ go Z (x:=.ref t) rfl ?_)
 show Ö _ _ (if (ý t==Value.none)=true then _ else _) _ _ _
 rw [ë (fun z:(ý t==Value.none)=true=>Î z)];show Ö _ _ (field (.ref it) 1 >>= _) _ _ _;refine À (ġ go Z (x:=.int k 0) rfl ?_);show Ö _ _ (seqItems? (.ref t) >>= _) _ _ _;refine À (Ė Y X ?_);simp only [Int.toNat_natCast,gx];refine À (wpAny_rule (À (wpAny_setField go Z (by simp) ?_)));show Ö _ _ (newExc (.type "StopIteration") [] >>= _) _ _ (_:Á);refine À ?_;simp only [newExc,newTuple];refine À (ŀ ?_ (by size_fits))
 refine À (m:=firstArgMember _ _) (wpAny_of_eq (a:=Value.none) (by first|rfl | (unfold firstArgMember;rfl)) ?_)
 refine ŀ ?_ (by size_fits);simp only [raiseNew];refine À (wpAny_handled ?_)
 first|rw [gh]|rw [show A.in1.handled=none from gh]
 refine À (Ë (wpAny_throw ?_));exact q _ _ (((Heap.SameBut.update ..).extBut.push _).push _) ⟨_,Ï _ rfl,rfl⟩
def Hg (gh:A.handled=none) (i l:Ì) (ao:Array Â):iC P w A i l (fun k h=>h.IsTupleIter i l k/\h.IsTuple l ao) (fun k=>ao[k]?) where
 keep:=fun k h Y Z U T=>⟨Z.1.at U,by obtain ⟨o,e,r⟩:=Z.2;exact ⟨o,T o e,r⟩⟩
 item:=fun k s Q E x Z e q=>EA Z.1 Z.2 e fun Y g X=>by
  by_cases W:l=i
  ·exfalso
   subst W;obtain ⟨o,e1,S,_⟩:=Z.1;obtain ⟨R,e2,V,_⟩:=Z.2;rw [e1] at e2;cases e2;rw [S] at V;simp at V
  ·obtain ⟨o,e2,r⟩:=Z.2
   exact q Y ⟨g,o,(X.2 l W).trans e2,r⟩ X
 stop:=fun k s Q E Z e q=>DJ gh Z.1 Z.2 e q
 obj:=fun k h Z=>by
  obtain ⟨o,e,_,d⟩:=Z.1;exact ⟨o,e,fun v z=>by rw [d] at z;cases z⟩
def Hh (gh:A.handled=none) (i l:Ì) (ao:Array Â):iC P w A i l (fun k h=>h.IsListIter i l k/\h.IsList l ao) (fun k=>ao[k]?) where
 keep:=fun k h Y Z U T=>⟨Z.1.at U,Z.2.at T⟩
 item:=fun k s Q E x Z e q=>wpAny_nextOf_list_item Z.1 Z.2 e fun Y g X=>by
  by_cases W:l=i
  ·exfalso
   subst W;obtain ⟨o,e1,S,_⟩:=Z.1;obtain ⟨R,e2,V,_⟩:=Z.2;rw [e1] at e2;cases e2;rw [S] at V;simp at V
  ·exact q Y ⟨g,Z.2.at fun o e2=>(X.2 l W).trans e2⟩ X
 stop:=fun k s Q E Z e q=>wpAny_nextOf_list_end gh Z.1 Z.2 e q
 obj:=fun k h Z=>by
  obtain ⟨o,e,_,d⟩:=Z.1;exact ⟨o,e,fun v z=>by rw [d] at z;cases z⟩
structure Apart (z ti to j1 j2 m1 m2:Ì):Prop where
 a1:ti≠z
 a2:to≠z
 a3:j1≠z
 a4:j2≠z
 a5:ti≠to
 a6:ti≠j1
 a7:ti≠j2
 a8:to≠j1
 a9:to≠j2
 b0:j1≠j2
 b1:m1≠z
 b2:m1≠to
 b3:m1≠j1
 b4:m1≠j2
 b5:m2≠z
 b6:m2≠to
 b7:m2≠j1
 b8:m2≠j2
def Ga {t1 t2:Nat->Ă->Prop} {v1 v2:Nat->Option Â} {k:Nat} {Q:Â->Á->Prop} (D:Apart z ti to j1 j2 m1 m2) (S1:iC P w A j1 m1 t1 v1) (S2:iC P w A j2 m2 t2 v2)
 (gz:IsZip s.heap z ti to .none) (gi:Ŋ s.heap ti (.ref j1) (.ref j2)) (go:Ŋ s.heap to a b) (h1:t1 k s.heap) (h2:t2 k s.heap) (hx:v1 k=some x) (hy:v2 k=some y)
 (q:∀h',IsZip h' z ti to (Ų s.heap.objs.size)->Ŋ h' to x y->t1 (k+1) h'->t2 (k+1) h'->Ŋ h' s.heap.objs.size x y->h'.objs.size=s.heap.objs.size+1 ->
 (∀c o,c≠z->c≠to->c≠j1->c≠j2->s.heap.get? c=some o->h'.get? c=some o)->Q (.ref s.heap.objs.size) { s with heap:=h' }) :
  Ö (Ø P w) A (Pp.«zip.__next__» ⟨[.ref z],[]⟩) (fun fin s'=>∃v,fin=.done (.ret v)/\Q v s') E s:=by
 show Ö _ _ (field (.ref z) 2 >>= _) _ _ (_:Á);refine À (ġ gz rfl (x:=.bool false) rfl ?_);show Ö _ _ (field (.ref z) 3 >>= _) _ _ (_:Á);refine À (ġ gz rfl (x:=.ref ti) rfl ?_);refine À (Ė gi rfl ?_);show Ö _ _ (Ć (.ref z) >>= _) _ _ (_:Á);refine À ?_;unfold Ć;refine À (ġ gz rfl (x:=.none) rfl (Ë ?_));simp only [Ę];refine À (wpAny_rule ?_);refine À (ġ gz rfl (x:=.ref to) rfl ?_);refine À (ĥ gz (by simp) fun p N Y=>?_)
 replace N:IsZip p z ti to .ellipsis:=N
 refine À ?_;simp only [List.zipIdx_cons,List.zipIdx_nil,Ţ,List.forIn_nil];refine À (À (wpAny_onRaise ?_));show Ö _ _ (ê (.ref j1) >>= _) _ _ (_:Á);refine À (S1.item k _ _ _ x (S1.keep k _ _ h1 (fun o e=>Y.extBut _ _ D.a3 e) (fun o e=>Y.extBut _ _ D.b1 e)) hx fun n m V=>Ë ?_);have G:Ŋ n to a b:=V.extBut _ _ D.a8 (Y.extBut _ _ D.a2 go);refine À (Ė G rfl ?_);refine À (wpAny_updateSeq_pair G fun l M X=>?_)
 replace M:Ŋ l to x b:=M
 refine À (wpAny_letGo (Ë ?_));refine À (À (wpAny_onRaise ?_));show Ö _ _ (ê (.ref j2) >>= _) _ _ (_:Á);refine À (S2.item k _ _ _ y (S2.keep k _ _ h2 (fun o e=>X.extBut _ _ D.a9.symm (V.extBut _ _ D.b0.symm (Y.extBut _ _ D.a4 e))) (fun o e=>X.extBut _ _ D.b6 (V.extBut _ _ D.b7 (Y.extBut _ _ D.b5 e)))) hy fun j i U=>Ë ?_);have F:Ŋ j to x b:=U.extBut _ _ D.a9 M;refine À (Ė F rfl ?_);refine À (wpAny_updateSeq_pair F fun Z S s5=>?_)
 replace S:Ŋ Z to x y:=S
 refine À (wpAny_letGo (Ë (Ë ?_)));refine À (Ė S rfl ?_);refine À (wpAny_newTuple ?_);have C:Z.objs.size=s.heap.objs.size:=by rw [s5.1,U.1,X.1,V.1,Y.1]
 have B:IsZip Z z ti to .ellipsis:=s5.extBut _ _ D.a2.symm (U.extBut _ _ D.a4.symm (X.extBut _ _ D.a2.symm (V.extBut _ _ D.a3.symm N)));have h:∀c o,c≠z->c≠to->c≠j1->c≠j2->s.heap.get? c=some o->Z.get? c=some o:=fun c o W R L K e=>s5.extBut _ _ R (U.extBut _ _ K (X.extBut _ _ R (V.extBut _ _ L (Y.extBut _ _ W e))));have g:t1 (k+1) Z:=S1.keep _ _ _ m (fun o e=>s5.extBut _ _ D.a8.symm (U.extBut _ _ D.b0 (X.extBut _ _ D.a8.symm e))) (fun o e=>s5.extBut _ _ D.b2 (U.extBut _ _ D.b4 (X.extBut _ _ D.b2 e)));have f:t2 (k+1) Z:=S2.keep _ _ _ i (fun o e=>s5.extBut _ _ D.a9.symm e) (fun o e=>s5.extBut _ _ D.b6 e);have u:z<Z.objs.size:=É B;show Ö _ _ (ŋ (.ref z) (.ref Z.objs.size) >>= _) _ _ (_:Á);refine À ?_;unfold ŋ;have d:IsZip (Z.push { cls:=.type "tuple",data:=.seq #[x,y] }) z ti to .ellipsis:=Ã _ B;refine À (ĥ d (by simp) fun p7 J I=>?_)
 replace J:IsZip p7 z ti to (Ų Z.objs.size):=J
 refine ĥ J (by simp) fun T O H=>?_
 replace O:IsZip T z ti to (Ų Z.objs.size):=O
 have up:∀c o,c≠z->Z.get? c=some o->T.get? c=some o:=fun c o W e=>H.extBut _ _ W (I.extBut _ _ W (Ã _ e));have t:Ŋ T Z.objs.size x y:=H.extBut _ _ (ĺ u) (I.extBut _ _ (ĺ u) (Ï _ rfl));have r:T.objs.size=Z.objs.size+1:=by rw [H.1,I.1,ö]
 rw [C] at O t r;refine Ë ⟨_,rfl,?_⟩;show Q (.ref Z.objs.size) _;rw [C];exact q T O (up _ _ D.a2 S) (S1.keep _ _ _ g (fun o e=>up _ o D.a3 e) (fun o e=>up _ o D.b1 e)) (S2.keep _ _ _ f (fun o e=>up _ o D.a4 e) (fun o e=>up _ o D.b5 e)) t r fun c o W R L K e=>up c o W (h c o W R L K e)
def Hi (D:Apart z ti to j1 j2 m1 m2) (S1:iC P w A j1 m1 t1 v1) (S2:iC P w A j2 m2 t2 v2)
 (gz:IsZip s.heap z ti to .none) (gi:Ŋ s.heap ti (.ref j1) (.ref j2)) (go:Ŋ s.heap to a b) (h1:t1 k s.heap) (h2:t2 k s.heap) (v5:v1 k=none\/v2 k=none)
 (q:∀h' e,(∀c o,c≠z->c≠to->c≠j1->c≠j2->s.heap.get? c=some o->h'.get? c=some o)->(∃o,h'.get? e=some o/\o.cls=.type "StopIteration")->E (.ref e) { s with heap:=h' }) :
  Ö (Ø P w) A (Pp.«zip.__next__» ⟨[.ref z],[]⟩) Q E s:=by
 show Ö _ _ (field (.ref z) 2 >>= _) _ _ (_:Á);refine À (ġ gz rfl (x:=.bool false) rfl ?_);show Ö _ _ (field (.ref z) 3 >>= _) _ _ (_:Á);refine À (ġ gz rfl (x:=.ref ti) rfl ?_);refine À (Ė gi rfl ?_);show Ö _ _ (Ć (.ref z) >>= _) _ _ (_:Á);refine À ?_;unfold Ć;refine À (ġ gz rfl (x:=.none) rfl (Ë ?_));simp only [Ę];refine À (wpAny_rule ?_);refine À (ġ gz rfl (x:=.ref to) rfl ?_);refine À (ĥ gz (by simp) fun N V Y=>?_)
 replace V:IsZip N z ti to .ellipsis:=V
 refine À ?_;simp only [List.zipIdx_cons,List.zipIdx_nil,Ţ,List.forIn_nil];refine À (À (wpAny_onRaise ?_));show Ö _ _ (ê (.ref j1) >>= _) _ _ (_:Á);have M:t1 k N:=S1.keep k _ _ h1 (fun o e=>Y.extBut _ _ D.a3 e) (fun o e=>Y.extBut _ _ D.b1 e)
 cases U:v1 k with
 |none =>
  refine À (S1.stop k _ _ _ M U fun T e Z S=>?_);obtain ⟨R,g1,g2⟩:=S;have L:IsZip T z ti to .ellipsis:=Z _ _ D.a3.symm V;have ne:e≠z:=fun u=>by subst u;rw [L] at g1;cases g1;simp at g2
  refine ĥ L (by simp) fun K _ X=>q K e (fun c o W _ O _ u=>X.extBut _ _ W (Z _ _ O (Y.extBut _ _ W u))) ⟨R,X.extBut _ _ ne g1,g2⟩
 |some x =>
  have G:v2 k=none:=by
   rcases v5 with h|h
   ·rw [U] at h;cases h
   ·exact h
  refine À (S1.item k _ _ _ x M U fun T v Z=>Ë ?_);have J:Ŋ T to a b:=Z.extBut _ _ D.a8 (Y.extBut _ _ D.a2 go);refine À (Ė J rfl ?_);refine À (wpAny_updateSeq_pair J fun K t X=>?_);refine À (wpAny_letGo (Ë ?_));refine À (À (wpAny_onRaise ?_));show Ö _ _ (ê (.ref j2) >>= _) _ _ (_:Á);refine À (S2.stop k _ _ _ (S2.keep k _ _ h2 (fun o e=>X.extBut _ _ D.a9.symm (Z.extBut _ _ D.b0.symm (Y.extBut _ _ D.a4 e))) (fun o e=>X.extBut _ _ D.b6 (Z.extBut _ _ D.b7 (Y.extBut _ _ D.b5 e)))) G fun F e I S=>?_);obtain ⟨R,g1,g2⟩:=S;have H:IsZip F z ti to .ellipsis:=I _ _ D.a4.symm (X.extBut _ _ D.a2.symm (Z.extBut _ _ D.a3.symm V));have ne:e≠z:=fun u=>by subst u;rw [H] at g1;cases g1;simp at g2
  refine ĥ H (by simp) fun C _ s5=>q C e (fun c o W B O y u=>s5.extBut _ _ W (I _ _ y (X.extBut _ _ B (Z.extBut _ _ O (Y.extBut _ _ W u))))) ⟨R,s5.extBut _ _ ne g1,g2⟩
def next_item (D:Apart z ti to j1 j2 m1 m2) (S1:iC P w A.in1 j1 m1 t1 v1) (S2:iC P w A.in1 j2 m2 t2 v2)
 (gz:IsZip s.heap z ti to .none) (gi:Ŋ s.heap ti (.ref j1) (.ref j2)) (go:Ŋ s.heap to a b) (h1:t1 k s.heap) (h2:t2 k s.heap) (hx:v1 k=some x) (hy:v2 k=some y)
 (q:∀h',IsZip h' z ti to (Ų s.heap.objs.size)->Ŋ h' to x y->t1 (k+1) h'->t2 (k+1) h'->Ŋ h' s.heap.objs.size x y->h'.objs.size=s.heap.objs.size+1 ->
 (∀c o,c≠z->c≠to->c≠j1->c≠j2->s.heap.get? c=some o->h'.get? c=some o)->Q (some (.ref s.heap.objs.size)) { s with heap:=h' }):Ö (Ø P w) A (pyNext (.ref z)) Q E s:=by
 have Z:s.TypeIs (.ref z) "zip":=⟨_,gz,rfl⟩;unfold pyNext;exact À (ſ (į (name:=Str.ofString "__next__") Z ο
  (ı ο Z F.entry_zip_next (Ga D S1 S2 gz gi go h1 h2 hx hy fun h' a1 a2 Y X W V U=>Ë (q h' a1 a2 Y X W V U)) (F.args_zip_next_1 _))))
def next_end (D:Apart z ti to j1 j2 m1 m2) (S1:iC P w A.in1 j1 m1 t1 v1) (S2:iC P w A.in1 j2 m2 t2 v2)
 (gz:IsZip s.heap z ti to .none) (gi:Ŋ s.heap ti (.ref j1) (.ref j2)) (go:Ŋ s.heap to a b) (h1:t1 k s.heap) (h2:t2 k s.heap) (v5:v1 k=none\/v2 k=none)
 (q:∀h',(∀c o,c≠z->c≠to->c≠j1->c≠j2->s.heap.get? c=some o->h'.get? c=some o)->Q none { s with heap:=h' }):Ö (Ø P w) A (pyNext (.ref z)) Q E s:=by
 have Z:s.TypeIs (.ref z) "zip":=⟨_,gz,rfl⟩;unfold pyNext;refine À (ſ (į (name:=Str.ofString "__next__") Z ο
  (ı ο Z F.entry_zip_next (Hi D S1 S2 gz gi go h1 h2 v5 fun h' e Y X=>?_) (F.args_zip_next_1 _))))
 obtain ⟨o,W,V⟩:=X;exact À (wpAny_isInstance (T:="StopIteration") (b:=true) ⟨o,W,V⟩ isSubtype_stop (Ë (q _ Y)))
end
end HZ
namespace L2
open PySem PySem.Spec PyProof.Rows
def IU {X:Cx} {π:List (Ì×Obj)} {σ:St} {H:Hp} {s:Á} {a b:Ì} {xs:List V} (I:Inv X π σ H s) (h:bh X.K H a xs) (f:fM X π H b):a≠b:=by
 rintro rfl;obtain ⟨f0,_,_,Y,_⟩:=f
 rcases h with (h | ⟨o,h⟩) | ⟨o,ao,n,W,_⟩
 ·rw [f0] at h;cases h
 ·rw [f0] at h;cases h
 ·have Z:=I.mod.gn a o W
  rcases Y with z|z
  ·exact I.ok.lF a o Z z
  ·exact absurd (Æ (É Z) (ç I.ok.gp z)) (ð _)
def IV {X:Cx} {π:List (Ì×Obj)} {σ:St} {H:Hp} {s:Á} {a b:Ì} {xs:List V} (I:Inv X π σ H s) (h:bb X.K H a xs) (f:fM X π H b):a≠b:=by
 rintro rfl;obtain ⟨f0,_,_,Y,_⟩:=f
 rcases h with (h | ⟨o,h⟩) | ⟨o,ao,n,W,_⟩
 ·rw [f0] at h;cases h
 ·rw [f0] at h;cases h
 ·have Z:=I.mod.gn a o W
  rcases Y with z|z
  ·exact I.ok.lF a o Z z
  ·exact absurd (Æ (É Z) (ç I.ok.gp z)) (ð _)
def Inv.yT {X:Cx} {π:List (Ì×Obj)} {σ:St} {H:Hp} {s:Á} {h':Ă} {t':Nat} {ch:List Ì} (I:Inv X π σ H s) (k:∀b o,b∉ch->s.heap.get? b=some o->h'.get? b=some o) (hf:∀b∈ch,fM X π H b) :
  Inv X π σ H { s with heap:=h',toks:=t' }:=by
 have Y:∀b u,H b=some u->b∉ch:=fun b u e z=>by rw [(hf b z).1] at e;cases e
 refine I.step (g':=s.gens) (d':=s.drawn) (ch:=ch) (fun b W=>?_) (fun b o _ _ Z e _=>k b o Z e) (fun b o _ _ Z e _=>⟨o.slots,k b o Z e⟩) (fun _ _ _ _ n=>n) (fun b o Z e=>⟨o,k b o Z e⟩) (fun _ _ e=>e) (fun _ _ _ e=>e)
  (fun b P e=>⟨#[],by rw [e];simp⟩) (fun m V=>?_) (fun b u e=>?_) I.bare
 ·obtain ⟨_,f1,_,U,f4,T⟩:=hf b W
  exact ⟨U,f1,f4,T⟩
 ·obtain ⟨o,S,R,Q,r⟩:=V
  exact ⟨o,S,R,k _ o (fun z=>(hf _ z).2.1 rfl) Q,r⟩
 ·refine (I.aA b u e).cG (fun c v Z q=>k c v ?_ q) (fun _ q=>q) fun _ _ q=>q
  rcases Z with z|z
  ·rw [z];exact Y b u e
  ·exact Y c _ z
def Inv.Fc {X:Cx} {π:List (Ì×Obj)} {σ:St} {H:Hp} {s:Á} {h':Ă} {t':Nat} {ch:List Ì} {p:Ì} {u:HO} (I:Inv X π σ H s) (k:∀b o,b∉ch->s.heap.get? b=some o->h'.get? b=some o) (hf:∀b∈ch,fM X π H b)
  (hp:s.heap.objs.size<=p) (new:cV X.prog X.w (upd H p u) h' p u):Inv X π σ (upd H p u) { s with heap:=h',toks:=t' }:=by
 have Y:H p=none:=I.aA.fresh hp;have aA:bL X.prog X.w (upd H p u) h':=(I.yT (t':=t') k hf).aA.adopt Y new;refine I.step (g':=s.gens) (d':=s.drawn) (ch:=ch) (fun b W=>?_) (fun b o _ _ Z e _=>k b o Z e) (fun b o _ _ Z e _=>⟨o.slots,k b o Z e⟩) (fun b o _ e n=>?_) (fun b o Z e=>⟨o,k b o Z e⟩) (fun c P e=>by rw [aG (bM e Y)];exact e) (fun c o v e=>by rw [aG (bM e Y)];exact e)
  (fun c O e=>⟨#[],by rw [aG (bM e Y),e];simp⟩) (fun m V=>?_) aA I.bare
 ·obtain ⟨_,f1,_,U,f4,T⟩:=hf b W
  exact ⟨U,f1,f4,T⟩
 ·rw [aG (â (Æ (É e) hp))]
  exact n
 ·obtain ⟨o,S,R,Q,r⟩:=V
  exact ⟨o,S,R,k _ o (fun z=>(hf _ z).2.1 rfl) Q,r⟩
@[reducible] def gy:Bool->ô->Hp->Ì->List V->Prop
 |true=>bh
 |false=>bb
@[reducible] def iD:Bool->Ă->Ì->Array Â->Prop
 |true=>Heap.IsTuple
 |false=>Heap.IsList
@[reducible] def jE:Bool->Ă->Ì->Ì->Nat->Prop
 |true=>Heap.IsTupleIter
 |false=>Heap.IsListIter
def Inv.mZ {X:Cx} {π:List (Ì×Obj)} {σ:St} {H:Hp} {s:Á} {a:Ì} {xs:List V} (I:Inv X π σ H s):∀{k},gy k X.K H a xs->∃ao,Vals xs ao/\iD k s.heap a ao.toArray
 |true,h=>by obtain ⟨i,r,p,_⟩:=I.tuple h;exact ⟨i,r,p⟩
 |false,h=>by obtain ⟨i,r,p,_⟩:=I.list h;exact ⟨i,r,p.isList⟩
def Inv.y8 {X:Cx} {π:List (Ì×Obj)} {σ:St} {H:Hp} {s:Á} {a:Ì} {xs ys:List V} (I:Inv X π σ H s):∀{k},gy k X.K H a xs->gy k X.K H a ys->xs=ys
 |true,h,g=>I.yM h g
 |false,h,g=>I.yY h g
def qD {X:Cx} {π:List (Ì×Obj)} {σ:St} {H:Hp} {s:Á} {a b:Ì} {xs:List V} (I:Inv X π σ H s):∀{k},gy k X.K H a xs->fM X π H b->a≠b
 |true,h,f=>IU I h f
 |false,h,f=>IV I h f
def rD (gh:A.handled=none) (i l:Ì) (ao:Array Â):∀k,HZ.iC P w A i l (fun n h=>jE k h i l n/\iD k h l ao) (fun n=>ao[n]?)
 |true=>HZ.Hg gh i l ao
 |false=>HZ.Hh gh i l ao
def qE (k:∀o,h.get? i=some o->h'.get? i=some o):∀{b},jE b h i l n->jE b h' i l n
 |true,x=>x.at k
 |false,x=>x.at k
def qf:∀{b},jE b h i l n->∃o,h.get? i=some o/\∀v,o.data≠.cell v
 |true,x=>by obtain ⟨o,e,_,d⟩:=x;exact ⟨o,e,fun v q=>by rw [d] at q;cases q⟩
 |false,x=>by obtain ⟨o,e,_,d⟩:=x;exact ⟨o,e,fun v q=>by rw [d] at q;cases q⟩
def oO (k l:Bool) (K:ô) (a b:Ì):It :=
 ⟨fun i H=>∃Z Y x y,gy k K H a Z/\gy l K H b Y/\Z[i]?=some x/\Y[i]?=some y,fun i H v X=>∃p x y,H p=none/\v=.ref p/\X=upd H p (.tup [x,y])/\∀Z Y,gy k K H a Z->gy l K H b Y->Z[i]?=some x/\Y[i]?=some y,
  fun i H=>∃Z Y,gy k K H a Z/\gy l K H b Y/\(Z.length<=i\/Y.length<=i)⟩
abbrev LR:=oO true true
abbrev LS:=oO false false
structure Kg (it:Nat->Ă->Prop) (xb:Nat->Ă->Prop) (z ti to j1 j2:Ì) (i:Nat) (h:Ă):Prop where
 z:IsZip h z ti to .none
 ti:Ŋ h ti (.ref j1) (.ref j2)
 to:∃u v,Ŋ h to u v
 h1:it i h
 h2:xb i h
structure BY (z ti to j1 j2:Ì):Prop where
 a1:ti≠z
 a2:to≠z
 a3:j1≠z
 a4:j2≠z
 a5:ti≠to
 a6:ti≠j1
 a7:ti≠j2
 a8:to≠j1
 a9:to≠j2
 b0:j1≠j2
def Fd {k1 k2:Bool} {P:Ó} {w:î} {K:ô} {elts:List ÿ} {kk:Nat} {pos:Pos} (a b z ti to j1 j2:Ì) (F:BY z ti to j1 j2) :
  Turn P w K (.Tuple elts kk pos) (oO k1 k2 K a b) [z,ti,to,j1,j2] z (Kg (fun i h=>jE k1 h j1 a i) (fun i h=>jE k2 h j2 b i) z ti to j1 j2) where
 mem:=by simp
 obj:=fun i h Z c S=>by
  have M:c=z\/c=ti\/c=to\/c=j1\/c=j2:=by simpa using S
  rcases M with rfl|rfl|rfl|rfl|rfl
  ·exact ⟨_,Z.z,fun v q=>nomatch q⟩
  ·exact ⟨_,Z.ti,fun v q=>nomatch q⟩
  ·obtain ⟨u,v,q⟩:=Z.to;exact ⟨_,q,fun v q=>nomatch q⟩
  ·exact qf Z.h1
  ·exact qf Z.h2
 keep:=fun i h l Z k=>⟨k z (by simp) _ Z.z,k ti (by simp) _ Z.ti,by obtain ⟨u,v,q⟩:=Z.to;exact ⟨u,v,k to (by simp) _ q⟩,qE (fun o e=>k j1 (by simp) o e) Z.h1,qE (fun o e=>k j2 (by simp) o e) Z.h2⟩
 item:=by
  intro X L hw J S i j s σ H E I Y Z G;subst L hw J;obtain ⟨f,d,x,y,V,U,ex,g⟩:=G;obtain ⟨C,B,t⟩:=I.mZ V;obtain ⟨r,p,n⟩:=I.mZ U;obtain ⟨u,eu,ru⟩:=B.get ex;obtain ⟨v,ev,rv⟩:=p.get g;have ne:∀c∈[z,ti,to,j1,j2],a≠c/\b≠c:=fun c W=>⟨qD I V (Y c W),qD I U (Y c W)⟩;have D:HZ.Apart z ti to j1 j2 a b:=⟨F.a1,F.a2,F.a3,F.a4,F.a5,F.a6,F.a7,F.a8,F.a9,F.b0,(ne z (by simp)).1,(ne to (by simp)).1,(ne j1 (by simp)).1,(ne j2 (by simp)).1,(ne z (by simp)).2,(ne to (by simp)).2,(ne j1 (by simp)).2,(ne j2 (by simp)).2⟩;obtain ⟨w1,w2,O⟩:=Z.to;have R:X.A.in1.handled=none:=I.ok.hd S;refine HZ.next_item D (rD R j1 a C.toArray k1) (rD R j2 b r.toArray k2) Z.z Z.ti O ⟨Z.h1,t⟩ ⟨Z.h2,n⟩ (by simpa using eu) (by simpa using ev) fun l c1 c2 c3 c4 c5 c6 N=>⟨_,rfl,?_⟩;refine wpAny_letOwnedTupleGo_zip c1 fun h2 d1 T=>?_;have hn:H s.heap.objs.size=none:=I.aA.fresh (PJ _);have MP:z<s.heap.objs.size:=É Z.z;have rE:IsTup h2 s.heap.objs.size #[u,v]:=⟨_,T.extBut _ _ (ĺ MP) c5,rfl,_,rfl⟩
  have I2:Inv X j σ (upd H s.heap.objs.size (.tup [x,y])) { s with heap:=h2,toks:=s.toks }:=I.Fc (ch:=[z,ti,to,j1,j2]) (fun c o m e=>by
   have q:c≠z/\c≠ti/\c≠to/\c≠j1/\c≠j2:=by simpa using m
   exact T.extBut c o q.1 (N c o q.1 q.2.2.1 q.2.2.2.1 q.2.2.2.2 e)) Y (PJ _) ⟨by show 2<=Ô;decide,[u,v],.cons ru (.cons rv .nil),rE⟩
  refine ⟨.ref s.heap.objs.size,_,I2,rfl,⟨_,x,y,hn,rfl,rfl,fun su sv q1 q2=>?_⟩,?_,fun c W=>?_⟩
  ·rw [I.y8 q1 V,I.y8 q2 U];exact ⟨ex,g⟩
  ·refine ⟨d1,T.extBut _ _ F.a1 (N _ _ F.a1 F.a5 F.a6 F.a7 Z.ti),⟨_,_,T.extBut _ _ F.a2 c2⟩,qE (fun o e=>T.extBut _ _ F.a3 e) c3.1,qE (fun o e=>T.extBut _ _ F.a4 e) c4.1⟩
  ·rw [aG]
   ·exact (Y c W).1
   ·intro e
    obtain ⟨o,eo⟩:∃o,s.heap.get? c=some o:=by
     have M:c=z\/c=ti\/c=to\/c=j1\/c=j2:=by simpa using W
     rcases M with q|q|q|q|q
     ·rw [q];exact ⟨_,Z.z⟩
     ·rw [q];exact ⟨_,Z.ti⟩
     ·rw [q];exact ⟨_,O⟩
     ·rw [q];obtain ⟨o,e,_⟩:=qf Z.h1;exact ⟨o,e⟩
     ·rw [q];obtain ⟨o,e,_⟩:=qf Z.h2;exact ⟨o,e⟩
    exact absurd (É eo) (by rw [e];exact ð _)
 done:=by
  intro X L hw J S i j s σ H E I Y Z G;subst L hw J;obtain ⟨f,d,V,U,hle⟩:=G;obtain ⟨C,B,t⟩:=I.mZ V;obtain ⟨r,p,n⟩:=I.mZ U;have ne:∀c∈[z,ti,to,j1,j2],a≠c/\b≠c:=fun c W=>⟨qD I V (Y c W),qD I U (Y c W)⟩;have D:HZ.Apart z ti to j1 j2 a b:=⟨F.a1,F.a2,F.a3,F.a4,F.a5,F.a6,F.a7,F.a8,F.a9,F.b0,(ne z (by simp)).1,(ne to (by simp)).1,(ne j1 (by simp)).1,(ne j2 (by simp)).1,(ne z (by simp)).2,(ne to (by simp)).2,(ne j1 (by simp)).2,(ne j2 (by simp)).2⟩;obtain ⟨w1,w2,O⟩:=Z.to;have R:X.A.in1.handled=none:=I.ok.hd S;have l1:=B.length;have l2:=p.length;refine HZ.next_end D (rD R j1 a C.toArray k1) (rD R j2 b r.toArray k2) Z.z Z.ti O ⟨Z.h1,t⟩ ⟨Z.h2,n⟩ ?_ fun l N=>⟨rfl,I.yT (t':=s.toks) (ch:=[z,ti,to,j1,j2]) (fun c o m e=>by
   have q:c≠z/\c≠ti/\c≠to/\c≠j1/\c≠j2:=by simpa using m
   exact N c o q.1 q.2.2.1 q.2.2.2.1 q.2.2.2.2 e) Y⟩
  rcases hle with q|q
  ·left;simp;omega
  ·right;simp;omega
 self:=fun A i s Q E Z h=>wpAny_pyIter_zip Z.z h
end L2
namespace HZ
open PySem PySem.Spec PyProof.Rows L2
@[reducible] noncomputable def pv:Bool->String
 |true=>"tuple_iterator"
 |false=>"list_iterator"
abbrev y1 (k:Bool) (h:Ă) (m1:Ì):Ă:=h.push { cls:=.type (pv k),data:=.fields #[.ref m1,.int 0 0] }
abbrev y2 (k l:Bool) (h:Ă) (m1 m2:Ì):Ă:=(y1 k h m1).push { cls:=.type (pv l),data:=.fields #[.ref m2,.int 0 0] }
abbrev y3 (k l:Bool) (h:Ă) (m1 m2:Ì):Ă:=(y2 k l h m1 m2).push { cls:=.type "tuple",data:=.seq #[.ref h.objs.size,.ref (y1 k h m1).objs.size] }
abbrev y4 (k l:Bool) (h:Ă) (m1 m2:Ì):Ă:=(y3 k l h m1 m2).push { cls:=.type "tuple",data:=.seq #[.none,.none] }
abbrev y5 (k l:Bool) (h:Ă) (m1 m2:Ì):Ă:=(y4 k l h m1 m2).push { cls:=.type "zip",data:=.fields #[.none,.bool false,.bool false,.ref (y2 k l h m1 m2).objs.size,.ref (y3 k l h m1 m2).objs.size] }
def Bg:∀{k},iD k s.heap m xs->Q (.ref s.heap.objs.size) { s with heap:=s.heap.push { cls:=.type (pv k),data:=.fields #[.ref m,.int 0 0] } }->Ö (Ø P w) A (pyIter (.ref m)) Q E s
 |true,h,q=>wpAny_pyIter_tuple h q
 |false,h,q=>wpAny_pyIter_list h q
def Gb (o:Obj):∀{k},iD k h m xs->iD k (h.push o) m xs
 |true,x=>Heap.IsTuple.push x o
 |false,x=>Heap.IsList.push x o
def Hj (k l:Bool) (m1 m2:Ì) (xs ys:Array Â) :
  Meets (Pp.«zip.__new__» ⟨[.type "zip",.ref m1,.ref m2],[]⟩) (fun _ R s=>iD k s.heap m1 xs/\iD l s.heap m2 ys/\R (.ok (.ret (.ref (y4 k l s.heap m1 m2).objs.size))) { s with heap:=y5 k l s.heap m1 m2 }) :=
 .of_wp fun prog w A R s h=>by
  obtain ⟨Z,g,d,Y,os⟩:=s;obtain ⟨X,W,h⟩:=h;have U:=sub_zip;have V:iD k (Shared.heap ⟨Z,g,d,Y,os⟩) m1 xs:=X;have L2:iD l (Shared.heap ⟨Z.push { cls:=.type (pv k),data:=.fields #[.ref m1,.int 0 0] },g,d,Y,os⟩) m2 ys:=Gb _ W
  wp_walk using Bg V,Bg L2
  exact ⟨_,rfl,h⟩
section
variable {P:Ó} {w:î} {A:Ù} {E:Â->Á->Prop} {s:Á}
def zG:∀{k},h.get? i=some { cls:=.type (pv k),data:=.fields #[.ref m,.int 0 0] }->jE k h i m 0
 |true,e=>⟨_,e,rfl,rfl⟩
 |false,e=>⟨_,e,rfl,rfl⟩
def Fe (h1:iD k s.heap m1 xs) (h2:iD l s.heap m2 ys)
 (h:∀h',IsZip h' (s.heap.objs.size+4) (s.heap.objs.size+2) (s.heap.objs.size+3) .none->Ŋ h' (s.heap.objs.size+2) (.ref s.heap.objs.size) (.ref (s.heap.objs.size+1)) ->
   Ŋ h' (s.heap.objs.size+3) .none .none->jE k h' s.heap.objs.size m1 0->jE l h' (s.heap.objs.size+1) m2 0->h'.objs.size=s.heap.objs.size+5 ->
 (∀c o,s.heap.get? c=some o->h'.get? c=some o)->Q (.ref (s.heap.objs.size+4)) { s with heap:=h' }):Ö (Ø P w) A (call (.type "zip") [.ref m1,.ref m2]) Q E s:=by
 refine callType_new F.called_zip (by decide) (F.typeCall_zip_2 _ _) (F.newCall_zip_2 _ _) (fun obj=>F.args_object_init_3 obj _ _) F.entry_zip_new (Hj k l m1 m2 xs ys) ⟨h1,h2,?_⟩;have e1:(y1 k s.heap m1).objs.size=s.heap.objs.size+1:=ö ..;have e2:(y2 k l s.heap m1 m2).objs.size=s.heap.objs.size+2:=by rw [ö,e1]
 have Z:(y3 k l s.heap m1 m2).objs.size=s.heap.objs.size+3:=by rw [ö,e2]
 have Y:(y4 k l s.heap m1 m2).objs.size=s.heap.objs.size+4:=by rw [ö,Z]
 have V:(y5 k l s.heap m1 m2).objs.size=s.heap.objs.size+5:=by rw [ö,Y]
 have X:(y5 k l s.heap m1 m2).get? (y4 k l s.heap m1 m2).objs.size=some _:=Ï _ rfl;have W:(y5 k l s.heap m1 m2).get? (y3 k l s.heap m1 m2).objs.size=some _:=Ã _ (Ï _ rfl);have g3:(y5 k l s.heap m1 m2).get? (y2 k l s.heap m1 m2).objs.size=some _:=Ã _ (Ã _ (Ï _ rfl));have g2:(y5 k l s.heap m1 m2).get? (y1 k s.heap m1).objs.size=some _:=Ã _ (Ã _ (Ã _ (Ï _ rfl)));have g1:(y5 k l s.heap m1 m2).get? s.heap.objs.size=some _:=Ã _ (Ã _ (Ã _ (Ã _ (Ï _ rfl))));show _/\_;rw [e2,Z,Y] at X;rw [e1,e2] at g3;rw [Z] at W;rw [e1] at g2;rw [Y];exact ⟨⟨_,X,rfl⟩,h _ X g3 W (zG g1) (zG g2) V fun c o q=>Ã _ (Ã _ (Ã _ (Ã _ (Ã _ q))))⟩
end
end HZ
namespace L2
open PySem PySem.Spec PyProof.Rows
def Ge (n:Nat):BY (n+4) (n+2) (n+3) n (n+1):=by constructor<;>(show (_:Nat)≠_)<;>omega
section
variable {X:Cx} {elts:List ÿ} {kk:Nat} {tp:Pos}
def vk (k l:Bool) (K:ô) (ta:TA):TI:=fun σ H R=>ta σ H fun Y Z=>∃a b X W,Y=[.ref a,.ref b]/\gy k K Z a X/\gy l K Z b W/\R (oO k l K a b) Z
noncomputable abbrev Kh:=vk true true
noncomputable abbrev Ki:=vk false false
def Ff:õ "zip"=some (.type "zip"):=by decide +kernel
def IW {π:List (Ì×Obj)} {σ:St} {H:Hp} {s:Á} (I:Inv X π σ H s):∀b∈[s.heap.objs.size+4,s.heap.objs.size+2,s.heap.objs.size+3,s.heap.objs.size,s.heap.objs.size+1],fM X π H b:=fun b Y=>by
 have Z:s.heap.objs.size<=b:=by
  have q:b=s.heap.objs.size+4\/b=s.heap.objs.size+2\/b=s.heap.objs.size+3\/b=s.heap.objs.size\/b=s.heap.objs.size+1:=by simpa using Y
  omega
 exact I.rz Z (I.aA.fresh Z)
def uq {k l:Bool} {a b:ÿ} {ta:TA} {p pos:Pos} (hg:Gl X "zip") (hm:X.mg "zip"=none) (ha:PA X [a,b] ta) (hs:Ä [a,b] X.env=[(false,Ĕ a X.env),(false,Ĕ b X.env)]:=by rfl) (dM:Ä [b] X.env=[(false,Ĕ b X.env)]:=by rfl) :
  PI X (.Tuple elts kk tp) (.Call (.Name "zip" p) [a,b] [] pos) (vk k l X.K ta):=by
 intro V s σ H R I h;refine Call_ (qA I hg hm Ff (ι (aM (ha pos V s σ H _ I h) fun z Z ⟨y,U,Y,T,S⟩=>?_) (by rw [hs,dM]) (by rw [dM];rfl)));obtain ⟨a,b,xs,ys,e,Q,P,q⟩:=S;subst e;obtain ⟨u,v,rfl,O,N⟩:=vals2 T;cases O;cases N;obtain ⟨M,_,L⟩:=Y.mZ Q;obtain ⟨J,_,G⟩:=Y.mZ P;refine HZ.Fe (xs:=M.toArray) (ys:=J.toArray) L G fun F W E D C B x A=>?_
 refine wpAny_pyIter_zip (s:={ Z with heap:=F }) W ?_
 exact ⟨_,[Z.heap.objs.size+4,Z.heap.objs.size+2,Z.heap.objs.size+3,Z.heap.objs.size,Z.heap.objs.size+1],_,_,U,rfl,Y.kept (t':=Z.toks) A,Fd a b _ _ _ _ _ (Ge _),⟨W,E,⟨_,_,D⟩,C,B⟩,IW Y,q⟩
def zH {a b:ÿ} {ta:TA} {p pos:Pos} (hg:Gl X "zip") (hm:X.mg "zip"=none) (ha:PA X [a,b] ta) (hs:Ä [a,b] X.env=[(false,Ĕ a X.env),(false,Ĕ b X.env)]:=by rfl) (dM:Ä [b] X.env=[(false,Ĕ b X.env)]:=by rfl) :
  PI X (.Tuple elts kk tp) (.Call (.Name "zip" p) [a,b] [] pos) (Kh X.K ta):=uq hg hm ha hs dM
def Hk {a b:ÿ} {ta:TA} {p pos:Pos} (hg:Gl X "zip") (hm:X.mg "zip"=none) (ha:PA X [a,b] ta) (hs:Ä [a,b] X.env=[(false,Ĕ a X.env),(false,Ĕ b X.env)]:=by rfl) (dM:Ä [b] X.env=[(false,Ĕ b X.env)]:=by rfl) :
  PI X (.Tuple elts kk tp) (.Call (.Name "zip" p) [a,b] [] pos) (Ki X.K ta):=uq hg hm ha hs dM
end
end L2
namespace PySem
section
variable {P:Ó} {w:î} {A:Ù} {E:Â->Á->Prop} {s:Á}
end
end PySem
namespace L2
open PySem PySem.Spec PyProof.Rows
section
variable {X:Cx}
end
section
variable {κ:Type} [DecidableEq κ]
end
section
variable {P:Ó} {w:î} {H:Hp} {h:Ă} {a:Ì}
end
section
variable {X:Cx} {π:List (Ì×Obj)} {σ:St} {H:Hp} {s:Á} {a:Ì} {y v:V} {u r:Â} {o:Option V} {A:Ù} {E:Â->Á->Prop}
end
section
variable {X:Cx} {π:List (Ì×Obj)} {σ:St} {H:Hp} {s:Á} {a:Ì} {aE:List (Key×V)} {k:Key} {u:Â} {A:Ù} {E:Â->Á->Prop}
end
section
variable {X:Cx} {o i e value:ÿ} {pos pos' lI:Pos} {td ty tv:TE}
end
section
variable {X:Cx} {pos:Pos}
end
structure M1 (X:Cx) (o:ÿ) (m:Str) (apos:Pos) (e:ÿ) (aV:Pos):Prop where
 base:Ĥ o m X.env (Ĕ o X.env)=Ĕ o X.env
 xc:((Ĉ aV (Ä [e] X.env)).all (fun x=>!x.1)&&(ž aV (ĭ [] X.env)).all (fun x=>x.1.isSome)
  && decide (([e]:List ÿ).length+([]:List Po).length+(if ([]:List Po).isEmpty then 0 else 1)<30))=true
 line:(apos.endLine==aV.line)=true
 trees:Ĉ aV (Ä [e] X.env)=[(false,Ĕ e X.env)]
structure M2 (X:Cx) (o:ÿ) (m:Str) (apos:Pos) (e f:ÿ) (aV:Pos):Prop where
 base:Ĥ o m X.env (Ĕ o X.env)=Ĕ o X.env
 xc:((Ĉ aV (Ä [e,f] X.env)).all (fun x=>!x.1)&&(ž aV (ĭ [] X.env)).all (fun x=>x.1.isSome)
  && decide (([e,f]:List ÿ).length+([]:List Po).length+(if ([]:List Po).isEmpty then 0 else 1)<30))=true
 line:(apos.endLine==aV.line)=true
 trees:Ĉ aV (Ä [e,f] X.env)=[(false,Ĕ e X.env),(false,Ĕ f X.env)]
section
variable {X:Cx} {π:List (Ì×Obj)} {σ:St} {H:Hp} {s:Á} {a:Ì} {y d:V} {u r:Â} {o:Option V} {A:Ù} {E:Â->Á->Prop}
end
section
variable {X:Cx} {o e f:ÿ} {apos aV:Pos} {td ty tx:TE}
end
section
variable {X:Cx} {π:List (Ì×Obj)} {σ:St} {H:Hp} {s:Á} {a:Ì} {aE:List (Key×V)} {A:Ù} {E:Â->Á->Prop}
end
section
variable {X:Cx} {π:List (Ì×Obj)} {σ:St} {H:Hp} {s:Á} {a:Ì} {y:V} {u:Â} {A:Ù} {E:Â->Á->Prop}
end
section
variable {K:ô} {caps:St} {H:Hp} {tf:TT} {te:TE} {Q:VK}
end
end L2
namespace TS
open PySem
abbrev LU (l:List Nat):Prop:=l.Pairwise (· < ·)
structure OQ (led:Bool) (t:SetTable):Prop where
 led:t.led=led
 rise:t.plain=true->LU t.place.toList
open PySem.Spec PyProof.Rows
section
variable {P:Ó} {w:î} {A:Ù} {E:Â->Á->Prop} {s:Á} {led:Bool}
end
section
variable {P:Ó} {w:î} {A:Ù} {E:Â->Á->Prop} {s:Á}
end
section
variable {P:Ó} {w:î} {A:Ù} {E:Â->Á->Prop} {s:Á}
end
section
variable {P:Ó} {w:î} {A:Ù} {E:Â->Á->Prop} {s:Á}
end
section
variable {P:Ó} {w:î} {A:Ù} {R:Result->Á->Prop} {I:Ì} {fp wr:List Ì} {G:Array GenState->Array GenState->Prop} {n:Nat} {Pv:Nat->Â->Prop} {St:Nat->Á->Prop} {led:Bool}
end
section
variable {P:Ó} {w:î} {A:Ù} {E:Â->Á->Prop} {s:Á}
end
section
variable {P:Ó} {w:î} {A:Ù} {E:Â->Á->Prop}
end
section
variable {P:Ó} {w:î} {A:Ù} {E:Â->Á->Prop} {s:Á}
end
section
variable {P:Ó} {w:î} {A:Ù} {E:Â->Á->Prop} {s:Á}
end
end TS
namespace L2
open PySem PySem.Spec PyProof.Rows
section
variable {X:Cx}
end
section
variable {X:Cx}
end
mutual
noncomputable def sx:Ŧ->Bool
 | .tuple Z=>rF Z
 | .list _=>false
 |_=>true
noncomputable def rF:List Ŧ->Bool
 | []=>true
 |d::Z=>sx d&&rF Z
end
section
variable {X:Cx} {π:List (Ì×Obj)} {σ:St} {H:Hp} {s:Á} {Z:Ì->Prop}
mutual
theorem DV.qF (I:Inv X π σ H s):∀{d:Ŧ} {v:V} {u:Â},DV X.K Z H d v->RelV v u->sx d=true->∃as,Reads s.heap u d as/\ε∉as
 | .none,v,u,h,r,_=>by
  have e:v=.au:=h;subst e;cases r;exact ⟨[],.none,by simp⟩
 | .bool b,v,u,h,r,_=>by
  have e:v=.bl b:=h;subst e;cases r;exact ⟨[],.bool b,by simp⟩
 | .int i,v,u,h,r,_=>by
  have e:v=.int i:=h;subst e;obtain ⟨t,rfl⟩:=r;exact ⟨[],.int i t,by simp⟩
 | .str x,v,u,h,r,_=>by
  have e:v=.str x:=h;subst e;obtain ⟨t,rfl⟩:=r;exact ⟨[],.str x t,by simp⟩
 | .tuple U,v,u,h,r,Y=>by
  simp only [DV] at h;obtain ⟨a,G,e,W,T⟩:=h;subst e;cases r;obtain ⟨ao,S,⟨o,e,c,n,R⟩,_⟩:=I.tuple W;obtain ⟨as,Q,hs⟩:=ar.qF I T S (by simpa only [sx] using Y);exact ⟨as,.tuple e c R (by simpa using Q),hs⟩
 | .list U,v,u,h,r,Y=>by
  simp only [sx] at Y;cases Y
 | .dict F,v,u,h,r,_=>by
  simp only [DV] at h;obtain ⟨a,E,e,_,W,l,e1,e2⟩:=h;subst e e1 e2;cases r;obtain ⟨_,P,D,O,o,C,B,g1,g2,g3,_,N,_⟩:=(show cV X.prog X.w H s.heap a (.dK _) from I.aA a _ W);obtain ⟨M,L⟩:=sY (h:=s.heap) O N;refine ⟨a::[]++[],.dict g1 g2.1 g3 M L,fun J=>?_⟩;have e:ε=a:=by simpa using J
  subst e;simp at P
theorem ar.qF (I:Inv X π σ H s):∀{ds:List Ŧ} {vs:List V} {us:List Â},ar X.K Z H ds vs->Vals vs us->rF ds=true->∃as,ReadsAll s.heap us ds as/\ε∉as
 | [],vs,us,h,r,_=>by
  have e:vs=[]:=h;subst e;cases r;exact ⟨[],.nil,by simp⟩
 |d::ds,vs,us,h,r,Y=>by
  obtain ⟨v,O,e,W,U⟩:=h;subst e;simp only [rF,Å] at Y
  cases r with
  |cons T S =>
   obtain ⟨as,a1,R⟩:=DV.qF I W T Y.1;obtain ⟨bs,a2,Q⟩:=ar.qF I U S Y.2;refine ⟨as++bs,.cons a1 a2,fun P=>?_⟩
   rcases ĩ.mp P with z|z
   ·exact R z
   ·exact Q z
end
end
section
variable {X:Cx}
end
end L2
namespace HZ
open PySem PySem.Spec PyProof.Rows
open AutoSeq1 (wpAny_loadPart')
section
variable {P:Ó} {w:î} {A:Ù} {E:Â->Á->Prop} {s:Á}
end
end HZ
namespace L2
open PySem PySem.Spec PyProof.Rows
section
variable {X:Cx} {elts:List ÿ} {kk:Nat} {tp:Pos}
end
section
variable {K:ô} {caps:St} {H:Hp} {tf:TT} {te:TE} {Q:VK}
end
end L2
namespace HZ
open PySem PySem.Spec PyProof.Rows
def DF:fillsNumberSlot (.type "tuple") "mul"=pure false:=by
 first|rfl | (unfold fillsNumberSlot;kernel_rfl)|kernel_rfl
def D1:seqRepeat? (.type "tuple")=pure (some (.builtin "tuple.__mul__")):=by
 first|rfl|kernel_rfl
def EB (a:Int) (t:Tok) (l:Ì) (items:Array Â) (n:Nat) (d:Option Ì) (sl:Array (Option Â)) :
  Meets (Pp.«int.__rmul__» ⟨[.int a t,.ref l],[]⟩) (fun _ R s=>s.heap.get? l=some { cls:=.type "tuple",dict:=d,data:=.seq items n,slots:=sl }/\R (.ok (.ret Value.notImplemented)) s) :=
 .of_wp fun prog w A R s h=>by
  obtain ⟨Z,Y,X,W,V⟩:=s;obtain ⟨U,h⟩:=h;wp_walk;exact ⟨_,rfl,h⟩
section
variable {P:Ó} {w:î} {A:Ù} {E:Â->Á->Prop} {s:Á}
def Hl (ht:IsTup s.heap t vs.toArray) (hv:vs≠[]) (hk:1<=k) (hz:vs.length*k.toNat<=Ô)
 (h1:k=1->Q (.ref t) s) (h2:k≠1->Q (.ref s.heap.objs.size) { s with heap:=s.heap.push { cls:=.type "tuple",data:=.seq (Ê k.toNat vs).flatten.toArray } }) :
  Ö (Ø P w) A (Ē .Mult (.ref t) (.int k tk)) Q E s:=by
 obtain ⟨⟨cls,V,data,S⟩,Z,Y,n,X⟩:=id ht;simp only at Y X;subst Y X;have K:k<=16777216:=by
  have R:1<=vs.length:=by
   cases vs with
   |nil=>exact absurd rfl hv
   |cons a r=>simp
  have J:vs.length*k.toNat<=16777216:=by rw [<- ũ];exact hz
  have:1*k.toNat<=vs.length*k.toNat:=Nat.mul_le_mul_right _ R;omega
 refine wpAny_binaryOp_repeat_ref (T:="tuple") (U:="int") (by decide) ⟨_,Z,rfl⟩ (fun O=>typeIs_int O k tk) DF F.fills_int_mul ξ D1 F.slot_int_index.lookup
  (call_meets ξ (typeIs_int s k tk) F.entry_int_rmul (F.args_int_rmul_2 _ _) (EB k tk t vs.toArray n V S) ⟨Z,rfl,⟨_,Z,rfl⟩,?_⟩)
 refine ı F.slot_tuple_mul ⟨_,Z,rfl⟩ F.entry_tuple_mul ?_ (F.args_tuple_mul_2 _ _);show Ö _ _ (asIndex (.int k tk) >>= _) _ _ _;refine À ?_
 refine wpAny_of_eq (a:=k) (by first|rfl | (unfold asIndex;rfl)) ?_
 dsimp only;rw [ë (by simp;omega)];unfold ω;refine À (À (Ė Z rfl ?_));refine Ë ?_;have ne:vs.toArray.isEmpty=false:=by
  cases vs with
  |nil=>exact absurd rfl hv
  |cons a r=>simp
 by_cases h:k=1
 ·rw [ã (by rw [h];simp)]
  unfold Builtin.Tuple.tupleIsExact;refine À (À (wpAny_typeOf (T:="tuple") ⟨_,Z,rfl⟩ (Ë ?_)));rw [ã (by decide)];exact À (wpAny_rule (Ë ⟨_,rfl,h1 h⟩))
 ·rw [ë (by rw [ne];simp [h])]
  rw [ë (by rw [ne];simp;omega)];have W:(vs.toArray.size:Int)*k=((vs.length*k.toNat:Nat):Int):=by
   rw [Û,Int.natCast_mul];congr 1;omega
  have N:vs.length*k.toNat<=16777216:=by rw [<- ũ];exact hz
  rw [ë (by rw [W];omega)];rw [ë (by
   unfold Builtin.Tuple.tupleTooMany;rw [W,ũ,Ú];generalize vs.length*k.toNat=q at N;omega)]
  unfold Builtin.Tuple.tupleExact;have e:List.foldl (fun M L=>M++L) #[] (Ê k.toNat vs.toArray)=(Ê k.toNat vs).flatten.toArray:=by
   have:=L2.foldl_rep vs k.toNat [];rw [Ġ] at this;exact this
  rw [e];refine À (ŀ ?_ (by
   show (List.toArray _).size<=Ô;rw [Û,L2.len_rep,Nat.mul_comm];exact hz))
  exact Ë ⟨_,rfl,h2 h⟩
end
end HZ
namespace L2
open PySem PySem.Spec PyProof.Rows
section
variable {X:Cx}
def Kj (K:ô):R2:=fun x y H Q=>∃a Z k,x=.ref a/\y=.int k/\bh K H a Z/\Z≠[]/\1<=k/\Z.length*k.toNat<=Ô/\lK K H (Ê k.toNat Z).flatten Q
def Hm:bq X (Ē .Mult) (Kj X.K):=by
 intro P s σ H x y v u Q I V U h;obtain ⟨a,Z,k,rfl,rfl,hs,T,S,W,q⟩:=h;cases V;obtain ⟨t,rfl⟩:=U;obtain ⟨ao,r,p,z⟩:=I.tuple hs;have Y:=r.length;refine HZ.Hl p (fun e=>T (by rw [e] at Y;exact List.length_eq_zero_iff.mp Y)) S (by rw [<- Y];exact W) (fun e=>?_) (fun _=>?_)
 ·have e1:(Ê k.toNat Z).flatten=Z:=by rw [e];simp
  rw [e1] at q;exact ⟨.ref a,H,I,rfl,q.here hs⟩
 ·have R:(Ê k.toNat Z).flatten.length<=Ô:=by rw [len_rep,Nat.mul_comm];exact W
  exact ⟨.ref _,_,I.laid (t':=s.toks) (o:=.tup (Ê k.toNat Z).flatten) (fun b o e=>Ã _ e) (PJ _) ⟨R,_,r.rep k.toNat,⟨_,Ï _ rfl,rfl,_,rfl⟩⟩,rfl,q.new (I.aA.fresh (PJ _))⟩
end
end L2
namespace HZ
open PySem PySem.Spec PyProof.Rows
section
variable {P:Ó} {w:î} {A:Ù} {E:Â->Á->Prop} {s:Á}
end
end HZ
namespace L2
open PySem PySem.Spec PyProof.Rows
section
variable {X:Cx} {tg:ÿ}
end
end L2
namespace HZ
open PySem PySem.Spec PyProof.Rows
section
variable {P:Ó} {w:î} {A:Ù} {R:Result->Á->Prop} {I:Ì} {fp wr:List Ì} {n:Nat} {Pv:Nat->Â->Prop} {St:Nat->Ă->Prop} {kw:List (Str×Â)}
end
section
variable {P:Ó} {w:î} {A:Ù} {E:Â->Á->Prop} {s:Á}
end
end HZ
namespace L2
open PySem PySem.Spec PyProof.Rows
section
variable {X:Cx} {p pos kp:Pos} {e d:ÿ} {ta tk:TA}
end
end L2
namespace DI
open PySem L2
set_option genInjectivity true in
inductive D where
 |au|bl (b:Bool)|int (i:Int)|str (x:Str)|tup (ds:List D)|lst (ds:List D)|br (aE:List (Key×Int))|ah (k:Nat)|ty (n:String)|bt (ns:List Int)|exc (c:Str) (m:Option Int)|bO (a:Ì) (vs:List V) (ds:List D)
set_option genInjectivity true in
inductive Cell where
 |dead|lst (ds:List D)|dK (aE:List (Key×D))|dT (aE:List (D×Int))|tb (x:Str)|ins (c:Str) (fs:List (Str×D))
noncomputable abbrev aa:=List Cell
noncomputable abbrev Env:=List (Option D)
structure aP where
 c:Str
 many:Option Int
abbrev Res (α:Type):=Option (Except aP α×aa)
abbrev PB (α:Type):=Env->aa->Res α
abbrev ok {α:Type} (a:α) (s:aa):Res α:=some (.ok a,s)
def aj {α β:Type} (r:Res α) (k:α->aa->Res β):Res β:=match r with
 |some (.ok a,s)=>k a s
 |some (.error x,s)=>some (.error x,s)
 |none=>none
@[simp] theorem cU {α β:Type} {a:α} {s:aa} {k:α->aa->Res β}:aj (some (.ok a,s)) k=k a s:=rfl
structure Wd where
 ρ:List Ì
 aw:aa
 H:Hp
def Wd.Z (w:Wd) (a:Ì):Prop:=∃(k:Nat) (c:Cell),w.ρ[k]?=some a/\w.aw[k]?=some c/\c≠.dead
def LstAt (w:Wd) (a:Ì) (xs:List V):Prop:=¬ w.Z a/\w.H a=some (.lst xs)
def LstAt.sq (h:LstAt w a xs):bb K w.H a xs:=bb.of h.2
def og (K:ô) (w:Wd) (a:Ì) (xs:List V):Prop:=(¬ w.Z a/\Rd w.H a (.lst xs)) \/
 ∃(o:Obj) (ao:Array Â) (n:Nat),K.lookup a=some o/\o.cls=.type "list"/\o.dict=none/\o.data=.seq ao n/\ao.size<=Ô/\Vals xs ao.toList
def og.sq (h:og K w a xs):bb K w.H a xs:=by
 rcases h with ⟨_,h⟩|h
 ·exact .inl h
 ·exact .inr h
mutual
def DV (K:ô) (w:Wd):D->V->Prop
 | .au,v=>v=.au
 | .bl b,v=>v=.bl b
 | .int i,v=>v=.int i
 | .str x,v=>v=.str x
 | .tup Y,v=>∃a X,v=.ref a/\bh K w.H a X/\ar K w Y X
 | .lst Y,v=>∃a X,v=.ref a/\LstAt w a X/\ar K w Y X
 | .br S,v=>∃a,v=.ref a/\¬ w.Z a/\w.H a=some (.dK (S.map fun p=>(p.1,V.int p.2)))
 | .ah k,v=>∃a,w.ρ[k]?=some a/\v=.ref a
 | .ty n,v=>v=.ty n
 | .bt R,v=>∃a,v=.ref a/\og K w a (R.map V.int)
 | .exc c m,v=>∃a o C,v=.ref a/\(¬ w.Z a/\w.H a=some (.aO o (.own a)))/\(o.cls=.ref C/\Ý K Ç c=some (some (.ref C)))/\∀i,m=some i->PySem.W.notCls o=true/\∃U T t,o.dict=some U/\(¬ w.Z U/\w.H U=some (.aO T (.own U)))/\ņ "many" T=some (some (.int i t))
 | .bO a Q Y,v=>v=.ref a/\ar K w Y Q
def ar (K:ô) (w:Wd):List D->List V->Prop
 | [],Z=>Z=[]
 |d::Y,Z=>∃v r,Z=v::r/\DV K w d v/\ar K w Y r
end
structure Fw (K:ô) (w w':Wd):Prop where
 xg:∀(k:Nat) a,w.ρ[k]?=some a->w'.ρ[k]?=some a
 tup:∀a xs,bh K w.H a xs->bh K w'.H a xs
 lst:∀a xs,¬ w.Z a->w.H a=some (.lst xs)->¬ w'.Z a/\w'.H a=some (.lst xs)
 aO:∀a o u,¬ w.Z a->w.H a=some (.aO o u)->¬ w'.Z a/\w'.H a=some (.aO o u)
 br:∀a es,¬ w.Z a->w.H a=some (.dK es)->¬ w'.Z a/\w'.H a=some (.dK es)
def Fw.Bh (S:Fw K w w') (h:LstAt w a xs):LstAt w' a xs:=S.lst a xs h.1 h.2
def Fw.Kk (S:Fw K w w') (h:og K w a xs):og K w' a xs:=by
 rcases h with ⟨Y,Z | ⟨o,Z⟩⟩|h
 ·have q:=S.lst a xs Y Z
  exact .inl ⟨q.1,.inl q.2⟩
 ·have q:=S.aO a o _ Y Z
  exact .inl ⟨q.1,.inr ⟨o,q.2⟩⟩
 ·exact .inr h
mutual
theorem DV.fw (S:Fw K w w'):∀{d:D} {v:V},DV K w d v->DV K w' d v
 | .au,_,h=>h
 | .bl _,_,h=>h
 | .int _,_,h=>h
 | .str _,_,h=>h
 | .tup X,v,h=>by
  simp only [DV] at h |-;obtain ⟨a,Y,e,Z,r⟩:=h;exact ⟨a,Y,e,S.tup a Y Z,ar.fw S r⟩
 | .lst X,v,h=>by
  simp only [DV] at h |-;obtain ⟨a,Y,e,Z,r⟩:=h;exact ⟨a,Y,e,S.Bh Z,ar.fw S r⟩
 | .br L,v,h=>by
  simp only [DV] at h |-;obtain ⟨a,e,R,Z⟩:=h;obtain ⟨Q,P⟩:=S.br a _ R Z;exact ⟨a,e,Q,P⟩
 | .ah k,v,h=>by
  simp only [DV] at h |-;obtain ⟨a,e,e2⟩:=h;exact ⟨a,S.xg k a e,e2⟩
 | .ty _,_,h=>h
 | .bt J,v,h=>by
  simp only [DV] at h |-;obtain ⟨a,e,Z⟩:=h;exact ⟨a,e,S.Kk Z⟩
 | .exc c m,v,h=>by
  simp only [DV] at h |-;obtain ⟨a,o,C,e,Z,r,k⟩:=h;refine ⟨a,o,C,e,S.aO a o _ Z.1 Z.2,r,fun i hi=>?_⟩;obtain ⟨O,W,U,t,N,T,M⟩:=k i hi;exact ⟨O,W,U,t,N,S.aO W U _ T.1 T.2,M⟩
 | .bO a I X,v,h=>by
  simp only [DV] at h |-;exact ⟨h.1,ar.fw S h.2⟩
theorem ar.fw (S:Fw K w w'):∀{ds:List D} {vs:List V},ar K w ds vs->ar K w' ds vs
 | [],_,h=>h
 |d::ds,vs,h=>by
  simp only [ar] at h |-;obtain ⟨v,r,e,Z,Y⟩:=h;exact ⟨v,r,e,DV.fw S Z,ar.fw S Y⟩
end
structure Le (K:ô) (w w':Wd):Prop where
 dv:∀d v,DV K w d v->DV K w' d v
 lst:∀a xs,LstAt w a xs->LstAt w' a xs
 tup:∀a xs,bh K w.H a xs->bh K w'.H a xs
 aO:∀a o u,¬ w.Z a->w.H a=some (.aO o u)->¬ w'.Z a/\w'.H a=some (.aO o u)
noncomputable instance {K:ô} {w w':Wd}:CoeFun (Le K w w') (fun _=>∀d v,DV K w d v->DV K w' d v):=⟨Le.dv⟩
def Le.refl (w:Wd):Le K w w:=⟨fun _ _ h=>h,fun _ _ h=>h,fun _ _ h=>h,fun _ _ _ h g=>⟨h,g⟩⟩
def Le.trans (h:Le K a b) (g:Le K b c):Le K a c:=⟨fun d v x=>g.dv d v (h.dv d v x),fun p Z x=>g.lst p Z (h.lst p Z x),fun p Z x=>g.tup p Z (h.tup p Z x),fun p o u z x=>let q:=h.aO p o u z x;g.aO p o u q.1 q.2⟩
def Fw.le (S:Fw K w w'):Le K w w':=⟨fun _ _ h=>h.fw S,fun _ _ h=>S.Bh h,S.tup,S.aO⟩
theorem Le.all (h:Le K w w'):∀{ds:List D} {vs:List V},ar K w ds vs->ar K w' ds vs
 | [],_,x=>x
 |d::ds,vs,x=>by
  simp only [ar] at x |-;obtain ⟨v,r,e,Z,Y⟩:=x;exact ⟨v,r,e,h d v Z,Le.all h Y⟩
theorem ar.length:∀{ds:List D} {vs:List V},ar K w ds vs->ds.length=vs.length
 | [],vs,h=>by
  have e:vs=[]:=h;subst e;rfl
 |d::ds,vs,h=>by
  obtain ⟨v,r,e,_,Z⟩:=h;subst e;simp [ar.length Z]
theorem ar.get:∀{ds:List D} {vs:List V},ar K w ds vs->∀(i:Nat) v,vs[i]?=some v->∃d,ds[i]?=some d/\DV K w d v
 | [],vs,h,i,v,e=>by
  have Z:vs=[]:=h;subst Z;simp at e
 |d::ds,vs,h,i,v,e=>by
  obtain ⟨u,r,Z,Y,X⟩:=h;subst Z
  cases i with
  |zero =>
   have:u=v:=by simpa using e
   subst this;exact ⟨d,rfl,Y⟩
  |succ i=>exact ar.get X i v (by simpa using e)
theorem ar.get':∀{ds:List D} {vs:List V},ar K w ds vs->∀(i:Nat) d,ds[i]?=some d->∃v,vs[i]?=some v/\DV K w d v
 | [],vs,h,i,d,e=>by simp at e
 |d::ds,vs,h,i,Z,e=>by
  obtain ⟨u,r,Y,X,W⟩:=h;subst Y
  cases i with
  |zero =>
   have:d=Z:=by simpa using e
   subst this;exact ⟨u,rfl,X⟩
  |succ i=>exact ar.get' W i Z (by simpa using e)
theorem ar.append:∀{ds es:List D} {vs ws:List V},ar K w ds vs->ar K w es ws->ar K w (ds++es) (vs++ws)
 | [],es,vs,ws,h,Z=>by
  have e:vs=[]:=h;subst e;exact Z
 |d::ds,es,vs,ws,h,Z=>by
  obtain ⟨v,r,e,Y,X⟩:=h;subst e;exact ⟨v,r++ws,rfl,Y,ar.append X Z⟩
theorem ar.take:∀{ds:List D} {vs:List V} (n:Nat),ar K w ds vs->ar K w (ds.take n) (vs.take n)
 | [],vs,n,h=>by
  have e:vs=[]:=h;subst e;simp [ar]
 |d::ds,vs,0,h=>by simp [ar]
 |d::ds,vs,n+1,h=>by
  obtain ⟨v,r,e,Z,Y⟩:=h;subst e;exact ⟨v,r.take n,rfl,Z,ar.take n Y⟩
theorem ar.drop:∀{ds:List D} {vs:List V} (n:Nat),ar K w ds vs->ar K w (ds.drop n) (vs.drop n)
 | [],vs,n,h=>by
  have e:vs=[]:=h;subst e;simp [ar]
 |d::ds,vs,0,h=>h
 |d::ds,vs,n+1,h=>by
  obtain ⟨v,r,e,Y,Z⟩:=h;subst e;exact ar.drop n Z
theorem ar.reverse:∀{ds:List D} {vs:List V},ar K w ds vs->ar K w ds.reverse vs.reverse
 | [],vs,h=>by
  have e:vs=[]:=h;subst e;simp [ar]
 |d::ds,vs,h=>by
  obtain ⟨v,r,e,Z,Y⟩:=h;subst e;rw [List.reverse_cons,List.reverse_cons];exact ar.append (ar.reverse Y) ⟨v,[],rfl,Z,rfl⟩
theorem ar.set (hd:DV K w d v):∀{ds:List D} {vs:List V} (i:Nat),ar K w ds vs->ar K w (ds.set i d) (vs.set i v)
 | [],vs,i,h=>by
  have e:vs=[]:=h;subst e;simp [ar]
 |d'::ds,vs,0,h=>by
  obtain ⟨u,r,e,Y,Z⟩:=h;subst e;exact ⟨v,r,rfl,hd,Z⟩
 |d'::ds,vs,i+1,h=>by
  obtain ⟨u,r,e,Y,Z⟩:=h;subst e;exact ⟨u,r.set i v,rfl,Y,ar.set hd i Z⟩
def ar.one (h:DV K w d v):ar K w [d] [v]:=⟨v,[],rfl,h,rfl⟩
def ar.two (h:DV K w d v) (h':DV K w d' v'):ar K w [d,d'] [v,v']:=⟨v,_,rfl,h,ar.one h'⟩
theorem ar.ints:∀(ns:List Int),ar K w (ns.map D.int) (ns.map V.int)
 | []=>rfl
 |n::ns=>⟨.int n,_,rfl,rfl,ar.ints ns⟩
theorem ar.qg:∀{bs:List Bool} {vs:List V},ar K w (bs.map D.bl) vs->vs=bs.map V.bl
 | [],_,h=>h
 |n::X,vs,h=>by
  obtain ⟨v,r,e,Z,Y⟩:=h;have e1:v=.bl n:=Z;rw [e,e1,ar.qg Y];rfl
def DX (a:Ì) (es:List (Int×Ì)) (h:Ă):Prop:=(a==ε)=false/\∃(o:Obj) (Z:Array DictEntry) (Y:Nat),h.get? a=some o/\o.ExactDict/\o.data=.dict Z Y/\Z.toList=es.map fun p=>(⟨p.1,.ref p.2,.bool true⟩:DictEntry)
def Kl (w:Wd) (q:Str) (cv:Â):Prop:=∃Y X W t,cv=.ref Y/\(¬ w.Z Y/\w.H Y=some (.aO X (.own Y)))/\X.data=.fields W/\W[1]?=some (.str q t)
def LW (K:ô) (w:Wd) (a:Ì) (x:Str):Prop:=∃c Z,Px K x=some (c,a)/\w.H a=some (.cz Z)/\PySem.TriplesOk Z.toList/\∀pos Y,PySem.codeAmong pos Z.toList=some Y->Kl w (x++".<locals>."++"<lambda>") Y
def mF (K:ô) (w:Wd) (a:Ì):Cell->Prop
 | .dead=>True
 | .lst U=>∃W,w.H a=some (.lst W)/\ar K w U W
 | .dK Z=>∃Y:List (Key×V),w.H a=some (.dK Y)/\Y.map (·.1)=Z.map (·.1)/\ar K w (Z.map (·.2)) (Y.map (·.2))
 | .dT Z=>∃as:List Ì,w.H a=some (.ext (DX a ((Z.map (·.2)).zip as)))/\ar K w (Z.map (·.1)) (as.map V.ref)/\(Z.map (·.1)).Nodup
 | .tb x=>LW K w a x
 | .ins c fs=>∃(C T:Ì) (X:List (Str×V)),Ý K Ç c=some (some (.ref C))/\w.H a=some (.ins C T X)/\X.map (·.1)=fs.map (·.1)/\ar K w (fs.map (·.2)) (X.map (·.2))
structure aH (K:ô) (w:Wd):Prop where
 len:w.ρ.length=w.aw.length
 nd:w.ρ.Nodup
 there:∀(k:Nat) a,w.ρ[k]?=some a->w.H a≠none
 cell:∀(k:Nat) a c,w.ρ[k]?=some a->w.aw[k]?=some c->mF K w a c
theorem mF.le (h:mF K w a c) (le:Le K w w') (e:c≠.dead->w'.H a=w.H a):mF K w' a c:=by
 cases c with
 |dead=>trivial
 |lst I =>
  obtain ⟨R,Z,Y⟩:=h;exact ⟨R,(e (by intro z;cases z)).trans Z,le.all Y⟩
 |dK Q =>
  obtain ⟨P,Z,Y,X⟩:=h;exact ⟨P,(e (by intro z;cases z)).trans Z,Y,le.all X⟩
 |dT Q =>
  obtain ⟨as,Z,Y,X⟩:=h;exact ⟨as,(e (by intro z;cases z)).trans Z,le.all Y,X⟩
 |tb x =>
  obtain ⟨c,O,Z,Y,X,W⟩:=h
  exact ⟨c,O,Z,(e (by intro z;cases z)).trans Y,X,fun pos N q=>let ⟨U,T,V,t,M,S,L⟩:=W pos N q;⟨U,T,V,t,M,le.aO U T _ S.1 S.2,L⟩⟩
 |ins c fs =>
  obtain ⟨C,J,V,Z,Y,X,W⟩:=h;exact ⟨C,J,V,Z,(e (by intro z;cases z)).trans Y,X,le.all W⟩
section
variable {K:ô} {w:Wd}
def Wd.grow (w:Wd) (p:Ì) (o:HO):Wd:={ w with H:=upd w.H p o }
def Rd.grow (hp:H p=none) (h:Rd H a u):Rd (upd H p o) a u:=by
 rcases h with h | ⟨Z,h⟩
 ·exact .inl (by rw [aG (bM h hp)];exact h)
 ·exact .inr ⟨Z,by rw [aG (bM h hp)];exact h⟩
theorem bh.grow (hp:H p=none) (h:bh K H a xs):bh K (upd H p o) a xs:=by
 rcases h with h|h
 ·exact .inl (Rd.grow hp h)
 ·exact .inr h
theorem Fw.grow (hp:w.H p=none):Fw K w (w.grow p o) where
 xg:=fun _ _ e=>e
 tup:=fun a Y h=>bh.grow hp h
 lst:=fun a Y Z h=>⟨Z,by show upd w.H p o a=_;rw [aG (bM h hp)];exact h⟩
 aO:=fun a X Y Z h=>⟨Z,by show upd w.H p o a=_;rw [aG (bM h hp)];exact h⟩
 br:=fun a W Z h=>⟨Z,by show upd w.H p o a=_;rw [aG (bM h hp)];exact h⟩
theorem aH.grow (S:aH K w) (hp:w.H p=none):aH K (w.grow p o) where
 len:=S.len
 nd:=S.nd
 there:=fun k a e=>by
  have h:=S.there k a e;show upd w.H p o a≠none;unfold upd;split
  ·intro z;cases z
  ·exact h
 cell:=fun k a c e1 e2=>(S.cell k a c e1 e2).le (Fw.grow hp).le fun _=>by
  have h:=S.there k a e1;show upd w.H p o a=w.H a;rw [aG];intro z;rw [z] at h;exact h hp
def Wd.cell (w:Wd) (p:Ì) (o:HO) (c:Cell):Wd:=⟨w.ρ++[p],w.aw++[c],upd w.H p o⟩
def Wd.uJ (S:aH K w) (h:(w.cell p o c).Z a):w.Z a\/a=p:=by
 obtain ⟨k,Y,e1,e2,V⟩:=h;have e1:(w.ρ++[p])[k]?=some a:=e1;have e2:(w.aw++[c])[k]?=some Y:=e2;by_cases X:k<w.ρ.length
 ·rw [Ñ X] at e1
  rw [Ñ (by rw [<- S.len];exact X)] at e2;exact .inl ⟨k,Y,e1,e2,V⟩
 ·rw [à (by omega)] at e1
  right
  cases W:k-w.ρ.length with
  |zero=>rw [W] at e1;exact (PK e1).symm
  |succ j=>rw [W] at e1;cases e1
theorem Fw.cell (S:aH K w) (hp:w.H p=none):Fw K w (w.cell p o c) where
 xg:=fun k a e=>by
  show (w.ρ++[p])[k]?=some a;rw [Ñ (È.mp e).1];exact e
 tup:=fun a Y h=>bh.grow hp h
 lst:=fun a Y Z h=>⟨fun z=>(Wd.uJ S z).elim Z (fun e=>by (subst e;rw [hp] at h;cases h)),by show upd w.H p o a=_;rw [aG (bM h hp)];exact h⟩
 aO:=fun a X Y Z h=>⟨fun z=>(Wd.uJ S z).elim Z (fun e=>by (subst e;rw [hp] at h;cases h)),by show upd w.H p o a=_;rw [aG (bM h hp)];exact h⟩
 br:=fun a W Z h=>⟨fun z=>(Wd.uJ S z).elim Z (fun e=>by (subst e;rw [hp] at h;cases h)),by show upd w.H p o a=_;rw [aG (bM h hp)];exact h⟩
def aH.vl (S:aH K w) (hp:w.H p=none) (hc:mF K (w.cell p o c) p c):aH K (w.cell p o c) where
 len:=by show (w.ρ++[p]).length=(w.aw++[c]).length;simp [S.len]
 nd:=by
  show (w.ρ++[p]).Nodup;rw [List.nodup_append];refine ⟨S.nd,by simp,fun a W b V=>?_⟩;obtain ⟨k,e⟩:=List.getElem?_of_mem W;have h:=S.there k a e;have U:b=p:=by simpa using V
  rw [U];intro z;rw [z] at h;exact h hp
 there:=fun k a e=>by
  have e:(w.ρ++[p])[k]?=some a:=e;show upd w.H p o a≠none;unfold upd;split
  ·intro z;cases z
  ·rename_i T
   by_cases Y:k<w.ρ.length
   ·rw [Ñ Y] at e
    exact S.there k a e
   ·rw [à (by omega)] at e
    cases Z:k-w.ρ.length with
    |zero=>rw [Z] at e;exact absurd (PK e).symm T
    |succ j=>rw [Z] at e;cases e
 cell:=fun k a X e1 e2=>by
  have e1:(w.ρ++[p])[k]?=some a:=e1;have e2:(w.aw++[c])[k]?=some X:=e2;by_cases Y:k<w.ρ.length
  ·rw [Ñ Y] at e1
   rw [Ñ (by rw [<- S.len];exact Y)] at e2;refine (S.cell k a X e1 e2).le (Fw.cell S hp).le fun _=>?_;have h:=S.there k a e1;show upd w.H p o a=w.H a;rw [aG];intro z;rw [z] at h;exact h hp
  ·rw [à (by omega)] at e1
   rw [à (by rw [<- S.len];omega)] at e2;rw [<- S.len] at e2
   cases Z:k-w.ρ.length with
   |zero =>
    rw [Z] at e1 e2;have e1:p=a:=PK e1;have e2:c=X:=PK e2;subst e1 e2;exact hc
   |succ j=>rw [Z] at e1;cases e1
def Wd.same (w:Wd) (H':Hp):Wd:={ w with H:=H' }
theorem Fw.same (e:ip w.H H'):Fw K w (w.same H') :=
 ⟨fun _ _ e=>e,fun a Y h=>e.MJ h,fun a Y Z h=>⟨Z,e _ _ h⟩,fun a o Y Z h=>⟨Z,e _ _ h⟩,fun a X Z h=>⟨Z,e _ _ h⟩⟩
theorem aH.same (S:aH K w) (e:ip w.H H'):aH K (w.same H') where
 len:=S.len
 nd:=S.nd
 there:=fun k a q=>by
  have h:=S.there k a q;show H' a≠none
  cases Z:w.H a with
  |none=>exact absurd Z h
  |some o=>rw [e _ _ Z];intro z;cases z
 cell:=fun k a c e1 e2=>(S.cell k a c e1 e2).le (Fw.same e).le fun _=>by
  have h:=S.there k a e1;show H' a=w.H a
  cases Z:w.H a with
  |none=>exact absurd Z h
  |some o=>exact e _ _ Z
def Wd.put (w:Wd) (k:Nat) (a:Ì) (o:HO) (c:Cell):Wd:=⟨w.ρ,w.aw.set k c,upd w.H a o⟩
def D2 {α:Type} {l:List α} (nd:l.Nodup) {i j:Nat} {a:α} (h1:l[i]?=some a) (h2:l[j]?=some a):i=j:=by
 exact (List.getElem?_inj (È.mp h1).1 nd).mp (h1.trans h2.symm)
def Wd.vm (h0:w.ρ[k]?=some a) (h1:w.aw[k]?=some c0) (h2:c0≠.dead) (h:(w.put k a o c).Z b):w.Z b:=by
 obtain ⟨j,Y,e1,e2,W⟩:=h;have e1:w.ρ[j]?=some b:=e1;have e2:(w.aw.set k c)[j]?=some Y:=e2;by_cases X:k=j
 ·subst X
  exact ⟨k,c0,e1,h1,h2⟩
 ·rw [Õ X] at e2
  exact ⟨j,Y,e1,e2,W⟩
theorem Fw.put (S:aH K w) (h0:w.ρ[k]?=some a) (h1:w.aw[k]?=some c0) (h2:c0≠.dead):Fw K w (w.put k a o c):=by
 have W:w.Z a:=⟨k,c0,h0,h1,h2⟩;have T:∀X,¬ Rd w.H a (.tup X):=fun X h=>by
  have q:=S.cell k a c0 h0 h1
  cases c0 with
  |dead=>exact h2 rfl
  |lst Q=>obtain ⟨V,e,_⟩:=q;rcases h with h | ⟨_,h⟩<;>(rw [e] at h;cases h)
  |dK R=>obtain ⟨V,e,_⟩:=q;rcases h with h | ⟨_,h⟩<;>(rw [e] at h;cases h)
  |dT R=>obtain ⟨V,e,_⟩:=q;rcases h with h | ⟨_,h⟩<;>(rw [e] at h;cases h)
  |tb x=>obtain ⟨_,V,_,e,_⟩:=q;rcases h with h | ⟨_,h⟩<;>(rw [e] at h;cases h)
  |ins c fs=>obtain ⟨_,_,_,_,e,_⟩:=q;rcases h with h | ⟨_,h⟩<;>(rw [e] at h;cases h)
 refine ⟨fun _ _ e=>e,fun b X h=>?_,fun b X Y h=>⟨fun z=>Y (Wd.vm h0 h1 h2 z),?_⟩,fun b U X Y h=>⟨fun z=>Y (Wd.vm h0 h1 h2 z),?_⟩,fun b P Y h=>⟨fun z=>Y (Wd.vm h0 h1 h2 z),?_⟩⟩
 ·rcases h with h|h
  ·have ne:b≠a:=fun e=>by subst e;exact T X h
   refine .inl ?_
   rcases h with h | ⟨U,h⟩
   ·exact .inl (by show upd w.H a o b=_;rw [aG ne];exact h)
   ·exact .inr ⟨U,by show upd w.H a o b=_;rw [aG ne];exact h⟩
  ·exact .inr h
 ·have ne:b≠a:=fun e=>by subst e;exact Y W
  show upd w.H a o b=_;rw [aG ne];exact h
 ·have ne:b≠a:=fun e=>by subst e;exact Y W
  show upd w.H a o b=_;rw [aG ne];exact h
 ·have ne:b≠a:=fun e=>by subst e;exact Y W
  show upd w.H a o b=_;rw [aG ne];exact h
def aH.v7 {k:Nat} {a:Ì} {o:HO} {c c0:Cell} (S:aH K w) (h0:w.ρ[k]?=some a) (h1:w.aw[k]?=some c0) (h2:c0≠.dead) (hc:mF K (w.put k a o c) a c):aH K (w.put k a o c) where
 len:=by show w.ρ.length=(w.aw.set k c).length;rw [ù];exact S.len
 nd:=S.nd
 there:=fun j b e=>by
  show upd w.H a o b≠none;unfold upd;split
  ·intro z;cases z
  ·exact S.there j b e
 cell:=fun j b Z e1 e2=>by
  have e1:w.ρ[j]?=some b:=e1;have e2:(w.aw.set k c)[j]?=some Z:=e2;by_cases Y:k=j
  ·subst Y
   rw [h0] at e1;have e1:a=b:=PK e1;rw [Þ (È.mp h1).1] at e2;have e2:c=Z:=PK e2;subst e1 e2;exact hc
  ·rw [Õ Y] at e2
   refine (S.cell j b Z e1 e2).le (Fw.put S h0 h1 h2).le fun _=>?_;show upd w.H a o b=w.H b;rw [aG];intro z;subst z;exact Y (D2 S.nd h0 e1)
end
structure bF (K:ô) (w:Wd) (env:Env) (σ:St):Prop where
 len:env.length=σ.length
 val:∀(i:Nat) d,env[i]?=some (some d)->∃v,σ[i]?=some (some v)/\DV K w d v
theorem bF.le (h:bF K w env σ) (le:Le K w w'):bF K w' env σ :=
 ⟨h.len,fun i d e=>by obtain ⟨v,e1,e2⟩:=h.val i d e;exact ⟨v,e1,le d v e2⟩⟩
theorem bF.set (h:bF K w env σ) (hd:DV K w d v) (i:Nat):bF K w (env.set i (some d)) (σ.set i (some v)):=by
 refine ⟨by rw [ù,ù];exact h.len,fun j X e=>?_⟩;by_cases Z:i=j
 ·subst Z
  have Y:=(È.mp e).1;rw [ù] at Y;rw [Þ Y] at e;have e:d=X:=PK (PK e);subst e;exact ⟨v,by rw [Þ (by rw [<- h.len];exact Y)],hd⟩
 ·rw [Õ Z] at e
  rw [Õ Z];exact h.val j X e
def Out (K:ô) (Ξ:Wd->aP->Prop) (w:Wd) {α:Type} (r:Res α) (k:Wd->α->Prop):Prop:=match r with
 |none=>False
 |some (.ok a,s)=>∀Z,Le K w Z->aH K Z->Z.aw=s->k Z a
 |some (.error x,s)=>∀Z,Le K w Z->aH K Z->Z.aw=s->Ξ Z x
section
variable {K:ô} {Ξ:Wd->aP->Prop} {w w':Wd} {α β:Type} {r:Res α} {k k':Wd->α->Prop}
def Out.from (h:Out K Ξ w r k) (le:Le K w w'):Out K Ξ w' r k:=by
 unfold Out at h |-
 split<;>simp only at h
 ·exact fun Z Y X e2=>h Z (le.trans Y) X e2
 ·exact fun Z Y X e2=>h Z (le.trans Y) X e2
def Out.mono (h:Out K Ξ w r k) (hk:∀w2 a,Le K w w2->aH K w2->k w2 a->k' w2 a):Out K Ξ w r k':=by
 unfold Out at h |-
 split<;>simp only at h
 ·exact fun w2 Z Y e2=>hk w2 _ Z Y (h w2 Z Y e2)
 ·exact h
theorem Out.aj {q:Wd->β->Prop} (h:Out K Ξ w (DI.aj r g) q):Out K Ξ w r (fun w2 a=>Out K Ξ w2 (g a w2.aw) q):=by
 match r,h with
 |some (.ok a,s),h =>
  intro w2 Z Y e2;rw [e2];exact Out.from h Z
 |some (.error x,s),h=>exact h
def Out.done (h:Out K Ξ w (some (.ok a,w.aw)) k) (S:aH K w):k w a:=h w (Le.refl w) S rfl
end
end DI
namespace DI
open PySem L2
def tE (K:ô) (Ξ:Wd->aP->Prop) (f:PB D):TE:=fun σ H Q=>∃w env,w.H=H/\aH K w/\bF K w env σ/\Out K Ξ w (f env w.aw) fun Z d=>∀v,DV K Z d v->Q v Z.H
def tT (K:ô) (Ξ:Wd->aP->Prop) (f:PB Bool):TT:=fun σ H Q=>∃w env,w.H=H/\aH K w/\bF K w env σ/\Out K Ξ w (f env w.aw) fun Z b=>Q b Z.H
def tA (K:ô) (Ξ:Wd->aP->Prop) (f:PB (List D)):TA:=fun σ H Q=>∃w env,w.H=H/\aH K w/\bF K w env σ/\Out K Ξ w (f env w.aw) fun Z X=>∀Y,ar K Z X Y->Q Y Z.H
def rO (K:ô) (Ξ:Wd->aP->Prop) (o:D->D->aa->Res D):R2:=fun x y H Q=>∃w Z Y,w.H=H/\aH K w/\DV K w Z x/\DV K w Y y/\Out K Ξ w (o Z Y w.aw) fun X d=>∀v,DV K X d v->Q v X.H
def rU (K:ô) (Ξ:Wd->aP->Prop) (o:D->aa->Res D):V->Hp->VK->Prop:=fun x H Q=>∃w Z,w.H=H/\aH K w/\DV K w Z x/\Out K Ξ w (o Z w.aw) fun Y d=>∀v,DV K Y d v->Q v Y.H
def rC (K:ô) (Ξ:Wd->aP->Prop) (o:List D->aa->Res D):List V->Hp->VK->Prop:=fun X H Q=>∃w Z,w.H=H/\aH K w/\ar K w Z X/\Out K Ξ w (o Z w.aw) fun Y d=>∀v,DV K Y d v->Q v Y.H
def ae (i:Nat):PB D:=fun env s=>match env[i]? with
 |some (some d)=>ok d s
 |_=>none
def eC (d:D):PB D:=fun _ s=>ok d s
def e1 (o:D->aa->Res D) (f:PB D):PB D:=fun env s=>aj (f env s) fun x s=>o x s
def e2 (o:D->D->aa->Res D) (f g:PB D):PB D:=fun env s=>aj (f env s) fun x s=>aj (g env s) fun y s=>o x y s
def ai:PB (List D):=fun _ s=>ok [] s
def af (f:PB D) (g:PB (List D)):PB (List D):=fun env s=>aj (f env s) fun x s=>aj (g env s) fun Z s=>ok (x::Z) s
def eB (o:List D->aa->Res D) (f:PB (List D)):PB D:=fun env s=>aj (f env s) fun Z s=>o Z s
def fZ {α:Type} (ds:List D) (r:Res α):Res α:=if ds.length<=Ô then r else none
def dg (f:PB (List D)):PB D:=fun env s=>aj (f env s) fun Z s=>fZ Z (ok (.tup Z) s)
def dG (f:PB (List D)):PB D:=fun env s=>aj (f env s) fun Z s=>fZ Z (ok (.lst Z) s)
def eNew (f:PB (List D)):PB D:=fun env s=>aj (f env s) fun Z s=>fZ Z (ok (.ah s.length) (s++[.lst Z]))
def aO:D->aa->Res D:=fun d s=>match d with
 | .ah k=>match s[k]? with
  |some (.lst Z)=>ok (.lst Z) (s.set k .dead)
  |_=>none
 |_=>none
def BZ (f:PB D):PB D:=fun env s=>aj (f env s) aO
def fy (d:D) (s:aa):Res Bool:=match d with
 | .bl b=>ok b s
 |_=>none
def bD (f:PB D):PB Bool:=fun env s=>aj (f env s) fy
def truth (d:D) (s:aa):Res Bool:=match d with
 | .au=>ok false s
 | .bl b=>ok b s
 | .int i=>ok (i != 0) s
 | .str x=>if x.length<=Ô then ok ((x.length:Int) != 0) s else none
 | .tup Z=>ok (!Z.isEmpty) s
 | .lst Z=>ok (!Z.isEmpty) s
 | .br Y=>ok (!Y.isEmpty) s
 | .ah k=>match s[k]? with
  |some (.lst Z)=>ok (!Z.isEmpty) s
  |some (.dK Y)=>ok (!Y.isEmpty) s
  |_=>none
 | .ty _=>none
 | .bt _=>none
 | .exc _ _=>none
 | .bO _ _ _=>none
def dC (f:PB D):PB Bool:=fun env s=>aj (f env s) truth
def lG (f g:PB Bool):PB Bool:=fun env s=>aj (f env s) fun b s=>if b=true then g env s else ok false s
def jA (f g:PB Bool):PB Bool:=fun env s=>aj (f env s) fun b s=>if b=true then ok true s else g env s
def fu (f:PB Bool):PB Bool:=fun env s=>aj (f env s) fun b s=>ok (!b) s
def gg (f g:PB D):PB D:=fun env s=>aj (f env s) fun x s=>aj (fy x s) fun b s=>if b=true then g env s else ok (.bl false) s
def CN (f g:PB D):PB D:=fun env s=>aj (f env s) fun x s=>aj (fy x s) fun b s=>if b=true then ok (.bl true) s else g env s
def rG (f:PB D):PB D:=fun env s=>aj (f env s) fun x s=>aj (fy x s) fun b s=>ok (.bl (!b)) s
def pw (c:PB Bool) (f g:PB D):PB D:=fun env s=>aj (c env s) fun b s=>if b=true then f env s else g env s
def CO (o o':D->D->aa->Res D) (f g h:PB D):PB D:=fun env s=>aj (f env s) fun x s=>aj (g env s) fun y s=>aj (o x y s) fun z s=>aj (fy z s) fun b s =>
 if b=true then aj (h env s) fun u s=>o' y u s else ok (.bl false) s
section
variable {X:Cx} {Ξ:Wd->aP->Prop} {e a b c:ÿ} {es rest:List ÿ} {pos:Pos} {f g h:PB D} {fa:PB (List D)} {ft gt:PB Bool}
def cb {t t':TE} (h:PE X e t) (i:∀ σ H Q,t' σ H Q->t σ H Q):PE X e t':=fun Z s σ H Q I Y=>h Z s σ H Q I (i σ H Q Y)
def uK {t t':TT} (h:PT X e t) (i:∀ σ H Q,t' σ H Q->t σ H Q):PT X e t':=fun Z s σ H Q I Y=>h Z s σ H Q I (i σ H Q Y)
def An {t t':TT} (h:PW X e t) (i:∀ σ H Q,t' σ H Q->t σ H Q):PW X e t':=fun Z Y s σ H Q I W=>h Z Y s σ H Q I (i σ H Q W)
def Ao {t t':TA} (h:PA X es t) (i:∀ σ H Q,t' σ H Q->t σ H Q):PA X es t':=fun p Z s σ H Q I Y=>h p Z s σ H Q I (i σ H Q Y)
def ie (h:PS X st t) (i:∀D σ H,t' D σ H->t D σ H):PS X st t':=fun Z s σ H D I Y=>h Z s σ H D I (i D σ H Y)
def zI (h:bX X st t) (i:∀D σ H,t' D σ H->t D σ H):bX X st t':=fun Z s σ H D I Y=>h Z s σ H D I (i D σ H Y)
def ay {α:Type} {K:ô} {w:Wd} {a:α} {k:Wd->α->Prop} (S:aH K w) (h:Out K Ξ w (ok a w.aw) k):k w a:=h w (Le.refl w) S rfl
def ag (i:Nat) {x:Str} (hN:X.N[i]?=some x:=by rfl) (hv:ny X.env.scope x:=by first|exact Or.inl rfl|exact Or.inr (Or.inl rfl)|exact Or.inr (Or.inr rfl)) (hd:(x==("__debug__":Str))=false:=by decide)
  (bJ:(x==("__classdict__":Str))=false:=by decide):PE X (.Name x pos) (tE X.K Ξ (ae i)):=cb (Ah hN hv hd bJ) fun σ H Q Z=>by
 obtain ⟨w,env,Y,S,W,h⟩:=Z;unfold ae at h;split at h
 ·rename_i d V
  obtain ⟨v,e1,e2⟩:=W.val i d V;subst Y;exact ⟨v,e1,ay S h v e2⟩
 ·exact h.elim
def mR {d:D} {v:V} (h:PE X e (tC v)) (hd:∀w,DV X.K w d v):PE X e (tE X.K Ξ (eC d)):=cb h fun σ H Q Z=>by
 obtain ⟨w,env,Y,S,W,h⟩:=Z;subst Y;exact ay S h v (hd w)
def aB {i j}:PE X (.Constant (.int i) j pos) (tE X.K Ξ (eC (.int i))):=mR H0 fun _=>rfl
def fz {b j}:PE X (.Constant (.bool b) j pos) (tE X.K Ξ (eC (.bl b))):=mR vh fun _=>rfl
def qY {j}:PE X (.Constant .none j pos) (tE X.K Ξ (eC .au)):=mR H9 fun _=>rfl
def eZ {x j}:PE X (.Constant (.str x) j pos) (tE X.K Ξ (eC (.str x))):=mR Ia fun _=>rfl
def qh (σ:St) (H:Hp) (Q:VK):tE K Ξ (e2 o f g) σ H Q->pe (rO K Ξ o) (tE K Ξ f) (tE K Ξ g) σ H Q:=by
 rintro ⟨w,env,rfl,S,Z,h⟩;exact ⟨w,env,rfl,S,Z,(Out.aj h).mono fun Y x X W V v1 U=>⟨Y,env,rfl,W,Z.le X,(Out.aj V).mono fun T y R P O v2 N=>⟨T,x,y,rfl,P,R _ _ U,N,O⟩⟩⟩
def aT (ho:bq X (Ē op) (rO X.K Ξ o)) (ha:PE X a (tE X.K Ξ f)) (hb:PE X b (tE X.K Ξ g)):PE X (.BinOp a op b pos) (tE X.K Ξ (e2 o f g)):=cb (JZ ho ha hb) qh
def mS (ho:bq X (ă op) (rO X.K Ξ o)) (ha:PE X a (tE X.K Ξ f)) (hb:PE X b (tE X.K Ξ g)) (hm:Ŝ op b=false):PE X (.Compare a [op] [b] pos) (tE X.K Ξ (e2 o f g)):=cb (Ha ho ha hb hm) qh
def IY {K:ô} (σ:St) (H:Hp) (Q:Bool->Hp->Prop):tT K Ξ (bD f) σ H Q->qV (tE K Ξ f) σ H Q:=by
 rintro ⟨w,env,rfl,S,Y,h⟩;refine ⟨w,env,rfl,S,Y,(Out.aj h).mono fun V x U X Z v1 W=>?_⟩
 cases x with
 |bl b =>
  have e:v1=.bl b:=W;exact ⟨b,e,ay X Z⟩
 |_=>exact Z.elim
def EC (i:∀ σ H Q,t' σ H Q->t σ H Q) (σ:St) (H:Hp) (Q:Bool->Hp->Prop):qV t' σ H Q->qV t σ H Q:=fun h=>i _ _ _ h
def cJ (ho:bq X (ă op) (rO X.K Ξ o)) (ha:PE X a (tE X.K Ξ f)) (hb:PE X b (tE X.K Ξ g)) (hm:Ŝ op b=false):PT X (.Compare a [op] [b] pos) (tT X.K Ξ (bD (e2 o f g))) :=
 uK (Hb ho ha hb hm) fun σ H Q h=>EC qh σ H Q (IY σ H Q h)
def v8 (ho:pd X (unaryOp op) (rU X.K Ξ o)) (ha:PE X a (tE X.K Ξ f)):PE X (.UnaryOp op a pos) (tE X.K Ξ (e1 o f)):=cb (J0 ho ha) fun σ H Q Z=>by
 obtain ⟨w,env,Y,S,W,h⟩:=Z;subst Y;exact ⟨w,env,rfl,S,W,(Out.aj h).mono fun V x P U T v1 R=>⟨V,x,rfl,U,R,T⟩⟩
def gP:PA X [] (tA X.K Ξ ai):=Ao kW fun σ H Q Z=>by
 obtain ⟨w,env,Y,S,W,h⟩:=Z;subst Y;exact ay S h _ rfl
def bw (ha:PE X e (tE X.K Ξ f)) (hr:PA X es (tA X.K Ξ fa)) (hs:Ä (e::es) X.env=(false,Ĕ e X.env)::Ä es X.env:=by rfl):PA X (e::es) (tA X.K Ξ (af f fa)):=Ao (iM ha hr hs) fun σ H Q Y=>by
 obtain ⟨w,env,W,S,Z,h⟩:=Y;subst W;exact ⟨w,env,rfl,S,Z,(Out.aj h).mono fun V x U T R v1 P=>⟨V,env,rfl,T,Z.le U,(Out.aj R).mono fun I G O N M L J=>ay N M _ ⟨v1,L,rfl,O _ _ P,J⟩⟩⟩
def nP {α:Type} {K:ô} {w:Wd} {ds:List D} {r:Res α} {k:Wd->α->Prop} (h:Out K Ξ w (fZ ds r) k):ds.length<=Ô/\Out K Ξ w r k:=by
 unfold fZ at h;split at h
 ·exact ⟨by assumption,h⟩
 ·exact h.elim
def dX {x1} (ha:PA X es (tA X.K Ξ fa)):PE X (.Tuple es x1 pos) (tE X.K Ξ (dg fa)):=cb (ID ha) fun σ H Q V=>by
 obtain ⟨w,env,U,S,T,h⟩:=V;subst U;refine ⟨w,env,rfl,S,T,(Out.aj h).mono fun R L J P O Y W=>?_⟩;obtain ⟨N,M⟩:=nP O;refine ⟨by rw [<- W.length];exact N,fun p Z=>?_⟩;exact M (R.grow p (.tup Y)) (Fw.grow Z).le (P.grow Z) rfl (.ref p) ⟨p,Y,rfl,bh.of bZ,(Fw.grow Z).le.all W⟩
def kX {K:ô} {w:Wd} {p:Ì} (S:aH K w) (hp:w.H p=none):¬ w.Z p:=fun ⟨k,c,e1,_,_⟩=>S.there k p e1 hp
def fJ (ha:PA X es (tA X.K Ξ fa)):PE X (.List es pos) (tE X.K Ξ (dG fa)):=cb (Al ha) fun σ H Q R=>by
 obtain ⟨w,env,P,S,O,h⟩:=R;subst P;refine ⟨w,env,rfl,S,O,(Out.aj h).mono fun W J I V N U T=>?_⟩;obtain ⟨M,L⟩:=nP N;refine ⟨by rw [<- T.length];exact M,fun p Y=>?_⟩;exact L (W.grow p (.lst U)) (Fw.grow Y).le (V.grow Y) rfl (.ref p) ⟨p,U,rfl,⟨(show ¬ W.Z p from kX V Y),bZ⟩,(Fw.grow Y).le.all T⟩
def qZ (ha:PA X es (tA X.K Ξ fa)):PE X (.List es pos) (tE X.K Ξ (eNew fa)):=cb (Al ha) fun σ H Q R=>by
 obtain ⟨w,env,P,S,O,h⟩:=R;subst P;refine ⟨w,env,rfl,S,O,(Out.aj h).mono fun Z V J Y N W U=>?_⟩;obtain ⟨M,L⟩:=nP N;refine ⟨by rw [<- U.length];exact M,fun p T=>?_⟩;have le:=(Fw.cell (o:=.lst W) (c:=.lst V) Y T).le;refine L (Z.cell p (.lst W) (.lst V)) le (Y.vl T ⟨W,bZ,le.all U⟩) rfl (.ref p) ⟨p,?_,rfl⟩;show (Z.ρ++[p])[Z.aw.length]?=some p;rw [<- Y.len];simp
theorem oJ.of {K:ô} {w:Wd} {d:D} {v:V} {k:Wd->Bool->Prop} (S:aH K w) (hd:DV K w d v) (h:Out K Ξ w (truth d w.aw) k):∃b,oJ K v w.H b/\k w b:=by
 cases d with
 |au=>have e:v=.au:=hd;subst e;exact ⟨_,rfl,ay S h⟩
 |bl b=>have e:v=.bl b:=hd;subst e;exact ⟨_,rfl,ay S h⟩
 |int i=>have e:v=.int i:=hd;subst e;exact ⟨_,rfl,ay S h⟩
 |str x =>
  have e:v=.str x:=hd;subst e;unfold truth at h
  split at h<;>first|contradiction|skip
  all_goals (rename_i e;cases e)
  split at h
  ·exact ⟨_,⟨by assumption,rfl⟩,ay S h⟩
  ·exact h.elim
 |tup Y =>
  simp only [DV] at hd;obtain ⟨a,Z,rfl,X,r⟩:=hd;refine ⟨_,.inr (.inl ⟨Z,X,?_⟩),ay S h⟩;have e:=r.length
  cases Y<;>cases Z<;>first|rfl|cases e
 |lst Y =>
  simp only [DV] at hd;obtain ⟨a,Z,rfl,X,r⟩:=hd;refine ⟨_,.inl ⟨Z,X.sq,?_⟩,ay S h⟩;have e:=r.length
  cases Y<;>cases Z<;>first|rfl|cases e
 |br W =>
  simp only [DV] at hd;obtain ⟨a,rfl,_,X⟩:=hd;refine ⟨_,.inr (.inr ⟨_,X,?_⟩),ay S h⟩
  cases W<;>rfl
 |ah j =>
  simp only [DV] at hd;obtain ⟨a,e1,rfl⟩:=hd;simp only [truth] at h;split at h
  ·rename_i Y U
   obtain ⟨Z,T,R⟩:=S.cell j a _ e1 U;refine ⟨_,.inl ⟨Z,bb.of T,?_⟩,ay S h⟩;have e:=R.length
   cases Y<;>cases Z<;>first|rfl|cases e
  ·rename_i W U
   obtain ⟨es,T,R,Q⟩:=S.cell j a _ e1 U;refine ⟨_,.inr (.inr ⟨es,T,?_⟩),ay S h⟩;have e:=Ĩ List.length R
   cases W<;>cases es<;>first|rfl|simp at e
  ·exact h.elim
 |ty n=>exact h.elim
 |bt P=>exact h.elim
 |exc o _=>exact h.elim
 |bO o _ _=>exact h.elim
def ik (ha:PE X a (tE X.K Ξ f)) (he:∀whole,isTrue a X.env whole=(do let v <- whole;standAt a.pos;Ũ [v] (truthy v)):=by intro _;rfl):PT X a (tT X.K Ξ (dC f)):=uK (FY ha he) fun σ H Q Z=>by
 obtain ⟨w,env,Y,S,W,h⟩:=Z;subst Y;exact ⟨w,env,rfl,S,W,(Out.aj h).mono fun R x P V U v1 T=>oJ.of V T U⟩
def lp (ha:PT X a (tT X.K Ξ ft)):PT X (.UnaryOp .Not a pos) (tT X.K Ξ (fu ft)):=uK (Ie ha) fun σ H Q Z=>by
 obtain ⟨w,env,Y,S,W,h⟩:=Z;subst Y;exact ⟨w,env,rfl,S,W,(Out.aj h).mono fun T b R V U=>ay V U⟩
def Ap (ha:PT X a (tT X.K Ξ ft)):PW X (.BoolOp .And [a] pos) (tT X.K Ξ ft):=G5 ha
def vn (ha:PT X a (tT X.K Ξ ft)):PW X (.BoolOp .Or [a] pos) (tT X.K Ξ ft):=Ib ha
def w_and (ha:PT X a (tT X.K Ξ ft)) (hb:PW X (.BoolOp .And (b::rest) pos) (tT X.K Ξ gt)):PW X (.BoolOp .And (a::b::rest) pos) (tT X.K Ξ (lG ft gt)):=An (Ic ha hb) fun σ H Q V=>by
 obtain ⟨w,env,U,S,Z,h⟩:=V;subst U;refine ⟨w,env,rfl,S,Z,(Out.aj h).mono fun T b R Y W=>?_⟩
 cases b with
 |true=>exact ⟨T,env,rfl,Y,Z.le R,W⟩
 |false=>exact ay Y W
def w_or (ha:PT X a (tT X.K Ξ ft)) (hb:PW X (.BoolOp .Or (b::rest) pos) (tT X.K Ξ gt)):PW X (.BoolOp .Or (a::b::rest) pos) (tT X.K Ξ (jA ft gt)):=An (JS ha hb) fun σ H Q V=>by
 obtain ⟨w,env,U,S,Z,h⟩:=V;subst U;refine ⟨w,env,rfl,S,Z,(Out.aj h).mono fun T b R Y W=>?_⟩
 cases b with
 |false=>exact ⟨T,env,rfl,Y,Z.le R,W⟩
 |true=>exact ay Y W
def oh {op} (ha:PE X a (tE X.K Ξ f)):PE X (.BoolOp op [a] pos) (tE X.K Ξ f):=Ig ha
def zJ {K:ô} {w:Wd} {d:D} {v:V} {k:Wd->Bool->Prop} (S:aH K w) (hd:DV K w d v) (h:Out K Ξ w (fy d w.aw) k):∃b,v=.bl b/\k w b:=by
 cases d with
 |bl b=>exact ⟨b,hd,ay S h⟩
 |_=>exact h.elim
def jY (ha:PE X a (tE X.K Ξ f)) (hb:PE X (.BoolOp .And (b::rest) pos) (tE X.K Ξ g)):PE X (.BoolOp .And (a::b::rest) pos) (tE X.K Ξ (gg f g)):=cb (Ih ha hb) fun σ H Q V=>by
 obtain ⟨w,env,U,S,Y,h⟩:=V;subst U;refine ⟨w,env,rfl,S,Y,(Out.aj h).mono fun T x R Z P v1 O=>?_⟩;obtain ⟨b,e,W⟩:=zJ Z O (Out.aj P);refine ⟨b,e,?_⟩
 cases b with
 |true=>exact ⟨T,env,rfl,Z,Y.le R,W⟩
 |false=>exact ay Z W _ rfl
def Km (ha:PE X a (tE X.K Ξ f)):PE X (.UnaryOp .Not a pos) (tE X.K Ξ (rG f)):=cb (Ii ha) fun σ H Q Y=>by
 obtain ⟨w,env,W,S,V,h⟩:=Y;subst W;refine ⟨w,env,rfl,S,V,(Out.aj h).mono fun P x O Z U v1 T=>?_⟩;obtain ⟨b,e,R⟩:=zJ Z T (Out.aj U);exact ⟨b,e,ay Z R _ rfl⟩
def LX (hc:PT X c (tT X.K Ξ ft)) (ha:PE X a (tE X.K Ξ f)) (hb:PE X b (tE X.K Ξ g)):PE X (.IfExp c a b pos) (tE X.K Ξ (pw ft f g)):=cb (FV hc ha hb) fun σ H Q T=>by
 obtain ⟨w,env,R,S,Z,h⟩:=T;subst R;refine ⟨w,env,rfl,S,Z,(Out.aj h).mono fun Y b W V U=>?_⟩
 cases b with
 |true=>exact ⟨Y,env,rfl,V,Z.le W,U⟩
 |false=>exact ⟨Y,env,rfl,V,Z.le W,U⟩
def IZ (σ:St) (H:Hp) (Q:VK):tE K Ξ (eB o fa) σ H Q->CB (rC K Ξ o) (tA K Ξ fa) σ H Q:=by
 rintro ⟨w,env,rfl,S,Z,h⟩;exact ⟨w,env,rfl,S,Z,(Out.aj h).mono fun Y X T W V R U=>⟨Y,X,rfl,W,U,V⟩⟩
def cB {x:Str} {p:Pos} {id:String} {o:List D->aa->Res D} (hc:dB X (.builtin id) (rC X.K Ξ o)) (hg:Gl X x) (hm:X.mg x=none) (hv:õ x=some (.builtin id)) (ha:PA X (e::es) (tA X.K Ξ fa)) (hn:x≠"__name__":=by decide) (cN:(x==("__debug__":Str))=false:=by decide)
  (he:Ä (e::es) X.env=(false,Ĕ e X.env)::Ä es X.env:=by rfl) (bP:(Ĉ pos (Ä es X.env)).any (·.1)=false:=by rfl):PE X (.Call (.Name x p) (e::es) [] pos) (tE X.K Ξ (eB o fa)):=cb (tP hc hg hm hv ha hn cN he bP) IZ
end
set_option genInjectivity true in
inductive Fl where
 |nx (env:Env)|rt (d:D)|bk (env:Env)|ct (env:Env)
def rH (K:ô) (D:Ends) (w:Wd):Fl->Prop
 | .nx env=>∀ σ,bF K w env σ->D.nx σ w.H
 | .rt d=>∀v,DV K w d v->D.rt v w.H
 | .bk env=>∀ σ,bF K w env σ->D.bk σ w.H
 | .ct env=>∀ σ,bF K w env σ->D.ct σ w.H
def tS (K:ô) (Ξ:Wd->aP->Prop) (f:PB Fl):TS:=fun D σ H=>∃w env,w.H=H/\aH K w/\bF K w env σ/\Out K Ξ w (f env w.aw) (rH K D)
def bH:PB Fl:=fun env s=>ok (.nx env) s
def az (f g:PB Fl):PB Fl:=fun env s=>aj (f env s) fun fl s=>match fl with
 | .nx env=>g env s
 |fl=>ok fl s
def aS (f:PB D):PB Fl:=fun env s=>aj (f env s) fun d s=>ok (.rt d) s
def iP (f:PB D):PB Fl:=fun env s=>aj (f env s) fun _ s=>ok (.nx env) s
def bj (c:PB Bool) (f g:PB Fl):PB Fl:=fun env s=>aj (c env s) fun b s=>if b=true then f env s else g env s
def Bi:PB Fl:=fun env s=>ok (.ct env) s
def bo (f:PB D) (g:D->Env->Option Env):PB Fl:=fun env s=>aj (f env s) fun d s=>match g d env with
 |some Z=>ok (.nx Z) s
 |none=>none
def gN (i:Nat):D->Env->Option Env:=fun d env=>some (env.set i (some d))
def fN:List (D->Env->Option Env)->List D->Env->Option Env
 | [],[],env=>some env
 |g::Z,d::Y,env=>match g d env with
  |some X=>fN Z Y X
  |none=>none
 |_,_,_=>none
def gT (gs:List (D->Env->Option Env)):D->Env->Option Env:=fun d env=>match d with
 | .tup Z=>fN gs Z env
 |_=>none
def iQ (g:D->Env->Option Env) (b:PB Fl):List D->PB Fl
 | [],env,s=>ok (.nx env) s
 |d::Z,env,s=>match g d env with
  |none=>none
  |some Y=>aj (b Y s) fun X s=>match X with
   | .nx e=>iQ g b Z e s
   | .ct e=>iQ g b Z e s
   | .bk e=>ok (.nx e) s
   | .rt d=>ok (.rt d) s
def lL (it:PB (List D)) (g:D->Env->Option Env) (b:PB Fl):PB Fl:=fun env s=>aj (it env s) fun Z s=>iQ g b Z env s
def ne {α:Type} (r:Res α):Res α:=match r with
 |some (.ok a,s)=>some (.ok a,s)
 |_=>none
@[simp] theorem lq {α:Type} {a:α} {s:aa}:ne (some (.ok a,s))=some (.ok a,s):=rfl
def fK (cap:List Nat) (env:Env):Env:=cap.map fun j=>(env[j]?).getD none
def gK (nt:Nat) (caps:Env) (g:D->Env->Option Env) (t:PB Bool) (f:PB D):List D->aa->Res (List D)
 | [],s=>ok [] s
 |d::Z,s=>match g d (Ê nt none++caps) with
  |none=>none
  |some env=>aj (ne (t env s)) fun b s=>if b=true then aj (ne (f env s)) fun x s=>aj (gK nt caps g t f Z s) fun Y s=>ok (x::Y) s
   else gK nt caps g t f Z s
def gQ (nt:Nat) (cap:List Nat) (it:PB (List D)) (g:D->Env->Option Env) (t:PB Bool) (f:PB D):PB D:=fun env s =>
 aj (it env s) fun Z s=>fZ Z (aj (gK nt (fK cap env) g t f Z s) fun Y s=>ok (.lst Y) s)
def iF:PB Bool:=fun _ s=>ok true s
def aI (np ns:Nat) (b:PB Fl):List D->aa->Res D:=fun Z s=>if Z.length=np then aj (b (Z.map some++Ê (ns-np) none) s) fun Y s=>match Y with
 | .rt d=>ok d s
 | .nx _=>ok .au s
 |_=>none else none
abbrev cu:Wd->aP->Prop:=fun _ _=>False
def gB (K:ô) (f:List D->aa->Res D):Sp:=fun X H Q _=>∃w Z,w.H=H/\aH K w/\ar K w Z X/\Out K cu w (f Z w.aw) fun Y d=>∀v,DV K Y d v->Q v Y.H
section
variable {X:Cx} {Ξ:Wd->aP->Prop} {e a b c tg:ÿ} {es rest:List ÿ} {pos:Pos} {f g h:PB D} {fa:PB (List D)} {ft gt:PB Bool} {st:ŷ} {lX v9:List ŷ} {fs gs:PB Fl}
def cE:bX X [] (tS X.K Ξ bH):=zI G6 fun D σ H Z=>by
 obtain ⟨w,env,Y,S,W,h⟩:=Z;subst Y;exact ay S h σ W
def aW (h1:PS X st (tS X.K Ξ fs)) (h2:bX X lX (tS X.K Ξ gs)):bX X (st::lX) (tS X.K Ξ (az fs gs)):=zI (FW h1 h2) fun D σ H W=>by
 obtain ⟨w,env,V,S,U,h⟩:=W;subst V;refine ⟨w,env,rfl,S,U,(Out.aj h).mono fun T R P Z h1=>?_⟩
 cases R with
 |nx Y=>exact fun O Q=>⟨T,Y,rfl,Z,Q,h1⟩
 |rt d=>have q:=ay Z h1;exact q
 |bk Y=>have q:=ay Z h1;exact q
 |ct Y=>have q:=ay Z h1;exact q
def aR (h1:PS X st (tS X.K Ξ fs)):bX X [st] (tS X.K Ξ fs):=G7 h1
def bC (he:PE X e (tE X.K Ξ f)):PS X (.Return (some e) pos) (tS X.K Ξ (aS f)):=ie (Ij he) fun D σ H Z=>by
 obtain ⟨w,env,Y,S,W,h⟩:=Z;subst Y;exact ⟨w,env,rfl,S,W,(Out.aj h).mono fun T d R V U=>ay V U⟩
def uL (he:PE X e (tE X.K Ξ f)) (hs:swapsWith e none pos.line X.env=pure false:=by rfl):PS X (.Expr e pos) (tS X.K Ξ (iP f)):=ie (G8 he hs) fun D σ H Y=>by
 obtain ⟨w,env,W,S,Z,h⟩:=Y;subst W;exact ⟨w,env,rfl,S,Z,(Out.aj h).mono fun R d V U T _ _=>ay U T σ (Z.le V)⟩
def cm (hc:PT X c (tT X.K Ξ ft)) (ha:bX X lX (tS X.K Ξ fs)) (hb:bX X v9 (tS X.K Ξ gs)):PS X (.If c lX v9 pos) (tS X.K Ξ (bj ft fs gs)):=ie (JX hc ha hb) fun D σ H T=>by
 obtain ⟨w,env,R,S,Z,h⟩:=T;subst R;refine ⟨w,env,rfl,S,Z,(Out.aj h).mono fun Y b W V U=>?_⟩
 cases b with
 |true=>exact ⟨Y,env,rfl,V,Z.le W,U⟩
 |false=>exact ⟨Y,env,rfl,V,Z.le W,U⟩
def gD (K:ô) (g:D->Env->Option Env):TG:=fun v σ H Q=>∃w env d Z,w.H=H/\aH K w/\bF K w env σ/\DV K w d v/\g d env=some Z/\∀ Y,bF K w Z Y->Q Y H
def pz (K:ô) (g:List D->Env->Option Env):iw:=fun W σ H Q=>∃w env Z Y,w.H=H/\aH K w/\bF K w env σ/\ar K w Z W/\g Z env=some Y/\∀ X,bF K w Y X->Q X H
def Aq {t t':TG} (h:PG X e t) (i:∀v σ H Q,t' v σ H Q->t v σ H Q):PG X e t':=fun Z s σ H v u Q I r Y=>h Z s σ H v u Q I r (i v σ H Q Y)
def zK {t t':iw} (h:i5 X es t) (i:∀v σ H Q,t' v σ H Q->t v σ H Q):i5 X es t':=fun Z s σ H v u Q I r Y=>h Z s σ H v u Q I r (i v σ H Q Y)
def dW (i:Nat) {x:Str} (hN:X.N.Nodup) (hi:X.N[i]?=some x:=by rfl) (hx:Loc X.env.scope x:=by first|exact Or.inl rfl|exact Or.inr rfl) (hf:X.fn x=true\/X.env.scope.names.lookup x=some .local:=by first|exact .inl rfl|exact .inr rfl):PG X (.Name x pos) (gD X.K (gN i)) :=
 Aq (kQ hN hi hx hf) fun v σ H Q Z=>by
  obtain ⟨w,env,d,Y,T,S,W,V,U,k⟩:=Z;have e:env.set i (some d)=Y:=PK U;subst e;exact k _ (W.set V i)
def mG:i5 X [] (pz X.K (fN [])):=zK zv fun R σ H Q W=>by
 obtain ⟨w,env,Z,V,P,S,U,T,Y,k⟩:=W
 cases Z with
 |nil =>
  have e:env=V:=PK Y;subst e;exact ⟨T,k _ U⟩
 |cons d Z=>cases Y
def fj {g:D->Env->Option Env} {gl:List (D->Env->Option Env)} (h1:PG X e (gD X.K g)) (h2:i5 X es (pz X.K (fN gl)))
  (hs:(Ī (e::es) X.env).map (·.2)=assign e X.env::(Ī es X.env).map (·.2):=by rfl):i5 X (e::es) (pz X.K (fN (g::gl))):=zK (tO h1 h2 hs) fun L σ H Q T=>by
 obtain ⟨w,env,Y,R,V,S,P,O,Z,k⟩:=T
 cases Y with
 |nil=>cases Z
 |cons d Y =>
  obtain ⟨v,r,rfl,N,dr⟩:=O;simp only [fN] at Z
  cases W:g d env with
  |none=>rw [W] at Z;cases Z
  |some U =>
   rw [W] at Z;refine ⟨v,r,rfl,w,env,d,U,V,S,P,N,W,fun J M=>⟨w,U,Y,R,V,S,M,dr,Z,k⟩⟩
theorem tR:∀{gl:List (D->Env->Option Env)} {ds:List D} {env aK:Env},fN gl ds env=some aK->ds.length=gl.length
 | [],[],_,_,_=>rfl
 |g::gl,d::ds,env,aK,h=>by
  simp only [fN] at h
  cases Z:g d env with
  |none=>rw [Z] at h;cases h
  |some e1=>rw [Z] at h;simp [tR h]
 | [],_::_,_,_,h=>by cases h
 |_::_,[],_,_,h=>by cases h
def mT {gl:List (D->Env->Option Env)} {k:Nat} (hc:X.calm=true) (h:i5 X es (pz X.K (fN gl))) (hn:(Ī es X.env).length=gl.length:=by rfl) (jC:(Ī es X.env).findIdx? (·.1)=none:=by rfl):PG X (.Tuple es k pos) (gD X.K (gT gl)) :=
 Aq (Ai hc h hn jC) fun v σ H Q V=>by
  obtain ⟨w,env,d,U,T,S,R,Y,Z,k⟩:=V
  cases d with
  |tup P =>
   simp only [DV] at Y;obtain ⟨p,O,e1,N,W⟩:=Y;subst T;exact ⟨p,O,e1,N,by rw [<- W.length];exact tR Z,w,env,P,U,rfl,S,R,W,Z,k⟩
  |_=>cases Z
def zL {K:ô} {g:D->Env->Option Env} (D:Ends) (σ:St) (H:Hp):tS K Ξ (bo f g) D σ H->oI (tE K Ξ f) (gD K g) D σ H:=by
 rintro ⟨w,env,rfl,S,X,h⟩;refine ⟨w,env,rfl,S,X,(Out.aj h).mono fun V d U W Z v T=>?_⟩
 cases Y:g d env with
 |none=>rw [Y] at Z;exact Z.elim
 |some R =>
  rw [Y] at Z;exact ⟨V,env,d,R,rfl,W,X.le U,T,Y,ay W Z⟩
def oi {g:D->Env->Option Env} (he:PE X e (tE X.K Ξ f)) (hg:PG X tg (gD X.K g)) (hs:ż [tg] e pos.line X.env=pure false:=by rfl) (hw:Ž [tg] e X.env=pure none:=by rfl)
  (h1:(Ī [tg] X.env).map (·.2)=[assign tg X.env]:=by rfl):PS X (.Assign [tg] e pos) (tS X.K Ξ (bo f g)):=ie (Aj he hg hs hw h1) zL
def Fg {K:ô} {te:TE} {i:Nat} (D:Ends) (σ:St) (H:Hp):oI (tE K Ξ f) (gD K (gN i)) D σ H->oI (tE K Ξ f) (lg i) D σ H:=by
 rintro ⟨w,env,rfl,S,Z,h⟩;refine ⟨w,env,rfl,S,Z,h.mono fun P d O N Y v X=>?_⟩;obtain ⟨M,W,V,U,L,J,T,R,Q,k⟩:=Y v X;have e:W.set i (some V)=U:=PK Q;subst e;exact k _ (T.set R i)
def cK (i:Nat) {x:Str} {pos':Pos} (hN:X.N.Nodup) (he:PE X e (tE X.K Ξ f)) (hi:X.N[i]?=some x:=by rfl) (hx:Loc X.env.scope x:=by first|exact Or.inl rfl|exact Or.inr rfl) (hs:swapsWith e (some (.Name x pos')) pos.line X.env=pure false:=by rfl) (hf:X.fn x=true\/X.env.scope.names.lookup x=some .local:=by first|exact .inl rfl|exact .inr rfl) :
  PS X (.Assign [.Name x pos'] e pos) (tS X.K Ξ (bo f (gN i))):=ie (Il hN hi hx he hs hf) fun D σ H h=>Fg (te:=tE X.K Ξ f) D σ H (zL D σ H h)
def jF (K:ô) (w:Wd) (J:It) (ds:List D):Prop:=∀Z,Le K w Z->aH K Z->∀i,
 (∀d,ds[i]?=some d->J.go i Z.H/\∀x X,J.o7 i Z.H x X->∃Y,Y.H=X/\Le K Z Y/\aH K Y/\Y.aw=Z.aw/\DV K Y d x)/\(ds.length<=i->J.stop i Z.H)
def iG (K:ô) (Ξ:Wd->aP->Prop) (f:PB (List D)):TI:=fun σ H R=>∃w env,w.H=H/\aH K w/\bF K w env σ/\Out K Ξ w (f env w.aw) fun Z Y=>∀J,jF K Z J Y->R J Z.H
def uM {t t':TI} (h:PI X tg e t) (i:∀ σ H R,t' σ H R->t σ H R):PI X tg e t':=fun Z s σ H R I Y=>h Z s σ H R I (i σ H R Y)
def Hn {K:ô} {it:PB (List D)} {g:D->Env->Option Env} (D0:Ends) (σ:St) (H:Hp):tS K Ξ (lL it g fs) D0 σ H->BP (iG K Ξ it) (gD K g) (tS K Ξ fs) D0 σ H:=by
 rintro ⟨w,env,rfl,S,B,h⟩;refine ⟨w,env,rfl,S,B,(Out.aj h).mono fun M Y p o n J A=>?_⟩;refine ⟨fun i m L z=>m=Y.length-i/\i<=Y.length/\∃X V,X.H=z/\Le K M X/\aH K X/\bF K X V L/\Out K Ξ X (iQ g fs (Y.drop i) V X.aw) (rH K D0),
  ⟨Y.length,rfl,ū _,M,env,rfl,Le.refl _,o,B.le p,n⟩,?_⟩
 rintro i m L z ⟨rfl,hi,X,V,rfl,U,I,v,W⟩;by_cases G:i<Y.length
 ·right
  obtain ⟨l,k⟩:=(A X U I i).1 _ (ì G);rw [Ō G] at W;simp only [iQ] at W
  cases F:g Y[i] V with
  |none=>rw [F] at W;exact W.elim
  |some u =>
   rw [F] at W;refine ⟨l,fun E T=>∃Z R,Z.H=T/\Le K M Z/\aH K Z/\bF K Z R E/\Out K Ξ Z (iQ g fs (Y.drop (i+1)) R Z.aw) (rH K D0),fun E T ⟨Z,R,q⟩=>⟨Y.length-(i+1),by omega,rfl,G,Z,R,q⟩,fun x T y=>?_⟩;obtain ⟨Z,rfl,Q,t,es,j⟩:=k x T y;refine ⟨Z,V,Y[i],u,rfl,t,v.le Q,j,F,fun E f=>⟨Z,u,rfl,t,f,?_⟩⟩;rw [<- es] at W;refine (Out.aj (W.from Q)).mono fun s c r P O=>?_
   cases c with
   |nx N=>exact fun b C=>⟨s,N,rfl,U.trans (Q.trans r),P,C,O⟩
   |ct N=>exact fun b C=>⟨s,N,rfl,U.trans (Q.trans r),P,C,O⟩
   |bk N=>have q:=ay P O;exact q
   |rt d=>have q:=ay P O;exact q
 ·left
  have e:i=Y.length:=by omega
  subst e;rw [List.drop_length] at W;exact ⟨(A X U I _).2 (PJ _),ay I W L v⟩
def vo {iter:ÿ} {it:PB (List D)} {g:D->Env->Option Env} (hp:PassesOwn (Ø X.prog X.w) X.A X.env X.xe) (hc:X.calm=true) (hi:PI X tg iter (iG X.K Ξ it)) (hg:PG X tg (gD X.K g)) (hb:bX X lX (tS X.K Ξ fs))
  (hs:∀x,Ğ iter X.env x=pure x:=by intro _;rfl):PS X (.For tg iter lX [] pos) (tS X.K Ξ (lL it g fs)):=ie (Ip hp hc hi hg hb hs) Hn
theorem Out.ne {α:Type} {K:ô} {w:Wd} {r:Res α} {k:Wd->α->Prop} (h:Out K Ξ w (DI.ne r) k):Out K cu w r k:=by
 match r,h with
 |some (.ok a,s),h=>exact h
def bF.block {K:ô} {w:Wd} {env:Env} {σ:St} (h:bF K w env σ) (nt:Nat) (cap:List Nat) (o:St) (ho:o.length=nt):bF K w (Ê nt none++fK cap env) (o++ll cap σ):=by
 refine ⟨by simp [fK,ll,ho],fun i d e=>?_⟩;by_cases hi:i<nt
 ·rw [Ñ (by simpa using hi),ě,ã hi] at e
  cases e
 ·rw [à (by simpa using ź hi)] at e
  rw [à (by omega),ho];simp only [ų] at e;unfold fK at e;unfold ll;rw [û] at e |-
  cases Z:cap[i-nt]? with
  |none=>rw [Z] at e;cases e
  |some j =>
   rw [Z] at e;have ev:(env[j]?).getD none=some d:=PK e;have Y:env[j]?=some (some d):=by
    cases q:env[j]? with
    |none=>rw [q] at ev;cases ev
    |some z=>rw [q] at ev;exact Ĩ some ev
   obtain ⟨v,e1,e2⟩:=h.val j d Y;exact ⟨v,by rw [ļ,e1];rfl,e2⟩
def Fh {K:ô} {nt:Nat} {cap:List Nat} {it:PB (List D)} {g:D->Env->Option Env} {fin:List D->aa->Res D} (σ:St) (H:Hp) (Q:VK)
  (wa:∀(w2:Wd) (xs:List D) (vs:List V),aH K w2->ar K w2 xs vs->Out K Ξ w2 (fin xs w2.aw) (fun w' d=>∀v,DV K w' d v->Q v w'.H)->∀p,w2.H p=none->Q (.ref p) (upd w2.H p (.lst vs))) :
  tE K Ξ (fun env s=>aj (it env s) fun ds s=>fZ ds (aj (gK nt (fK cap env) g ft f ds s) fin)) σ H Q->mP (iG K Ξ it) nt cap (gD K g) (tT K cu ft) (tE K cu f) σ H Q:=by
 rintro ⟨w,env,rfl,S,B,h⟩;refine ⟨w,env,rfl,S,B,(Out.aj h).mono fun N ds j c M J A=>?_⟩;obtain ⟨hz,M⟩:=nP M;refine ⟨fun i m Z z=>m=ds.length-i/\i<=ds.length/\Z.length<=i/\∃w' X,w'.H=z/\Le K N w'/\aH K w'/\ar K w' X Z/\Out K Ξ w' (gK nt (fK cap env) g ft f (ds.drop i) w'.aw) fun w2 xs=>∀vs,ar K w2 (X++xs) vs->∀p,w2.H p=none->Q (.ref p) (upd w2.H p (.lst vs)),
  ⟨ds.length,rfl,ū _,ū _,N,[],rfl,Le.refl _,c,rfl,(Out.aj M).mono fun w2 xs W P a vs O p U=>?_⟩,?_⟩
 ·exact wa w2 xs vs P O a p U
 rintro i m Z z ⟨rfl,hi,ha,w',X,rfl,T,L,I,Y⟩;by_cases G:i<ds.length
 ·right
  obtain ⟨jG,hy⟩:=(A w' T L i).1 _ (ì G);rw [Ō G] at Y;simp only [gK] at Y
  cases F:g ds[i] (Ê nt none++fK cap env) with
  |none=>rw [F] at Y;exact Y.elim
  |some E =>
   rw [F] at Y;refine ⟨jG,by omega,fun C u=>C.length<=i+1/\∃w' X,w'.H=u/\Le K N w'/\aH K w'/\ar K w' X C/\Out K Ξ w' (gK nt (fK cap env) g ft f (ds.drop (i+1)) w'.aw) fun w2 xs=>∀vs,ar K w2 (X++xs) vs->∀p,w2.H p=none->Q (.ref p) (upd w2.H p (.lst vs)),
    fun C u ⟨xj,q⟩=>⟨ds.length-(i+1),by omega,rfl,G,xj,q⟩,fun o x H3 ho y=>?_⟩
   obtain ⟨w2,rfl,W,P,es,dv⟩:=hy x H3 y;refine ⟨w2,_,ds[i],E,rfl,P,(B.le (j.trans (T.trans W))).block nt cap o ho,dv,F,fun lT t=>?_⟩;rw [<- es] at Y;refine ⟨w2,E,rfl,P,t,(Out.aj (Y.from W)).ne.mono fun r b R n l=>?_⟩
   cases b with
   |true =>
    refine ⟨r,E,rfl,n,t.le R,(Out.aj l).ne.mono fun w4 d k S4 h4 v xk=>⟨by rw [č];simp;omega,w4,X++[d],rfl,T.trans (W.trans (R.trans k)),S4,ar.append ((W.trans (R.trans k)).all I) (ar.one xk),(Out.aj h4).mono fun w5 xs l5 S5 h5 vs O p U=>?_⟩⟩;exact ay S5 h5 vs (by rw [Ŭ] at O;exact O) p U
   |false =>
    exact ⟨by omega,r,X,rfl,T.trans (W.trans R),n,(W.trans R).all I,l⟩
 ·left
  have e:i=ds.length:=by omega
  subst e;rw [List.drop_length] at Y;refine ⟨(A w' T L _).2 (PJ _),by omega,fun p U=>ay L Y Z (by rw [Č];exact I) p U⟩
def Gf {K:ô} {nt:Nat} {cap:List Nat} {it:PB (List D)} {g:D->Env->Option Env} (σ:St) (H:Hp) (Q:VK) :
  tE K Ξ (gQ nt cap it g ft f) σ H Q->mP (iG K Ξ it) nt cap (gD K g) (tT K cu ft) (tE K cu f) σ H Q :=
 Fh σ H Q fun X S W V U T p Y=>T (X.grow p (.lst W)) (Fw.grow Y).le (V.grow Y) rfl (.ref p) ⟨p,W,rfl,⟨(show ¬ X.Z p from kX V Y),bZ⟩,(Fw.grow Y).le.all U⟩
end
def zM {o caps:St} {v:V} {i nt:Nat} (ho:o.length=nt) (hi:i<nt):(o++caps).set i (some v)=o.set i (some v)++caps:=by
 rw [List.set_append_left _ _ (by omega)]
def Fi {i nt:Nat} (hi:i<nt):pq (lg i) nt:=by
 intro x o Z H R Y h;exact ⟨⟨o.set i (some x),by rw [ù];exact Y,zM Y hi⟩,h⟩
def oP (g:iw) (nt:Nat):Prop:=∀(Y:List V) (o Z:St) (H:Hp) (R:St->Hp->Prop),o.length=nt->g Y (o++Z) H R->g Y (o++Z) H fun X U=>(∃W:St,W.length=nt/\X=W++Z)/\R X U
def Gg:oP vR nt:=fun X o Z H R Y h=>⟨h.1,⟨o,Y,rfl⟩,h.2⟩
def Fj {i nt:Nat} {g:iw} (hi:i<nt) (hg:oP g nt):oP (vi (lg i) g) nt:=by
 rintro X o Z H R Y ⟨v,r,e,h⟩;refine ⟨v,r,e,?_⟩;have h:g r ((o++Z).set i (some v)) H R:=h;show g r ((o++Z).set i (some v)) H _;rw [zM Y hi] at h |-;exact hg r _ Z H R (by rw [ù];exact Y) h
def Gh (hg:oP g nt):pq (vS K n g) nt:=by
 rintro x o Z H R X ⟨a,Y,e,W,V,h⟩;exact ⟨a,Y,e,W,V,hg Y o Z H R X h⟩
structure Tg (K:ô) (g0:TG) (g:D->Env->Option Env) (nt:Nat):Prop where
 pA:pq g0 nt
 imp:∀v σ H Q,gD K g v σ H Q->g0 v σ H Q
structure sy (K:ô) (g0:iw) (g:List (D->Env->Option Env)) (nt:Nat):Prop where
 pA:oP g0 nt
 imp:∀v σ H Q,pz K (fN g) v σ H Q->g0 v σ H Q
def qi (i:Nat) (hi:i<nt:=by decide):Tg K (lg i) (gN i) nt:=⟨Fi hi,fun v σ H Q Z=>by
 obtain ⟨w,env,d,Y,U,S,X,W,V,k⟩:=Z;have e:env.set i (some d)=Y:=PK V;subst e;exact k _ (X.set W i)⟩
def Ho:sy K vR [] nt:=⟨Gg,fun T σ H Q X=>by
 obtain ⟨w,env,Z,W,R,S,V,U,Y,k⟩:=X
 cases Z with
 |nil =>
  have e:env=W:=PK Y;subst e;exact ⟨U,k _ V⟩
 |cons d Z=>cases Y⟩
def y9 (i:Nat) (h:sy K g0 gl nt) (hi:i<nt:=by decide):sy K (vi (lg i) g0) (gN i::gl) nt:=⟨Fj hi h.pA,fun P σ H Q X=>by
 obtain ⟨w,env,Z,W,V,S,U,T,Y,k⟩:=X
 cases Z with
 |nil=>cases Y
 |cons d Z =>
  obtain ⟨v,r,rfl,R,dr⟩:=T;exact ⟨v,r,rfl,h.imp _ _ _ _ ⟨w,_,Z,W,V,S,U.set R i,dr,Y,k⟩⟩⟩
def I0 (h:sy K g0 gl nt) (hn:gl.length=n:=by rfl):Tg K (vS K n g0) (gT gl) nt:=⟨Gh h.pA,fun v σ H Q W=>by
 obtain ⟨w,env,d,V,U,S,T,Y,Z,k⟩:=W
 cases d with
 |tup R =>
  simp only [DV] at Y;obtain ⟨p,P,e1,O,X⟩:=Y;subst U;exact ⟨p,P,e1,O,by rw [<- X.length,tR Z];exact hn,h.imp _ _ _ _ ⟨w,env,R,V,rfl,S,T,X,Z,k⟩⟩
 |_=>cases Z⟩
section
variable {X:Cx} {Ξ:Wd->aP->Prop} {e a b c tg el src:ÿ} {es rest tests:List ÿ} {pos:Pos} {f g h:PB D} {fa:PB (List D)} {ft gt:PB Bool} {st:ŷ} {lX v9:List ŷ} {fs gs:PB Fl}
def Ja (h:PF X tests t) (i:∀ σ H Q,t' σ H Q->t σ H Q):PF X tests t':=fun Z s σ H Q I Y=>h Z s σ H Q I (i σ H Q Y)
def oj:PF X [] (tT K Ξ iF):=Ja IL fun σ H Q Z=>by
 obtain ⟨w,env,Y,S,W,h⟩:=Z;subst Y;exact ay S h
def Bj (h:PT X c (tT K Ξ ft)):PF X [c] (tT K Ξ ft):=IM h
def yF (i_:∀v σ H Q,g1 v σ H Q->g0 v σ H Q) (wm:∀R R':It->Hp->Prop,(∀J H',R J H'->R' J H')->wi σ H R->wi σ H R') (h:mP wi nt cap g1 tf te σ H Q):mP wi nt cap g0 tf te σ H Q:=by
 refine wm _ _ (fun J H' Y=>?_) h;obtain ⟨W,X,step⟩:=Y;refine ⟨W,X,fun i m Z V hw=>?_⟩
 rcases step i m Z V hw with q | ⟨U,T,N,S,P⟩
 ·exact .inl q
 ·exact .inr ⟨U,T,N,S,fun o x O M y=>i_ _ _ _ _ (P o x O M y)⟩
def Gi (R R':It->Hp->Prop) (i:∀J H',R J H'->R' J H') (h:iG K Ξ it σ H R):iG K Ξ it σ H R':=by
 obtain ⟨w,env,Z,S,Y,h⟩:=h;exact ⟨w,env,Z,S,Y,h.mono fun V U _ _ X J W=>i J _ (X J W)⟩
def jq (f:PB D):PB (List D):=fun env s=>aj (f env s) fun d s=>match d with
 | .lst Z=>ok Z s
 | .tup Z=>ok Z s
 |_=>none
def Gj {K:ô} {w:Wd} {a:Ì} {ds:List D} (h:DV K w (.lst ds) (.ref a)):jF K w (wM K a) ds:=fun V U T i=>by
 have X:=U _ _ h;simp only [DV] at X;obtain ⟨p,Z,e,Y,W⟩:=X;cases e;refine ⟨fun d S=>?_,fun R=>⟨Z,Y.sq,by rw [<- W.length];exact R⟩⟩;obtain ⟨v,ev,Q⟩:=W.get' i d S;exact ⟨⟨Z,v,Y.sq,ev⟩,fun x P ⟨e1,e2⟩=>⟨V,e1.symm,Le.refl _,T,rfl,by
  have q:=e2 Z Y.sq;rw [ev] at q;cases q;exact Q⟩⟩
def Hq {K:ô} {w:Wd} {a:Ì} {ds:List D} (h:DV K w (.tup ds) (.ref a)):jF K w (wN K a) ds:=fun V U T i=>by
 have X:=U _ _ h;simp only [DV] at X;obtain ⟨p,Z,e,Y,W⟩:=X;cases e;refine ⟨fun d S=>?_,fun R=>⟨Z,Y,by rw [<- W.length];exact R⟩⟩;obtain ⟨v,ev,Q⟩:=W.get' i d S;exact ⟨⟨Z,v,Y,ev⟩,fun x P ⟨e1,e2⟩=>⟨V,e1.symm,Le.refl _,T,rfl,by
  have q:=e2 Z Y;rw [ev] at q;cases q;exact Q⟩⟩
def Bk (hl:PE X a (tE X.K Ξ f)):PI X tg a (iG X.K Ξ (jq f)):=by
 have both:PI X tg a (fun σ H R=>Bc X.K (tE X.K Ξ f) σ H R\/BO X.K (tE X.K Ξ f) σ H R):=fun N s σ H R I h=>h.elim (zw hl N s σ H R I) (Io hl N s σ H R I);refine uM both fun σ H R ⟨w,env,M,S,W,h⟩=>?_;subst M;simp only [jq] at h
 cases Y:f env w.aw with
 |none=>rw [Y] at h;exact h.elim
 |some r =>
  obtain ⟨r,s⟩:=r;rw [Y] at h
  cases r with
  |error x=>exact .inl ⟨w,env,rfl,S,W,by rw [Y];exact h⟩
  |ok d =>
   rw [cU] at h
   cases d with
   |lst L =>
    refine .inl ⟨w,env,rfl,S,W,?_⟩;rw [Y];intro V U T e1 v Z;have Q:=Z;simp only [DV] at Z;obtain ⟨p,P,rfl,O,J⟩:=Z;exact ⟨p,rfl,⟨P,O.sq⟩,h V U T e1 _ (Gj Q)⟩
   |tup L =>
    refine .inr ⟨w,env,rfl,S,W,?_⟩;rw [Y];intro V U T e1 v Z;have Q:=Z;simp only [DV] at Z;obtain ⟨p,P,rfl,O,J⟩:=Z;exact ⟨p,rfl,⟨P,O⟩,h V U T e1 _ (Hq Q)⟩
   |_=>exact h.elim
noncomputable def fe (lo:Int) (n:Nat):List D:=(ľ n).map fun (i:Nat)=>D.int (lo+(i:Int))
def zN:(fe lo n)[i]?=if i<n then some (.int (lo+i)) else none:=by
 unfold fe;rw [û];by_cases h:i<n
 ·rw [List.getElem?_range h,ã h];rfl
 ·rw [List.getElem?_eq_none (by simp;omega),ë h];rfl
def Hr:(fe lo n).length=n:=by simp [fe]
def Hs:jF K w (sj lo n) (fe lo n):=fun X V W i=>by
 refine ⟨fun d Z=>?_,fun Y=>by rw [Hr] at Y;exact Y⟩;rw [zN] at Z;split at Z
 ·cases Z
  exact ⟨by assumption,fun x U ⟨e1,e2⟩=>⟨X,e1.symm,Le.refl _,W,rfl,e2⟩⟩
 ·cases Z
noncomputable def om (j:Int):Bool:=decide (-(2 ^ 62)<=j)&&decide (j<2 ^ 62)
def kD (fa:PB (List D)):PB (List D):=fun env s=>aj (fa env s) fun Z s=>match Z with
 | [.int j]=>if om j=true then ok (fe 0 j.toNat) s else none
 |_=>none
def uN (hg:Gl X "range") (hm:X.mg "range"=none) (ha:PA X [a] (tA X.K Ξ fa)) (hs:Ä [a] X.env=[(false,Ĕ a X.env)]:=by rfl):PI X tg (.Call (.Name "range" p) [a] [] pos) (iG X.K Ξ (kD fa)) :=
 uM (E4 hg hm ha hs) fun σ H R W=>by
  obtain ⟨w,env,V,S,U,h⟩:=W;subst V;refine ⟨w,env,rfl,S,U,(Out.aj h).mono fun O N M T Z L Q=>?_⟩;split at Z
  ·rename_i j
   split at Z
   ·rename_i Y
    simp only [om,Å,Ú] at Y;obtain ⟨v,r,rfl,P,dr⟩:=Q;have e1:v=.int j:=P;have e2:r=[]:=dr;subst e1 e2;exact ⟨j,rfl,Y.1,Y.2,ay T Z _ Hs⟩
   ·exact Z.elim
  ·exact Z.elim
noncomputable def gj (xs ys:List D):List D:=(xs.zip ys).map fun p=>.tup [p.1,p.2]
def za {i:Nat} (h:(gj xs ys)[i]?=some d):∃x y,xs[i]?=some x/\ys[i]?=some y/\d=.tup [x,y]:=by
 unfold gj at h;rw [û] at h
 cases Z:(xs.zip ys)[i]? with
 |none=>rw [Z] at h;cases h
 |some p =>
  rw [Z] at h;obtain ⟨Y,X⟩:=List.getElem?_zip_eq_some.mp Z;exact ⟨p.1,p.2,Y,X,(PK h).symm⟩
def zb:(gj xs ys).length=min xs.length ys.length:=by simp [gj]
def yU (S':aH K w') (hp:w'.H p=none) (h1:DV K w' d x) (h2:DV K w' d2 y) :
  ∃w2,w2.H=upd w'.H p (.tup [x,y])/\Le K w' w2/\aH K w2/\w2.aw=w'.aw/\DV K w2 (.tup [d,d2]) (.ref p) :=
 ⟨w'.grow p (.tup [x,y]),rfl,(Fw.grow hp).le,S'.grow hp,rfl,p,[x,y],rfl,bh.of bZ,(Fw.grow hp).le.all (ar.two h1 h2)⟩
@[reducible] noncomputable def gC:Bool->List D->D
 |true=>.tup
 |false=>.lst
def ra {K:ô} {w:Wd} {a:Ì} {ds:List D}:∀{k},DV K w (gC k ds) (.ref a)->∃xs,gy k K w.H a xs/\ar K w ds xs
 |true,h=>by
  simp only [DV] at h;obtain ⟨p,xs,e,Z,Y⟩:=h;cases e;exact ⟨xs,Z,Y⟩
 |false,h=>by
  simp only [DV] at h;obtain ⟨p,xs,e,Z,Y⟩:=h;cases e;exact ⟨xs,Z.sq,Y⟩
def zc {k l:Bool} {K:ô} {w:Wd} {a b:Ì} {ds es:List D} (h:DV K w (gC k ds) (.ref a)) (g:DV K w (gC l es) (.ref b)):jF K w (oO k l K a b) (gj ds es):=fun F V P i=>by
 obtain ⟨Z,Y,U⟩:=ra (V _ _ h);obtain ⟨X,W,T⟩:=ra (V _ _ g);refine ⟨fun d O=>?_,fun N=>⟨Z,X,Y,W,?_⟩⟩
 ·obtain ⟨x,y,e1,e2,rfl⟩:=za O
  obtain ⟨v,ev,M⟩:=U.get' i x e1;obtain ⟨u,S,L⟩:=T.get' i y e2;refine ⟨⟨Z,X,v,u,Y,W,ev,S⟩,fun z E ⟨r,C,y1,J,I,H,G⟩=>?_⟩;obtain ⟨R,Q⟩:=G Z X Y W;rw [ev] at R;rw [S] at Q;cases R;cases Q;subst I H;exact yU P J M L
 ·rw [zb] at N
  have:=U.length;have:=T.length;omega
def Gk {K:ô} {w:Wd} {a b:Ì} {ds es:List D} (h:DV K w (.tup ds) (.ref a)) (g:DV K w (.tup es) (.ref b)):jF K w (LR K a b) (gj ds es):=zc (k:=true) (l:=true) h g
def LY (fa:PB (List D)):PB (List D):=fun env s=>aj (fa env s) fun Z s=>match Z with
 | [.tup Y,.tup X]=>ok (gj Y X) s
 |_=>none
def aX (fn:List D->aa->Res D) (fa:PB (List D)):PB D:=fun env s=>aj (fa env s) fun Z s=>ne (fn Z s)
def uO {k:Nat} {fA:Ì} {fd:ú} {pB:List Str} {fn:List D->aa->Res D} {x:Str} {p:Pos} (F:bK X.prog X.w X.K X.mg X.base cg k fA fd pB (gB X.K fn)) (hr:aY k X.A) (hg:Gl X x) (hm:X.mg x=some (.ref fA)) (hk:ĕ X.K (.ref fA)=true) (hb:Binds X.K fd pB [])
  (ha:PA X (e::es) (tA X.K Ξ fa)) (cN:(x==("__debug__":Str))=false:=by decide) (he:Ä (e::es) X.env=(false,Ĕ e X.env)::Ä es X.env:=by rfl) (bP:(Ĉ pos (Ä es X.env)).any (·.1)=false:=by rfl) :
  PE X (.Call (.Name x p) (e::es) [] pos) (tE X.K Ξ (aX fn fa)):=cb (zA F hr hg hm hk hb .nil Ke ha cN he bP) fun σ H Q Y=>by
 obtain ⟨w,env,W,S,V,h⟩:=Y;subst W;refine ⟨w,env,rfl,S,V,(Out.aj h).mono fun Z U N T R P O=>?_⟩;show gB X.K fn (P++[]) Z.H Q E0;rw [Č];exact ⟨Z,U,rfl,T,O,R.ne⟩
def ar.env (h:ar K w ds vs) (n:Nat):bF K w (ds.map some++Ê (n-ds.length) none) (vs.map some++Ê (n-vs.length) none):=by
 have Y:=h.length;refine ⟨by simp [Y],fun i d e=>?_⟩;by_cases hi:i<ds.length
 ·rw [Ñ (by simpa using hi),û] at e
  rw [Ñ (by simp;omega),û]
  cases Z:ds[i]? with
  |none=>rw [Z] at e;cases e
  |some W =>
   rw [Z] at e;cases e;obtain ⟨v,ev,X⟩:=h.get' i d Z;exact ⟨v,by rw [ev];rfl,X⟩
 ·rw [à (by simpa using ź hi),ě] at e
  split at e<;>cases e
end
def Bl (F:kq K x qual st f fd) (S:je N ps (bz st))
 (hb:∀(aD:Â) (A:Ù) (outer:List PySem.Env) (s:Á) (H:Hp) (E:XK),aY k (A.deeper (ć qual (bz st) s.heap.objs.size f aD))->bX (ef cg P w K mg base N qual (bz st) f aD A outer s H E).jB (dE st) (tS K cu b)) :
  bK P w K mg base cg (k+1) f fd ps (gB K (aI ps.length N.length b)):=by
 refine F.ok S (fun W H Q E h=>?_) (fun aD A outer s H W Q E V h=>?_)
 ·obtain ⟨w,U,rfl,S,Y,h⟩:=h
  rw [<- Y.length];unfold aI at h;split at h
  ·assumption
  ·exact h.elim
 ·obtain ⟨w,U,rfl,S,Y,h⟩:=h
  refine ⟨_,hb aD A outer s w.H E V,?_⟩;unfold aI at h;split at h
  ·rename_i T
   rw [<- T] at h;refine ⟨w,_,rfl,S,Y.env N.length,(Out.aj h).mono fun O R M X Z=>?_⟩
   cases R with
   |nx env=>intro L _;exact ay X Z _ rfl
   |rt d=>have q:=ay X Z;exact q
   |bk env=>exact Z.elim
   |ct env=>exact Z.elim
  ·exact h.elim
mutual
noncomputable def py:D->Ŧ
 | .au=>.none
 | .bl b=>.bool b
 | .int i=>.int i
 | .str x=>.str x
 | .tup Z=>.tuple (eD Z)
 | .lst Z=>.list (eD Z)
 | .br Y=>.dict (Y.map fun p=>(oM p.1,PyData.int p.2))
 | .ah _=>.none
 | .ty _=>.none
 | .bt _=>.none
 | .exc _ _=>.none
 | .bO _ _ _=>.none
noncomputable def eD:List D->List Ŧ
 | []=>[]
 |d::Z=>py d::eD Z
end
mutual
noncomputable def plain:D->Bool
 | .au=>true
 | .bl _=>true
 | .int _=>true
 | .str _=>true
 | .tup Z=>kY Z
 | .lst Z=>kY Z
 | .br _=>true
 | .ah _=>false
 | .ty _=>false
 | .bt _=>false
 | .exc _ _=>false
 | .bO _ _ _=>false
noncomputable def kY:List D->Bool
 | []=>true
 |d::Z=>plain d&&kY Z
end
mutual
noncomputable def lay:D->Bool
 | .au=>true
 | .bl _=>true
 | .int _=>true
 | .str x=>PyData.strOk x
 | .tup Z=>cW Z
 | .lst Z=>cW Z
 | .br _=>false
 | .ah _=>false
 | .ty _=>false
 | .bt _=>false
 | .exc _ _=>false
 | .bO _ _ _=>false
noncomputable def cW:List D->Bool
 | []=>true
 |d::Z=>lay d&&cW Z
end
mutual
noncomputable def dep:D->Nat
 | .tup Z=>dD Z+1
 | .lst Z=>dD Z+1
 | .br Y=>1
 | .au=>0
 | .bl _=>0
 | .int _=>0
 | .str _=>0
 | .ah _=>0
 | .ty _=>0
 | .bt _=>0
 | .exc _ _=>0
 | .bO _ _ _=>0
noncomputable def dD:List D->Nat
 | []=>0
 |d::Z=>max (dep d) (dD Z)
end
mutual
noncomputable def beq:D->D->Bool
 | .au,.au=>true
 | .bl a,.bl b=>a==b
 | .bl a,.int j=>(if a then 1 else 0)==j
 | .int i,.bl b=>i==(if b then 1 else 0)
 | .int i,.int j=>i==j
 | .str x,.str y=>x==y
 | .tup Z,.tup Y=>fO Z Y
 | .lst Z,.lst Y=>fO Z Y
 |_,_=>false
noncomputable def fO:List D->List D->Bool
 | [],[]=>true
 |x::Z,y::Y=>beq x y&&fO Z Y
 |_,_=>false
end
mutual
theorem me:∀(d:D),lay d=true->plain d=true
 | .au,_=>rfl
 | .bl _,_=>rfl
 | .int _,_=>rfl
 | .str _,_=>rfl
 | .tup Z,h=>by simp only [lay,plain] at h |-;exact nL Z h
 | .lst Z,h=>by simp only [lay,plain] at h |-;exact nL Z h
 | .br _,h=>by simp [lay] at h
 | .ah _,h=>by simp [lay] at h
 | .ty _,h=>by simp [lay] at h
 | .bt _,h=>by simp [lay] at h
 | .exc _ _,h=>by simp [lay] at h
 | .bO _ _ _,h=>by simp [lay] at h
theorem nL:∀(ds:List D),cW ds=true->kY ds=true
 | [],_=>rfl
 |d::ds,h=>by
  simp only [cW,kY,Å] at h |-;exact ⟨me d h.1,nL ds h.2⟩
end
mutual
theorem iN:∀(d:D),lay d=true->(py d).canLay0=true/\(py d).depth=dep d
 | .au,_=>⟨rfl,by simp [py,dep,PyData.depth]⟩
 | .bl _,_=>⟨rfl,by simp [py,dep,PyData.depth]⟩
 | .int _,_=>⟨rfl,by simp [py,dep,PyData.depth]⟩
 | .str _,h=>⟨h,by simp [py,dep,PyData.depth]⟩
 | .tup Z,h=>by
  obtain ⟨Y,X⟩:=pX Z (by simpa [lay] using h);simp only [py,dep,PyData.depth,PyData.canLay0];exact ⟨Y,by rw [X]⟩
 | .lst Z,h=>by
  obtain ⟨Y,X⟩:=pX Z (by simpa [lay] using h);simp only [py,dep,PyData.depth,PyData.canLay0];exact ⟨Y,by rw [X]⟩
 | .br _,h=>by simp [lay] at h
 | .ah _,h=>by simp [lay] at h
 | .ty _,h=>by simp [lay] at h
 | .bt _,h=>by simp [lay] at h
 | .exc _ _,h=>by simp [lay] at h
 | .bO _ _ _,h=>by simp [lay] at h
theorem pX:∀(ds:List D),cW ds=true->PyData.canLayAll0 (eD ds)=true/\PyData.depthAll (eD ds)=dD ds
 | [],_=>⟨rfl,rfl⟩
 |d::ds,h=>by
  simp only [cW,Å] at h;obtain ⟨a1,a2⟩:=iN d h.1;obtain ⟨Z,Y⟩:=pX ds h.2;simp only [eD,dD,PyData.canLayAll0,PyData.depthAll,a1,Z,a2,Y,Bool.and_self,İ]
end
mutual
theorem mH:∀(d e:D),lay d=true->lay e=true->þ (py d) (py e)=beq d e
 | .tup Z,.tup Y,h,g=>by
  simp only [py,beq,þ];exact tU Z Y (by simpa [lay] using h) (by simpa [lay] using g)
 | .lst Z,.lst Y,h,g=>by
  simp only [py,beq,þ];exact tU Z Y (by simpa [lay] using h) (by simpa [lay] using g)
 | .au,e,_,g=>by cases e<;>simp_all [py,beq,þ,lay]
 | .bl _,e,_,g=>by cases e<;>simp_all [py,beq,þ,lay]
 | .int _,e,_,g=>by cases e<;>simp_all [py,beq,þ,lay]
 | .str _,e,_,g=>by cases e<;>simp_all [py,beq,þ,lay]
 | .tup _,.au,_,_=>by simp [py,beq,þ]
 | .tup _,.bl _,_,_=>by simp [py,beq,þ]
 | .tup _,.int _,_,_=>by simp [py,beq,þ]
 | .tup _,.str _,_,_=>by simp [py,beq,þ]
 | .tup _,.lst _,_,_=>by simp [py,beq,þ]
 | .lst _,.au,_,_=>by simp [py,beq,þ]
 | .lst _,.bl _,_,_=>by simp [py,beq,þ]
 | .lst _,.int _,_,_=>by simp [py,beq,þ]
 | .lst _,.str _,_,_=>by simp [py,beq,þ]
 | .lst _,.tup _,_,_=>by simp [py,beq,þ]
 | .br _,_,h,_=>by simp [lay] at h
 | .ah _,_,h,_=>by simp [lay] at h
 | .ty _,_,h,_=>by simp [lay] at h
 | .bt _,_,h,_=>by simp [lay] at h
 | .exc _ _,_,h,_=>by simp [lay] at h
 | .bO _ _ _,_,h,_=>by simp [lay] at h
 |_,.br _,_,h=>by simp [lay] at h
 |_,.ah _,_,h=>by simp [lay] at h
 |_,.ty _,_,h=>by simp [lay] at h
 |_,.bt _,_,h=>by simp [lay] at h
 |_,.exc _ _,_,h=>by simp [lay] at h
 |_,.bO _ _ _,_,h=>by simp [lay] at h
theorem tU:∀(ds es:List D),cW ds=true->cW es=true->PyData.eqvAll (eD ds) (eD es)=fO ds es
 | [],[],_,_=>rfl
 | [],_::_,_,_=>rfl
 |_::_,[],_,_=>rfl
 |d::ds,e::es,h,g=>by
  simp only [cW,Å] at h g;simp only [eD,fO,PyData.eqvAll,mH d e h.1 g.1,tU ds es h.2 g.2]
end
mutual
theorem DV.py:∀{d:D} {v:V},DV K w d v->plain d=true->L2.DV K (fun _=>False) w.H (DI.py d) v
 | .au,_,h,_=>h
 | .bl _,_,h,_=>h
 | .int _,_,h,_=>h
 | .str _,_,h,_=>h
 | .tup X,v,h,p=>by
  simp only [DV] at h;obtain ⟨a,Y,e,Z,r⟩:=h;simp only [DI.py,L2.DV];exact ⟨a,Y,e,Z,ar.py r (by simpa [plain] using p)⟩
 | .lst X,v,h,p=>by
  simp only [DV] at h;obtain ⟨a,Y,e,Z,r⟩:=h;simp only [DI.py,L2.DV];exact ⟨a,Y,e,not_false,Z.2,ar.py r (by simpa [plain] using p)⟩
 | .br W,v,h,p=>by
  simp only [DV] at h;obtain ⟨a,e,U,Z⟩:=h;simp only [DI.py,L2.DV];exact ⟨a,_,e,not_false,Z,W,rfl,rfl⟩
 | .ah _,_,_,p=>by simp [plain] at p
 | .ty _,_,_,p=>by simp [plain] at p
 | .bt _,_,_,p=>by simp [plain] at p
 | .exc _ _,_,_,p=>by simp [plain] at p
 | .bO _ _ _,_,_,p=>by simp [plain] at p
theorem ar.py:∀{ds:List D} {vs:List V},ar K w ds vs->kY ds=true->L2.ar K (fun _=>False) w.H (DI.eD ds) vs
 | [],_,h,_=>h
 |d::ds,vs,h,p=>by
  simp only [ar] at h;obtain ⟨v,r,e,Z,Y⟩:=h;simp only [kY,Å] at p;exact ⟨v,r,e,DV.py Z p.1,ar.py Y p.2⟩
end
def res (d:D) (s:aa):D:=match d with
 | .ah k=>match s[k]? with
  |some (.lst Z)=>.lst Z
  |_=>d
 |_=>d
theorem DV.res (S:aH K w) (h:DV K w d v) (p:plain (DI.res d w.aw)=true):L2.DV K (fun _=>False) w.H (DI.py (DI.res d w.aw)) v:=by
 cases d with
 |ah k =>
  unfold DI.res at p |-;simp only at p |-
  split at p<;>rename_i Z
  ·rename_i V
   obtain ⟨a,e1,rfl⟩:=h;obtain ⟨Y,X,W⟩:=S.cell k a _ e1 Z;simp only [DI.py,L2.DV];exact ⟨a,Y,rfl,not_false,X,W.py (by simpa [plain] using p)⟩
  ·simp [plain] at p
 |_=>exact h.py p
noncomputable def iH:D->Bool
 | .str _=>true
 |_=>false
def Jb (h:iH d=true):∃x,d=.str x:=by cases d<;>first|exact ⟨_,rfl⟩|cases h
def f6 (x y:D):Option Bool:=if (iH x&&iH y)=true then some (beq x y) else if (lay x&&lay y&&decide (min (dep x) (dep y)<=100))=true then some (beq x y) else none
def ei (x y:D) (s:aa):Res D:=match f6 (res x s) (res y s) with
 |some b=>ok (.bl b) s
 |none=>none
def cq (x y:D) (s:aa):Res D:=match f6 (res x s) (res y s) with
 |some b=>ok (.bl (!b)) s
 |none=>none
def zO (S:aH K w) (hx:DV K w x v) (hy:DV K w y u) (h:f6 (res x w.aw) (res y w.aw)=some b) :
  (vW v u=true/\decide (v=u)=b)\/∃(d e:Ŧ),L2.DV K (fun _=>False) w.H d v/\L2.DV K (fun _=>False) w.H e u/\d.canLay0=true/\e.canLay0=true/\min d.depth e.depth<=100/\þ d e=b:=by
 have str:∀{d:D} {v:V},iH (res d w.aw)=true->DV K w d v->∃x,res d w.aw=.str x/\v=.str x:=fun {d v} hs W=>by
  obtain ⟨x,e⟩:=Jb hs
  cases d with
  |str y=>cases e;exact ⟨x,rfl,W⟩
  |ah k =>
   unfold res at e;simp only at e
   split at e<;>cases e
  |_=>cases e
 unfold f6 at h;split at h
 ·rename_i hs
  rw [Å] at hs;obtain ⟨a,U,rfl⟩:=str hs.1 hx;obtain ⟨c,T,rfl⟩:=str hs.2 hy;rw [U,T] at h;exact .inl ⟨rfl,by rw [<- PK h];exact uh⟩
 split at h
 ·rename_i X
  right;simp only [Å,Ú] at X;obtain ⟨⟨Z,Y⟩,R⟩:=X;obtain ⟨Q,P⟩:=iN _ Z;obtain ⟨O,N⟩:=iN _ Y;exact ⟨_,_,hx.res S (me _ Z),hy.res S (me _ Y),Q,O,by rw [P,N];exact R,by rw [mH _ _ Z Y];exact PK h⟩
 ·cases h
section
variable {X:Cx} {Ξ:Wd->aP->Prop}
def lN (hr:aY k X.A):bq X (ă .Eq) (rO X.K Ξ ei):=by
 rintro W s σ H x y v u Q I V U ⟨w,J,G,rfl,S,T,R,h⟩;unfold ei at h;split at h
 ·rename_i b P
  rcases zO S T R P with ⟨Z,Y⟩ | ⟨d,e,Z,Y,O,N,M,L⟩
  ·exact J1 W s σ w.H x y v u Q I V U ⟨Z,by rw [Y];exact ay S h _ rfl⟩
  exact IS hr W s σ w.H x y v u Q I V U ⟨d,e,_,Z,Y,O,N,M,by simp only [Í,ā];rw [L];exact ay S h _ rfl⟩
 ·exact h.elim
def iW (hr:aY k X.A):bq X (ă .NotEq) (rO X.K Ξ cq):=by
 rintro W s σ H x y v u Q I V U ⟨w,J,G,rfl,S,T,R,h⟩;unfold cq at h;split at h
 ·rename_i b P
  rcases zO S T R P with ⟨Z,Y⟩ | ⟨d,e,Z,Y,O,N,M,L⟩
  ·exact Bd W s σ w.H x y v u Q I V U ⟨Z,by rw [Y];exact ay S h _ rfl⟩
  exact IT hr W s σ w.H x y v u Q I V U ⟨d,e,_,Z,Y,O,N,M,by simp only [Ę];rw [L];exact ay S h _ rfl⟩
 ·exact h.elim
end
end DI
namespace DI
open PySem L2
def bQ (r:Option D) (s:aa):Res D:=match r with
 |some d=>ok d s
 |none=>none
def dU (h:Out K Ξ w (bQ r w.aw) k):∃d,r=some d/\Out K Ξ w (ok d w.aw) k:=by
 unfold bQ at h;split at h
 ·exact ⟨_,rfl,h⟩
 ·exact h.elim
noncomputable def B0 (xs ys:List D):Bool:=decide (xs.length+ys.length<=Ô)
def B1:D->D->Option D
 | .int i,.int j=>some (.int (i+j))
 | .tup Z,.tup Y=>if B0 Z Y=true then some (.tup (Z++Y)) else none
 | .lst Z,.lst Y=>if B0 Z Y=true then some (.lst (Z++Y)) else none
 | .str x,.str y=>if decide (x.length+y.length<=Ô)=true then some (.str (x++y)) else none
 |_,_=>none
def cF (x y:D) (s:aa):Res D:=bQ (B1 (res x s) (res y s)) s
noncomputable def B2:D->D->Option D
 | .int i,.int j=>some (.int (i-j))
 |_,_=>none
def fL (x y:D) (s:aa):Res D:=bQ (B2 x y) s
noncomputable def oo (i j:Int):Bool:=(decide (-(2 ^ 64)<i)&&decide (i<2 ^ 64))||(decide (-(2 ^ 64)<j)&&decide (j<2 ^ 64))
def wb:D->D->Option D
 | .int i,.int j=>if oo i j=true then some (.int (i*j)) else none
 | .tup Z,.int k=>if (!Z.isEmpty&&decide (1<=k)&&decide (Z.length*k.toNat<=Ô))=true then some (.tup (Ê k.toNat Z).flatten) else none
 | .lst Z,.int k=>if (decide (-(2 ^ 63)<=k)&&decide (k<2 ^ 63)&&decide (Z.length*k.toNat<=Ô))=true then some (.lst (Ê k.toNat Z).flatten) else none
 |_,_=>none
def bY (x y:D) (s:aa):Res D:=bQ (wb x y) s
noncomputable def wc:D->D->Option D
 | .int i,.int j=>if decide (0<j)=true then some (.int (i % j)) else none
 |_,_=>none
def dJ (x y:D) (s:aa):Res D:=bQ (wc x y) s
noncomputable def wd:D->D->Option D
 | .int i,.int j=>if (decide (0<j)&&decide (j<1073741824))=true then some (.int (i / j)) else none
 |_,_=>none
def gR (x y:D) (s:aa):Res D:=bQ (wd x y) s
noncomputable def we:D->D->Option D
 | .int i,.int j=>if (decide (0<=j)&&decide (j<=1000000)&&decide (i.natAbs<2 ^ 64))=true then some (.int (i ^ j.toNat)) else none
 |_,_=>none
def mU (x y:D) (s:aa):Res D:=bQ (we x y) s
noncomputable def B3:D->Option D
 | .int i=>some (.int (-i))
 |_=>none
def rb (x:D) (s:aa):Res D:=bQ (B3 x) s
theorem ar.flat (h:ar K w ds vs):∀n:Nat,ar K w (Ê n ds).flatten (Ê n vs).flatten
 |0=>rfl
 |n+1=>by
  rw [Ā,Ā,ē,ē];exact ar.append h (ar.flat h n)
def fH (S:aH K w) (h:DV K w d v) (e:res d w.aw=.lst ds):∃a xs,v=.ref a/\w.H a=some (.lst xs)/\ar K w ds xs:=by
 unfold res at e;split at e
 ·rename_i k
  split at e
  ·rename_i V Z
   cases e;obtain ⟨a,e1,rfl⟩:=h;obtain ⟨xs,Y,X⟩:=S.cell k a _ e1 Z;exact ⟨a,xs,rfl,Y,X⟩
  ·cases e
 ·subst e
  simp only [DV] at h;obtain ⟨a,xs,e,W,r⟩:=h;exact ⟨a,xs,e,W.2,r⟩
def cY (h:res d s=e) (hl:∀ds,e≠.lst ds):d=e:=by
 unfold res at h;split at h
 ·split at h
  ·exact absurd h.symm (hl _)
  ·exact h
 ·exact h
section
variable {X:Cx} {Ξ:Wd->aP->Prop}
def rE (S:aH K w) (aq:ar K w ds vs) (h:Out K Ξ w (ok (D.tup ds) w.aw) fun w' d=>∀v,DV K w' d v->Q v w'.H):lK K w.H vs Q:=fun a Z e Y =>
 h (w.same Z) (Fw.same e).le (S.same e) rfl (.ref a) ⟨a,vs,rfl,Y,(Fw.same e).le.all aq⟩
def B4 {K:ô} {w:Wd} {ds:List D} {vs:List V} {Q:VK} (S:aH K w) (aq:ar K w ds vs) (h:Out K Ξ w (ok (D.lst ds) w.aw) fun w' d=>∀v,DV K w' d v->Q v w'.H):∀p,w.H p=none->Q (.ref p) (upd w.H p (.lst vs)):=fun p Y =>
 h (w.grow p (.lst vs)) (Fw.grow Y).le (S.grow Y) rfl (.ref p) ⟨p,vs,rfl,⟨(show ¬ w.Z p from kX S Y),bZ⟩,(Fw.grow Y).le.all aq⟩
def dY:bq X (Ē .Add) (rO X.K Ξ cF):=by
 rintro T s σ H x y v u Q I R P ⟨w,J,G,rfl,S,Z,Y,h⟩;obtain ⟨d,e,h⟩:=dU h;unfold B1 at e;split at e
 ·rename_i i j e1 e2
  rw [cY e1 (by intro _ z;cases z)] at Z;rw [cY e2 (by intro _ z;cases z)] at Y;cases e;cases Z;cases Y;exact Iq T s σ w.H _ _ v u Q I R P ⟨i,j,rfl,rfl,ay S h _ rfl⟩
 ·rename_i M L e1 e2
  rw [cY e1 (by intro _ z;cases z)] at Z;rw [cY e2 (by intro _ z;cases z)] at Y;split at e
  ·rename_i W
   cases e;simp only [DV] at Z Y;obtain ⟨a,as,rfl,O,V⟩:=Z;obtain ⟨b,bs,rfl,N,U⟩:=Y;exact Hf T s σ w.H _ _ v u Q I R P ⟨a,b,as,bs,rfl,rfl,O,N,by rw [<- V.length,<- U.length];exact í W,rE S (V.append U) h⟩
  ·cases e
 ·rename_i M L e1 e2
  split at e
  ·rename_i W
   cases e;obtain ⟨a,as,rfl,O,V⟩:=fH S Z e1;obtain ⟨b,bs,rfl,N,U⟩:=fH S Y e2;exact IJ T s σ w.H _ _ v u Q I R P ⟨a,b,as,bs,rfl,rfl,O,N,by rw [<- V.length,<- U.length];exact í W,B4 S (V.append U) h⟩
  ·cases e
 ·rename_i i j e1 e2
  rw [cY e1 (by intro _ z;cases z)] at Z;rw [cY e2 (by intro _ z;cases z)] at Y;split at e
  ·rename_i W
   cases e;cases Z;cases Y;exact Es T s σ w.H _ _ v u Q I R P ⟨i,j,rfl,rfl,í W,ay S h _ rfl⟩
  ·cases e
 ·cases e
def jZ:bq X (Ē .Sub) (rO X.K Ξ fL):=by
 rintro Z s σ H x y v u Q I Y W ⟨w,T,R,rfl,S,V,U,h⟩;obtain ⟨d,e,h⟩:=dU h;unfold B2 at e;split at e
 ·rename_i i j
  cases e;cases V;cases U;exact Ir Z s σ w.H _ _ v u Q I Y W ⟨i,j,rfl,rfl,ay S h _ rfl⟩
 ·cases e
def f9:bq X (Ē .Mult) (rO X.K Ξ bY):=by
 rintro V s σ H x y v u Q I U T ⟨w,M,L,rfl,S,Y,R,h⟩;obtain ⟨d,e,h⟩:=dU h;unfold wb at e;split at e
 ·rename_i i j
  split at e
  ·rename_i Z
   cases e;cases Y;cases R;refine Iu V s σ w.H _ _ v u Q I U T ⟨i,j,rfl,rfl,?_,ay S h _ rfl⟩;unfold rA;simpa [oo] using Z
  ·cases e
 ·rename_i O k
  split at e
  ·rename_i Z
   cases e;cases R;simp only [Å,Ú] at Z;simp only [DV] at Y;obtain ⟨a,as,rfl,P,W⟩:=Y;have N:=W.length;refine Hm V s σ w.H _ _ v u Q I U T ⟨a,as,k,rfl,rfl,P,?_,Z.1.2,by rw [<- N];exact Z.2,rE S (W.flat _) h⟩;intro z;subst z
   cases O with
   |nil=>simp at Z
   |cons _ _=>cases N
  ·cases e
 ·rename_i O k
  split at e
  ·rename_i Z
   cases e;cases R;simp only [Å,Ú] at Z;simp only [DV] at Y;obtain ⟨a,as,rfl,P,W⟩:=Y;exact Am V s σ w.H _ _ v u Q I U T ⟨a,k,as,rfl,rfl,P.2,Z.1.1,Z.1.2,by rw [<- W.length];exact Z.2,B4 S (W.flat _) h⟩
  ·cases e
 ·cases e
def jl:bq X (Ē .Mod) (rO X.K Ξ dJ):=by
 rintro Z s σ H x y v u Q I Y W ⟨w,R,P,rfl,S,V,U,h⟩;obtain ⟨d,e,h⟩:=dU h;unfold wc at e;split at e
 ·rename_i i j
  split at e
  ·rename_i T
   cases e;cases V;cases U;exact Iv Z s σ w.H _ _ v u Q I Y W ⟨i,j,rfl,rfl,í T,ay S h _ rfl⟩
  ·cases e
 ·cases e
def lr:bq X (Ē .FloorDiv) (rO X.K Ξ gR):=by
 rintro Y s σ H x y v u Q I W V ⟨w,R,P,rfl,S,U,T,h⟩;obtain ⟨d,e,h⟩:=dU h;unfold wd at e;split at e
 ·rename_i i j
  split at e
  ·rename_i Z
   simp only [Å,Ú] at Z;cases e;cases U;cases T;exact G9 Y s σ w.H _ _ v u Q I W V ⟨i,j,rfl,rfl,Z,ay S h _ rfl⟩
  ·cases e
 ·cases e
def Bm:bq X (Ē .Pow) (rO X.K Ξ mU):=by
 rintro Y s σ H x y v u Q I W V ⟨w,R,P,rfl,S,U,T,h⟩;obtain ⟨d,e,h⟩:=dU h;unfold we at e;split at e
 ·rename_i i j
  split at e
  ·rename_i Z
   simp only [Å,Ú] at Z;cases e;cases U;cases T;exact Iw Y s σ w.H _ _ v u Q I W V ⟨i,j,rfl,rfl,⟨Z.1.1,Z.1.2,Z.2⟩,ay S h _ rfl⟩
  ·cases e
 ·cases e
def vp:pd X (unaryOp .USub) (rU X.K Ξ rb):=by
 rintro Z s σ H x v Q I Y ⟨w,V,rfl,S,W,h⟩;obtain ⟨d,e,h⟩:=dU h;unfold B3 at e;split at e
 ·rename_i i
  cases e;cases W;exact Iy Z s σ w.H _ v Q I Y ⟨i,rfl,ay S h _ rfl⟩
 ·cases e
noncomputable def m6 (p:Int->Int->Bool):D->D->Option D
 | .int i,.int j=>some (.bl (p i j))
 |_,_=>none
def rL (x y:D) (s:aa):Res D:=bQ (m6 (fun i j=>decide (i<=j)) x y) s
def jr (x y:D) (s:aa):Res D:=bQ (m6 (fun i j=>decide (j<i)) x y) s
def oQ (x y:D) (s:aa):Res D:=bQ (m6 (fun i j=>decide (j<=i)) x y) s
def LZ:bq X (ă .LtE) (rO X.K Ξ rL):=by
 rintro Z s σ H x y v u Q I Y W ⟨w,T,R,rfl,S,V,U,h⟩;obtain ⟨d,e,h⟩:=dU h;unfold m6 at e;split at e
 ·rename_i i j
  cases e;cases V;cases U;exact J2 Z s σ w.H _ _ v u Q I Y W ⟨i,j,rfl,rfl,ay S h _ rfl⟩
 ·cases e
def rM:bq X (ă .Gt) (rO X.K Ξ jr):=by
 rintro Z s σ H x y v u Q I Y W ⟨w,T,R,rfl,S,V,U,h⟩;obtain ⟨d,e,h⟩:=dU h;unfold m6 at e;split at e
 ·rename_i i j
  cases e;cases V;cases U;exact J3 Z s σ w.H _ _ v u Q I Y W ⟨i,j,rfl,rfl,ay S h _ rfl⟩
 ·cases e
def B5:bq X (ă .GtE) (rO X.K Ξ oQ):=by
 rintro Z s σ H x y v u Q I Y W ⟨w,T,R,rfl,S,V,U,h⟩;obtain ⟨d,e,h⟩:=dU h;unfold m6 at e;split at e
 ·rename_i i j
  cases e;cases V;cases U;exact J4 Z s σ w.H _ _ v u Q I Y W ⟨i,j,rfl,rfl,ay S h _ rfl⟩
 ·cases e
def kF (d i:D) (s:aa):Option D:=match res d s,i with
 | .lst Z,.int i=>cP Z i
 | .tup Z,.int i=>cP Z i
 | .bt Y,.int i=>(cP Y i).map D.int
 | .str x,.int i=>if decide (x.length<=Ô)=true then (cP x.cps.toList i).map fun c=>.str ⟨#[c]⟩ else none
 |_,_=>none
def aL (x y:D) (s:aa):Res D:=bQ (kF x y s) s
theorem ar.at (h:ar K w ds vs) (e:cP ds i=some d):∃v,cP vs i=some v/\DV K w d v:=by
 unfold cP at e |-;rw [h.length] at e
 cases hi:et vs.length i with
 |none=>rw [hi] at e;cases e
 |some j =>
  rw [hi] at e;exact h.get' j d e
def L3:ph X (rO X.K Ξ aL):=by
 rintro value slice T s σ H x y v u Q I R P ⟨w,B,A,rfl,S,Z,O,h⟩ hs;obtain ⟨d,e,N⟩:=dU h;clear h;unfold kF at e;split at e
 ·rename_i D i e1
  cases O;obtain ⟨a,M,rfl,W,L⟩:=fH S Z e1;obtain ⟨z,J,G⟩:=L.at e;exact zE value slice T s σ w.H _ _ v u Q I R P ⟨a,M,i,z,rfl,rfl,bb.of W,J,ay S N _ G⟩ hs
 ·rename_i D i e1
  cases O;rw [cY e1 (by intro _ z;cases z)] at Z;simp only [DV] at Z;obtain ⟨a,M,rfl,W,L⟩:=Z;obtain ⟨z,J,G⟩:=L.at e;exact IF value slice T s σ w.H _ _ v u Q I R P ⟨a,M,i,z,rfl,rfl,W,J,ay S N _ G⟩ hs
 ·rename_i U i e1
  cases O;rw [cY e1 (by intro _ z;cases z)] at Z;simp only [DV] at Z;obtain ⟨a,rfl,W⟩:=Z
  cases Y:cP U i with
  |none=>rw [Y] at e;cases e
  |some n =>
   rw [Y] at e;cases e;refine zE value slice T s σ w.H _ _ v u Q I R P ⟨a,U.map V.int,i,.int n,rfl,rfl,W.sq,?_,ay S N _ rfl⟩ hs;unfold cP at Y |-;rw [ß]
   cases E:et U.length i with
   |none=>rw [E] at Y;cases Y
   |some j =>
    rw [E] at Y;show (U.map V.int)[j]?=some (.int n);rw [û,show U[j]?=some n from Y];rfl
 ·rename_i z i e1
  cases O;rw [cY e1 (by intro _ z;cases z)] at Z;cases Z;split at e
  ·rename_i C
   cases F:cP z.cps.toList i with
   |none=>rw [F] at e;cases e
   |some c =>
    rw [F] at e;cases e;exact IG value slice T s σ w.H _ _ v u Q I R P ⟨z,i,c,rfl,rfl,í C,F,ay S N _ rfl⟩ hs
  ·cases e
 ·cases e
def bW (ha:PE X a (tE X.K Ξ f)) (hb:PE X b (tE X.K Ξ g)) (hs:zD b:=by intro _ _;rfl):PE X (.Subscript a b pos) (tE X.K Ξ (e2 aL f g)):=cb (Kb L3 ha hb hs) qh
def rN (d:D) (s:aa):Option D:=match res d s with
 | .lst Z=>some (.int Z.length)
 | .tup Z=>some (.int Z.length)
 | .bt Y=>some (.int Y.length)
 | .str x=>if decide (x.length<=Ô)=true then some (.int x.length) else none
 |_=>none
def dh (ds:List D) (s:aa):Res D:=match ds with
 | [d]=>bQ (rN d s) s
 |_=>none
def qG (h:ar K w [d] vs):∃v,vs=[v]/\DV K w d v:=by
 obtain ⟨v,r,rfl,Z,dr⟩:=h;have e:r=[]:=dr;subst e;exact ⟨v,rfl,Z⟩
def kZ (h:ar K w [d,e] vs):∃v u,vs=[v,u]/\DV K w d v/\DV K w e u:=by
 obtain ⟨v,r,rfl,Z,h⟩:=h;obtain ⟨u,rfl,Y⟩:=qG h;exact ⟨v,u,rfl,Z,Y⟩
def j0:dB X (.builtin "len") (rC X.K Ξ dh):=by
 rintro U s σ H T R Q I r ⟨w,M,rfl,S,Y,h⟩;unfold dh at h;split at h
 ·obtain ⟨v,rfl,Z⟩:=qG Y
  obtain ⟨d,e,h⟩:=dU h;unfold rN at e;split at e
  ·rename_i P e1
   cases e;obtain ⟨a,T,rfl,W,Y⟩:=fH S Z e1;exact sT U s σ w.H _ R Q I r ⟨a,T,rfl,.inl (bb.of W),by rw [<- Y.length];exact ay S h _ rfl⟩
  ·rename_i P e1
   cases e;rw [cY e1 (by intro _ z;cases z)] at Z;simp only [DV] at Z;obtain ⟨a,T,rfl,W,Y⟩:=Z;exact sT U s σ w.H _ R Q I r ⟨a,T,rfl,.inr W,by rw [<- Y.length];exact ay S h _ rfl⟩
  ·rename_i O e1
   cases e;rw [cY e1 (by intro _ z;cases z)] at Z;simp only [DV] at Z;obtain ⟨a,rfl,W⟩:=Z;exact sT U s σ w.H _ R Q I r ⟨a,O.map V.int,rfl,.inl W.sq,by rw [ß];exact ay S h _ rfl⟩
  ·rename_i z e1
   rw [cY e1 (by intro _ z;cases z)] at Z;cases Z;split at e
   ·rename_i N
    cases e;exact DW U s σ w.H _ R Q I r ⟨z,rfl,í N,ay S h _ rfl⟩
   ·cases e
  ·cases e
 ·exact h.elim
noncomputable def hX:List D->Option (List Bool)
 | []=>some []
 | .bl b::Z=>(hX Z).map fun r=>b::r
 |_::_=>none
theorem qH:∀{ds:List D} {bs:List Bool},hX ds=some bs->ds=bs.map D.bl
 | [],bs,h=>by cases h;rfl
 | .bl b::ds,bs,h=>by
  simp only [hX] at h
  cases Z:hX ds with
  |none=>rw [Z] at h;cases h
  |some r=>rw [Z] at h;cases h;rw [qH Z];rfl
 | .au::_,_,h=>by cases h
 | .int _::_,_,h=>by cases h
 | .str _::_,_,h=>by cases h
 | .tup _::_,_,h=>by cases h
 | .lst _::_,_,h=>by cases h
 | .br _::_,_,h=>by cases h
 | .ah _::_,_,h=>by cases h
 | .ty _::_,_,h=>by cases h
 | .bt _::_,_,h=>by cases h
 | .exc _ _::_,_,h=>by cases h
 | .bO _ _ _::_,_,h=>by cases h
def Ht:hX (bs.map D.bl)=some bs:=by
 induction bs with
 |nil=>rfl
 |cons b bs ih=>simp only [é,hX,ih,ļ]
def m7 (ds:List D) (s:aa):Res D:=match ds with
 | [d]=>match res d s with
  | .lst Z=>bQ ((hX Z).map fun bs=>.bl (bs.all id)) s
  |_=>none
 |_=>none
def Ko (hc:X.calm=true):dB X (.builtin "all") (rC X.K Ξ m7):=by
 rintro V s σ H U T Q I r ⟨w,O,rfl,S,Z,h⟩;unfold m7 at h;split at h
 ·obtain ⟨v,rfl,R⟩:=qG Z
  split at h
  ·rename_i P e1
   obtain ⟨d,e,h⟩:=dU h
   cases Y:hX P with
   |none=>rw [Y] at e;cases e
   |some bs =>
    rw [Y] at e;cases e;obtain ⟨a,U,rfl,W,Z⟩:=fH S R e1;rw [qH Y] at Z;rw [Z.qg] at W;exact F9 hc V s σ w.H _ T Q I r ⟨a,bs,rfl,bb.of W,ay S h _ rfl⟩
  ·exact h.elim
 ·exact h.elim
def j3 (ds:List D) (s:aa):Res D:=match ds with
 | [.int i,.int j]=>ok (.int (if j > i then j else i)) s
 |_=>none
def lu (ds:List D) (s:aa):Res D:=match ds with
 | [.int i,.int j]=>ok (.int (if j<i then j else i)) s
 |_=>none
def Ar (hc:X.calm=true):dB X (.builtin "max") (rC X.K Ξ j3):=by
 rintro Z s σ H T Y Q I r ⟨w,R,rfl,S,W,h⟩;unfold j3 at h;split at h
 ·rename_i i j
  obtain ⟨v,u,rfl,V,U⟩:=kZ W;cases V;cases U;exact E6 hc Z s σ w.H _ Y Q I r ⟨i,j,rfl,ay S h _ rfl⟩
 ·exact h.elim
def As (hc:X.calm=true):dB X (.builtin "min") (rC X.K Ξ lu):=by
 rintro Z s σ H T Y Q I r ⟨w,R,rfl,S,W,h⟩;unfold lu at h;split at h
 ·rename_i i j
  obtain ⟨v,u,rfl,V,U⟩:=kZ W;cases V;cases U;exact E7 hc Z s σ w.H _ Y Q I r ⟨i,j,rfl,ay S h _ rfl⟩
 ·exact h.elim
end
def Bn (n:Nat) (x:D) (ds:List D):Bool:=lay x&&cW ds&&decide (dep x<=n)
def inD (x:D) (ds:List D):Option Bool:=if Bn 100 x ds=true then some (ds.any fun y=>beq y x) else none
def vq (d:D) (s:aa):Option (List D):=match res d s with
 | .lst Z=>some Z
 | .tup Z=>some Z
 |_=>none
def ur (x y:D) (s:aa):Res D:=match vq y s with
 |some Z=>bQ ((inD x Z).map fun b=>D.bl (!b)) s
 |none=>none
def Gn (S:aH K w) (h:DV K w d v) (e:vq d w.aw=some ds):∃a xs,v=.ref a/\(w.H a=some (.lst xs)\/bh K w.H a xs)/\ar K w ds xs:=by
 unfold vq at e;split at e
 ·rename_i X e1
  cases e;obtain ⟨a,xs,rfl,Z,Y⟩:=fH S h e1;exact ⟨a,xs,rfl,.inl Z,Y⟩
 ·rename_i X e1
  cases e;rw [cY e1 (by intro _ z;cases z)] at h;simp only [DV] at h;obtain ⟨a,xs,rfl,Z,Y⟩:=h;exact ⟨a,xs,rfl,.inr Z,Y⟩
 ·cases e
section
variable {X:Cx} {Ξ:Wd->aP->Prop} {π:List (Ì×Obj)} {σ:St} {s:Á}
theorem Au (lx:lay x=true):∀{ds:List D},cW ds=true->((eD ds).any fun y=>þ y (py x))=ds.any fun y=>beq y x
 | [],_=>rfl
 |d::ds,h=>by
  simp only [cW,Å] at h;simp only [eD,List.any_cons,mH d x h.1 lx,Au lx h.2]
def Jc (h:inD x ds=some b):lay x=true/\cW ds=true/\dep x<=100/\(ds.any fun y=>beq y x)=b:=by
 unfold inD Bn at h;split at h
 ·rename_i Z
  simp only [Å,Ú] at Z;exact ⟨Z.1.1,Z.1.2,Z.2,PK h⟩
 ·cases h
def Hu (hr:aY k X.A):bq X (ă .NotIn) (rO X.K Ξ ur):=by
 rintro π s σ H x y v u Q I J T ⟨w,W,B,rfl,S,G,F,h⟩;unfold ur at h;split at h
 ·rename_i Z E
  obtain ⟨d,e,h⟩:=dU h
  cases V:inD W Z with
  |none=>rw [V] at e;cases e
  |some b =>
   rw [V] at e;cases e;obtain ⟨U,Y,z,D⟩:=Jc V;obtain ⟨R,C⟩:=iN _ U;obtain ⟨P,t⟩:=pX _ Y;obtain ⟨bs,O⟩:=(G.py (me _ U)).reads I J;have N:X.A.units+1+min (PyData.depthAll (eD Z)) (py W).depth<cLine:=by
    have:=hr.un;rw [C];omega
   obtain ⟨a,M,rfl,ha,L⟩:=Gn S F E;have fin:EP X π σ Q (.bool (!(eD Z).any fun y=>þ y (py W))) s:=⟨.bl (!b),w.H,I,by rw [Au U Y,D];rfl,ay S h _ rfl⟩
   rcases ha with ha|ha
   ·obtain ⟨cs,rc⟩:=(show L2.DV X.K (fun _=>False) w.H (.list (eD Z)) (.ref a) by simp only [L2.DV];exact ⟨a,M,rfl,not_false,ha,L.py (nL _ Y)⟩).reads I T
    exact SeqAt.notIn_list_reads rc O P R N fin
   ·obtain ⟨cs,rc⟩:=(show L2.DV X.K (fun _=>False) w.H (.tuple (eD Z)) (.ref a) by simp only [L2.DV];exact ⟨a,M,rfl,ha,L.py (nL _ Y)⟩).reads I T
    exact SeqAt.notIn_tuple_reads rc O P R N fin
 ·exact h.elim
def CP:PB (Option Int):=fun _ s=>ok none s
variable {e a b:ÿ} {lo hi:Option ÿ} {pos p2 p3 p4:Pos} {f g:PB D}
noncomputable def cutD (xs:List D) (lo hi:Option Int):List D:=(xs.drop (HT.wW xs.length 0 lo)).take (HT.wW xs.length xs.length hi-HT.wW xs.length 0 lo)
def Av (d:D) (lo hi:Option Int) (s:aa):Res D:=match res d s with
 | .tup Z=>ok (.tup (cutD Z lo hi)) s
 | .lst Z=>ok (.lst (cutD Z lo hi)) s
 |_=>none
def CQ (f:PB D) (l h:PB (Option Int)):PB D:=fun env s=>aj (f env s) fun d s=>aj (l env s) fun lo s=>aj (h env s) fun hi s=>Av d lo hi s
def B6 (d x:D) (s:aa):Res D:=match d with
 | .ah k=>match s[k]? with
  |some (.lst Z)=>if decide (Z.length<Ô)=true then ok .au (s.set k (.lst (Z++[x]))) else none
  |_=>none
 |_=>none
def wg (d:D) (s:aa):Bool:=match d with
 | .ah k=>match s[k]? with
  |some (.lst _)=>true
  |_=>false
 |_=>false
def B7 (f g:PB D):PB D:=fun env s=>aj (f env s) fun d s=>if wg d s=true then aj (g env s) fun x s=>B6 d x s else none
def fP (d i x:D) (s:aa):Option aa:=match d,i with
 | .ah k,.int n=>match s[k]? with
  |some (.lst Z)=>(et Z.length n).map fun j=>s.set k (.lst (Z.set j x))
  |_=>none
 |_,_=>none
def gk (f o i:PB D):PB Fl:=fun env s=>aj (f env s) fun x s=>aj (o env s) fun d s=>aj (i env s) fun n s=>match fP d n x s with
 |some Z=>ok (.nx env) Z
 |none=>none
def Jd (S:aH K w) (dv:DV K w d v) (dn:DV K w i n) (du:DV K w x u) (h:fP d i x w.aw=some s'):∃a xs k j,v=.ref a/\n=.int k/\w.H a=some (.lst xs)/\et xs.length k=some j/\∃w',w'.H=upd w.H a (.lst (xs.set j u))/\w'.aw=s'/\Le K w w'/\aH K w':=by
 unfold fP at h;split at h
 ·rename_i k m
  split at h
  ·rename_i Z Y
   cases X:et Z.length m with
   |none=>rw [X] at h;cases h
   |some j =>
    rw [X] at h;cases h;obtain ⟨a,e1,rfl⟩:=dv;obtain ⟨xs,U,W⟩:=S.cell k a _ e1 Y;have V:(Cell.lst Z)≠.dead:=by intro z;cases z
    have le:=(Fw.put (K:=K) (o:=.lst (xs.set j u)) (c:=.lst (Z.set j x)) S e1 Y V).le;exact ⟨a,xs,m,j,rfl,dn,U,by rw [<- W.length];exact X,w.put k a (.lst (xs.set j u)) (.lst (Z.set j x)),rfl,rfl,le,S.v7 e1 Y V ⟨_,bZ,le.all (W.set du j)⟩⟩
  ·cases h
 ·cases h
def oq (he:PE X e (tE X.K Ξ f)) (ho:PE X o (tE X.K Ξ fo)) (hi:PE X i (tE X.K Ξ fi))
 (ha:∀v,assign (.Subscript o i kh) X.env v=(do
   let ov <- Ũ [v] (Ĕ o X.env)
   let iv <- Ũ [v,ov] (Ĕ i X.env)
   standAt kh
   Ũ [v,ov,iv] (setItem ov iv v)
   release [v,ov,iv] []):=by intro _;rfl)
 (hs:ż [.Subscript o i kh] e pos.line X.env=pure false:=by rfl) (hw:Ž [.Subscript o i kh] e X.env=pure none:=by rfl)
 (h1:(Ī [.Subscript o i kh] X.env).map (·.2)=[assign (.Subscript o i kh) X.env]:=by rfl):PS X (.Assign [.Subscript o i kh] e pos) (tS X.K Ξ (gk f fo fi)) :=
 ie (Aj he (Ik ho hi set_list ha) hs hw h1) fun t σ H Q=>by
  obtain ⟨w,env,W,S,Z,h⟩:=Q;subst W;refine ⟨w,env,rfl,S,Z,(Out.aj h).mono fun P x V O h1 u N=>?_⟩;refine ⟨P,env,rfl,O,Z.le V,(Out.aj h1).mono fun M d U L J v I=>?_⟩;refine ⟨M,env,rfl,L,Z.le (V.trans U),(Out.aj J).mono fun G n T F Y m E=>?_⟩
  cases R:fP d n x G.aw with
  |none=>rw [R] at Y;exact Y.elim
  |some s =>
   rw [R] at Y;obtain ⟨a,D,k,j,e1,e2,C,B,A,W,z,le,y⟩:=Jd F (T _ _ I) E ((U.trans T) _ _ N) R;refine ⟨a,D,k,j,e1,e2,C,B,?_⟩;rw [<- W];exact Y A le y z σ (Z.le (V.trans (U.trans (T.trans le))))
end
def kd (d:D) (s:aa):Option Kn:=match res d s with
 | .au=>some .au
 | .bl _=>some .bl
 | .int _=>some .int
 | .str _=>some .str
 | .tup _=>some .tup
 | .lst _=>some .lst
 | .br _=>some .br
 |_=>none
def Bo (S:aH K w) (h:DV K w d v) (e:kd d w.aw=some k):ku K w.H v k:=by
 unfold kd at e
 split at e<;>rename_i e1<;>first | (cases e;done) | (try cases e)
 ·rw [cY e1 (by intro _ z;cases z)] at h;cases h;trivial
 ·rw [cY e1 (by intro _ z;cases z)] at h;cases h;trivial
 ·rw [cY e1 (by intro _ z;cases z)] at h;cases h;trivial
 ·rw [cY e1 (by intro _ z;cases z)] at h;cases h;trivial
 ·rw [cY e1 (by intro _ z;cases z)] at h
  simp only [DV] at h;obtain ⟨a,Y,rfl,Z,_⟩:=h;exact ⟨Y,Z⟩
 ·obtain ⟨a,Y,rfl,Z,_⟩:=fH S h e1
  exact ⟨Y,bb.of Z⟩
 ·rw [cY e1 (by intro _ z;cases z)] at h
  simp only [DV] at h;obtain ⟨a,rfl,_,Z⟩:=h;exact ⟨_,Z⟩
noncomputable def Bp (T:String):Bool:=T=="int"||T=="bool"||T=="str"||T=="tuple"||T=="list"
def cM (ds:List D) (s:aa):Res D:=match ds with
 | [d,.ty T]=>if Bp T=true then bQ ((kd d s).map fun k=>.bl (mY k T)) s else none
 |_=>none
section
variable {X:Cx} {Ξ:Wd->aP->Prop} {e a b:ÿ} {es:List ÿ} {pos:Pos} {f g:PB D} {fa:PB (List D)}
def iR:dB X (.builtin "isinstance") (rC X.K Ξ cM):=by
 rintro Z s σ H M Y Q I r ⟨w,L,rfl,S,R,h⟩;unfold cM at h;split at h
 ·rename_i d T
  obtain ⟨v,u,rfl,P,O⟩:=kZ R;have N:u=.ty T:=O;subst N;split at h
  ·rename_i U
   obtain ⟨J,e,h⟩:=dU h
   cases V:kd d w.aw with
   |none=>rw [V] at e;cases e
   |some k =>
    rw [V] at e;cases e;have W:=Bo S P V;simp only [Bp,Bool.or_eq_true,beq_iff_eq] at U
    rcases U with (((rfl|rfl)|rfl)|rfl)|rfl
    ·exact DY Z s σ w.H _ Y Q I r ⟨v,k,rfl,W,ay S h _ rfl⟩
    ·exact DM Z s σ w.H _ Y Q I r ⟨v,k,rfl,W,ay S h _ rfl⟩
    ·exact DZ Z s σ w.H _ Y Q I r ⟨v,k,rfl,W,ay S h _ rfl⟩
    ·exact DH Z s σ w.H _ Y Q I r ⟨v,k,rfl,W,ay S h _ rfl⟩
    ·exact DN Z s σ w.H _ Y Q I r ⟨v,k,rfl,W,ay S h _ rfl⟩
  ·exact h.elim
 ·exact h.elim
def iX (hv:õ x=some (.type T)) (hg:Gl X x) (hm:X.mg x=none) (hn:x≠"__name__":=by decide) (hd:(x==("__debug__":Str))=false:=by decide):PE X (.Name x pos) (tE X.K Ξ (eC (.ty T))):=mR (v:=.ty T) (qe hg hm hv rfl hn hd) fun _=>rfl
def fQ (g:∃t,X.mg x=some (.int i t)) (hg:Gl X x) (hd:(x==("__debug__":Str))=false:=by decide):PE X (.Name x pos) (tE X.K Ξ (eC (.int i))):=by
 obtain ⟨t,e⟩:=g;exact mR (v:=.int i) (zu hg e ⟨t,rfl⟩ hd) fun _=>rfl
def rP (d:D) (s:aa):Res D:=bQ ((kd d s).map fun k=>.bl (decide (k=.tup)||decide (k=.lst))) s
noncomputable def j4:List D->Option (List Int)
 | []=>some []
 | .int i::Z=>(j4 Z).map fun r=>i::r
 |_::_=>none
theorem zd:∀{ds:List D} {ns:List Int},j4 ds=some ns->ds=ns.map D.int
 | [],ns,h=>by cases h;rfl
 | .int b::ds,ns,h=>by
  simp only [j4] at h
  cases Z:j4 ds with
  |none=>rw [Z] at h;cases h
  |some r=>rw [Z] at h;cases h;rw [zd Z];rfl
 | .au::_,_,h=>by cases h
 | .bl _::_,_,h=>by cases h
 | .str _::_,_,h=>by cases h
 | .tup _::_,_,h=>by cases h
 | .lst _::_,_,h=>by cases h
 | .br _::_,_,h=>by cases h
 | .ah _::_,_,h=>by cases h
 | .ty _::_,_,h=>by cases h
 | .bt _::_,_,h=>by cases h
 | .exc _ _::_,_,h=>by cases h
 | .bO _ _ _::_,_,h=>by cases h
def Fm:j4 (ns.map D.int)=some ns:=by
 induction ns with
 |nil=>rfl
 |cons b bs ih=>simp only [é,j4,ih,ļ]
def rQ (i j:Nat) (fa:PB (List D)):PB Fl:=fun env s=>aj (fa env s) fun Z s=>match Z with
 | [x,y]=>ok (.nx ((env.set i (some x)).set j (some y))) s
 |_=>none
def Je (i j:Nat) {x y:Str} {px py pt:Pos} {kt k2 lS} (hc:X.calm=true) (hN:X.N.Nodup) (ha:PA X [a,b] (tA X.K Ξ fa)) (hi:X.N[i]?=some x:=by rfl) (hj:X.N[j]?=some y:=by rfl) (ix:i≠j:=by decide)
  (hx:X.env.scope.names.lookup x=some .local:=by rfl) (hy:X.env.scope.names.lookup y=some .local:=by rfl)
  (hw:Ž [.Tuple [.Name x px,.Name y py] kt pt] (.Tuple [a,b] k2 lS) X.env=pure (some [x,y]):=by rfl)
  (hs:ż [.Tuple [.Name x px,.Name y py] kt pt] (.Tuple [a,b] k2 lS) pos.line X.env=pure false:=by rfl) :
  PS X (.Assign [.Tuple [.Name x px,.Name y py] kt pt] (.Tuple [a,b] k2 lS) pos) (tS X.K Ξ (rQ i j fa)):=ie (Im hc hN hi hj ix hx hy ha hw hs) fun O σ H W=>by
 obtain ⟨w,env,V,S,Y,h⟩:=W;subst V;refine ⟨w,env,rfl,S,Y,(Out.aj h).mono fun M L U T Z J R=>?_⟩;split at Z
 ·obtain ⟨v,u,rfl,Q,P⟩:=kZ R
  exact ⟨v,u,rfl,ay T Z _ (((Y.le U).set Q i).set P j)⟩
 ·exact Z.elim
end
end DI
namespace L2
open PySem PySem.Spec PyProof.Rows
structure DS (Y:Cx) (D:Ì) (π:List (Ì×Obj)):Prop where
 loc:D≠Y.env.locals
 fs:D∉Y.fs
 new:Y.bV.heap.objs.size<=D
 cell:∀x c,Y.env.cells.lookup x=some c->c≠D
 pin:∀p∈Y.pn++π,p.1≠D
structure MU (Y:Cx) (D:Ì) (nt:Nat) (caps:St) (π:List (Ì×Obj)) (o:St) (H:Hp) (s:Á) (acc:List V):Prop where
 inv:Inv Y π (o++caps) H s
 len:o.length=nt
 lst:∃ys,s.heap.PlainList D ys/\Vals acc ys.toList
 free:H D=none
 xc:acc.length<=Ô
section
variable {Y:Cx} {D:Ì} {nt:Nat} {caps:St}
def DS.obj (ds:DS Y D π) (B:MU Y D nt caps π o H s acc):∃oD ys nn,s.heap.get? D=some oD/\oD={ cls:=.type "list",data:=.seq ys nn }/\Vals acc ys.toList/\Inv Y (π++[(D,oD)]) (o++caps) H s:=by
 obtain ⟨ys,⟨nn,Z⟩,X⟩:=B.lst;refine ⟨_,ys,nn,Z,rfl,X,B.inv.mq fun p W=>?_⟩
 rcases ĩ.mp W with z|z
 ·exact B.inv.pin p (è _ z)
 ·have e:p=(D,{ cls:=.type "list",data:=.seq ys nn }):=by simpa using z
  subst e;exact ⟨Z,B.free,ds.loc,ds.fs,fun v z=>by cases z⟩
end
section
variable {Y:Cx} {D:Ì} {nt:Nat} {caps:St}
end
section
variable {X:Cx}
end
end L2
namespace DI
open PySem L2
def fU:õ "isinstance"=some (.builtin "isinstance"):=by decide +kernel
def Kp:õ "int"=some (.type "int"):=by decide +kernel
def uP:õ "bool"=some (.type "bool"):=by decide +kernel
def qj:õ "tuple"=some (.type "tuple"):=by decide +kernel
def qI:õ "list"=some (.type "list"):=by decide +kernel
def Kq:õ "all"=some (.builtin "all"):=by decide +kernel
def j5:õ "len"=some (.builtin "len"):=by decide +kernel
def Bq:õ "max"=some (.builtin "max"):=by decide +kernel
def Br:õ "min"=some (.builtin "min"):=by decide +kernel
structure Gd (K:ô) (mg:Str->Option Â) (x:Str) (st:ŷ) (ps:List Str) (f:Ì) (fd:ú):Prop where
 mg:mg x=some (.ref f)
 fn:kq K x x st f fd
 b:Binds K fd ps []
def Kr {P:Ó} {w:î} {K:ô} {mg:Str->Option Â} {base:Ă} {k:Nat} {f:Ì} {fd:ú} {ps:List Str} {g:List D->aa->Res D} (h:∀ds s,g ds s=none):bK P w K mg base cg k f fd ps (gB K g) :=
 ⟨fun Y H Q E Z=>by obtain ⟨w,ds,_,_,_,q⟩:=Z;rw [h] at q;exact q.elim,fun A outer s H args X Y Q E _ _ _ _ Z=>by obtain ⟨w,ds,_,_,_,q⟩:=Z;rw [h] at q;exact q.elim⟩
def wj (g:D->Env->Option Env) (t:PB Bool) (act:PB (List D)) (kf:Env):List D->aa->Res (List D)
 | [],s=>ok [] s
 |d::Z,s=>match g d kf with
  |none=>none
  |some env=>aj (ne (t env s)) fun b s=>if b=true then aj (ne (act env s)) fun Y s=>aj (wj g t act kf Z s) fun X s=>ok (Y++X) s
   else wj g t act kf Z s
def more (it:PB (List D)) (g:D->Env->Option Env) (t:PB Bool) (act:PB (List D)):PB (List D):=fun env s=>aj (it env s) fun Z s=>wj g t act env Z s
def Sl (g:D->Env->Option Env) (sl:List Nat):Prop:=∀d env Z,g d env=some Z->Z.length=env.length/\∀i,i∉sl->Z[i]?=env[i]?
def nB (sl:List Nat) (env:Env):Prop:=∀i∈sl,∀d,env[i]?≠some (some d)
def bF.back {K:ô} {w:Wd} {env aK:Env} {σ:St} {g:D->Env->Option Env} {sl:List Nat} {d:D} (hs:Sl g sl) (hf:nB sl env) (hg:g d env=some aK) (hl:env.length=σ.length) (h:bF K w aK σ):bF K w env σ :=
 ⟨hl,fun i x e=>by
  by_cases hi:i∈sl
  ·exact absurd e (hf i hi x)
  ·exact h.val i x (by rw [(hs d env aK hg).2 i hi];exact e)⟩
def Gp {α β:Type} {r:Res α} {k:α->aa->Res β} {b:β} {s':aa} (h:aj r k=some (.ok b,s')):∃a s,r=some (.ok a,s)/\k a s=some (.ok b,s'):=by
 match r,h with
 |some (.ok a,s),h=>exact ⟨a,s,rfl,h⟩
def Hv {α:Type} {r:Res α} {a:α} {s:aa} (h:ne r=some (.ok a,s)):r=some (.ok a,s):=by
 match r,h with
 |some (.ok b,Z),h=>exact h
def nB.of {nt:Nat} {g:D->Env->Option Env} {sl cI:List Nat} (hs:Sl g sl) (hd:∀i∈cI,i<nt/\i∉sl) {d:D} {caps aK:Env} (hg:g d (Ê nt none++caps)=some aK):nB cI aK:=fun i hi x e=>by
 obtain ⟨Z,Y⟩:=hd i hi;rw [(hs _ _ _ hg).2 i Y,Ñ (by simpa using Z),ě,ã Z] at e;cases e
def nB.on (hs:Sl g sl) (hd:∀i∈cI,i∉sl) (hf:nB cI env) (hg:g d env=some aK):nB cI aK:=fun i hi x e=>by
 rw [(hs _ _ _ hg).2 i (hd i hi)] at e;exact hf i hi x e
section
variable {X:Cx} {Ξ:Wd->aP->Prop} {el tg src MV L4 O5 OT:ÿ} {tests Jf OP:List ÿ} {sc:Ń} {ps pos:Pos} {N:List Str} {nt:Nat} {cap:List Nat} {it xb O6:PB (List D)} {gd MW O7:D->Env->Option Env} {g0 MX O8:TG} {sl cI nC:List Nat} {ft MY O9:PB Bool} {f:PB D}
noncomputable def apart (nt:Nat) (sl cI:List Nat):Bool:=cI.all (fun i=>decide (i<nt)&&!sl.contains i)
end
end DI
namespace L2
open PySem PySem.Spec PyProof.Rows
end L2
namespace HT
open PySem PyProof.Rows
def wk (A:Ù) (s:Á) (y x:Â) (b:Bool):Prop:=∀(prog:Ó) (w:î) (E:Â->Á->Prop) (Q:Â->Á->Prop),Q (.bool b) s->Ö (Ø prog w) A (richCompare .Lt y x) Q E s
inductive ig (A:Ù) (s:Á):List Â->List Â->Bool->Prop where
 |nn:ig A s [] [] false
 |nc (y:Â) (ys:List Â):ig A s [] (y::ys) true
 |cn (x:Â) (xs:List Â):ig A s (x::xs) [] false
 |eq {x y:Â} {xs ys:List Â} {b:Bool}:SeqAt.EqAt A s x y true->ig A s xs ys b->ig A s (x::xs) (y::ys) b
 |lt {x y:Â} {xs ys:List Â} {b:Bool}:SeqAt.EqAt A s x y false->wk A s x y b->ig A s (x::xs) (y::ys) b
section
open PySem.SeqAt
open PySem.AutoSeq1 (wpAny_loadPart')
open PySem.MeetsSeq PySem.MeetsSeq2 PySem.MeetsSeq3
def ED (l b:Ì) (items jT:Array Â) (n n2:Nat) (dd km:Option Ì) (sl cI:Array (Option Â)) (jH:Bool) :
  Meets (Pp.«tuple.__lt__» ⟨[.ref l,.ref b],[]⟩)
   (fun A R s=>s.heap.get? l=some { cls:=.type "tuple",dict:=dd,data:=.seq items n,slots:=sl }/\s.heap.get? b=some { cls:=.type "tuple",dict:=km,data:=.seq jT n2,slots:=cI } /\
    ig A.in1 s items.toList jT.toList jH/\R (.ok (.ret (.bool jH))) s) :=
 .of_wp fun prog w A R s h=>by
  obtain ⟨N,g,d,M,os⟩:=s;obtain ⟨K,J,I,h⟩:=h;have f2:=AutoSeq1.sub_tuple_tuple
  wp_walk using wpAny_loadPart' K,wpAny_loadPart' J,wpAny_forIn_list _ (fun rest b W=>b.1=none/\W=⟨N,g,d,M,os⟩/\∃(X ws:List Â),rest=X.zip ws /\
   ig A.in1 ⟨N,g,d,M,os⟩ X ws jH/\X.length+jT.size=ws.length+items.size) _
  case turn =>
   rintro ⟨y,x⟩ rest b W ⟨V,rfl,X,ws,Y,U,Z⟩
   cases U with
   |nn=>cases Y
   |nc _ _=>cases Y
   |cn _ _=>cases Y
   |eq T S =>
    rw [ţ] at Y
    injection Y with Q L
    injection Q with P O
    subst P O;simp only [ò] at Z;refine À (T prog w _ _ ?_)
    wp_walk
    exact ⟨rfl,rfl,_,_,L,S,by omega⟩
   |lt T S =>
    rw [ţ] at Y
    injection Y with Q L
    injection Q with P O
    subst P O;refine À (T prog w _ _ ?_);have H:=S prog w
    wp_walk using H
    exact ⟨_,rfl,by simpa using h⟩
  case fin =>
   rintro ⟨F,E⟩ W ⟨V,rfl,X,ws,Y,U,Z⟩;simp only at V;subst V;have G:jH=decide (items.size<jT.size):=by
    cases U with
    |nn=>simp only [ę] at Z;exact (ï (by omega)).symm
    |nc _ _=>simp only [ę,ò] at Z;exact (Ò (by omega)).symm
    |cn _ _=>simp only [ę,ò] at Z;exact (ï (by omega)).symm
    |eq _ _=>rw [ţ] at Y;cases Y
    |lt _ _=>rw [ţ] at Y;cases Y
   rw [G] at h
   wp_walk
   exact ⟨_,rfl,by simpa [Builtin.Tuple.tupleCompareSizes] using h⟩
  case h =>
   exact ⟨rfl,rfl,items.toList,jT.toList,rfl,I,by simp only [ő];omega⟩
end
open PySem.SeqAt PySem.MeetsSeq
section
variable {prog:Ó} {w:î} {A:Ù} {E:Â->Á->Prop} {s:Á}
def zP (hl:IsTup s.heap l items) (hb:IsTup s.heap b jT) (hA:∀A':Ù,A'.units<=A.units+4->ig A' s items.toList jT.toList jH)
 (hu:A.units<cLine) (h:Q (.bool jH) s):Ö (Ø prog w) A (richCompare .Lt (.ref l) (.ref b)) Q E s:=by
 obtain ⟨⟨cls,U,data,T⟩,Z,Y,n,X⟩:=id hl;obtain ⟨⟨O,S,data2,R⟩,W,V,P,hd2⟩:=id hb;simp only at Y X V hd2;subst Y X V hd2;refine richCompare_meets_room (op:=.Lt) ⟨_,Z,rfl⟩ ⟨_,W,rfl⟩ PySem.F.slot_tuple_lt PySem.F.entry_tuple_lt (PySem.F.args_tuple_lt_2 _ _) (ED l b items jT n P U S T R jH)
  ⟨Z,W,hA _ ?_,show ĝ jH≠Value.notImplemented/\Q (.bool jH) s from ⟨(fun x=>nomatch x),h⟩⟩ hu
 show A.units+1<=A.units+4;omega
end
end HT
namespace DI
open PySem L2 HT
mutual
noncomputable def lZ:D->D->Option Bool
 | .int i,.int j=>some (decide (i<j))
 | .str x,.str y=>some (decide (x.cps.toList<y.cps.toList))
 | .tup Z,.tup Y=>m8 Z Y
 |_,_=>none
noncomputable def m8:List D->List D->Option Bool
 | [],[]=>some false
 | [],_::_=>some true
 |_::_,[]=>some false
 |x::Z,y::Y=>if beq x y=true then m8 Z Y else lZ x y
end
section
variable {X:Cx} {Ξ:Wd->aP->Prop} {π:List (Ì×Obj)} {σ:St} {s:Á} {w:Wd}
def Ks (I:Inv X π σ w.H s) (A:Ù) (lx:lay x=true) (ly:lay y=true) (hu:A.units+dep x<cLine) (hx:DV X.K w x v) (hy:DV X.K w y u) (rx:RelV v vx) (ry:RelV u vy):SeqAt.EqAt A s vx vy (beq x y):=by
 obtain ⟨as,Z⟩:=(hx.py (me _ lx)).reads I rx;obtain ⟨bs,Y⟩:=(hy.py (me _ ly)).reads I ry;obtain ⟨W,V⟩:=iN _ lx;obtain ⟨U,T⟩:=iN _ ly;have:=SeqAt.eqAt_reads _ _ A s vx vy as bs Z Y W U (by rw [V];omega);rw [mH _ _ lx ly] at this;exact this
mutual
theorem Bt (I:Inv X π σ w.H s):∀(A:Ù) (x y:D) (b:Bool) (v u:V) (vx vy:Â),lZ x y=some b->lay x=true->lay y=true->A.units+5*dep x+5<cLine->DV X.K w x v->DV X.K w y u->RelV v vx->RelV u vy->wk A s vx vy b
 |A,.int i,.int j,b,v,u,vx,vy,h,_,_,_,Z,Y,W,U=>by
  cases h;cases Z;cases Y;obtain ⟨t,rfl⟩:=W;obtain ⟨T,rfl⟩:=U;intro prog w E Q q;exact y6 A s i t j T prog w E Q q
 |A,.str i,.str j,b,v,u,vx,vy,h,_,_,S,Z,Y,W,U=>by
  cases h;cases Z;cases Y;obtain ⟨t,rfl⟩:=W;obtain ⟨T,rfl⟩:=U;intro prog w E Q q;exact (PyProof.Rows.lt_str q:Ö (Ø prog w) A (ă .Lt (.str i t) (.str j T)) Q E s)
 |A,.tup R,.tup P,b,v,u,vx,vy,h,O,N,S,Z,Y,W,U=>by
  simp only [lZ] at h;simp only [DV] at Z Y;obtain ⟨a,as,rfl,M,L⟩:=Z;obtain ⟨c,cs,rfl,J,G⟩:=Y;cases W;cases U;obtain ⟨ao,F,C,_⟩:=I.tuple M;obtain ⟨B,z,r,_⟩:=I.tuple J;intro prog o E Q q;simp only [dep] at S;exact zP C r (fun p n=>by
   have:=Aw I p R P b as cs ao B h (by simpa [lay] using O) (by simpa [lay] using N) (by omega) L G F z;simpa using this) (by omega) q
 |_,.au,_,_,_,_,_,_,h,_,_,_,_,_,_,_=>by cases h
 |_,.bl _,_,_,_,_,_,_,h,_,_,_,_,_,_,_=>by cases h
 |_,.lst _,_,_,_,_,_,_,h,_,_,_,_,_,_,_=>by cases h
 |_,.br _,_,_,_,_,_,_,h,_,_,_,_,_,_,_=>by cases h
 |_,.ah _,_,_,_,_,_,_,h,_,_,_,_,_,_,_=>by cases h
 |_,.ty _,_,_,_,_,_,_,h,_,_,_,_,_,_,_=>by cases h
 |_,.bt _,_,_,_,_,_,_,h,_,_,_,_,_,_,_=>by cases h
 |_,.exc _ _,_,_,_,_,_,_,h,_,_,_,_,_,_,_=>by cases h
 |_,.bO _ _ _,_,_,_,_,_,_,h,_,_,_,_,_,_,_=>by cases h
 |_,.int _,.au,_,_,_,_,_,h,_,_,_,_,_,_,_=>by cases h
 |_,.int _,.bl _,_,_,_,_,_,h,_,_,_,_,_,_,_=>by cases h
 |_,.int _,.str _,_,_,_,_,_,h,_,_,_,_,_,_,_=>by cases h
 |_,.int _,.tup _,_,_,_,_,_,h,_,_,_,_,_,_,_=>by cases h
 |_,.int _,.lst _,_,_,_,_,_,h,_,_,_,_,_,_,_=>by cases h
 |_,.int _,.br _,_,_,_,_,_,h,_,_,_,_,_,_,_=>by cases h
 |_,.int _,.ah _,_,_,_,_,_,h,_,_,_,_,_,_,_=>by cases h
 |_,.int _,.ty _,_,_,_,_,_,h,_,_,_,_,_,_,_=>by cases h
 |_,.int _,.bt _,_,_,_,_,_,h,_,_,_,_,_,_,_=>by cases h
 |_,.int _,.exc _ _,_,_,_,_,_,h,_,_,_,_,_,_,_=>by cases h
 |_,.int _,.bO _ _ _,_,_,_,_,_,h,_,_,_,_,_,_,_=>by cases h
 |_,.str _,.au,_,_,_,_,_,h,_,_,_,_,_,_,_=>by cases h
 |_,.str _,.bl _,_,_,_,_,_,h,_,_,_,_,_,_,_=>by cases h
 |_,.str _,.int _,_,_,_,_,_,h,_,_,_,_,_,_,_=>by cases h
 |_,.str _,.tup _,_,_,_,_,_,h,_,_,_,_,_,_,_=>by cases h
 |_,.str _,.lst _,_,_,_,_,_,h,_,_,_,_,_,_,_=>by cases h
 |_,.str _,.br _,_,_,_,_,_,h,_,_,_,_,_,_,_=>by cases h
 |_,.str _,.ah _,_,_,_,_,_,h,_,_,_,_,_,_,_=>by cases h
 |_,.str _,.ty _,_,_,_,_,_,h,_,_,_,_,_,_,_=>by cases h
 |_,.str _,.bt _,_,_,_,_,_,h,_,_,_,_,_,_,_=>by cases h
 |_,.str _,.exc _ _,_,_,_,_,_,h,_,_,_,_,_,_,_=>by cases h
 |_,.str _,.bO _ _ _,_,_,_,_,_,h,_,_,_,_,_,_,_=>by cases h
 |_,.tup _,.au,_,_,_,_,_,h,_,_,_,_,_,_,_=>by cases h
 |_,.tup _,.bl _,_,_,_,_,_,h,_,_,_,_,_,_,_=>by cases h
 |_,.tup _,.int _,_,_,_,_,_,h,_,_,_,_,_,_,_=>by cases h
 |_,.tup _,.str _,_,_,_,_,_,h,_,_,_,_,_,_,_=>by cases h
 |_,.tup _,.lst _,_,_,_,_,_,h,_,_,_,_,_,_,_=>by cases h
 |_,.tup _,.br _,_,_,_,_,_,h,_,_,_,_,_,_,_=>by cases h
 |_,.tup _,.ah _,_,_,_,_,_,h,_,_,_,_,_,_,_=>by cases h
 |_,.tup _,.ty _,_,_,_,_,_,h,_,_,_,_,_,_,_=>by cases h
 |_,.tup _,.bt _,_,_,_,_,_,h,_,_,_,_,_,_,_=>by cases h
 |_,.tup _,.exc _ _,_,_,_,_,_,h,_,_,_,_,_,_,_=>by cases h
 |_,.tup _,.bO _ _ _,_,_,_,_,_,h,_,_,_,_,_,_,_=>by cases h
theorem Aw (I:Inv X π σ w.H s):∀(A:Ù) (xs ys:List D) (b:Bool) (vs us:List V) (ps qs:List Â),m8 xs ys=some b->cW xs=true->cW ys=true->A.units+5*dD xs+5<cLine->ar X.K w xs vs->ar X.K w ys us->Vals vs ps->Vals us qs->ig A s ps qs b
 |A,[],[],b,vs,us,ps,qs,h,_,_,_,W,U,Z,Y=>by
  cases h;cases W;cases U;cases Z;cases Y;exact .nn
 |A,[],y::ys,b,vs,us,ps,qs,h,_,_,_,W,U,Z,Y=>by
  cases h;cases W;cases Z;obtain ⟨u,r,rfl,_,_⟩:=U;cases Y;exact .nc _ _
 |A,x::xs,[],b,vs,us,ps,qs,h,_,_,_,W,U,Z,Y=>by
  cases h;cases U;cases Y;obtain ⟨u,r,rfl,_,_⟩:=W;cases Z;exact .cn _ _
 |A,x::xs,y::ys,b,vs,us,ps,qs,h,T,S,N,W,U,Z,Y=>by
  obtain ⟨v,r,rfl,P,dr⟩:=W;obtain ⟨u,G,rfl,O,M⟩:=U;simp only [cW,Å] at T S;simp only [dD] at N;have F:=Nat.le_max_left (dep x) (dD xs);have E:=Nat.le_max_right (dep x) (dD xs)
  cases Z with
  |cons Z L =>
   cases Y with
   |cons Y J =>
    have R:=Ks I A T.1 S.1 (by omega) P O Z Y;simp only [m8] at h;split at h
    ·rename_i Q
     rw [Q] at R;exact .eq R (Aw I A xs ys b _ _ _ _ h T.2 S.2 (by omega) dr M L J)
    ·rename_i Q
     rw [Bool.not_eq_true] at Q;rw [Q] at R;exact .lt R (Bt I A x y b _ _ _ _ h T.1 S.1 (by omega) P O Z Y)
end
def js (x y:D) (s:aa):Res D:=if (lay x&&lay y&&decide (dep x<=30))=true then bQ ((lZ x y).map D.bl) s else none
def wo (hr:aY k X.A):bq X (ă .Lt) (rO X.K Ξ js):=by
 rintro O s σ H x y v u Q I U T ⟨w,W,V,rfl,S,R,P,h⟩;unfold js at h;split at h
 ·rename_i Z
  simp only [Å,Ú] at Z;obtain ⟨d,e,h⟩:=dU h
  cases Y:lZ W V with
  |none=>rw [Y] at e;cases e
  |some b =>
   rw [Y] at e;cases e;exact Bt I X.A W V b x y v u Y Z.1.1 Z.1.2 (by have:=hr.un;have:=Z.2;have:cLine=9900:=rfl;omega) R P U T _ _ _ _ ⟨.bl b,w.H,I,rfl,ay S h _ rfl⟩
 ·exact h.elim
end
end DI
namespace DI
open PySem L2
section
variable {X:Cx} {Ξ:Wd->aP->Prop} {e:ÿ} {p pos Pb Pc LH OU:Pos} {f:PB D}
end
def md:List D->aa->Res D:=aI 2 2 (az (bj (bD (e2 js (ae 1) (eB dh (af (ae 0) ai)))) (aS (e2 aL (ae 0) (ae 1))) bH) (aS (eC (.int 0))))
def nQ:List D->aa->Res D:=aI 2 3 (az (bo (aX md (af (ae 0) (af (ae 1) ai))) (gN 2)) (aS (eNew (af (eB j3 (af (eC (.int 0)) (af (e2 fL (ae 2) (e2 mU (eC (.int 10)) (eC (.int 18)))) ai))) (af (e2 dJ (ae 2) (eC (.int 2147483647))) ai)))))
def cZ:List D->aa->Res D:=aI 2 4 (az (bj (bD (e2 jr (e2 aL (ae 0) (eC (.int 0))) (eC (.int 0)))) (az (bo (e2 dJ (e2 aL (ae 0) (eC (.int 0))) (ae 1)) (gN 2)) (az (gk (e2 gR (e2 aL (ae 0) (eC (.int 0))) (ae 1)) (ae 0) (eC (.int 0))) (aS (ae 2)))) bH) (az (gk (e2 dJ (e2 cF (e2 bY (e2 aL (ae 0) (eC (.int 1))) (eC (.int 48271))) (eC (.int 29))) (eC (.int 2147483647))) (ae 0) (eC (.int 1))) (az (bo (e2 dJ (e2 cF (e2 cF (e2 bY (e2 aL (ae 0) (eC (.int 1))) (e2 aL (ae 0) (eC (.int 1)))) (e2 bY (eC (.int 39373)) (e2 aL (ae 0) (eC (.int 1))))) (eC (.int 7))) (eC (.int 2147483629))) (gN 3)) (az (bo (e2 dJ (e2 cF (e2 bY (ae 3) (ae 3)) (e2 bY (eC (.int 16807)) (ae 3))) (eC (.int 2147483587))) (gN 3)) (aS (e2 dJ (e2 gR (ae 3) (eC (.int 8))) (ae 1)))))))
def kR:Nat->List D->aa->Res D
 |0=>fun _ _=>none
 |n+1=>aI 2 2 (az (bj (dC (e1 rP (ae 1))) (az (bj (jA (bD (e2 cq (eB cM (af (ae 0) (af (eC (.ty "tuple")) ai))) (eB cM (af (ae 1) (af (eC (.ty "tuple")) ai))))) (bD (e2 cq (eB cM (af (ae 0) (af (eC (.ty "list")) ai))) (eB cM (af (ae 1) (af (eC (.ty "list")) ai)))))) (aS (eC (.bl false))) bH) (aS (gg (e2 ei (eB dh (af (ae 0) ai)) (eB dh (af (ae 1) ai))) (eB m7 (af (gQ 2 [] (LY (af (ae 0) (af (ae 1) ai))) (gT [gN 0,gN 1]) iF (aX (kR n) (af (ae 0) (af (ae 1) ai)))) ai))))) bH) (aS (gg (e2 ei (eB cM (af (ae 0) (af (eC (.ty "bool")) ai))) (eB cM (af (ae 1) (af (eC (.ty "bool")) ai)))) (e2 ei (ae 0) (ae 1)))))
def sZ:List D->aa->Res D:=aI 1 1 (aS (gg (eB cM (af (ae 0) (af (eC (.ty "int")) ai))) (gg (rG (eB cM (af (ae 0) (af (eC (.ty "bool")) ai)))) (e2 oQ (ae 0) (eC (.int 0))))))
def jO:List D->aa->Res D:=aI 2 2 (aS (gg (aX sZ (af (ae 0) ai)) (e2 js (ae 0) (ae 1))))
end DI
namespace ST
open PySem PySem.W PyProof.Rows
structure Ord (α:Type) where
 lt:α->α->Bool
 CS:∀a,lt a a=false
 tr:∀a b c,lt a b=true->lt b c=true->lt a c=true
 i7:∀a b,lt a b=false->lt b a=false->a=b
section
variable {α:Type} (O:Ord α)
def Ord.le (a b:α):Prop:=O.lt b a=false
variable {O}
def Ord.le_refl (a:α):O.le a a:=O.CS a
def Ord.le_of_lt (h:O.lt a b=true):O.le a b:=by
 unfold Ord.le
 cases Z:O.lt b a with
 |false=>rfl
 |true=>have:=O.tr _ _ _ h Z;rw [O.CS] at this;cases this
def Ord.vt (h:O.le a b) (g:O.le b c):O.le a c:=by
 unfold Ord.le at *
 cases Z:O.lt c a with
 |false=>rfl
 |true =>
  cases Y:O.lt a b with
  |true=>have:=O.tr _ _ _ Z Y;rw [g] at this;cases this
  |false =>
   have e:=O.i7 a b Y h;subst e;rw [g] at Z;cases Z
def Ord.Kt (h:O.le a b) (g:O.le b a):a=b:=O.i7 _ _ g h
end
def ok {β:Type} (c:Nat->Nat->Bool) (n:Nat):KasT β->(β->Prop)->Prop
 | .ret a,Q=>Q a
 | .ask i j k,Q=>i<n/\j<n/\ok c n (k (c i j)) Q
theorem jQ {β:Type} {c:Nat->Nat->Bool} {n:Nat} {Q R:β->Prop}:∀{t:KasT β},ok c n t Q->(∀a,Q a->R a)->ok c n t R
 | .ret a,h,i=>i a h
 | .ask _ _ k,h,i=>⟨h.1,h.2.1,jQ (t:=k _) h.2.2 i⟩
theorem qk {β γ:Type} {c:Nat->Nat->Bool} {n:Nat} {f:β->KasT γ} {Q:γ->Prop}:∀{t:KasT β},ok c n t (fun a=>ok c n (f a) Q)->ok c n (t.bind f) Q
 | .ret _,h=>h
 | .ask _ _ k,h=>⟨h.1,h.2.1,qk (t:=k _) h.2.2⟩
section
variable {α:Type} {O:Ord α} {x:Nat->α} {n:Nat}
noncomputable def ky (x:Nat->α) (p:Array Nat) (i:Nat):α:=x (p.getD i 0)
def Pm (n:Nat) (p:Array Nat):Prop:=p.size=n/\p.toList.Perm (ľ n)
def Up (O:Ord α) (f:Nat->α) (k:Nat):Prop:=∀i j,i<j->j<k->O.le (f i) (f j)
def Dn (O:Ord α) (f:Nat->α) (k:Nat):Prop:=∀i j,i<j->j<k->O.le (f j) (f i)
def Up.more (h:Up O f k) (hk:1<=k) (h1:O.le (f (k-1)) (f k)):Up O f (k+1):=fun i j Z X=>by
 by_cases e:j=k
 ·subst e
  by_cases Y:i=j-1
  ·subst Y;exact h1
  ·exact Ord.vt (h i (j-1) (by omega) (by omega)) h1
 ·exact h i j Z (by omega)
def Dn.more (h:Dn O f k) (hk:1<=k) (h1:O.le (f k) (f (k-1))):Dn O f (k+1):=fun i j Z X=>by
 by_cases e:j=k
 ·subst e
  by_cases Y:i=j-1
  ·subst Y;exact h1
  ·exact Ord.vt h1 (h i (j-1) (by omega) (by omega))
 ·exact h i j Z (by omega)
def Pm.lt (h:Pm n p) (hi:i<n):p.getD i 0<n:=by
 have hs:i<p.size:=by rw [h.1];exact hi
 have:p[i]∈p.toList:=by simp
 have e:p.getD i 0=p[i]:=by simp [Array.getD,hs]
 rw [e];exact Ņ.mp (h.2.mem_iff.mp this)
def Pm.rev (h:Pm n p) (i j:Nat):Pm n (kas_rev p i j):=⟨by rw [kas_rev_size];exact h.1,(Array.perm_iff_toList_perm.mp (mirror_perm p i j _)).trans h.2⟩
def zQ {p q:Array Nat} {i j:Nat} (h:p[i]?=q[j]?):p.getD i 0=q.getD j 0:=by
 rw [Array.getD_eq_getD_getElem?,Array.getD_eq_getD_getElem?,h]
def uQ {p:Array Nat} {i j:Nat} (hj:j<=p.size) (k:Nat):ky x (kas_rev p i j) k=if i<=k/\k<j then ky x p (i+j-1-k) else ky x p k:=by
 have e:=getElem?_mirror_all (i:=i) hj k;unfold ky kas_rev
 split<;>rename_i h
 ·rw [ã h] at e;rw [zQ e]
 ·rw [ë h] at e;rw [zQ e]
def zR (hj:j<=p.size) (he:∀k,i<=k->k<j->ky x p k=ky x p (j-1)):ky x (kas_rev p i j)=ky x p:=funext fun k=>by
 rw [uQ hj];split
 ·rw [he _ (by omega) (by omega),he k (by omega) (by omega)]
 ·rfl
noncomputable abbrev asks (O:Ord α) (x:Nat->α) (i j:Nat):Bool:=O.lt (x i) (x j)
theorem uR {p:Array Nat} (hp:Pm n p):∀(f m:Nat),1<=m->m+f<=n->Up O (ky x p) m->ok (asks O x) n (kas_asc p f m) fun r=>m<=r/\r<=m+f/\Up O (ky x p) r/\(r<m+f->O.lt (ky x p r) (ky x p (r-1))=true)
 |0,m,Y,V,Z=>⟨PJ _,PJ _,Z,fun z=>absurd z (ð _)⟩
 |f+1,m,Y,V,Z=>by
  refine ⟨hp.lt (by omega),hp.lt (by omega),?_⟩
  show ok _ _ (if O.lt (ky x p m) (ky x p (m-1))=true then _ else _) _
  cases X:O.lt (ky x p m) (ky x p (m-1)) with
  |true =>
   rw [ã rfl];exact ⟨PJ _,by omega,Z,fun _=>X⟩
  |false =>
   rw [ë Î];refine jQ (uR hp f (m+1) (by omega) (by omega) (Z.more Y X)) fun r W=>⟨by omega,by omega,W.2.2.1,fun z=>W.2.2.2 (by omega)⟩
structure DS (O:Ord α) (x:Nat->α) (n:Nat) (p:Array Nat) (m q:Nat):Prop where
 pm:Pm n p
 q1:q+1<=m
 mn:m<=n
 dn:Dn O (ky x p) m
 bl:∀k,m-(q+1)<=k->k<m->ky x p k=ky x p (m-1)
def DS.turn (D:DS O x n p m q):Pm n (kas_rev p (m-(q+1)) m)/\ky x (kas_rev p (m-(q+1)) m)=ky x p :=
 ⟨D.pm.rev _ _,zR (by rw [D.pm.1];exact D.mn) D.bl⟩
theorem ql:∀(f:Nat) (p:Array Nat) (m q:Nat),m+f<=n->DS O x n p m q->ok (asks O x) n (kas_desc f p m q) fun r=>m<=r.2.1/\DS O x n r.1 r.2.1 r.2.2
 |0,p,m,q,_,D=>⟨PJ _,D⟩
 |f+1,p,m,q,P,D=>by
  have q1:=D.q1;refine ⟨D.pm.lt (by omega),D.pm.lt (by omega),?_⟩
  show ok _ _ (if O.lt (ky x p m) (ky x p (m-1))=true then _ else _) _
  cases X:O.lt (ky x p m) (ky x p (m-1)) with
  |true =>
   rw [ã rfl];have one:∀Y,Pm n Y->ky x Y=ky x p->DS O x n Y (m+1) 0:=fun Y V U=>⟨V,by omega,by omega,by rw [U];exact D.dn.more (by omega) (Ord.le_of_lt X),fun k T S=>by rw [show k=m+1-1 by omega]⟩;by_cases W:q > 0
   ·rw [ã W]
    exact jQ (ql f _ (m+1) 0 (by omega) (one _ D.turn.1 D.turn.2)) fun r Z=>⟨by omega,Z.2⟩
   ·rw [ë W]
    exact jQ (ql f _ (m+1) 0 (by omega) (one _ D.pm rfl)) fun r Z=>⟨by omega,Z.2⟩
  |false =>
   rw [ë Î];refine ⟨D.pm.lt (by omega),D.pm.lt (by omega),?_⟩
   show ok _ _ (if O.lt (ky x p (m-1)) (ky x p m)=true then _ else _) _
   cases R:O.lt (ky x p (m-1)) (ky x p m) with
   |true =>
    rw [ã rfl];exact ⟨PJ _,D⟩
   |false =>
    rw [ë Î];have e:ky x p m=ky x p (m-1):=O.i7 _ _ X R;refine jQ (ql f p (m+1) (q+1) (by omega) ⟨D.pm,by omega,by omega,D.dn.more (by omega) (by rw [e];exact Ord.le_refl _),fun k T S=>?_⟩) fun r Z=>⟨by omega,Z.2⟩;show _=ky x p m;by_cases Q:k=m
    ·rw [Q]
    ·rw [D.bl k (by omega) (by omega),e]
def zS {p:Array Nat} {m:Nat} (hp:Pm n p) (h1:1<=m) (hm:m<=n) (hd:Dn O (ky x p) m):ok (asks O x) n (kas_tail3 m n p) fun r=>1<=r.1/\r.1<=n/\Pm n r.2/\Up O (ky x r.2) r.1:=by
 refine qk ?_;have Z:Up O (ky x (kas_rev p 0 m)) m:=fun i j W Y=>by
  rw [uQ (by rw [hp.1];exact hm),uQ (by rw [hp.1];exact hm),ã ⟨by omega,by omega⟩,ã ⟨by omega,Y⟩];exact hd _ _ (by omega) (by omega)
 exact jQ (uR (hp.rev 0 m) (n-m) m h1 (by omega) Z) fun r X=>⟨by show 1<=r;omega,by show r<=n;omega,hp.rev 0 m,X.2.2.1⟩
def yv {p:Array Nat} {m:Nat} (hp:Pm n p) (h1:1<=m) (hm:m+1<=n) (hd:Dn O (ky x p) (m+1)):ok (asks O x) n (kas_descPart m n p) fun r=>1<=r.1/\r.1<=n/\Pm n r.2/\Up O (ky x r.2) r.1:=by
 refine qk (jQ (ql (n-(m+1)) p (m+1) 0 (by omega) ⟨hp,by omega,hm,hd,fun k Y X=>by rw [show k=m+1-1 by omega]⟩) fun r Z=>?_);obtain ⟨W,D⟩:=Z;split
 ·exact zS D.turn.1 (by have:=D.q1;omega) D.mn (by rw [D.turn.2];exact D.dn)
 ·exact zS D.pm (by have:=D.q1;omega) D.mn D.dn
def ze {p:Array Nat} (hp:Pm n p) (hn:1<=n):ok (asks O x) n (kas_count n p) fun r=>1<=r.1/\r.1<=n/\Pm n r.2/\Up O (ky x r.2) r.1:=by
 refine qk (jQ (uR hp (n-1) 1 (PJ _) (by omega) fun i j U X=>by omega) fun m S=>?_);obtain ⟨Z,Q,Y,R⟩:=S;split
 ·rename_i e
  rw [beq_iff_eq] at e;exact ⟨Z,by omega,hp,Y⟩
 ·rename_i e
  have P:m≠n:=fun z=>e (by rw [z];exact Đ n);have hs:=R (by omega);split
  ·refine ⟨hp.lt (by omega),hp.lt (by omega),?_⟩
   show ok _ _ (if O.lt (ky x p 0) (ky x p (m-1))=true then _ else _) _
   cases T:O.lt (ky x p 0) (ky x p (m-1)) with
   |true =>
    rw [ã rfl];exact ⟨Z,by omega,hp,Y⟩
   |false =>
    rw [ë Î];have W:∀k,0<=k->k<m->ky x p k=ky x p (m-1):=fun k _ V=>by
     have a1:O.le (ky x p k) (ky x p (m-1)):=by
      by_cases e:k=m-1
      ·rw [e];exact Ord.le_refl _
      ·exact Y k (m-1) (by omega) (by omega)
     have a2:O.le (ky x p (m-1)) (ky x p k):=by
      by_cases e:k=0
      ·rw [e];exact T
      ·exact Ord.vt T (Y 0 k (by omega) V)
     exact Ord.Kt a1 a2
    have V:=zR (x:=x) (p:=p) (i:=0) (j:=m) (by rw [hp.1];omega) W;refine yv (hp.rev 0 m) Z (by omega) ?_;rw [V];refine Dn.more (fun i j U X=>?_) Z (Ord.le_of_lt hs);rw [W i (by omega) (by omega),W j (by omega) X];exact Ord.le_refl _
  ·refine yv hp Z (by omega) (Dn.more (fun i j U X=>by omega) Z (Ord.le_of_lt hs))
end
section
variable {α:Type} {O:Ord α} {x:Nat->α} {prog:Ó} {w:î} {A:Ù} {E:Â->Á->Prop} {s:Á}
def xc (us:List Â) (h:us.length<2):(us.toArray.zip us.toArray).map (·.2)=((List.toArray (ľ us.length)).toList.map fun i=>us.getD i Value.none).toArray:=by
 rcases us with _ | ⟨u,_ | ⟨v,r⟩⟩
 ·exact Array.toList_inj.mp (by simp)
 ·exact Array.toList_inj.mp (by simp)
 ·(simp at h;omega)
end
open HT
section
variable {prog:Ó} {w:î} {A:Ù} {E:Â->Á->Prop} {s:Á}
inductive ki (h:Ă):List Â->List (List Int)->Prop where
 |nil:ki h [] []
 |cons {a:Ì} {ao:Array Â} {ns:List Int} {us:List Â} {hZ:List (List Int)}:IsTup h a ao->IntsAre ao.toList ns->ki h us hZ->ki h (.ref a::us) (ns::hZ)
def ki.keep (k:∀c o,h.get? c=some o->h'.get? c=some o) (t:ki h us hZ):ki h' us hZ:=by
 induction t with
 |nil=>exact .nil
 |cons a b _ ih =>
  obtain ⟨o,Z,r⟩:=a;exact .cons ⟨o,k _ _ Z,r⟩ b ih
theorem ki.at (t:ki h us hZ):∀i,i<us.length->∃a ao,us.getD i Value.none=.ref a/\IsTup h a ao/\IntsAre ao.toList (hZ.getD i []):=by
 induction t with
 |nil=>intro i hi;simp at hi
 |cons a b _ ih =>
  intro i hi
  cases i with
  |zero=>exact ⟨_,_,rfl,a,b⟩
  |succ i =>
   obtain ⟨c,ao,e,r⟩:=ih i (by simpa using hi);exact ⟨c,ao,by simpa using e,r⟩
inductive pE:List (Option Â)->List (List Int)->Prop where
 |nil:pE [] []
 |au {fs:List (Option Â)} {hZ:List (List Int)}:pE fs hZ->pE (none::fs) ([]::hZ)
 |one {fs:List (Option Â)} {hZ:List (List Int)} {n:Int} {t:Tok} {r:List Int}:pE fs hZ->pE (some (.int n t)::fs) ((n::r)::hZ)
noncomputable def ins {α:Type} (O:Ord α) (a:α):List α->List α
 | []=>[a]
 |b::r=>if O.lt b a=true then b::ins O a r else a::b::r
end
section
variable {α:Type} {O:Ord α}
end
end ST
namespace DI
open PySem L2
section
variable {X:Cx} {Ξ:Wd->aP->Prop} {a e tg:ÿ} {p pos:Pos} {f:PB D} {fa:PB (List D)}
end
end DI
namespace L2
open PySem PySem.Spec PyProof.Rows
structure Ax (sc:Ń) (cl eG:List (Str×Ì)) (C:Nat) (h:Ă):Prop where
 old:∀n c,eG.lookup n=some c->(C<c/\(n,NameKind.cell)∈sc.names/\∃v,h.IsCell c v)\/cl.lookup n=some c
 own:∀n,sc.names.lookup n=some .cell\/(cl.lookup n).isSome=true->∃c,eG.lookup n=some c
 inj:(∀x y c,cl.lookup x=some c->cl.lookup y=some c->x=y)->(∀x c,cl.lookup x=some c->c<C)->∀x y c,eG.lookup x=some c->eG.lookup y=some c->x=y
theorem tG:∀(names:List (Str×Į)) (n:Nat) (acc:List (Str×Ì)),(Ň n names acc).lookup x=some c->((x,NameKind.cell)∈names/\n<=c)\/acc.lookup x=some c
 | [],n,acc,h=>.inr h
 |(y,k)::r,n,acc,h=>by
  unfold Ň at h;split at h
  ·rename_i Z
   have Z:k=.cell:=by simpa using Z
   subst Z
   rcases tG r (n+1) _ h with ⟨h1,Y⟩|h1
   ·exact .inl ⟨Ð _ h1,by omega⟩
   ·rw [ø] at h1
    split at h1
    ·rename_i e
     have e:x=y:=by simpa using e
     subst e;cases h1;exact .inl ⟨ä,PJ _⟩
    ·exact .inr h1
  ·rcases tG r n acc h with ⟨h1,Y⟩|h1
   ·exact .inl ⟨Ð _ h1,Y⟩
   ·exact .inr h1
theorem tH:∀(names:List (Str×Į)) (n:Nat) (acc:List (Str×Ì)),(∀x y c,acc.lookup x=some c->acc.lookup y=some c->x=y)->(∀x c,acc.lookup x=some c->c<n)->∀x y c,(Ň n names acc).lookup x=some c->(Ň n names acc).lookup y=some c->x=y
 | [],n,acc,hi,X=>hi
 |(z,k)::r,n,acc,hi,X=>by
  unfold Ň;split
  ·refine tH r (n+1) _ (fun x y c Z Y=>?_) fun x c Z=>?_
   ·rw [ø] at Z Y
    split at Z
    ·rename_i e1
     split at Y
     ·rename_i e2
      exact (by simpa using e1:x=z).trans (by simpa using e2:y=z).symm
     ·cases Z
      exact absurd (X y _ Y) (ð _)
    ·split at Y
     ·cases Y
      exact absurd (X x _ Z) (ð _)
     ·exact hi x y c Z Y
   ·rw [ø] at Z
    split at Z
    ·cases Z;exact Nat.lt_succ_self _
    ·exact Nat.lt_succ_of_lt (X x c Z)
  ·exact tH r n acc hi X
theorem tV {lo:Nat}:∀(names:List (Str×Į)) (h:Ă) (acc:List (Str×Ì)),lo<=h.objs.size->(∀x c,acc.lookup x=some c->lo<=c->h.IsCell c none)->(Ň h.objs.size names acc).lookup x=some c->lo<=c->(pushCells h names).IsCell c none
 | [],h,acc,_,Z,e,Y=>Z x c e Y
 |(z,k)::r,h,acc,V,Z,e,Y=>by
  unfold Ň at e;unfold pushCells;split at e
  ·rename_i W
   rw [ã W];have U:(h.push { cls:=.type "cell",data:=.cell none }).objs.size=h.objs.size+1:=ö ..;refine tV (lo:=lo) r _ ((z,h.objs.size)::acc) (by omega) (fun y d X T=>?_) (by rw [U];exact e) Y;rw [ø] at X;split at X
   ·cases X
    exact ⟨_,Ï _ rfl,rfl⟩
   ·exact (Z y d X T).keeps fun b o q=>Ã _ q
  ·rename_i W
   rw [ë W];exact tV r h acc V Z e Y
def DO {E:Â->Á->Prop} {Q:Env->Á->Prop}
 (hQ:∀eG h3,((∀x c,cl.lookup x=some c->c<s.heap.objs.size)->Ax scope cl eG s.heap.objs.size h3)->h3.Ns s.heap.objs.size (fun _=>none)->(∀b o,s.heap.get? b=some o->h3.get? b=some o)->Q (newEnv scope s.heap.objs.size globals eG qual none .none (some env) bi) { s with heap:=h3 }) :
  Ö M A (newFunctionEnv scope globals cl [] qual none .none (some env) bi) Q E s:=by
 simp only [newFunctionEnv,Option.isSome_some,Ę];refine À (wpAny_alloc ?_)
 refine À (wpAny_layCells _ (fun name kind cells=>by cases Z:kind==NameKind.cell<;>simp [Z]) _ _ _ _ ?_)
 rw [show ({ s with heap:=s.heap.push { cls:=.type "dict",data:=.dict #[] } }:Á).heap.objs.size=s.heap.objs.size+1 from ö ..]
 simp only [List.forIn_nil];refine À (Ë (Ë ?_));have Y:(s.heap.push { cls:=.type "dict",data:=.dict #[] }).objs.size=s.heap.objs.size+1:=ö ..;refine hQ (Ň (s.heap.objs.size+1) scope.names cl) _ (fun X=>⟨fun n c e=>?_,fun n W=>?_,fun hi V=>tH _ _ _ hi fun x c e=>Nat.lt_succ_of_lt (V x c e)⟩) ((Heap.Ns.new s.heap (.type "dict")).keeps (pushCells_keeps _ _)) fun b o e=>pushCells_keeps _ _ b o (Ã _ e)
 ·rcases tG _ _ _ e with ⟨h1,U⟩|h1
  ·exact .inl ⟨by omega,h1,none,tV (lo:=s.heap.objs.size+1) scope.names _ cl (by omega) (fun x d q T=>absurd (X x d q) (ζ.mpr (Nat.le_of_succ_le T))) (by rw [Y];exact e) U⟩
  ·exact .inr h1
 ·exact ŕ.mp (ĵ scope.names _ cl W)
abbrev dO (X:Cx) (N:List Str) (sc:Ń) (cl:List (Str×Ì)) (C:Ì) (s:Á) (H:Hp) (ex:List Ì) (pn:List (Ì×Obj)):Cx:={ MI X N sc cl C s H ex pn with fn:=fun x=>sc.names.lookup x==some .cell }
structure mI (X:Cx) (sc:Ń) (N:List Str) (nt:Nat) (cap:List Nat):Prop where
 kind:sc.kind=.function
 names:∀x∈sc.names,x.2=.local->sc.names.lookup x.1=some .local
 cells:∀x∈sc.names,x.2=.cell->sc.names.lookup x.1=some .cell
 frees:∀x∈sc.names,x.2=.free->sc.names.lookup x.1=some .free/\(X.env.scope.names.lookup x.1=some .cell\/X.env.scope.names.lookup x.1=some .free)
 len:N.length=nt+cap.length
 BU:∀(k:Nat) j,cap[k]?=some j->∃x,X.N[j]?=some x/\N[nt+k]?=some x/\(x,Ü)∈sc.names
section
variable {X:Cx} {sc:Ń} {N:List Str} {nt:Nat} {cap:List Nat} {cl eG:List (Str×Ì)} {s:Á} {h1:Ă} {H:Hp} {σ:St} {π:List (Ì×Obj)} {fp:List Ì} {C:Ì} {t':Nat}
def Inv.Jg (I:Inv X π σ H s) (S:mI X sc N nt cap) (cQ:∀n c,cl.lookup n=some c↔((n,Ü)∈sc.names/\X.env.cells.lookup n=some c)) (iI:Ax sc cl eG C h1) (hf:∀b∈fp,fM X π H b) (gE:∀b∈fp,b<s.heap.objs.size)
  (hk:∀b o,s.heap.get? b=some o->h1.get? b=some o) (hC:s.heap.objs.size<=C) (nD:∃m,h1.Ns C m):Inv (dO X N sc eG C s H fp (X.pn++π)) [] (nZ nt cap σ) H { s with heap:=h1,toks:=t' }:=by
 have O:∀b∈bp X.stack,b∈X.env.locals::X.fs:=I.kT;have J:∀x c,cl.lookup x=some c->c<s.heap.objs.size:=fun x c e=>by
  obtain ⟨v,o,V,_⟩:=I.cell x c ((cQ x c).mp e).2;exact É V
 have G:∀x,(relabel sc X.env).names.lookup x=some .cell\/(relabel sc X.env).names.lookup x=some .free->(x,Ü)∈sc.names\/sc.names.lookup x=some .cell:=fun x Z=>by
  rw [yj] at Z
  cases e:sc.names.lookup x with
  |none=>rw [e] at Z;rcases Z with z|z<;>cases z
  |some k =>
   have hm:(x,k)∈sc.names:=by
    obtain ⟨l1,l2,e1,_⟩:=List.lookup_eq_some_iff.mp e;rw [e1];simp
   rw [e] at Z
   cases k with
   |free=>exact .inl hm
   |cell=>exact .inr rfl
   |_=>exfalso;revert Z;simp
 have F:∀x,(x,Ü)∈sc.names->∃c,X.env.cells.lookup x=some c:=fun x Z=>I.ok.has x (S.frees _ Z rfl).2;have M:∀x c,(x,Ü)∈sc.names->X.env.cells.lookup x=some c->eG.lookup x=some c:=fun x c Z R=>by
  have e:=(cQ x c).mpr ⟨Z,R⟩;obtain ⟨d,hd⟩:=iI.own x (.inr (by rw [e];rfl))
  rcases iI.old x d hd with ⟨_,q,_⟩|q
  ·have T:=S.cells _ q rfl
   have W:=(S.frees _ Z rfl).1;dsimp only at T W;rw [T] at W;cases W
  ·rw [e] at q
   cases q;exact hd
 have ok:Cx.Ok (dO X N sc eG C s H fp (X.pn++π)):=by
  refine ⟨I.ok.mod,?_,I.ok.glob,I.ok.blt,hC,?_,?_,?_,I.ok.hd,I.ok.frames,.inl rfl,?_,I.bs,ç I.ok.gp I.sz,?_,?_,I.stack,I.nU⟩
  ·exact S.kind
  ·exact iI.inj (fun x y c Z E=>I.ok.inj x y c ((cQ x c).mp Z).2 ((cQ y c).mp E).2) fun x c e=>Æ (J x c e) hC
  ·intro x Z
   rcases G x Z with hm|hm
   ·obtain ⟨c,e⟩:=F x hm
    exact ⟨c,M x c hm e⟩
   ·exact iI.own x (.inl hm)
  ·intro x c Z e
   rcases iI.old x c e with ⟨q,_,_⟩|q
   ·exact ç hC (Nat.le_of_lt q)
   ·have W:=(S.frees _ ((cQ x c).mp q).1 rfl).1
    have T:sc.names.lookup x=some .cell:=by simpa using Z
    dsimp only at W;rw [T] at W;cases W
  ·intro b Y
   refine ⟨â (Æ (gE b Y) hC),fun x c e=>?_⟩
   rcases iI.old x c e with ⟨q,_,_⟩|q
   ·exact ĺ (Æ (gE b Y) (ç hC (Nat.le_of_lt q)))
   ·exact (hf b Y).2.2.2.2.1 x c ((cQ x c).mp q).2
  ·intro b o e Y
   rcases (hf b Y).2.2.2.1 with z|z
   ·exact I.ok.lF b o e z
   ·exact absurd (Æ (É e) (ç I.ok.gp z)) (ð _)
  ·intro b Y z
   rcases á.mp (O b z) with e|e
   ·exact (hf b Y).2.1 e
   ·exact (hf b Y).2.2.1 e
 obtain ⟨m,hm⟩:=nD;obtain ⟨mX,Pd,D⟩:=I.loc;refine ⟨ok,rfl,I.bare,Un.kept hk,⟨m,hm,fun i x v e1 e2 e3=>?_⟩,fun x c e=>?_,I.aA.fresh hC,fun x c e=>?_,fun p B=>?_,I.aA.kept hk,?_⟩
 ·
  have hi:nt<=i:=by
   apply ź;intro L;have:(nZ nt cap σ)[i]?=some none:=by
    unfold nZ;rw [Ñ (by simpa using L),ě,ã L]
   rw [this] at e2;cases e2
  have U:(cap.map fun j=>(σ[j]?).getD none)[i-nt]?=some (some v):=by
   have e:=e2;unfold nZ at e;rw [à (by simpa using hi)] at e;simpa using e
  rw [û] at U
  cases Q:cap[i-nt]? with
  |none=>rw [Q] at U;cases U
  |some j =>
   rw [Q] at U;have ev:(σ[j]?).getD none=some v:=PK U;have A:σ[j]?=some (some v):=by
    cases q:σ[j]? with
    |none=>rw [q] at ev;cases ev
    |some z=>rw [q] at ev;exact Ĩ some ev
   obtain ⟨y,f1,f2,K⟩:=S.BU _ _ Q;rw [Nat.add_sub_cancel' hi] at f2;have w:y=x:=PK (f2.symm.trans e1);subst w;obtain ⟨g1,g2⟩:=S.frees _ K rfl;have t:ny X.env.scope y:=.inr g2;obtain ⟨u,r,l⟩:=D j y v f1 A t;refine ⟨u,r,.inr ⟨?_,?_⟩⟩
   ·show (relabel sc X.env).names.lookup y=some .cell\/(relabel sc X.env).names.lookup y=some .free
    rw [yj,g1];simp only [ļ];split
    ·exact .inl rfl
    ·exact .inr rfl
   ·rcases l with ⟨k,_⟩ | ⟨_,c,R,h⟩
    ·exfalso
     have g:X.env.scope.names.lookup y=some .local:=k;dsimp only at g2;rw [g] at g2
     rcases g2 with z|z<;>cases z
    ·obtain ⟨P,V,hd⟩:=h
     exact ⟨c,M y c K R,P,hk _ _ V,hd⟩
 ·rcases iI.old x c e with ⟨_,_,q⟩|q
  ·exact q
  ·obtain ⟨v,P,V,hd⟩:=I.cell x c ((cQ x c).mp q).2
   exact ⟨v,P,hk _ _ V,hd⟩
 ·rcases iI.old x c e with ⟨q,_,_⟩|q
  ·exact I.aA.fresh (by omega)
  ·exact I.gO x c ((cQ x c).mp q).2
 ·have f:p∈X.pn++π:=by simpa using B
  obtain ⟨e,n,ne,a,d⟩:=I.pin p f;refine ⟨hk _ _ e,n,â (Æ (É e) hC),fun z=>?_,d⟩
  rcases á.mp (O p.1 z) with q|q
  ·exact ne q
  ·exact a q
 ·unfold nZ
  rw [č,ų,ß];exact S.len.symm
end
structure Bv (P:Ó) (w:î) (E el tg src:ÿ) (tests:List ÿ) (new:Sem Â) (ap:String) (mk:Ì->List V->HO) (iB:List V->Prop) where
 o0:Obj
 live:o0.isFreed=false
 Ac:Ì->List V->Ă->Prop
 clauses:clausesOf E=[⟨tg,src,tests,0⟩]
 turns:∀{A:Ù} {R:Result->Á->Prop} {s:Á} {iy av:Â} {ce:Env} (J:Nat->Á->Prop)
  (turn:∀n s,J n s->Ö (Ø P w) A (pyNext iy) (fun r s1=>match r with
   |none=>R (.ok .next) s1
   |some v=>Ö (Ø P w) A (Ś tg iy v) (fun _ s2=>Ö (Ø P w) A (assign tg ce v) (fun _ s3 =>
     Ö (Ø P w) A (forIn tests true fun c r=>if r=true then do let ok <- isTrue c ce (Ĕ c ce);pure (Ď ok) else pure (Ď r)) (fun ok s4 =>
      if ok=true then Ö (Ø P w) A (Ĕ el ce) (fun y s5=>Ö (Ø P w) A (call (.builtin ap) [av,y]) (fun _ s6=>∃m,m<n/\J m s6) (fun _ _=>False) s5) (fun _ _=>False) s4
      else ∃m,m<n/\J m s4) (fun _ _=>False) s3) (fun _ _=>False) s2) (fun _ _=>False) s1) (fun _ _=>False) s)
  (n:Nat) (_:J n s),Ū (Ø P w) A (.compLoop E 0 iy av ce) R s
 new:∀{A:Ù} {X:Â->Á->Prop} {s:Á} {Q:Â->Á->Prop},Q (.ref s.heap.objs.size) { s with heap:=s.heap.push o0 }->Ö (Ø P w) A new Q X s
 start:∀{A:Ù} {R:Result->Á->Prop} {s:Á} {it acc:Â} {env:Env},Ū (Ø P w) A (.compLoop E 0 it acc env) R s->Ö (Ø P w) A (pyIter it) (fun Nf s'=>Ū (Ø P w) A (.compLoop E 0 Nf acc env) R s') (notedBy (Ø P w) A env fun x s'=>R (.error x) s') s->Ū (Ø P w) A (.compStart E 0 it acc env) R s
 init:∀{D:Ì} {h:Ă},h.get? D=some o0->Ac D [] h
 obj:∀{D:Ì} {acc:List V} {h:Ă},Ac D acc h->∃o,h.get? D=some o/\∀v,o.data≠.cell v
 cG:∀{D:Ì} {acc:List V} {h h':Ă},Ac D acc h->(∀o,h.get? D=some o->h'.get? D=some o)->Ac D acc h'
 Ay:∀{D:Ì} {acc:List V} {h:Ă} {H:Hp},iB acc->Ac D acc h->cV P w (upd H D (mk D acc)) h D (mk D acc)
 add:∀{A:Ù} {s:Á} {D:Ì} {acc:List V} {v:V} {y:Â} {Q:Â->Á->Prop},Ac D acc s.heap->RelV v y->iB acc->iB (acc++[v])->(∀h' tk,Ĭ D s.heap h'->Ac D (acc++[v]) h'->Q .none { s with heap:=h',toks:=tk })->Ö (Ø P w) A (call (.builtin ap) [.ref D,y]) Q (fun _ _=>False) s
section
variable {X:Cx}
def EE {E el tg src:ÿ} {tests:List ÿ} {sc:Ń} {N:List Str} {nt:Nat} {cap:List Nat} {wi:TI} {g:TG} {tf:TT} {te:TE} {p1:Pos} {use:Option (Â->Sem Unit)} {R:Â->Á->Prop} {π:List (Ì×Obj)} {s:Á} {σ:St} {H:Hp} {Q:VK} {new:Sem Â} {ap:String} {mk:Ì->List V->HO} {iB:List V->Prop} (B:Bv X.prog X.w E el tg src tests new ap mk iB) (hc:X.calm=true) (S:mI X sc N nt cap) (jG:pq g nt) (hi:PI X tg src wi)
  (hY:∀(cl:List (Str×Ì)) (C:Ì) (s:Á) (H:Hp) (ex:List Ì) (pn:List (Ì×Obj)),PG (dO X N sc cl C s H ex pn) tg g/\PF (dO X N sc cl C s H ex pn) tests tf/\PE (dO X N sc cl C s H ex pn) el te)
  (hs:∀x,Ğ src X.env x=pure x) (I:Inv X π σ H s) (h:wi σ H fun J H1=>CG mk iB J nt (ll cap σ) g tf te H1 Q)
  (wa:∀(s':Á) (H1:Hp) (D C:Ì) (m:Str->Option Â),(∀h',Ĭ C s'.heap h'->Inv X π σ H1 { s' with heap:=h' })->s'.heap.Ns C m->H1 C=none->C≠X.env.locals->C∉X.fs->X.bV.heap.objs.size<=C->(∀x c,X.env.cells.lookup x=some c->c≠C)->(∀p∈X.pn++π,p.1≠C)->Q (.ref D) H1->compPost (Ø X.prog X.w) X.A X.xe use R (.ref D) C (.ok .next) s') :
  Ö (Ø X.prog X.w) X.A (comprehension E sc X.env p1 new false (Ĕ src X.env) use) R X.xe s:=by
 obtain ⟨cl,Kv,cQ⟩:=IK (env:=X.env) (sc:=sc) fun n hn=>I.ok.has n (S.frees _ hn rfl).2;refine wpAny_comprehension_free (use:=use) B.clauses hs Kv S.kind S.names (aM (hi π s σ H _ I h) fun xv s1 h1=>aM h1 fun iy k h2=>?_);obtain ⟨it,t,tn,J,H2,e,M,T,o8,f2,W,⟨m0,w0⟩,turn⟩:=h2;subst e;refine B.new (DO fun eG h3 j oR nE=>?_);dsimp only at j oR nE |-;generalize hD:k.heap.objs.size=D at j oR nE |-;generalize hG:k.heap.push B.o0=G at j oR nE |-;generalize Ng:G.objs.size=C at j oR nE |-;have hC:C=D+1:=by rw [<- Ng,<- hG,ö,hD]
 have xn:D≠C:=by omega
 have d:k.heap.objs.size<=D:=Nat.le_of_eq hD;have l:k.heap.objs.size<=C:=by omega
 have old:∀b o,k.heap.get? b=some o->h3.get? b=some o:=fun b o e=>nE b o (hG ▸ Ã _ e);have L6:B.Ac D [] h3:=B.init (nE _ _ (hG ▸ hD ▸ Ï _ B.live));have gE:∀b∈t,b<k.heap.objs.size:=fun b P=>by
  obtain ⟨o,e,_⟩:=T.obj _ _ o8 b P;exact É e
 have j:=j fun x c e=>by
  obtain ⟨v,o,ho,_⟩:=M.cell x c ((cQ x c).mp e).2;exact Æ (É ho) l
 have IB:=M.Jg (t':=k.toks) S cQ j f2 gE old l ⟨_,oR⟩;have Nh:D∉bp X.stack:=fun z=>by
  rcases á.mp (M.kT D z) with e|e
  ·exact absurd (Æ M.lt d) (by rw [e];exact ð _)
  ·exact M.vP d e
 have CU:D∉t:=fun z=>absurd (Æ (gE D z) d) (ð _);have Jh:∀x c,eG.lookup x=some c->c≠D:=fun x c e z=>by
  rcases j.old x c e with ⟨q,_,_⟩|e
  ·rw [z] at q
   exact absurd q (by rw [hC];exact ζ.mpr (Nat.le_succ D))
  ·obtain ⟨v,o,ho,_⟩:=M.cell x c ((cQ x c).mp e).2
   exact absurd (Æ (É ho) (by rw [z];exact d)) (ð _)
 have Kw:∀p∈X.pn++π,p.1≠D:=fun p L z=>absurd (Æ (É (M.pin p L).1) (by rw [z];exact d)) (ð _);generalize O:dO X N sc eG C k H2 t (X.pn++π)=Y at IB;have xo:∀{U:Hp} {pl:List (Ì×Obj)},(∀b∈t,U b=none)->(∀p∈pl,p.1∉t)->∀b∈t,fM Y pl U b:=fun {U pl} hn L b P=>by
  subst O;obtain ⟨_,f1,Ni,f3,f4,f5⟩:=f2 b P;refine ⟨hn b P,â (Æ (gE b P) l),fun z=>?_,.inl P,fun x c e=>(j.old x c e).elim (fun q z=>ĺ (Æ (gE b P) (ç l (Nat.le_of_lt q.1))) z) fun e=>f4 x c ((cQ x c).mp e).2,fun p Nj=>?_⟩
  ·rcases á.mp (M.kT b z) with e|e
   ·exact f1 e
   ·exact Ni e
  ·rcases ĩ.mp Nj with z|z
   ·exact f5 p z
   ·exact fun e=>L p z (e ▸ P)
 have Nk:PG Y tg g:=by subst O;exact (hY _ _ _ _ _ _).1
 have Nl:PF Y tests tf:=by subst O;exact (hY _ _ _ _ _ _).2.1
 have Nm:PE Y el te:=by subst O;exact (hY _ _ _ _ _ _).2.2
 have eP:Y.prog=X.prog:=by subst O;rfl
 have eW:Y.w=X.w:=by subst O;rfl
 have eA:Y.A=X.A:=by subst O;rfl
 have eK:Y.K=X.K:=by subst O;rfl
 have eE:Y.env=compEnvC sc eG C X.env:=by subst O;rfl
 have eX:Y.xe=fun _ _=>False:=by subst O;rfl
 have eC:Y.calm=true:=by subst O;exact hc
 have eS:Y.bV.heap.objs.size<=D:=by subst O;exact d
 have eF:D∉Y.fs:=by subst O;exact Nh
 have eL:D≠Y.env.locals:=by subst O;exact xn
 have Nn:∀x c,Y.env.cells.lookup x=some c->c≠D:=by subst O;exact Jh
 have eN:∀p∈Y.pn,p.1≠D:=by subst O;exact Kw
 have fin:∀(s':Á) (a:St) (U:Hp) (Z:List V),Inv Y [] a U s'->B.Ac D Z s'.heap->U D=none->iB Z->(∀D,U D=none->Q (.ref D) (upd U D (mk D Z))) ->
   compPost (Ø X.prog X.w) X.A X.xe use R (.ref D) C (.ok .next) s':=by
  intro s' a U Z F pl hn hz q;subst O;obtain ⟨m,hm,_⟩:=id F.loc;refine wa s' (upd U D (mk D Z)) D C m (fun h' sb=>?_) hm ?_ (fun z=>absurd (Æ M.lt l) (by rw [z];exact ð _)) (M.vP l) (ç M.sz l) (fun x c e z=>?_) (fun p L z=>absurd (Æ (É (M.pin p L).1) (by rw [z];exact l)) (ð _)) (q D hn)
  ·have L7:bL X.prog X.w U h':=F.aA.but F.free sb
   have u:=(F.base.but l sb).adopt (o:=mk D Z) d hn
   refine M.vg (s':={ s' with heap:=h' }) (ch:=t) F.os u (L7.adopt hn (B.Ay hz (B.cG pl fun o e=>(sb.2 D xn).trans e))) F.bare (fun b P=>?_)
   obtain ⟨_,f1,_,f3,f4,f5⟩:=f2 b P;exact ⟨f3,f1,f4,f5⟩
  ·rw [aG (ŧ xn)]
   exact F.free
  ·obtain ⟨v,o,ff,_⟩:=M.cell x c e
   exact absurd (Æ (É ff) (by rw [z];exact l)) (ð _)
 have loop:Ū (Ø X.prog X.w) X.A (.compLoop E 0 (.ref it) (.ref D) (compEnvC sc eG C X.env)) (compPost (Ø X.prog X.w) X.A X.xe use R (.ref D) C)
   { k with heap:=h3 }:=by
  refine B.turns (fun n s'=>∃i Z o U,Inv Y [] (o++ll cap σ) U s'/\o.length=nt/\tn i s'.heap/\(∀b∈t,U b=none)/\B.Ac D Z s'.heap/\U D=none/\W i n Z U) ?_ m0
   ⟨0,[],Ê nt none,H2,IB,by simp,T.keep _ _ _ o8 fun b _ o e=>old b o e,fun b P=>(f2 b P).1,L6,M.aA.fresh d,w0⟩
  rintro n s3 ⟨i,Z,o3,H3,I3,CV,o9,pb,CY,Np,w3⟩;generalize Nq:o3++ll cap σ=a at I3;obtain ⟨f,ho,Kx⟩:=B.obj CY;have CZ:Inv Y [(D,f)] a H3 s3:=I3.mq fun p L=>by
   have e:p=(D,f):=by simpa using L
   subst e;exact ⟨ho,Np,eL,eF,Kx⟩
  have xp:∀p∈[(D,f)],p.1∉t:=fun p L=>by
   have e:p=(D,f):=by simpa using L
   subst e;exact CU
  have xq:∀{pl:List (Ì×Obj)} {pG:St} {U:Hp} {s':Á},Inv Y ([(D,f)]++pl) pG U s'->B.Ac D Z s'.heap/\U D=none:=fun {pl pG U s'} F=>by
   have q:=F.pin (D,f) (è _ (ħ _ (by simp)));exact ⟨B.cG CY fun o e=>by rw [ho] at e;cases e;exact q.1,q.2.1⟩
  rcases turn i n Z H3 w3 with ⟨stop,hz,q⟩ | ⟨go,hz,N',hN,step⟩
  ·have hd:=T.done Y eP eW eK eC i [(D,f)] s3 a H3 (fun _ _=>False) CZ (xo pb xp) o9 stop
   rw [eA] at hd;refine aM hd fun r s4 h4=>?_;obtain ⟨hr,I4⟩:=h4;subst hr;obtain ⟨Nr,n4⟩:=xq (pl:=[]) (by simpa using I4);exact fin s4 a H3 Z (Inv.pW (π:=[]) I4) Nr n4 hz q
  ·have hd:=T.item Y eP eW eK eC i [(D,f)] s3 a H3 (fun _ _=>False) CZ (xo pb xp) o9 go
   rw [eA] at hd;refine aM hd fun r s4 h4=>?_;obtain ⟨u,hr,h4⟩:=h4;subst hr;refine aM h4 fun _ s5 h5=>?_;obtain ⟨x,H5,I5,r5,y5,jD,wO⟩:=h5;have wQ:=I5.pinned (xo wO xp) (T.obj _ _ jD);have q5:=Nk _ s5 a H5 x u _ wQ r5 (Nq ▸ jG x o3 _ H5 _ CV (step o3 x H5 CV y5));rw [eP,eW,eA,eE,eX] at q5;refine aM q5 fun _ s6 h6=>?_;obtain ⟨sA,H6,I6,⟨o6,C0,B9⟩,q6⟩:=h6;have q7:=Nl _ s6 sA H6 _ I6 q6;rw [eP,eW,eA,eE,eX] at q7;refine aM q7 fun b s7 h7=>?_;obtain ⟨H7,I7,q7⟩:=h7;have Ca:∀{pG:St} {U:Hp} {s':Á},Inv Y ([(D,f)]++nY t s5.heap) pG U s'->tn (i+1) s'.heap/\∀b∈t,U b=none:=fun {pG U s'} F=>by
    refine ⟨T.keep _ _ _ jD fun b P o e=>(F.pin (b,o) (è _ (è _ (pP P e)))).1,fun b P=>?_⟩;obtain ⟨o,e,_⟩:=T.obj _ _ jD b P;exact (F.pin (b,o) (è _ (è _ (pP P e)))).2.1
   cases b with
   |false =>
    rw [ë Î] at q7 |-;obtain ⟨m',hm,w7⟩:=hN _ _ q7;obtain ⟨Nt,n7⟩:=xq I7;obtain ⟨t7,f7⟩:=Ca I7;exact ⟨m',hm,i+1,Z,o6,H7,B9 ▸ I7.mq (fun p L=>by simp at L),C0,t7,f7,Nt,n7,w7⟩
   |true =>
    rw [ã rfl] at q7 |-;have q8:=Nm _ s7 sA H7 _ I7 q7;rw [eP,eW,eA,eE,eX] at q8;refine aM q8 fun y s8 h8=>?_;obtain ⟨v,H8,I8,r8,q9⟩:=h8;obtain ⟨m',hm,w8⟩:=hN _ _ q9;obtain ⟨Nu,n8⟩:=xq I8;obtain ⟨t8,f8⟩:=Ca I8;have hW:iB (Z++[v]):=by
     rcases turn (i+1) m' (Z++[v]) H8 w8 with q|q
     ·exact q.2.1
     ·exact q.2.1
    refine B.add Nu r8 hz hW fun h9 Nv C3 Nw=>?_;have Nx:Inv Y [] sA H8 s8:=I8.mq (fun p L=>by simp at L)
    have I9:Inv Y [] sA H8 { s8 with heap:=h9,toks:=Nv }:=Nx.turned (it:=D) (fun b o P e=>(C3.2 b P).trans e) n8 eL (.inr eS) Nn (fun p L=>eN p (by simpa using L))
    exact ⟨m',hm,i+1,Z++[v],o6,H8,B9 ▸ I9,C0,T.keep _ _ _ t8 fun b P o e=>(C3.2 b (fun z=>CU (z ▸ P))).trans e,f8,Nw,n8,w8⟩
 exact B.start loop (T.self _ _ _ _ _ (T.keep _ _ _ o8 fun b _ o e=>old b o e) loop)
def L8 {P:Ó} {w:î} {el tg src:ÿ} {tests:List ÿ} {sc:Ń} {ps:Pos}:Bv P w (.ListComp el [⟨tg,src,tests,0⟩] sc ps) el tg src tests (newList []) "list.append" (fun _ acc=>.lst acc) (fun acc=>acc.length<=Ô) where
 o0:={ cls:=.type "list",dict:=none,data:=.seq ([]:List Â).toArray }
 live:=rfl
 Ac:=fun D acc h=>∃Z,h.PlainList D Z/\Vals acc Z.toList
 clauses:=rfl
 turns:=Ez
 new:=fun h=>ŀ h
 start:=codeAny_compStart_list
 init:=fun e=>⟨#[],⟨_,e⟩,.nil⟩
 obj:=fun ⟨_,⟨_,e⟩,_⟩=>⟨_,e,fun _ z=>by cases z⟩
 cG:=fun ⟨Z,⟨n,e⟩,r⟩ k=>⟨Z,⟨n,k _ e⟩,r⟩
 Ay:=fun Y ⟨Z,⟨n,e⟩,r⟩=>⟨Y,Z.toList,n,r,by simpa using e⟩
 add:=fun {A s D acc v y Q} ⟨Z,X,r⟩ W Y _ q=>wpAny_list_append_plain (hsz:=by have e:=r.length;simp only [ő] at e;omega) X fun V U T=>q V s.toks T ⟨Z.push y,U,by rw [Array.toList_push];exact Vals.append r (.cons W .nil)⟩
def zf (hc:X.calm=true) (S:mI X sc N nt cap) (jG:pq g nt) (hi:PI X tg src wi)
 (hY:∀(cl:List (Str×Ì)) (C:Ì) (s:Á) (H:Hp) (ex:List Ì) (pn:List (Ì×Obj)),PG (dO X N sc cl C s H ex pn) tg g/\PF (dO X N sc cl C s H ex pn) tests tf/\PE (dO X N sc cl C s H ex pn) el te)
 (hs:∀x,Ğ src X.env x=pure x:=by intro _;rfl):PE X (.ListComp el [⟨tg,src,tests,0⟩] sc ps) (mP wi nt cap g tf te):=by
 intro T s σ H Q I h;rw [eval_ListComp];exact EE L8 (use:=none) hc S jG hi hY hs I h fun R Z D C m Y W _ _ _ _ _ _ q=>⟨m,W,fun V U=>⟨.ref D,Z,Y V U,rfl,q⟩⟩
end
noncomputable def uS (sc:Ń) (on:List (Str×Į)) (oN N:List Str) (nt:Nat) (cap:List Nat):Bool :=
 decide (sc.kind=.function)&&sc.names.all (fun x=>decide (x.2=.local->sc.names.lookup x.1=some .local))&&sc.names.all (fun x=>decide (x.2=.cell->sc.names.lookup x.1=some .cell)) &&
 sc.names.all (fun x=>decide (x.2=.free->sc.names.lookup x.1=some .free/\(on.lookup x.1=some .cell\/on.lookup x.1=some .free)))&&decide (N.length=nt+cap.length) &&
 (ľ cap.length).all (fun k=>match cap[k]? with
  |some j=>match oN[j]? with
   |some x=>decide (N[nt+k]?=some x)&&decide ((x,Ü)∈sc.names)
   |none=>false
  |none=>true)
def ot (h:uS sc X.env.scope.names X.N N nt cap=true):mI X sc N nt cap:=by
 unfold uS at h;simp only [Å,đ,Ú] at h;obtain ⟨⟨⟨⟨⟨Z,Y⟩,W⟩,V⟩,U⟩,T⟩:=h;refine ⟨Z,Y,W,fun x S e=>V x S e,U,fun k j e=>?_⟩;have R:k<cap.length:=(È.mp e).1;have:=T k (Ņ.mpr R);rw [e] at this;dsimp only at this
 cases ex:X.N[j]? with
 |none=>rw [ex] at this;cases this
 |some x =>
  rw [ex] at this;simp only [Å,Ú] at this;exact ⟨x,rfl,this.1,this.2⟩
end L2
namespace DI
open PySem L2
section
variable {X:Cx} {Ξ:Wd->aP->Prop} {e a b c tg el src:ÿ} {es rest tests:List ÿ} {pos:Pos} {f g h:PB D} {fa:PB (List D)} {ft gt:PB Bool}
def Hx (hc:X.calm=true) (S:mI X sc N nt cap) (T:Tg X.K g0 gd nt) (hi:PI X tg src (iG X.K Ξ it))
 (hY:∀(cl:List (Str×Ì)) (C:Ì) (s:Á) (H:Hp) (ex:List Ì) (pn:List (Ì×Obj)),PG (dO X N sc cl C s H ex pn) tg g0/\PF (dO X N sc cl C s H ex pn) tests (tT X.K cu ft)/\PE (dO X N sc cl C s H ex pn) el (tE X.K cu f))
 (hs:∀x,Ğ src X.env x=pure x:=by intro _;rfl):PE X (.ListComp el [⟨tg,src,tests,0⟩] sc ps) (tE X.K Ξ (gQ nt cap it gd ft f)) :=
 cb (zf hc S T.pA hi hY hs) fun σ H Q h=>yF T.imp (fun R Z i h=>Gi R Z i h) (Gf σ H Q h)
end
end DI
namespace L2
open PySem PySem.Spec PyProof.Rows
section
variable {X:Cx} {tg:ÿ}
end
end L2
namespace DI
open PySem L2
section
variable {X:Cx} {Ξ:Wd->aP->Prop} {a b c tg:ÿ} {pos:Pos} {fa:PB (List D)}
end
end DI
namespace L2
open PySem PySem.Spec PyProof.Rows
section
variable {X:Cx}
end
end L2
namespace DI
open PySem L2
section
variable {X:Cx} {Ξ:Wd->aP->Prop} {a:ÿ} {p pos:Pos} {fa:PB (List D)}
end
section
variable {X:Cx} {Ξ:Wd->aP->Prop} {a:ÿ} {p pos:Pos} {f g:PB D} {fa:PB (List D)}
end
open HT PyProof.Rows
section
variable {X:Cx} {Ξ:Wd->aP->Prop}
end
end DI
namespace TK
open PySem PySem.W PyProof.Rows DI
mutual
noncomputable def kd:D->Bool
 | .int _=>true
 | .str x=>PyData.strOk x
 | .tup Z=>fT Z
 |_=>false
noncomputable def fT:List D->Bool
 | []=>true
 |k::Z=>kd k&&fT Z
end
mutual
def KA (h:Ă):D->Â->Prop
 | .int i,v=>∃t,v=.int i t
 | .str x,v=>∃t,v=.str x t
 | .tup Z,v=>∃a o ao n,v=.ref a/\h.get? a=some o/\o.cls=.type "tuple"/\o.data=.seq ao n/\cR h Z ao.toList
 |_,_=>False
def cR (h:Ă):List D->List Â->Prop
 | [],Z=>Z=[]
 |k::Y,Z=>∃v r,Z=v::r/\KA h k v/\cR h Y r
end
mutual
theorem n3:∀k:D,kd k=true->lay k=true
 | .int _,_=>rfl
 | .str _,h=>h
 | .tup Z,h=>by simp only [kd] at h;simp only [lay];exact pY Z h
 | .au,h=>by cases h
 | .bl _,h=>by cases h
 | .lst _,h=>by cases h
 | .br _,h=>by cases h
 | .ah _,h=>by cases h
 | .ty _,h=>by cases h
 | .bt _,h=>by cases h
 | .exc _ _,h=>by cases h
 | .bO _ _ _,h=>by cases h
theorem pY:∀ks:List D,fT ks=true->cW ks=true
 | [],_=>rfl
 |k::ks,h=>by
  simp only [fT,cW,Å] at h |-;exact ⟨n3 k h.1,pY ks h.2⟩
end
mutual
theorem Ji:∀x y:D,kd x=true->kd y=true->(beq x y=true↔x=y)
 | .int i,.int j,_,_=>by simp [beq]
 | .str i,.str j,_,_=>by simp [beq]
 | .tup Z,.tup Y,h,g=>by
  simp only [kd] at h g;simp only [beq,tW Z Y h g];exact ⟨fun e=>by rw [e],fun e=>by injection e⟩
 | .int _,.str _,_,_=>by simp [beq]
 | .int _,.tup _,_,_=>by simp [beq]
 | .str _,.int _,_,_=>by simp [beq]
 | .str _,.tup _,_,_=>by simp [beq]
 | .tup _,.int _,_,_=>by simp [beq]
 | .tup _,.str _,_,_=>by simp [beq]
 | .au,_,h,_=>by cases h
 | .bl _,_,h,_=>by cases h
 | .lst _,_,h,_=>by cases h
 | .br _,_,h,_=>by cases h
 | .ah _,_,h,_=>by cases h
 | .ty _,_,h,_=>by cases h
 | .bt _,_,h,_=>by cases h
 | .exc _ _,_,h,_=>by cases h
 | .bO _ _ _,_,h,_=>by cases h
 |_,.au,_,h=>by cases h
 |_,.bl _,_,h=>by cases h
 |_,.lst _,_,h=>by cases h
 |_,.br _,_,h=>by cases h
 |_,.ah _,_,h=>by cases h
 |_,.ty _,_,h=>by cases h
 |_,.bt _,_,h=>by cases h
 |_,.exc _ _,_,h=>by cases h
 |_,.bO _ _ _,_,h=>by cases h
theorem tW:∀xs ys:List D,fT xs=true->fT ys=true->(fO xs ys=true↔xs=ys)
 | [],[],_,_=>by simp [fO]
 | [],_::_,_,_=>by simp [fO]
 |_::_,[],_,_=>by simp [fO]
 |x::xs,y::ys,h,g=>by
  simp only [fT,Å] at h g;simp only [fO,Å,Ji x y h.1 g.1,tW xs ys h.2 g.2,ς]
end
mutual
theorem KA.reads:∀(k:D) (v:Â),KA h k v->∃as,Reads h v (py k) as
 | .int i,v,q=>by obtain ⟨t,rfl⟩:=q;exact ⟨_,.int i t⟩
 | .str x,v,q=>by obtain ⟨t,rfl⟩:=q;exact ⟨_,.str x t⟩
 | .tup Z,v,q=>by
  simp only [KA] at q;obtain ⟨a,o,ao,n,rfl,Y,X,W,r⟩:=q;obtain ⟨as,r⟩:=cR.reads Z _ r;exact ⟨as,.tuple Y X W r⟩
 | .au,_,q=>by cases q
 | .bl _,_,q=>by cases q
 | .lst _,_,q=>by cases q
 | .br _,_,q=>by cases q
 | .ah _,_,q=>by cases q
 | .ty _,_,q=>by cases q
 | .bt _,_,q=>by cases q
 | .exc _ _,_,q=>by cases q
 | .bO _ _ _,_,q=>by cases q
theorem cR.reads:∀(ks:List D) (vs:List Â),cR h ks vs->∃as,ReadsAll h vs (eD ks) as
 | [],vs,q=>by cases q;exact ⟨_,.nil⟩
 |k::ks,vs,q=>by
  obtain ⟨v,r,rfl,Z,Y⟩:=q;obtain ⟨as,Z⟩:=KA.reads k v Z;obtain ⟨bs,Y⟩:=cR.reads ks r Y;exact ⟨_,.cons Z Y⟩
end
def Jj (q:KA h y (.int i t)):y=.int i:=by
 cases y with
 |int j=>obtain ⟨_,e⟩:=q;cases e;rfl
 |str j=>obtain ⟨_,e⟩:=q;cases e
 |tup Z=>simp only [KA] at q;obtain ⟨_,_,_,_,e,_⟩:=q;cases e
 |_=>cases q
def Jk (q:KA h y (.str i t)):y=.str i:=by
 cases y with
 |str j=>obtain ⟨_,e⟩:=q;cases e;rfl
 |int j=>obtain ⟨_,e⟩:=q;cases e
 |tup Z=>simp only [KA] at q;obtain ⟨_,_,_,_,e,_⟩:=q;cases e
 |_=>cases q
def Jl (q:KA h y (.ref a)):∃ks o ao n,y=.tup ks/\h.get? a=some o/\o.cls=.type "tuple"/\o.data=.seq ao n/\cR h ks ao.toList:=by
 cases y with
 |str j=>obtain ⟨_,e⟩:=q;cases e
 |int j=>obtain ⟨_,e⟩:=q;cases e
 |tup ks =>
  simp only [KA] at q;obtain ⟨_,o,ao,n,e,r⟩:=q;cases e;exact ⟨ks,o,ao,n,rfl,r⟩
 |_=>cases q
mutual
theorem KA.inj:∀(x y:D) (v:Â),KA h x v->KA h y v->x=y
 | .int i,y,v,p,q=>by
  obtain ⟨t,rfl⟩:=p;exact (Jj q).symm
 | .str i,y,v,p,q=>by
  obtain ⟨t,rfl⟩:=p;exact (Jk q).symm
 | .tup Z,y,v,p,q=>by
  simp only [KA] at p;obtain ⟨a,o,ao,n,rfl,Y,T,X,r⟩:=p;obtain ⟨S,R,Q,P,rfl,W,O,V,U⟩:=Jl q;cases Y.symm.trans W;cases X.symm.trans V;rw [cR.inj Z _ _ r U]
 | .au,_,_,q,_=>by cases q
 | .bl _,_,_,q,_=>by cases q
 | .lst _,_,_,q,_=>by cases q
 | .br _,_,_,q,_=>by cases q
 | .ah _,_,_,q,_=>by cases q
 | .ty _,_,_,q,_=>by cases q
 | .bt _,_,_,q,_=>by cases q
 | .exc _ _,_,_,q,_=>by cases q
 | .bO _ _ _,_,_,q,_=>by cases q
theorem cR.inj:∀(xs ys:List D) (vs:List Â),cR h xs vs->cR h ys vs->xs=ys
 | [],ys,vs,p,q=>by
  cases p
  cases ys with
  |nil=>rfl
  |cons y ys=>obtain ⟨_,_,e,_⟩:=q;cases e
 |x::xs,ys,vs,p,q=>by
  obtain ⟨v,r,rfl,Z,Y⟩:=p
  cases ys with
  |nil=>cases q
  |cons y ys =>
   obtain ⟨X,W,e,g1,g2⟩:=q;cases e;rw [KA.inj x y v Z g1,cR.inj xs ys r Y g2]
end
mutual
theorem KA.keep (hk:∀a o,h.get? a=some o->o.cls=.type "tuple"->(∃ao n,o.data=.seq ao n)->h'.get? a=some o):∀(x:D) (v:Â),KA h x v->KA h' x v
 | .int i,v,p=>p
 | .str i,v,p=>p
 | .tup X,v,p=>by
  simp only [KA] at p |-;obtain ⟨a,o,ao,n,e,W,Z,Y,r⟩:=p;exact ⟨a,o,ao,n,e,hk a o W Z ⟨ao,n,Y⟩,Z,Y,cR.keep hk X _ r⟩
 | .au,_,q=>by cases q
 | .bl _,_,q=>by cases q
 | .lst _,_,q=>by cases q
 | .br _,_,q=>by cases q
 | .ah _,_,q=>by cases q
 | .ty _,_,q=>by cases q
 | .bt _,_,q=>by cases q
 | .exc _ _,_,q=>by cases q
 | .bO _ _ _,_,q=>by cases q
theorem cR.keep (hk:∀a o,h.get? a=some o->o.cls=.type "tuple"->(∃ao n,o.data=.seq ao n)->h'.get? a=some o):∀(xs:List D) (vs:List Â),cR h xs vs->cR h' xs vs
 | [],vs,p=>p
 |x::xs,vs,p=>by
  obtain ⟨v,r,e,Z,Y⟩:=p;exact ⟨v,r,e,KA.keep hk x v Z,cR.keep hk xs r Y⟩
end
def zT (h:k∈ks):dep k<=dD ks:=by
 induction ks with
 |nil=>cases h
 |cons x Z ih =>
  simp only [dD]
  rcases á.mp h with rfl|h
  ·exact Nat.le_max_left _ _
  ·exact ç (ih h) (Nat.le_max_right _ _)
mutual
noncomputable def hs (w:î):D->Int
 | .int i=>hashInt i
 | .str x=>hashStr w x
 | .tup Z=>reduceHash (ō (i8 w Z))
 |_=>0
noncomputable def i8 (w:î):List D->List Int
 | []=>[]
 |k::Z=>hs w k::i8 w Z
end
mutual
noncomputable def dr:D->Nat
 | .int _=>1
 | .str _=>1
 | .tup Z=>iJ Z+1
 |_=>0
noncomputable def iJ:List D->Nat
 | []=>0
 |k::Z=>dr k+iJ Z
end
def zU (w:î) (xs ys:List D):i8 w (xs++ys)=i8 w xs++i8 w ys:=by
 induction xs with
 |nil=>rfl
 |cons x xs ih=>simp only [Ě,i8,ih]
def zV (xs ys:List D):iJ (xs++ys)=iJ xs+iJ ys:=by
 induction xs with
 |nil=>simp [iJ]
 |cons x xs ih=>simp only [Ě,iJ,ih,δ]
section
variable {prog:Ó} {w:î}
def Gq (hu:A.units<cLine) (ho:s.heap.get? a=some o) (hc:o.cls=.type "tuple") (hd:o.data=.seq items m) (hi:cR s.heap ks items.toList)
 (ih:∀k∈ks,∀(A':Ù) (s':Á) (v:Â) (E':Â->Á->Prop) (Q':Int->Á->Prop),A'.units<=A.units+1->KA s'.heap k v->Q' (hs w k) { s' with toks:=s'.toks+dr k }->Ö (Ø prog w) A' (pyHash v) Q' E' s')
 (h:Q (hs w (.tup ks)) { s with toks:=s.toks+dr (.tup ks) }):Ö (Ø prog w) A (pyHash (.ref a)) Q E s:=by
 have Z:s.TypeIs (.ref a) "tuple":=⟨o,ho,hc⟩;unfold pyHash
 first|unfold pyHashByItsType|skip
 first|refine À (wpAny_cRoomFor_or (.inr hu) ?_)|skip
 refine À (wpAny_specialOf Z ŭ.lookup ?_)
 show Ö _ _ (if (some (Value.builtin "tuple.__hash__")==some Value.none)=true then _ else _) Q E s
 rw [ë (by rw [beq_builtin_none];exact Î)];refine À (wpAny_specialOf Z ŭ.lookup ?_);show Ö _ _ (callSpecialIfBoundUnlessNone? (.ref a) "__hash__" _ >>= _) Q E s;refine À (wpAny_callSpecialIfBoundUnlessNone?_slot Z ŭ (ı ŭ Z F.entry_tuple_hash ?_ (F.args_tuple_hash_1 _)));show Ö _ _ (ω (.ref a) >>= _) _ _ s;refine À (wpAny_tupleItemsOf ho hd ?_);refine À ?_;rw [<- Array.forIn_toList];refine wpAny_forIn_list _
  (fun rest (b:Array Int) s'=>∃done left,ks=done++left/\cR s.heap left rest/\b.toList=i8 w done/\s'={ s with toks:=s.toks+iJ done })
  _ ?_ ?_ _ _ ⟨[],ks,rfl,hi,rfl,rfl⟩
 ·rintro x rest b s' ⟨done,left,e,Y,X,rfl⟩
  cases left with
  |nil=>cases Y
  |cons k left =>
   obtain ⟨T,S,ex,U,V⟩:=Y;cases ex
   refine À (ih k (by rw [e];simp) _ { s with toks:=s.toks+iJ done } _ _ _ ?_ U ?_)
   ·exact PJ _
   ·first
     |exact Ë ⟨done++[k],left,by simp [e],V,by simp [X,zU,i8],by simp [δ,zV,iJ]⟩
     |exact À (Ë (Ë ⟨done++[k],left,by simp [e],V,by simp [X,zU,i8],by simp [δ,zV,iJ]⟩))
 ·rintro b s' ⟨done,left,e,Y,X,rfl⟩
  cases left with
  |cons k left=>obtain ⟨_,_,ex,_⟩:=Y;cases ex
  |nil =>
  rw [Č] at e;subst e;simp only [hs,dr] at h;show Ö _ _ (retInt (ō b.toList)) _ _ _;rw [X];generalize ō (i8 w ks)=z at h |-;refine wpAny_ret_mkInt ?_
  show Ö _ _ (if (decide (-(2:Int) ^ 63<=z)&&decide (z<2 ^ 63))=true then _ else _) Q E _
  unfold reduceHash at h;by_cases W:(decide (-(2:Int) ^ 63<=z)&&decide (z<2 ^ 63))=true
  ·rw [ã W]
   rw [ã W] at h;exact Ë (by simpa [δ] using h)
  ·rw [ë W]
   rw [ë W] at h;exact À (wpAny_rule (Ë (by simpa [δ] using h)))
def Hy:∀(n:Nat) (k:D),dep k<=n->∀(A:Ù) (s:Á) (v:Â) (E:Â->Á->Prop) (Q:Int->Á->Prop),KA s.heap k v->A.units+n<cLine->Q (hs w k) { s with toks:=s.toks+dr k }->Ö (Ø prog w) A (pyHash v) Q E s:=by
 intro n
 induction n with
 |zero =>
  intro k Z A s v E Q q Y h
  cases k with
  |int i=>obtain ⟨t,rfl⟩:=q;exact wpAny_pyHash_int h
  |str i=>obtain ⟨t,rfl⟩:=q;exact wpAny_pyHash_str h
  |tup X=>simp [dep] at Z
  |_=>cases q
 |succ n ih =>
  intro k Z A s v E Q q Y h
  cases k with
  |int i=>obtain ⟨t,rfl⟩:=q;exact wpAny_pyHash_int h
  |str i=>obtain ⟨t,rfl⟩:=q;exact wpAny_pyHash_str h
  |tup X =>
   simp only [dep] at Z;simp only [KA] at q;obtain ⟨a,o,items,m,rfl,W,V,U,hi⟩:=q;exact Gq (by omega) W V U hi (fun k T S R v P O L N M=>ih k (by have:=zT T;omega) S R v P O N (by omega) M) h
  |_=>cases q
def Gr:∀(n:Nat) (k:D),dep k<=n->∀{A:Ù} {s:Á} {v:Â} {E:Â->Á->Prop} {Q:Bool->Á->Prop},KA s.heap k v->Q true s->Ö (Ø prog w) A (eqIsQuiet n v) Q E s:=by
 intro n
 induction n with
 |zero =>
  intro k Z A s v E Q q h
  cases k with
  |int i=>obtain ⟨t,rfl⟩:=q;rw [Ů _ rfl];exact Ë h
  |str i=>obtain ⟨t,rfl⟩:=q;rw [Ů _ rfl];exact Ë h
  |tup W=>simp [dep] at Z
  |_=>cases q
 |succ n ih =>
  intro k Z A s v E Q q h
  cases k with
  |int i=>obtain ⟨t,rfl⟩:=q;rw [Ů _ rfl];exact Ë h
  |str i=>obtain ⟨t,rfl⟩:=q;rw [Ů _ rfl];exact Ë h
  |tup W =>
   simp only [dep] at Z;simp only [KA] at q;obtain ⟨a,o,items,m,rfl,V,R,P,hi⟩:=q;have U:s.TypeIs (.ref a) "tuple":=⟨o,V,R⟩;unfold eqIsQuiet;refine À (wpAny_specialOf U F.slot_tuple_eq.lookup ?_);show Ö _ _ (isInstance (.ref a) (.type "tuple") >>= _) _ _ s;refine À (wpAny_isInstance U isSubtype_tuple_tuple ?_);simp only [Ħ,Í,ā];refine À (Ė V P ?_);refine À ?_;show Ö _ _ (forIn items _ _) _ _ s;rw [<- Array.forIn_toList];refine wpAny_forIn_list _ (fun rest r Y=>r.1=none/\Y=s/\∃left,cR s.heap left rest/\∀k∈left,dep k<=n) _ ?_ ?_ _ _ ⟨rfl,rfl,W,hi,fun k O=>by have:=zT O;omega⟩
   ·rintro v rest r Y ⟨X,rfl,left,T,S⟩
    cases left with
    |nil=>cases T
    |cons k left =>
     obtain ⟨K,J,ex,N,M⟩:=T;cases ex;refine À (ih k (S k ä) N ?_);simp only [Ħ,Í,ā];exact Ë ⟨rfl,rfl,left,M,fun u L=>S u (Ð _ L)⟩
   ·rintro ⟨I,H⟩ Y ⟨X,rfl,_⟩
    simp only at X;subst X;exact Ë h
  |_=>cases q
def xr (h:Ă) (ks:List D) (a:Ì):Prop:=fT ks=true/\dD ks<=6/\KA h (.tup ks) (.ref a)
noncomputable instance OV:DecidableEq (List D):=fun a b=>Classical.propDecidable (a=b)
def Jm (hu:A.units+10<cLine) (hx:xr s.heap x a) (hy:xr s.heap y b) (h:Q (decide (x=y)) s):Ö (Ø prog w) A (PySem.eqBool (.ref a) (.ref b)) Q E s:=by
 obtain ⟨W,N,Z⟩:=hx;obtain ⟨V,M,Y⟩:=hy;obtain ⟨as,Z⟩:=KA.reads _ _ Z;obtain ⟨bs,Y⟩:=KA.reads _ _ Y;have U:lay (.tup x)=true:=by simp only [lay];exact pY x W
 have T:lay (.tup y)=true:=by simp only [lay];exact pY y V
 obtain ⟨S,R⟩:=iN _ U;obtain ⟨P,O⟩:=iN _ T;have e:=SeqAt.eqAt_reads _ _ A s _ _ as bs Z Y S P (by rw [R,O];simp only [dep];omega);rw [mH _ _ U T] at e;refine e prog w E Q ?_;have:beq (.tup x) (.tup y)=decide (x=y):=by
  have:=tW x y W V;simp only [beq]
  cases X:fO x y with
  |true=>exact (Ò (this.mp X)).symm
  |false=>exact (ï fun z=>by rw [this.mpr z] at X;cases X).symm
 rw [this];exact h
def kind (prog:Ó) (w:î):HeapKind prog w (List D) where
 is:=xr
 hash:=fun X=>hs w (.tup X)
 draws:=fun X=>dr (.tup X)
 room:=fun A=>A.units+10<cLine
 inj:=fun W V=>by have:=KA.inj _ _ _ W.2.2 V.2.2;injection this
 keeps:=fun {h Q k a d o P O} x S R hs=>⟨x.1,x.2.1,KA.keep (fun b u U N Y=>(hs.2 b (fun e=>by
  subst e;rw [S] at U;cases U;obtain ⟨_,_,Y⟩:=Y;rw [R] at Y;cases Y)).trans U) _ _ x.2.2⟩
 pyHash:=fun T Z h=>Hy 7 _ (by simp only [dep];have:=Z.2.1;omega) _ _ _ _ _ Z.2.2 (by omega) h
 eqBool:=fun T W V h=>Jm T W V h
 quiet:=fun Z h=>Gr 8 _ (by simp only [dep];have:=Z.2.1;omega) Z.2.2 h
end
end TK
namespace TK
open PySem PySem.W PyProof.Rows DI L2
def DX.cG (h1 h2:Ă) (h:DX a es h1) (k:∀o,h1.get? a=some o->h2.get? a=some o):DX a es h2:=by
 obtain ⟨z,o,Z,Y,X,r⟩:=h;exact ⟨z,o,Z,Y,k o X,r⟩
def AllK (w:î) (aE:List (D×Int)):Prop:=∀p∈aE,∃Z,p.1=.tup Z/\fT Z=true/\dD Z<=6/\p.2=hs w p.1
noncomputable def ao:D->List D
 | .tup Z=>Z
 |_=>[]
section
variable {X:Cx} {π:List (Ì×Obj)} {σ:L2.St} {s:Á} {w:Wd}
mutual
theorem Ky (I:Inv X π σ w.H s):∀(d:D) (v:V) (u:Â),kd d=true->DI.DV X.K w d v->RelV v u->KA s.heap d u
 | .int i,v,u,_,h,r=>by cases h;exact r
 | .str x,v,u,_,h,r=>by cases h;exact r
 | .tup Z,v,u,k,h,r=>by
  simp only [DI.DV] at h;obtain ⟨a,Y,rfl,W,U⟩:=h;cases r;obtain ⟨ao,T,⟨o,S,R,n,Q⟩,_⟩:=I.tuple W;simp only [kd] at k;simp only [KA];exact ⟨a,o,_,n,rfl,S,R,Q,Az I Z Y _ k U (by simpa using T)⟩
 | .au,_,_,k,_,_=>by cases k
 | .bl _,_,_,k,_,_=>by cases k
 | .lst _,_,_,k,_,_=>by cases k
 | .br _,_,_,k,_,_=>by cases k
 | .ah _,_,_,k,_,_=>by cases k
 | .ty _,_,_,k,_,_=>by cases k
 | .bt _,_,_,k,_,_=>by cases k
 | .exc _ _,_,_,k,_,_=>by cases k
 | .bO _ _ _,_,_,k,_,_=>by cases k
theorem Az (I:Inv X π σ w.H s):∀(ds:List D) (vs:List V) (us:List Â),fT ds=true->DI.ar X.K w ds vs->Vals vs us->cR s.heap ds us
 | [],vs,us,_,h,r=>by cases h;cases r;rfl
 |d::ds,vs,us,k,h,r=>by
  obtain ⟨v,Z,rfl,Y,W⟩:=h;simp only [fT,Å] at k
  cases r with
  |cons r U=>exact ⟨_,_,rfl,Ky I d v _ k.1 Y r,Az I ds Z _ k.2 W U⟩
end
end
section
variable {X:Cx} {Ξ:Wd->aP->Prop} {e o i:ÿ} {pos kh:Pos} {f fo fi:DI.PB D}
end
end TK
namespace TK
open PySem PySem.W PyProof.Rows DI L2
def lO (h:Ă) (d:Ì) (es:Array DictEntry) (ep:Nat):Prop:=∃o,h.get? d=some o/\o.ExactDict/\o.data=.dict es ep
section
variable {prog:Ó} {w:î} {A:Ù} {E:Â->Á->Prop} {s:Á} {d it:Ì} {es:Array DictEntry} {ep i:Nat}
def lO.ty (r:lO s.heap d es ep):s.TypeIs (.ref d) "dict":=by obtain ⟨o,Z,x,_⟩:=r;exact ⟨o,Z,x.1⟩
def lO.lt (r:lO h d es ep):d<h.objs.size:=by obtain ⟨o,Z,_⟩:=r;exact É Z
def lO.at (r:lO h d es ep) (k:∀o,h.get? d=some o->h'.get? d=some o):lO h' d es ep:=by obtain ⟨o,Z,x⟩:=r;exact ⟨o,k o Z,x⟩
end
section
variable {X:Cx} {Ξ:Wd->aP->Prop}
end
open HT
section
variable {s:Á}
def Kz (kx:kd x=true) (ky:kd y=true) (hu:A.units+dep x<cLine) (hx:KA s.heap x vx) (hy:KA s.heap y vy):SeqAt.EqAt A s vx vy (beq x y):=by
 obtain ⟨as,Z⟩:=KA.reads _ _ hx;obtain ⟨bs,Y⟩:=KA.reads _ _ hy;obtain ⟨X,W⟩:=iN _ (n3 _ kx);obtain ⟨V,U⟩:=iN _ (n3 _ ky);have:=SeqAt.eqAt_reads _ _ A s vx vy as bs Z Y X V (by rw [W];omega);rw [mH _ _ (n3 _ kx) (n3 _ ky)] at this;exact this
mutual
theorem KC:∀(A:Ù) (x y:D) (b:Bool) (vx vy:Â),lZ x y=some b->kd x=true->kd y=true->A.units+5*dep x+5<cLine->KA s.heap x vx->KA s.heap y vy->wk A s vx vy b
 |A,.int i,y,b,vx,vy,h,_,_,_,Z,Y=>by
  cases y with
  |int j =>
   cases h;obtain ⟨t,rfl⟩:=Z;obtain ⟨X,rfl⟩:=Y;exact fun prog w E Q q=>y6 A s i t j X prog w E Q q
  |_=>cases h
 |A,.str i,y,b,vx,vy,h,_,_,_,Z,Y=>by
  cases y with
  |str j =>
   cases h;obtain ⟨t,rfl⟩:=Z;obtain ⟨X,rfl⟩:=Y;exact fun prog w E Q q=>(PyProof.Rows.lt_str q:Ö (Ø prog w) A (ă .Lt (.str i t) (.str j X)) Q E s)
  |_=>cases h
 |A,.tup V,y,b,vx,vy,h,W,ky,U,Z,Y=>by
  cases y with
  |tup T =>
   simp only [lZ] at h;simp only [KA] at Z Y;obtain ⟨a,o,ao,n,rfl,S,R,P,r⟩:=Z;obtain ⟨H,O,G,N,rfl,M,L,K,J⟩:=Y;simp only [dep] at U;simp only [kd] at W ky;exact fun prog w E Q q=>zP ⟨o,S,R,n,P⟩ ⟨O,M,L,N,K⟩ (fun I F=>AA I V T b _ _ h W ky (by omega) r J) (by omega) q
  |_=>cases h
 |_,.au,_,_,_,_,_,k,_,_,_,_=>by cases k
 |_,.bl _,_,_,_,_,_,k,_,_,_,_=>by cases k
 |_,.lst _,_,_,_,_,_,k,_,_,_,_=>by cases k
 |_,.br _,_,_,_,_,_,k,_,_,_,_=>by cases k
 |_,.ah _,_,_,_,_,_,k,_,_,_,_=>by cases k
 |_,.ty _,_,_,_,_,_,k,_,_,_,_=>by cases k
 |_,.bt _,_,_,_,_,_,k,_,_,_,_=>by cases k
 |_,.exc _ _,_,_,_,_,_,k,_,_,_,_=>by cases k
 |_,.bO _ _ _,_,_,_,_,_,k,_,_,_,_=>by cases k
theorem AA:∀(A:Ù) (xs ys:List D) (b:Bool) (ps qs:List Â),m8 xs ys=some b->fT xs=true->fT ys=true->A.units+5*dD xs+5<cLine->cR s.heap xs ps->cR s.heap ys qs->ig A s ps qs b
 |A,[],ys,b,ps,qs,h,_,_,_,V,Z=>by
  cases V
  cases ys with
  |nil=>cases h;cases Z;exact .nn
  |cons y ys=>cases h;obtain ⟨v,r,rfl,_⟩:=Z;exact .nc _ _
 |A,x::xs,ys,b,ps,qs,h,Y,ky,T,V,Z=>by
  obtain ⟨v,r,rfl,U,S⟩:=V
  cases ys with
  |nil=>cases h;cases Z;exact .cn _ _
  |cons y ys =>
   obtain ⟨u,R,rfl,g1,g2⟩:=Z;simp only [fT,Å] at Y ky;simp only [dD] at T;have Q:=Nat.le_max_left (dep x) (dD xs);have P:=Nat.le_max_right (dep x) (dD xs);have X:=Kz (A:=A) Y.1 ky.1 (by omega) U g1;simp only [m8] at h;split at h
   ·rename_i W
    rw [W] at X;exact .eq X (AA A xs ys b _ _ h Y.2 ky.2 (by omega) S g2)
   ·rename_i W
    rw [Bool.not_eq_true] at W;rw [W] at X;exact .lt X (KC A x y b _ _ h Y.1 ky.1 (by omega) U g1)
end
end
section
variable {prog:Ó} {w:î} {A:Ù} {E:Â->Á->Prop} {s:Á}
end
inductive Pg where
 |made (m d:Int) (h l:List Int)
 |L9 (m d k:Int)
noncomputable def ti (l:List Int):D:=.tup (l.map D.int)
def Pg.d:Pg->D
 | .made m d h l=>.tup [.str "made",.int m,.int d,.tup [ti h,ti l]]
 | .L9 m d k=>.tup [.str "mended",.int m,.int d,.int k]
section
variable {prog:Ó} {w:î} {A:Ù} {E:Â->Á->Prop} {s:Á}
end
end TK
namespace TK
open PySem PySem.W PyProof.Rows DI L2
open Classical in
section
variable {X:Cx} {Ξ:Wd->aP->Prop}
end
section
variable {prog:Ó} {w:î} {A:Ù} {E:Â->Á->Prop} {s:Á}
end
section
variable {X:Cx} {Ξ:Wd->aP->Prop} {e:ÿ} {te:TE} {pos p2 p4:Pos} {f:DI.PB D}
end
end TK
namespace DI
open PySem L2
section
variable {X:Cx} {Ξ:Wd->aP->Prop} {el tg src MV L4:ÿ} {tests Jf:List ÿ} {sc:Ń} {ps pos:Pos} {N:List Str} {nt:Nat} {cap:List Nat} {it xb:PB (List D)} {gd MW:D->Env->Option Env} {g0 MX:TG} {sl cI:List Nat} {ft MY:PB Bool} {f:PB D}
end
open Classical in
def fI (nt:Nat) (caps:Env) (g:D->Env->Option Env) (t:PB Bool) (f:PB D) (γ:aa->Prop):List D->aa->Res (List D)
 | [],s=>if γ s then ok [] s else none
 |d::Z,s=>if γ s then (match g d (Ê nt none++caps) with
  |none=>none
  |some env=>aj (ne (t env s)) fun b s=>if b=true then aj (ne (f env s)) fun x s=>aj (fI nt caps g t f γ Z s) fun Y s=>ok (x::Y) s
   else fI nt caps g t f γ Z s) else none
def ji (nt:Nat) (cap:List Nat) (it:PB (List D×(aa->Prop))) (g:D->Env->Option Env) (t:PB Bool) (f:PB D):PB D:=fun env s =>
 aj (it env s) fun p s=>fZ p.1 (aj (fI nt (fK cap env) g t f p.2 p.1 s) fun Z s=>ok (.lst Z) s)
def C4 (K:ô) (w:Wd) (J:It) (ds:List D) (γ:aa->Prop):Prop:=∀Z,Le K w Z->aH K Z->γ Z.aw->∀i,
 (∀d,ds[i]?=some d->J.go i Z.H/\∀x X,J.o7 i Z.H x X->∃Y,Y.H=X/\Le K Z Y/\aH K Y/\Y.aw=Z.aw/\DV K Y d x)/\(ds.length<=i->J.stop i Z.H)
def m9 (K:ô) (Ξ:Wd->aP->Prop) (f:PB (List D×(aa->Prop))):TI:=fun σ H R=>∃w env,w.H=H/\aH K w/\bF K w env σ/\Out K Ξ w (f env w.aw) fun Z p=>∀J,C4 K Z J p.1 p.2->R J Z.H
section
variable {K:ô} {Ξ:Wd->aP->Prop}
def EF (σ:St) (H:Hp) (Q:VK) :
  tE K Ξ (ji nt cap it g ft f) σ H Q->mP (m9 K Ξ it) nt cap (gD K g) (tT K cu ft) (tE K cu f) σ H Q:=by
 rintro ⟨w,env,rfl,S,r,h⟩;refine ⟨w,env,rfl,S,r,(Out.aj h).mono fun D p l1 S1 C J n=>?_⟩;obtain ⟨V,F⟩:=p;obtain ⟨l,C⟩:=nP C;have l:V.length<=Ô:=l;refine ⟨fun i m T k=>m=V.length-i/\i<=V.length/\T.length<=i/\∃Y R,Y.H=k/\Le K D Y/\aH K Y/\ar K Y R T/\Out K Ξ Y (fI nt (fK cap env) g ft f F (V.drop i) Y.aw) fun W M=>∀U,ar K W (R++M) U->∀p,W.H p=none->Q (.ref p) (upd W.H p (.lst U)),
  ⟨V.length,rfl,ū _,ū _,D,[],rfl,Le.refl _,S1,rfl,(Out.aj C).mono fun W M O L h2 U E p P=>?_⟩,?_⟩
 ·exact h2 (W.grow p (.lst U)) (Fw.grow P).le (L.grow P) rfl (.ref p) ⟨p,U,rfl,⟨(show ¬ W.Z p from kX L P),bZ⟩,(Fw.grow P).le.all E⟩
 rintro i m T k ⟨rfl,hi,ha,Y,R,rfl,I,B,A,X⟩;by_cases z:i<V.length
 ·right
  rw [Ō z] at X;unfold fI at X;by_cases N:F Y.aw
  ·rw [ã N] at X
   obtain ⟨jG,hy⟩:=(n Y I B N i).1 _ (ì z)
   cases u:g V[i] (Ê nt none++fK cap env) with
   |none=>rw [u] at X;exact X.elim
   |some t =>
    rw [u] at X;refine ⟨jG,by omega,fun s j=>s.length<=i+1/\∃Y R,Y.H=j/\Le K D Y/\aH K Y/\ar K Y R s/\Out K Ξ Y (fI nt (fK cap env) g ft f F (V.drop (i+1)) Y.aw) fun W M=>∀U,ar K W (R++M) U->∀p,W.H p=none->Q (.ref p) (upd W.H p (.lst U)),
     fun s j ⟨xj,q⟩=>⟨V.length-(i+1),by omega,rfl,z,xj,q⟩,fun o x H3 ho y=>?_⟩
    obtain ⟨W,rfl,O,L,es,dv⟩:=hy x H3 y;refine ⟨W,_,V[i],t,rfl,L,(r.le (l1.trans (I.trans O))).block nt cap o ho,dv,u,fun lT c=>?_⟩;rw [<- es] at X;refine ⟨W,t,rfl,L,c,(Out.aj (X.from O)).ne.mono fun a b G S3 h3=>?_⟩
    cases b with
    |true =>
     refine ⟨a,t,rfl,S3,c.le G,(Out.aj h3).ne.mono fun w4 d l4 S4 h4 v xk=>⟨by rw [č];simp;omega,w4,R++[d],rfl,I.trans (O.trans (G.trans l4)),S4,ar.append ((O.trans (G.trans l4)).all A) (ar.one xk),(Out.aj h4).mono fun w5 M l5 S5 h5 U E p P=>?_⟩⟩;exact ay S5 h5 U (by rw [Ŭ] at E;exact E) p P
    |false =>
     exact ⟨by omega,a,R,rfl,I.trans (O.trans G),S3,(O.trans G).all A,h3⟩
  ·rw [ë N] at X
   exact X.elim
 ·left
  have e:i=V.length:=by omega
  subst e;rw [List.drop_length] at X;unfold fI at X;by_cases N:F Y.aw
  ·rw [ã N] at X
   exact ⟨(n Y I B N _).2 (PJ _),by omega,fun p P=>ay B X T (by rw [Č];exact A) p P⟩
  ·rw [ë N] at X
   exact X.elim
def Fn (R R':It->Hp->Prop) (i:∀J H',R J H'->R' J H') (h:m9 K Ξ it σ H R):m9 K Ξ it σ H R':=by
 obtain ⟨w,env,Z,S,Y,h⟩:=h;exact ⟨w,env,Z,S,Y,h.mono fun V p _ _ X J W=>i J _ (X J W)⟩
def Hz (h:DV K w x (.ref a)) (g:DV K w y (.ref b)):C4 K w (LS K a b) (gj ds es) fun s=>res x s=.lst ds/\res y s=.lst es:=fun D U Z T i=>by
 obtain ⟨p,Y,e,X,S⟩:=fH Z (U _ _ h) T.1;obtain ⟨q,W,N,V,R⟩:=fH Z (U _ _ g) T.2;cases e;cases N;refine ⟨fun d M=>?_,fun L=>⟨Y,W,bb.of X,bb.of V,?_⟩⟩
 ·obtain ⟨x,y,e1,e2,rfl⟩:=za M
  obtain ⟨v,ev,J⟩:=S.get' i x e1;obtain ⟨u,Q,I⟩:=R.get' i y e2;refine ⟨⟨Y,W,v,u,bb.of X,bb.of V,ev,Q⟩,fun z C ⟨r,B,y1,H,G,F,E⟩=>?_⟩;obtain ⟨P,O⟩:=E Y W (bb.of X) (bb.of V);rw [ev] at P;rw [Q] at O;cases P;cases O;subst G F;exact yU Z H J I
 ·rw [zb] at L
  have:=S.length;have:=R.length;omega
end
def wq (ds:List D) (s:aa):Res (List D×(aa->Prop)):=match ds with
 | [x,y]=>match res x s,res y s with
  | .tup Z,.tup Y=>ok (gj Z Y,fun _=>True) s
  | .lst Z,.lst Y=>ok (gj Z Y,fun s=>res x s=.lst Z/\res y s=.lst Y) s
  |_,_=>none
 |_=>none
def j6 (fa:PB (List D)):PB (List D×(aa->Prop)):=fun env s=>aj (fa env s) wq
section
variable {X:Cx} {Ξ:Wd->aP->Prop} {a b:ÿ} {fa:PB (List D)} {pos:Pos}
def Jn {p:Pos} {elts:List ÿ} {kk:Nat} {lI:Pos} (hg:Gl X "zip") (hm:X.mg "zip"=none) (ha:PA X [a,b] (tA X.K Ξ fa)) (hs:Ä [a,b] X.env=[(false,Ĕ a X.env),(false,Ĕ b X.env)]:=by rfl) (dM:Ä [b] X.env=[(false,Ĕ b X.env)]:=by rfl) :
  PI X (.Tuple elts kk lI) (.Call (.Name "zip" p) [a,b] [] pos) (m9 X.K Ξ (j6 fa)):=by
 intro Q s σ H R I V;obtain ⟨w,env,C,S,P,h⟩:=V;subst C
 cases Z:fa env w.aw with
 |none=>rw [show j6 fa env w.aw=none by unfold j6;rw [Z];rfl] at h;exact h.elim
 |some r =>
  obtain ⟨r,F⟩:=r
  cases r with
  |error x =>
   rw [show j6 fa env w.aw=some (.error x,F) by unfold j6;rw [Z];rfl] at h;refine zH hg hm ha hs dM Q s σ w.H R I ⟨w,env,rfl,S,P,?_⟩;rw [Z];exact h
  |ok B =>
   have A:j6 fa env w.aw=wq B F:=by unfold j6;rw [Z];rfl
   rw [A] at h;unfold wq at h;split at h
   ·rename_i x y
    split at h
    ·rename_i t o ex O
     have e1:=cY ex (by intro _ z;cases z);have e2:=cY O (by intro _ z;cases z);refine zH hg hm ha hs dM Q s σ w.H R I ⟨w,env,rfl,S,P,?_⟩;rw [Z];intro N le U T n M;obtain ⟨v,u,rfl,Y,W⟩:=kZ M;rw [e1] at Y;rw [e2] at W;have E:=Y;have D:=W;simp only [DV] at E D;obtain ⟨p,L,rfl,V,_⟩:=E;obtain ⟨q,J,rfl,G,_⟩:=D;exact ⟨p,q,L,J,rfl,V,G,h N le U T _ fun m l k _ i=>Gk Y W m l k i⟩
    ·rename_i t o ex O
     refine Hk hg hm ha hs dM Q s σ w.H R I ⟨w,env,rfl,S,P,?_⟩;rw [Z];intro N le U T n M;obtain ⟨v,u,rfl,Y,W⟩:=kZ M;obtain ⟨p,L,rfl,V,_⟩:=fH U Y (by rw [T];exact ex);obtain ⟨q,J,rfl,G,_⟩:=fH U W (by rw [T];exact O);exact ⟨p,q,L,J,rfl,bb.of V,bb.of G,h N le U T _ (Hz Y W)⟩
    ·exact h.elim
   ·exact h.elim
def pZ (hc:X.calm=true) (S:mI X sc N nt cap) (T:Tg X.K g0 gd nt) (hi:PI X tg src (m9 X.K Ξ it))
 (hY:∀(cl:List (Str×Ì)) (C:Ì) (s:Á) (H:Hp) (ex:List Ì) (pn:List (Ì×Obj)),PG (dO X N sc cl C s H ex pn) tg g0/\PF (dO X N sc cl C s H ex pn) tests (tT X.K cu ft)/\PE (dO X N sc cl C s H ex pn) el (tE X.K cu f))
 (hs:∀x,Ğ src X.env x=pure x:=by intro _;rfl):PE X (.ListComp el [⟨tg,src,tests,0⟩] sc ps) (tE X.K Ξ (ji nt cap it gd ft f)) :=
 cb (zf hc S T.pA hi hY hs) fun σ H Q h=>yF T.imp (fun R Z i h=>Fn R Z i h) (EF σ H Q h)
end
end DI
namespace ST
open PySem PySem.Spec PyProof.Rows
section
variable {prog:Ó} {w:î} {A:Ù} {E:Â->Á->Prop} {s:Á}
end
end ST
namespace DI
open PySem L2
section
variable {X:Cx} {Ξ:Wd->aP->Prop}
end
section
variable {X:Cx} {Ξ:Wd->aP->Prop} {e o i:ÿ} {pos kh:Pos} {f fo fi:PB D}
end
end DI
namespace L2
open PySem PySem.Spec PyProof.Rows
section
variable {X:Cx}
end
end L2
namespace DI
open PySem L2
section
variable {X:Cx} {Ξ:Wd->aP->Prop}
end
end DI
namespace L2
open PySem PySem.Spec PyProof.Rows
section
variable {X:Cx}
end
end L2
namespace DI
open PySem L2
section
variable {X:Cx} {Ξ:Wd->aP->Prop} {a:ÿ} {pos:Pos} {f:PB D}
end
end DI
namespace L2
open PySem PySem.Spec PyProof.Rows
section
variable {X:Cx}
end
end L2
namespace DI
open PySem L2
section
variable {X:Cx} {Ξ:Wd->aP->Prop} {pos:Pos}
def Ma {K:ô} {w:Wd} {ds:List D} {vs:List V} {Q:VK} (S:aH K w) (aq:ar K w ds vs) (h:Out K Ξ w (ok (D.ah w.aw.length) (w.aw++[.lst ds])) fun w' d=>∀v,DV K w' d v->Q v w'.H):∀p,w.H p=none->Q (.ref p) (upd w.H p (.lst vs)):=fun p Z=>by
 have le:=(Fw.cell (K:=K) (o:=.lst vs) (c:=.lst ds) S Z).le;refine h (w.cell p (.lst vs) (.lst ds)) le (S.vl Z ⟨_,bZ,le.all aq⟩) rfl (.ref p) ⟨p,?_,rfl⟩;show (w.ρ++[p])[w.aw.length]?=some p;rw [<- S.len];simp
end
end DI
namespace L2
open PySem PySem.Spec PyProof.Rows
def KD:õ "sum"=some (.builtin "sum"):=by decide +kernel
end L2
namespace DI
open PySem L2
section
variable {X:Cx} {Ξ:Wd->aP->Prop}
end
end DI
namespace L2
open PySem PySem.Spec PyProof.Rows
open AutoSeq1 (wpAny_loadPart')
section
variable {prog:Ó} {w:î} {A:Ù} {E:Â->Á->Prop} {s:Á}
end
section
variable {X:Cx}
end
end L2
namespace DI
open PySem L2
section
variable {X:Cx} {Ξ:Wd->aP->Prop} {a:ÿ} {p pos:Pos} {fa:PB (List D)}
end
end DI
namespace L2
open PySem PySem.Spec PyProof.Rows
section
variable {X:Cx} {pos:Pos}
end
end L2
namespace DI
open PySem L2
section
variable {X:Cx} {Ξ:Wd->aP->Prop} {a b c:ÿ} {pos:Pos} {fa:PB (List D)}
end
noncomputable def notStar:ÿ->Bool
 | .Starred ..=>false
 |_=>true
def HA (h:notStar e=true):Ä (e::es) env=(false,Ĕ e env)::Ä es env:=by
 cases e<;>first|rfl|cases h
section
variable {X:Cx} {Ξ:Wd->aP->Prop} {e:ÿ} {es:List ÿ} {f:PB D} {fa:PB (List D)} {pos:Pos}
def HB (ha:PE X e (tE X.K Ξ f)) (hr:PA X es (tA X.K Ξ fa)) (h:notStar e=true):PA X (e::es) (tA X.K Ξ (af f fa)):=bw ha hr (HA h)
end
noncomputable def pH:D->Option (Bool×List D)
 | .tup Z=>some (true,Z)
 | .lst Z=>some (false,Z)
 |_=>none
def AB (h:pH d=some (k,xs)):d=gC k xs:=by
 cases d with
 |tup Z=>cases h;rfl
 |lst Z=>cases h;rfl
 |_=>cases h
def ng (ds:List D) (s:aa):Res (List D):=match ds with
 | [x,y]=>match pH x,pH y with
  |some (_,Z),some (_,Y)=>ok (gj Z Y) s
  |_,_=>none
 |_=>none
def rf (fa:PB (List D)):PB (List D):=fun env s=>aj (fa env s) ng
section
variable {X:Cx} {Ξ:Wd->aP->Prop} {a b:ÿ} {fa:PB (List D)} {pos:Pos}
def AD:∀{k},DV K w (gC k ds) v->∃a,v=.ref a
 |true,h=>by simp only [DV] at h;obtain ⟨p,_,rfl,_⟩:=h;exact ⟨p,rfl⟩
 |false,h=>by simp only [DV] at h;obtain ⟨p,_,rfl,_⟩:=h;exact ⟨p,rfl⟩
def Jo {p:Pos} {elts:List ÿ} {kk:Nat} {lI:Pos} (hg:Gl X "zip") (hm:X.mg "zip"=none) (ha:PA X [a,b] (tA X.K Ξ fa)) (hs:Ä [a,b] X.env=[(false,Ĕ a X.env),(false,Ĕ b X.env)]:=by rfl) (dM:Ä [b] X.env=[(false,Ĕ b X.env)]:=by rfl) :
  PI X (.Tuple elts kk lI) (.Call (.Name "zip" p) [a,b] [] pos) (iG X.K Ξ (rf fa)):=by
 intro D s σ H R I N;obtain ⟨w,env,C,S,B,h⟩:=N;subst C;unfold rf at h;obtain ⟨k,l,A⟩:∃k l:Bool,Out X.K Ξ w (fa env w.aw) fun Z Y=>∃W V,Y=[gC k W,gC l V]/\∀J,jF X.K Z J (gj W V)->R J Z.H:=by
  have T:=Out.aj h
  cases F:fa env w.aw with
  |none=>rw [F] at T;exact T.elim
  |some r =>
   obtain ⟨r,m⟩:=r;rw [F] at T
   cases r with
   |error x=>exact ⟨true,true,T⟩
   |ok Y =>
    have:∃k l W V,Y=[gC k W,gC l V]\/(∀s,ng Y s=none):=by
     unfold ng;split
     ·rename_i x y
      cases e1:pH x with
      |none=>exact ⟨true,true,[],[],.inr fun _=>rfl⟩
      |some u=>cases e2:pH y with
       |none=>exact ⟨true,true,[],[],.inr fun _=>rfl⟩
       |some v=>exact ⟨u.1,v.1,u.2,v.2,.inl (by rw [AB e1,AB e2])⟩
     ·exact ⟨true,true,[],[],.inr fun _=>rfl⟩
    obtain ⟨k,l,W,V,e|e⟩:=this
    ·subst e
     refine ⟨k,l,fun Z O Q M=>?_⟩;have U:Out X.K Ξ Z (ng [gC k W,gC l V] Z.aw) fun P Y=>∀J,jF X.K P J Y->R J P.H:=T Z O Q M;refine ⟨W,V,rfl,fun J z=>?_⟩
     have e:ng [gC k W,gC l V] Z.aw=ok (gj W V) Z.aw:=by cases k<;>cases l<;>rfl
     rw [e] at U;exact ay Q U J z
    ·refine ⟨true,true,fun Z O Q M=>?_⟩
     have U:Out X.K Ξ Z (ng Y Z.aw) fun P Y=>∀J,jF X.K P J Y->R J P.H:=T Z O Q M;rw [e] at U;exact U.elim
 refine uq (k:=k) (l:=l) hg hm ha hs dM D s σ w.H R I ⟨w,env,rfl,S,B,A.mono fun Z Y O Q U E t=>?_⟩;obtain ⟨W,V,rfl,U⟩:=U;obtain ⟨v,u,rfl,L,G⟩:=kZ t;obtain ⟨p,rfl⟩:=AD L;obtain ⟨q,rfl⟩:=AD G;obtain ⟨o,N,_⟩:=ra L;obtain ⟨E,n,_⟩:=ra G;exact ⟨p,q,o,E,rfl,N,n,U _ (zc L G)⟩
end
end DI
namespace L2
open PySem
def bG {α:Type}:Sem α->Prop
 | .pure _=>True
 | .raise _=>True
 | .unsupported _=>True
 | .finish _=>True
 | .rule _ k=>bG (k ())
 | .at _ k=>bG (k ())
 | .load _ _ k=>∀o,bG (k o)
 | .update _ _ f k=>(∀o,(f o).dict=o.dict)/\bG (k ())
 | .loadIfAlive _ k=>∀o,bG (k o)
 | .point _ k=>bG (k ())
 | .register _ _=>True
 | .alloc _ k=>∀a,bG (k a)
 | .fresh k=>∀t,bG (k t)
 | .ask k=>∀t,bG (k t)
 | .choose _ _ k=>∀n,bG (k n)
 | .os _ _ k=>∀r,bG (k r)
 | .call ..=>False
 | .handled _ k=>∀v,bG (k v)
 | .genState _ k=>∀v,bG (k v)
 | .newGen _ k=>∀v,bG (k v)
 | .resume ..=>False
 | .yield ..=>True
 | .stack k=>∀v,bG (k v)
 | .fork ..=>True
 | .thread k=>∀v,bG (k v)
 | .await ..=>True
def Dk (h0 h:Ă):Prop:=h0.objs.size<=h.objs.size/\∀b o,h0.get? b=some o->∀Z,h.get? b=some Z->Z.dict=o.dict
def Dk.refl (h:Ă):Dk h h:=⟨PJ _,fun b o e Y Z=>by rw [e] at Z;cases Z;rfl⟩
theorem Dk.push {h0 h:Ă} (k:Dk h0 h) (o:Obj):Dk h0 (h.push o):=by
 refine ⟨ç k.1 (by rw [ö];exact Nat.le_succ _),fun b p e X W=>k.2 b p e X ?_⟩;have Z:=Æ (É e) k.1;obtain ⟨Y,V⟩:=ĸ.mp W;refine ĸ.mpr ⟨?_,V⟩;have:(h.push o).objs[b]?=h.objs[b]?:=by
  show (h.objs.push o)[b]?=_;rw [Array.getElem?_push_lt Z,Array.getElem?_eq_getElem Z]
 rw [this] at Y;exact Y
def Dk.upd {h0 h:Ă} (k:Dk h0 h) {a:Ì} {f:Obj->Obj} (hf:∀o,(f o).dict=o.dict) (ha:(h.get? a).isSome):Dk h0 (h.update a f):=by
 refine ⟨by rw [Heap.size_update];exact k.1,fun b p e Y X=>?_⟩;by_cases U:b=a
 ·subst U
  obtain ⟨W,e1⟩:=ŕ.mp ha;have T:=k.2 b p e W e1;obtain ⟨Z,S⟩:=ĸ.mp X;obtain ⟨V,R⟩:=ĸ.mp e1;have:Y=f W:=by
   obtain ⟨objs,l⟩:=h;have Z:(objs.modify b f)[b]?=some Y:=Z;have V:objs[b]?=some W:=V;rw [Array.getElem?_modify,ã rfl,V] at Z;exact (PK Z).symm
  rw [this,hf,T]
 ·rw [υ _ _ _ _ U] at X
  exact k.2 b p e Y X
def Gs {α:Type} (M:Model) (Γ:Ctx) (t:Sem α):∀{Q:α->Pos->Á->Prop} {E:Â->Pos->Á->Prop} {p:Pos} {s:Á},bG t->Ĳ M Γ t Q E p s->∀{h0:Ă},Dk h0 s.heap ->
  Ĳ M Γ t (fun a p' s'=>Q a p' s'/\Dk h0 s'.heap) (fun e p' s'=>E e p' s'/\Dk h0 s'.heap) p s:=by
 induction t with
 |pure a=>intro Q E p s d h h0 k;rw [Ĳ] at h |-;exact ⟨h,k⟩
 |raise e=>intro Q E p s d h h0 k;rw [Ĳ] at h |-;exact ⟨h,k⟩
 |unsupported w=>intro Q E p s d h h0 k;rw [Ĳ] at h;exact h.elim
 |finish w=>intro Q E p s d h h0 k;rw [Ĳ] at h;exact h.elim
 |rule t Z ih=>intro Q E p s d h h0 k;rw [Ĳ] at h |-;exact ih () d h k
 | «at» t Z ih=>intro Q E p s d h h0 k;rw [Ĳ] at h |-;exact ih () d h k
 |load a pt Z ih=>intro Q E p s d h h0 k;rw [Ĳ] at h |-;obtain ⟨o,e,h⟩:=h;exact ⟨o,e,ih o (d o) h k⟩
 |loadIfAlive a Z ih=>intro Q E p s d h h0 k;rw [Ĳ] at h |-;exact ih _ (d _) h k
 |point a Z ih=>intro Q E p s d h h0 k;rw [Ĳ] at h |-;exact ih () d h k
 |register a Z ih=>intro Q E p s d h h0 k;rw [Ĳ] at h;exact h.elim
 |fresh Z ih=>intro Q E p s d h h0 k;rw [Ĳ] at h |-;exact ih _ (d _) h k
 |ask Z ih=>intro Q E p s d h h0 k;rw [Ĳ] at h |-;exact ih _ (d _) h k
 |choose a n Z ih=>intro Q E p s d h h0 k;rw [Ĳ] at h |-;exact ⟨h.1,ih _ (d _) h.2 k⟩
 |os a n Z ih=>intro Q E p s d h h0 k;rw [Ĳ] at h |-;exact ih _ (d _) h k
 |call a b c n Z ih=>intro Q E p s d h h0 k;exact ñ d
 |handled a Z ih=>intro Q E p s d h h0 k;rw [Ĳ] at h |-;exact ih _ (d _) h k
 |genState a Z ih=>intro Q E p s d h h0 k;rw [Ĳ] at h |-;obtain ⟨o,e,h⟩:=h;exact ⟨o,e,ih _ (d _) h k⟩
 |newGen a Z ih=>intro Q E p s d h h0 k;rw [Ĳ] at h |-;exact ih _ (d _) h k
 |resume a b c Z ih=>intro Q E p s d h h0 k;exact ñ d
 |yield a b c Z ih=>intro Q E p s d h h0 k;rw [Ĳ] at h;exact h.elim
 |stack Z ih=>intro Q E p s d h h0 k;rw [Ĳ] at h |-;exact ih _ (d _) h k
 |fork a Z ih=>intro Q E p s d h h0 k;rw [Ĳ] at h;exact h.elim
 |thread Z ih=>intro Q E p s d h h0 k;rw [Ĳ] at h |-;exact ih _ (d _) h k
 |await a b c e Z ih=>intro Q E p s d h h0 k;rw [Ĳ] at h;exact h.elim
 |alloc o Z ih=>intro Q E p s d h h0 k;rw [Ĳ] at h |-;exact ih _ (d _) h (k.push o)
 |update a pt f Z ih=>intro Q E p s d h h0 k;rw [Ĳ] at h |-;exact ⟨h.1,ih () d.2 h.2 (k.upd d.1 h.1)⟩
def nR {α:Type} {M:Model} {A:Ù} {t:Sem α} {Q:α->Á->Prop} {E:Â->Á->Prop} {s:Á} (d:bG t) (h:Ö M A t Q E s):Ö M A t (fun a s'=>Q a s'/\Dk s.heap s'.heap) (fun e s'=>E e s'/\Dk s.heap s'.heap) s :=
 fun Z p i=>Gs M Z t d (h Z p i) (Dk.refl _)
def dA {α β:Type} {t:Sem α} {f:α->Sem β} (h:bG t) (g:∀a,bG (f a)):bG (t >>= f):=by
 show bG (t.bind f)
 induction t with
 |pure a=>exact g a
 |raise e=>trivial
 |unsupported w=>trivial
 |finish w=>trivial
 |rule t k ih=>exact ih () h
 | «at» t k ih=>exact ih () h
 |load a p k ih=>exact fun o=>ih o (h o)
 |loadIfAlive a k ih=>exact fun o=>ih o (h o)
 |point a k ih=>exact ih () h
 |register a k ih=>trivial
 |fresh k ih=>exact fun o=>ih o (h o)
 |ask k ih=>exact fun o=>ih o (h o)
 |choose a n k ih=>exact fun o=>ih o (h o)
 |os a n k ih=>exact fun o=>ih o (h o)
 |call a b c n k ih=>exact h.elim
 |handled a k ih=>exact fun o=>ih o (h o)
 |genState a k ih=>exact fun o=>ih o (h o)
 |newGen a k ih=>exact fun o=>ih o (h o)
 |resume a b c k ih=>exact h.elim
 |yield a b c k ih=>trivial
 |stack k ih=>exact fun o=>ih o (h o)
 |fork a k ih=>trivial
 |thread k ih=>exact fun o=>ih o (h o)
 |await a b c e k ih=>trivial
 |alloc o k ih=>exact fun o=>ih o (h o)
 |update a p f k ih=>exact ⟨h.1,ih () h.2⟩
def p0 (v:Â) (i:Nat):bG (field v i):=by
 unfold field fieldsOf;refine dA ?_ fun a=>?_
 ·cases v with
  |ref a =>
   refine dA (fun o=>trivial) fun o=>?_
   split<;>trivial
  |_=>trivial
 ·split<;>trivial
def Gu (g:Array Â->Array Â) (o:Obj):(Obj.mapFields g o).dict=o.dict:=by
 unfold Obj.mapFields
 split<;>rfl
def uT (v:Â) (i:Nat) (x:Â):bG (setField v i x):=by
 unfold setField
 cases v with
 |ref a =>
  show bG (updateField a i x);unfold updateField;refine dA (fun o=>trivial) fun o=>?_;split
  ·split
   ·exact ⟨Gu _,trivial⟩
   ·trivial
  ·trivial
 |_=>trivial
def Jp (ty:String) (vs:List Â):bG (newFields ty vs):=by
 show bG (if vs.toArray.size > Ô+2 then _ else newObjAsIs (.type ty) (.fields vs.toArray))
 split
 ·trivial
 ·exact fun _=>trivial
def tI (e:Â) (f:Option Ì):bG (setFlight e f):=by
 unfold setFlight;refine dA (p0 _ _) fun a=>?_;split
 ·exact uT _ _ _
 ·trivial
theorem zg:∀l:List PySem.Env,bG (readyFrames l)
 | []=>trivial
 |env::outer=>by
  unfold readyFrames;split
  ·refine dA (fun o=>trivial) fun o=>?_
   split
   ·trivial
   ·refine dA ?_ fun b=>dA ?_ fun v=>dA ⟨fun _=>rfl,trivial⟩ fun _=>zg outer
    ·unfold behindIsImport
     split
     ·trivial
     ·split
      ·trivial
      ·exact dA (p0 _ _) fun _=>trivial
    ·cases outer with
     |nil =>
      show bG (if (env.scope.isGenerator||env.scope.isCoroutine)=true then pure Value.none else _)
      split
      ·trivial
      ·exact fun _=>trivial
     |cons _ _=>trivial
  ·trivial
def Gv (env:PySem.Env):bG (frameOf env):=by
 unfold frameOf frameEnvs;refine dA (fun _=>trivial) fun l=>dA ?_ fun r=>?_
 ·generalize l.dropWhile _=Z
  cases Z with
  |nil=>trivial
  |cons a r=>exact dA (zg _) fun _=>trivial
 ·split<;>trivial
def Gw (f:Ì) (b:Bool):bG (entryPlaceOf f b):=by
 unfold entryPlaceOf;refine dA (fun _=>trivial) fun a=>?_
 split<;>trivial
def zW (e:Â) (env:PySem.Env):bG (noteFrame e env):=by
 unfold noteFrame;split
 ·refine dA (p0 _ _) fun Z=>?_
  rename_i L _;have jp:bG (frameOf env >>= fun f=>entryPlaceOf L (Z != Value.none) >>= fun Y=>EntryCells.newEntry Z f Value.none (Ų L) Value.none Y >>= fun b=>setField e 1 b) :=
   dA (Gv env) fun f=>dA (Gw _ _) fun Y=>dA (Jp _ _) fun b=>uT _ _ _
  show bG (if (Z != Value.none)=true then _ else _)
  split
  ·refine dA (p0 _ _) fun x=>?_
   split
   ·trivial
   ·exact dA (uT _ _ _) fun _=>jp
  ·exact jp
 ·trivial
def zh (env:PySem.Env) (e:Â):bG (leaving env e):=by
 unfold leaving;exact dA (zW e env) fun _=>tI _ _
open PySem.Spec PyProof.Rows
structure i9 (P:Ó) (w:î) (outer:List Env) (H:Hp) (s:Á) (H':Hp) (B:Ă) (a:Ì) (cls a0:Â) (h:Ă):Prop where
 fl:Ŷ B outer a cls a0 h
 old:∀b o,s.heap.get? b=some o->H b=none->b∉bp outer->B.get? b=some o
 there:∀b o,s.heap.get? b=some o->b∉bp outer->∃o',B.get? b=some o'
 slot:∀b o,s.heap.get? b=some o->b∈bp outer->∃sl,h.get? b=some { o with slots:=sl }
 aA:bL P w H' B
 free:∀b o,s.heap.get? b=some o->H b=none->H' b=none
 c9:∀b xs,H b=some (.tup xs)->H' b=some (.tup xs)
 cL:∀b o u,H b=some (.aO o u)->H' b=some (.aO o u)
 de:∀b ps,H b=some (.cz ps)->∃more,H' b=some (.cz (ps++more))
def Dm (h:Ă) (a:Ì) (m:Option Ì):Prop:=∀Z,m=some Z->∃o,h.get? a=some o/\o.dict=some Z
def Dm.au (h:Ă) (a:Ì):Dm h a none:=fun _ z=>by cases z
def Dm.on {h h':Ă} {a:Ì} {m:Option Ì} (x:Dm h a m) (k:Dk h h') (t:∃o,h'.get? a=some o):Dm h' a m:=fun X e=>by
 obtain ⟨o,e1,e2⟩:=x X e;obtain ⟨Z,Y⟩:=t;exact ⟨Z,Y,(k.2 a o e1 Z Y).trans e2⟩
def dj (P:Ó) (w:î):gv:=fun outer H s E e Z=>∃a cls X Y B m,e=.ref a/\Z.os=s.os/\Pw Z.gens/\i9 P w outer H s Y B a cls X Z.heap/\Dm Z.heap a m/\E cls m Y
section
variable {P:Ó} {w:î} {outer:List Env} {H H':Hp} {s:Á} {B h h':Ă} {a:Ì} {cls a0:Â}
def i9.un (F:i9 P w outer H s H' B a cls a0 h):Un (bp outer) [] H H' s.heap h where
 keep:=fun b o e n Z _=>F.fl.1 b o (F.old b o e n Z)
 slot:=fun b o e n Z _=>F.slot b o e Z
 free:=fun b o e n _=>F.free b o e n
 there:=fun b o e _=>by
  by_cases Z:b∈bp outer
  ·obtain ⟨X,q⟩:=F.slot b o e Z
   exact ⟨_,q⟩
  ·obtain ⟨Y,q⟩:=F.there b o e Z
   exact ⟨Y,F.fl.1 b Y q⟩
 c9:=F.c9
 cL:=F.cL
 de:=F.de
def i9.held (F:i9 P w outer H s H' B a cls a0 h):bL P w H' h:=F.aA.kept fun b o e=>F.fl.1 b o e
def i9.on (F:i9 P w outer H s H' B a cls a0 h) (hf:Ŷ B outer a cls a0 h') (hs:h.UpToSlots h'):i9 P w outer H s H' B a cls a0 h' :=
 { F with
  fl:=hf
  slot:=fun b o e Z=>by
   obtain ⟨U,q⟩:=F.slot b o e Z;obtain ⟨_,T,Y,X⟩:=F.fl.2.2.1.mem Z;rw [q] at Y;cases Y;obtain ⟨W,V⟩:=hs b _ q X;exact ⟨W,V⟩ }
def cV.KG {o:HO} (x:cV P w H h a o):∃ob,h.get? a=some ob:=by
 cases o with
 |lst Z=>obtain ⟨_,_,_,_,e⟩:=x;exact ⟨_,e⟩
 |tup Z=>obtain ⟨_,_,_,ob,e,_⟩:=x;exact ⟨ob,e⟩
 |dK Y=>obtain ⟨_,_,_,_,o,_,_,e,_⟩:=x;exact ⟨_,e⟩
 |dT Y=>obtain ⟨_,_,_,_,o,_,_,e,_⟩:=x;exact ⟨_,e⟩
 |set S n=>obtain ⟨o,_,_,_,e,_⟩:=x;exact ⟨_,e⟩
 |ins C X fs=>obtain ⟨_,_,_,e,_⟩:=x;exact ⟨_,e⟩
 |own y=>exact x
 |xd fs=>obtain ⟨_,⟨_,_,_,e,_⟩,_⟩:=x;exact ⟨_,e⟩
 |fe lo hi=>obtain ⟨_,_,_,e⟩:=x;exact ⟨_,e⟩
 |aO ob u=>obtain ⟨e,_⟩:=x;exact ⟨_,e⟩
 |cz W=>exact ⟨_,x⟩
 |met f y=>exact ⟨_,x⟩
 |ext V=>obtain ⟨_,e,_⟩:=x;exact e
def i9.new (F:i9 P w outer H s H' B a cls a0 h):H' a=none:=by
 cases e:H' a with
 |none=>rfl
 |some o =>
  obtain ⟨Y,Z⟩:=(F.aA a o e).KG;rw [F.fl.2.1] at Z;cases Z
end
structure Lv (X:Cx) (E:XK):Prop where
 xe:X.xe=fun e s'=>Ö (Ø X.prog X.w) X.A (leaving X.env e) (fun _ iA=>dj X.prog X.w X.outer X.iT X.bV E e iA) (fun e' iA=>dj X.prog X.w X.outer X.iT X.bV E e' iA) s'
 gY:X.stack=X.env::X.outer
 fr:X.env.frame=some X.env.locals
 ex:X.ex=[]
section
variable {X:Cx} {E:XK} {π:List (Ì×Obj)} {σ:St} {H:Hp} {s:Á}
def Inv.mJ (I:Inv X π σ H s) (L:Lv X E) {b:Ì} {o:Obj} (e:X.bV.heap.get? b=some o) (hb:b∉bp X.outer):b∉bp X.stack:=fun z=>by
 rcases á.mp (I.kT b z) with q|q
 ·exact absurd (É e) (by rw [q];exact ζ.mpr I.ok.above)
 ·exact hb q
def p6 (L:Lv X E) {b:Ì} (hb:b∈bp X.outer):b∈bp X.stack:=by
 rw [L.gY];unfold bp;rw [Ő,L.fr];exact Ð _ hb
def eV (L:Lv X E):Passes (dj X.prog X.w) X E:=by
 intro π σ H s e S I h;obtain ⟨a,cls,R,M,B,m,rfl,os,bare,F,K,q⟩:=h;rw [L.xe];have fl:=F.fl;rw [L.gY] at fl
 refine ü (nR (zh _ _) (wpAny_leaves_onW (E:=fun _ _=>False) (Q:=fun _ P=>∃Y,P={ S with heap:=Y }/\Ŷ B X.outer a cls R Y/\S.heap.UpToSlots Y) (by rw [I.ok.frames,L.gY]) L.fr fl fun Y V U=>⟨Y,rfl,V,U⟩)) (fun _ P z=>?_) fun _ _ z=>z.1.elim
 obtain ⟨⟨Y,rfl,V,U⟩,J⟩:=z
 refine ⟨a,cls,R,M,B,m,rfl,os.trans I.os,bare,⟨V,fun b o e n Z=>?_,fun b o e Z=>?_,fun b o e Z=>?_,F.aA,fun b o e n=>?_,fun b O e=>F.c9 b O (I.base.c9 b O e),fun b o u e=>F.cL b o u (I.base.cL b o u e),fun b G e=>?_⟩,K.on J (let ⟨o,e,_⟩:=V.there;⟨o,e⟩),q⟩
 ·exact F.old b o (I.base.keep b o e n Z (by rw [L.ex];simp)) (I.base.free b o e n (by rw [L.ex];simp)) (I.mJ L e Z)
 ·obtain ⟨T,W⟩:=I.base.there b o e (by rw [L.ex];simp)
  exact F.there b T W (I.mJ L e Z)
 ·obtain ⟨v,W⟩:=I.base.slot b o e (I.ok.gZ b Z) Z (by rw [L.ex];simp)
  obtain ⟨t,e2⟩:=F.slot b _ W (p6 L Z);obtain ⟨_,r,N,D⟩:=F.fl.2.2.1.mem (p6 L Z);rw [e2] at N;cases N;obtain ⟨C,A⟩:=U b _ e2 D;exact ⟨C,A⟩
 ·obtain ⟨T,W⟩:=I.base.there b o e (by rw [L.ex];simp)
  exact F.free b T W (I.base.free b o e n (by rw [L.ex];simp))
 ·obtain ⟨y,e1⟩:=I.base.de b G e
  obtain ⟨x,e2⟩:=F.de b _ e1;exact ⟨y++x,by rw [e2,Array.append_assoc]⟩
def EG (L:Lv X E) (I:Inv X π σ H s) {h1:Ă} {e:Ì} {cls:Â} {us:List Â} (hm:Heap.MadeExcOf s.heap h1 e cls us) (q:E cls none H):X.xe (.ref e) { s with heap:=h1 }:=by
 rw [L.xe];have V:=I.stack;have U:∀b u,H b=some u->b∉bp X.stack:=fun b u e z=>by rw [I.nU b z] at e;cases e
 refine wpAny_leaves_madeW (base:=PySem.W.hideAll s.heap (bp X.stack)) (h:=s.heap) (env:=X.env) (outer:=X.outer) (by rw [I.ok.frames,L.gY]) L.fr (fun b o e=>PySem.W.of_hideAll _ e) ?_ hm fun J t S _ _ R=>⟨e,cls,_,H,PySem.W.hideAll s.heap (bp X.stack),none,rfl,I.os,I.bare,⟨S,fun b o e n Z=>?_,fun b o e Z=>?_,fun b o e Z=>?_,fun b u e=>?_,fun b o e n=>I.base.free b o e n (by rw [L.ex];simp),I.base.c9,I.base.cL,I.base.de⟩,Dm.au _ _,q⟩
 ·rw [<- L.gY]
  refine PySem.W.funFrames_hide V fun env Q a P=>?_;unfold bp;exact Ķ.mpr ⟨env,Q,P⟩
 ·exact ŏ _ (I.base.keep b o e n Z (by rw [L.ex];simp)) (I.mJ L e Z)
 ·obtain ⟨O,Y⟩:=I.base.there b o e (by rw [L.ex];simp)
  exact ⟨O,ŏ _ Y (I.mJ L e Z)⟩
 ·obtain ⟨G,Y⟩:=I.base.slot b o e (I.ok.gZ b Z) Z (by rw [L.ex];simp)
  obtain ⟨_,F,T,N⟩:=V.mem (p6 L Z);rw [Y] at T;cases T;obtain ⟨M,K⟩:=R b _ (hm.keeps b _ Y) N;exact ⟨M,K⟩
 ·refine (I.aA b u e).cG (fun c v hc z=>ŏ _ z ?_) (fun _ z=>z) fun _ _ z=>z
  rcases hc with rfl|hc
  ·exact U c _ e
  ·exact U c _ hc
def Jq (X:Cx) (M:Mod X.K X.mg X.base) {x:Str} {C:Ì} {dP:List Â} {newId:String} (eC:Ý X.K Ç x=some (some (.ref C))) (qC:Py X.K C dP newId=true):OwnCls x C dP newId X.mg X.base:=by
 have KB:=M.gn;refine ⟨ė KB M.glob eC,?_⟩;unfold Py at qC;split at qC
 case h_2=>cases qC
 rename_i P cd Y O;split at qC
 case h_2=>cases qC
 rename_i H bm V a1 a2 U nw T S hs;simp only [Å,beq_iff_eq,ů] at qC;obtain ⟨⟨⟨⟨⟨N,L⟩,R⟩,J⟩,Z⟩,Q⟩:=qC;subst N L;cases cd;dsimp only at S R Z Q;subst S R;have I:Y=#[V,a1,a2,U,some (.builtin nw),T]:=by cases Y;simp only at hs;rw [hs]
 subst I;exact ⟨bm,_,_,_,_,_,_,_,_,_,P,V,a1,a2,U,T,_,KB _ _ O,.of_isNs (PySem.W.isNs_of_in KB Z),PySem.W.nsMap_none_of_in KB Z Q,PySem.W.tail_of_in KB J⟩
def Gx {x:Str} {C:Ì} {dP:List Â} {B newId n5:String} {np aV pos:Pos} {ju:ÿ} {rest:List ÿ} {t:TA} (L:Lv X E) (eC:Ý X.K Ç x=some (some (.ref C))) (qC:Py X.K C dP newId=true) (FB:ExcBaseFacts B newId n5 dP) (hc:X.calm=true) (hg:Gl X x) (ha:PA X (ju::rest) t) (hd:(x==("__debug__":Str))=false:=by decide)
  (he:Ä (ju::rest) X.env=(false,Ĕ ju X.env)::Ä rest X.env:=by rfl) (fk:(Ĉ aV (Ä rest X.env)).any (·.1)=false:=by rfl) :
  PS X (.Raise (some (.Call (.Name x np) (ju::rest) [] aV)) none pos) (fun _ σ H=>t σ H fun vs H1=>vs.length<=Ô/\E (.ref C) none H1):=by
 intro π s σ H D I h;have O:OwnCls x C dP newId X.mg X.base:=Jq X I.ok.mod eC qC;obtain ⟨W,N,nm,q,bs,hdct,sn,sub,ab,col,dd,k0,k1,k2,k3,k5,mN,V,U,S,T⟩:=O.obj;refine wpAny_Raise_call_subT (C:=C) (nm:=nm) (q:=q) (N:=N) (bs:=bs) (bm:=W) (hdct:=hdct) (sn:=sn) (sub:=sub) (ab:=ab) (col:=col) (dd:=dd) (k0:=k0) (k1:=k1) (k2:=k2) (k3:=k3) (k5:=k5)
  FB (mN:=mN) (T.hasType FB.hasBase) (I.ok.hd hc) (by rw [he];show (false||(Ĉ aV (Ä rest X.env)).any (·.1))=false;rw [fk];rfl) S (jP I hg O.bound ⟨rfl,?_⟩ hd)
 have Y:=ha aV π s σ H _ I h;rw [he] at Y |-;refine Ż (aM Y fun P M ⟨vs,H1,Z,r,z,R⟩=>⟨rfl,by rw [<- r.length];exact z,Z.bk _ _ V,U.keeps Z.bk,T.keeps Z.bk,fun J e Q=>?_⟩);exact EG L Z Q R
end
end L2
namespace DI
open PySem L2
abbrev GG (K:ô) (mg:Str->Option Â) (x:Str) (st:ŷ) (ps:List Str):Prop:=∃f fd,Gd K mg x st ps f fd
abbrev gG (P:Ó) (w:î) (K:ô) (mg:Str->Option Â) (base:Ă) (x:Str) (st:ŷ) (ps:List Str) (k:Nat) (fn:List D->aa->Res D):Prop:=∀{f:Ì} {fd:ú},Gd K mg x st ps f fd->bK P w K mg base cg k f fd ps (gB K fn)
noncomputable def jv (N ps:List Str) (sc:Ń):Bool:=decide (sc.kind=.function)&&!sc.isCoroutine&&!sc.isGenerator&&decide N.Nodup&&decide (N.take ps.length=ps)&&ps.all (fun x=>decide (sc.names.lookup x=some .local\/sc.names.lookup x=some .cell))&&sc.names.all (fun y=>decide (y.2≠.free))
def fX (h:jv N ps sc=true):je N ps sc:=by
 unfold jv at h;simp only [Å,ů,Ú,đ] at h;obtain ⟨⟨⟨⟨⟨⟨Z,Y⟩,X⟩,W⟩,V⟩,U⟩,T⟩:=h;exact ⟨Z,Y,X,W,V,U,T⟩
def gS (G:Gd K mg x st ps f fd) (N:List Str) (S:jv N ps (bz st)=true)
 (hb:N.Nodup->∀(aD:Â) (A:Ù) (outer:List PySem.Env) (s:Á) (H:Hp) (E:XK),aY k (A.deeper (ć x (bz st) s.heap.objs.size f aD))->bX (ef cg P w K mg base N x (bz st) f aD A outer s H E).jB (dE st) (tS K cu b)) :
  bK P w K mg base cg (k+1) f fd ps (gB K (aI ps.length N.length b)):=Bl G.fn (fX S) (hb (fX S).nd)
section
variable {X:Cx} {Ξ:Wd->aP->Prop} {e a b c tg el src:ÿ} {es rest tests:List ÿ} {pos:Pos} {f g h:PB D} {fa:PB (List D)} {ft gt:PB Bool}
def bI {k n:Nat} {x:Str} {st:ŷ} {ps:List Str} {fn:List D->aa->Res D} {p:Pos} (G:GG X.K X.mg x st ps) (F:gG X.prog X.w X.K X.mg X.base x st ps k fn) (hr:aY n X.A) (ha:PA X (e::es) (tA X.K Ξ fa)) (hk:k<=n:=by decide) (hg:Gl X x:=by rfl) (cN:(x==("__debug__":Str))=false:=by decide)
  (he:Ä (e::es) X.env=(false,Ĕ e X.env)::Ä es X.env:=by rfl) (bP:(Ĉ pos (Ä es X.env)).any (·.1)=false:=by rfl):PE X (.Call (.Name x p) (e::es) [] pos) (tE X.K Ξ (aX fn fa)):=by
 obtain ⟨f,fd,G⟩:=G;exact uO (F G) (hr.mono hk) hg G.mg G.fn.kp G.b ha cN he bP
def bu (ha:PE X a (tE X.K Ξ f)) (hs:Ä [a] X.env=(false,Ĕ a X.env)::Ä [] X.env:=by rfl):PA X [a] (tA X.K Ξ (af f ai)):=bw ha gP hs
def aQ (ha:PE X a (tE X.K Ξ f)) (hb:PE X b (tE X.K Ξ g)) (h1:Ä [a,b] X.env=(false,Ĕ a X.env)::Ä [b] X.env:=by rfl) (h2:Ä [b] X.env=(false,Ĕ b X.env)::Ä [] X.env:=by rfl):PA X [a,b] (tA X.K Ξ (af f (af g ai))):=bw ha (bw hb gP h2) h1
def jj (ha:PE X a (tE X.K Ξ f)) (hb:PE X b (tE X.K Ξ g)) (hc:PE X c (tE X.K Ξ h)) (h1:Ä [a,b,c] X.env=(false,Ĕ a X.env)::Ä [b,c] X.env:=by rfl) (h2:Ä [b,c] X.env=(false,Ĕ b X.env)::Ä [c] X.env:=by rfl) (h3:Ä [c] X.env=(false,Ĕ c X.env)::Ä [] X.env:=by rfl):PA X [a,b,c] (tA X.K Ξ (af f (af g (af h ai)))):=bw ha (bw hb (bw hc gP h3) h2) h1
def wu {x:Str} {px:Pos} {sc:Ń} {ps:Pos} (N:List Str) {cap:List Nat} {it:PB (List D)} (hi:PI X (.Name x px) src (iG X.K Ξ it))
  (hY:∀(cl:List (Str×Ì)) (C:Ì) (s:Á) (H:Hp) (ex:List Ì) (pn:List (Ì×Obj)),PF (dO X N sc cl C s H ex pn) tests (tT X.K cu ft)/\PE (dO X N sc cl C s H ex pn) el (tE X.K cu f))
  (hc:X.calm=true:=by rfl) (S:uS sc X.env.scope.names X.N N 1 cap=true:=by kernel_rfl) (nd:N.Nodup:=by decide +kernel) (h0:N[0]?=some x:=by rfl) (hx:∀cl C s H ex pn,(dO X N sc cl C s H ex pn).env.scope.names.lookup x=some .local:=by intros;rfl) (hs:∀x,Ğ src X.env x=pure x:=by intro _;rfl) :
  PE X (.ListComp el [⟨.Name x px,src,tests,0⟩] sc ps) (tE X.K Ξ (gQ 1 cap it (gN 0) ft f)) :=
 Hx hc (ot S) (qi 0) hi (fun cl C s H ex pn=>⟨kQ nd h0 (.inl (hx cl C s H ex pn)) (.inr (hx cl C s H ex pn)),hY cl C s H ex pn⟩) hs
end
def cX (mg:Str->Option Â) (E:XK):Wd->aP->Prop:=fun w x=>∃C,mg x.c=some (.ref C)/\match x.many with
 |none=>E (.ref C) none w.H
 |some i=>∀Z Y t,w.H Z=none->ņ "many" Y=some (some (.int i t))->E (.ref C) (some Z) (upd w.H Z (.aO Y (.own Z)))
def kG (mg:Str->Option Â) (K:ô) (f:List D->aa->Res D):Sp:=fun X H Q E=>∃w Z,w.H=H/\aH K w/\ar K w Z X/\Out K (cX mg E) w (f Z w.aw) fun Y d=>∀v,DV K Y d v->Q v Y.H
def k8 (c:Str) (fa:PB (List D)):PB Fl:=fun env s=>aj (fa env s) fun Z s=>if decide (Z.length<=10)=true then some (.error ⟨c,none⟩,s) else none
def oS (K:ô) (mg:Str->Option Â) (x:Str):Prop:=∃C,Ý K Ç x=some (some (.ref C))/\mg x=some (.ref C)/\Py K C [.type "ValueError",.type "Exception",.type "BaseException",.type "object"] "ValueError.__new__"=true
def bE (fn:List D->aa->Res D) (fa:PB (List D)):PB D:=fun env s=>aj (fa env s) fn
section
variable {X:Cx} {E:XK} {Ξ:Wd->aP->Prop} {e a b c:ÿ} {es rest:List ÿ} {pos:Pos} {f g h:PB D} {fa:PB (List D)}
def qm {x:Str} {np aV:Pos} {ju:ÿ} (L:Lv X E) (hO:oS X.K X.mg x) (ha:PA X (ju::rest) (tA X.K (cX X.mg E) fa)) (hc:X.calm=true:=by rfl) (hg:Gl X x:=by rfl) (hd:(x==("__debug__":Str))=false:=by decide)
  (he:Ä (ju::rest) X.env=(false,Ĕ ju X.env)::Ä rest X.env:=by rfl) (fk:(Ĉ aV (Ä rest X.env)).any (·.1)=false:=by rfl) :
  PS X (.Raise (some (.Call (.Name x np) (ju::rest) [] aV)) none pos) (tS X.K (cX X.mg E) (k8 x fa)) :=
 let ⟨C,eC,V,U⟩:=hO
 ie (Gx L eC U PySem.F.excBase_ValueError hc hg ha hd he fk) fun N σ H T=>by
  obtain ⟨w,env,R,S,Q,h⟩:=T;subst R;refine ⟨w,env,rfl,S,Q,(Out.aj h).mono fun W M J P Z I O=>?_⟩;split at Z
  ·rename_i Y
   have Y:=í Y;obtain ⟨G,e1,q⟩:=Z W (Le.refl W) P rfl;rw [V] at e1;cases e1;exact ⟨ç (by rw [<- O.length];exact Y) (by decide),q⟩
  ·exact Z.elim
def HC {k:Nat} {fA:Ì} {fd:ú} {pB:List Str} {fn:List D->aa->Res D} {x:Str} {p:Pos} (L:Passes (dj X.prog X.w) X E) (F:bK X.prog X.w X.K X.mg X.base (dj X.prog X.w) k fA fd pB (kG X.mg X.K fn)) (hr:aY k X.A) (hg:Gl X x) (hm:X.mg x=some (.ref fA)) (hk:ĕ X.K (.ref fA)=true) (hb:Binds X.K fd pB [])
  (ha:PA X (e::es) (tA X.K (cX X.mg E) fa)) (cN:(x==("__debug__":Str))=false:=by decide) (he:Ä (e::es) X.env=(false,Ĕ e X.env)::Ä es X.env:=by rfl) (bP:(Ĉ pos (Ä es X.env)).any (·.1)=false:=by rfl) :
  PE X (.Call (.Name x p) (e::es) [] pos) (tE X.K (cX X.mg E) (bE fn fa)):=cb (zA F hr hg hm hk hb .nil L ha cN he bP) fun σ H Q Y=>by
 obtain ⟨w,env,W,S,V,h⟩:=Y;subst W;refine ⟨w,env,rfl,S,V,(Out.aj h).mono fun Z U N T R P O=>?_⟩;show kG X.mg X.K fn (P++[]) Z.H Q E;rw [Č];exact ⟨Z,U,rfl,T,O,R⟩
def AE {α:Type} {K:ô} {w:Wd} {r:Res α} {k:Wd->α->Prop} (h:Out K cu w r k):Out K Ξ w r k:=by
 match r,h with
 |some (.ok a,s),h=>exact h
 |some (.error x,s),h=>exact fun Z l S e=>(h Z l S e).elim
def uU:Passes (dj X.prog X.w) X E0:=fun _ _ _ _ _ _ _ ⟨_,_,_,_,_,_,_,_,_,_,_,q⟩=>q.elim
end
def mK {P:Ó} {w:î} {K:ô} {mg:Str->Option Â} {base:Ă} {x:Str} {st:ŷ} {f:Ì} {fd:ú} {ps:List Str} {k:Nat} {b:PB Fl} (G:Gd K mg x st ps f fd) (N:List Str) (S:jv N ps (bz st)=true)
  (hb:N.Nodup->∀(aD:Â) (A:Ù) (outer:List PySem.Env) (s:Á) (H:Hp) (E:XK),aY k (A.deeper (ć x (bz st) s.heap.objs.size f aD))->Lv (ef (dj P w) P w K mg base N x (bz st) f aD A outer s H E) E->bX (ef (dj P w) P w K mg base N x (bz st) f aD A outer s H E) (dE st) (tS K (cX mg E) b)) :
  bK P w K mg base (dj P w) (k+1) f fd ps (kG mg K (aI ps.length N.length b)):=by
 obtain ⟨J,I,kV,doc,pm,an,aD,ct,F,rfl,lk,V⟩:=G.fn.ex;refine qX lk V (fX S) (fun U H Q E h=>?_) fun A outer s H U Q E T h=>?_
 ·obtain ⟨w,R,rfl,S,Y,h⟩:=h
  rw [<- Y.length];unfold aI at h;split at h
  ·assumption
  ·exact h.elim
 ·obtain ⟨X,R,rfl,O,Y,h⟩:=h
  refine ⟨_,hb (fX S).nd aD A outer s X.H E T ⟨rfl,rfl,rfl,rfl⟩,?_⟩;unfold aI at h;split at h
  ·rename_i M
   rw [<- M] at h;refine ⟨X,_,rfl,O,Y.env N.length,(Out.aj h).mono fun D L C W Z=>?_⟩
   cases L with
   |nx env=>intro B _;exact ay W Z _ rfl
   |rt d=>have q:=ay W Z;exact q
   |bk env=>exact Z.elim
   |ct env=>exact Z.elim
  ·exact h.elim
end DI
namespace L2
open PySem PySem.Spec PyProof.Rows PySem.W
structure KH (env:Env) (names:List (Str×Į)) (cl:List (Str×Ì)):Prop where
 ou:∀x c,cl.lookup x=some c->env.cells.lookup x=some c
 all:∀x,(x,Ü)∈names->∃c,cl.lookup x=some c
theorem tX {env:Env}:∀(names:List (Str×Į)) (acc:List (Str×Ì)),(∀x,(x,Ü)∈names->∃c,env.cells.lookup x=some c)->(∀x c,acc.lookup x=some c->env.cells.lookup x=some c) ->
  ∃cl,(forIn names acc fun (p:Str×Į) (r:List (Str×Ì))=>(match p with | (name,kind)=>if kind==.free then (do let c <- cellOf env name;pure (Ď ((name,c)::r))) else pure (Ď r):Sem (ForInStep (List (Str×Ì)))))=pure cl /\
   (∀x c,cl.lookup x=some c->env.cells.lookup x=some c)/\(∀x,(x,Ü)∈names->∃c,cl.lookup x=some c)/\∀x c,acc.lookup x=some c->∃c,cl.lookup x=some c
 | [],acc,_,Y=>⟨acc,by simp,Y,fun _ h=>(Ą h).elim,fun x c h=>⟨c,h⟩⟩
 |(y,k)::r,acc,W,Y=>by
  by_cases V:k=.free
  ·subst V
   obtain ⟨c,e⟩:=W y ä;have Q:∀x Z,((y,c)::acc).lookup x=some Z->env.cells.lookup x=some Z:=fun x Z h=>by
    rw [ø] at h;split at h
    ·rename_i q
     have q:x=y:=by simpa using q
     cases h;rw [q];exact e
    ·exact Y x Z h
   obtain ⟨cl,U,T,S,X⟩:=tX r ((y,c)::acc) (fun x h=>W x (Ð _ h)) Q;have R:∃c,cl.lookup y=some c:=X y c (by rw [ø];simp);refine ⟨cl,?_,T,fun x h=>?_,fun x Z h=>?_⟩
   ·rw [Ţ]
    simp only [Đ,Ę,cellOf,e,pure_bind];exact U
   ·rcases á.mp h with q|q
    ·cases q;exact R
    ·exact S x q
   ·by_cases q:x=y
    ·rw [q];exact R
    ·exact X x Z (by rw [ø,show (x==y)=false by simpa using q];exact h)
  ·obtain ⟨cl,U,T,S,X⟩:=tX r acc (fun x h=>W x (Ð _ h)) Y
   refine ⟨cl,?_,T,fun x h=>?_,X⟩
   ·rw [Ţ]
    have P:(k==Ü)=false:=by simpa using V
    simp only [P,Í,ā,pure_bind];exact U
   ·rcases á.mp h with q|q
    ·cases q;exact absurd rfl V
    ·exact S x q
def Gy {env:Env} {scope:Ń} (hc:∀x,(x,Ü)∈scope.names->∃c,env.cells.lookup x=some c):∃cl,closureFor scope env=pure cl/\KH env scope.names cl:=by
 obtain ⟨cl,Z,Y,X,_⟩:=tX scope.names [] hc (fun x c h=>by cases h);refine ⟨cl,?_,Y,X⟩;unfold closureFor;simp only [pure_bind,bind_pure];exact Z
noncomputable abbrev qJ (q:Str) (params:Š) (body:ÿ) (scope:Ń) (cl:List (Str×Ì)) (pm:Â) (c':Ì) (fD:Â):Obj:=kla_obj "<lambda>" q params body scope cl pm c' fD
section
variable {X:Cx} {π:List (Ì×Obj)} {σ:St} {H:Hp} {s:Á}
def Inv.table {P c':Ì} {ps sD:Array Â} {oc:Obj} {h':Ă} {t':Nat} (I:Inv X π σ H s) (hP:H P=some (.cz ps)) (hx:Heap.ExtBut P s.heap h') (hc:s.heap.objs.size<=c') (jz:h'.get? c'=some oc) (ht:h'.get? P=some (tabObj (ps++sD))) :
  Inv X π σ (upd (upd H c' (.aO oc (.own c'))) P (.cz (ps++sD))) { s with heap:=h',toks:=t' }:=by
 have Y:H c'=none:=I.aA.fresh hc;have U:c'≠P:=fun z=>by rw [z,hP] at Y;cases Y
 have ne:∀b u,H b=u->u≠some (.cz ps)->b≠P:=fun b u e d z=>by rw [z,hP] at e;exact d e.symm
 have at_:∀b u,H b=some u->b≠P->upd (upd H c' (.aO oc (.own c'))) P (.cz (ps++sD)) b=some u:=fun b u e n=>by rw [aG n,aG (bM e Y)];exact e
 refine I.un ⟨fun b o e n _ _=>hx b o (ne b _ n (by intro z;cases z)) e,fun b o e n _ _=>⟨o.slots,hx b o (ne b _ n (by intro z;cases z)) e⟩,fun b o e n _=>?_,fun b o e _=>?_,fun b V e=>at_ b _ e (ne b _ e (by intro z;cases z)),fun b o u e=>at_ b _ e (ne b _ e (by intro z;cases z)),fun b T e=>?_⟩ fun b u e=>?_
 ·rw [aG (ne b _ n (by intro z;cases z)),aG (â (Æ (É e) hc))];exact n
 ·by_cases Z:b=P
  ·exact ⟨_,Z ▸ ht⟩
  ·exact ⟨o,hx b o Z e⟩
 ·by_cases Z:b=P
  ·subst Z
   rw [hP] at e;cases e;exact ⟨sD,bZ⟩
  ·exact ⟨#[],by rw [at_ b _ e Z];simp⟩
 ·by_cases Z:b=P
  ·subst Z
   rw [bZ] at e;cases e;exact ht
  ·rw [aG Z] at e
   by_cases W:b=c'
   ·subst W
    rw [bZ] at e;cases e;exact ⟨jz,oc,jz⟩
   ·rw [aG W] at e
    refine (I.aA b u e).cG (fun c v hc q=>hx c v ?_ q) (fun c q=>at_ c _ q (ne c _ q (by intro z;cases z))) fun c V q=>at_ c _ q (ne c _ q (by intro z;cases z))
    rcases hc with z|z
    ·rw [z];exact Z
    ·exact ne c _ z (by intro z;cases z)
def Gz {params:Š} {body:ÿ} {scope:Ń} {er:Pos} {cl:List (Str×Ì)} {c P:Ì} {ps:Array Â} {E:Â->Á->Prop} {A:Ù} {Q:Â->Á->Prop} (I:Inv X π σ H s) (cQ:closureFor scope X.env=pure cl) (rg:X.env.code=.ref c) (C:CodeHd X.base c P) (hb:X.base.BuiltinsAt X.mg P)
  (hP:H P=some (.cz ps)) (ht:TriplesOk ps.toList) (wx:defaultsOf params X.env=([],[]))
  (Mb:∀cv,codeAmong er ps.toList=some cv->∃c' oc vs t,cv=.ref c'/\H c'=some (.aO oc (.own c'))/\oc.data=.fields vs/\vs[1]?=some (.str (X.env.qual++"<lambda>") t))
  (h:∀(f c':Ì) (fD:Â) (oc:Obj) (vs:Array Â) (t:Tok) (H1:Hp) (s1:Á),Inv X π σ H1 s1->s.heap.objs.size<=f->H1 f=none->s1.heap.get? f=some (qJ (X.env.qual++"<lambda>") params body scope cl ((X.mg "__name__").getD .none) c' fD)->H1 c'=some (.aO oc (.own c'))->oc.data=.fields vs->vs[1]?=some (.str (X.env.qual++"<lambda>") t) ->
   (H1=H\/(H c'=none/\c'≠P/\H1=upd (upd H c' (.aO oc (.own c'))) P (.cz (ps++#[Ų er.line,Ų er.col,.ref c']))/\TriplesOk (ps++#[Ų er.line,Ų er.col,.ref c']).toList))->Q (.ref f) s1) :
  Ö (Ø X.prog X.w) A (Ĕ (.Lambda params body scope er) X.env) Q E s:=by
 have Y:s.heap.get? P=some (tabObj ps):=I.aA P _ hP;have M:CodeHd s.heap c P:=C.keeps I.bk
 have L:s.heap.BuiltinsAt X.mg P:=let ⟨bm,o,a1,a2,G,F,D,r⟩:=hb;⟨bm,o,a1,a2,G,F,I.bk _ _ D,r⟩
 have W:s.heap.Ns Ç X.mg:=I.ok.mod.glob.keeps I.bk;have B:Ç≠P:=fun q=>by
  obtain ⟨o,g,d,e,V,_⟩:=W;rw [q,Y] at e;cases e;cases V
 refine kla_eval wx ?_
 cases U:codeAmong er ps.toList with
 |some cv =>
  obtain ⟨c',oc,vs,t,rfl,y,x,v⟩:=Mb cv U;refine kla_makeFunctionHit cQ I.ok.glob W rg M Y ht U L fun fD h' T u Z=>?_
  have S:Inv X π σ H { s with heap:=h'.push (qJ (X.env.qual++"<lambda>") params body scope cl ((X.mg "__name__").getD .none) c' fD),toks:=T }:=I.kept fun b o e=>Ã _ (u b o e)
  exact h _ c' fD oc vs t H _ S Z (I.aA.fresh Z) (Ï _ rfl) y x v (.inl rfl)
 |none =>
  refine kla_makeFunction cQ I.ok.glob W rg M Y ht U B L fun c' fD h' T p R K m l=>?_;obtain ⟨c₂,oc,vs,t,e2,k,V,j⟩:=m;cases e2;have O:H c'=none:=I.aA.fresh R;have J:c'≠P:=fun z=>by rw [z,hP] at O;cases O
  have S:=I.table (t':=T) hP (h':=h'.push (qJ (X.env.qual++"<lambda>") params body scope cl ((X.mg "__name__").getD .none) c' fD)) (fun b o n e=>Ã _ (p b o n e)) R (Ã _ k) (Ã _ l);have N:s.heap.objs.size<=h'.objs.size:=ç R (Nat.le_of_lt K);have i:h'.objs.size≠P:=fun z=>by have:=É Y;rw [<- z] at this;exact absurd (Æ this N) (ð _)
  refine h _ c' fD oc vs t _ _ S N ?_ (Ï _ rfl) ?_ V j (.inr ⟨O,J,rfl,?_⟩)
  ·rw [aG i,aG (ĺ K)];exact I.aA.fresh N
  ·rw [aG J,bZ]
  ·rw [Array.toList_append]
   exact TriplesOk_snoc _ _ _ _ ht
end
def Fo {pos:Pos} {c cv:Â} {a b:Int} (l:List Â) (h:TriplesOk l) (e:codeAmong pos (l++[Ų a,Ų b,c])=some cv):codeAmong pos l=some cv\/cv=c:=by
 fun_induction TriplesOk l with
 |case1 =>
  simp only [Ġ,codeAmong,Ų] at e;split at e
  ·cases e;exact .inr rfl
  ·cases e
 |case2 a t b u x rest ih =>
  simp only [Ě,codeAmong] at e |-;split
  ·rename_i q;rw [ã q] at e;exact .inl e
  ·rename_i q;rw [ë q] at e;exact ih h e
 |case3 l Z Y=>exact h.elim
def nG (P:Ó) (w:î) (K:ô) (mg:Str->Option Â) (base:Ă) (N:List Str) (qual:Str) (scope:Ń) (f:Ì) (cd:Â) (cl:List (Str×Ì)) (A:Ù) (outer:List Env) (s:Á) (H:Hp) (E:XK):Cx where
 prog:=P
 w:=w
 K:=K
 mg:=mg
 base:=base
 A:=A.deeper (envX qual scope s.heap.objs.size f cd cl)
 N:=N
 bV:=s
 iT:=H
 env:=envX qual scope s.heap.objs.size f cd cl
 outer:=outer
 stack:=envX qual scope s.heap.objs.size f cd cl::outer
 ex:=[]
 calm:=true
 fn:=fun _=>false
 pn:=[]
 xe:=fun e Y=>Ö (Ø P w) (A.deeper (envX qual scope s.heap.objs.size f cd cl)) (leaving (envX qual scope s.heap.objs.size f cd cl) e) (fun _ Z=>dj P w outer H s E e Z) (fun X Z=>dj P w outer H s E X Z) Y
structure GA (N:List Str) (scope:Ń):Prop where
 co:scope.isCoroutine=false
 gen:scope.isGenerator=false
 kind:scope.kind=.function
 uI:∀x∈scope.names,x.2≠.cell
def Jr {P:Ó} {w:î} {K:ô} {mg:Str->Option Â} {base:Ă} {k:Nat} {f c':Ì} {N:List Str} {q:Str} {params:Š} {body:ÿ} {scope:Ń} {cl:List (Str×Ì)} {pm fD:Â} {vs:List V} {t:XK->TE} {oc:Obj} {fs:Array Â} {tq:Tok}
  (S:GA N scope) (ho:base.get? f=some (qJ q params body scope cl pm c' fD)) (hl:N.length=vs.length)
  (inj:∀x y c,cl.lookup x=some c->cl.lookup y=some c->x=y) (has:∀x,scope.names.lookup x=some .free->∃c,cl.lookup x=some c) (la:∀x c,cl.lookup x=some c->∃v,base.IsCell c v)
  (hv:∀(i:Nat) x v,N[i]?=some x->vs[i]?=some v->scope.names.lookup x=some .free/\∃c u,cl.lookup x=some c/\base.IsCell c (some u)/\RelV v u)
  (fE:oc.data=.fields fs) (gE:fs[1]?=some (.str q tq))
  (ij:∀(A:Ù) (outer:List Env) (s:Á) (H:Hp) (E:XK),aY k (A.deeper (envX q scope s.heap.objs.size f (.ref c') cl))->Lv (nG P w K mg base N q scope f (.ref c') cl A outer s H E) E->PE (nG P w K mg base N q scope f (.ref c') cl A outer s H E) body (t E)) :
  bK P w K mg base (dj P w) (k+1) f (kla_fn "<lambda>" q params body scope cl pm (.ref c') fD) [] (fun us H Q E=>us=[]/\H c'=some (.aO oc (.own c'))/\t E (vs.map some) H Q):=by
 refine ⟨fun us H Q E h=>by rw [h.1];rfl,fun A outer s H args us NG Q E W Z R r O=>?_⟩;obtain ⟨_,M,L⟩:=O;have lim:s.heap.NoLimit:=Z.mod.nolimit.keeps fun b o e=>(Z.bs b o e).1;have bk:∀b o,base.get? b=some o->s.heap.get? b=some o:=fun b o e=>(Z.bs b o e).1;have G:s.heap.CodeRec (.ref c') q:=⟨c',oc,fs,tq,rfl,(Z.aA c' _ M).1,fE,gE⟩;refine kla_callFunE W.depth (bk _ _ ho) rfl S.co S.gen rfl G (R _ _ _ _ ?_);refine wpAny_newFunctionEnv S.uI (fun x F=>absurd F (by simp)) (fun T D C=>?_) S.kind;have Y:∀b o,s.heap.get? b=some o->T.get? b=some o:=fun b o e=>C.extBut b o (â (É e)) (Ã _ e);refine ⟨lim.keeps Y,?_⟩;show Ū _ _ (.expr body (envX q scope s.heap.objs.size f (.ref c') cl)) _ _;have B:aY k (A.deeper (envX q scope s.heap.objs.size f (.ref c') cl)):=W.deeper _;have n:∀c v,base.IsCell c v->H c=none:=fun c v ⟨o,e,_⟩=>(Z.bs c o e).2;have U:∀b:Ì,b∉(nG P w K mg base N q scope f (.ref c') cl A outer s H E).ex:=fun b z=>absurd (show b∈([]:List Ì) from z) (by simp)
 have I:Inv (nG P w K mg base N q scope f (.ref c') cl A outer s H E) [] (vs.map some) H { s with heap:=T,toks:=s.toks+([]:List (Str×Â)).length }:=by
  refine ⟨⟨Z.mod,S.kind,rfl,rfl,PJ _,inj,fun y hy=>?_,fun y c h=>absurd h Î,fun _=>W.hd,Around.frames_deeper Z.frames,.inr ⟨rfl,rfl⟩,fun b z=>absurd z (U b),Z.bs,Z.gp,fun b _ _=>U b,fun b z=>absurd z (U b),Z.fq,Z.gZ⟩,
   rfl,Z.bare,Un.kept Y,⟨_,D,fun i y v m X h3=>?_⟩,fun y c h=>?_,Z.aA.fresh (PJ _),fun y c h=>?_,fun p l=>absurd (show p∈([]:List (Ì×Obj)) from l) (by simp),Z.aA.kept Y,?_⟩
  ·have hy:scope.names.lookup y=some .cell\/scope.names.lookup y=some .free:=hy
   rcases hy with hy|hy
   ·exact absurd rfl (S.uI _ (ą hy))
   ·exact has y hy
  ·have j:vs[i]?=some v:=by
    rw [û] at X
    cases e:vs[i]? with
    |none=>rw [e] at X;cases X
    |some a=>rw [e] at X;cases X;rfl
   obtain ⟨g,c,u,e1,e2,d⟩:=hv i y v m j;exact ⟨u,d,.inr ⟨.inr g,c,e1,(e2.keeps bk).keeps Y⟩⟩
  ·obtain ⟨v,e⟩:=la y c h
   exact ⟨v,(e.keeps bk).keeps Y⟩
  ·obtain ⟨v,e⟩:=la y c h
   exact n c v e
  ·rw [ß];exact hl.symm
 refine kla_codeExpr (ü (ij A outer s H E B ⟨rfl,rfl,rfl,rfl⟩ [] _ (vs.map some) H Q I L) (fun u s' h=>?_) fun e s' h=>h);obtain ⟨v,H',J,rv,z⟩:=h;exact ⟨v,H',J.os,J.bare,J.base,J.aA,rv,z⟩
end L2
namespace DI
open PySem L2 PySem.W
def KL (pre:Hp->Prop):Prop:=∀H Z:Hp,(∀b o u,H b=some (.aO o u)->Z b=some (.aO o u))->pre H->pre Z
def sG (P:Ó) (w:î) (K:ô) (mg:Str->Option Â) (base:Ă) (k:Nat) (pre:Hp->Prop) (f:Ì) (vs:List V) (ds:List D) (th:aa->Res D):Prop :=
 KL pre/\∃fd,(∃o,base.get? f=some o/\o.data=.func fd)/\Binds K fd [] [] /\
  bK P w K mg base (dj P w) k f fd [] (fun X H Q E=>X=[]/\pre H/\∃Z:Wd,Z.H=H/\aH K Z/\ar K Z ds vs/\Out K (cX mg E) Z (th Z.aw) fun Y d=>∀v,DV K Y d v->Q v Y.H)
def nH (cl:D) (th:aa->Res D) (i:Nat):PB D:=fun env s=>open Classical in if env[i]?=some (some cl) then th s else none
section
variable {X:Cx} {E:XK} {Ξ:Wd->aP->Prop} {pos:Pos}
end
def spT (K:ô) (pre:Hp->Prop) (cl:D) (fn:List D->aa->Res D):Sp:=fun Y H Q _=>pre H/\∃w:Wd,w.H=H/\aH K w/\ar K w [cl] Y/\Out K cu w (fn [cl] w.aw) fun Z d=>∀v,DV K Z d v->Q v Z.H
def KN {P:Ó} {w:î} {K:ô} {mg:Str->Option Â} {base:Ă} {x:Str} {st:ŷ} {f:Ì} {fd:ú} {ps:List Str} {k:Nat} {b:PB Fl} {pre:Hp->Prop} {cl:D} (G:Gd K mg x st ps f fd) (N:List Str) (S:jv N ps (bz st)=true)
  (hb:N.Nodup->∀(aD:Â) (A:Ù) (outer:List PySem.Env) (s:Á) (H:Hp) (E:XK),pre H->aY k (A.deeper (ć x (bz st) s.heap.objs.size f aD))->bX (ef cg P w K mg base N x (bz st) f aD A outer s H E).jB (dE st) (tS K cu b)) :
  bK P w K mg base cg (k+1) f fd ps (spT K pre cl (aI ps.length N.length b)):=by
 refine G.fn.ok (fX S) (fun W H Q E h=>?_) (fun aD A outer s H W Q E V h=>?_)
 ·obtain ⟨_,w,rfl,S,Y,h⟩:=h
  rw [<- Y.length];unfold aI at h;split at h
  ·assumption
  ·exact h.elim
 ·obtain ⟨U,w,rfl,T,Y,h⟩:=h
  refine ⟨_,hb (fX S).nd aD A outer s w.H E U V,?_⟩;unfold aI at h;split at h
  ·rename_i R
   rw [<- R] at h;refine ⟨w,_,rfl,T,Y.env N.length,(Out.aj h).mono fun M O L X Z=>?_⟩
   cases O with
   |nx env=>intro J _;exact ay X Z _ rfl
   |rt d=>have q:=ay X Z;exact q
   |bk env=>exact Z.elim
   |ct env=>exact Z.elim
  ·exact h.elim
def jm (env:Env):List Nat->Option (List D)
 | []=>some []
 |i::r=>match env[i]?,jm env r with
  |some (some d),some Z=>some (d::Z)
  |_,_=>none
theorem zi {K:ô} {w:Wd} {env:Env} {σ:St} (eo:bF K w env σ):∀{caps:List Nat} {ds:List D},jm env caps=some ds->∃vs,ar K w ds vs/\∀(i:Nat) j v,caps[i]?=some j->vs[i]?=some v->σ[j]?=some (some v)
 | [],ds,h=>by cases h;exact ⟨[],rfl,fun i j v h=>by simp at h⟩
 |j::r,ds,h=>by
  unfold jm at h;split at h
  ·rename_i d R e1 e2
   cases h;obtain ⟨v,X,W⟩:=eo.val j d e1;obtain ⟨vs,V,U⟩:=zi eo e2;refine ⟨v::vs,⟨v,vs,rfl,W,V⟩,fun i T S Z Y=>?_⟩
   cases i with
   |zero=>cases Z;cases Y;exact X
   |succ i=>exact U i T S (by simpa using Z) (by simpa using Y)
  ·cases h
def iZ (x:Str) (caps:List Nat) (fb:PB D) (g:D->(aa->Res D)->List D->aa->Res D):PB D:=fun env s=>match (jm env caps:Option (List D)) with
 |some Z=>match (s[0]?:Option Cell) with
  |some (.tb y)=>if decide (y=x)=true then ne (g .au (fb (Z.map some)) [.au] s) else none
  |_=>none
 |none=>none
noncomputable def AF (dN N:List Str) (caps:List Nat) (C7 sc:Ń):Bool:=decide (sc.kind=.function)&&!sc.isCoroutine&&!sc.isGenerator&&sc.names.all (fun y=>decide (y.2≠.cell))&&decide (N.length=caps.length) &&
 (N.zip caps).all (fun p=>decide (dN[p.2]?=some p.1)&&decide (C7.names.lookup p.1=some .cell)&&decide (sc.names.lookup p.1=some .free))&&sc.names.all (fun y=>decide (y.2≠.free)||decide (C7.names.lookup y.1=some .cell))
abbrev C8 (P:Ó) (w:î) (K:ô) (mg:Str->Option Â) (x:Str) (st:ŷ) (ps:List Str) (k kt:Nat) (g:D->(aa->Res D)->List D->aa->Res D):Prop :=
 ∀{base:Ă} {pre:Hp->Prop} {f:Ì} {vs:List V} {ds:List D} {th:aa->Res D},sG P w K mg base kt pre f vs ds th->∀{gA:Ì} {fd:ú},Gd K mg x st ps gA fd->bK P w K mg base cg k gA fd ps (spT K pre (.bO f vs ds) (g (.bO f vs ds) th))
section
variable {X:Cx} {Ξ:Wd->aP->Prop} {pos:Pos}
def j7 (X:Cx) (H:Hp) (s:Á):Ă:=hideAll s.heap (bp X.stack++nv s.heap H)
def pS {H:Hp} {s:Á} {b:Ì} {o:Obj} (e:s.heap.get? b=some o) (n:H b=none) (hf:b∉bp X.stack):(j7 X H s).get? b=some o:=hideAll_get _ e fun z=>by
 rcases ĩ.mp z with z|z
 ·exact hf z
 ·unfold nv at z
  have:=(η.mp z).2;rw [n] at this;cases this
def zj {H:Hp} {s:Á} {b:Ì} {o:Obj} (e:(j7 X H s).get? b=some o):s.heap.get? b=some o/\H b=none/\b∉bp X.stack:=by
 have e1:=of_hideAll _ e;refine ⟨e1,?_,fun z=>?_⟩
 ·cases q:H b with
  |none=>rfl
  |some u =>
   have:(j7 X H s).get? b=none:=hideAll_none _ (è _ (η.mpr ⟨Ņ.mpr (É e1),by rw [q];rfl⟩));rw [e] at this;cases this
 ·have:(j7 X H s).get? b=none:=hideAll_none _ (ħ _ z)
  rw [e] at this;cases this
def _root_.L2.Inv.Js {π:List (Ì×Obj)} {σ:St} {H:Hp} {s:Á} (I:Inv X π σ H s):∀b o,X.base.get? b=some o->(j7 X H s).get? b=some o:=fun b o e=>pS (I.bs b o e).1 (I.bs b o e).2 fun z=>by
 have:=(I.stack.mem z).1;rw [e] at this;cases this
def _root_.L2.Inv.KO {π:List (Ì×Obj)} {σ:St} {H:Hp} {s:Á} (I:Inv X π σ H s):jo X.prog X.w X.K X.mg (j7 X H s) X.A X.stack s H:=by
 have k:=I.Js;refine ⟨I.ok.frames,⟨I.ok.mod.gn.keeps k,I.ok.mod.glob.keeps k,?_,I.ok.mod.nolimit.keeps k⟩,fun b o e=>⟨(zj e).1,(zj e).2.1⟩,Nat.le_of_eq (hideAll_size _ _),?_,I.nU,I.aA,I.bare⟩
 ·obtain ⟨Z,Y,W⟩:=I.ok.mod.blt
  exact ⟨Z,Y.keeps k,W⟩
 ·refine funFrames_hide I.stack fun env V a U=>ħ _ ?_
  unfold bp;exact Ķ.mpr ⟨env,V,U⟩
def rj {x g:Str} {p er:Pos} {params:Š} {body:ÿ} {sc:Ń} {c P:Ì} {C9:ŷ} {Dc:List Str} {k n kb:Nat} {gf:D->(aa->Res D)->List D->aa->Res D} {fb:PB D} (N:List Str) {caps:List Nat}
  (rg:X.env.code=.ref c) (Bw:X.env.qual=x++".<locals>.") (ht:tabIn X.K x=some (c,P)) (hC:codeHdIn X.K c P=true) (hb:X.base.BuiltinsAt X.mg P)
  (G:GG X.K X.mg g C9 Dc) (F:C8 X.prog X.w X.K X.mg g C9 Dc k (kb+1) gf) (Me:∀cl th s,gf cl th [cl] s=gf .au th [.au] s) (hr:aY n X.A)
  (ij:∀(base:Ă) (q:Str) (f:Ì) (cd:Â) (cl:List (Str×Ì)) (A:Ù) (outer:List PySem.Env) (s:Á) (H:Hp) (E:XK),aY kb (A.deeper (envX q sc s.heap.objs.size f cd cl))->Lv (nG X.prog X.w X.K X.mg base N q sc f cd cl A outer s H E) E->PE (nG X.prog X.w X.K X.mg base N q sc f cd cl A outer s H E) body (tE X.K (cX X.mg E) fb))
  (hk:k<=n:=by decide) (wy:AF X.N N caps X.env.scope sc=true:=by kernel_rfl) (oY:∀x,X.fn x=true:=by intro _;rfl) (vu:∀(cl:List (Str×Ì)) (pm:Â) (c':Ì) (fD:Â),bindArgs (kla_fn "<lambda>" (x++".<locals>."++"<lambda>") params body sc cl pm (.ref c') fD) ⟨[],[]⟩=pure []:=by intros;rfl)
  (wx:defaultsOf params X.env=([],[]):=by rfl) (hg:Gl X g:=by rfl) (cN:(g==("__debug__":Str))=false:=by decide)
  (he:Ä [.Lambda params body sc er] X.env=(false,Ĕ (.Lambda params body sc er) X.env)::Ä [] X.env:=by rfl) (bP:(Ĉ pos (Ä [] X.env)).any (·.1)=false:=by rfl) :
  PE X (.Call (.Name g p) [.Lambda params body sc er] [] pos) (tE X.K Ξ (iZ x caps fb gf)):=by
 intro π s σ H Q I ax;have C:=codeHd_of_K I.ok.mod.gn hC;obtain ⟨w,env,eH,S,eo,h⟩:=ax;subst eH;unfold iZ at h
 cases sH:jm env caps with
 |none=>rw [sH] at h;exact h.elim
 |some W =>
 rw [sH] at h
 cases U:w.aw[0]? with
 |none=>simp only [U] at h;exact h.elim
 |some c0 =>
 simp only [U] at h
 cases c0 with
 |dead=>exact h.elim
 |lst _=>exact h.elim
 |dK _=>exact h.elim
 |dT _=>exact h.elim
 |ins _ _=>exact h.elim
 |tb y =>
 dsimp only at h;by_cases hy:y=x
 case neg=>rw [ë (by simpa using hy)] at h;exact h.elim
 rw [ã (by simpa using hy)] at h;subst hy;obtain ⟨vs,aq,NK⟩:=zi eo sH;obtain ⟨a,ha⟩:∃a,w.ρ[0]?=some a:=by
  have:=S.len
  cases NL:w.ρ with
  |nil=>rw [NL] at this;have h0:=(È.mp U).1;rw [<- this] at h0;simp at h0
  |cons a r=>exact ⟨a,rfl⟩
 have Mf:=S.cell 0 a _ ha U;obtain ⟨c2,ps,t1,t2,t3,t4⟩:=Mf;rw [ht] at t1;cases t1;unfold AF at wy;simp only [Å,Bool.or_eq_true,ů,Ú,đ] at wy;obtain ⟨⟨⟨⟨⟨⟨k1,k2⟩,k3⟩,k4⟩,k5⟩,k6⟩,k7⟩:=wy;obtain ⟨cl,cQ,R⟩:=Gy (env:=X.env) (scope:=sc) fun z hz=>by
  rcases k7 _ hz with q|q
  ·exact absurd rfl q
  ·exact I.ok.has z (.inl q)
 obtain ⟨gA,Pe,G⟩:=G;refine ķ (jP I hg G.mg ?_ cN);refine Ş (h₀:=X.base) I.ok.mod.gn G.fn.kp ?_ he bP;rw [he];show Ö _ _ (spliced ((false,Ĕ (.Lambda params body sc er) X.env)::Ĉ pos (Ä [] X.env))) _ _ s;refine ŝ (Gz I cQ rg C hb t2 t3 wx (fun cv q=>?_) fun f c' fD oc fs tq H1 J Y hf Cb xw fS fE gE hH=>?_)
 ·rw [Bw]
  obtain ⟨c',oc,fs,t,r1,r2,r3,r4⟩:=t4 er cv q;exact ⟨c',oc,fs,t,r1,r2.2,r3,r4⟩
 rw [Bw] at xw gE;refine Calls.spliced_nil ⟨Y.cH,?_⟩;have W1:∃V:Wd,V.H=H1/\aH X.K V/\Le X.K w V/\V.aw=w.aw:=by
  rcases hH with rfl | ⟨hn,sE,rfl,NM⟩
  ·exact ⟨w,rfl,S,Le.refl w,rfl⟩
  ·have S2:=S.grow (o:=.aO oc (.own c')) hn
   have O:=(Fw.grow (K:=X.K) (o:=.aO oc (.own c')) hn).le;have l2:=(Fw.put (o:=.cz (ps++#[Ų er.line,Ų er.col,.ref c'])) (c:=.tb y) S2 ha U (by intro z;cases z)).le;refine ⟨(w.grow c' (.aO oc (.own c'))).put 0 P (.cz (ps++#[Ų er.line,Ų er.col,.ref c'])) (.tb y),rfl,S2.v7 ha U (by intro z;cases z) ⟨c,_,ht,bZ,NM,fun pos cv e=>?_⟩,O.trans l2,?_⟩
   ·rw [Array.toList_append] at e
    rcases Fo _ t3 e with e|e
    ·obtain ⟨c3,o3,v3,NN,r1,r2,r3⟩:=t4 pos cv e
     exact ⟨c3,o3,v3,NN,r1,(O.trans l2).aO c3 o3 _ r2.1 r2.2,r3⟩
    ·refine ⟨c',oc,fs,tq,e,?_,fE,gE⟩
     exact l2.aO c' oc _ (fun z=>kX S hn z) bZ
   ·exact List.ext_getElem? fun i=>by
     show (w.aw.set 0 (.tb y))[i]?=w.aw[i]?
     cases i with
     |zero=>rw [Þ (È.mp U).1,U]
     |succ i=>rw [Õ (by omega)]
 obtain ⟨V,rfl,S1,O,es⟩:=W1;have cells:∀z Z,cl.lookup z=some Z->∀v,J.heap.IsCell Z v->(j7 X V.H J).IsCell Z v:=fun z Z e v ⟨o,ho,hd⟩=>by
  have e2:=R.ou z Z e;refine ⟨o,pS ho (Y.gO z Z e2) fun q=>?_,hd⟩
  rcases á.mp (Y.kT _ q) with q|q
  ·exact Y.hV z Z e2 q
  ·obtain ⟨_,o2,ff,_⟩:=Y.ok.fq.mem q
   exact absurd (É ff) (ζ.mpr (Y.ok.nA z Z (oY z) e2))
 have Cc:f∉bp X.stack:=fun q=>by
  obtain ⟨_,o2,ff,_⟩:=I.stack.mem q;exact absurd (É ff) (ζ.mpr hf)
 have nl:N.length=vs.length:=by
  have e1:=aq.length;have e2:∀(cs:List Nat) (W:List D),jm env cs=some W->W.length=cs.length:=fun cs=>by
   induction cs with
   |nil=>intro W h;cases h;rfl
   |cons i r ih =>
    intro W h;unfold jm at h;split at h
    ·cases h;rename_i e;simp [ih _ e]
    ·cases h
  rw [k5,<- e2 caps W sH,e1]
 have T:sG X.prog X.w X.K X.mg (j7 X V.H J) (kb+1) (fun H=>H c'=some (.aO oc (.own c'))) f vs W (fb (W.map some)):=by
  refine ⟨fun H H' st q=>st _ _ _ q,_,⟨_,pS xw Cb Cc,rfl⟩,Binds.all fun us hl=>?_,(Jr (t:=fun E=>tE X.K (cX X.mg E) fb) (vs:=vs) (oc:=oc) ⟨k2,k3,k1,k4⟩ (pS xw Cb Cc) nl (fun z1 z2 Z M B=>Y.ok.inj z1 z2 Z (R.ou _ _ M) (R.ou _ _ B)) (fun z hz=>R.all z (ą hz)) (fun z Z e=>?_) (fun i z v M B=>?_) fE gE
   (fun A outer s H E hr L=>ij _ _ f (.ref c') cl A outer s H E hr L)).imp fun us H Q E h=>?_⟩
  ·have:us=[]:=List.eq_nil_of_length_eq_zero (by simpa using hl)
   subst this;exact vu _ _ _ _
  ·obtain ⟨v,q⟩:=Y.cell z Z (R.ou z Z e)
   exact ⟨v,cells z Z e v q⟩
  ·have hi:i<caps.length:=by
    have:=(È.mp M).1;rw [k5] at this;exact this
   obtain ⟨j,hj⟩:∃j,caps[i]?=some j:=⟨caps[i],ì hi⟩;have hm:(z,j)∈N.zip caps:=by
    refine ď (i:=i) ?_;rw [List.getElem?_zip_eq_some];exact ⟨M,hj⟩
   obtain ⟨⟨q1,q2⟩,q3⟩:=k6 _ hm;obtain ⟨m,hn,hl⟩:=Y.loc;obtain ⟨u,r,lk⟩:=hl j z v q1 (NK i j v hj B) (.inr (.inl q2));refine ⟨q3,?_⟩
   rcases lk with ⟨lk,_⟩ | ⟨_,Z,e1,e2⟩
   ·rw [show X.env.kindOf z=X.env.scope.names.lookup z from rfl,q2] at lk;cases lk
   ·obtain ⟨c3,e3⟩:=R.all z (ą q3)
    have e4:=R.ou z c3 e3;rw [e1] at e4;cases e4;exact ⟨Z,u,e3,cells z Z e3 _ e2,r⟩
  ·obtain ⟨M,B,w',rfl,S',kC,hh⟩:=h
   refine ⟨M,B,w',W.map some,rfl,S',⟨?_,fun i d e=>?_⟩,hh⟩
   ·rw [ß,ß];exact kC.length
   ·rw [û] at e
    cases q:W[i]? with
    |none=>rw [q] at e;cases e
    |some d' =>
     rw [q] at e;cases e;obtain ⟨v,e1,e2⟩:=kC.get' i d q;exact ⟨v,by rw [û,e1];rfl,e2⟩
 have hq:=(h.from O).ne;rw [<- es,<- Me (.bO f vs W)] at hq;refine Ĵ (Ŕ ((F T G).run X.A X.stack J V.H ⟨[.ref f],[]⟩ [.ref f] [.ref f] Q (fun _ _ _=>False) (hr.mono hk) Y.KO (G.b J [.ref f] Y.cH ?_) (.cons rfl .nil) ⟨fS,V,rfl,S1,⟨.ref f,[],rfl,⟨rfl,O.all aq⟩,rfl⟩,hq⟩) fun r s' l=>?_)
 ·have:=(F T G).len [.ref f] V.H Q (fun _ _ _=>False) ⟨fS,V,rfl,S1,⟨.ref f,[],rfl,⟨rfl,O.all aq⟩,rfl⟩,hq⟩
  simpa using this
 ·cases r with
  |error e=>exact l.elim
  |ok fl =>
   cases fl with
   |ret u=>exact Y.after l
   |next=>exact ñ l
   |brk=>exact ñ l
   |cont=>exact ñ l
end
end DI
namespace L2
open PySem PySem.Spec PyProof.Rows PySem.W
section
variable {X:Cx} {π:List (Ì×Obj)} {σ:St} {H:Hp} {s:Á}
def qo {M:Model} {A:Ù} {E:Â->Á->Prop} {i:Nat} {x:Str} {pos:Pos} {Q:Unit->Á->Prop} (I:Inv X π σ H s) (hN:X.N.Nodup) (hi:X.N[i]?=some x) (hk:X.env.scope.names.lookup x=some .local) (h:∀s',Inv X π (σ.set i none) H s'->Q () s') :
  Ö M A (do bindName X.env x .none;unbindBehindTheSuite X.env x pos) Q E s:=by
 obtain ⟨m,V,S⟩:=id I.loc;have R:(X.env.scope.kind==.class||(X.env.scope.kind==.module&&X.env.locals != X.env.globals))=false:=by rw [I.ok.kind];rfl
 have hV:=I.hV;refine wpAny_nameGoes_keeps hk V R fun u v P hs=>?_;obtain ⟨t,_,_,r,_⟩:=id V;refine h _ ⟨I.ok,I.os,I.bare,⟨fun b o e n Y Z=>?_,fun b o e n Y Z=>?_,I.base.free,fun b o e Z=>?_,I.base.c9,I.base.cL,I.base.de⟩,⟨_,P,fun j y O e1 e2 L=>?_⟩,fun y c e=>?_,I.free,I.gO,fun p K=>?_,fun b J e=>?_,by rw [ù];exact I.len⟩
 ·exact (hs.2 b (â (Æ (É e) I.ok.above))).trans (I.base.keep b o e n Y Z)
 ·obtain ⟨G,e1⟩:=I.base.slot b o e n Y Z
  exact ⟨G,(hs.2 b (â (Æ (É e) I.ok.above))).trans e1⟩
 ·obtain ⟨F,e1⟩:=I.base.there b o e Z
  exact ⟨F,(hs.2 b (â (Æ (É e) I.ok.above))).trans e1⟩
 ·by_cases W:j=i
  ·subst W
   have U:=(È.mp e2).1;rw [ù] at U;rw [Þ U] at e2;cases e2
  ·rw [Õ (ŧ W)] at e2
   obtain ⟨D,C,q⟩:=S j y O e1 e2 L;refine ⟨D,C,?_⟩
   rcases q with ⟨k,e⟩ | ⟨k,c,e,z⟩
   ·refine .inl ⟨k,?_⟩
    have:y≠x:=fun e=>W (tN hN e1 (e ▸ hi));simp [this,e]
   ·exact .inr ⟨k,c,e,z.sameBut hs (hV y c e)⟩
 ·obtain ⟨T,z⟩:=I.cell y c e
  exact ⟨T,z.sameBut hs (hV y c e)⟩
 ·obtain ⟨e,n,ne,B,d⟩:=I.pin p K
  exact ⟨(hs.2 p.1 ne).trans e,n,ne,B,d⟩
 ·refine (I.aA b J e).cG (fun c T w q=>(hs.2 c ?_).trans q) (fun _ q=>q) fun _ _ q=>q
  rintro rfl
  rcases w with z|z
  ·have:=I.free;rw [z,e] at this;cases this
  ·have:=I.free;rw [z] at this;cases this
noncomputable abbrev Cx.held (X:Cx) (a:Ì):Cx:={ X with A:=X.A.mark (some (.ref a)),calm:=false,xe:=fun _ _=>False }
theorem Inv.held (I:Inv X π σ H s) (a:Ì):Inv (X.held a) π σ H s:=by
 obtain ⟨⟨a1,a2,Z,Y,W,V,U,T,w,S,R,Q,P,O,N,M,L,K⟩,J,G,F,E,D,C,B,A,y,x⟩:=I;exact ⟨⟨a1,a2,Z,Y,W,V,U,T,fun z=>absurd z Î,S,R,Q,P,O,N,M,L,K⟩,J,G,F,E,D,C,B,A,y,x⟩
def Inv.qK {a:Ì} (ok:X.Ok) (I:Inv (X.held a) π σ H s):Inv X π σ H s:=by
 obtain ⟨_,Z,Y,W,V,U,T,S,R,Q,P⟩:=I;exact ⟨ok,Z,Y,W,V,U,T,S,R,Q,P⟩
def qL (X:Cx) (π:List (Ì×Obj)) (σ:St) (E:XK) (e:Â) (s':Á):Prop:=∃Z Y,Inv X π σ Z Y/\dj X.prog X.w X.stack Z Y E e s'
def fm {E:XK} {E':Â->Á->Prop} {e:Â} {s':Á} {cn n:Str} {np wz:Pos} {oT:ŷ} {oy:List ŷ} {j:Nat} {CM:Ì} {D:Ends} (Th:qL X π σ E e s') (L:X.stack=X.env::X.outer) (hf:X.env.frame=some X.env.locals)
  (hN:X.N.Nodup) (hj:X.N[j]?=some n) (kI:X.env.scope.names.lookup n=some .local) (hg:Gl X cn) (hm:X.mg cn=some (.ref CM)) (hd:(cn==("__debug__":Str))=false)
  (h:∀cls m H' ,E cls m H'->exmOne X.K cls (.ref CM)=some true/\∀(a:Ì) (o:Obj),H' a=none->o.cls=cls->(notCls o=true/\∀dx,m=some dx->o.dict=some dx)->∀s5,Inv (X.held a) π (σ.set j (some (.ref a))) (upd H' a (.aO o (.own a))) s5 ->
   Ö (Ø X.prog X.w) (X.held a).A (execs (oT::oy) X.env) (SP (X.held a) π { nx:=fun aF H'=>D.nx (aF.set j none) H',rt:=D.rt,bk:=fun aF H'=>D.bk (aF.set j none) H',ct:=fun aF H'=>D.ct (aF.set j none) H' }) (fun _ _=>False) s5) :
  Ö (Ø X.prog X.w) X.A (noteFrame e X.env) (fun _ fx=>Ö (Ø X.prog X.w) X.A (setFlight e none) (fun _ Mg=>Ö (Ø X.prog X.w) X.A (handleBy e X.env [.ExceptHandler (some (.Name cn np)) (some n) (oT::oy) wz]) (SP X π D) E' Mg) E' fx) E' s':=by
 obtain ⟨H1,t,W,a,cls,O,H',B,m,rfl,os,bare,F,dm,hE⟩:=Th;obtain ⟨p,hh⟩:=h cls m H' hE
 refine ü (nR (zW _ _) (wpAny_looks_onW (E:=fun _ _=>False) (Q:=fun _ i=>∃V,i={ s' with heap:=V }/\Heap.HeldW B (X.env::X.outer) a cls O X.env.locals V/\s'.heap.UpToSlots V) (by rw [W.ok.frames,L]) hf (by have:=F.fl;rw [L] at this;exact this) fun V x y=>⟨V,rfl,x,y⟩)) (fun _ i z=>?_) fun _ _ z=>z.1.elim
 obtain ⟨⟨V,rfl,g,NO⟩,NP⟩:=z
 refine ü (nR (tI _ _) (wpAny_landsW (E:=fun _ _=>False) (Q:=fun _ d=>∃Z,d={ s' with heap:=Z }/\Ŷ B (X.env::X.outer) a cls O Z/\V.UpToSlots Z) g fun Z x y=>⟨Z,rfl,x,y⟩)) (fun _ d z=>?_) fun _ _ z=>z.1.elim
 obtain ⟨⟨Z,rfl,Cd,NQ⟩,NR⟩:=z
 have pK:Dm Z a m:=(dm.on NP (let ⟨o,e,_⟩:=g.there;⟨o,e⟩)).on NR (let ⟨o,e,_⟩:=Cd.there;⟨o,e⟩)
 have P:Ŷ B X.stack a cls O Z:=by rw [L];exact Cd
 have I:=F.on P (NO.trans NQ);have Mh:t.heap.get? a=none:=by
  cases q:t.heap.get? a with
  |none=>rfl
  |some o =>
   by_cases S:a∈bp X.stack
   ·obtain ⟨sl,e1⟩:=I.slot a o q S
    obtain ⟨_,o2,e2,hd2⟩:=P.2.2.1.mem S
    obtain ⟨H,ws,e3,_,e4,_⟩:=P.first
    rw [e3] at e2;cases e2;exact absurd e4 (hd2 _)
   ·obtain ⟨o',e1⟩:=F.there a o q S
    rw [F.fl.2.1] at e1;cases e1
 have I3:Inv X π σ H' { s' with heap:=Z }:=W.vg (s':={ s' with heap:=Z }) (ch:=[]) os I.un I.held bare (fun b z=>absurd z (by simp))
 refine wpAny_handleBy_cons (codeAny_handlers_test ?_) (by intro q;cases q);refine (show Ö (Ø X.prog X.w) (X.held a).A (Ĕ (.Name cn np) (X.held a).env) _ _ _ from jP (I3.held a) hg hm ?_ hd);obtain ⟨ob,NS,oH⟩:=P.there;have LT:Looks (Ø X.prog X.w) Z (typeOf (.ref a)) cls:=by subst oH;exact (Looks.ld NS).andThen .now
 refine (exm_one (M:=Ø X.prog X.w) (K:=X.K) (h:=Z) I3.cH LT p).here ?_;refine codeAny_handlers_suite_as ?_
 refine ü (nR (tI _ _) (lands_againW (s:={ s' with heap:=Z }) (E:=fun _ _=>False) (Q:=fun _ s4=>∃Y,s4={ s' with heap:=Y }/\Ŷ B X.stack a cls O Y/\Z.UpToSlots Y) P fun Y x y=>⟨Y,rfl,x,y⟩)) (fun _ s4 z=>?_) fun _ _ z=>z.1.elim
 obtain ⟨⟨Y,rfl,G,NT⟩,NU⟩:=z
 have pL:Dm Y a m:=pK.on NU (let ⟨o,e,_⟩:=G.there;⟨o,e⟩)
 have l:=I.on G NT;obtain ⟨H,C,Mi⟩:=G.there;have R:H' a=none:=l.new
 have I4:Inv X π σ (upd H' a (.aO H (.own a))) { s' with heap:=Y }:=by
  have u:=l.un;have kr:∀b o,t.heap.get? b=some o->b≠a:=fun b o e z=>by rw [z,Mh] at e;cases e
  refine W.vg (s':={ s' with heap:=Y }) (ch:=[]) os ⟨u.keep,u.slot,fun b o e n p=>?_,u.there,fun b xs e=>?_,fun b o v e=>?_,fun b ps e=>?_⟩ (fun b v e=>?_) bare (fun b z=>absurd z (by simp))
  ·rw [aG (kr b o e)];exact u.free b o e n p
  ·have:=u.c9 b xs e;rw [aG (bM this R)];exact this
  ·have:=u.cL b o v e;rw [aG (bM this R)];exact this
  ·obtain ⟨more,this⟩:=u.de b ps e;exact ⟨more,by rw [aG (bM this R)];exact this⟩
  ·by_cases S:b=a
   ·subst S
    rw [bZ] at e;cases e;exact ⟨C,H,C⟩
   ·rw [aG S] at e
    refine (l.held b v e).cG (fun _ _ _ q=>q) (fun c q=>?_) fun c xs q=>?_
    ·rw [aG (bM q R)];exact q
    ·rw [aG (bM q R)];exact q
 refine nO I4 hN hj (.inl kI) (v:=.ref a) (u:=.ref a) rfl (fun s5 I5=>?_) (.inr kI)
 refine ü (hh a H R Mi ⟨by obtain ⟨o2,vs,e1,_,e2,_⟩:=G.first;rw [C] at e1;cases e1;unfold notCls;rw [e2],fun dx e=>by obtain ⟨o,e1,e2⟩:=pL dx e;rw [C] at e1;cases e1;exact e2⟩ s5 (I5.held a)) (fun f s6 q=>?_) fun _ _ z=>z.elim
 cases f with
 |next =>
  obtain ⟨aF,U,J,q⟩:=q;exact qo (J.qK W.ok) hN hj kI fun k T=>⟨_,U,T,q⟩
 |brk =>
  obtain ⟨aF,U,J,q⟩:=q;exact qo (J.qK W.ok) hN hj kI fun k T=>⟨_,U,T,q⟩
 |cont =>
  obtain ⟨aF,U,J,q⟩:=q;exact qo (J.qK W.ok) hN hj kI fun k T=>⟨_,U,T,q⟩
 |ret u =>
  obtain ⟨v,aF,U,J,r,q⟩:=q;exact qo (J.qK W.ok) hN hj kI fun k T=>⟨v,_,U,T,r,q⟩
end
end L2
namespace DI
open PySem L2 PySem.W
def bF.unset {K:ô} {w:Wd} {env:Env} {σ:St} (h:bF K w env σ) (i:Nat):bF K w (env.set i none) (σ.set i none):=by
 refine ⟨by rw [ù,ù];exact h.len,fun j X e=>?_⟩;by_cases Z:i=j
 ·subst Z
  have Y:=(È.mp e).1;rw [ù] at Y;rw [Þ Y] at e;cases e
 ·rw [Õ Z] at e
  rw [Õ Z];exact h.val j X e
section
variable {X:Cx} {E:XK} {pos:Pos}
def Jt {π:List (Ì×Obj)} {σ:St} {s:Á} {w:Wd} {env:Env} {Q:VK} {k i:Nat} {x:Str} {p:Pos} {pre:Hp->Prop} {f:Ì} {vs:List V} {ds:List D} {th:aa->Res D} (T:sG X.prog X.w X.K X.mg X.base k pre f vs ds th) (h0:pre X.iT) (hr:aY k X.A)
  (hN:X.N[i]?=some x) (hv:ny X.env.scope x) (hd:(x==("__debug__":Str))=false) (bJ:(x==("__classdict__":Str))=false)
  (I:Inv X π σ w.H s) (S:aH X.K w) (eo:bF X.K w env σ) (he:env[i]?=some (some (.bO f vs ds))) (h:Out X.K (cX X.mg E) w (th w.aw) fun w' d=>∀v,DV X.K w' d v->Q v w'.H) :
  Ö (Ø X.prog X.w) X.A (Ĕ (.Call (.Name x p) [] [] pos) X.env) (EP X π σ Q) (qL X π σ E) s:=by
 obtain ⟨M,fd,⟨o,L,J⟩,G,F⟩:=T;obtain ⟨v,e1,e2⟩:=eo.val i _ he;obtain ⟨rfl,C⟩:=e2;refine PySem.wpAny_Call_Name_kw ?_;have U:=(Ah (X:=X.gX fun e O=>qL X π σ E e O) (pos:=p) hN hv hd bJ π s σ w.H (fun v B=>v=.ref f/\B=w.H) (I.gX _) ⟨_,e1,rfl,rfl⟩);refine aM U fun u R U=>?_;obtain ⟨v,t,Z,r,rfl,rfl⟩:=U;have Z:=Z.jg;have r:u=.ref f:=r;subst r;have z:∀h:Ă,h.get? f=some o->∃k,(k=Keeper.frame\/k=Keeper.machine\/k=Keeper.boundFrame)/\Looks (Ø X.prog X.w) h (keeperOf (.ref f)) k:=fun h e=>by
  obtain ⟨q,n,m,os⟩:=o;cases J;exact ⟨.frame,.inl rfl,(Looks.ld (part:=none) e).andThen .now⟩
 refine PySem.W.callWith_of (P:=fun h=>h.get? f=some o) rfl z (PyProof.Rows.evalArgs_nil3 ⟨Z.bk _ _ L,?_⟩);refine Ĵ (Ŕ (F.run X.A X.stack R w.H ⟨[],[]⟩ [] [] Q E hr Z.kf (G R [] Z.cH rfl) .nil ⟨rfl,M _ _ (fun b o u e=>Z.base.cL b o u e) h0,w,rfl,S,C,h⟩) fun r O Y=>?_)
 cases r with
 |error e=>exact ⟨w.H,R,Z,Y⟩
 |ok y =>
  cases y with
  |ret u=>exact Z.after Y
  |next=>exact ñ Y
  |brk=>exact ñ Y
  |cont=>exact ñ Y
end
end DI
namespace L2
open PySem PySem.Spec PySem.Calls PyProof.Rows PySem.W PySem.Builtin PySem.Builtin.ObjectAttr PySem.Builtin.Getset_descriptor
section
variable {prog:Ó} {w:î} {A:Ù} {E:Â->Á->Prop} {s:Á} {K:ô} {x C:Ì}
noncomputable def j8 (K:ô) (C:Ì):Bool:=(findIn K (.ref C) "__getattribute__"==some (some (.builtin "BaseException.__getattribute__")))&&(findIn K (.ref C) "__getattr__"==some none)&&(clsIn K C).isSome&&(findIn K (.ref C) "__class__"==some (some (.builtin "object.__class__")))&&(specialIn K (.builtin "object.__class__") "__get__"==some (some (.builtin "getset_descriptor.__get__")))&&(takesIn K (.builtin "object.__class__")==some true)&&(mroIn K C (.type "object")==some true)&&(mroIn K C (.type "BaseException")==some true)
def AG {M:Model} {By:Â} {Q:Unit->Á->Prop} (LT:Looks M s.heap (typeOf (.ref x)) (.ref C)) (M5:Looks M s.heap (isSubtype (.ref C) (.type "BaseException")) true) (hq:Q () s):Ö M A (checkBuiltinCall "BaseException.__getattribute__" ⟨[.ref x,By],[]⟩) Q E s:=by
 have Z:builtinKind "BaseException.__getattribute__"=some .slot:=by decide +kernel
 have Y:splitId "BaseException.__getattribute__"=some ("BaseException","__getattribute__"):=by decide +kernel
 have X:=F.args_bexc_ga (.ref x) By;simp only [checkBuiltinCall,Z,Y];refine À ?_;unfold isInstance
 repeat (first|with_reducible refine LT.at ?_|with_reducible refine M5.at ?_|wp_step)
 exact hq
def cls_read {Q:Option Â->Á->Prop} (X:K.In s.heap) (LT:Looks (Ø prog w) s.heap (typeOf (.ref x)) (.ref C)) (hc:j8 K C=true) (h:Q (some (.ref C)) { s with toks:=s.toks+1 }) :
  Ö (Ø prog w) A (getAttr? (.ref x) "__class__") Q E s:=by
 unfold j8 at hc;simp only [Å,beq_iff_eq] at hc;obtain ⟨⟨⟨⟨⟨⟨⟨Y,W⟩,_⟩,V⟩,U⟩,T⟩,S⟩,R⟩:=hc;obtain ⟨Z,g,d,t,os⟩:=s;have M1:=Ľ (M:=Ø prog w) X Y;have M2:=Ľ (M:=Ø prog w) X W;have P:Looks (Ø prog w) Z (find (.ref x) (.ref C) "__class__") (.bind (.builtin "getset_descriptor.__get__") (.builtin "object.__class__")) :=
  (Ľ X V).andThen ((looks_specialIn X U).andThen ((show Looks (Ø prog w) Z (dataDescriptor? (some (.builtin "object.__class__")) (some (.builtin "getset_descriptor.__get__"))) (some (.builtin "getset_descriptor.__get__",.builtin "object.__class__")) from (looks_takesIn X T).andThen .now).andThen (Looks.tag .now)))
 have L:=looks_mroIn (M:=Ø prog w) X S;have O:=looks_mroIn (M:=Ø prog w) X R;have N:=Ű.ga.bind (.ref x);unfold getAttr? getAttrBy? getAttrBy;refine À (wpAny_mkText (À (ſ (ċ (À (LT.at (À (M1.at ?_))))))));show Ö _ _ (χ (.ref x) _ (.ref C) (.builtin "BaseException.__getattribute__") false false) _ _ _;unfold χ;refine À (M2.at (À (ſ (ċ ?_))));show Ö _ _ (boundAndCalled (.builtin "BaseException.__getattribute__") (.ref x) _) _ _ _;unfold boundAndCalled;rw [N];refine À (Ë (Ĵ (ń Ű.ga.plain F.entry_bexc_ga ?_)));refine AG LT O ?_;unfold Pp.«object.__getattribute__»;rw [show slotArgs "__getattribute__" 1 ⟨[.ref x]++[.str "__class__" t],[]⟩=pure (.ref x,[.str "__class__" t]) from rfl];refine À (Ë ?_);dsimp only;rw [show attrName (.str "__class__" t)=pure ("__class__":Str) from rfl];refine À (Ë (À (LT.at (À (P.at ?_)))));show Ö _ _ (Ũ [Value.builtin "object.__class__"] (call (.builtin "getset_descriptor.__get__") [.builtin "object.__class__",.ref x,.ref C]) >>= ret) _ _ _;refine À (ċ (Ĵ ?_));refine ń KF.slot_gs.plain KF.entry_gs (KF.slot_gs.check _ _ _ _ _ _ _ _ KF.type_class (KF.args_gs _ _ _) ?_);unfold Pp.«getset_descriptor.__get__» descrGet;rw [dga_obj];refine À (Ë ?_);unfold descrGetter descrCheckInstance descrNameAndClass isInstance;simp only [KF.owner_class]
 repeat lk
 refine ⟨Code.quiet_builtin _ (by decide +kernel),codeAny_builtin KF.entry_class ?_⟩;unfold Pp.«object.__class__» shownTypeOf
 repeat lk
 exact h
def GB {o:Obj} (ho:o.cls=.ref C) (hc:j8 K C=true):KitX K (.ref x) (.ref C) (fun h=>h.get? x=some o) where
 ty:=fun M h _ e=>ho ▸ (Looks.ld e).andThen .now
 it:=fun M h X _=>by
  unfold j8 at hc;simp only [Å] at hc;have z:=hc.1.1.1.1.1.2;unfold clsIn at z;split at z
  ·rename_i q
   intro W V U T k r;unfold isType loadHead;exact À (wpAny_loadPart (k _ _ (X _ _ q)) (Ë r))
  ·cases z
 ne:=fun h Z S ao n R X Y=>by
  unfold j8 at hc;simp only [Å] at hc;have z:=hc.1.1.1.1.1.2;refine Bool.eq_false_iff.mpr fun q=>?_;have e:C=Z:=Value.ref.inj (beq_iff_eq.mp q);subst e;unfold clsIn at z;split at z
  ·rename_i r
   have z:=(X _ _ r).symm.trans Y;cases z
  ·cases z
 ca:=fun X e k=>cls_read X (ho ▸ (Looks.ld e).andThen .now) hc k
end
end L2
namespace DI
open PySem L2 PySem.W
def cw (cs:List Str) (yes:Str->Bool) (d:D) (s:aa):Res D:=match d with
 | .au=>ok (.bl false) s
 | .exc c _=>if decide (c∈cs)=true then ok (.bl (yes c)) s else none
 |_=>none
def mr (K:ô) (cs:List Str) (T:Â) (yes:Str->Bool):Prop:=kitOne K (.type "NoneType") T=some false/\∀c∈cs,∃C,nsIn K Ç c=some (some (.ref C))/\j8 K C=true/\kitOne K (.ref C) T=some (yes c)
section
variable {X:Cx} {Ξ:Wd->aP->Prop} {a:ÿ} {pos:Pos} {f:PB D}
def Jv {cs:List Str} {T:Â} {yes:Str->Bool} (hc:mr X.K cs T yes) {vT:V} (hT:∀u,RelV vT u->u=T):dB X (.builtin "isinstance") (fun xs H Q=>∃(w:Wd) (d:D) (x:V),w.H=H/\aH X.K w/\DV X.K w d x/\xs=[x,vT]/\Out X.K Ξ w (cw cs yes d w.aw) fun w' d=>∀v,DV X.K w' d v->Q v w'.H):=by
 rintro A s σ H y N Q I r ⟨w,d,x,rfl,S,U,rfl,h⟩;obtain ⟨Y,W,R,Z⟩:∃Y,RelV x Y/\∃R,N=[Y,R]/\RelV vT R:=by
  cases r with
  |cons W Z=>cases Z with|cons Z M=>cases M;exact ⟨_,W,_,rfl,Z⟩
 obtain ⟨rfl,Z⟩:=Z;cases hT _ Z
 cases d with
 |au =>
  have e:x=.au:=U;subst e;have e:Y=Value.none:=W;subst e;exact kia_one kitx_none I.cH trivial hc.1 (by intro z;cases z) fun P=>⟨.bl false,w.H,I.tok P,rfl,ay S h _ rfl⟩
 |exc c _ =>
  simp only [DV] at U;obtain ⟨b,o,C,rfl,L,⟨J,G⟩,_⟩:=U;have e:Y=ý b:=W;subst e;unfold cw at h;dsimp only at h;split at h
  ·rename_i F
   obtain ⟨t,O,E,B⟩:=hc.2 c (í F);rw [G] at O;cases O;exact kia_one (GB J E) I.cH (I.aA b _ L.2).1 B (by intro z;cases z) fun P=>⟨.bl (yes c),w.H,I.tok P,rfl,ay S h _ rfl⟩
  ·exact h.elim
 |_=>exact h.elim
def AH {cs:List Str} {T:Â} {yes:Str->Bool} {vT:V} {cn:Str} {p np:Pos} (hc:mr X.K cs T yes) (hT:∀u,RelV vT u->u=T) (h1:PE X (.Name cn np) (tC vT)) (ha:PE X a (tE X.K Ξ f)) (hm:X.mg "isinstance"=none) (hv:õ "isinstance"=some (.builtin "isinstance")) (hg:Gl X "isinstance":=by rfl)
  (hs:Ä [a,.Name cn np] X.env=(false,Ĕ a X.env)::Ä [.Name cn np] X.env:=by rfl) (kJ:Ä [.Name cn np] X.env=(false,Ĕ (.Name cn np) X.env)::Ä [] X.env:=by rfl) (bP:(Ĉ pos (Ä [.Name cn np] X.env)).any (·.1)=false:=by rfl) :
  PE X (.Call (.Name "isinstance" p) [a,.Name cn np] [] pos) (tE X.K Ξ (e1 (cw cs yes) f)) :=
 cb (tP (Jv (Ξ:=Ξ) hc hT) hg hm hv (iM ha (iM h1 kW kJ) hs) (by decide) (by decide) hs bP) fun σ H Q Z=>by
  obtain ⟨w,env,Y,S,W,h⟩:=Z;subst Y;exact ⟨w,env,rfl,S,W,(Out.aj h).mono fun U x O R h1 v1 P=>⟨U,x,v1,rfl,R,P,rfl,h1⟩⟩
end
open PyProof.Rows PySem.SeqAt
def wA (d:D) (s:aa):Res D:=match d with
 | .lst Z=>match hX Z with
  |some bs=>ok (.int (bs.count true:Nat)) s
  |none=>none
 |_=>none
def xG (d:D) (s:aa):Res D:=match d with
 | .lst Z=>match hX Z with
  |some bs=>if (decide (bs.idxOf true<bs.length)&&decide (bs.length<=100))=true then ok (.int (bs.idxOf true:Nat)) s else none
  |none=>none
 |_=>none
theorem Bz:∀(bs:List Bool) (m:Nat) (h:m<bs.length),m<bs.idxOf true->bs[m]=false
 | [],m,h,_=>absurd h (Nat.not_lt_zero _)
 |true::r,m,h,g=>by simp at g
 |false::r,0,h,g=>rfl
 |false::r,m+1,h,g=>by
  have e:(false::r).idxOf true=r.idxOf true+1:=by rw [List.idxOf_cons];rfl
  rw [e] at g;exact Bz r m (by simpa using h) (by omega)
noncomputable def ni:Â->Bool
 | .bool b=>b
 |_=>false
theorem tJ:∀{bs:List Bool} {ao:List Â},Vals (bs.map V.bl) ao->ao=bs.map ĝ
 | [],_,.nil=>rfl
 |b::r,_,.cons e t=>by
  have e:_=ĝ b:=e;rw [e,tJ t];rfl
theorem zX:∀bs:List Bool,(bs.map ĝ).countP ni=bs.count true
 | []=>rfl
 |b::r=>by
  rw [é,List.countP_cons,List.count_cons,zX r]
  cases b<;>rfl
def AI {A:Ù} {s:Á} {bs:List Bool} (y:Â) (hy:y∈(bs.map ĝ).toArray):EqAt A s y (.bool true) (ni y):=by
 have hy:y∈bs.map ĝ:=by simpa using hy
 obtain ⟨b,_,rfl⟩:=List.mem_map.mp hy;have h:=EqAt.bool_bool (A:=A) (s:=s) b true
 cases b<;>exact h
section
variable {X:Cx} {Ξ:Wd->aP->Prop} {o:ÿ} {f:PB D} {p apos aV:Pos} {j:Nat}
def GC:wX X "list.count" (fun x xs H Q=>∃(a:Ì) (bs:List Bool),x=.ref a/\xs=[.bl true]/\bb X.K H a (bs.map V.bl)/\Q (.int (bs.count true:Nat)) H):=by
 rintro E s σ H x xs v U Q I T S ⟨a,bs,rfl,rfl,R,h⟩;have e:v=ý a:=T;subst e;obtain ⟨u,rfl,rfl⟩:∃u,U=[u]/\u=ĝ true:=by
  cases S with|cons P O=>cases O;exact ⟨_,rfl,P⟩
 obtain ⟨ao,N,M,_⟩:=I.list R;cases tJ N;obtain ⟨⟨cls,L,data,J⟩,n,Z,Y,_,W⟩:=M;simp only at Y W;subst Y W;refine call_meets PySem.F.slot_list_count ⟨_,Z,rfl⟩ PySem.F.entry_list_count (PySem.F.args_list_count_2 _ _) (list_countAt a _ n L J (.bool true) ni) ⟨Z,fun y G=>AI y G,?_⟩;rw [show (bs.map ĝ).toArray.toList=bs.map ĝ from rfl,zX];exact ⟨.int _,H,I.tok _,⟨_,rfl⟩,h⟩
def GD:wX X "list.index" (fun x xs H Q=>∃(a:Ì) (bs:List Bool),x=.ref a/\xs=[.bl true]/\bb X.K H a (bs.map V.bl)/\bs.idxOf true<bs.length/\bs.length<=100/\Q (.int (bs.idxOf true:Nat)) H):=by
 rintro A s σ H x xs v T Q I S R ⟨a,bs,rfl,rfl,P,O,z,h⟩;have e:v=ý a:=S;subst e;obtain ⟨u,rfl,rfl⟩:∃u,T=[u]/\u=ĝ true:=by
  cases R with|cons N M=>cases M;exact ⟨_,rfl,N⟩
 obtain ⟨ao,L,J,_⟩:=I.list P;cases tJ L;obtain ⟨⟨cls,G,data,E⟩,n,Z,Y,_,W⟩:=J;simp only at Y W;subst Y W;have sz:(bs.map ĝ).toArray.size=bs.length:=by simp
 refine call_meets PySem.F.slot_list_index ⟨_,Z,rfl⟩ PySem.F.entry_list_index (PySem.F.args_list_index_2 _ _) (list_indexAt a _ n G E (.bool true) ni (bs.idxOf true) (by rw [sz];exact O) (by omega) ?_ ?_) ⟨Z,fun y D=>AI y D,?_⟩
 ·simp [ni,List.getElem_idxOf]
 ·intro m U C
  have B:=Bz bs m (by rw [sz] at U;exact U) C;simp [ni,B]
 ·exact ⟨.int _,H,I.tok _,⟨_,rfl⟩,h⟩
def Jw (ho:PE X o (tE X.K Ξ f))
  (lh:Ĥ o "count" X.env (Ĕ o X.env)=Ĕ o X.env:=by rfl)
  (oK:((Ĉ aV (Ä [.Constant (.bool true) j p] X.env)).all (fun x=>!x.1)&&(ž aV (ĭ [] X.env)).all (fun x=>x.1.isSome)
   && decide (([.Constant (.bool true) j p]:List ÿ).length+([]:List Po).length+(if ([]:List Po).isEmpty then 0 else 1)<30))=true:=by rfl)
  (oa:(apos.endLine==aV.line)=true:=by rfl) (hs:Ä [.Constant (.bool true) j p] X.env=(false,Ĕ (.Constant (.bool true) j p) X.env)::Ä [] X.env:=by rfl) (fk:(Ĉ aV (Ä [] X.env)).any (·.1)=false:=by rfl) :
  PE X (.Call (.Attribute o "count" apos) [.Constant (.bool true) j p] [] aV) (tE X.K Ξ (e1 wA f)) :=
 cb (Bf PySem.F.plainAttrs_list PySem.F.slot_list_count PySem.F.type_list_count GC ho (iM vh kW hs) lh oK oa hs fk) fun σ H Q V=>by
  obtain ⟨w,env,U,S,T,h⟩:=V;subst U;refine ⟨w,env,rfl,S,T,(Out.aj h).mono fun O d N R Z v Y=>?_⟩
  cases d with
  |lst M =>
   unfold wA at Z;dsimp only at Z;split at Z
   ·rename_i bs P
    simp only [DV] at Y;obtain ⟨a,L,rfl,W,r⟩:=Y;cases qH P;cases r.qg;exact ⟨.inl ⟨rfl,_,W.sq⟩,a,bs,rfl,rfl,W.sq,ay R Z _ rfl⟩
   ·exact Z.elim
  |_=>exact Z.elim
def KP (ho:PE X o (tE X.K Ξ f))
  (lh:Ĥ o "index" X.env (Ĕ o X.env)=Ĕ o X.env:=by rfl)
  (oK:((Ĉ aV (Ä [.Constant (.bool true) j p] X.env)).all (fun x=>!x.1)&&(ž aV (ĭ [] X.env)).all (fun x=>x.1.isSome)
   && decide (([.Constant (.bool true) j p]:List ÿ).length+([]:List Po).length+(if ([]:List Po).isEmpty then 0 else 1)<30))=true:=by rfl)
  (oa:(apos.endLine==aV.line)=true:=by rfl) (hs:Ä [.Constant (.bool true) j p] X.env=(false,Ĕ (.Constant (.bool true) j p) X.env)::Ä [] X.env:=by rfl) (fk:(Ĉ aV (Ä [] X.env)).any (·.1)=false:=by rfl) :
  PE X (.Call (.Attribute o "index" apos) [.Constant (.bool true) j p] [] aV) (tE X.K Ξ (e1 xG f)) :=
 cb (Bf PySem.F.plainAttrs_list PySem.F.slot_list_index PySem.F.type_list_index GD ho (iM vh kW hs) lh oK oa hs fk) fun σ H Q U=>by
  obtain ⟨w,env,T,S,R,h⟩:=U;subst T;refine ⟨w,env,rfl,S,R,(Out.aj h).mono fun N d M P Z v W=>?_⟩
  cases d with
  |lst L =>
   unfold xG at Z;dsimp only at Z;split at Z
   ·rename_i bs O
    split at Z
    ·rename_i Y
     rw [Å,Ú,Ú] at Y;simp only [DV] at W;obtain ⟨a,J,rfl,V,r⟩:=W;cases qH O;cases r.qg;exact ⟨.inl ⟨rfl,_,V.sq⟩,a,bs,rfl,rfl,V.sq,Y.1,Y.2,ay P Z _ rfl⟩
    ·exact Z.elim
   ·exact Z.elim
  |_=>exact Z.elim
end
end DI
namespace L2
open PySem PySem.Spec PyProof.Rows PySem.W
def Fp {Pr:Ó} {w:î} {K:ô} {mg mb:Str->Option Â} {CX:gv} {k:Nat} {fa a c P:Ì} {fd:ú} {x:Str} {sp:Sp} {aZ:Á} {vs:List Â} {ns:List Int}
  (KX:K.In aZ.heap) (nD:aZ.heap.Ns Ç mg) (hb:aZ.heap.Ns builtinsNs mb) (NW:∀x:Str,x≠"__name__"->mb x=õ x) (Mj:aZ.heap.NoLimit) (hg:aZ.gens=#[])
  (ha:aZ.heap.get? a=some { cls:=.type "list",data:=.seq vs.toArray }) (hi:IntsAre vs ns) (hl:ns.length<=Ô) (hr:aY k callerA)
  (CT:CodeHd aZ.heap c P) (hP:aZ.heap.get? P=some (tabObj #[])) (xH:K.lookup P=none) (xI:aZ.heap.BuiltinsAt mg P)
  (F:∀base:Ă,K.In base->base.Ns Ç mg->base.BuiltinsAt mg P->bK Pr w K mg base CX k fa fd [x] sp) (vu:∀(s:Á) (u:Â),BindsTo s fd ⟨[u],[]⟩ [(x,u)])
  (gw:∀H:Hp,H P=some (.cz #[])->bb K H a (ns.map V.int)->sp [.ref a] H (fun v _=>v=.bl true) fun _ _ _=>False)
  (xJ:∀H e s',CX [] H aZ (fun _ _ _=>False) e s'->False) :
  Ū (Ø Pr w) callerA (.call (.ref fa) ⟨[.ref a],[]⟩) (fun r s'=>r=.ok (.ret (.bool true))/\OldK aZ.heap s'.heap/\s'.os=aZ.os/\Pw s'.gens) aZ:=by
 have Q:=yS hi;have D:=hi.length;have O:a≠P:=fun z=>by rw [z,hP] at ha;cases ha
 have core:∀H:Hp,H P=some (.cz #[])->(∀b,H b=none\/b=P\/(b=a/\∃o U,H b=some (.aO o (.lst U))))->bb K H a (ns.map V.int)->bL Pr w H aZ.heap->(H a≠none->K.lookup a=none) ->
   Ū (Ø Pr w) callerA (.call (.ref fa) ⟨[.ref a],[]⟩) (fun r s'=>r=.ok (.ret (.bool true))/\OldK aZ.heap s'.heap/\s'.os=aZ.os/\Pw s'.gens) aZ:=by
  intro H N T C M B;have free:∀{b:Ì} {o:Obj},aZ.heap.get? b=some o->o≠tabObj #[]->o≠{ cls:=.type "list",data:=.seq vs.toArray }->H b=none:=fun {b o} e A y=>by
   rcases T b with z|z | ⟨z,_⟩
   ·exact z
   ·rw [z,hP] at e;exact absurd (PK e).symm A
   ·rw [z,ha] at e;exact absurd (PK e).symm y
  have X:∀{b:Ì} {m:Str->Option Â},aZ.heap.Ns b m->(jn aZ.heap H).Ns b m:=fun {b m} ⟨o,t,p,e,d,r⟩=>⟨o,t,p,tM e (free e (fun z=>by rw [z] at d;cases d) fun z=>by rw [z] at d;cases d),d,r⟩;have L:K.In (jn aZ.heap H):=fun b o e=>tM (KX b o e) (by
   rcases T b with z|z | ⟨z,J,U,W⟩
   ·exact z
   ·rw [z,xH] at e;cases e
   ·subst z;rw [B (by rw [W];intro z;cases z)] at e;cases e)
  have l:Mod K mg (jn aZ.heap H):=⟨L,X nD,⟨mb,X hb,NW⟩,let ⟨j,i,g⟩:=Mj;⟨j,X i,g⟩⟩
  have f:(jn aZ.heap H).BuiltinsAt mg P:=let ⟨bm,o,b1,b2,b3,b4,I,S,r⟩:=xI;⟨bm,o,b1,b2,b3,b4,tM I (free I (fun z=>by rw [z] at S;cases S) fun z=>by rw [z] at r;cases r.2),S,r⟩
  have e0:jo Pr w K mg (jn aZ.heap H) callerA [] aZ H:=⟨rfl,l,fun b o e=>G3 e,Nat.le_of_eq (E1 _ _),trivial,fun b hb=>absurd (show b∈([]:List Ì) from hb) (by simp),M,.of_eq hg⟩;refine Ŕ ((F _ L (X nD) f).run callerA [] aZ H ⟨[.ref a],[]⟩ [.ref a] [.ref a] _ _ hr e0 (vu aZ (.ref a)) (.cons rfl .nil) (gw H N C)) fun r s' h=>?_
  cases r with
  |error e=>exact (xJ H e s' h).elim
  |ok fl =>
   cases fl with
   |next=>exact ñ h
   |brk=>exact ñ h
   |cont=>exact ñ h
   |ret u =>
    obtain ⟨v,H',os,bare,un,G,r',q⟩:=h;have q':v=.bl true:=q;subst q';obtain rfl:u=ĝ true:=r';have keep:∀b o,aZ.heap.get? b=some o->b≠P->s'.heap.get? b=some o:=fun b o e n=>by
     rcases T b with z|z | ⟨z,J,U,W⟩
     ·exact un.keep b o e z (by intro z;exact absurd (show b∈([]:List Ì) from z) (by simp)) (by simp)
     ·exact absurd z n
     ·obtain ⟨e1,_⟩:=M b _ W
      obtain ⟨e2,_⟩:=G b _ (un.cL b J _ W);rw [e] at e1;cases e1;exact e2
    obtain ⟨more,hm⟩:=un.de P _ N;have E:s'.heap.get? P=some (tabObj (#[]++more)):=G P _ hm;refine ⟨rfl,⟨fun b o e=>?_,fun b o e=>?_⟩,os,bare⟩
    ·by_cases hb:b=P
     ·subst hb
      rw [hP] at e;cases e;exact .inr (.inl ⟨(CT.tab hP).isCodeTable,rfl,#[],more,rfl,E⟩)
     ·exact .inl (keep b o e hb)
    ·by_cases hb:b=P
     ·subst hb;exact ⟨_,E⟩
     ·exact ⟨o,keep b o e hb⟩
 cases R:K.lookup a with
 |some o =>
  have e:=KX a o R;rw [ha] at e;cases e
  refine core (fun b=>if b=P then some (.cz #[]) else none) (ã rfl) (fun b=>?_) (.inr ⟨_,vs.toArray,_,R,rfl,rfl,rfl,by rw [Û,D];exact hl,by simpa using Q⟩) (fun b u z=>?_) (fun z=>absurd (ë O) z)
  ·by_cases hb:b=P
   ·exact .inr (.inl hb)
   ·exact .inl (ë hb)
  ·by_cases hb:b=P
   ·have Z:=(ã hb).symm.trans z
    cases Z;subst hb;exact hP
   ·have Z:=(ë hb).symm.trans z
    cases Z
 |none =>
  refine core (fun b=>if b=P then some (.cz #[]) else if b=a then some (.aO { cls:=.type "list",data:=.seq vs.toArray } (.lst (ns.map V.int))) else none) (ã rfl) (fun b=>?_) (.inl (.inr ⟨{ cls:=.type "list",data:=.seq vs.toArray },(ë O).trans (ã rfl)⟩)) (fun b u z=>?_) (fun _=>R)
  ·by_cases hb:b=P
   ·exact .inr (.inl hb)
   ·by_cases Y:b=a
    ·exact .inr (.inr ⟨Y,_,_,(ë hb).trans (ã Y)⟩)
    ·exact .inl ((ë hb).trans (ë Y))
  ·by_cases hb:b=P
   ·have Z:=(ã hb).symm.trans z
    cases Z;subst hb;exact hP
   ·by_cases Y:b=a
    ·have Z:=((ë hb).trans (ã Y)).symm.trans z
     cases Z;subst Y;exact ⟨ha,by rw [ß];exact hl,vs,_,Q,ha⟩
    ·have Z:=((ë hb).trans (ë Y)).symm.trans z
     cases Z
def Jx {l:OpenLaw} {n k:Nat} {q:Ó} {loose:List Str} {XP:(Str->Option Â)->Ă->Prop} {YP:î->Ă->Prop} {d:DefRec} {K:Params->ô} {CX:î->gv} {sp:î->Ì->Sp} {x:Str}
  (hn:l.most=some n) (so:n<=Ô) (pj:d.params.defaults=[]) (hr:aY k callerA)
  (hY:∀(w:î) (h:Ă),YP w h->(K w.params).In h) (hd:(recsOf q).find? (fun e=>e.name==d.name)=some d)
  (F:∀(w:î) (mg:Str->Option Â) (fa:Ì) (h:Ă),(K w.params).In h->h.Ns Ç mg->mg d.name=some (.ref fa) ->
   ∃(c P:Ì) (fd:ú),tabIn (K w.params) d.name=some (c,P)/\(K w.params).lookup P=none/\(∀(s:Á) (u:Â),BindsTo s fd ⟨[u],[]⟩ [(x,u)]) /\
    ∀base:Ă,(K w.params).In base->base.Ns Ç mg->base.BuiltinsAt mg P->bK l.prog w (K w.params) mg base (CX w) k fa fd [x] (sp w P))
  (gw:∀(w:î) (P:Ì) (H:Hp) (a:Ì) (ns:List Int),ns.length<=n->H P=some (.cz #[])->bb (K w.params) H a (ns.map V.int)->sp w P [.ref a] H (fun v _=>v=.bl true) fun _ _ _=>False)
  (xJ:∀(w:î) (H:Hp) (s:Á) (e:Â) (s':Á),CX w [] H s (fun _ _ _=>False) e s'->False) :
  WalkO q loose XP YP l.row.toRowW d [] (fun f vs=>PySem.call f vs):=by
 refine CD.Ed hn pj fun w m S mg j fa o pm cd doc a vs ns G Y i Pf bJ O N hints Z M=>?_;have W:=hY w _ Y;obtain ⟨c,P,fd,L,J,I,E⟩:=F w mg fa _ W G.T.g O;obtain ⟨D,R⟩:=tab_of G.T W hd L;have C:S.heap.BuiltinsAt mg P:=by
  obtain ⟨bm,B,A,y,X,Q,t,U⟩:=G.T.bmain;refine ⟨bm,B,A,y,fun z=>?_,fun z=>?_,X,Q,t,U⟩
  ·obtain ⟨o,es,ep,e,hd,_⟩:=G.T.g
   rw [z,e] at X;cases X;rw [hd] at U;cases U
  ·rw [z,R] at X;cases X;cases Q
 exact Fp W G.T.g G.T.b G.T.builtins G.T.nolimit M N hints (ç Z so) hr D R J C E I (fun H r p=>gw w P H a ns Z r p) fun H e s'=>xJ w H S e s'
end L2
namespace DI
open PySem L2 PySem.W
def KQ {P:Ó} {w:î} {K:ô} {mg:Str->Option Â} {base:Ă} {x:Str} {st:ŷ} {f c T:Ì} {fd:ú} {ps:List Str} {k:Nat} {b:PB Fl} (G:Gd K mg x st ps f fd) (hx:nsIn K Ç x=some (some (.ref f))) (ht:tabIn K x=some (c,T)) (N:List Str) (S:jv N ps (bz st)=true)
  (hb:N.Nodup->∀(A:Ù) (outer:List PySem.Env) (s:Á) (H:Hp) (E:XK),aY k (A.deeper (ć x (bz st) s.heap.objs.size f (.ref c)))->bX (ef cg P w K mg base N x (bz st) f (.ref c) A outer s H E).jB (dE st) (tS K cu b)) :
  bK P w K mg base cg (k+1) f fd ps (gB K (aI ps.length N.length b)):=by
 obtain ⟨D,C,kV,doc,pm,an,X,ct,B,rfl,lk,U⟩:=G.fn.ex;have R:X=.ref c:=by
  unfold tabIn at ht;rw [hx] at ht;dsimp only at ht;rw [lk] at ht;dsimp only at ht
  cases X with
  |ref z =>
   dsimp only at ht;split at ht
   ·split at ht
    ·cases ht;rfl
    ·cases ht
   ·cases ht
  |_=>cases ht
 subst R;refine qX lk U (fX S) (fun O H Q E h=>?_) fun A outer s H O Q E M h=>?_
 ·obtain ⟨w,L,rfl,S,Y,h⟩:=h
  rw [<- Y.length];unfold aI at h;split at h
  ·assumption
  ·exact h.elim
 ·obtain ⟨W,L,rfl,J,Y,h⟩:=h
  refine ⟨_,(hb (fX S).nd A outer s W.H E M).jB,?_⟩;unfold aI at h;split at h
  ·rename_i I
   rw [<- I] at h;refine ⟨W,_,rfl,J,Y.env N.length,(Out.aj h).mono fun y F v V Z=>?_⟩
   cases F with
   |nx env=>intro u _;exact ay V Z _ rfl
   |rt d=>have q:=ay V Z;exact q
   |bk env=>exact Z.elim
   |ct env=>exact Z.elim
  ·exact h.elim
def qM (K:ô) (T:Ì):Sp:=fun Y H Q _=>∃(a:Ì) (Z:List Int),Y=[.ref a]/\bb K H a (Z.map V.int)/\Z.length<=63/\H T=some (.cz #[])/\∀X,Q (.bl true) X
def HD {P:Ó} {w:î} {K:ô} {mg:Str->Option Â} {base:Ă} {k:Nat} {f c T:Ì} {fd:ú} {x y:Str} {g:List D->aa->Res D} (F:bK P w K mg base cg k f fd [x] (gB K g)) (ht:tabIn K y=some (c,T))
  (h:∀ns:List Int,ns.length<=63->∃s,g [.bt ns] [.tb y]=some (.ok (.bl true),s)):bK P w K mg base cg k f fd [x] (qM K T):=F.imp fun U H Q E ⟨a,ns,e,hS,X,Y,q⟩=>by
 subst e;obtain ⟨s,hs⟩:=h ns X;have W:∀b,(⟨[T],[.tb y],H⟩:Wd).Z b->b=T:=fun b ⟨k,c,e1,_,_⟩=>by
  cases k with
  |zero=>exact (PK e1).symm
  |succ k=>cases e1
 have S:aH K ⟨[T],[.tb y],H⟩:=by
  refine ⟨rfl,by simp,fun k a e=>?_,fun k a R e1 e2=>?_⟩
  ·cases k with
   |zero=>cases e;show H T≠none;rw [Y];intro z;cases z
   |succ k=>cases e
  ·cases k with
   |zero=>cases e1;cases e2;exact ⟨c,#[],ht,Y,trivial,fun pos O z=>by cases z⟩
   |succ k=>cases e1
 refine ⟨⟨[T],[.tb y],H⟩,[.bt ns],rfl,S,ar.one ⟨a,rfl,?_⟩,?_⟩
 ·rcases hS with hS|hS
  ·refine .inl ⟨fun z=>?_,hS⟩
   rw [W a z] at hS
   rcases hS with hS | ⟨_,hS⟩<;>(rw [Y] at hS;cases hS)
  ·exact .inr hS
 ·show Out K cu _ (g [.bt ns] [.tb y]) _
  rw [hs];intro N _ _ _ v V;have e:v=.bl true:=V;subst e;exact q _
def D3:õ "ValueError"=some (.type "ValueError"):=by decide +kernel
noncomputable def isNm (n c:Str):Bool:=decide (c=n)
noncomputable def anyS (_:Str):Bool:=true
abbrev l0 (P:Ó) (w:î) (K:ô) (mg:Str->Option Â) (base:Ă) (x:Str) (st:ŷ) (ps:List Str) (k:Nat) (fn:List D->aa->Res D):Prop:=∀{f:Ì} {fd:ú},Gd K mg x st ps f fd->bK P w K mg base (dj P w) k f fd ps (kG mg K fn)
def dq (K:ô) (mg:Str->Option Â) (cs:List Str) (n:Str):Prop:=∃C,mg n=some (.ref C)/\mr K cs (.ref C) (isNm n)
def Dj (K:ô) (mg:Str->Option Â) (cs:List Str) (n:Str):Prop:=∃Z,mg n=some (.ref Z)/\∀c∈cs,∃C,nsIn K Ç c=some (some (.ref C))/\mg c=some (.ref C)/\exmOne K (.ref C) (.ref Z)=some true
section
variable {X:Cx} {E:XK} {Ξ:Wd->aP->Prop} {e a b c:ÿ} {es rest:List ÿ} {pos:Pos} {f g h:PB D} {fa:PB (List D)}
def gb {k n:Nat} {x:Str} {st:ŷ} {ps:List Str} {fn:List D->aa->Res D} {p:Pos} (G:GG X.K X.mg x st ps) (F:l0 X.prog X.w X.K X.mg X.base x st ps k fn) (L:Passes (dj X.prog X.w) X E) (hr:aY n X.A) (ha:PA X (e::es) (tA X.K (cX X.mg E) fa)) (hk:k<=n:=by decide) (hg:Gl X x:=by rfl) (cN:(x==("__debug__":Str))=false:=by decide)
  (he:Ä (e::es) X.env=(false,Ĕ e X.env)::Ä es X.env:=by rfl) (bP:(Ĉ pos (Ä es X.env)).any (·.1)=false:=by rfl):PE X (.Call (.Name x p) (e::es) [] pos) (tE X.K (cX X.mg E) (bE fn fa)):=by
 obtain ⟨f,fd,G⟩:=G;exact HC L (F G) (hr.mono hk) hg G.mg G.fn.kp G.b ha cN he bP
def dF {cs:List Str} {cn:Str} {p np:Pos} (hc:dq X.K X.mg cs cn) (ha:PE X a (tE X.K Ξ f)) (hm:X.mg "isinstance"=none) (hg:Gl X "isinstance":=by rfl) (xK:Gl X cn:=by rfl) (hd:(cn==("__debug__":Str))=false:=by decide)
  (hs:Ä [a,.Name cn np] X.env=(false,Ĕ a X.env)::Ä [.Name cn np] X.env:=by rfl) (kJ:Ä [.Name cn np] X.env=(false,Ĕ (.Name cn np) X.env)::Ä [] X.env:=by rfl) (bP:(Ĉ pos (Ä [.Name cn np] X.env)).any (·.1)=false:=by rfl) :
  PE X (.Call (.Name "isinstance" p) [a,.Name cn np] [] pos) (tE X.K Ξ (e1 (cw cs (isNm cn)) f)):=by
 obtain ⟨C,Z,h⟩:=hc;exact AH (vT:=.ref C) h (fun u r=>r) (zu xK Z rfl hd) ha hm fU hg hs kJ bP
def Jy {cs:List Str} {p np:Pos} (hc:mr X.K cs (.type "ValueError") anyS) (ha:PE X a (tE X.K Ξ f)) (hm:X.mg "isinstance"=none) (NX:X.mg "ValueError"=none) (hg:Gl X "isinstance":=by rfl) (xK:Gl X "ValueError":=by rfl)
  (hs:Ä [a,.Name "ValueError" np] X.env=(false,Ĕ a X.env)::Ä [.Name "ValueError" np] X.env:=by rfl) (kJ:Ä [.Name "ValueError" np] X.env=(false,Ĕ (.Name "ValueError" np) X.env)::Ä [] X.env:=by rfl) (bP:(Ĉ pos (Ä [.Name "ValueError" np] X.env)).any (·.1)=false:=by rfl) :
  PE X (.Call (.Name "isinstance" p) [a,.Name "ValueError" np] [] pos) (tE X.K Ξ (e1 (cw cs anyS) f)) :=
 AH (vT:=.ty "ValueError") hc (fun u r=>r) (qe xK NX D3 rfl) ha hm fU hg hs kJ bP
end
noncomputable def uV (K:ô) (x:Str):Bool:=match tabIn K x with
 |some (c,P)=>codeHdIn K c P&&(K.lookup P).isNone
 |none=>false
def HE {K:ô} {x:Str} (h:uV K x=true):∃c P,tabIn K x=some (c,P)/\codeHdIn K c P=true/\K.lookup P=none:=by
 unfold uV at h;split at h
 ·rename_i c P e
  rw [Å] at h;exact ⟨c,P,e,h.1,Ŏ.mp h.2⟩
 ·cases h
def n6 {K:ô} {x:Str} {p:Ì->Bool} (h:(match nsIn K Ç x with|some (some (.ref C))=>p C | _=>false)=true):∃C,nsIn K Ç x=some (some (.ref C))/\p C=true:=by
 split at h
 ·rename_i C e
  exact ⟨C,e,h⟩
 ·cases h
section
variable {K:ô} {cs asked:List Str} {fm:Str} {h:Ă} {mg:Str->Option Â}
end
end DI
namespace L2
open PySem PySem.Spec PyProof.Rows PySem.W
structure dZ (k:Nat) (A:Ù):Prop where
 dp:A.depth+3*k+5<ű
 un:A.units+16*k+200<cLine
def aY.h {k:Nat} {A:Ù} (r:aY k A):dZ k A:=⟨r.dp,r.un⟩
def dZ.mono {j k:Nat} {A:Ù} (r:dZ k A) (h:j<=k):dZ j A:=⟨by have:=r.dp;omega,by have:=r.un;omega⟩
theorem dZ.deeper {k:Nat} {A:Ù} (r:dZ (k+1) A) (env:Env):dZ k (A.deeper env) :=
 ⟨by have:=r.dp;show A.depth+1+3*k+5 < _;omega,by have:=r.un;show A.units+3+16*k+200 < _;omega⟩
theorem dZ.depth {k:Nat} {A:Ù} (r:dZ k A):A.depth<ű:=by have:=r.dp;omega
def dZ.held {k:Nat} {A:Ù} (r:dZ k A) (v:Option Â):dZ k (A.mark v):=⟨r.dp,r.un⟩
structure rk (P:Ó) (w:î) (K:ô) (mg:Str->Option Â) (base:Ă) (k:Nat) (f:Ì) (fd:ú) (ps:List Str) (sp:Sp):Prop where
 len:∀vs H Q E,sp vs H Q E->vs.length=ps.length
 run:∀(A:Ù) (outer:List Env) (s:Á) (H:Hp) (args:Args) (us:List Â) (vs:List V) (Q:VK) (E:XK),dZ k A->jo P w K mg base A outer s H->BindsTo s fd args (ps.zip us)->Vals vs us->sp vs H Q E ->
  Ū (Ø P w) A (.call (.ref f) args) (CR cg outer P w H s Q E) s
noncomputable abbrev _root_.PySem.Around.rl (A:Ù):Ù:={ A with handled:=none }
noncomputable abbrev Cx.loud (X:Cx) (A:Ù):Cx:={ X with A:=A,calm:=false,xe:=fun _ _=>False }
theorem Inv.loud {X:Cx} {π:List (Ì×Obj)} {σ:St} {H:Hp} {s:Á} (I:Inv X π σ H s) (A:Ù) (h:A.frames=X.A.frames):Inv (X.loud A) π σ H s:=by
 obtain ⟨⟨a1,a2,Z,Y,W,V,U,T,v,S,R,Q,P,O,N,M,L,K⟩,J,G,F,E,D,C,B,y,x,w⟩:=I;exact ⟨⟨a1,a2,Z,Y,W,V,U,T,fun z=>absurd z Î,h.trans S,R,Q,P,O,N,M,L,K⟩,J,G,F,E,D,C,B,y,x,w⟩
def Jz {P:Ó} {w:î} {K:ô} {mg:Str->Option Â} {base:Ă} {k:Nat} {f:Ì} {name qual:Str} {params:Š} {body:List ŷ} {scope:Ń} {dV kV doc pm aD ct oc:Â} {an od:Option Ì}
  {cO:Array (Option Â)} {N ps:List Str} {sp:Sp} (lk:K.lookup f=some ⟨oc,od,.func (Ĝ name qual params body scope dV kV doc pm an aD ct),cO⟩) (bJ:ň K aD qual=true) (S:je N ps scope)
  (len:∀vs H Q E,sp vs H Q E->vs.length=ps.length)
  (ij:∀(A:Ù) (outer:List Env) (s:Á) (H:Hp) (vs:List V) (Q:VK) (E:XK),dZ k (A.deeper (Pz qual scope s.heap.objs.size f aD))->sp vs H Q E ->
   ∃t,bX ((ef cg P w K mg base N qual scope f aD A.rl outer s H E).loud (A.deeper (Pz qual scope s.heap.objs.size f aD))) body t/\t { nx:=fun _ H'=>Q .au H',rt:=Q } (start N vs) H) :
  rk P w K mg base (k+1) f (Ĝ name qual params body scope dV kV doc pm an aD ct) ps sp:=by
 refine ⟨len,fun A outer s H args p vs Q E T Z M r R=>?_⟩;have L:=len _ _ _ _ R;have O:K.In s.heap:=Z.mod.gn.keeps fun b o e=>(Z.bs b o e).1;have lim:s.heap.NoLimit:=Z.mod.nolimit.keeps fun b o e=>(Z.bs b o e).1;refine Ŵ T.depth (O _ _ lk) rfl S.co S.gen rfl (PySem.W.codeRec_of O bJ) (M _ _ _ _ ?_);refine ł S.kind (fun y G=>?_) fun env F D x=>?_
 ·rcases S.par y.1 (ş G).1 with q|q
  ·exact .inl q
  ·exact .inr ⟨q,ĵ _ _ _ (.inl q)⟩
 subst F;refine ⟨lim.keeps x.toInCall.keep,codeAny_func ?_⟩;obtain ⟨t,C,B⟩:=ij A outer s H vs Q E (T.deeper _) R;have I:=(yR (CX:=cg) (P:=P) (w:=w) (A:=A.rl) (E:=E) S rfl ⟨Z.frames,Z.mod,Z.bs,Z.gp,Z.fq,Z.gZ,Z.aA,Z.bare⟩ L r x).loud (A.deeper (Pz qual scope s.heap.objs.size f aD)) rfl;refine ü (C [] D (start N vs) H _ I B) (fun z X hs=>?_) fun e X hs=>hs.elim;have fin:∀{Y:St} {H':Hp} {v:V} {u:Â},Inv ((ef cg P w K mg base N qual scope f aD A.rl outer s H E).loud (A.deeper (Pz qual scope s.heap.objs.size f aD))) [] Y H' X->RelV v u->Q v H'->CE outer P w H s Q u X :=
  fun {Y H' v u} J U q=>⟨v,H',J.os,J.bare,J.base,J.aA,U,q⟩
 cases z with
 |ret u=>obtain ⟨v,Y,H',J,U,q⟩:=hs;exact fin J U q
 |next=>obtain ⟨Y,H',J,q⟩:=hs;exact fin (v:=V.au) (u:=Value.none) J rfl q
 |brk=>obtain ⟨_,_,_,q⟩:=hs;exact q.elim
 |cont=>obtain ⟨_,_,_,q⟩:=hs;exact q.elim
section
variable {X:Cx} {k:Nat} {f:Ì} {fd:ú} {ps:List Str} {sp:Sp} {E:XK} {x:Str} {p pos:Pos} {e:ÿ} {es:List ÿ} {t:TA}
def GF (F:rk X.prog X.w X.K X.mg X.base k f fd ps sp) (hr:dZ k X.A) (hg:Gl X x) (hm:X.mg x=some (.ref f)) (hk:ĕ X.K (.ref f)=true) (hb:Binds X.K fd ps [])
  (ha:PA X (e::es) t) (cN:(x==("__debug__":Str))=false:=by decide) (he:Ä (e::es) X.env=(false,Ĕ e X.env)::Ä es X.env:=by rfl) (bP:(Ĉ pos (Ä es X.env)).any (·.1)=false:=by rfl) :
  PE X (.Call (.Name x p) (e::es) [] pos) (Be sp [] E0 t):=by
 intro S s σ H Q I h;refine ķ (jP I hg hm ?_ cN);refine Ş (h₀:=X.base) I.ok.mod.gn hk (aM (ha pos S s σ H _ I h) fun Z V ⟨U,R,W,r,q⟩=>⟨W.cH,?_⟩) he bP;have T:Vals (U++[]) (Z++[]):=r.append .nil;have P:(Z++[]).length=ps.length:=by rw [<- T.length];exact F.len _ _ _ _ q
 refine Ĵ (Ŕ (F.run X.A X.stack V R ⟨Z,[]⟩ (Z++[]) (U++[]) Q E0 hr W.kf (hb V Z W.cH P) T q) fun r N Y=>?_)
 cases r with
 |error e=>exact ñ Y
 |ok O =>
  cases O with
  |ret u=>exact W.after Y
  |next=>exact ñ Y
  |brk=>exact ñ Y
  |cont=>exact ñ Y
end
end L2
namespace DI
open PySem L2 PySem.W
abbrev Dl (P:Ó) (w:î) (K:ô) (mg:Str->Option Â) (base:Ă) (x:Str) (st:ŷ) (ps:List Str) (k:Nat) (fn:List D->aa->Res D):Prop:=∀{f:Ì} {fd:ú},Gd K mg x st ps f fd->rk P w K mg base k f fd ps (gB K fn)
def KR {P:Ó} {w:î} {K:ô} {mg:Str->Option Â} {base:Ă} {x:Str} {st:ŷ} {f:Ì} {fd:ú} {ps:List Str} {k:Nat} {b:PB Fl} (G:Gd K mg x st ps f fd) (N:List Str) (S:jv N ps (bz st)=true)
  (hb:N.Nodup->∀(aD:Â) (A:Ù) (outer:List PySem.Env) (s:Á) (H:Hp) (E:XK),dZ k (A.deeper (ć x (bz st) s.heap.objs.size f aD))->bX ((ef cg P w K mg base N x (bz st) f aD A.rl outer s H E).loud (A.deeper (ć x (bz st) s.heap.objs.size f aD))) (dE st) (tS K cu b)) :
  rk P w K mg base (k+1) f fd ps (gB K (aI ps.length N.length b)):=by
 obtain ⟨L,J,kV,doc,pm,an,aD,ct,I,rfl,lk,W⟩:=G.fn.ex;refine Jz lk W (fX S) (fun V H Q E h=>?_) fun A outer s H V Q E U h=>?_
 ·obtain ⟨w,T,rfl,S,Y,h⟩:=h
  rw [<- Y.length];unfold aI at h;split at h
  ·assumption
  ·exact h.elim
 ·obtain ⟨w,T,rfl,R,Y,h⟩:=h
  refine ⟨_,hb (fX S).nd aD A outer s w.H E U,?_⟩;unfold aI at h;split at h
  ·rename_i O
   rw [<- O] at h;refine ⟨w,_,rfl,R,Y.env N.length,(Out.aj h).mono fun F M D X Z=>?_⟩
   cases M with
   |nx env=>intro C _;exact ay X Z _ rfl
   |rt d=>have q:=ay X Z;exact q
   |bk env=>exact Z.elim
   |ct env=>exact Z.elim
  ·exact h.elim
def j9 (cs:List Str) (told:Str) (f:PB D) (j:Nat) (b:PB Fl):PB Fl:=fun env s=>match f env s with
 |none=>none
 |some (.ok d,s)=>ok (.rt (.tup [.str told,d])) s
 |some (.error x,s)=>if decide (x.c∈cs)=true then aj (b (env.set j (some (.exc x.c x.many))) s) fun Z s=>match Z with
   | .nx env=>ok (.nx (env.set j none)) s
   | .rt d=>ok (.rt d) s
   |_=>none else none
section
variable {X:Cx} {E:XK} {Ξ:Wd->aP->Prop} {e a b c:ÿ} {es rest:List ÿ} {pos:Pos} {f g h:PB D} {fa:PB (List D)}
def KS {k n:Nat} {x:Str} {st:ŷ} {ps:List Str} {fn:List D->aa->Res D} {p:Pos} (G:GG X.K X.mg x st ps) (F:Dl X.prog X.w X.K X.mg X.base x st ps k fn) (hr:dZ n X.A) (ha:PA X (e::es) (tA X.K Ξ fa)) (hk:k<=n:=by decide) (hg:Gl X x:=by rfl) (cN:(x==("__debug__":Str))=false:=by decide)
  (he:Ä (e::es) X.env=(false,Ĕ e X.env)::Ä es X.env:=by rfl) (bP:(Ĉ pos (Ä es X.env)).any (·.1)=false:=by rfl):PE X (.Call (.Name x p) (e::es) [] pos) (tE X.K Ξ (aX fn fa)):=by
 obtain ⟨f,fd,G⟩:=G;refine cb (GF (F G) (hr.mono hk) hg G.mg G.fn.kp G.b ha cN he bP) fun σ H Q Y=>?_;obtain ⟨w,env,W,S,V,h⟩:=Y;subst W;refine ⟨w,env,rfl,S,V,(Out.aj h).mono fun Z U N T R P O=>?_⟩;show gB X.K fn (P++[]) Z.H Q E0;rw [Č];exact ⟨Z,U,rfl,T,O,R.ne⟩
def vv (x y:D) (s:aa):Res D:=match x,y with
 | .int i,.int j=>ok (.bl (!(i==j))) s
 |_,_=>none
def KU:bq X (ă .NotEq) (rO X.K Ξ vv):=by
 rintro Z s σ H x y v u Q I Y W ⟨w,R,P,rfl,S,U,T,h⟩;unfold vv at h;split at h
 ·rename_i i j
  cases U;cases T;refine Bd Z s σ w.H _ _ v u Q I Y W ⟨rfl,?_⟩;have:(!decide (V.int i=V.int j))=!(i==j):=by
   congr 1;rw [Ļ];simp
  rw [this];exact ay S h _ rfl
 ·exact h.elim
def JA {k i j:Nat} {x cn n told:Str} {p aV lI Mm np wz c0:Pos} {k0 k1} {pre:Hp->Prop} {f:Ì} {vs:List V} {ds:List D} {th:aa->Res D} {oT:ŷ} {oy:List ŷ} {b:PB Fl} {cs:List Str} (T:sG X.prog X.w X.K X.mg X.base k pre f vs ds th) (h0:pre X.iT) (hr:aY k X.A)
  (hc:∃CM,X.mg cn=some (.ref CM)/\∀c∈cs,∃C,nsIn X.K Ç c=some (some (.ref C))/\X.mg c=some (.ref C)/\exmOne X.K (.ref C) (.ref CM)=some true)
  (hs:∀a,bX (X.held a) (oT::oy) (tS X.K cu b)) (xM:X.N.Nodup)
  (L:X.stack=X.env::X.outer:=by rfl) (hf:X.env.frame=some X.env.locals:=by rfl) (hj:X.N[j]?=some n:=by rfl) (kI:X.env.scope.names.lookup n=some .local:=by rfl) (hg:Gl X cn:=by rfl) (NY:(cn==("__debug__":Str))=false:=by decide)
  (hN:X.N[i]?=some x:=by rfl) (hv:ny X.env.scope x:=by first|exact Or.inl rfl|exact Or.inr (Or.inl rfl)|exact Or.inr (Or.inr rfl)) (hd:(x==("__debug__":Str))=false:=by decide) (bJ:(x==("__classdict__":Str))=false:=by decide)
  (h1:Ä [.Constant (.str told) k0 c0,.Call (.Name x p) [] [] aV] X.env=(false,Ĕ (.Constant (.str told) k0 c0) X.env)::Ä [.Call (.Name x p) [] [] aV] X.env:=by rfl) (h2:Ä [.Call (.Name x p) [] [] aV] X.env=(false,Ĕ (.Call (.Name x p) [] [] aV) X.env)::Ä [] X.env:=by rfl) :
  PS X (.Try [.Return (some (.Tuple [.Constant (.str told) k0 c0,.Call (.Name x p) [] [] aV] k1 lI)) Mm] [.ExceptHandler (some (.Name cn np)) (some n) (oT::oy) wz] [] [] pos) (tS X.K cu (j9 cs told (nH (.bO f vs ds) th i) j b)):=by
 intro g s σ H D I ax;obtain ⟨w,env,eH,S,eo,h⟩:=ax;subst eH;obtain ⟨CM,i6,iI⟩:=hc;unfold j9 nH at h;by_cases he:env[i]?=some (some (.bO f vs ds))
 case neg=>rw [ë he] at h;exact h.elim
 rw [ã he] at h;refine wpAny_Try_except ?_
 let E:XK:=fun cls m U=>∃(Y:Wd) (c:Str) (C:Ì) (G:Option Int),Y.H=U/\aH X.K Y/\bF X.K Y env σ/\cls=.ref C/\c∈cs/\X.mg c=some (.ref C)/\(∀i,G=some i->∃W R t,m=some W/\(¬ Y.Z W/\Y.H W=some (.aO R (.own W)))/\lookIn "many" R=some (some (.int i t)))/\Out X.K cu Y (aj (b (env.set j (some (.exc c G))) Y.aw) fun F s=>match F with
   | .nx env=>ok (.nx (env.set j none)) s
   | .rt d=>ok (.rt d) s
   |_=>none) (rH X.K D)
 have NZ:Out X.K (cX X.mg E) w (th w.aw) fun Y d=>∀v,DV X.K Y d v->∀q,Y.H q=none->D.rt (.ref q) (upd Y.H q (.tup [.str told,v])):=by
  cases hr:th w.aw with
  |none=>rw [hr] at h;exact h.elim
  |some q =>
   obtain ⟨q,s2⟩:=q;rw [hr] at h
   cases q with
   |ok d =>
    intro Y l P e v dv q hq;have l2:=(Fw.grow (K:=X.K) (o:=.tup [.str told,v]) hq).le;exact h (Y.grow q (.tup [.str told,v])) (l.trans l2) (P.grow hq) e (.ref q) ⟨q,_,rfl,bh.of bZ,⟨.str told,[v],rfl,rfl,l2.all ⟨v,[],rfl,dv,rfl⟩⟩⟩
   |error y =>
    intro Y l P e;dsimp only at h;split at h
    ·rename_i B
     have B:=í B;obtain ⟨C,_,h2,_⟩:=iI _ B;refine ⟨C,h2,?_⟩
     cases hm:y.many with
     |none =>
      refine ⟨Y,y.c,C,none,rfl,P,eo.le l,rfl,B,h2,(fun i z=>by cases z),?_⟩;rw [hm] at h;rw [e];exact h.from l
     |some i =>
      intro W R t O hl;have le:=(Fw.grow (K:=X.K) (o:=.aO R (.own W)) O).le;refine ⟨Y.grow W (.aO R (.own W)),y.c,C,some i,rfl,P.grow O,(eo.le l).le le,rfl,B,h2,fun i' z=>?_,?_⟩
      ·cases z
       exact ⟨W,R,t,rfl,⟨fun z=>kX P O z,bZ⟩,hl⟩
      ·rw [hm] at h
       show Out X.K cu _ (aj (b (env.set j (some (.exc y.c (some i)))) Y.aw) _) _;rw [e];exact (h.from l).from le
    ·exact h.elim
 have ij:=fun {M:Á} (I:Inv X g σ w.H M)=>Jt (pos:=aV) (p:=p) (Q:=fun v U=>∀q,U q=none->D.rt (.ref q) (upd U q (.tup [.str told,v]))) T h0 hr hN hv hd bJ I S eo he NZ;refine Ÿ (ü (wpAny_Return_some (Q:=SP X g { nx:=fun _ _=>False,rt:=D.rt }) (E:=qL X g σ E) (wpAny_Tuple_spliced ?_)) (fun F M q=>?_) fun e M q=>?_)
 ·rw [h1]
  refine ŝ (Calls.Constant_str (k:=k0) (pos:=c0) ?_);rw [h2];refine ŝ (aM (ij (I.tok _)) fun u M hq=>Calls.spliced_nil ?_);obtain ⟨v,H1,I1,r,q⟩:=hq;refine ⟨show 2<=Ô by decide,?_⟩;have hf:H1 M.heap.objs.size=none:=I1.aA.fresh (PJ _);refine ⟨.ref M.heap.objs.size,σ,upd H1 M.heap.objs.size (.tup [.str told,v]),I1.laid (t':=M.toks) (fun b u e=>Ã _ e) (PJ _) ?_,rfl,q _ hf⟩;exact ⟨show 2<=Ô by decide,_,.cons ⟨_,rfl⟩ (.cons r .nil),⟨_,Ï _ rfl,rfl,_,rfl⟩⟩
 ·cases F with
  |next=>obtain ⟨_,_,_,z⟩:=q;exact ñ z
  |ret v=>exact q
  |brk=>obtain ⟨_,_,_,z⟩:=q;exact ñ z
  |cont=>obtain ⟨_,_,_,z⟩:=q;exact ñ z
 ·refine fm (D:=D) q L hf xM hj kI hg i6 NY fun cls m U hE=>?_
  obtain ⟨Y,c,C,G,rfl,P,kA,rfl,se,N0,N1,ho⟩:=hE;obtain ⟨C2,k1,k2,k3⟩:=iI c se;rw [N0] at k2;cases k2;refine ⟨k3,fun a o O jz fE s5 I5=>?_⟩;have le:=(Fw.grow (K:=X.K) (o:=.aO o (.own a)) O).le;have S5:=P.grow (o:=.aO o (.own a)) O;have dv:DV X.K (Y.grow a (.aO o (.own a))) (.exc c G) (.ref a):=by
   simp only [DV];refine ⟨a,o,C,rfl,⟨fun z=>kX P O z,bZ⟩,⟨jz,k1⟩,fun i hi=>?_⟩;obtain ⟨W,R,t,q1,q2,q3⟩:=N1 i hi;exact ⟨fE.1,W,R,t,fE.2 W q1,(Fw.grow (K:=X.K) (o:=.aO o (.own a)) O).aO W R _ q2.1 q2.2,q3⟩
  have hd:=hs a g s5 (σ.set j (some (.ref a))) _ { nx:=fun J U=>D.nx (J.set j none) U,rt:=D.rt,bk:=fun J U=>D.bk (J.set j none) U,ct:=fun J U=>D.ct (J.set j none) U } I5
   ⟨Y.grow a (.aO o (.own a)),env.set j (some (.exc c G)),rfl,S5,(kA.le le).set dv j,(Out.aj (ho.from le)).mono fun w6 F l6 S6 q=>?_⟩
  ·exact hd
  ·cases F with
   |nx aK=>exact fun J e'=>ay S6 q (J.set j none) (e'.unset j)
   |rt d=>have z:=ay S6 q;exact z
   |bk aK=>exact q.elim
   |ct aK=>exact q.elim
end
end DI
namespace L2
open PySem PySem.Spec PyProof.Rows
def D4 {X:Cx}:dB X (.builtin "isinstance") (fun xs H Q=>∃x k p,xs=[x,.ref p]/\ku X.K H x k/\H p=some (.ext (mQ p ["list","tuple"]))/\Q (.bl (decide (k=.tup)||decide (k=.lst))) H):=by
 intro P s σ H xs O Q I r h;obtain ⟨x,k,p,rfl,W,V,q⟩:=h;obtain ⟨u,c,rfl,U,rc⟩:=vals2 r;cases rc;obtain ⟨N,T,Z,S,Y⟩:=IQ (K:=X.K) I W U;have R:cV X.prog X.w H s.heap p (.ext (mQ p ["list","tuple"])):=I.aA p _ V
 match T,Z,Y with
 | [M,y1],Z,Y =>
  refine IsiPair.tupleOfB (.cons Z.2.1 (.cons Z.1 .nil)) S R.1 ?_ fun L=>⟨.bl _,H,I.tok _,rfl,q⟩;rw [<- Y];simp only [List.any_cons,List.any_nil,Bool.or_false,id];exact Bool.or_comm _ _
end L2
namespace DI
open PySem L2
def HF {X:Cx} {Ξ:Wd->aP->Prop} {a:ÿ} {pos:Pos} {f:PB D} {p p1 p2 p3:Pos} {x1} (ha:PE X a (tE X.K Ξ f)) (hg:Gl X "isinstance") (hm:X.mg "isinstance"=none) (hv:õ "isinstance"=some (.builtin "isinstance")) (h1:PE X (.Name "tuple" p1) (tC (.ty "tuple"))) (h2:PE X (.Name "list" p2) (tC (.ty "list")))
  (he:Ä (a::[.Tuple [.Name "list" p2,.Name "tuple" p1] x1 p3]) X.env=(false,Ĕ a X.env)::Ä [.Tuple [.Name "list" p2,.Name "tuple" p1] x1 p3] X.env:=by rfl) :
  PE X (.Call (.Name "isinstance" p) [a,.Tuple [.Name "list" p2,.Name "tuple" p1] x1 p3] [] pos) (tE X.K Ξ (e1 rP f)) :=
 cb (tP D4 hg hm hv (iM ha (iM (F7 (iM h2 (iM h1 kW))) kW) he) (by decide) (by decide) he) fun σ H Q T=>by
  obtain ⟨w,env,R,S,P,h⟩:=T;subst R;refine ⟨w,env,rfl,S,P,(Out.aj h).mono fun Y d M O h1 v N=>?_⟩;refine ⟨["list","tuple"],rfl,(by show 2<=Ô;decide),fun p W=>?_⟩;obtain ⟨L,e,h1⟩:=dU h1
  cases Z:kd d Y.aw with
  |none=>rw [Z] at e;cases e
  |some k =>
   rw [Z] at e;cases e;have V:=O.grow (o:=.ext (mQ p ["list","tuple"])) W;have U:=(Fw.grow (K:=X.K) (o:=.ext (mQ p ["list","tuple"])) W).le;exact ⟨v,k,p,rfl,Bo (w:=Y.grow p _) V (U _ _ N) Z,bZ,h1 _ U V rfl _ rfl⟩
def oU (f:ÿ->Option D):List ÿ->Option (List D)
 | []=>some []
 |e::Z=>match f e,oU f Z with
  |some d,some Y=>if notStar e=true then some (d::Y) else none
  |_,_=>none
def cst:Nat->ÿ->Option D
 |0,_=>none
 |n+1,e=>match e with
  | .Constant (.str x) _ _=>some (.str x)
  | .Constant (.int i) _ _=>some (.int i)
  | .Constant (.bool b) _ _=>some (.bl b)
  | .Constant .none _ _=>some .au
  | .UnaryOp .USub (.Constant (.int i) _ _) _=>some (.int (-i))
  | .Tuple Y _ _=>match oU (cst n) Y with
   |some Z=>if Z.length<=100 then some (.tup Z) else none
   |none=>none
  | .List Y _=>match oU (cst n) Y with
   |some Z=>if Z.length<=100 then some (.lst Z) else none
   |none=>none
  |_=>none
def aC (ds:List D):PB (List D):=fun _ s=>ok ds s
def KW {ds:List D} (h:ds.length<=100):dg (aC ds)=eC (.tup ds):=by
 funext env s;show fZ ds (ok (D.tup ds) s)=_;exact ã (ç h (by decide))
def KY {ds:List D} (h:ds.length<=100):dG (aC ds)=eC (.lst ds):=by
 funext env s;show fZ ds (ok (D.lst ds) s)=_;exact ã (ç h (by decide))
section
variable {X:Cx} {Ξ:Wd->aP->Prop}
theorem vw {f:ÿ->Option D} (hf:∀e d,f e=some d->PE X e (tE X.K Ξ (eC d))):∀{es:List ÿ} {ds:List D},oU f es=some ds->PA X es (tA X.K Ξ (aC ds))
 | [],ds,h=>by cases h;exact gP
 |e::es,ds,h=>by
  unfold oU at h;split at h
  ·rename_i d Z e1 e2
   split at h
   ·rename_i hs
    cases h;exact HB (hf e d e1) (vw hf e2) hs
   ·cases h
  ·cases h
theorem vz:∀(n:Nat) {e:ÿ} {d:D},cst n e=some d->PE X e (tE X.K Ξ (eC d))
 |0,e,d,h=>by cases h
 |n+1,e,d,h=>by
  unfold cst at h;split at h
  ·cases h;exact eZ
  ·cases h;exact aB
  ·cases h;exact fz
  ·cases h;exact qY
  ·cases h;exact v8 vp aB
  ·split at h
   ·rename_i W Z
    split at h
    ·rename_i Y
     cases h;rw [<- KW Y];exact dX (vw (fun e d=>vz n) Z)
    ·cases h
   ·cases h
  ·split at h
   ·rename_i W Z
    split at h
    ·rename_i Y
     cases h;rw [<- KY Y];exact fJ (vw (fun e d=>vz n) Z)
    ·cases h
   ·cases h
  ·cases h
end
end DI
namespace L2
open PySem PySem.Spec PySem.Calls PyProof.Rows PySem.W PySem.Builtin PySem.Builtin.ObjectAttr PySem.Builtin.Getset_descriptor
section
variable {prog:Ó} {w:î} {A:Ù} {E:Â->Á->Prop} {s:Á} {K:ô} {x C:Ì}
noncomputable def lA:List Â->Bool
 | .ref _::r=>lA r
 |r=>decide (r=[.type "ValueError",.type "Exception",.type "BaseException",.type "object"])
def EH (self:Â) (l:List Â) (h:lA l=true):refuseLoop self "__setattr__" l=pure ():=by
 induction l with
 |nil=>cases h
 |cons a r ih =>
  unfold lA at h;split at h
  ·rename_i c Z e
   cases e;rw [refuseLoop_ref];exact ih h
  ·rw [í h]
   exact PySem.F.store_ValueError.passes self
def Fq (l:List Â) (h:lA l=true):l.contains (.type "object")=true:=by
 induction l with
 |nil=>cases h
 |cons a r ih =>
  unfold lA at h;split at h
  ·rename_i c Z e
   cases e;rw [List.contains_cons,ih h,Bool.or_true]
  ·rw [í h]
   decide
def iO (K:ô) (C:Ì):Bool:=(findIn K (.ref C) "__getattribute__"==some (some (.builtin "BaseException.__getattribute__")))&&(findIn K (.ref C) "__getattr__"==some none)&&(findIn K (.ref C) "many"==some none)&&(findIn K (.ref C) "__setattr__"==some (some (.builtin "object.__setattr__")))&&(mroIn K C (.type "BaseException")==some true) &&
 (match clsIn K C with|some cd=>cd.hasDict&&lA cd.mro|none=>false)
def zk (h:iO K C=true):∃cd,clsIn K C=some cd/\cd.hasDict=true/\lA cd.mro=true:=by
 unfold iO at h;rw [Å] at h;have h:=h.2;split at h
 ·rename_i cd e
  rw [Å] at h;exact ⟨cd,e,h.1,h.2⟩
 ·cases h
def Fs {expr:Bool} {i:Int} {t0:Tok} {ox od:Obj} {Q:Â->Á->Prop} (X:K.In s.heap) (I:InstAt s.heap x ox C (some od)) (hc:iO K C=true) (hl:lookIn "many" od=some (some (.int i t0))) (h:Q (.int i t0) { s with toks:=s.toks+1 }) :
  Ö (Ø prog w) A (getAttr (.ref x) "many" expr) Q E s:=by
 obtain ⟨cd,Z,Y,_⟩:=zk hc;unfold iO at hc;simp only [Å,beq_iff_eq] at hc;obtain ⟨⟨⟨⟨⟨V,U⟩,T⟩,H⟩,S⟩,_⟩:=hc;have LT:=I.type (M:=Ø prog w);have O:=looks_own (M:=Ø prog w) (name:="many") X I Z (by unfold W.ownOf;rw [Y,ã rfl];exact hl);obtain ⟨R,g,d,t,os⟩:=s;have M1:=Ľ (M:=Ø prog w) X V;have M2:=Ľ (M:=Ø prog w) X U;have P:Looks (Ø prog w) R (find (.ref x) (.ref C) "many") (.value (.int i t0)) :=
  (Ľ X T).andThen (Looks.now.andThen (Looks.now.andThen (O.andThen (Looks.tag .now))))
 have N:=looks_mroIn (M:=Ø prog w) X S;have L:=Ű.ga.bind (.ref x);unfold getAttr getAttrBy;refine À (wpAny_mkText (ċ (À (LT.at (À (M1.at ?_))))));show Ö _ _ (χ (.ref x) _ (.ref C) (.builtin "BaseException.__getattribute__") true expr) _ _ _;unfold χ;refine À (M2.at (À (ſ (ċ ?_))))
 have J:callGetattribute (.ref x) (.str "many" t) (.builtin "BaseException.__getattribute__") expr=boundAndCalled (.builtin "BaseException.__getattribute__") (.ref x) (.str "many" t):=by cases expr<;>rfl
 rw [J];unfold boundAndCalled;rw [L];refine À (Ë (Ĵ (ń Ű.ga.plain F.entry_bexc_ga ?_)));refine AG LT N ?_;unfold Pp.«object.__getattribute__»;rw [show slotArgs "__getattribute__" 1 ⟨[.ref x]++[.str "many" t],[]⟩=pure (.ref x,[.str "many" t]) from rfl];refine À (Ë ?_);dsimp only;rw [show attrName (.str "many" t)=pure ("many":Str) from rfl];refine À (Ë (À (LT.at (À (P.at ?_)))));exact Ë (Ë h)
def EI {v:Â} {o:Obj} {Q:Unit->Á->Prop} (X:K.In s.heap) (hx:s.heap.get? x=some o) (cQ:o.cls=.ref C) (jJ:o.dict=none) (xN:∀c,o.data≠.cls c) (hc:iO K C=true)
  (hq:∀h' tk dx,dx=s.heap.objs.size->h'.get? x=some { o with dict:=some dx }->h'.Ns1 dx (fun y=>if y="many" then some v else none)->(∀b p,b≠x->s.heap.get? b=some p->h'.get? b=some p)->Q () { s with heap:=h',toks:=tk }) :
  Ö (Ø prog w) A (setAttr (.ref x) "many" v) Q E s:=by
 have Z:=PySem.F.store_ValueError;obtain ⟨cd,T,N,Y⟩:=zk hc;unfold iO at hc;simp only [Å,beq_iff_eq] at hc;obtain ⟨⟨⟨⟨⟨h1,h2⟩,L⟩,J⟩,h5⟩,_⟩:=hc;have LT:Looks (Ø prog w) s.heap (typeOf (.ref x)) (.ref C):=by rw [<- cQ];exact (Looks.ld hx).andThen .now
 obtain ⟨h,g,d,t,os⟩:=s;have I:=Ľ (M:=Ø prog w) X J;have H:=Ľ (M:=Ø prog w) X L;have S:=looks_clsIn (M:=Ø prog w) X T;have G:=Z.slot.bind (.ref x)
 have ne:cd.mro.isEmpty=false:=by cases q:cd.mro with|nil=>rw [q] at Y;cases Y|cons _ _=>rfl
 have sub:Looks (Ø prog w) h (isInstance (.ref x) (.type "object")) true:=LT.andThen (looks_mroIn X (by unfold mroIn;rw [T,Option.bind_some,ë (by rw [ne];decide),Fq _ Y]));have D:Looks (Ø prog w) h (mroOf (.ref C)) cd.mro:=S.andThen .now;unfold setAttr callSpecial? specialOf;refine À (wpAny_mkText ?_);refine À (À (À (LT.at (I.at ?_))));dsimp only;refine ċ ?_;rw [G];refine À (Ë ?_);dsimp only;refine À (Ĵ ?_);refine ń Z.slot.plain Z.entry ?_;refine @check_slot (Ø prog w) _ _ _ "object.__setattr__" "object" "__setattr__" (.ref x) [.str "many" t,v] [] _ Z.kind Z.split sub (Z.args (.ref x) (.str "many" t) v) ?_;show Ö _ _ (Pp.«object.__setattr__» ⟨[.ref x,.str "many" t,v],[]⟩) _ _ _;rw [osa_eq,refuse_eq];refine À (À (LT.at (À (D.at ?_))));rw [EH _ _ Y];refine Ë (À (LT.at (À (H.at (À (Ë ?_))))));dsimp only;unfold storeInOwnDict;refine À (Ë ?_);show Ö _ _ (ownDictForStores (.ref x) >>= _) _ _ _;unfold ownDictForStores instanceDict;have R:x≠h.objs.size:=â (É hx);refine À (À (wpAny_loadPart hx ?_));rw [cQ];dsimp only;refine À (S.at ?_);rw [N];rw [ë (by decide),jJ];dsimp only;rw [ë (by simp [typeHasDict])];split
 ·rename_i c e
  exact absurd e (xN c)
 have P:(h.push { cls:=.type "dict",data:=.dict #[] }).get? x=some o:=Ã _ hx;refine À (wpAny_alloc' ?_);refine À (wpAny_update' P ?_);refine Ë ?_;dsimp only;generalize W:(h.push { cls:=.type "dict",data:=.dict #[] }).update x (fun o=>{ cls:=o.cls,dict:=some h.objs.size,data:=o.data,slots:=o.slots })=U;have B:U.get? h.objs.size=some { cls:=.type "dict",data:=.dict #[] }:=by
  rw [<- W,υ _ _ _ _ R.symm];exact Heap.get?_push_at rfl rfl
 have z:U.Ns h.objs.size (fun _=>none):=⟨_,#[],_,B,rfl,fun e u=>absurd u (by simp),fun _=>rfl⟩
 have r:U.get? x=some { o with dict:=some h.objs.size }:=by
  rw [<- W];refine ŵ _ P ?_;have n:=(ĸ.mp hx).2;obtain ⟨oc,od,m,cO⟩:=o
  cases m<;>first|rfl|exact n
 have l:∀b p,b≠x->h.get? b=some p->U.get? b=some p:=fun b p V e=>by
  rw [<- W,υ _ _ _ _ V];exact Ã _ e
 unfold storeInDict newKeyGuard;refine À (Ë (À (wpAny_nsSet1 (Heap.Ns1.of_empty z) fun h' O hs=>?_)));obtain ⟨oD,MB,MD,k,j,i⟩:=O.count (Within.cons "many" v Within.nil);refine À (wpAny_lookBehind k (by rw [j];exact pastItsLine_dict (ç i (by rw [ò,ę,ũ];omega))) ?_);refine Ë ?_;dsimp only;refine Ë (Ë ?_);refine hq h' _ h.objs.size rfl ((hs.2 x R).trans r) ?_ fun b p V e=>(hs.2 b (â (É e))).trans (l b p V e);obtain ⟨f,a,ep,e1,e2,e3,eu,e4⟩:=O;exact ⟨f,a,ep,e1,e2,e3,eu,fun y=>by rw [e4 y]⟩
end
end L2
namespace DI
open PySem L2 PySem.W
def oA (jb:List Str) (d:D) (s:aa):Res D:=match d with
 | .exc c (some i)=>if decide (c∈jb)=true then ok (.int i) s else none
 |_=>none
def xO (K:ô) (jb:List Str):Prop:=∀c∈jb,∃C,nsIn K Ç c=some (some (.ref C))/\iO K C=true
def AJ {X:Cx} {Ξ:Wd->aP->Prop} {e:ÿ} {pos:Pos} {f:PB D} {jb:List Str} (hm:xO X.K jb) (he:PE X e (tE X.K Ξ f)) (hb:Ĥ e "many" X.env (Ĕ e X.env)=Ĕ e X.env:=by rfl) :
  PE X (.Attribute e "many" pos) (tE X.K Ξ (e1 (oA jb) f)):=by
 intro L s σ H Q I J;obtain ⟨w,env,G,S,F,h⟩:=J;subst G;have E:=he L s σ w.H (fun v R=>∃Z d,Z.H=R/\aH X.K Z/\DV X.K Z d v/\Out X.K Ξ Z (oA jb d Z.aw) fun P B=>∀v,DV X.K P B v->Q v P.H) I ⟨w,env,rfl,S,F,(Out.aj h).mono fun Z d b U Y v W=>⟨Z,d,rfl,U,W,Y⟩⟩;refine zz hb (aM E fun u O T=>?_);obtain ⟨v,R,V,r,Z,d,rfl,U,W,Y⟩:=T;unfold oA at Y;split at Y
 ·rename_i c i
  split at Y
  ·rename_i A
   simp only [DV] at W;obtain ⟨a,o,C,rfl,T,⟨z,y⟩,k⟩:=W;obtain ⟨x,N,q,t,p,n,m⟩:=k i rfl;have l:u=ý a:=r;subst l;obtain ⟨C',M,j⟩:=hm c (í A);rw [y] at M;cases M;have ga:O.heap.get? a=some o:=(V.aA a _ T.2).1;have g:O.heap.get? N=some q:=(V.aA N _ n.2).1;refine Fs V.cH ⟨ga,z,x,by rw [p];exact g⟩ j m ⟨.int i,Z.H,V.tok _,⟨_,rfl⟩,ay U Y _ rfl⟩
  ·exact Y.elim
 ·exact Y.elim
end DI
namespace L2
open PySem PySem.Spec PyProof.Rows PySem.W
section
variable {prog:Ó} {w:î} {A:Ù} {E:Â->Á->Prop} {h:Ă} {g:Array GenState} {d:Drawn} {t:Nat} {os:OsState}
variable {nm q:Str} {C N fi:Ì} {bs bm dP:List Â} {hdct:Bool} {sn:List Str} {sub:List Â} {ab:Bool} {col:Option Bool} {dd:Option Ì} {k0 k1 k2 k3 k5:Option Â} {B newId n5:String}
noncomputable def fc (h:Ă) (C:Ì) (v:Â):Ă:=(h.push { cls:=.type "tuple",data:=.seq #[v] }).push { cls:=.ref C,data:=.fields #[.ref h.objs.size,.none,.none,.none,.bool false,.none] }
def GH (F:ExcBaseFacts B newId n5 dP) (T:OwnTail h dP bm) {mN:Str->Option Â} {v:Â} {fo:Obj} {Q:Fin->Á->Prop}
  (hC:h.get? C=some (ψ nm q C N bs bm hdct sn sub ab col dd k0 k1 k2 k3 k5 newId)) (hn:h.Ns N mN) (jI:mN "__init__"=some (.ref fi)) (hf:h.get? fi=some fo) (pM:fo.cls=.type "function")
  (hq:Ö (Ø prog w) A (call (.ref fi) [.ref (h.objs.size+1),v]) (fun r s'=>r=.none/\Q (.done (.ret (.ref (h.objs.size+1)))) s') E ⟨fc h C v,g,d,t,os⟩) :
  Ö (Ø prog w) A (Pp.«type.__call__» ⟨[.ref C,v],[]⟩) Q E ⟨h,g,d,t,os⟩:=by
 repeat (first|with_reducible refine Ł hC ?_|with_reducible refine wpAny_madeBy_exc hC ?_|wp_step)
 refine codeAny_call_builtin_code (Code.quiet_builtin _ F.quiet) (wpAny_check_new_subT F T hC ?_);refine codeAny_exc_new_subT F T hC ?_ (show 1<=Ô by decide);show Ö _ _ _ _ _ _;have Z:∀b o,h.get? b=some o->(fc h C v).get? b=some o:=fun b o e=>Ã _ (Ã _ e);have Y:=Z _ _ hC;have X:(fc h C v).Ns N mN:=hn.keeps Z;have W:(fc h C v).get? (h.objs.size+1)=some { cls:=.ref C,data:=.fields #[.ref h.objs.size,.none,.none,.none,.bool false,.none] }:=by
  unfold fc;exact Heap.get?_push_at (by rw [ö]) rfl
 have V:(ý C::bm).contains (.ref C)=true:=by simp
 have U:=T.keeps Z;have S:=Z _ _ hf;show Ö _ _ _ _ _ ⟨fc h C v,g,d,t,os⟩;unfold isInstance
 repeat (first|with_reducible refine Ł W ?_ | (with_reducible refine wpAny_isSubtype_exc Y ?_;rw [V])|wp_step)
 show Ö _ _ (typeLookup (.ref C) _) _ _ _;refine wpAny_typeLookup_tail Y X U F.mroIs F.init.lookup ?_;rw [jI];dsimp only;refine ċ (À ?_);have R:Looks (Ø prog w) (fc h C v) (typeOf (.ref fi)) (.type "function"):=by rw [<- pM];exact (Looks.ld S).andThen .now
 unfold bindSpecial;refine À (R.at ?_);show Ö _ _ (pure (ý fi,[ý (h.objs.size+1)])) _ _ _;refine Ë (À (ü hq (fun r s' z=>?_) fun _ _ z=>z));obtain ⟨rfl,q⟩:=z;exact Ë (Ë q)
def GI (F:ExcBaseFacts B newId n5 dP) (T:OwnTail h dP bm) {mN:Str->Option Â} {v:Â} {fo:Obj} {Q:Â->Á->Prop}
  (hC:h.get? C=some (ψ nm q C N bs bm hdct sn sub ab col dd k0 k1 k2 k3 k5 newId)) (hn:h.Ns N mN) (jI:mN "__init__"=some (.ref fi)) (hf:h.get? fi=some fo) (pM:fo.cls=.type "function")
  (hq:Ö (Ø prog w) (A.under (.builtin "type.__call__" ⟨[.ref C,v],[]⟩)) (call (.ref fi) [.ref (h.objs.size+1),v]) (fun r s'=>r=.none/\Q (.ref (h.objs.size+1)) s') E ⟨fc h C v,g,d,t,os⟩) :
  Ö (Ø prog w) A (call (.ref C) [v]) Q E ⟨h,g,d,t,os⟩:=by
 have f1:=tc_lookup;have f2:=tc_bind (.ref C);have Z:(⟨h,g,d,t,os⟩:Á).TypeIs (.ref C) "type":=⟨_,hC,rfl⟩;refine Ĵ (codeAny_of_tree ?_);show Ö _ _ (callAny (.ref C) _) _ _ _
 repeat (any_goals (first|assumption|with_reducible refine Ł hC ?_|wp_step))
 refine ⟨rfl,?_⟩;refine codeAny_call_builtin_at (Code.quiet_builtin _ (by decide +kernel)) entry_typeCall (wpAny_check_type_call_sub hC ?_);exact GH F T hC hn jI hf pM hq
def Fu {s:Á} {env:PySem.Env} (F:ExcBaseFacts B newId n5 dP) {mN:Str->Option Â} {x:Str} {np aV pos:Pos} {a0:ÿ} {fo:Obj} {Q:Flow->Á->Prop}
  (lh:bm.contains (.type "BaseException")=true) (hh:A.handled=none) (fk:(Ĉ aV (Ä [a0] env)).any (·.1)=false) (jI:mN "__init__"=some (.ref fi)) (pM:fo.cls=.type "function")
  (hx:Ö (Ø prog w) A (Ĕ (.Name x np) env) (fun f aZ=>f=.ref C/\Ö (Ø prog w) A (evalArgs (.ref C) true (Ĉ aV (Ä [a0] env)) [])
   (fun a fx=>∃v,a=⟨[v],[]⟩/\fx.heap.get? C=some (ψ nm q C N bs bm hdct sn sub ab col dd k0 k1 k2 k3 k5 newId)/\fx.heap.Ns N mN/\OwnTail fx.heap dP bm/\fx.heap.get? fi=some fo /\
    Ö (Ø prog w) (A.under (.builtin "type.__call__" ⟨[.ref C,v],[]⟩)) (call (.ref fi) [.ref (fx.heap.objs.size+1),v]) (fun r s'=>r=.none/\s'.heap.get? C=some (ψ nm q C N bs bm hdct sn sub ab col dd k0 k1 k2 k3 k5 newId) /\
     (∃dx t,s'.heap.get? (fx.heap.objs.size+1)=some { cls:=.ref C,dict:=some dx,data:=.fields #[.ref t,.none,.none,.none,.bool false,.none] })/\E (.ref (fx.heap.objs.size+1)) s') E { fx with heap:=fc fx.heap C v }) E aZ) E s) :
  Ö (Ø prog w) A (exec (.Raise (some (.Call (.Name x np) [a0] [] aV)) none pos) env) Q E s:=by
 rw [arm_exec_Raise];simp only [evalOpt,Option.map];have V:(ý C::bm).contains (.type "BaseException")=true:=by rw [List.contains_cons,lh,Bool.or_true]
 refine À (ř ?_);unfold raiseStmt;refine À (À (ü (Q:=fun v Z=>∃e t dx,v=.ref e/\Z.heap.get? C=some (ψ nm q C N bs bm hdct sn sub ab col dd k0 k1 k2 k3 k5 newId)/\Z.heap.get? e=some { cls:=.ref C,dict:=some dx,data:=.fields #[.ref t,.none,.none,.none,.bool false,.none] }/\E (.ref e) Z) (wpAny_Call_ofName (ü hx (fun f aZ X=>?_) fun _ _ x=>x)) (fun v Z U=>?_) fun _ _ x=>x))
 ·obtain ⟨rfl,X⟩:=X
  unfold callWith;refine À (ċ (ü X (fun a fx W=>À (ř ?_)) fun _ _ x=>x));obtain ⟨v,rfl,Y,S,T,R,W⟩:=W;obtain ⟨P,g,d,O,os⟩:=fx;simp only [fk];refine À (wpAny_keeperOf_exc Y ?_);refine À (GI F T Y S jI R pM (ü W (fun r s' z=>⟨z.1,À (ċ (wpAny_point (Ë ?_)))⟩) fun _ _ x=>x));obtain ⟨_,M,⟨dx,t,L⟩,K⟩:=z;exact ⟨_,t,dx,rfl,M,L,K⟩
 ·obtain ⟨e,t,dx,rfl,Y,J,I⟩:=U
  obtain ⟨P,g,d,O,os⟩:=Z;refine À (ř (Ë ?_))
  repeat (first|with_reducible refine Ł J ?_|with_reducible refine Ł Y ?_ | (with_reducible refine wpAny_isSubtype_exc Y ?_;rw [V])|wp_step)
  exact wpAny_raiseNew_none hh I
def Fv {s:Á} {K:ô} {e:Ì} {v:Â} {o:Obj} {name qual:Str} {params:Š} {scope:Ń} {dV kV doc pm aD ct oc:Â} {an od:Option Ì} {cO:Array (Option Â)} {p1 p2 p3 p4:Pos} {Q:Â->Á->Prop}
  (lk:K.lookup fi=some ⟨oc,od,.func (fnOf name qual params [.Assign [.Attribute (.Name "self" p1) "many" p2] (.Name "many" p3) p4] scope dV kV doc pm an aD ct),cO⟩) (bJ:codeIn K aD qual=true) (S:je ["self","many"] ["self","many"] scope)
  (kJ:scope.names.lookup ("self":Str)=some .local) (dM:scope.names.lookup ("many":Str)=some .local) (X:K.In s.heap) (lim:s.heap.NoLimit) (N8:A.depth<ű)
  (hb:BindsTo s (fnOf name qual params [.Assign [.Attribute (.Name "self" p1) "many" p2] (.Name "many" p3) p4] scope dV kV doc pm an aD ct) ⟨[.ref e,v],[]⟩ (List.zip [("self":Str),"many"] [ý e,v]))
  (he:s.heap.get? e=some o) (cQ:o.cls=.ref C) (jJ:o.dict=none) (xN:∀c,o.data≠.cls c) (hm:iO K C=true)
  (hq:∀h' tk dx,s.heap.objs.size<=dx->h'.get? e=some { o with dict:=some dx }->h'.Ns1 dx (fun y=>if y="many" then some v else none)->(∀b p,b≠e->s.heap.get? b=some p->h'.get? b=some p)->Q .none { s with heap:=h',toks:=tk }) :
  Ö (Ø prog w) A (call (.ref fi) [.ref e,v]) Q E s:=by
 refine Ĵ ?_;refine Ŵ N8 (X _ _ lk) rfl S.co S.gen rfl (codeRec_of X bJ) (hb _ _ _ _ ?_);refine ł S.kind (fun y W=>?_) fun env V J x=>?_
 ·rcases S.par y.1 (ş W).1 with q|q
  ·exact .inl q
  ·exact .inr ⟨q,cellsFrom_some _ _ _ (.inl q)⟩
 subst V;refine ⟨lim.keeps x.toInCall.keep,codeAny_func ?_⟩;have ns:=x.toInCall.ns;obtain ⟨U,tk,rfl,Z⟩:=x.toInCall.done;have Y:[("self":Str),"many"].Nodup:=by decide
 refine Ÿ (plainObj_wpAny_Assign_Attribute ?_ rfl);refine wpAny_Name (wpAny_loadName_local S.kind dM ns (pR (i:=1) Y rfl rfl dM) ?_) (by decide);refine wpAny_Name (wpAny_loadName_local S.kind kJ ns (pR (i:=0) Y rfl rfl kJ) ?_) (by decide);refine EI (C:=C) (X.keeps Z) (Z _ _ he) cQ jJ xN hm fun h' T dx R P O N=>?_;refine θ ?_;obtain ⟨I,_,_,M,_⟩:=ns;have L:s.heap.objs.size<U.objs.size:=É M;exact hq h' T dx (by rw [R];exact Nat.le_of_lt L) P O fun b p hb e=>N b p hb (Z b p e)
end
section
variable {X:Cx} {E:XK} {π:List (Ì×Obj)} {σ:St} {H:Hp} {s:Á}
def EJ (L:Lv X E) (I:Inv X π σ H s) {h1:Ă} {tk:Nat} {e dx t C:Ì} {od:Obj} (pN:∀b o,s.heap.get? b=some o->h1.get? b=some o) (l7:s.heap.get? e=none)
  (he:h1.get? e=some { cls:=.ref C,dict:=some dx,data:=.fields #[.ref t,.none,.none,.none,.bool false,.none] }) (jK:s.heap.objs.size<=dx) (Oa:dx≠e) (fE:h1.get? dx=some od)
  (q:E (.ref C) (some dx) (upd H dx (.aO od (.own dx)))):X.xe (.ref e) { s with heap:=h1,toks:=tk }:=by
 rw [L.xe];have U:H dx=none:=I.aA.fresh jK;have G:h1.FunFrames X.base X.stack:=I.stack.of_keeps fun b o Z _=>⟨o,pN b o Z,rfl⟩;have R:∀b u,H b=some u->b∉bp X.stack:=fun b u e z=>by rw [I.nU b z] at e;cases e
 have ne:∀b o,s.heap.get? b=some o->b≠e:=fun b o e1 z=>by rw [z,l7] at e1;cases e1
 have P:∀b o,s.heap.get? b=some o->b≠dx:=fun b o e1 z=>absurd (É e1) (by rw [z];exact ζ.mpr jK);have h:e∉bp X.stack:=fun z=>by
  obtain ⟨_,o,Y,_⟩:=I.stack.mem z;rw [l7] at Y;cases Y
 have F:dx∉bp X.stack:=fun z=>by
  obtain ⟨_,o,Y,_⟩:=I.stack.mem z;exact P dx o Y rfl
 have T:∀b o,h1.get? b=some o->b≠e->b∉bp X.stack->(hideAll h1 (e::bp X.stack)).get? b=some o:=fun b o e1 e2 S=>hideAll_get _ e1 fun z=>by
  rcases á.mp z with z|z
  ·exact e2 z
  ·exact S z
 have O:(hideAll h1 (e::bp X.stack)).get? e=none:=hideAll_none _ ä;have D:h1.FunFrames (hideAll h1 (e::bp X.stack)) (X.env::X.outer):=by
  rw [<- L.gY];refine funFrames_hide G fun env B a A=>Ð _ ?_;unfold bp;exact Ķ.mpr ⟨env,B,A⟩
 refine ü (nR (zh _ _) (wpAny_leaving_firstW (s:={ s with heap:=h1,toks:=tk }) (E:=fun _ _=>False) (Q:=fun _ N=>∃W,N={ s with heap:=W,toks:=tk }/\Heap.LeftW (hideAll h1 (e::bp X.stack)) (X.env::X.outer) e (.ref C) (.ref t) h1 W) (a0:=.ref t) (by rw [I.ok.frames,L.gY]) D L.fr he (fun b o e=>of_hideAll _ e) O rfl rfl rfl fun W y=>⟨W,rfl,y⟩)) (fun _ N z=>?_) fun _ _ z=>z.1.elim
 obtain ⟨⟨W,rfl,x,⟨_,_,w⟩,M,r⟩,p⟩:=z;have l:Dm W e (some dx):=fun f z=>by
  cases z;obtain ⟨K,_,_,_,_,e1,_⟩:=M;exact ⟨K,e1,p.2 e _ he K e1⟩
 refine ⟨e,.ref C,.ref t,upd H dx (.aO od (.own dx)),hideAll h1 (e::bp X.stack),some dx,rfl,I.os,I.bare,⟨⟨x,O,w,M⟩,fun b o e1 n Z=>?_,fun b o e1 Z=>?_,fun b o e1 Z=>?_,fun b u e1=>?_,fun b o e1 n=>?_,fun b J e1=>?_,fun b o u e1=>?_,fun b k e1=>?_⟩,l,q⟩
 ·have g:=I.base.keep b o e1 n Z (by rw [L.ex];simp)
  exact T b o (pN b o g) (ne b o g) (I.mJ L e1 Z)
 ·obtain ⟨V,g⟩:=I.base.there b o e1 (by rw [L.ex];simp)
  exact ⟨V,T b V (pN b V g) (ne b V g) (I.mJ L e1 Z)⟩
 ·obtain ⟨d,g⟩:=I.base.slot b o e1 (I.ok.gZ b Z) Z (by rw [L.ex];simp)
  obtain ⟨_,o2,Y,j⟩:=I.stack.mem (p6 L Z);rw [g] at Y;cases Y;obtain ⟨i,S⟩:=r b _ (pN b _ g) j;exact ⟨i,S⟩
 ·by_cases Z:b=dx
  ·subst Z
   rw [bZ] at e1;cases e1;have g:=T b od fE Oa F;exact ⟨g,od,g⟩
  ·rw [aG Z] at e1
   refine (I.aA b u e1).cG (fun c v hc z=>T c v (pN c v z) (ne c v z) ?_) (fun c z=>?_) fun c J z=>?_
   ·rcases hc with rfl|hc
    ·exact R c _ e1
    ·exact R c _ hc
   ·rw [aG (bM z U)];exact z
   ·rw [aG (bM z U)];exact z
 ·obtain ⟨V,g⟩:=I.base.there b o e1 (by rw [L.ex];simp)
  rw [aG (P b V g)];exact I.base.free b o e1 n (by rw [L.ex];simp)
 ·have g:=I.base.c9 b J e1
  rw [aG (bM g U)];exact g
 ·have g:=I.base.cL b o u e1
  rw [aG (bM g U)];exact g
 ·obtain ⟨m,g⟩:=I.base.de b k e1
  exact ⟨m,by rw [aG (bM g U)];exact g⟩
def EK {K:ô} {h:Ă} {N:Ì} {mg:Str->Option Â} {n:Str} {v:Â} (X:K.In h) (G:h.Ns N mg) (e:nsIn K N n=some (some v)):mg n=some v:=by
 obtain ⟨o,U,T,Z,Y,_,W⟩:=G;unfold nsIn at e;split at e
 case h_2=>cases e
 rename_i q;have q:=X _ _ q;rw [Z] at q;cases q;cases Y;split at e
 ·rename_i S V
  cases e;rw [<- W];show Option.map _ (Array.find? _ _)=_;rw [<- Array.find?_toList,V];rfl
 ·split at e<;>cases e
noncomputable def rS (K:ô) (C fi:Ì) (dP:List Â) (newId:String):Bool:=match K.lookup C with
 |some ⟨.type "type",_,.cls cd,Z⟩=>(match cd.mro,Z.toList with
  | .ref Y::bm,[_,_,_,_,some (.builtin n),_]=>Y==C&&n==newId&&!cd.hasDel&&tailIn K dP bm&&nsOkIn K cd.ns&&nsIn K cd.ns "__init__"==some (some (.ref fi))
  |_,_=>false)
 |_=>false
def vA (K:ô) (C:Ì):Prop:=∃(Y:Ì) (R:Option Ì) (Q:Array (Option Â)) (name qual:Str) (params:Š) (scope:Ń) (X kV doc pm Z W:Â) (an:Option Ì) (V U T S:Pos),
 rS K C Y [.type "ValueError",.type "Exception",.type "BaseException",.type "object"] "ValueError.__new__"=true/\K.lookup Y=some ⟨.type "function",R,.func (fnOf name qual params [.Assign [.Attribute (.Name "self" V) "many" U] (.Name "many" T) S] scope X kV doc pm an Z W),Q⟩/\codeIn K Z qual=true /\
 Binds K (fnOf name qual params [.Assign [.Attribute (.Name "self" V) "many" U] (.Name "many" T) S] scope X kV doc pm an Z W) ["self","many"] []/\je ["self","many"] ["self","many"] scope/\scope.names.lookup ("self":Str)=some .local/\scope.names.lookup ("many":Str)=some .local/\iO K C=true
def HG {K:ô} {h:Ă} {C fi:Ì} {dP:List Â} {newId:String} (KB:K.In h) (qC:rS K C fi dP newId=true):∃(bm:List Â) (N:Ì) (nm q:Str) (bs:List Â) (hdct:Bool) (sn:List Str) (sub:List Â) (ab:Bool) (col:Option Bool) (dd:Option Ì) (k0 k1 k2 k3 k5:Option Â) (mN:Str->Option Â),
  h.get? C=some (ψ nm q C N bs bm hdct sn sub ab col dd k0 k1 k2 k3 k5 newId)/\h.Ns N mN/\mN "__init__"=some (.ref fi)/\OwnTail h dP bm:=by
 unfold rS at qC;split at qC
 case h_2=>cases qC
 rename_i Q cd Z P;split at qC
 case h_2=>cases qC
 rename_i I bm Y a1 a2 X nw W V hs;simp only [Å,beq_iff_eq,ů] at qC;obtain ⟨⟨⟨⟨⟨O,M⟩,U⟩,L⟩,T⟩,S⟩:=qC;subst O M;cases cd;dsimp only at V U T S;subst V U;have J:Z=#[Y,a1,a2,X,some (.builtin nw),W]:=by cases Z;simp only at hs;rw [hs]
 subst J;have R:h.Ns _ _:=.of_isNs (isNs_of_in KB T);exact ⟨bm,_,_,_,_,_,_,_,_,_,Q,Y,a1,a2,X,W,_,KB _ _ P,R,EK KB R S,tail_of_in KB L⟩
def Fx {x:Str} {C:Ì} {k:Nat} {np aV pos:Pos} {a0:ÿ} {t:TA} (L:Lv X E) (hr:aY k X.A) (eC:nsIn X.K Ç x=some (some (.ref C))) (hI:vA X.K C) (hc:X.calm=true) (hg:Gl X x) (ha:PA X [a0] t) (hd:(x==("__debug__":Str))=false)
  (he:Ä [a0] X.env=(false,Ĕ a0 X.env)::Ä [] X.env:=by rfl) (fk:(Ĉ aV (Ä [a0] X.env)).any (·.1)=false:=by rfl) :
  PS X (.Raise (some (.Call (.Name x np) [a0] [] aV)) none pos) (fun _ σ H=>t σ H fun vs H1=>∃i,vs=[.int i]/\∀dx od t0,H1 dx=none->lookIn "many" od=some (some (.int i t0))->E (.ref C) (some dx) (upd H1 dx (.aO od (.own dx)))):=by
 intro π s σ H D I h;obtain ⟨fi,od,M,name,qual,params,scope,J,kV,doc,pm,G,B,an,y,w,v,p,n,lk,m,l,S,j,g,f⟩:=hI;have KB:=I.ok.mod.gn;have FB:=PySem.F.excBase_ValueError;obtain ⟨bm,N,nm,q,bs,hdct,sn,sub,ab,col,dd,k0,k1,k2,k3,k5,mN,U,d,a,T⟩:=HG KB n;refine Fu (C:=C) (nm:=nm) (q:=q) (N:=N) (bs:=bs) (bm:=bm) (hdct:=hdct) (sn:=sn) (sub:=sub) (ab:=ab) (col:=col) (dd:=dd) (k0:=k0) (k1:=k1) (k2:=k2) (k3:=k3) (k5:=k5) (fo:=⟨.type "function",od,.func (fnOf name qual params [.Assign [.Attribute (.Name "self" y) "many" w] (.Name "many" v) p] scope J kV doc pm an G B),M⟩) FB (T.hasType FB.hasBase) (I.ok.hd hc) fk a rfl (jP I hg (mg_of KB I.ok.mod.glob eC) ⟨rfl,?_⟩ hd);have R:=ha aV π s σ H _ I h;rw [he] at R |-;refine Ż (aM R fun us Z ⟨vs,H1,Y,r,z⟩=>?_);obtain ⟨i,rfl,z⟩:=z;obtain ⟨u,rfl,ru⟩:∃u,us=[u]/\RelV (.int i) u:=by
  cases r with
  |cons r1 r2=>cases r2;exact ⟨_,rfl,r1⟩
 obtain ⟨t0,rfl⟩:∃t0,u=.int i t0:=ru;have V:∀b o,Z.heap.get? b=some o->(fc Z.heap C (.int i t0)).get? b=some o:=fun b o e=>Ã _ (Ã _ e);have Q:Z.heap.get? (Z.heap.objs.size+1)=none:=by
  cases q:Z.heap.get? (Z.heap.objs.size+1) with
  |none=>rfl
  |some o=>exact absurd (É q) (ζ.mpr (Nat.le_succ _))
 have wB:(fc Z.heap C (.int i t0)).get? (Z.heap.objs.size+1)=some { cls:=.ref C,data:=.fields #[.ref Z.heap.objs.size,.none,.none,.none,.bool false,.none] }:=by
  unfold fc;exact Heap.get?_push_at (by rw [ö]) rfl
 refine ⟨.int i t0,rfl,Y.bk _ _ U,d.keeps Y.bk,T.keeps Y.bk,Y.bk _ _ (KB _ _ lk),?_⟩;have P:X.K.In (fc Z.heap C (.int i t0)):=(Y.cH).keeps V
 refine Fv (s:={ Z with heap:=fc Z.heap C (.int i t0) }) lk m S j g P ?_ ?_ (l _ _ P rfl) wB rfl rfl (fun c z=>by cases z) f fun O tk dx jK g1 g2 g3=>?_
 ·exact Y.nolimit.keeps V
 ·rw [yE];have:=hr.dp;omega
 ·have k2:∀b o,Z.heap.get? b=some o->O.get? b=some o:=fun b o e=>g3 b o (fun z=>by rw [z,Q] at e;cases e) (V b o e)
  refine ⟨rfl,k2 _ _ (Y.bk _ _ U),⟨dx,_,g1⟩,?_⟩;obtain ⟨Od,e1,e2⟩:=yN g2;have W:Z.heap.objs.size+2<=dx:=by
   have:(fc Z.heap C (.int i t0)).objs.size=Z.heap.objs.size+2:=by unfold fc;rw [ö,ö]
   rw [<- this];exact jK
  refine EJ (s:=Z) L Y (h1:=O) k2 Q g1 (ç (Nat.le_add_right _ 2) W) (ĺ W) e1 (z dx Od t0 (Y.aA.fresh (ç (Nat.le_add_right _ 2) W)) (by rw [e2,ã rfl]))
end
end L2
namespace DI
open PySem L2 PySem.W
def sM (K:ô) (mg:Str->Option Â) (x:Str):Prop:=∃C,nsIn K Ç x=some (some (.ref C))/\mg x=some (.ref C)/\vA K C
def qp (c:Str) (f:PB D):PB Fl:=fun env s=>aj (f env s) fun d s=>match d with
 | .int i=>some (.error ⟨c,some i⟩,s)
 |_=>none
def zl {X:Cx} {E:XK} {a0:ÿ} {f:PB D} {x:Str} {k:Nat} {np aV pos:Pos} (L:Lv X E) (hr:aY k X.A) (hO:sM X.K X.mg x) (ha:PE X a0 (tE X.K (cX X.mg E) f)) (hc:X.calm=true:=by rfl) (hg:Gl X x:=by rfl) (hd:(x==("__debug__":Str))=false:=by decide)
  (he:Ä [a0] X.env=(false,Ĕ a0 X.env)::Ä [] X.env:=by rfl) (fk:(Ĉ aV (Ä [a0] X.env)).any (·.1)=false:=by rfl) :
  PS X (.Raise (some (.Call (.Name x np) [a0] [] aV)) none pos) (tS X.K (cX X.mg E) (qp x f)) :=
 let ⟨C,eC,W,V⟩:=hO
 ie (Fx L hr eC V hc hg (iM ha kW he) hd he fk) fun O σ H U=>by
  obtain ⟨w,env,T,S,R,h⟩:=U;subst T;refine ⟨w,env,rfl,S,R,(Out.aj h).mono fun Z d N Q Y v P=>?_⟩
  cases d with
  |int i =>
   have e:v=.int i:=P;subst e;obtain ⟨M,e1,q⟩:=Y Z (Le.refl Z) Q rfl;rw [W] at e1;cases e1;exact ⟨i,rfl,q⟩
  |_=>exact Y.elim
def lP (ds:List D) (s:aa):Res D:=match ds with
 | [.lst Z]=>(match j4 Z with
  |some Y=>ok (.int Y.sum) s
  |none=>none)
 |_=>none
def Fy {K:ô} {w:Wd} {ns:List Int}:∀{vs:List V} {us:List Â},ar K w (ns.map D.int) vs->Vals vs us->∃xs:List (Int×Tok),us=xs.map (fun p=>.int p.1 p.2)/\xs.map (·.1)=ns:=by
 induction ns with
 |nil =>
  intro vs us h r;have e:vs=[]:=h;subst e;cases r;exact ⟨[],rfl,rfl⟩
 |cons n ns ih =>
  intro vs us h r;obtain ⟨v,W,rfl,Z,h⟩:=h;have e:v=.int n:=Z;subst e
  cases r with
  |cons Y X =>
   obtain ⟨t,rfl⟩:=Y;obtain ⟨xs,rfl,rfl⟩:=ih h X;exact ⟨(n,t)::xs,rfl,rfl⟩
def KZ {X:Cx} {Ξ:Wd->aP->Prop} (hc:X.calm=true):dB X (.builtin "sum") (rC X.K Ξ lP):=by
 rintro J s σ H xs Y Q I r ⟨w,G,rfl,S,W,h⟩;unfold lP at h;split at h
 ·rename_i F
  obtain ⟨v,rfl,Z⟩:=qG W;split at h
  ·rename_i E e
   have e:=zd e;subst e;simp only [DV] at Z;obtain ⟨l,all,rfl,V,U⟩:=Z;obtain ⟨u,rfl,T⟩:∃u,Y=[u]/\RelV (.ref l) u:=by
    cases r with
    |cons R P=>cases P;exact ⟨_,rfl,R⟩
   have e:u=ý l:=T;subst e;obtain ⟨ao,O,N,D⟩:=I.list V.sq;obtain ⟨xs,rfl,rfl⟩:=Fy U O;refine sum_intListG (xs:=xs.toArray) (I.ok.hd hc) (by have:=N.isList;unfold intItems;rw [List.map_toArray];exact this) fun C B M L=>⟨.int (xs.map (fun p:Int×Tok=>p.1)).sum,w.H,I.kept L,⟨M,?_⟩,ay S h _ rfl⟩;rw [preSum_eq,List.take_of_length_le (by simp)]
  ·exact h.elim
 ·exact h.elim
noncomputable def AK:Š->Bool
 | ⟨[],[⟨a,_,_⟩,⟨b,_,_⟩],none,[],[],none,[]⟩=>decide (a="self")&&decide (b="many")
 |_=>false
noncomputable def AL:FuncBody->Bool
 | .stmts [.Assign [.Attribute (.Name a _) b _] (.Name c _) _]=>decide (a="self")&&decide (b="many")&&decide (c="many")
 |_=>false
def Cf (K:ô) (fd:ú):Bool:=AK fd.params&&AL fd.body&&jv ["self","many"] ["self","many"] fd.scope&&decide (fd.scope.names.lookup ("self":Str)=some .local)&&decide (fd.scope.names.lookup ("many":Str)=some .local)&&decide (fd.globals=Ç)&&decide (fd.builtins=builtinsNs)&&fd.closure.isEmpty&&decide (fd.defaults=.none)&&codeIn K fd.code fd.qualname
def qN (K:ô) (C:Ì):Bool:=match clsIn K C with
 |some cd=>(match nsIn K cd.ns "__init__" with
  |some (some (.ref Z))=>rS K C Z [.type "ValueError",.type "Exception",.type "BaseException",.type "object"] "ValueError.__new__"&&iO K C&&(match K.lookup Z with
   |some ⟨.type "function",_,.func fd,_⟩=>Cf K fd
   |_=>false)
  |_=>false)
 |_=>false
def zY {K:ô} {C:Ì} (h:qN K C=true):vA K C:=by
 unfold qN at h;split at h
 case h_2=>cases h
 rename_i cd B;split at h
 case h_2=>cases h
 rename_i Q A;simp only [Å] at h;obtain ⟨⟨P,O⟩,Z⟩:=h;split at Z
 case h_2=>cases Z
 rename_i N fd M lk;unfold Cf at Z;simp only [Å,Ú] at Z;obtain ⟨⟨⟨⟨⟨⟨⟨⟨⟨a1,a2⟩,X⟩,W⟩,V⟩,U⟩,T⟩,Y⟩,S⟩,R⟩:=Z;obtain ⟨nm,qual,params,body,scope,globals,closure,defaults,kV,doc,pm,an,L,J,bi⟩:=fd;dsimp only at a1 a2 X W V U T Y S R;have Y:closure=[]:=List.isEmpty_iff.mp Y;subst U T Y S;unfold AL at a2;split at a2
 case h_2=>cases a2
 rename_i a I b H c G F;simp only [Å,Ú] at a2;obtain ⟨⟨rfl,rfl⟩,rfl⟩:=a2;unfold AK at a1;split at a1
 case h_2=>cases a1
 rename_i x z w y v u;simp only [Å,Ú] at a1;obtain ⟨rfl,rfl⟩:=a1;refine ⟨Q,N,M,nm,qual,_,scope,.none,kV,doc,pm,L,J,an,I,H,G,F,P,lk,R,.all fun E D=>?_,fX X,W,V,O⟩
 match E,D with
 | [_,_],_=>rfl
def gL (K:ô) (cs gI asked:List Str) (fm:Str):Bool :=
 cs.all (fun c=>match nsIn K Ç c with
  |some (some (.ref C))=>(if decide (c∈gI)=true then qN K C else excIn K C [.type "ValueError",.type "Exception",.type "BaseException",.type "object"] "ValueError.__new__")&&j8 K C&&(kitOne K (.ref C) (.type "ValueError")==some true) &&
   (match nsIn K Ç fm with|some (some (.ref Z))=>exmOne K (.ref C) (.ref Z)==some true | _=>false) &&
   asked.all (fun n=>match nsIn K Ç n with|some (some (.ref A))=>kitOne K (.ref C) (.ref A)==some (isNm n c) | _=>false)
  |_=>false) &&
 asked.all (fun n=>match nsIn K Ç n with|some (some (.ref A))=>kitOne K (.type "NoneType") (.ref A)==some false | _=>false)&&(kitOne K (.type "NoneType") (.type "ValueError")==some false) &&
 (match nsIn K Ç fm with|some (some (.ref _))=>true | _=>false)
section
variable {K:ô} {cs gI asked:List Str} {fm:Str} {h:Ă} {mg:Str->Option Â}
def nj (f:gL K cs gI asked fm=true) {c:Str} (hc:c∈cs):∃C,nsIn K Ç c=some (some (.ref C))/\(if decide (c∈gI)=true then qN K C else excIn K C [.type "ValueError",.type "Exception",.type "BaseException",.type "object"] "ValueError.__new__")=true/\j8 K C=true/\kitOne K (.ref C) (.type "ValueError")=some true /\
  (∃CM,nsIn K Ç fm=some (some (.ref CM))/\exmOne K (.ref C) (.ref CM)=some true)/\∀n∈asked,∃A,nsIn K Ç n=some (some (.ref A))/\kitOne K (.ref C) (.ref A)=some (isNm n c):=by
 unfold gL at f;simp only [Å] at f;obtain ⟨C,e,q⟩:=n6 (đ.mp f.1.1.1 c hc);rw [Å,Å,Å,Å] at q;obtain ⟨⟨⟨⟨X,W⟩,V⟩,Z⟩,Y⟩:=q;obtain ⟨CM,U,Z⟩:=n6 Z;refine ⟨C,e,X,W,beq_iff_eq.mp V,⟨CM,U,beq_iff_eq.mp Z⟩,fun n T=>?_⟩;obtain ⟨A,S,Y⟩:=n6 (đ.mp Y n T);exact ⟨A,S,beq_iff_eq.mp Y⟩
def wD (X:K.In h) (G:h.Ns Ç mg) (f:gL K cs gI asked fm=true) {c:Str} (hc:c∈cs) (hi:c∉gI):oS K mg c:=by
 obtain ⟨C,e,q,_⟩:=nj f hc;rw [ë (by rw [Ú];exact hi)] at q;exact ⟨C,e,mg_of X G e,q⟩
def Cg (X:K.In h) (G:h.Ns Ç mg) (f:gL K cs gI asked fm=true) {c:Str} (hc:c∈cs) (hi:c∈gI):sM K mg c:=by
 obtain ⟨C,e,q,_⟩:=nj f hc;rw [ã (Ò hi)] at q;exact ⟨C,e,mg_of X G e,zY q⟩
def Mo (f:gL K cs gI asked fm=true) {jb:List Str} (hm:∀c∈jb,c∈cs/\c∈gI):xO K jb:=fun c Z=>by
 obtain ⟨C,e,q,_⟩:=nj f (hm c Z).1;rw [ã (Ò (hm c Z).2)] at q;obtain ⟨_,_,_,_,_,_,_,_,_,_,_,_,_,_,_,_,_,_,_,_,_,_,_,_,_,m⟩:=zY q;exact ⟨C,e,m⟩
def Mp (X:K.In h) (G:h.Ns Ç mg) (f:gL K cs gI asked fm=true):Dj K mg cs fm:=by
 have Z:=f;unfold gL at Z;simp only [Å] at Z;obtain ⟨Y,e,_⟩:=n6 Z.2;refine ⟨Y,mg_of X G e,fun c W=>?_⟩;obtain ⟨C,e1,_,_,_,⟨V,e2,q⟩,_⟩:=nj f W;rw [e] at e2;cases e2;exact ⟨C,e1,mg_of X G e1,q⟩
def dH (X:K.In h) (G:h.Ns Ç mg) (f:gL K cs gI asked fm=true) {n:Str} (hn:n∈asked):dq K mg cs n:=by
 have Z:=f;unfold gL at Z;simp only [Å] at Z;obtain ⟨A,e,q⟩:=n6 (đ.mp Z.1.1.2 n hn);refine ⟨A,mg_of X G e,beq_iff_eq.mp q,fun c Y=>?_⟩;obtain ⟨C,e1,_,W,_,_,V⟩:=nj f Y;obtain ⟨T,e2,U⟩:=V n hn;rw [e] at e2;cases e2;exact ⟨C,e1,W,U⟩
def K0 (f:gL K cs gI asked fm=true):mr K cs (.type "ValueError") anyS:=by
 have Z:=f;unfold gL at Z;simp only [Å,beq_iff_eq] at Z;refine ⟨Z.1.2,fun c Y=>?_⟩;obtain ⟨C,e1,_,X,W,_⟩:=nj f Y;exact ⟨C,e1,X,W⟩
end
noncomputable def lQ {α:Type} (f:Str) (v:α):List (Str×α)->List (Str×α)
 | []=>[(f,v)]
 |(g,x)::r=>if g=f then (g,v)::r else (g,x)::lQ f v r
def jw (c:Str) (d:D) (s:aa):Option (Nat×List (Str×D)):=match d with
 | .ah k=>(match s[k]? with
  |some (.ins Z fs)=>if decide (Z=c)=true then some (k,fs) else none
  |_=>none)
 |_=>none
def qq {c:Str} {d:D} {s:aa} {k:Nat} {fs:List (Str×D)} (h:jw c d s=some (k,fs)):d=.ah k/\s[k]?=some (.ins c fs):=by
 unfold jw at h;split at h
 ·split at h
  ·rename_i e
   split at h
   ·rename_i Z
    cases h;rw [í Z] at e;exact ⟨rfl,e⟩
   ·cases h
  ·cases h
 ·cases h
section
variable {K:ô} {w:Wd}
theorem zZ:∀{fs:List (Str×D)} {vs:List (Str×V)} {f:Str} {d:D},vs.map (·.1)=fs.map (·.1)->ar K w (fs.map (·.2)) (vs.map (·.2))->fs.lookup f=some d->∃v,vs.lookup f=some v/\DV K w d v
 | [],vs,f,d,_,_,h=>by cases h
 |(g,x)::fs,vs,f,d,e,Y,h=>by
  cases vs with
  |nil=>cases e
  |cons p vs =>
   obtain ⟨X,v⟩:=p;simp only [é,ς] at e;obtain ⟨rfl,e⟩:=e;obtain ⟨T,r,e1,W,U⟩:=Y;cases e1;rw [ø] at h |-
   cases Z:f==X with
   |true =>
    rw [Z] at h;cases h;exact ⟨v,rfl,W⟩
   |false =>
    rw [Z] at h;exact zZ e U h
theorem uu:∀{fs:List (Str×D)} {vs:List (Str×V)} {f:Str},vs.map (·.1)=fs.map (·.1)->fs.lookup f=none->vs.lookup f=none
 | [],vs,f,e,_=>by
  cases vs with
  |nil=>rfl
  |cons _ _=>cases e
 |(g,x)::fs,vs,f,e,h=>by
  cases vs with
  |nil=>cases e
  |cons p vs =>
   obtain ⟨Y,v⟩:=p;simp only [é,ς] at e;obtain ⟨rfl,e⟩:=e;rw [ø] at h |-
   cases Z:f==Y with
   |true=>rw [Z] at h;cases h
   |false =>
    rw [Z] at h;exact uu e h
theorem AM {f:Str} {d:D} {v:V} (dv:DV K w d v):∀{fs:List (Str×D)} {vs:List (Str×V)},vs.map (·.1)=fs.map (·.1)->ar K w (fs.map (·.2)) (vs.map (·.2))->(df f v vs).map (·.1)=(lQ f d fs).map (·.1)/\ar K w ((lQ f d fs).map (·.2)) ((df f v vs).map (·.2))
 | [],vs,e,_=>by
  cases vs with
  |nil=>exact ⟨rfl,ar.one dv⟩
  |cons _ _=>cases e
 |(g,x)::fs,vs,e,X=>by
  cases vs with
  |nil=>cases e
  |cons p vs =>
   obtain ⟨W,u⟩:=p;simp only [é,ς] at e;obtain ⟨rfl,e⟩:=e;obtain ⟨R,r,e1,U,Y⟩:=X;cases e1;unfold df lQ;by_cases Z:W=f
   ·rw [ã Z,ã Z]
    exact ⟨by simp only [é,e],⟨v,_,rfl,dv,Y⟩⟩
   ·rw [ë Z,ë Z]
    obtain ⟨T,S⟩:=AM dv e Y;exact ⟨by simp only [é,T],⟨u,_,rfl,U,S⟩⟩
def qO {c:Str} {k:Nat} {fs:List (Str×D)} {v:V} (S:aH K w) (dv:DV K w (.ah k) v) (e:w.aw[k]?=some (.ins c fs)):∃a C dx vs,w.ρ[k]?=some a/\v=.ref a/\nsIn K Ç c=some (some (.ref C))/\w.H a=some (.ins C dx vs)/\vs.map (·.1)=fs.map (·.1)/\ar K w (fs.map (·.2)) (vs.map (·.2)):=by
 simp only [DV] at dv;obtain ⟨a,e1,rfl⟩:=dv;obtain ⟨C,dx,vs,Z,Y,X,W⟩:=S.cell k a _ e1 e;exact ⟨a,C,dx,vs,e1,rfl,Z,Y,X,W⟩
end
def rT (K:ô) (c f:Str):Prop:=∃C,nsIn K Ç c=some (some (.ref C))/\gu K C/\jh K C f
def fB (c f:Str) (d:D) (s:aa):Res D:=match jw c d s with
 |some (_,fs)=>(match fs.lookup f with
  |some x=>ok x s
  |none=>none)
 |none=>none
def rm (c f:Str) (fv fo:PB D):PB Fl:=fun env s=>aj (fv env s) fun v s=>aj (fo env s) fun o s=>match jw c o s with
 |some (k,fs)=>if decide (fs.length<1000)=true then ok (.nx env) (s.set k (.ins c (lQ f v fs))) else none
 |none=>none
section
variable {X:Cx} {Ξ:Wd->aP->Prop} {e o value:ÿ} {pos pos':Pos} {g fo fv:PB D} {c f:Str}
def mV (hF:rT X.K c f) (he:PE X e (tE X.K Ξ g)) (hb:Ĥ e f X.env (Ĕ e X.env)=Ĕ e X.env:=by rfl):PE X (.Attribute e f pos) (tE X.K Ξ (e1 (fB c f) g)) :=
 cb (IA he hb) fun σ H Q V=>by
  obtain ⟨w,env,U,S,T,h⟩:=V;subst U;refine ⟨w,env,rfl,S,T,(Out.aj h).mono fun B d A Y Z v R=>?_⟩;obtain ⟨C,P,O,N⟩:=hF;unfold fB at Z;split at Z
  ·rename_i k fs e1
   obtain ⟨rfl,M⟩:=qq e1;split at Z
   ·rename_i x e2
    obtain ⟨a,z,L,J,_,rfl,W,I,G,F⟩:=qO Y R M;rw [P] at W;cases W;obtain ⟨u,E,D⟩:=zZ G F e2;exact ⟨a,C,L,J,u,rfl,I,O,N,E,ay Y Z _ D⟩
   ·exact Z.elim
  ·exact Z.elim
def K1 (hF:rT X.K c f) (ho:PE X o (tE X.K Ξ fo)) (hv:PE X value (tE X.K Ξ fv)) (hs:swapsWith value (some (.Attribute o f pos')) pos.line X.env=pure false:=by rfl):PS X (.Assign [.Attribute o f pos'] value pos) (tS X.K Ξ (rm c f fv fo)) :=
 ie (IC ho hv hs) fun j σ H F=>by
  obtain ⟨w,env,E,S,U,h⟩:=F;subst E;refine ⟨w,env,rfl,S,U,(Out.aj h).mono fun D y O B A u x=>?_⟩;refine ⟨D,env,rfl,B,U.le O,(Out.aj A).mono fun i d N T Z v t=>?_⟩;obtain ⟨C,M,s,r⟩:=hF;split at Z
  ·rename_i k fs e1
   obtain ⟨rfl,R⟩:=qq e1;split at Z
   ·rename_i Q
    have Q:=í Q;obtain ⟨a,g,W,V,L,rfl,J,q,I,p⟩:=qO T t R;rw [M] at J;cases J;have Y:V.length=fs.length:=by have:=Ĩ List.length I;simpa using this
    refine ⟨a,C,W,V,rfl,q,s,r,by rw [Y];exact Q,?_⟩;have G:(Cell.ins c fs)≠.dead:=by intro z;cases z
    have P:=(Fw.put (K:=X.K) (o:=.ins C W (df f u V)) (c:=.ins c (lQ f y fs)) T L R G).le;obtain ⟨n,m⟩:=AM (N _ _ x) I p;have l:=T.v7 (o:=.ins C W (df f u V)) (c:=.ins c (lQ f y fs)) L R G ⟨C,W,_,M,bZ,n,P.all m⟩;exact Z _ P l rfl σ (U.le (O.trans (N.trans P)))
   ·exact Z.elim
  ·exact Z.elim
end
def qP (x y:D) (s:aa):Res D:=match res x s,y with
 | .lst Z,.int k=>if (decide (-(2 ^ 63)<=k)&&decide (k<2 ^ 63)&&decide (Z.length*k.toNat<=Ô))=true then ok (.ah s.length) (s++[.lst (Ê k.toNat Z).flatten]) else none
 |_,_=>none
theorem ar.rep {K:ô} {w:Wd} {ds:List D} {vs:List V} (h:ar K w ds vs):∀k:Nat,ar K w (Ê k ds).flatten (Ê k vs).flatten
 |0=>rfl
 |k+1=>by
  rw [Ā,Ā,ē,ē];exact h.append (ar.rep h k)
def JB {X:Cx} {Ξ:Wd->aP->Prop}:bq X (Ē .Mult) (rO X.K Ξ qP):=by
 rintro W s σ H x y v u Q I V U ⟨w,N,M,rfl,S,T,R,h⟩;unfold qP at h;split at h
 ·rename_i L k e1
  split at h
  ·rename_i Z
   simp only [Å,Ú] at Z;obtain ⟨a,as,rfl,P,Y⟩:=fH S T e1;have O:y=.int k:=R;subst O;exact Am W s σ w.H _ _ v u Q I V U ⟨a,k,as,rfl,rfl,P,Z.1.1,Z.1.2,by rw [<- Y.length];exact Z.2,Ma S (Y.rep k.toNat) h⟩
  ·exact h.elim
 ·exact h.elim
def lB (f:PB D):PB (List D×(aa->Prop)):=fun env s=>aj (f env s) fun d s=>match res d s with
 | .lst Z=>ok (Z,fun s=>res d s=.lst Z) s
 |_=>none
def uW {X:Cx} {Ξ:Wd->aP->Prop} {a tg:ÿ} {f:PB D} (hl:PE X a (tE X.K Ξ f)):PI X tg a (m9 X.K Ξ (lB f)) :=
 uM (zw hl) fun σ H R O=>by
  obtain ⟨w,env,N,S,M,h⟩:=O;subst N;refine ⟨w,env,rfl,S,M,(Out.aj h).mono fun C d B V Z v U=>?_⟩;split at Z
  ·rename_i A e1
   obtain ⟨a,L,rfl,J,y⟩:=fH V U e1;refine ⟨a,rfl,⟨L,bb.of J⟩,ay V Z _ fun I G T F i=>?_⟩;obtain ⟨p,Y,e,W,Q⟩:=fH T (G _ _ U) F;cases e;refine ⟨fun x ex=>?_,fun hl=>⟨Y,bb.of W,by rw [<- Q.length];exact hl⟩⟩;obtain ⟨u,P,E⟩:=Q.get' i x ex;exact ⟨⟨Y,u,bb.of W,P⟩,fun z t ⟨e1,e2⟩=>⟨I,e1.symm,Le.refl _,T,rfl,by
    have q:=e2 Y (bb.of W);rw [P] at q;cases q;exact E⟩⟩
  ·exact Z.elim
structure Gm (K:ô) (c m q:Str) (st:ŷ) (ps:List Str) (f:Ì) (fd:ú):Prop where
 fn:kq K m q st f fd
 b:Binds K fd ps []
def GM (K:ô) (c m q:Str) (st:ŷ) (ps:List Str):Prop:=∃C f fd,nsIn K Ç c=some (some (.ref C))/\gu K C/\Meth K C m f/\Gm K c m q st ps f fd
abbrev jL (P:Ó) (w:î) (K:ô) (mg:Str->Option Â) (base:Ă) (c m q:Str) (st:ŷ) (ps:List Str) (k:Nat) (fn:List D->aa->Res D):Prop:=∀{f:Ì} {fd:ú},Gm K c m q st ps f fd->bK P w K mg base (dj P w) k f fd ps (kG mg K fn)
def n9 {P:Ó} {w:î} {K:ô} {mg:Str->Option Â} {base:Ă} {c m q:Str} {st:ŷ} {f:Ì} {fd:ú} {ps:List Str} {k:Nat} {b:PB Fl} (G:Gm K c m q st ps f fd) (N:List Str) (S:jv N ps (bz st)=true)
  (hb:N.Nodup->∀(aD:Â) (A:Ù) (outer:List PySem.Env) (s:Á) (H:Hp) (E:XK),aY k (A.deeper (ć q (bz st) s.heap.objs.size f aD))->Lv (ef (dj P w) P w K mg base N q (bz st) f aD A outer s H E) E->bX (ef (dj P w) P w K mg base N q (bz st) f aD A outer s H E) (dE st) (tS K (cX mg E) b)) :
  bK P w K mg base (dj P w) (k+1) f fd ps (kG mg K (aI ps.length N.length b)):=by
 obtain ⟨J,I,kV,doc,pm,an,aD,ct,F,rfl,lk,V⟩:=G.fn.ex;refine qX lk V (fX S) (fun U H Q E h=>?_) fun A outer s H U Q E T h=>?_
 ·obtain ⟨w,R,rfl,S,Y,h⟩:=h
  rw [<- Y.length];unfold aI at h;split at h
  ·assumption
  ·exact h.elim
 ·obtain ⟨X,R,rfl,O,Y,h⟩:=h
  refine ⟨_,hb (fX S).nd aD A outer s X.H E T ⟨rfl,rfl,rfl,rfl⟩,?_⟩;unfold aI at h;split at h
  ·rename_i M
   rw [<- M] at h;refine ⟨X,_,rfl,O,Y.env N.length,(Out.aj h).mono fun D L C W Z=>?_⟩
   cases L with
   |nx env=>intro B _;exact ay W Z _ rfl
   |rt d=>have q:=ay W Z;exact q
   |bk env=>exact Z.elim
   |ct env=>exact Z.elim
  ·exact h.elim
def gU (c m:Str) (fn:List D->aa->Res D) (fo:PB D) (fa:PB (List D)):PB D:=fun env s=>aj (fo env s) fun o s=>match jw c o s with
 |some (_,fs)=>if (fs.lookup m).isNone=true then aj (fa env s) fun Z s=>fn (o::Z) s else none
 |none=>none
def jU (c m:Str) (fn:List D->aa->Res D) (fo:PB D) (fa:PB (List D)):PB D:=gU c m (fun Z s=>ne (fn Z s)) fo fa
def lC (c:Str) (fn:List D->aa->Res D):PB D:=fun _ s=>aj (ne (fn [.ah s.length] (s++[.ins c []]))) fun d Z=>match d with
 | .au=>ok (.ah s.length) Z
 |_=>none
def GK (K:ô) (mg:Str->Option Â) (c q:Str) (st:ŷ) (ps:List Str):Prop:=∃C f fd,nsIn K Ç c=some (some (.ref C))/\mg c=some (.ref C)/\Mk K C f/\Gm K c "__init__" q st ps f fd
section
variable {X:Cx} {E:XK} {Ξ:Wd->aP->Prop} {e o:ÿ} {es:List ÿ} {pos apos:Pos} {fo:PB D} {fa:PB (List D)} {c m q:Str} {st:ŷ} {ps:List Str} {k n:Nat} {fn:List D->aa->Res D} {pl:Sem Bool}
def GJ {C:Ì} {σ:St} {H:Hp} {Q:VK} {t:TA} (hC:nsIn X.K Ç c=some (some (.ref C))) (ht:∀w' env (R:List V->Hp->Prop),aH X.K w'->bF X.K w' env σ->Out X.K (cX X.mg E) w' (fa env w'.aw) (fun w1 ds=>∀vs,ar X.K w1 ds vs->R vs w1.H)->t σ w'.H R)
  (ax:tE X.K (cX X.mg E) (gU c m fn fo fa) σ H Q):qW C m (kG X.mg X.K fn) [] E (tE X.K (cX X.mg E) fo) t σ H Q:=by
 obtain ⟨w,env,P,S,Y,h⟩:=ax;subst P;refine ⟨w,env,rfl,S,Y,(Out.aj h).mono fun w1 d O W Z v U=>?_⟩;split at Z
 ·rename_i k fs e1
  obtain ⟨rfl,N⟩:=qq e1;split at Z
  ·rename_i M
   obtain ⟨a,z,L,vs,y,rfl,T,J,I,x⟩:=qO W U N;rw [hC] at T;cases T;refine ⟨a,L,vs,rfl,J,uu I (Ŏ.mp M),?_⟩;refine ht w1 env _ W (Y.le O) ((Out.aj Z).mono fun G ds F D B u A=>?_);rw [Č];exact ⟨G,.ah k::ds,rfl,D,⟨_,_,rfl,F _ _ U,A⟩,B⟩
  ·exact Z.elim
 ·exact Z.elim
def vB (hM:GM X.K c m q st ps) (F:jL X.prog X.w X.K X.mg X.base c m q st ps k fn) (L:Passes (dj X.prog X.w) X E) (hr:aY n X.A) (ho:PE X o (tE X.K (cX X.mg E) fo)) (ha:PA X (e::es) (tA X.K (cX X.mg E) fa)) (hk:k<=n:=by decide)
  (jC:Ä (e::es) X.env=(false,Ĕ e X.env)::Ä es X.env:=by rfl) (bP:(Ĉ pos (Ä es X.env)).any (·.1)=false:=by rfl)
  (ht:Ĕ (.Call (.Attribute o m apos) (e::es) [] pos) X.env=(do
   let ov <- Ĕ o X.env
   standAt apos.atName
   let (f,first) <- Ũ [ov] (Pu ov m pl)
   callWith pos f first (Ĉ pos (Ä (e::es) X.env)) (ž pos (ĭ [] X.env))):=by rfl) :
  PE X (.Call (.Attribute o m apos) (e::es) [] pos) (tE X.K (cX X.mg E) (gU c m fn fo fa)):=by
 obtain ⟨C,f,fd,Z,Y,W,G⟩:=hM;exact cb (zB ho Y W (F G) (hr.mono hk) G.b .nil L ha jC bP ht) fun σ H Q h=>GJ Z (fun V env R U T S=>⟨V,env,rfl,U,T,S⟩) h
def yV {C:Ì} {σ:St} {H:Hp} {Q:VK} {t:TA} (hC:nsIn X.K Ç c=some (some (.ref C))) (ht:∀w' env (R:List V->Hp->Prop),aH X.K w'->bF X.K w' env σ->Out X.K Ξ w' (fa env w'.aw) (fun w1 ds=>∀vs,ar X.K w1 ds vs->R vs w1.H)->t σ w'.H R)
  (ax:tE X.K Ξ (jU c m fn fo fa) σ H Q):qW C m (kG X.mg X.K fn) [] E0 (tE X.K Ξ fo) t σ H Q:=by
 obtain ⟨w,env,P,S,Y,h⟩:=ax;subst P;unfold jU gU at h;refine ⟨w,env,rfl,S,Y,(Out.aj h).mono fun w1 d O W Z v U=>?_⟩;split at Z
 ·rename_i k fs e1
  obtain ⟨rfl,N⟩:=qq e1;split at Z
  ·rename_i M
   obtain ⟨a,A,L,vs,z,rfl,T,J,I,y⟩:=qO W U N;rw [hC] at T;cases T;refine ⟨a,L,vs,rfl,J,uu I (Ŏ.mp M),?_⟩;refine ht w1 env _ W (Y.le O) ((Out.aj Z).mono fun G ds F E D x B=>?_);rw [Č];exact ⟨G,.ah k::ds,rfl,E,⟨_,_,rfl,F _ _ U,B⟩,AE D.ne⟩
  ·exact Z.elim
 ·exact Z.elim
def K2 (hM:GM X.K c m q st ps) (F:jL X.prog X.w X.K X.mg X.base c m q st ps k fn) (hr:aY n X.A) (ho:PE X o (tE X.K Ξ fo)) (ha:PA X (e::es) (tA X.K Ξ fa)) (hk:k<=n:=by decide)
  (jC:Ä (e::es) X.env=(false,Ĕ e X.env)::Ä es X.env:=by rfl) (bP:(Ĉ pos (Ä es X.env)).any (·.1)=false:=by rfl)
  (ht:Ĕ (.Call (.Attribute o m apos) (e::es) [] pos) X.env=(do
   let ov <- Ĕ o X.env
   standAt apos.atName
   let (f,first) <- Ũ [ov] (Pu ov m pl)
   callWith pos f first (Ĉ pos (Ä (e::es) X.env)) (ž pos (ĭ [] X.env))):=by rfl) :
  PE X (.Call (.Attribute o m apos) (e::es) [] pos) (tE X.K Ξ (jU c m fn fo fa)):=by
 obtain ⟨C,f,fd,Z,Y,W,G⟩:=hM;exact cb (zB ho Y W (F G) (hr.mono hk) G.b .nil uU ha jC bP ht) fun σ H Q h=>yV Z (fun V env R U T S=>⟨V,env,rfl,U,T,S⟩) h
def JC (hM:GM X.K c m q st ps) (F:jL X.prog X.w X.K X.mg X.base c m q st ps k fn) (hr:aY n X.A) (ho:PE X o (tE X.K Ξ fo)) (hk:k<=n:=by decide)
  (ht:Ĕ (.Call (.Attribute o m apos) [] [] pos) X.env=(do
   let ov <- Ĕ o X.env
   standAt apos.atName
   let (f,first) <- Ũ [ov] (Pu ov m pl)
   callWith pos f first (Ĉ pos (Ä [] X.env)) (ž pos (ĭ [] X.env))):=by rfl) :
  PE X (.Call (.Attribute o m apos) [] [] pos) (tE X.K Ξ (jU c m fn fo ai)):=by
 obtain ⟨C,f,fd,Z,Y,W,G⟩:=hM;exact cb (F1 ho Y W (F G) (hr.mono hk) G.b .nil uU ht) fun σ H Q h=>yV Z (fun T env R V S U=>ay V (a:=([]:List D)) U _ rfl) h
def BA {p:Pos} (hM:GK X.K X.mg c q st ps) (F:jL X.prog X.w X.K X.mg X.base c "__init__" q st ps k fn) (hr:aY n X.A) (hk:k+1<=n:=by decide) (hg:Gl X c:=by rfl) (cN:(c==("__debug__":Str))=false:=by decide) :
  PE X (.Call (.Name c p) [] [] pos) (tE X.K Ξ (lC c fn)):=by
 obtain ⟨C,f,fd,R,P,M,G⟩:=hM;refine cb (F5 M (F G) (hr.mono hk) hg P G.b .nil uU cN) fun σ H Q O=>?_;obtain ⟨w,env,N,S,u,h⟩:=O;subst N;intro x Z L Y ne;have W:(w.grow Z (.own x)).H x=none:=by show upd w.H Z _ x=none;rw [aG (ŧ ne)];exact L
 have V:=S.grow (o:=.own x) Y;have J:=(Fw.grow (K:=X.K) (o:=.own x) Y).le;have I:=(Fw.cell (K:=X.K) (o:=.ins C Z []) (c:=.ins c []) V W).le;have E:=V.vl (o:=.ins C Z []) (c:=.ins c []) W ⟨C,Z,[],R,bZ,rfl,rfl⟩;have U:DV X.K ((w.grow Z (.own x)).cell x (.ins C Z []) (.ins c [])) (.ah w.aw.length) (.ref x):=by
  refine ⟨x,?_,rfl⟩;show (w.ρ++[x])[w.aw.length]?=some x;rw [<- S.len];simp
 refine ⟨_,[.ah w.aw.length],rfl,E,ar.one U,?_⟩;have D:Out X.K Ξ ((w.grow Z (.own x)).cell x (.ins C Z []) (.ins c [])) _ _:=(Out.aj h).from (J.trans I);refine AE (D.ne.mono fun t d B z T v y=>?_)
 cases d with
 |au=>exact ⟨y,ay z T _ (B _ _ U)⟩
 |_=>exact T.elim
end
end DI
namespace DI.aU
open PySem L2 DI
noncomputable section
noncomputable def ba:List Str:=["NoSort","TooMany","NoNumber","NoCount","Lacking"]
noncomputable def sN:List Str:=["TooMany","Lacking"]
def nQ:List D->aa->Res D:=aI 2 3 (az (bo (aX md (af (ae 0) (af (ae 1) ai))) (gN 2)) (az (bj (bD (e2 oQ (ae 2) (e2 mU (eC (.int 10)) (eC (.int 18))))) (aS (eNew (af (e2 fL (ae 2) (e2 mU (eC (.int 10)) (eC (.int 18)))) (af (eC (.bl true)) ai)))) bH) (aS (eNew (af (e2 dJ (ae 2) (eC (.int 2147483647))) (af (eC (.bl false)) ai))))))
def cZ:List D->aa->Res D:=aI 2 4 (az (bj (dC (e2 aL (ae 0) (eC (.int 1)))) (az (bo (e2 dJ (e2 aL (ae 0) (eC (.int 0))) (ae 1)) (gN 2)) (az (gk (e2 gR (e2 aL (ae 0) (eC (.int 0))) (ae 1)) (ae 0) (eC (.int 0))) (aS (ae 2)))) bH) (az (gk (e2 dJ (e2 cF (e2 bY (e2 aL (ae 0) (eC (.int 0))) (eC (.int 48271))) (eC (.int 29))) (eC (.int 2147483647))) (ae 0) (eC (.int 0))) (az (bo (e2 dJ (e2 cF (e2 cF (e2 bY (e2 aL (ae 0) (eC (.int 0))) (e2 aL (ae 0) (eC (.int 0)))) (e2 bY (eC (.int 39373)) (e2 aL (ae 0) (eC (.int 0))))) (eC (.int 7))) (eC (.int 2147483629))) (gN 3)) (az (bo (e2 dJ (e2 cF (e2 bY (ae 3) (ae 3)) (e2 bY (eC (.int 16807)) (ae 3))) (eC (.int 2147483587))) (gN 3)) (aS (e2 dJ (e2 gR (ae 3) (eC (.int 8))) (ae 1)))))))
def p9:List D->aa->Res D:=aI 1 2 (az (bo (e2 aL (dG (af (aX cZ (af (ae 0) (af (eC (.int 3)) ai))) (af (eC (.int 999)) (af (aX cZ (af (ae 0) (af (eC (.int 1000)) ai))) ai)))) (aX cZ (af (ae 0) (af (eC (.int 3)) ai)))) (gN 1)) (aS (dg (af (ae 1) (af (e2 aL (dG (af (aX cZ (af (ae 0) (af (eC (.int 20)) ai))) (af (eC (.int 19)) ai))) (aX cZ (af (ae 0) (af (eC (.int 2)) ai)))) (af (e2 aL (dG (af (aX cZ (af (ae 0) (af (eC (.int 24)) ai))) (af (eC (.int 23)) (af (eC (.int 0)) ai)))) (aX cZ (af (ae 0) (af (eC (.int 3)) ai)))) ai))))))
def kM:List D->aa->Res D:=aI 1 3 (az (bo (e2 gR (ae 0) (eC (.int 480))) (gN 1)) (az (bo (e2 fL (ae 0) (e2 bY (ae 1) (eC (.int 480)))) (gN 2)) (aS (dg (af (ae 1) (af (e2 gR (ae 2) (eC (.int 24))) (af (e2 fL (ae 2) (e2 bY (e2 gR (ae 2) (eC (.int 24))) (eC (.int 24)))) ai)))))))
def pT:List D->aa->Res D:=aI 2 3 (az (bo (aX p9 (af (ae 0) ai)) (gN 2)) (az (bj (bD (e2 ei (aX cZ (af (ae 0) (af (eC (.int 2)) ai))) (eC (.int 0)))) (bo (aX kM (af (eB lu (af (eC (.int 479999)) (af (eB j3 (af (eC (.int 0)) (af (e2 cF (e2 fL (ae 1) (eC (.int 1))) (aX cZ (af (ae 0) (af (eC (.int 3)) ai)))) ai))) ai))) ai)) (gN 2)) bH) (az (bj (bD (e2 ei (aX cZ (af (ae 0) (af (eC (.int 4)) ai))) (eC (.int 0)))) (bo (aX kM (af (e2 fL (eC (.int 479999)) (ae 1)) ai)) (gN 2)) bH) (aS (ae 2)))))
def pU:List D->aa->Res D:=aI 1 1 (aS (e2 cF (e2 cF (e2 bY (e2 aL (ae 0) (eC (.int 0))) (eC (.int 480))) (e2 bY (e2 aL (ae 0) (eC (.int 1))) (eC (.int 24)))) (e2 aL (ae 0) (eC (.int 2)))))
def yG:List D->aa->Res D:=aI 1 2 (az (bo (dG (af (e1 (cw ba (isNm "NoMarks")) (ae 0)) (af (e1 (cw ba (isNm "NoSheet")) (ae 0)) (af (e1 (cw ba (isNm "NoPage")) (ae 0)) (af (e1 (cw ba (isNm "NoBook")) (ae 0)) ai))))) (gN 1)) (az (bo (e2 cF (ae 1) (dG (af (e1 (cw ba (isNm "NoMould")) (ae 0)) (af (e1 (cw ba (isNm "NoDay")) (ae 0)) (af (e1 (cw ba (isNm "NoSort")) (ae 0)) (af (e1 (cw ba (isNm "NoNumber")) (ae 0)) ai)))))) (gN 1)) (az (bo (e2 cF (ae 1) (dG (af (e1 (cw ba (isNm "NoSheets")) (ae 0)) (af (e1 (cw ba (isNm "NoRun")) (ae 0)) (af (e1 (cw ba (isNm "NoLaying")) (ae 0)) (af (e1 (cw ba (isNm "NoHeap")) (ae 0)) ai)))))) (gN 1)) (az (bo (e2 cF (ae 1) (dG (af (e1 (cw ba (isNm "NoCount")) (ae 0)) (af (e1 (cw ba (isNm "Clash")) (ae 0)) (af (e1 (cw ba (isNm "NoDeed")) (ae 0)) (af (e1 (cw ba (isNm "NoText")) (ae 0)) ai)))))) (gN 1)) (aS (e2 cF (ae 1) (dG (af (e1 (cw ba (isNm "NoRow")) (ae 0)) (af (e1 (cw ba (isNm "TooMany")) (ae 0)) (af (e1 (cw ba (isNm "Lacking")) (ae 0)) ai))))))))))
def fh:List D->aa->Res D:=aI 1 1 (bj (fu (dC (aX jO (af (ae 0) (af (eC (.int (3))) ai))))) (k8 "NoSort" (af (eC (.str "a sort is a whole number from 0 to 2")) ai)) bH)
def jc:List D->aa->Res D:=aI 2 2 (az (iP (bE fh (af (ae 1) ai))) (aS (e2 aL (e1 (fB "Loft" "kept") (ae 0)) (ae 1))))
def ia:List D->aa->Res D:=aI 1 1 (az (bj (bD (e2 jr (ae 0) (eC (.int (479999))))) (qp "TooMany" (ae 0)) bH) (aS (dg (af (e2 gR (ae 0) (eC (.int (480)))) (af (e2 dJ (e2 gR (ae 0) (eC (.int (24)))) (eC (.int (20)))) (af (e2 dJ (ae 0) (eC (.int (24)))) ai))))))
def kN:List D->aa->Res D:=aI 1 4 (az (bj (jA (fu (dC (eB cM (af (ae 0) (af (eC (.ty "tuple")) ai))))) (bD (e2 cq (eB dh (af (ae 0) ai)) (eC (.int 3))))) (aS (eC (.bl false))) bH) (az (bo (ae 0) (gT [(gN 1),(gN 2),(gN 3)])) (aS (gg (aX jO (af (ae 1) (af (eC (.int (1000))) ai))) (gg (aX jO (af (ae 2) (af (eC (.int (20))) ai))) (aX jO (af (ae 3) (af (eC (.int (24))) ai))))))))
def jd:List D->aa->Res D:=aI 1 1 (aS (gg (eB cM (af (ae 0) (af (eC (.ty "list")) ai))) (gg (e2 rL (eB dh (af (ae 0) ai)) (eC (.int (20)))) (eB m7 (af (gQ 1 [] (jq (ae 0)) (gN 0) iF (aX kN (af (ae 0) ai))) ai)))))
def jM:List D->aa->Res D:=aI 1 4 (az (bo (ae 0) (gT [(gN 1),(gN 2),(gN 3)])) (aS (e2 cF (e2 cF (e2 bY (ae 1) (eC (.int (480)))) (e2 bY (ae 2) (eC (.int (24))))) (ae 3))))
def kO:List D->aa->Res D:=aI 1 1 (az (bj (fu (dC (aX jd (af (ae 0) ai)))) (k8 "NoCount" (af (eC (.str "counts are a list of at most twenty counts")) ai)) bH) (aS (bE ia (af (eB lP (af (gQ 1 [] (jq (ae 0)) (gN 0) iF (aX jM (af (ae 0) ai))) ai)) ai))))
def fG:List D->aa->Res D:=aI 3 3 (az (iP (bE fh (af (ae 1) ai))) (gk (bE kO (af (dG (af (e2 aL (e1 (fB "Loft" "kept") (ae 0)) (ae 1)) (af (ae 2) ai))) ai)) (e1 (fB "Loft" "kept") (ae 0)) (ae 1)))
def mf:List D->aa->Res D:=aI 1 1 (az (bj (fu (dC (aX jO (af (ae 0) (af (e2 cF (eC (.int (479999))) (eC (.int 1))) ai))))) (k8 "NoNumber" (af (eC (.str "sheets are a whole number from 0 to 479999")) ai)) bH) (aS (bE ia (af (ae 0) ai))))
def fV:List D->aa->Res D:=aI 1 1 (az (bj (fu (dC (aX kN (af (ae 0) ai)))) (k8 "NoCount" (af (eC (.str "a count is a tuple of reams, quires and sheets")) ai)) bH) (aS (aX jM (af (ae 0) ai))))
def fW:List D->aa->Res D:=aI 3 4 (az (iP (bE fh (af (ae 1) ai))) (az (bo (e2 fL (bE fV (af (e2 aL (e1 (fB "Loft" "kept") (ae 0)) (ae 1)) ai)) (bE fV (af (ae 2) ai))) (gN 3)) (az (bj (bD (e2 js (ae 3) (eC (.int 0)))) (qp "Lacking" (e1 rb (ae 3))) bH) (gk (bE mf (af (ae 3) ai)) (e1 (fB "Loft" "kept") (ae 0)) (ae 1)))))
def ic:List D->aa->Res D:=aI 4 4 (aS (pw (bD (e2 ei (ae 1) (eC (.int 0)))) (gU "Loft" "put" fG (ae 0) (af (ae 2) (af (ae 3) ai))) (gU "Loft" "take" fW (ae 0) (af (ae 2) (af (ae 3) ai)))))
def bS (cl:D) (th:aa->Res D):List D->aa->Res D:=aI 1 3 (j9 ba "told" (nH cl th 0) 1 (az (bo (aX yG (af (ae 1) ai)) (gN 2)) (az (bj (jA (fu (dC (e1 (cw ba anyS) (ae 1)))) (bD (e2 vv (e1 wA (ae 2)) (eC (.int 1))))) (aS (dg (af (eC (.str "other")) (af (eC .au) ai)))) bH) (az (bj (dC (e2 aL (ae 2) (eC (.int 17)))) (aS (dg (af (eC (.str "many")) (af (e1 (oA sN) (ae 1)) ai)))) bH) (az (bj (dC (e2 aL (ae 2) (eC (.int 18)))) (aS (dg (af (eC (.str "lacking")) (af (e1 (oA sN) (ae 1)) ai)))) bH) (aS (dg (af (eC (.str "refused")) (af (e1 xG (ae 2)) ai)))))))))
def kR:Nat->List D->aa->Res D
 |0=>fun _ _=>none
 |n+1=>aI 2 2 (az (bj (dC (e1 rP (ae 1))) (az (bj (jA (bD (e2 cq (eB cM (af (ae 0) (af (eC (.ty "list")) ai))) (eB cM (af (ae 1) (af (eC (.ty "list")) ai))))) (bD (e2 cq (eB cM (af (ae 0) (af (eC (.ty "tuple")) ai))) (eB cM (af (ae 1) (af (eC (.ty "tuple")) ai)))))) (aS (eC (.bl false))) bH) (az (bj (bD (e2 cq (eB dh (af (ae 0) ai)) (eB dh (af (ae 1) ai)))) (aS (eC (.bl false))) bH) (aS (e2 ur (eC (.bl false)) (ji 2 [] (j6 (af (ae 0) (af (ae 1) ai))) (gT [gN 0,gN 1]) iF (aX (kR n) (af (ae 0) (af (ae 1) ai)))))))) bH) (aS (gg (e2 ei (eB cM (af (ae 0) (af (eC (.ty "bool")) ai))) (eB cM (af (ae 1) (af (eC (.ty "bool")) ai)))) (e2 ei (ae 0) (ae 1)))))
def nK:List D->aa->Res D:=aI 1 1 (aS (eB dh (af (ji 1 [] (lB (e1 (fB "Loft" "kept") (ae 0))) (gN 0) (bD (e2 cq (e2 aL (ae 0) (eC (.int 2))) (eC (.int 0)))) (ae 0)) ai)))
def jN:List D->aa->Res D:=aI 1 1 (rm "Loft" "kept" (e2 qP (dG (af (bE mf (af (eC (.int 0)) ai)) ai)) (eC (.int (3)))) (ae 0))
def uX:PB Fl:=(az (bj (bD (e2 cq (gQ 1 [17] (kD (af (eC (.int 3)) ai)) (gN 0) iF (jU "Loft" "stock" jc (ae 1) (af (ae 0) ai))) (ji 1 [] (lB (ae 18)) (gN 0) iF (aX kM (af (ae 0) ai))))) (aS (eC (.bl false))) bH) (bj (fu (dC (aX (kR 8) (af (jU "Loft" "broken" nK (ae 17) ai) (af (eB dh (af (ji 1 [] (lB (ae 18)) (gN 0) (bD (e2 jr (e2 dJ (ae 0) (eC (.int 24))) (eC (.int 0)))) (ae 0)) ai)) ai))))) (aS (eC (.bl false))) bH))
def uY:PB Fl:=(az (bo (dg (af (aX cZ (af (ae 2) (af (eC (.int 2)) ai))) (af (aX cZ (af (ae 2) (af (eC (.int 3)) ai))) (af (aX cZ (af (ae 2) (af (eC (.int 2)) ai))) ai)))) (gT [(gN 6),(gN 7),(gN 8)])) (az (bo (dg (af (e2 aL (ae 3) (ae 6)) (af (e2 aL (ae 4) (ae 6)) ai))) (gT [(gN 9),(gN 10)])) (az (bo (aX pT (af (ae 2) (af (e2 aL (ae 10) (ae 7)) ai))) (gN 11)) (az (bo (aX pU (af (ae 11) ai)) (gN 12)) (az (bo (dg (af (eC (.str "told")) (af (eC .au) ai))) (gN 13)) (az (bo (iZ "law" [9,8,7,11] (bE ic (af (ae 0) (af (ae 1) (af (ae 2) (af (ae 3) ai))))) bS) (gN 14)) (az (bj (lG (bD (e2 ei (ae 8) (eC (.int 0)))) (bD (e2 jr (e2 cF (e2 aL (ae 10) (ae 7)) (ae 12)) (eC (.int 479999))))) (bo (dg (af (eC (.str "many")) (af (e2 cF (e2 aL (ae 10) (ae 7)) (ae 12)) ai))) (gN 13)) (bj (lG (bD (e2 ei (ae 8) (eC (.int 1)))) (bD (e2 jr (ae 12) (e2 aL (ae 10) (ae 7))))) (bo (dg (af (eC (.str "lacking")) (af (e2 fL (ae 12) (e2 aL (ae 10) (ae 7))) ai))) (gN 13)) (gk (e2 cF (e2 aL (ae 10) (ae 7)) (e2 bY (ae 12) (e2 fL (eC (.int 1)) (e2 bY (eC (.int 2)) (ae 8))))) (ae 10) (ae 7)))) (az (bj (bD (e2 cq (ae 14) (ae 13))) (aS (eC (.bl false))) bH) (az (bo (dg (af (e2 aL (dG (af (eC (.int 3)) (af (e1 rb (eC (.int 1))) (af (eC (.bl true)) (af (eC .au) (af (eC (.str "0")) ai)))))) (aX cZ (af (ae 2) (af (eC (.int 5)) ai)))) (af (e2 aL (eC (.lst [.tup [.int 0,.int 0,.int 24],.au,.lst [.int 0,.int 0,.int 0]])) (aX cZ (af (ae 2) (af (eC (.int 3)) ai)))) ai))) (gT [(gN 15),(gN 16)])) (az (bj (bD (e2 cq (iZ "law" [9,8,15,16] (bE ic (af (ae 0) (af (ae 1) (af (ae 2) (af (ae 3) ai))))) bS) (dg (af (eC (.str "refused")) (af (eC (.int 6)) ai))))) (aS (eC (.bl false))) bH) (az (bj (bD (e2 cq (iZ "law" [15,9] (gU "Loft" "stock" jc (ae 1) (af (ae 0) ai)) bS) (dg (af (eC (.str "refused")) (af (eC (.int 6)) ai))))) (aS (eC (.bl false))) bH) (az (bj (bD (e2 cq (iZ "law" [9,8,7,16] (bE ic (af (ae 0) (af (ae 1) (af (ae 2) (af (ae 3) ai))))) bS) (dg (af (eC (.str "refused")) (af (eC (.int 12)) ai))))) (aS (eC (.bl false))) bH) (lL (rf (af (ae 3) (af (ae 4) ai))) (gT [(gN 17),(gN 18)]) uX)))))))))))))
def uZ:PB Fl:=(az (bo (aX nQ (af (ae 0) (af (ae 1) ai))) (gN 2)) (az (rQ 3 4 (af (dG (af (lC "Loft" jN) (af (lC "Loft" jN) ai))) (af (dG (af (eNew (af (eC (.int 0)) (af (eC (.int 0)) (af (eC (.int 0)) ai)))) (af (eNew (af (eC (.int 0)) (af (eC (.int 0)) (af (eC (.int 0)) ai)))) ai))) ai))) (lL (kD (af (aX cZ (af (ae 2) (af (eC (.int 35)) ai))) ai)) (gN 5) uY)))
def rn:List D->aa->Res D:=aI 1 19 (az (lL (kD (af (eB j3 (af (eC (.int 1)) (af (eB lu (af (eB dh (af (ae 0) ai)) (af (eC (.int 2)) ai))) ai))) ai)) (gN 1) uZ) (aS (eC (.bl true))))
end
end DI.aU
namespace DI
open PySem L2
def Wp {α:Type} (r:Res α) (Q:α->aa->Prop):Prop:=∃a s,r=some (.ok a,s)/\Q a s
section
variable {α β:Type} {r:Res α} {k:α->aa->Res β} {Q Q':α->aa->Prop} {R:β->aa->Prop} {env:Env} {s:aa}
theorem Wp.ok {a:α} (h:Q a s):Wp (DI.ok a s) Q:=⟨a,s,rfl,h⟩
def Wp.mono (h:Wp r Q) (i:∀a s,Q a s->Q' a s):Wp r Q':=by
 obtain ⟨a,s,e,q⟩:=h;exact ⟨a,s,e,i a s q⟩
theorem Wp.aj (h:Wp r fun a s=>Wp (k a s) R):Wp (DI.aj r k) R:=by
 obtain ⟨a,s,e,b,Z,Y,q⟩:=h;exact ⟨b,Z,by rw [e];exact Y,q⟩
theorem Wp.ne (h:Wp r Q):Wp (DI.ne r) Q:=by
 obtain ⟨a,s,e,q⟩:=h;exact ⟨a,s,by rw [e];rfl,q⟩
def PC (e:r=some (.ok a,s)) (h:Q a s):Wp r Q:=⟨a,s,e,h⟩
def Wp.seq {f g:PB Fl} {Q:Fl->aa->Prop} (h:Wp (f env s) fun fl s=>match fl with
  | .nx env=>Wp (g env s) Q
  |fl=>Q fl s):Wp (az f g env s) Q:=by
 obtain ⟨fl,Z,e,h⟩:=h;unfold az;rw [e]
 cases fl with
 |nx env=>exact h
 |rt d=>exact ⟨_,_,rfl,h⟩
 |bk e=>exact ⟨_,_,rfl,h⟩
 |ct e=>exact ⟨_,_,rfl,h⟩
def Wp.wF {Q:Fl->aa->Prop} (I:Nat->Env->aa->Prop) (all:List D) (h0:I 0 env s)
 (step:∀i d env s,all[i]?=some d->I i env s->∃aK,g d env=some aK/\Wp (b aK s) fun fl s=>match fl with
   | .nx e=>I (i+1) e s
   | .ct e=>I (i+1) e s
   | .bk e=>Q (.nx e) s
   | .rt d=>Q (.rt d) s) (fin:∀env s,I all.length env s->Q (.nx env) s):Wp (iQ g b all env s) Q:=by
 have key:∀(Z:List D) (i:Nat) (env:Env) (s:aa),all.drop i=Z->i<=all.length->I i env s->Wp (iQ g b Z env s) Q:=by
  intro Z
  induction Z with
  |nil =>
   intro i env s Y hi h;have e:i=all.length:=by
    have:=Ĩ List.length Y;simp at this;omega
   subst e;exact Wp.ok (fin _ _ h)
  |cons d Z ih =>
   intro i env s Y hi h;have X:all[i]?=some d:=by
    have:=Ĩ (fun l=>l[0]?) Y;simpa using this
   have W:all.drop (i+1)=Z:=by
    have:=Ĩ (List.drop 1) Y;simpa [List.drop_drop] using this
   obtain ⟨aK,U,T⟩:=step i d env s X h;have V:=(È.mp X).1;unfold iQ;rw [U];refine Wp.aj (T.mono fun fl s q=>?_)
   cases fl with
   |nx e=>exact ih (i+1) e s W V q
   |ct e=>exact ih (i+1) e s W V q
   |bk e=>exact Wp.ok q
   |rt d=>exact Wp.ok q
 exact key all 0 env s rfl (ū _) h0
theorem tK (p:D->Bool) (h:D->D):∀{ds:List D} {s:aa},(∀d∈ds,∃env,g d (Ê nt none++caps)=some env/\t env s=ok (p d) s/\(p d=true->f env s=ok (h d) s)) ->
  gK nt caps g t f ds s=ok ((ds.filter p).map h) s
 | [],s,_=>rfl
 |d::ds,s,Y=>by
  obtain ⟨env,X,W,V⟩:=Y d ä;have ih:=tK (nt:=nt) (caps:=caps) (g:=g) (t:=t) (f:=f) p h (ds:=ds) (s:=s) fun U T=>Y U (Ð _ T);unfold gK;rw [X];simp only [W,lq,cU]
  cases Z:p d with
  |true=>simp only [Ę,V Z,lq,cU,ih,ĳ,Z,é]
  |false=>simp only [Í,ā,ih,ĳ,Z]
end
section
variable {α β:Type} {Q:D->aa->Prop} {QL:List D->aa->Prop} {QB:Bool->aa->Prop} {QF:Fl->aa->Prop} {QO:Option Int->aa->Prop} {env:Env} {s:aa} {f g h:PB D} {fa:PB (List D)} {c c':PB Bool} {st di:PB Fl} {o o':D->D->aa->Res D} {u:D->aa->Res D} {bf:List D->aa->Res D}
def bg {a:α} {Q:α->aa->Prop}:Wp (ok a s) Q=Q a s:=propext ⟨fun ⟨b,Z,e,q⟩=>by cases e;exact q,fun q=>⟨a,s,rfl,q⟩⟩
def AN {Q:α->aa->Prop}:Wp (some (Except.ok a,s)) Q=Q a s:=bg
def bx {r:Res α} {k:α->aa->Res β} {R:β->aa->Prop}:Wp (aj r k) R=Wp r fun a s=>Wp (k a s) R:=propext ⟨fun ⟨b,Z,e,q⟩=>by
 obtain ⟨a,s,e1,e2⟩:=Gp e;exact ⟨a,s,e1,b,Z,e2,q⟩,fun h=>Wp.aj h⟩
def vC {Q:α->aa->Prop}:Wp (ne r) Q=Wp r Q:=propext ⟨fun ⟨b,Z,e,q⟩=>⟨b,Z,Hv e,q⟩,fun h=>h.ne⟩
def bB {a:D} {r:Env}:Wp (ae 0 (some a::r) s) Q=Q a s:=by rw [show ae 0 (some a::r) s=ok a s from rfl,bg]
def bN {i:Nat} {a:Option D} {r:Env}:Wp (ae (i+1) (a::r) s) Q=Wp (ae i r s) Q:=by rw [show ae (i+1) (a::r) s=ae i r s from rfl]
def cx:Wp (eC d env s) Q=Q d s:=by rw [show eC d env s=ok d s from rfl,bg]
def ke:Wp (e1 u f env s) Q=Wp (f env s) fun x s=>Wp (u x s) Q:=by unfold e1;rw [bx]
def cf:Wp (e2 o f g env s) Q=Wp (f env s) fun x s=>Wp (g env s) fun y s=>Wp (o x y s) Q:=by unfold e2;simp only [bx]
def bT:Wp (ai env s) QL=QL [] s:=by unfold ai;rw [bg]
def bA:Wp (af f fa env s) QL=Wp (f env s) fun x s=>Wp (fa env s) fun xs s=>QL (x::xs) s:=by unfold af;simp only [bx,bg]
def oB:Wp (eB bf fa env s) Q=Wp (fa env s) fun ds s=>Wp (bf ds s) Q:=by unfold eB;rw [bx]
def wp_call:Wp (aX fn fa env s) Q=Wp (fa env s) fun ds s=>Wp (fn ds s) Q:=by unfold aX;simp only [bx,vC]
def nS {Q:α->aa->Prop}:Wp (fZ ds r) Q=(ds.length<=Ô/\Wp r Q):=propext ⟨fun ⟨b,Z,e,q⟩=>by
 unfold fZ at e;split at e
 ·exact ⟨by assumption,b,Z,e,q⟩
 ·(cases e),fun ⟨Y,b,Z,e,q⟩=>⟨b,Z,by unfold fZ;rw [ã Y];exact e,q⟩⟩
def jk:Wp (dg fa env s) Q=Wp (fa env s) fun ds s=>ds.length<=Ô/\Q (.tup ds) s:=by unfold dg;simp only [bx,nS,bg]
def k9:Wp (dG fa env s) Q=Wp (fa env s) fun ds s=>ds.length<=Ô/\Q (.lst ds) s:=by unfold dG;simp only [bx,nS,bg]
def qQ:Wp (eNew fa env s) Q=Wp (fa env s) fun ds s=>ds.length<=Ô/\Q (.ah s.length) (s++[.lst ds]):=by unfold eNew;simp only [bx,nS,bg]
def AO:Wp (BZ f env s) Q=Wp (f env s) fun d s=>Wp (aO d s) Q:=by unfold BZ;rw [bx]
def gM:Wp (bD f env s) QB=Wp (f env s) fun d s=>Wp (fy d s) QB:=by unfold bD;rw [bx]
def eT {b:Bool}:Wp (fy (.bl b) s) QB=QB b s:=by rw [show fy (.bl b) s=ok b s from rfl,bg]
def u0:Wp (dC f env s) QB=Wp (f env s) fun d s=>Wp (truth d s) QB:=by unfold dC;rw [bx]
def uv {b:Bool}:Wp (truth (.bl b) s) QB=QB b s:=by rw [show truth (.bl b) s=ok b s from rfl,bg]
def mv:Wp (lG c c' env s) QB=Wp (c env s) fun b s=>if b=true then Wp (c' env s) QB else QB false s:=by
 unfold lG;rw [bx];congr 1;funext b s
 cases b<;>simp [bg]
def AQ:Wp (jA c c' env s) QB=Wp (c env s) fun b s=>if b=true then QB true s else Wp (c' env s) QB:=by
 unfold jA;rw [bx];congr 1;funext b s
 cases b<;>simp [bg]
def uw:Wp (fu c env s) QB=Wp (c env s) fun b s=>QB (!b) s:=by unfold fu;simp only [bx,bg]
def z9:Wp (gg f g env s) Q=Wp (f env s) fun x s=>Wp (fy x s) fun b s=>if b=true then Wp (g env s) Q else Q (.bl false) s:=by
 unfold gg;rw [bx];congr 1;funext x s;rw [bx];congr 1;funext b s
 cases b<;>simp [bg]
def AR:Wp (CN f g env s) Q=Wp (f env s) fun x s=>Wp (fy x s) fun b s=>if b=true then Q (.bl true) s else Wp (g env s) Q:=by
 unfold CN;rw [bx];congr 1;funext x s;rw [bx];congr 1;funext b s
 cases b<;>simp [bg]
def Aa:Wp (rG f env s) Q=Wp (f env s) fun x s=>Wp (fy x s) fun b s=>Q (.bl (!b)) s:=by unfold rG;simp only [bx,bg]
def AS:Wp (pw c f g env s) Q=Wp (c env s) fun b s=>if b=true then Wp (f env s) Q else Wp (g env s) Q:=by
 unfold pw;rw [bx];congr 1;funext b s
 cases b<;>simp
def AU:Wp (CO o o' f g h env s) Q=Wp (f env s) fun x s=>Wp (g env s) fun y s=>Wp (o x y s) fun z s=>Wp (fy z s) fun b s=>if b=true then Wp (h env s) fun u s=>Wp (o' y u s) Q else Q (.bl false) s:=by
 unfold CO;simp only [bx];congr 1;funext x s;congr 1;funext y s;congr 1;funext z s;congr 1;funext b s
 cases b<;>simp [bg,bx]
def jf:Wp (bH env s) QF=QF (.nx env) s:=by unfold bH;rw [bg]
def mw:Wp (aS f env s) QF=Wp (f env s) fun d s=>QF (.rt d) s:=by unfold aS;simp only [bx,bg]
def zm:Wp (iP f env s) QF=Wp (f env s) fun _ s=>QF (.nx env) s:=by unfold iP;simp only [bx,bg]
def zo:Wp (Bi env s) QF=QF (.ct env) s:=by unfold Bi;rw [bg]
def nJ (st:PB Fl) (Q:Fl->aa->Prop):Fl->aa->Prop:=fun fl s=>match fl with
 | .nx env=>Wp (st env s) Q
 |fl=>Q fl s
def qr:Wp (az st di env s) QF=Wp (st env s) (nJ di QF):=propext ⟨fun h=>by
 unfold az at h;rw [bx] at h;refine h.mono fun Z s q=>?_
 cases Z with
 |nx e=>exact q
 |rt d=>have q:Wp (ok (Fl.rt d) s) QF:=q;rw [bg] at q;exact q
 |bk d=>have q:Wp (ok (Fl.bk d) s) QF:=q;rw [bg] at q;exact q
 |ct d=>have q:Wp (ok (Fl.ct d) s) QF:=q;rw [bg] at q;exact q,fun h=>Wp.seq (h.mono fun Z s q=>by cases Z<;>exact q)⟩
def PH (h:∀R,R=di->Wp (st env s) (nJ R QF)):Wp (az st di env s) QF:=by rw [qr];exact h _ rfl
def cC:nJ st QF (.nx env) s=Wp (st env s) QF:=rfl
def AV:nJ st QF (.rt d) s=QF (.rt d) s:=rfl
def AW:nJ st QF (.ct env) s=QF (.ct env) s:=rfl
def fY:Wp (bj c st di env s) QF=Wp (c env s) fun b s=>if b=true then Wp (st env s) QF else Wp (di env s) QF:=by
 unfold bj;rw [bx];congr 1;funext b s
 cases b<;>simp
def eU {gd:D->Env->Option Env}:Wp (bo f gd env s) QF=Wp (f env s) fun d s=>∃e,gd d env=some e/\QF (.nx e) s:=by
 unfold bo;rw [bx];congr 1;funext d s
 cases h:gd d env with
 |none=>exact propext ⟨fun ⟨_,_,e,_⟩=>(by cases e),fun ⟨_,e,_⟩=>(by cases e)⟩
 |some e=>rw [bg];exact propext ⟨fun q=>⟨e,rfl,q⟩,fun ⟨Z,z,q⟩=>by cases z;exact q⟩
def gW {i:Nat} {P:Env->Prop}:(∃e,gN i d env=some e/\P e)=P (env.set i (some d)):=propext ⟨fun ⟨e,z,q⟩=>by cases z;exact q,fun q=>⟨_,rfl,q⟩⟩
def oC {P:Env->Prop}:(∃e,gT gs (.tup ds) env=some e/\P e)=∃e,fN gs ds env=some e/\P e:=rfl
def nV {P:Env->Prop}:(∃e,fN [] [] env=some e/\P e)=P env:=propext ⟨fun ⟨e,z,q⟩=>by cases z;exact q,fun q=>⟨_,rfl,q⟩⟩
def nT {i:Nat} {P:Env->Prop}:(∃e,fN (gN i::gs) (d::ds) env=some e/\P e)=∃e,fN gs ds (env.set i (some d))=some e/\P e:=rfl
def ux {i j:Nat}:Wp (rQ i j fa env s) QF=Wp (fa env s) fun ds s=>∃x y,ds=[x,y]/\QF (.nx ((env.set i (some x)).set j (some y))) s:=by
 unfold rQ;rw [bx];congr 1;funext ds s
 match ds with
 | [x,y] =>
  show Wp (ok (Fl.nx ((env.set i (some x)).set j (some y))) s) QF=_;rw [bg];exact propext ⟨fun q=>⟨x,y,rfl,q⟩,fun ⟨Z,Y,e,q⟩=>by cases e;exact q⟩
 | []=>exact propext ⟨fun ⟨_,_,e,_⟩=>(by cases e),fun ⟨_,_,e,_⟩=>(by cases e)⟩
 | [_]=>exact propext ⟨fun ⟨_,_,e,_⟩=>(by cases e),fun ⟨_,_,e,_⟩=>(by cases e)⟩
 |_::_::_::_=>exact propext ⟨fun ⟨_,_,e,_⟩=>(by cases e),fun ⟨_,_,e,_⟩=>(by cases e)⟩
def AX {P:D->D->Prop}:(∃x' y',[x,y]=[x',y']/\P x' y')=P x y:=propext ⟨fun ⟨_,_,e,q⟩=>by cases e;exact q,fun q=>⟨x,y,rfl,q⟩⟩
def nW:Wp (lL it gd st env s) QF=Wp (it env s) fun ds s=>Wp (iQ gd st ds env s) QF:=by unfold lL;rw [bx]
def mx {fo fi:PB D}:Wp (gk f fo fi env s) QF=Wp (f env s) fun x s=>Wp (fo env s) fun d s=>Wp (fi env s) fun n s=>∃s',fP d n x s=some s'/\QF (.nx env) s':=by
 unfold gk;simp only [bx];congr 1;funext x s;congr 1;funext d s;congr 1;funext n s
 cases h:fP d n x s with
 |none=>exact propext ⟨fun ⟨_,_,e,_⟩=>(by cases e),fun ⟨_,e,_⟩=>(by cases e)⟩
 |some e=>simp only [bg];exact propext ⟨fun q=>⟨e,rfl,q⟩,fun ⟨Z,z,q⟩=>by cases z;exact q⟩
def AY:Wp (B7 f g env s) Q=Wp (f env s) fun d s=>wg d s=true/\Wp (g env s) fun x s=>Wp (B6 d x s) Q:=by
 unfold B7;rw [bx];congr 1;funext d s
 cases h:wg d s with
 |true=>rw [ã rfl,bx];simp
 |false=>rw [ë Î];exact propext ⟨fun ⟨_,_,e,_⟩=>(by cases e),fun ⟨e,_⟩=>(by cases e)⟩
def rV (Q:D->aa->Prop):Fl->aa->Prop:=fun Z s=>match Z with
 | .rt d=>Q d s
 | .nx _=>Q .au s
 |_=>False
def oE:Wp (aI np ns st ds s) Q=(ds.length=np/\Wp (st (ds.map some++Ê (ns-np) none) s) (rV Q)):=by
 unfold aI;by_cases h:ds.length=np
 ·rw [ã h,bx]
  refine propext ⟨fun q=>⟨h,q.mono fun Z s q=>?_⟩,fun ⟨_,q⟩=>q.mono fun Z s q=>?_⟩
  ·cases Z with
   |rt d=>exact (show Wp (ok d s) Q from q) |> fun z=>by rw [bg] at z;exact z
   |nx e=>exact (show Wp (ok D.au s) Q from q) |> fun z=>by rw [bg] at z;exact z
   |bk e=>obtain ⟨_,_,e,_⟩:=q;cases e
   |ct e=>obtain ⟨_,_,e,_⟩:=q;cases e
  ·cases Z with
   |rt d=>exact Wp.ok q
   |nx e=>exact Wp.ok q
   |bk e=>exact q.elim
   |ct e=>exact q.elim
 ·rw [ë h]
  exact propext ⟨fun ⟨_,_,e,_⟩=>(by cases e),fun ⟨e,_⟩=>absurd e h⟩
def qR:rV Q (.rt d) s=Q d s:=rfl
def AZ:rV Q (.nx env) s=Q .au s:=rfl
def uy:Wp (gQ nt cap it gd c f env s) Q=Wp (it env s) fun ds s=>ds.length<=Ô/\Wp (gK nt (fK cap env) gd c f ds s) fun xs s=>Q (.lst xs) s:=by
 unfold gQ;simp only [bx,nS,bg]
def BB:Wp (CQ f l' h' env s) Q=Wp (f env s) fun d s=>Wp (l' env s) fun lo s=>Wp (h' env s) fun hi s=>Wp (Av d lo hi s) Q:=by unfold CQ;simp only [bx]
def A0:Wp (CP env s) QO=QO none s:=by unfold CP;rw [bg]
end
open DI.aU
def HH {cl:D} {th:aa->Res D} {r:Env} {s:aa}:nH cl th 0 (some cl::r) s=th s:=ã rfl
def BC (b:PB Fl) (cl:D) (r:Res D) (s:aa):Res D:=aj (j9 ba "told" (fun _ _=>r) 1 b [some cl,none,none] s) fun Z s=>match Z with
 | .rt d=>ok d s
 | .nx _=>ok .au s
 |_=>none
def gJ {cl:D} {th:aa->Res D} {s:aa} {b:PB Fl}:aI 1 3 (j9 ba "told" (nH cl th 0) 1 b) [cl] s=BC b cl (th s) s:=by
 show aj (j9 ba "told" (nH cl th 0) 1 b [some cl,none,none] s) _=_;unfold j9;rw [HH];rfl
def qS {cl d:D} {th:aa->Res D} {s s':aa} (h:th s=some (.ok d,s')):bS cl th [cl] s=ok (.tup [.str "told",d]) s':=by
 unfold bS;rw [gJ,h];rfl
def pQ {cl:D} {th:aa->Res D} {s s':aa} {m:Option Int} (h:th s=some (.error ⟨"NoSort",m⟩,s')):bS cl th [cl] s=ok (.tup [.str "refused",.int 6]) s':=by
 unfold bS;rw [gJ,h]
 kernel_rfl
def s9 {cl:D} {th:aa->Res D} {s s':aa} {i:Int} (h:th s=some (.error ⟨"TooMany",some i⟩,s')):bS cl th [cl] s=ok (.tup [.str "many",.int i]) s':=by
 unfold bS;rw [gJ,h]
 kernel_rfl
def yk {cl:D} {th:aa->Res D} {s s':aa} (h:th s=some (.error ⟨"TooMany",none⟩,s')):bS cl th [cl] s=none:=by
 unfold bS;rw [gJ,h]
 kernel_rfl
def yl {cl:D} {th:aa->Res D} {s s':aa} {m:Option Int} (h:th s=some (.error ⟨"NoNumber",m⟩,s')):bS cl th [cl] s=ok (.tup [.str "refused",.int 7]) s':=by
 unfold bS;rw [gJ,h]
 kernel_rfl
def tj {cl:D} {th:aa->Res D} {s s':aa} {m:Option Int} (h:th s=some (.error ⟨"NoCount",m⟩,s')):bS cl th [cl] s=ok (.tup [.str "refused",.int 12]) s':=by
 unfold bS;rw [gJ,h]
 kernel_rfl
def tm {cl:D} {th:aa->Res D} {s s':aa} {i:Int} (h:th s=some (.error ⟨"Lacking",some i⟩,s')):bS cl th [cl] s=ok (.tup [.str "lacking",.int i]) s':=by
 unfold bS;rw [gJ,h]
 kernel_rfl
def ym {cl:D} {th:aa->Res D} {s s':aa} (h:th s=some (.error ⟨"Lacking",none⟩,s')):bS cl th [cl] s=none:=by
 unfold bS;rw [gJ,h]
 kernel_rfl
def qa (cl:D) (th:aa->Res D) (s:aa):bS cl th [cl] s=bS .au th [.au] s:=by
 cases h:th s with
 |none=>unfold bS;rw [gJ,gJ,h];rfl
 |some q =>
  obtain ⟨q,Y⟩:=q
  cases q with
  |ok d=>rw [qS h,qS h]
  |error x =>
   obtain ⟨c,m⟩:=x;by_cases Z:decide (c∈ba)=true
   ·rw [Ú] at Z
    have e1:c="NoSort"\/c="TooMany"\/c="NoNumber"\/c="NoCount"\/c="Lacking":=by simpa [ba] using Z
    rcases e1 with rfl|rfl|rfl|rfl|rfl
    ·rw [pQ h,pQ h]
    ·cases m with
     |none=>rw [yk h,yk h]
     |some i=>rw [s9 h,s9 h]
    ·rw [yl h,yl h]
    ·rw [tj h,tj h]
    ·cases m with
     |none=>rw [ym h,ym h]
     |some i=>rw [tm h,tm h]
   ·unfold bS
    rw [gJ,gJ,h];unfold BC j9;dsimp only;rw [ë Z,ë Z]
end DI
namespace DI.aU
open PySem L2 DI
noncomputable def top (i:Nat):ŷ:=PySem.Challenge.pw_twinmoulds_k46_a_loft_and_its_deeds.main.body.getD i (.Pass ⟨0,0,0,0⟩)
noncomputable def fF (c:ŷ) (j:Nat):ŷ:=match c with
 | .ClassDef _ _ _ b _ _ _ _ _ _ _=>b.getD j (.Pass ⟨0,0,0,0⟩)
 |_=>.Pass ⟨0,0,0,0⟩
noncomputable abbrev oV:List Str:=[PL,"_law_k"]
noncomputable abbrev Ci:List Str:=[PM,PN]
noncomputable abbrev Cj:List Str:=[PM]
noncomputable abbrev Ck:List Str:=[PN]
noncomputable abbrev Cm:List Str:=[PM,"_law_kept"]
noncomputable abbrev wG:List Str:=[PO]
noncomputable abbrev Cn:List Str:=["_law_e"]
noncomputable abbrev iq:List Str:=["thing"]
noncomputable abbrev wH:List Str:=["thing","many"]
noncomputable abbrev wI:List Str:=["self","sort"]
noncomputable abbrev vD:List Str:=["many"]
noncomputable abbrev oF:List Str:=["count"]
noncomputable abbrev vE:List Str:=["counts"]
noncomputable abbrev oG:List Str:=["self","sort","count"]
noncomputable abbrev vF:List Str:=["sheets"]
noncomputable abbrev vG:List Str:=[PQ,PV,PX,PO]
noncomputable abbrev BD:List Str:=["_law_call"]
noncomputable abbrev K3:List Str:=[PR,PU]
noncomputable abbrev mW:List Str:=["self"]
noncomputable abbrev BE:List Str:=[PL]
structure cj (K:ô) (mg:Str->Option Â):Prop where
 DP:mg "ValueError"=none
 JD:mg "all"=none
 uz:mg "bool"=none
 JE:mg "int"=none
 bR:mg "isinstance"=none
 jV:mg "len"=none
 qt:mg "list"=none
 A1:mg "max"=none
 A2:mg "min"=none
 tY:mg "range"=none
 JF:mg "sum"=none
 qb:mg "tuple"=none
 A3:mg "zip"=none
 EL:dq K mg ba "NoMarks"
 EM:dq K mg ba "NoSheet"
 Fz:dq K mg ba "NoPage"
 FA:dq K mg ba "NoBook"
 EN:dq K mg ba "NoMould"
 GN:dq K mg ba "NoDay"
 FC:dq K mg ba "NoSort"
 Ee:dq K mg ba "NoNumber"
 Ef:dq K mg ba "NoSheets"
 GO:dq K mg ba "NoRun"
 Eg:dq K mg ba "NoLaying"
 FD:dq K mg ba "NoHeap"
 EO:dq K mg ba "NoCount"
 GP:dq K mg ba "Clash"
 FE:dq K mg ba "NoDeed"
 FF:dq K mg ba "NoText"
 GQ:dq K mg ba "NoRow"
 ER:dq K mg ba "TooMany"
 ES:dq K mg ba "Lacking"
 DQ:mr K ba (.type "ValueError") anyS
 ET:sM K mg "TooMany"
 EU:sM K mg "Lacking"
 mn:xO K sN
 FG:oS K mg "NoSort"
 Eh:oS K mg "NoNumber"
 yH:oS K mg "NoCount"
 DR:Dj K mg ba "MouldError"
 qc:∃t,mg "SORTS"=some (.int (3) t)
 mi:∃t,mg "QUIRE"=some (.int (24) t)
 pV:∃t,mg "QUIRES"=some (.int (20) t)
 qu:∃t,mg "REAM"=some (.int (480) t)
 tZ:∃t,mg "REAMS"=some (.int (1000) t)
 qv:∃t,mg "MOST"=some (.int (479999) t)
 tL:∃t,mg "COUNTS"=some (.int (20) t)
 kL:rT K "Loft" "kept"
 yh:GM K "Loft" "stock" "Loft.stock" (fF (top 41) 3) wI
 Ei:GM K "Loft" "put" "Loft.put" (fF (top 41) 1) oG
 D5:GM K "Loft" "take" "Loft.take" (fF (top 41) 2) oG
 DK:GM K "Loft" "broken" "Loft.broken" (fF (top 41) 4) mW
 Ab:GK K mg "Loft" "Loft.__init__" (fF (top 41) 0) mW
 Ej:GG K mg "_law_cell_at" (top 43) oV
 FH:GG K mg "_law_state" (top 44) oV
 eQ:GG K mg "_law_take" (top 45) Ci
 FI:GG K mg "_law_count" (top 49) Cj
 tu:GG K mg "_law_counted" (top 51) Ck
 EV:GG K mg "_law_wanted" (top 52) Cm
 EW:GG K mg "_law_sheets" (top 50) wG
 Ek:GG K mg "_law_classes" (top 46) Cn
 D6:GG K mg "is_number" (top 23) iq
 nM:GG K mg "is_below" (top 24) wH
 sU:GG K mg "need_sort" (top 25) iq
 yw:GG K mg "count_of" (top 39) vD
 yx:GG K mg "is_count" (top 36) iq
 DT:GG K mg "are_counts" (top 37) iq
 yn:GG K mg "sheets_of" (top 38) oF
 FJ:GG K mg "summed" (top 35) vE
 yI:GG K mg "counted" (top 33) vF
 yo:GG K mg "sheets_in" (top 34) oF
 t5:GG K mg "_law_done" (top 53) vG
 qw:GG K mg "_law_met" (top 47) BD
 GR:GG K mg "_law_same" (top 48) K3
section
variable {P:Ó} {w:î} {K:ô} {mg:Str->Option Â} {base:Ă}
def El (F:cj K mg):gG P w K mg base "_law_cell_at" (top 43) oV 1 md:=fun {_ _} G =>
 gS G oV (by kernel_rfl) fun Y _ _ _ _ _ _ Z=>(aW (cm (cJ (wo Z) (ag 1) (cB j0 rfl F.jV j5 (bu (ag 0))) (b9 _)) (aR (bC (bW (ag 0) (ag 1)))) cE) (aR (bC aB)))
def FK (F:cj K mg):gG P w K mg base "_law_state" (top 44) oV 2 nQ:=fun {_ _} G =>
 gS G [PL,"_law_k","_law_cell"] (by kernel_rfl) fun Z _ _ _ _ _ _ Y=>(aW (cK 2 Z (bI F.Ej (El F) Y (aQ (ag 0) (ag 1)))) (aW (cm (cJ B5 (ag 2) (aT Bm aB aB) (b9 _)) (aR (bC (qZ (aQ (aT jZ (ag 2) (aT Bm aB aB)) fz)))) cE) (aR (bC (qZ (aQ (aT jl (ag 2) aB) fz))))))
def eR (F:cj K mg):gG P w K mg base "_law_take" (top 45) Ci 1 cZ:=fun {_ _} G =>
 gS G [PM,PN,"_law_found","_law_mixed"] (by kernel_rfl) fun Z _ _ _ _ _ _ Y=>(aW (cm (ik (bW (ag 0) aB)) (aW (cK 2 Z (aT jl (bW (ag 0) aB) (ag 1))) (aW (oq (aT lr (bW (ag 0) aB) (ag 1)) (ag 0) aB) (aR (bC (ag 2))))) cE) (aW (oq (aT jl (aT dY (aT f9 (bW (ag 0) aB) aB) aB) aB) (ag 0) aB) (aW (cK 3 Z (aT jl (aT dY (aT dY (aT f9 (bW (ag 0) aB) (bW (ag 0) aB)) (aT f9 aB (bW (ag 0) aB))) aB) aB)) (aW (cK 3 Z (aT jl (aT dY (aT f9 (ag 3) (ag 3)) (aT f9 aB (ag 3))) aB)) (aR (bC (aT jl (aT lr (ag 3) aB) (ag 1))))))))
def FL (F:cj K mg):gG P w K mg base "_law_count" (top 49) Cj 2 p9:=fun {_ _} G =>
 gS G [PM,"_law_reams"] (by kernel_rfl) fun Y _ _ _ _ _ _ Z=>(aW (cK 1 Y (bW (fJ (jj (bI F.eQ (eR F) Z (aQ (ag 0) aB)) aB (bI F.eQ (eR F) Z (aQ (ag 0) aB)))) (bI F.eQ (eR F) Z (aQ (ag 0) aB)))) (aR (bC (dX (jj (ag 1) (bW (fJ (aQ (bI F.eQ (eR F) Z (aQ (ag 0) aB)) aB)) (bI F.eQ (eR F) Z (aQ (ag 0) aB))) (bW (fJ (jj (bI F.eQ (eR F) Z (aQ (ag 0) aB)) aB aB)) (bI F.eQ (eR F) Z (aQ (ag 0) aB))))))))
def tw (F:cj K mg):gG P w K mg base "_law_counted" (top 51) Ck 1 kM:=fun {_ _} G =>
 gS G [PN,"_law_reams","_law_left"] (by kernel_rfl) fun Z _ _ _ _ _ _ Y=>(aW (cK 1 Z (aT lr (ag 0) aB)) (aW (cK 2 Z (aT jZ (ag 0) (aT f9 (ag 1) aB))) (aR (bC (dX (jj (ag 1) (aT lr (ag 2) aB) (aT jZ (ag 2) (aT f9 (aT lr (ag 2) aB) aB))))))))
def EX (F:cj K mg):gG P w K mg base "_law_wanted" (top 52) Cm 3 pT:=fun {_ _} G =>
 gS G [PM,"_law_kept",PO] (by kernel_rfl) fun Y _ _ _ _ _ _ Z=>(aW (cK 2 Y (bI F.FI (FL F) Z (bu (ag 0)))) (aW (cm (cJ (lN Z) (bI F.eQ (eR F) Z (aQ (ag 0) aB)) aB (b9 _)) (aR (cK 2 Y (bI F.tu (tw F) Z (bu (cB (As rfl) rfl F.A2 Br (aQ aB (cB (Ar rfl) rfl F.A1 Bq (aQ aB (aT dY (aT jZ (ag 1) aB) (bI F.eQ (eR F) Z (aQ (ag 0) aB))))))))))) cE) (aW (cm (cJ (lN Z) (bI F.eQ (eR F) Z (aQ (ag 0) aB)) aB (b9 _)) (aR (cK 2 Y (bI F.tu (tw F) Z (bu (aT jZ aB (ag 1)))))) cE) (aR (bC (ag 2))))))
def EY (F:cj K mg):gG P w K mg base "_law_sheets" (top 50) wG 1 pU:=fun {_ _} G =>
 gS G wG (by kernel_rfl) fun Z _ _ _ _ _ _ Y=>(aR (bC (aT dY (aT dY (aT f9 (bW (ag 0) aB) aB) (aT f9 (bW (ag 0) aB) aB)) (bW (ag 0) aB))))
def Em (F:cj K mg):Dl P w K mg base "_law_classes" (top 46) Cn 1 yG:=fun {_ _} G =>
 KR G ["_law_e","_law_found"] (by kernel_rfl) fun Z _ _ _ _ _ _ Y=>(aW (cK 1 Z (fJ (bw (dF F.EL (ag 0) F.bR) (bw (dF F.EM (ag 0) F.bR) (bw (dF F.Fz (ag 0) F.bR) (bw (dF F.FA (ag 0) F.bR) gP)))))) (aW (cK 1 Z (aT dY (ag 1) (fJ (bw (dF F.EN (ag 0) F.bR) (bw (dF F.GN (ag 0) F.bR) (bw (dF F.FC (ag 0) F.bR) (bw (dF F.Ee (ag 0) F.bR) gP))))))) (aW (cK 1 Z (aT dY (ag 1) (fJ (bw (dF F.Ef (ag 0) F.bR) (bw (dF F.GO (ag 0) F.bR) (bw (dF F.Eg (ag 0) F.bR) (bw (dF F.FD (ag 0) F.bR) gP))))))) (aW (cK 1 Z (aT dY (ag 1) (fJ (bw (dF F.EO (ag 0) F.bR) (bw (dF F.GP (ag 0) F.bR) (bw (dF F.FE (ag 0) F.bR) (bw (dF F.FF (ag 0) F.bR) gP))))))) (aR (bC (aT dY (ag 1) (fJ (jj (dF F.GQ (ag 0) F.bR) (dF F.ER (ag 0) F.bR) (dF F.ES (ag 0) F.bR))))))))))
def D7 (F:cj K mg):gG P w K mg base "is_number" (top 23) iq 1 sZ:=fun {_ _} G =>
 gS G iq (by kernel_rfl) fun Z _ _ _ _ _ _ Y=>(aR (bC (jY (cB iR rfl F.bR fU (aQ (ag 0) (iX Kp rfl F.JE))) (jY (Km (cB iR rfl F.bR fU (aQ (ag 0) (iX uP rfl F.uz)))) (oh (mS B5 (ag 0) aB (b9 _)))))))
def nN (F:cj K mg):gG P w K mg base "is_below" (top 24) wH 2 jO:=fun {_ _} G =>
 gS G wH (by kernel_rfl) fun Y _ _ _ _ _ _ Z=>(aR (bC (jY (bI F.D6 (D7 F) Z (bu (ag 0))) (oh (mS (wo Z) (ag 0) (ag 1) (b9 _))))))
def sV (F:cj K mg):l0 P w K mg base "need_sort" (top 25) iq 3 fh:=fun {_ _} G =>
 mK G iq (by kernel_rfl) fun Y _ _ _ _ _ _ Z L=>(aR (cm (lp (ik (bI F.nM (nN F) Z (aQ (ag 0) (fQ F.qc rfl))))) (aR (qm L F.FG (bu eZ))) cE))
def yi (F:cj K mg):jL P w K mg base "Loft" "stock" "Loft.stock" (fF (top 41) 3) wI 4 jc:=fun {_ _} G =>
 n9 G wI (by kernel_rfl) fun Y _ _ _ _ _ _ Z L=>(aW (uL (gb F.sU (sV F) (eV L) Z (bu (ag 1)))) (aR (bC (bW (mV F.kL (ag 0)) (ag 1)))))
def yy (F:cj K mg):l0 P w K mg base "count_of" (top 39) vD 1 ia:=fun {_ _} G =>
 mK G vD (by kernel_rfl) fun Y _ _ _ _ _ _ Z L=>(aW (cm (cJ rM (ag 0) (fQ F.qv rfl) (b9 _)) (aR (zl L Z F.ET (ag 0))) cE) (aR (bC (dX (jj (aT lr (ag 0) (fQ F.qu rfl)) (aT jl (aT lr (ag 0) (fQ F.mi rfl)) (fQ F.pV rfl)) (aT jl (ag 0) (fQ F.mi rfl)))))))
def yz (F:cj K mg):gG P w K mg base "is_count" (top 36) iq 3 kN:=fun {_ _} G =>
 gS G ["thing","reams","quires","sheets"] (by kernel_rfl) fun Y _ _ _ _ _ _ Z=>(aW (cm (PW.pt (w_or (lp (ik (cB iR rfl F.bR fU (aQ (ag 0) (iX qj rfl F.qb))))) (vn (cJ (iW Z) (cB j0 rfl F.jV j5 (bu (ag 0))) aB (b9 _))))) (aR (bC fz)) cE) (aW (oi (ag 0) (mT rfl (fj (dW 1 Y) (fj (dW 2 Y) (fj (dW 3 Y) mG))))) (aR (bC (jY (bI F.nM (nN F) Z (aQ (ag 1) (fQ F.tZ rfl))) (jY (bI F.nM (nN F) Z (aQ (ag 2) (fQ F.pV rfl))) (oh (bI F.nM (nN F) Z (aQ (ag 3) (fQ F.mi rfl))))))))))
def DU (F:cj K mg):gG P w K mg base "are_counts" (top 37) iq 4 jd:=fun {_ _} G =>
 gS G iq (by kernel_rfl) fun Y _ _ _ _ _ _ Z=>(aR (bC (jY (cB iR rfl F.bR fU (aQ (ag 0) (iX qI rfl F.qt))) (jY (mS LZ (cB j0 rfl F.jV j5 (bu (ag 0))) (fQ F.tL rfl) (b9 _)) (oh (cB (Ko rfl) rfl F.JD Kq (bu (wu ["count"] (Bk (ag 0)) (fun _ _ _ _ _ _=>⟨oj,(bI F.yx (yz F) Z (bu (ag 0)))⟩)))))))))
def yp (F:cj K mg):gG P w K mg base "sheets_of" (top 38) oF 1 jM:=fun {_ _} G =>
 gS G ["count","reams","quires","sheets"] (by kernel_rfl) fun Z _ _ _ _ _ _ Y=>(aW (oi (ag 0) (mT rfl (fj (dW 1 Z) (fj (dW 2 Z) (fj (dW 3 Z) mG))))) (aR (bC (aT dY (aT dY (aT f9 (ag 1) (fQ F.qu rfl)) (aT f9 (ag 2) (fQ F.mi rfl))) (ag 3)))))
def FN (F:cj K mg):l0 P w K mg base "summed" (top 35) vE 5 kO:=fun {_ _} G =>
 mK G vE (by kernel_rfl) fun Y _ _ _ _ _ _ Z L=>(aW (cm (lp (ik (bI F.DT (DU F) Z (bu (ag 0))))) (aR (qm L F.yH (bu eZ))) cE) (aR (bC (gb F.yw (yy F) (eV L) Z (bu (cB (KZ rfl) rfl F.JF KD (bu (wu ["count"] (Bk (ag 0)) (fun _ _ _ _ _ _=>⟨oj,(bI F.yn (yp F) Z (bu (ag 0)))⟩)))))))))
def En (F:cj K mg):jL P w K mg base "Loft" "put" "Loft.put" (fF (top 41) 1) oG 6 fG:=fun {_ _} G =>
 n9 G oG (by kernel_rfl) fun Y _ _ _ _ _ _ Z L=>(aW (uL (gb F.sU (sV F) (eV L) Z (bu (ag 1)))) (aR (oq (gb F.FJ (FN F) (eV L) Z (bu (fJ (aQ (bW (mV F.kL (ag 0)) (ag 1)) (ag 2))))) (mV F.kL (ag 0)) (ag 1))))
def yJ (F:cj K mg):l0 P w K mg base "counted" (top 33) vF 3 mf:=fun {_ _} G =>
 mK G vF (by kernel_rfl) fun Y _ _ _ _ _ _ Z L=>(aW (cm (lp (ik (bI F.nM (nN F) Z (aQ (ag 0) (aT dY (fQ F.qv rfl) aB))))) (aR (qm L F.Eh (bu eZ))) cE) (aR (bC (gb F.yw (yy F) (eV L) Z (bu (ag 0))))))
def yq (F:cj K mg):l0 P w K mg base "sheets_in" (top 34) oF 4 fV:=fun {_ _} G =>
 mK G oF (by kernel_rfl) fun Y _ _ _ _ _ _ Z L=>(aW (cm (lp (ik (bI F.yx (yz F) Z (bu (ag 0))))) (aR (qm L F.yH (bu eZ))) cE) (aR (bC (bI F.yn (yp F) Z (bu (ag 0))))))
def D8 (F:cj K mg):jL P w K mg base "Loft" "take" "Loft.take" (fF (top 41) 2) oG 5 fW:=fun {_ _} G =>
 n9 G ["self","sort","count","left"] (by kernel_rfl) fun Y _ _ _ _ _ _ Z L=>(aW (uL (gb F.sU (sV F) (eV L) Z (bu (ag 1)))) (aW (cK 3 Y (aT jZ (gb F.yo (yq F) (eV L) Z (bu (bW (mV F.kL (ag 0)) (ag 1)))) (gb F.yo (yq F) (eV L) Z (bu (ag 2))))) (aW (cm (cJ (wo Z) (ag 3) aB (b9 _)) (aR (zl L Z F.EU (v8 vp (ag 3)))) cE) (aR (oq (gb F.yI (yJ F) (eV L) Z (bu (ag 3))) (mV F.kL (ag 0)) (ag 1))))))
def t6 (F:cj K mg):l0 P w K mg base "_law_done" (top 53) vG 7 ic:=fun {_ _} G =>
 mK G vG (by kernel_rfl) fun Y _ _ _ _ _ _ Z L=>(aR (bC (LX (cJ (lN Z) (ag 1) aB (b9 _)) (vB F.Ei (En F) (eV L) Z (ag 0) (aQ (ag 2) (ag 3))) (vB F.D5 (D8 F) (eV L) Z (ag 0) (aQ (ag 2) (ag 3))))))
def qx (F:cj K mg):C8 P w K mg "_law_met" (top 47) BD 9 8 bS:=fun {_ _ _ _ _ _} T {_ _} G =>
 KN G ["_law_call","_law_e","_law_some"] (by kernel_rfl) fun Z _ _ _ _ _ _ X Y=>(aR (JA T X (Y.mono (by decide)) F.DR (fun _=>(aW (cK 2 Z (KS F.Ek (Em F) (Y.h.held _) (bu (ag 1)))) (aW (cm (PW.pt (w_or (lp (ik (Jy F.DQ (ag 1) F.bR F.DP))) (vn (cJ KU (Jw (ag 2)) aB (b9 _))))) (aR (bC (dX (aQ eZ qY)))) cE) (aW (cm (ik (bW (ag 2) aB)) (aR (bC (dX (aQ eZ (AJ F.mn (ag 1)))))) cE) (aW (cm (ik (bW (ag 2) aB)) (aR (bC (dX (aQ eZ (AJ F.mn (ag 1)))))) cE) (aR (bC (dX (aQ eZ (KP (ag 2))))))))))) Z))
def zp:je [PR,PU] [PR,PU] (bz (top 48)):=⟨rfl,rfl,rfl,by decide +kernel,rfl,by decide +kernel,by decide +kernel⟩
theorem zq (F:cj K mg) {f:Ì} {fd:ú} (G:Gd K mg "_law_same" (top 48) [PR,PU] f fd):∀n,bK P w K mg base cg (1+n) f fd [PR,PU] (gB K (kR n))
 |0=>Kr fun _ _=>rfl
 |n+1=>by
  have Y:(["_law_one","_law_other"]:List Str).Nodup:=by decide +kernel
  have X:=zp.nd;have ih:=zq F G n;exact Bl G.fn zp fun W A outer s H E Z=>(aW (cm (ik (HF (ag 1) rfl F.bR fU (qe rfl F.qb qj rfl) (qe rfl F.qt qI rfl))) (aW (cm (PW.pt (w_or (cJ (iW Z) (cB iR rfl F.bR fU (aQ (ag 0) (iX qI rfl F.qt))) (cB iR rfl F.bR fU (aQ (ag 1) (iX qI rfl F.qt))) (b9 _)) (vn (cJ (iW Z) (cB iR rfl F.bR fU (aQ (ag 0) (iX qj rfl F.qb))) (cB iR rfl F.bR fU (aQ (ag 1) (iX qj rfl F.qb))) (b9 _))))) (aR (bC fz)) cE) (aW (cm (cJ (iW Z) (cB j0 rfl F.jV j5 (bu (ag 0))) (cB j0 rfl F.jV j5 (bu (ag 1))) (b9 _)) (aR (bC fz)) cE) (aR (bC (mS (Hu Z) fz (pZ (N:=["_law_one","_law_other"]) (nt:=2) (cap:=[]) rfl (ot (by kernel_rfl)) (I0 (y9 0 (y9 1 Ho))) (Jn rfl F.A3 (aQ (ag 0) (ag 1))) (fun cl C s H ex V=>⟨(Ai rfl (tO (kQ (i:=0) Y rfl (Or.inl rfl)) (tO (kQ (i:=1) Y rfl (Or.inl rfl)) zv))),oj,(uO ih Z rfl G.mg G.fn.kp G.b (aQ (ag 0) (ag 1)))⟩)) rfl))))) cE) (aR (bC (jY (mS (lN Z) (cB iR rfl F.bR fU (aQ (ag 0) (iX uP rfl F.uz))) (cB iR rfl F.bR fU (aQ (ag 1) (iX uP rfl F.uz))) (b9 _)) (oh (mS (lN Z) (ag 0) (ag 1) (b9 _)))))))
def DL (F:cj K mg):jL P w K mg base "Loft" "broken" "Loft.broken" (fF (top 41) 4) mW 1 nK:=fun {_ _} G=>by
 have Z:(["count"]:List Str).Nodup:=by decide +kernel
 exact n9 G mW (by kernel_rfl) fun X _ _ _ _ _ _ Y L=>(aR (bC (cB j0 rfl F.jV j5 (bu (pZ (N:=["count"]) (nt:=1) (cap:=[]) rfl (ot (by kernel_rfl)) (qi 0) (uW (mV F.kL (ag 0))) (fun cl C s H ex W=>⟨(kQ (i:=0) Z rfl (Or.inl rfl)),(Bj (cJ (iW Y) (bW (ag 0) aB) aB (b9 _))),(ag 0)⟩))))))
def yr (F:cj K mg):jL P w K mg base "Loft" "__init__" "Loft.__init__" (fF (top 41) 0) mW 4 jN:=fun {_ _} G =>
 n9 G mW (by kernel_rfl) fun Y _ _ _ _ _ _ Z L=>(aR (K1 F.kL (ag 0) (aT JB (fJ (bu (gb F.yI (yJ F) (eV L) Z (bu aB)))) (fQ F.qc rfl))))
def JG (F:cj K mg) {c T:Ì} (ht:Px K "law"=some (c,T)) (hC:PySem.W.codeHdIn K c T=true) (hB:base.BuiltinsAt mg T) {f:Ì} {fd:ú} (G:Gd K mg "law" (top 54) BE f fd) (hx:Ý K Ç "law"=some (some (.ref f))):bK P w K mg base cg 10 f fd BE (gB K rn):=by
 obtain ⟨_,_,X⟩:=F.GR;have V:([PY]:List Str).Nodup:=by decide +kernel
 have U:([PY]:List Str).Nodup:=by decide +kernel
 exact KQ G hx ht [PL,"_law_k",PM,"_law_lofts","_law_kepts","_law_turn","_law_at",PX,PV,PQ,"_law_kept",PO,PN,PU,PR,"_law_odd","_law_bad","_law_one","_law_own"] (by kernel_rfl) fun Y _ _ _ _ _ Z=>(aW (vo PassesOwn.never rfl (uN rfl F.tY (bu (cB (Ar rfl) rfl F.A1 Bq (aQ aB (cB (As rfl) rfl F.A2 Br (aQ (cB j0 rfl F.jV j5 (bu (ag 0))) aB)))))) (dW 1 Y) (aW (cK 2 Y (bI F.FH (FK F) Z (aQ (ag 0) (ag 1)))) (aW (Je 3 4 rfl Y (aQ (fJ (aQ (BA F.Ab (yr F) Z) (BA F.Ab (yr F) Z))) (fJ (aQ (qZ (jj aB aB aB)) (qZ (jj aB aB aB)))))) (aR (vo PassesOwn.never rfl (uN rfl F.tY (bu (bI F.eQ (eR F) Z (aQ (ag 2) aB)))) (dW 5 Y) (aW (oi (dX (jj (bI F.eQ (eR F) Z (aQ (ag 2) aB)) (bI F.eQ (eR F) Z (aQ (ag 2) aB)) (bI F.eQ (eR F) Z (aQ (ag 2) aB)))) (mT rfl (fj (dW 6 Y) (fj (dW 7 Y) (fj (dW 8 Y) mG))))) (aW (oi (dX (aQ (bW (ag 3) (ag 6)) (bW (ag 4) (ag 6)))) (mT rfl (fj (dW 9 Y) (fj (dW 10 Y) mG)))) (aW (cK 11 Y (bI F.EV (EX F) Z (aQ (ag 2) (bW (ag 10) (ag 7))))) (aW (cK 12 Y (bI F.EW (EY F) Z (bu (ag 11)))) (aW (cK 13 Y (dX (aQ eZ qY))) (aW (cK 14 Y (rj [PQ,PV,PX,PO] rfl rfl ht hC hB F.qw (qx F) qa Z (fun _ _ _ _ _ _ _ _ _ _ Z L=>(gb F.t5 (t6 F) (eV L) Z (bw (ag 0) (bw (ag 1) (bw (ag 2) (bw (ag 3) gP)))))))) (aW (cm (PW.pt (w_and (cJ (lN Z) (ag 8) aB (b9 _)) (Ap (cJ rM (aT dY (bW (ag 10) (ag 7)) (ag 12)) aB (b9 _))))) (aR (cK 13 Y (dX (aQ eZ (aT dY (bW (ag 10) (ag 7)) (ag 12)))))) (aR (cm (PW.pt (w_and (cJ (lN Z) (ag 8) aB (b9 _)) (Ap (cJ rM (ag 12) (bW (ag 10) (ag 7)) (b9 _))))) (aR (cK 13 Y (dX (aQ eZ (aT jZ (ag 12) (bW (ag 10) (ag 7))))))) (aR (oq (aT dY (bW (ag 10) (ag 7)) (aT f9 (ag 12) (aT jZ aB (aT f9 aB (ag 8))))) (ag 10) (ag 7)))))) (aW (cm (cJ (iW Z) (ag 14) (ag 13) (b9 _)) (aR (bC fz)) cE) (aW (oi (dX (aQ (bW (fJ (bw aB (bw (v8 vp aB) (bw fz (bw qY (bw eZ gP)))))) (bI F.eQ (eR F) Z (aQ (ag 2) aB))) (bW (@vz _ _ 3 _ _ rfl) (bI F.eQ (eR F) Z (aQ (ag 2) aB))))) (mT rfl (fj (dW 15 Y) (fj (dW 16 Y) mG)))) (aW (cm (cJ (iW Z) (rj [PQ,PV,"_law_odd","_law_bad"] rfl rfl ht hC hB F.qw (qx F) qa Z (fun _ _ _ _ _ _ _ _ _ _ Z L=>(gb F.t5 (t6 F) (eV L) Z (bw (ag 0) (bw (ag 1) (bw (ag 2) (bw (ag 3) gP))))))) (dX (aQ eZ aB)) (b9 _)) (aR (bC fz)) cE) (aW (cm (cJ (iW Z) (rj ["_law_odd",PQ] rfl rfl ht hC hB F.qw (qx F) qa Z (fun _ _ _ _ _ _ _ _ _ _ Z L=>(vB F.yh (yi F) (eV L) Z (ag 1) (bu (ag 0))))) (dX (aQ eZ aB)) (b9 _)) (aR (bC fz)) cE) (aW (cm (cJ (iW Z) (rj [PQ,PV,PX,"_law_bad"] rfl rfl ht hC hB F.qw (qx F) qa Z (fun _ _ _ _ _ _ _ _ _ _ Z L=>(gb F.t5 (t6 F) (eV L) Z (bw (ag 0) (bw (ag 1) (bw (ag 2) (bw (ag 3) gP))))))) (dX (aQ eZ aB)) (b9 _)) (aR (bC fz)) cE) (aR (vo PassesOwn.never rfl (Jo rfl F.A3 (aQ (ag 3) (ag 4))) (mT rfl (fj (dW 17 Y) (fj (dW 18 Y) mG))) (aW (cm (cJ (iW Z) (wu ["_law_place","_law_one"] (uN rfl F.tY (bu aB)) (fun _ _ _ _ _ _=>⟨oj,(K2 F.yh (yi F) Z (ag 1) (bu (ag 0)))⟩)) (pZ (N:=[PY]) (nt:=1) (cap:=[]) rfl (ot (by kernel_rfl)) (qi 0) (uW (ag 18)) (fun cl C s H ex S=>⟨(kQ (i:=0) V rfl (Or.inl rfl)),oj,(bI F.tu (tw F) Z (bu (ag 0)))⟩)) (b9 _)) (aR (bC fz)) cE) (aR (cm (lp (ik (uO (zq F X 8) (Z.mono (by decide)) rfl X.mg X.fn.kp X.b (aQ (JC F.DK (DL F) Z (ag 17)) (cB j0 rfl F.jV j5 (bu (pZ (N:=[PY]) (nt:=1) (cap:=[]) rfl (ot (by kernel_rfl)) (qi 0) (uW (ag 18)) (fun cl C s H ex S=>⟨(kQ (i:=0) U rfl (Or.inl rfl)),(Bj (cJ rM (aT jl (ag 0) aB) aB (b9 _))),(ag 0)⟩)))))))) (aR (bC fz)) cE)))))))))))))))))))))) (aR (bC fz)))
end
end DI.aU
namespace DI
open PySem L2
def jx (s:aa) (k:Nat):Prop:=∃a b:Int,s[k]?=some (.lst [.int a,.int b])/\0<=a/\0<=b/\b<2147483647
structure Ex (k:Nat) (s s':aa):Prop where
 len:s.length<=s'.length
 val:∀j,j<s.length->j≠k->s'[j]?=s[j]?
def Ex.refl (k:Nat) (s:aa):Ex k s s:=⟨PJ _,fun _ _ _=>rfl⟩
theorem Ex.trans (h:Ex k a b) (g:Ex k b c):Ex k a c:=⟨ç h.len g.len,fun j Z Y=>(g.val j (Æ Z h.len) Y).trans (h.val j Z Y)⟩
theorem Ex.set (k:Nat) (s:aa) (c:Cell):Ex k s (s.set k c):=⟨by simp,fun j _ Z=>Õ (ŧ Z)⟩
def Ex.app (k:Nat) (s:aa) (c:List Cell):Ex k s (s++c):=⟨by simp,fun j Z _=>Ñ Z⟩
def jx.lt (h:jx s k):k<s.length:=by
 obtain ⟨a,b,e,_⟩:=h;exact (È.mp e).1
def jx.app (h:jx s k) (c:List Cell):jx (s++c) k:=by
 obtain ⟨a,b,e,r⟩:=h;exact ⟨a,b,by rw [Ñ (È.mp e).1];exact e,r⟩
theorem jx.set (h:jx s k) (hj:j≠k) (c:Cell):jx (s.set j c) k:=by
 obtain ⟨a,b,e,r⟩:=h;exact ⟨a,b,by rw [Õ hj];exact e,r⟩
def sP (x y:D) (k:Nat) (s:aa) (h:s[k]?=some (.lst [x,y])):aL (.ah k) (.int 0) s=ok x s:=by
 simp [aL,kF,res,h,cP,et,bQ]
def xQ (x y:D) (k:Nat) (s:aa) (h:s[k]?=some (.lst [x,y])):aL (.ah k) (.int 1) s=ok y s:=by
 simp [aL,kF,res,h,cP,et,bQ]
def wJ (x y z:D) (k:Nat) (s:aa) (h:s[k]?=some (.lst [x,y])):fP (.ah k) (.int 0) z s=some (s.set k (.lst [z,y])):=by
 simp [fP,h,et]
def Mq (x y z:D) (k:Nat) (s:aa) (h:s[k]?=some (.lst [x,y])):fP (.ah k) (.int 1) z s=some (s.set k (.lst [x,z])):=by
 simp [fP,h,et]
@[simp] theorem qT {a:D} {r:Env} {s:aa}:ae 0 (some a::r) s=ok a s:=rfl
@[simp] theorem qU {i:Nat} {a:Option D} {r:Env} {s:aa}:ae (i+1) (a::r) s=ae i r s:=rfl
def ltI (i j:Int) (s:aa):js (.int i) (.int j) s=ok (.bl (decide (i<j))) s:=rfl
def Oi (i j:Int) (s:aa):jr (.int i) (.int j) s=ok (.bl (decide (j<i))) s:=rfl
def Oj (i j:Int) (s:aa):oQ (.int i) (.int j) s=ok (.bl (decide (j<=i))) s:=rfl
def Ol (i j:Int) (s:aa):rL (.int i) (.int j) s=ok (.bl (decide (i<=j))) s:=rfl
def Co (i j:Int) (s:aa):cF (.int i) (.int j) s=ok (.int (i+j)) s:=rfl
def Mr (i j:Int) (s:aa):fL (.int i) (.int j) s=ok (.int (i-j)) s:=rfl
def Om (i j:Int) (s:aa):ei (.int i) (.int j) s=ok (.bl (i==j)) s:=rfl
def Oo (i j:Int) (s:aa):cq (.int i) (.int j) s=ok (.bl (!(i==j))) s:=rfl
def jy {i j:Int} (s:aa) (h:0<j):dJ (.int i) (.int j) s=ok (.int (i % j)) s:=by
 simp [dJ,wc,h,bQ]
def nk (s:aa) (h:0<j) (h2:j<1073741824):gR (.int i) (.int j) s=ok (.int (i / j)) s:=by
 simp [gR,wd,h,h2,bQ]
def nq (s:aa) (h:oo i j=true):bY (.int i) (.int j) s=ok (.int (i*j)) s:=by
 simp [bY,wb,h,bQ]
def mulOk_of (h1:-(2 ^ 64)<i) (h2:i<2 ^ 64):oo i j=true:=by
 unfold oo;rw [Ò h1,Ò h2];rfl
def le_size (h:n<=1000000):n<=Ô:=ç h (by decide)
def GS (h1:-1000000<=j) (h2:j<=1000000):om j=true:=by
 unfold om;rw [Ò (show -(2 ^ 62)<=j by omega),Ò (show j<2 ^ 62 by omega)];rfl
def Ad {α β:Type} (f:α->β) (xs:List α) (i:Int):cP (xs.map f) i=(cP xs i).map f:=by
 unfold cP;rw [ß]
 cases et xs.length i with
 |none=>rfl
 |some j=>simp
def A4 {α:Type} {xs:List α} {i:Int} (h0:0<=i) (h1:i<xs.length):∃x,cP xs i=some x/\xs[i.toNat]?=some x:=by
 have Z:i.toNat<xs.length:=by omega
 refine ⟨xs[i.toNat],?_,ì Z⟩;unfold cP et;rw [ã h0,ã h1];exact ì Z
def HI {ns:List Int} {i:Int} {s:aa} (h0:0<=i):∃c:Int,md [.bt ns,.int i] s=ok (.int c) s:=by
 by_cases h:i<(ns.length:Int)
 ·obtain ⟨x,Z,_⟩:=A4 h0 h
  refine ⟨x,?_⟩;have Y:aL (.bt ns) (.int i) s=ok (.int x) s:=by simp [aL,kF,res,Z,bQ]
  simp only [md,aI,az,bj,bD,e2,eB,af,ai,dh,rN,res,bQ,qT,qU,eC,cU,é,Ř,Ě,Ġ,ò,ę,Ę,ltI,fy,Ò h,aS,Y,Ê]
 ·refine ⟨0,?_⟩
  simp only [md,aI,az,bj,bD,e2,eB,af,ai,dh,rN,res,bQ,qT,qU,eC,cU,é,Ř,Ě,Ġ,ò,ę,Ę,ltI,fy,ï h,Í,ā,bH,aS,Ê]
structure iK (m:Nat) (ns:List Int):Prop where
 lo:∀x∈ns,0<=x/\x<m
 up:ns.Pairwise (· < ·)
noncomputable abbrev mD (ns:List Int):D:=.tup (ns.map D.int)
def iK.len (h:iK m ns):ns.length<=m:=by
 have key:∀(l:List Int) (b:Int),l.Pairwise (· < ·)->(∀x∈l,b<=x/\x<m)->(l.length:Int)<=m-b\/l=[]:=by
  intro l
  induction l with
  |nil=>intro b _ _;exact .inr rfl
  |cons x l ih =>
   intro b X Z;obtain ⟨W,V⟩:=List.pairwise_cons.mp X;have U:=Z x ä;left
   rcases ih (x+1) V (fun y Y=>⟨by have:=W y Y;omega,(Z y (Ð _ Y)).2⟩) with h|h
   ·rw [ò];omega
   ·subst h
    simp;omega
 rcases key ns 0 h.up h.lo with h'|h'
 ·omega
 ·subst h';simp
def u3 (h:fa env s=ok [.int n] s1) (hn:n<=1000000):kD fa env s=ok (fe 0 n) s1:=by
 unfold kD;rw [h,cU]
 show (if om (n:Int)=true then ok (fe 0 (n:Int).toNat) s1 else none)=_
 rw [ã (GS (by omega) (by omega)),Int.toNat_natCast]
def HJ {n:Nat} {i:Int} (h:fa env s=ok [.int i] s1) (hi:i=n) (hn:n<=1000000):kD fa env s=ok (fe 0 n) s1:=by
 subst hi;exact u3 h hn
def u5:Wp (js (.int i) (.int j) s) Q=Q (.bl (decide (i<j))) s:=by rw [ltI,bg]
def mL:Wp (jr (.int i) (.int j) s) Q=Q (.bl (decide (j<i))) s:=by rw [Oi,bg]
def A5:Wp (oQ (.int i) (.int j) s) Q=Q (.bl (decide (j<=i))) s:=by rw [Oj,bg]
def A6:Wp (rL (.int i) (.int j) s) Q=Q (.bl (decide (i<=j))) s:=by rw [Ol,bg]
def jR:Wp (cF (.int i) (.int j) s) Q=Q (.int (i+j)) s:=by rw [Co,bg]
def kS:Wp (fL (.int i) (.int j) s) Q=Q (.int (i-j)) s:=by rw [Mr,bg]
def jW:Wp (ei (.int i) (.int j) s) Q=Q (.bl (i==j)) s:=by rw [Om,bg]
def A7:Wp (cq (.int i) (.int j) s) Q=Q (.bl (!(i==j))) s:=by rw [Oo,bg]
end DI
local macro_rules | `(tactic| simp only [VC])=>`(tactic| simp only [DI.bg,DI.AN,DI.vC,DI.bB,DI.bN,DI.cx,DI.ke,DI.cf,DI.bT,DI.bA,DI.oB,DI.wp_call,DI.jk,DI.k9,DI.qQ,DI.AO,DI.gM,DI.eT,DI.u0,DI.uv,DI.mv,DI.AQ,DI.uw,DI.z9,DI.AR,DI.Aa,DI.AS,DI.AU,DI.jf,DI.mw,DI.zm,DI.zo,DI.qr,DI.cC,DI.AV,DI.AW,DI.fY,DI.eU,DI.gW,DI.oC,DI.nV,DI.nT,DI.ux,DI.AX,DI.nW,DI.mx,DI.AY,DI.oE,DI.qR,DI.AZ,DI.uy,DI.BB,DI.A0,List.map_cons,List.map_nil,List.cons_append,List.nil_append,List.length_cons,List.length_nil,List.set_cons_succ,List.set_cons_zero,List.replicate,true_and,Nat.reduceSub,Nat.reduceAdd,DI.u5,DI.mL,DI.A5,DI.A6,DI.jR,DI.kS,DI.jW,DI.A7])
local macro_rules | `(tactic| simp only [VC,$xs,*])=>`(tactic| simp only [DI.bg,DI.AN,DI.vC,DI.bB,DI.bN,DI.cx,DI.ke,DI.cf,DI.bT,DI.bA,DI.oB,DI.wp_call,DI.jk,DI.k9,DI.qQ,DI.AO,DI.gM,DI.eT,DI.u0,DI.uv,DI.mv,DI.AQ,DI.uw,DI.z9,DI.AR,DI.Aa,DI.AS,DI.AU,DI.jf,DI.mw,DI.zm,DI.zo,DI.qr,DI.cC,DI.AV,DI.AW,DI.fY,DI.eU,DI.gW,DI.oC,DI.nV,DI.nT,DI.ux,DI.AX,DI.nW,DI.mx,DI.AY,DI.oE,DI.qR,DI.AZ,DI.uy,DI.BB,DI.A0,List.map_cons,List.map_nil,List.cons_append,List.nil_append,List.length_cons,List.length_nil,List.set_cons_succ,List.set_cons_zero,List.replicate,true_and,Nat.reduceSub,Nat.reduceAdd,DI.u5,DI.mL,DI.A5,DI.A6,DI.jR,DI.kS,DI.jW,DI.A7,$xs,*])
namespace DI
open PySem L2
def PD {α:Type} {r:Res α} {d:α} {s:aa} (h:Wp r fun a s'=>a=d/\s'=s):r=DI.ok d s:=by
 obtain ⟨a,s',e,rfl,rfl⟩:=h;exact e
def t9 (h:f env s=ok (.lst ds) s1):jq f env s=ok ds s1:=by
 unfold jq;rw [h];rfl
noncomputable def sub (a b:List Int):Bool:=a.all fun x=>decide (x∈b)
def HK {α:Type} (p:α->Bool) (xs:List α) (s:aa):m7 [.lst (xs.map fun x=>D.bl (p x))] s=ok (.bl (xs.all p)) s:=by
 have e:hX (xs.map fun x=>D.bl (p x))=some (xs.map p):=by
  have:=Ht (bs:=xs.map p);rw [List.map_map] at this;exact this
 show bQ ((hX (xs.map fun x=>D.bl (p x))).map fun (bs:List Bool)=>D.bl (bs.all id)) s=_;rw [e];show ok (D.bl ((xs.map p).all id)) s=_;rw [List.all_map];rfl
def comp_map {α:Type} (d:α->D) (p:α->Bool) (h:α->D) (xs:List α) (hh:∀x∈xs,∃env,g (d x) (Ê nt none++caps)=some env/\t env s=ok (p x) s/\(p x=true->f env s=ok (h x) s)) :
  gK nt caps g t f (xs.map d) s=ok ((xs.filter p).map h) s:=by
 induction xs with
 |nil=>rfl
 |cons n T ih =>
  obtain ⟨env,Y,X,W⟩:=hh n ä;have ih:=ih fun V U=>hh V (Ð _ U);rw [é];unfold gK;rw [Y];simp only [X,lq,cU]
  cases Z:p n with
  |true=>simp only [Ę,W Z,lq,cU,ih,ĳ,Z,é]
  |false=>simp only [Í,ā,ih,ĳ,Z]
def FO:sZ [.int i] s=ok (.bl (decide (0<=i))) s:=by
 rfl
def ua:jO [.int i,.int m] s=ok (.bl (decide (0<=i)&&decide (i<m))) s:=by
 refine PD ?_;unfold jO;simp only [VC,FO];by_cases h:0<=i
 ·simp [h]
 ·simp [h]
noncomputable def rise:List Int->Bool
 | []=>true
 | [_]=>true
 |a::b::r=>decide (a<b)&&rise (b::r)
structure OW (rs:List (List Int)):Prop where
 lo:1<=rs.length
 hi:rs.length<=10
 xR:∀r∈rs,iK 8 r
def JH (rs:List (List Int)) (laid:List Int) (m:Int):Bool:=((ľ laid.length).filter fun i=>laid.getD i 0==m).all fun i=>sub (rs.getD i []) (rs.getD laid.length [])
def step (rs:List (List Int)) (told:List (List Int)):List (List Int):=told.flatMap fun laid=>([0,1].filter fun m=>JH rs laid m).map fun m=>laid++[m]
noncomputable def brk (l:List Int):List Int:=((ľ (l.length-1)).filter fun i=>l.getD (i+1) 0==l.getD i 0).map fun i:Nat=>1+(i:Int)
def Ex.get (h:Ex k s s') (e:s[j]?=some c) (hj:j≠k):s'[j]?=some c:=by
 rw [h.val j (È.mp e).1 hj];exact e
theorem Ex.hi (h:Ex k s s') (hj:s.length<=j) (c:Cell):Ex k s (s'.set j c):=⟨by rw [ù];exact h.len,fun i hi Z=>by rw [Õ (by omega)];exact h.val i hi Z⟩
structure RI (s0:aa) (k rh mh:Nat) (rs:List (List Int)) (s:aa):Prop where
 st:jx s k
 ex:Ex k s0 s
 run:s[rh]?=some (.lst (rs.map mD))
 mo:∃a b,s[mh]?=some (.lst [mD a,mD b])/\iK 8 a/\iK 8 b
 xR:∀r∈rs,iK 8 r
 k1:k<s0.length
 r1:s0.length<=rh
 m1:s0.length<=mh
 ne:rh≠mh
def RI.push (h:RI s0 k rh mh rs s) (hr:iK 8 r):RI s0 k rh mh (rs++[r]) (s.set rh (.lst (rs.map mD++[mD r]))):=by
 have:=h.k1;have:=h.r1;have:=h.m1;have:=h.ne;obtain ⟨a,b,e,Z,Y⟩:=h.mo;refine ⟨h.st.set (by omega) _,h.ex.hi (by omega) _,?_,⟨a,b,by rw [Õ (by omega)];exact e,Z,Y⟩,fun x hx=>?_,h.k1,h.r1,h.m1,h.ne⟩
 ·rw [Þ (È.mp h.run).1,List.map_append]
  rfl
 ·rcases ĩ.mp hx with hx|hx
  ·exact h.xR x hx
  ·rw [List.mem_singleton.mp hx];exact hr
def RI.put (h:RI s0 k rh mh rs s) (h0:at_=0\/at_=1):(∃a,aL (.ah mh) (.int at_) s=ok (mD a) s/\iK 8 a)/\∀c,iK 8 c->∃s',fP (.ah mh) (.int at_) (mD c) s=some s'/\RI s0 k rh mh rs s':=by
 have:=h.k1;have:=h.r1;have:=h.m1;have:=h.ne;obtain ⟨a,b,e,Z,Y⟩:=h.mo;have key:∀a b,iK 8 a->iK 8 b->RI s0 k rh mh rs (s.set mh (.lst [mD a,mD b])):=fun a b Z Y=>⟨h.st.set (by omega) _,h.ex.hi (by omega) _,by rw [Õ (by omega)];exact h.run,⟨a,b,Þ (È.mp e).1,Z,Y⟩,h.xR,h.k1,h.r1,h.m1,h.ne⟩
 rcases h0 with rfl|rfl
 ·exact ⟨⟨a,sP _ _ _ _ e,Z⟩,fun c X=>⟨_,wJ _ _ _ _ _ e,key _ _ X Y⟩⟩
 ·exact ⟨⟨b,xQ _ _ _ _ e,Y⟩,fun c X=>⟨_,Mq _ _ _ _ _ e,key _ _ Z X⟩⟩
structure Ft (n W:Nat) (d:D):Prop where
 pl:plain d=true
 sh:(py d).showable=true
 nd:(py d).hasDict=false
 dp:(py d).depth<=n
 wt:(py d).weight<=W
 lv:(py d).leavesShort 40=true
def ne_str:cq (.str x) (.str x) s=ok (.bl false) s:=by
 show (match f6 (.str x) (.str x) with|some b=>ok (D.bl (!b)) s|none=>none)=_
 have e:f6 (.str x) (.str x)=some true:=by
  unfold f6;rw [ã (show (iH (.str x)&&iH (.str x))=true from rfl)];simp [beq]
 rw [e];rfl
def Sf (s:aa) (k:Nat):Prop:=∃(a:Int) (b:Bool),s[k]?=some (.lst [.int a,.bl b])/\0<=a/\(b=false->a<2147483647)
def Sf.lt {s:aa} {k:Nat} (h:Sf s k):k<s.length:=by
 obtain ⟨a,b,e,_⟩:=h;exact (È.mp e).1
def eY {s:aa} {k:Nat} {m:Int} (h:Sf s k) (h1:0<m) (h2:m<1073741824):Wp (aU.cZ [.ah k,.int m] s) fun d s'=>∃r:Int,d=.int r/\0<=r/\r<m/\Sf s' k/\Ex k s s':=by
 obtain ⟨a,b,e,V,Y⟩:=h;have X:=(È.mp e).1
 cases b with
 |true =>
  have Z:(s.set k (.lst [.int (a / m),.bl true]))[k]?=some (.lst [.int (a / m),.bl true]):=Þ X;refine ⟨.int (a % m),s.set k (.lst [.int (a / m),.bl true]),?_,a % m,rfl,Ť _ (by omega),Ĺ _ h1,⟨a / m,true,Z,Int.ediv_nonneg V (by omega),fun z=>by cases z⟩,Ex.set _ _ _⟩;simp only [aU.cZ,aI,az,bj,dC,truth,e2,qT,qU,eC,cU,é,Ř,Ě,Ġ,sP _ _ k s e,xQ _ _ k s e,ò,ę,Ę,bo,gN,jy s h1,gk,nk s h1 h2,wJ _ _ _ k s e,aS,å,æ,Ê]
 |false =>
  have Y:=Y rfl;have ex:0<=(a*48271+29) % 2147483647/\(a*48271+29) % 2147483647<2147483647:=⟨Ť _ (by decide),Ĺ _ (by decide)⟩;generalize U:(a*48271+29) % 2147483647=x at ex;have Z:(s.set k (.lst [.int x,.bl false]))[k]?=some (.lst [.int x,.bl false]):=Þ X;generalize W:(x*x+39373*x+7) % 2147483629=y;have M:0<=y/\y<2147483629:=by rw [<- W];exact ⟨Ť _ (by decide),Ĺ _ (by decide)⟩
  generalize T:(y*y+16807*y) % 2147483587=z;refine ⟨.int (z / 8 % m),s.set k (.lst [.int x,.bl false]),?_,_,rfl,Ť _ (by omega),Ĺ _ h1,⟨x,false,Z,ex.1,fun _=>ex.2⟩,Ex.set _ _ _⟩;have S:bY (.int a) (.int 48271) s=ok (.int (a*48271)) s:=nq s (mulOk_of (by omega) (by omega));have R:∀s',bY (.int x) (.int x) s'=ok (.int (x*x)) s':=fun s'=>nq s' (mulOk_of (by omega) (by omega));have Q:∀s',bY (.int 39373) (.int x) s'=ok (.int (39373*x)) s':=fun s'=>nq s' (mulOk_of (by decide) (by decide));have P:∀s',bY (.int y) (.int y) s'=ok (.int (y*y)) s':=fun s'=>nq s' (mulOk_of (by omega) (by omega));have O:∀s',bY (.int 16807) (.int y) s'=ok (.int (16807*y)) s':=fun s'=>nq s' (mulOk_of (by decide) (by decide));have N:∀n:Int,aL (.ah k) (.int 0) (s.set k (.lst [.int x,.bl false]))=ok (.int x) (s.set k (.lst [.int x,.bl false])):=fun _=>sP _ _ k _ Z;simp only [aU.cZ,aI,az,bj,dC,truth,e2,qT,qU,eC,cU,é,Ř,Ě,Ġ,sP _ _ k s e,xQ _ _ k s e,ò,ę,Í,ā,Ę,bH,bo,gN,gk,wJ _ _ _ k s e,aS,å,æ,Ê,S,R,Q,P,O,Co,jy _ (show (0:Int)<2147483647 by decide),jy _ (show (0:Int)<2147483629 by decide),jy _ (show (0:Int)<2147483587 by decide),nk _ (show (0:Int)<8 by decide) (by decide),jy _ h1,U,W,T,N 0]
def HL {ns:List Int} {i:Int} {s:aa} (h0:0<=i):Wp (aU.nQ [.bt ns,.int i] s) fun d s'=>d=.ah s.length/\Sf s' s.length/\∃c,s'=s++[c]:=by
 obtain ⟨c,Y⟩:=HI (ns:=ns) (s:=s) h0;have Z:∀s,mU (.int 10) (.int 18) s=ok (.int (10 ^ 18)) s:=fun s=>by
  have e:we (.int 10) (.int 18)=some (.int (10 ^ 18)):=by
   show (if (decide ((0:Int)<=18)&&decide ((18:Int)<=1000000)&&decide ((10:Int).natAbs<2 ^ 64))=true then some (D.int (10 ^ (18:Int).toNat)) else none)=_
   rw [ã (by decide)];rfl
  simp only [mU,e,bQ]
 unfold aU.nQ;simp only [VC,Y,Z];by_cases h:(10:Int) ^ 18<=c
 ·rw [Ò h]
  simp only [VC,Z,Ę];exact ⟨by decide,⟨_,true,by simp;rfl,by omega,fun z=>by cases z⟩,_,rfl⟩
 ·rw [ï h]
  simp only [VC,Í,ā,jy _ (show (0:Int)<2147483647 by decide)];exact ⟨by decide,⟨_,false,by simp;rfl,Ť _ (by decide),fun _=>Ĺ _ (by decide)⟩,_,rfl⟩
structure Ct where
 r:Int
 q:Int
 h:Int
structure Ct.ok (p:Ct):Prop where
 r0:0<=p.r
 r1:p.r<1000
 q0:0<=p.q
 q1:p.q<20
 h0:0<=p.h
 h1:p.h<24
noncomputable abbrev cD (p:Ct):D:=.tup [.int p.r,.int p.q,.int p.h]
noncomputable def sh (p:Ct):Int:=p.r*480+p.q*24+p.h
noncomputable def aN (m:Int):Ct:=⟨m / 480,m / 24 % 20,m % 24⟩
def vH {p:Ct} (h:p.ok):0<=sh p:=by unfold sh;have:=h.r0;have:=h.q0;have:=h.h0;omega
def BF {p:Ct} (h:p.ok):sh p<=479999:=by unfold sh;have:=h.r1;have:=h.q1;have:=h.h1;omega
def mM {m:Int} (h0:0<=m) (h1:m<=479999):(aN m).ok:=by
 constructor<;>simp only [aN]<;>omega
def u7 {m:Int} (h0:0<=m):sh (aN m)=m:=by
 unfold aN sh;simp only;omega
def Dt {a b c:D} {s:aa} {r:Int} (h0:0<=r) (h1:r<3):∃x,aL (.lst [a,b,c]) (.int r) s=ok x s/\(x=a\/x=b\/x=c):=by
 rcases (show r=0\/r=1\/r=2 by omega) with rfl|rfl|rfl
 ·exact ⟨a,rfl,.inl rfl⟩
 ·exact ⟨b,rfl,.inr (.inl rfl)⟩
 ·exact ⟨c,rfl,.inr (.inr rfl)⟩
def Oq {a b:D} {s:aa} {r:Int} (h0:0<=r) (h1:r<2):∃x,aL (.lst [a,b]) (.int r) s=ok x s/\(x=a\/x=b):=by
 rcases (show r=0\/r=1 by omega) with rfl|rfl
 ·exact ⟨a,rfl,.inl rfl⟩
 ·exact ⟨b,rfl,.inr rfl⟩
def ze {s:aa} {k:Nat} (h:Sf s k):Wp (aU.p9 [.ah k] s) fun d s'=>∃p:Ct,d=cD p/\p.ok/\Sf s' k/\Ex k s s':=by
 unfold aU.p9;simp only [VC];refine (eY h (by decide) (by decide)).mono fun d y Z=>?_;obtain ⟨a1,rfl,w,v,X,W⟩:=Z;refine (eY X (by decide) (by decide)).mono fun d u Z=>?_;obtain ⟨a2,rfl,o,m,V,U⟩:=Z;refine ⟨le_size (n:=3) (by decide),?_⟩;refine (eY V (by decide) (by decide)).mono fun d T Z=>?_;obtain ⟨i,rfl,li,S,R,Q⟩:=Z;obtain ⟨x,e,Y⟩:=Dt (a:=.int a1) (b:=.int 999) (c:=.int a2) (s:=T) li S;refine PC e ?_;obtain ⟨r,rfl,P,O⟩:∃r,x=.int r/\0<=r/\r<1000:=by
  rcases Y with rfl|rfl|rfl
  ·exact ⟨_,rfl,by omega,by omega⟩
  ·exact ⟨_,rfl,by omega,by omega⟩
  ·exact ⟨_,rfl,by omega,by omega⟩
 try simp only [VC]
 refine (eY R (by decide) (by decide)).mono fun d l Z=>?_;obtain ⟨N,rfl,g,f,M,L⟩:=Z;refine ⟨le_size (n:=2) (by decide),?_⟩;refine (eY M (by decide) (by decide)).mono fun d s5 Z=>?_;obtain ⟨j,rfl,K,J,I,H⟩:=Z;obtain ⟨x,e,Y⟩:=Oq (a:=.int N) (b:=.int 19) (s:=s5) K J;refine PC e ?_;obtain ⟨q,rfl,G,F⟩:∃r,x=.int r/\0<=r/\r<20:=by
  rcases Y with rfl|rfl
  ·exact ⟨_,rfl,by omega,by omega⟩
  ·exact ⟨_,rfl,by omega,by omega⟩
 refine (eY I (by decide) (by decide)).mono fun d s6 Z=>?_;obtain ⟨E,rfl,l6,u6,D,C⟩:=Z;refine ⟨le_size (n:=3) (by decide),?_⟩;refine (eY D (by decide) (by decide)).mono fun d B Z=>?_;obtain ⟨n,rfl,ln,un,A,z⟩:=Z;obtain ⟨x,e,Y⟩:=Dt (a:=.int E) (b:=.int 23) (c:=.int 0) (s:=B) ln un;refine PC e ?_;obtain ⟨t,rfl,t0,t1⟩:∃r,x=.int r/\0<=r/\r<24:=by
  rcases Y with rfl|rfl|rfl
  ·exact ⟨_,rfl,by omega,by omega⟩
  ·exact ⟨_,rfl,by omega,by omega⟩
  ·exact ⟨_,rfl,by omega,by omega⟩
 exact ⟨le_size (n:=3) (by decide),⟨r,q,t⟩,rfl,⟨P,O,G,F,t0,t1⟩,A,(((((W.trans U).trans Q).trans L).trans H).trans C).trans z⟩
def mulC {i j:Int} {s:aa} (h0:0<=i) (h1:i<1000000000):bY (.int i) (.int j) s=DI.ok (.int (i*j)) s:=nq s (mulOk_of (by omega) (by omega))
def yA {p:Ct} {s:aa} (h:p.ok):aU.jM [cD p] s=DI.ok (.int (sh p)) s:=by
 refine PD ?_;unfold aU.jM;obtain ⟨Z,X,Y,W,V,U⟩:=h;simp only [VC,mulC Z (show p.r<1000000000 by omega),mulC Y (show p.q<1000000000 by omega)];exact ⟨rfl,trivial⟩
def EZ {p:Ct} {s:aa} (h:p.ok):aU.pU [cD p] s=DI.ok (.int (sh p)) s:=by
 refine PD ?_;unfold aU.pU;obtain ⟨Z,W,Y,V,U,T⟩:=h;have X:∀s,aL (cD p) (.int 0) s=DI.ok (.int p.r) s:=fun _=>rfl;have e1:∀s,aL (cD p) (.int 1) s=DI.ok (.int p.q) s:=fun _=>rfl;have e2:∀s,aL (cD p) (.int 2) s=DI.ok (.int p.h) s:=fun _=>rfl;simp only [VC,X,e1,e2,mulC Z (show p.r<1000000000 by omega),mulC Y (show p.q<1000000000 by omega)];exact ⟨rfl,trivial⟩
def tB {m:Int} {s:aa} (h0:0<=m) (h1:m<=100000000):aU.kM [.int m] s=DI.ok (cD (aN m)) s:=by
 refine PD ?_;unfold aU.kM;simp only [VC,nk _ (show (0:Int)<480 by decide) (by decide),nk _ (show (0:Int)<24 by decide) (by decide),mulC (show 0<=m / 480 by omega) (show m / 480<1000000000 by omega),mulC (show 0<=(m-m / 480*480) / 24 by omega) (show (m-m / 480*480) / 24<1000000000 by omega)];refine ⟨le_size (n:=3) (by decide),?_,trivial⟩;unfold aN;have e1:(m-m / 480*480) / 24=m / 24 % 20:=by omega
 have e2:m-m / 480*480-(m-m / 480*480) / 24*24=m % 24:=by omega
 rw [e2,e1]
def yK {m:Int} {s:aa} (h0:0<=m) (h1:m<=479999):aU.ia [.int m] s=DI.ok (cD (aN m)) s:=by
 refine PD ?_;unfold aU.ia;simp only [VC,ï (show ¬ 479999<m by omega),Í,ā,nk _ (show (0:Int)<480 by decide) (by decide),nk _ (show (0:Int)<24 by decide) (by decide),jy _ (show (0:Int)<20 by decide),jy _ (show (0:Int)<24 by decide)];exact ⟨le_size (n:=3) (by decide),rfl,trivial⟩
def D9 {m:Int} {s:aa} (h:479999<m):aU.ia [.int m] s=some (.error ⟨"TooMany",some m⟩,s):=by
 have e:bD (e2 jr (ae 0) (eC (.int 479999))) [some (.int m)] s=DI.ok true s:=by
  refine PD ?_;simp only [VC,Ò h,İ]
 unfold aU.ia aI;show aj (az (bj _ _ _) _ [some (.int m)] s) _=_;unfold az bj;rw [e];rfl
def tD {p:Ct} {s:aa} (h:p.ok):aU.kN [cD p] s=DI.ok (.bl true) s:=by
 refine PD ?_;unfold aU.kN;obtain ⟨Z,Y,X,W,V,U⟩:=h;simp only [VC];refine PC (show cM [cD p,.ty "tuple"] s=DI.ok (.bl true) s from rfl) ?_;simp only [VC,Ħ,Í,ā];refine PC (show dh [cD p] s=DI.ok (.int 3) s from rfl) ?_;simp only [VC,show ((3:Int)==3)=true from rfl,Ħ,Í,ā,ua,Ò Z,Ò Y,Ò X,Ò W,Ò V,Ò U,Bool.and_self,Ę,İ]
def Ea {ps:List Ct} {s:aa} (h:∀p∈ps,p.ok) (hl:ps.length<=20):aU.jd [.lst (ps.map cD)] s=DI.ok (.bl true) s:=by
 refine PD ?_;unfold aU.jd;simp only [VC];refine PC (show cM [.lst (ps.map cD),.ty "list"] s=DI.ok (.bl true) s from rfl) ?_;simp only [VC,Ę];refine PC (show dh [.lst (ps.map cD)] s=DI.ok (.int ps.length) s from by show DI.ok (D.int ((ps.map cD).length:Nat)) s=_;rw [ß]) ?_;simp only [VC,Ò (show (ps.length:Int)<=20 by omega),Ę];refine PC (t9 rfl) ⟨le_size (by rw [ß];omega),?_⟩;refine PC (comp_map cD (fun _=>true) (fun _=>D.bl true) ps fun p Z=>⟨[some (cD p)],rfl,rfl,fun _=>PD (by simp only [VC,tD (h p Z),İ])⟩) ?_;rw [œ.mpr (fun _ _=>rfl)];exact PC (HK (fun _=>true) ps s) ⟨by simp,rfl⟩
def JI {ps:List Ct} {s:aa}:lP [.lst (ps.map fun p=>D.int (sh p))] s=DI.ok (.int (ps.map sh).sum) s:=by
 show (match j4 (ps.map fun p=>D.int (sh p)) with|some Z=>DI.ok (D.int Z.sum) s|none=>none)=_
 rw [show (ps.map fun p=>D.int (sh p))=(ps.map sh).map D.int by rw [List.map_map];rfl,Fm]
def kP {fn:List D->aa->Res D} {fa:PB (List D)} {env:Env} {s:aa} {Q:D->aa->Prop}:Wp (bE fn fa env s) Q=Wp (fa env s) fun ds s=>Wp (fn ds s) Q:=by unfold bE;rw [bx]
def yL {m:Int} {s:aa} (h0:0<=m) (h1:m<=479999):aU.mf [.int m] s=ok (cD (aN m)) s:=by
 refine PD ?_;unfold aU.mf;simp only [VC,kP,ua,Ò h0,Ò (show m<479999+1 by omega),Bool.and_self,Ħ,Í,ā,yK h0 h1,İ]
def yB {p:Ct} {s:aa} (h:p.ok):aU.fV [cD p] s=ok (.int (sh p)) s:=by
 refine PD ?_;unfold aU.fV;simp only [VC,kP];refine PC (tD h) ?_;simp only [VC,Ħ,Í,ā];exact PC (yA h) ⟨rfl,rfl⟩
section
variable {ps:List Ct} {s:aa}
def i7 (ps:List Ct):Int:=(ps.map sh).sum
def GU (h:∀p∈ps,p.ok) (hl:ps.length<=20):eB lP (af (gQ 1 [] (jq (ae 0)) (gN 0) iF (aX aU.jM (af (ae 0) ai))) ai) [some (.lst (ps.map cD))] s=ok (.int (i7 ps)) s:=by
 refine PD ?_;simp only [VC];refine PC (t9 rfl) ⟨le_size (by rw [ß];omega),?_⟩;refine PC (comp_map cD (fun _=>true) (fun p=>D.int (sh p)) ps fun p Z=>⟨[some (cD p)],rfl,rfl,fun _=>PD (by simp only [VC,yA (h p Z),İ])⟩) ?_;rw [œ.mpr (fun _ _=>rfl)];exact PC JI ⟨rfl,rfl⟩
def yW (h:∀p∈ps,p.ok) (hl:ps.length<=20):aU.kO [.lst (ps.map cD)] s=aU.ia [.int (i7 ps)] s:=by
 have e1:bj (fu (dC (aX aU.jd (af (ae 0) ai)))) (k8 "NoCount" (af (eC (.str "counts are a list of at most twenty counts")) ai)) bH [some (.lst (ps.map cD))] s=ok (.nx [some (.lst (ps.map cD))]) s:=by
  refine PD ?_;simp only [VC];refine PC (Ea h hl) ?_;simp only [VC,Ħ,Í,ā,İ]
 unfold aU.kO aI;show aj (az _ _ [some (.lst (ps.map cD))] s) _=_;unfold az;rw [e1];show aj (aS (bE aU.ia (af (eB lP (af (gQ 1 [] (jq (ae 0)) (gN 0) iF (aX aU.jM (af (ae 0) ai))) ai)) ai)) [some (.lst (ps.map cD))] s) _=_;have e2:af (eB lP (af (gQ 1 [] (jq (ae 0)) (gN 0) iF (aX aU.jM (af (ae 0) ai))) ai)) ai [some (.lst (ps.map cD))] s=ok [.int (i7 ps)] s:=by
  refine PD ?_;rw [bA];exact PC (GU h hl) (by rw [bT];exact ⟨rfl,rfl⟩)
 unfold aS bE;rw [e2];show aj (aj (aU.ia [.int (i7 ps)] s) _) _=_;generalize aU.ia [.int (i7 ps)] s=r
 match r with
 |none=>rfl
 |some (.ok d,Z)=>rfl
 |some (.error x,Z)=>rfl
end
def GV {n:Nat} {i:Int} {s:aa}:aU.kR (n+1) [.int i,.int i] s=ok (.bl true) s:=by
 refine PD ?_;unfold aU.kR;simp only [VC];refine PC (show rP (.int i) s=ok (.bl false) s from rfl) ?_;simp only [VC,Í,ā];refine PC (show cM [.int i,.ty "bool"] s=ok (.bl false) s from rfl) ?_;refine PC (show cM [.int i,.ty "bool"] s=ok (.bl false) s from rfl) ?_;refine PC (show ei (.bl false) (.bl false) s=ok (.bl true) s from rfl) ?_;simp only [VC,Ę,Đ,İ]
def eq_str {x:Str} {s:aa}:ei (.str x) (.str x) s=ok (.bl true) s:=by
 show (match f6 (.str x) (.str x) with|some b=>ok (D.bl b) s|none=>none)=_
 have e:f6 (.str x) (.str x)=some true:=by
  unfold f6;rw [ã (show (iH (.str x)&&iH (.str x))=true from rfl)];simp [beq]
 rw [e]
def ub {nt:Nat} {cap:List Nat} {it:PB (List D×(aa->Prop))} {gd:D->Env->Option Env} {c:PB Bool} {f:PB D} {env:Env} {s:aa} {Q:D->aa->Prop} :
  Wp (ji nt cap it gd c f env s) Q=Wp (it env s) fun p s=>p.1.length<=Ô/\Wp (fI nt (fK cap env) gd c f p.2 p.1 s) fun xs s=>Q (.lst xs) s:=by
 unfold ji;simp only [bx,nS,bg]
def FP {α:Type} (d:α->D) {nt:Nat} {caps:Env} {g:D->Env->Option Env} {t:PB Bool} {f:PB D} {γ:aa->Prop} {s:aa} (gF:γ s) (h:α->D) (xs:List α) (hh:∀x∈xs,∃env,g (d x) (Ê nt none++caps)=some env/\t env s=ok true s/\f env s=ok (h x) s) :
  fI nt caps g t f γ (xs.map d) s=ok (xs.map h) s:=by
 induction xs with
 |nil=>rw [Ř];unfold fI;rw [ã gF];rfl
 |cons n U ih =>
  obtain ⟨env,Z,Y,X⟩:=hh n ä;have ih:=ih fun W V=>hh W (Ð _ V);rw [é];unfold fI;rw [ã gF,Z];simp only [Y,lq,cU,Ę,X,ih,é]
open DI.aU
section
variable {s:aa} {a b c:Nat} {ms:List Int} {i m:Int} {d x:D} {p:Ct} {env aK:Env} {st di:PB Fl} {s':aa} {y:aP}
def jX (h:st env s=ok (.nx aK) s'):az st di env s=di aK s':=by unfold az;rw [h];rfl
def mO (h:st env s=some (.error y,s')):az st di env s=some (.error y,s'):=by unfold az;rw [h];rfl
structure Lo (s:aa) (a b c:Nat) (ms:List Int):Prop where
 ha:s[a]?=some (.ins "Loft" [("kept",.ah b)])
 hb:s[b]?=some (.lst (ms.map fun m=>cD (aN m)))
 hc:s[c]?=some (.lst (ms.map D.int))
 l3:ms.length=3
 bd:∀m∈ms,0<=m/\m<=479999
def Lo.ex {k:Nat} (h:Lo s a b c ms) (x:Ex k s s') (ka:a≠k) (kb:b≠k) (kc:c≠k):Lo s' a b c ms:=⟨x.get h.ha ka,x.get h.hb kb,x.get h.hc kc,h.l3,h.bd⟩
def Lo.at_ (h:Lo s a b c ms) (h0:0<=i) (h1:i<3):∃m,ms[i.toNat]?=some m/\0<=m/\m<=479999/\aL (.ah b) (.int i) s=ok (cD (aN m)) s/\aL (.ah c) (.int i) s=ok (.int m) s:=by
 obtain ⟨m,e1,e2⟩:=A4 (xs:=ms) h0 (by rw [h.l3];exact h1);have bd:=h.bd m (ď e2);refine ⟨m,e2,bd.1,bd.2,?_,?_⟩
 ·simp only [aL,kF,res,h.hb,Ad,e1,ļ,bQ]
 ·simp only [aL,kF,res,h.hc,Ad,e1,ļ,bQ]
def uA {ds:List D} (h:s[b]?=some (.lst ds)) (h0:0<=i) (h1:i<ds.length):fP (.ah b) (.int i) x s=some (s.set b (.lst (ds.set i.toNat x))):=by
 unfold fP;dsimp only;rw [h];dsimp only;unfold et;rw [ã h0,ã h1];rfl
def A8 (ha:s[a]?=some (.ins "Loft" [("kept",.ah b)])):jw "Loft" (.ah a) s=some (a,([("kept",.ah b)]:List (Str×D))):=by
 unfold jw;dsimp only;rw [ha];dsimp only;rw [ã (Ò rfl)]
def my (ha:s[a]?=some (.ins "Loft" [("kept",.ah b)])):fB "Loft" "kept" (.ah a) s=ok (.ah b) s:=by
 unfold fB;rw [A8 ha];rfl
def nX {f:Str} {fn:List D->aa->Res D} {fo:PB D} {fa:PB (List D)} {ds:List D} (ha:s[a]?=some (.ins "Loft" [("kept",.ah b)])) (hm:(([("kept",D.ah b)]:List (Str×D)).lookup f).isNone=true) (he:fo env s=ok (.ah a) s) (hf:fa env s=ok ds s):gU "Loft" f fn fo fa env s=fn (.ah a::ds) s:=by
 unfold gU;rw [he,cU,A8 ha];dsimp only;rw [hm,ã rfl,hf,cU]
def HM (h0:0<=i) (h1:i<3):fh [.int i] s=ok .au s:=by
 refine PD ?_;unfold fh;simp only [VC,ua,Ò h0,Ò h1,Bool.and_self,Ħ,Í,ā,İ]
noncomputable def kl:List D:=[.int 3,.int (-1),.bl true,.au,.str "0"]
def uB (h:d∈kl):fh [d] s=some (.error ⟨"NoSort",none⟩,s):=by
 simp only [kl,á,Ą,or_false] at h
 rcases h with rfl|rfl|rfl|rfl|rfl<;>kernel_rfl
def JJ (h:d∈kl):fG [.ah a,d,x] s=some (.error ⟨"NoSort",none⟩,s):=by
 unfold fG aI;show aj (az _ _ [some (.ah a),some d,some x] s) _=_;rw [mO (show iP (bE fh (af (ae 1) ai)) [some (.ah a),some d,some x] s=some (.error ⟨"NoSort",none⟩,s) from ?_)]
 ·rfl
 show aj (fh [d] s) _=_;rw [uB h];rfl
def HN (h:d∈kl):fW [.ah a,d,x] s=some (.error ⟨"NoSort",none⟩,s):=by
 unfold fW aI;show aj (az _ _ [some (.ah a),some d,some x,none] s) _=_;rw [mO (show iP (bE fh (af (ae 1) ai)) [some (.ah a),some d,some x,none] s=some (.error ⟨"NoSort",none⟩,s) from ?_)]
 ·rfl
 show aj (fh [d] s) _=_;rw [uB h];rfl
def GW (h:d∈kl):jc [.ah a,d] s=some (.error ⟨"NoSort",none⟩,s):=by
 unfold jc aI;show aj (az _ _ [some (.ah a),some d] s) _=_;rw [mO (show iP (bE fh (af (ae 1) ai)) [some (.ah a),some d] s=some (.error ⟨"NoSort",none⟩,s) from ?_)]
 ·rfl
 show aj (fh [d] s) _=_;rw [uB h];rfl
def mj {r:Env} {z:Option D} (h0:0<=i) (h1:i<3):iP (bE fh (af (ae 1) ai)) (z::some (.int i)::r) s=ok (.nx (z::some (.int i)::r)) s:=by
 show aj (fh [.int i] s) _=_;rw [HM h0 h1];rfl
def GX (L:Lo s a b c ms) (h0:0<=i) (h1:i<3) (hm:ms[i.toNat]?=some m):jc [.ah a,.int i] s=ok (cD (aN m)) s:=by
 obtain ⟨Z,e,_,_,e2,_⟩:=L.at_ h0 h1;rw [hm] at e;cases e;unfold jc aI;show aj (az _ _ [some (.ah a),some (.int i)] s) _=_;rw [jX (mj h0 h1)];refine PD ?_;rw [bx,mw,cf,ke,bB];refine PC (my L.ha) ?_;simp only [bN,bB];refine PC e2 ?_;rw [bg];exact ⟨rfl,rfl⟩
def u9 (L:Lo s a b c ms) (h0:0<=i) (h1:i<3) (hm:ms[i.toNat]?=some m) :
  (∀x,kO [.lst [cD (aN m),d]] s=ok x s->fG [.ah a,.int i,d] s=ok .au (s.set b (.lst ((ms.map fun m=>cD (aN m)).set i.toNat x))))/\(kO [.lst [cD (aN m),d]] s=some (.error y,s)->fG [.ah a,.int i,d] s=some (.error y,s)):=by
 obtain ⟨X,e,_,_,em,_⟩:=L.at_ h0 h1;rw [hm] at e;cases e;have Y:af (dG (af (e2 aL (e1 (fB "Loft" "kept") (ae 0)) (ae 1)) (af (ae 2) ai))) ai [some (.ah a),some (.int i),some d] s=ok [.lst [cD (aN m),d]] s:=by
  refine PD ?_;rw [bA,k9,bA,cf,ke,bB];refine PC (my L.ha) ?_;simp only [bN,bB];refine PC em ?_;simp only [bA,bT,bN,bB];exact ⟨le_size (n:=2) (by decide),trivial,trivial⟩
 refine ⟨fun x Z=>?_,fun Z=>?_⟩
 ·unfold fG aI
  show aj (az _ _ [some (.ah a),some (.int i),some d] s) _=_;rw [jX (mj h0 h1)];refine PD ?_;rw [bx,mx,kP];refine PC Y (PC Z ?_);rw [ke,bB];refine PC (my L.ha) ?_;simp only [bN,bB];refine ⟨_,uA L.hb h0 (by rw [ß,L.l3];exact h1),?_⟩;rw [bg];exact ⟨rfl,rfl⟩
 ·unfold fG aI
  show aj (az _ _ [some (.ah a),some (.int i),some d] s) _=_;rw [jX (mj h0 h1)];unfold gk bE;rw [Y,cU,Z];rfl
def Cp {q:Ct}:i7 [q,p]=sh q+sh p:=by show sh q+(sh p+0)=_;omega
def JK (L:Lo s a b c ms) (h0:0<=i) (h1:i<3) (hm:ms[i.toNat]?=some m) (hp:p.ok) (hb:m+sh p<=479999):fG [.ah a,.int i,cD p] s=ok .au (s.set b (.lst ((ms.set i.toNat (m+sh p)).map fun m=>cD (aN m)))):=by
 have bd:=L.bd m (ď hm);rw [List.map_set];refine (u9 (y:=⟨"",none⟩) L h0 h1 hm).1 _ ?_;have hs:∀q∈[aN m,p],q.ok:=fun q Z=>by
  simp only [á,Ą,or_false] at Z
  rcases Z with rfl|rfl
  ·exact mM bd.1 bd.2
  ·exact hp
 refine (yW (ps:=[aN m,p]) hs (show 2<=20 by decide)).trans ?_;rw [Cp,u7 bd.1];exact yK (by have:=vH hp;omega) hb
def GY (L:Lo s a b c ms) (h0:0<=i) (h1:i<3) (hm:ms[i.toNat]?=some m) (hp:p.ok) (hb:479999<m+sh p):fG [.ah a,.int i,cD p] s=some (.error ⟨"TooMany",some (m+sh p)⟩,s):=by
 have bd:=L.bd m (ď hm);refine (u9 L h0 h1 hm).2 ?_;have hs:∀q∈[aN m,p],q.ok:=fun q Z=>by
  simp only [á,Ą,or_false] at Z
  rcases Z with rfl|rfl
  ·exact mM bd.1 bd.2
  ·exact hp
 refine (yW (ps:=[aN m,p]) hs (show 2<=20 by decide)).trans ?_;rw [Cp,u7 bd.1];exact D9 hb
noncomputable def gm:List D:=[.tup [.int 0,.int 0,.int 24],.au,.lst [.int 0,.int 0,.int 0]]
def JL (h:d∈gm) (s:aa):kN [d] s=ok (.bl false) s:=by
 simp only [gm,á,Ą,or_false] at h
 rcases h with rfl|rfl|rfl<;>kernel_rfl
noncomputable def rW:D->D
 | .tup [_,_,.int t]=>.bl (decide (t<24))
 |_=>.bl false
def HP {q:Ct} (hq:q.ok) (h:d∈gm):jd [.lst [cD q,d]] s=ok (.bl false) s:=by
 refine PD ?_;unfold jd;simp only [VC];refine PC (show cM [.lst [cD q,d],.ty "list"] s=DI.ok (.bl true) s from rfl) ?_;simp only [VC,Ę];refine PC (show dh [.lst [cD q,d]] s=DI.ok (.int 2) s from rfl) ?_;simp only [VC,Ò (show (2:Int)<=20 by omega),Ę];refine PC (t9 rfl) ⟨le_size (n:=2) (by decide),?_⟩;refine PC (tK (nt:=1) (caps:=[]) (fun _=>true) rW (ds:=[cD q,d]) (s:=s) fun z Z=>?_) ?_
 ·simp only [á,Ą,or_false] at Z
  rcases Z with rfl|rfl
  ·refine ⟨[some (cD q)],rfl,rfl,fun _=>?_⟩
   show aX kN _ _ s=ok (D.bl (decide (q.h<24))) s;rw [Ò hq.h1];exact PD (by simp only [VC,tD hq,İ])
  ·refine ⟨[some z],rfl,rfl,fun _=>?_⟩
   have e:∀z∈gm,rW z=.bl false:=fun z h=>by
    simp only [gm,á,Ą,or_false] at h
    rcases h with rfl|rfl|rfl<;>rfl
   rw [e z h];exact PD (by simp only [VC,JL h,İ])
 ·rw [œ.mpr (fun _ _=>rfl)]
  have e:∀z∈gm,rW z=.bl false:=fun z h=>by
    simp only [gm,á,Ą,or_false] at h
    rcases h with rfl|rfl|rfl<;>rfl
  show Wp (m7 [.lst [D.bl (decide (q.h<24)),rW d]] s) _;rw [e d h,Ò hq.h1];exact ⟨_,_,rfl,rfl,rfl⟩
def HQ (L:Lo s a b c ms) (h0:0<=i) (h1:i<3) (h:d∈gm):fG [.ah a,.int i,d] s=some (.error ⟨"NoCount",none⟩,s):=by
 obtain ⟨m,Z,l,u,_⟩:=L.at_ h0 h1;refine (u9 L h0 h1 Z).2 ?_;unfold kO aI;show aj (az _ _ [some (.lst [cD (aN m),d])] s) _=_;rw [mO (show bj (fu (dC (aX jd (af (ae 0) ai)))) (k8 "NoCount" (af (eC (.str "counts are a list of at most twenty counts")) ai)) bH [some (.lst [cD (aN m),d])] s=some (.error ⟨"NoCount",none⟩,s) from ?_)]
 ·rfl
 have e:fu (dC (aX jd (af (ae 0) ai))) [some (.lst [cD (aN m),d])] s=ok true s:=by
  refine PD ?_;simp only [VC,HP (mM l u) h];exact ⟨rfl,trivial⟩
 unfold bj;rw [e];rfl
def HR (h:d∈gm):fV [d] s=some (.error ⟨"NoCount",none⟩,s):=by
 simp only [gm,á,Ą,or_false] at h
 rcases h with rfl|rfl|rfl<;>kernel_rfl
def Ae (L:Lo s a b c ms) (h0:0<=i) (h1:i<3) (hm:ms[i.toNat]?=some m):bE fV (af (e2 aL (e1 (fB "Loft" "kept") (ae 0)) (ae 1)) ai) [some (.ah a),some (.int i),some d,none] s=ok (.int m) s:=by
 obtain ⟨Z,e,l,u,em,_⟩:=L.at_ h0 h1;rw [hm] at e;cases e;refine PD ?_;rw [kP,bA,cf,ke,bB];refine PC (my L.ha) ?_;simp only [bN,bB,bT];refine PC em (PC (yB (mM l u)) ?_);rw [u7 l];exact ⟨rfl,rfl⟩
def GZ (L:Lo s a b c ms) (h0:0<=i) (h1:i<3) (h:d∈gm):fW [.ah a,.int i,d] s=some (.error ⟨"NoCount",none⟩,s):=by
 obtain ⟨m,Z,l,u,_⟩:=L.at_ h0 h1;unfold fW aI;show aj (az _ _ [some (.ah a),some (.int i),some d,none] s) _=_;rw [jX (mj h0 h1)];rw [mO (show bo (e2 fL (bE fV (af (e2 aL (e1 (fB "Loft" "kept") (ae 0)) (ae 1)) ai)) (bE fV (af (ae 2) ai))) (gN 3) [some (.ah a),some (.int i),some d,none] s=some (.error ⟨"NoCount",none⟩,s) from ?_)]
 ·rfl
 show aj (aj (bE fV (af (e2 aL (e1 (fB "Loft" "kept") (ae 0)) (ae 1)) ai) [some (.ah a),some (.int i),some d,none] s) _) _=_;rw [Ae L h0 h1 Z,cU];show aj (aj (fV [d] s) _) _=_;rw [HR h];rfl
def zr (L:Lo s a b c ms) (h0:0<=i) (h1:i<3) (hm:ms[i.toNat]?=some m) (hp:p.ok):bo (e2 fL (bE fV (af (e2 aL (e1 (fB "Loft" "kept") (ae 0)) (ae 1)) ai)) (bE fV (af (ae 2) ai))) (gN 3) [some (.ah a),some (.int i),some (cD p),none] s=ok (.nx [some (.ah a),some (.int i),some (cD p),some (.int (m-sh p))]) s:=by
 refine PD ?_;rw [eU,cf];refine PC (Ae L h0 h1 hm) ?_;simp only [VC,kP];refine PC (yB hp) ?_;simp only [VC,İ]
def G0 (L:Lo s a b c ms) (h0:0<=i) (h1:i<3) (hm:ms[i.toNat]?=some m) (hp:p.ok) (hb:sh p<=m):fW [.ah a,.int i,cD p] s=ok .au (s.set b (.lst ((ms.set i.toNat (m-sh p)).map fun m=>cD (aN m)))):=by
 have bd:=L.bd m (ď hm);have lo:=vH hp;unfold fW aI;show aj (az _ _ [some (.ah a),some (.int i),some (cD p),none] s) _=_;rw [jX (mj h0 h1),jX (zr L h0 h1 hm hp)];refine PD ?_;rw [bx,qr];simp only [fY,gM,cf,bN,bB,cx,u5,eT,ï (show ¬ m-sh p<0 by omega),Í,ā,jf,cC];rw [mx,kP];simp only [bA,bT,bN,bB];refine PC (yL (by omega) (by omega)) ?_;rw [ke,bB];refine PC (my L.ha) ?_;refine ⟨_,uA L.hb h0 (by rw [ß,L.l3];exact h1),?_⟩;rw [bg,List.map_set];exact ⟨rfl,rfl⟩
def FQ (L:Lo s a b c ms) (h0:0<=i) (h1:i<3) (hm:ms[i.toNat]?=some m) (hp:p.ok) (hb:m<sh p):fW [.ah a,.int i,cD p] s=some (.error ⟨"Lacking",some (sh p-m)⟩,s):=by
 unfold fW aI;show aj (az _ _ [some (.ah a),some (.int i),some (cD p),none] s) _=_;rw [jX (mj h0 h1),jX (zr L h0 h1 hm hp)];rw [mO (show bj (bD (e2 js (ae 3) (eC (.int 0)))) (qp "Lacking" (e1 rb (ae 3))) bH [some (.ah a),some (.int i),some (cD p),some (.int (m-sh p))] s=some (.error ⟨"Lacking",some (sh p-m)⟩,s) from ?_)]
 ·rfl
 have e:bD (e2 js (ae 3) (eC (.int 0))) [some (.ah a),some (.int i),some (cD p),some (.int (m-sh p))] s=ok true s:=by
  refine PD ?_;simp only [VC,Ò (show m-sh p<0 by omega),İ]
 unfold bj;rw [e];have e2:sh p-m = -(m-sh p):=by omega
 rw [e2];rfl
end
section
variable {s s':aa} {e0 e1 xS e3 e4 e5 e6 e7 e8 e9 eO dQ dR dS dI dt dw cS cT:Option D} {d:D} {Q:Fl->aa->Prop} {k a b c a' b' c':Nat} {ms Pn:List Int} {i m:Int} {p:Ct}
def A9 {caps:List Nat} {env:Env} {ds:List D} {fb:PB D} {r:D} (h0:s[0]?=some (.tb "law")) (ht:jm env caps=some ds) (h:bS .au (fb (ds.map some)) [.au] s=ok r s'):iZ "law" caps fb bS env s=ok r s':=by
 unfold iZ;rw [ht];dsimp only;rw [h0];dsimp only;rw [ã (Ò rfl),h];rfl
def va {x:Str} (e:PyData.strOk x=true) (i:Int):cq (.tup [.str x,.int i]) (.tup [.str x,.int i]) s=ok (.bl false) s:=by
 unfold cq f6;simp [res,iH,beq,fO,lay,DI.cW,dep,dD,e]
def Ba {x:Str} (e:PyData.strOk x=true):cq (.tup [.str x,.au]) (.tup [.str x,.au]) s=ok (.bl false) s:=by
 unfold cq f6;simp [res,iH,beq,fO,lay,DI.cW,dep,dD,e]
def G1 {p q r:Ct}:cq (.lst [cD p,cD q,cD r]) (.lst [cD p,cD q,cD r]) s=ok (.bl false) s:=by
 unfold cq f6;simp [res,iH,beq,fO,lay,DI.cW,dep,dD]
def FR (h:Sf s k) (m0:0<=m) (m1:m<=479999):Wp (pT [.ah k,.int m] s) fun d s'=>∃p:Ct,d=cD p/\p.ok/\Sf s' k/\Ex k s s':=by
 unfold pT;refine oE.symm ▸ ⟨rfl,PH fun R Y=>?_⟩;show Wp (bo _ _ [some (.ah k),some (.int m),none] s) _;simp only [eU,gW,wp_call,bA,bT,bB,bN,å,æ];refine (ze h).mono fun d J Z=>?_;obtain ⟨p,rfl,U,O,P⟩:=Z;rw [cC];subst Y;refine PH fun R Y=>?_;have go:∀(p:Ct) (X:aa),p.ok->Sf X k->Ex k s X->Wp (R [some (.ah k),some (.int m),some (cD p)] X) (rV fun d s'=>∃p:Ct,d=cD p/\p.ok/\Sf s' k/\Ex k s s'):=?_
 ·simp only [fY,gM,cf,wp_call,bA,bT,bB,bN,cx]
  refine (eY O (by decide) (by decide)).mono fun d X Z=>?_;obtain ⟨r,rfl,_,_,T,V⟩:=Z;simp only [jW,eT];split
  ·simp only [eU,gW,wp_call,oB,cf,bA,bT,bB,bN,cx,kS,å,æ]
   refine (eY T (by decide) (by decide)).mono fun d W Z=>?_;obtain ⟨q,rfl,I,H,S,Q⟩:=Z;simp only [jR]
   obtain ⟨y,M,G⟩:∃y:Int,j3 [.int 0,.int (m-1+q)] W=ok (.int y) W/\0<=y:=⟨_,rfl,by split<;>omega⟩
   refine PC M ?_
   obtain ⟨z,L,N,K⟩:∃z:Int,lu [.int 479999,.int y] W=ok (.int z) W/\0<=z/\z<=479999:=⟨_,rfl,by split<;>omega,by split<;>omega⟩
   refine PC L ?_;refine PC (tB N (by omega)) ?_;rw [cC];exact go _ W (mM N K) S ((P.trans V).trans Q)
  ·rw [jf,cC]
   exact go p X U T (P.trans V)
 clear U O P;intro p X U T V;subst Y;refine PH fun R Y=>?_;simp only [fY,gM,cf,wp_call,bA,bT,bB,bN,cx];refine (eY T (by decide) (by decide)).mono fun d W Z=>?_;obtain ⟨r,rfl,_,_,S,Q⟩:=Z;simp only [jW,eT];split
 ·simp only [eU,gW,wp_call,cf,bA,bT,bB,bN,cx,kS,å,æ]
  refine PC (tB (by omega) (by omega)) ?_;rw [cC];subst Y;simp only [mw,bB,bN,qR];exact ⟨_,rfl,mM (by omega) (by omega),S,V.trans Q⟩
 ·rw [jf,cC]
  subst Y;simp only [mw,bB,bN,qR];exact ⟨_,rfl,U,S,V.trans Q⟩
def yX {α:Type} (d:α->D) {nt:Nat} {caps:Env} {g:D->Env->Option Env} {t:PB Bool} {f:PB D} {γ:aa->Prop} (gF:γ s) (p:α->Bool) (h:α->D) (xs:List α) (hh:∀x∈xs,∃env,g (d x) (Ê nt none++caps)=some env/\t env s=ok (p x) s/\(p x=true->f env s=ok (h x) s)) :
  fI nt caps g t f γ (xs.map d) s=ok ((xs.filter p).map h) s:=by
 induction xs with
 |nil=>rw [Ř];unfold fI;rw [ã gF];rfl
 |cons n T ih =>
  obtain ⟨env,X,Y,W⟩:=hh n ä;have ih:=ih fun V U=>hh V (Ð _ U);rw [é];unfold fI;rw [ã gF,X]
  cases Z:p n with
  |true=>simp only [Y,Z,lq,cU,Ę,W Z,ih,ĳ,é]
  |false=>simp only [Y,Z,lq,cU,Í,ā,ih,ĳ]
def qz {ds:List D} (h:s[b]?=some (.lst ds)):res (.ah b) s=.lst ds:=by unfold res;dsimp only;rw [h]
def uc {f:PB D} {env:Env} {ds:List D} (e:f env s=ok (.ah b) s) (h:s[b]?=some (.lst ds)):lB f env s=ok (ds,fun s=>res (.ah b) s=.lst ds) s:=by
 unfold lB;rw [e,cU,qz h]
def Ot {p:Ct}:aL (cD p) (.int 2) s=ok (.int p.h) s:=rfl
def FT (L:Lo s a b c ms):nK [.ah a] s=ok (.int (ms.filter fun m=>decide (m % 24 > 0)).length) s:=by
 refine PD ?_;unfold nK;refine oE.symm ▸ ⟨rfl,?_⟩;show Wp (aS _ [some (.ah a)] s) _;rw [mw,oB,bA,ub];refine PC (uc (PD (by rw [ke,bB];exact PC (my L.ha) ⟨rfl,rfl⟩)) L.hb) ⟨le_size (by show (ms.map _).length<=1000000;rw [ß,L.l3];decide),?_⟩;refine PC (yX (fun m=>cD (aN m)) (qz L.hb) (fun m=>decide (m % 24 > 0)) (fun m=>cD (aN m)) ms fun m Z=>⟨[some (cD (aN m))],rfl,?_,fun _=>rfl⟩) ?_
 ·refine PD ?_
  simp only [VC];refine PC Ot ?_;simp only [VC];have l:=(L.bd m Z).1;refine ⟨?_,trivial⟩;show (!((m % 24:Int)==0))=_;by_cases z:m % 24=0
  ·rw [z];rfl
  ·rw [Ò (by omega),beq_eq_false_iff_ne.mpr z];rfl
 ·rw [bT]
  refine PC (show dh [.lst _] s=ok (.int _) s from rfl) ?_;rw [ß];exact ⟨rfl,rfl⟩
def three {α:Type} {ms:List α} (h:ms.length=3):∃x y z,ms=[x,y,z]:=by
 match ms,h with
 | [x,y,z],_=>exact ⟨x,y,z,rfl⟩
def ud (L:Lo s a b c ms) {env:Env} (he:env[1]?=some (some (.ah a))) (h0:0<=i) (h1:i<3) (hi:env[0]?=some (some (.int i))) (hm:ms[i.toNat]?=some m):jU "Loft" "stock" jc (ae 1) (af (ae 0) ai) env s=ok (cD (aN m)) s:=by
 have e1:ae 1 env s=ok (.ah a) s:=by unfold ae;rw [he]
 have e0:ae 0 env s=ok (.int i) s:=by unfold ae;rw [hi]
 refine (nX L.ha (by rfl) e1 (PD (by rw [bA];exact PC e0 (by rw [bT];exact ⟨rfl,rfl⟩)))).trans ?_;rw [GX L h0 h1 hm];rfl
def zt (L:Lo s a b c ms) (hQ:Q (.nx [e0,e1,xS,e3,e4,e5,e6,e7,e8,e9,eO,dQ,dR,dS,dI,dt,dw,some (.ah a),some (.ah c)]) s) :
  Wp (uX [e0,e1,xS,e3,e4,e5,e6,e7,e8,e9,eO,dQ,dR,dS,dI,dt,dw,some (.ah a),some (.ah c)] s) Q:=by
 obtain ⟨x,y,z,rfl⟩:=three L.l3;unfold uX;refine PH fun R X=>?_;rw [fY,gM,cf,uy];refine PC (u3 (n:=3) rfl (by decide)) ⟨le_size (n:=3) (by decide),?_⟩
 refine PC (tK (nt:=1) (fun _=>true) (fun d=>match d with | .int i=>cD (aN (([x,y,z]:List Int).getD i.toNat 0)) | _=>.au) (ds:=fe 0 3) (s:=s) fun d Z=>?_) ?_
 ·have Z:d=.int 0\/d=.int 1\/d=.int 2:=by
   have:d∈([.int 0,.int 1,.int 2]:List D):=Z;simpa using this
  rcases Z with rfl|rfl|rfl
  ·exact ⟨[some (.int 0),some (.ah a)],rfl,rfl,fun _=>ud L rfl (by decide) (by decide) rfl rfl⟩
  ·exact ⟨[some (.int 1),some (.ah a)],rfl,rfl,fun _=>ud L rfl (by decide) (by decide) rfl rfl⟩
  ·exact ⟨[some (.int 2),some (.ah a)],rfl,rfl,fun _=>ud L rfl (by decide) (by decide) rfl rfl⟩
 rw [œ.mpr (fun _ _=>rfl)];show Wp (ji 1 [] (lB (ae 18)) (gN 0) iF (aX kM (af (ae 0) ai)) _ s) fun W s=>Wp (cq (.lst [cD (aN x),cD (aN y),cD (aN z)]) W s) _;rw [ub];refine PC (uc (b:=c) rfl L.hc) ⟨le_size (n:=3) (by decide),?_⟩;refine PC (FP D.int (qz L.hc) (fun m=>cD (aN m)) [x,y,z] fun m Y=>⟨[some (.int m)],rfl,rfl,?_⟩) ?_
 ·have bd:=L.bd m Y
  refine PD ?_;simp only [VC,tB bd.1 (show m<=100000000 by omega),İ]
 refine PC G1 ?_;simp only [eT,Í,ā,jf];rw [cC];subst X;rw [fY,uw,u0,wp_call,bA];refine PC (show jU "Loft" "broken" nK (ae 17) ai _ s=ok (.int (([x,y,z]:List Int).filter fun m=>decide (m % 24 > 0)).length) s from ?_) ?_
 ·refine (nX L.ha (by rfl) (ds:=[]) rfl rfl).trans ?_
  rw [FT L];rfl
 rw [bA,oB,bA,ub];refine PC (uc (b:=c) rfl L.hc) ⟨le_size (n:=3) (by decide),?_⟩;refine PC (yX D.int (qz L.hc) (fun m=>decide (m % 24 > 0)) D.int [x,y,z] fun m Y=>⟨[some (.int m)],rfl,?_,fun _=>rfl⟩) ?_
 ·refine PD ?_
  simp only [VC,jy _ (show (0:Int)<24 by decide),İ,gt_iff_lt]
 rw [bT];refine PC (show dh [.lst _] s=ok (.int _) s from rfl) ?_;rw [ß,bT];refine PC GV ?_;simp only [uv,Ħ,Í,ā,jf];exact hQ
def mz (L:Lo s a b c ms) (cy:Int) (hd:cy=0\/cy=1) {x y:D}:(bE ic (af (ae 0) (af (ae 1) (af (ae 2) (af (ae 3) ai))))) [some (.ah a),some (.int cy),some x,some y] s=if cy=0 then fG [.ah a,x,y] s else fW [.ah a,x,y] s:=by
 show ic [.ah a,.int cy,x,y] s=_;unfold ic aI;show aj (aS _ [some (.ah a),some (.int cy),some x,some y] s) _=_;unfold aS pw;have e:bD (e2 ei (ae 1) (eC (.int 0))) [some (.ah a),some (.int cy),some x,some y] s=ok (cy==0) s:=by
  refine PD ?_;simp only [VC,İ]
 rw [e];have Z:gU "Loft" "put" fG (ae 0) (af (ae 2) (af (ae 3) ai)) [some (.ah a),some (.int cy),some x,some y] s=fG [.ah a,x,y] s:=nX L.ha (by rfl) rfl rfl;have Y:gU "Loft" "take" fW (ae 0) (af (ae 2) (af (ae 3) ai)) [some (.ah a),some (.int cy),some x,some y] s=fW [.ah a,x,y] s:=nX L.ha (by rfl) rfl rfl
 have all:∀r:Res D,(aj (aj r fun d s=>ok (Fl.rt d) s) fun X s=>match X with
   | .rt d=>ok d s
   | .nx _=>ok .au s
   |_=>none)=r:=fun r=>by
  match r with
  |none=>rfl
  |some (.ok d,s')=>rfl
  |some (.error x,s')=>rfl
 rcases hd with rfl|rfl
 ·rw [ã rfl]
  rw [cU,ã (show ((0:Int)==0)=true from rfl),Z];exact all _
 ·rw [ë (by decide)]
  rw [cU,ë (show ¬ ((1:Int)==0)=true by decide),Y];exact all _
def Of (b c:Nat) (s s':aa):Prop:=∀j,j≠b->j≠c->s'[j]?=s[j]?
def Of.lo (h:Of b c s s') (L:Lo s a' b' c' ms) (d1:a'≠b) (d2:a'≠c) (d3:b'≠b) (d4:b'≠c) (d5:c'≠b) (d6:c'≠c):Lo s' a' b' c' ms:=⟨(h _ d1 d2).trans L.ha,(h _ d3 d4).trans L.hb,(h _ d5 d6).trans L.hc,L.l3,L.bd⟩
def Of.sf (h:Of b c s s') (S:Sf s k) (d1:k≠b) (d2:k≠c):Sf s' k:=by
 obtain ⟨x,y,e,r⟩:=S;exact ⟨x,y,(h _ d1 d2).trans e,r⟩
def of_two {x y:Cell}:Of b c s ((s.set b x).set c y):=fun j Z Y=>by rw [Õ (ŧ Y),Õ (ŧ Z)]
def Lo.upd {j:Nat} {n:Int} (L:Lo s a b c ms) (ab:a≠b) (ac:a≠c) (bc:b≠c) (n0:0<=n) (n1:n<=479999):Lo ((s.set b (.lst ((ms.set j n).map fun m=>cD (aN m)))).set c (.lst ((ms.set j n).map D.int))) a b c (ms.set j n):=by
 have Z:=(È.mp L.hb).1;have lc:=(È.mp L.hc).1;refine ⟨(of_two _ ab ac).trans L.ha,?_,?_,by rw [ù];exact L.l3,fun x Y=>?_⟩
 ·rw [Õ (ŧ bc),Þ Z]
 ·rw [Þ (by rw [ù];exact lc)]
 ·rcases List.mem_or_eq_of_mem_set Y with h|rfl
  ·exact L.bd x h
  ·exact ⟨n0,n1⟩
def BG {j n:Int} {x:Cell} (L:Lo s a b c ms) (bc:b≠c) (h0:0<=j) (h1:j<3):fP (.ah c) (.int j) (.int n) (s.set b x)=some ((s.set b x).set c (.lst ((ms.set j.toNat n).map D.int))):=by
 rw [List.map_set];exact uA (by rw [Õ bc];exact L.hc) h0 (by rw [ß,L.l3];exact h1)
def Af {x y:D} {r:Int} (h0:0<=r) (h1:r<2):aL (.lst [x,y]) (.int r) s=ok (if r=0 then x else y) s:=by
 rcases (show r=0\/r=1 by omega) with rfl|rfl<;>rfl
def kK (s:aa) (k:Nat):Prop:=∃m0 Z,Lo s (k+1) (k+2) (k+5) m0/\Lo s (k+3) (k+4) (k+6) Z
theorem kK.ex (h:kK s k) (x:Ex k s s'):kK s' k:=by
 obtain ⟨m0,Z,Y,X⟩:=h;exact ⟨m0,Z,Y.ex x (by omega) (by omega) (by omega),X.ex x (by omega) (by omega) (by omega)⟩
def JM {r:Int} (h0:0<=r) (h1:r<5):∃d∈kl,aL (.lst [.int 3,.int (-1),.bl true,.au,.str "0"]) (.int r) s=ok d s:=by
 rcases (show r=0\/r=1\/r=2\/r=3\/r=4 by omega) with rfl|rfl|rfl|rfl|rfl<;>exact ⟨_,by simp [kl],rfl⟩
def JN {r:Int} (h0:0<=r) (h1:r<3):∃d∈gm,aL (.lst [.tup [.int 0,.int 0,.int 24],.au,.lst [.int 0,.int 0,.int 0]]) (.int r) s=ok d s:=by
 rcases (show r=0\/r=1\/r=2 by omega) with rfl|rfl|rfl<;>exact ⟨_,by simp [gm],rfl⟩
def ue {fb:PB D} {caps:List Nat} {ds:List D} {env:Env} {i:Int} {st:PB Fl} (h0:s[0]?=some (.tb "law")) (ht:jm env caps=some ds) (h:bS .au (fb (ds.map some)) [.au] s=ok (.tup [.str "refused",.int i]) s) (hQ:Wp (st env s) Q) :
  Wp (az (bj (bD (e2 cq (iZ "law" caps fb bS) (dg (af (eC (.str "refused")) (af (eC (.int i)) ai))))) (aS (eC (.bl false))) bH) st env s) Q:=by
 refine PH fun R Z=>?_;rw [fY,gM,cf];refine PC (A9 h0 ht h) ?_;simp only [jk,bA,bT,cx];refine ⟨le_size (n:=2) (by decide),?_⟩;refine PC (va (by decide +kernel) i) ?_;simp only [eT,Í,ā,jf];rw [cC];subst Z;exact hQ
def K4 {A B C:PB Fl} {env:Env} (h:∀R,R=C->Wp (az A (az B R) env s) Q):Wp (az A (az B C) env s) Q:=h C rfl
def Sf.app (h:Sf s k) (l:List Cell):Sf (s++l) k:=by
 obtain ⟨x,y,e,r⟩:=h;exact ⟨x,y,by rw [Ñ (È.mp e).1];exact e,r⟩
def JO (h0:s[0]?=some (.tb "law")) (k0:(0:Nat)≠k) (S:Sf s k) (T:kK s k)
  (hQ:∀e6 e7 e8 e9 eO dQ dR dS dI dt dw cS cT s',s'[0]?=some (.tb "law")->Sf s' k->kK s' k->Q (.nx [e0,e1,some (.ah k),some (.lst [.ah (k+1),.ah (k+3)]),some (.lst [.ah (k+5),.ah (k+6)]),e5,e6,e7,e8,e9,eO,dQ,dR,dS,dI,dt,dw,cS,cT]) s') :
  Wp (uY [e0,e1,some (.ah k),some (.lst [.ah (k+1),.ah (k+3)]),some (.lst [.ah (k+5),.ah (k+6)]),e5,e6,e7,e8,e9,eO,dQ,dR,dS,dI,dt,dw,cS,cT] s) Q:=by
 unfold uY;refine PH fun R Y=>?_;simp only [eU,jk,wp_call,bA,bT,bB,bN,cx];refine (eY S (by decide) (by decide)).mono fun d s1 X=>?_;obtain ⟨at_,rfl,t0,t1,S1,x1⟩:=X;refine (eY S1 (by decide) (by decide)).mono fun d s2 X=>?_;obtain ⟨i,rfl,O,N,S2,x2⟩:=X;refine (eY S2 (by decide) (by decide)).mono fun d f X=>?_;obtain ⟨W,rfl,d0,d1,S3,x3⟩:=X;refine ⟨le_size (n:=3) (by decide),?_⟩;simp only [oC,nT,nV,å,æ];have x:=(x1.trans x2).trans x3;have g3:=x.get h0 k0;have T3:=T.ex x;rw [cC];clear S1 S2 x1 x2 x3 x S T h0;subst Y;refine PH fun R Y=>?_;simp only [eU,jk,cf,bA,bT,bB,bN];refine PC (Af t0 t1) ?_;refine PC (Af t0 t1) ?_;refine ⟨le_size (n:=2) (by decide),?_⟩;simp only [oC,nT,nV,å,æ];rw [cC];have go:∀(a b c a' b' c':Nat) (ms K:List Int),Lo f a b c ms->Lo f a' b' c' K->(a≠0/\b≠0/\c≠0/\a≠k/\b≠k/\c≠k/\a'≠k/\b'≠k/\c'≠k/\a≠b/\a≠c/\b≠c/\a'≠b/\a'≠c/\b'≠b/\b'≠c/\c'≠b/\c'≠c)->(∀s' ms K,Lo s' a b c ms->Lo s' a' b' c' K->kK s' k) ->
   Wp (R [e0,e1,some (.ah k),some (.lst [.ah (k+1),.ah (k+3)]),some (.lst [.ah (k+5),.ah (k+6)]),e5,some (.int at_),some (.int i),some (.int W),some (.ah a),some (.ah c),dQ,dR,dS,dI,dt,dw,cS,cT] f) Q:=?_
 ·obtain ⟨m0,e,B,A⟩:=T3
  rcases (show at_=0\/at_=1 by omega) with rfl|rfl
  ·exact go _ _ _ _ _ _ _ _ B A (by omega) fun s' ms K h h'=>⟨_,_,h,h'⟩
  ·exact go _ _ _ _ _ _ _ _ A B (by omega) fun s' ms K h h'=>⟨_,_,h',h⟩
 clear T3;intro a b c a' b' c' ms K L U ds two;obtain ⟨a0,b0,c0,ak,bk,w,Du,Dv,Dw,ab,ac,F,Dx,Dy,Dz,DA,DB,DC⟩:=ds;subst Y;refine PH fun R Y=>?_;obtain ⟨m,E,m0,e,em,Z⟩:=L.at_ O N;simp only [eU,gW,wp_call,bA,bT,cf,bB,bN,å,æ];refine PC Z ?_;refine (FR S3 m0 e).mono fun d V X=>?_;obtain ⟨p,rfl,M,C,v⟩:=X;have H:=v.get g3 k0
 replace L:=L.ex v ak bk w
 replace U:=U.ex v Du Dv Dw
 rw [cC];clear em Z v S3 g3;subst Y;obtain ⟨_,DD,_,_,em,Z⟩:=L.at_ O N;rw [E] at DD;cases DD;refine PH fun R Y=>?_;simp only [eU,gW,wp_call,bA,bT,bB,bN,å,æ];refine PC (EZ M) ?_;rw [cC];subst Y;refine PH fun R Y=>?_;simp only [eU,gW,jk,bA,bT,cx,å,æ];refine ⟨le_size (n:=2) (by decide),?_⟩;rw [cC];subst Y;have dd:W=0\/W=1:=by omega
 have lo:=vH M;refine K4 fun R Y=>?_;have go:∀(s5:aa) (u told:D),cq told u s5=ok (.bl false) s5->s5[0]?=some (.tb "law")->Sf s5 k->(∃ms,Lo s5 a b c ms)->Lo s5 a' b' c' K ->
   Wp (R [e0,e1,some (.ah k),some (.lst [.ah (k+1),.ah (k+3)]),some (.lst [.ah (k+5),.ah (k+6)]),e5,some (.int at_),some (.int i),some (.int W),some (.ah a),some (.ah c),some (cD p),some (.int (sh p)),some u,some told,dt,dw,cS,cT] s5) Q:=?_
 ·refine PH fun R1 o=>?_
  have l:∀{r:D} {s5:aa},bS .au ((bE ic (af (ae 0) (af (ae 1) (af (ae 2) (af (ae 3) ai))))) [some (.ah a),some (.int W),some (.int i),some (cD p)]) [.au] V=ok r s5->Wp (R1 [e0,e1,some (.ah k),some (.lst [.ah (k+1),.ah (k+3)]),some (.lst [.ah (k+5),.ah (k+6)]),e5,some (.int at_),some (.int i),some (.int W),some (.ah a),some (.ah c),some (cD p),some (.int (sh p)),some (.tup [.str "told",.au]),some r,dt,dw,cS,cT] s5) Q->Wp (bo (iZ "law" [9,8,7,11] (bE ic (af (ae 0) (af (ae 1) (af (ae 2) (af (ae 3) ai))))) bS) (gN 14) [e0,e1,some (.ah k),some (.lst [.ah (k+1),.ah (k+3)]),some (.lst [.ah (k+5),.ah (k+6)]),e5,some (.int at_),some (.int i),some (.int W),some (.ah a),some (.ah c),some (cD p),some (.int (sh p)),some (.tup [.str "told",.au]),dI,dt,dw,cS,cT] V) (nJ R1 Q):=fun {r s5} h q=>by
   rw [eU];refine PC (A9 H rfl h) ?_;rw [gW];simp only [å,æ];rw [cC];exact q
  have Ms:∀s,bY (.int 2) (.int 0) s=ok (.int 0) s:=fun s=>rfl;have Mt:∀s,bY (.int 2) (.int 1) s=ok (.int 2) s:=fun s=>rfl;have j:∀{z:Cell},aL (.ah c) (.int i) (V.set b z)=ok (.int m) (V.set b z):=fun {z}=>by
   have:(V.set b z)[c]?=V[c]?:=Õ F;unfold aL kF res at Z |-;dsimp only at Z |-;rw [this];rw [L.hc] at Z |-;dsimp only at Z |-;unfold bQ at Z |-
   cases h:cP (ms.map D.int) i with
   |none=>rw [h] at Z;cases Z
   |some x=>rw [h] at Z;cases Z;rfl
  rcases dd with rfl|rfl
  ·by_cases J:479999<m+sh p
   ·refine l (s9 (i:=m+sh p) (s':=V) ?_) ?_
    ·rw [mz L 0 (.inl rfl),ã rfl]
     exact GY L O N E M J
    subst o;refine PH fun R' I=>?_;simp only [fY,mv,gM,cf,bB,bN,cx,jW,eT,Đ,Ę];refine PC Z ?_;simp only [jR,mL,eT,Ò J,Ę,eU,gW,jk,bA,bT,cf,bB,bN,cx];refine PC Z ?_;simp only [jR,å,æ];refine ⟨le_size (n:=2) (by decide),?_⟩;rw [cC];subst I;exact go V _ _ (va (by decide +kernel) _) H C ⟨_,L⟩ U
   ·refine l (qS (d:=.au) (s':=V.set b (.lst ((ms.set i.toNat (m+sh p)).map fun m=>cD (aN m)))) ?_) ?_
    ·rw [mz L 0 (.inl rfl),ã rfl]
     exact JK L O N E M (by omega)
    subst o;refine PH fun R' I=>?_;simp only [fY,mv,gM,cf,bB,bN,cx,jW,eT,Đ,Ę];refine PC j ?_;simp only [jR,mL,eT,ï J,Í,ā,show ((0:Int)==1)=false from rfl,mx,cf,bB,bN,cx];refine PC j ?_;refine PC (Ms _) ?_;simp only [kS];refine PC (mulC lo (by have:=BF M;omega)) ?_;simp only [jR];refine ⟨_,BG L F O N,?_⟩;rw [cC];subst I;rw [show m+sh p*(1-0)=m+sh p by omega];exact go _ _ _ (Ba (by decide +kernel)) ((of_two _ b0.symm c0.symm).trans H) (of_two.sf C bk.symm w.symm) ⟨_,L.upd ab ac F (by omega) (by omega)⟩ (of_two.lo U Dx Dy Dz DA DB DC)
  ·by_cases J:m<sh p
   ·refine l (tm (i:=sh p-m) (s':=V) ?_) ?_
    ·rw [mz L 1 (.inr rfl),ë (by decide)]
     exact FQ L O N E M J
    subst o;refine PH fun R' I=>?_;simp only [fY,mv,gM,cf,bB,bN,cx,jW,eT,show ((1:Int)==0)=false from rfl,Í,ā,Đ,Ę];refine PC Z ?_;simp only [mL,eT,Ò J,Ę,eU,gW,jk,bA,bT,cf,bB,bN,cx];refine PC Z ?_;simp only [kS,å,æ];refine ⟨le_size (n:=2) (by decide),?_⟩;rw [cC];subst I;exact go V _ _ (va (by decide +kernel) _) H C ⟨_,L⟩ U
   ·refine l (qS (d:=.au) (s':=V.set b (.lst ((ms.set i.toNat (m-sh p)).map fun m=>cD (aN m)))) ?_) ?_
    ·rw [mz L 1 (.inr rfl),ë (by decide)]
     exact G0 L O N E M (by omega)
    subst o;refine PH fun R' I=>?_;simp only [fY,mv,gM,cf,bB,bN,cx,jW,eT,show ((1:Int)==0)=false from rfl,Í,ā,Đ,Ę];refine PC j ?_;simp only [mL,eT,ï J,Í,ā,mx,cf,bB,bN,cx];refine PC j ?_;refine PC (Mt _) ?_;simp only [kS];refine PC (mulC lo (by have:=BF M;omega)) ?_;simp only [jR];refine ⟨_,BG L F O N,?_⟩;rw [cC];subst I;rw [show m+sh p*(1-2)=m-sh p by omega];exact go _ _ _ (Ba (by decide +kernel)) ((of_two _ b0.symm c0.symm).trans H) (of_two.sf C bk.symm w.symm) ⟨_,L.upd ab ac F (by omega) (by omega)⟩ (of_two.lo U Dx Dy Dz DA DB DC)
 clear L U C H em Z;intro s5 u told kr g5 S5 L U;obtain ⟨ms,L⟩:=L;subst Y;refine PH fun R Y=>?_;simp only [fY,gM,cf,bB,bN];refine PC kr ?_;simp only [eT,Í,ā,jf];rw [cC];subst Y;refine PH fun R Y=>?_;rw [eU,jk,bA,cf,k9];refine PC (show _=ok kl s5 from rfl) ⟨le_size (n:=5) (by decide),?_⟩;simp only [wp_call,bA,bT,bB,bN,cx];refine (eY S5 (by decide) (by decide)).mono fun d s6 X=>?_;obtain ⟨r,rfl,r0,r1,S6,x6⟩:=X;obtain ⟨G,fE,eo⟩:=JM (s:=s6) r0 r1;refine PC eo ?_;rw [cf,cx];simp only [wp_call,bA,bT,bB,bN,cx];refine (eY S6 (by decide) (by decide)).mono fun d P X=>?_;obtain ⟨r',rfl,Ou,Ov,S7,x7⟩:=X;obtain ⟨bd,DE,eb⟩:=JN (s:=P) Ou Ov;refine PC eb ?_;refine ⟨le_size (n:=2) (by decide),?_⟩;simp only [oC,nT,nV,å,æ];have x:=x6.trans x7;have g:=x.get g5 k0
 replace L:=L.ex x ak bk w
 replace U:=U.ex x Du Dv Dw
 rw [cC];clear x x6 x7 S6 S5 g5;subst Y;have Ow:∀y,(bE ic (af (ae 0) (af (ae 1) (af (ae 2) (af (ae 3) ai))))) [some (.ah a),some (.int W),some G,some y] P=some (.error ⟨"NoSort",none⟩,P):=fun y=>by
  rw [mz L W dd];split
  ·exact JJ fE
  ·exact HN fE
 have Ox:(bE ic (af (ae 0) (af (ae 1) (af (ae 2) (af (ae 3) ai))))) [some (.ah a),some (.int W),some (.int i),some bd] P=some (.error ⟨"NoCount",none⟩,P):=by
  rw [mz L W dd];split
  ·exact HQ L O N DE
  ·exact GZ L O N DE
 refine ue g (ds:=[.ah a,.int W,G,bd]) rfl (pQ (Ow bd)) ?_;refine ue g (ds:=[G,.ah a]) rfl (pQ (m:=none) (s':=P) ?_) ?_
 ·show gU "Loft" "stock" jc (ae 1) (af (ae 0) ai) [some G,some (.ah a)] P=_
  rw [nX L.ha (by rfl) (ds:=[G]) rfl rfl];exact GW fE
 refine ue g (ds:=[.ah a,.int W,.int i,bd]) rfl (tj Ox) ?_;have T:=two P _ _ L U;rw [nW];refine PC (show rf _ _ P=ok [.tup [.ah (k+1),.ah (k+5)],.tup [.ah (k+3),.ah (k+6)]] P from rfl) ?_;refine Wp.wF (fun _ env s'=>s'=P/\∃cS cT,env=[e0,e1,some (.ah k),some (.lst [.ah (k+1),.ah (k+3)]),some (.lst [.ah (k+5),.ah (k+6)]),e5,some (.int at_),some (.int i),some (.int W),some (.ah a),some (.ah c),some (cD p),some (.int (sh p)),some u,some told,some G,some bd,cS,cT]) _ ⟨rfl,_,_,rfl⟩ (fun t d env s' X hI=>?_) (fun env s' hI=>?_)
 ·obtain ⟨rfl,cS,cT,rfl⟩:=hI
  obtain ⟨m0,e,B,A⟩:=T;have X:d=.tup [.ah (k+1),.ah (k+5)]\/d=.tup [.ah (k+3),.ah (k+6)]:=by simpa using ď X
  rcases X with rfl|rfl
  ·exact ⟨_,rfl,zt B ⟨rfl,_,_,rfl⟩⟩
  ·exact ⟨_,rfl,zt A ⟨rfl,_,_,rfl⟩⟩
 obtain ⟨rfl,cS,cT,rfl⟩:=hI;exact hQ _ _ _ _ _ _ _ _ _ _ _ _ _ _ g S7 T
def Ag {s:aa}:lC "Loft" jN [] s=ok (.ah s.length) (s++[.ins "Loft" [("kept",.ah (s.length+1))],.lst [cD (aN 0),cD (aN 0),cD (aN 0)]]):=by
 have e:jN [.ah s.length] (s++[.ins "Loft" []])=ok .au (s++[.ins "Loft" [("kept",.ah (s.length+1))],.lst [cD (aN 0),cD (aN 0),cD (aN 0)]]):=by
  unfold jN aI;show aj (rm _ _ _ _ [some (.ah s.length)] (s++[.ins "Loft" []])) _=_;unfold rm;have e1:e2 qP (dG (af (bE mf (af (eC (.int 0)) ai)) ai)) (eC (.int (3))) [some (.ah s.length)] (s++[.ins "Loft" []])=ok (.ah (s.length+1)) (s++[.ins "Loft" [],.lst [cD (aN 0),cD (aN 0),cD (aN 0)]]):=by
   refine PD ?_;rw [cf,k9,bA,kP,bA,cx];simp only [bT];refine PC (yL (by decide) (by decide)) ?_;refine ⟨le_size (n:=1) (by decide),?_⟩;rw [cx];refine ⟨_,_,rfl,?_,?_⟩
   ·simp
   ·simp
  rw [e1,cU];show aj (aj (ok (D.ah s.length) _) _) _=_;rw [cU];have e2:jw "Loft" (.ah s.length) (s++[.ins "Loft" [],.lst [cD (aN 0),cD (aN 0),cD (aN 0)]])=some (s.length,[]):=by
   unfold jw;dsimp only;rw [à (PJ _),Nat.sub_self];rw [List.getElem?_cons_zero];dsimp only;rw [ã (Ò rfl)]
  rw [e2];dsimp only;rw [ã (by decide)];have Z:∀(x y z:Cell),List.set (s++[x,y]) s.length z=s++[z,y]:=fun x y z=>by simp
  rw [Z];rfl
 unfold lC;rw [e];rfl
def FU {ns:List Int} (hi:0<=i) (h0:s[0]?=some (.tb "law")) (hQ:∀e2 e3 e4 e5 e6 e7 e8 e9 eO dQ dR dS dI dt dw cS cT s',s'[0]?=some (.tb "law")->Q (.nx [some (.bt ns),some (.int i),e2,e3,e4,e5,e6,e7,e8,e9,eO,dQ,dR,dS,dI,dt,dw,cS,cT]) s') :
  Wp (uZ [some (.bt ns),some (.int i),xS,e3,e4,e5,e6,e7,e8,e9,eO,dQ,dR,dS,dI,dt,dw,cS,cT] s) Q:=by
 have K:0<s.length:=(È.mp h0).1;unfold uZ;refine PH fun R X=>?_;simp only [eU,gW,wp_call,bA,bT,bB,bN,å,æ];refine (HL hi).mono fun d s1 P=>?_;obtain ⟨rfl,W,V,rfl⟩:=P;have U:(0:Nat)≠s.length:=by omega
 have g1:(s++[V])[0]?=some (.tb "law"):=by rw [Ñ K];exact h0
 have Y:(s++[V]).length=s.length+1:=by simp
 generalize s++[V]=Z at W g1 Y;generalize s.length=k at W U Y;rw [cC];subst X;refine PH fun R X=>?_;rw [ux,bA,k9,bA];refine PC (show lC "Loft" jN _ Z=_ from Ag) ?_;rw [bA];refine PC (show lC "Loft" jN _ _=_ from Ag) ?_;rw [bT];refine ⟨le_size (n:=2) (by decide),?_⟩;rw [bA,k9,bA,qQ];simp only [bA,bT,cx,qQ];refine ⟨le_size (n:=3) (by decide),le_size (n:=3) (by decide),le_size (n:=2) (by decide),_,_,rfl,?_⟩;simp only [å,æ,Ŭ,č,ò,ę,Y,Ě,Ġ];rw [cC];subst X;have T:kK (Z++[.ins "Loft" [("kept",.ah (k+1+1))],.lst [cD (aN 0),cD (aN 0),cD (aN 0)],.ins "Loft" [("kept",.ah (k+1+2+1))],.lst [cD (aN 0),cD (aN 0),cD (aN 0)],.lst [.int 0,.int 0,.int 0],.lst [.int 0,.int 0,.int 0]]) k:=by
  have at_:∀(j:Nat) (l:List Cell),(Z++l)[k+1+j]?=l[j]?:=fun j l=>by
   rw [à (by omega),Y];congr 1;omega
  have bd:∀m∈([0,0,0]:List Int),0<=m/\m<=479999:=fun m J=>by
   simp only [á,Ą,or_false,or_self] at J;omega
  exact ⟨[0,0,0],[0,0,0],⟨at_ 0 _,at_ 1 _,at_ 4 _,rfl,bd⟩,⟨at_ 2 _,at_ 3 _,at_ 5 _,rfl,bd⟩⟩
 have O:=Sf.app W [.ins "Loft" [("kept",.ah (k+1+1))],.lst [cD (aN 0),cD (aN 0),cD (aN 0)],.ins "Loft" [("kept",.ah (k+1+2+1))],.lst [cD (aN 0),cD (aN 0),cD (aN 0)],.lst [.int 0,.int 0,.int 0],.lst [.int 0,.int 0,.int 0]];have N:(Z++[.ins "Loft" [("kept",.ah (k+1+1))],.lst [cD (aN 0),cD (aN 0),cD (aN 0)],.ins "Loft" [("kept",.ah (k+1+2+1))],.lst [cD (aN 0),cD (aN 0),cD (aN 0)],.lst [.int 0,.int 0,.int 0],.lst [.int 0,.int 0,.int 0]])[0]?=some (.tb "law"):=by rw [Ñ (by omega)];exact g1
 generalize Z++_=D at T O N |-;rw [nW];obtain ⟨d,s5,I,n,rfl,C,B,H,M⟩:=eY O (m:=35) (by decide) (by decide);refine PC (HJ (n:=n.toNat) (s1:=s5) (i:=n) (PD (by simp only [bA,wp_call,bT,bB,bN,cx];exact PC I ⟨rfl,rfl⟩)) (by omega) (by omega)) ?_;refine Wp.wF (fun _ env s'=>s'[0]?=some (.tb "law")/\Sf s' k/\kK s' k/\∃e5 e6 e7 e8 e9 eO dQ dR dS dI dt dw cS cT,env=[some (.bt ns),some (.int i),some (.ah k),some (.lst [.ah (k+1),.ah (k+3)]),some (.lst [.ah (k+5),.ah (k+6)]),e5,e6,e7,e8,e9,eO,dQ,dR,dS,dI,dt,dw,cS,cT]) _ ⟨M.get N U,H,T.ex M,_,_,_,_,_,_,_,_,_,_,_,_,_,_,rfl⟩ (fun t d env s' P S=>?_) (fun env s' S=>?_)
 ·obtain ⟨g,L,T,e5,e6,e7,e8,e9,eO,dQ,dR,dS,dI,dt,dw,cS,cT,rfl⟩:=S
  refine ⟨_,rfl,?_⟩;exact JO g U L T fun _ _ _ _ _ _ _ _ _ _ _ _ _ s' G F E=>⟨G,F,E,_,_,_,_,_,_,_,_,_,_,_,_,_,_,rfl⟩
 obtain ⟨g,L,T,e5,e6,e7,e8,e9,eO,dQ,dR,dS,dI,dt,dw,cS,cT,rfl⟩:=S;exact hQ _ _ _ _ _ _ _ _ _ _ _ _ _ _ _ _ _ _ g
end
def G2 (ns:List Int) (hn:ns.length<=63):∃s,aU.rn [.bt ns] [.tb "law"]=some (.ok (.bl true),s):=by
 suffices h:Wp (aU.rn [.bt ns] [.tb "law"]) fun d _=>d=.bl true by
  obtain ⟨d,s,e,rfl⟩:=h;exact ⟨s,e⟩
 unfold aU.rn;refine oE.symm ▸ ⟨rfl,PH fun R F=>?_⟩;rw [nW];have H:∃n:Nat,kD (af (eB j3 (af (eC (.int 1)) (af (eB lu (af (eB dh (af (ae 0) ai)) (af (eC (.int 2)) ai))) ai))) ai) [some (.bt ns),none,none,none,none,none,none,none,none,none,none,none,none,none,none,none,none,none,none] [.tb "law"]=ok (fe 0 n) [.tb "law"]:=by
  have e:∃n:Nat,n<=1000/\(af (eB j3 (af (eC (.int 1)) (af (eB lu (af (eB dh (af (ae 0) ai)) (af (eC (.int 2)) ai))) ai))) ai) [some (.bt ns),none,none,none,none,none,none,none,none,none,none,none,none,none,none,none,none,none,none] [.tb "law"]=ok [.int n] [.tb "law"]:=by
   refine ⟨(if (if (2:Int)<ns.length then (2:Int) else ns.length) > 1 then (if (2:Int)<ns.length then (2:Int) else ns.length) else 1).toNat,by split<;>split<;>omega,?_⟩
   rw [Int.toNat_of_nonneg (by split<;>split<;>omega)]
   rfl
  obtain ⟨n,C,E⟩:=e;exact ⟨n,u3 E (by omega)⟩
 obtain ⟨n,H⟩:=H;refine PC H ?_;refine Wp.wF (fun i env s=>s[0]?=some (.tb "law")/\∃e1 e2 Z Y X W V U T S Q P O N M L K J,env=[some (.bt ns),e1,e2,Z,Y,X,W,V,U,T,S,Q,P,O,N,M,L,K,J]) _ ⟨rfl,_,_,_,_,_,_,_,_,_,_,_,_,_,_,_,_,_,_,rfl⟩ (fun i d env s I G=>?_) (fun env s G=>?_)
 ·obtain ⟨g,e1,e2,Z,Y,X,W,V,U,T,S,Q,P,O,N,M,L,K,J,rfl⟩:=G
  rw [zN] at I;split at I
  ·cases I
   refine ⟨_,rfl,?_⟩;rw [Int.zero_add];exact FU (by omega) g fun e2 Z Y X W V U T S Q P O N M L K J B D=>⟨D,_,_,_,_,_,_,_,_,_,_,_,_,_,_,_,_,_,_,rfl⟩
  ·cases I
 ·obtain ⟨g,e1,e2,Z,Y,X,W,V,U,T,S,Q,P,O,N,M,L,K,J,rfl⟩:=G
  subst F;simp only [VC]
open PySem.W
noncomputable def ml (K:ô) (c:Str) (fs:List Str):Bool:=match nsIn K Ç c with
 |some (some (.ref C))=>plainGet K C Str.empty&&hasDictIn K C&&plainOver K C&&(match findIn K (.ref C) "__setattr__" with|some (some (.builtin x))=>decide (x="object.__setattr__") | _=>false)&&fs.all (fun f=>match findIn K (.ref C) f with|some none=>true | _=>false)&&makesIn K C&&keepIn K (.ref C)
 |_=>false
section
variable {K:ô} {c m q f:Str} {fs ps:List Str} {st:ŷ} {h:Ă} {mg:Str->Option Â}
def wK (e:ml K c fs=true):∃C,nsIn K Ç c=some (some (.ref C))/\gu K C/\(∀f∈fs,jh K C f)/\makesIn K C=true/\keepIn K (.ref C)=true:=by
 unfold ml at e;split at e
 ·rename_i C Y
  simp only [Å,đ] at e;obtain ⟨⟨⟨⟨⟨⟨X,W⟩,V⟩,Z⟩,U⟩,T⟩,S⟩:=e;refine ⟨C,Y,⟨X,W,V,?_⟩,fun f R=>?_,T,S⟩
  ·split at Z
   ·rename_i x Q
    rw [Q,í Z]
   ·cases Z
  ·have q:=U f R
   unfold jh;split at q
   ·assumption
   ·cases q
 ·cases e
def K5 (e:ml K c fs=true) (hf:f∈fs):rT K c f:=by
 obtain ⟨C,Z,Y,X,_⟩:=wK e;exact ⟨C,Z,Y,X f hf⟩
def Dm (K:ô) (c m q:Str) (st:ŷ):Prop:=∃(C f:Ì) (Z:Â) (Y:Option Ì) (X:Array (Option Â)) (kV W pm:Â) (an:Option Ì) (cd V:Â),nsIn K Ç c=some (some (.ref C))/\findIn K (.ref C) m=some (some (.ref f))/\K.lookup f=some ⟨Z,Y,.func (fnOf m q (ib st) (dE st) (bz st) .none kV W pm an cd V),X⟩/\codeIn K cd q=true/\keepIn K (.ref f)=true/\isFn K (.ref f)=true
def K6 {C f:Ì} {oc:Â} {od:Option Ì} {sl:Array (Option Â)} {kV dc pm:Â} {an:Option Ì} {cd ct:Â} (a:nsIn K Ç c=some (some (.ref C))) (b:findIn K (.ref C) m=some (some (.ref f))) (l:K.lookup f=some ⟨oc,od,.func (fnOf m q (ib st) (dE st) (bz st) .none kV dc pm an cd ct),sl⟩) (d:codeIn K cd q=true) (k:keepIn K (.ref f)=true) (i:isFn K (.ref f)=true):Dm K c m q st:=⟨C,f,oc,od,sl,kV,dc,pm,an,cd,ct,a,b,l,d,k,i⟩
def rp (e:ml K c fs=true) (D:Dm K c m q st) (hb:∀(kV doc pm:Â) (an:Option Ì) (aD ct:Â) (us:List Â),us.length=ps.length->bindArgs (fnOf m q (ib st) (dE st) (bz st) .none kV doc pm an aD ct) ⟨us,[]⟩=pure (ps.zip us)):GM K c m q st ps:=by
 obtain ⟨C,f,X,W,V,kV,U,pm,an,cd,ct,a,b,l,d,k,i⟩:=D;obtain ⟨T,Z,Y,_⟩:=wK e;rw [a] at Z;cases Z;have F:=qB (st:=st) l d k;exact ⟨C,f,_,a,Y,⟨b,i,k⟩,⟨F,F.binds hb⟩⟩
def K7 (X:K.In h) (G:h.Ns Ç mg) (e:ml K c fs=true) (D:Dm K c "__init__" q st) (hb:∀(kV doc pm:Â) (an:Option Ì) (aD ct:Â) (us:List Â),us.length=ps.length->bindArgs (fnOf "__init__" q (ib st) (dE st) (bz st) .none kV doc pm an aD ct) ⟨us,[]⟩=pure (ps.zip us)):GK K mg c q st ps:=by
 obtain ⟨C,f,V,U,T,kV,S,pm,an,cd,ct,a,b,l,d,k,i⟩:=D;obtain ⟨R,Z,_,_,Y,W⟩:=wK e;rw [a] at Z;cases Z;have F:=qB (st:=st) l d k;exact ⟨C,f,_,a,mg_of X G a,⟨Y,b,i,W⟩,⟨F,F.binds hb⟩⟩
end
end DI
end
namespace DI.aU
open PySem L2 DI
noncomputable def K8:List Str:=["NoMarks","NoSheet","NoPage","NoBook","NoMould","NoDay","NoSort","NoNumber","NoSheets","NoRun","NoLaying","NoHeap","NoCount","Clash","NoDeed","NoText","NoRow","TooMany","Lacking"]
def Df (K:ô) (x:Str) (st:ŷ):Prop:=∃(f:Ì) (Z:Â) (Y:Option Ì) (X:Array (Option Â)) (kV W pm:Â) (an:Option Ì) (cd V:Â),Ý K Ç x=some (some (.ref f))/\K.lookup f=some ⟨Z,Y,.func (Ĝ x x (ib st) (dE st) (bz st) .none kV W pm an cd V),X⟩/\ň K cd x=true/\ĕ K (.ref f)=true
def K9 {K:ô} {x:Str} {st:ŷ} {f:Ì} {oc:Â} {od:Option Ì} {sl:Array (Option Â)} {kV dc pm:Â} {an:Option Ì} {cd ct:Â} (a:Ý K Ç x=some (some (.ref f))) (l:K.lookup f=some ⟨oc,od,.func (Ĝ x x (ib st) (dE st) (bz st) .none kV dc pm an cd ct),sl⟩) (c:ň K cd x=true) (k:ĕ K (.ref f)=true):Df K x st:=⟨f,oc,od,sl,kV,dc,pm,an,cd,ct,a,l,c,k⟩
def lD {K:ô} {x:Str} {i:Int} {t:Tok} (e:Ý K Ç x=some (some (.int i t))):∃t,Ý K Ç x=some (some (.int i t)):=⟨t,e⟩
def c8 {K:ô} {h:Ă} {mg:Str->Option Â} {x:Str} {st:ŷ} {ps:List Str} (X:K.In h) (G:h.Ns Ç mg) (D:Df K x st) (hb:∀(kV doc pm:Â) (an:Option Ì) (aD ct:Â) (us:List Â),us.length=ps.length->bindArgs (Ĝ x x (ib st) (dE st) (bz st) .none kV doc pm an aD ct) ⟨us,[]⟩=pure (ps.zip us)):∃f fd,Gd K mg x st ps f fd:=by
 obtain ⟨f,Z,Y,W,kV,V,pm,an,cd,ct,a,l,c,k⟩:=D;have F:=qB (st:=st) l c k;exact ⟨f,_,ė X G a,F,F.binds hb⟩
def ee {P:List Â->Prop} (h:∀a0:Â,P [a0]) (us:List Â) (hl:us.length=1):P us:=by
 cases us with
 |nil=>simp at hl
 |cons a0 Z =>
 cases Z with
 |cons _ _=>simp at hl
 |nil =>
 exact h a0
def lE {P:List Â->Prop} (h:∀a0 a1:Â,P [a0,a1]) (us:List Â) (hl:us.length=2):P us:=by
 cases us with
 |nil=>simp at hl
 |cons a0 Z =>
 cases Z with
 |nil=>simp at hl
 |cons a1 Y =>
 cases Y with
 |cons _ _=>simp at hl
 |nil =>
 exact h a0 a1
def BH {P:List Â->Prop} (h:∀a0 a1 a2:Â,P [a0,a1,a2]) (us:List Â) (hl:us.length=3):P us:=by
 cases us with
 |nil=>simp at hl
 |cons a0 Z =>
 cases Z with
 |nil=>simp at hl
 |cons a1 Y =>
 cases Y with
 |nil=>simp at hl
 |cons a2 X =>
 cases X with
 |cons _ _=>simp at hl
 |nil =>
 exact h a0 a1 a2
def La {P:List Â->Prop} (h:∀a0 a1 a2 a3:Â,P [a0,a1,a2,a3]) (us:List Â) (hl:us.length=4):P us:=by
 cases us with
 |nil=>simp at hl
 |cons a0 Z =>
 cases Z with
 |nil=>simp at hl
 |cons a1 Y =>
 cases Y with
 |nil=>simp at hl
 |cons a2 X =>
 cases X with
 |nil=>simp at hl
 |cons a3 W =>
 cases W with
 |cons _ _=>simp at hl
 |nil =>
 exact h a0 a1 a2 a3
def all_mk {P:Ó} {w:î} {K:ô} {h:Ă} {mg:Str->Option Â} {fa:Ì} (X:K.In h) (G:h.Ns Ç mg) (OB:mg "law"=some (.ref fa))
  (d0:Df K "_law_cell_at" (top 43))
  (d1:Df K "_law_state" (top 44))
  (d2:Df K "_law_take" (top 45))
  (d3:Df K "_law_count" (top 49))
  (d4:Df K "_law_counted" (top 51))
  (d5:Df K "_law_wanted" (top 52))
  (d6:Df K "_law_sheets" (top 50))
  (d7:Df K "_law_classes" (top 46))
  (d8:Df K "is_number" (top 23))
  (d9:Df K "is_below" (top 24))
  (xV:Df K "need_sort" (top 25))
  (xW:Df K "count_of" (top 39))
  (xX:Df K "is_count" (top 36))
  (xY:Df K "are_counts" (top 37))
  (xZ:Df K "sheets_of" (top 38))
  (x8:Df K "summed" (top 35))
  (x9:Df K "counted" (top 33))
  (ya:Df K "sheets_in" (top 34))
  (yb:Df K "_law_done" (top 53))
  (yc:Df K "_law_met" (top 47))
  (yd:Df K "_law_same" (top 48))
  (jS:ml K "Loft" ["kept"]=true)
  (ye:Dm K "Loft" "stock" "Loft.stock" (fF (top 41) 3))
  (yf:Dm K "Loft" "put" "Loft.put" (fF (top 41) 1))
  (yg:Dm K "Loft" "take" "Loft.take" (fF (top 41) 2))
  (pK:Dm K "Loft" "broken" "Loft.broken" (fF (top 41) 4))
  (pL:Dm K "Loft" "__init__" "Loft.__init__" (fF (top 41) 0))
  (dl:Df K "law" (top 54))
  (uC:∃t,Ý K Ç "SORTS"=some (some (.int (3) t)))
  (uD:∃t,Ý K Ç "QUIRE"=some (some (.int (24) t)))
  (uf:∃t,Ý K Ç "QUIRES"=some (some (.int (20) t)))
  (vb:∃t,Ý K Ç "REAM"=some (some (.int (480) t)))
  (uE:∃t,Ý K Ç "REAMS"=some (some (.int (1000) t)))
  (vc:∃t,Ý K Ç "MOST"=some (some (.int (479999) t)))
  (ug:∃t,Ý K Ç "COUNTS"=some (some (.int (20) t)))
  (sW:Ý K Ç "ValueError"=some none)
  (vI:Ý K Ç "all"=some none)
  (vd:Ý K Ç "bool"=some none)
  (vJ:Ý K Ç "int"=some none)
  (sX:Ý K Ç "isinstance"=some none)
  (vK:Ý K Ç "len"=some none)
  (ve:Ý K Ç "list"=some none)
  (vL:Ý K Ç "max"=some none)
  (vM:Ý K Ç "min"=some none)
  (uF:Ý K Ç "range"=some none)
  (vN:Ý K Ç "sum"=some none)
  (uG:Ý K Ç "tuple"=some none)
  (vO:Ý K Ç "zip"=some none)
  (xf:gL K ba sN K8 "MouldError"=true) (tf:uV K "law"=true)
  : ∃(c T:Ì) (fd:ú),Px K "law"=some (c,T)/\K.lookup T=none/\(∀(s:Á) (v:Â),BindsTo s fd ⟨[v],[]⟩ [(PL,v)])/\∀base:Ă,K.In base->base.Ns Ç mg->base.BuiltinsAt mg T->bK P w K mg base cg 10 fa fd [PL] (qM K T):=by
 have Y:=c8 (ps:=[PL,"_law_k"]) X G d0 fun _ _ _ _ _ _=>lE fun _ _=>rfl;have g1:=c8 (ps:=[PL,"_law_k"]) X G d1 fun _ _ _ _ _ _=>lE fun _ _=>rfl;have g2:=c8 (ps:=[PM,PN]) X G d2 fun _ _ _ _ _ _=>lE fun _ _=>rfl;have g3:=c8 (ps:=[PM]) X G d3 fun _ _ _ _ _ _=>ee fun _=>rfl;have W:=c8 (ps:=[PN]) X G d4 fun _ _ _ _ _ _=>ee fun _=>rfl;have V:=c8 (ps:=[PM,"_law_kept"]) X G d5 fun _ _ _ _ _ _=>lE fun _ _=>rfl;have U:=c8 (ps:=[PO]) X G d6 fun _ _ _ _ _ _=>ee fun _=>rfl;have S:=c8 (ps:=["_law_e"]) X G d7 fun _ _ _ _ _ _=>ee fun _=>rfl;have R:=c8 (ps:=["thing"]) X G d8 fun _ _ _ _ _ _=>ee fun _=>rfl;have Q:=c8 (ps:=["thing","many"]) X G d9 fun _ _ _ _ _ _=>lE fun _ _=>rfl;have O:=c8 (ps:=["thing"]) X G xV fun _ _ _ _ _ _=>ee fun _=>rfl;have N:=c8 (ps:=["many"]) X G xW fun _ _ _ _ _ _=>ee fun _=>rfl;have M:=c8 (ps:=["thing"]) X G xX fun _ _ _ _ _ _=>ee fun _=>rfl;have L:=c8 (ps:=["thing"]) X G xY fun _ _ _ _ _ _=>ee fun _=>rfl;have J:=c8 (ps:=["count"]) X G xZ fun _ _ _ _ _ _=>ee fun _=>rfl;have I:=c8 (ps:=["counts"]) X G x8 fun _ _ _ _ _ _=>ee fun _=>rfl;have H:=c8 (ps:=["sheets"]) X G x9 fun _ _ _ _ _ _=>ee fun _=>rfl;have E:=c8 (ps:=["count"]) X G ya fun _ _ _ _ _ _=>ee fun _=>rfl;have D:=c8 (ps:=[PQ,PV,PX,PO]) X G yb fun _ _ _ _ _ _=>La fun _ _ _ _=>rfl;have C:=c8 (ps:=["_law_call"]) X G yc fun _ _ _ _ _ _=>ee fun _=>rfl;have B:=c8 (ps:=[PR,PU]) X G yd fun _ _ _ _ _ _=>lE fun _ _=>rfl;have A:∃t,mg "SORTS"=some (.int (3) t):=by obtain ⟨t,e⟩:=uC;exact ⟨t,ė X G e⟩
 have z:∃t,mg "QUIRE"=some (.int (24) t):=by obtain ⟨t,e⟩:=uD;exact ⟨t,ė X G e⟩
 have y:∃t,mg "QUIRES"=some (.int (20) t):=by obtain ⟨t,e⟩:=uf;exact ⟨t,ė X G e⟩
 have x:∃t,mg "REAM"=some (.int (480) t):=by obtain ⟨t,e⟩:=vb;exact ⟨t,ė X G e⟩
 have u:∃t,mg "REAMS"=some (.int (1000) t):=by obtain ⟨t,e⟩:=uE;exact ⟨t,ė X G e⟩
 have r:∃t,mg "MOST"=some (.int (479999) t):=by obtain ⟨t,e⟩:=vc;exact ⟨t,ė X G e⟩
 have q:∃t,mg "COUNTS"=some (.int (20) t):=by obtain ⟨t,e⟩:=ug;exact ⟨t,ė X G e⟩
 have p:=ó X G sW;have o:=ó X G vI;have n:=ó X G vd;have m:=ó X G vJ;have j:=ó X G sX;have i:=ó X G vK;have g:=ó X G ve;have d:=ó X G vL;have b:=ó X G vM;have HS:=ó X G uF;have Lh:=ó X G vN;have HU:=ó X G uG;have Li:=ó X G vO;have m0:=rp (ps:=["self","sort"]) jS ye fun _ _ _ _ _ _=>lE fun _ _=>rfl;have m1:=rp (ps:=["self","sort","count"]) jS yf fun _ _ _ _ _ _=>BH fun _ _ _=>rfl;have m2:=rp (ps:=["self","sort","count"]) jS yg fun _ _ _ _ _ _=>BH fun _ _ _=>rfl;have m3:=rp (ps:=["self"]) jS pK fun _ _ _ _ _ _=>ee fun _=>rfl;have m4:=K7 (ps:=["self"]) X G jS pL fun _ _ _ _ _ _=>ee fun _=>rfl;obtain ⟨f,oc,od,sl,kV,dc,pm,an,cd,ct,a,l,c,k⟩:=dl;have e:=OB.symm.trans (ė X G a);cases e;have F:=qB (st:=(top 54)) l c k;have GL:Gd K mg "law" (top 54) [PL] _ _:=⟨ė X G a,F,F.binds fun _ _ _ _ _ _=>ee fun _=>rfl⟩;obtain ⟨c0,T0,Z,hC,hT⟩:=HE tf;exact ⟨c0,T0,_,Z,hT,fun s v=>.of_eq rfl,fun base _ _ hB=>HD (JG ⟨p,o,n,m,j,i,g,d,b,HS,Lh,HU,Li,dH X G xf (by decide +kernel),dH X G xf (by decide +kernel),dH X G xf (by decide +kernel),dH X G xf (by decide +kernel),dH X G xf (by decide +kernel),dH X G xf (by decide +kernel),dH X G xf (by decide +kernel),dH X G xf (by decide +kernel),dH X G xf (by decide +kernel),dH X G xf (by decide +kernel),dH X G xf (by decide +kernel),dH X G xf (by decide +kernel),dH X G xf (by decide +kernel),dH X G xf (by decide +kernel),dH X G xf (by decide +kernel),dH X G xf (by decide +kernel),dH X G xf (by decide +kernel),dH X G xf (by decide +kernel),dH X G xf (by decide +kernel),K0 xf,Cg X G xf (by decide +kernel) (by decide +kernel),Cg X G xf (by decide +kernel) (by decide +kernel),Mo xf (by decide +kernel),wD X G xf (by decide +kernel) (by decide +kernel),wD X G xf (by decide +kernel) (by decide +kernel),wD X G xf (by decide +kernel) (by decide +kernel),Mp X G xf,A,z,y,x,u,r,q,K5 jS (by decide),m0,m1,m2,m3,m4,Y,g1,g2,g3,W,V,U,S,R,Q,O,N,M,L,J,I,H,E,D,C,B⟩ Z hC hB GL a) Z G2⟩
def walk {l:PySem.W.OpenLaw} {q:Ó} {loose:List Str} {XP:(Str->Option Â)->Ă->Prop} {YP:î->Ă->Prop} {d:DefRec} {K:Params->ô} (hn:l.most=some 63) (pj:d.params.defaults=[]) (hd:(PyProof.Rows.recsOf q).find? (fun e=>e.name==d.name)=some d)
  (hY:∀(w:î) (h:Ă),YP w h->(K w.params).In h)
  (F:∀(w:î) (mg:Str->Option Â) (fa:Ì) (h:Ă),(K w.params).In h->h.Ns Ç mg->mg d.name=some (.ref fa) ->
   ∃(c T:Ì) (fd:ú),Px (K w.params) d.name=some (c,T)/\(K w.params).lookup T=none/\(∀(s:Á) (u:Â),BindsTo s fd ⟨[u],[]⟩ [(PL,u)])/\∀base:Ă,(K w.params).In base->base.Ns Ç mg->base.BuiltinsAt mg T->bK l.prog w (K w.params) mg base cg 10 fa fd [PL] (qM (K w.params) T)) :
  PySem.W.WalkO q loose XP YP l.row.toRowW d [] (fun f vs=>PySem.call f vs) :=
 L2.Jx (n:=63) (k:=10) (x:= PL) (CX:=fun _=>cg) (sp:=fun w=>qM (K w.params)) hn (by decide) pj ⟨rfl,by decide,by decide,rfl⟩ hY hd F (fun _ _ _ a Z Y X V=>⟨a,Z,rfl,V,Y,X,fun _=>rfl⟩) fun _ _ _ _ _ z=>z
end DI.aU
open PySem PySem.W PyProof.Rows
namespace PySem.W.Fast
def te4116074782847114821:=trivial
def te2859246952353307110:=trivial
def te2031968775559061614:=trivial
def te8403559534865787773:=trivial
def te15500001179271910561:=trivial
def te4678103353419205127:=trivial
end PySem.W.Fast
set_option maxRecDepth 100000 in
set_option maxHeartbeats 0 in
theorem PySem.Challenge.cw_twinmoulds_k46_a_loft_and_its_deeds_holds : PySem.Challenge.rw_twinmoulds_k46_a_loft_and_its_deeds.Holds := by
 w_on;o_law;k_head;(case hw=>w_witness2)
 k_fill
 refine DI.aU.walk (l:=PySem.Challenge.rw_twinmoulds_k46_a_loft_and_its_deeds) rfl rfl rfl (fun w h Y=>PySem.W.km_in_of Y) ?F
 case F =>
  intro w V U h Z G X;refine' DI.aU.all_mk Z G X ?d0 ?d1 ?d2 ?d3 ?d4 ?d5 ?d6 ?d7 ?d8 ?d9 ?xV ?xW ?xX ?xY ?xZ ?x8 ?x9 ?ya ?yb ?yc ?yd ?jS ?ye ?yf ?yg ?pK ?pL ?dl ?uC ?uD ?uf ?vb ?uE ?vc ?ug ?sW ?vI ?vd ?vJ ?sX ?vK ?ve ?vL ?vM ?uF ?vN ?uG ?vO ?xf ?tf
  (case d0|d1|d2|d3|d4|d5|d6|d7|d8|d9|xV|xW|xX|xY|xZ|x8|x9|ya|yb|yc|yd|dl=>refine' DI.aU.K9 ?a ?l ?c ?k;(case a=>k_is);(case l=>k_is);(case c=>k_is);(case k=>k_is))
  (case uC=>refine' DI.aU.lD ?e;(case e=>k_is))
  (case uD=>refine' DI.aU.lD ?e;(case e=>k_is))
  (case uf=>refine' DI.aU.lD ?e;(case e=>k_is))
  (case vb=>refine' DI.aU.lD ?e;(case e=>k_is))
  (case uE=>refine' DI.aU.lD ?e;(case e=>k_is))
  (case vc=>refine' DI.aU.lD ?e;(case e=>k_is))
  (case ug=>refine' DI.aU.lD ?e;(case e=>k_is))
  (case sW|vI|vd|vJ|sX|vK|ve|vL|vM|uF|vN|uG|vO=>k_is)
  (case jS=>kernel_rfl)
  (case ye|yf|yg|pK|pL=>refine' DI.K6 ?a ?b ?l ?c ?k ?f;(case a=>k_is);(case b=>k_is);(case l=>k_is);(case c=>k_is);(case k=>k_is);(case f=>k_is))
  (case xf=>kernel_rfl)
  (case tf=>kernel_rfl)
