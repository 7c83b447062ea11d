import PyProof.Rows.All
import VbexalSpec
import PyVbexal
import Wide.All
import OpenK.AllK
import Wide.FinOn
import PyProof.EqAt
import PyProof.EqKinds
import PyProof.TupleCall
import KE.BitLaws
import Open.SpecLaws
import KE.OsHead
import KE.OsGo
import KE.KDictList
import KE.KSortTupG
import PySem.Challenge.RW_layerages_s01_answers
set_option Elab.async false
set_option linter.all false
set_option maxRecDepth 100000
open List renaming length_map->aLx,range->aME,replicate->aMF,length_append->aMH,getElem?_eq_getElem->aMK,mem_cons_of_mem->aMM,mem_cons_self->aMN,mem_cons->aMR,length_cons->aMT,map_append->aMU,getD_eq_getElem?_getD->aMW,mem_append->aMX,mem_of_getElem?->aMZ,getElem?_eq_some_iff->aM0,map_cons->aM2,getElem?_map->aM4,size_toArray->aM8,append_assoc->aMb,append_nil->aMc,take_length->aMe,mem_range->aMh,length->aMi,length_take->aMj,length_range->aMk,foldl_cons->aMo,length_set->aMv,mem_append_right->aMz,all_eq_true->aNB,flatMap_cons->aNC,mem_map->aNG,nodup_cons->aNP,mem_flatMap->aNR,length_eq_zero_iff->aNU,mem_filter->aN2,mem_append_left->aN3,not_mem_nil->aN5,length_replicate->aN6,takeWhile_cons->aN7,length_drop->aN8,getElem_of_mem->aNa,mem_filterMap->aNd,getElem?_set_ne->aNh,all_cons->aNj,any_cons->aNm,map_map->aNn,flatMap_append->aNo,filter_cons->aNs,drop_drop->aNx,filterMap_cons->aNy,getElem?_eq_none->aOB,getElem?_set_self->aOC,map_nil->aOE,find?_cons->aOG,foldl_append->aOK,getElem?_append_right->aOL,drop_take->aON,lookup->aOV,getElem?_append_left->aOZ,flatMap_nil->aO2,cons_append->aO3,replicate_succ->aO6,lookup_cons->aO7,nodup_nil->aO9,mem_map_of_mem->aOb,length_filter_le->aOc,mem_or_eq_of_mem_set->aOd,drop_length->aOf,getElem_range->aOh,find?_eq_none->aOi,find?_range_eq_some->aOj,any_eq_true->aOk,contains_cons->aOl,cons_ne_nil->aOm,take_of_length_le->aOn,range_succ->aOr,filterMap_append->aOu,mem_of_find?_eq_some->aOv,length_filterMap_le->aOx,filter_append->aOy,sum_cons->aOz,flatten_cons->aPA,drop_of_length_le->aPB,take_zero->aPC,map_set->aPD,eq_nil_or_concat->aPE,concat_eq_append->aPF,foldl->aPG,mem_of_mem_take->aPI,getLast?_eq_none_iff->aPN,getLast?_eq_getElem?->aPO,length_nil->aPT,cons->aPX,take_nil->aP0,map_replicate->aP2,getElem?_replicate->aQL,getElem?_cons_succ->aQM,contains_iff_mem->aQV,take_append_drop->aQY,set_getElem_self->aQZ,mem_of_mem_drop->aQ0,getElem?_mapIdx->aQ2,find?_eq_some_iff_append->aQa,dropWhile_cons->aQc,filter_eq_self->aQd,filter_filter->aQi,length_mapIdx->aQj,filterMap_nil->aQk,filter_congr->aQs,any_eq_false->aQt,ext_getElem?->aQw,drop_eq_getElem_cons->aQy,ext_getElem->aRB,find?_some->aRK,of_mem_zip->aRM,filter_nil->aRQ
open Vbexal renaming nats->aLy,«ints»->aLz,St->aMA,many->aMB,«names»->aMD,allNames->aMI,edges->aMJ,sums->aML,Core->aMO,within->aMP,placeOf->aMQ,act->aMS,Text->aMV,step->aMY,chosen->aM6,spanOf->aM7,at_->aM9,coreAt->aMf,isCore->aMg,listed->aMl,ranged->aMn,coreEdges->aMp,leastAge->aMq,Row->aMt,partsFrom->aMu,ifPossible->aMw,Place->aMx,saidEdges->aMy,bit->aNA,mostAge->aND,feasible->aNE,possible->aNF,ifKnown->aNH,Said->aNI,shownItem->aNL,edgeRow->aNM,isDigit->aNQ,optRow->aNS,numberOf->aNV,isName->aNW,itemOf->aNX,decimal->aNY,ageRow->aNZ,layerIn->aN0,known->aN1,Call->aN4,without->aN9,isNameRow->aNc,isSaid->aNf,walks->aNg,digitsOf->aNi,itemsFrom->aNl,repairFrom->aNp,also->aNq,isBytes->aNt,minO->aNv,plusO->aNw,setOn->aNz,shown->aOA,asideAll->aOD,closed->aOJ,isLetter->aOM,spanAll->aOP,topOf->aOQ,wayOf->aOR,stepRows->aO0,ringOf->aO1,tables->aO8,NAMES->aOe,edgesTold->aOg,MARKS->aOs,readCore->aOt,proofOf->aOw,start->aPL,endOf->aPM,layerAge->aPP,matters->aP3,chainFrom->aRC,valueOf->aRY,decode->aRk
open PySem.W renaming Frag->aMC,emptyDict->aOF,instObj->aOU,keepIn->aOW,findIn->aO4,fnOf->aO5,WellAll->aQX,length_le_weightAllW->aQh,callWith_K->aQl,methodObj->aQu,hasDictIn->aQv,plainGet->aRD,takerIn->aRL,cellsFrom_some->aRU,lookIn->aR1,codeIn->aR3,KdlSrc->aR7
open Nat renaming le_refl->aMG,zero_le->aM1,le_trans->aM3,le_of_lt->aMm,ne_of_lt->aNK,lt_of_lt_of_le->aNN,lt_irrefl->aNk,sub_self->aNr,ne_of_gt->aPQ,le_of_eq->aPR,lt_succ_self->aPS,le_of_succ_le->aPU,lt_succ_of_lt->aPV,lt_of_le_of_lt->aPW,min_eq_left->aPY,min_eq_right->aPZ,one_mul->aP1
open Bool renaming and_eq_true->aM5,false_ne_true->aMd,true_and->aNJ,false_and->aNO,and_false->aNT,not_eq_true->aNb,eq_iff_iff->aOS,not_eq_false->aOX,and_true->aOa,false_eq_true->aPJ,or_false->aPK,noConfusion->aPf,not_eq_true'->aQr
open PySem.F renaming plainAttrs_list->aMa,slot_list_append->aMr,type_list_append->aMs,slot_list_extend->aOH,type_list_extend->aOI,slot_list_index->aOo,slot_dict_keyiterator_next->aPm,args_list_index_2->aQC,args_tuple_add_2->aQG,entry_list_index->aQH,entry_tuple_add->aQN,type_list_index->aQP,slot_tuple_add->aQT,args_dict_keyiterator_next_1->aQ7,entry_dict_keyiterator_next->aQb
open Int renaming toNat_natCast->aNe,le_refl->aNu,toNat_of_nonneg->aOT,add_zero->aOY,add_assoc->aOq,reduceToNat->aPH,min_eq_right->aRA,min_eq_left->aRJ
open Option renaming map_some->aOO,map_eq_some_iff->aOp,none->aP4,isSome_iff_exists->aRF
open PySem.PassesOwn renaming never->aP5
open Option.some renaming inj->aP6
open PySem.Heap renaming get?_push_of_some->aP7,lt_size->aP8,get?_push_size->aP9,size_push->aPg,SameBut->aQ3
open PySem renaming Program->aPa,World->aPc,mem_of_lookup->aPe,wpAny_truthy_bool->aPi,wpAny_typeNameOfWhole_keyiter->aPp,Scope->aPq,wpAny_Call_Name_kw->aPs,wpAny_passesOwn->aPt,call_meets->aPy,wpAny_holding->aPz,wpAny_callSpecial?_slot->aQO,wpAny_newObj_type->aQQ,wpAny_dictEntries->aQR,wpAny_call_entry->aQU,sizeLine->aQe,tupleKind_room_in1->aQn,codeAny_mono->aRE,noFill_tuple_add->aRG
open PySem.Value renaming ref->aPb,none->aPv,«type»->aQJ
open Sum renaming inl->aPd,inr->aQz
open False renaming elim->aPh
open Array renaming length_toList->aPj,getElem?_toList->aPk
open PySem.Builtin.List renaming listTooLong->aPl
open PyProof.Rows renaming callWith_type1->aPn
open PySem.Paired renaming length->aPo
open PySem.Builtin.Range renaming rangeSize->aPr,small->aRo
open True renaming intro->aPu
open PyVbexal renaming shape->aPw,answers->aPx,answers_asked->aQS,«calls»->aQf,whole->aRZ
open PySem.NameKind renaming free->aQA,cell->aRj
open Or renaming inl->aQB
open PyFlat renaming «calls»->aQD,played->aQp,«rows»->aRR,told->aRS
open VbexalNeutral renaming step->aQE,asked1->aQ1
open PySem.SeqAt.EqAt renaming int_int->aQF,same->aRN,int_str->aRw,str_int->aRx,of_refs->aSK
open PySem.W.Codec renaming encAll->aQI,denoteAll->aQ8,app->aRP
open PySem.SeqAt renaming EqAt->aQK,list_indexAt->aQm
open Ne renaming symm->aQW
open PySem.Obj renaming mapSeq->aQ4
open ForInStep renaming yield->aQ5
open PySem.Str renaming ofString->aQ6
open PySem.W.WData renaming weightAll->aQ9
open PySem.Builtin.Dict_items renaming ownsTuple->aQg
open PySem.Calls renaming Name_function_global->aQq,call_function_entry->aQx
open PySem.Builtin.Dict renaming showsAll->aR5
open PySem.Heap.SameBut renaming update->aRp
open PyProof.Rows.Boot renaming len->c8,abs->aBq,sum->ZI,min->aCH,ord->aCM,str->aCV,tuple->zL,list->Kq,sorted->jv
set_option maxHeartbeats 0 in
theorem wSd:PySem.Challenge.rw_layerages_s01_answers.wellSaid=true:=by decide +kernel
namespace L2
open PySem PySem.Spec PyProof.Rows
abbrev Key:=Sum Int Str
def Ny:Key->Value->Bool
 |.inl k,v=>Value.isInt k v
 |.inr x,v=>Value.isStrOf x v
def aGz(w:aPc):Key->Int
 |.inl k=>hashInt k
 |.inr x=>hashStr w x
theorem gI:∀{k:Key} {v:Value},Ny k v=true->(∃i t,k=aPd i/\v=Value.int i t)\/(∃x t,k=aQz x/\v=Value.str x t)
 | .inl i,v,h=>by
  obtain⟨t,e⟩:=Value.isInt_shape (k:=i) (v:=v) h
  exact .inl ⟨i,t,rfl,e⟩
 | .inr x,v,h=>by
  obtain⟨t,e⟩:=Value.isStrOf_shape (x:=x) (v:=v) h
  exact .inr ⟨x,t,rfl,e⟩
def ir(i:Int)(t:Tok):Ny (.inl i) (.int i t)=true:=by simp[Ny,Value.isInt]
def gw(x:Str)(t:Tok):Ny (.inr x) (.str x t)=true:=by simp[Ny,Value.isStrOf]
def aCD(a b:Int):decide ((aPd a:Key)=aPd b)=(a==b):=by
 by_cases e:a=b
 ·subst e;simp
 ·have h:¬(aPd a:Key)=aPd b:=λq=>e (Sum.inl.inj q);rw[decide_eq_false h];exact(beq_eq_false_iff_ne.mpr e).symm
def aCO(a b:Str):decide ((aQz a:Key)=aQz b)=decide (a=b):=by
 by_cases e:a=b
 ·subst e;simp
 ·have h:¬(aQz a:Key)=aQz b:=λq=>e (Sum.inr.inj q);rw[decide_eq_false h,decide_eq_false e]
def aCI(a:Int)(b:Str):decide ((aPd a:Key)=aQz b)=false:=decide_eq_false (λq=>nomatch q)
def aBl(a:Str)(b:Int):decide ((aQz a:Key)=aPd b)=false:=decide_eq_false (λq=>nomatch q)
def f7(prog:aPa)(w:aPc):PySem.KeyKind prog w Key where
 is:=Ny
 hash:=aGz w
 inj:=λv a b ha hb=>by
  rcases gI ha with⟨i,t,rfl,rfl⟩|⟨x,t,rfl,rfl⟩
  ·rcases gI hb with⟨j,u,rfl,e⟩ | ⟨y,u,rfl,e⟩
   ·injection e with e1 _;rw[e1]
   ·exact nomatch e
  ·rcases gI hb with⟨j,u,rfl,e⟩ | ⟨y,u,rfl,e⟩
   ·exact nomatch e
   ·injection e with e1 _;rw[e1]
 byValue:=λk v h=>by
  rcases gI h with⟨i,t,rfl,rfl⟩|⟨x,t,rfl,rfl⟩<;>rfl
 pyHash:=λhv h=>by
  rcases gI hv with⟨i,t,rfl,rfl⟩|⟨x,t,rfl,rfl⟩
  ·exact wpAny_pyHash_int h
  ·exact wpAny_pyHash_str h
 eqBool:=λhu hv h=>by
  rcases gI hu with⟨i,t,rfl,rfl⟩|⟨x,t,rfl,rfl⟩
  ·rcases gI hv with⟨j,u,rfl,rfl⟩ | ⟨y,u,rfl,rfl⟩
   ·rw[aCD]at h;exact wpAny_eqBool_int h
   ·rw[aCI]at h;exact aRw i t y u _ _ _ _ h
  ·rcases gI hv with⟨j,u,rfl,rfl⟩ | ⟨y,u,rfl,rfl⟩
   ·rw[aBl]at h;exact aRx x t j u _ _ _ _ h
   ·rw[aCO]at h;exact wpAny_eqBool_str h
 «strs»:=λk x t v h=>by
  rcases gI h with⟨i,u,rfl,e⟩|⟨y,u,rfl,e⟩
  ·exact nomatch e
  ·injection e with e1 _;subst e1;cases v<;>rfl
def YG(prog:aPa)(w:aPc)(i:Int)(t:Tok):(f7 prog w).is (.inl i) (.int i t)=true:=ir i t
def YA(prog:aPa)(w:aPc)(x:Str)(t:Tok):(f7 prog w).is (.inr x) (.str x t)=true:=gw x t
end L2
namespace L2
open PySem PySem.Spec PyProof.Rows
inductive V where
 |non|bl (b:Bool)|int (i:Int)|str (x:Str)|byt (b:Array UInt8)|flt (b:UInt64)|ref (a:Addr)|ty (n:String)
 deriving DecidableEq
def dG:V->Value->Prop
 |.non,u=>u=aPv
 |.bl b,u=>u=Value.bool b
 |.int i,u=>∃t,u=Value.int i t
 |.str x,u=>∃t,u=Value.str x t
 |.byt b,u=>∃t,u=Value.bytes b t
 |.flt b,u=>∃t,u=Value.float b t
 |.ref a,u=>u=aPb a
 |.ty n,u=>u=aQJ n
abbrev cJ:List V->List Value->Prop:=Paired dG
theorem cJ.length{xs:List V}{us:List Value}(r:cJ xs us):xs.length=us.length:=aPo r
theorem cJ.get:∀{xs:List V} {us:List Value} {i:Nat} {x:V},cJ xs us->xs[i]?=some x->∃u,us[i]?=some u/\dG x u
 |_,_,_,_,.nil,e=>by simp at e
 |_,_,0,_,.cons r _,e=>by simp at e;subst e;exact⟨_,rfl,r⟩
 | _,_,i+1,x,.cons _ t,e=>by
  obtain⟨u,h1,h2⟩:=cJ.get (i:=i) (x:=x) t (by simpa using e)
  exact⟨u,by simpa using h1,h2⟩
theorem cJ.set{x:V}{u:Value}(r:dG x u):∀{xs:List V} {us:List Value} (i:Nat),cJ xs us->cJ (xs.set i x) (us.set i u)
 |_,_,_,.nil=>.nil
 |_,_,0,.cons _ t=>.cons r t
 |_,_,i+1,.cons q t=>.cons q (cJ.set r i t)
theorem cJ.append:∀{xs ys:List V} {us ws:List Value},cJ xs us->cJ ys ws->cJ (xs++ys) (us++ws)
 |_,_,_,_,.nil,s=>s
 |_,_,_,_,.cons r t,s=>.cons r (cJ.append t s)
theorem cJ.take:∀{xs:List V} {us:List Value} (n:Nat),cJ xs us->cJ (xs.take n) (us.take n)
 |_,_,0,_=>.nil
 |_,_,_+1,.nil=>.nil
 |_,_,n+1,.cons r t=>.cons r (cJ.take n t)
theorem cJ.drop:∀{xs:List V} {us:List Value} (n:Nat),cJ xs us->cJ (xs.drop n) (us.drop n)
 |_,_,0,r=>r
 |_,_,_+1,.nil=>.nil
 |_,_,n+1,.cons _ t=>cJ.drop n t
def II:Option V->Option Value->Prop
 |some v,some u=>dG v u
 |none,none=>True
 |_,_=>False
def KV{κ:Type}:List (κ×V)->List (κ×Value)->Prop:=Paired fun(p:κ×V) (q:κ×Value)=>p.1=q.1/\dG p.2 q.2
def kV:Key->V
 |.inl i=>.int i
 |.inr x=>.str x
inductive HO where
 |lst (xs:List V)
 |tup (xs:List V)
 |dK (bU:List (Key×V))|dT (bU:List (List Key×V))
 |set (S:Int->Bool) (n:Nat)
 |ins (C dx:Addr) (fs:List (Str×V))
 |own (x:Addr)
 |xd (fs:List (Str×V))
 |met (f x:Addr)
 |rng (lo hi:Int)
 |frz (o:Obj) (u:HO)
 |tbl (ps:Array Value)
 |ext (φ:Heap->Prop)
abbrev Hp:=Addr->Option HO
def upd(H:Hp)(a:Addr)(o:HO):Hp:=λb=>if b=a then some o else H b
def aB{H:Hp}{a:Addr}{o:HO}:upd H a o a=some o:=by unfold upd;rw[if_pos rfl]
def aT{H:Hp}{a b:Addr}{o:HO}(h:b≠a):upd H a o b=H b:=by unfold upd;rw[if_neg h]
def j0{H:Hp}{a:Addr}{o u:HO}:upd (upd H a o) a u=upd H a u:=by
 funext b;unfold upd;split<;>rfl
def c7{H:Hp}{a b:Addr}{o u:HO}(h:H a=some o)(h':H b=some u)(d:o≠u):a≠b:=by
 intro e;subst e;rw[h]at h';exact d (aP6 h')
def aJ{H:Hp}{a b:Addr}{o:HO}(h:H a=some o)(h':H b=none):a≠b:=by
 intro e;subst e;rw[h]at h';cases h'
section
variable(P:aPa)(w:aPc)
def eY(H:Hp)(h:Heap)(a:Addr):HO->Prop
 |.lst xs=>xs.length<=sizeLine/\∃(bN:List Value) (n:Nat),cJ xs bN/\h.get? a=some { cls:=.type "list",data:=.seq bN.toArray n }
 |.tup xs=>xs.length<=sizeLine/\∃bN:List Value,cJ xs bN/\IsTup h a bN.toArray
 |.dK bU=>bU.length<=sizeLine/\(a==sysModules)=false/\∃vs,KV bU vs/\h.DictOf (f7 P w) a vs
 | .dT bU=>bU.length<=sizeLine/\(a==sysModules)=false/\∃xs:List (List Key×Addr×Value),
   Paired (fun(p:List Key×V) (q:List Key×Addr×Value)=>p.1=q.1/\H q.2.1=some (.tup (p.1.map kV))/\dG p.2 q.2.2) bU xs/\
   ∃o es ep,h.get? a=some o/\o.ExactDict/\o.data=.dict es ep/\es.toList=xs.map (entryOfKey (tupleKind (f7 P w)))/\(xs.map (·.1)).Nodup
 |.set S n=>h.SetOf (intKind P w) a S n
 | .ins C dx fs=>H dx=some (.own a)/\fs.length<=1000/\dx≠a/\h.get? a=some (aOU C dx)/\
   ∃mA,h.Ns1 dx mA/\(∀f,II (fs.lookup f) (mA f))/\PySem.Within mA (fs.map (·.1))
 |.own _=>∃o,h.get? a=some o
 |.xd fs=>∃mA,h.Ns1 a mA/\∀f,II (fs.lookup f) (mA f)
 |.rng lo hi=>∃t u v,h.get? a=some { cls:=.type "range",data:=.fields #[.int lo t,.int hi u,.int 1 v] }
 |.frz o u=>h.get? a=some o/\eY H h a u
 |.tbl ps=>h.get? a=some { cls:=.none,data:=.fields ps }
 |.met f x=>h.get? a=some (aQu (.ref f) (.ref x))
 |.ext φ=>φ h/\(∃o,h.get? a=some o)/\∀h1 h2:Heap,φ h1->(∀o,h1.get? a=some o->h2.get? a=some o)->φ h2
def CD(H:Hp)(h:Heap):Prop:=∀a o,H a=some o->eY P w H h a o
end
section
variable{P:aPa}{w:aPc}{H H':Hp}{h h':Heap}{a:Addr}{o:HO}
theorem eY.lt(x:eY P w H h a o):a<h.objs.size:=by
 cases o with
 |lst xs=>obtain⟨_,_,_,_,e⟩:=x;exact aP8 e
 |tup xs=>obtain⟨_,_,_,p⟩:=x;exact p.lt
 |dK bU=>obtain⟨_,_,_,_,o,_,_,e,_⟩:=x;exact aP8 e
 |dT bU=>obtain⟨_,_,_,_,o,_,_,e,_⟩:=x;exact aP8 e
 |set S n=>obtain⟨o,_,_,_,e,_⟩:=x;exact aP8 e
 |ins C dx fs=>obtain⟨_,_,_,e,_⟩:=x;exact aP8 e
 |own y=>obtain⟨_,e⟩:=x;exact aP8 e
 |xd fs=>obtain⟨_,⟨_,_,_,e,_⟩,_⟩:=x;exact aP8 e
 |rng lo hi=>obtain⟨_,_,_,e⟩:=x;exact aP8 e
 |frz ob u=>obtain⟨e,_⟩:=x;exact aP8 e
 |tbl ps=>exact aP8 (show h.get? a=some _ from x)
 |met f y=>exact aP8 (show h.get? a=some _ from x)
 |ext φ=>obtain⟨_,⟨_,e⟩,_⟩:=x;exact aP8 e
theorem Paired.mapP{α β:Type}{F G:α->β->Prop}:∀{l₁:List α} {l₂:List β},Paired F l₁ l₂->(∀a b,F a b->G a b)->Paired G l₁ l₂
 |_,_,.nil,_=>.nil
 |_,_,.cons r t,f=>.cons (f _ _ r) (Paired.mapP t f)
def eY.stay(x:eY P w H h a o)(k:∀b u,(b=a\/H b=some (.own a))->h.get? b=some u->h'.get? b=some u)
  (ho:∀b,H b=some (.own a)->H' b=some (.own a)) (ht:∀b xs,H b=some (.tup xs)->H' b=some (.tup xs)):eY P w H' h' a o:=by
 induction o with
 |lst xs=>obtain⟨z,bN,n,r,e⟩:=x;exact⟨z,bN,n,r,k _ _ (.inl rfl) e⟩
 |tup xs=>obtain⟨z,bN,r,ob,e,c⟩:=x;exact⟨z,bN,r,ob,k _ _ (.inl rfl) e,c⟩
 |dK bU=>obtain⟨z,y,vs,r,ob,es,ep,e,c⟩:=x;exact⟨z,y,vs,r,ob,es,ep,k _ _ (.inl rfl) e,c⟩
 | dT bU=>
  obtain⟨z,y,xs,r,ob,es,ep,e,c⟩:=x
  exact⟨z,y,xs,Paired.mapP r λp q z=>⟨z.1,ht _ _ z.2.1,z.2.2⟩,ob,es,ep,k _ _ (.inl rfl) e,c⟩
 |set S n=>obtain⟨ob,es,ep,t,e,c⟩:=x;exact⟨ob,es,ep,t,k _ _ (.inl rfl) e,c⟩
 | ins C dx fs=>
  obtain⟨d,z,ne,e,mA,⟨od,es,ep,e2,c⟩,r⟩:=x
  exact⟨ho _ d,z,ne,k _ _ (.inl rfl) e,mA,⟨od,es,ep,k _ _ (.inr d) e2,c⟩,r⟩
 |own y=>obtain⟨ob,e⟩:=x;exact⟨ob,k _ _ (.inl rfl) e⟩
 |xd fs=>obtain⟨mA,⟨od,es,ep,e,c⟩,r⟩:=x;exact⟨mA,⟨od,es,ep,k _ _ (.inl rfl) e,c⟩,r⟩
 |rng lo hi=>obtain⟨t,u,v,e⟩:=x;exact⟨t,u,v,k _ _ (.inl rfl) e⟩
 |frz ob u ih=>obtain⟨e,q⟩:=x;exact⟨k _ _ (.inl rfl) e,ih q⟩
 | tbl ps=>
  have e:h.get? a=some { cls:=.none,data:=.fields ps }:=x;show h'.get? a=some { cls:=.none,data:=.fields ps };exact k a _ (.inl rfl) e
 | met f y=>
  have e:h.get? a=some (aQu (.ref f) (.ref y)):=x;show h'.get? a=some (aQu (.ref f) (.ref y));exact k a _ (.inl rfl) e
 |ext φ=>obtain⟨p,⟨o,e⟩,st⟩:=x;exact⟨st _ _ p λo q=>k _ _ (.inl rfl) q,⟨o,k _ _ (.inl rfl) e⟩,st⟩
theorem CD.lt(x:CD P w H h)(e:H a=some o):a<h.objs.size:=(x a o e).lt
def CD.fresh(x:CD P w H h)(e:h.objs.size<=a):H a=none:=by
 cases q:H a with
 |none=>rfl
 |some u=>exact absurd (aNN (x.lt q) e) (aNk _)
def CD.kept(x:CD P w H h)(k:∀b u,h.get? b=some u->h'.get? b=some u):CD P w H h':=λa o e=>
 (x a o e).stay (λb u _ q=>k b u q) (λ_ q=>q) λ_ _ q=>q
def CD.laid(x:CD P w H h)(k:∀b u,h.get? b=some u->h'.get? b=some u)(hp:h.objs.size<=a)(new:eY P w (upd H a o) h' a o):CD P w (upd H a o) h':=λb u e=>by
 have hn:=x.fresh hp;by_cases hb:b=a
 ·subst hb;rw[aB]at e;cases e;exact new
 ·rw[aT hb]at e
  exact(x b u e).stay (λc v _ q=>k c v q) (λc q=>by rw[aT (aJ q hn)];exact q) λc xs q=>by rw[aT (aJ q hn)];exact q
end
def Rd(H:Hp)(a:Addr)(u:HO):Prop:=H a=some u\/∃o,H a=some (.frz o u)
def Rd.ok{P:aPa}{w:aPc}{H:Hp}{h:Heap}{a:Addr}{u:HO}(r:Rd H a u)(x:CD P w H h):eY P w H h a u:=by
 rcases r with r|⟨o,r⟩
 ·exact x a u r
 ·obtain⟨_,q⟩:=x a _ r
  exact q
def Mut:Option HO->Prop
 |some (.lst _)=>True
 |some (.dK _)=>True
 |some (.dT _)=>True
 |some (.set _ _)=>True
 |some (.ins _ _ _)=>True
 |some (.ext _)=>True
 |_=>False
section
variable{P:aPa}{w:aPc}{H:Hp}{h h':Heap}{x e:Addr}{o':HO}
def CD.write(ok:CD P w H h)(mu:Mut (H x))(he:e=x\/H e=some (.own x))(k:∀b u,b≠e->h.get? b=some u->h'.get? b=some u)(heo:∃u,h'.get? e=some u)
  (new:eY P w (upd H x o') h' x o'):CD P w (upd H x o') h':=λb u q=>by
 have aFD:∀c y,H c=some (.own y)->c≠x:=λc y r z=>by subst z;rw[r]at mu;exact mu
 have aIb:∀c xs,H c=some (.tup xs)->c≠x:=λc xs r z=>by subst z;rw[r]at mu;exact mu
 by_cases hb:b=x
 ·subst hb;rw[aB]at q;cases q;exact new
 ·rw[aT hb]at q
  by_cases Og:b=e
  ·have q':H b=some (.own x):=by
    rcases he with z|z
    ·exact absurd (Og.trans z) hb
    ·rw[Og];exact z
   rw[q]at q';cases q'
   obtain⟨v,hv⟩:=heo
   exact⟨v,by rw[Og];exact hv⟩
  ·refine(ok b u q).stay (λc v hc r=>k c v ?_ r) (λc r=>by rw[aT (aFD c b r)];exact r) λc xs r=>by rw[aT (aIb c xs r)];exact r
   rcases hc with rfl|hc
   ·exact Og
   ·rintro rfl;rcases he with z|z
    ·exact aFD c b hc z
    ·rw[hc]at z;cases z;exact hb rfl
end
structure Un(fs ex:List Addr)(H H':Hp)(h h':Heap):Prop where
 keep:∀b o,h.get? b=some o->H b=none->b∉fs->b∉ex->h'.get? b=some o
 slot:∀b o,h.get? b=some o->H b=none->b∈fs->b∉ex->∃sl,h'.get? b=some { o with slots:=sl }
 free:∀b o,h.get? b=some o->H b=none->b∉ex->H' b=none
 there:∀b o,h.get? b=some o->b∉ex->∃o',h'.get? b=some o'
 WX:∀b xs,H b=some (.tup xs)->H' b=some (.tup xs)
 Oo:∀b o u,H b=some (.frz o u)->H' b=some (.frz o u)
 WT:∀b ps,H b=some (.tbl ps)->∃more,H' b=some (.tbl (ps++more))
section
variable{fs fs' ex ex':List Addr}{H H1 H2:Hp}{h h1 h2 h':Heap}{a x e:Addr}{o:HO}
def Un.any(u:Un fs ex H H1 h h1){b:Addr}{ob:Obj}(q:h.get? b=some ob)(n:H b=none)(hx:b∉ex):∃sl,h1.get? b=some { ob with slots:=sl }:=by
 by_cases hb:b∈fs
 ·exact u.slot b ob q n hb hx
 ·exact⟨ob.slots,u.keep b ob q n hb hx⟩
def Un.kept(k:∀b u,h.get? b=some u->h'.get? b=some u):Un fs ex H H h h':=
 ⟨λb ob q _ _ _=>k b ob q,λb ob q _ _ _=>⟨ob.slots,k b ob q⟩,λ_ _ _ n _=>n,λb ob q _=>⟨ob,k b ob q⟩,λ_ _ q=>q,λ_ _ _ q=>q,λ_ ps q=>⟨#[],by rw[q];simp⟩⟩
def Un.refl:Un fs ex H H h h:=Un.kept λ_ _ q=>q
def Un.laid(k:∀b u,h.get? b=some u->h'.get? b=some u)(hp:h.objs.size<=a)(hn:H a=none):Un fs ex H (upd H a o) h h' where
 keep:=λb u q _ _ _=>k b u q
 slot:=λb u q _ _ _=>⟨u.slots,k b u q⟩
 free:=λb u q n _=>by rw[aT (aNK (aNN (aP8 q) hp))];exact n
 there:=λb u q _=>⟨u,k b u q⟩
 WX:=λb xs q=>by rw[aT (aJ q hn)];exact q
 Oo:=λb u xs q=>by rw[aT (aJ q hn)];exact q
 WT:=λb ps q=>⟨#[],by rw[aT (aJ q hn),q];simp⟩
def Un.write(mu:Mut (H x))(he:e=x\/H e=some (.own x))(k:∀b u,b≠e->h.get? b=some u->h'.get? b=some u)(heo:∃u,h'.get? e=some u):Un fs ex H (upd H x o) h h':=by
 have hx:∀b,H b=none->b≠x:=λb n z=>by subst z;rw[n]at mu;exact mu
 have hb:∀b,H b=none->b≠e:=λb n z=>by
  subst z;rcases he with r|r
  ·exact hx b n r
  ·rw[n]at r;cases r
 have hm:∀b u,H b=some u->¬Mut (some u)->b≠x:=λb u q nm z=>by subst z;rw[q]at mu;exact nm mu
 refine⟨λb u q n _ _=>k b u (hb b n) q,λb u q n _ _=>⟨u.slots,k b u (hb b n) q⟩,λb u q n _=>by rw[aT (hx b n)];exact n,λb u q _=>?_,
  λb xs q=>by rw[aT (hm b _ q λz=>z)];exact q,λb u xs q=>by rw[aT (hm b _ q λz=>z)];exact q,λb ps q=>⟨#[],by rw[aT (hm b _ q λz=>z),q];simp⟩⟩
 by_cases Og:b=e
 ·subst Og;exact heo
 ·exact⟨u,k b u Og q⟩
end
def trk(h:Heap)(H:Hp):List Addr:=(aME h.objs.size).filter λa=>(H a).isSome
def Oq(h:Heap)(H:Hp):Heap:=PySem.W.hideAll h (trk h H)
def ik(h:Heap)(H:Hp):(Oq h H).objs.size=h.objs.size:=PySem.W.hideAll_size _ _
def um{h:Heap}{H:Hp}{b:Addr}{o:Obj}(e:h.get? b=some o)(n:H b=none):(Oq h H).get? b=some o:=
 PySem.W.hideAll_get _ e λhm=>by
  have q:(H b).isSome=true:=(aN2.mp hm).2;rw[n]at q;simp at q
def ze{h:Heap}{H:Hp}{b:Addr}{o:Obj}(e:(Oq h H).get? b=some o):h.get? b=some o/\H b=none:=by
 have e':h.get? b=some o:=PySem.W.of_hideAll (trk h H) e;refine⟨e',?_⟩;cases q:H b with
 |none=>rfl
 | some x=>
  have hm:b∈trk h H:=aN2.mpr ⟨aMh.mpr (aP8 e'),by simp[q]⟩
  have z:(Oq h H).get? b=none:=PySem.W.hideAll_none (trk h H) hm;rw[z]at e;cases e
end L2
namespace L2
open PySem PySem.Spec PyProof.Rows
structure Mod(K:aMC)(mg:Str->Option Value)(base:Heap):Prop where
 kin:K.In base
 glob:base.Ns mainGlobals mg
 blt:∃mb,base.Ns builtinsNs mb/\∀x:Str,x≠"__name__"->mb x=bootBuiltins x
 nolimit:base.NoLimit
structure Cx where
 prog:aPa
 w:aPc
 K:aMC
 mg:Str->Option Value
 base:Heap
 A:Around
 N:List Str
 Nq:Shared
 H_0:Hp
 env:Env
 outer:List Env
 stack:List Env
 ex:List Addr
 fn:Str->Bool
 calm:Bool
 pn:List (Addr×Obj)
 xe:Value->Shared->Prop
def md(l:List Env):List Addr:=l.filterMap (·.frame)
abbrev Cx.fs(X:Cx):List Addr:=md X.outer
def Vis(sc:aPq)(x:Str):Prop:=sc.names.lookup x=some .local\/sc.names.lookup x=some .cell\/sc.names.lookup x=some .free
def Loc(sc:aPq)(x:Str):Prop:=sc.names.lookup x=some .local\/sc.names.lookup x=some .cell
def aGw(env:Env)(h:Heap)(m:Str->Option Value)(x:Str)(u:Value):Prop:=
 (env.kindOf x=some .local/\m x=some u)\/((env.kindOf x=some .cell\/env.kindOf x=some .free)/\∃c,env.cells.lookup x=some c/\h.IsCell c (some u))
structure Cx.Ok(X:Cx):Prop where
 mod:Mod X.K X.mg X.base
 kind:X.env.scope.kind=.function
 glob:X.env.globals=mainGlobals
 blt:X.env.builtins=builtinsNs
 above:X.Nq.heap.objs.size<=X.env.locals
 inj:∀x y c,X.env.cells.lookup x=some c->X.env.cells.lookup y=some c->x=y
 has:∀x,(X.env.kindOf x=some .cell\/X.env.kindOf x=some .free)->∃c,X.env.cells.lookup x=some c
 cab:∀x c,X.fn x=true->X.env.cells.lookup x=some c->X.Nq.heap.objs.size<=c
 hd:X.calm=true->X.A.handled=none
 frames:X.A.frames=some X.stack
 stk:X.stack=X.outer\/(X.stack=X.env::X.outer/\X.env.frame=some X.env.locals)
 exf:∀b∈X.ex,b≠X.env.locals/\∀x c,X.env.cells.lookup x=some c->c≠b
 bs:∀b o,X.base.get? b=some o->X.Nq.heap.get? b=some o/\X.H_0 b=none
 wk:X.base.objs.size<=X.Nq.heap.objs.size
 ml:∀b o,X.base.get? b=some o->b∉X.ex
 mf:∀b∈X.ex,b∉X.fs
 KO:X.Nq.heap.FunFrames X.base X.outer
 frf:∀b∈X.fs,X.H_0 b=none
structure Inv(X:Cx)(pins:List (Addr×Obj))(σ:List (Option V))(H:Hp)(s:Shared):Prop where
 ok:X.Ok
 os:s.os=X.Nq.os
 bare:AllBare s.gens
 base:Un X.fs X.ex X.H_0 H X.Nq.heap s.heap
 loc:∃m,s.heap.Ns X.env.locals m/\∀(i:Nat) (x:Str) (v:V),X.N[i]?=some x->σ[i]?=some (some v)->Vis X.env.scope x->∃u,dG v u/\aGw X.env s.heap m x u
 cell:∀x c,X.env.cells.lookup x=some c->∃v,s.heap.IsCell c v
 free:H X.env.locals=none
 CG:∀x c,X.env.cells.lookup x=some c->H c=none
 pin:∀p∈X.pn++pins,s.heap.get? p.1=some p.2/\H p.1=none/\p.1≠X.env.locals/\p.1∉X.fs/\∀v,p.2.data≠.cell v
 eI:CD X.prog X.w H s.heap
 len:σ.length=X.N.length
section
variable{X:Cx}{pins:List (Addr×Obj)}{σ:List (Option V)}{H H':Hp}{s:Shared}{h':Heap}
def Cx.Ok.nofr(ok:X.Ok){b:Addr}{o:Obj}(e:X.base.get? b=some o):b∉X.fs:=λhb=>by
 have:=(ok.KO.mem hb).1
 rw[e]at this;cases this
theorem Inv.bs(I:Inv X pins σ H s):∀b o,X.base.get? b=some o->s.heap.get? b=some o/\H b=none:=λb o e=>
 ⟨I.base.keep b o (I.ok.bs b o e).1 (I.ok.bs b o e).2 (I.ok.nofr e) (I.ok.ml b o e),I.base.free b o (I.ok.bs b o e).1 (I.ok.bs b o e).2 (I.ok.ml b o e)⟩
def Inv.bk(I:Inv X pins σ H s):∀b o,X.base.get? b=some o->s.heap.get? b=some o:=λb o e=>(I.bs b o e).1
theorem Inv.mod(I:Inv X pins σ H s):Mod X.K X.mg X.base:=I.ok.mod
def Inv.kIn(I:Inv X pins σ H s):X.K.In s.heap:=I.ok.mod.kin.keeps I.bk
def Inv.fr(I:Inv X pins σ H s):∃m,Fr X.base X.env.locals s.heap m:=
 let⟨m,hn,_⟩:=I.loc
 ⟨m,hn,I.bk,aM3 I.ok.wk I.ok.above⟩
theorem Inv.lt(I:Inv X pins σ H s):X.env.locals<s.heap.objs.size:=let⟨_,hn,_⟩:=I.loc;hn.lt
def Inv.sz(I:Inv X pins σ H s):X.Nq.heap.objs.size<=s.heap.objs.size:=aM3 I.ok.above (aMm I.lt)
def Inv.nofs(I:Inv X pins σ H s){a:Addr}(h:s.heap.objs.size<=a):a∉X.fs:=λhb=>by
 obtain⟨_,o,ho,_⟩:=I.ok.KO.mem hb
 exact absurd (aNN (aP8 ho) (aM3 I.sz h)) (aNk _)
def Inv.cne(I:Inv X pins σ H s):∀x c,X.env.cells.lookup x=some c->c≠X.env.locals:=λx c e z=>by
 obtain⟨v,o,ho,hd⟩:=I.cell x c e
 obtain⟨m,⟨o',es,ep,ho',hd',_⟩,_⟩:=I.loc
 rw[z,ho']at ho;cases ho;rw[hd']at hd;cases hd
theorem Inv.KO(I:Inv X pins σ H s):s.heap.FunFrames X.base X.outer:=by
 have all:∀(l:List Env),(∀b∈md l,b∈X.fs)->X.Nq.heap.FunFrames X.base l->s.heap.FunFrames X.base l:=by
  intro l
  induction l with
  |nil=>intro _ _;trivial
  | cons env r ih=>
   intro hs hl;obtain⟨hk,⟨L,o,hf,hn,ho,hd⟩,hr⟩:=hl;have hL:L∈X.fs:=hs L (by unfold md;rw[aNy,hf];exact aMN)
   obtain⟨sl,e⟩:=I.base.slot L o ho (I.ok.frf L hL) hL λz=>I.ok.mf L z hL
   exact⟨hk,⟨L,_,hf,hn,e,hd⟩,ih (λb hb=>hs b (by unfold md;rw[aNy,hf];exact aMM _ hb)) hr⟩
 exact all X.outer (λ_ hb=>hb) I.ok.KO
theorem Inv.stack(I:Inv X pins σ H s):s.heap.FunFrames X.base X.stack:=by
 rcases I.ok.stk with e|⟨e,hf⟩
 ·rw[e];exact I.KO
 ·rw[e]
  obtain⟨m,hn,_⟩:=I.loc
  refine .cons (by rw[I.ok.kind];decide) hf hn ?_ I.KO
  exact Heap.get?_none_of_le (aM3 I.ok.wk I.ok.above)
def Inv.stkSub(I:Inv X pins σ H s):∀b∈md X.stack,b∈X.env.locals::X.fs:=λb hb=>by
 rcases I.ok.stk with e|⟨e,hf⟩
 ·rw[e]at hb;exact aMM _ hb
 ·rw[e]at hb
  unfold md at hb;rw[aNy,hf]at hb;exact hb
def Inv.stkFree(I:Inv X pins σ H s):∀b∈md X.stack,H b=none:=λb hb=>by
 rcases aMR.mp (I.stkSub b hb)with e|hb
 ·rw[e];exact I.free
 ·obtain⟨_,o,ho,_⟩:=I.ok.KO.mem hb
  exact I.base.free b o ho (I.ok.frf b hb) λz=>I.ok.mf b z hb
def Inv.step{g':Array GenState}{t':Nat}{d':Drawn}{ch:List Addr}(I:Inv X pins σ H s)
  (FQ:∀b∈ch,(b∈X.ex\/X.Nq.heap.objs.size<=b)/\b≠X.env.locals/\(∀x c,X.env.cells.lookup x=some c->c≠b)/\∀p∈X.pn++pins,p.1≠b)
  (keep:∀b o,b≠X.env.locals->b∉X.fs->b∉ch->s.heap.get? b=some o->H b=none->h'.get? b=some o)
  (slot:∀b o,b≠X.env.locals->b∈X.fs->b∉ch->s.heap.get? b=some o->H b=none->∃sl,h'.get? b=some { o with slots:=sl }) (free:∀b o,b∉ch->s.heap.get? b=some o->H b=none->H' b=none)
  (there:∀b o,b∉ch->s.heap.get? b=some o->∃o',h'.get? b=some o')
  (WX:∀b xs,H b=some (.tup xs)->H' b=some (.tup xs)) (Oo:∀b o u,H b=some (.frz o u)->H' b=some (.frz o u)) (WT:∀b ps,H b=some (.tbl ps)->∃more,H' b=some (.tbl (ps++more)))
  (ns:∀m,s.heap.Ns X.env.locals m->h'.Ns X.env.locals m) (eI:CD X.prog X.w H' h') (hg:AllBare g'):
  Inv X pins σ H' { s with heap:=h',gens:=g',drawn:=d',toks:=t' }:=by
 have neL:∀b o,X.Nq.heap.get? b=some o->b≠X.env.locals:=λb o e=>aNK (aNN (aP8 e) I.ok.above);have neC:∀b o,X.Nq.heap.get? b=some o->b∉X.ex->b∉ch:=λb o e hx hb=>by
  rcases(FQ b hb).1 with z|z
  ·exact hx z
  ·exact absurd (aNN (aP8 e) z) (aNk _)
 have aB0:∀x c,X.env.cells.lookup x=some c->∀v,s.heap.IsCell c v->h'.IsCell c v:=λx c e v ⟨o,ho,hd⟩=>by
  have nch:c∉ch:=λz=>(FQ c z).2.2.1 x c e rfl;by_cases hc:c∈X.fs
  ·obtain⟨sl,q⟩:=slot c o (I.cne x c e) hc nch ho (I.CG x c e)
   exact⟨_,q,hd⟩
  ·exact⟨o,keep c o (I.cne x c e) hc nch ho (I.CG x c e),hd⟩
 refine⟨I.ok,I.os,hg,⟨λb o e n hb hx=>?_,λb o e n hb hx=>?_,λb o e n hx=>?_,λb o e hx=>?_,λb xs e=>WX b xs (I.base.WX b xs e),λb o xs e=>Oo b o xs (I.base.Oo b o xs e),λb ps e=>?_⟩,?_,λx c e=>?_,?_,λx c e=>?_,λp hp=>?_,eI,I.len⟩
 ·exact keep b o (neL b o e) hb (neC b o e hx) (I.base.keep b o e n hb hx) (I.base.free b o e n hx)
 ·obtain⟨sl,e1⟩:=I.base.slot b o e n hb hx
  obtain⟨sl',e2⟩:=slot b _ (neL b o e) hb (neC b o e hx) e1 (I.base.free b o e n hx)
  exact⟨sl',e2⟩
 ·obtain⟨o',e1⟩:=I.base.there b o e hx
  exact free b o' (neC b o e hx) e1 (I.base.free b o e n hx)
 ·obtain⟨o',e1⟩:=I.base.there b o e hx
  exact there b o' (neC b o e hx) e1
 ·obtain⟨m1,e1⟩:=I.base.WT b ps e
  obtain⟨m2,e2⟩:=WT b _ e1
  exact⟨m1++m2,by rw[e2,Array.append_assoc]⟩
 ·obtain⟨m,hn,hl⟩:=I.loc
  refine⟨m,ns m hn,λi x v e1 e2 e3=>?_⟩
  obtain⟨u,r,l⟩:=hl i x v e1 e2 e3
  refine⟨u,r,?_⟩
  rcases l with l|⟨k,c,e,z⟩
  ·exact .inl l
  ·exact .inr ⟨k,c,e,aB0 x c e _ z⟩
 ·obtain⟨v,z⟩:=I.cell x c e
  exact⟨v,aB0 x c e v z⟩
 ·obtain⟨m,⟨o,_,_,ho,_⟩,_⟩:=I.loc
  exact free _ o (λz=>(FQ _ z).2.1 rfl) ho I.free
 ·obtain⟨v,o,ho,hd⟩:=I.cell x c e
  exact free c o (λz=>(FQ c z).2.2.1 x c e rfl) ho (I.CG x c e)
 ·obtain⟨e,n,ne,nf,d⟩:=I.pin p hp
  have nch:p.1∉ch:=λz=>(FQ p.1 z).2.2.2 p hp rfl;exact⟨keep p.1 p.2 ne nf nch e n,free p.1 p.2 nch e n,ne,nf,d⟩
def Inv.un{t':Nat}(I:Inv X pins σ H s)(u:Un X.fs [] H H' s.heap h')(eI:CD X.prog X.w H' h'):Inv X pins σ H' { s with heap:=h',toks:=t' }:=by
 obtain⟨m,⟨o,es,ep,ho,r⟩,_⟩:=id I.loc
 obtain⟨sl,hL⟩:=u.any ho I.free (by simp)
 exact I.step (g':=s.gens) (d':=s.drawn) (ch:=[]) (λ_ z=>nomatch z) (λb o _ hb _ e n=>u.keep b o e n hb (by simp)) (λb o _ hb _ e n=>u.slot b o e n hb (by simp)) (λb o _ e n=>u.free b o e n (by simp)) (λb o _ e=>u.there b o e (by simp)) u.WX u.Oo u.WT (λm' hm=>by
  obtain⟨o',es',ep',ho',r'⟩:=hm
  rw[ho]at ho';cases ho'
  exact⟨_,es',ep',hL,r'⟩) eI I.bare
def Inv.call{g':Array GenState}{t':Nat}{d':Drawn}{ch:List Addr}(I:Inv X pins σ H s)(u:Un (md X.stack) ch H H' s.heap h')(eI:CD X.prog X.w H' h')(hg:AllBare g')
  (FQ:∀b∈ch,(b∈X.ex\/X.Nq.heap.objs.size<=b)/\b≠X.env.locals/\(∀x c,X.env.cells.lookup x=some c->c≠b)/\∀p∈X.pn++pins,p.1≠b):
  Inv X pins σ H' { s with heap:=h',gens:=g',drawn:=d',toks:=t' }:=by
 obtain⟨m,⟨o,es,ep,ho,r⟩,_⟩:=id I.loc
 obtain⟨sl,hL⟩:=u.any ho I.free λz=>(FQ _ z).2.1 rfl
 exact I.step (ch:=ch) FQ (λb o hL hb hc e n=>u.keep b o e n (λz=>(aMR.mp (I.stkSub b z)).elim hL hb) hc) (λb o _ _ hc e n=>u.any e n hc) (λb o hc e n=>u.free b o e n hc) (λb o hc e=>u.there b o e hc) u.WX u.Oo u.WT (λm' hm=>by
  obtain⟨o',es',ep',ho',r'⟩:=hm
  rw[ho]at ho';cases ho'
  exact⟨_,es',ep',hL,r'⟩) eI hg
def Inv.turned{t':Nat}{it:Addr}(I:Inv X pins σ H s)(k:∀b o,b≠it->s.heap.get? b=some o->h'.get? b=some o)(hn:H it=none)(hL:it≠X.env.locals)
  (h1:it∈X.ex\/X.Nq.heap.objs.size<=it) (h2:∀x c,X.env.cells.lookup x=some c->c≠it) (h3:∀p∈X.pn++pins,p.1≠it):Inv X pins σ H { s with heap:=h',toks:=t' }:=by
 have nit:∀b u,H b=some u->b≠it:=λb u e z=>by rw[z,hn]at e;cases e
 refine I.step (g':=s.gens) (d':=s.drawn) (ch:=[it]) (λb hb=>?_) (λb o _ _ hc e _=>k b o (λz=>hc (by simp[z])) e) (λb o _ _ hc e _=>⟨o.slots,k b o (λz=>hc (by simp[z])) e⟩) (λ_ _ _ _ n=>n)
  (λb o hc e=>⟨o,k b o (λz=>hc (by simp[z])) e⟩) (λ_ _ e=>e) (λ_ _ _ e=>e) (λb ps e=>⟨#[],by rw[e];simp⟩) (λm hm=>?_) (λb u e=>?_) I.bare
 ·have e:b=it:=by simpa using hb
  subst e;exact⟨h1,hL,h2,h3⟩
 ·obtain⟨o,es,ep,ho,r⟩:=hm
  exact⟨o,es,ep,k _ o (aQW hL) ho,r⟩
 ·refine(I.eI b u e).stay (λc v hc q=>k c v ?_ q) (λ_ q=>q) λ_ _ q=>q
  rcases hc with z|z
  ·rw[z];exact nit b u e
  ·exact nit c _ z
def Inv.tok(I:Inv X pins σ H s)(t:Nat):Inv X pins σ H { s with toks:=t }:=I.un (h':=s.heap) (t':=t) Un.refl I.eI
theorem Inv.kept{t':Nat}(I:Inv X pins σ H s)(k:∀b u,s.heap.get? b=some u->h'.get? b=some u):Inv X pins σ H { s with heap:=h',toks:=t' }:=I.un (Un.kept k) (I.eI.kept k)
theorem Inv.laid{a:Addr}{o:HO}{t':Nat}(I:Inv X pins σ H s)(k:∀b u,s.heap.get? b=some u->h'.get? b=some u)(hp:s.heap.objs.size<=a)(new:eY X.prog X.w (upd H a o) h' a o):
  Inv X pins σ (upd H a o) { s with heap:=h',toks:=t' }:=I.un (Un.laid k hp (I.eI.fresh hp)) (I.eI.laid k hp new)
theorem Inv.write{x e:Addr}{o:HO}{t':Nat}(I:Inv X pins σ H s)(mu:Mut (H x))(he:e=x\/H e=some (.own x))(k:∀b u,b≠e->s.heap.get? b=some u->h'.get? b=some u)(heo:∃u,h'.get? e=some u)
  (new:eY X.prog X.w (upd H x o) h' x o):Inv X pins σ (upd H x o) { s with heap:=h',toks:=t' }:=I.un (Un.write mu he k heo) (I.eI.write mu he k heo new)
def Inv.weak{σ':List (Option V)}(I:Inv X pins σ H s)(hl:σ'.length=σ.length)(w:∀(i:Nat) v,σ'[i]?=some (some v)->σ[i]?=some (some v)):Inv X pins σ' H s:=
 ⟨I.ok,I.os,I.bare,I.base,let⟨m,hn,hl'⟩:=I.loc;⟨m,hn,λi x v e1 e2 e3=>hl' i x v e1 (w i v e2) e3⟩,I.cell,I.free,I.CG,I.pin,I.eI,hl.trans I.len⟩
def Inv.pins_of{pins':List (Addr×Obj)}(I:Inv X pins σ H s)(h:∀p∈pins',s.heap.get? p.1=some p.2/\H p.1=none/\p.1≠X.env.locals/\p.1∉X.fs/\∀v,p.2.data≠.cell v):Inv X pins' σ H s:=
 ⟨I.ok,I.os,I.bare,I.base,I.loc,I.cell,I.free,I.CG,λp hp=>(aMX.mp hp).elim (λz=>I.pin p (aN3 _ z)) (h p),I.eI,I.len⟩
def LW{N:List Str}(hN:N.Nodup){i j:Nat}{x:Str}(a:N[i]?=some x)(b:N[j]?=some x):i=j:=by
 obtain⟨h1,e1⟩:=aM0.mp a
 obtain⟨h2,e2⟩:=aM0.mp b
 exact(List.getElem_inj hN).mp (e1.trans e2.symm)
def OF{M:Model}{A:Around}{E:Value->Shared->Prop}{i:Nat}{x:Str}{v:V}{u:Value}{Q:Unit->Shared->Prop}(I:Inv X pins σ H s)(hN:X.N.Nodup)(hi:X.N[i]?=some x)(hx:Loc X.env.scope x)(r:dG v u)
  (h:∀s',Inv X pins (σ.set i (some v)) H s'->(∃a,aQ3 a s.heap s'.heap/\(a=X.env.locals\/X.env.cells.lookup x=some a))->Q () s') (hf:X.fn x=true\/X.env.scope.names.lookup x=some .local:=by first|exact .inl rfl|exact .inr rfl|assumption):wpAny M A (storeName X.env x u) Q E s:=by
 obtain⟨m,hn,hl⟩:=id I.loc
 have aIT:(X.env.scope.kind==.class||(X.env.scope.kind==.module&&X.env.locals !=X.env.globals))=false:=by rw[I.ok.kind];rfl
 have hiσ:i<σ.length:=by rw[I.len];exact(aM0.mp hi).1
 have cne:=I.cne;have fk:∀{a:Addr} {h':Heap},(∃o,s.heap.get? a=some o/\H a=none)->aQ3 a s.heap h'->CD X.prog X.w H h':=fun{a h'} ha hs b ob e=>by
  obtain⟨_,_,Of⟩:=ha
  refine(I.eI b ob e).stay (λc w' hc q=>(hs.2 c ?_).trans q) (λ_ q=>q) λ_ _ q=>q
  rintro rfl;rcases hc with rfl|hc
  ·rw[Of]at e;cases e
  ·rw[Of]at hc;cases hc
 rcases hx with hk|hk
 ·refine wpAny_storeName_local hk hn (λh' hn' hs=>?_) aIT;obtain⟨oL,_,_,hoL,_⟩:=id hn;refine h _ ⟨I.ok,I.os,I.bare,⟨λb o e n hb hx=>?_,λb o e n hb hx=>?_,I.base.free,λb o e hx=>?_,I.base.WX,I.base.Oo,I.base.WT⟩,⟨_,hn',λj y v' e1 e2 e3=>?_⟩,λy c e=>?_,I.free,I.CG,λp hp=>?_,fk ⟨oL,hoL,I.free⟩ hs,by simpa using I.len⟩ ⟨_,hs,.inl rfl⟩
  ·exact(hs.2 b (aNK (aNN (aP8 e) I.ok.above))).trans (I.base.keep b o e n hb hx)
  ·obtain⟨sl,e1⟩:=I.base.slot b o e n hb hx
   exact⟨sl,(hs.2 b (aNK (aNN (aP8 e) I.ok.above))).trans e1⟩
  ·obtain⟨o',e1⟩:=I.base.there b o e hx
   exact⟨o',(hs.2 b (aNK (aNN (aP8 e) I.ok.above))).trans e1⟩
  ·by_cases hj:j=i
   ·subst hj;rw[hi]at e1;cases e1;rw[aOC hiσ]at e2;cases e2;exact⟨u,r,.inl ⟨hk,by simp⟩⟩
   ·rw[aNh (aQW hj)]at e2
    obtain⟨u',r',q⟩:=hl j y v' e1 e2 e3
    refine⟨u',r',?_⟩
    rcases q with⟨k,e⟩|⟨k,c,e,z⟩
    ·refine .inl ⟨k,?_⟩;have:y≠x:=λe=>hj (LW hN e1 (e▸hi));simp[this,e]
    ·exact .inr ⟨k,c,e,z.sameBut hs (cne y c e)⟩
  ·obtain⟨w',z⟩:=I.cell y c e
   exact⟨w',z.sameBut hs (cne y c e)⟩
  ·obtain⟨e,n,ne,nf,d⟩:=I.pin p hp
   exact⟨(hs.2 p.1 ne).trans e,n,ne,nf,d⟩
 ·have hfn:X.fn x=true:=by
   rcases hf with z|z
   ·exact z
   ·rw[z]at hk;cases hk
  obtain⟨c,hc⟩:=I.ok.has x (.inl hk)
  obtain⟨w',z⟩:=I.cell x c hc
  refine wpAny_storeName_cell I.ok.kind hk hc z (λh' hc' hs=>?_);obtain⟨oc,hoc,aHI⟩:=id z;refine h { s with heap:=h' } ⟨I.ok,I.os,I.bare,⟨λb o e n hb hx=>?_,λb o e n hb hx=>?_,I.base.free,λb o e hx=>?_,I.base.WX,I.base.Oo,I.base.WT⟩,⟨m,hn.sameBut hs (aQW (cne x c hc)),λj y v' e1 e2 e3=>?_⟩,λy c' e=>?_,I.free,I.CG,λp hp=>?_,fk ⟨oc,hoc,I.CG x c hc⟩ hs,by simpa using I.len⟩ ⟨c,hs,.inr hc⟩
  ·exact(hs.2 b (aNK (aNN (aP8 e) (I.ok.cab x c hfn hc)))).trans (I.base.keep b o e n hb hx)
  ·obtain⟨sl,e1⟩:=I.base.slot b o e n hb hx
   exact⟨sl,(hs.2 b (aNK (aNN (aP8 e) (I.ok.cab x c hfn hc)))).trans e1⟩
  ·obtain⟨o',e1⟩:=I.base.there b o e hx
   exact⟨o',(hs.2 b (aNK (aNN (aP8 e) (I.ok.cab x c hfn hc)))).trans e1⟩
  ·by_cases hj:j=i
   ·subst hj;rw[hi]at e1;cases e1;rw[aOC hiσ]at e2;cases e2;exact⟨u,r,.inr ⟨.inl hk,c,hc,hc'⟩⟩
   ·rw[aNh (aQW hj)]at e2
    obtain⟨u',r',q⟩:=hl j y v' e1 e2 e3
    refine⟨u',r',?_⟩
    rcases q with q|⟨k,c',e,z'⟩
    ·exact .inl q
    ·refine .inr ⟨k,c',e,z'.sameBut hs ?_⟩;rintro rfl;exact hj (LW hN e1 (I.ok.inj _ _ _ e hc▸hi))
  ·by_cases hcc:c'=c
   ·subst hcc;exact⟨_,hc'⟩
   ·obtain⟨w2,z2⟩:=I.cell y c' e
    exact⟨w2,z2.sameBut hs hcc⟩
  ·obtain⟨e,n,ne,nf,d⟩:=I.pin p hp
   refine⟨(hs.2 p.1 ?_).trans e,n,ne,nf,d⟩
   intro q;rw[q,hoc]at e;have q':oc=p.2:=aP6 e;exact d w' (by rw[<-q'];exact aHI)
def LY{M:Model}{A:Around}{E:Value->Shared->Prop}{i:Nat}{x:Str}{v:V}{u:Value}{Q:Unit->Shared->Prop}(I:Inv X pins σ H s)(hN:X.N.Nodup)(hi:X.N[i]?=some x)(hx:Loc X.env.scope x)(r:dG v u)
  (h:∀s',Inv X pins (σ.set i (some v)) H s'->Q () s') (hf:X.fn x=true\/X.env.scope.names.lookup x=some .local:=by first|exact .inl rfl|exact .inr rfl|assumption):wpAny M A (storeName X.env x u) Q E s:=
 OF I hN hi hx r (λs' I' _=>h s' I') hf
def Inv.call'{s':Shared}{ch:List Addr}(I:Inv X pins σ H s)(ho:s'.os=s.os)(u:Un (md X.stack) ch H H' s.heap s'.heap)(eI:CD X.prog X.w H' s'.heap)(hg:AllBare s'.gens)
  (FQ:∀b∈ch,(b∈X.ex\/X.Nq.heap.objs.size<=b)/\b≠X.env.locals/\(∀x c,X.env.cells.lookup x=some c->c≠b)/\∀p∈X.pn++pins,p.1≠b):Inv X pins σ H' s':=by
 obtain⟨h',g',d',t',o'⟩:=s'
 have e:o'=s.os:=ho;subst e;exact I.call (g':=g') (t':=t') (d':=d') u eI hg FQ
end
abbrev XK:=Value->Option Addr->Hp->Prop
abbrev St:=List (Option V)
abbrev VK:=V->Hp->Prop
abbrev TE:=St->Hp->VK->Prop
abbrev TT:=St->Hp->(Bool->Hp->Prop)->Prop
abbrev TA:=St->Hp->(List V->Hp->Prop)->Prop
structure IH where
 nx:St->Hp->Prop
 rt:VK
 bk:St->Hp->Prop:=λ_ _=>False
 ct:St->Hp->Prop:=λ_ _=>False
abbrev TS:=IH->St->Hp->Prop
def EP(X:Cx)(pins:List (Addr×Obj))(σ:St)(Q:VK)(u:Value)(s':Shared):Prop:=∃v H',Inv X pins σ H' s'/\dG v u/\Q v H'
def TP(X:Cx)(pins:List (Addr×Obj))(σ:St)(Q:Bool->Hp->Prop)(b:Bool)(s':Shared):Prop:=∃H',Inv X pins σ H' s'/\Q b H'
def AP(X:Cx)(pins:List (Addr×Obj))(σ:St)(Q:List V->Hp->Prop)(us:List Value)(s':Shared):Prop:=∃vs H',Inv X pins σ H' s'/\cJ vs us/\Q vs H'
def SP(X:Cx)(pins:List (Addr×Obj))(D:IH)(f:Flow)(s':Shared):Prop:=
 match f with
 |.next=>∃σ' H',Inv X pins σ' H' s'/\D.nx σ' H'
 |.brk=>∃σ' H',Inv X pins σ' H' s'/\D.bk σ' H'
 |.cont=>∃σ' H',Inv X pins σ' H' s'/\D.ct σ' H'
 |.ret u=>∃v σ' H',Inv X pins σ' H' s'/\dG v u/\D.rt v H'
def PE(X:Cx)(e:Expr)(t:TE):Prop:=
 ∀(pins:List (Addr×Obj)) (s:Shared) (σ:St) (H:Hp) (Q:VK),Inv X pins σ H s->t σ H Q->wpAny (model X.prog X.w) X.A (eval e X.env) (EP X pins σ Q) X.xe s
def PT(X:Cx)(e:Expr)(t:TT):Prop:=
 ∀(pins:List (Addr×Obj)) (s:Shared) (σ:St) (H:Hp) (Q:Bool->Hp->Prop),Inv X pins σ H s->t σ H Q->wpAny (model X.prog X.w) X.A (isTrue e X.env (eval e X.env)) (TP X pins σ Q) X.xe s
def PW(X:Cx)(e:Expr)(t:TT):Prop:=
 ∀(whole:Sem Value) (pins:List (Addr×Obj)) (s:Shared) (σ:St) (H:Hp) (Q:Bool->Hp->Prop),Inv X pins σ H s->t σ H Q->wpAny (model X.prog X.w) X.A (isTrue e X.env whole) (TP X pins σ Q) X.xe s
def PW.pt{X:Cx}{e:Expr}{t:TT}(h:PW X e t):PT X e t:=h _
def PA(X:Cx)(es:List Expr)(t:TA):Prop:=
 ∀(pos:Pos) (pins:List (Addr×Obj)) (s:Shared) (σ:St) (H:Hp) (Q:List V->Hp->Prop),Inv X pins σ H s->t σ H Q->wpAny (model X.prog X.w) X.A (spliced (backTo pos (starEach es X.env))) (AP X pins σ Q) X.xe s
def PS(X:Cx)(st:Stmt)(t:TS):Prop:=
 ∀(pins:List (Addr×Obj)) (s:Shared) (σ:St) (H:Hp) (D:IH),Inv X pins σ H s->t D σ H->wpAny (model X.prog X.w) X.A (exec st X.env) (SP X pins D) X.xe s
def Yo(X:Cx)(st:List Stmt)(t:TS):Prop:=
 ∀(pins:List (Addr×Obj)) (s:Shared) (σ:St) (H:Hp) (D:IH),Inv X pins σ H s->t D σ H->wpAny (model X.prog X.w) X.A (execs st X.env) (SP X pins D) X.xe s
def gD{α:Type}{t:Sem α}{Q Q':α->Shared->Prop}{M:Model}{A:Around}{E:Value->Shared->Prop}{s:Shared}(h:wpAny M A t Q E s)(hQ:∀a s,Q a s->Q' a s):wpAny M A t Q' E s:=wpAny_mono h hQ λ_ _ x=>x
end L2
namespace L2
open PySem PySem.Spec PyProof.Rows
section
variable{X:Cx}
def bin{a b:Expr}{ta tb:TE}(ha:PE X a ta)(hb:PE X b tb){pins:List (Addr×Obj)}{s:Shared}{σ:St}{H:Hp}{R:V->V->Hp->Prop}(I:Inv X pins σ H s)(h:ta σ H λx H1=>tb σ H1 λy H2=>R x y H2)
  {α:Type} {Q:α->Shared->Prop} {f:Value->Value->Sem α}
  (hf:∀v u s2 x y H2,Inv X pins σ H2 s2->dG x v->dG y u->R x y H2->wpAny (model X.prog X.w) X.A (f v u) Q X.xe s2):
  wpAny (model X.prog X.w) X.A (eval a X.env) (λv s₁=>wpAny (model X.prog X.w) X.A (eval b X.env) (λu s₂=>wpAny (model X.prog X.w) X.A (f v u) Q X.xe s₂) X.xe s₁) X.xe s:=by
 refine gD (ha pins s σ H _ I h) λv s1 ⟨x,H1,I1,r1,q1⟩=>?_;refine gD (hb pins s1 σ H1 _ I1 q1) λu s2 ⟨y,H2,I2,r2,q2⟩=>?_;exact hf v u s2 x y H2 I2 r1 r2 q2
inductive t9(i:Nat)(σ:St)(H:Hp)(Q:VK):Prop
 |mk:∀v,σ[i]?=some (some v)->Q v H->t9 i σ H Q
def tC(v:V):TE:=λ_ H Q=>Q v H
def aCT{i:Nat}{x:Str}{pos:Pos}(hN:X.N[i]?=some x)(hv:Vis X.env.scope x)(hd:(x==("__debug__":Str))=false:=by decide)(ku:(x==("__classdict__":Str))=false:=by decide):PE X (.Name x pos) (t9 i):=by
 intro pins s σ H Q I h;obtain⟨v,e,h⟩:=h;obtain⟨m,hn,hl⟩:=I.loc;obtain⟨u,r,l⟩:=hl i x v hN e hv;have fin:EP X pins σ Q u s:=⟨v,H,I,r,h⟩;rcases l with⟨hk,hm⟩|⟨hk,c,hc,fi⟩
 ·exact wpAny_Name (wpAny_loadName_local I.ok.kind hk hn hm fin) hd
 ·rcases hk with hk | hk
  ·exact wpAny_Name (wpAny_loadName_cell I.ok.kind hk hc fi fin) hd
  ·exact wpAny_Name (wpAny_loadName_free I.ok.kind hk hc fi fin ku) hd
def aG{i j pos}:PE X (.Constant (.int i) j pos) (tC (.int i)):=λ_ _ _ H _ I h=>wpAny_Constant_int ⟨.int i,H,I.tok _,⟨_,rfl⟩,h⟩
def jQ{b j pos}:PE X (.Constant (.bool b) j pos) (tC (.bl b)):=λ_ _ _ H _ I h=>Constant_bool ⟨.bl b,H,I,rfl,h⟩
def kO{j pos}:PE X (.Constant .none j pos) (tC .non):=λ_ _ _ H _ I h=>Constant_none ⟨.non,H,I,rfl,h⟩
def Gl(X:Cx)(x:Str):Prop:=X.env.kindOf x=some .globalImplicit
def Kp{E:Value->Shared->Prop}{pins:List (Addr×Obj)}{s:Shared}{σ:St}{H:Hp}{x:Str}{u:Value}{pos:Pos}{Q:Value->Shared->Prop}(I:Inv X pins σ H s)(hg:Gl X x)(hm:X.mg x=some u)(h:Q u s)
  (hd:(x==("__debug__":Str))=false:=by decide):wpAny (model X.prog X.w) X.A (eval (.Name x pos) X.env) Q E s:=
 aQq I.ok.kind hg (Calls.loadGlobal_global (by rw[I.ok.glob];exact I.mod.glob.keeps I.bk) hm h) hd
def IM{E:Value->Shared->Prop}{pins:List (Addr×Obj)}{s:Shared}{σ:St}{H:Hp}{x:Str}{u:Value}{pos:Pos}{Q:Value->Shared->Prop}(I:Inv X pins σ H s)(hg:Gl X x)(hm:X.mg x=none)(hv:bootBuiltins x=some u)(h:Q u s)
  (hn:x≠"__name__":=by decide) (hd:(x==("__debug__":Str))=false:=by decide):wpAny (model X.prog X.w) X.A (eval (.Name x pos) X.env) Q E s:=by
 obtain⟨mb,h1,h2⟩:=I.mod.blt
 exact aQq I.ok.kind hg (Calls.loadGlobal_builtin (by rw[I.ok.glob];exact I.mod.glob.keeps I.bk) hm (by rw[I.ok.blt];exact h1.keeps I.bk) ((h2 x hn).trans hv) h) hd
def AW{x:Str}{v:V}{u:Value}{pos:Pos}(hg:Gl X x)(hm:X.mg x=some u)(r:dG v u)(hd:(x==("__debug__":Str))=false:=by decide):PE X (.Name x pos) (tC v):=
 λ_ _ _ H _ I h=>Kp I hg hm ⟨v,H,I,r,h⟩ hd
variable{a b:Expr}{ta tb:TE}{pos:Pos}
def PC(X:Cx)(op:CmpOp)(a b:Expr)(t:TE):Prop:=
 ∀(pins:List (Addr×Obj)) (s:Shared) (σ:St) (H:Hp) (Q:VK),Inv X pins σ H s->t σ H Q->
  wpAny (model X.prog X.w) X.A (eval a X.env) (λv s₁=>wpAny (model X.prog X.w) X.A (eval b X.env) (λu s₂=>wpAny (model X.prog X.w) X.A (compareOp op v u) (EP X pins σ Q) X.xe s₂) X.xe s₁) X.xe s
def W5(b:Expr){op:CmpOp}(h:op≠.In)(h2:op≠.NotIn):behindInMarks op b=false:=by
 have e1:(op==CmpOp.In)=false:=by cases op<;>first|rfl|exact absurd rfl h
 have e2:(op==CmpOp.NotIn)=false:=by cases op<;>first|rfl|exact absurd rfl h2
 cases b<;>simp[behindInMarks,e1,e2]
def ft(ta:TE):TE:=fun σ H Q=>ta σ H λx H1=>Q (.bl (decide (x=.non))) H1
def aE4(ta:TE):TE:=fun σ H Q=>ta σ H λx H1=>Q (.bl (!decide (x=.non))) H1
def dG.none_iff{x:V}{v:Value}(r:dG x v):(v==aPv)=decide (x=.non):=by
 cases x with
 |non=>cases r;rfl
 |bl _=>cases r;rfl
 |int _=>obtain⟨t,rfl⟩:=r;rfl
 |str _=>obtain⟨t,rfl⟩:=r;rfl
 |byt _=>obtain⟨t,rfl⟩:=r;rfl
 |flt _=>obtain⟨t,rfl⟩:=r;rfl
 |ref _=>cases r;rfl
 |ty _=>cases r;rfl
def lJ{j pos'}(ha:PE X a ta):PC X .Is a (.Constant .none j pos') (ft ta):=by
 intro pins s σ H Q I h;refine gD (ha pins s σ H _ I h) λv s1 ⟨x,H1,I1,r1,q1⟩=>?_;exact Constant_none (is_none_gen ⟨.bl _,H1,I1,by rw[r1.none_iff];rfl,q1⟩)
def vU{j pos'}(ha:PE X a ta):PC X .IsNot a (.Constant .none j pos') (aE4 ta):=by
 intro pins s σ H Q I h;refine gD (ha pins s σ H _ I h) λv s1 ⟨x,H1,I1,r1,q1⟩=>?_;exact Constant_none (isnot_none_gen ⟨.bl _,H1,I1,by rw[r1.none_iff];rfl,q1⟩)
inductive tBE(Q:Bool->Hp->Prop)(x:V)(H1:Hp):Prop
 |mk:∀c,x=.bl c->Q c H1->tBE Q x H1
def tB(t:TE):TT:=fun σ H Q=>t σ H λx H1=>tBE Q x H1
def PD{op:CmpOp}{t:TE}(h:PC X op a b t)(h1:behindInMarks op b=false:=by first|exact W5 _ (by decide) (by decide)|rfl):PE X (.Compare a [op] [b] pos) t:=λpins s σ H Q I hw=>wpAny_Compare1 (h pins s σ H Q I hw) h1
def gY{op:CmpOp}{t:TE}(h:PC X op a b t)(h1:behindInMarks op b=false:=by first | exact W5 _ (by decide) (by decide) | rfl):PT X (.Compare a [op] [b] pos) (tB t):=by
 intro pins s σ H Q I hw;refine wpAny_isTrue_Compare1 (gD (h pins s σ H _ I hw) λv s1 h1=>gD h1 λu s2 h2=>gD h2 λc s3 ⟨x,H1,I1,r1,q1⟩=>?_) h1;obtain⟨d,rfl,q⟩:=q1;cases r1;exact aPi ⟨H1,I1,q⟩
def dC{e:Expr}{t:TE}(h:PE X e t)(he:∀whole,isTrue e X.env whole=(do let v <-whole;standAt e.pos;holding [v] (truthy v)):=by intro _;rfl):PT X e (tB t):=by
 intro pins s σ H Q I hw;refine isTrue_plain (gD (h pins s σ H _ I hw) λv s1 ⟨x,H1,I1,r1,q1⟩=>?_) (he _);obtain⟨d,rfl,q⟩:=q1;cases r1;exact aPi ⟨H1,I1,q⟩
variable{tA tB':TT}{kR:List Expr}
def aHB(t u:TT):TT:=fun σ H Q=>t σ H λc H1=>if c=true then u σ H1 Q else Q false H1
def tOr(t u:TT):TT:=fun σ H Q=>t σ H λc H1=>if c=true then Q true H1 else u σ H1 Q
def aGx(t:TT):TT:=fun σ H Q=>t σ H λc H1=>Q (!c) H1
def sY(ha:PT X a tA):PW X (.BoolOp .And [a] pos) tA:=by
 intro wh pins s σ H Q I h;refine isTrue_and (gD (ha pins s σ H Q I h) λc s1 e=>?_);cases c with
 |true=>exact isTrue_and_nil e
 |false=>exact e
def gX(ha:PT X a tA):PW X (.BoolOp .Or [a] pos) tA:=by
 intro wh pins s σ H Q I h;refine isTrue_or (gD (ha pins s σ H Q I h) λc s1 e=>?_);cases c with
 |false=>exact isTrue_or_nil e
 |true=>exact e
def w9(ha:PT X a tA)(hb:PW X (.BoolOp .And (b::kR) pos) tB'):PW X (.BoolOp .And (a::b::kR) pos) (aHB tA tB'):=by
 intro wh pins s σ H Q I h;refine isTrue_and (gD (ha pins s σ H _ I h) λc s1 ⟨H1,I1,q1⟩=>?_);cases c with
 |true=>exact hb wh pins s1 σ H1 Q I1 q1
 |false=>exact⟨H1,I1,q1⟩
def jR(ha:PT X a tA)(hb:PW X (.BoolOp .Or (b::kR) pos) tB'):PW X (.BoolOp .Or (a::b::kR) pos) (tOr tA tB'):=by
 intro wh pins s σ H Q I h;refine isTrue_or (gD (ha pins s σ H _ I h) λc s1 ⟨H1,I1,q1⟩=>?_);cases c with
 |true=>exact⟨H1,I1,q1⟩
 |false=>exact hb wh pins s1 σ H1 Q I1 q1
def fG(ha:PT X a tA):PT X (.UnaryOp .Not a pos) (aGx tA):=by
 intro pins s σ H Q I h;exact isTrue_not (ha pins s σ H (λc H1=>Q (!c) H1) I h)
def aBD(ta tb:TE):TE:=fun σ H Q=>ta σ H λx H1=>∃c,x=.bl c/\if c=true then tb σ H1 Q else Q (.bl false) H1
def aDw(ta tb:TE):TE:=fun σ H Q=>ta σ H λx H1=>∃c,x=.bl c/\if c=true then Q (.bl true) H1 else tb σ H1 Q
def LF{op}{t:TE}(h:PE X a t):PE X (.BoolOp op [a] pos) t:=λpins s σ H Q I hw=>BoolOp_one (h pins s σ H Q I hw)
def ZD(ha:PE X a ta)(hb:PE X (.BoolOp .And (b::kR) pos) tb):PE X (.BoolOp .And (a::b::kR) pos) (aBD ta tb):=by
 intro pins s σ H Q I h;refine BoolOp_and (gD (ha pins s σ H _ I h) λv s1 ⟨x,H1,I1,r1,q1⟩=>?_);obtain⟨c,rfl,q1⟩:=q1;cases r1;refine aPi ?_;cases c with
 |true=>exact hb pins s1 σ H1 Q I1 q1
 |false=>exact⟨.bl false,H1,I1,rfl,q1⟩
def aAj(ha:PE X a ta)(hb:PE X (.BoolOp .Or (b::kR) pos) tb):PE X (.BoolOp .Or (a::b::kR) pos) (aDw ta tb):=by
 intro pins s σ H Q I h;refine BoolOp_or (gD (ha pins s σ H _ I h) λv s1 ⟨x,H1,I1,r1,q1⟩=>?_);obtain⟨c,rfl,q1⟩:=q1;cases r1;refine aPi ?_;cases c with
 |false=>exact hb pins s1 σ H1 Q I1 q1
 |true=>exact⟨.bl true,H1,I1,rfl,q1⟩
def tIf(t:TT)(ta tb:TE):TE:=fun σ H Q=>t σ H λc H1=>if c=true then ta σ H1 Q else tb σ H1 Q
def eM{c:Expr}(hc:PT X c tA)(ha:PE X a ta)(hb:PE X b tb):PE X (.IfExp c a b pos) (tIf tA ta tb):=by
 intro pins s σ H Q I h;refine wpAny_IfExp (gD (hc pins s σ H _ I h) λd s1 ⟨H1,I1,q1⟩=>?_);cases d with
 |true=>exact ha pins s1 σ H1 Q I1 q1
 |false=>exact hb pins s1 σ H1 Q I1 q1
end
end L2
namespace L2
open PySem PySem.Spec PyProof.Rows
def aZ(K:aMC)(H:Hp)(a:Addr)(xs:List V):Prop:=
 Rd H a (.lst xs)\/
  ∃(o:Obj) (bN:Array Value) (n:Nat),K.lookup a=some o/\o.cls=.type "list"/\o.dict=none/\o.data=.seq bN n/\bN.size<=sizeLine/\cJ xs bN.toList
def eE(K:aMC)(H:Hp)(a:Addr)(xs:List V):Prop:=
 Rd H a (.tup xs)\/
  ∃(o:Obj) (bN:Array Value) (n:Nat),K.lookup a=some o/\o.cls=.type "tuple"/\o.data=.seq bN n/\bN.size<=sizeLine/\cJ xs bN.toList
def aHC:Value->Option V
 |.none=>some .non
 |.bool b=>some (.bl b)
 |.int i _=>some (.int i)
 |.str x _=>some (.str x)
 |.bytes b _=>some (.byt b)
 |.float b _=>some (.flt b)
 |.ref a=>some (.ref a)
 |.type n=>some (.ty n)
 |_=>none
def dG.abs{x:V}{u:Value}(r:dG x u):aHC u=some x:=by
 cases x with
 |non=>cases r;rfl
 |bl _=>cases r;rfl
 |int _=>obtain⟨t,rfl⟩:=r;rfl
 |str _=>obtain⟨t,rfl⟩:=r;rfl
 |byt _=>obtain⟨t,rfl⟩:=r;rfl
 |flt _=>obtain⟨t,rfl⟩:=r;rfl
 |ref _=>cases r;rfl
 |ty _=>cases r;rfl
def dG.inj{x y:V}{u:Value}(r:dG x u)(q:dG y u):x=y:=aP6 (r.abs.symm.trans q.abs)
theorem cJ.inj:∀{xs ys:List V} {us:List Value},cJ xs us->cJ ys us->xs=ys
 |_,_,_,.nil,.nil=>rfl
 |_,_,_,.cons r t,.cons r' t'=>by rw[r.inj r',cJ.inj t t']
section
variable{X:Cx}{pins:List (Addr×Obj)}{σ:St}{H:Hp}{s:Shared}{a:Addr}{xs ys:List V}
def aZ.of{K:aMC}(h:H a=some (.lst xs)):aZ K H a xs:=.inl (.inl h)
def eE.of{K:aMC}(h:H a=some (.tup xs)):eE K H a xs:=.inl (.inl h)
def Inv.list(I:Inv X pins σ H s)(h:aZ X.K H a xs):∃bN:List Value,cJ xs bN/\PlainL s.heap a bN.toArray/\xs.length<=sizeLine:=by
 rcases h with h|⟨o,bN,n,hk,hc,hd,hs,hz,r⟩
 ·obtain⟨z,bN,n,r,e⟩:=h.ok I.eI
  exact⟨bN,r,⟨_,n,e,rfl,rfl,rfl⟩,z⟩
 ·refine⟨bN.toList,r,⟨o,n,I.kIn a o hk,hc,hd,by simpa using hs⟩,?_⟩
  have e:=r.length;simp only[aPj]at e;omega
def Inv.tuple(I:Inv X pins σ H s)(h:eE X.K H a xs):∃bN:List Value,cJ xs bN/\IsTup s.heap a bN.toArray/\xs.length<=sizeLine:=by
 rcases h with h|⟨o,bN,n,hk,hc,hs,hz,r⟩
 ·obtain⟨z,bN,r,p⟩:=h.ok I.eI
  exact⟨bN,r,p,z⟩
 ·refine⟨bN.toList,r,⟨o,I.kIn a o hk,hc,n,by simpa using hs⟩,?_⟩
  have e:=r.length;simp only[aPj]at e;omega
def Inv.list_inj(I:Inv X pins σ H s)(h:aZ X.K H a xs)(h':aZ X.K H a ys):xs=ys:=by
 obtain⟨bN,r,⟨o,n,e,_,_,d⟩,_⟩:=I.list h
 obtain⟨its',r',⟨o',n',e',_,_,d'⟩,_⟩:=I.list h'
 rw[e]at e';cases e'
 rw[d]at d'
 injection d' with d1 _;have:bN=its':=by simpa using congrArg Array.toList d1
 subst this;exact r.inj r'
def Inv.tuple_inj(I:Inv X pins σ H s)(h:eE X.K H a xs)(h':eE X.K H a ys):xs=ys:=by
 obtain⟨bN,r,⟨o,e,_,n,d⟩,_⟩:=I.tuple h
 obtain⟨its',r',⟨o',e',_,n',d'⟩,_⟩:=I.tuple h'
 rw[e]at e';cases e'
 rw[d]at d'
 injection d' with d1 _;have:bN=its':=by simpa using congrArg Array.toList d1
 subst this;exact r.inj r'
end
abbrev Cx.wish(X:Cx)(E:Value->Shared->Prop):Cx:={ X with xe:=E }
abbrev Cx.nox(X:Cx):Cx:=X.wish λ_ _=>False
theorem Cx.Ok.wish{X:Cx}(ok:X.Ok)(E:Value->Shared->Prop):(X.wish E).Ok:=
 ⟨ok.mod,ok.kind,ok.glob,ok.blt,ok.above,ok.inj,ok.has,ok.cab,ok.hd,ok.frames,ok.stk,ok.exf,ok.bs,ok.wk,ok.ml,ok.mf,ok.KO,ok.frf⟩
def Cx.Ok.unwish{X:Cx}{E:Value->Shared->Prop}(ok:(X.wish E).Ok):X.Ok:=
 ⟨ok.mod,ok.kind,ok.glob,ok.blt,ok.above,ok.inj,ok.has,ok.cab,ok.hd,ok.frames,ok.stk,ok.exf,ok.bs,ok.wk,ok.ml,ok.mf,ok.KO,ok.frf⟩
section
variable{X:Cx}{pins:List (Addr×Obj)}{σ:St}{H:Hp}{s:Shared}{E:Value->Shared->Prop}
theorem Inv.wish(I:Inv X pins σ H s)(E:Value->Shared->Prop):Inv (X.wish E) pins σ H s:=⟨I.ok.wish E,I.os,I.bare,I.base,I.loc,I.cell,I.free,I.CG,I.pin,I.eI,I.len⟩
theorem Inv.unwish(I:Inv (X.wish E) pins σ H s):Inv X pins σ H s:=⟨I.ok.unwish,I.os,I.bare,I.base,I.loc,I.cell,I.free,I.CG,I.pin,I.eI,I.len⟩
theorem SP.unwish{D:IH}{f:Flow}{s':Shared}(h:SP (X.wish E) pins D f s'):SP X pins D f s':=by
 cases f with
 |next=>obtain⟨σ',H',I,q⟩:=h;exact⟨σ',H',I.unwish,q⟩
 |brk=>obtain⟨σ',H',I,q⟩:=h;exact⟨σ',H',I.unwish,q⟩
 |cont=>obtain⟨σ',H',I,q⟩:=h;exact⟨σ',H',I.unwish,q⟩
 |ret u=>obtain⟨v,σ',H',I,r,q⟩:=h;exact⟨v,σ',H',I.unwish,r,q⟩
theorem Yo.nox{st:List Stmt}{t:TS}(h:Yo X.nox st t):Yo X st t:=λpins s σ H D I hw=>
 wpAny_mono (h pins s σ H D (I.wish _) hw) (λ_ _ q=>q.unwish) λ_ _ z=>aPh z
end
section
variable{X:Cx}{st:Stmt}{kR:List Stmt}{t u:TS}{e:Expr}{te:TE}{pos:Pos}
def aE8:TS:=λD σ H=>D.nx σ H
def aGl(t u:TS):TS:=λD σ H=>t { D with nx:=u D } σ H
def aN:Yo X [] aE8:=λ_ _ σ H _ I h=>wpAny_execs_nil ⟨σ,H,I,h⟩
def aC(h1:PS X st t)(h2:Yo X kR u):Yo X (st::kR) (aGl t u):=by
 intro pins s σ H D I h;refine wpAny_execs_cons (gD (h1 pins s σ H { D with nx:=u D } I h) λf s1 q=>?_);cases f with
 | next=>
  obtain⟨σ',H',I',q⟩:=q
  exact h2 pins s1 σ' H' D I' q
 |ret v=>exact q
 |brk=>exact q
 |cont=>exact q
def aF(h1:PS X st t):Yo X [st] t:=by
 intro pins s σ H D I h;refine wpAny_execs_cons (gD (h1 pins s σ H D I h) λf s1 q=>?_);cases f with
 |next=>exact wpAny_execs_nil q
 |ret v=>exact q
 |brk=>exact q
 |cont=>exact q
def aES:TS:=λD σ H=>D.ct σ H
def J5:PS X (.Continue pos) aES:=λ_ _ σ H _ I h=>wpAny_Continue ⟨σ,H,I,h⟩
def Inv.quiet{pins:List (Addr×Obj)}{σ:St}{H:Hp}{s:Shared}(I:Inv X pins σ H s):interactive X.env=false:=by simp[interactive,I.ok.kind]
def aE9(te:TE):TS:=λD σ H=>te σ H λ_ H1=>D.nx σ H1
def cS(he:PE X e te)(hs:swapsWith e none pos.line X.env=pure false:=by rfl):PS X (.Expr e pos) (aE9 te):=by
 intro pins s σ H D I h;exact wpAny_Expr_any (gD (he pins s σ H _ I h) λv s1 ⟨x,H1,I1,r1,q1⟩=>⟨σ,H1,I1,q1⟩) I.quiet hs
def aEO(te:TE):TS:=λD σ H=>te σ H D.rt
def aI(he:PE X e te):PS X (.Return (some e) pos) (aEO te):=by
 intro pins s σ H D I h;exact wpAny_Return_some (gD (he pins s σ H _ I h) λv s1 ⟨x,H1,I1,r1,q1⟩=>⟨x,σ,H1,I1,r1,q1⟩)
def aGi(c:TT)(t u:TS):TS:=λD σ H=>c σ H λb H1=>if b=true then t D σ H1 else u D σ H1
def bE{c:Expr}{a b:List Stmt}{tc:TT}(hc:PT X c tc)(ha:Yo X a t)(hb:Yo X b u):PS X (.If c a b pos) (aGi tc t u):=by
 intro pins s σ H D I h;refine wpAny_If (gD (hc pins s σ H _ I h) λd s1 ⟨H1,I1,q1⟩=>?_);cases d with
 |true=>exact ha pins s1 σ H1 D I1 q1
 |false=>exact hb pins s1 σ H1 D I1 q1
end
abbrev TG:=V->St->Hp->(St->Hp->Prop)->Prop
abbrev TGs:=List V->St->Hp->(St->Hp->Prop)->Prop
def PG(X:Cx)(JU:Expr)(t:TG):Prop:=
 ∀(pins:List (Addr×Obj)) (s:Shared) (σ:St) (H:Hp) (v:V) (u:Value) (Q:St->Hp->Prop),Inv X pins σ H s->dG v u->t v σ H Q->
  wpAny (model X.prog X.w) X.A (assign JU X.env u) (λ_ s'=>∃σ' H',Inv X pins σ' H' s'/\Q σ' H') X.xe s
def PGs(X:Cx)(ts:List Expr)(t:TGs):Prop:=
 ∀(pins:List (Addr×Obj)) (s:Shared) (σ:St) (H:Hp) (vs:List V) (us:List Value) (Q:St->Hp->Prop),Inv X pins σ H s->cJ vs us->t vs σ H Q->
  wpAny (model X.prog X.w) X.A (assignInOrder ((assignEach ts X.env).map (·.2)) us) (λ_ s'=>∃σ' H',Inv X pins σ' H' s'/\Q σ' H') X.xe s
abbrev aBj:=V->V->V->Hp->(Hp->Prop)->Prop
def aDr(X:Cx)(t:aBj):Prop:=
 ∀(pins:List (Addr×Obj)) (s:Shared) (σ:St) (H:Hp) (o i v:V) (ov iv u:Value) (Q:Hp->Prop),Inv X pins σ H s->dG o ov->dG i iv->dG v u->t o i v H Q->
  wpAny (model X.prog X.w) X.A (setItem ov iv u) (λ_ s'=>∃H',Inv X pins σ H' s'/\Q H') X.xe s
abbrev TIp:=V->V->Hp->VK->Prop
def PIp(X:Cx)(op:Operator)(t:TIp):Prop:=
 ∀(pins:List (Addr×Obj)) (s:Shared) (σ:St) (H:Hp) (x y:V) (v u:Value) (Q:VK),Inv X pins σ H s->dG x v->dG y u->t x y H Q->
  wpAny (model X.prog X.w) X.A (inplaceOp op v u) (EP X pins σ Q) X.xe s
section
variable{X:Cx}{pos:Pos}
def Nr(i:Nat):TG:=λv σ H Q=>Q (σ.set i (some v)) H
def zr{i:Nat}{x:Str}(hN:X.N.Nodup)(hi:X.N[i]?=some x)(hx:Loc X.env.scope x)(hf:X.fn x=true\/X.env.scope.names.lookup x=some .local:=by first | exact .inl rfl | exact .inr rfl | assumption):PG X (.Name x pos) (Nr i):=by
 intro pins s σ H v u Q I r h;exact wpAny_assign_Name (LY I hN hi hx r (λs' I'=>⟨_,H,I',h⟩) hf)
def aGr:TGs:=λvs σ H Q=>vs=[]/\Q σ H
inductive aAm(t:TG)(u:TGs)(vs:List V)(σ:St)(H:Hp)(Q:St->Hp->Prop):Prop
 |mk:∀v r,vs=v::r->(t v σ H fun σ' H'=>u r σ' H' Q)->aAm t u vs σ H Q
def k8:PGs X [] aGr:=by
 intro pins s σ H vs us Q I r h;obtain⟨e,h⟩:=h;subst e;cases r;exact assignInOrder_nil ⟨σ,H,I,h⟩
def bY{e:Expr}{es:List Expr}{t:TG}{u:TGs}(h1:PG X e t)(h2:PGs X es u)
  (hs:(assignEach (e::es) X.env).map (·.2)=assign e X.env::(assignEach es X.env).map (·.2):=by rfl):PGs X (e::es) (aAm t u):=by
 intro pins s σ H vs us Q I r h;obtain⟨v,vr,e1,h⟩:=h;subst e1;cases r with
 | cons r rr=>
  rw[hs]
  refine assignInOrder_cons (gD (h1 pins s σ H _ _ _ I r h) λ_ s1 ⟨σ1,H1,I1,q1⟩=>?_);exact h2 pins s1 σ1 H1 _ _ Q I1 rr q1
inductive aBb(K:aMC)(n:Nat)(t:TGs)(v:V)(σ:St)(H:Hp)(Q:St->Hp->Prop):Prop
 |mk:∀a xs,v=.ref a->eE K H a xs->xs.length=n->t xs σ H Q->aBb K n t v σ H Q
def rO{es:List Expr}{k:Nat}{t:TGs}{n:Nat}(hc:X.calm=true)(h:PGs X es t)
  (hn:(assignEach es X.env).length=n:=by rfl) (rL:(assignEach es X.env).findIdx? (·.1)=none:=by rfl):PG X (.Tuple es k pos) (aBb X.K n t):=by
 intro pins s σ H v u Q I r hw;obtain⟨a,xs,e1,hq,hl,hw⟩:=hw;subst e1;cases r;obtain⟨bN,rv,ht,hz⟩:=I.tuple hq;refine assign_Tuple_tuple (I.ok.hd hc) ht (by simp[hn,<-hl,rv.length]) rL λh' hx=>?_
 have I1:Inv X pins σ H { s with heap:=h' }:=I.kept (t':=s.toks) λb o e=>hx b o (aNK (aP8 e)) e;exact h pins _ σ H xs _ Q I1 (by simpa using rv) hw
def aGq(to ti:TE)(t:aBj):TG:=λv σ H Q=>to σ H λo H1=>ti σ H1 λi H2=>t o i v H2 λH3=>Q σ H3
def FV{o i:Expr}{to ti:TE}{t:aBj}(ho:PE X o to)(hi:PE X i ti)(hs:aDr X t)
  (ha:∀v,assign (.Subscript o i pos) X.env v=(do
   let ov <-holding [v] (eval o X.env)
   let iv <-holding [v,ov] (eval i X.env)
   standAt pos
   holding [v,ov,iv] (setItem ov iv v)
   release [v,ov,iv] []):=by intro _;rfl):PG X (.Subscript o i pos) (aGq to ti t):=by
 intro pins s σ H v u Q I r h;rw[ha];refine wpAny_bind (aPz (gD (ho pins s σ H _ I h) λov s1 ⟨x,H1,I1,r1,q1⟩=>?_));refine wpAny_bind (aPz (gD (hi pins s1 σ H1 _ I1 q1) λiv s2 ⟨y,H2,I2,r2,q2⟩=>?_));refine wpAny_bind (wpAny_standAt (wpAny_bind (aPz (gD (hs pins s2 σ H2 x y v ov iv u _ I2 r1 r2 r q2) λ_ s3 ⟨H3,I3,q3⟩=>?_))));exact wpAny_release ⟨σ,H3,I3,q3⟩
def yd(te:TE)(g:TG):TS:=λD σ H=>te σ H λx H1=>g x σ H1 D.nx
def FU{tg e:Expr}{te:TE}{g:TG}(he:PE X e te)(hg:PG X tg g)(hs:swapsWithSole [tg] e pos.line X.env=pure false:=by rfl)(hw:swappedStores [tg] e X.env=pure none:=by rfl)
  (h1:(assignEach [tg] X.env).map (·.2)=[assign tg X.env]:=by rfl):PS X (.Assign [tg] e pos) (yd te g):=by
 intro pins s σ H D I h;refine wpAny_Assign_stores (gD (he pins s σ H _ I h) λv s1 ⟨x,H1,I1,r1,q1⟩=>?_) hs hw;rw[h1];exact gD (hg pins s1 σ H1 x v _ I1 r1 q1) λ_ s2 q=>q
def aCG{i:Nat}{x:Str}{e:Expr}{te:TE}{pos':Pos}(hN:X.N.Nodup)(hi:X.N[i]?=some x)(hx:Loc X.env.scope x)(he:PE X e te)(hs:swapsWith e (some (.Name x pos')) pos.line X.env=pure false:=by rfl)(hf:X.fn x=true\/X.env.scope.names.lookup x=some .local:=by first | exact .inl rfl | exact .inr rfl | assumption):
  PS X (.Assign [.Name x pos'] e pos) (yd te (Nr i)):=by
 intro pins s σ H D I h;refine wpAny_Assign_Name (gD (he pins s σ H _ I h) λv s1 ⟨y,H1,I1,r1,q1⟩=>?_) hs;exact LY I1 hN hi hx r1 (λs2 I2=>⟨_,H1,I2,q1⟩) hf
inductive aEF(i:Nat)(te:TE)(ti:TIp)(D:IH)(σ:St)(H:Hp):Prop
 |mk:∀x,σ[i]?=some (some x)->(te σ H λy H1=>ti x y H1 λz H2=>D.nx (σ.set i (some z)) H2)->aEF i te ti D σ H
def CI{i:Nat}{x:Str}{e:Expr}{te:TE}{op:Operator}{ti:TIp}{pos':Pos}(hN:X.N.Nodup)(hi:X.N[i]?=some x)(hx:Loc X.env.scope x)(he:PE X e te)(ho:PIp X op ti)(hf:X.fn x=true\/X.env.scope.names.lookup x=some .local:=by first | exact .inl rfl | exact .inr rfl | assumption):
  PS X (.AugAssign (.Name x pos') op e pos) (aEF i te ti):=by
 intro pins s σ H D I h;obtain⟨v,e1,h⟩:=h;obtain⟨m,hn,hl⟩:=I.loc;have vis:Vis X.env.scope x:=by rcases hx with k|k;exact .inl k;exact .inr (.inl k)
 obtain⟨u,r,l⟩:=hl i x v hi e1 vis
 refine wpAny_AugAssign_Name ?_;have go:wpAny (model X.prog X.w) X.A (eval e X.env) (λw s₂=>wpAny (model X.prog X.w) X.A (inplaceOp op u w) (λr s₃=>wpAny (model X.prog X.w) X.A (storeName X.env x r) (λ_=>SP X pins D .next) X.xe s₃) X.xe s₂) X.xe s:=by
  refine gD (he pins s σ H _ I h) λw s1 ⟨y,H1,I1,r1,q1⟩=>?_;refine gD (ho pins s1 σ H1 v y u w _ I1 r r1 q1) λz s2 ⟨zv,H2,I2,r2,q2⟩=>?_;exact LY I2 hN hi hx r2 (λs3 I3=>⟨_,H2,I3,q2⟩) hf
 rcases l with⟨hk,hm⟩|⟨hk,c,hc,fi⟩
 ·exact wpAny_loadName_local I.ok.kind hk hn hm go
 ·rcases hk with hk | hk
  ·exact wpAny_loadName_cell I.ok.kind hk hc fi go
  ·rcases hx with k | k
   ·have:X.env.scope.names.lookup x=some .free:=hk
    rw[k]at this;cases this
   ·have:X.env.scope.names.lookup x=some .free:=hk
    rw[k]at this;cases this
inductive ipI(f:Int->Int->Int)(x:V)(y:V)(H:Hp)(Q:VK):Prop
 |mk:∀i j,x=.int i->y=.int j->Q (.int (f i j)) H->ipI f x y H Q
def FX:PIp X .Add (ipI λi j=>i+j):=by
 intro pins s σ H x y v u Q I r1 r2 h;obtain⟨i,j,e1,e2,q⟩:=h;subst e1;subst e2;obtain⟨t,rfl⟩:=r1;obtain⟨t',rfl⟩:=r2;exact iadd_int ⟨.int _,H,I.tok _,⟨_,rfl⟩,q⟩
def aCY:PIp X .Sub (ipI λi j=>i-j):=by
 intro pins s σ H x y v u Q I r1 r2 h;obtain⟨i,j,e1,e2,q⟩:=h;subst e1;subst e2;obtain⟨t,rfl⟩:=r1;obtain⟨t',rfl⟩:=r2;exact isub_int ⟨.int _,H,I.tok _,⟨_,rfl⟩,q⟩
end
section
variable{X:Cx}{pos:Pos}
def aCL(c:TT)(tb:TS):TS:=λD σ H=>∃W:Nat->St->Hp->Prop,(∃m,W m σ H)/\∀m σ H,W m σ H->
 c σ H λb H1=>if b=true then ∃N:St->Hp->Prop,(∀σ' H',N σ' H'->∃m',m'<m/\W m' σ' H')/\tb { D with nx:=N,ct:=N,bk:=D.nx } σ H1 else D.nx σ H1
def uK{c:Expr}{body:List Stmt}{tc:TT}{tb:TS}(hp:PassesOwn (model X.prog X.w) X.A X.env X.xe)(hc:PT X c tc)(hb:Yo X body tb):PS X (.While c body [] pos) (aCL tc tb):=by
 intro pins s σ H D I h;obtain⟨W,⟨m0,w0⟩,turn⟩:=h;refine wpAny_While (codeAny_whileLoop (λn s'=>∃σ' H',Inv X pins σ' H' s'/\W n σ' H') ?_ m0 ⟨σ,H,I,w0⟩);rintro n s1 ⟨σ1,H1,I1,w1⟩;refine aPt hp (gD (hc pins s1 σ1 H1 _ I1 (turn n σ1 H1 w1)) λb s2 ⟨H2,I2,q2⟩=>?_);cases b with
 | true=>
  obtain⟨N,hN,q2⟩:=q2
  rw[if_pos rfl]
  refine aPt hp (gD (hb pins s2 σ1 H2 _ I2 q2) λf s3 q3=>?_);cases f with
  | next=>
   obtain⟨σ3,H3,I3,n3⟩:=q3
   obtain⟨m',hm,w3⟩:=hN σ3 H3 n3
   exact⟨m',hm,σ3,H3,I3,w3⟩
  | cont=>
   obtain⟨σ3,H3,I3,n3⟩:=q3
   obtain⟨m',hm,w3⟩:=hN σ3 H3 n3
   exact⟨m',hm,σ3,H3,I3,w3⟩
  |brk=>exact q3
  |ret v=>exact q3
 | false=>
  rw[if_neg aMd]
  exact wpAny_execs_nil ⟨σ1,H2,I2,q2⟩
end
structure It where
 go:Nat->Hp->Prop
 kx:Nat->Hp->V->Hp->Prop
 stop:Nat->Hp->Prop
def Ku(X:Cx)(pins:List (Addr×Obj))(H:Hp)(b:Addr):Prop:=
 H b=none/\b≠X.env.locals/\b∉X.fs/\(b∈X.ex\/X.Nq.heap.objs.size<=b)/\(∀x c,X.env.cells.lookup x=some c->c≠b)/\∀p∈X.pn++pins,p.1≠b
def Inv.fpOk{X:Cx}{pins:List (Addr×Obj)}{σ:St}{H H':Hp}{s:Shared}{b:Addr}(I:Inv X pins σ H s)(hb:s.heap.objs.size<=b)(hn:H' b=none):Ku X pins H' b:=by
 refine⟨hn,aPQ (aNN I.lt hb),I.nofs hb,.inr (aM3 I.sz hb),λx c e z=>?_,λp hp z=>?_⟩
 ·obtain⟨v,q⟩:=I.cell x c e
  exact absurd (aNN q.lt (by rw[z];exact hb)) (aNk _)
 ·exact absurd (aNN (aP8 (I.pin p hp).1) (by rw[z];exact hb)) (aNk _)
structure WU(P:aPa)(w:aPc)(K:aMC)(tg:Expr)(J:It)(fp:List Addr)(it:Addr)(tn:Nat->Heap->Prop):Prop where
 mem:it∈fp
 obj:∀i h,tn i h->∀b∈fp,∃o,h.get? b=some o/\∀v,o.data≠.cell v
 keep:∀i h h',tn i h->(∀b∈fp,∀o,h.get? b=some o->h'.get? b=some o)->tn i h'
 item:∀(X:Cx),X.prog=P->X.w=w->X.K=K->X.calm=true->∀(i:Nat) (pins:List (Addr×Obj)) (s:Shared) (σ:St) (H:Hp) (E:Value->Shared->Prop),Inv X pins σ H s->(∀b∈fp,Ku X pins H b)->tn i s.heap->J.go i H->
  wpAny (model P w) X.A (pyNext (.ref it)) (λr s1=>∃u,r=some u/\
   wpAny (model P w) X.A (letOwnedTupleGo tg (.ref it) u) (λ_ s2=>∃x H',Inv X pins σ H' s2/\dG x u/\J.kx i H x H'/\tn (i+1) s2.heap/\∀b∈fp,H' b=none) E s1) E s
 done:∀(X:Cx),X.prog=P->X.w=w->X.K=K->X.calm=true->∀(i:Nat) (pins:List (Addr×Obj)) (s:Shared) (σ:St) (H:Hp) (E:Value->Shared->Prop),Inv X pins σ H s->(∀b∈fp,Ku X pins H b)->tn i s.heap->J.stop i H->
  wpAny (model P w) X.A (pyNext (.ref it)) (λr s1=>r=none/\Inv X pins σ H s1) E s
 self:∀(A:Around) (i:Nat) (s:Shared) (Q:Value->Shared->Prop) (E:Value->Shared->Prop),tn i s.heap->Q (.ref it) s->wpAny (model P w) A (pyIter (.ref it)) Q E s
abbrev TI:=St->Hp->(It->Hp->Prop)->Prop
def PIE(X:Cx)(pins:List (Addr×Obj))(σ:St)(tg:Expr)(R:It->Hp->Prop)(itv:Value)(s2:Shared):Prop:=
 ∃(it:Addr) (fp:List Addr) (tn:Nat->Heap->Prop) (J:It) (H':Hp),itv=.ref it/\Inv X pins σ H' s2/\WU X.prog X.w X.K tg J fp it tn/\tn 0 s2.heap/\(∀b∈fp,Ku X pins H' b)/\R J H'
def PI(X:Cx)(tg iter:Expr)(wi:TI):Prop:=
 ∀(pins:List (Addr×Obj)) (s:Shared) (σ:St) (H:Hp) (R:It->Hp->Prop),Inv X pins σ H s->wi σ H R->
  wpAny (model X.prog X.w) X.A (eval iter X.env) (λv s1=>wpAny (model X.prog X.w) X.A (pyIter v) (PIE X pins σ tg R) X.xe s1) X.xe s
def WZ{M:Model}{A:Around}{E:Value->Shared->Prop}{s:Shared}{tg:Expr}{it:Addr}{u:Value}{o:Obj}{n:String}{vs:Array Value}{Q:Unit->Shared->Prop}(ho:s.heap.get? it=some o)(hc:o.cls=.type n)(hd:o.data=.fields vs)
    (hn:["enumerate","zip","dict_itemiterator","dict_reverseitemiterator","odict_iterator","itertools.zip_longest","itertools.pairwise"].contains n=false) (hQ:Q () s):wpAny M A (letOwnedTupleGo tg (.ref it) u) Q E s:=by
  unfold letOwnedTupleGo;cases tg<;>first
    |exact wpAny_pure hQ
    | (cases u<;>first
        |exact wpAny_pure hQ
        | (refine wpAny_bind (wpAny_load ho ?_)
           rw[hc,hd]
           show wpAny M A (if(["enumerate","zip","dict_itemiterator","dict_reverseitemiterator","odict_iterator","itertools.zip_longest","itertools.pairwise"].contains n&&vs[0]?==some (rawInt _))=true then _ else _) Q E s
           rw[if_neg (by intro h;rw[hn,aNO]at h;cases h)]
           exact wpAny_pure hQ))
def Itl(K:aMC)(a:Addr):It:=
 ⟨λi H=>∃xs x,aZ K H a xs/\xs[i]?=some x,λi H x H'=>H'=H/\∀xs,aZ K H a xs->xs[i]?=some x,λi H=>∃xs,aZ K H a xs/\xs.length<=i⟩
def Itt(K:aMC)(a:Addr):It:=
 ⟨λi H=>∃xs x,eE K H a xs/\xs[i]?=some x,λi H x H'=>H'=H/\∀xs,eE K H a xs->xs[i]?=some x,λi H=>∃xs,eE K H a xs/\xs.length<=i⟩
def Itr(lo:Int)(n:Nat):It:=⟨λi _=>i<n,λi H x H'=>H'=H/\x=.int (lo+i),λi _=>n<=i⟩
def gd{P:aPa}{w:aPc}{K:aMC}{tg:Expr}(a it:Addr):WU P w K tg (Itl K a) [it] it (λi h=>h.IsListIter it a i) where
 mem:=by simp
 obj:=λi h st b hb=>by
  have e:b=it:=by simpa using hb
  subst e;obtain⟨o,e,c,d⟩:=st;exact⟨o,e,λv z=>by rw[d]at z;cases z⟩
 keep:=λi h h' st k=>st.at λo e=>k it (by simp) o e
 item:=by
  intro X hP hw hK hc i pins s σ H E I hf st hg;subst hP hw hK;obtain⟨xs,x,hq,hx⟩:=hg;obtain⟨bN,rv,p,hz⟩:=I.list hq;obtain⟨u,hu,ru⟩:=rv.get hx;obtain⟨f0,f1,f2,f3,f4,f5⟩:=hf it (by simp)
  refine wpAny_pyNext_list_item st p.isList (x:=u) (by simpa using hu) λh' st' sb=>?_
  have I1:Inv X pins σ H { s with heap:=h' }:=I.turned (t':=s.toks) (λb o hb e=>(sb.2 b hb).trans e) f0 f1 f3 f4 f5;obtain⟨o,e,c,d⟩:=id st';exact⟨u,rfl,WZ (s:={ s with heap:=h' }) e c d (by decide) ⟨x,H,I1,ru,⟨rfl,λys hy=>by rw[I.list_inj hy hq];exact hx⟩,st',λb hb=>(hf b hb).1⟩⟩
 done:=by
  intro X hP hw hK hc i pins s σ H E I hf st hg;subst hP hw hK;obtain⟨xs,hq,hx⟩:=hg;obtain⟨bN,rv,p,hz⟩:=I.list hq;obtain⟨f0,f1,f2,f3,f4,f5⟩:=hf it (by simp)
  have hl:=rv.length;exact wpAny_pyNext_list_end (I.ok.hd hc) st p.isList (by simp;omega) λh' eb=>⟨rfl,I.turned (t':=s.toks) (λb o hb e=>eb b o hb e) f0 f1 f3 f4 f5⟩
 self:=λ_ _ _ _ _ st h=>wpAny_pyIter_listiter st h
def ZO{P:aPa}{w:aPc}{K:aMC}{tg:Expr}(a it:Addr):WU P w K tg (Itt K a) [it] it (λi h=>h.IsTupleIter it a i) where
 mem:=by simp
 obj:=λi h st b hb=>by
  have e:b=it:=by simpa using hb
  subst e;obtain⟨o,e,c,d⟩:=st;exact⟨o,e,λv z=>by rw[d]at z;cases z⟩
 keep:=λi h h' st k=>st.at λo e=>k it (by simp) o e
 item:=by
  intro X hP hw hK hc i pins s σ H E I hf st hg;subst hP hw hK;obtain⟨xs,x,hq,hx⟩:=hg;obtain⟨bN,rv,p,hz⟩:=I.tuple hq;obtain⟨u,hu,ru⟩:=rv.get hx;obtain⟨f0,f1,f2,f3,f4,f5⟩:=hf it (by simp)
  refine wpAny_pyNext_tuple_item st (show s.heap.IsTuple a bN.toArray from p) (x:=u) (by simpa using hu) λh' st' sb=>?_
  have I1:Inv X pins σ H { s with heap:=h' }:=I.turned (t':=s.toks) (λb o hb e=>(sb.2 b hb).trans e) f0 f1 f3 f4 f5;obtain⟨o,e,c,d⟩:=id st';exact⟨u,rfl,WZ (s:={ s with heap:=h' }) e c d (by decide) ⟨x,H,I1,ru,⟨rfl,λys hy=>by rw[I.tuple_inj hy hq];exact hx⟩,st',λb hb=>(hf b hb).1⟩⟩
 done:=by
  intro X hP hw hK hc i pins s σ H E I hf st hg;subst hP hw hK;obtain⟨xs,hq,hx⟩:=hg;obtain⟨bN,rv,p,hz⟩:=I.tuple hq;obtain⟨f0,f1,f2,f3,f4,f5⟩:=hf it (by simp)
  have hl:=rv.length;exact wpAny_pyNext_tuple_end (I.ok.hd hc) st (show s.heap.IsTuple a bN.toArray from p) (by simp;omega) λh' eb=>⟨rfl,I.turned (t':=s.toks) (λb o hb e=>eb b o hb e) f0 f1 f3 f4 f5⟩
 self:=λ_ _ _ _ _ st h=>wpAny_pyIter_tupleiter st h
def ZV{P:aPa}{w:aPc}{K:aMC}{tg:Expr}(it:Addr)(lo:Int)(n:Nat):WU P w K tg (Itr lo n) [it] it (λi h=>IsRangeIter h it (lo+(i:Nat)*1) ((n:Int)-(i:Nat)) 1) where
 mem:=by simp
 obj:=λi h st b hb=>by
  have e:b=it:=by simpa using hb
  subst e;exact⟨_,st,λv z=>by
   have z':Data.fields _=Data.cell v:=z;cases z'⟩
 keep:=λi h h' st k=>k it (by simp) _ st
 item:=by
  intro X hP hw hK hc i pins s σ H E I hf st hg;subst hP hw hK;obtain⟨f0,f1,f2,f3,f4,f5⟩:=hf it (by simp)
  have W:=Walks.range (prog:=X.prog) (w:=X.w) (I.ok.hd hc) it lo 1 n;refine W.item i s _ _ hg st λv h' tk hv st' kk=>?_;obtain⟨t,rfl⟩:=hv;have I1:Inv X pins σ H { s with heap:=h',toks:=tk }:=I.turned (λb o hb e=>kk b o (by simpa using hb) e) f0 f1 f3 f4 f5
  refine⟨_,rfl,WZ (s:={ s with heap:=h',toks:=tk }) (n:="range_iterator") st' rfl rfl (by decide) ⟨.int (lo+i),H,I1,⟨t,?_⟩,⟨rfl,rfl⟩,st',λb hb=>(hf b hb).1⟩⟩
  rw[Int.mul_one]
 done:=by
  intro X hP hw hK hc i pins s σ H E I hf st hg;subst hP hw hK;obtain⟨f0,f1,f2,f3,f4,f5⟩:=hf it (by simp)
  exact wpAny_pyNext_range_end (I.ok.hd hc) st (by have:n<=i:=hg;omega) λh' eb=>⟨rfl,I.turned (t':=s.toks) (λb o hb e=>eb b o hb e) f0 f1 f3 f4 f5⟩
 self:=λ_ _ _ _ _ st h=>wpAny_pyIter_rangeiter st h
end L2
namespace L2
open PySem PySem.Spec PyProof.Rows
section
variable{X:Cx}{tg:Expr}
inductive nu(K:aMC)(R:It->Hp->Prop)(x:V)(H1:Hp):Prop
 |mk:∀a,x=.ref a->(∃xs,aZ K H1 a xs)->R (Itl K a) H1->nu K R x H1
def aE6(K:aMC)(tl:TE):TI:=fun σ H R=>tl σ H λx H1=>nu K R x H1
inductive aAl(K:aMC)(R:It->Hp->Prop)(x:V)(H1:Hp):Prop
 |mk:∀a,x=.ref a->(∃xs,eE K H1 a xs)->R (Itt K a) H1->aAl K R x H1
def aGv(K:aMC)(tl:TE):TI:=fun σ H R=>tl σ H λx H1=>aAl K R x H1
def cI{l:Expr}{tl:TE}(hl:PE X l tl):PI X tg l (aE6 X.K tl):=by
 intro pins s σ H R I h;refine gD (hl pins s σ H _ I h) λv s1 ⟨x,H1,I1,r1,q1⟩=>?_;obtain⟨a,e,⟨xs,hq⟩,q⟩:=q1;subst e;cases r1;obtain⟨bN,rv,p,hz⟩:=I1.list hq;refine wpAny_pyIter_list p.isList ?_;refine⟨s1.heap.objs.size,[s1.heap.objs.size],_,_,H1,rfl,I1.kept (t':=s1.toks) λb o e=>aP7 _ e,gd a _,⟨_,aP9 _ rfl,rfl,rfl⟩,λb hb=>?_,q⟩;have e:b=s1.heap.objs.size:=by simpa using hb
 subst e;exact I1.fpOk (aMG _) (I1.eI.fresh (aMG _))
def og{l:Expr}{tl:TE}(hl:PE X l tl):PI X tg l (aGv X.K tl):=by
 intro pins s σ H R I h;refine gD (hl pins s σ H _ I h) λv s1 ⟨x,H1,I1,r1,q1⟩=>?_;obtain⟨a,e,⟨xs,hq⟩,q⟩:=q1;subst e;cases r1;obtain⟨bN,rv,p,hz⟩:=I1.tuple hq;refine wpAny_pyIter_tuple (show s1.heap.IsTuple a bN.toArray from p) ?_;refine⟨s1.heap.objs.size,[s1.heap.objs.size],_,_,H1,rfl,I1.kept (t':=s1.toks) λb o e=>aP7 _ e,ZO a _,⟨_,aP9 _ rfl,rfl,rfl⟩,λb hb=>?_,q⟩;have e:b=s1.heap.objs.size:=by simpa using hb
 subst e;exact I1.fpOk (aMG _) (I1.eI.fresh (aMG _))
def XE{pins:List (Addr×Obj)}{σ:St}{H:Hp}{s:Shared}{R:It->Hp->Prop}{E:Value->Shared->Prop}{lo hi:Int}{t u v:Tok}{tk:Nat}(I:Inv X pins σ H s)(h1:-(2 ^ 62)<=lo)(h2:lo<2 ^ 62)(h3:-(2 ^ 62)<=hi)(h4:hi<2 ^ 62)
  (q:R (Itr lo (hi-lo).toNat) H):wpAny (model X.prog X.w) X.A (pyIter (.ref s.heap.objs.size)) (PIE X pins σ tg R) E { s with heap:=s.heap.push { cls:=.type "range",data:=.fields #[.int lo t,.int hi u,.int 1 v] },toks:=tk }:=by
 refine wpAny_pyIter_range (IsRange.new ..) (small_one h1 h2 h3 h4) ?_;have I1:Inv X pins σ H { s with heap:=s.heap.push { cls:=.type "range",data:=.fields #[.int lo t,.int hi u,.int 1 v] },toks:=tk }:=I.kept λb o e=>aP7 _ e;refine⟨(s.heap.push { cls:=.type "range",data:=.fields #[.int lo t,.int hi u,.int 1 v] }).objs.size,[(s.heap.push { cls:=.type "range",data:=.fields #[.int lo t,.int hi u,.int 1 v] }).objs.size],_,_,H,rfl,
  I1.kept (t':=tk) λb o e=>aP7 _ e,ZV _ lo (hi-lo).toNat,?_,λb hb=>?_,q⟩
 ·have e1:lo+((0:Nat):Int)*1=lo:=by simp
  have e2:(((hi-lo).toNat:Nat):Int)-((0:Nat):Int)=aPr lo hi 1:=by rw[rangeSize_one];split<;>omega
  show IsRangeIter _ _ (lo+((0:Nat):Int)*1) ((((hi-lo).toNat:Nat):Int)-((0:Nat):Int)) 1;rw[e1,e2];exact aP9 _ rfl
 ·have e:b=(s.heap.push { cls:=.type "range",data:=.fields #[.int lo t,.int hi u,.int 1 v] }).objs.size:=by simpa using hb
  subst e;exact I1.fpOk (aMG _) (I1.eI.fresh (aMG _))
inductive qp(R:It->Hp->Prop)(vs:List V)(H1:Hp):Prop
 |mk:∀j:Int,vs=[.int j]->-(2 ^ 62)<=j->j<2 ^ 62->R (Itr 0 j.toNat) H1->qp R vs H1
def aEZ(ta:TA):TI:=fun σ H R=>ta σ H λvs H1=>qp R vs H1
inductive ou(R:It->Hp->Prop)(vs:List V)(H1:Hp):Prop
 |mk:∀i j:Int,vs=[.int i,.int j]->((-(2 ^ 62)<=i/\i<2 ^ 62/\-(2 ^ 62)<=j/\j<2 ^ 62))->R (Itr i (j-i).toNat) H1->ou R vs H1
def aEP(ta:TA):TI:=fun σ H R=>ta σ H λvs H1=>ou R vs H1
def Dz{a:Expr}{ta:TA}{p pos:Pos}(hg:Gl X "range")(hm:X.mg "range"=none)(ha:PA X [a] ta)(hs:starEach [a] X.env=[(false,eval a X.env)]:=by rfl):PI X tg (.Call (.Name "range" p) [a] [] pos) (aEZ ta):=by
 intro pins s σ H R I h;refine Call_ (IM I hg hm boot_range (aPn (gD (ha pos pins s σ H _ I h) λus s1 ⟨vs,H1,I1,r1,q1⟩=>?_) hs rfl));obtain⟨j,e,q1,q2,q⟩:=q1;subst e;cases r1 with
 | cons r rr=>
  cases rr;obtain⟨t,rfl⟩:=r;exact call_range_1 (XE I1 (by omega) (by omega) q1 q2 (by simpa using q))
def gq{a b:Expr}{ta:TA}{p pos:Pos}(hg:Gl X "range")(hm:X.mg "range"=none)(ha:PA X [a,b] ta)(hs:starEach [a,b] X.env=[(false,eval a X.env),(false,eval b X.env)]:=by rfl)(hs2:starEach [b] X.env=[(false,eval b X.env)]:=by rfl):
  PI X tg (.Call (.Name "range" p) [a,b] [] pos) (aEP ta):=by
 intro pins s σ H R I h;refine Call_ (IM I hg hm boot_range (aPn (gD (ha pos pins s σ H _ I h) λus s1 ⟨vs,H1,I1,r1,q1⟩=>?_) (by rw[hs,hs2]) (by rw[hs2];rfl)))
 obtain⟨i,j,e,⟨q1,q2,q3,q4⟩,q⟩:=q1
 subst e;cases r1 with
 | cons r rr=>
  cases rr with
  | cons r' rr=>
   cases rr;obtain⟨t,rfl⟩:=r;obtain⟨t',rfl⟩:=r';exact call_range_2 (XE I1 q1 q2 q3 q4 q)
def aGu(wi:TI)(g:TG)(tb:TS):TS:=λD σ H=>wi σ H λJ H1=>∃W:Nat->Nat->St->Hp->Prop,(∃m,W 0 m σ H1)/\∀i m σ H,W i m σ H->
 (J.stop i H/\D.nx σ H)\/(J.go i H/\∃N:St->Hp->Prop,(∀σ' H',N σ' H'->∃m',m'<m/\W (i+1) m' σ' H')/\∀x H',J.kx i H x H'->g x σ H' fun σ2 H2=>tb { D with nx:=N,ct:=N,bk:=D.nx } σ2 H2)
def LD(fp:List Addr)(h:Heap):List (Addr×Obj):=fp.filterMap λb=>(h.get? b).map λo=>(b,o)
def F5{fp:List Addr}{h:Heap}{b:Addr}{o:Obj}(hb:b∈fp)(e:h.get? b=some o):(b,o)∈LD fp h:=aNd.mpr ⟨b,hb,by rw[e];rfl⟩
def gh{fp:List Addr}{h:Heap}{p:Addr×Obj}(hp:p∈LD fp h):p.1∈fp/\h.get? p.1=some p.2:=by
 obtain⟨b,hb,e⟩:=aNd.mp hp
 cases q:h.get? b with
 |none=>rw[q]at e;cases e
 | some o=>
  rw[q]at e
  have e':(b,o)=p:=aP6 e;subst e';exact⟨hb,q⟩
def Inv.pinned{pins:List (Addr×Obj)}{σ:St}{H:Hp}{s:Shared}{fp:List Addr}(I:Inv X pins σ H s)(hf:∀b∈fp,Ku X pins H b)(ho:∀b∈fp,∃o,s.heap.get? b=some o/\∀v,o.data≠.cell v):Inv X (pins++LD fp s.heap) σ H s:=
 I.pins_of λp hp=>(aMX.mp hp).elim (λz=>I.pin p (aMz _ z)) λz=>by
  obtain⟨hb,e⟩:=gh z
  obtain⟨f0,f1,f2,_⟩:=hf p.1 hb
  obtain⟨o,e',d⟩:=ho p.1 hb
  rw[e]at e';cases e'
  exact⟨e,f0,f1,f2,d⟩
def Inv.unpinned{pins pl:List (Addr×Obj)}{σ:St}{H:Hp}{s:Shared}(I:Inv X (pins++pl) σ H s):Inv X pins σ H s:=I.pins_of λp hp=>I.pin p (aMz _ (aN3 _ hp))
def cT{iter:Expr}{body:List Stmt}{wi:TI}{g:TG}{tb:TS}{pos:Pos}(hp:PassesOwn (model X.prog X.w) X.A X.env X.xe)(hc:X.calm=true)(hi:PI X tg iter wi)(hg:PG X tg g)(hb:Yo X body tb)
  (hs:∀x,foldedSetIterable iter X.env x=pure x:=by intro _;rfl):PS X (.For tg iter body [] pos) (aGu wi g tb):=by
 intro pins s σ H D I h;refine wpAny_For (gD (hi pins s σ H _ I h) λv s1 h1=>gD h1 λitv s2 h2=>?_) hs;obtain⟨it,fp,tn,J,H2,e,I2,T,st2,f2,W,⟨m0,w0⟩,turn⟩:=h2;subst e;have Zs:∀{H':Hp},(∀b∈fp,H' b=none)->∀b∈fp,Ku X pins H' b:=λhn b hb=>⟨hn b hb,(f2 b hb).2⟩;refine codeAny_forLoop_any (λn s'=>∃i σ' H',Inv X pins σ' H' s'/\tn i s'.heap/\(∀b∈fp,H' b=none)/\W i n σ' H') ?_ m0 ⟨0,σ,H2,I2,st2,λb hb=>(f2 b hb).1,w0⟩;rintro n s3 ⟨i,σ3,H3,I3,st3,fr3,w3⟩;rcases turn i n σ3 H3 w3 with⟨stop,qn⟩|⟨go,N,hN,step⟩
 ·refine aPt hp (gD (T.done X rfl rfl rfl hc i pins s3 σ3 H3 X.xe I3 (Zs fr3) st3 stop) λr s4 ⟨hr,I4⟩=>?_);subst hr;exact wpAny_execs_nil ⟨σ3,H3,I4,qn⟩
 ·refine aPt hp (gD (T.item X rfl rfl rfl hc i pins s3 σ3 H3 X.xe I3 (Zs fr3) st3 go) λr s4 ⟨u,hr,h4⟩=>?_);subst hr;refine aPt hp (gD h4 λ_ s5 ⟨x,H5,I5,r5,y5,vn,fr5⟩=>?_);have I5':=I5.pinned (Zs fr5) (T.obj _ _ vn);refine aPt hp (gD (hg _ s5 σ3 H5 x u _ I5' r5 (step x H5 y5)) λ_ s6 ⟨σ6,H6,I6,q6⟩=>?_);refine aPt hp (gD (hb _ s6 σ6 H6 _ I6 q6) λf s7 q7=>?_);have again:∀{σ7:St} {H7:Hp},Inv X (pins++LD fp s5.heap) σ7 H7 s7->N σ7 H7->∃m,m<n/\∃i σ' H',Inv X pins σ' H' s7/\tn i s7.heap/\(∀b∈fp,H' b=none)/\W i m σ' H':=fun{σ7 H7} I7 n7=>by
   obtain⟨m',hm,w7⟩:=hN σ7 H7 n7
   refine⟨m',hm,i+1,σ7,H7,I7.unpinned,T.keep _ _ _ vn λb hb o e=>(I7.pin (b,o) (aMz _ (aMz _ (F5 hb e)))).1,λb hb=>?_,w7⟩
   obtain⟨o,e,d⟩:=T.obj _ _ vn b hb
   exact(I7.pin (b,o) (aMz _ (aMz _ (F5 hb e)))).2.1
  cases f with
  |next=>obtain⟨σ7,H7,I7,n7⟩:=q7;exact again I7 n7
  |cont=>obtain⟨σ7,H7,I7,n7⟩:=q7;exact again I7 n7
  |brk=>obtain⟨σ7,H7,I7,q7⟩:=q7;exact⟨σ7,H7,I7.unpinned,q7⟩
  |ret v=>obtain⟨x7,σ7,H7,I7,r7,q7⟩:=q7;exact⟨x7,σ7,H7,I7.unpinned,r7,q7⟩
end
def cW{K:aMC}{a:Addr}{xs:List V}{g:TG}{tb:TS}{D:IH}{σ:St}{H:Hp}(Pv:Nat->St->Hp->Prop)(h0:Pv 0 σ H)(hl:∀i σ H,i<=xs.length->Pv i σ H->aZ K H a xs)
  (hs:∀i x σ H,xs[i]?=some x->Pv i σ H->g x σ H fun σ2 H2=>tb { D with nx:=Pv (i+1),ct:=Pv (i+1),bk:=D.nx } σ2 H2) (hd:∀σ H,Pv xs.length σ H->D.nx σ H):
  ∃W:Nat->Nat->St->Hp->Prop,(∃m,W 0 m σ H)/\∀i m σ H,W i m σ H->
   ((Itl K a).stop i H/\D.nx σ H)\/((Itl K a).go i H/\∃N:St->Hp->Prop,(∀σ' H',N σ' H'->∃m',m'<m/\W (i+1) m' σ' H')/\∀x H',(Itl K a).kx i H x H'->g x σ H' fun σ2 H2=>tb { D with nx:=N,ct:=N,bk:=D.nx } σ2 H2):=by
 refine⟨λi m σ H=>m=xs.length-i/\i<=xs.length/\Pv i σ H,⟨xs.length,by simp,aM1 _,h0⟩,?_⟩
 rintro i m σ H ⟨rfl,hi,p⟩;have q:=hl i σ H hi p;by_cases jZ:i<xs.length
 ·refine .inr ⟨⟨xs,xs[i],q,by simp[jZ]⟩,Pv (i+1),fun σ' H' p'=>⟨xs.length-(i+1),by omega,rfl,jZ,p'⟩,λx H' y=>?_⟩
  obtain⟨e,y⟩:=y
  subst e;exact hs i x σ _ (y xs q) p
 ·have e:i=xs.length:=by omega
  subst e;exact .inl ⟨⟨xs,q,aMG _⟩,hd σ H p⟩
def bh{K:aMC}{a:Addr}{xs:List V}{g:TG}{tb:TS}{D:IH}{σ:St}{H:Hp}(Pv:Nat->St->Hp->Prop)(h0:Pv 0 σ H)(hl:∀i σ H,i<=xs.length->Pv i σ H->eE K H a xs)
  (hs:∀i x σ H,xs[i]?=some x->Pv i σ H->g x σ H fun σ2 H2=>tb { D with nx:=Pv (i+1),ct:=Pv (i+1),bk:=D.nx } σ2 H2) (hd:∀σ H,Pv xs.length σ H->D.nx σ H):
  ∃W:Nat->Nat->St->Hp->Prop,(∃m,W 0 m σ H)/\∀i m σ H,W i m σ H->
   ((Itt K a).stop i H/\D.nx σ H)\/((Itt K a).go i H/\∃N:St->Hp->Prop,(∀σ' H',N σ' H'->∃m',m'<m/\W (i+1) m' σ' H')/\∀x H',(Itt K a).kx i H x H'->g x σ H' fun σ2 H2=>tb { D with nx:=N,ct:=N,bk:=D.nx } σ2 H2):=by
 refine⟨λi m σ H=>m=xs.length-i/\i<=xs.length/\Pv i σ H,⟨xs.length,by simp,aM1 _,h0⟩,?_⟩
 rintro i m σ H ⟨rfl,hi,p⟩;have q:=hl i σ H hi p;by_cases jZ:i<xs.length
 ·refine .inr ⟨⟨xs,xs[i],q,by simp[jZ]⟩,Pv (i+1),fun σ' H' p'=>⟨xs.length-(i+1),by omega,rfl,jZ,p'⟩,λx H' y=>?_⟩
  obtain⟨e,y⟩:=y
  subst e;exact hs i x σ _ (y xs q) p
 ·have e:i=xs.length:=by omega
  subst e;exact .inl ⟨⟨xs,q,aMG _⟩,hd σ H p⟩
def zN{lo:Int}{n:Nat}{g:TG}{tb:TS}{D:IH}{σ:St}{H:Hp}(Pv:Nat->St->Hp->Prop)(h0:Pv 0 σ H)
  (hs:∀i σ H,i<n->Pv i σ H->g (.int (lo+i)) σ H fun σ2 H2=>tb { D with nx:=Pv (i+1),ct:=Pv (i+1),bk:=D.nx } σ2 H2) (hd:∀σ H,Pv n σ H->D.nx σ H):
  ∃W:Nat->Nat->St->Hp->Prop,(∃m,W 0 m σ H)/\∀i m σ H,W i m σ H->
   ((Itr lo n).stop i H/\D.nx σ H)\/((Itr lo n).go i H/\∃N:St->Hp->Prop,(∀σ' H',N σ' H'->∃m',m'<m/\W (i+1) m' σ' H')/\∀x H',(Itr lo n).kx i H x H'->g x σ H' fun σ2 H2=>tb { D with nx:=N,ct:=N,bk:=D.nx } σ2 H2):=by
 refine⟨λi m σ H=>m=n-i/\i<=n/\Pv i σ H,⟨n,by simp,aM1 _,h0⟩,?_⟩
 rintro i m σ H ⟨rfl,hi,p⟩;by_cases jZ:i<n
 ·refine .inr ⟨jZ,Pv (i+1),fun σ' H' p'=>⟨n-(i+1),by omega,rfl,jZ,p'⟩,λx H' y=>?_⟩
  obtain⟨e,y⟩:=y
  subst e y;exact hs i σ _ jZ p
 ·have e:i=n:=by omega
  subst e;exact .inl ⟨aMG _,hd σ H p⟩
end L2
namespace L2
open PySem PySem.Spec PyProof.Rows
abbrev R2:=V->V->Hp->VK->Prop
def GR(X:Cx)(f:Value->Value->Sem Value)(r:R2):Prop:=
 ∀(pins:List (Addr×Obj)) (s:Shared) (σ:St) (H:Hp) (x y:V) (v u:Value) (Q:VK),Inv X pins σ H s->dG x v->dG y u->r x y H Q->
  wpAny (model X.prog X.w) X.A (f v u) (EP X pins σ Q) X.xe s
def UnR(X:Cx)(f:Value->Sem Value)(r:V->Hp->VK->Prop):Prop:=
 ∀(pins:List (Addr×Obj)) (s:Shared) (σ:St) (H:Hp) (x:V) (v:Value) (Q:VK),Inv X pins σ H s->dG x v->r x H Q->
  wpAny (model X.prog X.w) X.A (f v) (EP X pins σ Q) X.xe s
def uC(X:Cx)(f:Value)(r:List V->Hp->VK->Prop):Prop:=
 ∀(pins:List (Addr×Obj)) (s:Shared) (σ:St) (H:Hp) (xs:List V) (us:List Value) (Q:VK),Inv X pins σ H s->cJ xs us->r xs H Q->
  wpAny (model X.prog X.w) X.A (call f us) (EP X pins σ Q) X.xe s
def aGp(X:Cx)(r:V->Hp->(Bool->Hp->Prop)->Prop):Prop:=
 ∀(pins:List (Addr×Obj)) (s:Shared) (σ:St) (H:Hp) (x:V) (v:Value) (Q:Bool->Hp->Prop),Inv X pins σ H s->dG x v->r x H Q->
  wpAny (model X.prog X.w) X.A (truthy v) (TP X pins σ Q) X.xe s
def Yn(r:R2)(ta tb:TE):TE:=fun σ H Q=>ta σ H λx H1=>tb σ H1 λy H2=>r x y H2 Q
def tUn(r:V->Hp->VK->Prop)(ta:TE):TE:=fun σ H Q=>ta σ H λx H1=>r x H1 Q
inductive rI(C:Int->Int->Prop)(g:Int->Int->V)(x:V)(y:V)(H:Hp)(Q:VK):Prop
 |mk:∀i j,x=.int i->y=.int j->C i j->Q (g i j) H->rI C g x y H Q
inductive af(g:Int->Int->V)(x:V)(y:V)(H:Hp)(Q:VK):Prop
 |mk:∀i j,x=.int i->y=.int j->Q (g i j) H->af g x y H Q
inductive rU(g:Int->V)(x:V)(H:Hp)(Q:VK):Prop
 |mk:∀i,x=.int i->Q (g i) H->rU g x H Q
section
variable{X:Cx}{a b c:Expr}{ta tb tc:TE}{pos:Pos}
def aBe(ha:PE X a ta)(hb:PE X b tb){pins:List (Addr×Obj)}{s:Shared}{σ:St}{H:Hp}{R:V->V->Hp->Prop}(I:Inv X pins σ H s)
  (h:ta σ H λx H1=>tb σ H1 λy H2=>R x y H2) {Q:Value->Shared->Prop} {f:Value->Value->Sem Value}
  (hf:∀v u s2 x y H2,Inv X pins σ H2 s2->dG x v->dG y u->R x y H2->wpAny (model X.prog X.w) X.A (f v u) Q X.xe s2):
  wpAny (model X.prog X.w) X.A (eval a X.env) (λv s₁=>wpAny (model X.prog X.w) X.A (eval b X.env) (λu s₂=>wpAny (model X.prog X.w) X.A (f v u) Q X.xe s₂) X.xe s₁) X.xe s:=by
 refine gD (ha pins s σ H _ I h) λv s1 ⟨x,H1,I1,r1,q1⟩=>?_;refine gD (hb pins s1 σ H1 _ I1 q1) λu s2 ⟨y,H2,I2,r2,q2⟩=>?_;exact hf v u s2 x y H2 I2 r1 r2 q2
def bH{op:Operator}{r:R2}(ho:GR X (binaryOp op) r)(ha:PE X a ta)(hb:PE X b tb):PE X (.BinOp a op b pos) (Yn r ta tb):=by
 intro pins s σ H Q I h;exact wpAny_BinOp (aBe ha hb I h λv u s2 x y H2 I2 rx ry q=>ho pins s2 σ H2 x y v u Q I2 rx ry q)
def CF{op:UnaryOp}{r:V->Hp->VK->Prop}(ho:UnR X (unaryOp op) r)(ha:PE X a ta):PE X (.UnaryOp op a pos) (tUn r ta):=by
 intro pins s σ H Q I h;exact UnaryOp_ (gD (ha pins s σ H _ I h) λv s1 ⟨x,H1,I1,r1,q1⟩=>ho pins s1 σ H1 x v Q I1 r1 q1)
def opI{f:Value->Value->Sem Value}{C:Int->Int->Prop}{g:Int->Int->Int}
  (rule:∀(i j:Int) (t u:Tok) (s:Shared) (Q:Value->Shared->Prop) (E:Value->Shared->Prop),C i j->Q (.int (g i j) s.toks) { s with toks:=s.toks+1 }->wpAny (model X.prog X.w) X.A (f (.int i t) (.int j u)) Q E s):
  GR X f (rI C λi j=>.int (g i j)):=by
 intro pins s σ H x y v u Q I rx ry h;obtain⟨i,j,rfl,rfl,hc,q⟩:=h;obtain⟨t,rfl⟩:=rx;obtain⟨t',rfl⟩:=ry;exact rule i j t t' s _ _ hc ⟨.int (g i j),H,I.tok _,⟨_,rfl⟩,q⟩
def aEL{f:Value->Value->Sem Value}{g:Int->Int->Int}
  (rule:∀(i j:Int) (t u:Tok) (s:Shared) (Q:Value->Shared->Prop) (E:Value->Shared->Prop),Q (.int (g i j) s.toks) { s with toks:=s.toks+1 }->wpAny (model X.prog X.w) X.A (f (.int i t) (.int j u)) Q E s):
  GR X f (af λi j=>.int (g i j)):=by
 intro pins s σ H x y v u Q I rx ry h;obtain⟨i,j,rfl,rfl,q⟩:=h;obtain⟨t,rfl⟩:=rx;obtain⟨t',rfl⟩:=ry;exact rule i j t t' s _ _ ⟨.int (g i j),H,I.tok _,⟨_,rfl⟩,q⟩
def xx{f:Value->Value->Sem Value}{g:Int->Int->Bool}
  (rule:∀(i j:Int) (t u:Tok) (s:Shared) (Q:Value->Shared->Prop) (E:Value->Shared->Prop),Q (.bool (g i j)) s->wpAny (model X.prog X.w) X.A (f (.int i t) (.int j u)) Q E s):
  GR X f (af λi j=>.bl (g i j)):=by
 intro pins s σ H x y v u Q I rx ry h;obtain⟨i,j,rfl,rfl,q⟩:=h;obtain⟨t,rfl⟩:=rx;obtain⟨t',rfl⟩:=ry;exact rule i j t t' s _ _ ⟨.bl (g i j),H,I,rfl,q⟩
def aBh(i j:Int):Prop:=(-(2 ^ 64)<i/\i<2 ^ 64)\/(-(2 ^ 64)<j/\j<2 ^ 64)
def aBh.ok{i j:Int}(h:aBh i j):IntMulOk i j:=by
 rcases h with⟨h1,h2⟩|⟨h1,h2⟩
 ·exact .of_left (intBits_le_64 h1 h2)
 ·exact .of_right (intBits_le_64 h1 h2)
def cH:GR X (binaryOp .Add) (af λi j=>.int (i+j)):=aEL λ_ _ _ _ _ _ _ q=>add_int q
def oK:GR X (binaryOp .Sub) (af λi j=>.int (i-j)):=aEL λ_ _ _ _ _ _ _ q=>sub_int q
def PB:GR X (binaryOp .Mult) (rI aBh λi j=>.int (i*j)):=opI λ_ _ _ _ _ _ _ hc q=>mul_int q hc.ok
def aCS:GR X (binaryOp .Mod) (rI (λ_ j=>0<j) λi j=>.int (i % j)):=opI λi j _ _ _ _ _ hc q=>by
 have h1:(0:Int)<j:=hc;exact mod_int' (by omega) (by rw[Int.fmod_eq_emod_of_nonneg i (by omega)];exact q)
def unI{f:Value->Sem Value}{g:Int->Int}
  (rule:∀(i:Int) (t:Tok) (s:Shared) (Q:Value->Shared->Prop) (E:Value->Shared->Prop),Q (.int (g i) s.toks) { s with toks:=s.toks+1 }->wpAny (model X.prog X.w) X.A (f (.int i t)) Q E s):
  UnR X f (rU λi=>.int (g i)):=by
 intro pins s σ H x v Q I rx h;obtain⟨i,rfl,q⟩:=h;obtain⟨t,rfl⟩:=rx;exact rule i t s _ _ ⟨.int (g i),H,I.tok _,⟨_,rfl⟩,q⟩
def uF:UnR X (unaryOp .USub) (rU λi=>.int (-i)):=unI λ_ _ _ _ _ q=>neg_int q
end
def aDt:V->V->Bool
 |.non,.non=>true|.non,.int _=>true|.int _,.non=>true|.non,.bl _=>true|.bl _,.non=>true|.non,.str _=>true|.str _,.non=>true
 |.int _,.int _=>true|.bl _,.bl _=>true|.str _,.str _=>true|.byt _,.byt _=>true
 |.int _,.str _=>true|.str _,.int _=>true|.bl _,.str _=>true|.str _,.bl _=>true
 |_,_=>false
def rEq:R2:=λx y H Q=>aDt x y=true/\Q (.bl (decide (x=y))) H
def rNe:R2:=λx y H Q=>aDt x y=true/\Q (.bl (!decide (x=y))) H
def P5{i j:Int}:decide (V.int i=V.int j)=(i==j):=by
 rw[aOS]
 simp
def nv{i j:Bool}:decide (V.bl i=V.bl j)=(i==j):=by
 rw[aOS]
 simp
def df{i j:Str}:decide (V.str i=V.str j)=(i==j):=by
 rw[aOS]
 simp
def ed{i j:Array UInt8}:decide (V.byt i=V.byt j)=(i.toList==j.toList):=by
 rw[aOS]
 cases i;cases j;simp
section
variable{X:Cx}{a b c:Expr}{ta tb tc:TE}{pos:Pos}
def d4{pins:List (Addr×Obj)}{σ:St}{H:Hp}{s:Shared}{Q:VK}{k k':Bool}(I:Inv X pins σ H s)(q:Q (.bl k) H)(e:k=k'):EP X pins σ Q (.bool k') s:=by
 subst e;exact⟨.bl k,H,I,rfl,q⟩
def eW:GR X (compareOp .Eq) rEq:=by
 intro pins s σ H x y v u Q I rx ry h;obtain⟨hs,q⟩:=h;cases x with
 | non=>
  cases rx;cases y with
  |non=>cases ry;exact PySem.EqNone.eq_none_none (d4 I q (by simp))
  |bl j=>cases ry;exact PySem.EqNone.eq_none_bool (d4 I q (by simp))
  |int j=>obtain⟨t',rfl⟩:=ry;exact PySem.EqNone.eq_none_int (d4 I q (by simp))
  |str j=>obtain⟨t',rfl⟩:=ry;exact PySem.EqNone.eq_none_str (d4 I q (by simp))
  |_=>exact absurd (show false=true from hs) aMd
 | bl i=>
  cases rx;cases y with
  |non=>cases ry;exact PySem.EqNone.eq_bool_none (d4 I q (by simp))
  |bl j=>cases ry;exact eq_bool (d4 I q nv)
  |str j=>obtain⟨t',rfl⟩:=ry;exact PySem.EqMixed.eq_bool_str (d4 I q (by simp))
  |_=>exact absurd (show false=true from hs) aMd
 | int i=>
  obtain⟨t,rfl⟩:=rx
  cases y with
  |non=>cases ry;exact PySem.EqNone.eq_int_none (d4 I q (by simp))
  |int j=>obtain⟨t',rfl⟩:=ry;exact eq_int (d4 I q P5)
  |str j=>obtain⟨t',rfl⟩:=ry;exact PySem.EqMixed.eq_int_str (d4 I q (by simp))
  |_=>exact absurd (show false=true from hs) aMd
 | str i=>
  obtain⟨t,rfl⟩:=rx
  cases y with
  |non=>cases ry;exact PySem.EqNone.eq_str_none (d4 I q (by simp))
  |bl j=>cases ry;exact PySem.EqMixed.eq_str_bool (d4 I q (by simp))
  |int j=>obtain⟨t',rfl⟩:=ry;exact PySem.EqMixed.eq_str_int (d4 I q (by simp))
  |str j=>obtain⟨t',rfl⟩:=ry;exact eq_str (d4 I q df)
  |_=>exact absurd (show false=true from hs) aMd
 | byt i=>
  obtain⟨t,rfl⟩:=rx
  cases y with
  |byt j=>obtain⟨t',rfl⟩:=ry;exact PySem.W.eq_bytes (d4 I q ed)
  |_=>exact absurd (show false=true from hs) aMd
 |_=>cases y<;>exact absurd (show false=true from hs) aMd
def LA:GR X (compareOp .NotEq) rNe:=by
 intro pins s σ H x y v u Q I rx ry h;obtain⟨hs,q⟩:=h;cases x with
 | non=>
  cases rx;cases y with
  |non=>cases ry;exact PySem.EqNone.ne_none_none (d4 I q (by simp))
  |bl j=>cases ry;exact PySem.EqNone.ne_none_bool (d4 I q (by simp))
  |int j=>obtain⟨t',rfl⟩:=ry;exact PySem.EqNone.ne_none_int (d4 I q (by simp))
  |str j=>obtain⟨t',rfl⟩:=ry;exact PySem.EqNone.ne_none_str (d4 I q (by simp))
  |_=>exact absurd (show false=true from hs) aMd
 | bl i=>
  cases rx;cases y with
  |non=>cases ry;exact PySem.EqNone.ne_bool_none (d4 I q (by simp))
  |bl j=>cases ry;exact ne_bool (d4 I q (congrArg not nv))
  |str j=>obtain⟨t',rfl⟩:=ry;exact PySem.EqMixed.ne_bool_str (d4 I q (by simp))
  |_=>exact absurd (show false=true from hs) aMd
 | int i=>
  obtain⟨t,rfl⟩:=rx
  cases y with
  |non=>cases ry;exact PySem.EqNone.ne_int_none (d4 I q (by simp))
  |int j=>obtain⟨t',rfl⟩:=ry;exact ne_int (d4 I q (congrArg not P5))
  |str j=>obtain⟨t',rfl⟩:=ry;exact PySem.EqMixed.ne_int_str (d4 I q (by simp))
  |_=>exact absurd (show false=true from hs) aMd
 | str i=>
  obtain⟨t,rfl⟩:=rx
  cases y with
  |non=>cases ry;exact PySem.EqNone.ne_str_none (d4 I q (by simp))
  |bl j=>cases ry;exact PySem.EqMixed.ne_str_bool (d4 I q (by simp))
  |int j=>obtain⟨t',rfl⟩:=ry;exact PySem.EqMixed.ne_str_int (d4 I q (by simp))
  |str j=>obtain⟨t',rfl⟩:=ry;exact ne_str (d4 I q (congrArg not df))
  |_=>exact absurd (show false=true from hs) aMd
 | byt i=>
  obtain⟨t,rfl⟩:=rx
  cases y with
  |byt j=>obtain⟨t',rfl⟩:=ry;exact PySem.W.ne_bytes (d4 I q (congrArg not ed))
  |_=>exact absurd (show false=true from hs) aMd
 |_=>cases y<;>exact absurd (show false=true from hs) aMd
def fP:GR X (compareOp .Lt) (af λi j=>.bl (decide (i<j))):=xx λ_ _ _ _ _ _ _ q=>lt_int q
def JX:GR X (compareOp .LtE) (af λi j=>.bl (decide (i<=j))):=xx λ_ _ _ _ _ _ _ q=>le_int q
def iG:GR X (compareOp .Gt) (af λi j=>.bl (decide (j<i))):=xx λ_ _ _ _ _ _ _ q=>gt_int q
def aAk:GR X (compareOp .GtE) (af λi j=>.bl (decide (j<=i))):=xx λ_ _ _ _ _ _ _ q=>ge_int q
def aP(b:Expr){op:CmpOp}(h:op≠.In:=by decide)(h2:op≠.NotIn:=by decide):behindInMarks op b=false:=by
 have e1:(op==CmpOp.In)=false:=by cases op<;>first|rfl|exact absurd rfl h
 have e2:(op==CmpOp.NotIn)=false:=by cases op<;>first|rfl|exact absurd rfl h2
 cases b<;>simp[behindInMarks,e1,e2]
def AQ{op:CmpOp}{r:R2}(ho:GR X (compareOp op) r)(ha:PE X a ta)(hb:PE X b tb)(hm:behindInMarks op b=false):PE X (.Compare a [op] [b] pos) (Yn r ta tb):=by
 intro pins s σ H Q I h;exact wpAny_Compare1 (aBe ha hb I h λv u s2 x y H2 I2 rx ry q=>ho pins s2 σ H2 x y v u Q I2 rx ry q) hm
inductive qt(Q:Bool->Hp->Prop)(x:V)(H':Hp):Prop
 |mk:∀k,x=.bl k->Q k H'->qt Q x H'
def LB(t:TE):TT:=fun σ H Q=>t σ H λx H'=>qt Q x H'
def aL{op:CmpOp}{r:R2}(ho:GR X (compareOp op) r)(ha:PE X a ta)(hb:PE X b tb)(hm:behindInMarks op b=false):PT X (.Compare a [op] [b] pos) (LB (Yn r ta tb)):=by
 intro pins s σ H Q I h;refine wpAny_isTrue_Compare1 (gD (ha pins s σ H _ I h) λv s1 ⟨x,H1,I1,r1,q1⟩=>gD (hb pins s1 σ H1 _ I1 q1) λu s2 ⟨y,H2,I2,r2,q2⟩=>
  gD (ho pins s2 σ H2 x y v u _ I2 r1 r2 q2) λc s3 ⟨z,H3,I3,r3,k,e,q3⟩=>?_) hm
 subst e;cases r3;exact aPi ⟨H3,I3,q3⟩
def px(r r':R2)(ta tb tc:TE):TE:=fun σ H Q=>ta σ H λx H1=>tb σ H1 λy H2=>r x y H2 λz H3=>∃k,z=.bl k/\
 (if k=true then tc σ H3 λw' H4=>r' y w' H4 Q else Q (.bl false) H3)
def Gn{op op':CmpOp}{r r':R2}(ho:GR X (compareOp op) r)(ho':GR X (compareOp op') r')(ha:PE X a ta)(hb:PE X b tb)(hc:PE X c tc)
  (hm:lastMarks [op,op'] [b,c]=false:=by with_unfolding_all rfl):PE X (.Compare a [op,op'] [b,c] pos) (px r r' ta tb tc):=by
 intro pins s σ H Q I h;refine Compare_chain (gD (ha pins s σ H _ I h) λv s1 ⟨x,H1,I1,r1,q1⟩=>chain_link (gD (hb pins s1 σ H1 _ I1 q1) λu s2 ⟨y,H2,I2,r2,q2⟩=>
  gD (ho pins s2 σ H2 x y v u _ I2 r1 r2 q2) λd s3 ⟨z,H3,I3,r3,k,e,q3⟩=>?_)) hm
 subst e;cases r3;refine aPi ?_;cases k with
 |false=>exact ite_ff ⟨.bl false,H3,I3,rfl,q3⟩
 |true=>exact ite_tt (chain_last (gD (hc pins s3 σ H3 _ I3 q3) λw' s4 ⟨z',H4,I4,r4,q4⟩=>ho' pins s4 σ H4 y z' u w' Q I4 r2 r4 q4))
def qx{op op':CmpOp}{r r':R2}(ho:GR X (compareOp op) r)(ho':GR X (compareOp op') r')(ha:PE X a ta)(hb:PE X b tb)(hc:PE X c tc)
  (hm:lastMarks [op,op'] [b,c]=false:=by with_unfolding_all rfl):PT X (.Compare a [op,op'] [b,c] pos) (LB (px r r' ta tb tc)):=by
 intro pins s σ H Q I h;refine isTrue_chain (gD (ha pins s σ H _ I h) λv s1 ⟨x,H1,I1,r1,q1⟩=>test_link (gD (hb pins s1 σ H1 _ I1 q1) λu s2 ⟨y,H2,I2,r2,q2⟩=>
  gD (ho pins s2 σ H2 x y v u _ I2 r1 r2 q2) λd s3 ⟨z,H3,I3,r3,k,e,q3⟩=>?_)) hm
 subst e;cases r3;refine aPi ?_;cases k with
 | false=>
  obtain⟨k',e',q'⟩:=q3
  cases e';exact ite_ff ⟨H3,I3,q'⟩
 | true=>
  refine ite_tt (test_last (gD (hc pins s3 σ H3 _ I3 q3) λw' s4 ⟨z',H4,I4,r4,q4⟩=>gD (ho' pins s4 σ H4 y z' u w' _ I4 r2 r4 q4) λd' s5 ⟨z2,H5,I5,r5,k2,e2,q5⟩=>?_));subst e2;cases r5;exact aPi ⟨H5,I5,q5⟩
def aEG(K:aMC)(x:V)(H:Hp)(k:Bool):Prop:=
 match x with
 |.non=>k=false
 |.bl b=>k=b
 |.int i=>k=(i !=0)
 |.str y=>y.length<=sizeLine/\k=((y.length:Int) !=0)
 |.byt y=>y.size<=sizeLine/\k=((y.size:Int) !=0)
 |.ref p=>(∃xs,aZ K H p xs/\k=!xs.isEmpty)\/(∃xs,eE K H p xs/\k=!xs.isEmpty)\/∃bU,H p=some (.dK bU)/\k=!bU.isEmpty
 |_=>False
def ZJ{κ:Type}{bU:List (κ×V)}{vs:List (κ×Value)}(r:KV bU vs):(!vs.isEmpty)=!bU.isEmpty:=by
 cases r<;>rfl
def L9{xs:List V}{bN:List Value}(r:cJ xs bN):(!bN.toArray.isEmpty)=!xs.isEmpty:=by
 cases r<;>simp
def IQ:(sizeLine:Nat)<2 ^ 63:=by rw[sizeLine_eq];decide
def aBt:aGp X (λx H Q=>∃k,aEG X.K x H k/\Q k H):=by
 intro pins s σ H x v Q I rx h;obtain⟨k,e,q⟩:=h;have hl:=IQ;have hs:sizeLine=16777216:=sizeLine_eq;cases x with
 | non=>
  cases rx;have e':k=false:=e;subst e';exact truthy_none ⟨H,I,q⟩
 | bl b=>
  cases rx;have e':k=b:=e;subst e';exact aPi ⟨H,I,q⟩
 | int i=>
  obtain⟨t,rfl⟩:=rx
  have e':k=(i !=0):=e;subst e';exact PySem.P.truthy_int ⟨H,I,q⟩
 | str y=>
  obtain⟨t,rfl⟩:=rx
  obtain⟨hy,e'⟩:y.length<=sizeLine/\k=((y.length:Int) !=0):=e
  subst e';exact PySem.P.truthy_str (by omega) ⟨H,I.tok _,q⟩
 | byt y=>
  obtain⟨t,rfl⟩:=rx
  obtain⟨hy,e'⟩:y.size<=sizeLine/\k=((y.size:Int) !=0):=e
  subst e';exact PySem.W.truthy_bytes (by omega) ⟨H,I.tok _,q⟩
 | ref p=>
  cases rx;have e':(∃xs,aZ X.K H p xs/\k=!xs.isEmpty)\/(∃xs,eE X.K H p xs/\k=!xs.isEmpty)\/∃bU,H p=some (.dK bU)/\k=!bU.isEmpty:=e;rcases e' with⟨xs,hx,e'⟩|⟨xs,hx,e'⟩|⟨bU,hx,e'⟩
  ·subst e';obtain⟨bN,r,pl,hz⟩:=I.list hx;have cC:=r.length;exact wpAny_truthy_list pl.isList (by simp only[aM8];omega) ⟨H,I.tok _,by rw[L9 r];exact q⟩
  ·subst e';obtain⟨bN,r,pl,hz⟩:=I.tuple hx;have cC:=r.length;exact truthy_tuple pl (by simp only[aM8];omega) ⟨H,I.tok _,by rw[L9 r];exact q⟩
  ·subst e';obtain⟨hz,hS,vs,r,m⟩:bU.length<=sizeLine/\(p==sysModules)=false/\∃vs,KV bU vs/\s.heap.DictOf (f7 X.prog X.w) p vs:=I.eI p _ hx;have cC:bU.length=vs.length:=aPo r;exact wpAny_truthy_dict hS m (by omega) ⟨H,I.tok _,by rw[ZJ r];exact q⟩
 |_=>exact(show False from e).elim
def CN(ha:PE X a ta)(he:∀whole,isTrue a X.env whole=(do let v <-whole;standAt a.pos;holding [v] (truthy v))):
  PT X a (fun σ H Q=>ta σ H λx H'=>∃k,aEG X.K x H' k/\Q k H'):=by
 intro pins s σ H Q I h;exact isTrue_plain (gD (ha pins s σ H _ I h) λv s1 ⟨x,H1,I1,r1,q1⟩=>aBt pins s1 σ H1 x v Q I1 r1 q1) (he _)
def vals1{x:V}{us:List Value}(r:cJ [x] us):∃u,us=[u]/\dG x u:=by
 cases r with
 |cons r1 r2=>cases r2;exact⟨_,rfl,r1⟩
def su:uC X (.builtin "abs") (λxs H Q=>∃i,xs=[.int i]/\Q (.int (if i<0 then -i else i)) H):=by
 intro pins s σ H xs us Q I r h;obtain⟨i,rfl,q⟩:=h;obtain⟨u,rfl,t,rfl⟩:=vals1 r;exact call_abs_int λu tk=>⟨.int (if i<0 then -i else i),H,I.tok _,⟨_,rfl⟩,q⟩
def QN:uC X (.type "str") (λxs H Q=>∃i,xs=[.int i]/\i.natAbs.log2<1920/\Q (.str (toString i)) H):=by
 intro pins s σ H xs us Q I r h;obtain⟨i,rfl,hz,q⟩:=h;obtain⟨u,rfl,t,rfl⟩:=vals1 r;exact PySem.P.str_of_int hz ⟨.str _,H,I.tok _,⟨_,rfl⟩,q⟩
def tq:uC X (.builtin "ord") (λxs H Q=>∃x,xs=[.str x]/\x.length=1/\Q (.int (x.cps.getD 0 0:Nat)) H):=by
 intro pins s σ H xs us Q I r h;obtain⟨x,rfl,hz,q⟩:=h;obtain⟨u,rfl,t,rfl⟩:=vals1 r;exact ord_of_one hz ⟨.int _,H,I.tok _,⟨_,rfl⟩,q⟩
end
end L2
namespace L2
open PySem PySem.Spec PyProof.Rows
structure fu(h:Heap)(x dx C:Addr)(mA:Str->Option Value):Prop where
 obj:h.get? x=some (aOU C dx)
 ns:h.Ns1 dx mA
 ne:dx≠x
def iu{h:Heap}{dx:Addr}{mA:Str->Option Value}(n:h.Ns1 dx mA):∃od,h.get? dx=some od/\∀name,aR1 name od=some (mA name):=by
 obtain⟨o,es,ep,ho,hd,hk,_,hm⟩:=n
 refine⟨o,ho,λname=>?_⟩
 have e:=hm name;unfold nsFind findBy at e;rw[<-Array.find?_toList]at e;unfold aR1;rw[hd];dsimp only;split
 ·rename_i y q;rw[q]at e;exact congrArg some e
 ·rename_i q;rw[q]at e;have a:es.toList.any (·.refKey)=false:=by
   rw[aQt]
   intro y hy;obtain⟨z,t,Zu⟩:=hk y (Array.mem_toList_iff.mp hy);simp[DictEntry.refKey,Zu]
  have a':¬es.toList.any (·.refKey)=true:=by rw[a];exact aMd
  rw[if_neg a']
  exact congrArg some e
def fu.look{h:Heap}{x dx C:Addr}{mA:Str->Option Value}(I:fu h x dx C mA):∃od,PySem.W.InstAt h x (aOU C dx) C (some od)/\∀name,aR1 name od=some (mA name):=
 let⟨od,ho,hl⟩:=iu I.ns
 ⟨od,⟨I.obj,rfl,rfl,ho⟩,hl⟩
section
variable{prog:aPa}{w:aPc}{A:Around}{E:Value->Shared->Prop}{s:Shared}{K:aMC}{x dx C f:Addr}{mA:Str->Option Value}{name:Str}{v:Value}
def zu{aHE:Bool}{Q:Value->Shared->Prop}(X:K.In s.heap)(I:fu s.heap x dx C mA)(hg:aRD K C name=true)(hh:aQv K C=true)
  (ha:aO4 K (.ref C) name=some none) (hv:mA name=some v) (hv':PySem.W.handedIn v=true) (h:Q v { s with toks:=s.toks+1 }):
  wpAny (model prog w) A (getAttr (.ref x) name aHE) Q E s:=by
 obtain⟨od,J,hl⟩:=I.look
 exact PySem.W.get_value X J (PySem.W.plainGet_of hg).1 (PySem.W.findObj_own hh ha rfl (by rw[hl,hv])) hv' h
def ym{ns:List Str}{Q:Unit->Shared->Prop}(X:K.In s.heap)(I:fu s.heap x dx C mA)
  (hs:aO4 K (.ref C) "__setattr__"=some (some (.builtin "object.__setattr__"))) (hp:PySem.W.plainOver K C=true) (ht:aRL K C name=some none) (hh:aQv K C=true)
  (hw:PySem.Within mA ns) (hsz:ns.length<=sizeLine)
  (h:∀h',fu h' x dx C (λy=>if y=name then some v else mA y)->aQ3 dx s.heap h'->Q () { s with heap:=h',toks:=s.toks+2 }):
  wpAny (model prog w) A (setAttr (.ref x) name v) Q E s:=by
 obtain⟨od,J,hl⟩:=I.look
 refine PySem.W.set_plain X J hs (PySem.W.osa_open (s:={ s with toks:=s.toks+1 }) (r:=none) X J hp ht λb=>?_);obtain⟨cd,hc,hd'⟩:=PySem.W.any_some hh;have hx:s.heap.get? x=some ⟨.ref C,some dx,.plain,#[]⟩:=I.obj;refine wpAny_bind (wpAny_pure (wpAny_bind (wpAny_bind (wpAny_loadPart hx (wpAny_bind (PySem.W.Looks.here (s:={ s with toks:=s.toks+1 }) (PySem.W.looks_clsIn X hc) ?_))))));rw[hd'];refine wpAny_pure (a:=some dx) (wpAny_bind (wpAny_pure (wpAny_bind ?_)));refine wpAny_nsSet1 (s:={ s with toks:=s.toks+1 }) I.ns λh' hn2 hs2=>?_;obtain⟨oD,esD,epD,hoD,hdD,hcD⟩:=hn2.count (PySem.Within.cons name v hw);refine wpAny_bind (wpAny_lookBehind hoD (by rw[hdD];exact pastItsLine_dict (aM3 hcD (by rw[aMT];omega))) ?_)
 exact wpAny_pure (h _ ⟨(hs2.2 _ (aQW I.ne)).trans I.obj,hn2,I.ne⟩ hs2)
def sk{R:Result->Shared->Prop}{vs:List Value}{kw:List (Str×Value)}(X:K.In s.heap)(hm:PySem.W.makesIn K C=true)
  (hi:aO4 K (.ref C) "__init__"=some (some (.ref f))) (hf:PySem.W.typeIn K (.ref f)=some (.type "function"))
  (h:codeAny (model prog w) (A.under (.builtin "type.__call__" ⟨.ref C::vs,kw⟩)) (.call (.ref f) ⟨.ref (s.heap.objs.size+1)::vs,kw⟩) (PySem.W.InitBack (s.heap.objs.size+1) R)
   { s with heap:=(s.heap.push aOF).push (aOU C s.heap.objs.size) }):
  codeAny (model prog w) A (.call (.ref C) ⟨vs,kw⟩) R s:=by
 obtain⟨hh,g,d,t,os⟩:=s
 exact PySem.W.make_core (PySem.W.makes_of X hm) (PySem.W.looks_findIn X hi) (λself=>PySem.W.bind_fn X self hf) (.inl rfl) h
end
def Bv(f:Str)(v:V):List (Str×V)->List (Str×V)
 |[]=>[(f,v)]
 |(g,x)::r=>if g=f then(g,v)::r else(g,x)::Bv f v r
theorem KN(f g:Str)(v:V):∀fs:List (Str×V),(Bv f v fs).lookup g=if g=f then some v else fs.lookup g
 | []=>by
  show aOV g [(f,v)]=_;by_cases h:g=f
  ·have hb:(g==f)=true:=beq_iff_eq.mpr h;simp only[aOV,hb,if_pos h]
  ·have hb:(g==f)=false:=beq_eq_false_iff_ne.mpr h;simp only[aOV,hb,if_neg h]
 | (k,x)::r=>by
  have ih:=KN f g v r;rw[show Bv f v ((k,x)::r)=(if k=f then(k,v)::r else(k,x)::Bv f v r)from rfl]
  by_cases hk:k=f
  ·rw[if_pos hk]
   by_cases h:g=k
   ·have hb:(g==k)=true:=beq_iff_eq.mpr h;simp only[aOV,hb,if_pos (h.trans hk)]
   ·have hb:(g==k)=false:=beq_eq_false_iff_ne.mpr h;simp only[aOV,hb,if_neg (λe:g=f=>h (e.trans hk.symm))]
  ·rw[if_neg hk]
   by_cases h:g=k
   ·have hb:(g==k)=true:=beq_iff_eq.mpr h;simp only[aOV,hb,if_neg (λe:g=f=>hk (h.symm.trans e))]
   ·have hb:(g==k)=false:=beq_eq_false_iff_ne.mpr h;simp only[aOV,hb];exact ih
theorem IZ(f:Str)(v:V):∀fs:List (Str×V),f∈(Bv f v fs).map (·.1)/\∀g,g∈fs.map (·.1)->g∈(Bv f v fs).map (·.1)
 |[]=>⟨by simp[Bv],λg h=>by simp at h⟩
 | (k,x)::r=>by
  obtain⟨i1,i2⟩:=IZ f v r
  rw[show Bv f v ((k,x)::r)=(if k=f then(k,v)::r else(k,x)::Bv f v r)from rfl]
  by_cases hk:k=f
  ·rw[if_pos hk]
   subst hk;exact⟨by simp,λg h=>by simpa using h⟩
  ·rw[if_neg hk]
   refine⟨?_,λg h=>?_⟩
   ·rw[aM2]
    exact aMM _ i1
   ·rw[aM2]at h ⊢
    rcases aMR.mp h with e|e
    ·exact aMR.mpr (.inl e)
    ·exact aMM _ (i2 g e)
theorem Jq(f:Str)(v:V):∀fs:List (Str×V),(Bv f v fs).length<=fs.length+1
 |[]=>by simp[Bv]
 | (k,x)::r=>by
  have ih:=Jq f v r;rw[show Bv f v ((k,x)::r)=(if k=f then(k,v)::r else(k,x)::Bv f v r)from rfl]
  by_cases hk:k=f
  ·rw[if_pos hk,aMT,aMT];omega
  ·rw[if_neg hk,aMT,aMT];omega
def II.some_of{v:V}{o:Option Value}(r:II (some v) o):∃u,o=some u/\dG v u:=by
 cases o with
 |none=>exact(show False from r).elim
 |some u=>exact⟨u,rfl,r⟩
def jd{v:V}{u:Value}(r:dG v u):PySem.W.handedIn u=true:=by
 cases v with
 |non=>cases(show u=aPv from r);rfl
 |bl b=>cases(show u=Value.bool b from r);rfl
 |int i=>obtain⟨t,e⟩:=(show ∃t,u=Value.int i t from r);cases e;rfl
 |str x=>obtain⟨t,e⟩:=(show ∃t,u=Value.str x t from r);cases e;rfl
 |byt b=>obtain⟨t,e⟩:=(show ∃t,u=Value.bytes b t from r);cases e;rfl
 |flt b=>obtain⟨t,e⟩:=(show ∃t,u=Value.float b t from r);cases e;rfl
 |ref a=>cases(show u=aPb a from r);rfl
 |ty n=>cases(show u=aQJ n from r);rfl
section
variable{P:aPa}{w:aPc}{H H':Hp}{h h':Heap}{a C dx:Addr}{fs fs':List (Str×V)}
def fc(eI:CD P w H h)(e:H a=some (.ins C dx fs)):∃mA,fu h a dx C mA/\(∀f,II (fs.lookup f) (mA f))/\PySem.Within mA (fs.map (·.1))/\fs.length<=1000/\H dx=some (.own a):=by
 obtain⟨d,z,ne,ob,mA,n,r,q⟩:=(show eY P w H h a (.ins C dx fs)from eI a _ e)
 exact⟨mA,⟨ob,n,ne⟩,r,q,z,d⟩
end
structure wj(K:aMC)(C:Addr):Prop where
 pg:aRD K C Str.empty=true
 hd:aQv K C=true
 po:PySem.W.plainOver K C=true
 sa:aO4 K (.ref C) "__setattr__"=some (some (.builtin "object.__setattr__"))
def wj.get{K:aMC}{C:Addr}(c:wj K C)(f:Str):aRD K C f=true:=c.pg
def gP(K:aMC)(C:Addr)(f:Str):Prop:=aO4 K (.ref C) f=some none
def gP.taker{K:aMC}{C:Addr}{f:Str}(n:gP K C f):aRL K C f=some none:=by
 unfold aRL;rw[show aO4 K (.ref C) f=some none from n];rfl
section
variable{X:Cx}{pins:List (Addr×Obj)}{σ:St}{H:Hp}{s:Shared}{a C dx:Addr}{fs:List (Str×V)}{f:Str}{v:V}{A:Around}{E:Value->Shared->Prop}
def Z7{b:Bool}{Q:Value->Shared->Prop}(I:Inv X pins σ H s)(e:H a=some (.ins C dx fs))(c:wj X.K C)(n:gP X.K C f)(l:fs.lookup f=some v)
  (h:∀u s',Inv X pins σ H s'->dG v u->Q u s'):wpAny (model X.prog X.w) A (getAttr (.ref a) f b) Q E s:=by
 obtain⟨mA,O,r,_,_,_⟩:=fc I.eI e
 obtain⟨u,hu,ru⟩:=II.some_of (v:=v) (o:=mA f) (by rw[<-l];exact r f)
 exact zu I.kIn O (c.get f) c.hd n hu (jd ru) (h u _ (I.tok _) ru)
def Z5{y:V}{u:Value}{Q:Unit->Shared->Prop}(I:Inv X pins σ H s)(e:H a=some (.ins C dx fs))(c:wj X.K C)(n:gP X.K C f)(hl:fs.length<1000)(ry:dG y u)
  (h:∀s',Inv X pins σ (upd H a (.ins C dx (Bv f y fs))) s'->Q () s'):wpAny (model X.prog X.w) A (setAttr (.ref a) f u) Q E s:=by
 obtain⟨mA,O,r,wi,_,ho⟩:=fc I.eI e
 have hz:(fs.map (·.1)).length<=sizeLine:=by rw[aLx,sizeLine_eq];omega
 refine ym I.kIn O c.sa c.po n.taker c.hd wi hz λh' O' sb=>h _ ?_;have hd:∃o,h'.get? dx=some o:=let⟨o,_,_,e',_⟩:=O'.ns;⟨o,e'⟩;refine I.write (x:=a) (e:=dx) (by rw[e];exact aPu) (.inr ho) (λb q hb z=>(sb.2 b hb).trans z) hd ?_
 refine⟨by rw[aT O.ne];exact ho,?_,O.ne,O'.obj,_,O'.ns,λg=>?_,λg hg=>?_⟩
 ·have:=Jq f y fs;omega
 ·show II ((Bv f y fs).lookup g) (if g=f then some u else mA g)
  rw[KN]
  by_cases q:g=f
  ·rw[if_pos q,if_pos q];exact ry
  ·rw[if_neg q,if_neg q];exact r g
 ·by_cases q:g=f
  ·rw[q];exact(IZ f y fs).1
  ·refine(IZ f y fs).2 g (wi g λz=>hg ?_)
   show(if g=f then some u else mA g)=none
   rw[if_neg q];exact z
def Inv.made(I:Inv X pins σ H s):Inv X pins σ (upd (upd H s.heap.objs.size (.own (s.heap.objs.size+1))) (s.heap.objs.size+1) (.ins C s.heap.objs.size []))
  { s with heap:=(s.heap.push aOF).push (aOU C s.heap.objs.size) }:=by
 have e1:(s.heap.push aOF).get? s.heap.objs.size=some aOF:=aP9 s.heap rfl;have e2:((s.heap.push aOF).push (aOU C s.heap.objs.size)).get? (s.heap.objs.size+1)=some (aOU C s.heap.objs.size):=by
  have:=aP9 (s.heap.push aOF) (o:=aOU C s.heap.objs.size) rfl
  rwa [aPg]at this
 have e3:(s.heap.push aOF).Ns s.heap.objs.size (λ_=>none):=⟨aOF,#[],_,e1,rfl,(λe he=>absurd he (by simp)),λ_=>rfl⟩
 have I1:=I.laid (a:=s.heap.objs.size) (o:=.own (s.heap.objs.size+1)) (h':=s.heap.push aOF) (t':=s.toks) (λb u q=>aP7 _ q) (aMG _) ⟨_,e1⟩;refine I1.laid (a:=s.heap.objs.size+1) (o:=.ins C s.heap.objs.size []) (t':=s.toks) (λb u q=>aP7 _ q) (aPR (aPg _ _)) ?_;have ne:s.heap.objs.size≠s.heap.objs.size+1:=aNK (aPS _);refine⟨by rw[aT ne,aB],aM1 _,ne,e2,λ_=>none,(Heap.Ns1.of_empty e3).at λo q=>aP7 _ q,λ_=>aPu,λy hy=>absurd rfl hy⟩
def yf{prog:aPa}{w:aPc}{env:Env}{e:Expr}{f:Str}{pos:Pos}{s:Shared}{Q:Value->Shared->Prop}(hb:attributeBase e f env (eval e env)=eval e env)
  (h:wpAny (model prog w) A (eval e env) (λo s₁=>wpAny (model prog w) A (getAttr o f true) Q E s₁) E s):wpAny (model prog w) A (eval (.Attribute e f pos) env) Q E s:=
 Attribute_any_ h (by rw[arm_eval_Attribute,hb])
end
inductive aAx(K:aMC)(f:Str)(Q:VK)(x:V)(H1:Hp):Prop
 |mk:∀a C dx fs v,x=.ref a->H1 a=some (.ins C dx fs)->wj K C->gP K C f->fs.lookup f=some v->Q v H1->aAx K f Q x H1
def aEE(K:aMC)(ta:TE)(f:Str):TE:=fun σ H Q=>ta σ H λx H1=>aAx K f Q x H1
inductive aAp(K:aMC)(f:Str)(D:IH)(σ:St)(y:V)(x:V)(H2:Hp):Prop
 |mk:∀a C dx fs,x=.ref a->H2 a=some (.ins C dx fs)->wj K C->gP K C f->fs.length<1000->D.nx σ (upd H2 a (.ins C dx (Bv f y fs)))->aAp K f D σ y x H2
def aGo(K:aMC)(ta tv:TE)(f:Str):TS:=λD σ H=>tv σ H λy H1=>ta σ H1 λx H2=>aAp K f D σ y x H2
section
variable{X:Cx}{o e oB:Expr}{f:Str}{pos pos' vk:Pos}{ta tv:TE}
def aU(he:PE X e ta)(hb:attributeBase e f X.env (eval e X.env)=eval e X.env):PE X (.Attribute e f pos) (aEE X.K ta f):=by
 intro pins s σ H Q I h;refine yf hb (gD (he pins s σ H _ I h) λu s1 ⟨x,H1,I1,rx,a,C,dx,fs,v,ex,ea,c,n,l,q⟩=>?_);subst ex;obtain rfl:u=aPb a:=rx;exact Z7 I1 ea c n l λu' s2 I2 ru=>⟨v,H1,I2,ru,q⟩
def gO(ha:PE X o ta)(hv:PE X oB tv)(hs:swapsWith oB (some (.Attribute o f pos')) pos.line X.env=pure false):PS X (.Assign [.Attribute o f pos'] oB pos) (aGo X.K ta tv f):=by
 intro pins s σ H D I h;refine plainObj_wpAny_Assign_Attribute (gD (hv pins s σ H _ I h) λu s1 ⟨y,H1,I1,ry,q⟩=>gD (ha pins s1 σ H1 _ I1 q) λov s2 ⟨x,H2,I2,rx,a,C,dx,fs,ex,ea,c,n,l,q2⟩=>?_) hs;subst ex;obtain rfl:ov=aPb a:=rx;exact Z5 I2 ea c n l ry λs3 I3=>⟨σ,_,I3,q2⟩
end
section
variable{X:Cx}{pins:List (Addr×Obj)}{σ:St}{H:Hp}{s:Shared}{A:Around}{E:Value->Shared->Prop}{Q:Value->Shared->Prop}{c:Value}{b:Bool}
end
end L2
namespace L2
open PySem PySem.Spec PyProof.Rows
structure mM(k:Nat)(A:Around):Prop where
 hd:A.handled=none
 dp:A.depth+3*k+5<recursionLimit
 un:A.units+16*k+200<cLine
def mM.mono{j k:Nat}{A:Around}(r:mM k A)(h:j<=k):mM j A:=⟨r.hd,by have:=r.dp;omega,by have:=r.un;omega⟩
theorem mM.deeper{k:Nat}{A:Around}(r:mM (k+1) A)(env:Env):mM k (A.deeper env):=
 ⟨r.hd,by have:=r.dp;show A.depth+1+3*k+5<_;omega,by have:=r.un;show A.units+3+16*k+200<_;omega⟩
def ZT{A:Around}{C:Addr}{us:List Value}{kw:List (Str×Value)}:(A.under (.builtin "type.__call__" ⟨.ref C::us,kw⟩)).depth=A.depth+1:=by
 first|rfl|simp[Around.under,Code.weight,Code.isCreation,Code.isGuard,Code.isCaller,Code.frames,Code.isFrame,guardIds]
def ZZ{A:Around}{C:Addr}{us:List Value}{kw:List (Str×Value)}:(A.under (.builtin "type.__call__" ⟨.ref C::us,kw⟩)).units=A.units+1:=by
 first|rfl|simp[Around.under,Code.cUnits,Code.frames,Code.isFrame]
def mM.make{k:Nat}{A:Around}(r:mM (k+1) A)(C:Addr)(us:List Value)(kw:List (Str×Value)):mM k (A.under (.builtin "type.__call__" ⟨.ref C::us,kw⟩)):=
 ⟨r.hd,by have:=r.dp;rw[ZT];omega,by have:=r.un;rw[ZZ];omega⟩
theorem mM.depth{k:Nat}{A:Around}(r:mM k A):A.depth<recursionLimit:=by have:=r.dp;omega
theorem mM.units{k:Nat}{A:Around}(r:mM k A):A.units+64<cLine:=by have:=r.un;omega
def mM.units0{k:Nat}{A:Around}(r:mM k A):A.units<cLine:=by have:=r.un;omega
def WS:TA:=λ_ H Q=>Q [] H
def B9(ta:TE)(tr:TA):TA:=fun σ H Q=>ta σ H λx H1=>tr σ H1 λxs H2=>Q (x::xs) H2
section
variable{X:Cx}{e:Expr}{es:List Expr}{te:TE}{t:TA}{pos:Pos}
def aD:PA X [] WS:=λ_ _ _ _ H Q I h=>Calls.spliced_nil ⟨[],H,I,.nil,h⟩
def aA(ha:PE X e te)(hr:PA X es t)(hs:starEach (e::es) X.env=(false,eval e X.env)::starEach es X.env:=by rfl):PA X (e::es) (B9 te t):=by
 intro pos pins s σ H Q I h;rw[hs];show wpAny _ _ (spliced ((false,eval e X.env)::backTo pos (starEach es X.env))) _ _ s;refine Calls.spliced_cons (gD (ha pins s σ H _ I h) λu s1 ⟨x,H1,I1,r1,q1⟩=>?_);exact gD (hr pos pins s1 σ H1 _ I1 q1) λus s2 ⟨xs,H2,I2,r2,q2⟩=>⟨x::xs,H2,I2,.cons r1 r2,q2⟩
def aGm(t:TA):TE:=fun σ H Q=>t σ H λxs H1=>xs.length<=sizeLine/\∀p,H1 p=none->Q (.ref p) (upd H1 p (.tup xs))
def aBd(t:TA):TE:=fun σ H Q=>t σ H λxs H1=>xs.length<=sizeLine/\∀p,H1 p=none->Q (.ref p) (upd H1 p (.lst xs))
def gC{x1}(h:PA X es t):PE X (.Tuple es x1 pos) (aGm t):=by
 intro pins s σ H Q I hq;refine wpAny_Tuple_spliced (gD (h pos pins s σ H _ I hq) λus s1 ⟨xs,H1,I1,r,z,q⟩=>⟨by rw[<-r.length];exact z,?_⟩)
 have hf:H1 s1.heap.objs.size=none:=I1.eI.fresh (aMG _);refine⟨.ref s1.heap.objs.size,upd H1 s1.heap.objs.size (.tup xs),I1.laid (t':=s1.toks) (λb u e=>aP7 _ e) (aMG _) ?_,rfl,q _ hf⟩;exact⟨z,us,r,⟨_,aP9 _ rfl,rfl,_,rfl⟩⟩
def aR(h:PA X es t):PE X (.List es pos) (aBd t):=by
 intro pins s σ H Q I hq;refine wpAny_List_spliced (gD (h pos pins s σ H _ I hq) λus s1 ⟨xs,H1,I1,r,z,q⟩=>⟨by rw[<-r.length];exact z,?_⟩)
 have hf:H1 s1.heap.objs.size=none:=I1.eI.fresh (aMG _);refine⟨.ref s1.heap.objs.size,upd H1 s1.heap.objs.size (.lst xs),I1.laid (t':=s1.toks) (λb u e=>aP7 _ e) (aMG _) ?_,rfl,q _ hf⟩;exact⟨z,us,0,r,aP9 _ rfl⟩
end
abbrev Sp:=List V->Hp->VK->XK->Prop
abbrev kz:=List Env->Hp->Shared->XK->Value->Shared->Prop
structure Yu(P:aPa)(w:aPc)(K:aMC)(mg:Str->Option Value)(base:Heap)(A:Around)(outer:List Env)(s:Shared)(H:Hp):Prop where
 frames:A.frames=some outer
 mod:Mod K mg base
 bs:∀b o,base.get? b=some o->s.heap.get? b=some o/\H b=none
 wk:base.objs.size<=s.heap.objs.size
 KO:s.heap.FunFrames base outer
 frf:∀b∈md outer,H b=none
 eI:CD P w H s.heap
 bare:AllBare s.gens
def CE(outer:List Env)(P:aPa)(w:aPc)(H:Hp)(s:Shared)(Q:VK)(u:Value)(s':Shared):Prop:=
 ∃v H',s'.os=s.os/\AllBare s'.gens/\Un (md outer) [] H H' s.heap s'.heap/\CD P w H' s'.heap/\dG v u/\Q v H'
def CR(CX:kz)(outer:List Env)(P:aPa)(w:aPc)(H:Hp)(s:Shared)(Q:VK)(E:XK)(r:Result)(s':Shared):Prop:=
 match r with
 |.ok (.ret u)=>CE outer P w H s Q u s'
 |.ok _=>False
 |.error e=>CX outer H s E e s'
structure bQ(P:aPa)(w:aPc)(K:aMC)(mg:Str->Option Value)(base:Heap)(CX:kz)(k:Nat)(f:Addr)(fd:FuncData)(ps:List Str)(sp:Sp):Prop where
 len:∀vs H Q E,sp vs H Q E->vs.length=ps.length
 run:∀(A:Around) (outer:List Env) (s:Shared) (H:Hp) (args:Args) (us:List Value) (vs:List V) (Q:VK) (E:XK),mM k A->Yu P w K mg base A outer s H->BindsTo s fd args (ps.zip us)->cJ vs us->sp vs H Q E->
  codeAny (model P w) A (.call (.ref f) args) (CR CX outer P w H s Q E) s
def Yu.make{P:aPa}{w:aPc}{K:aMC}{mg:Str->Option Value}{base:Heap}{A:Around}{outer:List Env}{s:Shared}{H:Hp}(e:Yu P w K mg base A outer s H)(C:Addr)(us:List Value)(kw:List (Str×Value)):
  Yu P w K mg base (A.under (.builtin "type.__call__" ⟨.ref C::us,kw⟩)) outer s H:=⟨by first|exact e.frames|(simpa[Around.under,Code.envs,Code.isFrame,pushEnvs]using e.frames),e.mod,e.bs,e.wk,e.KO,e.frf,e.eI,e.bare⟩
section
variable{X:Cx}{pins:List (Addr×Obj)}{σ:St}{H:Hp}{s s':Shared}
def Inv.env0(I:Inv X pins σ H s):Yu X.prog X.w X.K X.mg X.base X.A X.stack s H:=
 ⟨I.ok.frames,I.ok.mod,I.bs,aM3 I.ok.wk I.sz,I.stack,I.stkFree,I.eI,I.bare⟩
def Inv.after{Q:VK}{u:Value}(I:Inv X pins σ H s)(h:CE X.stack X.prog X.w H s Q u s'):EP X pins σ Q u s':=by
 obtain⟨v,H',os,bare,un,eI,r,q⟩:=h
 obtain⟨hh,g,d,t,os'⟩:=s'
 obtain rfl:os'=s.os:=os;exact⟨v,H',I.call (h':=hh) (g':=g) (d':=d) (t':=t) (ch:=[]) un eI bare (λb z=>absurd z (by simp)),r,q⟩
end
def Nv(sp:Sp)(dvs:List V)(E:XK)(t:TA):TE:=fun σ H Q=>t σ H λvs H1=>sp (vs++dvs) H1 Q E
def aAy(C:Addr)(sp:Sp)(dvs:List V)(E:XK)(t:TA):TE:=fun σ H Q=>t σ H λvs H1=>∀x dx,H1 x=none->H1 dx=none->dx≠x->
 sp (.ref x::(vs++dvs)) (upd (upd H1 dx (.own x)) x (.ins C dx [])) (λv H2=>v=.non/\Q (.ref x) H2) E
def aX(K:aMC)(fd:FuncData)(ps:List Str)(ds:List Value):Prop:=
 ∀(s:Shared) (us:List Value),K.In s.heap->(us++ds).length=ps.length->BindsTo s fd ⟨us,[]⟩ (ps.zip (us++ds))
def aX.all{K:aMC}{fd:FuncData}{ps:List Str}(h:∀us:List Value,us.length=ps.length->bindArgs fd ⟨us,[]⟩=pure (ps.zip us)):aX K fd ps []:=λs us _ hl=>by
 rw[aMc]at hl ⊢
 exact .of_eq (h us hl)
def IT(CX:kz)(X:Cx)(E:XK):Prop:=∀(pins:List (Addr×Obj)) (σ:St) (H:Hp) (s:Shared) (e:Value) (s':Shared),Inv X pins σ H s->CX X.stack H s E e s'->X.xe e s'
section
variable{X:Cx}{CX:kz}{k:Nat}{f C:Addr}{fd:FuncData}{ps:List Str}{sp:Sp}{dvs:List V}{ds:List Value}{E:XK}{x m:Str}{p pos kg:Pos}{e o:Expr}{es:List Expr}{ta:TE}{t:TA}
def pz{pins:List (Addr×Obj)}{σ:St}{H:Hp}{s:Shared}{Q:VK}{us:List Value}{vs:List V}(F:bQ X.prog X.w X.K X.mg X.base CX k f fd ps sp)(hr:mM k X.A)(hb:aX X.K fd ps ds)(hd:cJ dvs ds)(hx:IT CX X E)
  (I:Inv X pins σ H s) (r:cJ vs us) (h:sp (vs++dvs) H Q E):wpAny (model X.prog X.w) X.A (call (.ref f) us) (EP X pins σ Q) X.xe s:=by
 have r2:cJ (vs++dvs) (us++ds):=r.append hd;have hl:(us++ds).length=ps.length:=by rw[<-r2.length];exact F.len _ _ _ _ h
 refine wpAny_call (aRE (F.run X.A X.stack s H ⟨us,[]⟩ (us++ds) (vs++dvs) Q E hr I.env0 (hb s us I.kIn hl) r2 h) λr s' hq=>?_);cases r with
 |error e=>exact hx pins σ H s e s' I hq
 | ok fl=>
  cases fl with
  |ret u=>exact I.after hq
  |next=>exact aPh hq
  |brk=>exact aPh hq
  |cont=>exact aPh hq
def za(F:bQ X.prog X.w X.K X.mg X.base CX k f fd ps sp)(hr:mM k X.A)(hg:Gl X x)(hm:X.mg x=some (.ref f))(hk:aOW X.K (.ref f)=true)(hb:aX X.K fd ps ds)(hd:cJ dvs ds)(hx:IT CX X E)
  (ha:PA X (e::es) t) (wb:(x==("__debug__":Str))=false:=by decide) (he:starEach (e::es) X.env=(false,eval e X.env)::starEach es X.env:=by rfl) (AJ:(backTo pos (starEach es X.env)).any (·.1)=false:=by rfl):
  PE X (.Call (.Name x p) (e::es) [] pos) (Nv sp dvs E t):=by
 intro pins s σ H Q I h;refine aPs (Kp I hg hm ?_ wb);refine aQl (h₀:=X.base) I.ok.mod.kin hk (gD (ha pos pins s σ H _ I h) λus s1 ⟨vs,H1,I1,r,q⟩=>⟨I1.kIn,?_⟩) he AJ;exact pz F hr hb hd hx I1 r q
structure Mk(K:aMC)(C f:Addr):Prop where
 makes:PySem.W.makesIn K C=true
 init:aO4 K (.ref C) "__init__"=some (some (.ref f))
 fn:PySem.W.isFn K (.ref f)=true
 kp:aOW K (.ref C)=true
def XS{pins:List (Addr×Obj)}{σ:St}{H:Hp}{s:Shared}{Q:VK}{us:List Value}{vs:List V}(M:Mk X.K C f)(F:bQ X.prog X.w X.K X.mg X.base CX k f fd ps sp)(hr:mM (k+1) X.A)(hb:aX X.K fd ps ds)(hd:cJ dvs ds)
  (hx:IT CX X E) (I:Inv X pins σ H s) (r:cJ vs us)
  (h:∀x dx,H x=none->H dx=none->dx≠x->sp (.ref x::(vs++dvs)) (upd (upd H dx (.own x)) x (.ins C dx [])) (λv H2=>v=.non/\Q (.ref x) H2) E):
  wpAny (model X.prog X.w) X.A (call (.ref C) us) (EP X pins σ Q) X.xe s:=by
 have hq:=h (s.heap.objs.size+1) s.heap.objs.size (I.eI.fresh (Nat.le_succ _)) (I.eI.fresh (aMG _)) (aNK (aPS _));have I2:=Inv.made (C:=C) I;have r2:cJ (V.ref (s.heap.objs.size+1)::(vs++dvs)) (aPb (s.heap.objs.size+1)::(us++ds)):=.cons rfl (r.append hd);have hl:(aPb (s.heap.objs.size+1)::us++ds).length=ps.length:=by
  have e:=r2.length;rw[F.len _ _ _ _ hq]at e;exact e.symm
 refine wpAny_call (sk (f:=f) I.kIn M.makes M.init (beq_iff_eq.mp M.fn) (aRE (F.run _ X.stack _ _ ⟨aPb (s.heap.objs.size+1)::us,[]⟩ (aPb (s.heap.objs.size+1)::(us++ds)) _ _ E (hr.make C us [])
  (I2.env0.make C us []) (hb _ (aPb (s.heap.objs.size+1)::us) I2.kIn hl) r2 hq) λr s' hq'=>?_))
 cases r with
 |error e=>exact hx pins σ _ _ e s' I2 hq'
 | ok fl=>
  cases fl with
  | ret u=>
   obtain⟨v,H',I3,rv,ev,q3⟩:=I2.after hq'
   subst ev;exact⟨rv,⟨V.ref (s.heap.objs.size+1),H',I3,rfl,q3⟩⟩
  |next=>exact aPh hq'
  |brk=>exact aPh hq'
  |cont=>exact aPh hq'
def vQ(M:Mk X.K C f)(F:bQ X.prog X.w X.K X.mg X.base CX k f fd ps sp)(hr:mM (k+1) X.A)(hg:Gl X x)(hm:X.mg x=some (.ref C))(hb:aX X.K fd ps ds)(hd:cJ dvs ds)(hx:IT CX X E)
  (ha:PA X (e::es) t) (wb:(x==("__debug__":Str))=false:=by decide) (he:starEach (e::es) X.env=(false,eval e X.env)::starEach es X.env:=by rfl) (AJ:(backTo pos (starEach es X.env)).any (·.1)=false:=by rfl):
  PE X (.Call (.Name x p) (e::es) [] pos) (aAy C sp dvs E t):=by
 intro pins s σ H Q I h;refine aPs (Kp I hg hm ?_ wb);refine aQl (h₀:=X.base) I.ok.mod.kin M.kp (gD (ha pos pins s σ H _ I h) λus s1 ⟨vs,H1,I1,r,q⟩=>⟨I1.kIn,?_⟩) he AJ;exact XS M F hr hb hd hx I1 r q
def XH(M:Mk X.K C f)(F:bQ X.prog X.w X.K X.mg X.base CX k f fd ps sp)(hr:mM (k+1) X.A)(hg:Gl X x)(hm:X.mg x=some (.ref C))(hb:aX X.K fd ps ds)(hd:cJ dvs ds)(hx:IT CX X E)
  (wb:(x==("__debug__":Str))=false:=by decide):PE X (.Call (.Name x p) [] [] pos) (aAy C sp dvs E WS):=by
 intro pins s σ H Q I h;refine aPs (Kp I hg hm ?_ wb);exact PySem.W.callWith_K0 I.kIn M.kp (XS (us:=[]) M F hr hb hd hx I .nil h)
end
section
variable{X:Cx}{CX:kz}{k:Nat}{f C:Addr}{fd:FuncData}{ps ks:List Str}{sp:Sp}{E:XK}{x m:Str}{p pos kg kpos:Pos}{e o:Expr}{es:List Expr}{kws:List Keyword}{te ta:TE}{t tk:TA}{nm:Option Str}
variable{g:List Value->List Value->List Value}{gV:List V->List V->List V}
end
structure aK(N P:List Str)(sc:aPq):Prop where
 kind:sc.kind=.function
 co:sc.isCoroutine=false
 gen:sc.isGenerator=false
 nd:N.Nodup
 pre:N.take P.length=P
 par:∀x∈P,sc.names.lookup x=some .local\/sc.names.lookup x=some .cell
 aBr:∀y∈sc.names,y.2≠.free
theorem OR{kindOf:Str->Option NameKind}{x:Str}:∀{binds:List (Str×Value)} {m:Str->Option Value},(∀v,(x,v)∉binds)->bindL kindOf binds m x=m x
 |[],_,_=>rfl
 | (n,v)::r,m,h=>by
  unfold bindL;rw[OR λw hw=>h w (aMM _ hw)];split
  ·have:x≠n:=by rintro rfl;exact h v aMN
   simp[this]
  ·rfl
theorem OB{kindOf:Str->Option NameKind}{x:Str}:∀{binds:List (Str×Value)} {m:Str->Option Value},(∀v,(x,v)∉binds)->bindC kindOf binds m x=m x
 |[],_,_=>rfl
 | (n,v)::r,m,h=>by
  unfold bindC;rw[OB λw hw=>h w (aMM _ hw)];split
  ·rfl
  ·have:x≠n:=by rintro rfl;exact h v aMN
   simp[this]
theorem OM{kindOf:Str->Option NameKind}{x:Str}{v:Value}:∀{P:List Str} {vs:List Value} {i:Nat} {m:Str->Option Value},P.Nodup->P[i]?=some x->vs[i]?=some v->kindOf x=some .local->
  bindL kindOf (P.zip vs) m x=some v
 |[],_,_,_,_,h,_,_=>by simp at h
 |_::_,[],_,_,_,_,h,_=>by simp at h
 | p::P,w::vs,0,m,nd,h1,h2,hk=>by
  simp at h1 h2;subst h1;subst h2
  show bindL kindOf ((p,w)::P.zip vs) m p=_;unfold bindL;rw[OR λv hv=>(aNP.mp nd).1 (aRM hv).1,if_pos hk];simp
 | p::P,w::vs,i+1,m,nd,h1,h2,hk=>by
  show bindL kindOf ((p,w)::P.zip vs) m x=_;unfold bindL;exact OM (i:=i) (aNP.mp nd).2 (by simpa using h1) (by simpa using h2) hk
theorem O7{kindOf:Str->Option NameKind}{x:Str}{v:Value}:∀{P:List Str} {vs:List Value} {i:Nat} {m:Str->Option Value},P.Nodup->P[i]?=some x->vs[i]?=some v->kindOf x≠some .local->
  bindC kindOf (P.zip vs) m x=some v
 |[],_,_,_,_,h,_,_=>by simp at h
 |_::_,[],_,_,_,_,h,_=>by simp at h
 | p::P,w::vs,0,m,nd,h1,h2,hk=>by
  simp at h1 h2;subst h1;subst h2
  show bindC kindOf ((p,w)::P.zip vs) m p=_;unfold bindC;rw[OB λv hv=>(aNP.mp nd).1 (aRM hv).1,if_neg hk];simp
 | p::P,w::vs,i+1,m,nd,h1,h2,hk=>by
  show bindC kindOf ((p,w)::P.zip vs) m x=_;unfold bindC;exact O7 (i:=i) (aNP.mp nd).2 (by simpa using h1) (by simpa using h2) hk
def start(N:List Str)(vs:List V):St:=vs.map some++aMF (N.length-vs.length) none
def fw(CX:kz)(P:aPa)(w:aPc)(K:aMC)(mg:Str->Option Value)(base:Heap)(N:List Str)(qual:Str)(scope:aPq)(f:Addr)(cd:Value)(A:Around)(outer:List Env)(s:Shared)(H:Hp)(E:XK):Cx where
 prog:=P
 w:=w
 K:=K
 mg:=mg
 base:=base
 A:=A.deeper (envOfC qual scope s.heap.objs.size f cd)
 N:=N
 Nq:=s
 H_0:=H
 env:=envOfC qual scope s.heap.objs.size f cd
 outer:=outer
 stack:=envOfC qual scope s.heap.objs.size f cd::outer
 ex:=[]
 calm:=true
 fn:=λ_=>true
 pn:=[]
 xe:=λe s'=>wpAny (model P w) (A.deeper (envOfC qual scope s.heap.objs.size f cd)) (leaving (envOfC qual scope s.heap.objs.size f cd) e) (λ_ s''=>CX outer H s E e s'') (λe' s''=>CX outer H s E e' s'') s'
def Ww{sc:aPq}{n:Nat}{x:Str}(h:sc.names.lookup x=some .cell):∃c,(cellsFrom n sc.names []).lookup x=some c:=by
 have q:=aRU sc.names n [] (.inl h);exact aRF.mp q
def jj{CX:kz}{P:aPa}{w:aPc}{K:aMC}{mg:Str->Option Value}{base:Heap}{N ps:List Str}{qual:Str}{scope:aPq}{f:Addr}{cd:Value}{A:Around}{outer:List Env}{s s1:Shared}{H:Hp}{E:XK}{us:List Value}{vs:List V}
  (S:aK N ps scope) (hd:A.handled=none) (e0:Yu P w K mg base A outer s H) (hl:vs.length=ps.length) (r:cJ vs us)
  (x:InCallC s s.heap.objs.size (bindL (envOfC qual scope s.heap.objs.size f cd).kindOf (ps.zip us) λ_=>none) (cellsFrom (s.heap.objs.size+1) scope.names []) (bindC (envOfC qual scope s.heap.objs.size f cd).kindOf (ps.zip us) λ_=>none) s1):
  Inv (fw CX P w K mg base N qual scope f cd A outer s H E) [] (start N vs) H s1:=by
 have AJ:ps.length<=N.length:=by have:=congrArg aMi S.pre;rw[aMj]at this;omega
 obtain⟨h1,tk,rfl,hk⟩:=x.done
 have noA:∀b:Addr,b∉(fw CX P w K mg base N qual scope f cd A outer s H E).ex:=λb z=>absurd (show b∈([]:List Addr)from z) (by simp)
 refine⟨⟨e0.mod,S.kind,rfl,rfl,aMG _,λy z c h1 h2=>?_,λy hy=>?_,λy c _ h=>?_,λ_=>hd,Around.frames_deeper e0.frames,.inr ⟨rfl,rfl⟩,λb z=>absurd z (noA b),e0.bs,e0.wk,λb _ _=>noA b,λb z=>absurd z (noA b),e0.KO,e0.frf⟩,
  rfl,e0.bare,Un.kept hk,⟨_,x.toInCall.ns,λi y v h1 h2 h3=>?_⟩,λy c h=>⟨_,x.cell y c h⟩,e0.eI.fresh (aMG _),λy c h=>?_,λp hp=>absurd (show p∈([]:List (Addr×Obj))from hp) (by simp),e0.eI.kept hk,?_⟩
 ·exact name_of_addr x.apart (aPe h1) (aPe h2)
 ·have hy:scope.names.lookup y=some .cell\/scope.names.lookup y=some .free:=hy;rcases hy with hy|hy
  ·exact Ww hy
  ·exact absurd rfl (S.aBr _ (aPe hy))
 ·exact aMm (x.above y c (aPe h))
 ·have hi:i<vs.length:=by
   unfold start at h2;by_cases hi:i<vs.length
   ·exact hi
   ·rw[aOL (by simpa using hi)]at h2
    rw[aQL]at h2
    split at h2<;>cases h2
  have ha:vs[i]?=some v:=by
   unfold start at h2;rw[aOZ (by simpa using hi),aM4]at h2
   cases e:vs[i]? with
   |none=>rw[e]at h2;cases h2
   |some a=>rw[e]at h2;cases h2;rfl
  obtain⟨u,hu,rv⟩:=r.get ha
  have hp:ps[i]?=some y:=by
   rw[<-S.pre,List.getElem?_take_of_lt (by omega)];exact h1
  have ndP:ps.Nodup:=by rw[<-S.pre];exact S.nd.sublist (List.take_sublist _ _)
  refine⟨u,rv,?_⟩
  rcases S.par y (aMZ hp)with k|k
  ·exact .inl ⟨k,OM ndP hp hu k⟩
  ·obtain⟨c,e⟩:=Ww (n:=s.heap.objs.size+1) k
   refine .inr ⟨.inl k,c,e,?_⟩;have q:=x.cell y c e;rw[O7 ndP hp hu (by show scope.names.lookup y≠_;rw[k];decide)]at q
   exact q
 ·exact e0.eI.fresh (aMm (x.above y c (aPe h)))
 ·unfold start;show _=N.length;rw[aMH,aLx,aN6];omega
def aE7{CX:kz}{P:aPa}{w:aPc}{K:aMC}{mg:Str->Option Value}{base:Heap}{k:Nat}{f:Addr}{name qual:Str}{params:Arguments}{body:List Stmt}{scope:aPq}{dV kV doc pm d3 ct oc:Value}{an od:Option Addr}
  {osl:Array (Option Value)} {N ps:List Str} {sp:Sp} (lk:K.lookup f=some ⟨oc,od,.func (aO5 name qual params body scope dV kV doc pm an d3 ct),osl⟩) (ku:aR3 K d3 qual=true) (S:aK N ps scope)
  (len:∀vs H Q E,sp vs H Q E->vs.length=ps.length)
  (vp:∀(A:Around) (outer:List Env) (s:Shared) (H:Hp) (vs:List V) (Q:VK) (E:XK),mM k (A.deeper (envOfC qual scope s.heap.objs.size f d3))->sp vs H Q E->
   ∃t,Yo (fw CX P w K mg base N qual scope f d3 A outer s H E) body t/\t { nx:=λ_ H'=>Q .non H',rt:=Q } (start N vs) H):
  bQ P w K mg base CX (k+1) f (aO5 name qual params body scope dV kV doc pm an d3 ct) ps sp:=by
 refine⟨len,λA outer s H args us vs Q E hr e0 hb r xj=>?_⟩
 have hl:=len _ _ _ _ xj;have KX:K.In s.heap:=e0.mod.kin.keeps λb o e=>(e0.bs b o e).1;have lim:s.heap.NoLimit:=e0.mod.nolimit.keeps λb o e=>(e0.bs b o e).1;have aEu:∀y∈ps.zip us,scope.names.lookup y.1=some .local\/(scope.names.lookup y.1=some .cell/\((cellsFrom (s.heap.objs.size+1) scope.names []).lookup y.1).isSome=true):=fun⟨n,v⟩ hy=>by
  rcases S.par n (aRM hy).1 with q|q
  ·exact .inl q
  ·exact .inr ⟨q,aRU _ _ _ (.inl q)⟩
 refine codeAny_call_function hr.depth (KX _ _ lk) rfl S.co S.gen rfl (PySem.W.codeRec_of KX ku) (hb _ _ _ _ ?_);refine wpAny_newFunctionEnv_cells S.kind aEu λenv he s1 x=>?_;subst he;refine⟨lim.keeps x.toInCall.keep,codeAny_func ?_⟩;obtain⟨t,ht,hq⟩:=vp A outer s H vs Q E (hr.deeper _) xj;have I:Inv (fw CX P w K mg base N qual scope f d3 A outer s H E) [] (start N vs) H s1:=jj S hr.hd e0 hl r x;refine wpAny_mono (ht [] s1 (start N vs) H _ I hq) (λfl s' hs=>?_) λe s' hs=>hs;have fin:∀{σ':St} {H':Hp} {v:V} {u:Value},Inv (fw CX P w K mg base N qual scope f d3 A outer s H E) [] σ' H' s'->dG v u->Q v H'->CE outer P w H s Q u s':=
  fun{σ' H' v u} J rv q=>⟨v,H',J.os,J.bare,J.base,J.eI,rv,q⟩
 cases fl with
 | ret u=>
  obtain⟨v,σ',H',J,rv,q⟩:=hs
  exact fin J rv q
 | next=>
  obtain⟨σ',H',J,q⟩:=hs
  exact fin (v:=V.non) (u:=aPv) J rfl q
 | brk=>
  obtain⟨_,_,_,q⟩:=hs
  exact aPh q
 | cont=>
  obtain⟨_,_,_,q⟩:=hs
  exact aPh q
end L2
namespace L2
open PySem PySem.Spec PyProof.Rows
section
variable{X:Cx}{x:Str}{p pos:Pos}{e:Expr}{es:List Expr}{t:TA}{id T:String}{r:List V->Hp->VK->Prop}
def tCB(r:List V->Hp->VK->Prop)(t:TA):TE:=fun σ H Q=>t σ H λvs H1=>r vs H1 Q
def bJ(hc:uC X (.builtin id) r)(hg:Gl X x)(hm:X.mg x=none)(hv:bootBuiltins x=some (.builtin id))(ha:PA X (e::es) t)(hn:x≠"__name__":=by decide)(wb:(x==("__debug__":Str))=false:=by decide)
  (he:starEach (e::es) X.env=(false,eval e X.env)::starEach es X.env:=by rfl) (AJ:(backTo pos (starEach es X.env)).any (·.1)=false:=by rfl):PE X (.Call (.Name x p) (e::es) [] pos) (tCB r t):=by
 intro pins s σ H Q I h;refine aPs (IM I hg hm hv ?_ hn wb);exact PyProof.Rows.callWith_builtin1 (gD (ha pos pins s σ H _ I h) λus s1 ⟨vs,H1,I1,r1,q1⟩=>hc pins s1 σ H1 vs us Q I1 r1 q1) he AJ
def hJ(hc:uC X (.type T) r)(hg:Gl X x)(hm:X.mg x=none)(hv:bootBuiltins x=some (.type T))(ha:PA X (e::es) t)(hn:x≠"__name__":=by decide)(wb:(x==("__debug__":Str))=false:=by decide)
  (he:starEach (e::es) X.env=(false,eval e X.env)::starEach es X.env:=by rfl) (AJ:(backTo pos (starEach es X.env)).any (·.1)=false:=by rfl):PE X (.Call (.Name x p) (e::es) [] pos) (tCB r t):=by
 intro pins s σ H Q I h;refine aPs (IM I hg hm hv ?_ hn wb);exact aPn (gD (ha pos pins s σ H _ I h) λus s1 ⟨vs,H1,I1,r1,q1⟩=>hc pins s1 σ H1 vs us Q I1 r1 q1) he AJ
end
end L2
namespace HT
open PySem PyProof.Rows
def lexLt:List Int->List Int->Bool
 |[],[]=>false
 |[],_::_=>true
 |_::_,[]=>false
 |x::xs,y::ys=>if x=y then lexLt xs ys else decide (x<y)
def Zd(x y:Int)(xs ys:List Int):lexLt (x::xs) (y::ys)=if x=y then lexLt xs ys else decide (x<y):=rfl
def N0:lexLt [] []=false:=rfl
def MN(y:Int)(ys:List Int):lexLt [] (y::ys)=true:=rfl
def MW(x:Int)(xs:List Int):lexLt (x::xs) []=false:=rfl
def sf(A:Around)(s:Shared)(a:Int)(t:Tok)(c:Int)(u:Tok):∃e,aQK A s (.int a t) (.int c u) e/\(e=true↔a=c):=
 ⟨(a==c),aQF a t c u,by simp⟩
def uu(A:Around)(s:Shared)(a:Int)(t:Tok)(c:Int)(u:Tok)(prog:aPa)(w:aPc)(E:Value->Shared->Prop)(Q:Value->Shared->Prop)(h:Q (.bool (decide (a<c))) s):
  wpAny (model prog w) A (richCompare .Lt (.int a t) (.int c u)) Q E s:=
 (PyProof.Rows.lt_int h:wpAny (model prog w) A (compareOp .Lt (.int a t) (.int c u)) Q E s)
section
open PySem.SeqAt
open PySem.AutoSeq1 (wpAny_loadPart')
open PySem.MeetsSeq PySem.MeetsSeq2 PySem.MeetsSeq3
def Mx(l b:Addr)(items y9:Array Value)(n n2:Nat)(dd dd2:Option Addr)(sl sl2:Array (Option Value))(ns ms:List Int)(hi:IntsAre items.toList ns)(hj:IntsAre y9.toList ms):
  Meets (Builtin.«tuple.__lt__» ⟨[.ref l,.ref b],[]⟩)
   (λ_ R s=>s.heap.get? l=some { cls:=.type "tuple",dict:=dd,data:=.seq items n,slots:=sl }/\s.heap.get? b=some { cls:=.type "tuple",dict:=dd2,data:=.seq y9 n2,slots:=sl2 }/\
    R (.ok (.ret (.bool (lexLt ns ms)))) s):=
 .of_wp λprog w A R s h=>by
  obtain⟨hp,g,d,tk,os⟩:=s;obtain⟨hl,hb,h⟩:=h
  have f2:=AutoSeq1.sub_tuple_tuple;have z1:items.size=ns.length:=by rw[<-hi.length];simp
  have z2:y9.size=ms.length:=by rw[<-hj.length];simp
  wp_walk using wpAny_loadPart' hl,wpAny_loadPart' hb,wpAny_forIn_list _ (λkR b s'=>b.1=none/\s'=⟨hp,g,d,tk,os⟩/\∃(vs ws:List Value) (ns' ms':List Int),kR=vs.zip ws/\
   IntsAre vs ns'/\IntsAre ws ms'/\ns'.length+y9.size=ms'.length+items.size/\R (.ok (.ret (.bool (lexLt ns' ms')))) ⟨hp,g,d,tk,os⟩) _
  case turn=>
   rintro⟨y,x⟩ kR b s' ⟨hb',rfl,vs,ws,ns',ms',hz,hvi,Mo,cC,hR⟩
   cases hvi with
   |nil=>rw[List.zip_nil_left]at hz;cases hz
   | cons a t hvi'=>
    cases Mo with
    |nil=>rw[List.zip_nil_right]at hz;cases hz
    | cons c u hwi'=>
     rw[List.zip_cons_cons]at hz
     injection hz with hyx hrest;injection hyx with hy hx;subst hy hx;rw[Zd]at hR;simp only[aMT]at cC;obtain⟨e,he,aAC⟩:=sf A.in1 ⟨hp,g,d,tk,os⟩ a t c u;refine wpAny_bind (he prog w _ _ ?_);cases e with
     | true=>
      rw[if_pos (aAC.mp rfl)]at hR
      wp_walk
      exact⟨rfl,rfl,_,_,_,_,hrest,hvi',hwi',by omega,hR⟩
     | false=>
      rw[if_neg (λq=>absurd (aAC.mpr q) aMd)]at hR
      have hri:=uu A.in1 ⟨hp,g,d,tk,os⟩ a t c u prog w
      wp_walk using hri
      exact⟨_,rfl,by simpa using hR⟩
  case fin=>
   rintro⟨b1,b2⟩ s' ⟨hb',rfl,vs,ws,ns',ms',hz,hvi,Mo,cC,hR⟩
   simp only at hb';subst hb';have hv:lexLt ns' ms'=decide (items.size<y9.size):=by
    cases hvi with
    | nil=>
     cases Mo with
     | nil=>
      simp only[aPT]at cC
      rw[N0]
      exact(decide_eq_false (by omega)).symm
     | cons c u hw=>
      simp only[aPT,aMT]at cC
      rw[MN]
      exact(decide_eq_true (by omega)).symm
    | cons a t hv=>
     cases Mo with
     | nil=>
      simp only[aPT,aMT]at cC
      rw[MW]
      exact(decide_eq_false (by omega)).symm
     | cons c u hw=>
      rw[List.zip_cons_cons]at hz
      cases hz
   rw[hv]at hR
   wp_walk
   exact⟨_,rfl,by simpa[Builtin.Tuple.tupleCompareSizes]using hR⟩
  case h=>
   exact⟨rfl,rfl,items.toList,y9.toList,ns,ms,rfl,hi,hj,by omega,h⟩
end
section
variable{prog:aPa}{w:aPc}{A:Around}{E:Value->Shared->Prop}{s:Shared}
def ZR{l b:Addr}{items y9:Array Value}{ns ms:List Int}{Q:Value->Shared->Prop}(hl:IsTup s.heap l items)(hb:IsTup s.heap b y9)(hi:IntsAre items.toList ns)(hj:IntsAre y9.toList ms)
  (hu:A.units<cLine) (h:Q (.bool (lexLt ns ms)) s):wpAny (model prog w) A (compareOp .Lt (.ref l) (.ref b)) Q E s:=by
 obtain⟨⟨cls,dd,data,sl⟩,ho,hc,n,hd⟩:=id hl
 obtain⟨⟨aEv,dd2,aB3,sl2⟩,xo,Yk,n2,Bs⟩:=id hb
 simp only at hc hd Yk Bs;subst hc hd Yk Bs;exact richCompare_meets_room (op:=.Lt) ⟨_,ho,rfl⟩ ⟨_,xo,rfl⟩ PySem.F.slot_tuple_lt PySem.F.entry_tuple_lt (PySem.F.args_tuple_lt_2 _ _) (Mx l b items y9 n n2 dd dd2 sl sl2 ns ms hi hj)
  ⟨ho,xo,show Value.bool (lexLt ns ms)≠Value.notImplemented/\Q (.bool (lexLt ns ms)) s from⟨(λx=>nomatch x),h⟩⟩ hu
def zi{t b:Addr}{vs ws:List Value}{Q:Value->Shared->Prop}(ht:IsTup s.heap t vs.toArray)(hb:IsTup s.heap b ws.toArray)(hv:vs≠[])
  (h1:ws=[]->Q (.ref t) s) (h2:ws≠[]->Q (.ref s.heap.objs.size) { s with heap:=s.heap.push { cls:=.type "tuple",data:=.seq (vs++ws).toArray } })
  (hsz:vs.length+ws.length<=sizeLine):wpAny (model prog w) A (binaryOp .Add (.ref t) (.ref b)) Q E s:=by
 obtain⟨⟨cls,dd,data,sl⟩,ho,hc,n,hd⟩:=id ht
 obtain⟨⟨aEv,dd2,aB3,sl2⟩,xo,Yk,n2,Bs⟩:=id hb
 simp only at hc hd Yk Bs;subst hc hd Yk Bs;have e:vs.toArray++ws.toArray=(vs++ws).toArray:=by simp
 by_cases hw:ws=[]
 ·exact concat_meets ⟨_,ho,rfl⟩ ⟨_,xo,rfl⟩ aRG seq_tuple_add aQT aQN (aQG _ _)
   (tuple_addW1 t b vs.toArray ws.toArray n n2 dd dd2 sl sl2 (by simpa using hv) (by simp[hw])) ⟨ho,xo,h1 hw⟩
 ·refine concat_meets ⟨_,ho,rfl⟩ ⟨_,xo,rfl⟩ aRG seq_tuple_add aQT aQN (aQG _ _)
   (tuple_addW2 t b vs.toArray ws.toArray n n2 dd dd2 sl sl2 (by simpa using hv) (by simpa using hw) (by rw[aM8,aM8];exact hsz)) ⟨ho,xo,?_⟩
  rw[e]
  exact h2 hw
def Ml(n d:Nat):Option Int->Nat
 |none=>d
 |some v=>if v<0 then(v+(n:Int)).toNat else min v.toNat n
def bj(n d k:Nat):Ml n d (some (k:Int))=min k n:=by
 show(if(k:Int)<0 then((k:Int)+(n:Int)).toNat else min (k:Int).toNat n)=min k n
 rw[if_neg (by omega),aNe]
end
end HT
namespace L2
open PySem PySem.Spec PyProof.Rows
abbrev TO:=St->Hp->(Option Int->Hp->Prop)->Prop
def PO(X:Cx)(e:Option Expr)(t:TO):Prop:=
 ∀(pins:List (Addr×Obj)) (s:Shared) (σ:St) (H:Hp) (Q:Option Int->Hp->Prop),Inv X pins σ H s->t σ H Q->
  wpAny (model X.prog X.w) X.A (evalPart e X.env) (λu s'=>∃o H',Inv X pins σ H' s'/\IsPart u o/\Q o H') X.xe s
inductive ow(Q:Option Int->Hp->Prop)(x:V)(H1:Hp):Prop
 |mk:∀i,x=.int i->Q (some i) H1->ow Q x H1
def aEY(t:TE):TO:=fun σ H Q=>t σ H λx H1=>ow Q x H1
def Ai{ns:List Int}:∀{us:List Value},cJ (ns.map V.int) us->IntsAre us ns:=by
 induction ns with
 |nil=>intro us r;rw[aOE]at r;cases r;exact .nil
 | cons n ns ih=>
  intro us r;rw[aM2]at r;cases r with
  | cons r1 r2=>
   obtain⟨t,e⟩:=r1
   subst e;exact .cons n t (ih r2)
section
variable{X:Cx}{e:Expr}{te:TE}{lo hi:Option Expr}{tl th:TO}{pos p2:Pos}
def jL(h:PE X e te):PO X (some e) (aEY te):=by
 intro pins s σ H Q I hw;rw[evalPart_some];refine gD (h pins s σ H _ I hw) λu s1 ⟨x,H1,I1,r1,q1⟩=>?_;obtain⟨i,rfl,q⟩:=q1;obtain⟨t,rfl⟩:=r1;exact⟨some i,H1,I1,.int i t,q⟩
def SlR(X:Cx)(r:V->Option Int->Option Int->Hp->VK->Prop):Prop:=
 ∀(pins:List (Addr×Obj)) (s:Shared) (σ:St) (H:Hp) (x:V) (v vl vu:Value) (lo hi:Option Int) (sl:Addr) (Q:VK),Inv X pins σ H s->dG x v->s.heap.IsSliceOf sl vl vu .none->IsPart vl lo->IsPart vu hi->r x lo hi H Q->
  ∃T id,typeLookup (.type T) "__getitem__"=pure (some (.builtin id))/\s.TypeIs v T/\wpAny (model X.prog X.w) X.A (getItem v (.ref sl)) (EP X pins σ Q) X.xe s
def tSl(r:V->Option Int->Option Int->Hp->VK->Prop)(te:TE)(tl th:TO):TE:=fun σ H Q=>te σ H λx H1=>tl σ H1 λl H2=>th σ H2 λu H3=>r x l u H3 Q
def uJ{r:V->Option Int->Option Int->Hp->VK->Prop}(hr:SlR X r)(he:PE X e te)(hl:PO X lo tl)(hu:PO X hi th):PE X (.Subscript e (.Slice lo hi none p2) pos) (tSl r te tl th):=by
 intro pins s σ H Q I h;refine Subscript_ (gD (he pins s σ H _ I h) λv s1 ⟨x,H1,I1,r1,q1⟩=>?_);refine wpAny_Slice (gD (hl pins s1 σ H1 _ I1 q1) λvl s2 ⟨l,H2,I2,pl,q2⟩=>gD (hu pins s2 σ H2 _ I2 q2) λvu s3 ⟨u,H3,I3,pu,q3⟩=>?_);rw[evalPart_none];refine wpAny_pure ?_;have I4:Inv X pins σ H3 { s3 with heap:=s3.heap.push { cls:=.type "slice",data:=.fields #[vl,vu,.none] } }:=I3.kept (t':=s3.toks) λb ob q=>aP7 _ q;obtain⟨T,id,hT,ht,hg⟩:=hr pins { s3 with heap:=s3.heap.push { cls:=.type "slice",data:=.fields #[vl,vu,.none] } } σ H3 x v vl vu l u s3.heap.objs.size Q I4 r1 (Heap.IsSliceOf.new ..) pl pu q3;show wpAny (model X.prog X.w) X.A (subscriptTail e (.Slice lo hi none p2) v (.ref s3.heap.objs.size)) (EP X pins σ Q) X.xe { s3 with heap:=s3.heap.push { cls:=.type "slice",data:=.fields #[vl,vu,.none] } };exact tail_any (ops:=[.ref s3.heap.objs.size,v]) ht hT hg (by with_unfolding_all rfl)
def oE(xs:List V)(lo hi:Option Int):List V:=(xs.drop (HT.Ml xs.length 0 lo)).take (HT.Ml xs.length xs.length hi-HT.Ml xs.length 0 lo)
def X7(xs:List V)(lo hi:Option Int):(oE xs lo hi).length<=xs.length:=by
 unfold oE;rw[aMj,aN8];omega
inductive aDu(K:aMC)(x:V)(y:V)(H:Hp)(Q:VK):Prop
 |mk:∀a b ns ms,x=.ref a->y=.ref b->eE K H a (ns.map V.int)->eE K H b (ms.map V.int)->Q (.bl (HT.lexLt ns ms)) H->aDu K x y H Q
def aBu(hu:X.A.units<cLine):GR X (compareOp .Lt) (aDu X.K):=by
 intro pins s σ H x y v u Q I rx ry h;obtain⟨a,b,ns,ms,rfl,rfl,ha,hb,q⟩:=h;cases rx;cases ry;obtain⟨bN,r1,p1,_⟩:=I.tuple ha;obtain⟨Bz,r2,p2,_⟩:=I.tuple hb;have i1:IntsAre bN.toArray.toList ns:=Ai r1;have i2:IntsAre Bz.toArray.toList ms:=Ai r2;exact HT.ZR p1 p2 i1 i2 hu ⟨.bl (HT.lexLt ns ms),H,I,rfl,q⟩
inductive aBC(K:aMC)(x:V)(y:V)(H:Hp)(Q:VK):Prop
 |mk:∀a b xs ys,x=.ref a->y=.ref b->eE K H a xs->eE K H b ys->xs≠[]->xs.length+ys.length<=sizeLine->((ys=[]->Q (.ref a) H))->((ys≠[]->∀p,H p=none->Q (.ref p) (upd H p (.tup (xs++ys)))))->aBC K x y H Q
def cJ.nil_iff{xs:List V}{us:List Value}(r:cJ xs us):us=[]↔xs=[]:=by
 cases r with
 |nil=>simp
 |cons _ _=>simp
def zt:GR X (binaryOp .Add) (aBC X.K):=by
 intro pins s σ H x y v u Q I rx ry h;obtain⟨a,b,xs,ys,rfl,rfl,ha,hb,hx,hz,q1,q2⟩:=h;cases rx;cases ry;obtain⟨bN,r1,p1,_⟩:=I.tuple ha;obtain⟨Bz,r2,p2,_⟩:=I.tuple hb;refine HT.zi p1 p2 (λz=>hx (r1.nil_iff.mp z)) (λz=>⟨.ref a,H,I,rfl,q1 (r2.nil_iff.mp z)⟩) (λz=>?_) (by rw[<-r1.length,<-r2.length];exact hz)
 refine⟨.ref s.heap.objs.size,_,I.laid (t':=s.toks) (o:=.tup (xs++ys)) (λb ob q=>aP7 _ q) (aMG _) ?_,rfl,q2 (λw=>z (r2.nil_iff.mpr w)) _ (I.eI.fresh (aMG _))⟩
 exact⟨by rw[aMH];exact hz,_,r1.append r2,IsTup.new _ _⟩
end
end L2
namespace L2
open PySem PySem.Spec PyProof.Rows
def Yl(n:Nat)(i:Int):Option Nat:=if 0<=i then(if i<n then some i.toNat else none)else if -(n:Int)<=i then some (i+n).toNat else none
def FR{α:Type}(xs:List α)(i:Int):Option α:=(Yl xs.length i).bind λj=>xs[j]?
def cz{n:Nat}{i:Int}{j:Nat}(h:Yl n i=some j):seqIndex? i n=some j/\j<n/\-(n:Int)<=i/\i<n:=by
 unfold Yl at h;by_cases h0:0<=i
 ·rw[if_pos h0]at h
  by_cases h1:i<n
  ·rw[if_pos h1]at h
   have e:i.toNat=j:=aP6 h;exact⟨by rw[seqIndex_of h0 h1,e],by omega,by omega,h1⟩
  ·rw[if_neg h1]at h;cases h
 ·rw[if_neg h0]at h
  by_cases h1:-(n:Int)<=i
  ·rw[if_pos h1]at h
   have e:(i+n).toNat=j:=aP6 h;exact⟨by rw[seqIndex_neg (by omega) h1,e],by omega,h1,by omega⟩
  ·rw[if_neg h1]at h;cases h
def PN{α:Type}{xs:List α}{i:Int}{v:α}(h:FR xs i=some v):∃j,seqIndex? i xs.length=some j/\xs[j]?=some v/\j<xs.length/\-(xs.length:Int)<=i/\i<xs.length:=by
 unfold FR at h;cases e:Yl xs.length i with
 |none=>rw[e]at h;cases h
 | some j=>
  rw[e]at h
  obtain⟨h1,h2,h3,h4⟩:=cz e
  exact⟨j,h1,h,h2,h3,h4⟩
def dS{α:Type}{xs:List α}{j:Nat}{v:α}(h:xs[j]?=some v):FR xs (j:Int)=some v:=by
 have hj:j<xs.length:=(aM0.mp h).1;have e:Yl xs.length (j:Int)=some j:=by
  unfold Yl;rw[if_pos (by omega),if_pos (by omega)];simp
 unfold FR;rw[e];exact h
def CK{α:Type}(xs:List α)(v:α):FR (xs++[v]) (-1)=some v:=by
 have hl:(xs++[v]).length=xs.length+1:=by simp
 have e:Yl (xs++[v]).length (-1)=some xs.length:=by
  unfold Yl;rw[hl,if_neg (by decide),if_pos (by omega)]
  congr 1
  omega
 unfold FR;rw[e];show(xs++[v])[xs.length]?=some v;simp
def P4(b:Expr):Prop:=∀o i,subscripted b false o i=operate [o,i] (getItem o i)
def me(X:Cx)(r:R2):Prop:=
 ∀(oB AH:Expr) (pins:List (Addr×Obj)) (s:Shared) (σ:St) (H:Hp) (x y:V) (v u:Value) (Q:VK),Inv X pins σ H s->dG x v->dG y u->r x y H Q->
  subscripted AH false v u=operate [v,u] (getItem v u)->wpAny (model X.prog X.w) X.A (subscriptTail oB AH v u) (EP X pins σ Q) X.xe s
def MtR(X:Cx)(id:String)(r:V->List V->Hp->VK->Prop):Prop:=
 ∀(pins:List (Addr×Obj)) (s:Shared) (σ:St) (H:Hp) (x:V) (xs:List V) (v:Value) (us:List Value) (Q:VK),Inv X pins σ H s->dG x v->cJ xs us->r x xs H Q->
  wpAny (model X.prog X.w) X.A (call (.builtin id) (v::us)) (EP X pins σ Q) X.xe s
section
variable{X:Cx}{a b:Expr}{ta tb:TE}{pos:Pos}
def me.or{r r':R2}(h:me X r)(h':me X r'):me X (λx y H Q=>r x y H Q\/r' x y H Q):=by
 intro oB AH pins s σ H x y v u Q I rx ry q hs;rcases q with q|q
 ·exact h oB AH pins s σ H x y v u Q I rx ry q hs
 ·exact h' oB AH pins s σ H x y v u Q I rx ry q hs
def Ky{r:R2}(hr:me X r)(ha:PE X a ta)(hb:PE X b tb)(hs:P4 b):PE X (.Subscript a b pos) (Yn r ta tb):=by
 intro pins s σ H Q I h;exact Subscript_ (aBe ha hb I h λv u s2 x y H2 I2 rx ry q=>hr a b pins s2 σ H2 x y v u Q I2 rx ry q (hs _ _))
inductive mv(K:aMC)(x:V)(y:V)(H:Hp)(Q:VK):Prop
 |mk:∀p xs i v,x=.ref p->y=.int i->aZ K H p xs->FR xs i=some v->Q v H->mv K x y H Q
inductive mq(K:aMC)(x:V)(y:V)(H:Hp)(Q:VK):Prop
 |mk:∀p xs i v,x=.ref p->y=.int i->eE K H p xs->FR xs i=some v->Q v H->mq K x y H Q
inductive aBg(x:V)(y:V)(H:Hp)(Q:VK):Prop
 |mk:∀z i c,x=.str z->y=.int i->z.length<=sizeLine->FR z.cps.toList i=some c->Q (.str ⟨#[c]⟩) H->aBg x y H Q
def PJ:me X (mv X.K):=by
 intro oB AH pins s σ H x y v u Q I rx ry h hs;obtain⟨p,xs,i,z,rfl,rfl,hq,he,q⟩:=h;cases rx;obtain⟨t,rfl⟩:=ry;obtain⟨bN,r,pl,hz⟩:=I.list hq;obtain⟨j,h1,h2,h3,h4,h5⟩:=PN he;obtain⟨w,ew,rw'⟩:=r.get h2;have hl:=r.length;have hn:=IQ;have fin:EP X pins σ Q w s:=⟨z,H,I,rw',q⟩;by_cases h0:0<=i
 ·have hj:i.toNat=j:=by
   rw[seqIndex_of h0 h5]at h1
   exact aP6 h1
  exact item_listR pl.isList h0 (by omega) (by rw[hj];simpa using ew) fin hs
 ·have hj:(i+(bN.toArray.size:Int)).toNat=j:=by
   rw[seqIndex_neg (by omega) h4]at h1
   rw[aM8,<-hl]
   exact aP6 h1
  exact subscriptTail_builtinR (x:=w) pl.isList.typeIs slot_list_getitem.lookup
   (wpAny_getItem_list_neg (Q:=λr s'=>r=w/\EP X pins σ Q r s') pl.isList (by omega) (by rw[aM8]<;>omega) (by omega) (by rw[hj];simpa using ew) ⟨rfl,fin⟩) hs
def Yx:me X (mq X.K):=by
 intro oB AH pins s σ H x y v u Q I rx ry h hs;obtain⟨p,xs,i,z,rfl,rfl,hq,he,q⟩:=h;cases rx;obtain⟨t,rfl⟩:=ry;obtain⟨bN,r,pl,hz⟩:=I.tuple hq;obtain⟨j,h1,h2,h3,h4,h5⟩:=PN he;obtain⟨w,ew,rw'⟩:=r.get h2;have hl:=r.length;have hn:=IQ;have fin:EP X pins σ Q w s:=⟨z,H,I,rw',q⟩;exact subscriptTail_builtinR (x:=w) pl.typeIs slot_tuple_getitem.lookup
  (getItem_tuple (j:=j) (Q:=λr s'=>r=w/\EP X pins σ Q r s') pl (by omega) (by omega) (by rw[aM8,<-hl];exact h1) (by simpa using ew) ⟨rfl,fin⟩) hs
def aCN:me X aBg:=by
 intro oB AH pins s σ H x y v u Q I rx ry h hs;obtain⟨z,i,c,rfl,rfl,hz,he,q⟩:=h;obtain⟨t,rfl⟩:=rx;obtain⟨t',rfl⟩:=ry;obtain⟨j,h1,h2,h3,h4,h5⟩:=PN he;have hl:z.cps.toList.length=z.length:=by simp[Str.length]
 rw[hl]at h1 h4 h5
 have hn:=IQ;exact tail_any (typeIs_str s z t) slot_str_getitem.lookup (getItem_str (c:=c) (by
  have e1:decide (i < -(2 ^ 63:Int))=false:=decide_eq_false (by omega)
  have e2:decide (i>=2 ^ 63)=false:=decide_eq_false (by omega)
  rw[e1,e2,aPK]) (by rw[h1];simpa using h2) ⟨.str ⟨#[c]⟩,H,I.tok _,⟨_,rfl⟩,q⟩) hs
def rIx(K:aMC):R2:=λx y H Q=>mv K x y H Q\/mq K x y H Q\/aBg x y H Q
def aBm:me X (rIx X.K):=PJ.or (Yx.or aCN)
def Zj(bN:List Value)(n j:Nat)(u:Value):aQ4 (·.setIfInBounds j u) { cls:=.type "list",data:=.seq bN.toArray n }={ cls:=.type "list",data:=.seq (bN.set j u).toArray n }:=by
 simp[aQ4]
theorem Inv.lst{pins:List (Addr×Obj)}{σ:St}{H:Hp}{s:Shared}{p:Addr}{xs:List V}(I:Inv X pins σ H s)(h:H p=some (.lst xs)):
  ∃(bN:List Value) (n:Nat),cJ xs bN/\s.heap.get? p=some { cls:=.type "list",data:=.seq bN.toArray n }/\xs.length<=sizeLine:=by
 obtain⟨z,bN,n,r,e⟩:=I.eI p _ h
 exact⟨bN,n,r,e,z⟩
def Inv.lstUpd{pins:List (Addr×Obj)}{σ:St}{H:Hp}{s:Shared}{p:Addr}{xs ys:List V}{bN its':List Value}{n n':Nat}{f:Obj->Obj}(I:Inv X pins σ H s)(h:H p=some (.lst xs))
  (ho:s.heap.get? p=some { cls:=.type "list",data:=.seq bN.toArray n }) (hf:f { cls:=.type "list",data:=.seq bN.toArray n }={ cls:=.type "list",data:=.seq its'.toArray n' }) (r:cJ ys its') (hz:ys.length<=sizeLine) (t:Nat):
  Inv X pins σ (upd H p (.lst ys)) { s with heap:=s.heap.update p f,toks:=t }:=by
 have e:(s.heap.update p f).get? p=some { cls:=.type "list",data:=.seq its'.toArray n' }:=by
  rw[Heap.get?_update_self f ho (by rw[hf]<;>rfl),hf]
 refine I.write (x:=p) (e:=p) (by rw[h];trivial) (.inl rfl) (λb u hb q=>(Heap.get?_update_other _ _ (aQW hb)).trans q) ⟨_,e⟩ ?_
 exact⟨hz,its',n',r,e⟩
inductive aBH(o:V)(i:V)(v:V)(H:Hp)(Q:Hp->Prop):Prop
 |mk:∀p xs k j,o=.ref p->i=.int k->H p=some (.lst xs)->Yl xs.length k=some j->Q (upd H p (.lst (xs.set j v)))->aBH o i v H Q
def uN:aDr X aBH:=by
 intro pins s σ H o i v ov iv u Q I ro ri rv h;obtain⟨p,xs,k,j,rfl,rfl,hp,hj,q⟩:=h;cases ro;obtain⟨t,rfl⟩:=ri;obtain⟨bN,n,r,ho,hz⟩:=I.lst hp;obtain⟨h1,h2,h3,h4⟩:=cz hj;have hl:=r.length;have hn:=IQ;have I':Inv X pins σ (upd H p (.lst (xs.set j v))) { s with heap:=s.heap.update p (aQ4 (·.setIfInBounds j u)) }:=
  I.lstUpd hp ho (Zj bN n j u) (r.set rv j) (by rw[aMv];exact hz) s.toks
 by_cases h0:0<=k
 ·have hk:k.toNat=j:=by
   rw[seqIndex_of h0 h4]at h1
   exact aP6 h1
  exact PySem.W.ki_setAt ho h0 (by omega) (by rw[aM8,<-hl];exact h4) (by rw[hk];exact⟨_,I',q⟩)
 ·have hk:(k+(bN.toArray.size:Int)).toNat=j:=by
   rw[seqIndex_neg (by omega) h3]at h1
   rw[aM8,<-hl]
   exact aP6 h1
  exact PySem.W.ki_setBack ho (by omega) (by rw[aM8,<-hl];exact h3) (by omega) (by rw[hk];exact⟨_,I',q⟩)
def Pu(lo hi:Option Int)(n:Nat):(sliceBounds lo hi none n).1=((HT.Ml n 0 lo:Nat):Int)/\(sliceBounds lo hi none n).2.1=((HT.Ml n n hi:Nat):Int)/\(sliceBounds lo hi none n).2.2=1:=by
 refine⟨?_,?_,rfl⟩
 ·cases lo with
  |none=>simp[sliceBounds,HT.Ml]
  | some i=>
   simp only[sliceBounds,HT.Ml,Option.getD_none,show(1:Int)>0 by decide,if_true]
   by_cases h:i<0
   ·simp only[h,if_true]<;>omega
   ·simp only[h,if_false]<;>omega
 ·cases hi with
  |none=>simp[sliceBounds,HT.Ml]
  | some i=>
   simp only[sliceBounds,HT.Ml,Option.getD_none,show(1:Int)>0 by decide,if_true]
   by_cases h:i<0
   ·simp only[h,if_true]<;>omega
   ·simp only[h,if_false]<;>omega
def NX(bN:List Value)(lo hi:Option Int):slicePick bN.toArray lo hi none=((bN.drop (HT.Ml bN.length 0 lo)).take (HT.Ml bN.length bN.length hi-HT.Ml bN.length 0 lo)).toArray:=by
 obtain⟨h1,h2,h3⟩:=Pu lo hi bN.toArray.size
 unfold slicePick;rw[h1,h2,h3];simp only[sliceRange_one,pick_run,aM8]<;>rfl
inductive aBc(K:aMC)(x:V)(lo:Option Int)(hi:Option Int)(H:Hp)(Q:VK):Prop
 |mk:∀a xs,x=.ref a->aZ K H a xs->(∀p,H p=none->Q (.ref p) (upd H p (.lst (oE xs lo hi))))->aBc K x lo hi H Q
def AR:SlR X (aBc X.K):=by
 intro pins s σ H x v vl vu lo hi sl Q I rx hs pl pu h;obtain⟨a,xs,rfl,hx,q⟩:=h;cases rx;obtain⟨bN,r,ht,hz⟩:=I.list hx;have cC:=r.length;refine⟨"list",_,slot_list_getitem.lookup,ht.isList.typeIs,?_⟩;refine wpAny_getItem_list_slice ht.isList hs pl pu .none (by simp) ?_ (by rw[aM8]<;>omega)
 rw[NX,<-cC]
 refine⟨.ref s.heap.objs.size,_,I.laid (t':=s.toks) (o:=.lst (oE xs lo hi)) (λb ob q=>aP7 _ q) (aMG _) ?_,rfl,q _ (I.eI.fresh (aMG _))⟩
 exact⟨aM3 (X7 xs lo hi) hz,_,0,(r.drop (HT.Ml xs.length 0 lo)).take (HT.Ml xs.length xs.length hi-HT.Ml xs.length 0 lo),aP9 _ rfl⟩
def vO:V->Bool
 |.non=>true
 |.bl _=>true
 |.int _=>true
 |.str _=>true
 |_=>false
def wm:V->V->Bool
 |.non,.non=>true
 |.bl a,.bl b=>a==b
 |.bl a,.int b=>(if a then 1 else 0)==b
 |.int a,.bl b=>a==(if b then 1 else 0)
 |.int a,.int b=>a==b
 |.str a,.str b=>a==b
 |_,_=>false
def aBw{A:Around}{s:Shared}{y x:V}{u v:Value}(ry:dG y u)(rx:dG x v)(fy:vO y=true)(fx:vO x=true):aQK A s u v (wm y x):=by
 cases y with
 | non=>
  cases ry;cases x with
  |non=>cases rx;exact aRN _
  |bl b=>cases rx;exact SeqAt.EqAt.none_bool b
  |int b=>obtain⟨t,rfl⟩:=rx;exact SeqAt.EqAt.none_int b t
  |str b=>obtain⟨t,rfl⟩:=rx;exact SeqAt.EqAt.none_str b t
  |_=>exact absurd (show false=true from fx) aMd
 | bl a=>
  cases ry;cases x with
  |non=>cases rx;exact SeqAt.EqAt.bool_none a
  |bl b=>cases rx;exact SeqAt.EqAt.bool_bool a b
  |int b=>obtain⟨t,rfl⟩:=rx;exact SeqAt.EqAt.bool_int a b t
  |str b=>obtain⟨t,rfl⟩:=rx;exact SeqAt.EqAt.bool_str a b t
  |_=>exact absurd (show false=true from fx) aMd
 | int a=>
  obtain⟨t',rfl⟩:=ry
  cases x with
  |non=>cases rx;exact SeqAt.EqAt.int_none a t'
  |bl b=>cases rx;exact SeqAt.EqAt.int_bool a t' b
  |int b=>obtain⟨t,rfl⟩:=rx;exact aQF a t' b t
  |str b=>obtain⟨t,rfl⟩:=rx;exact aRw a t' b t
  |_=>exact absurd (show false=true from fx) aMd
 | str a=>
  obtain⟨t',rfl⟩:=ry
  cases x with
  |non=>cases rx;exact SeqAt.EqAt.str_none a t'
  |bl b=>cases rx;exact SeqAt.EqAt.str_bool a t' b
  |int b=>obtain⟨t,rfl⟩:=rx;exact aRx a t' b t
  |str b=>obtain⟨t,rfl⟩:=rx;exact SeqAt.EqAt.str_str a t' b t
  |_=>exact absurd (show false=true from fx) aMd
 |_=>exact absurd (show false=true from fy) aMd
def Yd(x:V)(u:Value):Bool:=match u with
 |.none=>wm .non x
 |.bool b=>wm (.bl b) x
 |.int i _=>wm (.int i) x
 |.str z _=>wm (.str z) x
 |_=>false
def Oy{x y:V}{u:Value}(r:dG y u)(f:vO y=true):Yd x u=wm y x:=by
 cases y with
 |non=>cases r;rfl
 |bl b=>cases r;rfl
 |int i=>obtain⟨t,rfl⟩:=r;rfl
 |str z=>obtain⟨t,rfl⟩:=r;rfl
 |_=>exact absurd (show false=true from f) aMd
theorem Gb{x:V}:∀{xs:List V} {us:List Value},cJ xs us->xs.all vO=true->us.any (Yd x)=xs.any λy=>wm y x
 |_,_,.nil,_=>rfl
 | y::xs,u::us,.cons r t,f=>by
  rw[aNj,aM5]at f
  rw[aNm,aNm,Oy r f.1,Gb t f.2]
theorem zF{A:Around}{s:Shared}{x:V}{v:Value}(rx:dG x v)(fx:vO x=true):∀{xs:List V} {us:List Value},cJ xs us->xs.all vO=true->∀u∈us,aQK A s u v (Yd x u)
 |_,_,.nil,_=>λu hu=>by cases hu
 | y::xs,u::us,.cons r t,f=>λu' hu=>by
  rw[aNj,aM5]at f
  rcases aMR.mp hu with rfl|hu
  ·rw[Oy r f.1];exact aBw r rx f.1 fx
  ·exact zF rx fx t f.2 u' hu
def inV(x:V)(xs:List V):Bool:=xs.any λy=>wm y x
inductive rIn(K:aMC)(neg:Bool)(x:V)(y:V)(H:Hp)(Q:VK):Prop
 |mk:∀p xs,y=.ref p->(aZ K H p xs\/eE K H p xs)->vO x=true->xs.all vO=true->Q (.bl (if neg then !inV x xs else inV x xs)) H->rIn K neg x y H Q
def iy:GR X (compareOp .In) (rIn X.K false):=by
 intro pins s σ H x y v u Q I rx ry h;obtain⟨p,xs,rfl,hq,fx,fs,q⟩:=h;cases ry;rcases hq with hq|hq
 ·obtain⟨bN,r,pl,hz⟩:=I.list hq
  refine SeqAt.in_listAt (Yd x) pl.isList (λw hw=>zF rx fx r fs w (by simpa using hw)) ⟨.bl _,H,I,rfl,?_⟩
  rw[show bN.toArray.any (Yd x)=bN.any (Yd x)by simp,Gb r fs]
  exact q
 ·obtain⟨bN,r,pl,hz⟩:=I.tuple hq
  refine SeqAt.in_tupleAt (Yd x) pl (λw hw=>zF rx fx r fs w (by simpa using hw)) ⟨.bl _,H,I,rfl,?_⟩
  rw[show bN.toArray.any (Yd x)=bN.any (Yd x)by simp,Gb r fs]
  exact q
def Pb:GR X (compareOp .NotIn) (rIn X.K true):=by
 intro pins s σ H x y v u Q I rx ry h;obtain⟨p,xs,rfl,hq,fx,fs,q⟩:=h;cases ry;rcases hq with hq|hq
 ·obtain⟨bN,r,pl,hz⟩:=I.list hq
  refine SeqAt.notIn_listAt (Yd x) pl.isList (λw hw=>zF rx fx r fs w (by simpa using hw)) ⟨.bl _,H,I,rfl,?_⟩
  rw[show bN.toArray.any (Yd x)=bN.any (Yd x)by simp,Gb r fs]
  exact q
 ·obtain⟨bN,r,pl,hz⟩:=I.tuple hq
  refine SeqAt.notIn_tupleAt (Yd x) pl (λw hw=>zF rx fx r fs w (by simpa using hw)) ⟨.bl _,H,I,rfl,?_⟩
  rw[show bN.toArray.any (Yd x)=bN.any (Yd x)by simp,Gb r fs]
  exact q
def aW:uC X (.builtin "len") (λxs H Q=>∃p ys,xs=[.ref p]/\(aZ X.K H p ys\/eE X.K H p ys)/\Q (.int ys.length) H):=by
 intro pins s σ H xs us Q I r h;obtain⟨p,ys,rfl,hq,q⟩:=h;obtain⟨u,rfl,rx⟩:=vals1 r;cases rx;have hn:=IQ;rcases hq with hq|hq
 ·obtain⟨bN,r',pl,hz⟩:=I.list hq
  have cC:=r'.length;exact Calls.call_len_list pl.isList (by simp only[aM8]<;>omega) ⟨.int ys.length,H,I.tok _,⟨s.toks+1,by rw[aM8,cC]⟩,q⟩
 ·obtain⟨bN,r',pl,hz⟩:=I.tuple hq
  have cC:=r'.length;exact len_tuple pl (by simp only[aM8]<;>omega) ⟨.int ys.length,H,I.tok _,⟨s.toks+1,by rw[aM8,cC]⟩,q⟩
def Ar:uC X (.type "list") (λxs H Q=>∃p ys,xs=[.ref p]/\(aZ X.K H p ys\/eE X.K H p ys)/\∀l,H l=none->Q (.ref l) (upd H l (.lst ys))):=by
 intro pins s σ H xs us Q I r h;obtain⟨p,ys,rfl,hq,q⟩:=h;obtain⟨u,rfl,rx⟩:=vals1 r;cases rx;have fin:∀(bN:List Value),cJ ys bN->ys.length<=sizeLine->∀(h':Heap) (c':Nat),(∀b o',s.heap.get? b=some o'->h'.get? b=some o')->
   h'.get? s.heap.objs.size=some { cls:=.type "list",dict:=none,data:=.seq bN.toArray c',slots:=#[] }->EP X pins σ Q (.ref s.heap.objs.size) { s with heap:=h' }:=λbN r' hz h' c' kp e=>
  ⟨.ref s.heap.objs.size,_,I.laid (t':=s.toks) kp (aMG _) (show eY X.prog X.w _ h' _ (.lst ys)from⟨hz,bN,c',r',e⟩),rfl,q _ (I.eI.fresh (aMG _))⟩
 rcases hq with hq|hq
 ·obtain⟨bN,r',pl,hz⟩:=I.list hq
  have cC:=r'.length;obtain⟨o,ho,hc,n,hd⟩:=pl.isList;exact call_list_seq p (.inl rfl) ho hc hd (λh' c' kp e=>fin bN r' hz h' c' kp e) (by simp only[aM8]<;>omega)
 ·obtain⟨bN,r',pl,hz⟩:=I.tuple hq
  have cC:=r'.length;obtain⟨o,ho,hc,n,hd⟩:=pl;exact call_list_seq p (.inr rfl) ho hc hd (λh' c' kp e=>fin bN r' hz h' c' kp e) (by simp only[aM8]<;>omega)
def i8:uC X (.type "tuple") (λxs H Q=>∃p ys,xs=[.ref p]/\((aZ X.K H p ys/\∀l,H l=none->Q (.ref l) (upd H l (.tup ys)))\/(eE X.K H p ys/\Q (.ref p) H))):=by
 intro pins s σ H xs us Q I r h;obtain⟨p,ys,rfl,h⟩:=h;obtain⟨u,rfl,rx⟩:=vals1 r;cases rx;rcases h with⟨hq,q⟩|⟨hq,q⟩
 ·obtain⟨bN,r',pl,hz⟩:=I.list hq
  have cC:=r'.length;refine call_tuple_list pl.isList (λh' kp=>?_) (by simp only[aM8]<;>omega)
  have I1:Inv X pins σ H { s with heap:=h' }:=I.kept (t':=s.toks) kp;have I2:Inv X pins σ (upd H h'.objs.size (.tup ys)) { s with heap:=h'.push { cls:=.type "tuple",data:=.seq bN.toArray } }:=
   I1.laid (t':=s.toks) (λb o e=>aP7 _ e) (aMG _) (show eY X.prog X.w _ _ _ (.tup ys)from⟨hz,bN,r',IsTup.new _ _⟩)
  exact⟨.ref h'.objs.size,_,I2,rfl,q _ (I1.eI.fresh (aMG _))⟩
 ·obtain⟨bN,r',pl,hz⟩:=I.tuple hq
  exact call_tuple_same pl ⟨.ref p,H,I,rfl,q⟩
def tyV(K:aMC)(T:String)(x:V)(H:Hp):Prop:=match x with
 |.str _=>T="str"
 |.int _=>T="int"
 | .ref p=>(T="list"/\∃xs,aZ K H p xs)\/(T="tuple"/\∃o,K.lookup p=some o/\o.cls=.type "tuple"/\o.dict=none)\/
   (T="dict"/\((∃bU,H p=some (.dK bU))\/∃bU,H p=some (.dT bU)))\/(T="set"/\∃S n,H p=some (.set S n))
 |_=>False
def aCJ{pins:List (Addr×Obj)}{σ:St}{H:Hp}{s:Shared}{T:String}{x:V}{v:Value}(I:Inv X pins σ H s)(r:dG x v)(ty:tyV X.K T x H):
  s.TypeIs v T/\∀a,v=.ref a->∃ob,s.heap.get? a=some ob/\ob.dict=none:=by
 cases x with
 | str z=>
  obtain⟨t,rfl⟩:=r
  cases(show T="str" from ty)
  exact⟨typeIs_str s z t,λ_ e=>nomatch e⟩
 | int i=>
  obtain⟨t,rfl⟩:=r
  cases(show T="int" from ty)
  exact⟨typeIs_int s i t,λ_ e=>nomatch e⟩
 | ref p=>
  cases r;rcases ty with⟨rfl,xs,hq⟩|⟨rfl,o,hk,hc,hd⟩|⟨rfl,hk⟩|⟨rfl,S,n,hk⟩
  ·obtain⟨bN,_,pl,_⟩:=I.list hq
   refine⟨pl.isList.typeIs,λa e=>?_⟩
   cases e;obtain⟨o,n,e,c,hd,_⟩:=pl;exact⟨o,e,hd⟩
  ·refine⟨⟨o,I.kIn p o hk,hc⟩,λa e=>?_⟩
   cases e;exact⟨o,I.kIn _ o hk,hd⟩
  ·have z:∃o,s.heap.get? p=some o/\o.ExactDict:=by
    rcases hk with⟨bU,hk⟩|⟨bU,hk⟩
    ·obtain⟨_,_,_,_,o,_,_,e,ex,_⟩:=I.eI p _ hk
     exact⟨o,e,ex⟩
    ·obtain⟨_,_,_,_,o,_,_,e,ex,_⟩:=I.eI p _ hk
     exact⟨o,e,ex⟩
   obtain⟨o,e,ex⟩:=z
   refine⟨⟨o,e,ex.1⟩,λa e2=>?_⟩
   cases e2;exact⟨o,e,ex.2.1⟩
  ·obtain⟨o,_,_,_,e,ex,_⟩:=I.eI p _ hk
   refine⟨⟨o,e,ex.1⟩,λa e2=>?_⟩
   cases e2;exact⟨o,e,ex.2.1⟩
 |_=>exact aPh ty
def tBM(K:aMC)(T:String)(r:V->List V->Hp->VK->Prop)(to:TE)(t:TA):TE:=fun σ H Q=>to σ H λx H1=>tyV K T x H1/\t σ H1 λxs H2=>r x xs H2 Q
variable{o e:Expr}{es:List Expr}{to:TE}{t:TA}{name:Str}{kg T9:Pos}{T id:String}{r:V->List V->Hp->VK->Prop}
def e9(pa:PlainAttrs T)(slot:Slot T name id)(hty:typeOf (.builtin id)=pure (.type "method_descriptor"))(hm:MtR X id r)(ho:PE X o to)(ha:PA X (e::es) t)
  (aFo:attributeBase o name X.env (eval o X.env)=eval o X.env:=by rfl)
  (aHa:((backTo T9 (starEach (e::es) X.env)).all (λx=>!x.1)&&(backToKw T9 (keywordEach [] X.env)).all (λx=>x.1.isSome)
   &&decide ((e::es).length+([]:List Keyword).length+(if([]:List Keyword).isEmpty then 0 else 1)<30))=true:=by rfl)
  (aFR:(kg.endLine==T9.line)=true:=by rfl) (hs:starEach (e::es) X.env=(false,eval e X.env)::starEach es X.env:=by rfl) (aCm:(backTo T9 (starEach es X.env)).any (·.1)=false:=by rfl):
  PE X (.Call (.Attribute o name kg) (e::es) [] T9) (tBM X.K T r to t):=by
 intro pins s σ H Q I h;refine wpAny_Call_method_late aFo aHa aFR rfl (gD (ho pins s σ H _ I h) λv s1 ⟨x,H1,I1,r1,ty,q1⟩=>?_);obtain⟨h1,h2⟩:=aCJ I1 r1 ty;refine⟨T,id,pa,slot,hty,h1,h2,?_⟩;have hA:=ha T9 pins s1 σ H1 _ I1 q1;rw[hs]at hA ⊢;refine Calls.callWith_builtin (by show(false||(backTo T9 (starEach es X.env)).any (·.1))=false;rw[aCm]<;>rfl) (Calls.evalArgs_plain ?_)
 exact gD hA λus s2 ⟨vs,H2,I2,r2,q2⟩=>hm pins s2 σ H2 x vs v us Q I2 r1 r2 q2
end
end L2
namespace L2
open PySem PySem.Spec PyProof.Rows
def MtM(X:Cx)(id:String)(r:V->List V->Hp->VK->Prop):Prop:=
 ∀(pins:List (Addr×Obj)) (s:Shared) (σ:St) (H:Hp) (x:V) (xs:List V) (v:Value) (us:List Value) (Q:VK),Inv X pins σ H s->dG x v->cJ xs us->r x xs H Q->
  wpAny (model X.prog X.w) X.A (call (.builtin id) (v::us)) (EP X pins σ Q) X.xe s
theorem cJ.one:∀{x:V} {us:List Value},cJ [x] us->∃u,us=[u]/\dG x u
 |_,_,.cons r .nil=>⟨_,rfl,r⟩
theorem cJ.rep{xs:List V}{us:List Value}(h:cJ xs us):∀k:Nat,cJ (aMF k xs).flatten (aMF k us).flatten
 |0=>.nil
 | k+1=>by
  rw[aO6,aO6,aPA,aPA]
  exact cJ.append h (cJ.rep h k)
theorem O3(bN:List Value):∀(k:Nat) (acc:List Value),
  aPG (λx1 x2=>x1++x2) acc.toArray (aMF k bN.toArray)=(acc++(aMF k bN).flatten).toArray
 |0,acc=>by simp
 | k+1,acc=>by
  have e:acc.toArray++bN.toArray=(acc++bN).toArray:=by simp
  have e2:(acc++bN)++(aMF k bN).flatten=acc++(aMF (k+1) bN).flatten:=by
   rw[aO6,aPA,aMb]
  rw[<-e2,<-O3 bN k (acc++bN),<-e,aO6,aMo]
section
variable{X:Cx}{pins:List (Addr×Obj)}{σ:St}{H:Hp}{s:Shared}{l b:Addr}{xs ys zs:List V}
def Inv.lset{bN its':List Value}{n:Nat}{f:Array Value->Array Value}{t':Nat}(I:Inv X pins σ H s)(hH:H l=some (.lst xs))
  (e:s.heap.get? l=some { cls:=.type "list",data:=.seq bN.toArray n }) (hf:f bN.toArray=its'.toArray) (hv:cJ ys its') (hz:ys.length<=sizeLine):
  Inv X pins σ (upd H l (.lst ys)) { s with heap:=s.heap.update l (aQ4 f),toks:=t' }:=by
 have q:=PySem.IsL.update e f;rw[hf]at q;refine I.write (x:=l) (e:=l) (by rw[hH];exact trivial) (.inl rfl) (λb' u hb hu=>(Heap.get?_update_other s.heap (aQ4 f) (aQW hb)).trans hu) ⟨_,q⟩ ?_
 exact⟨hz,its',_,hv,q⟩
def Inv.lnew{bN:List Value}{t':Nat}(I:Inv X pins σ H s)(hv:cJ ys bN)(hz:ys.length<=sizeLine):
  Inv X pins σ (upd H s.heap.objs.size (.lst ys)) { s with heap:=s.heap.push { cls:=.type "list",data:=.seq bN.toArray },toks:=t' }:=
 I.laid (λ_ _ q=>aP7 _ q) (aMG _) ⟨hz,bN,0,hv,aP9 _ rfl⟩
theorem Inv.fresh(I:Inv X pins σ H s):H s.heap.objs.size=none:=I.eI.fresh (aMG _)
def Inv.lstM(I:Inv X pins σ H s)(hH:H l=some (.lst xs)):xs.length<=sizeLine/\∃(bN:List Value) (n:Nat),cJ xs bN/\xs.length=bN.length/\s.heap.get? l=some { cls:=.type "list",data:=.seq bN.toArray n }:=by
 obtain⟨z,bN,n,r,e⟩:=I.eI l _ hH
 exact⟨z,bN,n,r,r.length,e⟩
def LX{n:Nat}(h:n<=sizeLine):aPl n=false:=by
 unfold aPl;exact decide_eq_false (by omega)
end
section
variable{X:Cx}
inductive PM(x:V)(vs:List V)(H:Hp)(Q:VK):Prop
 |mk:∀l xs y,x=.ref l->vs=[y]->H l=some (.lst xs)->xs.length<sizeLine->Q .non (upd H l (.lst (xs++[y])))->PM x vs H Q
def cR:MtM X "list.append" PM:=by
 intro pins s σ H x vs v us Q I rx rv h;obtain⟨l,xs,y,rfl,rfl,hH,hz,q⟩:=h;cases rx;obtain⟨u,rfl,ru⟩:=rv.one;obtain⟨z,bN,n,r,hl,e⟩:=I.lstM hH;refine aPy F.slot_list_append ⟨_,e,rfl⟩ F.entry_list_append (F.args_list_append_2 _ _) (PySem.list_append l bN.toArray n u (by rw[aM8];omega)) ⟨e,?_⟩
 refine⟨.non,_,I.lset (its':=bN++[u]) hH e (by simp) (r.append (.cons ru .nil)) ?_,rfl,q⟩
 rw[aMH,List.length_singleton]
 omega
inductive dm(x:V)(vs:List V)(H:Hp)(Q:VK):Prop
 |mk:∀l b xs zs,x=.ref l->vs=[.ref b]->H l=some (.lst xs)->H b=some (.lst zs)->xs.length+zs.length<=sizeLine->Q .non (upd H l (.lst (xs++zs)))->dm x vs H Q
def zO:MtM X "list.extend" dm:=by
 intro pins s σ H x vs v us Q I rx rv h;obtain⟨l,b,xs,zs,rfl,rfl,hH,hB,hz,q⟩:=h;cases rx;obtain⟨u,rfl,ru⟩:=rv.one;cases ru;obtain⟨z,bN,n,r,hl,e⟩:=I.lstM hH;obtain⟨z2,Bz,n2,r2,xk,e2⟩:=I.lstM hB;have hsz:bN.toArray.size+Bz.toArray.size<=sizeLine:=by rw[aM8,aM8];omega
 have Ya:¬(!bN.toArray.isEmpty&&aPl (bN.toArray.size+Bz.toArray.size))=true:=by
  rw[LX hsz,aNT]
  exact aMd
 refine aPy F.slot_list_extend ⟨_,e,rfl⟩ F.entry_list_extend (F.args_list_extend_2 _ _)
  (AutoSeq1.list_extend_list_list_0 l bN.toArray n b Bz.toArray n2 Ya (by rw[aM8];omega) (by omega)) ⟨e,e2,?_⟩
 refine⟨.non,_,I.lset (its':=bN++Bz) hH e (by simp) (r.append r2) ?_,rfl,q⟩
 rw[aMH]
 omega
inductive xu(x:V)(y:V)(H:Hp)(Q:VK):Prop
 |mk:∀l b xs zs,x=.ref l->y=.ref b->H l=some (.lst xs)->H b=some (.lst zs)->xs.length+zs.length<=sizeLine->(∀p,H p=none->Q (.ref p) (upd H p (.lst (xs++zs))))->xu x y H Q
def fR:GR X (binaryOp .Add) xu:=by
 intro pins s σ H x y v u Q I rx ry h;obtain⟨l,b,xs,zs,rfl,rfl,hH,hB,hz,q⟩:=h;cases rx;cases ry;obtain⟨z,bN,n,r,hl,e⟩:=I.lstM hH;obtain⟨z2,Bz,n2,r2,xk,e2⟩:=I.lstM hB;refine PySem.P.add_list e e2 ?_ (by rw[aM8,aM8];omega)
 have ea:bN.toArray++Bz.toArray=(bN++Bz).toArray:=by simp
 rw[ea]
 exact⟨.ref _,_,I.lnew (t':=s.toks) (r.append r2) (by rw[aMH];omega),rfl,q _ I.fresh⟩
inductive aEA(x:V)(y:V)(H:Hp)(Q:VK):Prop
 |mk:∀l k xs,x=.ref l->y=.int k->H l=some (.lst xs)->-(2 ^ 63)<=k->k<2 ^ 63->xs.length*k.toNat<=sizeLine->(∀p,H p=none->Q (.ref p) (upd H p (.lst (aMF k.toNat xs).flatten)))->aEA x y H Q
def yk{α:Type}(xs:List α)(k:Nat):(aMF k xs).flatten.length=k*xs.length:=by
 induction k with
 |zero=>simp
 |succ k ih=>rw[aO6,aPA,aMH,ih,Nat.succ_mul,Nat.add_comm]
def LC:GR X (binaryOp .Mult) aEA:=by
 intro pins s σ H x y v u Q I rx ry h;obtain⟨l,k,xs,rfl,rfl,hH,h1,h2,hz,q⟩:=h;cases rx;obtain⟨t,rfl⟩:=ry;obtain⟨z,bN,n,r,hl,e⟩:=I.lstM hH;have cC:bN.toArray.size*k.toNat<=sizeLine:=by rw[aM8,<-hl];exact hz
 have aHG:¬bN.toArray.size*k.toNat>(2 ^ 63-1) / 8:=by
  have:(sizeLine:Nat)<=(2 ^ 63-1) / 8:=by decide
  omega
 have aFm:¬(!Builtin.List.listFitsIndex k)=true:=by
  rw[fitsIndex_both h1 h2]
  exact aMd
 have Ya:¬aPl (bN.toArray.size*k.toNat)=true:=by
  rw[LX cC]
  exact aMd
 have aA9:aPG (λx1 x2=>x1++x2) #[] (aMF (if bN.toArray.isEmpty=true then 0 else k.toNat) bN.toArray)=(aMF k.toNat bN).flatten.toArray:=by
  have f0:∀m:Nat,aPG (λx1 x2=>x1++x2) #[] (aMF m bN.toArray)=(aMF m bN).flatten.toArray:=λm=>by
   have:=O3 bN m []
   rw[List.nil_append]at this
   exact this
  rw[f0]
  cases bN with
  |nil=>simp
  |cons a r'=>rw[if_neg (by simp)]
 refine wpAny_binaryOp_repeat_ref (T:="list") (U:="int") (by decide) ⟨_,e,rfl⟩ (λs'=>typeIs_int s' k t) noFill_list_mul F.fills_int_mul F.slot_int_rmul repeat_list F.slot_int_index.lookup
  (aPy F.slot_int_rmul (typeIs_int s k t) F.entry_int_rmul (F.args_int_rmul_2 _ _) (int___rmul___int_list k t l bN.toArray n)
   ⟨e,rfl,⟨_,e,rfl⟩,aPy F.slot_list_mul ⟨_,e,rfl⟩ F.entry_list_mul (F.args_list_mul_2 _ _) (AutoListH.list___mul___list_int_3 l bN.toArray n k t aFm aHG Ya) ⟨e,?_⟩⟩)
 rw[aA9]
 exact⟨.ref _,_,I.lnew (t':=s.toks) (r.rep k.toNat) (by rw[yk,Nat.mul_comm];exact hz),rfl,q _ I.fresh⟩
end
section
variable{prog:aPa}{w:aPc}{A:Around}{E:Value->Shared->Prop}{s:Shared}
end
section
variable{X:Cx}
end
end L2
namespace L2
open PySem PySem.Spec PyProof.Rows
theorem cJ.ints:∀{ns:List Int} {us:List Value},cJ (ns.map V.int) us->IntsAre us ns
 | [],us,h=>by
  rw[aOE]at h
  cases h;exact IntsAre.nil
 | n::ns,us,h=>by
  rw[aM2]at h
  cases h with
  | cons r t=>
   obtain⟨k,rfl⟩:=r
   exact IntsAre.cons n k (cJ.ints t)
def cJ.ref1{a:Addr}{us:List Value}(r:cJ [V.ref a] us):us=[aPb a]:=by
 cases r with
 | cons r t=>
  cases t;cases r;rfl
section
variable{prog:aPa}{w:aPc}{A:Around}{E:Value->Shared->Prop}{s:Shared}{l:Addr}{bN:List Value}{ns:List Int}{Q:Value->Shared->Prop}
def zd(hh:A.handled=none)(hl:s.heap.IsList l bN.toArray)(hi:IntsAre bN ns)
  (h:∀h' tk t',(∀b o,s.heap.get? b=some o->h'.get? b=some o)->Q (.int ns.sum t') { s with heap:=h',toks:=tk }):wpAny (model prog w) A (call (.builtin "sum") [.ref l]) Q E s:=by
 obtain⟨xs,e⟩:=hi.allInts.items
 have hn:numsOf (intItems xs).toList=ns:=by rw[<-e];exact hi.numsOf
 rw[nums_intItems]at hn
 rw[e]at hl
 refine PySem.sum_intListG hh hl λh' tk t' hk=>?_;have:=h h' tk t' hk;rw[preSum_eq,aOn (by simp),hn];exact this
def aFy(hh:A.handled=none)(hl:s.heap.IsList l bN.toArray)(hi:IntsAre bN ns)(y8:0<ns.length)
  (h:∀h' tk M t',(∀b o,s.heap.get? b=some o->h'.get? b=some o)->M∈ns->(∀a,a∈ns->a<=M)->Q (.int M t') { s with heap:=h',toks:=tk }):wpAny (model prog w) A (call (.builtin "max") [.ref l]) Q E s:=by
 obtain⟨xs,e⟩:=hi.allInts.items
 have hn:numsOf (intItems xs).toList=ns:=by rw[<-e];exact hi.numsOf
 rw[nums_intItems]at hn
 subst hn;rw[e]at hl;have hsz:0<xs.size:=by simpa using y8
 refine PySem.max_intList hh hl hsz λv h' tk hv hk=>?_;obtain⟨t,rfl⟩:=intItems_at hv;obtain⟨h1,h2⟩:=argBest_gt (numAt xs) (xs.size-1);refine h h' tk _ t hk ?_ λa ha=>?_
 ·rw[numAt_eq];exact PySem.getD_mem (by rw[aLx,aPj];omega)
 ·obtain⟨j,hj,rfl⟩:=mem_getD ha
  rw[aLx,aPj]at hj
  rw[<-numAt_eq];exact h2 j (by omega)
def yi(hh:A.handled=none)(hl:s.heap.IsList l bN.toArray)(hi:IntsAre bN ns)(y8:0<ns.length)
  (h:∀h' tk M t',(∀b o,s.heap.get? b=some o->h'.get? b=some o)->M∈ns->(∀a,a∈ns->M<=a)->Q (.int M t') { s with heap:=h',toks:=tk }):wpAny (model prog w) A (call (.builtin "min") [.ref l]) Q E s:=by
 obtain⟨xs,e⟩:=hi.allInts.items
 have hn:numsOf (intItems xs).toList=ns:=by rw[<-e];exact hi.numsOf
 rw[nums_intItems]at hn
 subst hn;rw[e]at hl;have hsz:0<xs.size:=by simpa using y8
 refine PySem.min_intList hh hl hsz λv h' tk hv hk=>?_;obtain⟨t,rfl⟩:=intItems_at hv;obtain⟨h1,h2⟩:=argBest_lt (numAt xs) (xs.size-1);refine h h' tk _ t hk ?_ λa ha=>?_
 ·rw[numAt_eq];exact PySem.getD_mem (by rw[aLx,aPj];omega)
 ·obtain⟨j,hj,rfl⟩:=mem_getD ha
  rw[aLx,aPj]at hj
  rw[<-numAt_eq];exact h2 j (by omega)
end
section
variable{X:Cx}
inductive aEB(K:aMC)(vs:List V)(H:Hp)(Q:VK):Prop
 |mk:∀(a:Addr) (ns:List Int),vs=[V.ref a]->aZ K H a (ns.map V.int)->Q (.int ns.sum) H->aEB K vs H Q
inductive aDx(K:aMC)(vs:List V)(H:Hp)(Q:VK):Prop
 |mk:∀(a:Addr) (ns:List Int),vs=[V.ref a]->aZ K H a (ns.map V.int)->0<ns.length->(∀m,m∈ns->(∀y,y∈ns->m<=y)->Q (.int m) H)->aDx K vs H Q
def ZH(hc:X.calm=true):uC X (.builtin "sum") (aEB X.K):=by
 intro pins s σ H vs us Q I r h;obtain⟨a,ns,rfl,hs,q⟩:=h;obtain⟨bN,rv,hl,_⟩:=I.list hs;rw[cJ.ref1 r];exact zd (I.ok.hd hc) hl.isList rv.ints λh' tk t' hk=>⟨.int _,H,I.kept hk,⟨_,rfl⟩,q⟩
def aCW(hc:X.calm=true):uC X (.builtin "min") (aDx X.K):=by
 intro pins s σ H vs us Q I r h;obtain⟨a,ns,rfl,hs,y8,q⟩:=h;obtain⟨bN,rv,hl,_⟩:=I.list hs;rw[cJ.ref1 r];exact yi (I.ok.hd hc) hl.isList rv.ints y8 λh' tk m t' hk h1 h2=>⟨.int _,H,I.kept hk,⟨_,rfl⟩,q m h1 h2⟩
end
section
variable{X:Cx}
inductive oj(K:aMC)(x:V)(xs:List V)(H:Hp)(Q:VK):Prop
 |mk:∀(a:Addr) (ys:List V) (y:V) (j:Nat) (z:V),x=V.ref a->xs=[y]->aZ K H a ys->vO y=true->ys.all vO=true->ys[j]?=some z->wm z y=true->((∀(m:Nat) (z':V),m<j->ys[m]?=some z'->wm z' y=false))->Q (.int (j:Nat)) H->oj K x xs H Q
def eo{ys:List V}(f:ys.all vO=true){j:Nat}{z:V}(h:ys[j]?=some z):vO z=true:=aNB.mp f z (aMZ h)
def ud:MtR X "list.index" (oj X.K):=by
 intro pins s σ H x xs v us Q I rx rxs h;obtain⟨a,ys,y,j,z,rfl,rfl,hs,fy,fys,hz,hzj,rJ,q⟩:=h;cases rx;cases rxs with
 | cons ry rt=>
  rename_i uy ut;cases rt;obtain⟨bN,rv,⟨⟨cls,dd,data,sl⟩,n,ho,hc,hdn,hd⟩,cC⟩:=I.list hs;simp only at hc hd;subst hc hd;obtain⟨u,hu,ru⟩:=rv.get hz;obtain⟨Ke,Md⟩:=aM0.mp hu;have hvl:=rv.length;have hj:j<bN.toArray.size:=by simpa using Ke
  have CB:=sizeLine_eq;refine aPy aOo ⟨_,ho,rfl⟩ aQH (aQC _ _)
   (aQm a bN.toArray n dd sl uy (Yd y) j hj (by omega) ?_ ?_) ⟨ho,λu' hu'=>zF ry fy rv fys u' (by simpa using hu'),?_⟩
  ·have e1:bN.toArray[j]=u:=by simpa using Md
   rw[e1,Oy ru (eo fys hz)]
   exact hzj
  ·intro m hm hmj;have GQ:m<bN.length:=by simpa using hm
   have hmy:m<ys.length:=by omega
   have hy':ys[m]?=some ys[m]:=aMK hmy;obtain⟨u2,Yj,vt⟩:=rv.get hy';obtain⟨_,vy⟩:=aM0.mp Yj;have e1:bN.toArray[m]=u2:=by simpa using vy
   rw[e1,Oy vt (eo fys hy')]
   exact rJ m _ hmj hy'
  ·exact⟨.int (j:Nat),H,I.tok _,⟨_,rfl⟩,q⟩
end
section
variable{X:Cx}
end
section
variable{X:Cx}
end
section
variable{X:Cx}{pins:List (Addr×Obj)}{σ:St}{H:Hp}{s:Shared}
end
section
variable{X:Cx}
end
end L2
namespace L2
open PySem PySem.Spec PyProof.Rows
abbrev oe(h:Heap)(c:Addr)(v:Option Value):Prop:=h.IsCell c v
def aGn(scope sc:aPq):aPq:=
 { scope with names:=scope.names.map fun(n,k)=>if(k==.free&&sc.kind==.function&&sc.names.lookup n==some .cell)then(n,.cell)else(n,k) }
def eR(cells:List (Str×Addr)):List (Str×NameKind)->List (Str×Addr)->List (Str×Addr)
 |[],acc=>acc
 |(n,k)::r,acc=>if k==.free then eR cells r ((n,(cells.lookup n).getD 0)::acc)else eR cells r acc
theorem Gv(env:Env)(f:Str×NameKind->List (Str×Addr)->Sem (ForInStep (List (Str×Addr))))
  (hf:∀n k c,f (n,k) c=if k==.free then(do let a <-cellOf env n;pure (.yield ((n,a)::c)))else pure (.yield c)):
  ∀(names:List (Str×NameKind)) (acc:List (Str×Addr)),(∀y∈names,y.2=.free->∃c,env.cells.lookup y.1=some c)->forIn names acc f=pure (eR env.cells names acc)
 |[],acc,_=>by rw[List.forIn_nil];rfl
 | (n,k)::r,acc,h=>by
  rw[List.forIn_cons,hf]
  have ih:=λacc=>Gv env f hf r acc λy hy=>h y (aMM _ hy);unfold eR;by_cases hk:(k==aQA)=true
  ·rw[if_pos hk,if_pos hk]
   obtain⟨c,hc⟩:=h (n,k) aMN (by simpa using hk)
   have e:cellOf env n=pure c:=by unfold cellOf;rw[hc]
   rw[e]
   have e2:(env.cells.lookup n).getD 0=c:=by rw[hc];rfl
   rw[e2]
   exact ih _
  ·rw[if_neg hk,if_neg hk]
   exact ih _
def ZL{scope:aPq}{env:Env}(h:∀y∈scope.names,y.2=.free->∃c,env.cells.lookup y.1=some c):closureFor scope env=pure (eR env.cells scope.names []):=by
 simp only[closureFor]
 rw[Gv env _ (λn k c=>rfl) scope.names [] h]
 rfl
theorem Fo{α:Type}:∀{l:List (Str×α)} {n:Str} {c:α},(n,c)∈l->∃c',l.lookup n=some c'
 | (k,v)::r,n,c,h=>by
  rw[aO7]
  cases hb:n==k with
  |true=>exact⟨_,rfl⟩
  | false=>
   rcases aMR.mp h with e|h
   ·cases e;simp at hb
   ·exact Fo h
theorem vX{cells:List (Str×Addr)}:∀{names:List (Str×NameKind)} {acc:List (Str×Addr)} {n:Str} {c:Addr},(n,c)∈eR cells names acc->(n,c)∈acc\/((n,.free)∈names/\c=(cells.lookup n).getD 0)
 |[],_,_,_,h=>.inl h
 | (m,k)::r,acc,n,c,h=>by
  unfold eR at h;split at h
  ·rename_i hk;have hk:k=.free:=by simpa using hk
   rcases vX h with h|⟨h1,h2⟩
   ·rcases aMR.mp h with e | h
    ·cases e;exact .inr ⟨hk▸aMN,rfl⟩
    ·exact .inl h
   ·exact .inr ⟨aMM _ h1,h2⟩
  ·rcases vX h with h | ⟨h1,h2⟩
   ·exact .inl h
   ·exact .inr ⟨aMM _ h1,h2⟩
theorem DR{cells:List (Str×Addr)}:∀{names:List (Str×NameKind)} {acc:List (Str×Addr)} {p:Str×Addr},p∈acc->p∈eR cells names acc
 |[],_,_,h=>h
 | (m,k)::r,acc,p,h=>by
  unfold eR;split
  ·exact DR (aMM _ h)
  ·exact DR h
theorem DC{cells:List (Str×Addr)}:∀{names:List (Str×NameKind)} {acc:List (Str×Addr)} {n:Str},(n,.free)∈names->(n,(cells.lookup n).getD 0)∈eR cells names acc
 | (m,k)::r,acc,n,h=>by
  unfold eR;rcases aMR.mp h with e|h
  ·cases e;exact DR aMN
  ·split
   ·exact DC h
   ·exact DC h
theorem zR:∀{names:List (Str×NameKind)} {h:Heap} {acc:List (Str×Addr)} {x:Str} {c:Addr},(x,c)∈cellsFrom h.objs.size names acc->
  (x,c)∈acc\/((x,.cell)∈names/\h.objs.size<=c/\oe (pushCells h names) c none)
 |[],_,_,_,_,h=>.inl h
 | (n,k)::r,h,acc,x,c,hm=>by
  unfold cellsFrom at hm;unfold pushCells;split at hm
  ·rename_i hk;rw[if_pos hk];have hk:k=.cell:=by simpa using hk
   rw[<-aPg h { cls:=.type "cell",data:=.cell none }]at hm
   rcases zR hm with hm|⟨h1,h2,h3⟩
   ·rcases aMR.mp hm with e | hm
    ·cases e;exact .inr ⟨hk▸aMN,aMG _,_,pushCells_keeps r _ _ _ (aP9 _ rfl),rfl⟩
    ·exact .inl hm
   ·rw[aPg]at h2
    exact .inr ⟨aMM _ h1,aPU h2,h3⟩
  ·rename_i hk;rw[if_neg hk];rcases zR hm with hm|⟨h1,h2,h3⟩
   ·exact .inl hm
   ·exact .inr ⟨aMM _ h1,h2,h3⟩
theorem Dv:∀{names:List (Str×NameKind)} {n:Nat} {acc:List (Str×Addr)} {p:Str×Addr},p∈acc->p∈cellsFrom n names acc
 |[],_,_,_,h=>h
 | (m,k)::r,n,acc,p,h=>by
  unfold cellsFrom;split
  ·exact Dv (aMM _ h)
  ·exact Dv h
theorem Ie:∀{names:List (Str×NameKind)} {n:Nat} {acc:List (Str×Addr)} {x:Str},(x,.cell)∈names->∃c,(x,c)∈cellsFrom n names acc
 | (m,k)::r,n,acc,x,h=>by
  unfold cellsFrom;rcases aMR.mp h with e|h
  ·cases e;exact⟨n,Dv aMN⟩
  ·split
   ·exact Ie h
   ·exact Ie h
theorem IW:∀{names:List (Str×NameKind)} {h:Heap} {acc:List (Str×Addr)} {x y:Str} {c:Addr},(∀p∈acc,p.2<h.objs.size)->(∀x y c,(x,c)∈acc->(y,c)∈acc->x=y)->
  (x,c)∈cellsFrom h.objs.size names acc->(y,c)∈cellsFrom h.objs.size names acc->x=y
 |[],_,_,_,_,_,_,hi,h1,h2=>hi _ _ _ h1 h2
 | (n,k)::r,h,acc,x,y,c,hl,hi,h1,h2=>by
  unfold cellsFrom at h1 h2;split at h1
  ·rename_i hk;rw[if_pos hk]at h2;rw[<-aPg h { cls:=.type "cell",data:=.cell none }]at h1 h2;refine IW (h:=h.push _) (λp hp=>?_) (λx y c a b=>?_) h1 h2
   ·rw[aPg]
    rcases aMR.mp hp with rfl|hp
    ·exact aPS _
    ·exact aPV (hl p hp)
   ·rcases aMR.mp a with e | a<;>rcases aMR.mp b with e' | b
    ·cases e;cases e';rfl
    ·cases e;exact absurd (hl _ b) (aNk _)
    ·cases e';exact absurd (hl _ a) (aNk _)
    ·exact hi _ _ _ a b
  ·rename_i hk;rw[if_neg hk]at h2;exact IW hl hi h1 h2
def Xj{M:Model}{A:Around}{E:Value->Shared->Prop}{s:Shared}{scope:aPq}{globals:Addr}{closure:List (Str×Addr)}{qual:Str}{func:Option Addr}{code:Value}{vw:Env}{builtins:Addr}{Q:Env->Shared->Prop}
  (h:Q (newEnv scope s.heap.objs.size globals (cellsFrom (s.heap.objs.size+1) scope.names closure) qual func code (some vw) builtins)
   { s with heap:=pushCells (s.heap.push { cls:=.type "dict",data:=.dict #[] }) scope.names }):
  wpAny M A (newFunctionEnv scope globals closure [] qual func code (some vw) builtins) Q E s:=by
 simp only[newFunctionEnv,Option.isSome_some,if_true]
 refine wpAny_bind (wpAny_alloc ?_);refine wpAny_bind (wpAny_layCells _ (λn k c=>rfl) scope.names closure _ _ ?_);rw[show({ s with heap:=s.heap.push { cls:=.type "dict",data:=.dict #[] } }:Shared).heap.objs.size=s.heap.objs.size+1 from aPg ..];rw[List.forIn_nil];exact wpAny_bind (wpAny_pure (wpAny_pure h))
theorem CW{sc:aPq}:∀{names:List (Str×NameKind)} {x:Str} {k:NameKind},
  (names.map fun(n,k)=>if(k==aQA&&sc.kind==.function&&sc.names.lookup n==some .cell)then(n,aRj)else(n,k)).lookup x=some k->
  ∃k',names.lookup x=some k'/\(k=k'\/(k'=.free/\k=.cell))
 |[],_,_,h=>by simp at h
 | (n,k₀)::r,x,k,h=>by
  have ih:=@CW sc r x k;have h':aOV x ((if(k₀==aQA&&sc.kind==.function&&sc.names.lookup n==some .cell)=true then(n,aRj)else(n,k₀))::(r.map _))=some k:=h
  cases hx:x==n with
  | true=>
   simp only[aO7,hx]
   by_cases hc:(k₀==aQA&&sc.kind==.function&&sc.names.lookup n==some .cell)=true
   ·rw[if_pos hc]at h'
    simp only[aO7,hx]at h'
    cases h';simp only[aM5,beq_iff_eq]at hc;exact⟨k₀,rfl,.inr ⟨hc.1.1,rfl⟩⟩
   ·rw[if_neg hc]at h'
    simp only[aO7,hx]at h'
    cases h';exact⟨_,rfl,.inl rfl⟩
  | false=>
   simp only[aO7,hx]
   by_cases hc:(k₀==aQA&&sc.kind==.function&&sc.names.lookup n==some .cell)=true
   ·rw[if_pos hc]at h'
    simp only[aO7,hx]at h'
    exact ih h'
   ·rw[if_neg hc]at h'
    simp only[aO7,hx]at h'
    exact ih h'
structure oG(N:List Str)(sc scope:aPq)(own:List (Str×Nat)):Prop where
 kind:scope.kind=.function
 uniq:∀y∈scope.names,scope.names.lookup y.1=some y.2
 ix:∀p∈own,N[p.2]?=some p.1
 free:∀y∈scope.names,y.2=.free->sc.names.lookup y.1=some .cell\/sc.names.lookup y.1=some .free
 own:∀y∈scope.names,y.2=.local\/y.2=.cell->y.1∈own.map (·.1)\/y.1∉N
def wipe(σ:St):List Nat->St
 |[]=>σ
 |v::vs=>(wipe σ vs).set v none
theorem Ca(σ:St):∀vs:List Nat,(wipe σ vs).length=σ.length
 |[]=>rfl
 |v::vs=>by unfold wipe;rw[aMv,Ca σ vs]
theorem IV{σ:St}{i:Nat}{x:V}:∀{vs:List Nat},(wipe σ vs)[i]?=some (some x)->σ[i]?=some (some x)/\i∉vs
 |[],h=>⟨h,by simp⟩
 | v::vs,h=>by
  unfold wipe at h;by_cases hi:v=i
  ·subst hi;by_cases hv:v<(wipe σ vs).length
   ·rw[aOC hv]at h;cases h
   ·rw[aOB (by simpa using hv)]at h;cases h
  ·rw[aNh hi]at h
   obtain⟨h1,h2⟩:=IV h
   exact⟨h1,by simp only[aMR,not_or];exact⟨λe=>hi e.symm,h2⟩⟩
abbrev Cx.blk(X:Cx)(s:Shared)(H:Hp)(scope:aPq)(mJ:Env)(fp:List Addr):Cx:={ X with Nq:=s,H_0:=H,env:=mJ,outer:=X.stack,ex:=fp,fn:=λx=>scope.names.lookup x==some .cell,pn:=[],xe:=λ_ _=>False }
section
variable{X:Cx}{pins:List (Addr×Obj)}{σ:St}{H:Hp}{s:Shared}
def Xg{scope:aPq}{own:List (Str×Nat)}{fp:List Addr}(I:Inv X pins σ H s)(ok:oG X.N X.env.scope scope own)(hN:X.N.Nodup)(hfp:∀b∈fp,Ku X pins H b/\b<s.heap.objs.size):
  Inv (X.blk s H scope (compEnvC scope (cellsFrom (s.heap.objs.size+1) scope.names (eR X.env.cells scope.names [])) s.heap.objs.size X.env) fp) [] (wipe σ (own.map (·.2))) H { s with heap:=pushCells (s.heap.push { cls:=.type "dict",data:=.dict #[] }) scope.names }:=by
 have Of:∀y∈scope.names,y.2=.free->∃c,X.env.cells.lookup y.1=some c:=λy hy e=>by
  rcases ok.free y hy e with k|k
  ·exact I.ok.has _ (.inl k)
  ·exact I.ok.has _ (.inr k)
 generalize YZ:compEnvC scope (cellsFrom (s.heap.objs.size+1) scope.names (eR X.env.cells scope.names [])) s.heap.objs.size X.env=mJ;have kp:∀b o,s.heap.get? b=some o->(pushCells (s.heap.push { cls:=.type "dict",data:=.dict #[] }) scope.names).get? b=some o:=λb o e=>pushCells_keeps _ _ _ _ (aP7 _ e);have hL:mJ.locals=s.heap.objs.size:=by rw[<-YZ];rfl
 have Y6:mJ.cells=cellsFrom (s.heap.objs.size+1) scope.names (eR X.env.cells scope.names []):=by rw[<-YZ];rfl
 have hsc:mJ.scope=aGn scope X.env.scope:=by rw[<-YZ];rfl
 rw[<-aPg s.heap { cls:=.type "dict",data:=.dict #[] }]at Y6
 have cm:∀{y c},(y,c)∈eR X.env.cells scope.names []->X.env.cells.lookup y=some c/\c<s.heap.objs.size:=fun{y c} hm=>by
  rcases vX hm with hm|⟨h1,rfl⟩
  ·cases hm
  ·obtain⟨c,hc⟩:=Of _ h1 rfl
   rw[hc]
   obtain⟨w,z⟩:=I.cell _ _ hc
   exact⟨rfl,z.lt⟩
 have mem:∀{y c},mJ.cells.lookup y=some c->(X.env.cells.lookup y=some c/\c<s.heap.objs.size)\/(s.heap.objs.size+1<=c/\oe (pushCells (s.heap.push { cls:=.type "dict",data:=.dict #[] }) scope.names) c none):=fun{y c} e=>by
  rw[Y6]at e
  rcases zR (aPe e)with hm|⟨_,h2,h3⟩
  ·exact .inl (cm hm)
  ·rw[aPg]at h2;exact .inr ⟨h2,h3⟩
 have look:∀{y},scope.names.lookup y=some .free->∃c,mJ.cells.lookup y=some c/\X.env.cells.lookup y=some c:=fun{y} hl=>by
  have hy:(y,aQA)∈scope.names:=aPe hl;obtain⟨c',e'⟩:=Fo (Dv (names:=scope.names) (n:=(s.heap.push { cls:=.type "dict",data:=.dict #[] }).objs.size) (DC (cells:=X.env.cells) (acc:=[]) hy));rw[<-Y6]at e';refine⟨c',e',?_⟩;rw[Y6]at e';rcases zR (aPe e')with hm|⟨h1,_,_⟩
  ·exact(cm hm).1
  ·have:=ok.uniq _ h1
   rw[hl]at this;cases this
 have xt:(X.blk s H scope mJ fp).Ok:=by
  refine⟨I.ok.mod,by show mJ.scope.kind=_;rw[hsc];exact ok.kind,by show mJ.globals=_;rw[<-YZ];exact I.ok.glob,by show mJ.builtins=_;rw[<-YZ];exact I.ok.blt,by show s.heap.objs.size<=mJ.locals;rw[hL];exact aMG _,
   λy z c e1 e2=>?_,λy hy=>?_,λy c z e=>?_,I.ok.hd,I.ok.frames,.inl rfl,λb hb=>⟨?_,λy c e z=>?_⟩,I.bs,aM3 I.ok.wk I.sz,λb o e hb=>?_,λb hb z=>?_,I.stack,I.stkFree⟩
  ·have e1:mJ.cells.lookup y=some c:=e1;have e2:mJ.cells.lookup z=some c:=e2;rw[Y6]at e1 e2;refine IW (λp hp=>?_) (λy z c a b=>I.ok.inj y z c (cm a).1 (cm b).1) (aPe e1) (aPe e2);rw[aPg];exact aPV (cm (y:=p.1) (c:=p.2) hp).2
  ·show ∃c,mJ.cells.lookup y=some c;have key:∀k,mJ.kindOf y=some k->(k=.cell\/k=.free)->∃c,mJ.cells.lookup y=some c:=λk hk hk'=>by
    unfold Env.kindOf at hk;rw[hsc]at hk;obtain⟨k',e,r⟩:=CW hk;have:k'=.cell\/k'=.free:=by
     rcases r with rfl|⟨rfl,_⟩
     ·exact hk'
     ·exact .inr rfl
    rcases this with rfl|rfl
    ·obtain⟨c,hm⟩:=Ie (n:=(s.heap.push { cls:=.type "dict",data:=.dict #[] }).objs.size) (acc:=eR X.env.cells scope.names []) (aPe e)
     obtain⟨c',e'⟩:=Fo hm
     exact⟨c',by rw[Y6];exact e'⟩
    ·obtain⟨c,h1,_⟩:=look e
     exact⟨c,h1⟩
   rcases hy with hy|hy
   ·exact key _ hy (.inl rfl)
   ·exact key _ hy (.inr rfl)
  ·have z:(scope.names.lookup y==some aRj)=true:=z;have z:scope.names.lookup y=some .cell:=by simpa using z
   have e:mJ.cells.lookup y=some c:=e;rw[Y6]at e;rcases zR (aPe e)with hm|⟨_,h2,_⟩
   ·rcases vX hm with hm | ⟨h1,_⟩
    ·cases hm
    ·have q:=ok.uniq _ h1;rw[z]at q;cases q
   ·rw[aPg]at h2
    exact aPU h2
  ·show b≠mJ.locals;rw[hL];exact aNK (hfp b hb).2
  ·have e:mJ.cells.lookup y=some c:=e;rcases mem e with⟨h1,_⟩|⟨h1,_⟩
   ·exact(hfp b hb).1.2.2.2.2.1 y c h1 z
   ·have h2:s.heap.objs.size+1<=b:=by rw[<-z];exact h1
    exact absurd (aNN (hfp b hb).2 (aPU h2)) (aNk _)
  ·rcases(hfp b hb).1.2.2.2.1 with z | z
   ·exact I.ok.ml b o e z
   ·exact absurd (aNN (aP8 e) (aM3 I.ok.wk z)) (aNk _)
  ·rcases aMR.mp (I.stkSub b z)with z | z
   ·exact(hfp b hb).1.2.1 z
   ·exact(hfp b hb).1.2.2.1 z
 refine⟨xt,rfl,I.bare,Un.kept kp,⟨λ_=>none,?_,λi y av e1 e2 e3=>?_⟩,λy c e=>?_,?_,λy c e=>?_,λp hp=>?_,I.eI.kept kp,by rw[Ca];exact I.len⟩
 ·show Heap.Ns _ mJ.locals _;rw[hL];exact Heap.Ns.keeps (Heap.Ns.new ..) λb o e=>pushCells_keeps _ _ _ _ e
 ·obtain⟨e2,y8⟩:=IV e2
  have xh:scope.names.lookup y=some .free/\(mJ.kindOf y=some .cell\/mJ.kindOf y=some .free):=by
   have key:∀k,mJ.scope.names.lookup y=some k->k=.local\/k=.cell\/k=.free->scope.names.lookup y=some .free/\(mJ.kindOf y=some .cell\/mJ.kindOf y=some .free):=λk hk hk'=>by
    have hk0:=hk;rw[hsc]at hk;obtain⟨k',e,r⟩:=CW hk;have no:¬(k'=.local\/k'=.cell):=λhh=>by
     rcases ok.own _ (aPe e) hh with e'|e'
     ·obtain⟨p,hp,hpy⟩:=aNG.mp e'
      have e3:=ok.ix p hp;have:p.1=y:=hpy;rw[this]at e3;exact y8 (aNG.mpr ⟨p,hp,LW hN e3 e1⟩)
     ·exact e' (aMZ e1)
    rcases r with rfl|⟨rfl,rfl⟩
    ·rcases hk' with rfl | rfl | rfl
     ·exact absurd (.inl rfl) no
     ·exact absurd (.inr rfl) no
     ·exact⟨e,.inr hk0⟩
    ·exact⟨e,.inl hk0⟩
   have e3:Vis mJ.scope y:=e3;rcases e3 with e3|e3|e3
   ·exact key _ e3 (.inl rfl)
   ·exact key _ e3 (.inr (.inl rfl))
   ·exact key _ e3 (.inr (.inr rfl))
  obtain⟨m,hn,hl⟩:=I.loc
  have aHg:Vis X.env.scope y:=(ok.free _ (aPe xh.1) rfl).elim (λk=>.inr (.inl k)) (λk=>.inr (.inr k));obtain⟨w,r,q⟩:=hl i y av e1 e2 aHg;refine⟨w,r,.inr ⟨xh.2,?_⟩⟩;obtain⟨c,h1,h2⟩:=look xh.1;rcases q with⟨k,_⟩|⟨_,c',e',z⟩
  ·have k:X.env.scope.names.lookup y=some .local:=k;rcases ok.free _ (aPe xh.1) rfl with k'|k'<;>rw[show X.env.scope.names.lookup y=_ from k']at k<;>cases k
  ·rw[h2]at e';cases e'
   exact⟨c,h1,z.keeps kp⟩
 ·have e:mJ.cells.lookup y=some c:=e;rcases mem e with⟨h1,_⟩|⟨_,z⟩
  ·obtain⟨w,z⟩:=I.cell y c h1
   exact⟨w,z.keeps kp⟩
  ·exact⟨_,z⟩
 ·show H mJ.locals=none;rw[hL];exact I.eI.fresh (aMG _)
 ·have e:mJ.cells.lookup y=some c:=e;rcases mem e with⟨h1,_⟩|⟨h1,_⟩
  ·exact I.CG y c h1
  ·exact I.eI.fresh (aPU h1)
 ·exact absurd (show p∈([]:List (Addr×Obj))++[]from hp) (by simp)
def aBn{E:Value->Shared->Prop}{D:Addr}{xs:List V}{y:V}{v:Value}{Q:Value->Shared->Prop}(I:Inv X pins σ H s)(hD:H D=some (.lst xs))(hz:xs.length<sizeLine)(r:dG y v)
  (h:∀s',Inv X pins σ (upd H D (.lst (xs++[y]))) s'->Q .none s'):wpAny (model X.prog X.w) X.A (call (.builtin "list.append") [.ref D,v]) Q E s:=by
 obtain⟨hz',bN,n,ri,e⟩:=I.eI D _ hD
 have hl:=ri.length;refine append_at (hsz:=by rw[aM8];omega) e λh' sb ho'=>?_
 refine h { s with heap:=h' } (I.write (t':=s.toks) (by rw[hD];trivial) (.inl rfl) (λb u hb q=>(sb.2 b hb).trans q) ⟨_,ho'⟩ ⟨by rw[aMH];exact hz,bN++[v],n+1,ri.append (.cons r .nil),?_⟩)
 rw[ho']
 simp
def PTs(X:Cx)(T8:List Expr)(t:TT):Prop:=
 ∀(pins:List (Addr×Obj)) (s:Shared) (σ:St) (H:Hp) (Q:Bool->Hp->Prop),Inv X pins σ H s->t σ H Q->
  wpAny (model X.prog X.w) X.A (forIn T8 true λc r=>if r=true then do let ok <-isTrue c X.env (eval c X.env);pure (aQ5 ok)else pure (aQ5 r)) (TP X pins σ Q) X.xe s
def aEN:TT:=λ_ H Q=>Q true H
def vV:PTs X [] aEN:=λ_ _ _ H _ I h=>wpAny_tests_nil ⟨H,I,h⟩
def Dm{c:Expr}{t:TT}(h:PT X c t):PTs X [c] t:=λpins s σ H Q I hw=>wpAny_tests_one (h pins s σ H Q I hw)
end
def gb{α:Type}{t:Sem α}{Q Q':α->Shared->Prop}{M:Model}{A:Around}{E:Value->Shared->Prop}{s:Shared}(h:wpAny M A t Q (λ_ _=>False) s)(hQ:∀a s,Q a s->Q' a s):wpAny M A t Q' E s:=wpAny_mono h hQ λ_ _ z=>aPh z
def P9{prog:aPa}{w:aPc}{A:Around}{R:Result->Shared->Prop}{s:Shared}{T4 JU iter:Expr}{T8:List Expr}{scope:aPq}{pos:Pos}{it acc:Value}{env:Env}(I:Nat->Shared->Prop)
  (turn:∀n s,I n s->wpAny (model prog w) A (pyNext it) (λr s₁=>match r with
   |none=>R (.ok .next) s₁
   | some v=>wpAny (model prog w) A (letOwnedTupleGo JU it v) (λ_ s₁'=>wpAny (model prog w) A (assign JU env v) (λ_ s₂=>
     wpAny (model prog w) A (forIn T8 true λc r=>if r=true then do let ok <-isTrue c env (eval c env);pure (aQ5 ok)else pure (aQ5 r)) (λok s₃=>
      if ok=true then wpAny (model prog w) A (eval T4 env) (λx s₄=>
       wpAny (model prog w) A (call (.builtin "list.append") [acc,x]) (λ_ s₅=>∃m,m<n/\I m s₅) (notedBy (model prog w) A env λe s'=>R (.error e) s') s₄) (notedBy (model prog w) A env λe s'=>R (.error e) s') s₃
      else ∃m,m<n/\I m s₃) (notedBy (model prog w) A env λe s'=>R (.error e) s') s₂) (notedBy (model prog w) A env λe s'=>R (.error e) s') s₁') (notedBy (model prog w) A env λe s'=>R (.error e) s') s₁) (notedBy (model prog w) A env λe s'=>R (.error e) s') s)
  (n:Nat) (h:I n s):
  codeAny (model prog w) A (.compLoop (.ListComp T4 [⟨JU,iter,T8,0⟩] scope pos) 0 it acc env) R s:=by
 refine codeAny_loop rfl I (λn s hI=>?_) n h;show wpAny _ A ((compTurn (.ListComp T4 [⟨JU,iter,T8,0⟩] scope pos) 0 it acc env).onRaise (λx=>do noteFrame x env;theTreesLotGoes x)) _ _ s
 refine wpAny_noted ?_;rw[compTurn_list];refine wpAny_bind (wpAny_standAt (wpAny_bind (wpAny_mono (turn n s hI) (λr s₁ h₁=>?_) λ_ _ h'=>h')));cases r with
 |none=>exact wpAny_pure h₁
 | some v=>
  refine wpAny_bind (wpAny_mono h₁ (λ_ s₁' h₁'=>?_) λ_ _ h'=>h');refine wpAny_bind (wpAny_mono h₁' (λ_ s₂ h₂=>wpAny_bind (wpAny_mono h₂ (λok s₃ h₃=>?_) λ_ _ h'=>h')) λ_ _ h'=>h');cases ok with
  |false=>exact wpAny_pure ⟨rfl,h₃⟩
  | true=>
   exact wpAny_bind (wpAny_bind (wpAny_mono h₃ (λx s₄ h₄=>wpAny_bind (wpAny_mono h₄ (λ_ s₅ h₅=>wpAny_pure (wpAny_pure ⟨rfl,h₅⟩)) λ_ _ h'=>h')) λ_ _ h'=>h'))
section
variable{X:Cx}
def tLc(wi:TI)(g:TG)(tt:TT)(te:TE)(vs:List Nat):TE:=fun σ H Q=>wi σ H λJ H1=>∀D,H1 D=none->∃W:Nat->Nat->Hp->Prop,(∃m,W 0 m (upd H1 D (.lst [])))/\∀i m H,W i m H->
 (J.stop i H/\Q (.ref D) H)\/(J.go i H/\∃Nx:Hp->Prop,(∀H',Nx H'->∃m',m'<m/\W (i+1) m' H')/\∀x H',J.kx i H x H'->g x (wipe σ vs) H' fun σ2 H2=>wipe σ2 vs=wipe σ vs/\tt σ2 H2 λb H3=>
  if b=true then te σ2 H3 λy H4=>∃acc,H4 D=some (.lst acc)/\acc.length<sizeLine/\Nx (upd H4 D (.lst (acc++[y])))else Nx H3)
def di{pins:List (Addr×Obj)}{s:Shared}{σ:St}{H:Hp}{Q:VK}{T4 tg iter:Expr}{T8:List Expr}{scope:aPq}{own:List (Str×Nat)}{pos pos':Pos}{wi:TI}{g:TG}{tt:TT}{te:TE}{use:Option (Value->Sem Unit)}{Qf:Value->Shared->Prop}
  (hc:X.calm=true) (hN:X.N.Nodup) (I:Inv X pins σ H s) (hi:PI X tg iter wi) (ok:oG X.N X.env.scope scope own)
  (hg:∀(s:Shared) (H:Hp) (C:Addr) (cl:List (Str×Addr)) (fp:List Addr),PG (X.blk s H scope (compEnvC scope cl C X.env) fp) tg g) (ht:∀(s:Shared) (H:Hp) (C:Addr) (cl:List (Str×Addr)) (fp:List Addr),PTs (X.blk s H scope (compEnvC scope cl C X.env) fp) T8 tt)
  (he:∀(s:Shared) (H:Hp) (C:Addr) (cl:List (Str×Addr)) (fp:List Addr),PE (X.blk s H scope (compEnvC scope cl C X.env) fp) T4 te) (hs:∀x,foldedSetIterable iter X.env x=pure x)
  (h:tLc wi g tt te (own.map (·.2)) σ H Q)
  (hRR:∀D C s' m H',Inv X pins σ H' s'->Q (.ref D) H'->s'.heap.Ns C m->Ku X pins H' C->compPost (model X.prog X.w) X.A X.xe use Qf (.ref D) C (.ok .next) s'):
  wpAny (model X.prog X.w) X.A (comprehension (.ListComp T4 [⟨tg,iter,T8,0⟩] scope pos) scope X.env pos' (newList []) false (eval iter X.env) use) Qf X.xe s:=by
 have Of:∀y∈scope.names,y.2=.free->∃c,X.env.cells.lookup y.1=some c:=λy hy e=>by
  rcases ok.free y hy e with k|k
  ·exact I.ok.has _ (.inl k)
  ·exact I.ok.has _ (.inr k)
 refine wpAny_comprehension_free (use:=use) rfl hs (ZL Of) ok.kind (λy hy e=>by rw[ok.uniq y hy,e])
  (gD (hi pins s σ H _ I h) λxv s1 hx=>gD hx λitv s2 h2=>?_)
 obtain⟨it,fp,tn,J,H2,e,I2,T,st2,f2,q⟩:=h2
 subst e;refine aQQ (Xj ?_) (by show 0<=sizeLine;decide)
 generalize hD:s2.heap.objs.size=D;have hDn:H2 D=none:=I2.eI.fresh (aPR hD);obtain⟨W,⟨m0,w0⟩,turn⟩:=q D hDn;generalize hs3:({ s2 with heap:=s2.heap.push { cls:=.type "list",data:=.seq ([]:List Value).toArray } }:Shared)=s3;have I3:Inv X pins σ (upd H2 D (.lst [])) s3:=by
  rw[<-hs3]
  refine I2.laid (t':=s2.toks) (λb o e=>aP7 _ e) (aPR hD) ⟨aM1 _,[],0,.nil,?_⟩;rw[<-hD];exact aP9 _ rfl
 have h3:s3.heap=s2.heap.push { cls:=.type "list",data:=.seq ([]:List Value).toArray }:=by rw[<-hs3]
 have sz:∀b∈fp,b<s2.heap.objs.size:=λb hb=>by
  obtain⟨o,e,_⟩:=T.obj _ _ st2 b hb
  exact aP8 e
 have f3:∀b∈fp,Ku X pins (upd H2 D (.lst [])) b/\b<s3.heap.objs.size:=λb hb=>by
  have jZ:=sz b hb;refine⟨⟨?_,(f2 b hb).2⟩,by rw[h3,aPg];exact aPV jZ⟩
  rw[aT (by rw[<-hD];exact aNK jZ)]
  exact(f2 b hb).1
 have st3:tn 0 s3.heap:=T.keep _ _ _ st2 λb _ o e=>by rw[h3];exact aP7 _ e
 have I4:=Xg I3 ok hN f3;have pg:=hg s3 (upd H2 D (.lst [])) s3.heap.objs.size (cellsFrom (s3.heap.objs.size+1) scope.names (eR X.env.cells scope.names [])) fp;have pt:=ht s3 (upd H2 D (.lst [])) s3.heap.objs.size (cellsFrom (s3.heap.objs.size+1) scope.names (eR X.env.cells scope.names [])) fp;have pe:=he s3 (upd H2 D (.lst [])) s3.heap.objs.size (cellsFrom (s3.heap.objs.size+1) scope.names (eR X.env.cells scope.names [])) fp;show codeAny _ _ (.compStart (.ListComp T4 [⟨tg,iter,T8,0⟩] scope pos) 0 (.ref it) (.ref D) (compEnvC scope (cellsFrom (s3.heap.objs.size+1) scope.names (eR X.env.cells scope.names [])) s3.heap.objs.size X.env)) (compPost (model X.prog X.w) X.A X.xe use Qf (.ref D) s3.heap.objs.size) { s3 with heap:=pushCells (s3.heap.push { cls:=.type "dict",data:=.dict #[] }) scope.names };have nfp:∀b∈fp,(upd H2 D (.lst [])) b=none:=λb hb=>(f3 b hb).1.1;generalize hce:compEnvC scope (cellsFrom (s3.heap.objs.size+1) scope.names (eR X.env.cells scope.names [])) s3.heap.objs.size X.env=ce at I4 pg pt pe ⊢;have cL:ce.locals=s3.heap.objs.size:=by subst hce;rfl
 generalize hH3:upd H2 D (.lst [])=H3 at I3 I4 pg pt pe w0 nfp f3;generalize hs4:({ s3 with heap:=pushCells (s3.heap.push { cls:=.type "dict",data:=.dict #[] }) scope.names }:Shared)=s4 at I4 ⊢;have st4:tn 0 s4.heap:=T.keep _ _ _ st3 λb _ o e=>by rw[<-hs4];exact pushCells_keeps _ _ _ _ (aP7 _ e)
 have Zs:∀{σ':St} {H':Hp} {s':Shared},Inv (X.blk s3 H3 scope ce fp) [] σ' H' s'->(∀b∈fp,H' b=none)->∀b∈fp,Ku (X.blk s3 H3 scope ce fp) [] H' b:=fun{σ' H' s'} I' hn b hb=>
  ⟨hn b hb,(I'.ok.exf b hb).1,I'.ok.mf b hb,.inl hb,λx c e=>(I'.ok.exf b hb).2 x c e,λp hp=>absurd (show p∈([]:List (Addr×Obj))++[]from hp) (by simp)⟩
 have aF5:codeAny (model X.prog X.w) X.A (.compLoop (.ListComp T4 [⟨tg,iter,T8,0⟩] scope pos) 0 (.ref it) (.ref D) ce) (compPost (model X.prog X.w) X.A X.xe use Qf (.ref D) s3.heap.objs.size) s4:=by
  refine P9 (λn s'=>∃i H',Inv (X.blk s3 H3 scope ce fp) [] (wipe σ (own.map (·.2))) H' s'/\tn i s'.heap/\(∀b∈fp,H' b=none)/\W i n H') ?_ m0 ⟨0,H3,I4,st4,nfp,w0⟩;rintro n s5 ⟨i,H5,I5,vn,n5,w5⟩;rcases turn i n H5 w5 with⟨stop,qq⟩|⟨go,Nx,hNx,step⟩
  ·have td:=T.done (X.blk s3 H3 scope ce fp) rfl rfl rfl hc i [] s5 _ H5 (λ_ _=>False) I5 (Zs I5 n5) vn stop;refine gb td λr s6 ⟨hr,I6⟩=>?_;subst hr;have I7:Inv X pins σ H5 s6:=I3.call' (ch:=fp) I6.os I6.base I6.eI I6.bare λb hb=>⟨(f3 b hb).1.2.2.2.1,(f3 b hb).1.2.1,(f3 b hb).1.2.2.2.2.1,(f3 b hb).1.2.2.2.2.2⟩;have nC:H5 s3.heap.objs.size=none:=by
    have z:H5 ce.locals=none:=I6.free;rw[cL]at z;exact z
   obtain⟨m,hn,_⟩:=I6.loc
   have hn:s6.heap.Ns ce.locals m:=hn;rw[cL]at hn;exact hRR D s3.heap.objs.size s6 m H5 I7 qq hn (I3.fpOk (aMG _) nC)
  ·have ti:=T.item (X.blk s3 H3 scope ce fp) rfl rfl rfl hc i [] s5 _ H5 (λ_ _=>False) I5 (Zs I5 n5) vn go;refine gb ti λr s6 ⟨u,hr,h6⟩=>?_;subst hr;refine gb h6 λ_ s7 ⟨x,H7,I7,r7,y7,st7,n7⟩=>?_;have I7':=I7.pinned (Zs I7 n7) (T.obj _ _ st7);refine gb (pg _ s7 _ H7 x u _ I7' r7 (step x H7 y7)) λ_ s8 ⟨σ8,H8,I8,hw8,q8⟩=>?_;refine gb (pt _ s8 σ8 H8 _ I8 q8) λb s9 ⟨H9,I9,q9⟩=>?_;have fin:∀{s':Shared} {H':Hp},Inv (X.blk s3 H3 scope ce fp) ([]++LD fp s7.heap) σ8 H' s'->Nx H'->∃m,m<n/\∃i H',Inv (X.blk s3 H3 scope ce fp) [] (wipe σ (own.map (·.2))) H' s'/\tn i s'.heap/\(∀b∈fp,H' b=none)/\W i m H':=fun{s' H'} I' nx=>by
    obtain⟨m',hm,w'⟩:=hNx H' nx
    have pin':∀b∈fp,∀o,s7.heap.get? b=some o->s'.heap.get? b=some o/\H' b=none:=λb hb o e=>
     let z:=I'.pin (b,o) (aMz _ (aMz _ (F5 hb e)))
     ⟨z.1,z.2.1⟩
    have hl:(wipe σ (own.map (·.2))).length=σ8.length:=by rw[<-hw8,Ca]
    refine⟨m',hm,i+1,H',(I'.unpinned (pins:=[])).weak hl (λj v e=>?_),T.keep _ _ _ st7 λb hb o e=>(pin' b hb o e).1,λb hb=>?_,w'⟩
    ·rw[<-hw8]at e
     exact(IV e).1
    ·obtain⟨o,e,_⟩:=T.obj _ _ st7 b hb
     exact(pin' b hb o e).2
   cases b with
   | false=>
    simp only[aPJ,if_false]at q9 ⊢
    exact fin I9 q9
   | true=>
    simp only[if_true]at q9 ⊢
    refine gb (pe _ s9 σ8 H9 _ I9 q9) λz s10 ⟨yv,H10,I10,r10,acc,aIX,aIP,nx⟩=>?_;exact aBn (X:=X.blk s3 H3 scope ce fp) I10 aIX aIP r10 λs11 I11=>fin I11 nx
 exact codeAny_compStart_list aF5 (T.self X.A 0 _ _ _ st4 aF5)
def GZ{T4 tg iter:Expr}{T8:List Expr}{scope:aPq}{own:List (Str×Nat)}{pos:Pos}{wi:TI}{g:TG}{tt:TT}{te:TE}(hc:X.calm=true)(hN:X.N.Nodup)(hi:PI X tg iter wi)(ok:oG X.N X.env.scope scope own)
  (hg:∀(s:Shared) (H:Hp) (C:Addr) (cl:List (Str×Addr)) (fp:List Addr),PG (X.blk s H scope (compEnvC scope cl C X.env) fp) tg g) (ht:∀(s:Shared) (H:Hp) (C:Addr) (cl:List (Str×Addr)) (fp:List Addr),PTs (X.blk s H scope (compEnvC scope cl C X.env) fp) T8 tt)
  (he:∀(s:Shared) (H:Hp) (C:Addr) (cl:List (Str×Addr)) (fp:List Addr),PE (X.blk s H scope (compEnvC scope cl C X.env) fp) T4 te) (hs:∀x,foldedSetIterable iter X.env x=pure x:=by intro _;rfl):
  PE X (.ListComp T4 [⟨tg,iter,T8,0⟩] scope pos) (tLc wi g tt te (own.map (·.2))):=by
 intro pins s σ H Q I h;rw[eval_ListComp];refine di hc hN I hi ok hg ht he hs h λD C s' m H' I' q hn f=>⟨m,hn,λh'' sb=>?_⟩;obtain⟨f0,f1,f2,f3,f4,f5⟩:=f;exact⟨.ref D,H',I'.turned (t':=s'.toks) (λb o hb e=>(sb.2 b hb).trans e) f0 f1 f3 f4 f5,rfl,q⟩
def CM{i:Nat}{y:Str}{py:Pos}{T4 tg iter:Expr}{T8:List Expr}{scope:aPq}{own:List (Str×Nat)}{pos aFf:Pos}{wi:TI}{g:TG}{tt:TT}{te:TE}(hc:X.calm=true)(hN:X.N.Nodup)(hy:X.N[i]?=some y)(hyl:X.env.scope.names.lookup y=some .local)
  (hsw:swapsWith (.ListComp T4 [⟨tg,iter,T8,0⟩] scope pos) (some (.Name y py)) aFf.line X.env=pure true) (hi:PI X tg iter wi) (ok:oG X.N X.env.scope scope own)
  (hg:∀(s:Shared) (H:Hp) (C:Addr) (cl:List (Str×Addr)) (fp:List Addr),PG (X.blk s H scope (compEnvC scope cl C X.env) fp) tg g) (ht:∀(s:Shared) (H:Hp) (C:Addr) (cl:List (Str×Addr)) (fp:List Addr),PTs (X.blk s H scope (compEnvC scope cl C X.env) fp) T8 tt)
  (he:∀(s:Shared) (H:Hp) (C:Addr) (cl:List (Str×Addr)) (fp:List Addr),PE (X.blk s H scope (compEnvC scope cl C X.env) fp) T4 te) (hs:∀x,foldedSetIterable iter X.env x=pure x:=by intro _;rfl):
  PS X (.Assign [.Name y py] (.ListComp T4 [⟨tg,iter,T8,0⟩] scope pos) aFf) (yd (tLc wi g tt te (own.map (·.2))) (Nr i)):=by
 intro pins s σ H D I h;rw[exec_Assign_Name_used _ _ _ _ hsw];refine wpAny_bind (wpAny_standAt (wpAny_bind ?_));show wpAny _ X.A (do let _ <-comprehension (.ListComp T4 [⟨tg,iter,T8,0⟩] scope pos) scope X.env (firstIterPos [⟨tg,iter,T8,0⟩] pos) (newList []) false (eval iter X.env) (some (assign (.Name y py) X.env))) _ _ s
 have h:tLc wi g tt te (own.map (·.2)) σ H (λx H1=>Nr i x σ H1 D.nx):=h;refine wpAny_bind (gD (di (Qf:=λ_ s'=>SP X pins D .next s') hc hN I hi ok hg ht he hs h λL C s' m H' I' q hn f=>?_) λ_ s' hq=>wpAny_pure (wpAny_pure hq));show wpAny _ _ (assign (.Name y py) X.env (.ref L)) _ _ _;refine wpAny_assign_Name (OF (v:=V.ref L) I' hN hy (.inl hyl) rfl (λs2 I2 ⟨a,sb,ha⟩=>?_) (.inr hyl));obtain⟨f0,f1,f2,f3,f4,f5⟩:=f;have haC:C≠a:=by
  rcases ha with z|z
  ·rw[z];exact f1
  ·exact λe=>f4 y a z e.symm
 refine⟨m,hn.sameBut sb haC,λh3 sb3=>?_⟩
 exact⟨_,H',I2.turned (t':=s2.toks) (λb o hb e=>(sb3.2 b hb).trans e) f0 f1 f3 f4 f5,q⟩
def Gh{T4:Expr}{gs:List Comprehension}{scope:aPq}{pos py:Pos}{y:Str}{l:Nat}{env:Env}(hk:env.scope.kind=.function)(hy:env.scope.names.lookup y=some .local)(hl:(py.line==pos.line)=true)
  (ha:(scope.names.any fun(n,k)=>n==y&&(k==.local||k==.cell))=false):swapsWith (.ListComp T4 gs scope pos) (some (.Name y py)) l env=pure true:=by
 have ky:env.kindOf y=some .local:=hy;have hb:env.blockKind=.function:=by unfold Env.blockKind;rw[hk];rfl
 unfold swapsWith;simp only[hb,ky,ha,Expr.pos,hl];rfl
end
def mQ{K:aMC}{a:Addr}{xs:List V}{g:TG}{tt:TT}{te:TE}{vs:List Nat}{σ:St}{H1:Hp}{D:Addr}{Qd:Hp->Prop}(Pv:Nat->Hp->Prop)(h0:Pv 0 (upd H1 D (.lst [])))(hl:∀i H,i<=xs.length->Pv i H->aZ K H a xs)
  (hs:∀i x H,xs[i]?=some x->Pv i H->g x (wipe σ vs) H fun σ2 H2=>wipe σ2 vs=wipe σ vs/\tt σ2 H2 λb H3=>
   if b=true then te σ2 H3 λy H4=>∃acc,H4 D=some (.lst acc)/\acc.length<sizeLine/\Pv (i+1) (upd H4 D (.lst (acc++[y])))else Pv (i+1) H3) (hd:∀H,Pv xs.length H->Qd H):
  ∃W:Nat->Nat->Hp->Prop,(∃m,W 0 m (upd H1 D (.lst [])))/\∀i m H,W i m H->
   ((Itl K a).stop i H/\Qd H)\/((Itl K a).go i H/\∃Nx:Hp->Prop,(∀H',Nx H'->∃m',m'<m/\W (i+1) m' H')/\∀x H',(Itl K a).kx i H x H'->g x (wipe σ vs) H' fun σ2 H2=>wipe σ2 vs=wipe σ vs/\tt σ2 H2 λb H3=>
    if b=true then te σ2 H3 λy H4=>∃acc,H4 D=some (.lst acc)/\acc.length<sizeLine/\Nx (upd H4 D (.lst (acc++[y])))else Nx H3):=by
 refine⟨λi m H=>m=xs.length-i/\i<=xs.length/\Pv i H,⟨xs.length,by simp,aM1 _,h0⟩,?_⟩
 rintro i m H ⟨rfl,hi,p⟩;have q:=hl i H hi p;by_cases jZ:i<xs.length
 ·refine .inr ⟨⟨xs,xs[i],q,by simp[jZ]⟩,Pv (i+1),λH' p'=>⟨xs.length-(i+1),by omega,rfl,jZ,p'⟩,λx H' y=>?_⟩
  obtain⟨e,y⟩:=y
  subst e;exact hs i x _ (y xs q) p
 ·have e:i=xs.length:=by omega
  subst e;exact .inl ⟨⟨xs,q,aMG _⟩,hd H p⟩
end L2
namespace L2
open PySem PySem.Spec PyProof.Rows
section
variable{prog:aPa}{w:aPc}{A:Around}{R:Result->Shared->Prop}{s:Shared}{T4 t0 i0 t1 i1:Expr}{ifs0 ifs1:List Expr}{scope:aPq}{pos:Pos}{it acc:Value}{env:Env}
end
section
variable{X:Cx}
end
end L2
namespace L2
open PySem PySem.Spec PyProof.Rows
section
variable{κ:Type}[DecidableEq κ]
def kS(bU:List (κ×V))(k:κ):Option V:=(bU.find? λkv=>decide (kv.1=k)).map (·.2)
def putK(bU:List (κ×V))(k:κ)(v:V):List (κ×V):=
 if(bU.any λkv=>decide (kv.1=k))=true then bU.map (λkv=>if kv.1=k then(kv.1,v)else kv)else bU++[(k,v)]
def jT{p:κ×V}{r:List (κ×V)}{k:κ}(e:p.1=k):kS (p::r) k=some p.2:=by simp[kS,aOG,e]
def jU{p:κ×V}{r:List (κ×V)}{k:κ}(e:¬p.1=k):kS (p::r) k=kS r k:=by simp[kS,aOG,e]
theorem uM(k:κ):∀bU:List (κ×V),(bU.any λkv=>decide (kv.1=k))=(kS bU k).isSome
 |[]=>rfl
 | p::r=>by
  rw[aNm]
  by_cases e:p.1=k
  ·simp only[jT e,decide_eq_true e,Bool.true_or,Option.isSome_some]
  ·rw[jU e,decide_eq_false e,Bool.false_or];exact uM k r
theorem XN(k j:κ)(y:V):∀bU:List (κ×V),kS (bU.map λkv=>if kv.1=k then(kv.1,y)else kv) j=(kS bU j).map λx=>if j=k then y else x
 |[]=>rfl
 | p::r=>by
  have ih:=XN k j y r;rw[aM2];by_cases h:p.1=k
  ·rw[if_pos h]
   by_cases e:p.1=j
   ·rw[jT (p:=(p.1,y)) e,jT e,aOO,if_pos (e.symm.trans h)]
   ·rw[jU (p:=(p.1,y)) e,jU e,ih]
  ·rw[if_neg h]
   by_cases e:p.1=j
   ·rw[jT (p:=p) e,jT e,aOO,if_neg (λz=>h (e.trans z))]
   ·rw[jU (p:=p) e,jU e,ih]
theorem Od(k j:κ)(y:V):∀bU:List (κ×V),kS bU k=none->kS (bU++[(k,y)]) j=if j=k then some y else kS bU j
 | [],_=>by
  by_cases e:k=j
  ·rw[if_pos e.symm];exact jT (p:=(k,y)) e
  ·rw[if_neg (λz=>e z.symm)];exact jU (p:=(k,y)) e
 | p::r,hn=>by
  rw[aO3]
  have hk:¬p.1=k:=λz=>by rw[jT z]at hn;cases hn
  rw[jU hk]at hn
  have ih:=Od k j y r hn;by_cases e:p.1=j
  ·rw[jT e,jT e,if_neg (λz=>hk (e.trans z))]
  ·rw[jU e,jU e,ih]
def XG(bU:List (κ×V))(k j:κ)(y:V):kS (putK bU k y) j=if j=k then some y else kS bU j:=by
 unfold putK;by_cases a:(bU.any λkv=>decide (kv.1=k))=true
 ·rw[if_pos a,XN]
  rw[uM]at a
  by_cases e:j=k
  ·obtain⟨x,hx⟩:=aRF.mp a
   rw[if_pos e,e,hx,aOO,if_pos rfl]
  ·rw[if_neg e]
   cases kS bU j with
   |none=>rfl
   |some x=>rw[aOO,if_neg e]
 ·rw[if_neg a]
  refine Od k j y bU ?_;rw[uM]at a;cases q:kS bU k with
  |none=>rfl
  |some x=>rw[q]at a;exact(a rfl).elim
def Jx(bU:List (κ×V))(k:κ)(v:V):(putK bU k v).length<=bU.length+1:=by
 unfold putK;split
 ·rw[aLx];omega
 ·rw[aMH,aMT,aPT];omega
def rd{bU:List (κ×V)}{k:κ}(v:V)(h:kS bU k=none):putK bU k v=bU++[(k,v)]:=by
 unfold putK;rw[uM,h];exact if_neg (by decide)
def II.isSome_eq{o:Option V}{u:Option Value}(r:II o u):o.isSome=u.isSome:=by
 cases o with
 | none=>cases u with
  |none=>rfl
  |some _=>exact(show False from r).elim
 | some _=>cases u with
  |none=>exact(show False from r).elim
  |some _=>rfl
def KV.val{bU:List (κ×V)}{vs:List (κ×Value)}(r:KV bU vs)(k:κ):II (kS bU k) (valueAt vs k):=by
 unfold KV at r
 induction r with
 |nil=>exact aPu
 | @cons p q ps qs h t ih=>
  obtain⟨h1,h2⟩:=h
  by_cases e:p.1=k
  ·have e':q.1=k:=h1.symm.trans e;have b:valueAt (q::qs) k=some q.2:=by simp[valueAt,aOG,e']
   rw[jT e,b];exact h2
  ·have e':¬q.1=k:=λz=>e (h1.trans z);have b:valueAt (q::qs) k=valueAt qs k:=by simp[valueAt,aOG,e']
   rw[jU e,b];exact ih
theorem KV.any{bU:List (κ×V)}{vs:List (κ×Value)}(r:KV bU vs)(k:κ):(bU.any λkv=>decide (kv.1=k))=vs.any λkv=>decide (kv.1=k):=by
 unfold KV at r
 induction r with
 |nil=>rfl
 |cons h t ih=>rw[aNm,aNm,ih,h.1]
def KV.repl{bU:List (κ×V)}{vs:List (κ×Value)}(r:KV bU vs)(k:κ){y:V}{u:Value}(ry:dG y u):
  KV (bU.map λkv=>if kv.1=k then(kv.1,y)else kv) (vs.map λkv=>if kv.1=k then(kv.1,u)else kv):=by
 unfold KV at r ⊢
 induction r with
 |nil=>exact .nil
 | @cons p q ps qs h t ih=>
  rw[aM2,aM2]
  refine .cons ?_ ih;obtain⟨h1,h2⟩:=h;by_cases e:p.1=k
  ·rw[if_pos e,if_pos (h1.symm.trans e)];exact⟨h1,ry⟩
  ·rw[if_neg e,if_neg (λz=>e (h1.trans z))];exact⟨h1,h2⟩
def KV.put{bU:List (κ×V)}{vs:List (κ×Value)}(r:KV bU vs)(k:κ){y:V}{u:Value}(ry:dG y u):KV (putK bU k y) (stored vs k u):=by
 unfold putK stored;rw[r.any k];by_cases e:(vs.any λkv=>decide (kv.1=k))=true
 ·rw[if_pos e,if_pos e];exact r.repl k ry
 ·rw[if_neg e,if_neg e];exact Paired.snoc r ⟨rfl,ry⟩
theorem KV.length{bU:List (κ×V)}{vs:List (κ×Value)}(r:KV bU vs):bU.length=vs.length:=aPo r
end
def ao{P:aPa}{w:aPc}{k:Key}{u:Value}(r:dG (kV k) u):(f7 P w).is k u=true:=by
 cases k with
 |inl i=>obtain⟨t,e⟩:=(show ∃t,u=Value.int i t from r);subst e;exact YG P w i t
 |inr x=>obtain⟨t,e⟩:=(show ∃t,u=Value.str x t from r);subst e;exact YA P w x t
theorem O5{P:aPa}{w:aPc}:∀{ks:List Key} {us:List Value},cJ (ks.map kV) us->ItemsAre (f7 P w) ks us
 |[],_,r=>by rw[aOE]at r;cases r;exact .nil
 | k::ks,_,r=>by
  rw[aM2]at r
  cases r with
  |cons h t=>exact .cons (ao h) (O5 t)
abbrev KT(H:Hp):List (List Key×V)->List (List Key×Addr×Value)->Prop:=Paired λp q=>p.1=q.1/\H q.2.1=some (.tup (p.1.map kV))/\dG p.2 q.2.2
def KT.val{H:Hp}{bU:List (List Key×V)}{xs:List (List Key×Addr×Value)}(r:KT H bU xs)(k:List Key):II (kS bU k) ((atKey xs k).map (·.2)):=by
 induction r with
 |nil=>exact aPu
 | @cons p q ps qs h t ih=>
  obtain⟨h1,_,h2⟩:=h
  by_cases e:p.1=k
  ·have e':q.1=k:=h1.symm.trans e;have b:atKey (q::qs) k=some q.2:=by simp[atKey,aOG,e']
   rw[jT e,b];exact h2
  ·have e':¬q.1=k:=λz=>e (h1.trans z);have b:atKey (q::qs) k=atKey qs k:=by simp[atKey,aOG,e']
   rw[jU e,b];exact ih
def KT.repl{H:Hp}{bU:List (List Key×V)}{xs:List (List Key×Addr×Value)}(r:KT H bU xs)(k:List Key){y:V}{u:Value}(ry:dG y u):
  KT H (bU.map λkv=>if kv.1=k then(kv.1,y)else kv) (xs.map (putAt k u)):=by
 induction r with
 |nil=>exact .nil
 | @cons p q ps qs h t ih=>
  rw[aM2,aM2]
  refine .cons ?_ ih;obtain⟨h1,h2,h3⟩:=h;unfold putAt;by_cases e:p.1=k
  ·rw[if_pos e,if_pos (h1.symm.trans e)];exact⟨h1,h2,ry⟩
  ·rw[if_neg e,if_neg (λz=>e (h1.trans z))];exact⟨h1,h2,h3⟩
def KT.put{H:Hp}{bU:List (List Key×V)}{xs:List (List Key×Addr×Value)}(r:KT H bU xs)(k:List Key){b:Addr}{y:V}{u:Value}(hb:H b=some (.tup (k.map kV)))(ry:dG y u):
  KT H (putK bU k y) (storedH xs k b u):=by
 have e:(bU.any λkv=>decide (kv.1=k))=(atKey xs k).isSome:=by
  rw[uM,(r.val k).isSome_eq,Option.isSome_map]
 unfold putK storedH;rw[e];by_cases q:(atKey xs k).isSome=true
 ·rw[if_pos q,if_pos q];exact r.repl k ry
 ·rw[if_neg q,if_neg q];exact Paired.snoc r ⟨rfl,hb,ry⟩
def KT.keeps{H H':Hp}{bU:List (List Key×V)}{xs:List (List Key×Addr×Value)}(r:KT H bU xs)(ht:∀b ys,H b=some (.tup ys)->H' b=some (.tup ys)):KT H' bU xs:=
 Paired.mapP r λ_ _ z=>⟨z.1,ht _ _ z.2.1,z.2.2⟩
section
variable{P:aPa}{w:aPc}{H:Hp}{h:Heap}{a:Addr}
def aAv{u:HO}(ok:CD P w H h)(e:Rd H a u):eY P w H h a u:=e.ok ok
def aq{bU:List (Key×V)}(ok:CD P w H h)(e:Rd H a (.dK bU)):bU.length<=sizeLine/\(a==sysModules)=false/\∃vs,KV bU vs/\h.DictOf (f7 P w) a vs:=
 show eY P w H h a (.dK bU)from aAv ok e
def aEU{bU:List (Key×V)}(ok:CD P w H h)(e:H a=some (.dK bU)):bU.length<=sizeLine/\(a==sysModules)=false/\∃vs,KV bU vs/\h.DictOf (f7 P w) a vs:=aq ok (.inl e)
def Ow{ks:List Key}(ok:CD P w H h)(e:H a=some (.tup (ks.map kV))):(tupleKind (f7 P w)).is h ks a:=by
 obtain⟨_,bN,r,o,h1,h2,n,h3⟩:=(show eY P w H h a (.tup (ks.map kV))from ok a _ e)
 exact⟨o,bN.toArray,n,h1,h2,h3,by simpa using O5 r⟩
def ak{bU:List (List Key×V)}(ok:CD P w H h)(e:Rd H a (.dT bU)):bU.length<=sizeLine/\(a==sysModules)=false/\
  ∃xs,KT H bU xs/\h.DictOfH (tupleKind (f7 P w)) a xs:=by
 obtain⟨z,y,xs,r,o,es,ep,h1,h2,h3,h4,h5⟩:=(show eY P w H h a (.dT bU)from aAv ok e)
 refine⟨z,y,xs,r,o,es,ep,h1,h2,h3,h4,λx hx=>?_,h5⟩
 have all:∀{l:List (List Key×V)} {m:List (List Key×Addr×Value)},KT H l m->∀x∈m,(tupleKind (f7 P w)).is h x.1 x.2.1:=by
  intro l m q
  induction q with
  |nil=>intro x hx;exact nomatch hx
  | @cons p q ps qs hq t ih=>
   intro x hx;rcases aMR.mp hx with e|hx
   ·subst e;exact Ow ok (by rw[<-hq.1];exact hq.2.1)
   ·exact ih x hx
 exact all r x hx
def aEX{bU:List (List Key×V)}(ok:CD P w H h)(e:H a=some (.dT bU)):bU.length<=sizeLine/\(a==sysModules)=false/\
  ∃xs,KT H bU xs/\h.DictOfH (tupleKind (f7 P w)) a xs:=ak ok (.inl e)
end
def KS(H:Hp)(a:Addr)(y:V)(r:Option V):Prop:=
 (∃bU k,Rd H a (.dK bU)/\y=kV k/\r=kS bU k)\/∃bU k b,Rd H a (.dT bU)/\y=.ref b/\H b=some (.tup (k.map kV))/\r=kS bU k
def Ms(H:Hp)(a:Addr)(y v:V)(H':Hp):Prop:=
 (∃bU k,H a=some (.dK bU)/\y=kV k/\bU.length<sizeLine/\H'=upd H a (.dK (putK bU k v)))\/
 ∃bU k b,H a=some (.dT bU)/\y=.ref b/\H b=some (.tup (k.map kV))/\bU.length<sizeLine/\H'=upd H a (.dT (putK bU k v))
def KS.t{H:Hp}{a b:Addr}{bU:List (List Key×V)}{k:List Key}(e:H a=some (.dT bU))(eb:H b=some (.tup (k.map kV))):KS H a (.ref b) (kS bU k):=.inr ⟨bU,k,b,.inl e,rfl,eb,rfl⟩
def Ms.t{H:Hp}{a b:Addr}{bU:List (List Key×V)}{k:List Key}{v:V}(e:H a=some (.dT bU))(eb:H b=some (.tup (k.map kV)))(hl:bU.length<sizeLine):
  Ms H a (.ref b) v (upd H a (.dT (putK bU k v))):=.inr ⟨bU,k,b,e,rfl,eb,hl,rfl⟩
section
variable{X:Cx}{pins:List (Addr×Obj)}{σ:St}{H:Hp}{s:Shared}{a:Addr}{y v:V}{u r:Value}{o:Option V}{A:Around}{E:Value->Shared->Prop}
def Inv.big(I:Inv X pins σ H s):sysModules<s.heap.objs.size:=by
 have h:mainGlobals<s.heap.objs.size:=(I.mod.glob.keeps I.bk).lt;exact Nat.lt_trans (by decide) h
def ja{Q:Value->Shared->Prop}(hu:A.units+1<cLine)(I:Inv X pins σ H s)(g:KS H a y (some v))(ry:dG y u)(h:∀w' s',Inv X pins σ H s'->dG v w'->Q w' s'):
  wpAny (model X.prog X.w) A (getItem (.ref a) u) Q E s:=by
 rcases g with⟨bU,k,e,ey,l⟩|⟨bU,k,b,e,ey,eb,l⟩
 ·subst ey;obtain⟨z,hd,vs,ab,dd⟩:=aq I.eI e;obtain⟨w',hw,rw'⟩:=II.some_of (v:=v) (o:=valueAt vs k) (by rw[l];exact ab.val k)
  exact wpAny_getItem_of (ao ry) dd.mapOf hw (h w' _ (I.tok _) rw')
 ·subst ey;cases(show u=aPb b from ry);obtain⟨z,hd,xs,ab,dd⟩:=ak I.eI e;obtain⟨w',hw,rw'⟩:=II.some_of (v:=v) (o:=(atKey xs k).map (·.2)) (by rw[l];exact ab.val k)
  obtain⟨p,hp,Kg⟩:=aOp.mp hw
  refine wpAny_getItem_heap (aQn hu) (Ow I.eI eb) dd hp ?_;rw[Kg];exact h w' _ (I.tok _) rw'
def zk{Q:Value->Shared->Prop}(hu:A.units+1<cLine)(I:Inv X pins σ H s)(g:KS H a y o)(ry:dG y u)(h:∀s',Inv X pins σ H s'->Q (.bool (!o.isSome)) s'):
  wpAny (model X.prog X.w) A (compareOp .NotIn u (.ref a)) Q E s:=by
 rcases g with⟨bU,k,e,ey,l⟩|⟨bU,k,b,e,ey,eb,l⟩
 ·subst ey;obtain⟨z,hd,vs,ab,dd⟩:=aq I.eI e;refine wpAny_notIn_of (ao ry) hd dd.mapOf ?_;rw[<-(ab.val k).isSome_eq,<-l];exact h _ (I.tok _)
 ·subst ey;cases(show u=aPb b from ry);obtain⟨z,hd,xs,ab,dd⟩:=ak I.eI e;refine wpAny_notIn_heap (aQn hu) (Ow I.eI eb) hd dd ?_;have q:=(ab.val k).isSome_eq;rw[Option.isSome_map]at q;rw[<-q,<-l];exact h _ (I.tok _)
def bx{h':Heap}{t':Nat}{ob:HO}(I:Inv X pins σ H s)(mu:Mut (H a))(hs:aQ3 a s.heap h')(he:∃q,h'.get? a=some q)(new:eY X.prog X.w (upd H a ob) h' a ob):
  Inv X pins σ (upd H a ob) { s with heap:=h',toks:=t' }:=
 I.write (x:=a) (e:=a) mu (.inl rfl) (λb q hb z=>(hs.2 b hb).trans z) he new
def aCE{P:aPa}{w:aPc}{H':Hp}{h':Heap}{bU:List (Key×V)}{vs:List (Key×Value)}(z:bU.length<=sizeLine)(hd:(a==sysModules)=false)(ab:KV bU vs)(dd:h'.DictOf (f7 P w) a vs):
  eY P w H' h' a (.dK bU):=⟨z,hd,vs,ab,dd⟩
def jo{H':Hp}{Q:Unit->Shared->Prop}(hu:A.units+1<cLine)(I:Inv X pins σ H s)(g:Ms H a y v H')(ry:dG y u)(rv:dG v r)(h:∀s',Inv X pins σ H' s'->Q () s'):
  wpAny (model X.prog X.w) A (setItem (.ref a) u r) Q E s:=by
 rcases g with⟨bU,k,e,ey,l,eH⟩|⟨bU,k,b,e,ey,eb,l,eH⟩
 ·subst ey eH;obtain⟨z,hd,vs,ab,dd⟩:=aEU I.eI e;have hz:vs.length<=sizeLine:=by rw[<-ab.length];exact z
  have hl:(putK bU k v).length<=sizeLine:=by have:=Jx bU k v;omega
  refine wpAny_setItem_pairs (hsz:=hz) (ao ry) dd λh' dd' hs=>h _ ?_;have he:∃q,h'.get? a=some q:=let⟨q,_,_,hq,_⟩:=dd';⟨q,hq⟩;exact bx I (by rw[e];exact aPu) hs he (aCE hl hd (ab.put k rv) dd')
 ·subst ey eH;cases(show u=aPb b from ry);obtain⟨z,hd,xs,ab,dd⟩:=aEX I.eI e;have hz:xs.length<=sizeLine:=by rw[<-aPo ab];exact z
  have hl:(putK bU k v).length<=sizeLine:=by have:=Jx bU k v;omega
  refine wpAny_setItem_heap (hsz:=hz) (aQn hu) (Ow I.eI eb) dd λh' dd' hs=>h _ ?_;obtain⟨q,es,ep,hq,h2,h3,h4,_,h5⟩:=dd';refine bx I (by rw[e];exact aPu) hs ⟨q,hq⟩ ⟨hl,hd,_,(ab.put k eb rv).keeps λc ys ec=>?_,q,es,ep,hq,h2,h3,h4,h5⟩
  rw[aT (c7 ec e (λz=>nomatch z))]
  exact ec
end
section
variable{X:Cx}{pins:List (Addr×Obj)}{σ:St}{H:Hp}{s:Shared}{a:Addr}{bU:List (Key×V)}{k:Key}{u:Value}{A:Around}{E:Value->Shared->Prop}
end
def aDv(i:Expr):Prop:=∀ov iv,subscripted i false ov iv=operate [ov,iv] (getItem ov iv)
def yl{prog:aPa}{w:aPc}{A:Around}{E:Value->Shared->Prop}{s:Shared}{env:Env}{oB AH:Expr}{pos:Pos}{T id:String}{Q:Value->Shared->Prop}
  (hl:typeLookup (.type T) "__getitem__"=pure (some (.builtin id))) (hs:aDv AH)
  (h:wpAny (model prog w) A (eval oB env) (λo s₁=>wpAny (model prog w) A (eval AH env) (λi s₂=>s₂.TypeIs o T/\wpAny (model prog w) A (getItem o i) Q E s₂) E s₁) E s):
  wpAny (model prog w) A (eval (.Subscript oB AH pos) env) Q E s:=by
 refine Subscript_ (wpAny_mono h (λo s₁ h₁=>wpAny_mono h₁ (λi s₂ h₂=>?_) λ_ _ x=>x) λ_ _ x=>x);obtain⟨hT,h₂⟩:=h₂;unfold subscriptTail;refine wpAny_bind ?_;rw[getitemInPython_of_ne hT.not_modules];refine wpAny_bind (wpAny_specialOf hT hl ?_);have fin:wpAny (model prog w) A (subscripted AH false o i) (λr s₃=>wpAny (model prog w) A (letTemporaryGo oB o r >>=λ_=>pure r) Q E s₃) E s₂:=by
  rw[hs o i]
  exact wpAny_operating (wpAny_mono h₂ (λr s₃ h₃=>wpAny_bind (wpAny_letTemporaryGo (wpAny_pure h₃))) λ_ _ x=>x)
 first
  |exact wpAny_pure (wpAny_bind fin)
  |exact wpAny_bind (wpAny_pure (wpAny_bind fin))
  |exact wpAny_bind fin
def Xt{X:Cx}{pins:List (Addr×Obj)}{σ:St}{H:Hp}{s:Shared}{a:Addr}{y:V}{o:Option V}(I:Inv X pins σ H s)(g:KS H a y o):s.TypeIs (.ref a) "dict":=by
 rcases g with⟨bU,k,e,_,_⟩|⟨bU,k,b,e,_,_,_⟩
 ·obtain⟨_,_,vs,_,dd⟩:=aq I.eI e
  exact dd.typeIs
 ·obtain⟨_,_,xs,_,dd⟩:=ak I.eI e
  exact dd.typeIs
inductive oa(Q:VK)(x:V)(y:V)(H2:Hp):Prop
 |mk:∀a v,x=.ref a->KS H2 a y (some v)->Q v H2->oa Q x y H2
def aE3(td ty:TE):TE:=fun σ H Q=>td σ H λx H1=>ty σ H1 λy H2=>oa Q x y H2
inductive Wo(Q:VK)(y:V)(x:V)(H2:Hp):Prop
 |mk:∀a o,x=.ref a->KS H2 a y o->Q (.bl (!o.isSome)) H2->Wo Q y x H2
def yu(ty td:TE):TE:=fun σ H Q=>ty σ H λy H1=>td σ H1 λx H2=>Wo Q y x H2
inductive nk(D:IH)(σ:St)(v:V)(x:V)(y:V)(H3:Hp):Prop
 |mk:∀a H4,x=.ref a->Ms H3 a y v H4->D.nx σ H4->nk D σ v x y H3
def aET(td ty tv:TE):TS:=λD σ H=>tv σ H λv H1=>td σ H1 λx H2=>ty σ H2 λy H3=>nk D σ v x y H3
section
variable{X:Cx}{o i e oB:Expr}{pos pos' vk:Pos}{td ty tv:TE}
def Gg(hu:X.A.units+1<cLine)(ho:PE X o td)(hi:PE X i ty)(hs:aDv i):PE X (.Subscript o i pos) (aE3 td ty):=by
 intro pins s σ H Q I h;refine yl PySem.F.slot_dict_getitem.lookup hs (gD (ho pins s σ H _ I h) λu s1 ⟨x,H1,I1,rx,q1⟩=>gD (hi pins s1 σ H1 _ I1 q1) λiv s2 ⟨y,H2,I2,ry,a,v,ex,g,q2⟩=>?_);subst ex;obtain rfl:u=aPb a:=rx;exact⟨Xt I2 g,ja hu I2 g ry λw' s3 I3 rw'=>⟨v,H2,I3,rw',q2⟩⟩
def jr(hu:X.A.units+1<cLine)(hi:PE X i ty)(ho:PE X o td):PC X .NotIn i o (yu ty td):=by
 intro pins s σ H Q I h;refine gD (hi pins s σ H _ I h) λiv s1 ⟨y,H1,I1,ry,q1⟩=>gD (ho pins s1 σ H1 _ I1 q1) λu s2 ⟨x,H2,I2,rx,a,ov,ex,g,q2⟩=>?_;subst ex;obtain rfl:u=aPb a:=rx;exact zk hu I2 g ry λs3 I3=>⟨.bl (!ov.isSome),H2,I3,rfl,q2⟩
def Gd(hu:X.A.units+1<cLine)(ho:PE X o td)(hi:PE X i ty)(hv:PE X oB tv)(hs:swapsWith oB (some (.Subscript o i pos')) pos.line X.env=pure false):
  PS X (.Assign [.Subscript o i pos'] oB pos) (aET td ty tv):=by
 intro pins s σ H D I h;refine wpAny_Assign_Subscript (gD (hv pins s σ H _ I h) λr s1 ⟨v,H1,I1,rv,q1⟩=>gD (ho pins s1 σ H1 _ I1 q1) λu s2 ⟨x,H2,I2,rx,q2⟩=>gD (hi pins s2 σ H2 _ I2 q2) λiv s3 ⟨y,H3,I3,ry,a,H4,ex,g,q3⟩=>?_) hs;subst ex;obtain rfl:u=aPb a:=rx;exact jo hu I3 g ry rv λs4 I4=>⟨σ,H4,I4,q3⟩
end
def qz{P:aPa}{w:aPc}{H:Hp}(h:Heap)(hb:sysModules<h.objs.size):eY P w H (h.push { cls:=.type "dict",data:=.dict #[] }) h.objs.size (.dT []):=
 ⟨aM1 _,beq_eq_false_iff_ne.mpr (aQW (aNK hb)),[],.nil,_,#[],0,aP9 _ rfl,⟨rfl,rfl,rfl⟩,rfl,rfl,aO9⟩
def aCB:TE:=λ_ H Q=>∀p,H p=none->Q (.ref p) (upd H p (.dT []))
section
variable{X:Cx}{pos:Pos}
def LU:PE X (.Dict [] [] pos) aCB:=λpins s σ H Q I h=>
 wpAny_Dict_empty ⟨.ref s.heap.objs.size,_,I.laid (a:=s.heap.objs.size) (o:=.dT []) (t':=s.toks) (λ_ _ q=>aP7 _ q) (aMG _) (qz s.heap I.big),rfl,h _ (I.eI.fresh (aMG _))⟩
end
section
variable{X:Cx}{pins:List (Addr×Obj)}{σ:St}{H:Hp}{s:Shared}{a:Addr}{y d:V}{u r:Value}{o:Option V}{A:Around}{E:Value->Shared->Prop}
end
section
variable{X:Cx}{o e f:Expr}{kg T9:Pos}{td ty tx:TE}
end
section
variable{X:Cx}{pins:List (Addr×Obj)}{σ:St}{H:Hp}{s:Shared}{a:Addr}{bU:List (Key×V)}{A:Around}{E:Value->Shared->Prop}
end
section
variable{X:Cx}{pins:List (Addr×Obj)}{σ:St}{H:Hp}{s:Shared}{a:Addr}{y:V}{u:Value}{A:Around}{E:Value->Shared->Prop}
end
end L2
namespace L2
open PySem PySem.Spec PyProof.Rows
section
variable{prog:aPa}{w:aPc}{A:Around}{E:Value->Shared->Prop}
end
section
variable{X:Cx}
end
end L2
namespace L2
open PySem PySem.Spec PyProof.Rows
section
variable{X:Cx}{pins:List (Addr×Obj)}{σ:St}{H:Hp}{s:Shared}{h':Heap}
def Inv.turnedNew{t':Nat}{ch:List Addr}{T:Addr}{ob:HO}(I:Inv X pins σ H s)(k:∀b o,b∉ch->s.heap.get? b=some o->h'.get? b=some o)(hf:∀b∈ch,Ku X pins H b)(hT:s.heap.objs.size<=T)
  (new:eY X.prog X.w (upd H T ob) h' T ob):Inv X pins σ (upd H T ob) { s with heap:=h',toks:=t' }:=by
 have hn:H T=none:=I.eI.fresh hT;have nit:∀b u,H b=some u->b∉ch:=λb u e z=>by
  have q:=(hf b z).1;rw[q]at e;cases e
 refine I.step (g':=s.gens) (d':=s.drawn) (ch:=ch) (λb hb=>⟨(hf b hb).2.2.2.1,(hf b hb).2.1,(hf b hb).2.2.2.2.1,(hf b hb).2.2.2.2.2⟩) (λb o _ _ hc e _=>k b o hc e) (λb o _ _ hc e _=>⟨o.slots,k b o hc e⟩)
  (λb o _ e n=>?_) (λb o hc e=>⟨o,k b o hc e⟩) (λb xs e=>?_) (λb o u e=>?_) (λb ps e=>⟨#[],?_⟩) (λm hm=>?_) (λb u e=>?_) I.bare
 ·rw[aT (aNK (aNN (aP8 e) hT))];exact n
 ·rw[aT (aJ e hn)];exact e
 ·rw[aT (aJ e hn)];exact e
 ·rw[aT (aJ e hn),e];simp
 ·obtain⟨o,es,ep,ho,r⟩:=hm
  exact⟨o,es,ep,k _ o (λz=>(hf _ z).2.1 rfl) ho,r⟩
 ·by_cases hb:b=T
  ·subst hb;rw[aB]at e;cases e;exact new
  ·rw[aT hb]at e
   refine(I.eI b u e).stay (λc v hc q=>k c v ?_ q) (λc q=>by rw[aT (aJ q hn)];exact q) λc xs q=>by rw[aT (aJ q hn)];exact q
   rcases hc with z|z
   ·rw[z];exact nit b u e
   ·exact nit c _ z
end
section
variable{X:Cx}
def ZC{tg:Expr}{pins:List (Addr×Obj)}{σ:St}{H:Hp}{s:Shared}{R:It->Hp->Prop}{J:It}{tn:Nat->Heap->Prop}{tk:Nat}(I:Inv X pins σ H s)(o:Obj)
  (T:WU X.prog X.w X.K tg J [s.heap.objs.size] s.heap.objs.size tn) (st:tn 0 (s.heap.push o)) (q:R J H):PIE X pins σ tg R (.ref s.heap.objs.size) { s with heap:=s.heap.push o,toks:=tk }:=by
 refine⟨s.heap.objs.size,[s.heap.objs.size],tn,J,H,rfl,I.kept λb ob e=>aP7 _ e,T,st,λb hb=>?_,q⟩
 have e:b=s.heap.objs.size:=by simpa using hb
 subst e;exact I.fpOk (aMG _) (I.eI.fresh (aMG _))
end
def Itc(lo c:Int)(n:Nat):It:=⟨λi _=>i<n,λi H x H'=>H'=H/\x=.int (lo+(i:Nat)*c),λi _=>n<=i⟩
def Xh{P:aPa}{w:aPc}{K:aMC}{tg:Expr}(it:Addr)(lo c:Int)(n:Nat):WU P w K tg (Itc lo c n) [it] it (λi h=>IsRangeIter h it (lo+(i:Nat)*c) ((n:Int)-(i:Nat)) c) where
 mem:=by simp
 obj:=λi h st b hb=>by
  have e:b=it:=by simpa using hb
  subst e;exact⟨_,st,λv z=>nomatch z⟩
 keep:=λi h h' st k=>k it (by simp) _ st
 item:=by
  intro X hP hw hK hc i pins s σ H E I hf st hg;subst hP hw hK;obtain⟨f0,f1,f2,f3,f4,f5⟩:=hf it (by simp)
  have W:=Walks.range (prog:=X.prog) (w:=X.w) (I.ok.hd hc) it lo c n;refine W.item i s _ _ hg st λv h' tk hv st' kk=>?_;obtain⟨t,rfl⟩:=hv;have I1:Inv X pins σ H { s with heap:=h',toks:=tk }:=I.turned (λb o hb e=>kk b o (by simpa using hb) e) f0 f1 f3 f4 f5
  exact⟨_,rfl,WZ (s:={ s with heap:=h',toks:=tk }) (n:="range_iterator") st' rfl rfl (by decide) ⟨.int (lo+(i:Nat)*c),H,I1,⟨t,rfl⟩,⟨rfl,rfl⟩,st',λb hb=>(hf b hb).1⟩⟩
 done:=by
  intro X hP hw hK hc i pins s σ H E I hf st hg;subst hP hw hK;obtain⟨f0,f1,f2,f3,f4,f5⟩:=hf it (by simp)
  exact wpAny_pyNext_range_end (I.ok.hd hc) st (by have:n<=i:=hg;omega) λh' eb=>⟨rfl,I.turned (t':=s.toks) (λb o hb e=>eb b o hb e) f0 f1 f3 f4 f5⟩
 self:=λA i s Q E st h=>wpAny_pyIter_rangeiter st h
def RgC(i j c:Int)(n:Nat):Prop:=c≠0/\c.natAbs<1073741824/\aRo i j c=true/\aPr i j c=n
def RgC.neg{i j:Int}(ha:-(2 ^ 62)<=i)(ha':i<2 ^ 62)(hb:-(2 ^ 62)<=j)(hb':j<2 ^ 62):RgC i j (-1) (i-j).toNat:=
 ⟨by decide,by decide,PySem.W.small_down ha ha' hb hb',PySem.W.rangeSize_downNat i j⟩
inductive oy(R:It->Hp->Prop)(vs:List V)(H1:Hp):Prop
 |mk:∀(i j c:Int) (n:Nat),vs=[.int i,.int j,.int c]->RgC i j c n->R (Itc i c n) H1->oy R vs H1
def aEW(ta:TA):TI:=fun σ H R=>ta σ H λvs H1=>oy R vs H1
section
variable{X:Cx}{tg:Expr}
def OS{a b c:Expr}{ta:TA}{p pos:Pos}(hg:Gl X "range")(hm:X.mg "range"=none)(ha:PA X [a,b,c] ta)
  (hs:starEach [a,b,c] X.env=(false,eval a X.env)::starEach [b,c] X.env:=by rfl) (AJ:(backTo pos (starEach [b,c] X.env)).any (·.1)=false:=by rfl):
  PI X tg (.Call (.Name "range" p) [a,b,c] [] pos) (aEW ta):=by
 intro pins s σ H R I h;refine Call_ (IM I hg hm boot_range (aPn (gD (ha pos pins s σ H _ I h) λus s1 ⟨vs,H1,I1,r1,q1⟩=>?_) hs AJ));obtain⟨i,j,k,n,e,⟨c0,c1,c2,c3⟩,q⟩:=q1;subst e;cases r1 with
 | cons r rr=>
  cases rr with
  | cons r' rr=>
   cases rr with
   | cons r'' rr=>
    cases rr;obtain⟨t,rfl⟩:=r;obtain⟨t',rfl⟩:=r';obtain⟨t'',rfl⟩:=r'';refine call_range_3 c0 ?_ (.inl (PyProof.noPylong_small c1));refine wpAny_pyIter_range (IsRange.new ..) c2 ?_;have I2:Inv X pins σ H1 { s1 with heap:=s1.heap.push { cls:=.type "range",data:=.fields #[.int i t,.int j t',.int k t''] } }:=I1.kept (t':=s1.toks) λb o e=>aP7 _ e;refine ZC (tk:=s1.toks) I2 _ (Xh _ i k n) ?_ q;have e1:i+((0:Nat):Int)*k=i:=by simp
    have e2:(n:Int)-((0:Nat):Int)=aPr i j k:=by rw[c3];simp
    show IsRangeIter _ _ (i+((0:Nat):Int)*k) ((n:Int)-((0:Nat):Int)) k;rw[e1,e2];exact aP9 _ rfl
end
def Zf{lo c:Int}{n:Nat}{g:TG}{tb:TS}{D:IH}{σ:St}{H:Hp}(Pv:Nat->St->Hp->Prop)(h0:Pv 0 σ H)
  (hs:∀i σ H,i<n->Pv i σ H->g (.int (lo+(i:Nat)*c)) σ H fun σ2 H2=>tb { D with nx:=Pv (i+1),ct:=Pv (i+1),bk:=D.nx } σ2 H2) (hd:∀σ H,Pv n σ H->D.nx σ H):
  ∃W:Nat->Nat->St->Hp->Prop,(∃m,W 0 m σ H)/\∀i m σ H,W i m σ H->
   ((Itc lo c n).stop i H/\D.nx σ H)\/((Itc lo c n).go i H/\∃N:St->Hp->Prop,(∀σ' H',N σ' H'->∃m',m'<m/\W (i+1) m' σ' H')/\∀x H',(Itc lo c n).kx i H x H'->g x σ H' fun σ2 H2=>tb { D with nx:=N,ct:=N,bk:=D.nx } σ2 H2):=by
 refine⟨λi m σ H=>m=n-i/\i<=n/\Pv i σ H,⟨n,by simp,aM1 _,h0⟩,?_⟩
 rintro i m σ H ⟨rfl,hi,p⟩;by_cases jZ:i<n
 ·refine .inr ⟨jZ,Pv (i+1),fun σ' H' p'=>⟨n-(i+1),by omega,rfl,jZ,p'⟩,λx H' y=>?_⟩
  obtain⟨e,y⟩:=y
  subst e y;exact hs i σ _ jZ p
 ·have e:i=n:=by omega
  subst e;exact .inl ⟨aMG _,hd σ H p⟩
section
variable{X:Cx}{tg:Expr}
end
def Its(x:Str):It:=⟨λi _=>i<x.cps.size,λi H v H'=>H'=H/\∃c,x.cps[i]?=some c/\v=.str ⟨#[c]⟩,λi _=>x.cps.size<=i⟩
def Wu{P:aPa}{w:aPc}{K:aMC}{tg:Expr}(it:Addr)(x:Str)(t:Tok)(ty:String)(hty:ty="str_ascii_iterator"\/ty="str_iterator"):
  WU P w K tg (Its x) [it] it (λi h=>h.IsStrIter it ty x t i) where
 mem:=by simp
 obj:=λi h st b hb=>by
  have e:b=it:=by simpa using hb
  subst e;obtain⟨o,e,c,d⟩:=st;exact⟨o,e,λv z=>by rw[d]at z;cases z⟩
 keep:=λi h h' st k=>let⟨o,ho,r⟩:=st;⟨o,k it (by simp) o ho,r⟩
 item:=by
  intro X hP hw hK hc i pins s σ H E I hf st hg;subst hP hw hK;obtain⟨f0,f1,f2,f3,f4,f5⟩:=hf it (by simp)
  have W:Walks X.prog X.w X.A it [it] [it] x.cps.size (SignAt x) (λi h=>h.IsStrIter it ty x t i):=by
   rcases hty with e|e
   ·rw[e];exact Walks.strAscii (I.ok.hd hc) it x t
   ·rw[e];exact Walks.strWide (I.ok.hd hc) it x t
  have rJ:["enumerate","zip","dict_itemiterator","dict_reverseitemiterator","odict_iterator","itertools.zip_longest","itertools.pairwise"].contains ty=false:=by
   rcases hty with e|e
   ·rw[e];decide
   ·rw[e];decide
  refine W.item i s _ _ hg st λv h' tk hv st' kk=>?_;obtain⟨c,u,hcx,rfl⟩:=hv;have I1:Inv X pins σ H { s with heap:=h',toks:=tk }:=I.turned (λb o hb e=>kk b o (by simpa using hb) e) f0 f1 f3 f4 f5
  obtain⟨oi,e,cc,dd⟩:=id st'
  exact⟨_,rfl,WZ (s:={ s with heap:=h',toks:=tk }) e cc dd rJ ⟨.str ⟨#[c]⟩,H,I1,⟨u,rfl⟩,⟨rfl,c,hcx,rfl⟩,st',λb hb=>(hf b hb).1⟩⟩
 done:=by
  intro X hP hw hK hc i pins s σ H E I hf st hg;subst hP hw hK;obtain⟨f0,f1,f2,f3,f4,f5⟩:=hf it (by simp)
  have hx:x.cps[i]?=none:=Array.getElem?_eq_none hg;rcases hty with e|e
  ·rw[e]at st
   exact wpAny_pyNext_ascii_end (I.ok.hd hc) st hx λh' eb=>⟨rfl,I.turned (t':=s.toks) (λb o hb e=>eb b o hb e) f0 f1 f3 f4 f5⟩
  ·rw[e]at st
   exact wpAny_pyNext_wide_end (I.ok.hd hc) st hx λh' eb=>⟨rfl,I.turned (t':=s.toks) (λb o hb e=>eb b o hb e) f0 f1 f3 f4 f5⟩
 self:=λA i s Q E st h=>by
  rcases hty with e|e
  ·rw[e]at st;exact wpAny_pyIter_striter_ascii st h
  ·rw[e]at st;exact wpAny_pyIter_striter_wide st h
inductive aAu(R:It->Hp->Prop)(v:V)(H1:Hp):Prop
 |mk:∀x,v=.str x->R (Its x) H1->aAu R v H1
def aGy(te:TE):TI:=fun σ H R=>te σ H λv H1=>aAu R v H1
def aCU{X:Cx}{tg e:Expr}{te:TE}(he:PE X e te):PI X tg e (aGy te):=by
 intro pins s σ H R I h;refine gD (he pins s σ H _ I h) λv s1 ⟨y,H1,I1,r1,x,ex,q⟩=>?_;subst ex;obtain⟨t,rfl⟩:=r1;cases ha:x.cps.all (·<128)
 ·exact wpAny_pyIter_wide ha (ZC (tk:=s1.toks) I1 _ (Wu _ x t "str_iterator" (.inr rfl)) ⟨_,aP9 _ rfl,rfl,rfl⟩ q)
 ·exact wpAny_pyIter_ascii ha (ZC (tk:=s1.toks) I1 _ (Wu _ x t "str_ascii_iterator" (.inl rfl)) ⟨_,aP9 _ rfl,rfl,rfl⟩ q)
section
variable{prog:aPa}{w:aPc}{A:Around}{E:Value->Shared->Prop}{s:Shared}
def jl{d:Addr}{o:Obj}{es:Array DictEntry}{ep:Nat}{Q:Value->Shared->Prop}(hd:(d==sysModules)=false)(ho:s.heap.get? d=some o)(hc:o.ExactDict)(ki:o.data=.dict es ep)
  (hQ:Q (.ref s.heap.objs.size) { s with heap:=s.heap.push { cls:=.type "dict_keyiterator",data:=.fields #[.ref d,.int 0 0,.int es.size 0,.int ep 0] } }):
  wpAny (model prog w) A (pyIter (.ref d)) Q E s:=by
 have hT:s.TypeIs (.ref d) "dict":=⟨o,ho,hc.1⟩;refine wpAny_pyIter_slot hT F.slot_dict_iter (aQU F.slot_dict_iter hT F.entry_dict_iter ?_ (F.args_dict_iter_1 _));unfold Builtin.«dict.__iter__»;refine wpAny_bind ?_;unfold Builtin.Dict.dictSlotNone;refine wpAny_bind (wpAny_notOrdered_dict hT ?_);show wpAny _ _ (pure (aPb d)) _ _ s;refine wpAny_pure ?_;show wpAny _ _ (aR5 d >>=_) _ _ s;unfold aR5;rw[if_neg (by rw[hd];exact aMd)]
 refine wpAny_bind (wpAny_pure ?_);refine wpAny_bind (aQR ho ki ?_);refine wpAny_bind (wpAny_dictEpoch ho ki ?_);refine wpAny_bind (aQQ (wpAny_pure ⟨_,rfl,"dict_keyiterator",_,⟨_,aP9 _ rfl,rfl⟩,aPm.lookup,?_⟩));simpa[rawInt]using hQ
def Nf{it d:Addr}{i n ep:Nat}{od:Obj}{es:Array DictEntry}{en:DictEntry}{Q:Option Value->Shared->Prop}(vJ:s.heap.IsKeyIter it d i n ep)(hod:s.heap.get? d=some od)(lu:od.data=.dict es ep)
  (hsz:es.size=n) (hx:es[i]?=some en) (hQ:∀h',h'.IsKeyIter it d (i+1) n ep->aQ3 it s.heap h'->Q (some en.key) { s with heap:=h' }):wpAny (model prog w) A (pyNext (.ref it)) Q E s:=by
 obtain⟨o,ho,hc,hd⟩:=id vJ
 unfold pyNext;refine wpAny_bind (wpAny_attempt (aQO (name:=aQ6 "__next__") vJ.typeIs aPm
  (aQU aPm vJ.typeIs aQb ?_ (aQ7 _))))
 refine wpAny_bind (wpAny_pure ?_);refine wpAny_bind ?_;refine wpAny_bind ?_
 first|refine wpAny_bind (aPp vJ.typeIs (wpAny_pure ?_))|refine wpAny_bind (wpAny_typeNameOf_keyiter vJ.typeIs (wpAny_pure ?_))
 refine wpAny_bind (wpAny_fieldsOf ho hd ?_);have aDD:aQg "dict_keyiterator"=false:=by decide
 simp only[aDD,aPJ,if_false]
 show wpAny _ _ (if(aPb d==aPv)=true then _ else _) _ _ s
 rw[if_neg (show¬((aPb d==aPv)=true)from aMd)]
 refine wpAny_bind (wpAny_pure ?_);refine wpAny_bind (aQR hod lu ?_);rw[if_neg (by rw[hsz];simp)]
 refine wpAny_bind (wpAny_pure ?_);refine wpAny_bind (wpAny_dictEpoch hod lu ?_);rw[if_neg (by simp)]
 refine wpAny_pure ?_;obtain⟨hlt',hen⟩:=Array.getElem?_eq_some_iff.mp hx;simp only[show¬((i:Int)<0)from by omega,if_false,aNe,Array.getElem?_eq_getElem hlt']
 refine wpAny_bind ?_
 first|refine wpAny_bind (aPp vJ.typeIs (wpAny_pure ?_))|refine wpAny_bind (wpAny_typeNameOf_keyiter vJ.typeIs (wpAny_pure ?_))
 refine wpAny_bind (wpAny_isOneOf_keyiter vJ.typeIs ?_);show wpAny _ _ (setField (.ref it) 1 (rawInt ((i:Int)+1)) >>=_) _ _ s;refine wpAny_bind (wpAny_setField ho hd (by simp) ?_)
 have hit':(s.heap.update it (Obj.mapFields (·.setIfInBounds 1 (rawInt ((i:Int)+1))))).IsKeyIter it d (i+1) n ep:=
  ⟨_,Heap.get?_update_self _ ho (Obj.isFreed_of_fields (Obj.data_mapFields hd _)),(Obj.cls_mapFields ..).trans hc,by rw[Obj.data_mapFields hd];simp[rawInt]⟩
 refine wpAny_bind (aPz ?_);refine wpAny_bind (wpAny_isOneOf_keyiter (s:={ s with heap:=s.heap.update it (Obj.mapFields (·.setIfInBounds 1 (rawInt ((i:Int)+1)))) }) hit'.typeIs ?_);show wpAny _ _ (pure es[i].key) _ _ _;rw[hen];exact wpAny_pure (wpAny_pure ⟨_,rfl,wpAny_pure (hQ _ hit' (aRp ..))⟩)
def QX{it d:Addr}{i n ep:Nat}{od:Obj}{es:Array DictEntry}{Q:Option Value->Shared->Prop}(hh:A.handled=none)(vJ:s.heap.IsKeyIter it d i n ep)(hod:s.heap.get? d=some od)(lu:od.data=.dict es ep)
  (hsz:es.size=n) (hge:n<=i) (hQ:∀h',Heap.ExtBut it s.heap h'->Q none { s with heap:=h' }):wpAny (model prog w) A (pyNext (.ref it)) Q E s:=by
 obtain⟨o,ho,hc,hd⟩:=id vJ
 unfold pyNext;refine wpAny_bind (wpAny_attempt (aQO (name:=aQ6 "__next__") vJ.typeIs aPm
  (aQU aPm vJ.typeIs aQb ?_ (aQ7 _))))
 refine wpAny_bind (wpAny_pure ?_);refine wpAny_bind ?_;refine wpAny_bind ?_
 first|refine wpAny_bind (aPp vJ.typeIs (wpAny_pure ?_))|refine wpAny_bind (wpAny_typeNameOf_keyiter vJ.typeIs (wpAny_pure ?_))
 refine wpAny_bind (wpAny_fieldsOf ho hd ?_);have aDD:aQg "dict_keyiterator"=false:=by decide
 simp only[aDD,aPJ,if_false]
 show wpAny _ _ (if(aPb d==aPv)=true then _ else _) _ _ s
 rw[if_neg (show¬((aPb d==aPv)=true)from aMd)]
 refine wpAny_bind (wpAny_pure ?_);refine wpAny_bind (aQR hod lu ?_);rw[if_neg (by rw[hsz];simp)]
 refine wpAny_bind (wpAny_pure ?_);refine wpAny_bind (wpAny_dictEpoch hod lu ?_);rw[if_neg (by simp)]
 refine wpAny_pure ?_;have hge':es.size<=i:=by rw[hsz];exact hge
 simp only[show¬((i:Int)<0)from by omega,if_false,aNe,Array.getElem?_eq_none hge']
 refine wpAny_bind ?_
 first|refine wpAny_bind (aPp vJ.typeIs (wpAny_pure ?_))|refine wpAny_bind (wpAny_typeNameOf_keyiter vJ.typeIs (wpAny_pure ?_))
 show wpAny _ _ (setField (.ref it) 0 .none >>=_) _ _ s;refine wpAny_bind (wpAny_setField ho hd (by simp) ?_)
 show wpAny _ _ (newExc (.type "StopIteration") [] >>=_) _ _ _;refine wpAny_bind ?_;simp only[newExc,newTuple];refine wpAny_bind (aQQ ?_ (by size_fits))
 refine wpAny_bind (m:=firstArgMember _ _) (wpAny_of_eq (a:=aPv) (by first|rfl|(simp only[firstArgMember];rfl)) ?_)
 refine aQQ ?_ (by size_fits)
 simp only[raiseNew]
 refine wpAny_bind (wpAny_handled ?_);rw[show A.in1.handled=none from hh];refine wpAny_bind (wpAny_pure (wpAny_throw ?_));refine wpAny_bind (wpAny_isInstance (T:="StopIteration") (b:=true) ⟨_,aP9 _ rfl,rfl⟩ isSubtype_stop ?_);exact wpAny_pure (hQ _ (((aRp ..).extBut.push _).push _))
end
section
variable{X:Cx}{pins:List (Addr×Obj)}{σ:St}{H:Hp}{s:Shared}{d:Addr}{o:Obj}
end
section
variable{P:aPa}{w:aPc}{K:aMC}{tg:Expr}{d:Addr}{o:Obj}{es:Array DictEntry}{ep:Nat}
end
section
variable{X:Cx}{tg e:Expr}{td:TE}{kg T9:Pos}
end
def Ite(K:aMC)(a:Addr):It:=
 ⟨λi H=>∃(xs:List V) (x:V),aZ K H a xs/\xs[i]?=some x,λi H v H'=>∃T x,v=.ref T/\H T=none/\H'=upd H T (.tup [.int (i:Nat),x])/\∀xs,aZ K H a xs->xs[i]?=some x,λi H=>∃xs:List V,aZ K H a xs/\xs.length<=i⟩
def gc{P:aPa}{w:aPc}{K:aMC}{aCr:List Expr}{kk:Nat}{vk:Pos}(a e it:Addr):
  WU P w K (.Tuple aCr kk vk) (Ite K a) [e,it] e (λi h=>(∃old,IsEnum h e it ((i:Nat):Int) old)/\h.IsListIter it a i/\e≠it) where
 mem:=by simp
 obj:=λi h st b hb=>by
  obtain⟨⟨old,he⟩,⟨o,ho,hc,hd⟩,_⟩:=st
  have e':b=e\/b=it:=by simpa using hb
  rcases e' with z|z
  ·rw[z];exact⟨_,he,λv q=>nomatch q⟩
  ·rw[z];exact⟨o,ho,λv q=>by rw[hd]at q;cases q⟩
 keep:=λi h h' st k=>let⟨⟨old,he⟩,hi,y8⟩:=st;⟨⟨old,k e (by simp) _ he⟩,hi.at λo q=>k it (by simp) o q,y8⟩
 item:=by
  intro X hP hw hK hc i pins s σ H E I hf st hg;subst hP hw hK;obtain⟨⟨old,he⟩,vJ,y8⟩:=st;obtain⟨xs,x,hq,hx⟩:=hg;obtain⟨bN,rv,p,hz⟩:=I.list hq;obtain⟨u,hu,ru⟩:=rv.get hx;have hel:e<s.heap.objs.size:=aP8 he;have T6:it<s.heap.objs.size:=by obtain⟨_,q,_⟩:=vJ;exact aP8 q
  refine wpAny_pyNext_enum_item he vJ p.isList (x:=u) (by simpa using hu) y8 λh' ho hit' hT hsz hk=>?_
  refine⟨_,rfl,wpAny_letOwnedTupleGo_enum (s:={ s with heap:=h',toks:=s.toks+1 }) ho λh'' he' sb=>?_⟩
  have hT2:h''.get? s.heap.objs.size=some { cls:=.type "tuple",data:=.seq #[.int i s.toks,u] }:=(sb.2 _ (aPQ hel)).trans hT;have new:eY X.prog X.w (upd H s.heap.objs.size (.tup [.int (i:Nat),x])) h'' s.heap.objs.size (.tup [.int (i:Nat),x]):=
   ⟨by show 2<=sizeLine;decide,[.int i s.toks,u],.cons ⟨_,rfl⟩ (.cons ru .nil),⟨_,hT2,rfl,_,rfl⟩⟩
  have I1:Inv X pins σ (upd H s.heap.objs.size (.tup [.int (i:Nat),x])) { s with heap:=h'',toks:=s.toks+1 }:=
   I.turnedNew (ch:=[e,it]) (λb ob hb q=>(sb.2 b (λz=>hb (by simp[z]))).trans (hk b ob (λz=>hb (by simp[z])) (λz=>hb (by simp[z])) q)) hf (aMG _) new
  refine⟨.ref s.heap.objs.size,_,I1,rfl,⟨_,x,rfl,I.eI.fresh (aMG _),rfl,λys hy=>by rw[I.list_inj hy hq];exact hx⟩,⟨⟨u,?_⟩,hit'.at λo q=>(sb.2 it (aQW y8)).trans q,y8⟩,λb hb=>?_⟩
  ·have e1:((i+1:Nat):Int)=(i:Int)+1:=by omega
   rw[e1];exact he'
  ·have hb':b<s.heap.objs.size:=by
    have e':b=e\/b=it:=by simpa using hb
    rcases e' with z|z
    ·rw[z];exact hel
    ·rw[z];exact T6
   rw[aT (aNK hb')]
   exact(hf b hb).1
 done:=by
  intro X hP hw hK hc i pins s σ H E I hf st hg;subst hP hw hK;obtain⟨⟨old,he⟩,vJ,y8⟩:=st;obtain⟨xs,hq,hx⟩:=hg;obtain⟨bN,rv,p,hz⟩:=I.list hq;obtain⟨f0,f1,f2,f3,f4,f5⟩:=hf it (by simp)
  have hl:=rv.length;exact wpAny_pyNext_enum_end (I.ok.hd hc) he vJ p.isList (by simp;omega) λh' eb=>⟨rfl,I.turned (t':=s.toks) (λb o hb q=>eb b o hb q) f0 f1 f3 f4 f5⟩
 self:=λA i s Q E st h=>let⟨⟨_,he⟩,_⟩:=st;wpAny_pyIter_enum he h
inductive oh(K:aMC)(R:It->Hp->Prop)(vs:List V)(H1:Hp):Prop
 |mk:∀a xs,vs=[.ref a]->aZ K H1 a xs->R (Ite K a) H1->oh K R vs H1
def aEV(K:aMC)(ta:TA):TI:=fun σ H R=>ta σ H λvs H1=>oh K R vs H1
def vR{X:Cx}{e:Expr}{ta:TA}{p pos vk:Pos}{aCr:List Expr}{kk:Nat}(hg:Gl X "enumerate")(hm:X.mg "enumerate"=none)(ha:PA X [e] ta)(hs:starEach [e] X.env=[(false,eval e X.env)]:=by rfl):
  PI X (.Tuple aCr kk vk) (.Call (.Name "enumerate" p) [e] [] pos) (aEV X.K ta):=by
 intro pins s σ H R I h;refine Call_ (IM I hg hm boot_enumerate (aPn (gD (ha pos pins s σ H _ I h) λus s1 ⟨vs,H1,I1,r1,q1⟩=>?_) hs rfl));obtain⟨a,xs,ex,hq,q⟩:=q1;subst ex;cases r1 with
 | cons r rr=>
  cases rr;cases r;obtain⟨bN,rv,p',hz⟩:=I1.list hq;refine call_enumerate_list p'.isList λh' he vJ hsz hk=>wpAny_pyIter_enum he ?_;have I2:Inv X pins σ H1 { s1 with heap:=h' }:=I1.kept (t':=s1.toks) hk;refine⟨s1.heap.objs.size+1,[s1.heap.objs.size+1,s1.heap.objs.size],_,_,H1,rfl,I2,gc a (s1.heap.objs.size+1) s1.heap.objs.size,⟨⟨.none,he⟩,vJ,Nat.succ_ne_self _⟩,λb hb=>?_,q⟩;have e':b=s1.heap.objs.size+1\/b=s1.heap.objs.size:=by simpa using hb
  have IF:s1.heap.objs.size<=b:=by
   rcases e' with z|z
   ·rw[z];exact Nat.le_add_right _ _
   ·rw[z];exact aMG _
  exact I1.fpOk IF (I1.eI.fresh IF)
end L2
section
namespace Bits
open PySem PyProof.Rows
end Bits
end
section
namespace TL
open PySem PySem.Builtin PySem.Builtin.Str PySem.StrLaws
end TL
end
namespace L2
open PySem PySem.Spec PyProof.Rows
section
variable{X:Cx}{pins:List (Addr×Obj)}{σ:St}{H:Hp}{s:Shared}{Q:VK}
end
section
variable{X:Cx}
end
section
variable{X:Cx}{o e:Expr}{to te:TE}
end
end L2
namespace L2
open PySem PySem.Spec PyProof.Rows
section
variable{X:Cx}
end
end L2
namespace Att
open PySem PySem.W PySem.Calls PyProof.Rows
section
variable{prog:aPa}{w:aPc}{A:Around}{E:Value->Shared->Prop}{s:Shared}{K:Frag}
end
end Att
namespace L2
open PySem PySem.Spec PyProof.Rows
end L2
namespace L2
open PySem PySem.Spec PyProof.Rows
abbrev KOf{K:aMC}{h:Heap}(_:K.In h):aMC:=K
end L2
namespace L2
open PySem PySem.Spec PyProof.Rows
def inClass(s:Stmt)(j:Nat):Stmt:=match s with
 |.ClassDef _ _ _ body _ _ _ _ _ _ _=>body.getD j (.Pass ⟨0,0,0,0⟩)
 |_=>.Pass ⟨0,0,0,0⟩
def G4(s:Stmt):Arguments:=match s with
 |.FunctionDef _ a _ _ _ _ _ _ _ _=>a
 |_=>{ posonlyargs:=[],args:=[],vararg:=none,kwonlyargs:=[],kw_defaults:=[],kwarg:=none,defaults:=[] }
def Dp(s:Stmt):List Stmt:=match s with
 |.FunctionDef _ _ b _ _ _ _ _ _ _=>b
 |_=>[]
def aH(s:Stmt):aPq:=match s with
 |.FunctionDef _ _ _ _ _ _ sc _ _ _=>sc
 |_=>{ kind:=.function,names:=[],isGenerator:=false,isCoroutine:=false }
abbrev eV:kz:=λ_ _ _ _ _ _=>False
abbrev E0:XK:=λ_ _ _=>False
def B8{X:Cx}:IT eV X E0:=λ_ _ _ _ _ _ _ h=>h.elim
structure fC(K:aMC)(x qual:Str)(st:Stmt)(f:Addr)(fd:FuncData):Prop where
 ex:∃(oc:Value) (od:Option Addr) (kV doc pm:Value) (an:Option Addr) (d3 ct:Value) (osl:Array (Option Value)),
  fd=aO5 x qual (G4 st) (Dp st) (aH st) .none kV doc pm an d3 ct/\K.lookup f=some ⟨oc,od,.func fd,osl⟩/\aR3 K d3 qual=true
 kp:aOW K (.ref f)=true
section
variable{P:aPa}{w:aPc}{K:aMC}{mg:Str->Option Value}{base:Heap}
def fC.ok{x qual:Str}{st:Stmt}{f:Addr}{fd:FuncData}{N ps:List Str}{k:Nat}{sp:Sp}(F:fC K x qual st f fd)(S:aK N ps (aH st))(len:∀vs H Q E,sp vs H Q E->vs.length=ps.length)
  (vp:∀(d3:Value) (A:Around) (outer:List Env) (s:Shared) (H:Hp) (vs:List V) (Q:VK) (E:XK),mM k (A.deeper (envOfC qual (aH st) s.heap.objs.size f d3))->sp vs H Q E->
   ∃t,Yo (fw eV P w K mg base N qual (aH st) f d3 A outer s H E).nox (Dp st) t/\t { nx:=λ_ H'=>Q .non H',rt:=Q } (start N vs) H):bQ P w K mg base eV (k+1) f fd ps sp:=by
 obtain⟨oc,od,kV,doc,pm,an,d3,ct,osl,rfl,lk,ku⟩:=F.ex
 refine aE7 lk ku S len λA outer s H vs Q E hr xj=>?_;obtain⟨t,h,q⟩:=vp d3 A outer s H vs Q E hr xj;exact⟨t,h.nox,q⟩
def fC.binds{x qual:Str}{st:Stmt}{f:Addr}{fd:FuncData}{ps:List Str}(F:fC K x qual st f fd)
  (h:∀(kV doc pm:Value) (an:Option Addr) (d3 ct:Value) (us:List Value),us.length=ps.length->bindArgs (aO5 x qual (G4 st) (Dp st) (aH st) .none kV doc pm an d3 ct) ⟨us,[]⟩=pure (ps.zip us)):aX K fd ps []:=by
 obtain⟨oc,od,kV,doc,pm,an,d3,ct,osl,rfl,lk,ku⟩:=F.ex
 exact .all (h kV doc pm an d3 ct)
def aCR{x qual:Str}{st:Stmt}{f:Addr}{oc:Value}{od an:Option Addr}{osl:Array (Option Value)}{kV doc pm d3 ct:Value}(l:K.lookup f=some ⟨oc,od,.func (aO5 x qual (G4 st) (Dp st) (aH st) .none kV doc pm an d3 ct),osl⟩)
  (c:aR3 K d3 qual=true) (k:aOW K (.ref f)=true):fC K x qual st f (aO5 x qual (G4 st) (Dp st) (aH st) .none kV doc pm an d3 ct):=⟨⟨oc,od,kV,doc,pm,an,d3,ct,osl,rfl,l,c⟩,k⟩
end
def Nt{A:Around}{k:Nat}(hr:mM k A):A.units+1<cLine:=aPW (Nat.add_le_add_left (by decide:1<=64) _) hr.units
def bB{n:Nat}(h:n<=1000):n<sizeLine:=aPW h (by decide)
section
variable{X:Cx}
def pv(i:Nat){x:Str}{pos:Pos}(hN:X.N[i]?=some x:=by rfl)(hv:Vis X.env.scope x:=by first | exact aQB rfl | exact Or.inr (aQB rfl) | exact Or.inr (Or.inr rfl))(hd:(x==("__debug__":Str))=false:=by decide)
  (ku:(x==("__classdict__":Str))=false:=by decide):PE X (.Name x pos) (t9 i):=aCT hN hv hd ku
end
def cG{A B:Prop}(h:B):if false=true then A else B:=by
 rw[if_neg aMd]
 exact h
def bW{A B:Prop}(h:A):if true=true then A else B:=by
 rw[if_pos rfl]
 exact h
def cA{c A B:Prop}[Decidable c](h1:c->A)(h2:¬c->B):if c then A else B:=by
 by_cases h:c
 ·rw[if_pos h]
  exact h1 h
 ·rw[if_neg h]
  exact h2 h
def aV(H H':Hp):Prop:=∀b o,H b=some o->H' b=some o
def aV.refl(H:Hp):aV H H:=λ_ _ h=>h
def aV.trans{H H1 H2:Hp}(a:aV H H1)(b:aV H1 H2):aV H H2:=λc o h=>b c o (a c o h)
def aV.free{H H':Hp}(e:aV H H'){l:Addr}(h:H' l=aP4):H l=aP4:=by
 cases q:H l with
 |none=>rfl
 | some o=>
  rw[e l o q]at h
  cases h
def aV.seq{K:aMC}{H H':Hp}{a:Addr}{xs:List V}(e:aV H H')(h:aZ K H a xs):aZ K H' a xs:=by
 rcases h with(h|⟨o,h⟩)|h
 ·exact .inl (.inl (e _ _ h))
 ·exact .inl (.inr ⟨o,e _ _ h⟩)
 ·exact .inr h
section
variable{κ:Type}[DecidableEq κ]
def eu{bU:List (κ×V)}{k:κ}{v:V}(h:kS bU k=some v):k∈bU.map (·.1):=by
 have q:(bU.any λkv=>decide (kv.1=k))=true:=by
  rw[uM,h]
  all_goals rfl
 obtain⟨p,hp,e⟩:=aOk.mp q
 exact aNG.mpr ⟨p,hp,of_decide_eq_true e⟩
theorem eh:∀{l:List κ} {k:κ},l.Nodup->¬k∈l->(l++[k]).Nodup
 |[],k,_,_=>by simp
 | a::r,k,h,hk=>by
  obtain⟨h1,h2⟩:=aNP.mp h
  show(a::(r++[k])).Nodup
  refine aNP.mpr ⟨λm=>?_,eh h2 λm=>hk (aMR.mpr (Or.inr m))⟩;rcases aMX.mp m with q|q
  ·exact h1 q
  ·exact hk (aMR.mpr (aQB (List.mem_singleton.mp q).symm))
end
def G0{xs:List V}{z:Int}{j:Nat}{v:V}(e:z=(j:Int))(h:xs[j]?=some v):FR xs z=some v:=by
 rw[e]
 exact dS h
def aAt{α:Type}{l:List α}(hN:l.Nodup){i j:Nat}{x:α}(a:l[i]?=some x)(b:l[j]?=some x):i=j:=by
 obtain⟨h1,e1⟩:=aM0.mp a
 obtain⟨h2,e2⟩:=aM0.mp b
 exact(List.getElem_inj hN).mp (e1.trans e2.symm)
def aV.made{H H1:Hp}{x dx C:Addr}(nx:H x=aP4)(nd:H dx=aP4)(k:∀b o,(upd (upd H dx (.own x)) x (.ins C dx [])) b=some o->b≠x->H1 b=some o):aV H H1:=λb o e=>
 k b o (by rw[aT (aJ e nx),aT (aJ e nd)];exact e) (aJ e nx)
end L2
section
set_option maxHeartbeats 2000000
namespace L2
open PySem PySem.Spec PyProof.Rows
open PySem.W (WData Codec OpenSpec Well WellAll ReadsW ReadsAllW)
mutual
inductive Dw(K:aMC)(H:Hp):V->WData->Prop
 |non:Dw K H .non .none
 |bl (b:Bool):Dw K H (.bl b) (.bool b)
 |int (i:Int):Dw K H (.int i) (.int i)
 |str (x:Str):Dw K H (.str x) (.str x)
 |byt (b:Array UInt8):Dw K H (.byt b) (.bytes b.toList)
 |lst {a:Addr} {xs:List V} {ds:List WData}:aZ K H a xs->B6 K H xs ds->Dw K H (.ref a) (.list ds)
 |tup {a:Addr} {xs:List V} {ds:List WData}:eE K H a xs->B6 K H xs ds->Dw K H (.ref a) (.tuple ds)
inductive B6(K:aMC)(H:Hp):List V->List WData->Prop
 |nil:B6 K H [] []
 |cons {v:V} {vs:List V} {d:WData} {ds:List WData}:Dw K H v d->B6 K H vs ds->B6 K H (v::vs) (d::ds)
end
theorem bg{K:aMC}{H:Hp}:∀ns:List Int,B6 K H (ns.map V.int) (ns.map WData.int)
 |[]=>.nil
 |n::r=>.cons (.int n) (bg r)
theorem bp{K:aMC}{H:Hp}:∀(ns:List Int) (xs:List V),B6 K H xs (ns.map WData.int)->xs=ns.map V.int
 | [],xs,h=>by
  cases h;rfl
 | n::r,xs,h=>by
  cases h with
  | cons h1 h2=>
   cases h1;rw[bp r _ h2]<;>rfl
section
variable{P:aPa}{w:aPc}{K:aMC}{H:Hp}{h:Heap}{R:PySem.W.WRecords}{cl:Str->Option Addr}
def aBv{a:Addr}{xs:List V}(eI:CD P w H h)(KX:K.In h)(q:aZ K H a xs):∃(bN:List Value) (o:Obj) (n:Nat),cJ xs bN/\h.get? a=some o/\o.cls=.type "list"/\o.data=.seq bN.toArray n:=by
 rcases q with q|⟨o,bN,n,e,hc,_,hd,_,hv⟩
 ·obtain⟨_,bN,n,hv,e⟩:=(show eY P w H h a (.lst xs)from q.ok eI)
  exact⟨bN,_,n,hv,e,rfl,rfl⟩
 ·exact⟨bN.toList,o,n,hv,KX _ _ e,hc,by simp[hd]⟩
def aCK{a:Addr}{xs:List V}(eI:CD P w H h)(KX:K.In h)(q:eE K H a xs):∃(bN:List Value) (o:Obj) (n:Nat),cJ xs bN/\h.get? a=some o/\o.cls=.type "tuple"/\o.data=.seq bN.toArray n:=by
 rcases q with q|⟨o,bN,n,e,hc,hd,_,hv⟩
 ·obtain⟨_,bN,hv,o,e,hc,n,hd⟩:=(show eY P w H h a (.tup xs)from q.ok eI)
  exact⟨bN,o,n,hv,e,hc,hd⟩
 ·exact⟨bN.toList,o,n,hv,KX _ _ e,hc,by simp[hd]⟩
mutual
theorem Dw.reads(eI:CD P w H h)(KX:K.In h):∀(d:WData) (v:V) (u:Value),Dw K H v d->dG v u->∃as,ReadsW R cl h u d as
 | .none,_,_,x,r=>by
  cases x;cases r;exact⟨_,ReadsW.none⟩
 | .bool b,_,_,x,r=>by
  cases x;cases r;exact⟨_,ReadsW.bool b⟩
 | .int i,_,_,x,r=>by
  cases x;obtain⟨t,rfl⟩:=r;exact⟨_,ReadsW.int i t⟩
 | .str s,_,_,x,r=>by
  cases x;obtain⟨t,rfl⟩:=r;exact⟨_,ReadsW.str s t⟩
 | .bytes b,_,_,x,r=>by
  cases x;obtain⟨t,rfl⟩:=r;exact⟨_,ReadsW.bytes _ t⟩
 | .list ds,_,_,x,r=>by
  cases x with
  | lst hs ha=>
   cases r;obtain⟨bN,o,n,rv,ho,hc,hd⟩:=aBv eI KX hs;obtain⟨as,hr⟩:=Dw.readsAll eI KX ds _ bN ha rv;exact⟨_,ReadsW.list ho hc hd hr⟩
 | .tuple ds,_,_,x,r=>by
  cases x with
  | tup hs ha=>
   cases r;obtain⟨bN,o,n,rv,ho,hc,hd⟩:=aCK eI KX hs;obtain⟨as,hr⟩:=Dw.readsAll eI KX ds _ bN ha rv;exact⟨_,ReadsW.tuple ho hc hd hr⟩
 |.float _,_,_,x,_=>by cases x
 |.dict _,_,_,x,_=>by cases x
 |.bytearray _,_,_,x,_=>by cases x
 |.set _,_,_,x,_=>by cases x
 |.frozenset _,_,_,x,_=>by cases x
 |.obj _ _,_,_,x,_=>by cases x
theorem Dw.readsAll(eI:CD P w H h)(KX:K.In h):∀(ds:List WData) (vs:List V) (us:List Value),B6 K H vs ds->cJ vs us->∃as,ReadsAllW R cl h us ds as
 | [],_,_,x,r=>by
  cases x;cases r;exact⟨_,ReadsAllW.nil⟩
 | d::ds,_,_,x,r=>by
  cases x with
  | cons h1 h2=>
   cases r with
   | cons r1 r2=>
    obtain⟨as,q1⟩:=Dw.reads eI KX d _ _ h1 r1
    obtain⟨bs,q2⟩:=Dw.readsAll eI KX ds _ _ h2 r2
    exact⟨_,ReadsAllW.cons q1 q2⟩
end
end
mutual
def ae:WData->Bool
 |.none=>true
 |.bool _=>true
 |.int _=>true
 |.str _=>true
 |.bytes _=>true
 |.list xs=>KR xs
 |.tuple xs=>KR xs
 |_=>false
def KR:List WData->Bool
 |[]=>true
 |x::r=>ae x&&KR r
end
theorem W9{α:Type}{f:α->WData}(h:∀a,ae (f a)=true):∀l:List α,KR (l.map f)=true
 |[]=>rfl
 | x::r=>by
  show(ae (f x)&&KR (r.map f))=true
  rw[h x,W9 h r]<;>rfl
theorem CJ:∀(c:Codec) (a:c.denote),ae (c.enc a)=true
 |.unit,_=>rfl
 |.bool,_=>rfl
 |.int _ _,_=>rfl
 |.nat _ _,_=>rfl
 |.u8,_=>rfl
 |.bytes _ _,_=>rfl
 |.text _ _ _ _,_=>rfl
 |.list _ _ c,a=>W9 (λx=>CJ c x) a
 | .pair c d,a=>by
  show(ae (c.enc a.1)&&(ae (d.enc a.2)&&true))=true
  rw[CJ c a.1,CJ d a.2]<;>rfl
 | .triple c d e,a=>by
  show(ae (c.enc a.1)&&(ae (d.enc a.2.1)&&(ae (e.enc a.2.2)&&true)))=true
  rw[CJ c a.1,CJ d a.2.1,CJ e a.2.2]<;>rfl
 |.option c,none=>rfl
 |.option c,some x=>CJ c x
theorem OO:∀(cs:List Codec) (a:aQ8 cs),KR (aQI cs a)=true
 |[],_=>rfl
 | c::cs,a=>by
  show(ae (c.enc a.1)&&KR (aQI cs a.2))=true
  rw[CJ c a.1,OO cs a.2]<;>rfl
theorem F1:∀{xs:List WData} {d:WData},d∈xs->d.weight<=aQ9 xs
 |[],d,h=>absurd h (by simp)
 | x::r,d,h=>by
  show d.weight<=x.weight+1+aQ9 r;rcases aMR.mp h with e|m
  ·rw[e]
   omega
  ·have z:=F1 m;omega
def toV:Value->V
 |.none=>.non
 |.bool b=>.bl b
 |.int i _=>.int i
 |.str x _=>.str x
 |.bytes b _=>.byt b
 |.ref a=>.ref a
 |_=>.non
def fo(A:List Addr):Value->Prop
 |.none=>True
 |.bool _=>True
 |.int _ _=>True
 |.str _ _=>True
 |.bytes _ _=>True
 |.ref a=>a∈A
 |_=>False
def fo.mono{A B:List Addr}(h:∀a∈A,a∈B):∀{u:Value},fo A u->fo B u:=fun{u} x=>by
 cases u with
 |ref a=>exact h a x
 |none=>trivial
 |bool b=>trivial
 |int i t=>trivial
 |str s t=>trivial
 |bytes b t=>trivial
 |_=>exact aPh x
def rp{A:List Addr}{u:Value}(x:fo A u):dG (toV u) u:=by
 cases u with
 |ref a=>rfl
 |none=>rfl
 |bool b=>rfl
 |int i t=>exact⟨t,rfl⟩
 |str s t=>exact⟨t,rfl⟩
 |bytes b t=>exact⟨t,rfl⟩
 |_=>exact aPh x
theorem zK{A:List Addr}:∀{vs:List Value},(∀u∈vs,fo A u)->cJ (vs.map toV) vs
 |[],_=>.nil
 |u::r,h=>.cons (rp (h u (aMN ..))) (zK λx hx=>h x (aMM _ hx))
def B7(h:Heap)(A:List Addr)(a:Addr):Prop:=∃vs:List Value,vs.length<=sizeLine/\(∀u∈vs,fo A u)/\
 (h.get? a=some { cls:=.type "list",data:=.seq vs.toArray }\/h.get? a=some { cls:=.type "tuple",data:=.seq vs.toArray })
theorem B7.mono{h:Heap}{A B:List Addr}{a:Addr}(k:∀a∈A,a∈B)(x:B7 h A a):B7 h B a:=by
 obtain⟨vs,h1,h2,h3⟩:=x
 exact⟨vs,h1,λu hu=>(h2 u hu).mono k,h3⟩
theorem wN{P:Params}{h:Heap}:∀{vs:List Value} {ds:List WData},aQX P h vs ds->vs.length=ds.length
 |_,_,.nil=>rfl
 | _,_,.cons _ b=>by
  show _+1=_+1;rw[wN b]
def OU{P:Params}{h:Heap}{v:Value}{ds:List WData}(x:Well P h v (.list ds)):∃(a:Addr) (vs:List Value),v=.ref a/\h.get? a=some { cls:=.type "list",data:=.seq vs.toArray }/\aQX P h vs ds:=by
 cases x with
 |list ho iS=>exact⟨_,_,rfl,ho,iS⟩
def L1{P:Params}{h:Heap}{v:Value}{ds:List WData}(x:Well P h v (.tuple ds)):∃(a:Addr) (vs:List Value),v=.ref a/\h.get? a=some { cls:=.type "tuple",data:=.seq vs.toArray }/\aQX P h vs ds:=by
 cases x with
 |tuple ho iS=>exact⟨_,_,rfl,ho,iS⟩
def OL{P:Params}{h:Heap}{us:List Value}{d:WData}{ds:List WData}(x:aQX P h us (d::ds)):∃(v:Value) (vs:List Value),us=v::vs/\Well P h v d/\aQX P h vs ds:=by
 cases x with
 |cons a b=>exact⟨_,_,rfl,a,b⟩
def du{n:Nat}(h:n<=1048576):n<=sizeLine:=aM3 h (by decide)
section
variable{P:Params}{h:Heap}
mutual
theorem qu:∀(d:WData) (v:Value),Well P h v d->ae d=true->d.weight<=1048576->∃A:List Addr,fo A v/\∀a∈A,B7 h A a
 | .none,_,x,_,_=>by
  cases x;exact⟨[],trivial,λa m=>absurd m (by simp)⟩
 | .bool b,_,x,_,_=>by
  cases x;exact⟨[],trivial,λa m=>absurd m (by simp)⟩
 | .int i,_,x,_,_=>by
  cases x;exact⟨[],trivial,λa m=>absurd m (by simp)⟩
 | .str s,_,x,_,_=>by
  cases x;exact⟨[],trivial,λa m=>absurd m (by simp)⟩
 | .bytes b,_,x,_,_=>by
  cases x;exact⟨[],trivial,λa m=>absurd m (by simp)⟩
 | .list ds,_,x,p,z=>by
  obtain⟨a,vs,rfl,ho,iS⟩:=OU x
  have z2:aQ9 ds<=1048576:=z;obtain⟨A,h1,h2⟩:=Gj ds _ iS p λd hd=>aM3 (F1 hd) z2;have k:∀b∈A,b∈a::A:=λb hb=>aMM _ hb;refine⟨a::A,aMN ..,λb hb=>?_⟩;rcases aMR.mp hb with e|m
  ·rw[e]
   exact⟨vs,du (by rw[wN iS];exact aM3 (aQh ds) z2),λu hu=>(h1 u hu).mono k,.inl ho⟩
  ·exact(h2 b m).mono k
 | .tuple ds,_,x,p,z=>by
  obtain⟨a,vs,rfl,ho,iS⟩:=L1 x
  have z2:aQ9 ds<=1048576:=z;obtain⟨A,h1,h2⟩:=Gj ds _ iS p λd hd=>aM3 (F1 hd) z2;have k:∀b∈A,b∈a::A:=λb hb=>aMM _ hb;refine⟨a::A,aMN ..,λb hb=>?_⟩;rcases aMR.mp hb with e|m
  ·rw[e]
   exact⟨vs,du (by rw[wN iS];exact aM3 (aQh ds) z2),λu hu=>(h1 u hu).mono k,.inr ho⟩
  ·exact(h2 b m).mono k
 |.float _,_,_,p,_=>aPf (show false=true from p)
 |.dict _,_,_,p,_=>aPf (show false=true from p)
 |.bytearray _,_,_,p,_=>aPf (show false=true from p)
 |.set _,_,_,p,_=>aPf (show false=true from p)
 |.frozenset _,_,_,p,_=>aPf (show false=true from p)
 |.obj _ _,_,_,p,_=>aPf (show false=true from p)
theorem Gj:∀(ds:List WData) (vs:List Value),aQX P h vs ds->KR ds=true->(∀d∈ds,d.weight<=1048576)->∃A:List Addr,(∀u∈vs,fo A u)/\∀a∈A,B7 h A a
 | [],_,x,_,_=>by
  cases x;exact⟨[],λu m=>absurd m (by simp),λa m=>absurd m (by simp)⟩
 | d::ds,_,x,p,z=>by
  obtain⟨v,vs,rfl,x1,x2⟩:=OL x
  have q:ae d=true/\KR ds=true:=Bool.and_eq_true_iff.mp p;obtain⟨A,a1,a2⟩:=qu d v x1 q.1 (z d (aMN ..));obtain⟨B,b1,b2⟩:=Gj ds vs x2 q.2 λe he=>z e (aMM _ he);have kA:∀b∈A,b∈A++B:=λb hb=>aMX.mpr (.inl hb);have kB:∀b∈B,b∈A++B:=λb hb=>aMX.mpr (.inr hb);refine⟨A++B,λu hu=>?_,λb hb=>?_⟩
  ·rcases aMR.mp hu with e | m
   ·rw[e]
    exact a1.mono kA
   ·exact(b1 u m).mono kB
  ·rcases aMX.mp hb with m | m
   ·exact(a2 b m).mono kA
   ·exact(b2 b m).mono kB
end
end
def yb(o:Obj):Option HO:=match o.data with
 |.seq vs _=>if(o.cls==aQJ "list")=true then some (.frz o (.lst (vs.toList.map toV)))else some (.frz o (.tup (vs.toList.map toV)))
 |_=>none
def AK(K:aMC)(h:Heap)(A:List Addr):Hp:=λb=>if b∈A then(if(K.lookup b).isNone=true then(h.get? b).bind yb else none)else none
def WY(H:Hp):Prop:=∀b,H b=none\/∃o u,H b=some (.frz o u)
def Wn(vs:List Value):yb { cls:=.type "list",data:=.seq vs.toArray }=some (.frz { cls:=.type "list",data:=.seq vs.toArray } (.lst (vs.map toV))):=by
 show(if(aQJ "list"==aQJ "list")=true then some (HO.frz { cls:=.type "list",data:=.seq vs.toArray } (.lst (vs.toArray.toList.map toV)))else some (HO.frz { cls:=.type "list",data:=.seq vs.toArray } (.tup (vs.toArray.toList.map toV))))=_
 rw[if_pos (beq_self_eq_true _)]
def W6(vs:List Value):yb { cls:=.type "tuple",data:=.seq vs.toArray }=some (.frz { cls:=.type "tuple",data:=.seq vs.toArray } (.tup (vs.map toV))):=by
 show(if(aQJ "tuple"==aQJ "list")=true then some (HO.frz { cls:=.type "tuple",data:=.seq vs.toArray } (.lst (vs.toArray.toList.map toV)))else some (HO.frz { cls:=.type "tuple",data:=.seq vs.toArray } (.tup (vs.toArray.toList.map toV))))=_
 rw[if_neg (by decide)]
section
variable{P:aPa}{w:aPc}{K:aMC}{h:Heap}{A:List Addr}
def Kk{b:Addr}{o:Obj}(hb:b∈A)(hk:K.lookup b=none)(e:h.get? b=some o):AK K h A b=yb o:=by
 unfold AK;rw[if_pos hb,hk,if_pos (show(none:Option Obj).isNone=true from rfl),e]<;>rfl
def yo{b:Addr}{u:HO}(q:AK K h A b=some u):b∈A/\K.lookup b=none:=by
 unfold AK at q;by_cases hb:b∈A
 ·rw[if_pos hb]at q
  cases hk:K.lookup b with
  |none=>exact⟨hb,rfl⟩
  | some o=>
   rw[hk,if_neg (by simp)]at q
   cases q
 ·rw[if_neg hb]at q
  cases q
def Kn(ar:∀a∈A,B7 h A a){b:Addr}{u:HO}(q:AK K h A b=some u):K.lookup b=none/\∃vs:List Value,vs.length<=sizeLine/\(∀u∈vs,fo A u)/\
    ((h.get? b=some { cls:=.type "list",data:=.seq vs.toArray }/\u=.frz { cls:=.type "list",data:=.seq vs.toArray } (.lst (vs.map toV)))\/
     (h.get? b=some { cls:=.type "tuple",data:=.seq vs.toArray }/\u=.frz { cls:=.type "tuple",data:=.seq vs.toArray } (.tup (vs.map toV)))):=by
  obtain⟨hb,hk⟩:=yo q
  obtain⟨vs,h1,h2,h3⟩:=ar b hb
  refine⟨hk,vs,h1,h2,?_⟩
  rcases h3 with e|e
  · rw[Kk hb hk e,Wn]at q
    exact .inl ⟨e,(aP6 q).symm⟩
  · rw[Kk hb hk e,W6]at q
    exact .inr ⟨e,(aP6 q).symm⟩
def iw(ar:∀a∈A,B7 h A a):WY (AK K h A):=λb=>by
 cases q:AK K h A b with
 |none=>exact .inl rfl
 | some u=>
  obtain⟨_,vs,_,_,⟨_,e⟩|⟨_,e⟩⟩:=Kn ar q
  ·exact .inr ⟨_,_,by rw[e]⟩
  ·exact .inr ⟨_,_,by rw[e]⟩
def yq(ar:∀a∈A,B7 h A a):CD P w (AK K h A) h:=λb u q=>by
 obtain⟨_,vs,h1,h2,⟨e,rfl⟩|⟨e,rfl⟩⟩:=Kn ar q
 ·exact⟨e,by rw[aLx];exact h1,vs,_,zK h2,e⟩
 ·exact⟨e,by rw[aLx];exact h1,vs,zK h2,_,e,rfl,_,rfl⟩
def Ko{c c':Value}{vs us:List Value}(e:(some { cls:=c,data:=.seq vs.toArray }:Option Obj)=some { cls:=c',data:=.seq us.toArray }):c=c'/\vs=us:=by
 have e1:=aP6 e;have e2:c=c':=congrArg Obj.cls e1;have e3:Data.seq vs.toArray=Data.seq us.toArray:=congrArg Obj.data e1;injection e3 with e4;refine⟨e2,?_⟩;have e5:=congrArg Array.toList e4;simpa using e5
def aGj(KX:K.In h)(ar:∀a∈A,B7 h A a){a:Addr}{vs:List Value}(ha:a∈A)(e:h.get? a=some { cls:=.type "list",data:=.seq vs.toArray }):(∀u∈vs,fo A u)/\aZ K (AK K h A) a (vs.map toV):=by
 obtain⟨us,h1,h2,h3⟩:=ar a ha
 have hu:us=vs:=by
  rcases h3 with q|q
  ·rw[e]at q
   exact(Ko q).2.symm
  ·rw[e]at q
   exact absurd (Value.type.inj (Ko q).1) (by decide)
 subst hu;refine⟨h2,?_⟩;cases hk:K.lookup a with
 |none=>exact .inl (.inr ⟨_,by rw[Kk ha hk e,Wn]⟩)
 | some o=>
  have e2:=KX a o hk;rw[e]at e2;obtain rfl:=aP6 e2;exact .inr ⟨_,us.toArray,_,hk,rfl,rfl,rfl,by rw[aM8];exact h1,by simpa using zK h2⟩
def aGt(KX:K.In h)(ar:∀a∈A,B7 h A a){a:Addr}{vs:List Value}(ha:a∈A)(e:h.get? a=some { cls:=.type "tuple",data:=.seq vs.toArray }):(∀u∈vs,fo A u)/\eE K (AK K h A) a (vs.map toV):=by
 obtain⟨us,h1,h2,h3⟩:=ar a ha
 have hu:us=vs:=by
  rcases h3 with q|q
  ·rw[e]at q
   exact absurd (Value.type.inj (Ko q).1) (by decide)
  ·rw[e]at q
   exact(Ko q).2.symm
 subst hu;refine⟨h2,?_⟩;cases hk:K.lookup a with
 |none=>exact .inl (.inr ⟨_,by rw[Kk ha hk e,W6]⟩)
 | some o=>
  have e2:=KX a o hk;rw[e]at e2;obtain rfl:=aP6 e2;exact .inr ⟨_,us.toArray,_,hk,rfl,rfl,by rw[aM8];exact h1,by simpa using zK h2⟩
mutual
theorem aCF{Pm:Params}(KX:K.In h)(ar:∀a∈A,B7 h A a):∀(d:WData) (v:Value),Well Pm h v d->ae d=true->fo A v->Dw K (AK K h A) (toV v) d
 | .none,_,x,_,_=>by
  cases x;exact .non
 | .bool b,_,x,_,_=>by
  cases x;exact .bl b
 | .int i,_,x,_,_=>by
  cases x;exact .int i
 | .str s,_,x,_,_=>by
  cases x;exact .str s
 | .bytes b,_,x,_,_=>by
  cases x;have z:=Dw.byt (K:=K) (H:=AK K h A) b.toArray;exact z
 | .list ds,_,x,p,hu=>by
  obtain⟨a,vs,rfl,ho,iS⟩:=OU x
  obtain⟨h2,hs⟩:=aGj KX ar hu ho
  exact .lst hs (Ov KX ar ds _ iS p h2)
 | .tuple ds,_,x,p,hu=>by
  obtain⟨a,vs,rfl,ho,iS⟩:=L1 x
  obtain⟨h2,hs⟩:=aGt KX ar hu ho
  exact .tup hs (Ov KX ar ds _ iS p h2)
 |.float _,_,_,p,_=>aPf (show false=true from p)
 |.dict _,_,_,p,_=>aPf (show false=true from p)
 |.bytearray _,_,_,p,_=>aPf (show false=true from p)
 |.set _,_,_,p,_=>aPf (show false=true from p)
 |.frozenset _,_,_,p,_=>aPf (show false=true from p)
 |.obj _ _,_,_,p,_=>aPf (show false=true from p)
theorem Ov{Pm:Params}(KX:K.In h)(ar:∀a∈A,B7 h A a):∀(ds:List WData) (vs:List Value),aQX Pm h vs ds->KR ds=true->(∀u∈vs,fo A u)->B6 K (AK K h A) (vs.map toV) ds
 | [],_,x,_,_=>by
  cases x;exact .nil
 | d::ds,_,x,p,hu=>by
  obtain⟨v,vs,rfl,x1,x2⟩:=OL x
  have q:ae d=true/\KR ds=true:=Bool.and_eq_true_iff.mp p;exact .cons (aCF KX ar d v x1 q.1 (hu _ (aMN ..))) (Ov KX ar ds vs x2 q.2 λu m=>hu u (aMM _ m))
end
end
def jt{P:aPa}{w:aPc}{K:aMC}{mg mb:Str->Option Value}{CX:kz}{k:Nat}{fa:Addr}{fd:FuncData}{ps:List Str}{sp:Sp}{s₁:Shared}{Np:List Value}{ds:List WData}{R:PySem.W.WRecords}{cl:Str->Option Addr}{d0:WData}
  (KX:K.In s₁.heap) (hns:s₁.heap.Ns mainGlobals mg) (hb:s₁.heap.Ns builtinsNs mb) (hbb:∀x:Str,x≠"__name__"->mb x=bootBuiltins x) (aHt:s₁.heap.NoLimit) (hg:s₁.gens=#[])
  (hwl:aQX w.params s₁.heap Np ds) (AJ:KR ds=true) (hwt:∀d∈ds,d.weight<=1048576) (hr:mM k callerA)
  (F:∀base:Heap,K.In base->base.Ns mainGlobals mg->bQ P w K mg base CX k fa fd ps sp) (aFM:∀(s:Shared) (us:List Value),us.length=ps.length->BindsTo s fd ⟨us,[]⟩ (ps.zip us)) (cC:ds.length=ps.length)
  (xj:∀(H:Hp) (xs:List V),WY H->B6 K H xs ds->sp xs H (λv H'=>Dw K H' v d0) λ_ _ _=>False)
  (hCX:∀H e s',CX [] H s₁ (λ_ _ _=>False) e s'->False):
  codeAny (model P w) callerA (.call (.ref fa) ⟨Np,[]⟩) (λr s'=>∃u as,r=.ok (.ret u)/\ReadsW R cl s'.heap u d0 as/\OldK s₁.heap s'.heap/\s'.os=s₁.os/\AllBare s'.gens) s₁:=by
 obtain⟨A,ho,ar⟩:=Gj ds Np hwl AJ hwt
 have hO:WY (AK K s₁.heap A):=iw ar;have eI:CD P w (AK K s₁.heap A) s₁.heap:=yq ar;have hS:=Ov KX ar ds Np hwl AJ ho;have hV:=zK ho;have hK:∀b u,AK K s₁.heap A b=some u->K.lookup b=none:=λb u q=>(Kn ar q).1;have noA:∀{b:Addr} {o:Obj} {es:Array DictEntry} {ep:Nat},s₁.heap.get? b=some o->o.data=.dict es ep->AK K s₁.heap A b=none:=fun{b o es ep} e d=>by
  cases q:AK K s₁.heap A b with
  |none=>rfl
  | some u=>
   obtain⟨_,vs,_,_,⟨e2,_⟩|⟨e2,_⟩⟩:=Kn ar q
   ·rw[e2]at e
    cases e;have d':Data.seq vs.toArray _=Data.dict es ep:=d;cases d'
   ·rw[e2]at e
    cases e;have d':Data.seq vs.toArray _=Data.dict es ep:=d;cases d'
 generalize AK K s₁.heap A=H at hO eI hS hK noA;have ff:∀{b:Addr} {o:Obj},s₁.heap.get? b=some o->H b=none->(Oq s₁.heap H).get? b=some o:=λe n=>um e n;have nsK:∀{b:Addr} {m:Str->Option Value},s₁.heap.Ns b m->(Oq s₁.heap H).Ns b m:=fun{b m} ⟨o,es,ep,e,d,r⟩=>⟨o,es,ep,ff e (noA e d),d,r⟩;have nK:∀b o,K.lookup b=some o->H b=none:=λb o e=>by
  cases q:H b with
  |none=>rfl
  | some u=>
   rw[hK b u q]at e
   cases e
 have hKb:K.In (Oq s₁.heap H):=λb o e=>ff (KX b o e) (nK b o e);have hM:Mod K mg (Oq s₁.heap H):=⟨hKb,nsK hns,⟨mb,nsK hb,hbb⟩,let⟨mc,h1,h2⟩:=aHt;⟨mc,nsK h1,h2⟩⟩;have e0:Yu P w K mg (Oq s₁.heap H) callerA [] s₁ H:=⟨rfl,hM,λb o e=>ze e,aPR (ik _ _),trivial,λb hb=>absurd (show b∈([]:List Addr)from hb) (by simp),eI,.of_eq hg⟩
 have hl:Np.length=ps.length:=by rw[wN hwl];exact cC
 refine aRE ((F _ hKb (nsK hns)).run callerA [] s₁ H ⟨Np,[]⟩ Np (Np.map toV) _ _ hr e0 (aFM s₁ Np hl) hV (xj H _ hO hS)) λr s' x=>?_;cases r with
 |error e=>exact(hCX H e s' x).elim
 | ok fl=>
  cases fl with
  |next=>exact aPh x
  |brk=>exact aPh x
  |cont=>exact aPh x
  | ret u=>
   obtain⟨v,H',os,bare,un,hok',r',q⟩:=x
   have kept:∀b o,s₁.heap.get? b=some o->s'.heap.get? b=some o:=λb o e=>by
    cases q2:H b with
    |none=>exact un.keep b o e q2 (by intro z;exact absurd (show b∈([]:List Addr)from z) (by simp)) (by simp)
    | some u2=>
     rcases hO b with z|⟨ob,u3,z⟩
     ·rw[q2]at z
      cases z
     ·have z2:=un.Oo b ob _ z;obtain⟨e1,_⟩:=eI b _ z;obtain⟨e2,_⟩:=hok' b _ z2;rw[e]at e1;cases e1;exact e2
   have KX':K.In s'.heap:=λb o e=>kept b o (KX b o e);obtain⟨as,hrd⟩:=Dw.reads (R:=R) (cl:=cl) hok' KX' d0 v u q r';exact⟨u,as,rfl,hrd,OldK.of_keep kept,os,bare⟩
def MY{ds:List WData}(h:WData.layableAll ds=true):∀d∈ds,d.weight<=1048576:=λd hd=>
 (PySem.W.layableW_iff.mp (aNB.mp h d hd)).2.2
theorem Ln:∀(cs:List Codec) (a:aQ8 cs),(aQI cs a).length=cs.length
 |[],_=>rfl
 | c::cs,a=>by
  show(aQI cs a.2).length+1=cs.length+1
  rw[Ln cs a.2]
def ji{r:OpenSpec}{k:Nat}{q:aPa}{wc:List Str}{XP:(Str->Option Value)->Heap->Prop}{YP:aPc->Heap->Prop}{d:DefRec}{K:Params->aMC}{CX:aPc->kz}{ps:List Str}{sp:aPc->Sp}
  (vd:r.wellSaid=true) (hdf:d.params.defaults=[]) (cC:r.args.length=ps.length) (hr:mM k callerA)
  (hY:∀(w:aPc) (h:Heap),YP w h->(K w.params).In h)
  (F:∀(w:aPc) (mg:Str->Option Value) (fa:Addr) (h:Heap),YP w h->(K w.params).In h->h.Ns mainGlobals mg->mg d.name=some (.ref fa)->
   ∃fd:FuncData,(∀(s:Shared) (us:List Value),us.length=ps.length->BindsTo s fd ⟨us,[]⟩ (ps.zip us))/\
    ∀base:Heap,(K w.params).In base->base.Ns mainGlobals mg->bQ r.prog w (K w.params) mg base (CX w) k fa fd ps (sp w))
  (xj:∀(w:aPc) (H:Hp) (xs:List V) (a:aQ8 r.args),WY H->Codec.withinAll r.args a=true->aRP r.args r.asked a=true->B6 (K w.params) H xs (aQI r.args a)->
   sp w xs H (λv H'=>Dw (K w.params) H' v (r.ret.enc (aRP r.args r.f a))) λ_ _ _=>False)
  (hCX:∀(w:aPc) (H:Hp) (s:Shared) (e:Value) (s':Shared),CX w [] H s (λ_ _ _=>False) e s'->False):
  PySem.W.WalkOS q wc XP YP r d [] (λf vs=>PySem.call f vs):=by
 intro w Nq s₁ mg mb G Y fa o pm cd doc dV kV ho hd ku hD hmg hg args Np as km aHq hrd hwl hlo;obtain⟨a,e1,e2⟩:=PySem.W.os_pre_some km;obtain⟨e3,Mo⟩:=Codec.encAll_of_decAll r.args args a e1;subst e3;have KX:=hY w _ Y;obtain⟨fd,hb,hF⟩:=F w mg fa _ Y KX G.T.g hmg;refine PySem.W.enter_call (aRE (jt (R:=[]) (cl:=classAt Nq.heap) (d0:=r.ret.enc (aRP r.args r.f a)) KX G.T.g G.T.b G.T.builtins G.T.nolimit hg hwl (OO _ _) (MY aHq) hr hF hb (by rw[Ln];exact cC)
  (λH xs hO hS=>xj w H xs a hO Mo e2 hS) λH e s'=>hCX w H s₁ e s') λr' s' hq=>?_)
 obtain⟨u,as',rfl,h1,h2,h3,h4⟩:=hq
 exact⟨.inl ⟨u,_,as',rfl,λ_=>rfl,h1,(OpenSpec.post_iff vd Mo _ _).mpr rfl,λz=>aPf (show false=true from z)⟩,h2,h3,h4⟩
def Zb{r:OpenSpec}{k:Nat}{q:aPa}{wc:List Str}{XP:(Str->Option Value)->Heap->Prop}{YP:aPc->Heap->Prop}{d:DefRec}{K:Params->aMC}{CX:kz}{ps:List Str}{sp:aMC->Sp}
  (vd:r.wellSaid=true) (hdf:d.params.defaults=[]) (cC:r.args.length=ps.length) (hr:mM k callerA)
  (hY:∀(w:aPc) (h:Heap),YP w h->(K w.params).In h)
  (F:∀(w:aPc) (mg:Str->Option Value) (fa:Addr) (h:Heap),YP w h->(K w.params).In h->h.Ns mainGlobals mg->mg d.name=some (.ref fa)->
   ∃fd:FuncData,(∀(s:Shared) (us:List Value),us.length=ps.length->BindsTo s fd ⟨us,[]⟩ (ps.zip us))/\
    ∀base:Heap,(K w.params).In base->base.Ns mainGlobals mg->bQ r.prog w (K w.params) mg base CX k fa fd ps (sp (K w.params)))
  (xj:∀(K:aMC) (H:Hp) (xs:List V) (a:aQ8 r.args),WY H->Codec.withinAll r.args a=true->aRP r.args r.asked a=true->B6 K H xs (aQI r.args a)->
   sp K xs H (λv H'=>Dw K H' v (r.ret.enc (aRP r.args r.f a))) λ_ _ _=>False)
  (hCX:∀(H:Hp) (s:Shared) (e:Value) (s':Shared),CX [] H s (λ_ _ _=>False) e s'->False):
  PySem.W.WalkOS q wc XP YP r d [] (λf vs=>PySem.call f vs):=
 ji (K:=K) (CX:=λ_=>CX) (sp:=λw=>sp (K w.params)) vd hdf cC hr hY F (λw H xs a h1 h2 h3 h4=>xj (K w.params) H xs a h1 h2 h3 h4) λ_ H s e s'=>hCX H s e s'
end L2
end
namespace PySem.AutoSeq1
set_option maxHeartbeats 2000000 in
def KW(l:Addr)(xs:Array Value)(n:Nat)(b:Addr)(ys:Array Value)(m:Nat)(dd:Option Addr)(sl:Array (Option Value))(h0:¬(!xs.isEmpty&&aPl (xs.size+ys.size))=true)(h1:xs.size<=sizeLine)(h2:xs.size+ys.size<=sizeLine+1):
  Meets (Builtin.«list.extend» ⟨[.ref l,.ref b],[]⟩) (λ_ R s=>s.heap.get? l=some { cls:=.type "list",dict:=none,data:=.seq xs n,slots:=#[] }/\s.heap.get? b=some { cls:=.type "tuple",dict:=dd,data:=.seq ys m,slots:=sl }/\
   R (.ok (.ret aPv)) { s with heap:=s.heap.update l (aQ4 λz=>z++ys),toks:=s.toks }):=
 .of_wp λprog w A R s h=>by
  obtain⟨hp,gs,dr,tk,ost⟩:=s
  obtain⟨hl,hb,h⟩:=h
  have g1:=idx_int;have g2:=sub_tuple_tuple;have g3:=sub_list_list;have g4:=sub_tuple_list;have g5:=sub_list_tuple;have hzz:(xs++ys).size<=sizeLine+1:=by rw[Array.size_append];exact h2
  wp_walk using(wpAny_updateSeq hl rfl (hz:=h1) (_hz':=hzz)),wpAny_loadPart' hl,wpAny_loadPart' hb
  exact⟨_,rfl,h⟩
end PySem.AutoSeq1
namespace L2
open PySem PySem.Spec PyProof.Rows
section
variable{X:Cx}
def aM{x:Str}{n:Int}{pos:Pos}(hg:Gl X x)(hm:∃t,X.mg x=some (.int n t))(hd:(x==("__debug__":Str))=false:=by decide):PE X (.Name x pos) (tC (.int n)):=by
 obtain⟨t,hm⟩:=hm
 exact AW hg hm ⟨t,rfl⟩ hd
def Ga{e:Expr}{f:Str}{pos:Pos}{ta:TE}(K:aMC)(he:PE X e ta)(hb:attributeBase e f X.env (eval e X.env)=eval e X.env)(hK:X.K=K:=by rfl):PE X (.Attribute e f pos) (aEE K ta f):=by
 subst hK;exact aU he hb
def Nc(K:aMC)(hK:X.K=K:=by rfl):uC X (.builtin "len") (λxs H Q=>∃p ys,xs=[.ref p]/\(aZ K H p ys\/eE K H p ys)/\Q (.int ys.length) H):=by
 subst hK;exact aW
def uc(K:aMC)(hK:X.K=K:=by rfl):me X (mv K):=by
 subst hK;exact PJ
def PQ(K:aMC)(hK:X.K=K:=by rfl):me X (mq K):=by
 subst hK;exact Yx
def aCX{x:Str}{g:TG}{tt:TT}{te:TE}{vs:List Nat}{σ:St}{H1:Hp}{D:Addr}{Qd:Hp->Prop}(Pv:Nat->Hp->Prop)(h0:Pv 0 (upd H1 D (.lst [])))
  (hs:∀i c H,x.cps[i]?=some c->Pv i H->g (.str ⟨#[c]⟩) (wipe σ vs) H fun σ2 H2=>wipe σ2 vs=wipe σ vs/\tt σ2 H2 λb H3=>
   if b=true then te σ2 H3 λy H4=>∃acc,H4 D=some (.lst acc)/\acc.length<sizeLine/\Pv (i+1) (upd H4 D (.lst (acc++[y])))else Pv (i+1) H3) (hd:∀H,Pv x.cps.size H->Qd H):
  ∃W:Nat->Nat->Hp->Prop,(∃m,W 0 m (upd H1 D (.lst [])))/\∀i m H,W i m H->
   ((Its x).stop i H/\Qd H)\/((Its x).go i H/\∃Nx:Hp->Prop,(∀H',Nx H'->∃m',m'<m/\W (i+1) m' H')/\∀v H',(Its x).kx i H v H'->g v (wipe σ vs) H' fun σ2 H2=>wipe σ2 vs=wipe σ vs/\tt σ2 H2 λb H3=>
    if b=true then te σ2 H3 λy H4=>∃acc,H4 D=some (.lst acc)/\acc.length<sizeLine/\Nx (upd H4 D (.lst (acc++[y])))else Nx H3):=by
 refine⟨λi m H=>m=x.cps.size-i/\i<=x.cps.size/\Pv i H,⟨x.cps.size,by simp,aM1 _,h0⟩,?_⟩
 rintro i m H ⟨rfl,hi,p⟩;by_cases jZ:i<x.cps.size
 ·refine .inr ⟨jZ,Pv (i+1),λH' p'=>⟨x.cps.size-(i+1),by omega,rfl,jZ,p'⟩,λv H' y=>?_⟩
  obtain⟨e,c,hc,rfl⟩:=y
  subst e;exact hs i c _ hc p
 ·have e:i=x.cps.size:=by omega
  subst e;exact .inl ⟨aMG _,hd H p⟩
def sZ{st:List Stmt}{t:TS}(R:TS)(h:Yo X st t)(c:∀D σ H,R D σ H->t D σ H):Yo X st R:=λpins s σ H D I q=>h pins s σ H D I (c D σ H q)
def PI.or{tg e:Expr}{w1 w2:TI}(h1:PI X tg e w1)(h2:PI X tg e w2):PI X tg e (fun σ H R=>w1 σ H R\/w2 σ H R):=by
 intro pins s σ H R I h;rcases h with h|h
 ·exact h1 pins s σ H R I h
 ·exact h2 pins s σ H R I h
def aBk(X:Cx)(tf:TE)(t:TA):TE:=fun σ H Q=>tf σ H λv H1=>∃(k:Nat) (f:Addr) (fd:FuncData) (ps:List Str) (sp:Sp),v=.ref f/\aOW X.K (.ref f)=true/\
 bQ X.prog X.w X.K X.mg X.base eV k f fd ps sp/\mM k X.A/\aX X.K fd ps []/\t σ H1 λvs H2=>sp vs H2 Q E0
def rk{x:Str}{p pos:Pos}{e:Expr}{es:List Expr}{tf:TE}{t:TA}(hx:PE X (.Name x p) tf)(ha:PA X (e::es) t)
  (he:starEach (e::es) X.env=(false,eval e X.env)::starEach es X.env:=by rfl) (AJ:(backTo pos (starEach es X.env)).any (·.1)=false:=by rfl):
  PE X (.Call (.Name x p) (e::es) [] pos) (aBk X tf t):=by
 intro pins s σ H Q I h;refine aPs (gD (hx pins s σ H _ I h) λu s1 ⟨v,H1,I1,r1,k,f,fd,ps,sp,ev,hk,F,hr,hb,q⟩=>?_);subst ev;obtain rfl:u=aPb f:=r1;refine aQl (h₀:=X.base) I.ok.mod.kin hk (gD (ha pos pins s1 σ H1 _ I1 q) λus s2 ⟨vs,H2,I2,r,q2⟩=>⟨I2.kIn,?_⟩) he AJ;exact pz (dvs:=[]) (ds:=[]) F hr hb .nil B8 I2 r (by rw[aMc];exact q2)
def Jk:∀(ns ms:List Int),((aME (min ns.length ms.length)).all (λj=>ns.getD j 0==ms.getD j 0)&&ns.length==ms.length)=(ns==ms):=by
 intro ns ms;rw[aOS];constructor
 ·intro h;rw[aM5,aNB]at h;have hl:ns.length=ms.length:=by simpa using h.2
  have:ns=ms:=by
   apply aQw;intro i;by_cases hi:i<ns.length
   ·have h1:=h.1 i (aMh.2 (by omega))
    have h1:ns.getD i 0=ms.getD i 0:=by simpa using h1
    have hi2:i<ms.length:=by omega
    rw[aMW,aMW,aMK hi,aMK hi2]at h1
    rw[aMK hi,aMK hi2]
    exact congrArg some h1
   ·rw[aOB (by omega),aOB (by omega)]
  simpa using this
 ·intro h;have e:ns=ms:=by simpa using h
  subst e;rw[aM5,aNB];exact⟨λj _=>by simp,by simp⟩
theorem LV:∀{ns ms:List Int},ns.map V.int=ms.map V.int->ns=ms
 |[],[],_=>rfl
 |[],_::_,h=>by simp at h
 |_::_,[],h=>by simp at h
 | a::ns,b::ms,h=>by
  simp only[aM2,aPX.injEq]at h
  have h1:a=b:=by injection h.1
  rw[h1,LV h.2]
def uh{pins:List (Addr×Obj)}{σ:St}{H:Hp}{s:Shared}{A:Around}{a b:Addr}{ns ms:List Int}(I:Inv X pins σ H s)(ha:H a=some (.tup (ns.map V.int)))(hb:H b=some (.tup (ms.map V.int)))(hu:A.units<cLine):
  aQK A s (.ref a) (.ref b) (ns==ms):=by
 by_cases hab:a=b
 ·subst hab;rw[ha]at hb;injection hb with hb;injection hb with hb;have e:=LV hb;subst e;rw[beq_self_eq_true];exact aRN _
 ·refine aSK hab ?_;obtain⟨_,bN,r,p⟩:=(show eY X.prog X.w H s.heap a (.tup (ns.map V.int))from I.eI a _ ha);obtain⟨_,its',r',p'⟩:=(show eY X.prog X.w H s.heap b (.tup (ms.map V.int))from I.eI b _ hb);have l1:ns.length=bN.length:=by have:=r.length;rwa [aLx]at this
  have l2:ms.length=its'.length:=by have:=r'.length;rwa [aLx]at this
  have q:=SeqAt.RcAt.tuples (A:=A) (e:=λj=>ns.getD j 0==ms.getD j 0) p p' hu (λj h1 h2=>by
   have h1':j<bN.length:=by simpa using h1
   have h2':j<its'.length:=by simpa using h2
   obtain⟨u,hu1,ru⟩:=r.get (i:=j) (x:=V.int (ns.getD j 0)) (by
    rw[aM4,aMW,aMK (by omega:j<ns.length)];rfl)
   obtain⟨u',Yj,ru'⟩:=r'.get (i:=j) (x:=V.int (ms.getD j 0)) (by
    rw[aM4,aMW,aMK (by omega:j<ms.length)];rfl)
   have e1:bN.toArray[j]=u:=by
    rw[aMK h1']at hu1
    simpa using hu1
   have e2:its'.toArray[j]=u':=by
    rw[aMK h2']at Yj
    simpa using Yj
   rw[e1,e2]
   obtain⟨t,rfl⟩:=ru
   obtain⟨t',rfl⟩:=ru'
   exact aQF _ t _ t')
  have z:((aME (min bN.toArray.size its'.toArray.size)).all (λj=>ns.getD j 0==ms.getD j 0)&&bN.toArray.size==its'.toArray.size)=(ns==ms):=by
   rw[aM8,aM8,<-l1,<-l2]
   exact Jk ns ms
  rw[z]at q
  exact q
def aS(H:Hp):List V->List (List Int)->Prop:=Paired λv ns=>∃a,v=.ref a/\H a=some (.tup (ns.map V.int))
def vP(H:Hp)(ns:List Int):Value->Bool
 | .ref b=>match H b with
  |some (.tup ys)=>decide (ys=ns.map V.int)
  |_=>false
 |_=>false
def A5{H:Hp}{b:Addr}{ns ms:List Int}(h:H b=some (.tup (ms.map V.int))):vP H ns (.ref b)=(ms==ns):=by
 unfold vP;simp only[h];by_cases e:ms=ns
 ·subst e;simp
 ·have:¬ms.map V.int=ns.map V.int:=λq=>e (LV q)
  simp[this,e]
theorem OT{H:Hp}{ns:List Int}:∀{xs:List V} {us:List Value} {iT:List (List Int)},cJ xs us->aS H xs iT->us.any (vP H ns)=iT.contains ns
 |_,_,_,.nil,.nil=>rfl
 | _,u::us,ms::iT,.cons r t,.cons q p=>by
  obtain⟨a,rfl,h⟩:=q
  cases r;rw[aNm,OT t p,A5 h,aOl];congr 1;exact Bool.beq_comm ..
theorem Ia{pins:List (Addr×Obj)}{σ:St}{H:Hp}{s:Shared}{A:Around}{a:Addr}{ns:List Int}(I:Inv X pins σ H s)(ha:H a=some (.tup (ns.map V.int)))(hu:A.units<cLine):
  ∀{xs:List V} {us:List Value} {iT:List (List Int)},cJ xs us->aS H xs iT->∀u∈us,aQK A s u (.ref a) (vP H ns u)
 |_,_,_,.nil,.nil=>λu hu=>by cases hu
 | _,u::us,ms::iT,.cons r t,.cons q p=>λu' hu'=>by
  obtain⟨b,rfl,h⟩:=q
  cases r;rcases aMR.mp hu' with rfl|hu'
  ·rw[A5 h]
   exact uh I h ha hu
  ·exact Ia I ha hu t p u' hu'
def aHA(K:aMC)(neg:Bool):R2:=λx y H Q=>∃(p:Addr) (xs:List V) (a:Addr) (ns:List Int) (iT:List (List Int)),y=.ref p/\aZ K H p xs/\x=.ref a/\H a=some (.tup (ns.map V.int))/\aS H xs iT/\
 Q (.bl (if neg then !iT.contains ns else iT.contains ns)) H
def Iq{A:Around}(h:A.units+64<cLine):A.in1.units<cLine:=by
 show A.units+1<cLine;omega
def JA(hu:X.A.units+64<cLine):GR X (compareOp .NotIn) (aHA X.K true):=by
 intro pins s σ H x y v u Q I rx ry h;obtain⟨p,xs,a,ns,iT,rfl,hq,rfl,ha,ht,q⟩:=h;cases rx;cases ry;obtain⟨bN,r,pl,hz⟩:=I.list hq;refine SeqAt.notIn_listAt (vP H ns) pl.isList (λw hw=>Ia I ha (Iq hu) r ht w (by simpa using hw)) ⟨.bl _,H,I,rfl,?_⟩
 rw[show bN.toArray.any (vP H ns)=bN.any (vP H ns)by simp,OT r ht]
 exact q
theorem aS.get{H:Hp}:∀{xs:List V} {iT:List (List Int)} {i:Nat} {ns:List Int},aS H xs iT->iT[i]?=some ns->∃a,xs[i]?=some (.ref a)/\H a=some (.tup (ns.map V.int))
 |_,_,_,_,.nil,e=>by simp at e
 | _,_,0,_,.cons q _,e=>by
  simp at e;subst e
  obtain⟨a,rfl,h⟩:=q
  exact⟨a,rfl,h⟩
 | _,_,i+1,ns,.cons _ t,e=>by
  obtain⟨a,h1,h2⟩:=aS.get (i:=i) (ns:=ns) t (by simpa using e)
  exact⟨a,by simpa using h1,h2⟩
theorem aS.length{H:Hp}{xs:List V}{iT:List (List Int)}(h:aS H xs iT):xs.length=iT.length:=aPo h
def zl(K:aMC):V->List V->Hp->VK->Prop:=λx vs H Q=>∃(l:Addr) (xs:List V) (a:Addr) (ns:List Int) (iT:List (List Int)) (j:Nat),x=.ref l/\vs=[.ref a]/\aZ K H l xs/\H a=some (.tup (ns.map V.int))/\aS H xs iT/\
 iT[j]?=some ns/\(∀m,m<j->iT[m]?≠some ns)/\Q (.int (j:Nat)) H
def jx(hu:X.A.units+64<cLine):MtR X "list.index" (zl X.K):=by
 intro pins s σ H x xs v us Q I rx rxs h;obtain⟨l,ys,a,ns,iT,j,rfl,rfl,hs,ha,ht,hj,rJ,q⟩:=h;cases rx;cases rxs with
 | cons ry rt=>
  rename_i uy ut;cases rt;cases ry;obtain⟨bN,rv,⟨⟨cls,dd,data,sl⟩,n,ho,hc,hdn,hd⟩,cC⟩:=I.list hs;simp only at hc hd;subst hc hd;obtain⟨b,hb,hbt⟩:=ht.get hj;obtain⟨u,hu1,ru⟩:=rv.get hb;cases ru;obtain⟨Ke,Md⟩:=aM0.mp hu1;have hvl:=rv.length;have hjs:j<bN.toArray.size:=by simpa using Ke
  have CB:=sizeLine_eq;refine aPy aOo ⟨_,ho,rfl⟩ aQH (aQC _ _)
   (aQm l bN.toArray n dd sl (.ref a) (vP H ns) j hjs (by omega) ?_ ?_) ⟨ho,λu' hu'=>Ia I ha (Iq hu) rv ht u' (by simpa using hu'),?_⟩
  ·have e1:bN.toArray[j]=.ref b:=by simpa using Md
   rw[e1,A5 hbt]
   exact beq_self_eq_true ns
  ·intro m hm hmj;have GQ:m<bN.length:=by simpa using hm
   have hmn:m<iT.length:=by rw[<-ht.length];omega
   have hy':iT[m]?=some iT[m]:=aMK hmn;obtain⟨b2,hb2,aH2⟩:=ht.get hy';obtain⟨u2,Yj,vt⟩:=rv.get hb2;cases vt;obtain⟨_,vy⟩:=aM0.mp Yj;have e1:bN.toArray[m]=.ref b2:=by simpa using vy
   rw[e1,A5 aH2]
   have:iT[m]≠ns:=λe=>rJ m hmj (by rw[hy',e])
   simpa using this
  ·exact⟨.int (j:Nat),H,I.tok _,⟨_,rfl⟩,q⟩
def uq:V->List V->Hp->VK->Prop:=λx vs H Q=>∃l b xs zs,x=.ref l/\vs=[.ref b]/\H l=some (.lst xs)/\H b=some (.tup zs)/\xs.length+zs.length<=sizeLine/\Q .non (upd H l (.lst (xs++zs)))
def Ab:MtM X "list.extend" uq:=by
 intro pins s σ H x vs v us Q I rx rv h;obtain⟨l,b,xs,zs,rfl,rfl,hH,hB,hz,q⟩:=h;cases rx;obtain⟨u,rfl,ru⟩:=rv.one;cases ru;obtain⟨z,bN,n,r,hl,e⟩:=I.lstM hH;obtain⟨z2,Bz,r2,p2⟩:=(show eY X.prog X.w H s.heap b (.tup zs)from I.eI b _ hB);have xk:=r2.length;obtain⟨⟨cls,dd,data,sl⟩,e2,hc,n2,hd⟩:=p2;simp only at hc hd;subst hc hd;have hsz:bN.toArray.size+Bz.toArray.size<=sizeLine:=by rw[aM8,aM8];omega
 have Ya:¬(!bN.toArray.isEmpty&&aPl (bN.toArray.size+Bz.toArray.size))=true:=by
  rw[LX hsz,aNT]
  exact aMd
 refine aPy F.slot_list_extend ⟨_,e,rfl⟩ F.entry_list_extend (F.args_list_extend_2 _ _)
  (AutoSeq1.KW l bN.toArray n b Bz.toArray n2 dd sl Ya (by rw[aM8];omega) (by omega)) ⟨e,e2,?_⟩
 refine⟨.non,_,I.lset (its':=bN++Bz) hH e (by simp) (r.append r2) ?_,rfl,q⟩
 rw[aMH]
 omega
end
end L2
namespace L2
open PySem PySem.Spec PyProof.Rows
section
variable{prog:aPa}{w:aPc}{A:Around}
def iz(hh:A.handled=none)(it d:Addr)(y8:d≠it){o:Obj}{es:Array DictEntry}{ep:Nat}(hd:o.data=.dict es ep):
  Walks prog w A it [it,d] [it] es.size (λi v=>∃en,es[i]?=some en/\v=en.key) (λi h=>h.IsKeyIter it d i es.size ep/\h.get? d=some o) where
 sub:=λb hb=>by simp at hb;simp[hb]
 frame:=λ_ _ _ st hk=>⟨st.1.at λo e=>hk it (by simp) o e,hk d (by simp) o st.2⟩
 item:=λi s Q E hi st hQ=>by
  have hx:es[i]?=some es[i]:=by simp[hi]
  refine Nf st.1 st.2 hd rfl hx λh' st' sb=>?_;exact hQ _ h' s.toks ⟨_,hx,rfl⟩ ⟨st',(sb.2 d y8).trans st.2⟩ λb o hb e=>(sb.2 b (λh=>hb (by simp[h]))).trans e
 done:=λs Q E st hQ=>QX hh st.1 st.2 hd rfl (aMG _) λh' eb=>hQ h' s.toks λb o hb e=>eb b o (λh=>hb (by simp[h])) e
 self:=λ_ _ _ _ st hQ=>wpAny_pyIter_keyiter st.1 hQ
def ax{d:Addr}{o:Obj}{es:Array DictEntry}{ep:Nat}(lo:(d==sysModules)=false)(hx:o.ExactDict)(hd:o.data=.dict es ep):
  aR7 prog w "dict" d d es.size (λi v=>∃en,es[i]?=some en/\v=en.key) (λh=>h.get? d=some o) where
 type:=λ_ hm=>⟨o,hm,hx.1⟩
 there:=λ_ hm=>⟨aP8 hm,aP8 hm⟩
 keep:=λ_ _ hm hk=>hk d (.inl rfl) o hm
 notList:=by decide
 notTuple:=by decide
 hint:=λ_ _ s _ hm hq=>PySem.W.kdl_hint_dict (s:=s) ⟨o,hm,hx.1⟩ hq
 iter:=λ_ s hh hm=>⟨_,_,(λ_ _ hq=>jl lo hm hx hd hq),iz hh _ d (aNK (aP8 hm)) hd,⟨⟨_,aP9 _ rfl,rfl,rfl⟩,aP7 _ hm⟩⟩
end
section
variable{X:Cx}
def ZA(H:Hp):List V->List (List Key)->Prop:=Paired λv k=>∃a,v=.ref a/\H a=some (.tup (k.map kV))
theorem bz{H:Hp}:∀{bU:List (List Key×V)} {xs:List (List Key×Addr×Value)},Paired (fun(p:List Key×V) (q:List Key×Addr×Value)=>p.1=q.1/\H q.2.1=some (.tup (p.1.map kV))/\dG p.2 q.2.2) bU xs->
  ZA H (xs.map λq=>V.ref q.2.1) (bU.map (·.1))
 |_,_,.nil=>.nil
 |_,_,.cons r t=>.cons ⟨_,rfl,r.2.1⟩ (bz t)
theorem OQ:∀{as:List Addr} {us:List Value},us=as.map aPb->cJ (as.map V.ref) us
 |[],_,rfl=>.nil
 |a::as,_,rfl=>.cons rfl (OQ rfl)
def QT(hc:X.calm=true):uC X (.type "list") (λxs H Q=>∃d bU,xs=[.ref d]/\H d=some (.dT bU)/\∀l ms,H l=none->ZA H ms (bU.map (·.1))->Q (.ref l) (upd H l (.lst ms))):=by
 intro pins s σ H xs us Q I r h;obtain⟨d,bU,rfl,hd,q⟩:=h;obtain⟨u,rfl,rx⟩:=vals1 r;cases rx;obtain⟨hz,hs,ys,pr,o,es,ep,ho,hx,hdt,he,hnd⟩:=(show eY X.prog X.w H s.heap d (.dT bU)from I.eI d _ hd);have cC:es.size=ys.length:=by have:=congrArg aMi he;simpa using this
 have hlk:bU.length=ys.length:=aPo pr;refine PySem.W.kdl_call (ax hs hx hdt) (I.ok.hd hc) ho (by omega) λh' tk acc c hk hD By=>?_
 have aAX:acc.toList=(ys.map (·.2.1)).map aPb:=by
  apply aQw;intro j;by_cases hj:j<acc.size
  ·have hv:acc[j]?=some acc[j]:=by simp[hj]
   obtain⟨en,hen,Zu⟩:=By.2 j _ hv
   have hj2:j<ys.length:=by rw[<-cC,<-By.1];exact hj
   have e1:(ys.map (entryOfKey (tupleKind (f7 X.prog X.w))))[j]?=some en:=by rw[<-he,aPk];exact hen
   rw[aM4,aMK hj2]at e1
   have e2:entryOfKey (tupleKind (f7 X.prog X.w)) ys[j]=en:=aP6 e1;rw[aPk,hv,Zu,aM4,aM4,aMK hj2,<-e2];rfl
  ·have h1:acc.toList[j]?=none:=by rw[aPk];simp;omega
   have h2:((ys.map (·.2.1)).map aPb)[j]?=none:=by
    apply aOB;rw[aLx,aLx,<-cC,<-By.1];omega
   rw[h1,h2]
 have hv:cJ ((ys.map (·.2.1)).map V.ref) acc.toList:=OQ aAX;have hls:((ys.map (·.2.1)).map V.ref).length<=sizeLine:=by rw[aLx,aLx];omega
 refine⟨.ref s.heap.objs.size,_,I.laid (t':=tk) hk (aMG _) (show eY X.prog X.w _ h' _ (.lst ((ys.map (·.2.1)).map V.ref))from⟨hls,acc.toList,c,hv,by simpa using hD⟩),rfl,q _ _ (I.eI.fresh (aMG _)) ?_⟩
 have:=bz pr
 rw[aNn]
 exact this
end
end L2
namespace L2
open PySem PySem.Spec PyProof.Rows
section
variable{prog:aPa}{w:aPc}{A:Around}{E:Value->Shared->Prop}{s:Shared}{d:Addr}{o:Obj}{es:Array DictEntry}{ep:Nat}
def N9(hd:(d==sysModules)=false)(ki:o.data=.dict es ep):
  MeetsIn prog w (Builtin.«dict.__len__» ⟨[.ref d],[]⟩) (λ_ R s=>s.heap.get? d=some o/\R (.ok (.ret (.int es.size s.toks))) { s with toks:=s.toks+1 }):=
 .of_wp λA R s ⟨ho,h⟩=>by
  show wpAny _ _ (dictSize d >>=_) _ _ s;unfold dictSize;refine wpAny_bind (wpAny_bind (aQR ho ki (wpAny_pure ?_)));show wpAny _ _ (Builtin.Dict.pendingCount d >>=_) _ _ s;refine wpAny_bind (wpAny_pendingCount_other hd ?_);refine wpAny_ret_mkInt ?_;rw[Nat.add_zero];exact h
def yy{Q:Value->Shared->Prop}(hd:(d==sysModules)=false)(ho:s.heap.get? d=some o)(hx:o.ExactDict)(ki:o.data=.dict es ep)(aFm:(es.size:Int)<2 ^ 63)
  (h:Q (.int es.size (s.toks+1)) { s with toks:=s.toks+1+1 }):wpAny (model prog w) A (call (.builtin "len") [.ref d]) Q E s:=by
 have hT:s.TypeIs (.ref d) "dict":=⟨o,ho,hx.1⟩;refine aQx kind_len plain_len entry_len (args_len1 _) ?_;unfold Builtin.«len»;refine wpAny_bind (m:=oneArg "len" _) (wpAny_pure ?_);refine wpAny_bind (m:=callSpecial? (.ref d) (aQ6 "__len__")) (aQO (name:=aQ6 "__len__") hT F.slot_dict_len
  (call_meetsIn F.slot_dict_len hT F.entry_dict_len (F.args_dict_len_1 _) (N9 hd ki) ⟨ho,?_⟩))
 show wpAny _ _ _ _ _ { s with toks:=s.toks+1 };refine wpAny_bind (aPz (wpAny_pure ?_));refine wpAny_bind (wpAny_letGo ?_);show wpAny _ _ (if((es.size:Nat):Int)<0 then _ else _) _ _ _
 rw[if_neg (by omega)]
 show wpAny _ _ (if((es.size:Nat):Int)>=2 ^ 63 then _ else _) _ _ _
 rw[if_neg (by omega)]
 exact wpAny_bind (wpAny_mkInt (wpAny_pure ⟨_,rfl,h⟩))
end
section
variable{X:Cx}
def gn:uC X (.builtin "len") (λxs H Q=>∃d bU,xs=[V.ref d]/\H d=some (.dT bU)/\Q (.int bU.length) H):=by
 intro pins s σ H xs us Q I r h;obtain⟨d,bU,rfl,hd,q⟩:=h;obtain⟨u,rfl,rx⟩:=vals1 r;cases rx;obtain⟨hz,hs,ys,pr,o,es,ep,ho,hx,hdt,he,hnd⟩:=(show eY X.prog X.w H s.heap d (.dT bU)from I.eI d _ hd);have cC:es.size=bU.length:=by
  have:=congrArg aMi he
  have h2:bU.length=ys.length:=aPo pr;simp at this;omega
 refine yy hs ho hx hdt (by rw[sizeLine_eq]at hz;omega) ⟨.int bU.length,H,I.tok _,⟨s.toks+1,by rw[cC]⟩,q⟩
end
def uI{K:aMC}{a:Addr}{xs:List V}{g:TG}{tb:TS}{D:IH}{σ:St}{H:Hp}(Pv:Nat->St->Hp->Prop)(h0:Pv 0 σ H)(hl:∀i σ H,i<=xs.length->Pv i σ H->aZ K H a xs)
  (hs:∀i x σ H t,xs[i]?=some x->Pv i σ H->H t=none->g (.ref t) σ (upd H t (.tup [.int (i:Nat),x])) fun σ2 H2=>tb { D with nx:=Pv (i+1),ct:=Pv (i+1),bk:=D.nx } σ2 H2) (hd:∀σ H,Pv xs.length σ H->D.nx σ H):
  ∃W:Nat->Nat->St->Hp->Prop,(∃m,W 0 m σ H)/\∀i m σ H,W i m σ H->
   ((Ite K a).stop i H/\D.nx σ H)\/((Ite K a).go i H/\∃N:St->Hp->Prop,(∀σ' H',N σ' H'->∃m',m'<m/\W (i+1) m' σ' H')/\∀x H',(Ite K a).kx i H x H'->g x σ H' fun σ2 H2=>tb { D with nx:=N,ct:=N,bk:=D.nx } σ2 H2):=by
 refine⟨λi m σ H=>m=xs.length-i/\i<=xs.length/\Pv i σ H,⟨xs.length,by simp,aM1 _,h0⟩,?_⟩
 rintro i m σ H ⟨rfl,hi,p⟩;have q:=hl i σ H hi p;by_cases jZ:i<xs.length
 ·refine .inr ⟨⟨xs,xs[i],q,by simp[jZ]⟩,Pv (i+1),fun σ' H' p'=>⟨xs.length-(i+1),by omega,rfl,jZ,p'⟩,λx H' y=>?_⟩
  obtain⟨t,z,rfl,ht,rfl,hz⟩:=y
  exact hs i z σ H t (hz xs q) p ht
 ·have e:i=xs.length:=by omega
  subst e;exact .inl ⟨⟨xs,q,aMG _⟩,hd σ H p⟩
end L2
namespace L2
open PySem PySem.Spec PyProof.Rows
section
variable{X:Cx}
def aDy(K:aMC):R2:=λx y H Q=>∃(a b:Addr) (ns ms:List Int),x=.ref a/\y=.ref b/\aZ K H a (ns.map V.int)/\aZ K H b (ms.map V.int)/\Q (.bl (!decide (ns=ms))) H
def aBz(hu:X.A.units+64<cLine):GR X (compareOp .NotEq) (aDy X.K):=by
 intro pins s σ H x y v u Q I rx ry h;obtain⟨a,b,ns,ms,rfl,rfl,ha,hb,q⟩:=h;cases rx;cases ry;obtain⟨bN,r1,p1,_⟩:=I.list ha;obtain⟨Bz,r2,p2,_⟩:=I.list hb;exact PySem.W.ne_intsK p1.isList (Ai r1) p2.isList (Ai r2) hu ⟨.bl _,H,I,rfl,q⟩
end
end L2
namespace L2
open PySem PySem.Spec PyProof.Rows PyProof.Rows.G
section
variable{prog:aPa}{w:aPc}{A:Around}{E:Value->Shared->Prop}{s:Shared}{T:String}{r d:Addr}{n:Nat}{P:Nat->Value->Prop}{OK:Heap->Prop}
def Z8{Q:List Value->Shared->Prop}(Ks:aR7 prog w T r d n P OK)(hh:A.handled=none)(eI:OK s.heap)(hn:n<=sizeLine)
  (hQ:∀h' tk acc,(∀b o,s.heap.get? b=some o->h'.get? b=some o)->s.heap.objs.size<=h'.objs.size->ItemsOf P acc n->Q acc.toList { s with heap:=h',toks:=tk }):
  wpAny (model prog w) A (collect (.ref r)) Q E s:=by
 unfold collect;refine wpAny_bind (wpAny_runValue (codeAny_builtin entry_proto_collect' ?_));show wpAny _ _ (newList [] >>=λz=>again (.builtin "list.__iadd__" ⟨[z,.ref r],[]⟩)) _ _ s;refine wpAny_bind (wpAny_newList (wpAny_pure ⟨Code.quiet_builtin _ (by decide +kernel),codeAny_builtin entry_list_iadd' ?_⟩))
 have hS:(s.heap.push (seqObj "list" #[] 0)).get? s.heap.objs.size=some (seqObj "list" #[] 0):=aP9 _ rfl;have jZ:=Ks.there _ eI;have ext:=PySem.W.kdl_extend (A:=A) (R:=λr s'=>match r with
  | .ok (.ret v)=>wpAny (model prog w) A (match v with
   | .ref a=>load a >>=λo=>(match o.data with
    |.seq xs _=>pure xs.toList
    |_=>unsupported "internal:collect")
   |_=>unsupported "internal:collect") Q E s'
  |.ok _=>False
  |.error e=>E e s') (s:={ s with heap:=s.heap.push (seqObj "list" #[] 0) }) Ks hh (Ks.keep _ _ eI λb _ o e=>aP7 _ e) s.heap.objs.size (aPQ jZ.1) (aPQ jZ.2) (.ref s.heap.objs.size) 0 hS (λh' tk acc c hk hS' By=>wpAny_bind (wpAny_load hS' (wpAny_pure (hQ h' tk acc (λb o e=>hk b o (aNK (aP8 e)) (aP7 _ e)) (aMm (aP8 hS')) By)))) hn
 exact ext
def gg{shape:Nat->Bool}{vs fs:List Value}{Q:Value->Shared->Prop}(Ks:aR7 prog w T r d n P OK)(hh:A.handled=none)(eI:OK s.heap)(hn:n<=sizeLine)
  (hvs:∀acc,ItemsOf P acc n->acc.toList=vs) (ht:TupsOf s.heap shape vs fs) (hk:∀v,v∈vs->∃l,tupKeyC s.heap shape v=some l) (hL:vs.length<=sizeLine)
  (h:∀(st':SortSt) (l:Addr) (h':Heap) (tk e:Nat),(arrOf st').Perm (pairsOf vs)->SortedToK (tupKindC s.heap shape) (arrOf st') (pairsOf vs).size->s.heap.objs.size<=l->(∀b o,s.heap.get? b=some o->h'.get? b=some o)->
   h'.get? l=some (seqObj "list" ((arrOf st').map (·.2)) e)->Q (.ref l) { s with heap:=h',toks:=tk }):
  wpAny (model prog w) A (call (.builtin "sorted") [.ref r]) Q E s:=by
 refine aQx kind_sorted plain_sorted entry_sorted (args_sorted1 _) ?_;unfold Builtin.«sorted»;refine wpAny_bind (m:=checkCount "sorted" 1 1 _) (wpAny_pure ?_);refine wpAny_bind (Z8 Ks hh eI hn λh1 tk acc Oj hsz By=>?_);rw[hvs acc By];refine wpAny_bind (wpAny_newList ?_);have hoL:(h1.push (seqObj "list" vs.toArray 0)).get? h1.objs.size=some (seqObj "list" vs.toArray 0):=aP9 _ rfl;have k0:KeepsTups s.heap (h1.push (seqObj "list" vs.toArray 0)):=λb o e _=>aP7 _ (Oj b o e);have k6:=k0.trans (keeps_sort6 (vs:=vs) hoL);show wpAny _ _ _ _ _ { s with heap:=h1.push (seqObj "list" vs.toArray 0),toks:=tk };refine wpAny_bind (aPz (aQU slot_list_sort ⟨_,hoL,rfl⟩ entry_list_sort (list_sort_treeG (s:={ s with heap:=h1.push (seqObj "list" vs.toArray 0),toks:=tk }) (κ:=tupKindC s.heap shape) (kd:=tuples' true) hoL (tupKeys hk) ?ordG ?keyG hL λst' a1 a2 a3=>⟨_,rfl,?retG⟩) (args_list_sort _)))
 case ordG=>exact tupC_ltAt true k6
 case keyG=>
  intro h2 R hq;exact tup_kind (by rw[TupsOf.length ht];omega) (TupsOf.keep k6 ht) hq
 case retG=>
  obtain⟨e,he⟩:=sortedHeap_at (out:=(arrOf st').map (·.2)) hoL
  refine wpAny_pure ⟨_,rfl,h st' h1.objs.size _ tk e a1 a2 hsz (λb o q=>?_) he⟩;have hb:b<h1.objs.size:=aP8 (Oj b o q);rw[sortedHeap_old (aNK hb) (by rw[size_push'];exact aPV hb)]
  exact aP7 _ (Oj b o q)
end
def QY{α β:Type}(g:α->β){x y:List β}(h:x.Perm y):∀l:List α,x=l.map g->∃m:List α,m.Perm l/\m.map g=y:=by
 induction h with
 |nil=>intro l e;exact⟨l,.refl _,e.symm⟩
 | cons a _ ih=>
  intro l e
  match l,e with
  | b::l,e=>
   rw[aM2]at e
   injection e with e1 e2;obtain⟨m,h1,h2⟩:=ih l e2;exact⟨b::m,h1.cons b,by rw[aM2,h2,e1]⟩
 | swap a b _=>
  intro l e
  match l,e with
  | c::d::l,e=>
   rw[aM2,aM2]at e
   injection e with e1 e2;injection e2 with e2 e3;exact⟨d::c::l,List.Perm.swap c d l,by rw[aM2,aM2,e1,e2,e3]⟩
 | trans _ _ ih1 ih2=>
  intro l e;obtain⟨m,h1,h2⟩:=ih1 l e;obtain⟨m',h3,h4⟩:=ih2 m h2.symm;exact⟨m',h3.trans h1,h4⟩
theorem Ea:∀{ns:List Int} {us:List Value} (i:Nat),cJ (ns.map V.int) us->tupItems (λ_=>false) i us=some (ns.map aPd)
 |[],_,_,.nil=>rfl
 | a::ns,_,i,.cons r t=>by
  obtain⟨tk,rfl⟩:=r
  show(if(false:Bool)=true then none else(tupItems (λ_=>false) (i+1) _).map (aPd a::·))=_
  rw[if_neg aMd,Ea (i+1) t]
  rfl
section
variable{X:Cx}
def dj{pins:List (Addr×Obj)}{σ:St}{H:Hp}{s:Shared}{a:Addr}{ns:List Int}(I:Inv X pins σ H s)(ha:H a=some (.tup (ns.map V.int))):tupKeyC s.heap (λ_=>false) (.ref a)=some (ns.map aPd):=by
 obtain⟨_,bN,r,o,e,hc,n2,hd⟩:=(show eY X.prog X.w H s.heap a (.tup (ns.map V.int))from I.eI a _ ha)
 unfold tupKeyC isTupObj tupKey;simp only[e,hc,hd];rw[if_pos (by decide)]
 simpa using Ea 0 r
def gj{pins:List (Addr×Obj)}{σ:St}{H:Hp}{s:Shared}{a:Addr}{n:Int}{ns:List Int}(I:Inv X pins σ H s)(ha:H a=some (.tup ((n::ns).map V.int))):∃f,TupOf s.heap (λ_=>false) (.ref a) f:=by
 obtain⟨_,bN,r,o,e,hc,n2,hd⟩:=(show eY X.prog X.w H s.heap a (.tup ((n::ns).map V.int))from I.eI a _ ha)
 cases r with
 | cons r1 r2=>
  obtain⟨t,rfl⟩:=r1
  exact⟨_,a,o,_,n2,rfl,e,hc,hd,rfl,λ_=>⟨n,t,rfl⟩,λz=>absurd z aMd⟩
theorem Lk{pins:List (Addr×Obj)}{σ:St}{H:Hp}{s:Shared}(I:Inv X pins σ H s):∀FP:List (List Int×Addr),(∀p∈FP,H p.2=some (.tup (p.1.map V.int))/\p.1≠[])->∃fs,TupsOf s.heap (λ_=>false) (FP.map λp=>aPb p.2) fs
 |[],_=>⟨[],.nil⟩
 | (ns,a)::l,h=>by
  obtain⟨fs,t⟩:=Lk I l λp hp=>h p (aMM _ hp)
  obtain⟨h1,h2⟩:=h (ns,a) aMN
  match ns,h1,h2 with
  | n::ns,h1,_=>
   obtain⟨f,q⟩:=gj I h1
   exact⟨f::fs,.cons q t⟩
def gk:List V->Hp->VK->Prop:=λvs H Q=>∃(d:Addr) (bU:List (List Key×V)) (iT:List (List Int)),vs=[.ref d]/\H d=some (.dT bU)/\bU.map (·.1)=iT.map (λns=>ns.map aPd)/\(∀ns∈iT,ns≠[])/\
 ∀(l:Addr) (ms:List V) (nss':List (List Int)),H l=none->aS H ms nss'->nss'.Perm iT->(∀(i j:Nat) (a b:List Int),i<=j->nss'[i]?=some a->nss'[j]?=some b->PyProof.Rows.lexLt itemOrd (b.map aPd) (a.map aPd)=false)->Q (.ref l) (upd H l (.lst ms))
theorem ON{H:Hp}:∀FP:List (List Int×Addr),(∀p∈FP,H p.2=some (.tup (p.1.map V.int)))->aS H (FP.map λp=>V.ref p.2) (FP.map (·.1))
 |[],_=>.nil
 |p::l,h=>.cons ⟨_,rfl,h p aMN⟩ (ON l λq hq=>h q (aMM _ hq))
def QC(FP:List (List Int×Addr)):cJ (FP.map λp=>V.ref p.2) (FP.map λp=>aPb p.2):=by
 induction FP with
 |nil=>exact .nil
 |cons p l ih=>exact .cons rfl ih
theorem ql{H:Hp}:∀{bU:List (List Key×V)} {xs:List (List Key×Addr×Value)} {iT:List (List Int)},Paired (fun(p:List Key×V) (q:List Key×Addr×Value)=>p.1=q.1/\H q.2.1=some (.tup (p.1.map kV))/\dG p.2 q.2.2) bU xs->bU.map (·.1)=iT.map (λns=>ns.map aPd)->
  ∃FP:List (List Int×Addr),FP.map (·.1)=iT/\FP.map (·.2)=xs.map (·.2.1)/\∀p∈FP,H p.2=some (.tup (p.1.map V.int))
 |_,_,[],.nil,_=>⟨[],rfl,rfl,λ_ h=>by cases h⟩
 |_,_,_::_,.nil,e=>by simp at e
 |_,_,[],.cons _ _,e=>by simp at e
 | _,_,ns::iT,.cons r t,e=>by
  rw[aM2,aM2]at e
  injection e with e1 e2;obtain⟨FP,h1,h2,h3⟩:=ql t e2;refine⟨(ns,_)::FP,by rw[aM2,h1],by rw[aM2,aM2,h2],λp hp=>?_⟩
  rcases aMR.1 hp with rfl|hp
  ·have:=r.2.1
   rw[e1,aNn]at this
   exact this
  ·exact h3 p hp
def XZ(hc:X.calm=true):uC X (.builtin "sorted") gk:=by
 intro pins s σ H xs us Q I r h;obtain⟨d,bU,iT,rfl,hd,hks,y8,q⟩:=h;obtain⟨u,rfl,rx⟩:=vals1 r;cases rx;obtain⟨hz,hs,ys,pr,o,es,ep,ho,hx,hdt,he,hnd⟩:=(show eY X.prog X.w H s.heap d (.dT bU)from I.eI d _ hd);have cC:es.size=ys.length:=by have:=congrArg aMi he;simpa using this
 have hlk:bU.length=ys.length:=aPo pr;obtain⟨FP,p1,p2,p3⟩:=ql pr hks;have AJ:FP.length=ys.length:=by have:=congrArg aMi p2;simpa using this
 have rG:∀p∈FP,H p.2=some (.tup (p.1.map V.int))/\p.1≠[]:=λp hp=>⟨p3 p hp,y8 _ (by rw[<-p1];exact aOb hp)⟩
 obtain⟨fs,xn⟩:=Lk I FP rG
 have hvs:∀acc:Array Value,ItemsOf (λi v=>∃en,es[i]?=some en/\v=en.key) acc es.size->acc.toList=FP.map λp=>aPb p.2:=by
  intro acc By;have e0:(FP.map λp=>aPb p.2)=(ys.map (·.2.1)).map aPb:=by rw[<-p2,aNn];rfl
  rw[e0]
  apply aQw;intro j;by_cases hj:j<acc.size
  ·have hv:acc[j]?=some acc[j]:=by simp[hj]
   obtain⟨en,hen,Zu⟩:=By.2 j _ hv
   have hj2:j<ys.length:=by rw[<-cC,<-By.1];exact hj
   have e1:(ys.map (entryOfKey (tupleKind (f7 X.prog X.w))))[j]?=some en:=by rw[<-he,aPk];exact hen
   rw[aM4,aMK hj2]at e1
   have e2:entryOfKey (tupleKind (f7 X.prog X.w)) ys[j]=en:=aP6 e1;rw[aPk,hv,Zu,aM4,aM4,aMK hj2,<-e2];rfl
  ·rw[aOB (by rw[aPj];omega),aOB (by rw[aLx,aLx,<-cC,<-By.1];omega)]
 have Zu:∀v,v∈(FP.map λp=>aPb p.2)->∃l,tupKeyC s.heap (λ_=>false) v=some l:=by
  intro v hv;obtain⟨p,hp,rfl⟩:=aNG.1 hv;exact⟨_,dj I (p3 p hp)⟩
 refine gg (ax hs hx hdt) (I.ok.hd hc) ho (by omega) hvs xn Zu (by rw[aLx];omega) λst' l h' tk e hp hso hl hk EJ=>?_
 have Y0:((arrOf st').toList.map (·.2)).Perm ((FP.map λp=>(aPb p.2))):=by
  have h1:(arrOf st').toList.Perm (pairsOf (FP.map λp=>aPb p.2)).toList:=Array.Perm.toList hp;have h2:=h1.map (·.2);rw[pairsOf_toList]at h2;have e3:((FP.map λp=>aPb p.2).zip (FP.map λp=>aPb p.2)).map (·.2)=FP.map λp=>aPb p.2:=by
   rw[List.map_snd_zip];exact aMG _
  rw[e3]at h2
  exact h2
 obtain⟨prs',hpp,hpm⟩:=QY (λp:List Int×Addr=>aPb p.2) Y0.symm FP rfl
 have hin':∀p∈prs',H p.2=some (.tup (p.1.map V.int)):=λp hp=>p3 p (hpp.mem_iff.1 hp);have hv:cJ (prs'.map λp=>V.ref p.2) ((arrOf st').map (·.2)).toList:=by
  rw[Array.toList_map,<-hpm];exact QC prs'
 have hls:(prs'.map λp=>V.ref p.2).length<=sizeLine:=by rw[aLx,hpp.length_eq];omega
 have hat':h'.get? l=some (seqObj "list" ((arrOf st').map (·.2)).toList.toArray e):=by rw[Array.toArray_toList];exact EJ
 refine⟨.ref l,_,I.laid (t':=tk) (o:=.lst (prs'.map λp=>V.ref p.2)) hk hl ⟨hls,_,e,hv,hat'⟩,rfl,q l _ (prs'.map (·.1)) (I.eI.fresh hl) (ON prs' hin') (by rw[<-p1];exact hpp.map _) ?_⟩
 intro i j a b hij hi hj;have hsz:(pairsOf (FP.map λp=>aPb p.2)).size=FP.length:=by rw[pairsOf_size,aLx]
 rw[aM4]at hi hj
 obtain⟨pa,ha,rfl⟩:=aOp.1 hi
 obtain⟨pb,hb,rfl⟩:=aOp.1 hj
 have Ke:j<prs'.length:=(aM0.mp hb).1;have:=hso i j hij (by rw[hsz,<-hpp.length_eq];exact Ke)
 have kk:∀m p,prs'[m]?=some p->KK (tupKindC s.heap λ_=>false) (arrOf st') m=p.1.map aPd:=by
  intro m p hm;have e1:((arrOf st').toList.map (·.2))[m]?=some (aPb p.2):=by rw[<-hpm,aM4,hm];rfl
  rw[aM4]at e1
  obtain⟨kd,hkd,hke⟩:=aOp.1 e1
  have EU:kd∈(pairsOf (FP.map λp=>aPb p.2)).toList:=(Array.Perm.toList hp).mem_iff.1 (aMZ hkd);rw[pairsOf_toList]at EU;have e2:kd.1=kd.2:=(mem_zip_self EU).1;unfold KK;rw[<-aPk,hkd];show(tupKeyC s.heap (λ_=>false) kd.1).getD []=_;rw[e2,hke,dj I (hin' p (aMZ hm))];rfl
 rw[kk i pa ha,kk j pb hb]at this
 exact this
end
end L2
namespace L2
open PySem PySem.Spec PyProof.Rows
section
variable{X:Cx}
def MM(K:aMC)(hK:X.K=K:=by rfl):uC X (.type "tuple") (λxs H Q=>∃p ys,xs=[.ref p]/\((aZ K H p ys/\∀l,H l=none->Q (.ref l) (upd H l (.tup ys)))\/(eE K H p ys/\Q (.ref p) H))):=by
 subst hK;exact i8
def sj(K:aMC)(hK:X.K=K:=by rfl):SlR X (aBc K):=by
 subst hK;exact AR
def NZ(K:aMC)(hK:X.K=K:=by rfl):GR X (compareOp .NotIn) (rIn K true):=by
 subst hK;exact Pb
def aCA(K:aMC):R2:=λx y H Q=>∃a b xs ys,x=.ref a/\y=.ref b/\eE K H a xs/\eE K H b ys/\ys≠[]/\xs.length+ys.length<=sizeLine/\
 (xs=[]->Q (.ref b) H)/\(xs≠[]->∀p,H p=none->Q (.ref p) (upd H p (.tup (xs++ys))))
def tu:GR X (binaryOp .Add) (aCA X.K):=by
 intro pins s σ H x y v u Q I rx ry h;obtain⟨a,b,xs,ys,hx,hy,ha,hb,hn,hz,q1,q2⟩:=id h;by_cases e:xs=[]
 ·subst hx hy;cases rx;cases ry;obtain⟨bN,r1,p1,_⟩:=I.tuple ha;obtain⟨Bz,r2,p2,_⟩:=I.tuple hb;have e1:bN=[]:=r1.nil_iff.mpr e;obtain⟨⟨cls,dd,data,sl⟩,ho,hc,n,hd⟩:=p1;obtain⟨⟨aEv,dd2,aB3,sl2⟩,xo,Yk,n2,Bs⟩:=p2;simp only at hc hd Yk Bs;subst hc hd Yk Bs;exact concat_meets ⟨_,ho,rfl⟩ ⟨_,xo,rfl⟩ aRG seq_tuple_add aQT aQN (aQG _ _)
   (tuple_addW0 a b bN.toArray Bz.toArray n n2 dd dd2 sl sl2 (by simp[e1])) ⟨ho,xo,.ref b,H,I,rfl,q1 e⟩
 ·exact zt pins s σ H x y v u Q I rx ry ⟨a,b,xs,ys,hx,hy,ha,hb,e,hz,λz=>absurd z hn,λ_=>q2 e⟩
def gu{pins:List (Addr×Obj)}{σ:St}{H:Hp}{s:Shared}{A:Around}{a b:Addr}{ns ms:List Int}(I:Inv X pins σ H s)(hab:a≠b)(ha:eE X.K H a (ns.map V.int))(hb:eE X.K H b (ms.map V.int))(hu:A.units<cLine):
  aQK A s (.ref a) (.ref b) (ns==ms):=by
 refine aSK hab ?_;obtain⟨bN,r,p,_⟩:=I.tuple ha;obtain⟨its',r',p',_⟩:=I.tuple hb;have l1:ns.length=bN.length:=by have:=r.length;rwa [aLx]at this
 have l2:ms.length=its'.length:=by have:=r'.length;rwa [aLx]at this
 have q:=SeqAt.RcAt.tuples (A:=A) (e:=λj=>ns.getD j 0==ms.getD j 0) p p' hu (λj h1 h2=>by
  have h1':j<bN.length:=by simpa using h1
  have h2':j<its'.length:=by simpa using h2
  obtain⟨u,hu1,ru⟩:=r.get (i:=j) (x:=V.int (ns.getD j 0)) (by
   rw[aM4,aMW,aMK (by omega:j<ns.length)];rfl)
  obtain⟨u',Yj,ru'⟩:=r'.get (i:=j) (x:=V.int (ms.getD j 0)) (by
   rw[aM4,aMW,aMK (by omega:j<ms.length)];rfl)
  have e1:bN.toArray[j]=u:=by
   rw[aMK h1']at hu1
   simpa using hu1
  have e2:its'.toArray[j]=u':=by
   rw[aMK h2']at Yj
   simpa using Yj
  rw[e1,e2]
  obtain⟨t,rfl⟩:=ru
  obtain⟨t',rfl⟩:=ru'
  exact aQF _ t _ t')
 have z:((aME (min bN.toArray.size its'.toArray.size)).all (λj=>ns.getD j 0==ms.getD j 0)&&bN.toArray.size==its'.toArray.size)=(ns==ms):=by
  rw[aM8,aM8,<-l1,<-l2]
  exact Jk ns ms
 rw[z]at q
 exact q
def FT(a:Addr):Value->Bool
 |.ref b=>decide (b=a)
 |_=>false
def yj(K:aMC):V->List V->Hp->VK->Prop:=λx vs H Q=>∃(l:Addr) (xs:List V) (a:Addr) (j:Nat),x=.ref l/\vs=[.ref a]/\aZ K H l xs/\eE K H a []/\
 (∀m v,m≠j->xs[m]?=some v->∃b ns,v=.ref b/\eE K H b (ns.map V.int)/\ns≠[])/\xs[j]?=some (.ref a)/\Q (.int (j:Nat)) H
def jw{pins:List (Addr×Obj)}{σ:St}{H:Hp}{s:Shared}{a b:Addr}{ns:List Int}(I:Inv X pins σ H s)(ha:eE X.K H a [])(hb:eE X.K H b (ns.map V.int))(hn:ns≠[]):b≠a:=by
 rintro rfl;obtain⟨bN,r,⟨o,ho,_,n,hd⟩,_⟩:=I.tuple ha;obtain⟨its',r',⟨o',ho',_,n',hd'⟩,_⟩:=I.tuple hb;rw[ho]at ho';injection ho' with ho';subst ho';rw[hd]at hd';injection hd' with hd' _;have l1:=r.length;have l2:=r'.length;have e:bN.length=its'.length:=by have:=congrArg Array.size hd';simpa using this
 rw[aLx]at l2
 have:ns.length=0:=by rw[l2,<-e,<-l1];rfl
 exact hn (aNU.1 this)
def jf(hu:X.A.units+64<cLine):MtR X "list.index" (yj X.K):=by
 intro pins s σ H x xs v us Q I rx rxs h;obtain⟨l,ys,a,j,rfl,rfl,hs,ha,aIc,hj,q⟩:=h;have iS:∀m v,ys[m]?=some v->(m=j/\v=.ref a)\/∃b ns,v=.ref b/\b≠a/\eE X.K H b (ns.map V.int)/\ns≠[]:=by
  intro m v hv;by_cases e:m=j
  ·subst e;rw[hj]at hv;exact .inl ⟨rfl,(aP6 hv).symm⟩
  ·obtain⟨b,ns,h1,h2,h3⟩:=aIc m v e hv
   exact .inr ⟨b,ns,h1,jw I ha h2 h3,h2,h3⟩
 cases rx;cases rxs with
 | cons ry rt=>
  cases rt;cases ry;obtain⟨bN,rv,⟨⟨cls,dd,data,sl⟩,n,ho,hc,hdn,hd⟩,cC⟩:=I.list hs;simp only at hc hd;subst hc hd;obtain⟨u,hu1,ru⟩:=rv.get hj;cases ru;obtain⟨Ke,Md⟩:=aM0.mp hu1;have hvl:=rv.length;have hjs:j<bN.toArray.size:=by simpa using Ke
  have CB:=sizeLine_eq;have aHs:∀u'∈bN,aQK X.A.in1 s u' (.ref a) (FT a u'):=by
   intro u' hu';obtain⟨m,hm,vy⟩:=aNa hu';have GQ:m<ys.length:=by omega
   have hy:ys[m]?=some ys[m]:=aMK GQ;obtain⟨u2,Yj,vt⟩:=rv.get hy;rw[aMK hm,vy]at Yj;injection Yj with Yj;subst Yj;rcases iS _ _ hy with⟨_,e⟩|⟨b,ns,e,hba,hb,y8⟩
   ·rw[e]at vt
    cases vt;have:FT a (.ref a)=true:=by unfold FT;simp
    rw[this]
    exact aRN _
   ·rw[e]at vt
    cases vt;have e1:FT a (.ref b)=(ns==[]):=by
     show decide (b=a)=(ns==[]);rw[decide_eq_false hba];cases ns with
     |nil=>exact absurd rfl y8
     |cons _ _=>rfl
    rw[e1]
    exact gu (ms:=[]) I hba hb ha (Iq hu)
  refine aPy aOo ⟨_,ho,rfl⟩ aQH (aQC _ _)
   (aQm l bN.toArray n dd sl (.ref a) (FT a) j hjs (by omega) ?_ ?_) ⟨ho,λu' hu'=>aHs u' (by simpa using hu'),?_⟩
  ·have e1:bN.toArray[j]=.ref a:=by simpa using Md
   rw[e1]
   unfold FT;simp
  ·intro m hm hmj;have GQ:m<bN.length:=by simpa using hm
   have hy:ys[m]?=some (ys[m]'(by omega)):=aMK (by omega)
   obtain⟨u2,Yj,vt⟩:=rv.get hy
   obtain⟨_,vy⟩:=aM0.mp Yj
   have e1:bN.toArray[m]=u2:=by simpa using vy
   rw[e1]
   rcases iS _ _ hy with⟨e,_⟩|⟨b,ns,e,hba,hb,y8⟩
   ·omega
   ·rw[e]at vt
    cases vt;unfold FT;exact decide_eq_false hba
  ·exact⟨.int (j:Nat),H,I.tok _,⟨_,rfl⟩,q⟩
end
def jy{lo c:Int}{n:Nat}{g:TG}{tt:TT}{te:TE}{vs:List Nat}{σ:St}{H1:Hp}{D:Addr}{Qd:Hp->Prop}(Pv:Nat->Hp->Prop)(h0:Pv 0 (upd H1 D (.lst [])))
  (hs:∀i H,i<n->Pv i H->g (.int (lo+(i:Nat)*c)) (wipe σ vs) H fun σ2 H2=>wipe σ2 vs=wipe σ vs/\tt σ2 H2 λb H3=>
   if b=true then te σ2 H3 λy H4=>∃acc,H4 D=some (.lst acc)/\acc.length<sizeLine/\Pv (i+1) (upd H4 D (.lst (acc++[y])))else Pv (i+1) H3) (hd:∀H,Pv n H->Qd H):
  ∃W:Nat->Nat->Hp->Prop,(∃m,W 0 m (upd H1 D (.lst [])))/\∀i m H,W i m H->
   ((Itc lo c n).stop i H/\Qd H)\/((Itc lo c n).go i H/\∃Nx:Hp->Prop,(∀H',Nx H'->∃m',m'<m/\W (i+1) m' H')/\∀x H',(Itc lo c n).kx i H x H'->g x (wipe σ vs) H' fun σ2 H2=>wipe σ2 vs=wipe σ vs/\tt σ2 H2 λb H3=>
    if b=true then te σ2 H3 λy H4=>∃acc,H4 D=some (.lst acc)/\acc.length<sizeLine/\Nx (upd H4 D (.lst (acc++[y])))else Nx H3):=by
 refine⟨λi m H=>m=n-i/\i<=n/\Pv i H,⟨n,by simp,aM1 _,h0⟩,?_⟩
 rintro i m H ⟨rfl,hi,p⟩;by_cases jZ:i<n
 ·refine .inr ⟨jZ,Pv (i+1),λH' p'=>⟨n-(i+1),by omega,rfl,jZ,p'⟩,λx H' y=>?_⟩
  obtain⟨e,y⟩:=y
  subst e y;exact hs i _ jZ p
 ·have e:i=n:=by omega
  subst e;exact .inl ⟨aMG _,hd H p⟩
def zo{K:aMC}{a:Addr}{xs:List V}{g:TG}{tt:TT}{te:TE}{vs:List Nat}{σ:St}{H1:Hp}{D:Addr}{Qd:Hp->Prop}(Pv:Nat->Hp->Prop)(h0:Pv 0 (upd H1 D (.lst [])))(hl:∀i H,i<=xs.length->Pv i H->aZ K H a xs)
  (hs:∀i x H t,xs[i]?=some x->Pv i H->H t=none->g (.ref t) (wipe σ vs) (upd H t (.tup [.int (i:Nat),x])) fun σ2 H2=>wipe σ2 vs=wipe σ vs/\tt σ2 H2 λb H3=>
   if b=true then te σ2 H3 λy H4=>∃acc,H4 D=some (.lst acc)/\acc.length<sizeLine/\Pv (i+1) (upd H4 D (.lst (acc++[y])))else Pv (i+1) H3) (hd:∀H,Pv xs.length H->Qd H):
  ∃W:Nat->Nat->Hp->Prop,(∃m,W 0 m (upd H1 D (.lst [])))/\∀i m H,W i m H->
   ((Ite K a).stop i H/\Qd H)\/((Ite K a).go i H/\∃Nx:Hp->Prop,(∀H',Nx H'->∃m',m'<m/\W (i+1) m' H')/\∀x H',(Ite K a).kx i H x H'->g x (wipe σ vs) H' fun σ2 H2=>wipe σ2 vs=wipe σ vs/\tt σ2 H2 λb H3=>
    if b=true then te σ2 H3 λy H4=>∃acc,H4 D=some (.lst acc)/\acc.length<sizeLine/\Nx (upd H4 D (.lst (acc++[y])))else Nx H3):=by
 refine⟨λi m H=>m=xs.length-i/\i<=xs.length/\Pv i H,⟨xs.length,by simp,aM1 _,h0⟩,?_⟩
 rintro i m H ⟨rfl,hi,p⟩;have q:=hl i H hi p;by_cases jZ:i<xs.length
 ·refine .inr ⟨⟨xs,xs[i],q,by simp[jZ]⟩,Pv (i+1),λH' p'=>⟨xs.length-(i+1),by omega,rfl,jZ,p'⟩,λx H' y=>?_⟩
  obtain⟨t,z,rfl,ht,rfl,hz⟩:=y
  exact hs i z H t (hz xs q) p ht
 ·have e:i=xs.length:=by omega
  subst e;exact .inl ⟨⟨xs,q,aMG _⟩,hd H p⟩
end L2
namespace L2
open PySem PySem.Spec PyProof.Rows
section
variable{X:Cx}
def yp{es:List Expr}{k:Nat}{pos:Pos}{t:TGs}(K:aMC)(n:Nat)(hc:X.calm=true)(h:PGs X es t)(hK:X.K=K:=by rfl)
  (hn:(assignEach es X.env).length=n:=by rfl) (rL:(assignEach es X.env).findIdx? (·.1)=none:=by rfl):PG X (.Tuple es k pos) (aBb K n t):=by
 subst hK;exact rO hc h hn rL
end
end L2
namespace L2
open PySem PySem.Spec PyProof.Rows
def bF{N ps:List Str}{sc:aPq}(h1:sc.kind=.function:=by rfl)(h2:sc.isCoroutine=false:=by rfl)(h3:sc.isGenerator=false:=by rfl)(h4:N.Nodup:=by decide +kernel)(h5:N.take ps.length=ps:=by rfl)
  (h6:∀x∈ps,sc.names.lookup x=some .local\/sc.names.lookup x=some .cell:=by decide +kernel) (h7:∀y∈sc.names,y.2≠.free:=by decide +kernel):aK N ps sc:=⟨h1,h2,h3,h4,h5,h6,h7⟩
section
variable{X:Cx}
def cF{k k':Nat}{f:Addr}{fd:FuncData}{ps:List Str}{sp:Sp}{x q:Str}{st:Stmt}{e:Expr}{es:List Expr}{t:TA}{p pos:Pos}(F:fC X.K x q st f fd)(ok:bQ X.prog X.w X.K X.mg X.base eV k f fd ps sp)(hr:mM k' X.A)(hm:X.mg x=some (.ref f))(hb:aX X.K fd ps [])(ha:PA X (e::es) t)
  (hk:k<=k':=by decide) (hg:Gl X x:=by rfl) (wb:(x==("__debug__":Str))=false:=by decide) (he:starEach (e::es) X.env=(false,eval e X.env)::starEach es X.env:=by rfl) (AJ:(backTo pos (starEach es X.env)).any (·.1)=false:=by rfl):
  PE X (.Call (.Name x p) (e::es) [] pos) (Nv sp [] E0 t):=za ok (hr.mono hk) hg hm F.kp hb .nil B8 ha wb he AJ
def dE{x:Str}{e:Expr}{te:TE}{pos pos':Pos}(i:Nat)(hN:X.N.Nodup)(he:PE X e te)(hi:X.N[i]?=some x:=by rfl)(hx:Loc X.env.scope x:=by first | exact aQB rfl | exact Or.inr rfl)
  (hs:swapsWith e (some (.Name x pos')) pos.line X.env=pure false:=by rfl) (hf:X.fn x=true\/X.env.scope.names.lookup x=some .local:=by first|exact .inl rfl|exact .inr rfl|assumption):PS X (.Assign [.Name x pos'] e pos) (yd te (Nr i)):=aCG hN hi hx he hs hf
def jN{x:Str}{pos:Pos}(i:Nat)(hN:X.N.Nodup)(hi:X.N[i]?=some x:=by rfl)(hx:Loc X.env.scope x:=by first|exact aQB rfl|exact Or.inr rfl)(hf:X.fn x=true\/X.env.scope.names.lookup x=some .local:=by first|exact .inl rfl|exact .inr rfl|assumption):PG X (.Name x pos) (Nr i):=zr hN hi hx hf
def fO{a b:Expr}{ta tb:TE}{pos:Pos}(ha:PE X a ta)(hb:PE X b tb)(hs:P4 b:=by exact λ_ _=>rfl):PE X (.Subscript a b pos) (Yn (mv X.K) ta tb):=Ky PJ ha hb hs
def Om{a b:Expr}{ta tb:TE}{pos:Pos}(ha:PE X a ta)(hb:PE X b tb)(hs:P4 b:=by exact λ_ _=>rfl):PE X (.Subscript a b pos) (Yn (mq X.K) ta tb):=Ky Yx ha hb hs
end
def ln1{α:Type}{P:List α->Prop}(h:∀a,P [a])(us:List α)(k:us.length=1):P us:=match us,k with|[a],_=>h a
def ln2{α:Type}{P:List α->Prop}(h:∀a b,P [a,b])(us:List α)(k:us.length=2):P us:=match us,k with|[a,b],_=>h a b
def ln3{α:Type}{P:List α->Prop}(h:∀a b c,P [a,b,c])(us:List α)(k:us.length=3):P us:=match us,k with|[a,b,c],_=>h a b c
def ln4{α:Type}{P:List α->Prop}(h:∀a b c d,P [a,b,c,d])(us:List α)(k:us.length=4):P us:=match us,k with|[a,b,c,d],_=>h a b c d
def ln5{α:Type}{P:List α->Prop}(h:∀a b c d e,P [a,b,c,d,e])(us:List α)(k:us.length=5):P us:=match us,k with|[a,b,c,d,e],_=>h a b c d e
def ln6{α:Type}{P:List α->Prop}(h:∀a b c d e g,P [a,b,c,d,e,g])(us:List α)(k:us.length=6):P us:=match us,k with|[a,b,c,d,e,g],_=>h a b c d e g
section
variable{K:aMC}
def bd{x qual:Str}{st:Stmt}{f:Addr}{fd:FuncData}{ps:List Str}(F:fC K x qual st f fd)
  (h:∀(kV doc pm:Value) (an:Option Addr) (d3 ct:Value) (us:List Value),us.length=ps.length->bindArgs (aO5 x qual (G4 st) (Dp st) (aH st) .none kV doc pm an d3 ct) ⟨us,[]⟩=pure (ps.zip us):=by
   exact λ_ _ _ _ _ _=>by first|exact ln3 λ_ _ _=>rfl|exact ln1 λ_=>rfl|exact ln2 λ_ _=>rfl|exact ln4 λ_ _ _ _=>rfl|exact ln5 λ_ _ _ _ _=>rfl|exact ln6 λ_ _ _ _ _ _=>rfl):aX K fd ps []:=F.binds h
def aE0{H:Hp}{a:Addr}{od:Option Addr}{nn:Nat}{sl:Array (Option Value)}{us:Array Value}{xs:List V}(h:K.lookup a=some ⟨.type "tuple",od,.seq us nn,sl⟩)(hz:us.size<=sizeLine)(r:cJ xs us.toList):eE K H a xs:=.inr ⟨_,us,_,h,rfl,rfl,hz,r⟩
end
end L2
namespace Vx
open PySem PySem.Spec PyProof.Rows L2
def top(i:Nat):Stmt:=PySem.Challenge.pw_layerages_s01_answers.main.body.getD i (.Pass ⟨0,0,0,0⟩)
abbrev J0:Stmt:=top 2
def QG:aK ["number"] ["number"] (aH J0):=bF
abbrev Lf:Stmt:=top 3
def X9:aK ["number"] ["number"] (aH Lf):=bF
abbrev Ob:Stmt:=top 4
def Lg:aK ["row","number"] ["row"] (aH Ob):=bF
abbrev O0:Stmt:=top 23
def ZN:aK ["text","place"] ["text","place"] (aH O0):=bF
abbrev Bh:Stmt:=top 24
def zV:aK ["text","place"] ["text","place"] (aH Bh):=bF
abbrev Bb:Stmt:=top 25
def pW:aK ["text","start","end"] ["text","start"] (aH Bb):=bF
abbrev z6:Stmt:=top 26
def jM:aK ["text","start","end","value","digit"] ["text","start","end"] (aH z6):=bF
abbrev Ep:Stmt:=top 27
def nA:aK ["text","start","end","how_many","sign"] ["text","start"] (aH Ep):=bF
abbrev Le:Stmt:=top 28
def rA:aK ["text","start","middle","end","least","most"] ["text","start"] (aH Le):=bF
abbrev Jo:Stmt:=top 29
def tS:aK ["text","start","end","name"] ["text","start"] (aH Jo):=bF
abbrev KL:Stmt:=top 30
def HR:aK ["text","start","sign"] ["text","start"] (aH KL):=bF
abbrev AZ:Stmt:=top 31
def mG:aK ["parts","item"] ["parts"] (aH AZ):=bF
abbrev HP:Stmt:=top 32
def Na:aK ["item","marks"] ["item","marks"] (aH HP):=bF
abbrev HC:Stmt:=top 33
def kW:aK ["text","parts","marks","item"] ["text"] (aH HC):=bF
abbrev E3:Stmt:=top 34
def DY:aK ["text","parts","place"] ["text","parts"] (aH E3):=bF
abbrev DS:Stmt:=top 35
def Au:aK ["number","sign"] ["number"] (aH DS):=bF
abbrev Ji:Stmt:=top 36
def HY:aK ["item","sign"] ["item"] (aH Ji):=bF
abbrev Jw:Stmt:=top 37
def BF:aK ["parts","text","item"] ["parts"] (aH Jw):=bF
abbrev Jm:Stmt:=top 38
def cB:aK ["parts","found","least","most","item"] ["parts"] (aH Jm):=bF
abbrev Jh:Stmt:=top 39
def Pa:aK ["item"] ["item"] (aH Jh):=bF
abbrev u7:Stmt:=top 40
def rT:aK ["parts","item"] ["parts"] (aH u7):=bF
abbrev E5:Stmt:=top 41
def Mc:aK ["item","how_many"] ["item","how_many"] (aH E5):=bF
abbrev wW:Stmt:=top 42
def eP:aK ["parts","i","cut","left","item","how_many"] ["parts","i"] (aH wW):=bF
abbrev Lx:Stmt:=top 48
def rD:aK ["cores","things","found","core","name","thing"] ["cores","things"] (aH Lx):=bF
abbrev En:Stmt:=top 49
def M9:aK ["names"] ["names"] (aH En):=bF
abbrev E8:Stmt:=top 55
def vG:aK ["thing","source","times","one","two"] ["thing","source","times"] (aH E8):=bF
abbrev xN:Stmt:=top 56
def mW:aK ["core","c","times","upper_end","name"] ["core","c","times"] (aH xN):=bF
abbrev Bo:Stmt:=top 57
def kH:aK ["points","years","source","lines","k","stretch"] ["points","years","source"] (aH Bo):=bF
abbrev D9:Stmt:=top 58
def lC:aK ["names","times","k","name"] ["names"] (aH D9):=bF
abbrev z0:Stmt:=top 59
def Hv:aK ["record"] ["record"] (aH z0):=bF
abbrev J4:Stmt:=top 60
def gK:aK ["record","times","lines","k","thing","c","core","time"] ["record"] (aH J4):=bF
abbrev vI:Stmt:=top 61
def eD:aK ["record","c","i","core","points","parts","above","around"] ["record","c","i"] (aH vI):=bF
abbrev z7:Stmt:=top 62
def Hw:aK ["record","time","age"] ["record","time","age"] (aH z7):=bF
abbrev Gw:Stmt:=top 63
def eT:aK ["lines","how_many","ages","turn","changed","start","end","number","source"] ["lines","how_many"] (aH Gw):=bF
abbrev z9:Stmt:=top 64
def eB:aK ["lines","how_many","time","above","turn","start","end","number","source"] ["lines","how_many","time"] (aH z9):=bF
abbrev Be:Stmt:=top 65
def JE:aK ["lines","how_many"] ["lines","how_many"] (aH Be):=bF
abbrev yX:Stmt:=top 67
def hZ:aK ["lines","least","line","pair"] ["lines"] (aH yX):=bF
abbrev Bg:Stmt:=top 68
def fN:aK ["lines","sums","longer","start","end","number","source"] ["lines","sums"] (aH Bg):=bF
abbrev Nz:Stmt:=top 69
def F8:aK ["lines","how_many","end","longest","sums","table"] ["lines","how_many","end","longest"] (aH Nz):=bF
abbrev E7:Stmt:=top 70
def D5:aK ["lines","time","sums","due","line"] ["lines","time","sums","due"] (aH E7):=bF
abbrev Gz:Stmt:=top 71
def i9:aK ["lines","table","start","length","chain","time","left","line"] ["lines","table","start","length"] (aH Gz):=bF
abbrev qU:Stmt:=top 72
def e8:aK ["lines","how_many","start","end","least","table","row","sums","found","length"] ["lines","how_many","start","end"] (aH qU):=bF
abbrev Er:Stmt:=top 73
def vA:aK ["table","time","length","sums"] ["table","time"] (aH Er):=bF
abbrev HB:Stmt:=top 74
def eS:aK ["lines","how_many","least","ring","longest","start","table","length"] ["lines","how_many"] (aH HB):=bF
abbrev L7:Stmt:=top 75
def Ck:aK ["given","lines","k","line"] ["given","lines"] (aH L7):=bF
abbrev AF:Stmt:=top 89
def Hm:aK ["c"] ["c"] (aH AF):=bF
abbrev De:Stmt:=top 90
def K0:aK ["record","c"] ["record","c"] (aH De):=bF
abbrev Ju:Stmt:=top 91
def QH:aK ["record","k"] ["record","k"] (aH Ju):=bF
abbrev E9:Stmt:=top 92
def MD:aK ["record"] ["record"] (aH E9):=bF
abbrev Bn:Stmt:=top 93
def kM:aK ["record","rows","row","names"] ["record","rows"] (aH Bn):=bF
abbrev Bm:Stmt:=top 96
def kL:aK ["sets","numbers","longer","chosen","number"] ["sets","numbers"] (aH Bm):=bF
abbrev lY:Stmt:=top 97
def kQ:aK ["lines","how_many","chosen","line","rest"] ["lines","how_many","chosen"] (aH lY):=bF
abbrev oI:Stmt:=top 98
def eC:aK ["lines","how_many","numbers","sets","size","chosen"] ["lines","how_many","numbers"] (aH oI):=bF
abbrev OI:Stmt:=top 103
def ZP:aK ["record","row"] ["record","row"] (aH OI):=bF
abbrev HL:Stmt:=top 104
def NM:aK ["bound"] ["bound"] (aH HL):=bF
abbrev Jb:Stmt:=top 105
def Pp:aK ["lines","how_many","time"] ["lines","how_many","time"] (aH Jb):=bF
abbrev oH:Stmt:=top 106
def B3:aK ["record","one","two"] ["record","one","two"] (aH oH):=bF
abbrev zX:Stmt:=top 107
def Ho:aK ["record","numbers","rows"] ["record","numbers","rows"] (aH zX):=bF
abbrev Di:Stmt:=top 108
def Br:aK ["record","numbers","rows","refusal"] ["record","numbers","rows"] (aH Di):=bF
abbrev Eo:Stmt:=top 109
def iB:aK ["record","numbers","rows","refusal","one","two","turned","least"] ["record","numbers","rows"] (aH Eo):=bF
abbrev FF:Stmt:=top 110
def fZ:aK ["record","numbers","rows","refusal","one","two","older","younger","same"] ["record","numbers","rows"] (aH FF):=bF
abbrev Bk:Stmt:=top 111
def iE:aK ["record","numbers","rows","age","refusal","lines","how_many"] ["record","numbers","rows"] (aH Bk):=bF
abbrev Bd:Stmt:=top 112
def zY:aK ["record","c","i","refusal"] ["record","c","i"] (aH Bd):=bF
abbrev FC:Stmt:=top 113
def mZ:aK ["record","numbers","rows","refusal","lines","how_many"] ["record","numbers","rows"] (aH FC):=bF
abbrev L3:Stmt:=top 114
def Xs:aK ["record","ages"] ["record","ages"] (aH L3):=bF
abbrev zW:Stmt:=top 115
def Hi:aK ["record","numbers","rows"] ["record","numbers","rows"] (aH zW):=bF
abbrev D3:Stmt:=top 116
def Bj:aK ["record","numbers","rows","greatest"] ["record","numbers","rows"] (aH D3):=bF
abbrev Gy:Stmt:=top 117
def xX:aK ["chain","told","line"] ["chain"] (aH Gy):=bF
abbrev Jz:Stmt:=top 118
def j7:aK ["record","numbers","rows","side","refusal","time","lines","how_many"] ["record","numbers","rows"] (aH Jz):=bF
abbrev HD:Stmt:=top 119
def Ng:aK ["record","numbers","rows"] ["record","numbers","rows"] (aH HD):=bF
abbrev qE:Stmt:=top 120
def iA:aK ["record","numbers","rows","row","place","given","line"] ["record","numbers","rows"] (aH qE):=bF
abbrev nF:Stmt:=top 121
def dA:aK ["lines","how_many","k","line","rest","start","end","number","source","most"] ["lines","how_many","k"] (aH nF):=bF
abbrev Bl:Stmt:=top 122
def zZ:aK ["record","numbers","rows","k"] ["record","numbers","rows"] (aH Bl):=bF
abbrev u5:Stmt:=top 123
def i5:aK ["record","numbers","rows","k","thing","on","chosen"] ["record","numbers","rows"] (aH u5):=bF
abbrev Jn:Stmt:=top 124
def j9:aK ["record","numbers","rows","least","greatest","told","k","age"] ["record","numbers","rows"] (aH Jn):=bF
abbrev O2:Stmt:=top 131
def Lw:aK ["row","number"] ["row"] (aH O2):=bF
abbrev Ew:Stmt:=top 132
def M7:aK ["kind","years","one","two"] ["kind","years","one","two"] (aH Ew):=bF
abbrev E4:Stmt:=top 133
def Dc:aK ["record","numbers","rows","empty"] ["record","numbers","rows"] (aH E4):=bF
abbrev HS:Stmt:=top 134
def jA:aK ["record","numbers","rows","c","text","parts","wrong","cores"] ["record","numbers","rows"] (aH HS):=bF
abbrev HW:Stmt:=top 135
def FL:aK ["record","numbers","rows","refusal"] ["record","numbers","rows"] (aH HW):=bF
abbrev FD:Stmt:=top 136
def uV:aK ["record","numbers","rows","refusal","text"] ["record","numbers","rows"] (aH FD):=bF
abbrev EY:Stmt:=top 137
def nD:aK ["record","numbers","rows","refusal","years","stretch"] ["record","numbers","rows"] (aH EY):=bF
abbrev KJ:Stmt:=top 138
def HX:aK ["record","numbers","rows","things"] ["record","numbers","rows"] (aH KJ):=bF
abbrev Ee:Stmt:=top 139
def MV:aK ["record","numbers","rows"] ["record","numbers","rows"] (aH Ee):=bF
abbrev HN:Stmt:=top 140
def Nb:aK ["record","numbers","rows"] ["record","numbers","rows"] (aH HN):=bF
abbrev Ej:Stmt:=top 141
def D1:aK ["record","numbers","rows","refusal"] ["record","numbers","rows"] (aH Ej):=bF
abbrev HJ:Stmt:=top 142
def qM:aK ["record","numbers","rows","thing","told","name"] ["record","numbers","rows"] (aH HJ):=bF
abbrev Ek:Stmt:=top 143
def mX:aK ["record","numbers","rows","names","told","name"] ["record","numbers","rows"] (aH Ek):=bF
abbrev AD:Stmt:=top 146
def IE:aK ["number"] ["number"] (aH AD):=bF
abbrev Jj:Stmt:=top 147
def tJ:aK ["calls","place","how_many","rows","end"] ["calls","place","how_many"] (aH Jj):=bF
abbrev Io:Stmt:=top 148
def eO:aK ["calls","record","told","place","call","rows_at","numbers","rows","reply","answer","row"] ["calls"] (aH Io):=bF
abbrev Js:Stmt:=inClass (top 22) 0
def QS:aK ["self","kind","least","most","name","behind"] ["self","kind","least","most","name","behind"] (aH Js):=bF
abbrev Jg:Stmt:=inClass (top 45) 0
def Pw:aK ["self","parts"] ["self","parts"] (aH Jg):=bF
abbrev HZ:Stmt:=inClass (top 46) 0
def NN:aK ["self","kind","years","one","two"] ["self","kind","years","one","two"] (aH HZ):=bF
abbrev FE:Stmt:=inClass (top 47) 0
def MG:aK ["self"] ["self"] (aH FE):=bF
set_option genInjectivity false in
structure jK where
 Cp:Addr
 DK:FuncData
 Ft:Addr
 F6:FuncData
 IX:Addr
 Iv:FuncData
 Ir:Addr
 Iy:FuncData
 sM:Addr
 rP:FuncData
 r6:Addr
 sU:FuncData
 oY:Addr
 oU:FuncData
 xY:Addr
 yM:FuncData
 F2:Addr
 F0:FuncData
 Cd:Addr
 Cn:FuncData
 Cz:Addr
 DD:FuncData
 A2:Addr
 Ad:FuncData
 BA:Addr
 BD:FuncData
 BZ:Addr
 BI:FuncData
 x8:Addr
 xV:FuncData
 DJ:Addr
 CZ:FuncData
 DL:Addr
 DV:FuncData
 C0:Addr
 DH:FuncData
 wQ:Addr
 wA:FuncData
 Cs:Addr
 Cc:FuncData
 uT:Addr
 vE:FuncData
 yT:Addr
 yP:FuncData
 nJ:Addr
 nZ:FuncData
 Fu:Addr
 FZ:FuncData
 x5:Addr
 yB:FuncData
 xJ:Addr
 yU:FuncData
 yJ:Addr
 xK:FuncData
 sE:Addr
 sA:FuncData
 vB:Addr
 u1:FuncData
 pQ:Addr
 pL:FuncData
 DF:Addr
 DQ:FuncData
 lW:Addr
 lU:FuncData
 pP:Addr
 pJ:FuncData
 Ak:Addr
 BW:FuncData
 pK:Addr
 o9:FuncData
 sN:Addr
 r8:FuncData
 xI:Addr
 yV:FuncData
 sO:Addr
 sS:FuncData
 IU:Addr
 Ii:FuncData
 yW:Addr
 yN:FuncData
 Ax:Addr
 Av:FuncData
 yK:Addr
 y0:FuncData
 xT:Addr
 xR:FuncData
 BM:Addr
 Aj:FuncData
 Fl:Addr
 Fs:FuncData
 pG:Addr
 pB:FuncData
 vH:Addr
 u9:FuncData
 Cm:Addr
 DU:FuncData
 y4:Addr
 yQ:FuncData
 rV:Addr
 rY:FuncData
 rQ:Addr
 rR:FuncData
 lV:Addr
 lS:FuncData
 jF:Addr
 jH:FuncData
 Ih:Addr
 Ig:FuncData
 BR:Addr
 BL:FuncData
 CS:Addr
 DN:FuncData
 jI:Addr
 jJ:FuncData
 kK:Addr
 o8:FuncData
 m8:Addr
 uY:FuncData
 qC:Addr
 xU:FuncData
 qG:Addr
 xZ:FuncData
 lE:Addr
 sG:FuncData
 r9:Addr
 sR:FuncData
 qN:Addr
 x3:FuncData
 Ff:Addr
 Fm:FuncData
 kJ:Addr
 oT:FuncData
 nB:Addr
 u6:FuncData
 Az:Addr
 BN:FuncData
 wM:Addr
 Cb:FuncData
 tF:Addr
 BX:FuncData
 qS:Addr
 xE:FuncData
 nR:Addr
 nP:FuncData
 lB:Addr
 sI:FuncData
 m9:Addr
 u0:FuncData
 wB:Addr
 CU:FuncData
 Iu:Addr
 Ik:FuncData
 yY:Addr
 xF:FuncData
 qJ:Addr
 yO:FuncData
 tM:Addr
 BU:FuncData
 tI:Addr
 Aw:FuncData
 qK:Addr
 xB:FuncData
 qP:Addr
 xG:FuncData
 wO:Addr
 Cv:FuncData
 qA:Addr
 xC:FuncData
 tK:Addr
 B0:FuncData
 qQ:Addr
 yD:FuncData
 tH:Addr
 An:FuncData
 qD:Addr
 yS:FuncData
 pT:Addr
 pV:FuncData
 Cj:Addr
 Cw:FuncData
 zS:Addr
 oO:FuncData
 DX:Addr
 Cf:FuncData
 CV:Addr
 CY:FuncData
 BK:Addr
 BJ:FuncData
 yE:Addr
 xS:FuncData
 bZ:Addr
 dP:Addr
 eJ:Addr
 dQ:Addr
 d7:Addr
 lF:Addr
 e7:Addr
 nS:Addr
 n8:Addr
 nM:Addr
 nU:Addr
 nO:Addr
 nW:Addr
 nN:Addr
 nX:Addr
 nQ:Addr
 nI:Addr
 lT:Addr
 lZ:Addr
 l3:Addr
 lX:Addr
 pD:Addr
 pF:Addr
 o2:Addr
 pA:Addr
 pI:Addr
 pM:Addr
 pC:Addr
 pH:Addr
 o5:Addr
 oS:Addr
 nL:Addr
structure Txt(K:aMC)(mg:Str->Option Value)(A:jK):Prop where
 IS:mg "Item"=some (.ref A.bZ)
 bV:wj K A.bZ
 IK:Mk K A.bZ A.DX
 cO:gP K A.bZ "kind"
 qH:gP K A.bZ "least"
 gM:gP K A.bZ "most"
 j5:gP K A.bZ "name"
 hW:gP K A.bZ "behind"
 aBy:mg "Core"=some (.ref A.dP)
 kZ:wj K A.dP
 aCQ:Mk K A.dP A.CV
 fL:gP K A.dP "parts"
 lA:gP K A.dP "counted"
 yz:mg "Thing"=some (.ref A.eJ)
 cN:wj K A.eJ
 yh:Mk K A.eJ A.BK
 kU:gP K A.eJ "kind"
 fY:gP K A.eJ "years"
 tE:gP K A.eJ "one"
 mU:gP K A.eJ "two"
 jW:gP K A.eJ "on"
 XQ:mg "Record"=some (.ref A.dQ)
 bA:wj K A.dQ
 Wb:Mk K A.dQ A.yE
 bD:gP K A.dQ "cores"
 bC:gP K A.dQ "things"
 J2:mg "is_letter"=some (.ref A.Cp)
 wG:fC K "is_letter" "is_letter" J0 A.Cp A.DK
 Li:mg "is_digit"=some (.ref A.Ft)
 Ae:fC K "is_digit" "is_digit" Lf A.Ft A.F6
 Dx:mg "is_name"=some (.ref A.IX)
 t6:fC K "is_name" "is_name" Ob A.IX A.Iv
 t5:mg "byte_at"=some (.ref A.Ir)
 mB:fC K "byte_at" "byte_at" O0 A.Ir A.Iy
 rS:mg "behind_blanks"=some (.ref A.sM)
 iX:fC K "behind_blanks" "behind_blanks" Bh A.sM A.rP
 sC:mg "behind_number"=some (.ref A.r6)
 i4:fC K "behind_number" "behind_number" Bb A.r6 A.sU
 oZ:mg "number_between"=some (.ref A.oY)
 iC:fC K "number_between" "number_between" z6 A.oY A.oU
 ND:mg "read_layers"=some (.ref A.xY)
 yG:fC K "read_layers" "read_layers" Ep A.xY A.yM
 Za:mg "read_gap"=some (.ref A.F2)
 F3:fC K "read_gap" "read_gap" Le A.F2 A.F0
 X1:mg "read_mark"=some (.ref A.Cd)
 Cg:fC K "read_mark" "read_mark" Jo A.Cd A.Cn
 J8:mg "read_item"=some (.ref A.Cz)
 wF:fC K "read_item" "read_item" KL A.Cz A.DD
 A0:mg "marks_of"=some (.ref A.A2)
 lP:fC K "marks_of" "marks_of" AZ A.A2 A.Ad
 QD:mg "may_follow"=some (.ref A.BA)
 BV:fC K "may_follow" "may_follow" HP A.BA A.BD
 Pe:mg "read_parts"=some (.ref A.BZ)
 BC:fC K "read_parts" "read_parts" HC A.BZ A.BI
 Nk:mg "wrong_place"=some (.ref A.x8)
 y6:fC K "wrong_place" "wrong_place" E3 A.x8 A.xV
 DT:mg "digits_of"=some (.ref A.DJ)
 rE:fC K "digits_of" "digits_of" DS A.DJ A.CZ
 X3:mg "told_item"=some (.ref A.DL)
 DE:fC K "told_item" "told_item" Ji A.DL A.DV
 Xb:mg "told_text"=some (.ref A.C0)
 DO:fC K "told_text" "told_text" Jw A.C0 A.DH
 DG:mg "stretches"=some (.ref A.wQ)
 mF:fC K "stretches" "stretches" Jm A.wQ A.wA
 KC:mg "layers_in"=some (.ref A.Cs)
 vW:fC K "layers_in" "layers_in" Jh A.Cs A.Cc
 M4:mg "layers_count"=some (.ref A.uT)
 vC:fC K "layers_count" "layers_count" u7 A.uT A.vE
 FO:mg "some_layers"=some (.ref A.yT)
 p6:fC K "some_layers" "some_layers" E5 A.yT A.yP
 Hh:mg "cut_below_layer"=some (.ref A.nJ)
 nT:fC K "cut_below_layer" "cut_below_layer" wW A.nJ A.nZ
 iO:mg "names_of"=some (.ref A.Fu)
 fU:fC K "names_of" "names_of" Lx A.Fu A.FZ
 FN:mg "times_count"=some (.ref A.x5)
 qB:fC K "times_count" "times_count" En A.x5 A.yB
 NB:mg "thing_lines"=some (.ref A.xJ)
 xQ:fC K "thing_lines" "thing_lines" E8 A.xJ A.yU
 Ef:mg "core_points"=some (.ref A.yJ)
 qF:fC K "core_points" "core_points" xN A.yJ A.xK
 Bp:mg "stretch_lines"=some (.ref A.sE)
 lG:fC K "stretch_lines" "stretch_lines" Bo A.sE A.sA
 Dd:mg "time_numbers"=some (.ref A.vB)
 mY:fC K "time_numbers" "time_numbers" D9 A.vB A.u1
 bT:mg "how_many_times"=some (.ref A.pQ)
 bL:fC K "how_many_times" "how_many_times" z0 A.pQ A.pL
 dN:mg "all_lines"=some (.ref A.DF)
 cU:fC K "all_lines" "all_lines" J4 A.DF A.DQ
 GH:mg "lines_with_layer"=some (.ref A.lW)
 l5:fC K "lines_with_layer" "lines_with_layer" vI A.lW A.lU
 JO:mg "lines_with_age"=some (.ref A.pP)
 pS:fC K "lines_with_age" "lines_with_age" z7 A.pP A.pJ
 j4:mg "least_ages"=some (.ref A.Ak)
 gL:fC K "least_ages" "least_ages" Gw A.Ak A.BW
 pE:mg "greatest_above"=some (.ref A.pK)
 iD:fC K "greatest_above" "greatest_above" z9 A.pK A.o9
 lD:mg "greatest_ages"=some (.ref A.sN)
 gE:fC K "greatest_ages" "greatest_ages" Be A.sN A.r8
 FI:mg "least_lines"=some (.ref A.xI)
 qR:fC K "least_lines" "least_lines" yX A.xI A.yV
 Ka:mg "one_line_more"=some (.ref A.sO)
 sH:fC K "one_line_more" "one_line_more" Bg A.sO A.sS
 OG:mg "sums_to"=some (.ref A.IU)
 EC:fC K "sums_to" "sums_to" Nz A.IU A.Ii
 NW:mg "line_onward"=some (.ref A.yW)
 yH:fC K "line_onward" "line_onward" E7 A.yW A.yN
 HI:mg "chain_from"=some (.ref A.Ax)
 tN:fC K "chain_from" "chain_from" Gz A.Ax A.Av
 Ed:mg "least_chain"=some (.ref A.yK)
 qT:fC K "least_chain" "least_chain" qU A.yK A.y0
 Mv:mg "ring_length"=some (.ref A.xT)
 yI:fC K "ring_length" "ring_length" Er A.xT A.xR
 Pd:mg "least_ring"=some (.ref A.BM)
 BY:fC K "least_ring" "least_ring" HB A.BM A.Aj
 Z4:mg "is_chain"=some (.ref A.Fl)
 Fe:fC K "is_chain" "is_chain" L7 A.Fl A.Fs
 AG:mg "is_core_number"=some (.ref A.pG)
 kF:fC K "is_core_number" "is_core_number" AF A.pG A.pB
 jY:mg "core_refusal"=some (.ref A.vH)
 fX:fC K "core_refusal" "core_refusal" De A.vH A.u9
 wJ:mg "has_thing"=some (.ref A.Cm)
 mH:fC K "has_thing" "has_thing" Ju A.Cm A.DU
 gU:mg "can_be_true"=some (.ref A.y4)
 eU:fC K "can_be_true" "can_be_true" E9 A.y4 A.yQ
 i3:mg "names_refusal"=some (.ref A.rV)
 fB:fC K "names_refusal" "names_refusal" Bn A.rV A.rY
 K2:mg "with_one_more"=some (.ref A.rQ)
 sJ:fC K "with_one_more" "with_one_more" Bm A.rQ A.rR
 Fy:mg "rest_can_be_true"=some (.ref A.lV)
 l4:fC K "rest_can_be_true" "rest_can_be_true" lY A.lV A.lS
 Bx:mg "fewest_to_set_aside"=some (.ref A.jF)
 jG:fC K "fewest_to_set_aside" "fewest_to_set_aside" oI A.jF A.jH
 mD:mg "time_of"=some (.ref A.Ih)
 i6:fC K "time_of" "time_of" OI A.Ih A.Ig
 tQ:mg "told_bound"=some (.ref A.BR)
 kC:fC K "told_bound" "told_bound" HL A.BR A.BL
 Cr:mg "told_ages"=some (.ref A.CS)
 qZ:fC K "told_ages" "told_ages" Jb A.CS A.DN
 f9:mg "greatest_difference"=some (.ref A.jI)
 dO:fC K "greatest_difference" "greatest_difference" oH A.jI A.jJ
 kb:mg "reply_possible"=some (.ref A.kK)
 oV:fC K "reply_possible" "reply_possible" zX A.kK A.o8
 uv:mg "reply_bounds"=some (.ref A.m8)
 u4:fC K "reply_bounds" "reply_bounds" Di A.m8 A.uY
 wo:mg "reply_apart"=some (.ref A.qC)
 xP:fC K "reply_apart" "reply_apart" Eo A.qC A.xU
 wx:mg "reply_order"=some (.ref A.qG)
 xW:fC K "reply_order" "reply_order" FF A.qG A.xZ
 lh:mg "reply_suppose"=some (.ref A.lE)
 sQ:fC K "reply_suppose" "reply_suppose" Bk A.lE A.sG
 Kb:mg "layer_refusal"=some (.ref A.r9)
 rZ:fC K "layer_refusal" "layer_refusal" Bd A.r9 A.sR
 wq:mg "reply_layer"=some (.ref A.qN)
 xM:fC K "reply_layer" "reply_layer" FC A.qN A.x3
 A6:mg "of_names"=some (.ref A.Ff)
 oQ:fC K "of_names" "of_names" L3 A.Ff A.Fm
 kc:mg "reply_youngest"=some (.ref A.kJ)
 pR:fC K "reply_youngest" "reply_youngest" zW A.kJ A.oT
 uw:mg "reply_oldest"=some (.ref A.nB)
 uU:fC K "reply_oldest" "reply_oldest" D3 A.nB A.u6
 Aq:mg "told_chain"=some (.ref A.Az)
 mV:fC K "told_chain" "told_chain" Gy A.Az A.BN
 aBL:mg "reply_why"=some (.ref A.wM)
 CT:fC K "reply_why" "reply_why" Jz A.wM A.Cb
 zw:mg "reply_ring"=some (.ref A.tF)
 BG:fC K "reply_ring" "reply_ring" HD A.tF A.BX
 wt:mg "reply_check"=some (.ref A.qS)
 yR:fC K "reply_check" "reply_check" qE A.qS A.xE
 IB:mg "is_kept_without"=some (.ref A.nR)
 nY:fC K "is_kept_without" "is_kept_without" nF A.nR A.nP
 lg:mg "reply_matters"=some (.ref A.lB)
 sP:fC K "reply_matters" "reply_matters" Bl A.lB A.sI
 ux:mg "reply_repair"=some (.ref A.m9)
 uX:fC K "reply_repair" "reply_repair" u5 A.m9 A.u0
 aBK:mg "reply_all"=some (.ref A.wB)
 Ct:fC K "reply_all" "reply_all" Jn A.wB A.CU
 jn:mg "is_text"=some (.ref A.Iu)
 Ic:fC K "is_text" "is_text" O2 A.Iu A.Ik
 NS:mg "may_be_said"=some (.ref A.yY)
 yA:fC K "may_be_said" "may_be_said" Ew A.yY A.xF
 wz:mg "reply_clear"=some (.ref A.qJ)
 xA:fC K "reply_clear" "reply_clear" E4 A.qJ A.yO
 aAA:mg "reply_core"=some (.ref A.tM)
 BS:fC K "reply_core" "reply_core" HS A.tM A.BU
 zx:mg "reply_drop"=some (.ref A.tI)
 BB:fC K "reply_drop" "reply_drop" HW A.tI A.Aw
 wy:mg "reply_print"=some (.ref A.qK)
 x6:fC K "reply_print" "reply_print" FD A.qK A.xB
 xg:mg "reply_parts"=some (.ref A.qP)
 x4:fC K "reply_parts" "reply_parts" EY A.qP A.xG
 aBI:mg "reply_say"=some (.ref A.wO)
 DB:fC K "reply_say" "reply_say" KJ A.wO A.Cv
 xa:mg "reply_aside"=some (.ref A.qA)
 xD:fC K "reply_aside" "reply_aside" Ee A.qA A.xC
 zy:mg "reply_back"=some (.ref A.tK)
 BO:fC K "reply_back" "reply_back" HN A.tK A.B0
 xc:mg "reply_whole"=some (.ref A.qQ)
 yC:fC K "reply_whole" "reply_whole" Ej A.qQ A.yD
 zz:mg "reply_said"=some (.ref A.tH)
 BH:fC K "reply_said" "reply_said" HJ A.tH A.An
 wu:mg "reply_times"=some (.ref A.qD)
 yZ:fC K "reply_times" "reply_times" Ek A.qD A.yS
 JP:mg "call_by_number"=some (.ref A.pT)
 pN:fC K "call_by_number" "call_by_number" AD A.pT A.pV
 Xm:mg "read_rows"=some (.ref A.Cj)
 Co:fC K "read_rows" "read_rows" Jj A.Cj A.Cw
 ie:mg "answers"=some (.ref A.zS)
 Im:fC K "answers" "answers" Io A.zS A.oO
 Je:fC K "__init__" "Item.__init__" Js A.DX A.Cf
 J1:fC K "__init__" "Core.__init__" Jg A.CV A.CY
 HM:fC K "__init__" "Thing.__init__" HZ A.BK A.BJ
 FJ:fC K "__init__" "Record.__init__" FE A.yE A.xS
 MU:∃t,mg "LONGEST_NAME"=some (.int (6) t)
 Gm:∃t,mg "LAYERS"=some (.int (0) t)
 Lu:∃t,mg "DOUBTFUL"=some (.int (1) t)
 aAq:∃t,mg "GAP"=some (.int (2) t)
 AN:∃t,mg "MARK"=some (.int (3) t)
 dv:∃t,mg "BLANK"=some (.int (32) t)
 HV:∃t,mg "ROUND_LEFT"=some (.int (40) t)
 Es:∃t,mg "ROUND_RIGHT"=some (.int (41) t)
 XU:∃t,mg "HYPHEN"=some (.int (45) t)
 ot:∃t,mg "ZERO"=some (.int (48) t)
 HU:∃t,mg "ANGLE_LEFT"=some (.int (60) t)
 Ez:∃t,mg "ANGLE_RIGHT"=some (.int (62) t)
 L6:∃t,mg "QUESTION"=some (.int (63) t)
 La:∃t,mg "LETTER_Y"=some (.int (121) t)
 NI:∃t,mg "MOST_DIGITS"=some (.int (4) t)
 QB:∃t,mg "MOST_MARKS"=some (.int (12) t)
 Ll:mg "CUT_NAME"=some (.ref A.d7)
 Ay:∃t,mg "MOST_CORES"=some (.int (4) t)
 mE:∃t,mg "PRESENT"=some (.int (0) t)
 Ex:∃t,mg "CORE_SOURCE"=some (.int (100) t)
 JD:∃t,mg "PRESENT_SOURCE"=some (.int (200) t)
 wV:∃t,mg "SUPPOSED_SOURCE"=some (.int (300) t)
 eA:∃t,mg "OUT_OF_RANGE"=some (.int (-1) t)
 MJ:∃t,mg "UNKNOWN_NAME"=some (.int (-3) t)
 rB:∃t,mg "NOT_THERE"=some (.int (-4) t)
 zU:∃t,mg "TOO_MANY_NAMES"=some (.int (-5) t)
 Hs:∃t,mg "TOO_MANY_THINGS"=some (.int (-6) t)
 hU:∃t,mg "NOT_POSSIBLE"=some (.int (-7) t)
 MF:∃t,mg "NOT_THAT_AGE"=some (.int (-8) t)
 wZ:∃t,mg "NO_GREATEST_AGE"=some (.int (-9) t)
 JC:∃t,mg "TOO_FEW_LAYERS"=some (.int (-9) t)
 YD:∃t,mg "NO_REPAIR"=some (.int (-9) t)
 Jy:∃t,mg "SET_ASIDE"=some (.int (-10) t)
 Pj:∃t,mg "WRONG_TEXT"=some (.int (-100) t)
 JN:∃t,mg "MOST_SET_ASIDE"=some (.int (3) t)
 K4:∃t,mg "MOST_SUPPOSED"=some (.int (1000000) t)
 QO:∃t,mg "MOST_LAYER"=some (.int (100000) t)
 MR:∃t,mg "MOST_CHECKED"=some (.int (50) t)
 KY:mg "FINDING_CALLS"=some (.ref A.lF)
 HQ:∃t,mg "MOST_NAMES"=some (.int (14) t)
 NC:∃t,mg "MOST_THINGS"=some (.int (12) t)
 Xq:∃t,mg "MOST_TEXT"=some (.int (300) t)
 QE:∃t,mg "MOST_YEARS"=some (.int (100000) t)
 vD:mg "RECORD_CALLS"=some (.ref A.e7)
 Xe:∀H:Hp,eE K H A.d7 []
 JH:∀H:Hp,eE K H A.lF [.ref A.nS,.ref A.n8,.ref A.nM,.ref A.nU,.ref A.nO,.ref A.nW,.ref A.nN,.ref A.nX,.ref A.nQ,.ref A.nI,.ref A.lT,.ref A.lZ,.ref A.l3,.ref A.lX]
 Fw:∀H:Hp,eE K H A.nS [.int (0),.int (0),.ref A.kK]
 GJ:∀H:Hp,eE K H A.n8 [.int (0),.int (1),.ref A.m8]
 GB:∀H:Hp,eE K H A.nM [.int (0),.int (2),.ref A.qC]
 GF:∀H:Hp,eE K H A.nU [.int (0),.int (2),.ref A.qG]
 GD:∀H:Hp,eE K H A.nO [.int (1),.int (2),.ref A.lE]
 GA:∀H:Hp,eE K H A.nW [.int (2),.int (0),.ref A.qN]
 GI:∀H:Hp,eE K H A.nN [.int (0),.int (0),.ref A.kJ]
 GN:∀H:Hp,eE K H A.nX [.int (0),.int (0),.ref A.nB]
 Fx:∀H:Hp,eE K H A.nQ [.int (1),.int (1),.ref A.wM]
 GO:∀H:Hp,eE K H A.nI [.int (0),.int (0),.ref A.tF]
 EN:∀H:Hp,eE K H A.lT [.int (0),.int (1),.ref A.qS]
 ES:∀H:Hp,eE K H A.lZ [.int (1),.int (0),.ref A.lB]
 EM:∀H:Hp,eE K H A.l3 [.int (0),.int (0),.ref A.m9]
 ER:∀H:Hp,eE K H A.lX [.int (0),.int (0),.ref A.wB]
 sT:∀H:Hp,eE K H A.e7 [.ref A.pD,.ref A.pF,.ref A.o2,.ref A.pA,.ref A.pI,.ref A.pM,.ref A.pC,.ref A.pH,.ref A.o5,.ref A.oS,.ref A.nL]
 Hl:∀H:Hp,eE K H A.pD [.int (0),.int (0),.ref A.qJ]
 Hj:∀H:Hp,eE K H A.pF [.int (1),.int (1),.ref A.tM]
 ID:∀H:Hp,eE K H A.o2 [.int (1),.int (0),.ref A.tI]
 Ht:∀H:Hp,eE K H A.pA [.int (1),.int (0),.ref A.qK]
 Hy:∀H:Hp,eE K H A.pI [.int (1),.int (0),.ref A.qP]
 Hr:∀H:Hp,eE K H A.pM [.int (2),.int (2),.ref A.wO]
 He:∀H:Hp,eE K H A.pC [.int (1),.int (0),.ref A.qA]
 IC:∀H:Hp,eE K H A.pH [.int (1),.int (0),.ref A.tK]
 Hf:∀H:Hp,eE K H A.o5 [.int (2),.int (0),.ref A.qQ]
 IA:∀H:Hp,eE K H A.oS [.int (1),.int (0),.ref A.tH]
 GC:∀H:Hp,eE K H A.nL [.int (0),.int (0),.ref A.qD]
 eX:mg "len"=none
 aER:mg "abs"=none
 mx:mg "sum"=none
 aE2:mg "min"=none
 aEQ:mg "ord"=none
 aE5:mg "str"=none
 Dq:mg "tuple"=none
 Oz:mg "list"=none
 AU:mg "range"=none
 iH:mg "enumerate"=none
 tp:mg "sorted"=none
section
variable{K:aMC}{mg:Str->Option Value}{A:jK}
def Jv(T:Txt K mg A):aX K A.DK ["number"] []:=bd T.wG
def Ls(T:Txt K mg A):aX K A.F6 ["number"] []:=bd T.Ae
def Dt(T:Txt K mg A):aX K A.Iv ["row"] []:=bd T.t6
def t7(T:Txt K mg A):aX K A.Iy ["text","place"] []:=bd T.mB
def rX(T:Txt K mg A):aX K A.rP ["text","place"] []:=bd T.iX
def rW(T:Txt K mg A):aX K A.sU ["text","start"] []:=bd T.i4
def oW(T:Txt K mg A):aX K A.oU ["text","start","end"] []:=bd T.iC
def Nj(T:Txt K mg A):aX K A.yM ["text","start"] []:=bd T.yG
def Zg(T:Txt K mg A):aX K A.F0 ["text","start"] []:=bd T.F3
def Xz(T:Txt K mg A):aX K A.Cn ["text","start"] []:=bd T.Cg
def Jp(T:Txt K mg A):aX K A.DD ["text","start"] []:=bd T.wF
def Ah(T:Txt K mg A):aX K A.Ad ["parts"] []:=bd T.lP
def Pc(T:Txt K mg A):aX K A.BD ["item","marks"] []:=bd T.BV
def Px(T:Txt K mg A):aX K A.BI ["text"] []:=bd T.BC
def N8(T:Txt K mg A):aX K A.xV ["text","parts"] []:=bd T.y6
def Ce(T:Txt K mg A):aX K A.CZ ["number"] []:=bd T.rE
def Xk(T:Txt K mg A):aX K A.DV ["item"] []:=bd T.DE
def Xw(T:Txt K mg A):aX K A.DH ["parts"] []:=bd T.DO
def DA(T:Txt K mg A):aX K A.wA ["parts"] []:=bd T.mF
def KG(T:Txt K mg A):aX K A.Cc ["item"] []:=bd T.vW
def MK(T:Txt K mg A):aX K A.vE ["parts"] []:=bd T.vC
def FH(T:Txt K mg A):aX K A.yP ["item","how_many"] []:=bd T.p6
def Hz(T:Txt K mg A):aX K A.nZ ["parts","i"] []:=bd T.nT
def iP(T:Txt K mg A):aX K A.FZ ["cores","things"] []:=bd T.fU
def Eu(T:Txt K mg A):aX K A.yB ["names"] []:=bd T.qB
def N7(T:Txt K mg A):aX K A.yU ["thing","source","times"] []:=bd T.xQ
def FK(T:Txt K mg A):aX K A.xK ["core","c","times"] []:=bd T.qF
def Bq(T:Txt K mg A):aX K A.sA ["points","years","source"] []:=bd T.lG
def Dh(T:Txt K mg A):aX K A.u1 ["names"] []:=bd T.mY
def bS(T:Txt K mg A):aX K A.pL ["record"] []:=bd T.bL
def dM(T:Txt K mg A):aX K A.DQ ["record"] []:=bd T.cU
def GL(T:Txt K mg A):aX K A.lU ["record","c","i"] []:=bd T.l5
def JS(T:Txt K mg A):aX K A.pJ ["record","time","age"] []:=bd T.pS
def kE(T:Txt K mg A):aX K A.BW ["lines","how_many"] []:=bd T.gL
def pU(T:Txt K mg A):aX K A.o9 ["lines","how_many","time"] []:=bd T.iD
def k9(T:Txt K mg A):aX K A.r8 ["lines","how_many"] []:=bd T.gE
def Eh(T:Txt K mg A):aX K A.yV ["lines"] []:=bd T.qR
def K9(T:Txt K mg A):aX K A.sS ["lines","sums"] []:=bd T.sH
def OE(T:Txt K mg A):aX K A.Ii ["lines","how_many","end","longest"] []:=bd T.EC
def NU(T:Txt K mg A):aX K A.yN ["lines","time","sums","due"] []:=bd T.yH
def Gu(T:Txt K mg A):aX K A.Av ["lines","table","start","length"] []:=bd T.tN
def Ey(T:Txt K mg A):aX K A.y0 ["lines","how_many","start","end"] []:=bd T.qT
def NY(T:Txt K mg A):aX K A.xR ["table","time"] []:=bd T.yI
def QU(T:Txt K mg A):aX K A.Aj ["lines","how_many"] []:=bd T.BY
def Z2(T:Txt K mg A):aX K A.Fs ["given","lines"] []:=bd T.Fe
def z8(T:Txt K mg A):aX K A.pB ["c"] []:=bd T.kF
def jX(T:Txt K mg A):aX K A.u9 ["record","c"] []:=bd T.fX
def wH(T:Txt K mg A):aX K A.DU ["record","k"] []:=bd T.mH
def gR(T:Txt K mg A):aX K A.yQ ["record"] []:=bd T.eU
def iZ(T:Txt K mg A):aX K A.rY ["record","rows"] []:=bd T.fB
def KZ(T:Txt K mg A):aX K A.rR ["sets","numbers"] []:=bd T.sJ
def Fz(T:Txt K mg A):aX K A.lS ["lines","how_many","chosen"] []:=bd T.l4
def Bw(T:Txt K mg A):aX K A.jH ["lines","how_many","numbers"] []:=bd T.jG
def mC(T:Txt K mg A):aX K A.Ig ["record","row"] []:=bd T.i6
def tT(T:Txt K mg A):aX K A.BL ["bound"] []:=bd T.kC
def DP(T:Txt K mg A):aX K A.DN ["lines","how_many","time"] []:=bd T.qZ
def gA(T:Txt K mg A):aX K A.jJ ["record","one","two"] []:=bd T.dO
def JI(T:Txt K mg A):aX K A.o8 ["record","numbers","rows"] []:=bd T.oV
def Ma(T:Txt K mg A):aX K A.uY ["record","numbers","rows"] []:=bd T.u4
def Ni(T:Txt K mg A):aX K A.xU ["record","numbers","rows"] []:=bd T.xP
def NG(T:Txt K mg A):aX K A.xZ ["record","numbers","rows"] []:=bd T.xW
def Kc(T:Txt K mg A):aX K A.sG ["record","numbers","rows"] []:=bd T.sQ
def K3(T:Txt K mg A):aX K A.sR ["record","c","i"] []:=bd T.rZ
def NP(T:Txt K mg A):aX K A.x3 ["record","numbers","rows"] []:=bd T.xM
def Af(T:Txt K mg A):aX K A.Fm ["record","ages"] []:=bd T.oQ
def JQ(T:Txt K mg A):aX K A.oT ["record","numbers","rows"] []:=bd T.pR
def MX(T:Txt K mg A):aX K A.u6 ["record","numbers","rows"] []:=bd T.uU
def Am(T:Txt K mg A):aX K A.BN ["chain"] []:=bd T.mV
def X6(T:Txt K mg A):aX K A.Cb ["record","numbers","rows"] []:=bd T.CT
def Py(T:Txt K mg A):aX K A.BX ["record","numbers","rows"] []:=bd T.BG
def N5(T:Txt K mg A):aX K A.xE ["record","numbers","rows"] []:=bd T.yR
def Hx(T:Txt K mg A):aX K A.nP ["lines","how_many","k"] []:=bd T.nY
def K1(T:Txt K mg A):aX K A.sI ["record","numbers","rows"] []:=bd T.sP
def Mb(T:Txt K mg A):aX K A.u0 ["record","numbers","rows"] []:=bd T.uX
def Xf(T:Txt K mg A):aX K A.CU ["record","numbers","rows"] []:=bd T.Ct
def jg(T:Txt K mg A):aX K A.Ik ["row"] []:=bd T.Ic
def NL(T:Txt K mg A):aX K A.xF ["kind","years","one","two"] []:=bd T.yA
def NJ(T:Txt K mg A):aX K A.yO ["record","numbers","rows"] []:=bd T.xA
def Pf(T:Txt K mg A):aX K A.BU ["record","numbers","rows"] []:=bd T.BS
def P8(T:Txt K mg A):aX K A.Aw ["record","numbers","rows"] []:=bd T.BB
def NO(T:Txt K mg A):aX K A.xB ["record","numbers","rows"] []:=bd T.x6
def NR(T:Txt K mg A):aX K A.xG ["record","numbers","rows"] []:=bd T.x4
def Xx(T:Txt K mg A):aX K A.Cv ["record","numbers","rows"] []:=bd T.DB
def Nh(T:Txt K mg A):aX K A.xC ["record","numbers","rows"] []:=bd T.xD
def QV(T:Txt K mg A):aX K A.B0 ["record","numbers","rows"] []:=bd T.BO
def NA(T:Txt K mg A):aX K A.yD ["record","numbers","rows"] []:=bd T.yC
def Pg(T:Txt K mg A):aX K A.An ["record","numbers","rows"] []:=bd T.BH
def NK(T:Txt K mg A):aX K A.yS ["record","numbers","rows"] []:=bd T.yZ
def JK(T:Txt K mg A):aX K A.pV ["number"] []:=bd T.pN
def Xp(T:Txt K mg A):aX K A.Cw ["calls","place","how_many"] []:=bd T.Co
def aDO(T:Txt K mg A):aX K A.oO ["calls"] []:=bd T.Im
def mI(T:Txt K mg A):aX K A.Cf ["self","kind","least","most","name","behind"] []:=bd T.Je
def Xa(T:Txt K mg A):aX K A.CY ["self","parts"] []:=bd T.J1
def QA(T:Txt K mg A):aX K A.BJ ["self","kind","years","one","two"] []:=bd T.HM
def Et(T:Txt K mg A):aX K A.xS ["self"] []:=bd T.FJ
end
end Vx
namespace Vx
open PySem PySem.Spec PyProof.Rows L2
def EG(K:aMC):Sp:=λvs H Q _=>∃(a:Addr) (ns:List Int),vs=[.ref a]/\aZ K H a (ns.map V.int)/\ns.length<=17000/\aQS ns=true/\
 ∀(H':Hp) (p:Addr),H' p=some (.lst ((aPx ns).map V.int))->Q (.ref p) H'
structure Ctx where
 P:aPa
 w:aPc
 K:aMC
 mg:Str->Option Value
 base:Heap
 A:jK
instance:Nonempty Ctx:=⟨⟨default,PySem.W.aWorld 0,[],λ_=>none,default,by constructor<;>exact default⟩⟩
def Ctx.Good(c:Ctx):Prop:=Txt c.K c.mg c.A->bQ c.P c.w c.K c.mg c.base eV 20 c.A.zS c.A.oO ["calls"] (EG c.K)
noncomputable def ctx:Ctx:=Classical.epsilon λc=>¬c.Good
@[irreducible] noncomputable def P:aPa:=ctx.P
@[irreducible] noncomputable def w:aPc:=ctx.w
@[irreducible] noncomputable def K:aMC:=ctx.K
@[irreducible] noncomputable def mg:Str->Option Value:=ctx.mg
@[irreducible] noncomputable def base:Heap:=ctx.base
@[irreducible] noncomputable def A:jK:=ctx.A
def sr(h:Txt K mg A->bQ P w K mg base eV 20 A.zS A.oO ["calls"] (EG K))(c:Ctx):c.Good:=by
 refine Classical.byContradiction λhc=>Classical.epsilon_spec (p:=λc:Ctx=>¬c.Good) ⟨c,hc⟩ ?_;unfold P w K mg base A at h;exact h
end Vx
namespace Vx
open PySem PySem.Spec PyProof.Rows L2
def Mw{K:aMC}{mg:Str->Option Value}{A:jK}(T:Txt K mg A):∀(s:Shared) (us:List Value),us.length=(["calls"]:List Str).length->BindsTo s A.oO ⟨us,[]⟩ ((["calls"]:List Str).zip us):=by
 obtain⟨oc,od,kV,doc,pm,an,d3,ct,osl,e,lk,ku⟩:=T.Im.ex
 rw[e]
 intro s us hu
 match us,hu with
 |[_],_=>exact .of_eq rfl
end Vx
namespace PySem.W.Fast
def tw3603076150127741921:=0
def tw13444685256452961380:=0
def tw16945194789917109965:=0
def tw16772265957156914576:=0
def tw1988767336206898353:=0
def tw14833086026849333474:=0
def tw18032498817922777366:=0
def tw14252047089985523483:=0
def tw3998744716016949472:=0
def tw7925200902988911597:=0
def tw15850222031604465838:=0
def tw6021733199128553910:=0
def tw1770628865052970132:=0
def tw4474731978946045979:=0
def tw10260424680388496163:=0
def tw9430436280806735865:=0
def tw12930423888723927383:=0
def tw2011666489485773921:=0
def tw5831093386741428676:=0
def tw3759006429273724725:=0
def tw17078798989560511750:=0
def tw3165351746759763855:=0
def tw2640819558220169987:=0
def tw16307233807937840794:=0
def tw18004724883915743983:=0
def tw6731968434177023806:=0
def tw13412107505194724285:=0
def tw7019921343001884933:=0
def tw15350622029874730501:=0
def tw5701944415035208892:=0
def tw3612670684701452380:=0
def tw18434888233641201084:=0
def tw14050464917501981325:=0
def tw1571793645461621388:=0
def tw1722154638115980901:=0
def tw12277181091729122909:=0
def tw11444533358212131306:=0
def tw3178068158556625289:=0
def tw1205611010840740043:=0
def tw9367061276459436610:=0
def tw5860658915175197069:=0
def tw4423290094986188502:=0
def tw2760398970802484097:=0
def tw16175444878841411902:=0
def tw5968893907766791863:=0
def tw14884156555529825041:=0
def tw394252141114056263:=0
def tw1825705513714417898:=0
def tw11240383647443078716:=0
def tw989830884577867872:=0
def tw13655693290556626763:=0
def tw6303311193395329916:=0
def tw15221638555845019438:=0
def tw3779570516864755299:=0
def tw7855051370759611566:=0
def tw3874724838456021357:=0
def tw8688043647267318832:=0
def tw8648659239324388745:=0
def tw9840313265824895935:=0
def tw3412573414148425794:=0
def tw11768865374026567477:=0
def tw15462481774515229272:=0
def tw664864427537242669:=0
def tw5003147707793323039:=0
def tw7575052922074032892:=0
def tw2357114231258332060:=0
def tw223942216919430241:=0
def tw4167057723396186427:=0
def tw8394081021387741462:=0
def tw848960852325819955:=0
def tw17955091628813501707:=0
def tw671897725697804311:=0
def tw7706700129636535595:=0
def tw1202972354446287244:=0
def tw6442735498761748449:=0
def tw13900916786008385904:=0
def tw5510486233331333187:=0
def tw13169051543686436076:=0
def tw3980062767335429510:=0
def tw17518077282311095446:=0
def tw10218215421056952931:=0
def tw13496759725375402128:=0
def tw9180989746979232162:=0
def tw18158306178089284714:=0
def tw781161474041569340:=0
def tw1997191779517380094:=0
def tw9645394930387784350:=0
def tw407566945556958838:=0
def tw9237496098726819833:=0
def tw5213144666717616291:=0
def tw8052438568650129786:=0
def tw11841861939382178482:=0
def tw2441394236884122555:=0
def tw18228792775301268138:=0
def tw7228333051834133202:=0
def tw16273000350192717890:=0
def tw5002785466992315598:=0
def tw4188207291348170531:=0
def tw6670304887048356083:=0
def tw12468321231630307589:=0
def tw5427807089081957074:=0
def tw2176583068954716689:=0
def tw5273228691176361054:=0
def tw2097666141933826429:=0
def tw9939787302741405751:=0
def tw13562627136944805489:=0
def tw11628780508704228231:=0
def tw14132617380515002172:=0
def tw16609828428229872112:=0
def tw14344399363740037366:=0
def tw10934892490973397009:=0
def tw10698081486592112219:=0
def tw1336716804544785458:=0
def tw16277357969865051321:=0
def tw17113822972084445095:=0
def tw4886039171737464318:=0
def tw7978569430763478070:=0
def tw16782718797913800858:=0
def tw2834816373072242052:=0
def tw1174643779423952692:=0
def tw2370166806374549336:=0
def tw12997331505855095215:=0
def tw16301270529186264604:=0
def tw13289648003482344475:=0
def tw9801235693356760126:=0
def tw12716611731892788172:=0
def tw17456827753721063026:=0
def tw3130070446352778452:=0
def tw1637260766774924000:=0
def tw10860612689810711334:=0
def tw660327468061470362:=0
def tw13850104930510257143:=0
def tw8045740768944241508:=0
def tw9729760750012064420:=0
def tw11331069603292719283:=0
def tw12463797633930399392:=0
def tw17344307304339842755:=0
def tw13374809240859960699:=0
def tw6668394373188195633:=0
def tw4262804459483274211:=0
def tw9051325748036724346:=0
def tw138728865113854229:=0
def tw2940119344133190655:=0
def tw494779882142389562:=0
def tw7616540049674558076:=0
def tw14703323799331074555:=0
def tw10781383794702734296:=0
def tw8137231792827137039:=0
def tw11320599915704321710:=0
def tw7630378058876821319:=0
def tw12796671210650458808:=0
def tw8829737024983829423:=0
def tw16458547569248017098:=0
def tw5536614052398053046:=0
def tw16089534162306470913:=0
def tw9617426809384470661:=0
def tw13131042605875158396:=0
def tw1655651915159154315:=0
def tw3709450039010480216:=0
def tw16799239077012626482:=0
def tw9984787336904821646:=0
def tw8978558359468396007:=0
def tw16820317894663697370:=0
def tw10178859686002082448:=0
def tw6343631501977475830:=0
def tw12009100194652803589:=0
def tw5811921592088994282:=0
def tw1124499697182288610:=0
def tw14208551046259477545:=0
def tw10813647837793730031:=0
def tw6134636810962767631:=0
def tw10217441277465586702:=0
def tw663225528764273246:=0
def tw8822303546665746031:=0
def tw60620482204383993:=0
def tw7431697731107876393:=0
def tw9634851560026221814:=0
def tw2147546863928078823:=0
def tw7480236407271509274:=0
def tw10937556945435259344:=0
def tw5732098725526385949:=0
def tw16211906660808071081:=0
def tw13661068181041906092:=0
def tw10230443720193284835:=0
def tw16084379718765094578:=0
def tw17190774856635302246:=0
def tw12349668582336336755:=0
def tw2797441815316583541:=0
def tw16698580313670981902:=0
def tw12438535855445423321:=0
def tw17177030252760174683:=0
def tw18021320893373221410:=0
def tw6551647033935751969:=0
def tw16172730049140996148:=0
def tw7281444210161401285:=0
def tw16089955205360666951:=0
def tw9258435039118525972:=0
def tw987434940016685990:=0
def tw12828102214517802940:=0
def tw14829391363675862518:=0
def tw2374245756636871175:=0
def tw6387725455405179720:=0
def tw5419825262030037730:=0
def tw238764067187792328:=0
def tw3563278103273890575:=0
def tw9248969713800510973:=0
def tw12595303689769570793:=0
def tw4954592256137978252:=0
def tw1823692036858956282:=0
def tw11296752020541155667:=0
def tw2640543967908605001:=0
def tw13867695143521689458:=0
def tw8441022639037062259:=0
def tw3338414532195696033:=0
def tw13195210619292655735:=0
def tw14900496751247847316:=0
def tw3926936699361451631:=0
def tw10712415396345879833:=0
def tw3983390722399792761:=0
def tw3454931410096134496:=0
def tw1207013087978957049:=0
def tw18061562258169359868:=0
def tw6773529053001515877:=0
def tw11439938207574039876:=0
def tw11867417837673927593:=0
def tw9213832948973086005:=0
def tw2700410142965053312:=0
def tw17334938385007149937:=0
def tw9751623388598478587:=0
def tw9976478850490411069:=0
def tw1495783903123120185:=0
def tw15084580199863123895:=0
def tw9459954060523635112:=0
def tw17097245091889938332:=0
def tw10828663730428590490:=0
def tw14294433956954841411:=0
def tw8418926335921841787:=0
def tw3367698477304461569:=0
def tw4919294286819350507:=0
def tw16179041952125104268:=0
def tw15710468488911968660:=0
def tw286699897563753669:=0
def tw13377886836283439205:=0
def tw11125206845080062386:=0
def tw10527788845113319312:=0
def tw8873617173165374211:=0
def tw7645428930646209279:=0
def tw2180234076070567848:=0
def tw7771993680032551660:=0
def tw9190778156404207638:=0
def tw11322730302181353100:=0
def tw14957638305838442936:=0
def tw1575691533732259683:=0
def tw10898490287148974050:=0
def tw16946251783627067626:=0
def tw10503261988419754040:=0
def tw8730590043175356384:=0
def tw12105111367784024078:=0
def tw183530714936599229:=0
def tw6821311099667219114:=0
def tw13568104764406834724:=0
def tw11262156344177861834:=0
def tw17647913248147924841:=0
def tw925979625257420692:=0
def tw10803651224609398355:=0
def tw12672164555757358781:=0
def tw17034831798857794584:=0
def tw2746043730635082767:=0
def tw6498163616952727547:=0
def tw16565868102010510681:=0
def tw9379573786003099146:=0
def tw5173450071988166060:=0
def tw6619571465121554646:=0
def tw662582288594126481:=0
def tw2229937904201329693:=0
def tw14287203750673149511:=0
def tw12186036188503110983:=0
def tw14726330337138136779:=0
def tw2689991790634368307:=0
def tw2507881045755390513:=0
def tw12747322213898255906:=0
def tw16785087354064907466:=0
def tw8632141912184043167:=0
def tw9178441722759010035:=0
def tw13950685214436740221:=0
def tw11498376250087786951:=0
def tw1138648012110648184:=0
def tw1680447274945254901:=0
def tw5271488655269581074:=0
def tw10072098344331199261:=0
def tw1540062229529319982:=0
def tw13993418483221763326:=0
def tw17309193409584528690:=0
def tw2412843445161777651:=0
def tw8307634136316676726:=0
def tw15607577518833746101:=0
def tw385560889744295851:=0
def tw10091823807971948066:=0
def tw11676984922011007488:=0
def tw11559247929178101851:=0
def tw5341871100940262420:=0
def tw17856457728986464023:=0
def tw11406486748752060113:=0
def tw17057588541622697371:=0
def tw11825615719095724513:=0
def tw10109560396366162229:=0
def tw17687508294926384342:=0
def tw11001533572465454028:=0
def tw17782587975289644035:=0
def tw8579910222826387453:=0
def tw8001102127035267862:=0
def tw15297310930810851143:=0
def tw10345163457208649833:=0
def tw8400625439770165446:=0
def tw1266248779174200227:=0
def tw5769059998362455222:=0
def tw13498431837062888380:=0
def tw8463850211299437941:=0
def tw13916333967489935492:=0
def tw17895794708779814106:=0
def tw516976706111093075:=0
def tw8321295611642605187:=0
def tw14649462343791398167:=0
def tw18114028246072827194:=0
def tw15129294844763205702:=0
def tw5797716187938262721:=0
def tw5199112390755795861:=0
def tw10930870018588264417:=0
def tw14914279450509995339:=0
def tw17166266568993172689:=0
def tw13535028023856860096:=0
def tw7877028281166148169:=0
def tw4189074069549820226:=0
def tw7047444227567850643:=0
def tw2997047651306143477:=0
def tw7339099019835180065:=0
def tw5063678857938435889:=0
def tw14401375544521516307:=0
def tw11617987991382066789:=0
def tw16734606308809707198:=0
def tw5248526322825235016:=0
def tw6626817484792288994:=0
def tw12932488785576513771:=0
def tw5934379195910831474:=0
def tw636581979787587262:=0
def tw10667764648566021751:=0
def tw17900379812958529157:=0
def tw17844854743151280414:=0
def tw2605453258945244199:=0
def tw14120828225880954124:=0
def tw5827866890103977745:=0
def tw2428341231305102588:=0
end PySem.W.Fast
section
open PySem PySem.W PyProof.Rows
set_option maxRecDepth 100000 in
set_option maxHeartbeats 0 in
theorem Vx.hd(g:∀c:Vx.Ctx,c.Good):Challenge.rw_layerages_s01_answers.Holds:=by
 have h:=wSd
 have k:∀{T:Prop}(hc:T)(m:Challenge.rw_layerages_s01_answers.Holds),Challenge.rw_layerages_s01_answers.Holds:=λ_ m=>m
 apply k
 case m=>w_on;k_headS;(case hw=>exact⟨[.list [.int 10]],by decide +kernel,by decide +kernel⟩)
 k_fillS
 refine L2.Zb (r:=PySem.Challenge.rw_layerages_s01_answers) (k:=20) (CX:=L2.eV) (ps:=["calls"]) (sp:=Vx.EG) wSd rfl rfl ⟨rfl,by decide,by decide⟩ (λw h Y=>PySem.W.kIn_of Y) ?F ?S (λ_ _ _ _ z=>z)
 case F=>
  intro w mg fa h Y KX G hmg;have TT:∃A:Vx.jK,Vx.Txt (L2.KOf KX) mg A:=by
   dsimp only[L2.KOf]
   apply Exists.intro (Vx.jK.mk _ _ _ _ _ _ _ _ _ _ _ _ _ _ _ _ _ _ _ _ _ _ _ _ _ _ _ _ _ _ _ _ _ _ _ _ _ _ _ _ _ _ _ _ _ _ _ _ _ _ _ _ _ _ _ _ _ _ _ _ _ _ _ _ _ _ _ _ _ _ _ _ _ _ _ _ _ _ _ _ _ _ _ _ _ _ _ _ _ _ _ _ _ _ _ _ _ _ _ _ _ _ _ _ _ _ _ _ _ _ _ _ _ _ _ _ _ _ _ _ _ _ _ _ _ _ _ _ _ _ _ _ _ _ _ _ _ _ _ _ _ _ _ _ _ _ _ _ _ _ _ _ _ _ _ _ _ _ _ _ _ _ _ _ _ _ _ _ _ _ _ _ _ _ _ _ _ _ _ _ _ _ _ _ _ _ _ _ _ _ _ _ _ _ _ _ _ _ _ _ _ _ _ _ _ _ _ _ _ _ _ _ _ _ _ _ _ _ _ _ _ _);apply Vx.Txt.mk
   all_goals try dsimp only
   all_goals try first
    |exact PySem.W.mg_of KX G (by k_is)
    |exact L2.aCR (by k_is) (by k_is) (by k_is)
    |exact⟨_,PySem.W.mg_of KX G (by k_is)⟩
    |exact PySem.W.mg_none_of KX G (by k_is)
    |exact⟨by k_is,by k_is,by k_is,by k_is⟩
    |(unfold L2.gP;k_is)
    |(intro H;refine L2.aE0 (by k_is) (by decide) ?_;repeat' first|exact .nil|(refine .cons ?_ ?_)|rfl|exact⟨_,rfl⟩)
  obtain⟨A,T⟩:=TT
  have e:=hmg.symm.trans T.ie;injection e with e;injection e with e;subst e;exact⟨A.oO,Vx.Mw T,λbase _ _=>g ⟨_,w,_,mg,base,A⟩ T⟩
 case S=>
  intro K H xs a hO Mo aCc hx;cases hx with
  | cons h1 h2=>
   cases h2;cases h1 with
   | lst hs ha=>
    have e:=L2.bp a.1 _ ha;subst e;have q:((Codec.inLen 0 17000 a.1&&a.1.all (Codec.inInt (Int.negSucc 999999999999999999) (Int.ofNat 1000000000000000000)))&&true)=true:=Mo;rw[aM5,aM5]at q;exact⟨_,a.1,rfl,hs,(Codec.inNat_iff.mp q.1.1).2,aCc,λH' p hp=>.lst (L2.aZ.of hp) (L2.bg _)⟩
end
section
local macro_rules|`(tactic|omega)=>`(tactic|lia)
namespace Vx
def aO:1<=aQe:=by decide
def pZ:2<=aQe:=by decide
def PU:3<=aQe:=by decide
def vT:4<=aQe:=by decide
abbrev bO:=Vbexal.Edge
def cP(P:Int->Prop):Option Int->Prop
 |none=>∀w,¬P w
 |some w=>P w/\∀x,P x->w<=x
def cP.uniq{P:Int->Prop}{a b:Option Int}(ha:cP P a)(hb:cP P b):a=b:=by
 cases a with
 | none=>cases b with
  |none=>rfl
  |some y=>exact absurd hb.1 (ha y)
 | some x=>cases b with
  |none=>exact absurd ha.1 (hb x)
  | some y=>
   have h1:=ha.2 y hb.1;have h2:=hb.2 x ha.1;have:x=y:=by omega
   rw[this]
def cP.congr{P Q:Int->Prop}{a:Option Int}(h:∀w,P w↔Q w)(ha:cP P a):cP Q a:=by
 have:P=Q:=funext λw=>propext (h w)
 rw[<-this];exact ha
def Zi{P Q:Int->Prop}{a b:Option Int}(ha:cP P a)(hb:cP Q b):
  cP (λw=>P w\/Q w) (aNv a b):=by
 cases a with
 | none=>cases b with
  |none=>exact λw h=>h.elim (ha w) (hb w)
  |some y=>exact⟨.inr hb.1,λx h=>h.elim (λp=>absurd p (ha x)) (hb.2 x)⟩
 | some x=>cases b with
  |none=>exact⟨.inl ha.1,λy h=>h.elim (ha.2 y) (λp=>absurd p (hb y))⟩
  | some y=>
   refine⟨?_,λz h=>?_⟩
   ·rcases Int.le_total x y with g | g
    ·rw[aRJ g];exact .inl ha.1
    ·rw[aRA g];exact .inr hb.1
   ·have:=h.elim (λp=>Int.le_trans (Int.min_le_left x y) (ha.2 z p)) (λp=>Int.le_trans (Int.min_le_right x y) (hb.2 z p))
    exact this
def J9{P Q:Int->Prop}{a b:Option Int}(ha:cP P a)(hb:cP Q b):
  cP (λw=>∃x y,P x/\Q y/\w=x+y) (aNw a b):=by
 cases a with
 |none=>exact λw ⟨x,_,p,_⟩=>ha x p
 | some x=>cases b with
  |none=>exact λw ⟨_,y,_,q,_⟩=>hb y q
  | some y=>
   refine⟨⟨x,y,ha.1,hb.1,rfl⟩,?_⟩
   rintro z ⟨x',y',p,q,rfl⟩;have h1:=ha.2 x' p;have h2:=hb.2 y' q;omega
theorem tP{A:Type}{P:A->Int->Prop}{f:A->Option Int}:
  ∀(l:List A) (Q:Int->Prop) (o:Option Int),cP Q o->(∀a∈l,cP (P a) (f a))->
  cP (λw=>Q w\/∃a∈l,P a w) (l.foldl (λm a=>aNv m (f a)) o)
 |[],Q,o,h,_=>h.congr λw=>by simp
 | a::l,Q,o,h,g=>by
  have h1:=tP (P:=P) l _ _ (Zi h (g a (aMN))) (λb hb=>g b (aMM _ hb));refine h1.congr λw=>?_;simp only[aMR,exists_eq_or_imp,or_assoc]
def Cu:cP (λ_=>False) none:=λ_ h=>h
inductive cE(l:List bO):Nat->List Nat->Nat->Int->Prop
 |nil (i:Nat):cE l i [] i 0
 |cons {e:bO} {vs:List Nat} {j:Nat} {w:Int}:e∈l->cE l e.to_ vs j w->cE l e.from_ (e.from_::vs) j (e.most+w)
def cE.append{l:List bO}{i:Nat}{vs:List Nat}{j:Nat}{w:Int}(h:cE l i vs j w):
  ∀{us:List Nat} {k:Nat} {x:Int},cE l j us k x->cE l i (vs++us) k (w+x):=by
 induction h with
 |nil i=>intro us k x g;simpa using g
 | cons he _ ih=>
  intro us k x g;have:=cE.cons he (ih g);rw[aOq];exact this
def cE.snoc{l:List bO}{i:Nat}{vs:List Nat}{e:bO}{w:Int}(h:cE l i vs e.from_ w)(he:e∈l):
  cE l i (vs++[e.from_]) e.to_ (w+e.most):=by
 have:=h.append (cE.cons he (cE.nil _))
 simpa using this
theorem cE.split{l:List bO}:∀{as:List Nat} {i v:Nat} {bs:List Nat} {j:Nat} {w:Int},cE l i (as++v::bs) j w->
  ∃x y,cE l i as v x/\cE l v (v::bs) j y/\w=x+y
 | [],i,v,bs,j,w,h=>by
  cases h with
  |cons he g=>exact⟨0,_,cE.nil _,cE.cons he g,by omega⟩
 | a::as,i,v,bs,j,w,h=>by
  cases h with
  | cons he g=>
   obtain⟨x,y,p,q,rfl⟩:=cE.split g
   exact⟨_,y,cE.cons he p,q,by omega⟩
def cE.nil_inv{l:List bO}{i j:Nat}{w:Int}(h:cE l i [] j w):i=j/\w=0:=by
 generalize e:([]:List Nat)=vs at h;cases h with
 |nil=>exact⟨rfl,rfl⟩
 |cons=>cases e
def cE.cons_inv{l:List bO}{i j v:Nat}{vs:List Nat}{w:Int}(h:cE l i (v::vs) j w):
  i=v/\∃e∈l,e.from_=v/\∃x,cE l e.to_ vs j x/\w=e.most+x:=by
 generalize e:v::vs=us at h;cases h with
 |nil=>cases e
 |cons he g=>cases e;exact⟨rfl,_,he,rfl,_,g,rfl⟩
def cE.unsnoc{l:List bO}:∀{vs:List Nat} {v:Nat} {i j:Nat} {w:Int},cE l i (vs++[v]) j w->
  ∃e∈l,∃x,e.from_=v/\e.to_=j/\cE l i vs v x/\w=x+e.most:=by
 intro vs v i j w h;obtain⟨x,y,p,q,rfl⟩:=cE.split h;obtain⟨-,e,he,rfl,z,g,rfl⟩:=q.cons_inv;obtain⟨rfl,rfl⟩:=g.nil_inv;exact⟨e,he,x,rfl,rfl,p,by omega⟩
def mK(n:Nat)(l:List bO):Prop:=∀e∈l,e.from_<n/\e.to_<n
def cE.all_lt{n:Nat}{l:List bO}(hl:mK n l){i:Nat}{vs:List Nat}{j:Nat}{w:Int}(h:cE l i vs j w):
  ∀v∈vs,v<n:=by
 induction h with
 |nil=>simp
 | cons he _ ih=>
  intro v hv;rcases aMR.1 hv with rfl|hv
  ·exact(hl _ he).1
  ·exact ih v hv
def cE.end_lt{n:Nat}{l:List bO}(hl:mK n l){i:Nat}{vs:List Nat}{j:Nat}{w:Int}(h:cE l i vs j w)(hi:i<n):j<n:=by
 induction h with
 |nil=>exact hi
 |cons he _ ih=>exact ih (hl _ he).2
theorem z5:∀{l:List Nat},¬l.Nodup->∃as v bs cs,l=as++v::(bs++v::cs)
 |[],h=>absurd aO9 h
 | a::l,h=>by
  by_cases ha:a∈l
  ·obtain⟨bs,cs,rfl⟩:=List.append_of_mem ha
   exact⟨[],a,bs,cs,rfl⟩
  ·have:¬l.Nodup:=λg=>h (aNP.2 ⟨ha,g⟩)
   obtain⟨as,v,bs,cs,rfl⟩:=z5 this
   exact⟨a::as,v,bs,cs,rfl⟩
def gv{n:Nat}{l:List Nat}(h:l.Nodup)(hl:∀v∈l,v<n):l.length<=n:=by
 have:=h.length_le_of_subset (l₂:=aME n) (λv hv=>aMh.2 (hl v hv))
 simpa using this
def kT(l:List bO):Prop:=∀i vs w,cE l i vs i w->0<=w
def cE.reduce{l:List bO}(hc:kT l):∀(m:Nat) {i:Nat} {vs:List Nat} {j:Nat} {w:Int},vs.length<=m->cE l i vs j w->
  ∃us x,cE l i us j x/\x<=w/\(us++[j]).Nodup/\us.length<=vs.length:=by
 intro m
 induction m with
 | zero=>
  intro i vs j w hm h;have:vs=[]:=aNU.1 (by omega)
  subst this;exact⟨[],w,h,by omega,by simp,by simp⟩
 | succ m ih=>
  intro i vs j w hm h;by_cases hd:(vs++[j]).Nodup
  ·exact⟨vs,w,h,by omega,hd,aMG _⟩
  ·obtain⟨as,v,bs,cs,e⟩:=z5 hd
   rcases aPE cs with rfl|⟨ds,z,rfl⟩
   ·have e2:vs++[j]=(as++v::bs)++[v]:=by rw[e];simp
    obtain⟨e3,e4⟩:=List.append_inj' e2 rfl
    have e5:j=v:=by simpa using e4
    subst e5;subst e3;obtain⟨x,y,p,q,rfl⟩:=cE.split h;have hy:=hc _ _ _ q;obtain⟨us,z,a,b,c,d⟩:=ih (by simp at hm ⊢;omega) p
    exact⟨us,z,a,by omega,c,by simp;omega⟩
   ·have e2:vs++[j]=(as++v::(bs++v::ds))++[z]:=by rw[e];simp
    obtain⟨e3,e4⟩:=List.append_inj' e2 rfl
    subst e3;obtain⟨x,y,p,q,rfl⟩:=cE.split h;have q':cE l v ((v::bs)++v::ds) j y:=by simpa using q
    obtain⟨y1,y2,q1,q2,rfl⟩:=cE.split q'
    have hy:=hc _ _ _ q1;obtain⟨us,z,a,b,c,d⟩:=ih (by simp at hm ⊢;omega) (p.append q2)
    exact⟨us,z,a,by omega,c,by simp at d ⊢;omega⟩
def cE.short{n:Nat}{l:List bO}(hl:mK n l)(hc:kT l){i:Nat}{vs:List Nat}{j:Nat}{w:Int}
  (hj:j<n) (h:cE l i vs j w):∃us x,cE l i us j x/\x<=w/\us.length<n/\us.length<=vs.length:=by
 obtain⟨us,x,a,b,c,d⟩:=cE.reduce hc vs.length (aMG _) h
 refine⟨us,x,a,b,?_,d⟩
 have:=gv c (n:=n) (by
  intro v hv;rcases aMX.1 hv with hv|hv
  ·exact a.all_lt hl v hv
  ·have:v=j:=by simpa using hv
   omega)
 simp at this
 omega
def Ot(l:List bO)(d:Nat->Int):Prop:=∀e∈l,d e.to_<=d e.from_+e.most
def Ot.path{l:List bO}{d:Nat->Int}(h:Ot l d){i:Nat}{vs:List Nat}{j:Nat}{w:Int}(p:cE l i vs j w):d j<=d i+w:=by
 induction p with
 |nil=>omega
 | cons he _ ih=>
  have:=h _ he
  omega
def Ot.calm{l:List bO}{d:Nat->Int}(h:Ot l d):kT l:=by
 intro i vs w p;have:=h.path p;omega
end Vx
namespace Vx
open Vbexal (minO plusO at_ table through closed edgeOf feasible pulled rounds calm longer step1 walks tables)
def gZ{n:Nat}{f:Nat->Nat->Option Int}{i j:Nat}(hi:i<n)(hj:j<n):at_ (table n f) i j=f i j:=by
 unfold at_ table;simp[aMW,hi,hj]
def rC(l:List bO)(i j:Nat):cP (λw=>∃e∈l,e.from_=i/\e.to_=j/\e.most=w) (edgeOf l i j):=by
 unfold edgeOf;have h:=tP (P:=fun(e:bO) w=>e.most=w) (f:=λe:bO=>some e.most)
  (l.filter λe=>e.from_==i&&e.to_==j) (λ_=>False) none Cu
  (λa _=>⟨rfl,λx hx=>by omega⟩)
 refine h.congr λw=>?_;simp[and_assoc]
def Jr(a:Option Int):minO a none=a:=by cases a<;>rfl
def jO(a b:Option Int):Prop:=match a,b with
 |_,none=>True
 |none,some _=>False
 |some x,some y=>x<=y
def jO.refl(a:Option Int):jO a a:=by cases a<;>simp[jO]
def jO.trans{a b c:Option Int}(h:jO a b)(g:jO b c):jO a c:=by
 cases a<;>cases b<;>cases c<;>simp_all [jO];omega
def Ds(a b:Option Int):jO (minO a b) a:=by
 cases a<;>cases b<;>simp[jO,minO];omega
def tV(a b:Option Int):jO (minO a b) b:=by
 cases a<;>cases b<;>simp[jO,minO];omega
def P6{a b c:Option Int}(h:jO c a)(g:jO c b):jO c (minO a b):=by
 cases a<;>cases b<;>cases c<;>simp_all [jO,minO];omega
def uL{a b c d:Option Int}(h:jO a b)(g:jO c d):jO (plusO a c) (plusO b d):=by
 cases a<;>cases b<;>cases c<;>cases d<;>simp_all [jO,plusO];omega
def Ze(a b c:Option Int):plusO (minO a b) c=minO (plusO a c) (plusO b c):=by
 cases a<;>cases b<;>cases c<;>simp[minO,plusO]<;>omega
def Lc(a b c:Option Int):plusO c (minO a b)=minO (plusO c a) (plusO c b):=by
 cases a<;>cases b<;>cases c<;>simp[minO,plusO]<;>omega
def AY(a b c:Option Int):plusO (plusO a b) c=plusO a (plusO b c):=by
 cases a<;>cases b<;>cases c<;>simp[plusO];omega
def mP(a:Option Int):Prop:=jO (some 0) a
def init(n:Nat)(l:List bO):List aMt:=table n λi j=>if i=j then minO (some 0) (edgeOf l i j)else edgeOf l i j
def ai(n:Nat)(l:List bO)(t:List aMt):Prop:=∀i j,i<n->j<n->∀w,at_ t i j=some w->∃vs,cE l i vs j w
def Oa{l:List bO}{i j:Nat}{w:Int}(h:edgeOf l i j=some w):∃vs,cE l i vs j w:=by
 have:=rC l i j
 rw[h]at this
 obtain⟨⟨e,he,rfl,rfl,rfl⟩,-⟩:=this
 have:=cE.cons he (cE.nil _)
 rw[aOY]at this
 exact⟨_,this⟩
def EI{a b:Option Int}{w:Int}(h:minO a b=some w):a=some w\/b=some w:=by
 cases a<;>cases b<;>simp_all [minO]
 omega
def Ac{a b:Option Int}{w:Int}(h:plusO a b=some w):∃x y,a=some x/\b=some y/\w=x+y:=by
 cases a<;>cases b<;>simp_all [plusO]
def Zl(n:Nat)(l:List bO):ai n l (init n l):=by
 intro i j hi hj w h;rw[init,gZ hi hj]at h;split at h
 ·next e=>
  subst e;rcases EI h with h|h
  ·cases h;exact⟨[],cE.nil _⟩
  ·exact Oa h
 ·exact Oa h
def Nd{n:Nat}{l:List bO}{t:List aMt}{k:Nat}(hk:k<n)(h:ai n l t):ai n l (through n t k):=by
 intro i j hi hj w e;rw[through,gZ hi hj]at e;rcases EI e with e|e
 ·exact h i j hi hj w e
 ·obtain⟨x,y,ex,ey,rfl⟩:=Ac e
  obtain⟨vs,p⟩:=h i k hi hk x ex
  obtain⟨us,q⟩:=h k j hk hj y ey
  exact⟨_,p.append q⟩
def part(n:Nat)(l:List bO):Nat->List aMt
 |0=>init n l
 |k+1=>through n (part n l k) k
def DW(n:Nat)(l:List bO):closed n l=part n l n:=by
 have:∀k,(aME k).foldl (through n) (init n l)=part n l k:=by
  intro k
  induction k with
  |zero=>rfl
  |succ k ih=>rw[aOr,aOK,ih];rfl
 exact this n
theorem Fn(n:Nat)(l:List bO):∀k,k<=n->ai n l (part n l k)
 |0,_=>Zl n l
 |k+1,h=>Nd (by omega) (Fn n l k (by omega))
theorem PX{n:Nat}{l:List bO}{i j:Nat}(hi:i<n)(hj:j<n):∀{k m:Nat},k<=m->jO (at_ (part n l m) i j) (at_ (part n l k) i j)
 | k,0,h=>by
  have:k=0:=by omega
  subst this;exact jO.refl _
 | k,m+1,h=>by
  by_cases e:k=m+1
  ·subst e;exact jO.refl _
  ·refine jO.trans ?_ (PX hi hj (k:=k) (m:=m) (by omega))
   rw[part,through,gZ hi hj]
   exact Ds _ _
def BQ{n:Nat}{t:List aMt}:feasible n t=true↔∀i,i<n->mP (at_ t i i):=by
 unfold feasible;rw[aNB];constructor
 ·intro h i hi;have:=h i (aMh.2 hi);unfold mP;cases e:at_ t i i with
  |none=>simp[jO]
  |some x=>rw[e]at this;simpa[jO]using this
 ·intro h i hi;have:=h i (aMh.1 hi);unfold mP at this;cases e:at_ t i i with
  |none=>rfl
  |some x=>rw[e]at this;simpa[jO]using this
def Tri(n:Nat)(t:List aMt)(k:Nat):Prop:=∀m,m<k->∀i j,i<n->j<n->jO (at_ t i j) (plusO (at_ t i m) (at_ t m j))
def Lr{a b:Option Int}(h:jO a b):minO a b=a:=by
 cases a<;>cases b<;>simp_all [jO,minO];omega
def K5{a b:Option Int}(h:mP b):jO a (plusO a b):=by
 cases a<;>cases b<;>simp_all [jO,plusO,mP];omega
def leO_plus_nonneg'{a b:Option Int}(h:mP b):jO a (plusO b a):=by
 cases a<;>cases b<;>simp_all [jO,plusO,mP];omega
def ue{n:Nat}{t:List aMt}{k:Nat}(hk:k<n)(h:Tri n t k)(hd:mP (at_ t k k)):Tri n (through n t k) (k+1):=by
 intro m hm i j hi hj;have hmn:m<n:=by omega
 rw[through,gZ hi hj,gZ hi hmn,gZ hmn hj]
 by_cases e:m=k
 ·subst e;rw[Lr (K5 hd),Lr (leO_plus_nonneg' hd)];exact tV _ _
 ·have ly:m<k:=by omega
  rw[Ze,Lc,Lc]
  refine P6 (P6 ?_ ?_) (P6 ?_ ?_)
  ·exact jO.trans (Ds _ _) (h m ly i j hi hj)
  ·refine jO.trans (tV _ _) ?_;rw[<-AY];exact uL (h m ly i k hi hk) (jO.refl _)
  ·refine jO.trans (tV _ _) ?_;rw[AY];exact uL (jO.refl _) (h m ly k j hk hj)
  ·refine jO.trans (tV _ _) ?_;rw[AY];refine uL (jO.refl _) ?_;rw[<-AY];refine jO.trans (leO_plus_nonneg' hd) ?_;exact uL (h m ly k k hk hk) (jO.refl _)
theorem XY{n:Nat}{l:List bO}(hd:∀k,k<n->mP (at_ (part n l k) k k)):∀k,k<=n->Tri n (part n l k) k
 |0,_=>λm hm=>absurd hm (Nat.not_lt_zero m)
 |k+1,h=>ue (by omega) (XY hd k (by omega)) (hd k (by omega))
def mP.mono{a b:Option Int}(h:jO a b)(ha:mP a):mP b:=jO.trans ha h
def complete{n:Nat}{l:List bO}(hl:mK n l)(hf:feasible n (closed n l)=true){i:Nat}{vs:List Nat}{j:Nat}{w:Int}
  (p:cE l i vs j w) (hj:j<n):jO (at_ (closed n l) i j) (some w):=by
 rw[DW]at hf ⊢
 rw[BQ]at hf
 have hd:∀k,k<n->mP (at_ (part n l k) k k):=λk hk=>(hf k hk).mono (PX hk hk (by omega))
 have tri:=XY hd n (aMG n);have ini:∀{i j},i<n->j<n->jO (at_ (part n l n) i j) (at_ (init n l) i j):=λhi hj=>PX hi hj (aM1 n)
 induction p with
 | nil i=>
  refine jO.trans (ini hj hj) ?_;rw[init,gZ hj hj,if_pos rfl];exact Ds _ _
 | @cons e vs j w he q ih=>
  have hr:=hl _ he;refine jO.trans (tri e.to_ hr.2 e.from_ j hr.1 hj) ?_;have h1:jO (at_ (part n l n) e.from_ e.to_) (some e.most):=by
   refine jO.trans (ini hr.1 hr.2) ?_;have h2:jO (edgeOf l e.from_ e.to_) (some e.most):=by
    have:=rC l e.from_ e.to_
    cases h3:edgeOf l e.from_ e.to_ with
    |none=>rw[h3]at this;exact absurd ⟨e,he,rfl,rfl,rfl⟩ (this e.most)
    |some x=>rw[h3]at this;exact this.2 _ ⟨e,he,rfl,rfl,rfl⟩
   rw[init,gZ hr.1 hr.2]
   split
   ·exact jO.trans (tV _ _) h2
   ·exact h2
  exact uL h1 (ih hj)
def Way(l:List bO)(i j:Nat)(w:Int):Prop:=∃vs,cE l i vs j w
def Mr(l:List bO)(k i j:Nat)(w:Int):Prop:=∃vs,vs.length=k/\cE l i vs j w
def gS{n:Nat}{l:List bO}(hl:mK n l):feasible n (closed n l)=true↔kT l:=by
 constructor
 ·intro hf i vs w p;by_cases hi:i<n
  ·have h1:=complete hl hf p hi;have h2:=BQ.1 hf i hi;have:=jO.trans h2 h1;simpa[jO]using this
  ·cases p with
   |nil=>omega
   |cons he _=>exact absurd (hl _ he).1 hi
 ·intro hc;rw[BQ];intro i hi;unfold mP;cases e:at_ (closed n l) i i with
  |none=>simp[jO]
  | some x=>
   rw[DW]at e
   obtain⟨vs,p⟩:=Fn n l n (aMG n) i i hi hi x e
   exact hc _ _ _ p
def d5{n:Nat}{l:List bO}(hl:mK n l)(hc:kT l){i j:Nat}(hi:i<n)(hj:j<n):
  cP (Way l i j) (at_ (closed n l) i j):=by
 have hf:=(gS hl).2 hc;cases e:at_ (closed n l) i j with
 | none=>
  intro w ⟨vs,p⟩;have:=complete hl hf p hj;rw[e]at this;exact this
 | some x=>
  refine⟨?_,?_⟩
  ·rw[DW]at e
   exact Fn n l n (aMG n) i j hi hj x e
  ·intro w ⟨vs,p⟩;have:=complete hl hf p hj;rw[e]at this;exact this
theorem iR{n:Nat}{l:List bO}(hl:mK n l):∀(k:Nat) {i j:Nat},i<n->j<n->cP (Mr l k i j) (at_ (walks n l k) i j)
 | 0,i,j,hi,hj=>by
  rw[walks,gZ hi hj]
  split
  ·next e=>
   subst e;refine⟨⟨[],rfl,cE.nil _⟩,?_⟩;rintro x ⟨vs,hv,p⟩;have:vs=[]:=aNU.1 hv;subst this;have:=p.nil_inv;omega
  ·next e=>
   rintro x ⟨vs,hv,p⟩;have:vs=[]:=aNU.1 hv;subst this;exact e p.nil_inv.1
 | k+1,i,j,hi,hj=>by
  rw[walks,longer,gZ hi hj]
  have h:=tP (P:=λm w=>∃x y,(∃e∈l,e.from_=i/\e.to_=m/\e.most=x)/\Mr l k m j y/\w=x+y)
   (f:=λm=>plusO (at_ (step1 n l) i m) (at_ (walks n l k) m j)) (aME n) (λ_=>False) none Cu
   (λm hm=>by
    have hm:=aMh.1 hm;rw[step1,gZ hi hm];exact J9 (rC l i m) (iR hl k hm hj))
  refine h.congr λw=>?_;constructor
  ·rintro(h | ⟨m,hm,x,y,⟨e,he,rfl,rfl,rfl⟩,⟨vs,hv,p⟩,rfl⟩)
   ·exact h.elim
   ·exact⟨_,by simp[hv],cE.cons he p⟩
  ·rintro⟨vs,hv,p⟩
   cases vs with
   |nil=>simp at hv
   | cons v vs=>
    obtain⟨rfl,e,he,rfl,x,q,rfl⟩:=p.cons_inv
    refine .inr ⟨e.to_,aMh.2 (hl e he).2,e.most,x,⟨e,he,rfl,rfl,rfl⟩,⟨vs,?_,q⟩,rfl⟩;simpa using hv
theorem AX(n:Nat)(l:List bO):∀k,(tables n l k).length=k+1
 |0=>rfl
 |k+1=>by simp[tables,AX n l k]
theorem KI(n:Nat)(l:List bO):∀k,(tables n l k).getLastD []=walks n l k
 |0=>rfl
 | k+1=>by
  simp only[tables,List.getLastD_concat,KI n l k]
  rfl
theorem lN(n:Nat)(l:List bO):∀m k,k<=m->(tables n l m).getD k []=walks n l k
 | 0,k,h=>by
  have:k=0:=by omega
  subst this;rfl
 | m+1,k,h=>by
  simp only[tables]
  by_cases e:k=m+1
  ·subst e;rw[aMW,aOL (by rw[AX];omega),AX,aNr,KI]
   rfl
  ·rw[aMW,aOZ (by rw[AX];omega),<-aMW]
   exact lN n l m k (by omega)
def Zm(l:List bO):∀d,(pulled l d).length=d.length:=by
 unfold pulled
 induction l with
 |nil=>intro d;rfl
 | cons e l ih=>
  intro d;rw[aMo,ih];split<;>simp
theorem F7(l:List bO):∀k d,(rounds l k d).length=d.length
 |0,d=>rfl
 |k+1,d=>by rw[rounds,F7 l k,Zm]
theorem Cy(l:List bO):∀k d,rounds l (k+1) d=pulled l (rounds l k d)
 |0,d=>rfl
 | k+1,d=>by
  rw[rounds,Cy l k]
  rfl
def CH(d:List Int)(e:bO):List Int:=if d.getD e.from_ 0+e.most<d.getD e.to_ 0 then d.set e.to_ (d.getD e.from_ 0+e.most)else d
def t4(l:List bO)(d:List Int):pulled l d=l.foldl CH d:=rfl
def EH(d:List Int)(e:bO):(CH d e).length=d.length:=by unfold CH;split<;>simp
def Ip{d:List Int}{e:bO}(he:e.to_<d.length)(v:Nat):
  (CH d e).getD v 0=if v=e.to_/\d.getD e.from_ 0+e.most<d.getD e.to_ 0 then d.getD e.from_ 0+e.most else d.getD v 0:=by
 unfold CH;by_cases h:d.getD e.from_ 0+e.most<d.getD e.to_ 0
 ·rw[if_pos h]
  by_cases g:v=e.to_
  ·subst g;rw[if_pos ⟨rfl,h⟩];simp[aMW,he]
  ·rw[if_neg (λx=>g x.1)]
   rw[aMW,aNh (λx=>g x.symm),<-aMW]
 ·rw[if_neg h,if_neg (λx=>h x.2)]
def Wx{d:List Int}{e:bO}(he:e.to_<d.length)(v:Nat):(CH d e).getD v 0<=d.getD v 0:=by
 rw[Ip he]
 split
 ·next h=>rw[h.1];omega
 ·omega
def Xy{d:List Int}{e:bO}(he:e.to_<d.length):(CH d e).getD e.to_ 0<=d.getD e.from_ 0+e.most:=by
 rw[Ip he]
 split
 ·omega
 ·next h=>
  have:¬(d.getD e.from_ 0+e.most<d.getD e.to_ 0):=λg=>h ⟨rfl,g⟩
  omega
theorem Ij{n:Nat}:∀{l:List bO} (d:List Int),mK n l->d.length=n->∀v,(pulled l d).getD v 0<=d.getD v 0
 |[],d,_,_,v=>by simp[pulled]
 | e::l,d,hl,hd,v=>by
  rw[t4,aMo,<-t4]
  have h1:=Ij (l:=l) (CH d e) (λx hx=>hl x (aMM _ hx)) (by rw[EH,hd]) v
  have h2:=Wx (d:=d) (e:=e) (by rw[hd];exact(hl e aMN).2) v
  omega
theorem Jf{n:Nat}:∀{l:List bO} (d:List Int),mK n l->d.length=n->∀e∈l,(pulled l d).getD e.to_ 0<=d.getD e.from_ 0+e.most
 |[],d,_,_,e,he=>by cases he
 | a::l,d,hl,hd,e,he=>by
  rw[t4,aMo,<-t4]
  have hl':mK n l:=λx hx=>hl x (aMM _ hx);have EJ:a.to_<d.length:=by rw[hd];exact(hl a aMN).2
  rcases aMR.1 he with rfl|he
  ·have h1:=Ij (l:=l) (CH d e) hl' (by rw[EH,hd]) e.to_
   have h2:=Xy EJ;omega
  ·have h1:=Jf (l:=l) (CH d a) hl' (by rw[EH,hd]) e he
   have h2:=Wx EJ e.from_;omega
theorem CQ{n:Nat}{l:List bO}(hl:mK n l):∀(k:Nat) {i:Nat} {vs:List Nat} {j:Nat} {w:Int},vs.length<=k->cE l i vs j w->j<n->
  (rounds l k (aMF n 0)).getD j 0<=w
 | 0,i,vs,j,w,hk,p,hj=>by
  have:vs=[]:=aNU.1 (by omega)
  subst this;obtain⟨rfl,rfl⟩:=p.nil_inv;simp[rounds,aMW,hj]
 | k+1,i,vs,j,w,hk,p,hj=>by
  rw[Cy]
  have cC:(rounds l k (aMF n 0)).length=n:=by rw[F7];simp
  rcases aPE vs with rfl|⟨us,v,rfl⟩
  ·have h1:=Ij (rounds l k (aMF n 0)) hl cC j;have h2:=CQ hl k (by simp) p hj
   omega
  ·rw[aPF]at p hk
   obtain⟨e,he,x,rfl,rfl,q,rfl⟩:=p.unsnoc
   have h1:=Jf (rounds l k (aMF n 0)) hl cC e he;have h2:=CQ hl k (by simp at hk;omega) q (hl e he).1
   omega
theorem HF{n:Nat}{l0:List bO}(h0:mK n l0):∀{l:List bO} (d:List Int),(∀e∈l,e∈l0)->d.length=n->(∀j,j<n->∃i vs,cE l0 i vs j (d.getD j 0))->
  ∀j,j<n->∃i vs,cE l0 i vs j ((pulled l d).getD j 0)
 |[],d,_,_,h=>h
 | e::l,d,hl,hd,h=>by
  intro j hj;rw[t4,aMo,<-t4];have he:=hl e aMN;refine HF h0 (l:=l) (CH d e) (λx hx=>hl x (aMM _ hx)) (by rw[EH,hd]) ?_ j hj
  intro v hv;rw[Ip (by rw[hd];exact(h0 e he).2)]
  split
  ·next g=>
   obtain⟨i,vs,p⟩:=h e.from_ (h0 e he).1
   rw[g.1]
   exact⟨i,_,p.snoc he⟩
  ·exact h v hv
theorem Gx{n:Nat}{l:List bO}(hl:mK n l):∀k j,j<n->∃i vs,cE l i vs j ((rounds l k (aMF n 0)).getD j 0)
 |0,j,hj=>⟨j,[],by simp[rounds,aMW,hj];exact cE.nil _⟩
 | k+1,j,hj=>by
  rw[Cy]
  exact HF hl _ (λ_ h=>h) (by rw[F7];simp) (Gx hl k) j hj
def XX{n:Nat}{l:List bO}(hl:mK n l):calm n l=true↔kT l:=by
 unfold calm;rw[aNB];constructor
 ·intro h;refine Ot.calm (d:=λv=>(rounds l n (aMF n 0)).getD v 0) ?_;intro e he;simpa using h e he
 ·intro hc e he;simp only[decide_eq_true_eq];obtain⟨i,vs,p⟩:=Gx hl n e.from_ (hl e he).1;have q:=p.snoc he;obtain⟨us,x,a,b,c,-⟩:=q.short hl hc (hl e he).2;have:=CQ hl n (by omega) a (hl e he).2
  omega
def JB{n:Nat}{l:List bO}(hl:mK n l):feasible n (closed n l)=calm n l:=by
 have h1:=gS hl;have h2:=XX hl;cases e:feasible n (closed n l)<;>cases f:calm n l<;>simp_all
end Vx
namespace Vx
abbrev Itm:=Vbexal.Item
def byteAt(t:List Int)(p:Nat):Int:=t.getD p (-1)
def isLet(n:Int):Bool:=decide (65<=n)&&decide (n<=90)
def cM(n:Int):Bool:=decide (48<=n)&&decide (n<=57)
def isNm(l:List Int):Bool:=if l.length=0\/6<l.length\/isLet (l.getD 0 0)=false then false else l.all λn=>isLet n||cM n
def fD(t:List Int)(p:Nat):Nat:=p+((t.drop p).takeWhile (·==32)).length
def lI(t:List Int)(s:Nat):Nat:=((t.drop s).takeWhile cM).length
def aY(t:List Int)(s:Nat):Nat:=if 4<lI t s then s else if 1<lI t s/\t.getD s 0=48 then s else s+lI t s
def dB(t:List Int)(s e:Nat):Int:=((t.take e).drop s).foldl (λv d=>v*10+d-48) 0
def gH(t:List Int)(s:Nat):Option (Itm×Nat):=
 let e:=aY t s
 let m:=if s<e then dB t s e else 1
 if m=0 then none else if byteAt t e=121 then some (.years m.toNat,e+1)else if byteAt t e=63 then some (.doubts m.toNat,e+1)else none
def qV(t:List Int)(s:Nat):Option (Itm×Nat):=
 let m:=aY t (s+1)
 if m=s+1\/byteAt t m≠45 then none else
 let e:=aY t (m+1)
 if e=m+1\/byteAt t e≠62 then none else
 let a:=dB t (s+1) m
 let b:=dB t (m+1) e
 if b<a then none else some (.gap a.toNat b.toNat,e+1)
def fA(t:List Int)(s:Nat):Nat:=s+1+((t.drop (s+1)).takeWhile (λc=>!(c==41))).length
def uH(t:List Int)(s:Nat):Option (Itm×Nat):=
 let e:=fA t s
 let n:=(t.take e).drop (s+1)
 if e=t.length\/isNm n=false then none else some (.mark (aLy n),e+1)
def uG(t:List Int)(s:Nat):Option (Itm×Nat):=
 if byteAt t s=60 then qV t s else if byteAt t s=40 then uH t s else gH t s
def eQ(t:List Int):Prop:=∀x∈t,0<=x/\x<=255
theorem eQ.drop{t:List Int}(h:eQ t)(n:Nat):eQ (t.drop n):=λx hx=>h x (aQ0 hx)
def eQ.tail{a:Int}{t:List Int}(h:eQ (a::t)):eQ t:=λx hx=>h x (aMM _ hx)
def yL{x:Int}(h:0<=x):aNQ x.toNat=cM x:=by
 unfold aNQ cM;congr 1<;>simp<;>omega
def DZ{x:Int}(h:0<=x):aOM x.toNat=isLet x:=by
 unfold aOM isLet;congr 1<;>simp<;>omega
def fJ(t:List Int):(aLy t).length=t.length:=by simp[aLy]
theorem uZ{p:Nat->Bool}{q:Int->Bool}:∀{t:List Int},eQ t->(∀x,0<=x->p x.toNat=q x)->(aLy t).takeWhile p=aLy (t.takeWhile q)
 |[],_,_=>rfl
 | a::t,h,g=>by
  have ha:=g a (h a aMN).1;show(a.toNat::aLy t).takeWhile p=_;rw[aN7,aN7,ha];cases q a with
  |true=>simp only[if_true];rw[uZ h.tail g];rfl
  |false=>rfl
theorem uW{p:Nat->Bool}{q:Int->Bool}:∀{t:List Int},eQ t->(∀x,0<=x->p x.toNat=q x)->(aLy t).dropWhile p=aLy (t.dropWhile q)
 |[],_,_=>rfl
 | a::t,h,g=>by
  have ha:=g a (h a aMN).1;show(a.toNat::aLy t).dropWhile p=_;rw[aQc,aQc,ha];cases q a with
  |true=>simp only[if_true];rw[uW h.tail g]
  |false=>rfl
theorem nE{α:Type}(p:α->Bool):∀l:List α,l.drop (l.takeWhile p).length=l.dropWhile p
 |[]=>rfl
 | a::l=>by
  rw[aN7,aQc]
  cases p a with
  |true=>simp[nE p l]
  |false=>simp
theorem vF{α:Type}(p:α->Bool):∀l:List α,l.take (l.takeWhile p).length=l.takeWhile p
 |[]=>rfl
 | a::l=>by
  rw[aN7]
  cases p a with
  |true=>simp[vF p l]
  |false=>simp
theorem kI{α:Type}(p:α->Bool):∀l:List α,(l.takeWhile p).length<=l.length
 |[]=>by simp
 | a::l=>by
  rw[aN7]
  have:=kI p l
  cases p a<;>simp;omega
def IY{t:List Int}(h:eQ t)(s:Nat):aNi (aLy (t.drop s))=
  (aLy ((t.drop s).takeWhile cM),aLy (t.drop (s+lI t s))):=by
 unfold aNi;rw[uZ (h.drop s) (λx hx=>yL hx),uW (h.drop s) (λx hx=>yL hx),<-nE,aNx];rfl
def yx(t:List Int)(s:Nat):lI t s<=t.length-s:=by
 unfold lI;have:=kI cM (t.drop s);rw[aN8]at this;exact this
theorem L5:∀(l:List Int),(∀x∈l,cM x=true)->∀(a:Nat),
  ((aLy l).foldl (λn c=>10*n+(c-48)) a:Nat)=(l.foldl (λv d=>v*10+d-48) (a:Int)).toNat/\0<=l.foldl (λv d=>v*10+d-48) (a:Int)
 |[],_,a=>by simp[aLy]
 | x::l,h,a=>by
  have hx:=h x aMN;unfold cM at hx;simp only[aM5,decide_eq_true_eq]at hx;have ih:=L5 l (λy hy=>h y (aMM _ hy)) (10*a+(x.toNat-48));have e:(a:Int)*10+x-48=((10*a+(x.toNat-48):Nat):Int):=by omega
  show(aPG _ (10*a+(x.toNat-48)) (aLy l):Nat)=_/\_
  rw[aMo,e]
  exact ih
theorem xO{α:Type}(p:α->Bool):∀(l:List α),∀x∈l.takeWhile p,p x=true
 |[],x,h=>by simp at h
 | a::l,x,h=>by
  rw[aN7]at h
  cases e:p a with
  | true=>
   rw[e]at h
   simp only[if_true,aMR]at h
   rcases h with rfl|h
   ·exact e
   ·exact xO p l x h
  |false=>rw[e]at h;simp at h
def jb(t:List Int)(s:Nat):(t.take (s+lI t s)).drop s=(t.drop s).takeWhile cM:=by
 rw[aON,Nat.add_sub_cancel_left]
 exact vF cM (t.drop s)
def j6{t:List Int}(s:Nat):aRY (aLy ((t.drop s).takeWhile cM))=(dB t s (s+lI t s)).toNat/\0<=dB t s (s+lI t s):=by
 unfold dB aRY;rw[jb];exact L5 _ (xO cM _) 0
def zP(t:List Int)(s:Nat)(h:eQ t):aNV (aLy ((t.drop s).takeWhile cM))=
  if aY t s=s then none else some (dB t s (aY t s)).toNat:=by
 have cC:(aLy ((t.drop s).takeWhile cM)).length=lI t s:=by rw[fJ];rfl
 have fg:lI t s≠0->((aLy ((t.drop s).takeWhile cM)).head?=some 48↔t.getD s 0=48):=by
  intro hd;have e1:t.getD s 0=(t.drop s).getD 0 0:=by simp[aMW]
  rw[e1]
  unfold lI at hd;cases hs:t.drop s with
  |nil=>rw[hs]at hd;simp at hd
  | cons a r=>
   rw[hs]at hd
   rw[aN7]at hd ⊢
   have ha:0<=a:=((h.drop s) a (by rw[hs];exact aMN)).1
   cases e:cM a with
   |false=>rw[e]at hd;simp at hd
   | true=>
    simp only[if_true]
    show some a.toNat=some 48↔a=48;constructor
    ·intro q;have:=aP6 q;omega
    ·intro q;subst q;rfl
 unfold aNV;by_cases h0:lI t s=0
 ·have e:aLy ((t.drop s).takeWhile cM)=[]:=aNU.1 (by rw[cC];exact h0)
  have b:aY t s=s:=by unfold aY;rw[h0];simp
  rw[if_pos (.inl e),if_pos b]
 ·have ne:aLy ((t.drop s).takeWhile cM)≠[]:=λq=>h0 (by rw[<-cC,q];rfl)
  unfold aY;by_cases h4:4<lI t s
  ·rw[if_pos (.inr (.inl (by rw[cC];exact h4))),if_pos h4]
   simp
  ·by_cases h1:1<lI t s/\t.getD s 0=48
   ·rw[if_pos (.inr (.inr ⟨(fg h0).2 h1.2,by rw[cC];omega⟩)),if_neg h4,if_pos h1]
    simp
   ·rw[if_neg,if_neg h4,if_neg h1,if_neg (by omega),(j6 s).1]
    rintro(q|q|⟨q1,q2⟩)
    ·exact ne q
    ·rw[cC]at q;exact h4 q
    ·exact h1 ⟨by rw[cC]at q2;omega,(fg h0).1 q1⟩
def eN{t:List Int}{e:Nat}{c:Int}{r:List Int}(h:t.drop e=c::r):byteAt t e=c/\r=t.drop (e+1)/\e<t.length:=by
 have hl:e<t.length:=by
  have:=congrArg aMi h
  simp at this
  omega
 refine⟨?_,?_,hl⟩
 ·unfold byteAt;have:t.getD e (-1)=(t.drop e).getD 0 (-1):=by simp[aMW]
  rw[this,h];rfl
 ·have:t.drop (e+1)=(t.drop e).drop 1:=by rw[aNx]
  rw[this,h];rfl
def zI{t:List Int}{e:Nat}(h:t.drop e=[]):byteAt t e=-1:=by
 unfold byteAt;have:t.getD e (-1)=(t.drop e).getD 0 (-1):=by simp[aMW]
 rw[this,h];rfl
def backTo(t:List Int):Option (Itm×List Nat)->Option (Itm×Nat):=Option.map λx=>(x.1,t.length-x.2.length)
def tX{t:List Int}{x:Itm}{e:Nat}(he:e<t.length):backTo t (some (x,aLy (t.drop (e+1))))=some (x,e+1):=by
 unfold backTo;simp only[aOO,fJ,aN8];congr 2;omega
def PK{l:List Int}(h:eQ l):aNW (aLy l)=isNm l:=by
 cases l with
 |nil=>rfl
 | cons c r=>
  have hc:=(h c aMN).1;have hr:∀r:List Int,eQ r->(aLy r).all (λd=>aOM d||aNQ d)=r.all λn=>isLet n||cM n:=by
   intro r hb
   induction r with
   |nil=>rfl
   | cons a r ih=>
    show((aOM a.toNat||aNQ a.toNat)&&(aLy r).all _)=_
    rw[DZ (hb a aMN).1,yL (hb a aMN).1,ih hb.tail]
    rfl
  show(aOM c.toNat&&(decide ((aLy r).length<=5)&&(aLy r).all λd=>aOM d||aNQ d))=isNm (c::r)
  rw[DZ hc,hr r h.tail,fJ]
  unfold isNm;simp only[aMT,List.getD_cons_zero,aNj];by_cases h1:isLet c=true
  ·by_cases h2:r.length<=5
   ·rw[if_neg (by rw[h1];simp;omega)]
    simp[h1,h2]
   ·rw[if_pos (by right;left;omega)]
    simp[h1,h2]
  ·rw[if_pos (by right;right;simpa using h1)]
   simp[h1]
def Xr{t:List Int}(h:eQ t)(s:Nat)(xi:byteAt t s≠40)(xm:byteAt t s≠60):
  gH t s=backTo t (aNX (aLy (t.drop s))):=by
 have key:aNX (aLy (t.drop s))=(
  let x:=aNi (aLy (t.drop s))
  let n:=if x.1=[]then some 1 else aNV x.1
  (match n,x.2 with
  |some k,121::r=>if k=0 then none else some (.years k,r)
  |some k,63::r=>if k=0 then none else some (.doubts k,r)
  |_,_=>none)):=by
  cases hs:t.drop s with
  |nil=>rfl
  | cons a r=>
   have hb:=eN hs;have ha:=((h.drop s) a (by rw[hs];exact aMN)).1
   have n40:a.toNat≠40:=by intro q;apply xi;rw[hb.1];omega
   have n60:a.toNat≠60:=by intro q;apply xm;rw[hb.1];omega
   show aNX (a.toNat::aLy r)=_;unfold aNX;split
   ·next q=>cases q
   ·next q=>injection q with q1 q2;exact absurd q1 n40
   ·next q=>injection q with q1 q2;exact absurd q1 n60
   ·rfl
 rw[key,IY h s]
 simp only[]
 have aFe:aLy ((t.drop s).takeWhile cM)=[]↔lI t s=0:=by
  rw[<-aNU,fJ];rfl
 have hn:(if aLy ((t.drop s).takeWhile cM)=[]then some 1 else aNV (aLy ((t.drop s).takeWhile cM)))=
   if lI t s=0 then some 1 else if aY t s=s then none else some (dB t s (aY t s)).toNat:=by
  by_cases h0:lI t s=0
  ·rw[if_pos (aFe.2 h0),if_pos h0]
  ·rw[if_neg (λq=>h0 (aFe.1 q)),if_neg h0,zP t s h]
 rw[hn]
 have hbn:aY t s=s\/aY t s=s+lI t s:=by
  unfold aY;split
  ·exact .inl rfl
  ·split
   ·exact .inl rfl
   ·exact .inr rfl
 by_cases h0:lI t s=0
 ·have hbs:aY t s=s:=by rcases hbn with q | q<;>omega
  rw[if_pos h0]
  unfold gH;simp only[hbs,h0,Nat.add_zero,aNk,if_false];cases hs:t.drop s with
  | nil=>
   have:=zI hs
   rw[this]
   simp[backTo,aLy]
  | cons c r=>
   obtain⟨hc,hr,jZ⟩:=eN hs
   have hcn:=((h.drop s) c (by rw[hs];exact aMN)).1
   rw[hc]
   show _=backTo t (match some 1,c.toNat::aLy r with|some k,121::r=>_|some k,63::r=>_|_,_=>none)
   by_cases e1:c=121
   ·subst e1;subst hr;simp only[aPH];rw[if_neg (by decide),if_pos aPu,if_neg (by decide),tX jZ]
   ·by_cases e2:c=63
    ·subst e2;subst hr;simp only[aPH];rw[if_neg (by decide),if_neg (by decide),if_pos aPu,if_neg (by decide),tX jZ]
    ·rw[if_neg (by decide),if_neg e1,if_neg e2]
     split
     ·next q=>injection q with q1 q2;omega
     ·next q=>injection q with q1 q2;omega
     ·rfl
 ·rw[if_neg h0]
  have aAM:cM (byteAt t s)=true:=by
   unfold lI at h0;cases hs:t.drop s with
   |nil=>rw[hs]at h0;simp at h0
   | cons c r=>
    rw[(eN hs).1]
    rw[hs,aN7]at h0
    cases e:cM c with
    |true=>rfl
    |false=>rw[e]at h0;simp at h0
  by_cases hbs:aY t s=s
  ·rw[if_pos hbs]
   unfold gH;simp only[hbs,aNk,if_false];have n1:byteAt t s≠121:=by intro q;rw[q]at aAM;exact absurd aAM (by decide)
   have n2:byteAt t s≠63:=by intro q;rw[q]at aAM;exact absurd aAM (by decide)
   rw[if_neg (by decide),if_neg n1,if_neg n2]
   rfl
  ·rw[if_neg hbs]
   have Og:aY t s=s+lI t s:=by rcases hbn with q|q;exact absurd q hbs;exact q
   have aCd:0<=dB t s (aY t s):=by rw[Og];exact(j6 s).2
   unfold gH;simp only[];rw[if_pos (show s<aY t s by omega),<-Og]
   generalize hm:dB t s (aY t s)=m at aCd ⊢;cases hs:t.drop (aY t s)with
   | nil=>
    have:=zI hs
    rw[this]
    simp[backTo,aLy]
   | cons c r=>
    obtain⟨hc,hr,jZ⟩:=eN hs
    have hcn:=((h.drop (aY t s)) c (by rw[hs];exact aMN)).1
    rw[hc]
    show _=backTo t (match some m.toNat,c.toNat::aLy r with|some k,121::r=>_|some k,63::r=>_|_,_=>none)
    by_cases e1:c=121
    ·subst e1;subst hr;simp only[aPH];by_cases z:m=0
     ·subst z;rfl
     ·rw[if_neg z,if_pos aPu,if_neg (by omega),tX jZ]
    ·by_cases e2:c=63
     ·subst e2;subst hr;simp only[aPH];by_cases z:m=0
      ·subst z;rfl
      ·rw[if_neg z,if_neg (by decide),if_pos aPu,if_neg (by omega),tX jZ]
     ·rw[if_neg e1,if_neg e2,ite_self]
      split
      ·next q=>injection q with q1 q2;omega
      ·next q=>injection q with q1 q2;omega
      ·rfl
def gz{t:List Int}(h:eQ t)(s:Nat)(xi:byteAt t s=40)(hs:s<t.length):
  uH t s=backTo t (aNX (aLy (t.drop s))):=by
 have e0:t.drop s=40::t.drop (s+1):=by
  cases hd:t.drop s with
  |nil=>have:=congrArg aMi hd;simp at this;omega
  | cons a r=>
   obtain⟨a1,a2,_⟩:=eN hd
   rw[<-a1,xi,a2]
 have hb:=h.drop (s+1);have tw:(aLy (t.drop (s+1))).takeWhile (λc=>c !=41)=aLy ((t.drop (s+1)).takeWhile (λc=>!(c==41))):=
  uZ hb λx hx=>by
   show(!(x.toNat==41))=!(x==41)
   congr 1
   by_cases q:x=41
   ·subst q;rfl
   ·have q2:¬x.toNat=41:=by omega
    rw[beq_eq_false_iff_ne.2 q,beq_eq_false_iff_ne.2 q2]
 have dw:(aLy (t.drop (s+1))).dropWhile (λc=>c !=41)=aLy (t.drop (fA t s)):=by
  rw[uW hb (q:=λc=>!(c==41)) λx hx=>by
   show(!(x.toNat==41))=!(x==41)
   congr 1
   by_cases q:x=41
   ·subst q;rfl
   ·have q2:¬x.toNat=41:=by omega
    rw[beq_eq_false_iff_ne.2 q,beq_eq_false_iff_ne.2 q2],<-nE,aNx]
  rfl
 have aB2:(t.take (fA t s)).drop (s+1)=(t.drop (s+1)).takeWhile (λc=>!(c==41)):=by
  rw[aON]
  unfold fA;rw[Nat.add_sub_cancel_left];exact vF _ _
 have hbn:eQ ((t.drop (s+1)).takeWhile (λc=>!(c==41))):=by
  intro x hx;rw[<-aB2]at hx;exact h x (aPI (aQ0 hx))
 have IF:fA t s<=t.length:=by
  unfold fA;have:=kI (λc:Int=>!(c==41)) (t.drop (s+1));rw[aN8]at this;omega
 rw[e0]
 show uH t s=backTo t (match(aLy (t.drop (s+1))).dropWhile λc=>c !=41 with
  |41::u=>if aNW ((aLy (t.drop (s+1))).takeWhile λc=>c !=41)=true then some (.mark ((aLy (t.drop (s+1))).takeWhile λc=>c !=41),u)else none
  |_=>none)
 rw[tw,dw,PK hbn]
 unfold uH;simp only[aB2];cases hd:t.drop (fA t s)with
 | nil=>
  have:fA t s=t.length:=by
   have:=congrArg aMi hd;simp at this;omega
  rw[if_pos (.inl this)]
  rfl
 | cons c r=>
  obtain⟨hc,hr,jZ⟩:=eN hd
  have c41:c=41:=by
   have e1:(t.drop (s+1)).dropWhile (λc=>!(c==41))=c::r:=by
    rw[<-nE,aNx]
    exact hd
   have:=List.head?_dropWhile_not (λc:Int=>!(c==41)) (t.drop (s+1))
   rw[e1]at this
   simpa using this
  subst c41;subst hr;show _=backTo t (if isNm _=true then some (_,aLy (t.drop (fA t s+1)))else none)
  cases hn:isNm ((t.drop (s+1)).takeWhile (λc=>!(c==41)))with
  |false=>rw[if_pos (.inr rfl)];rfl
  | true=>
   rw[if_neg (by rintro(q|q);omega;cases q),if_pos rfl,tX jZ]
def ur{t:List Int}(h:eQ t)(s:Nat)(xm:byteAt t s=60)(hs:s<t.length):
  qV t s=backTo t (aNX (aLy (t.drop s))):=by
 have e0:t.drop s=60::t.drop (s+1):=by
  cases hd:t.drop s with
  |nil=>have:=congrArg aMi hd;simp at this;omega
  | cons a r=>
   obtain⟨a1,a2,_⟩:=eN hd
   rw[<-a1,xm,a2]
 rw[e0]
 show qV t s=backTo t (match aNi (aLy (t.drop (s+1)))with
  | (a,45::s)=>(match aNi s with
   | (b,62::u)=>(match aNV a,aNV b with
    |some x,some y=>if x<=y then some (.gap x y,u)else none
    |_,_=>none)
   |_=>none)
  |_=>none)
 have bn:∀k,aY t k=k\/aY t k=k+lI t k:=by
  intro k;unfold aY;split
  ·exact .inl rfl
  ·split
   ·exact .inl rfl
   ·exact .inr rfl
 have dd:∀k,lI t k≠0->cM (byteAt t k)=true:=by
  intro k h0;unfold lI at h0;cases hs:t.drop k with
  |nil=>rw[hs]at h0;simp at h0
  | cons c r=>
   rw[(eN hs).1]
   rw[hs,aN7]at h0
   cases e:cM c with
   |true=>rfl
   |false=>rw[e]at h0;simp at h0
 rw[IY h (s+1)]
 unfold qV;simp only[];generalize hk:s+1=k;by_cases hm:aY t k=k
 ·rw[if_pos (.inl hm)]
  have rJ:aNV (aLy ((t.drop k).takeWhile cM))=none:=by rw[zP t k h,if_pos hm]
  generalize aLy ((t.drop k).takeWhile cM)=A at rJ ⊢;split
  ·next q=>
   injection q with q1 q2;subst q1;split
   ·rw[rJ];rfl
   ·rfl
  ·rfl
 ·have vy:aY t k=k+lI t k:=by rcases bn k with q | q;exact absurd q hm;exact q
  have aFI:aNV (aLy ((t.drop k).takeWhile cM))=some (dB t k (aY t k)).toNat:=by rw[zP t k h,if_neg hm]
  rw[<-vy]
  have WM:0<=dB t k (aY t k):=by rw[vy];exact(j6 k).2
  generalize hM:aY t k=m at*;cases hd:t.drop m with
  | nil=>
   rw[zI hd,if_pos (.inr (by decide))]
   rfl
  | cons c r=>
   obtain⟨hc,hr,jZ⟩:=eN hd
   have hcn:=((h.drop m) c (by rw[hd];exact aMN)).1
   rw[hc]
   by_cases e45:c=45
   ·subst e45;subst hr;rw[if_neg (by rintro(q|q);exact hm q;exact q rfl)]
    show _=backTo t (match aNi (aLy (t.drop (m+1)))with
     | (b,62::u)=>(match aNV (aLy ((t.drop k).takeWhile cM)),aNV b with
      |some x,some y=>if x<=y then some (.gap x y,u)else none
      |_,_=>none)
     |_=>none)
    rw[IY h (m+1),aFI]
    generalize hj:m+1=j;by_cases hm2:aY t j=j
    ·rw[if_pos (.inl hm2)]
     have rJ:aNV (aLy ((t.drop j).takeWhile cM))=none:=by rw[zP t j h,if_pos hm2]
     generalize aLy ((t.drop j).takeWhile cM)=A at rJ ⊢;split
     ·next q=>
      injection q with q1 q2;subst q1;rw[rJ];rfl
     ·rfl
    ·have aEd:aY t j=j+lI t j:=by rcases bn j with q | q;exact absurd q hm2;exact q
     have aCk:aNV (aLy ((t.drop j).takeWhile cM))=some (dB t j (aY t j)).toNat:=by rw[zP t j h,if_neg hm2]
     rw[<-aEd]
     have Kg:0<=dB t j (aY t j):=by rw[aEd];exact(j6 j).2
     generalize hE:aY t j=e at*;cases Bs:t.drop e with
     | nil=>
      rw[zI Bs,if_pos (.inr (by decide))]
      rfl
     | cons c2 r2=>
      obtain⟨Yk,uz,aHU⟩:=eN Bs
      have hcn2:=((h.drop e) c2 (by rw[Bs];exact aMN)).1
      rw[Yk]
      by_cases e62:c2=62
      ·subst e62;subst uz;rw[if_neg (by rintro(q|q);exact hm2 q;exact q rfl)]
       show _=backTo t (match some (dB t k m).toNat,aNV (aLy ((t.drop j).takeWhile cM))with
        |some x,some y=>if x<=y then some (.gap x y,aLy (t.drop (e+1)))else none
        |_,_=>none)
       rw[aCk]
       show _=backTo t (if(dB t k m).toNat<=(dB t j e).toNat then some (.gap (dB t k m).toNat (dB t j e).toNat,aLy (t.drop (e+1)))else none)
       by_cases le:dB t j e<dB t k m
       ·rw[if_pos le,if_neg (by omega)];rfl
       ·rw[if_neg le,if_pos (by omega),tX aHU]
      ·rw[if_pos (.inr e62)]
       show _=backTo t (match(aLy ((t.drop j).takeWhile cM),c2.toNat::aLy r2)with|(b,62::u)=>_|_=>none)
       split
       ·next q=>injection q with q1 q2;injection q2 with q2 q3;omega
       ·rfl
   ·rw[if_pos (.inr e45)]
    show _=backTo t (match(aLy ((t.drop k).takeWhile cM),c.toNat::aLy r)with|(a,45::s)=>_|_=>none)
    split
    ·next q=>injection q with q1 q2;injection q2 with q2 q3;omega
    ·rfl
def Il{t:List Int}(h:eQ t)(s:Nat):uG t s=backTo t (aNX (aLy (t.drop s))):=by
 unfold uG;by_cases xm:byteAt t s=60
 ·rw[if_pos xm]
  refine ur h s xm ?_;cases hd:t.drop s with
  |nil=>rw[zI hd]at xm;cases xm
  |cons a r=>exact(eN hd).2.2
 ·rw[if_neg xm]
  by_cases xi:byteAt t s=40
  ·rw[if_pos xi]
   refine gz h s xi ?_;cases hd:t.drop s with
   |nil=>rw[zI hd]at xi;cases xi
   |cons a r=>exact(eN hd).2.2
  ·rw[if_neg xi]
   exact Xr h s xi xm
end Vx
namespace Vx
def tdw{p:Nat->Bool}(l:List Nat):l.takeWhile p++l.dropWhile p=l:=List.takeWhile_append_dropWhile
def Em{u:List Nat}{x:Itm}{r:List Nat}(h:aNX u=some (x,r)):∃pre,pre≠[]/\u=pre++r:=by
 unfold aNX at h;split at h
 ·cases h
 ·next r0=>
  simp only[]at h
  split at h
  ·next s e=>
   split at h
   ·injection h with h;injection h with h1 h2;subst h2;refine⟨40::(r0.takeWhile (λc=>c !=41)++[41]),by simp,?_⟩
    have:=tdw (p:=λc=>c !=41) r0
    rw[e]at this
    simpa using this.symm
   ·cases h
  ·cases h
 ·next r0=>
  unfold aNi at h;split at h
  ·next a s e=>
   injection e with e1 e2;split at h
   ·next b v e'=>
    injection e' with e1' e2';split at h
    ·split at h
     ·injection h with h;injection h with h1 h2;subst h2;refine⟨60::(a++45::(b++[62])),by simp,?_⟩
      have h1:=tdw (p:=aNQ) r0;have h2:=tdw (p:=aNQ) s;rw[e1,e2]at h1;rw[e1',e2']at h2;rw[<-h1,<-h2];simp
     ·cases h
    ·cases h
   ·cases h
  ·cases h
 ·next u'=>
  simp only[]at h
  have h1:=tdw (p:=aNQ) u;unfold aNi at h;simp only[]at h;split at h
  ·next r' _ e2=>
   split at h
   ·cases h
   ·injection h with h;injection h with h3 h4;subst h4;refine⟨u.takeWhile aNQ++[121],by simp,?_⟩
    rw[e2]at h1
    simpa using h1.symm
  ·next r' _ e2=>
   split at h
   ·cases h
   ·injection h with h;injection h with h3 h4;subst h4;refine⟨u.takeWhile aNQ++[63],by simp,?_⟩
    rw[e2]at h1
    simpa using h1.symm
  ·cases h
def OY(t:List Int)(n:Nat):aLy (t.drop n)=(aLy t).drop n:=by unfold aLy;exact List.map_drop
def Jt{t:List Int}(h:eQ t){s:Nat}{x:Itm}{b:Nat}(e:uG t s=some (x,b)):
  aNX (aLy (t.drop s))=some (x,aLy (t.drop b))/\s<b/\b<=t.length:=by
 rw[Il h]at e
 cases hi:aNX (aLy (t.drop s))with
 |none=>rw[hi]at e;cases e
 | some y=>
  obtain⟨x',r⟩:=y
  rw[hi]at e
  have e2:some (x',t.length-r.length)=some (x,b):=e;injection e2 with e2;injection e2 with e3 e4;subst e3;obtain⟨pre,y8,hu⟩:=Em hi;have hl:=congrArg aMi hu;rw[fJ,aMH,aN8]at hl;have hp:pre.length≠0:=λq=>y8 (aNU.1 q);have hr:r=aLy (t.drop b):=by
   have:r=(aLy (t.drop s)).drop pre.length:=by rw[hu];simp
   rw[this,OY,OY,aNx]
   congr 1
   omega
  refine⟨by rw[<-hr],by omega,by omega⟩
def X8{t:List Int}(h:eQ t){s:Nat}(e:uG t s=none):aNX (aLy (t.drop s))=none:=by
 rw[Il h]at e
 cases hi:aNX (aLy (t.drop s))with
 |none=>rfl
 |some y=>rw[hi]at e;cases e
def i7(x:Itm)(ms:List (List Nat)):Bool:=match x with
 |.mark n=>decide (ms.length<12)&&!(ms.contains n)
 |_=>true
def uE(acc:List (Itm×Nat)):Nat:=match acc.getLast? with
 |none=>0
 |some x=>x.2
def uD(t:List Int):Nat->List (Itm×Nat)->Nat->List (Itm×Nat)
 |0,acc,_=>acc
 | f+1,acc,p=>match uG t (fD t p)with
  |none=>acc
  |some (x,b)=>if i7 x (aMD (acc.map (·.1)))=true then uD t f (acc++[(x,b)]) b else acc
def finish(t:List Int)(q:List (Itm×Nat)):Except Nat aMO:=
 if fD t (uE q)=t.length then .ok (q.map (·.1))else .error (fD t (uE q)+1)
def Zo(acc:List (Itm×Nat))(x:Itm)(b:Nat):uE (acc++[(x,b)])=b:=by simp[uE]
theorem ic{t:List Int}{p q:Nat}(h:fD t p=fD t q):∀f acc,uD t f acc p=uD t f acc q
 |0,_=>rfl
 |f+1,acc=>by simp only[uD,h]
theorem Ao{t:List Int}(h:eQ t):∀(f g p:Nat) (acc:List (Itm×Nat)),p<=t.length->t.length-p+1<=f->t.length-p+1<=g->fD t (uE acc)=fD t p->
  aNl f (p+1) (acc.map (·.1)) (aLy (t.drop p))=finish t (uD t g acc p)
 |0,g,p,acc,hp,hf,hg,hb=>by omega
 |f+1,0,p,acc,hp,hf,hg,hb=>by omega
 | f+1,g+1,p,acc,hp,hf,hg,hb=>by
  cases hd:t.drop p with
  | nil=>
   have hpe:p=t.length:=by have:=congrArg aMi hd;simp at this;omega
   have Og:fD t p=p:=by unfold fD;rw[hd];rfl
   have hi:uG t (fD t p)=none:=by rw[Il h,Og,hd];rfl
   show aNl (f+1) (p+1) _ []=_;simp only[aNl,uD,hi];unfold finish;rw[hb,Og,if_pos hpe]
  | cons a r=>
   obtain⟨ha,hr,jZ⟩:=eN hd
   have han:=((h.drop p) a (by rw[hd];exact aMN)).1
   subst hr;show aNl (f+1) (p+1) _ (a.toNat::aLy (t.drop (p+1)))=_;by_cases e32:a=32
   ·subst e32;have Og:fD t p=fD t (p+1):=by
     unfold fD;rw[hd,aN7];simp;omega
    have:=Ao h f (g+1) (p+1) acc (by omega) (by omega) (by omega) (hb.trans Og)
    rw[ic Og]
    rw[<-this]
    rfl
   ·have Og:fD t p=p:=by
     unfold fD;rw[hd,aN7];have:(a==32)=false:=by simpa using e32
     rw[this];simp
    have n32:a.toNat≠32:=by omega
    have hu:(a.toNat::aLy (t.drop (p+1)))=aLy (t.drop p):=by rw[hd];rfl
    have vJ:aNl (f+1) (p+1) (acc.map (·.1)) (a.toNat::aLy (t.drop (p+1)))=
      (match aNX (aLy (t.drop p))with
      |none=>.error (p+1)
      | some (x,r)=>(match x with
       |.mark n=>if(aMD (acc.map (·.1))).contains n=true\/aOs<=(aMD (acc.map (·.1))).length then .error (p+1)else aNl f (p+1+((aLy (t.drop p)).length-r.length)) (acc.map (·.1)++[x]) r
       |_=>aNl f (p+1+((aLy (t.drop p)).length-r.length)) (acc.map (·.1)++[x]) r)):=by
     rw[<-hu]
     conv=>lhs;unfold aNl
     split
     ·next q=>cases q
     ·next q=>injection q with q1 q2;exact absurd q1 n32
     ·rfl
    rw[vJ]
    have aF1:finish t acc=.error (p+1):=by
     unfold finish;rw[hb,Og,if_neg (by omega)]
    cases hi:uG t p with
    | none=>
     rw[X8 h hi]
     simp only[uD,Og,hi]
     exact aF1.symm
    | some y=>
     obtain⟨x,b⟩:=y
     obtain⟨h1,h2,h3⟩:=Jt h hi
     rw[h1]
     have hk:p+1+((aLy (t.drop p)).length-(aLy (t.drop b)).length)=b+1:=by
      rw[fJ,fJ,aN8,aN8];omega
     have Ou:=Ao h f g b (acc++[(x,b)]) h3 (by omega) (by omega) (by rw[Zo])
     rw[aMU]at Ou
     have aA5:aNl f (b+1) (acc.map (·.1)++[x]) (aLy (t.drop b))=finish t (uD t g (acc++[(x,b)]) b):=Ou;simp only[uD,Og,hi];cases x with
     | mark n=>
      simp only[]
      rw[hk,aA5]
      unfold i7;by_cases c1:(aMD (acc.map (·.1))).contains n=true\/aOs<=(aMD (acc.map (·.1))).length
      ·rw[if_pos c1,if_neg,aF1]
       intro q;simp only[aM5,decide_eq_true_eq,aQr]at q;rcases c1 with c1|c1
       ·rw[c1]at q;exact absurd q.2 (by decide)
       ·have:aOs=12:=rfl
        omega
      ·rw[if_neg c1,if_pos]
       simp only[aM5,decide_eq_true_eq,aQr]
       have:aOs=12:=rfl
       refine⟨?_,?_⟩
       ·have:=λq=>c1 (.inr q);omega
       ·cases hq:(aMD (acc.map (·.1))).contains n with
        |true=>exact absurd (.inl hq) c1
        |false=>rfl
     |years m=>simp only[i7,if_true];rw[hk,aA5]
     |doubts m=>simp only[i7,if_true];rw[hk,aA5]
     |gap m k=>simp only[i7,if_true];rw[hk,aA5]
def gB(t:List Int):List (Itm×Nat):=uD t (t.length+1) [] 0
def X5{t:List Int}(h:eQ t):aOt (aLy t)=finish t (gB t):=by
 have:=Ao h (t.length+1) (t.length+1) 0 [] (aM1 _) (by omega) (by omega) rfl
 unfold aOt gB;rw[fJ];exact this
def uQ(c:aMO)(x:Itm):aMD (c++[x])=aMD c++aMD [x]:=by
 unfold aMD;exact aOu
end Vx
namespace Vx
open Vbexal (St Said Place once allNames many placeOf topOf endOf edges saidEdges coreEdges partEdges between ageEdges names)
theorem qY:∀{l:List aMV} {x:aMV},x∈once l↔x∈l
 |[],x=>by simp[once]
 | a::l,x=>by
  simp only[once,aMR,aN2,qY (l:=l)]
  constructor
  ·rintro(h | h)
   ·exact .inl h
   ·exact .inr h.1
  ·rintro(h | h)
   ·exact .inl h
   ·by_cases e:x=a
    ·exact .inl e
    ·exact .inr ⟨h,by simpa using e⟩
theorem A8:∀l:List aMV,(once l).Nodup
 |[]=>by simp[once]
 | a::l=>by
  simp only[once,aNP,aN2]
  refine⟨λh=>by simp at h,(A8 l).filter _⟩
def KQ(acc:List aMV)(x:aMV):List aMV:=if acc.contains x then acc else acc++[x]
theorem Ld:∀(l acc:List aMV),l.foldl KQ acc=acc++(once l).filter λx=>!(acc.contains x)
 |[],acc=>by simp[once]
 | a::l,acc=>by
  rw[aMo,Ld l]
  unfold KQ;by_cases h:acc.contains a=true
  ·rw[if_pos h]
   congr 1
   simp only[once,aNs,h,Bool.not_true]
   simp only[aPJ,if_false]
   rw[aQi]
   refine aQs λx _=>?_;by_cases q:x=a
   ·subst q;rw[h];rfl
   ·have:(x !=a)=true:=by simpa using q
    rw[this,aOa]
  ·have h':acc.contains a=false:=by simpa using h
   rw[if_neg h]
   rw[aMb]
   congr 1
   simp only[once,aNs,h',Bool.not_false,if_true,List.singleton_append]
   congr 1
   rw[aQi]
   refine aQs λx _=>?_;have:(acc++[a]).contains x=(acc.contains x||(x==a)):=by
    simp only[List.contains_eq_any_beq,List.any_append,aNm,List.any_nil,aPK]
   rw[this,Bool.not_or]
   rfl
def E1(l:List aMV):once l=l.foldl KQ []:=by
 rw[Ld,List.nil_append,aQd.2]
 intro x _;rfl
structure aBs(x:Said):Prop where
 kind:x.kind<=3
 lo:-100000<=x.a
 hi:x.a<=100000
 one:aNW x.one=true
 yc:x.kind<=1->x.two=[]
 fz:2<=x.kind->aNW x.two=true
 ne:x.one≠x.two
def mN:Itm->Prop
 |.years n=>1<=n/\n<=9999
 |.doubts n=>1<=n/\n<=9999
 |.gap a b=>a<=b/\b<=9999
 |.mark n=>aNW n=true
structure Ox(c:aMO):Prop where
 items:∀x∈c,mN x
 len:c.length<=300
 marks:(names c).length<=12
 nodup:(names c).Nodup
structure Wf(s:St):Prop where
 four:s.cores.length=4
 cores:∀p,some p∈s.cores->Ox p.core
 rN:s.said.length<=12
 said:∀x∈s.said,aBs x
 names:(allNames s).length<=14
def LS:Wf aPL:=by
 refine⟨rfl,?_,by decide,?_,by decide⟩
 ·intro p hp;unfold aPL at hp;simp at hp
 ·intro x hx;unfold aPL at hx;simp at hx
def Lq{l:List aMV}{n:aMV}(h:n∈l):l.findIdx (λm=>m==n)<l.length:=
 List.findIdx_lt_length_of_exists ⟨n,h,by simp⟩
def w4{s:St}{c:Nat}{p:Place}(h:aMf s c=some p){n:aMV}(hn:n∈names p.core):n∈allNames s:=by
 unfold allNames;rw[qY,aMX,aNR];refine .inl ⟨some p,?_,hn⟩;unfold aMf at h;cases e:s.cores[c]? with
 |none=>rw[e]at h;cases h
 | some o=>
  rw[e]at h
  have:o=some p:=h
  subst this;exact aMZ e
def AB{s:St}{x:Said}(h:x∈s.said):x.one∈allNames s:=by
 unfold allNames;rw[qY,aMX,aNR,aNR];refine .inr ⟨x,h,?_⟩;split<;>simp
def AA{s:St}{x:Said}(h:x∈s.said)(hk:¬x.kind<=1):x.two∈allNames s:=by
 unfold allNames;rw[qY,aMX,aNR,aNR];refine .inr ⟨x,h,?_⟩;rw[if_neg hk];simp
def cK(s:St):many s=9+(allNames s).length:=by unfold many;simp[Vbexal.CORES];omega
def fT{s:St}{n:aMV}(h:n∈allNames s):placeOf s n<many s/\1<=placeOf s n/\placeOf s n<=(allNames s).length:=by
 have:=Lq h
 rw[cK]
 unfold placeOf;omega
def W3{s:St}{c:Nat}(h:c<4):topOf s c<many s/\endOf s c<many s:=by
 rw[cK];unfold endOf topOf;omega
def KA{i j:Nat}{p:Nat×Nat}{k:Nat}{e:bO}(h:e∈between i j p k):(e.from_=i/\e.to_=j)\/(e.from_=j/\e.to_=i):=by
 unfold between at h;simp at h;rcases h with rfl|rfl
 ·exact .inl ⟨rfl,rfl⟩
 ·exact .inr ⟨rfl,rfl⟩
theorem FG{s:St}{c:Nat}(hc:c<4):∀{l:List (aMO×aMV)} {i:Nat} {kR:aMO},i<many s->(∀x∈l,x.2∈allNames s)->mK (many s) (partEdges s c i l kR)
 | [],i,kR,hi,_=>by
  intro e he;have wd:=(W3 (s:=s) hc).2;rcases KA he with h|h<;>omega
 | (x,n)::l,i,kR,hi,hl=>by
  intro e he;have hn:=(fT (hl (x,n) aMN)).1;rw[partEdges,aMX]at he;rcases he with he|he
  ·rcases KA he with h|h<;>(have hn':placeOf s n<many s:=hn;omega)
  ·exact FG hc hn (λy hy=>hl y (aMM _ hy)) e he
theorem eG:∀(c acc:aMO),(aMu acc c).1.map (·.2)=names c
 |[],acc=>rfl
 | .mark n::l,acc=>by
  show n::(aMu [] l).1.map (·.2)=n::names l;rw[eG l []]
 | .years m::l,acc=>by
  show(aMu (acc++[.years m]) l).1.map (·.2)=names l
  exact eG l _
 | .doubts m::l,acc=>by
  show(aMu (acc++[.doubts m]) l).1.map (·.2)=names l
  exact eG l _
 | .gap m k::l,acc=>by
  show(aMu (acc++[.gap m k]) l).1.map (·.2)=names l
  exact eG l _
def My{s:St}{c:Nat}(hc:c<4):mK (many s) (coreEdges s c):=by
 intro e he;unfold coreEdges at he;split at he
 ·simp at he
 ·next p hp=>
  split at he
  ·simp at he
  ·refine FG hc (W3 hc).1 ?_ e he;intro x hx;refine w4 hp ?_;rw[<-eG p.core []];exact aOb hx
def NQ{s:St}{k:Nat}{x:Said}(hx:x∈s.said):mK (many s) (saidEdges s k x):=by
 have h1:=(fT (AB hx)).1;have h0:0<many s:=by rw[cK];omega
 intro e he;unfold saidEdges at he;simp only[]at he;split at he
 ·simp at he
 ·split at he
  ·simp at he;subst he;exact⟨h1,h0⟩
  ·split at he
   ·simp at he;subst he;exact⟨h0,h1⟩
   ·have h2:=(fT (AA hx (by omega))).1
    split at he
    ·simp at he;subst he;exact⟨h1,h2⟩
    ·simp at he
     rcases he with rfl|rfl
     ·exact⟨h1,h2⟩
     ·exact⟨h2,h1⟩
def bP(s:St):mK (many s) (edges s):=by
 intro e he;unfold edges at he;rw[aMX,aMX,aNR,aNR]at he;rcases he with⟨k,hk,he⟩|⟨c,hc,he⟩|he
 ·split at he
  ·next x hx=>exact NQ (aMZ hx) e he
  ·simp at he
 ·exact My (aMh.1 hc) e he
 ·unfold ageEdges at he;rw[aNG]at he;obtain⟨i,hi,rfl⟩:=he;have:=aMh.1 hi;have h0:0<many s:=by rw[cK];omega
  exact⟨by show i+1<_;omega,h0⟩
def Wi{s:St}{i:Nat}(h1:1<=i)(h2:i<many s):(⟨i,0,0,200⟩:bO)∈edges s:=by
 unfold edges;rw[aMX,aMX];refine .inr (.inr ?_);unfold ageEdges;rw[aNG];refine⟨i-1,aMh.2 (by omega),?_⟩
 show(⟨i-1+1,0,0,Vbexal.AGES⟩:bO)=_
 rw[Nat.sub_add_cancel h1];rfl
end Vx
namespace Vx
open Vbexal (St Said Place once allNames many placeOf names)
theorem HH:∀(d:List Nat),(∀c∈d,aNQ c=true)->∀(a m:Nat),a<m->d.foldl (λn c=>10*n+(c-48)) a<m*10 ^ d.length
 |[],_,a,m,h=>by simpa using h
 | c::d,hd,a,m,h=>by
  have hc:=hd c aMN;unfold aNQ at hc;simp only[aM5,decide_eq_true_eq]at hc;have:=HH d (λx hx=>hd x (aMM _ hx)) (10*a+(c-48)) (m*10) (by omega)
  rw[aMo,aMT,Nat.pow_succ,Nat.mul_comm (10 ^ d.length) 10,<-Nat.mul_assoc]
  exact this
def J6{d:List Nat}{v:Nat}(hd:∀c∈d,aNQ c=true)(h:aNV d=some v):v<=9999:=by
 unfold aNV at h;split at h
 ·cases h
 ·next q=>
  injection h with h;have h4:d.length<=4:=by
   by_cases z:4<d.length
   ·exact absurd (.inr (.inl z)) q
   ·omega
  have:=HH d hd 0 1 (by omega)
  unfold aRY at h;rw[h]at this;have p:10 ^ d.length<=10 ^ 4:=Nat.pow_le_pow_right (by omega) h4
  omega
def Fg(u:List Nat):∀c∈(aNi u).1,aNQ c=true:=xO _ u
def gx{u:List Nat}{x:Itm}{r:List Nat}(h:aNX u=some (x,r)):mN x:=by
 unfold aNX at h;split at h
 ·cases h
 ·simp only[]at h
  split at h
  ·split at h
   ·next hn=>
    injection h with h;injection h with h1 h2;subst h1;exact hn
   ·cases h
  ·cases h
 ·next r0=>
  split at h
  ·next a s e=>
   have ha:∀c∈a,aNQ c=true:=by
    have:=Fg r0;rw[e]at this;exact this
   split at h
   ·next b v e'=>
    have hb:∀c∈b,aNQ c=true:=by
     have:=Fg s;rw[e']at this;exact this
    split at h
    ·next y z hy hz=>
     split at h
     ·next le=>
      injection h with h;injection h with h1 h2;subst h1;exact⟨le,J6 hb hz⟩
     ·cases h
    ·cases h
   ·cases h
  ·cases h
 ·have hd:=Fg u;simp only[]at h;have hk:∀k,(if(aNi u).1=[]then some 1 else aNV (aNi u).1)=some k->k<=9999:=by
   intro k q;split at q
   ·injection q with q;omega
   ·exact J6 hd q
  split at h
  ·next k r' q _=>
   split at h
   ·cases h
   ·injection h with h;injection h with h1 h2;subst h1;have:=hk k q;exact⟨by omega,this⟩
  ·next k r' q _=>
   split at h
   ·cases h
   ·injection h with h;injection h with h1 h2;subst h1;have:=hk k q;exact⟨by omega,this⟩
  ·cases h
structure FY(c:aMO):Prop where
 items:∀x∈c,mN x
 marks:(names c).length<=12
 nodup:(names c).Nodup
def FY.snoc{c:aMO}(h:FY c){x:Itm}(hx:mN x)(hm:∀n,x=.mark n->n∉names c/\(names c).length<12):FY (c++[x]):=by
 have hi:∀y∈c++[x],mN y:=by
  intro y hy;rcases aMX.1 hy with hy|hy
  ·exact h.items y hy
  ·have:y=x:=by simpa using hy
   rw[this];exact hx
 cases x with
 | mark n=>
  have hn:=hm n rfl;have e:names (c++[.mark n])=names c++[n]:=uQ c _;refine⟨hi,?_,?_⟩
  ·rw[e,aMH];show _+1<=12;omega
  ·rw[e,List.nodup_append]
   refine⟨h.nodup,by simp,?_⟩
   intro a ha b hb;have:b=n:=by simpa using hb
   rw[this];intro q;rw[q]at ha;exact hn.1 ha
 | years m=>
  have e:names (c++[.years m])=names c:=by rw[uQ];exact aMc _
  exact⟨hi,by rw[e];exact h.marks,by rw[e];exact h.nodup⟩
 | doubts m=>
  have e:names (c++[.doubts m])=names c:=by rw[uQ];exact aMc _
  exact⟨hi,by rw[e];exact h.marks,by rw[e];exact h.nodup⟩
 | gap m k=>
  have e:names (c++[.gap m k])=names c:=by rw[uQ];exact aMc _
  exact⟨hi,by rw[e];exact h.marks,by rw[e];exact h.nodup⟩
theorem tO:∀(f k:Nat) (done:aMO) (t:List Nat) (c:aMO),aNl f k done t=.ok c->FY done->
  FY c/\c.length<=done.length+t.length
 |0,k,done,t,c,h,hd=>by cases h
 | f+1,k,done,t,c,h,hd=>by
  unfold aNl at h;split at h
  ·injection h with h;subst h;exact⟨hd,by simp⟩
  ·have:=tO f _ done _ c h hd
   exact⟨this.1,by simp;omega⟩
  ·split at h
   ·cases h
   ·next x r hx=>
    have hw:=gx hx;obtain⟨pre,y8,hu⟩:=Em hx;have hl:r.length+1<=t.length:=by
     rw[hu,aMH]
     have:pre.length≠0:=λq=>y8 (aNU.1 q)
     omega
    split at h
    ·next n=>
     split at h
     ·cases h
     ·next q=>
      have hs:FY (done++[.mark n]):=hd.snoc hw (by
       intro m hm;injection hm with hm;subst hm;refine⟨λz=>q (.inl ?_),?_⟩
       ·simpa using z
       ·have:aOs=12:=rfl
        have:=λz=>q (.inr z);omega)
      have:=tO f _ _ _ c h hs
      refine⟨this.1,?_⟩
      have:=this.2
      rw[aMH]at this
      simp at this
      omega
    ·next nm=>
     have hs:FY (done++[x]):=hd.snoc hw (λm hm=>absurd hm (nm m));have:=tO f _ _ _ c h hs;refine⟨this.1,?_⟩;have:=this.2;rw[aMH]at this;simp at this;omega
def Ja{t:List Nat}{c:aMO}(h:aOt t=.ok c)(ht:t.length<=300):Ox c:=by
 have:=tO _ _ _ _ _ h ⟨by simp,by decide,by decide⟩
 exact⟨this.1.items,by have:=this.2;simp at this;omega,this.1.marks,this.1.nodup⟩
theorem Bi{α β:Type}:∀(l:List α) (g:Nat->α->β),(aME l.length).filterMap (λi=>(l[i]?).map λx=>g i x)=l.mapIdx g
 |[],g=>rfl
 | a::l,g=>by
  rw[aMT,List.range_succ_eq_map,aNy]
  simp only[List.getElem?_cons_zero,aOO]
  rw[List.filterMap_map,List.mapIdx_cons]
  congr 1
  rw[<-Bi l λi=>g (i+1)]
  rfl
def lR(s:St)(k:Nat)(b:Bool):(aNz s k b).said=s.said.mapIdx λi x=>if i=k then{ x with on:=b }else x:=by
 unfold aNz;exact Bi s.said λi x=>if i=k then{ x with on:=b }else x
def Fb(s:St)(k:Nat):aN9 s k=aNz s k false:=rfl
theorem wY(k:Nat)(b:Bool):∀(l:List Said) (j:Nat),(l.mapIdx λi x=>if i+j=k then{ x with on:=b }else x).flatMap (λx=>if x.kind<=1 then[x.one]else[x.one,x.two])=
  l.flatMap λx=>if x.kind<=1 then[x.one]else[x.one,x.two]
 |[],j=>rfl
 | a::l,j=>by
  rw[List.mapIdx_cons,aNC,aNC]
  have h1:=wY k b l (j+1);have e:(λi (x:Said)=>if i+1+j=k then{ x with on:=b }else x)=λi x=>if i+(j+1)=k then{ x with on:=b }else x:=by
   funext i x
   rw[Nat.add_assoc,Nat.add_comm 1 j]
  rw[e,h1]
  congr 1
  split<;>rfl
def KH(s:St)(k:Nat)(b:Bool):allNames (aNz s k b)=allNames s:=by
 unfold allNames;have e:(aNz s k b).said.flatMap (λx=>if x.kind<=1 then[x.one]else[x.one,x.two])=s.said.flatMap λx=>if x.kind<=1 then[x.one]else[x.one,x.two]:=by
  rw[lR]
  exact wY k b s.said 0
 rw[e]
 rfl
def Wf.setOn{s:St}(h:Wf s)(k:Nat)(b:Bool):Wf (aNz s k b):=by
 refine⟨h.four,h.cores,?_,?_,?_⟩
 ·rw[lR,aQj];exact h.rN
 ·intro x hx;rw[lR,List.mem_mapIdx]at hx;obtain⟨i,hi,rfl⟩:=hx;have:=h.said _ (List.getElem_mem hi);split
  ·exact⟨this.kind,this.lo,this.hi,this.one,this.yc,this.fz,this.ne⟩
  ·exact this
 ·rw[KH];exact h.names
theorem KD:∀(l:List aMV),(once l).length<=l.length
 |[]=>by simp[once]
 | a::l=>by
  simp only[once,aMT]
  have h1:=aOc (λy=>y !=a) (once l);have h2:=KD l;omega
def El{l m:List aMV}(h:∀x∈l,x∈m):(once l).length<=(once m).length:=
 (A8 l).length_le_of_subset λx hx=>qY.2 (h x (qY.1 hx))
def G9{α:Type}{l:List α}{i:Nat}{a x:α}(h:x∈l.set i a):x∈l\/x=a:=aOd h
def zQ{c:Int}(h:aMg c=true):c.toNat<4/\0<=c/\c<=3:=by
 unfold aMg aMP at h;simp only[aM5,decide_eq_true_eq]at h;omega
def fV{s:St}{c:Nat}{p:Place}(h:aMf s c=some p):some p∈s.cores:=by
 unfold aMf at h;cases e:s.cores[c]? with
 |none=>rw[e]at h;cases h
 | some o=>
  rw[e]at h
  have:o=some p:=h
  subst this;exact aMZ e
def G5{s:St}(h:Wf s)(c:aN4):Wf (aMY s c).1:=by
 unfold aMY;split
 ·exact h
 ·next hr=>
  have hr:aMn c=true:=by simpa using hr
  cases c with
  |clear=>exact LS
  | core c t=>
   simp only[aMn,aM5]at hr
   have hc:=zQ hr.1;have ht:(aLy t).length<=300:=by
    rw[fJ]
    have:=hr.2
    unfold aNt at this;simp only[aM5,decide_eq_true_eq]at this;exact this.1
   unfold aMS;simp only[];split
   ·exact h
   ·next x hx=>
    split
    ·exact h
    ·next hn=>
     refine⟨?_,?_,h.rN,h.said,?_⟩
     ·show(s.cores.set _ _).length=4
      rw[aMv];exact h.four
     ·intro p hp;rcases G9 hp with hp|hp
      ·exact h.cores p hp
      ·injection hp with hp;subst hp;exact Ja hx ht
     ·have:aOe=14:=rfl
      show(allNames { s with cores:=s.cores.set c.toNat (some ⟨x,true⟩) }).length<=14
      omega
  | drop c=>
   unfold aMS;simp only[];split
   ·exact h
   ·refine⟨?_,?_,h.rN,h.said,?_⟩
    ·show(s.cores.set _ _).length=4
     rw[aMv];exact h.four
    ·intro p hp;rcases G9 hp with hp|hp
     ·exact h.cores p hp
     ·cases hp
    ·refine aM3 ?_ h.names;unfold allNames;refine El λx hx=>?_;rw[aMX,aNR]at hx ⊢;rcases hx with⟨p,hp,hx⟩|hx
     ·rcases G9 hp with hp | hp
      ·exact .inl ⟨p,hp,hx⟩
      ·subst hp;simp at hx
     ·exact .inr hx
  |print c=>unfold aMS;simp only[];split<;>exact h
  |parts c=>unfold aMS;simp only[];split<;>exact h
  | say k a n m=>
   unfold aMS;simp only[];split
   ·exact h
   ·next lx=>
    split
    ·exact h
    ·next hn=>
     have e12:Vbexal.SAID=12:=rfl;have e14:aOe=14:=rfl;refine⟨h.four,h.cores,?_,?_,by show(allNames { s with said:=s.said++[⟨k.toNat,a,aLy n,aLy m,true⟩] }).length<=14;omega⟩
     ·show(s.said++[_]).length<=12
      rw[aMH]
      show _+1<=12;omega
     ·intro x hx;rcases aMX.1 hx with hx|hx
      ·exact h.said x hx
      ·have e:x=⟨k.toNat,a,aLy n,aLy m,true⟩:=by simpa using hx
       simp only[aMn,aM5,aMP,decide_eq_true_eq,aNc]at hr
       obtain⟨⟨k0,k3⟩,⟨a0,a1⟩,⟨_,n1⟩,h2⟩:=hr
       subst e;by_cases hk:k<=1
       ·rw[if_pos hk]at h2
        have hm:m=[]:=by simpa using h2
        subst hm;refine⟨by show k.toNat<=3;omega,a0,a1,n1,λ_=>rfl,λq=>?_,?_⟩
        ·have q:2<=k.toNat:=q;omega
        ·intro q;have q:aLy n=[]:=q;rw[q]at n1;cases n1
       ·rw[if_neg hk]at h2
        simp only[aM5]at h2
        obtain⟨⟨_,m1⟩,y8,_⟩:=h2
        refine⟨by show k.toNat<=3;omega,a0,a1,n1,λq=>?_,λ_=>m1,by simpa using y8⟩
        have q:k.toNat<=1:=q;omega
  |aside k=>unfold aMS;simp only[];split;exact h;exact h.setOn _ _
  |back k=>unfold aMS;simp only[];split;exact h;exact h.setOn _ _
  | whole c on=>
   unfold aMS;simp only[];split
   ·exact h
   ·next p hp=>
    refine⟨?_,?_,h.rN,h.said,?_⟩
    ·show(s.cores.set _ _).length=4
     rw[aMv];exact h.four
    ·intro q hq;rcases G9 hq with hq|hq
     ·exact h.cores q hq
     ·injection hq with hq;subst hq;exact h.cores p (fV hp)
    ·refine aM3 ?_ h.names;unfold allNames;refine El λx hx=>?_;rw[aMX,aNR]at hx ⊢;rcases hx with⟨q,hq,hx⟩|hx
     ·rcases G9 hq with hq | hq
      ·exact .inl ⟨q,hq,hx⟩
      ·subst hq;exact .inl ⟨some p,fV hp,hx⟩
     ·exact .inr hx
  |said k=>unfold aMS;simp only[];split;exact h;split<;>exact h
  |times=>exact h
  |possible=>exact h
  |bounds n=>unfold aMS aNH aMw;simp only[];repeat' (first|exact h|split)
  |apart n m=>unfold aMS aNH aMw;simp only[];repeat' (first|exact h|split)
  |order n m=>unfold aMS aNH aMw;simp only[];repeat' (first|exact h|split)
  |suppose a n m=>unfold aMS aNH aMw;simp only[];repeat' (first|exact h|split)
  |layer c i=>unfold aMS aMw;simp only[];repeat' (first|exact h|split)
  |youngest=>unfold aMS aMw;simp only[];repeat' (first|exact h|split)
  |oldest=>unfold aMS aMw;simp only[];repeat' (first|exact h|split)
  |why a n=>unfold aMS aNH aMw;simp only[];repeat' (first|exact h|split)
  |ring=>exact h
  |check l=>exact h
  |matters k=>unfold aMS;simp only[];repeat' (first|exact h|split)
  |repair=>unfold aMS;simp only[];repeat' (first|exact h|split)
  |all=>unfold aMS aMw;simp only[];repeat' (first|exact h|split)
end Vx
namespace Vx
def sW(acc:List Int)(x:Itm):List Int:=(if acc=[]then acc else acc++[32])++aLz (aNL x)
theorem Fj(x:Itm):∀(c:aMO),aOA (x::c)=aNL x++c.flatMap λy=>32::aNL y
 |[]=>by simp[aOA]
 | y::c=>by
  show aNL x++(32::aOA (y::c))=_;rw[Fj y c,aNC];simp
def Pq(x:Itm):aNL x≠[]:=by
 cases x<;>simp[aNL]
def fK(a b:List Nat):aLz (a++b)=aLz a++aLz b:=by simp[aLz]
theorem O6:∀(c:aMO) (acc:List Int),acc≠[]->c.foldl sW acc=acc++aLz (c.flatMap λy=>32::aNL y)
 |[],acc,_=>by simp[aLz]
 | x::c,acc,h=>by
  rw[aMo,O6 c,aNC,fK]
  ·unfold sW;rw[if_neg h];simp[aLz]
  ·unfold sW;rw[if_neg h];simp
def yg(c:aMO):c.foldl sW []=aLz (aOA c):=by
 cases c with
 |nil=>rfl
 | cons x c=>
  have y8:sW [] x≠[]:=by
   unfold sW;simp[aLz,Pq]
  rw[aMo,O6 c _ y8,Fj,fK]
  unfold sW;simp
def cV:Int->Int->aMO->List (Int×Int)
 |l,m,[]=>[(l,m)]
 | l,m,x::c=>match x with
  |.mark _=>(l+(aM7 x).1,m+(aM7 x).2)::cV 0 0 c
  |_=>cV (l+(aM7 x).1) (m+(aM7 x).2) c
def pieces(c:aMO):List aMO:=(aMu [] c).1.map (·.1)++[(aMu [] c).2]
def qW(c:aMO):Int×Int:=(((aOP c).1:Int),((aOP c).2:Int))
def Po(c:aMO)(x:Itm):aOP (c++[x])=((aOP c).1+(aM7 x).1,(aOP c).2+(aM7 x).2):=by
 unfold aOP;rw[aOK];rfl
theorem P7:∀(c acc:aMO),cV (qW acc).1 (qW acc).2 c=((aMu acc c).1.map (·.1)++[(aMu acc c).2]).map qW
 |[],acc=>by simp[cV,aMu]
 | x::c,acc=>by
  have go:∀y:Itm,cV ((qW acc).1+(aM7 y).1) ((qW acc).2+(aM7 y).2) c=((aMu (acc++[y]) c).1.map (·.1)++[(aMu (acc++[y]) c).2]).map qW:=by
   intro y;rw[<-P7 c (acc++[y])];unfold qW;rw[Po];simp
  cases x with
  | mark n=>
   show((qW acc).1+((0:Nat):Int),(qW acc).2+((0:Nat):Int))::cV 0 0 c=_
   have h0:=P7 c [];have e:cV 0 0 c=cV (qW []).1 (qW []).2 c:=rfl;rw[e,h0];simp[aMu]
  |years m=>exact go (.years m)
  |doubts m=>exact go (.doubts m)
  |gap m k=>exact go (.gap m k)
def j8(c:aMO):cV 0 0 c=(pieces c).map qW:=P7 c []
def Lv(c:aMO):(pieces c).length=(aMD c).length+1:=by
 unfold pieces;rw[<-eG c [],aMH,aLx,aLx];rfl
def JF(n:Nat):aNY n=(toString (n:Int)).toList.map λc=>c.toNat:=rfl
def eF{n:Nat}(h:n<=100000000):(aNY n).length<=9:=by
 unfold aNY Vbexal.chars;rw[aLx,String.length_toList];exact(Nat.length_repr_le_iff (by decide)).2 (by omega)
end Vx
namespace Vx
open Vbexal (minO plusO)
def lo1(st:List Int×Bool)(e:bO):List Int×Bool:=
 if st.1.getD e.from_ 0<st.1.getD e.to_ 0-e.most then(st.1.set e.from_ (st.1.getD e.to_ 0-e.most),true)else st
def iL(l:List bO)(d:List Int):List Int×Bool:=l.foldl lo1 (d,false)
def sX(l:List bO):Nat->List Int->Option (List Int)
 |0,_=>none
 |k+1,d=>if(iL l d).2=false then some (iL l d).1 else sX l k (iL l d).1
def eZ(l:List bO):Nat->List Int->List Int
 |0,d=>d
 |k+1,d=>(iL l (eZ l k d)).1
def G6(st:List Int×Bool)(e:bO):(lo1 st e).1.length=st.1.length:=by unfold lo1;split<;>simp
def PZ{st:List Int×Bool}{e:bO}(he:e.from_<st.1.length)(v:Nat):
  (lo1 st e).1.getD v 0=if v=e.from_/\st.1.getD e.from_ 0<st.1.getD e.to_ 0-e.most then st.1.getD e.to_ 0-e.most else st.1.getD v 0:=by
 unfold lo1;by_cases h:st.1.getD e.from_ 0<st.1.getD e.to_ 0-e.most
 ·rw[if_pos h]
  by_cases g:v=e.from_
  ·subst g;rw[if_pos ⟨rfl,h⟩];simp[aMW,he]
  ·rw[if_neg (λx=>g x.1)]
   rw[aMW,aNh (λx=>g x.symm),<-aMW]
 ·rw[if_neg h,if_neg (λx=>h x.2)]
def qe{st:List Int×Bool}{e:bO}(he:e.from_<st.1.length)(v:Nat):st.1.getD v 0<=(lo1 st e).1.getD v 0:=by
 rw[PZ he]
 split
 ·next h=>rw[h.1];omega
 ·omega
def ia{st:List Int×Bool}{e:bO}(he:e.from_<st.1.length):st.1.getD e.to_ 0-e.most<=(lo1 st e).1.getD e.from_ 0:=by
 rw[PZ he]
 split
 ·omega
 ·next h=>
  have:¬(st.1.getD e.from_ 0<st.1.getD e.to_ 0-e.most):=λg=>h ⟨rfl,g⟩
  omega
theorem Kj:∀(l:List bO) (st:List Int×Bool),(l.foldl lo1 st).1.length=st.1.length
 |[],_=>rfl
 |e::l,st=>by rw[aMo,Kj l,G6]
theorem ZG{n:Nat}:∀(l:List bO) (st:List Int×Bool),mK n l->st.1.length=n->∀v,st.1.getD v 0<=(l.foldl lo1 st).1.getD v 0
 |[],_,_,_,_=>by simp
 | e::l,st,hl,hd,v=>by
  rw[aMo]
  have h1:=ZG l (lo1 st e) (λx hx=>hl x (aMM _ hx)) (by rw[G6,hd]) v
  have h2:=qe (st:=st) (e:=e) (by rw[hd];exact(hl e aMN).1) v
  omega
theorem Ws{n:Nat}:∀(l:List bO) (st:List Int×Bool),mK n l->st.1.length=n->∀e∈l,st.1.getD e.to_ 0-e.most<=(l.foldl lo1 st).1.getD e.from_ 0
 |[],_,_,_,e,he=>by cases he
 | a::l,st,hl,hd,e,he=>by
  rw[aMo]
  have hl':mK n l:=λx hx=>hl x (aMM _ hx);have ha:a.from_<st.1.length:=by rw[hd];exact(hl a aMN).1
  rcases aMR.1 he with rfl|he
  ·have h1:=ZG l (lo1 st e) hl' (by rw[G6,hd]) e.from_
   have h2:=ia ha;omega
  ·have h1:=Ws l (lo1 st a) hl' (by rw[G6,hd]) e he
   have h2:=qe ha e.to_;omega
theorem Gr:∀(l:List bO) (d:List Int) (b:Bool),(l.foldl lo1 (d,b)).2=false->b=false/\(l.foldl lo1 (d,b)).1=d/\∀e∈l,¬(d.getD e.from_ 0<d.getD e.to_ 0-e.most)
 |[],d,b,h=>⟨h,rfl,λe he=>by cases he⟩
 | a::l,d,b,h=>by
  rw[aMo]at h ⊢
  unfold lo1 at h ⊢;by_cases q:d.getD a.from_ 0<d.getD a.to_ 0-a.most
  ·simp only[q,if_true]at h
   have:=(Gr l _ _ h).1
   cases this
  ·simp only[q,if_false]at h ⊢
   obtain⟨h1,h2,h3⟩:=Gr l d b h
   refine⟨h1,h2,λe he=>?_⟩
   rcases aMR.1 he with rfl|he
   ·exact q
   ·exact h3 e he
theorem O8:∀(l:List bO) (d:List Int) (b:Bool),(∀e∈l,¬(d.getD e.from_ 0<d.getD e.to_ 0-e.most))->l.foldl lo1 (d,b)=(d,b)
 |[],_,_,_=>rfl
 | a::l,d,b,h=>by
  have q:=h a aMN;rw[aMo];have:lo1 (d,b) a=(d,b):=by unfold lo1;rw[if_neg q]
  rw[this]
  exact O8 l d b λe he=>h e (aMM _ he)
theorem O4{n:Nat}{l0:List bO}(h0:mK n l0):∀(l:List bO) (st:List Int×Bool),(∀e∈l,e∈l0)->st.1.length=n->(∀i,i<n->∃j vs,cE l0 i vs j (-(st.1.getD i 0)))->
  ∀i,i<n->∃j vs,cE l0 i vs j (-((l.foldl lo1 st).1.getD i 0))
 |[],_,_,_,h=>h
 | e::l,st,hl,hd,h=>by
  rw[aMo]
  have he:=hl e aMN;refine O4 h0 l (lo1 st e) (λx hx=>hl x (aMM _ hx)) (by rw[G6,hd]) ?_
  intro v hv;rw[PZ (by rw[hd];exact(h0 e he).1)]
  split
  ·next g=>
   obtain⟨j,vs,p⟩:=h e.to_ (h0 e he).2
   rw[g.1]
   have q:=cE.cons he p;refine⟨j,e.from_::vs,?_⟩;have e1:-(st.1.getD e.to_ 0-e.most)=e.most+-(st.1.getD e.to_ 0):=by omega
   rw[e1]
   exact q
  ·exact h v hv
theorem uS(l:List bO):∀k d,(eZ l k d).length=d.length
 |0,_=>rfl
 |k+1,d=>by rw[eZ,iL,Kj,uS l k]
theorem vZ{n:Nat}{l:List bO}(hl:mK n l):∀(k:Nat) {i:Nat} {vs:List Nat} {j:Nat} {w:Int},vs.length<=k->cE l i vs j w->i<n->
  -w<=(eZ l k (aMF n 0)).getD i 0
 | 0,i,vs,j,w,hk,p,hi=>by
  have:vs=[]:=aNU.1 (by omega)
  subst this;obtain⟨rfl,rfl⟩:=p.nil_inv;simp[eZ,aMW,hi]
 | k+1,i,vs,j,w,hk,p,hi=>by
  have cC:(eZ l k (aMF n 0)).length=n:=by rw[uS];simp
  cases vs with
  | nil=>
   have h1:=ZG l (eZ l k (aMF n 0),false) hl cC i;have h2:=vZ hl k (by simp) p hi
   show -w<=(l.foldl lo1 (eZ l k (aMF n 0),false)).1.getD i 0;simp only[]at h1;omega
  | cons v vs=>
   obtain⟨rfl,e,he,rfl,x,q,rfl⟩:=p.cons_inv
   have h1:=Ws l (eZ l k (aMF n 0),false) hl cC e he;have h2:=vZ hl k (by simp at hk;omega) q (hl e he).2
   show -(e.most+x)<=(l.foldl lo1 (eZ l k (aMF n 0),false)).1.getD e.from_ 0;simp only[]at h1;omega
theorem BP{n:Nat}{l:List bO}(hl:mK n l):∀k i,i<n->∃j vs,cE l i vs j (-((eZ l k (aMF n 0)).getD i 0))
 |0,i,hi=>⟨i,[],by simp[eZ,aMW,hi];exact cE.nil _⟩
 |k+1,i,hi=>O4 hl l (eZ l k (aMF n 0),false) (λ_ h=>h) (by rw[uS];simp) (BP hl k) i hi
theorem Ly{l:List bO}{d:List Int}:∀(k:Nat) (j:Nat),sX l k (eZ l j d)=none->∀i,i<k->(iL l (eZ l (j+i) d)).2=true
 |0,_,_,i,hi=>by omega
 | k+1,j,h,i,hi=>by
  unfold sX at h;split at h
  ·cases h
  ·next q=>
   have q:(iL l (eZ l j d)).2=true:=by simpa using q
   cases i with
   |zero=>exact q
   | succ i=>
    have:=Ly k (j+1) h i (by omega)
    rw[show j+(i+1)=j+1+i by omega]
    exact this
theorem Lb{l:List bO}{d r:List Int}:∀(k:Nat) (j:Nat),sX l k (eZ l j d)=some r->∃i,r=eZ l i d/\(iL l r).2=false
 |0,_,h=>by cases h
 | k+1,j,h=>by
  unfold sX at h;split at h
  ·next q=>
   injection h with h;refine⟨j+1,h.symm,?_⟩;obtain⟨_,h2,h3⟩:=Gr l _ _ q;have e:r=eZ l j d:=by rw[<-h];exact h2
   rw[e]
   exact q
  ·exact Lb k (j+1) h
def mj(n:Nat)(l:List bO):Prop:=∀i,1<=i->i<n->∃e∈l,e.from_=i/\e.to_=0/\e.most=0
def G1(n:Nat)(l:List bO):Prop:=∀i,i<n->∃vs w,cE l i vs 0 w/\w<=0
def wC{n:Nat}{l:List bO}(hn:0<n)(hl:mK n l)(ha:G1 n l):
  match sX l n (aMF n 0)with
  |none=>¬kT l
  |some d=>kT l/\d.length=n/\∀i,i<n->cP (Way l i 0) (some (-(d.getD i 0))):=by
 split
 ·next h=>
  intro hc;have hf:=Ly (d:=aMF n 0) n 0 h (n-1) (by omega)
  rw[Nat.zero_add]at hf
  have aCj:iL l (eZ l (n-1) (aMF n 0))=(eZ l (n-1) (aMF n 0),false):=by
   refine O8 l _ _ λe he q=>?_;obtain⟨j,vs,p⟩:=BP hl (n-1) e.to_ (hl e he).2;have hj:=p.end_lt hl (hl e he).2;obtain⟨us,x,a,b,c,-⟩:=(cE.cons he p).short hl hc hj;have:=vZ hl (n-1) (by omega) a (hl e he).1
   omega
  rw[aCj]at hf
  cases hf
 ·next d h=>
  obtain⟨k,hk,hf⟩:=Lb (d:=aMF n 0) n 0 h
  obtain⟨_,_,h3⟩:=Gr l d false hf
  have cC:d.length=n:=by rw[hk,uS];simp
  have kept:Ot l (λi=>d.getD i 0):=by
   intro e he;have:=h3 e he;show d.getD e.to_ 0<=d.getD e.from_ 0+e.most;omega
  have wg:∀i w,Way l i 0 w->-(d.getD i 0)<=w:=by
   rintro i w ⟨vs,p⟩;have h1:=kept.path p;have h2:=vZ hl k (aM1 _) (cE.nil 0) hn;rw[<-hk]at h2;have h1:d.getD 0 0<=d.getD i 0+w:=h1;omega
  refine⟨kept.calm,cC,λi hi=>⟨?_,λw h=>wg i w h⟩⟩
  obtain⟨j,vs,p⟩:=BP hl k i hi
  obtain⟨us,x,p2,hx⟩:=ha j (p.end_lt hl hi)
  have p3:=p.append p2;rw[<-hk]at p3;have:=wg i _ ⟨_,p3⟩;have e:-(d.getD i 0)+x=-(d.getD i 0):=by omega
  rw[e]at p3
  exact⟨_,p3⟩
def mj.toW{n:Nat}{l:List bO}(h:mj n l):G1 n l:=by
 intro i hi;by_cases e:i=0
 ·subst e;exact⟨[],0,.nil 0,aNu _⟩
 ·obtain⟨a,ha,h1,h0,hm⟩:=h i (by omega) hi
  have:=cE.cons ha (.nil a.to_)
  rw[h1,h0,hm]at this
  exact⟨_,_,this,by decide⟩
def Fd{n:Nat}{l:List bO}(hn:0<n)(hl:mK n l)(ha:mj n l):
  match sX l n (aMF n 0)with
  |none=>¬kT l
  |some d=>kT l/\d.length=n/\∀i,i<n->cP (Way l i 0) (some (-(d.getD i 0))):=wC hn hl ha.toW
def Bu(d:List (Option Int))(e:bO):List (Option Int):=d.set e.to_ (minO (d.getD e.to_ none) (plusO (d.getD e.from_ none) (some e.most)))
def P1(l:List bO)(d:List (Option Int)):List (Option Int):=l.foldl Bu d
def dJ(l:List bO):Nat->List (Option Int)->List (Option Int)
 |0,d=>d
 |k+1,d=>P1 l (dJ l k d)
def bR(n s:Nat):List (Option Int):=(aMF n none).set s (some 0)
def Ge(d:List (Option Int))(e:bO):(Bu d e).length=d.length:=by unfold Bu;simp
def PY{d:List (Option Int)}{e:bO}(he:e.to_<d.length)(v:Nat):
  (Bu d e).getD v none=if v=e.to_ then minO (d.getD e.to_ none) (plusO (d.getD e.from_ none) (some e.most))else d.getD v none:=by
 unfold Bu;by_cases g:v=e.to_
 ·subst g;rw[if_pos rfl];simp[aMW,he]
 ·rw[if_neg g,aMW,aNh (λx=>g x.symm),<-aMW]
def nj{d:List (Option Int)}{e:bO}(he:e.to_<d.length)(v:Nat):jO ((Bu d e).getD v none) (d.getD v none):=by
 rw[PY he]
 split
 ·next h=>rw[h];exact Ds _ _
 ·exact jO.refl _
theorem PR:∀(l:List bO) (d:List (Option Int)),(l.foldl Bu d).length=d.length
 |[],_=>rfl
 |e::l,d=>by rw[aMo,PR l,Ge]
theorem ZE{n:Nat}:∀(l:List bO) (d:List (Option Int)),mK n l->d.length=n->∀v,jO ((l.foldl Bu d).getD v none) (d.getD v none)
 |[],_,_,_,_=>jO.refl _
 | e::l,d,hl,hd,v=>by
  rw[aMo]
  exact jO.trans (ZE l (Bu d e) (λx hx=>hl x (aMM _ hx)) (by rw[Ge,hd]) v)
   (nj (by rw[hd];exact(hl e aMN).2) v)
theorem XJ{n:Nat}:∀(l:List bO) (d:List (Option Int)),mK n l->d.length=n->∀e∈l,jO ((l.foldl Bu d).getD e.to_ none) (plusO (d.getD e.from_ none) (some e.most))
 |[],_,_,_,e,he=>by cases he
 | a::l,d,hl,hd,e,he=>by
  rw[aMo]
  have hl':mK n l:=λx hx=>hl x (aMM _ hx);have ha:a.to_<d.length:=by rw[hd];exact(hl a aMN).2
  rcases aMR.1 he with rfl|he
  ·refine jO.trans (ZE l (Bu d e) hl' (by rw[Ge,hd]) e.to_) ?_
   rw[PY ha,if_pos rfl]
   exact tV _ _
  ·exact jO.trans (XJ l (Bu d a) hl' (by rw[Ge,hd]) e he) (uL (nj ha e.from_) (jO.refl _))
theorem OZ{n s:Nat}{l0:List bO}(h0:mK n l0):∀(l:List bO) (d:List (Option Int)),(∀e∈l,e∈l0)->d.length=n->(∀j w,d.getD j none=some w->Way l0 s j w)->
  ∀j w,(l.foldl Bu d).getD j none=some w->Way l0 s j w
 |[],_,_,_,h=>h
 | e::l,d,hl,hd,h=>by
  rw[aMo]
  have he:=hl e aMN;refine OZ h0 l (Bu d e) (λx hx=>hl x (aMM _ hx)) (by rw[Ge,hd]) ?_
  intro v w hv;rw[PY (by rw[hd];exact(h0 e he).2)]at hv
  split at hv
  ·next g=>
   subst g;rcases EI hv with q|q
   ·exact h _ _ q
   ·obtain⟨x,y,hx,hy,rfl⟩:=Ac q
    injection hy with hy;subst hy;obtain⟨vs,p⟩:=h _ _ hx;exact⟨_,p.snoc he⟩
  ·exact h v w hv
theorem gQ(l:List bO):∀k d,(dJ l k d).length=d.length
 |0,_=>rfl
 |k+1,d=>by rw[dJ,P1,PR,gQ l k]
def C3{n s:Nat}(hs:s<n)(v:Nat):(bR n s).getD v none=if v=s then some 0 else none:=by
 unfold bR;by_cases g:v=s
 ·subst g;rw[if_pos rfl];simp[aMW,hs]
 ·rw[if_neg g,aMW,aNh (λx=>g x.symm)]
  rw[aQL]
  split<;>rfl
theorem vY{n s:Nat}{l:List bO}(hs:s<n)(hl:mK n l):∀(k:Nat) {vs:List Nat} {j:Nat} {w:Int},vs.length<=k->cE l s vs j w->jO ((dJ l k (bR n s)).getD j none) (some w)
 | 0,vs,j,w,hk,p=>by
  have:vs=[]:=aNU.1 (by omega)
  subst this;obtain⟨rfl,rfl⟩:=p.nil_inv;rw[dJ,C3 hs,if_pos rfl];exact jO.refl _
 | k+1,vs,j,w,hk,p=>by
  have cC:(dJ l k (bR n s)).length=n:=by rw[gQ];simp[bR]
  rcases aPE vs with rfl|⟨us,v,rfl⟩
  ·exact jO.trans (ZE l _ hl cC j) (vY hs hl k (by simp) p)
  ·rw[aPF]at p hk
   obtain⟨e,he,x,rfl,rfl,q,rfl⟩:=p.unsnoc
   refine jO.trans (XJ l _ hl cC e he) ?_;have:=uL (vY hs hl k (by simp at hk;omega) q) (jO.refl (some e.most))
   exact this
theorem Gs{n s:Nat}{l:List bO}(hs:s<n)(hl:mK n l):∀k j w,(dJ l k (bR n s)).getD j none=some w->Way l s j w
 | 0,j,w,h=>by
  rw[dJ,C3 hs]at h
  split at h
  ·next e=>subst e;injection h with h;subst h;exact⟨[],cE.nil _⟩
  ·cases h
 |k+1,j,w,h=>OZ hl l (dJ l k (bR n s)) (λ_ h=>h) (by rw[gQ];simp[bR]) (Gs hs hl k) j w h
def wD{n s:Nat}{l:List bO}(hs:s<n)(hl:mK n l)(hc:kT l){k:Nat}(hk:n<=k+1){j:Nat}(hj:j<n):cP (Way l s j) ((dJ l k (bR n s)).getD j none):=by
 cases e:(dJ l k (bR n s)).getD j none with
 | none=>
  intro w ⟨vs,p⟩;obtain⟨us,x,a,b,c,-⟩:=p.short hl hc hj;have:=vY hs hl k (by omega) a
  rw[e]at this
  exact this
 | some y=>
  refine⟨Gs hs hl k j y e,?_⟩
  rintro w ⟨vs,p⟩;obtain⟨us,x,a,b,c,-⟩:=p.short hl hc hj;have:=vY hs hl k (by omega) a
  rw[e]at this
  have:y<=x:=this
  omega
end Vx
namespace Vx
def jP:List (List Int)->Nat
 |[]=>0
 |x::l=>1+x.length+jP l
theorem Jd:∀l m,jP (l++m)=jP l+jP m
 |[],m=>by simp[jP]
 |x::l,m=>by simp[jP,Jd l m];omega
def aBx{l:List Int}{p:Nat}{x t:List Int}(h:PyFlat.row (l.drop p)=some (x,t)):
  l[p]?=some (x.length:Int)/\(l.drop (p+1)).take x.length=x/\t=l.drop (p+1+x.length)/\p+1+x.length<=l.length:=by
 cases hd:l.drop p with
 |nil=>rw[hd]at h;cases h
 | cons n r=>
  rw[hd]at h
  have hl:=congrArg aMi hd;rw[aN8,aMT]at hl;have hr:r=l.drop (p+1):=by
   have:l.drop (p+1)=(l.drop p).drop 1:=by rw[aNx]
   rw[this,hd];rfl
  have hn:l[p]?=some n:=by
   have:l[p]?=(l.drop p)[0]?:=by simp
   rw[this,hd];rfl
  have h:(if 0<=n/\n.toNat<=r.length then some (r.take n.toNat,r.drop n.toNat)else none)=some (x,t):=h
  split at h
  ·next q=>
   injection h with h;injection h with h1 h2;have hx:x.length=n.toNat:=by rw[<-h1,aMj];omega
   refine⟨?_,?_,?_,by omega⟩
   ·rw[hn,hx];congr 1;omega
   ·rw[<-hr,hx];exact h1
   ·rw[<-h2,hr,aNx,hx]
  ·cases h
theorem aw{l:List Int}:∀{k p:Nat} {xs:List (List Int)} {t:List Int},aRR k (l.drop p)=some (xs,t)->p<=l.length->
  xs.length=k/\t=l.drop (p+jP xs)/\p+jP xs<=l.length/\
  ∀i x,xs[i]?=some x->l[p+jP (xs.take i)]?=some (x.length:Int)/\(l.drop (p+jP (xs.take i)+1)).take x.length=x
 | 0,p,xs,t,h,hp=>by
  unfold aRR at h;injection h with h;injection h with h1 h2;subst h1;exact⟨rfl,by simp[jP,<-h2],by simpa[jP]using hp,λi x hx=>by simp at hx⟩
 | k+1,p,xs,t,h,hp=>by
  unfold aRR at h;split at h
  ·cases h
  ·next x s hx=>
   split at h
   ·cases h
   ·next ys u hy=>
    injection h with h;injection h with h1 h2;subst h1;subst h2;obtain⟨a1,a2,a3,a4⟩:=aBx hx;subst a3;obtain⟨b1,b2,b3,b4⟩:=aw (k:=k) hy a4;refine⟨by simp[b1],?_,?_,?_⟩
    ·rw[b2];congr 1;simp[jP];omega
    ·simp[jP];omega
    ·intro i y hi;cases i with
     | zero=>
      have:y=x:=by simpa using hi.symm
      subst this;exact⟨by simpa[jP]using a1,by simpa[jP]using a2⟩
     | succ i=>
      have:=b4 i y (by simpa using hi)
      have e:p+jP ((x::ys).take (i+1))=p+1+x.length+jP (ys.take i):=by simp[jP];omega
      rw[e]
      exact this
def fq(l:List Int)(p:Nat)(cs:List (List (List Int))):Prop:=p<=l.length/\∃f,aQD aPw f (l.drop p)=some cs
theorem ya{P:Nat->Prop}(a0:P 0)(a1:P 1)(a2:P 2)(a3:P 3)(a4:P 4)(a5:P 5)(a6:P 6)(a7:P 7)(a8:P 8)(a9:P 9)(a10:P 10)(a11:P 11)(a12:P 12)(a13:P 13)(a14:P 14)(a15:P 15)(a16:P 16)(a17:P 17)(a18:P 18)(a19:P 19)(a20:P 20)(a21:P 21)(a22:P 22)(a23:P 23)(a24:P 24)(h:∀k,P (k+25)):∀n,P n
 |0=>a0
 |1=>a1
 |2=>a2
 |3=>a3
 |4=>a4
 |5=>a5
 |6=>a6
 |7=>a7
 |8=>a8
 |9=>a9
 |10=>a10
 |11=>a11
 |12=>a12
 |13=>a13
 |14=>a14
 |15=>a15
 |16=>a16
 |17=>a17
 |18=>a18
 |19=>a19
 |20=>a20
 |21=>a21
 |22=>a22
 |23=>a23
 |24=>a24
 |n+25=>h n
def tj(c:List (List Int)):aRZ c=c:=by
 rcases c with _|⟨_|⟨q,_|⟨x,_|⟨y,_|⟨z,l⟩⟩⟩⟩,_|⟨r,_|⟨s,_|⟨t,m⟩⟩⟩⟩<;>(try rfl)<;>(rcases q with n|n)<;>(try rfl)<;>(revert n;apply ya<;>intros<;>rfl)
def js(cs:List (List (List Int))):cs.map aRZ=cs:=by
 have:aRZ=id:=funext tj
 rw[this,List.map_id]
def Z6{l:List Int}{cs:List (List (List Int))}(h:aQf l=some cs):fq l 0 cs:=by
 unfold aQf at h;split at h
 ·cases h
 ·next ds hd=>
  injection h with h;rw[js]at h;subst h;exact⟨aM1 _,_,hd⟩
def sh{l:List Int}{p:Nat}(h:fq l p []):p=l.length:=by
 obtain⟨hp,f,h⟩:=h
 cases hd:l.drop p with
 |nil=>have:=congrArg aMi hd;simp at this;omega
 | cons a r=>
  rw[hd]at h
  cases f with
  |zero=>cases h
  | succ f=>
   unfold aQD at h;split at h
   ·cases h
   ·split at h
    ·cases h
    ·cases h
def ub{l:List Int}{cs:List (List (List Int))}(h:fq l l.length cs):cs=[]:=by
 obtain⟨hp,f,h⟩:=h
 rw[aOf]at h
 cases f with
 |zero=>unfold aQD at h;injection h with h;exact h.symm
 |succ f=>unfold aQD at h;injection h with h;exact h.symm
def je{l:List Int}{p:Nat}{c:List (List Int)}{cs:List (List (List Int))}(h:fq l p (c::cs)):
  ∃(q:Int) (n k:Nat) (nums:List Int) (rows:List (List Int)),l[p]?=some q/\aPw q=some (n,k)/\c=(q::nums)::rows/\
   nums.length=n/\rows.length=k/\(l.drop (p+1)).take n=nums/\p+1+n+jP rows<=l.length/\fq l (p+1+n+jP rows) cs/\
   (∀i x,rows[i]?=some x->l[p+1+n+jP (rows.take i)]?=some (x.length:Int)/\(l.drop (p+1+n+jP (rows.take i)+1)).take x.length=x):=by
 obtain⟨hp,f,h⟩:=h
 cases hd:l.drop p with
 | nil=>
  rw[hd]at h
  cases f<;>(unfold aQD at h;injection h with h;cases h)
 | cons q r=>
  rw[hd]at h
  have hl:=congrArg aMi hd;rw[aN8,aMT]at hl;have hr:r=l.drop (p+1):=by
   have:l.drop (p+1)=(l.drop p).drop 1:=by rw[aNx]
   rw[this,hd];rfl
  have hq:l[p]?=some q:=by
   have:l[p]?=(l.drop p)[0]?:=by simp
   rw[this,hd];rfl
  cases f with
  |zero=>cases h
  | succ f=>
   unfold aQD at h;split at h
   ·cases h
   ·next c' t hc=>
    split at h
    ·cases h
    ·next cs' hcs=>
     injection h with h;injection h with h1 h2;subst h1;subst h2;have hc:(match aPw q with
      |none=>none
      | some (n,k)=>if r.length<n then none else match aRR k (r.drop n)with
       |none=>none
       |some (xs,t)=>some ((q::r.take n)::xs,t))=some (c',t):=hc
     split at hc
     ·cases hc
     ·next n k hs=>
      split at hc
      ·cases hc
      ·next hn=>
       split at hc
       ·cases hc
       ·next xs u hx=>
        injection hc with hc;injection hc with hc1 Yk;subst Yk;rw[hr,aNx]at hx;have e1:p+1+n<=l.length:=by omega
        obtain⟨b1,b2,b3,b4⟩:=aw hx e1
        refine⟨q,n,k,r.take n,xs,hq,hs,hc1.symm,by rw[aMj];omega,b1,by rw[hr],b3,⟨b3,f,?_⟩,b4⟩
        rw[<-b2];exact hcs
def Xv(s:aMA)(c:List (List Int))(cs:List (List (List Int))):
  aRS (aQp aQE s (c::cs))=(((aO0 s c).2.length:Int)::(aO0 s c).2)++aRS (aQp aQE (aO0 s c).1 cs):=by
 show List.flatMap _ (_::_)=_;rw[aNC];rfl
def aBJ{s:aMA}(h:Wf s)(c:List (List Int)):Wf (aO0 s c).1:=by
 unfold aO0;split
 ·exact h
 ·exact G5 h _
def answers_asked{l:List Int}(h:aQS l=true):∃cs,aQf l=some cs/\cs.length<=150/\(∀c∈cs,aQ1 c=true):=by
 unfold aQS at h;split at h
 ·cases h
 ·next cs hc=>
  simp only[aM5]at h
  refine⟨cs,hc,?_,?_⟩
  ·have:=h.1;unfold PyFlat.atMost at this;simpa using this
  ·have:=h.2
   unfold VbexalNeutral.asked at this;simp only[aM5]at this;exact aNB.1 this.1
def Z0{l:List Int}{cs:List (List (List Int))}(h:aQf l=some cs):aPx l=aRS (aQp aQE VbexalNeutral.start cs):=by
 unfold aPx;rw[h]
end Vx
namespace Vx
def runEnd(p:Int->Bool)(t:List Int)(q:Nat):Nat:=q+((t.drop q).takeWhile p).length
def LP{p:Int->Bool}{t:List Int}{q:Nat}(hq:q<t.length)(h:p (byteAt t q)=true):runEnd p t q=runEnd p t (q+1):=by
 unfold runEnd;cases hd:t.drop q with
 |nil=>have:=congrArg aMi hd;simp at this;omega
 | cons a r=>
  obtain⟨h1,h2,_⟩:=eN hd
  rw[h1]at h
  rw[aN7,h,<-h2]
  simp
  omega
def LI{p:Int->Bool}{t:List Int}{q:Nat}(h:q<t.length->p (byteAt t q)=false):runEnd p t q=q:=by
 unfold runEnd;cases hd:t.drop q with
 |nil=>rfl
 | cons a r=>
  obtain⟨h1,h2,h3⟩:=eN hd
  have h:=h h3;rw[h1]at h;rw[aN7,h];simp
def Iw{t:List Int}{q:Nat}(h:byteAt t q≠-1):q<t.length:=by
 by_cases hq:q<t.length
 ·exact hq
 ·exfalso;apply h;unfold byteAt;rw[aMW,aOB (by omega)];rfl
def F4{t:List Int}{q:Nat}(h:q<t.length):t[q]?=some (byteAt t q):=by
 unfold byteAt;rw[aMW,aMK h];rfl
def Ib(t:List Int)(q:Nat):fD t q=runEnd (λx=>x==32) t q:=rfl
def se(t:List Int)(q:Nat):q+lI t q=runEnd cM t q:=rfl
def YE(t:List Int)(q:Nat):fA t q=runEnd (λc=>!(c==41)) t (q+1):=rfl
def aBp{p:Int->Bool}{t:List Int}{q:Nat}(h:q<=t.length):runEnd p t q<=t.length:=by
 unfold runEnd;have:=kI p (t.drop q);rw[aN8]at this;omega
def aCC{p:Int->Bool}{t:List Int}{q:Nat}:q<=runEnd p t q:=by unfold runEnd;omega
end Vx
namespace Vx
def vM(src:Nat):List Nat->List (Int×Int)->List bO
 |i::j::w6,(lo,hi)::st=>⟨i,j,hi,src⟩::⟨j,i,-lo,src⟩::vM src (j::w6) st
 |_,_=>[]
theorem E2(s:aMA)(c:Nat):∀(l:List (aMO×aMV)) (i:Nat) (kR:aMO),
  Vbexal.partEdges s c i l kR=vM (100+c) (i::(l.map (λx=>aMQ s x.2)++[aPM s c])) ((l.map (λx=>x.1)++[kR]).map qW)
 |[],i,kR=>rfl
 | (x,n)::l,i,kR=>by
  rw[Vbexal.partEdges,E2 s c l (aMQ s n) kR]
  rfl
def qX(s:aMA)(c:Nat)(core:aMO):List Nat:=aOQ s c::((aMD core).map (aMQ s)++[aPM s c])
def gT{s:aMA}{c:Nat}{p:aMx}(h:aMf s c=some p)(vL:p.on=true):aMp s c=vM (100+c) (qX s c p.core) (cV 0 0 p.core):=by
 unfold aMp;rw[h];simp only[vL];rw[if_neg (by decide),E2,j8]
 unfold qX pieces;rw[<-eG p.core [],aNn];rfl
def hX{s:aMA}{c:Nat}(h:aMf s c=none):aMp s c=[]:=by unfold aMp;rw[h]
def jB{s:aMA}{c:Nat}{p:aMx}(h:aMf s c=some p)(vL:p.on=false):aMp s c=[]:=by
 unfold aMp;rw[h];simp only[vL];rfl
def ju(s:aMA)(c:Nat)(core:aMO):(qX s c core).length=(aMD core).length+2:=by
 unfold qX;simp
def CO(c:aMO):(cV 0 0 c).length=(aMD c).length+1:=by rw[j8,aLx,Lv]
theorem OA(src:Nat):∀(st:List (Int×Int)) (w6:List Nat) (k i j:Nat) (p:Int×Int),st[k]?=some p->w6[k]?=some i->w6[k+1]?=some j->
  vM src w6 (st.take (k+1))=vM src w6 (st.take k)++[⟨i,j,p.2,src⟩,⟨j,i,-p.1,src⟩]
 |[],_,_,_,_,_,h,_,_=>by simp at h
 |q::st,[],_,_,_,_,_,h,_=>by simp at h
 |q::st,[a],_,_,_,_,_,_,h=>by simp at h
 | q::st,a::b::w6,0,i,j,p,h1,h2,h3=>by
  simp at h1 h2 h3
  subst h1;subst h2;subst h3;simp[vM]
 | q::st,a::b::w6,k+1,i,j,p,h1,h2,h3=>by
  have ih:=OA src st (b::w6) k i j p (by simpa using h1) (by simpa using h2) (by simpa using h3)
  simp only[List.take_succ_cons,vM]
  rw[ih]
  rfl
theorem LN(src:Nat):∀(st:List (Int×Int)) (w6:List Nat),(vM src w6 st).length<=2*st.length
 | [],w6=>by cases w6 with
  |nil=>simp[vM]
  |cons a l=>cases l<;>simp[vM]
 |q::st,[]=>by simp[vM]
 |q::st,[a]=>by simp[vM]
 | q::st,a::b::w6=>by
  have:=LN src st (b::w6)
  simp only[vM,aMT]
  omega
def bX(s:aMA)(k:Nat):List bO:=match s.said[k]? with
 |some x=>aMy s k x
 |none=>[]
def zH(s:aMA):aMJ s=(aME s.said.length).flatMap (bX s)++((aME 4).flatMap (aMp s)++(aME (aMB s-1)).map λi=>⟨i+1,0,0,200⟩):=rfl
def lH{β:Type}(f:Nat->List β)(n:Nat):(aME (n+1)).flatMap f=(aME n).flatMap f++f n:=by
 rw[aOr,aNo,aNC];simp
def kX(s:aMA)(k:Nat)(x:aNI):(aMy s k x).length<=2:=by
 unfold aMy;simp only[];split
 ·simp
 ·split
  ·simp
  ·split
   ·simp
   ·split<;>simp
def lL(s:aMA):mj (aMB s) (aMJ s):=by
 intro i h1 h2;exact⟨_,Wi h1 h2,rfl,rfl,rfl⟩
end Vx
namespace Vx
open Vbexal (St Said allNames many edges)
theorem zG{α β:Type}(f:α->List β)(m:Nat):∀(l:List α),(∀x∈l,(f x).length<=m)->(l.flatMap f).length<=l.length*m
 |[],_=>by simp
 | x::l,h=>by
  have h1:=h x aMN;have h2:=zG f m l λy hy=>h y (aMM _ hy);rw[aNC,aMH,aMT,Nat.succ_mul];omega
def uP{t:List Nat}(h:aNW t=true):t.length<=6:=by
 cases t with
 |nil=>cases h
 | cons c r=>
  have h:(aOM c&&(decide (r.length<=5)&&r.all λd=>aOM d||aNQ d))=true:=h;simp only[aM5,decide_eq_true_eq]at h;have:=h.2.1;rw[aMT];omega
def FA{x:Itm}(h:mN x):(aNL x).length<=21:=by
 cases x with
 | years n=>
  have:=eF (n:=n) (by have:=h.2;omega)
  unfold aNL;rw[aMH];split<;>simp<;>omega
 | doubts n=>
  have:=eF (n:=n) (by have:=h.2;omega)
  unfold aNL;rw[aMH];split<;>simp<;>omega
 | gap a b=>
  have h1:=eF (n:=a) (by have:=h.1;have:=h.2;omega)
  have h2:=eF (n:=b) (by have:=h.2;omega)
  unfold aNL;simp;omega
 | mark n=>
  have:=uP (show aNW n=true from h)
  unfold aNL;simp;omega
def QK{c:aMO}(h:Ox c):(aOA c).length<=7000:=by
 cases c with
 |nil=>simp[aOA]
 | cons x c=>
  rw[Fj,aMH]
  have h1:=FA (h.items x aMN);have h2:=zG (λy=>32::aNL y) 22 c λy hy=>by
   have:=FA (h.items y (aMM _ hy))
   simp;omega
  have h3:=h.len;rw[aMT]at h3;omega
def EE(l:List Nat):(aLz l).length=l.length:=aLx _
def jz{s:St}(h:Wf s){n:aMV}(hn:n∈allNames s):n.length<=6:=by
 unfold aMI at hn;rw[qY]at hn;rcases aMX.1 hn with hn|hn
 ·obtain⟨p,hp,hn⟩:=aNR.1 hn
  cases p with
  |none=>cases hn
  | some p=>
   have hc:=h.cores p hp;have hn:n∈aMD p.core:=hn;unfold aMD at hn;obtain⟨x,hx,he⟩:=aNd.1 hn;have hw:=hc.items x hx;cases x with
   |mark m=>injection he with he;subst he;exact uP hw
   |years _=>cases he
   |doubts _=>cases he
   |gap _ _=>cases he
 ·obtain⟨x,hx,hn⟩:=aNR.1 hn
  have hw:=h.said x hx;by_cases hk:x.kind<=1
  ·rw[if_pos hk]at hn
   rw[show n=x.one by simpa using hn];exact uP hw.one
  ·rw[if_neg hk]at hn
   rcases(show n=x.one\/n=x.two by simpa using hn)with e|e
   ·rw[e];exact uP hw.one
   ·rw[e];exact uP (hw.fz (by omega))
theorem Du(n:Nat)(l:List bO)(ts:List (List aMt)):∀(k i j:Nat) (w:Int),(aOR n l ts k i j w).length<=k
 |0,_,_,_=>aMG _
 | k+1,i,j,w=>by
  unfold aOR;split
  ·simp
  ·split
   ·simp
   ·split
    ·simp
    ·rw[aMT]
     have:=Du n l ts k
     exact Nat.succ_le_succ (this _ _ _)
def Eb{l:List bO}{m:Nat}(h:l.length<=m):(aOg l).length<=1+4*m:=by
 unfold aOg;have:=zG aNM 4 l λ_ _=>aMG _;rw[aMT];omega
def Z1{n:Nat}{l r:List bO}(h:aO1 n l=some r):r.length<=n:=by
 unfold aO1 at h;dsimp only at h;split at h
 ·cases h
 ·next k hk=>
  split at h
  ·cases h
  ·injection h with h;rw[<-h];refine aM3 (Du _ _ _ _ _ _ _) ?_;have:=aOv hk;obtain⟨a,ha,e⟩:=aNG.1 this;have:=aMh.1 ha;omega
def wU{n:Nat}{l r:List bO}{i j:Nat}(h:aOw n l i j=some r):r.length<=n:=by
 unfold aOw at h;split at h
 ·cases h
 ·dsimp only at h;split at h
  ·cases h
  ·next k hk=>
   injection h with h;rw[<-h];refine aM3 (Du _ _ _ _ _ _ _) ?_;have:=aMh.1 (aOv hk);omega
theorem Fh:∀(m:Nat) (l r:List Nat),r∈aM6 m l->r.length=m
 | 0,l,r,h=>by
  have:r=[]:=by simpa[aM6]using h
  rw[this];rfl
 |m+1,[],r,h=>by cases h
 | m+1,a::l,r,h=>by
  unfold aM6 at h;rcases aMX.1 h with h|h
  ·obtain⟨q,hq,e⟩:=aNG.1 h
   rw[<-e,aMT,Fh m l q hq]
  ·exact Fh (m+1) l r h
theorem Dg(s:St):∀(f m:Nat) (r:List Nat),aNp s f m=some r->r.length<m+f
 |0,m,r,h=>by cases h
 | f+1,m,r,h=>by
  unfold aNp at h;split at h
  ·next l hl=>
   injection h with h;rw[<-h,Fh _ _ _ (aOv hl)];omega
  ·have:=Dg s f (m+1) r h
   omega
def Fp(t:List aMt)(i:Nat):(aNZ t i).length=3:=by
 unfold aNZ aNS;split<;>rfl
def MB(o:Option Int):(aNS o).length=2:=by unfold aNS;split<;>rfl
def d9{s:St}{k:List aMt->St×List Int}(h:∀t,(k t).2.length<=20000):(aMw s k).2.length<=20000:=by
 unfold aMw;dsimp only;split
 ·simp
 ·exact h _
def iI{s:St}{n:List Int}{k:Nat->St×List Int}(h:∀i,(k i).2.length<=20000):(aNH s n k).2.length<=20000:=by
 unfold aNH;split
 ·simp
 ·exact h _
def sq{s:St}(h:Wf s)(c:aN4):(aMY s c).2.length<=20000:=by
 have hm:many s<=23:=by rw[cK];have:=h.names;omega
 have zA:=h.names;unfold aMY;split
 ·simp
 ·cases c<;>unfold aMS<;>dsimp only
  case core c t=>
   split
   ·simp
   ·split<;>simp
  case drop c=>split<;>simp
  case print c=>
   split
   ·simp
   ·next p hp=>
    have:=QK (h.cores p (fV hp))
    unfold aMl;dsimp only;rw[aMT,EE];omega
  case parts c=>
   split
   ·simp
   ·next p hp=>
    have h1:=(h.cores p (fV hp)).marks;have h2:=Lv p.core;have h3:=zG (λx:aMO=>[((aOP x).1:Int),((aOP x).2:Int)]) 2 (pieces p.core) λ_ _=>aMG _;unfold pieces at h2 h3;unfold aMl;dsimp only at h3 ⊢;rw[aMT];omega
  case say k a o t=>
   split
   ·simp
   ·split<;>simp
  case aside k=>split<;>simp
  case back k=>split<;>simp
  case whole c o=>split<;>simp
  case said k=>
   split
   ·simp
   ·split
    ·simp
    ·next x hx=>
     have hw:=h.said x (aMZ hx);have h1:=uP hw.one;have h2:x.two.length<=6:=by
      by_cases hk:x.kind<=1
      ·rw[hw.yc hk];simp
      ·exact uP (hw.fz (by omega))
     simp[aMl,EE];omega
  case times=>
   have:=zG (λn=>aMl (aLz n)) 7 (allNames s) λn hn=>by
    have:=jz h hn
    simp[aMl,EE];omega
   rw[aMT];omega
  case bounds n=>exact iI λi=>d9 λt=>by simp[Fp]
  case apart n m=>exact iI λi=>iI λj=>d9 λt=>by simp[MB]
  case order n m=>exact iI λi=>iI λj=>d9 λt=>by simp
  case suppose a n m=>
   refine iI λi=>iI λj=>d9 λt=>?_;split
   ·simp
   ·simp[Fp]
  case layer c i=>
   split
   ·simp
   ·split
    ·simp
    ·split
     ·simp
     ·exact d9 λt=>by simp[MB]
  case youngest=>exact d9 λt=>by simp;omega
  case oldest=>
   refine d9 λt=>?_;split
   ·simp
   ·simp;omega
  case why aEi n=>
   refine iI λi=>d9 λt=>?_;split
   ·simp
   ·next l hl=>
    have:l.length<=many s:=by
     split at hl
     ·exact wU hl
     ·exact wU hl
    have:=Eb this
    dsimp only
    omega
  case ring=>
   split
   ·simp
   ·next l hl=>
    have:=Eb (Z1 hl)
    omega
  case check l=>split<;>simp
  case matters k=>
   split
   ·simp
   ·split
    ·simp
    ·split<;>simp
  case repair=>
   split
   ·simp
   ·next l hl=>
    have:=Dg s _ _ _ hl
    have e:Vbexal.REPAIR=3:=rfl;simp[aMl,EE];omega
  case all=>
   refine d9 λt=>?_;have:=zG (λi=>aNZ t (i+1)) 3 (aME (allNames s).length) λi _=>by rw[Fp];exact aMG _
   dsimp only at this ⊢;rw[aMk]at this;rw[aMT];omega
  all_goals simp
end Vx
namespace Vx
def cE.congr{l l':List bO}(h:∀e∈l,∃e'∈l',e'.from_=e.from_/\e'.to_=e.to_/\e'.most=e.most){i:Nat}{vs:List Nat}{j:Nat}{w:Int}(p:cE l i vs j w):cE l' i vs j w:=by
 induction p with
 |nil i=>exact .nil i
 | cons he _ ih=>
  obtain⟨e',h1,h2,h3,h4⟩:=h _ he
  have:=cE.cons h1 (h3▸ih)
  rw[h2,h4]at this
  exact this
def cE.mono{l l':List bO}(h:∀e∈l,e∈l'){i:Nat}{vs:List Nat}{j:Nat}{w:Int}(p:cE l i vs j w):cE l' i vs j w:=p.congr λe he=>⟨e,h e he,rfl,rfl,rfl⟩
def uA(s:aMA)(i:Nat)(a:Int)(src:Nat):List bO:=aMJ s++[⟨0,i,a,src⟩,⟨i,0,-a,src⟩]
def LK{s:aMA}{i:Nat}{a:Int}(src src':Nat){x:Nat}{vs:List Nat}{y:Nat}{w:Int}(p:cE (uA s i a src) x vs y w):cE (uA s i a src') x vs y w:=by
 refine p.congr λe he=>?_;unfold uA at he ⊢;rcases aMX.1 he with he|he
 ·exact⟨e,aN3 _ he,rfl,rfl,rfl⟩
 ·simp only[aMR,aN5,or_false]at he
  rcases he with rfl|rfl
  ·exact⟨⟨0,i,a,src'⟩,aMz _ (by simp),rfl,rfl,rfl⟩
  ·exact⟨⟨i,0,-a,src'⟩,aMz _ (by simp),rfl,rfl,rfl⟩
def XF{s:aMA}{i:Nat}{a:Int}(src src':Nat)(h:kT (uA s i a src)):kT (uA s i a src'):=λx vs w p=>h x vs w (LK src' src p)
def br{s:aMA}{i:Nat}{a:Int}(src src':Nat){x y:Nat}{w:Int}:Way (uA s i a src) x y w↔Way (uA s i a src') x y w:=
 ⟨fun⟨vs,p⟩=>⟨vs,LK src src' p⟩,fun⟨vs,p⟩=>⟨vs,LK src' src p⟩⟩
def Gf{s:aMA}{i:Nat}{a:Int}{src:Nat}(hi:i<aMB s):mK (aMB s) (uA s i a src):=by
 intro e he;have h0:0<aMB s:=by omega
 rcases aMX.1 he with he|he
 ·exact bP s e he
 ·simp only[aMR,aN5,or_false]at he
  rcases he with rfl|rfl
  ·exact⟨h0,hi⟩
  ·exact⟨hi,h0⟩
def LO{s:aMA}{i:Nat}{a:Int}{src:Nat}:G1 (aMB s) (uA s i a src):=by
 intro x hx;obtain⟨vs,w,p,h⟩:=(lL s).toW x hx;exact⟨vs,w,p.mono λe he=>aN3 _ he,h⟩
theorem wL{α β:Type}(f:α->List β)(m:Nat):∀(l:List α),(∀x∈l,(f x).length<=m)->(l.flatMap f).length<=m*l.length
 |[],_=>by simp
 | a::l,h=>by
  rw[aNC,aMH,aMT,Nat.mul_succ]
  have h1:=h a aMN;have h2:=wL f m l λx hx=>h x (aMM _ hx);omega
def tY{s:aMA}(hw:Wf s):(aMJ s).length<=3000:=by
 rw[zH,aMH,aMH,aLx,aMk]
 have h1:=wL (bX s) 2 (aME s.said.length) (λk _=>by
  unfold bX;split
  ·exact kX _ _ _
  ·simp)
 have h2:=wL (aMp s) 602 (aME 4) (λc _=>by
  cases hc:aMf s c with
  |none=>rw[hX hc];decide
  | some p=>
   cases vL:p.on with
   |false=>rw[jB hc vL];decide
   | true=>
    rw[gT hc vL]
    have h1:=LN (100+c) (cV 0 0 p.core) (qX s c p.core);have h2:=CO p.core;have h3:(aMD p.core).length<=p.core.length:=by unfold aMD;exact aOx _ _
    have h4:=(hw.cores p (fV hc)).len;omega)
 rw[aMk]at h1 h2
 have h3:=hw.rN;have h4:=hw.names;have h5:=cK s;omega
end Vx
namespace Vx
open Vbexal (minO plusO edgeOf at_ table walks tables wayOf saidBy closed)
def Ym(e e':bO):Prop:=e.most<e'.most\/(e.most=e'.most/\e.source<=e'.source)
def Pr(e e':bO):Prop:=e'.from_=e.from_/\e'.to_=e.to_
structure zD(l M:List bO):Prop where
 best:∀e∈M,e∈l/\∀e'∈l,Pr e e'->Ym e e'
 all:∀e∈l,∃e'∈M,Pr e e'
 sort:∀(i j:Nat) (a b:bO),i<=j->M[i]?=some a->M[j]?=some b->a.from_<b.from_\/(a.from_=b.from_/\a.to_<=b.to_)
def Xd(l:List bO):∀(o:Option bO),(∀x,o=some x->True)->
  match l.foldl (λm e=>match m with
   |none=>some e
   |some x=>if e.source<x.source then some e else some x) o with
  |none=>o=none/\l=[]
  |some y=>(o=some y\/y∈l)/\(∀x,o=some x->y.source<=x.source)/\∀x∈l,y.source<=x.source:=by
 induction l with
 | nil=>
  intro o _;cases o with
  |none=>exact⟨rfl,rfl⟩
  |some x=>exact⟨.inl rfl,λy e=>by cases e;exact aMG _,λx hx=>by cases hx⟩
 | cons a l ih=>
  intro o _;rw[aMo];cases o with
  | none=>
   have h:=ih (some a) (λ_ _=>trivial);simp only at h ⊢;split
   ·next e=>rw[e]at h;exact absurd h.1 (by simp)
   ·next y e=>
    rw[e]at h
    simp only at h;refine⟨.inr ?_,(by simp),λx hx=>?_⟩
    ·rcases h.1 with z | z
     ·injection z with z;rw[z];exact aMN
     ·exact aMM _ z
    ·rcases aMR.1 hx with rfl | hx
     ·exact h.2.1 _ rfl
     ·exact h.2.2 x hx
  | some b=>
   simp only
   by_cases hb:a.source<b.source
   ·rw[if_pos hb]
    have h:=ih (some a) (λ_ _=>trivial);split
    ·next e=>rw[e]at h;exact absurd h.1 (by simp)
    ·next y e=>
     rw[e]at h
     simp only at h;have ha:=h.2.1 _ rfl;refine⟨.inr ?_,λx q=>?_,λx hx=>?_⟩
     ·rcases h.1 with z | z
      ·injection z with z;rw[z];exact aMN
      ·exact aMM _ z
     ·injection q with q;subst q;omega
     ·rcases aMR.1 hx with rfl | hx
      ·exact ha
      ·exact h.2.2 x hx
   ·rw[if_neg hb]
    have h:=ih (some b) (λ_ _=>trivial);split
    ·next e=>rw[e]at h;exact absurd h.1 (by simp)
    ·next y e=>
     rw[e]at h
     simp only at h;have ha:=h.2.1 _ rfl;refine⟨?_,λx q=>?_,λx hx=>?_⟩
     ·rcases h.1 with z | z
      ·exact .inl z
      ·exact .inr (aMM _ z)
     ·injection q with q;subst q;omega
     ·rcases aMR.1 hx with rfl | hx
      ·omega
      ·exact h.2.2 x hx
def zD.edge{l M:List bO}(h:zD l M){e:bO}(he:e∈M):edgeOf l e.from_ e.to_=some e.most:=by
 refine cP.uniq (rC l e.from_ e.to_) ⟨⟨e,(h.best e he).1,rfl,rfl,rfl⟩,?_⟩;rintro x ⟨e',h1,h2,h3,rfl⟩;rcases(h.best e he).2 e' h1 ⟨h2,h3⟩with z|z<;>omega
def zD.said{l M:List bO}(h:zD l M){e:bO}(he:e∈M):saidBy l e.from_ e.to_ e.most=some e:=by
 unfold saidBy;have hm:e∈l.filter λx=>x.from_==e.from_&&(x.to_==e.to_&&x.most==e.most):=aN2.2 ⟨(h.best e he).1,by simp⟩
 have q:=Xd (l.filter λx=>x.from_==e.from_&&(x.to_==e.to_&&x.most==e.most)) none (λ_ _=>trivial);split at q
 ·next hh=>rw[q.2]at hm;cases hm
 ·next y hh=>
  obtain⟨h1,_,h3⟩:=q
  rcases h1 with h1|h1
  ·cases h1
  rw[aN2]at h1
  simp only[aM5,beq_iff_eq]at h1
  obtain⟨hy,y1,y2,y3⟩:=h1
  have le1:=h3 e hm;have le2:e.source<=y.source:=by rcases(h.best e he).2 y hy ⟨y1,y2⟩with z|z<;>omega
  have es:y.source=e.source:=by omega
  have:y=e:=by
   cases y;cases e;simp only at y1 y2 y3 es;subst y1 y2 y3 es;rfl
  exact hh.trans (congrArg some this)
def zD.of_edge{l M:List bO}(h:zD l M){i m:Nat}{a:Int}(he:edgeOf l i m=some a):∃e∈M,e.from_=i/\e.to_=m/\e.most=a:=by
 have:=rC l i m
 rw[he]at this
 obtain⟨⟨e,h1,h2,h3,h4⟩,_⟩:=this
 obtain⟨e',m1,m2,m3⟩:=h.all e h1
 have q:=h.edge m1;rw[m2,m3,h2,h3,he]at q;exact⟨e',m1,by rw[m2,h2],by rw[m3,h3],(aP6 q).symm⟩
def fI(n:Nat)(l:List bO)(t k:Nat):List (Option Int):=(aME n).map λv=>at_ (walks n l k) v t
def j2(n:Nat)(l:List bO)(t k:Nat):(fI n l t k).length=n:=by unfold fI;rw[aLx,aMk]
def j1{n:Nat}{l:List bO}{t k v:Nat}(hv:v<n):(fI n l t k).getD v none=at_ (walks n l k) v t:=by
 unfold fI;rw[aMW,aM4,aMK (by rw[aMk];exact hv),aOh]
 rfl
def ZU{n:Nat}{l:List bO}{t:Nat}(ht:t<n):fI n l t 0=bR n t:=by
 apply aRB
 ·rw[j2];unfold bR;rw[aMv,aN6]
 ·intro v h1 h2;rw[j2]at h1;have e1:=j1 (l:=l) (t:=t) (k:=0) h1;have e2:=C3 ht v;rw[aMW,aMK (by rw[j2];exact h1)]at e1
  rw[aMW,aMK h2]at e2
  simp only[Option.getD_some]at e1 e2
  rw[e1,e2,walks,Vx.gZ h1 ht]
def oJ(sums acc:List (Option Int))(e:bO):List (Option Int):=acc.set e.from_ (minO (acc.getD e.from_ none) (plusO (some e.most) (sums.getD e.to_ none)))
def XD(sums acc:List (Option Int))(e:bO):(oJ sums acc e).length=acc.length:=by unfold oJ;rw[aMv]
theorem LL(sums:List (Option Int)):∀(M:List bO) (acc:List (Option Int)),(M.foldl (oJ sums) acc).length=acc.length
 |[],_=>rfl
 |e::M,acc=>by rw[aMo,LL sums M,XD]
theorem Wc{n:Nat}(sums:List (Option Int)):∀(M:List bO) (acc:List (Option Int)),mK n M->acc.length=n->∀v,(M.foldl (oJ sums) acc).getD v none=(M.filter λe=>e.from_==v).foldl (λm e=>minO m (plusO (some e.most) (sums.getD e.to_ none))) (acc.getD v none)
 |[],_,_,_,_=>rfl
 | e::M,acc,rG,hl,v=>by
  have he:=rG e aMN;rw[aMo,Wc sums M _ (λx hx=>rG x (aMM _ hx)) (by rw[XD];exact hl)]
  by_cases hv:e.from_=v
  ·subst hv;have:(oJ sums acc e).getD e.from_ none=minO (acc.getD e.from_ none) (plusO (some e.most) (sums.getD e.to_ none)):=by
    unfold oJ;rw[aMW,aOC (by omega)]
    rfl
   rw[this,aNs,if_pos (by simp),aMo]
  ·have:(oJ sums acc e).getD v none=acc.getD v none:=by
    unfold oJ;rw[aMW,aNh hv,<-aMW]
   rw[this,aNs,if_neg (by simp[hv])]
def zD.inR{n:Nat}{l M:List bO}(h:zD l M)(hl:mK n l):mK n M:=λe he=>hl e (h.best e he).1
def Dy{l:List bO}{k i t:Nat}{w:Int}:Mr l (k+1) i t w↔∃e∈l,e.from_=i/\∃x,Mr l k e.to_ t x/\w=e.most+x:=by
 constructor
 ·rintro⟨vs,hv,p⟩
  cases vs with
  |nil=>simp at hv
  | cons v vs=>
   obtain⟨rfl,e,he,h1,x,q,rfl⟩:=p.cons_inv
   exact⟨e,he,h1,x,⟨vs,by simpa using hv,q⟩,rfl⟩
 ·rintro⟨e,he,rfl,x,⟨vs,hv,q⟩,rfl⟩
  exact⟨_,by simp[hv],cE.cons he q⟩
def yr{n:Nat}{l M:List bO}(hl:mK n l)(hb:zD l M){t:Nat}(ht:t<n)(k:Nat):M.foldl (oJ (fI n l t k)) (aMF n none)=fI n l t (k+1):=by
 have cC:(M.foldl (oJ (fI n l t k)) (aMF n none)).length=n:=by rw[LL,aN6]
 have key:∀v,v<n->(M.foldl (oJ (fI n l t k)) (aMF n none)).getD v none=at_ (walks n l (k+1)) v t:=by
  intro v hv;rw[Wc (n:=n) _ _ _ (hb.inR hl) (by simp)]
  have h0:(aMF n (none:Option Int)).getD v none=none:=by
   rw[aMW,aQL]
   split<;>rfl
  rw[h0]
  have hf:=tP (P:=fun(e:bO) w=>∃x y,x=e.most/\Mr l k e.to_ t y/\w=x+y)
   (f:=λe=>plusO (some e.most) ((fI n l t k).getD e.to_ none)) (M.filter λe=>e.from_==v) (λ_=>False) none Cu
   (λe he=>by
    have he:=aN2.1 he;have hr:=hb.inR hl e he.1;rw[j1 hr.2];exact J9 (P:=λx=>x=e.most) ⟨rfl,λx hx=>by rw[hx];exact aNu _⟩ (iR hl k hr.2 ht))
  refine cP.uniq (P:=Mr l (k+1) v t) ?_ (iR hl (k+1) hv ht);have sub:∀w,(False\/∃e∈M.filter (λe=>e.from_==v),∃x y,x=e.most/\Mr l k e.to_ t y/\w=x+y)->Mr l (k+1) v t w:=by
   rintro w (h|⟨e,he,x,y,rfl,hy,rfl⟩)
   ·exact h.elim
   ·have he:=aN2.1 he;exact Dy.2 ⟨e,(hb.best e he.1).1,by simpa using he.2,y,hy,rfl⟩
  have wg:∀w,Mr l (k+1) v t w->∃w',w'<=w/\(False\/∃e∈M.filter (λe=>e.from_==v),∃x y,x=e.most/\Mr l k e.to_ t y/\w'=x+y):=by
   intro w hw;obtain⟨e,he,h1,x,hx,rfl⟩:=Dy.1 hw;obtain⟨e',m1,m2,m3⟩:=hb.all e he;have IF:e'.most<=e.most:=by rcases(hb.best e' m1).2 e he ⟨m2.symm,m3.symm⟩with z|z<;>omega
   exact⟨e'.most+x,by omega,.inr ⟨e',aN2.2 ⟨m1,by simp[m2,h1]⟩,_,x,rfl,by rw[m3];exact hx,rfl⟩⟩
  revert hf;generalize(M.filter λe=>e.from_==v).foldl (λm e=>minO m (plusO (some e.most) ((fI n l t k).getD e.to_ none))) none=o;intro hf;cases o with
  | none=>
   intro w hw;obtain⟨w',_,h⟩:=wg w hw;exact hf w' h
  | some z=>
   refine⟨sub z hf.1,λw hw=>?_⟩
   obtain⟨w',h1,h⟩:=wg w hw
   exact Int.le_trans (hf.2 w' h) h1
 apply aRB
 ·rw[cC,j2]
 ·intro v h1 h2;rw[cC]at h1;have e1:=key v h1;have e2:=j1 (l:=l) (t:=t) (k:=k+1) h1;rw[aMW,aMK (by rw[cC];exact h1)]at e1
  rw[aMW,aMK h2]at e2
  simp only[Option.getD_some]at e1 e2
  rw[e1,e2]
def Ye(sums:List (Option Int))(i:Nat)(WR:Int)(e:bO):Bool:=e.from_==i&&(match sums.getD e.to_ none with
 |some x=>e.most+x==WR
 |none=>false)
def rm{n:Nat}{l M:List bO}(hl:mK n l)(hb:zD l M){t:Nat}(ht:t<n){k i:Nat}{w:Int}{ts:List (List aMt)}(hts:ts.getD k []=walks n l k)(hi:i<n)(hw:at_ (walks n l (k+1)) i t=some w):
  ∃e,M.find? (Ye (fI n l t k) i w)=some e/\e∈M/\e.from_=i/\e.to_<n/\at_ (walks n l k) e.to_ t=some (w-e.most)/\wayOf n l ts (k+1) i t w=e::wayOf n l ts k e.to_ t (w-e.most):=by
 have hL:=iR hl (k+1) hi ht;rw[hw]at hL;obtain⟨kj,kn⟩:=hL;obtain⟨e0,he0,h1,x,hx,hwx⟩:=Dy.1 kj;obtain⟨e1,m1,m2,m3⟩:=hb.all e0 he0;have IF:e1.most<=e0.most:=by rcases(hb.best e1 m1).2 e0 he0 ⟨m2.symm,m3.symm⟩with z|z<;>omega
 have Yb:=hb.inR hl e1 m1;have Oj:=iR hl k Yb.2 ht;have Y7:Ye (fI n l t k) i w e1=true:=by
  unfold Ye;rw[j1 Yb.2];cases hy:at_ (walks n l k) e1.to_ t with
  |none=>rw[hy]at Oj;exact absurd (by rw[m3];exact hx) (Oj x)
  | some y=>
   rw[hy]at Oj
   have hyx:y<=x:=Oj.2 x (by rw[m3];exact hx)
   have:=kn (e1.most+y) (Dy.2 ⟨e1,(hb.best e1 m1).1,by rw[m2,h1],y,Oj.1,rfl⟩)
   have e:e1.most+y=w:=by omega
   simp[m2,h1,e]
 cases hf:M.find? (Ye (fI n l t k) i w)with
 |none=>exact absurd Y7 (by rw[aOi]at hf;exact hf e1 m1)
 | some e=>
  have hem:=aOv hf;have hec:=aRK hf;have hr:=hb.inR hl e hem;unfold Ye at hec;rw[j1 hr.2,aM5,beq_iff_eq]at hec;obtain⟨hei,hec⟩:=hec;cases hy:at_ (walks n l k) e.to_ t with
  |none=>rw[hy]at hec;cases hec
  | some y=>
   rw[hy]at hec
   have hey:e.most+y=w:=by simpa using hec
   have ey:y=w-e.most:=by omega
   subst ey;refine⟨e,rfl,hem,hei,hr.2,hy,?_⟩;have aB5:edgeOf l i e.to_=some e.most:=by rw[<-hei];exact hb.edge hem
   have Me:(aME n).find? (λm=>match edgeOf l i m,at_ (ts.getD k []) m t with
     |some a,some b=>a+b==w
     |_,_=>false)=some e.to_:=by
    rw[aOj]
    refine⟨?_,aMh.2 hr.2,?_⟩
    ·rw[hts,aB5,hy]
     simp only[beq_iff_eq]
     omega
    ·intro m hm;rw[hts];cases ha:edgeOf l i m with
     |none=>rfl
     | some a=>
      cases hb2:at_ (walks n l k) m t with
      |none=>rfl
      | some b=>
       simp only[aQr,beq_eq_false_iff_ne]
       intro hab;obtain⟨e2,q1,q2,q3,q4⟩:=hb.of_edge ha;have c2:Ye (fI n l t k) i w e2=true:=by
        unfold Ye;rw[q3,j1 (by omega),hb2]
        simp[q2,q4,hab]
       obtain⟨as,bs,hM,rJ⟩:=(aQa.1 hf).2
       have Bu:M[as.length]?=some e:=by rw[hM];simp
       obtain⟨j,hj,Md⟩:=aNa q1
       by_cases hja:j<as.length
       ·have:e2∈as:=by
         rw[<-Md]
         have:M[j]=as[j]:=by simp only[hM];exact List.getElem_append_left hja
         rw[this];exact List.getElem_mem hja
        have:=rJ e2 this
        rw[c2]at this;cases this
       ·have:=hb.sort as.length j e e2 (by omega) Bu (by rw[aMK hj,Md])
        omega
   have hs:saidBy l i e.to_ e.most=some e:=by rw[<-hei];exact hb.said hem
   refine(show wayOf n l ts (k+1) i t w=(match(aME n).find? (λm=>match edgeOf l i m,at_ (ts.getD k []) m t with
     |some a,some b=>a+b==w
     |_,_=>false)with
    |none=>[]
    | some m=>(match edgeOf l i m with
     |none=>[]
     | some a=>(match saidBy l i m a with
      |none=>[]
      |some e=>e::wayOf n l ts k m t (w-a))))from rfl).trans ?_
   rw[Me]
   simp only[aB5,hs]
end Vx
namespace Vx
open Vbexal (minO plusO edgeOf at_ table walks tables wayOf saidBy closed proofOf ringOf)
def ZX{n:Nat}{l:List bO}{i j:Nat}(h:at_ (closed n l) i j=none):proofOf n l i j=none:=by unfold proofOf;rw[h]
def Z9{n:Nat}{l:List bO}(hl:mK n l)(hc:kT l){i j:Nat}(hi:i<n)(hj:j<n){w:Int}(h:at_ (closed n l) i j=some w):
  ∃k,k<n/\at_ (walks n l k) i j=some w/\(∀k',k'<k->at_ (walks n l k') i j≠some w)/\(∀k' x,at_ (walks n l k') i j=some x->w<=x)/\proofOf n l i j=some (wayOf n l (tables n l n) k i j w):=by
 have hL:=d5 hl hc hi hj;rw[h]at hL;obtain⟨⟨vs,p⟩,aF3⟩:=hL;have wg:∀k' x,at_ (walks n l k') i j=some x->w<=x:=by
  intro k' x hx;have:=iR hl k' hi hj;rw[hx]at this;obtain⟨⟨us,_,q⟩,_⟩:=this;exact aF3 x ⟨us,q⟩
 obtain⟨us,x,q,hx,hu,_⟩:=p.short hl hc hj
 have hxw:x=w:=by have:=aF3 x ⟨us,q⟩;omega
 subst hxw;have hk0:at_ (walks n l us.length) i j=some x:=by
  have:=iR hl us.length hi hj
  cases e:at_ (walks n l us.length) i j with
  |none=>rw[e]at this;exact absurd ⟨us,rfl,q⟩ (this x)
  | some y=>
   rw[e]at this
   have h1:=this.2 x ⟨us,rfl,q⟩;have h2:=wg _ y e;have:y=x:=by omega
   rw[this]
 have Me:∃k,(aME (n+1)).find? (λk=>at_ ((tables n l n).getD k []) i j==some x)=some k:=by
  cases e:(aME (n+1)).find? (λk=>at_ ((tables n l n).getD k []) i j==some x)with
  |some k=>exact⟨k,rfl⟩
  | none=>
   rw[aOi]at e
   have:=e us.length (aMh.2 (by omega))
   rw[lN n l n us.length (by omega),hk0]at this
   simp at this
 obtain⟨k,hk⟩:=Me
 obtain⟨Oj,hk2,hk3⟩:=aOj.1 hk
 have Mp:k<n+1:=aMh.1 hk2;rw[lN n l n k (by omega)]at Oj
 have Oj:at_ (walks n l k) i j=some x:=by simpa using Oj
 have rJ:∀k',k'<k->at_ (walks n l k') i j≠some x:=by
  intro k' hk';have:=hk3 k' hk';rw[lN n l n k' (by omega)]at this
  simpa using this
 refine⟨k,?_,Oj,rJ,wg,?_⟩
 ·rcases Nat.lt_or_ge us.length k with z | z
  ·exact absurd hk0 (rJ _ z)
  ·omega
 ·unfold proofOf;rw[h];simp only[hk]
def oC(n:Nat)(l:List bO)(k i:Nat):Bool:=match at_ (walks n l k) i i with
 |some x=>decide (x<0)
 |none=>false
def Ys(n:Nat)(l:List bO)(k i:Nat):Bool:=match at_ ((tables n l n).getD k []) i i with
 |some x=>decide (x<0)
 |none=>false
def zT{n:Nat}{l:List bO}{k:Nat}(hk:k<=n)(i:Nat):Ys n l k i=oC n l k i:=by unfold Ys oC;rw[lN n l n k hk]
theorem ef(n:Nat)(l:List bO):ringOf n l=(match((aME n).map λk=>k+1).find? (λk=>(aME n).any λi=>Ys n l k i)with
 |none=>none
 | some k=>(match(aME n).find? (λi=>Ys n l k i)with
  |none=>none
  |some i=>some (wayOf n l (tables n l n) k i i ((at_ ((tables n l n).getD k []) i i).getD 0)))):=rfl
def jc{n:Nat}{l:List bO}(h:∀k,k<=n->∀i,i<n->oC n l k i=false):ringOf n l=none:=by
 rw[ef]
 have e:((aME n).map λk=>k+1).find? (λk=>(aME n).any λi=>Ys n l k i)=none:=by
  rw[aOi]
  intro k hk;obtain⟨m,hm,rfl⟩:=aNG.1 hk;have hm:=aMh.1 hm;rw[aNb,aQt];intro i hi;rw[zT (by omega),h _ (by omega) i (aMh.1 hi)]
  decide
 simp only[e]
def ip{p:Nat->Bool}{n k:Nat}(h1:1<=k)(hk:k<=n)(hp:p k=true)(rJ:∀k',1<=k'->k'<k->p k'=false):((aME n).map λk=>k+1).find? p=some k:=by
 rw[List.find?_map]
 have:(aME n).find? (p ∘ λk=>k+1)=some (k-1):=by
  rw[aOj]
  refine⟨by show p (k-1+1)=true;rw[show k-1+1=k by omega];exact hp,aMh.2 (by omega),λj hj=>?_⟩
  show(!p (j+1))=true
  rw[rJ (j+1) (by omega) (by omega)];rfl
 rw[this]
 show some (k-1+1)=some k;rw[show k-1+1=k by omega]
def jk{n:Nat}{l:List bO}{k i:Nat}{w:Int}(h1:1<=k)(hk:k<=n)(hi:i<n)(hw:at_ (walks n l k) i i=some w)(aCt:w<0)(rJ:∀k',k'<k->∀i',i'<n->oC n l k' i'=false)(aIH:∀i',i'<i->oC n l k i'=false):
  ringOf n l=some (wayOf n l (tables n l n) k i i w):=by
 have hb:oC n l k i=true:=by unfold oC;rw[hw];exact decide_eq_true aCt
 have e:((aME n).map λk=>k+1).find? (λk=>(aME n).any λi=>Ys n l k i)=some k:=by
  refine ip h1 hk ?_ λk' h0 hk'=>?_
  ·rw[aOk]
   exact⟨i,aMh.2 hi,by rw[zT hk];exact hb⟩
  ·rw[aQt]
   intro j hj;rw[zT (by omega),rJ k' hk' j (aMh.1 hj)]
   decide
 have e2:(aME n).find? (λi=>Ys n l k i)=some i:=by
  rw[aOj]
  refine⟨by rw[zT hk];exact hb,aMh.2 hi,λj hj=>?_⟩
  rw[zT hk,aIH j hj];rfl
 rw[ef]
 simp only[e,e2]
 rw[lN n l n k hk,hw]
 rfl
end Vx
namespace Vx
def Xo(s:aMA)(k:Nat):(aN9 s k).said.length=s.said.length:=by rw[Fb,lR,aQj]
def xH(s:aMA)(k:Nat):aMI (aN9 s k)=aMI s:=KH s k false
def BE(s:aMA)(k:Nat):aMB (aN9 s k)=aMB s:=by rw[cK,cK,xH]
def Eg(s:aMA)(k:Nat):aMQ (aN9 s k)=aMQ s:=by funext n;unfold aMQ;rw[xH]
def QQ(s:aMA)(k c:Nat):aMp (aN9 s k) c=aMp s c:=by
 have hc:aMf (aN9 s k) c=aMf s c:=rfl;cases e:aMf s c with
 |none=>rw[hX e,hX (hc.trans e)]
 | some p=>
  cases vL:p.on with
  |false=>rw[jB e vL,jB (hc.trans e) vL]
  | true=>
   rw[gT e vL,gT (hc.trans e) vL]
   unfold qX aPM aOQ;rw[xH,Eg]
def Xl{s:aMA}{k:Nat}{x:aNI}{e:bO}(h:e∈aMy s k x):e.source=k:=by
 unfold aMy at h;simp only[]at h;split at h
 ·cases h
 ·split at h
  ·simp only[aMR,aN5,or_false]at h;rw[h]
  ·split at h
   ·simp only[aMR,aN5,or_false]at h;rw[h]
   ·split at h
    ·simp only[aMR,aN5,or_false]at h;rw[h]
    ·simp only[aMR,aN5,or_false]at h
     rcases h with h|h<;>rw[h]
theorem Lp(src:Nat):∀(st:List (Int×Int)) (w6:List Nat) (e:bO),e∈vM src w6 st->e.source=src
 | [],w6,e,h=>by
  cases w6 with
  |nil=>cases h
  |cons a l=>cases l<;>cases h
 |q::st,[],e,h=>by cases h
 |q::st,[a],e,h=>by cases h
 | (lo,hi)::st,a::b::w6,e,h=>by
  simp only[vM,aMR]at h
  rcases h with h|h|h
  ·rw[h]
  ·rw[h]
  ·exact Lp src st (b::w6) e h
def J3{s:aMA}{c:Nat}{e:bO}(h:e∈aMp s c):e.source=100+c:=by
 cases hc:aMf s c with
 |none=>rw[hX hc]at h;cases h
 | some p=>
  cases vL:p.on with
  |false=>rw[jB hc vL]at h;cases h
  |true=>rw[gT hc vL]at h;exact Lp _ _ _ _ h
def A9{l:List bO}{p:bO->Bool}(h:∀e∈l,p e=true):l.filter p=l:=aQd.2 h
def jm{l:List bO}{p:bO->Bool}(h:∀e∈l,p e=false):l.filter p=[]:=by
 rw[List.filter_eq_nil_iff]
 intro e he;rw[h e he];decide
def wR{s:aMA}{i:Nat}{e:bO}(h:e∈bX s i):e.source=i:=by
 unfold bX at h;split at h
 ·exact Xl h
 ·cases h
def Pz(s:aMA)(k i:Nat):bX (aN9 s k) i=(bX s i).filter λe=>decide (e.source≠k):=by
 by_cases hik:i=k
 ·subst hik;rw[jm λe he=>by rw[wR he];exact decide_eq_false (λz=>z rfl)]
  unfold bX;rw[Fb,lR,aQ2];cases s.said[i]? with
  |none=>rfl
  | some x=>
   simp only[aOO]
   unfold aMy;simp only[if_true]
 ·rw[A9 λe he=>by rw[wR he];exact decide_eq_true hik]
  unfold bX;have e1:(aN9 s k).said[i]?=s.said[i]?:=by
   rw[Fb,lR,aQ2]
   cases s.said[i]? with
   |none=>rfl
   |some x=>simp[hik]
  rw[e1]
  cases s.said[i]? with
  |none=>rfl
  | some x=>
   simp only
   unfold aMy;rw[Eg]
def E6(s:aMA){k:Nat}(hk:k<100):aMJ (aN9 s k)=(aMJ s).filter λe=>decide (e.source≠k):=by
 rw[zH,zH,Xo,BE,aOy,aOy,List.filter_flatMap,List.filter_flatMap]
 congr 1
 ·congr 1
  funext i
  exact Pz s k i
 ·congr 1
  ·congr 1
   funext c
   rw[QQ,A9 λe he=>by rw[J3 he];exact decide_eq_true (by omega)]
  ·rw[A9 λe he=>?_]
   obtain⟨i,_,rfl⟩:=aNG.1 he
   exact decide_eq_true (by show 200≠k;omega)
theorem Jc:∀(l:List Nat) (s:aMA),(∀k∈l,k<100)->aMJ (aOD s l)=((aMJ s).filter λe=>!l.contains e.source)/\aMB (aOD s l)=aMB s
 |[],s,_=>⟨(A9 λ_ _=>rfl).symm,rfl⟩
 | k::l,s,h=>by
  have ih:=Jc l (aN9 s k) λx hx=>h x (aMM _ hx);have e:aOD s (k::l)=aOD (aN9 s k) l:=rfl;rw[e];refine⟨?_,ih.2.trans (BE s k)⟩;rw[ih.1,E6 s (h k aMN),aQi];congr 1;funext x;rw[aOl];by_cases hx:x.source=k
  ·simp[hx]
  ·simp[hx]
def ZY{s:aMA}{i:Nat}(h1:1<=i)(h2:i<aMB s):∃e∈aMJ s,e.from_=i/\e.to_=0/\e.most=0/\e.source=200:=⟨_,Wi h1 h2,rfl,rfl,rfl,rfl⟩
def X0{s:aMA}{p:Nat->Bool}(hp:p 200=true):G1 (aMB s) ((aMJ s).filter λe=>p e.source):=by
 refine mj.toW ?_;intro i h1 h2;obtain⟨e,he,q1,q2,q3,q4⟩:=ZY h1 h2;exact⟨e,aN2.2 ⟨he,by rw[q4];exact hp⟩,q1,q2,q3⟩
def Zn{s:aMA}{p:bO->Bool}:mK (aMB s) ((aMJ s).filter p):=λe he=>bP s e (aN2.1 he).1
def YH{s:aMA}{p:bO->Bool}(h:kT (aMJ s)):kT ((aMJ s).filter p):=λi vs w q=>h i vs w (q.mono λe he=>(aN2.1 he).1)
def w8(l:List Nat)(c:List Nat):List (List Nat):=(l.filter λx=>match c.getLast? with
 |none=>true
 |some y=>decide (y<x)).map λx=>c++[x]
theorem lQ:∀(m:Nat) (l c:List Nat),c∈aM6 m l->c.length=m/\∀x∈c,x∈l
 | 0,l,c,h=>by
  have:c=[]:=by simpa[aM6]using h
  subst this;exact⟨rfl,λx hx=>by cases hx⟩
 |m+1,[],c,h=>by cases h
 | m+1,a::l,c,h=>by
  rw[aM6,aMX]at h
  rcases h with h|h
  ·obtain⟨d,hd,rfl⟩:=aNG.1 h
   obtain⟨h1,h2⟩:=lQ m l d hd
   refine⟨by rw[aMT,h1],λx hx=>?_⟩
   rcases aMR.1 hx with rfl|hx
   ·exact aMN
   ·exact aMM _ (h2 x hx)
  ·obtain⟨h1,h2⟩:=lQ (m+1) l c h
   exact⟨h1,λx hx=>aMM _ (h2 x hx)⟩
def qv{a:Nat}{l c:List Nat}(h:∀x∈l,a<x)(hc:∀x∈c,x∈l)(y8:c≠[]):w8 (a::l) c=w8 l c:=by
 unfold w8;congr 1;rw[aNs];cases e:c.getLast? with
 |none=>rw[aPN]at e;exact absurd e y8
 | some y=>
  have hy:=h y (hc y (List.mem_of_getLast? e));rw[if_neg (by simp;omega)]
def zg{a:Nat}{l c:List Nat}(h:∀x∈l,a<x)(hc:∀x∈c,x∈l):w8 (a::l) (a::c)=(w8 l c).map λr=>a::r:=by
 unfold w8;rw[aNn];have e0:(a::l).filter (λx=>match(a::c).getLast? with
   |none=>true
   |some y=>decide (y<x))=l.filter (λx=>match c.getLast? with
   |none=>true
   |some y=>decide (y<x)):=by
  cases c with
  | nil=>
   show(a::l).filter (λx=>decide (a<x))=l.filter λ_=>true
   rw[aNs,if_neg (by simp)]
   apply aQs;intro x hx;exact decide_eq_true (h x hx)
  | cons b c=>
   rw[List.getLast?_cons_cons,aNs]
   cases e:(b::c).getLast? with
   |none=>rw[aPN]at e;cases e
   | some y=>
    have hy:=h y (hc y (List.mem_of_getLast? e));rw[if_neg (by simp;omega)]
 rw[e0]
 rfl
theorem Fv:∀(l:List Nat) (m:Nat),l.Pairwise (·<·)->aM6 (m+1) l=(aM6 m l).flatMap (w8 l)
 |[],0,_=>rfl
 |[],m+1,_=>rfl
 | a::l,m,h=>by
  rw[List.pairwise_cons]at h
  obtain⟨h1,h2⟩:=h
  have ih:=λm=>Fv l m h2;rw[aM6];cases m with
  | zero=>
   rw[ih 0]
   have e1:∀l,aM6 0 l=[[]]:=λl=>by cases l<;>rfl
   rw[e1,e1]
   simp only[aNC,aO2,aMc,aM2,aOE]
   have e2:∀l,w8 l []=l.map λx=>[x]:=λl=>by
    show(l.filter λ_=>true).map _=_
    rw[aQd.2 λ_ _=>rfl]
    rfl
   rw[e2,e2]
   rfl
  | succ m=>
   rw[aM6,aNo,ih (m+1)]
   congr 1
   ·rw[ih m,List.map_flatMap,List.flatMap_map]
    apply flatMap_congr';intro c hc;exact(zg h1 (lQ m l c hc).2).symm
   ·apply flatMap_congr';intro c hc;obtain⟨q1,q2⟩:=lQ (m+1) l c hc;exact(qv h1 q2 (by rintro rfl;cases q1)).symm
where
 flatMap_congr' {α β:Type} {f g:α->List β}:∀{l:List α},(∀x∈l,f x=g x)->l.flatMap f=l.flatMap g
  |[],_=>rfl
  |x::l,h=>by rw[aNC,aNC,h x aMN,flatMap_congr' λy hy=>h y (aMM _ hy)]
def cY(s:aMA):List Nat:=(aME s.said.length).filter λk=>(s.said[k]?).any λx=>x.on
def OH(s:aMA):(cY s).Pairwise (·<·):=List.Pairwise.filter _ List.pairwise_lt_range
def aE1{s:aMA}{k:Nat}(h:k∈cY s):k<s.said.length:=aMh.1 (aN2.1 h).1
def HK{s:aMA}(hw:s.said.length<=12):(cY s).length<=12/\(aM6 1 (cY s)).length<=12/\(aM6 2 (cY s)).length<=144/\(aM6 3 (cY s)).length<=1728:=by
 have h0:(cY s).length<=12:=aM3 (aOc _ _) (by rw[aMk];exact hw)
 have step:∀m,(aM6 (m+1) (cY s)).length<=12*(aM6 m (cY s)).length:=by
  intro m;rw[Fv _ _ (OH s)];refine wL _ 12 _ λc _=>?_;unfold w8;rw[aLx];exact aM3 (aOc _ _) h0
 have e0:(aM6 0 (cY s)).length=1:=by cases cY s<;>rfl
 have h1:(aM6 1 (cY s)).length<=_:=step 0;have h2:(aM6 2 (cY s)).length<=_:=step 1;have h3:(aM6 3 (cY s)).length<=_:=step 2;omega
end Vx
namespace Vx
def dI:List Int->List (List Int)
 |a::b::w::k::l=>[a,b,w,k]::dI l
 |_=>[]
def WQ(E:List (List Int)):Option Int->List (List Int)->Bool
 |_,[]=>true
 | p,r::l=>E.contains r&&(match p with
  |none=>true
  |some x=>decide (x=r.getD 0 0))&&WQ E (some (r.getD 1 0)) l
def Nw:Option Nat->List (List Int)->Option Nat
 |i,[]=>i
 |_,r::l=>Nw (some (r.getD 1 0).toNat) l
def fv(l:List (List Int)):Int:=(l.map λr=>r.getD 2 0).sum
def Ba(s:aMA):List (List Int):=(aMJ s).map aNM
def Ph(s:aMA)(r:List Int):(aMJ s).any (λe=>aNM e==r)=(Ba s).contains r:=by
 unfold Ba;rw[aOS,aOk,aQV,aNG];constructor
 ·rintro⟨e,he,h⟩;exact⟨e,he,eq_of_beq h⟩
 ·rintro⟨e,he,h⟩;exact⟨e,he,by rw[h];exact beq_self_eq_true r⟩
def ay{s:aMA}{r:List Int}(h:(Ba s).contains r=true):0<=r.getD 1 0:=by
 rw[aQV]at h
 obtain⟨e,_,rfl⟩:=aNG.1 h
 show(0:Int)<=(e.to_:Int)
 omega
def Kx(i:Option Nat):Option Int:=i.map fun(n:Nat)=>(n:Int)
theorem XR(s:aMA):∀(n:Nat) (l:List Int) (i:Option Nat),l.length=4*n->aRC s i l=if WQ (Ba s) (Kx i) (dI l)=true then some (fv (dI l),Nw i (dI l))else none
 |0,[],i,_=>rfl
 |0,_::_,_,h=>by simp at h
 | n+1,l,i,h=>by
  match l,h with
  | a::b::w::k::l,h=>
   have hl:l.length=4*n:=by simp only[aMT]at h;omega
   have ih:=XR s n l (some b.toNat) hl;rw[aRC,Ph];have e1:dI (a::b::w::k::l)=[a,b,w,k]::dI l:=rfl;rw[e1];have e2:WQ (Ba s) (Kx i) ([a,b,w,k]::dI l)=((Ba s).contains [a,b,w,k]&&(match(Kx i)with
    |none=>true
    |some x=>decide (x=a))&&WQ (Ba s) (some b) (dI l)):=rfl
   rw[e2]
   cases hc:(Ba s).contains [a,b,w,k]with
   |false=>rw[if_neg (by simp)];rfl
   | true=>
    have hb:0<=b:=ay hc;have hbb:Kx (some b.toNat)=some b:=by show some ((b.toNat:Nat):Int)=some b;rw[aOT hb]
    rw[hbb]at ih
    by_cases hi:i=none\/Kx i=some a
    ·rw[if_pos (show true=true/\(i=none\/(i.map fun(n:Nat)=>(n:Int))=some a)from⟨rfl,hi⟩),ih]
     have e3:(match(Kx i)with
      |none=>true
      |some x=>decide (x=a))=true:=by
      rcases hi with hi|hi
      ·rw[hi];rfl
      ·rw[hi];exact decide_eq_true rfl
     rw[e3,aNJ,aNJ]
     cases FQ:WQ (Ba s) (some b) (dI l)with
     |false=>rw[if_neg (by decide),if_neg (by decide)]
     | true=>
      rw[if_pos rfl,if_pos rfl]
      show some (w+fv (dI l),_)=some (fv ([a,b,w,k]::dI l),_);unfold fv;rw[aM2,aOz];rfl
    ·rw[if_neg (show¬(true=true/\(i=none\/(i.map fun(n:Nat)=>(n:Int))=some a))from λz=>hi z.2)]
     have e3:(match(Kx i)with
      |none=>true
      |some x=>decide (x=a))=false:=by
      cases i with
      |none=>exact absurd (.inl rfl) hi
      |some m=>exact decide_eq_false λz=>hi (.inr (congrArg some z))
     rw[e3];rfl
theorem Wj:∀(n:Nat) (l:List Int),l.length=4*n->(dI l).length=n/\∀r∈dI l,r.length=4
 |0,[],_=>⟨rfl,λ_ h=>by cases h⟩
 |0,_::_,h=>by simp at h
 | n+1,l,h=>by
  match l,h with
  | a::b::w::k::l,h=>
   have hl:l.length=4*n:=by simp only[aMT]at h;omega
   obtain⟨h1,h2⟩:=Wj n l hl
   refine⟨by show(dI l).length+1=n+1;rw[h1],λr hr=>?_⟩
   rcases aMR.1 (show r∈[a,b,w,k]::dI l from hr)with rfl|hr
   ·rfl
   ·exact h2 r hr
theorem W7:∀(n:Nat) (l:List Int),l.length=4*n->∀i,i<n->(dI l)[i]?=some ((l.take (4*i+4)).drop (4*i))
 |0,_,_,i,hi=>by omega
 | n+1,l,h,i,hi=>by
  match l,h with
  | a::b::w::k::l,h=>
   have hl:l.length=4*n:=by simp only[aMT]at h;omega
   cases i with
   |zero=>rfl
   | succ i=>
    have ih:=W7 n l hl i (by omega)
    show(dI l)[i]?=_
    rw[ih]
    have e:4*(i+1)=4*i+1+1+1+1:=by omega
    rw[e]
    simp only[List.take_succ_cons,List.drop_succ_cons]
theorem XB:∀(l:List (List Int)) (i:Option Nat) (r:List Int),l.getLast?=some r->Nw i l=some (r.getD 1 0).toNat
 |[],_,_,h=>by cases h
 | [x],i,r,h=>by
  have:x=r:=by simpa using h
  subst this;rfl
 | x::y::l,i,r,h=>by
  rw[List.getLast?_cons_cons]at h
  exact XB (y::l) (some (x.getD 1 0).toNat) r h
theorem de{E:List (List Int)}:∀{l:List (List Int)} {p:Option Int},WQ E p l=true->∀r∈l,E.contains r=true
 |[],_,_,r,hr=>by cases hr
 | x::l,p,h,r,hr=>by
  unfold WQ at h;rw[aM5,aM5]at h;rcases aMR.1 hr with rfl|hr
  ·exact h.1.1
  ·exact de h.2 r hr
end Vx
namespace Vx
def ZK{l:List bO}{h:Nat->Option Int}(hk:∀e∈l,∀x,h e.from_=some x->∃y,h e.to_=some y/\y<=x+e.most){i:Nat}{vs:List Nat}{j:Nat}{w:Int}(p:cE l i vs j w):∀x,h i=some x->∃y,h j=some y/\y<=x+w:=by
 induction p with
 |nil i=>intro x hx;exact⟨x,hx,by omega⟩
 | cons he _ ih=>
  intro x hx;obtain⟨y,h1,h2⟩:=hk _ he x hx;obtain⟨z,h3,h4⟩:=ih y h1;exact⟨z,h3,by omega⟩
structure Mq(N:Nat)(l:List bO)(up dn:Nat)(p q:Int×Int):Prop where
 inr:mK N l
 aDs:G1 N l
 calm:kT l
 hup:up<N
 hdn:dn<N
 zero:0<N
 e1:∃e∈l,e.from_=up/\e.to_=dn/\e.most=p.2+q.2
 e2:∃e∈l,e.from_=dn/\e.to_=up/\e.most=-(p.1+q.1)
 p0:0<=p.1
 p1:p.1<=p.2
 q1:q.1<=q.2
def GV(N:Nat)(l:List bO)(up dn:Nat)(p q:Int×Int)(src:Nat):List bO:=l++[⟨up,N,p.2,src⟩,⟨N,up,-p.1,src⟩,⟨N,dn,q.2,src⟩,⟨dn,N,-q.1,src⟩]
section
variable{N:Nat}{l:List bO}{up dn:Nat}{p q:Int×Int}{src:Nat}
def Iz{e:bO}(h:e∈GV N l up dn p q src):e∈l\/e=⟨up,N,p.2,src⟩\/e=⟨N,up,-p.1,src⟩\/e=⟨N,dn,q.2,src⟩\/e=⟨dn,N,-q.1,src⟩:=by
 unfold GV at h;simpa only[aMX,aMR,aN5,or_false]using h
def Mq.inR(h:Mq N l up dn p q):mK (N+1) (GV N l up dn p q src):=by
 intro e he;have h1:=h.hup;have h2:=h.hdn;rcases Iz he with he|rfl|rfl|rfl|rfl
 ·have:=h.inr e he;omega
 ·exact⟨by show up<N+1;omega,by show N<N+1;omega⟩
 ·exact⟨by show N<N+1;omega,by show up<N+1;omega⟩
 ·exact⟨by show N<N+1;omega,by show dn<N+1;omega⟩
 ·exact⟨by show dn<N+1;omega,by show N<N+1;omega⟩
def zJ{i:Nat}{vs:List Nat}{j:Nat}{w:Int}(Kh:cE l i vs j w):cE (GV N l up dn p q src) i vs j w:=Kh.mono λe he=>aN3 _ he
def Mq.agesW(h:Mq N l up dn p q):G1 (N+1) (GV N l up dn p q src):=by
 intro i hi;by_cases e:i=N
 ·subst e;obtain⟨vs,w,Kh,hw⟩:=h.aDs up h.hup;have h0:=h.p0;exact⟨_,-p.1+w,cE.cons (e:=⟨i,up,-p.1,src⟩) (aMz _ (by simp)) (zJ Kh),by omega⟩
 ·obtain⟨vs,w,Kh,hw⟩:=h.aDs i (by omega)
  exact⟨vs,w,zJ Kh,hw⟩
def Mq.kept(h:Mq N l up dn p q){a:Nat->Int}(ha:Ot l a){m:Int}(h1:m<=a up+p.2)(h2:a up+p.1<=m)(h3:a dn-q.2<=m)(h4:m<=a dn-q.1):Ot (GV N l up dn p q src) (λv=>if v=N then m else a v):=by
 have hu:=h.hup;have hd:=h.hdn;intro e he;rcases Iz he with he|rfl|rfl|rfl|rfl
 ·have:=h.inr e he
  show(if e.to_=N then m else a e.to_)<=(if e.from_=N then m else a e.from_)+e.most
  rw[if_neg (by omega),if_neg (by omega)]
  exact ha e he
 ·show(if N=N then m else a N)<=(if up=N then m else a up)+p.2
  rw[if_pos rfl,if_neg (by omega)];exact h1
 ·show(if up=N then m else a up)<=(if N=N then m else a N)+-p.1
  rw[if_pos rfl,if_neg (by omega)];omega
 ·show(if dn=N then m else a dn)<=(if N=N then m else a N)+q.2
  rw[if_pos rfl,if_neg (by omega)];omega
 ·show(if N=N then m else a N)<=(if dn=N then m else a dn)+-q.1
  rw[if_pos rfl,if_neg (by omega)];omega
def Mq.least(h:Mq N l up dn p q){a:Nat->Int}(ha:∀v,v<N->cP (Way l v 0) (some (-(a v)))):
  kT (GV N l up dn p q src)/\cP (Way (GV N l up dn p q src) N 0) (some (-(max (a up+p.1) (a dn-q.2)))):=by
 have hk:Ot l a:=by
  intro e he;have hr:=h.inr e he;obtain⟨⟨vs,Kh⟩,_⟩:=ha e.to_ hr.2;have:=(ha e.from_ hr.1).2 _ ⟨_,cE.cons he Kh⟩;omega
 have a0:a 0=0:=by
  have h1:=(ha 0 h.zero).2 0 ⟨[],.nil 0⟩;obtain⟨vs,Kh⟩:=(ha 0 h.zero).1;have:=h.calm _ _ _ Kh;omega
 obtain⟨e1,g1,g2,g3,g4⟩:=h.e1
 obtain⟨e2,k1,k2,k3,k4⟩:=h.e2
 have c1:=hk e1 g1;have c2:=hk e2 k1;rw[g2,g3,g4]at c1;rw[k2,k3,k4]at c2;have hp:=h.p1;have hq:=h.q1;have hu:=h.hup;have hd:=h.hdn;have hz:=h.zero;have m1:a up+p.1<=max (a up+p.1) (a dn-q.2):=Int.le_max_left _ _;have m2:a dn-q.2<=max (a up+p.1) (a dn-q.2):=Int.le_max_right _ _;have m3:max (a up+p.1) (a dn-q.2)=a up+p.1\/max (a up+p.1) (a dn-q.2)=a dn-q.2:=by omega
 have kept:=h.kept (src:=src) hk (m:=max (a up+p.1) (a dn-q.2)) (by omega) m1 m2 (by omega)
 refine⟨kept.calm,?_,?_⟩
 ·rcases m3 with z | z
  ·rw[z]
   obtain⟨vs,Kh⟩:=(ha up hu).1
   have:=cE.cons (l:=GV N l up dn p q src) (e:=⟨N,up,-p.1,src⟩) (aMz _ (by simp)) (zJ Kh)
   have e:-p.1+-(a up)=-(a up+p.1):=by omega
   exact⟨_,e▸this⟩
  ·rw[z]
   obtain⟨vs,Kh⟩:=(ha dn hd).1
   have:=cE.cons (l:=GV N l up dn p q src) (e:=⟨N,dn,q.2,src⟩) (aMz _ (by simp)) (zJ Kh)
   have e:q.2+-(a dn)=-(a dn-q.2):=by omega
   exact⟨_,e▸this⟩
 ·rintro w ⟨vs,Kh⟩;have:=kept.path Kh;have this:(if(0:Nat)=N then max (a up+p.1) (a dn-q.2)else a 0)<=(if N=N then max (a up+p.1) (a dn-q.2)else a N)+w:=this
  rw[if_neg (by omega),if_pos rfl]at this
  omega
theorem Mq.most(h:Mq N l up dn p q){f:Nat->Option Int}(hf:∀v,v<N->cP (Way l 0 v) (f v)):
  cP (Way (GV N l up dn p q src) 0 N) (aNv (aNw (f up) (some p.2)) (aNw (f dn) (some (-q.1)))):=by
 have hu:=h.hup;have hd:=h.hdn;have hz:=h.zero;have hp:=h.p1;have hq:=h.q1;have kl:∀e∈l,∀x,f e.from_=some x->∃y,f e.to_=some y/\y<=x+e.most:=by
  intro e he x hx;have hr:=h.inr e he;have h1:=hf e.from_ hr.1;rw[hx]at h1;obtain⟨⟨vs,Kh⟩,_⟩:=h1;have h2:=hf e.to_ hr.2;have h3:Way l 0 e.to_ (x+e.most):=⟨_,Kh.snoc he⟩;cases hy:f e.to_ with
  |none=>rw[hy]at h2;exact absurd h3 (h2 _)
  |some y=>rw[hy]at h2;exact⟨y,rfl,h2.2 _ h3⟩
 obtain⟨e1,g1,g2,g3,g4⟩:=h.e1
 obtain⟨e2,k1,k2,k3,k4⟩:=h.e2
 have c1:=kl e1 g1;have c2:=kl e2 k1;rw[g2,g3,g4]at c1;rw[k2,k3,k4]at c2;generalize hM:aNv (aNw (f up) (some p.2)) (aNw (f dn) (some (-q.1)))=M;have hMc:∀z,M=some z->(∃x,f up=some x/\z=x+p.2)\/∃x,f dn=some x/\z=x+-q.1:=by
  intro z hz2;rw[<-hM]at hz2;rcases EI hz2 with hh|hh
  ·obtain⟨x,y,a1,a2,a3⟩:=Ac hh
   injection a2 with a2;exact .inl ⟨x,a1,by omega⟩
  ·obtain⟨x,y,a1,a2,a3⟩:=Ac hh
   injection a2 with a2;exact .inr ⟨x,a1,by omega⟩
 have hMu:∀x,f up=some x->∃z,M=some z/\z<=x+p.2:=by
  intro x hx;rw[<-hM,hx];cases hy:f dn with
  |none=>exact⟨x+p.2,rfl,aNu _⟩
  |some y=>exact⟨min (x+p.2) (y+-q.1),rfl,Int.min_le_left _ _⟩
 have hMd:∀x,f dn=some x->∃z,M=some z/\z<=x+-q.1:=by
  intro x hx;rw[<-hM,hx];cases hy:f up with
  |none=>exact⟨x+-q.1,rfl,aNu _⟩
  |some y=>exact⟨min (y+p.2) (x+-q.1),rfl,Int.min_le_right _ _⟩
 have kept:∀e∈GV N l up dn p q src,∀x,(if e.from_=N then M else f e.from_)=some x->∃y,(if e.to_=N then M else f e.to_)=some y/\y<=x+e.most:=by
  intro e he x hx;rcases Iz he with he|rfl|rfl|rfl|rfl
  ·have hr:=h.inr e he;rw[if_neg (by omega)]at hx
   rw[if_neg (by omega)]
   exact kl e he x hx
  ·have hx:(if up=N then M else f up)=some x:=hx
   show ∃y,(if N=N then M else f N)=some y/\y<=x+p.2
   rw[if_neg (by omega)]at hx
   rw[if_pos rfl]
   exact hMu x hx
  ·have hx:(if N=N then M else f N)=some x:=hx
   show ∃y,(if up=N then M else f up)=some y/\y<=x+-p.1
   rw[if_pos rfl]at hx
   rw[if_neg (by omega)]
   rcases hMc x hx with⟨z,hz1,hz2⟩|⟨z,hz1,hz2⟩
   ·exact⟨z,hz1,by omega⟩
   ·obtain⟨y,hy1,hy2⟩:=c2 z hz1
    exact⟨y,hy1,by omega⟩
  ·have hx:(if N=N then M else f N)=some x:=hx
   show ∃y,(if dn=N then M else f dn)=some y/\y<=x+q.2
   rw[if_pos rfl]at hx
   rw[if_neg (by omega)]
   rcases hMc x hx with⟨z,hz1,hz2⟩|⟨z,hz1,hz2⟩
   ·obtain⟨y,hy1,hy2⟩:=c1 z hz1
    exact⟨y,hy1,by omega⟩
   ·exact⟨z,hz1,by omega⟩
  ·have hx:(if dn=N then M else f dn)=some x:=hx
   show ∃y,(if N=N then M else f N)=some y/\y<=x+-q.1
   rw[if_neg (by omega)]at hx
   rw[if_pos rfl]
   exact hMd x hx
 have f0:f 0=some 0:=by
  have h1:=hf 0 hz;cases e:f 0 with
  |none=>rw[e]at h1;exact absurd ⟨[],.nil 0⟩ (h1 0)
  | some x=>
   rw[e]at h1
   have h2:=h1.2 0 ⟨[],.nil 0⟩;obtain⟨vs,Kh⟩:=h1.1;have:=h.calm _ _ _ Kh;have:x=0:=by omega
   rw[this]
 have wg:∀w,Way (GV N l up dn p q src) 0 N w->∃y,M=some y/\y<=w:=by
  rintro w ⟨vs,Kh⟩;obtain⟨y,h1,h2⟩:=ZK (h:=λv=>if v=N then M else f v) kept Kh 0 (by show(if(0:Nat)=N then M else f 0)=some 0;rw[if_neg (by omega)];exact f0)
  have h1:(if N=N then M else f N)=some y:=h1
  rw[if_pos rfl]at h1
  exact⟨y,h1,by omega⟩
 cases hMM:M with
 | none=>
  intro w hw;obtain⟨y,h1,_⟩:=wg w hw;rw[hMM]at h1;cases h1
 | some z=>
  refine⟨?_,λw hw=>?_⟩
  ·rcases hMc z hMM with⟨x,h1,h2⟩ | ⟨x,h1,h2⟩
   ·have h3:=hf up hu;rw[h1]at h3;obtain⟨⟨vs,Kh⟩,_⟩:=h3;have:=(zJ (N:=N) (up:=up) (dn:=dn) (p:=p) (q:=q) (src:=src) Kh).snoc (e:=⟨up,N,p.2,src⟩) (aMz _ (by simp))
    exact⟨_,h2▸this⟩
   ·have h3:=hf dn hd;rw[h1]at h3;obtain⟨⟨vs,Kh⟩,_⟩:=h3;have:=(zJ (N:=N) (up:=up) (dn:=dn) (p:=p) (q:=q) (src:=src) Kh).snoc (e:=⟨dn,N,-q.1,src⟩) (aMz _ (by simp))
    exact⟨_,h2▸this⟩
  ·obtain⟨y,h1,h2⟩:=wg w hw
   rw[hMM]at h1
   injection h1 with h1;omega
end
end Vx
namespace Vx
def lay:Itm->Nat
 |.years n=>n
 |.doubts n=>n
 |_=>0
def JZ:Itm->Nat->Itm
 |.years _,h=>.years h
 |.doubts _,h=>.doubts h
 |x,_=>x
def EK:Int->aMO->aMO
 |_,[]=>[]
 |i,x::l=>(if 0<i/\i<=(lay x:Int)then[JZ x i.toNat,.mark [],JZ x (lay x-i.toNat)]else[x])++EK (i-(lay x:Int)) l
def Kt(c:aMO):Nat:=(c.map lay).sum
theorem LM:∀(c:aMO) (i:Int),i<=0->EK i c=c
 |[],_,_=>rfl
 |x::l,i,h=>by rw[EK,if_neg (by omega),LM l _ (by omega)];rfl
theorem iQ:∀(c acc:aMO) (i:Nat),1<=i->(aN0 acc c i=none↔Kt c<i)
 | [],acc,i,h=>by
  unfold aN0 Kt;simp only[aOE,List.sum_nil,true_iff];omega
 | x::l,acc,i,h=>by
  have e:Kt (x::l)=lay x+Kt l:=by unfold Kt;rw[aM2,aOz]
  rw[e]
  cases x with
  | years n=>
   unfold aN0;simp only[lay];by_cases hi:i<=n
   ·rw[if_pos hi];constructor
    ·intro z;cases z
    ·intro z;omega
   ·rw[if_neg hi,iQ l _ (i-n) (by omega)];omega
  | doubts n=>
   unfold aN0;simp only[lay];by_cases hi:i<=n
   ·rw[if_pos hi];constructor
    ·intro z;cases z
    ·intro z;omega
   ·rw[if_neg hi,iQ l _ (i-n) (by omega)];omega
  | gap a b=>
   unfold aN0;simp only[lay];rw[iQ l _ i h];omega
  | mark n=>
   unfold aN0;simp only[lay];rw[iQ l _ i h];omega
def EX:List (Int×Int)->List (Int×Int)->List (Int×Int)
 |[],B=>B
 |[p],q::B=>(p.1+q.1,p.2+q.2)::B
 |[p],[]=>[p]
 |a::b::A,B=>a::EX (b::A) B
def zj(c:aMO):∀lo hi,cV lo hi c≠[]:=by
 induction c with
 |nil=>intro lo hi;exact aOm _ _
 | cons x c ih=>
  intro lo hi;cases x with
  |mark n=>exact aOm _ _
  |years n=>exact ih _ _
  |doubts n=>exact ih _ _
  |gap a b=>exact ih _ _
def L8{a:Int×Int}{A B:List (Int×Int)}(h:A≠[]):EX (a::A) B=a::EX A B:=by
 cases A with
 |nil=>exact absurd rfl h
 |cons b A=>rfl
theorem Fc:∀(c:aMO) (a b x y:Int),cV (a+x) (b+y) c=EX [(a,b)] (cV x y c)
 |[],a,b,x,y=>rfl
 | i::c,a,b,x,y=>by
  have go:∀u v:Int,cV (a+x+u) (b+y+v) c=EX [(a,b)] (cV (x+u) (y+v) c):=λu v=>by
   rw[<-Fc c a b (x+u) (y+v),aOq,aOq]
  cases i with
  | mark n=>
   show(a+x+_,b+y+_)::cV 0 0 c=(a+(x+_),b+(y+_))::cV 0 0 c
   rw[aOq,aOq]
  |years n=>exact go _ _
  |doubts n=>exact go _ _
  |gap m k=>exact go _ _
def rz(u z:aMO)(m:aMV):∀lo hi,cV lo hi (u++.mark m::z)=cV lo hi u++cV 0 0 z:=by
 induction u with
 | nil=>
  intro lo hi;show(lo+0,hi+0)::cV 0 0 z=[(lo,hi)]++cV 0 0 z;rw[aOY,aOY];rfl
 | cons x u ih=>
  intro lo hi;cases x with
  |mark n=>show _::cV 0 0 (u++.mark m::z)=_::(cV 0 0 u++_);rw[ih]
  |years n=>exact ih _ _
  |doubts n=>exact ih _ _
  |gap a b=>exact ih _ _
def Yv(x:Itm):Prop:=(aM7 x).1<=(aM7 x).2
structure Kv(c:aMO)(i:Int)(u y:aMO):Prop where
 cut:∃z,EK i c=u++.mark []::z/\(∀lo hi,cV lo hi z=cV lo hi y)/\aMD z=aMD y/\z.length<=c.length
 names:aMD c=aMD u++aMD y
 mh:∀lo hi,cV lo hi c=EX (cV lo hi u) (cV 0 0 y)
 ok:(∀x∈c,Yv x)->(∀x∈u,Yv x)/\∀x∈y,Yv x
 len:u.length<=c.length
def F9(x:Itm)(c:aMO):aMD (x::c)=aMD [x]++aMD c:=by
 unfold aMD;rw[aNy,aNy,aQk];cases x<;>rfl
def Kv.step{x:Itm}{c:aMO}{i:Int}{u y:aMO}(h:Kv c (i-(lay x:Int)) u y)(hn:¬(0<i/\i<=(lay x:Int))):Kv (x::c) i (x::u) y:=by
 obtain⟨z,h1,h2,h3,h4⟩:=h.cut
 refine⟨⟨z,by rw[EK,if_neg hn,h1];rfl,h2,h3,by rw[aMT];omega⟩,?_,?_,?_,by rw[aMT,aMT];exact Nat.succ_le_succ h.len⟩
 ·rw[F9 x c,F9 x u,h.names,aMb]
 ·intro lo hi;cases x with
  | mark n=>
   show _::cV 0 0 c=EX (_::cV 0 0 u) _;rw[L8 (zj u 0 0),h.mh]
  |years n=>exact h.mh _ _
  |doubts n=>exact h.mh _ _
  |gap a b=>exact h.mh _ _
 ·intro hc;obtain⟨g1,g2⟩:=h.ok λz hz=>hc z (aMM _ hz);refine⟨λz hz=>?_,g2⟩;rcases aMR.1 hz with rfl|hz
  ·exact hc _ aMN
  ·exact g1 z hz
def Wg{k:Itm}(hk:k=.years 0\/k=.doubts 0)(l:aMO):(∀lo hi,cV lo hi (k::l)=cV lo hi l)/\aMD (k::l)=aMD l:=by
 rcases hk with rfl|rfl
 ·exact⟨λlo hi=>by show cV (lo+0) (hi+0) l=_;rw[aOY,aOY],rfl⟩
 ·exact⟨λlo hi=>by show cV (lo+0) (hi+0) l=_;rw[aOY,aOY],rfl⟩
theorem Wv:∀(c acc:aMO) (i:Nat) (x y:aMO),1<=i->aN0 acc c i=some (x,y)->∃u,x=acc++u/\Kv c (i:Int) u y
 |[],acc,i,x,y,hi,h=>by cases h
 | a::l,acc,i,x,y,hi,h=>by
  have more:∀(j:Nat),aN0 (acc++[a]) l j=some (x,y)->1<=j->((j:Nat):Int)=(i:Int)-(lay a:Int)->¬((0:Int)<(i:Int)/\(i:Int)<=(lay a:Int))->∃u,x=acc++u/\Kv (a::l) (i:Int) u y:=by
   intro j hj h1 e hn;obtain⟨u,hu,hc⟩:=Wv l (acc++[a]) j x y h1 hj;rw[e]at hc;exact⟨a::u,by rw[hu,aMb];rfl,hc.step hn⟩
  cases a with
  | years n=>
   unfold aN0 at h;simp only at h;by_cases rG:i<=n
   ·rw[if_pos rG]at h
    injection h with h;injection h with h1 h2;refine⟨[.years i],h1.symm,?_⟩;have ec:EK (i:Int) (.years n::l)=[.years i,.mark [],.years (n-i)]++l:=by
     rw[EK,if_pos ⟨by omega,by show(i:Int)<=(n:Int);omega⟩,LM l _ (by show(i:Int)-(n:Int)<=0;omega)];rfl
    have hz:(∀lo hi,cV lo hi (.years (n-i)::l)=cV lo hi y)/\aMD (.years (n-i)::l)=aMD y:=by
     rw[<-h2]
     by_cases e:i=n
     ·rw[if_pos e,e,aNr];exact Wg (.inl rfl) l
     ·rw[if_neg e];exact⟨λ_ _=>rfl,rfl⟩
    refine⟨⟨.years (n-i)::l,ec,hz.1,hz.2,by simp⟩,?_,?_,?_,by simp⟩
    ·rw[<-hz.2];rfl
    ·intro lo hi;rw[<-hz.1 0 0];show cV (lo+(n:Int)) (hi+(n:Int)) l=EX [(lo+(i:Int),hi+(i:Int))] (cV (0+((n-i:Nat):Int)) (0+((n-i:Nat):Int)) l);rw[<-Fc];congr 1<;>omega
    ·intro hc;refine⟨λz hz=>?_,λz hz=>?_⟩
     ·have:z=.years i:=by simpa using hz
      rw[this];exact aMG _
     ·rw[<-h2]at hz
      rcases aMX.1 hz with hz|hz
      ·by_cases e:i=n
       ·rw[if_pos e]at hz;cases hz
       ·rw[if_neg e]at hz
        have:z=.years (n-i):=by simpa using hz
        rw[this];exact aMG _
      ·exact hc z (aMM _ hz)
   ·rw[if_neg rG]at h
    exact more (i-n) h (by omega) (by show((i-n:Nat):Int)=(i:Int)-(n:Int);omega) (by show¬((0:Int)<(i:Int)/\(i:Int)<=(n:Int));omega)
  | doubts n=>
   unfold aN0 at h;simp only at h;by_cases rG:i<=n
   ·rw[if_pos rG]at h
    injection h with h;injection h with h1 h2;refine⟨[.doubts i],h1.symm,?_⟩;have ec:EK (i:Int) (.doubts n::l)=[.doubts i,.mark [],.doubts (n-i)]++l:=by
     rw[EK,if_pos ⟨by omega,by show(i:Int)<=(n:Int);omega⟩,LM l _ (by show(i:Int)-(n:Int)<=0;omega)];rfl
    have hz:(∀lo hi,cV lo hi (.doubts (n-i)::l)=cV lo hi y)/\aMD (.doubts (n-i)::l)=aMD y:=by
     rw[<-h2]
     by_cases e:i=n
     ·rw[if_pos e,e,aNr];exact Wg (.inr rfl) l
     ·rw[if_neg e];exact⟨λ_ _=>rfl,rfl⟩
    refine⟨⟨.doubts (n-i)::l,ec,hz.1,hz.2,by simp⟩,?_,?_,?_,by simp⟩
    ·rw[<-hz.2];rfl
    ·intro lo hi;rw[<-hz.1 0 0];show cV (lo+0) (hi+(n:Int)) l=EX [(lo+0,hi+(i:Int))] (cV (0+0) (0+((n-i:Nat):Int)) l);rw[<-Fc];congr 1<;>omega
    ·intro hc;refine⟨λz hz=>?_,λz hz=>?_⟩
     ·have:z=.doubts i:=by simpa using hz
      rw[this];exact aM1 _
     ·rw[<-h2]at hz
      rcases aMX.1 hz with hz|hz
      ·by_cases e:i=n
       ·rw[if_pos e]at hz;cases hz
       ·rw[if_neg e]at hz
        have:z=.doubts (n-i):=by simpa using hz
        rw[this];exact aM1 _
      ·exact hc z (aMM _ hz)
   ·rw[if_neg rG]at h
    exact more (i-n) h (by omega) (by show((i-n:Nat):Int)=(i:Int)-(n:Int);omega) (by show¬((0:Int)<(i:Int)/\(i:Int)<=(n:Int));omega)
  | gap b k=>
   unfold aN0 at h;exact more i h hi (by show(i:Int)=(i:Int)-0;omega) (by show¬((0:Int)<(i:Int)/\(i:Int)<=0);omega)
  | mark n=>
   unfold aN0 at h;exact more i h hi (by show(i:Int)=(i:Int)-0;omega) (by show¬((0:Int)<(i:Int)/\(i:Int)<=0);omega)
end Vx
namespace Vx
def yn(A':List (Int×Int))(p q:Int×Int)(B':List (Int×Int)):EX (A'++[p]) (q::B')=A'++(p.1+q.1,p.2+q.2)::B':=by
 induction A' with
 |nil=>rfl
 |cons a A' ih=>rw[aO3,L8 (by simp),ih];rfl
theorem az(src:Nat):∀(st:List (Int×Int)) (w6:List Nat) (k i j:Nat) (p:Int×Int),st[k]?=some p->w6[k]?=some i->w6[k+1]?=some j->(⟨i,j,p.2,src⟩:bO)∈vM src w6 st/\(⟨j,i,-p.1,src⟩:bO)∈vM src w6 st
 |[],_,_,_,_,_,h,_,_=>by simp at h
 |q::st,[],_,_,_,_,_,h,_=>by simp at h
 |q::st,[a],_,_,_,_,_,_,h=>by simp at h
 | (lo,hi)::st,a::b::w6,0,i,j,p,h1,h2,h3=>by
  simp at h1 h2 h3
  subst h1 h2 h3;simp[vM]
 | (lo,hi)::st,a::b::w6,k+1,i,j,p,h1,h2,h3=>by
  have ih:=az src st (b::w6) k i j p (by simpa using h1) (by simpa using h2) (by simpa using h3)
  simp only[vM,aMR]
  exact⟨.inr (.inr ih.1),.inr (.inr ih.2)⟩
def Ei{s:aMA}{c:Nat}(hc:c<4){e:bO}(h:e∈aMp s c):e∈aMJ s:=by
 rw[zH]
 exact aMz _ (aN3 _ (aNR.2 ⟨c,aMh.2 hc,h⟩))
def Kr(s:aMA)(c:Nat)(u:aMO):Nat:=match Vbexal.lastMark u with
 |some n=>aMQ s n
 |none=>aOQ s c
def KP(s:aMA)(c:Nat)(y:aMO):Nat:=match(aMu [] y).1 with
 |[]=>aPM s c
 |x::_=>aMQ s x.2
def GW(u:aMO):Int×Int:=qW (aMu [] u).2
def EL(y:aMO):Int×Int:=match(aMu [] y).1 with
 |[]=>qW (aMu [] y).2
 |x::_=>qW x.1
def XO(u:aMO):∃A',cV 0 0 u=A'++[GW u]/\A'.length=(aMD u).length:=by
 refine⟨((aMu [] u).1.map (·.1)).map qW,?_,?_⟩
 ·rw[j8]
  unfold pieces;rw[aMU];rfl
 ·have:=CO u
  rw[j8]at this
  unfold pieces at this;rw[aMU,aMH]at this;simpa using this
def XW(y:aMO):∃B',cV 0 0 y=EL y::B':=by
 rw[j8]
 unfold pieces EL;cases(aMu [] y).1 with
 |nil=>exact⟨[],rfl⟩
 |cons x l=>exact⟨_,rfl⟩
def qg(s:aMA)(c:Nat){core u y:aMO}(h:aMD core=aMD u++aMD y):(qX s c core)[(aMD u).length]?=some (Kr s c u):=by
 unfold qX Kr Vbexal.lastMark;rw[h];cases e:(aMD u).getLast? with
 | none=>
  rw[aPN]at e
  rw[e];rfl
 | some n=>
  obtain⟨m,hm⟩:∃m,(aMD u).length=m+1:=by
   cases hl:(aMD u).length with
   |zero=>rw[aNU.1 hl]at e;cases e
   |succ m=>exact⟨m,rfl⟩
  rw[aPO,hm]at e
  have e:(aMD u)[m]?=some n:=by simpa using e
  rw[hm,aQM,aOZ (by rw[aLx,aMH];omega),aM4,aOZ (by omega),e]
  rfl
def pd(s:aMA)(c:Nat){core u y:aMO}(h:aMD core=aMD u++aMD y):(qX s c core)[(aMD u).length+1]?=some (KP s c y):=by
 have hy:=eG y [];unfold qX KP;rw[h,aQM];cases e:(aMu [] y).1 with
 | nil=>
  rw[e]at hy
  have hy:aMD y=[]:=by simpa using hy.symm
  rw[hy,aMc,aOL (by rw[aLx];exact aMG _),aLx,aNr]
  rfl
 | cons x l=>
  rw[e]at hy
  have hy:aMD y=x.2::l.map (·.2):=by simpa using hy.symm
  rw[hy,aOZ (by simp),aM4,aOL (aMG _),aNr]
  rfl
theorem Dj:∀(c:aMO) (lo hi:Int),(∀x∈c,Yv x)->lo<=hi->0<=lo->∀p∈cV lo hi c,p.1<=p.2/\0<=p.1
 | [],lo,hi,_,h,h0,p,hp=>by
  have:p=(lo,hi):=by simpa[cV]using hp
  rw[this];exact⟨h,h0⟩
 | x::c,lo,hi,hx,h,h0,p,hp=>by
  have hs:Yv x:=hx x aMN;unfold Yv at hs;have hx':=λz hz=>hx z (aMM _ hz);have h1:lo+((aM7 x).1:Int)<=hi+((aM7 x).2:Int):=by omega
  have h2:0<=lo+((aM7 x).1:Int):=by omega
  cases x with
  | mark n=>
   rcases aMR.1 (show p∈(lo+((aM7 (.mark n)).1:Int),hi+((aM7 (.mark n)).2:Int))::cV 0 0 c from hp)with rfl|hp
   ·exact⟨h1,h2⟩
   ·exact Dj c 0 0 hx' (aNu _) (aNu _) p hp
  |years n=>exact Dj c _ _ hx' h1 h2 p hp
  |doubts n=>exact Dj c _ _ hx' h1 h2 p hp
  |gap a b=>exact Dj c _ _ hx' h1 h2 p hp
def zb{x:Itm}(h:mN x):Yv x:=by
 cases x with
 |years n=>exact aMG _
 |doubts n=>exact aM1 _
 |gap a b=>exact h.1
 |mark n=>exact aMG _
def yt{s:aMA}(hw:Wf s){c:Nat}(hc:c<4){pl:aMx}(hp:aMf s c=some pl)(vL:pl.on=true){i:Int}{u y:aMO}(GP:Kv pl.core i u y)(fM:kT (aMJ s)):
  Mq (aMB s) (aMJ s) (Kr s c u) (KP s c y) (GW u) (EL y):=by
 obtain⟨A',hA,hAl⟩:=XO u
 obtain⟨B',hB⟩:=XW y
 have hs:(cV 0 0 pl.core)[(aMD u).length]?=some ((GW u).1+(EL y).1,(GW u).2+(EL y).2):=by
  rw[GP.mh 0 0,hA,hB,yn,<-hAl,aOL (aMG _),aNr];rfl
 have hz:=az (100+c) (cV 0 0 pl.core) (qX s c pl.core) _ _ _ _ hs (qg s c GP.names) (pd s c GP.names);rw[<-gT hp vL]at hz;have m1:=Ei hc hz.1;have m2:=Ei hc hz.2;have r1:=bP s _ m1;have eI:=GP.ok λx hx=>zb ((hw.cores pl (fV hp)).items x hx);have kp:=Dj u 0 0 eI.1 (aNu _) (aNu _) (GW u) (by rw[hA];simp)
 have kq:=Dj y 0 0 eI.2 (aNu _) (aNu _) (EL y) (by rw[hB];simp)
 exact⟨bP s,(lL s).toW,fM,r1.1,r1.2,by rw[cK];omega,⟨_,m1,rfl,rfl,rfl⟩,⟨_,m2,rfl,rfl,rfl⟩,kp.2,kp.1,kq.1⟩
def X4(s:aMA)(t:List aMt)(c:Nat)(u y:aMO):aPP s t c u y=(max (aMq t (Kr s c u)+(GW u).1) (aMq t (KP s c y)-(EL y).2),aNv (aNw (aND t (Kr s c u)) (some (GW u).2)) (aNw (aND t (KP s c y)) (some (-(EL y).1)))):=by
 unfold aPP KP EL;cases e:(aMu [] y).1 with
 |nil=>simp only[e];rfl
 |cons x l=>simp only[e];rfl
end Vx
end
namespace Vx
open PySem PySem.Spec PyProof.Rows L2
def iU:Itm->Int
 |.years _=>0
 |.doubts _=>1
 |.gap _ _=>2
 |.mark _=>3
def nameOf:Itm->aMV
 |.mark n=>n
 |_=>[]
def mL(H:Hp)(a:Addr)(t:aMV):Prop:=H a=some (.tup ((aLz t).map V.int))
def itemF(x:Itm)(na:Addr)(b:Nat):List (Str×V):=
 [("kind",.int (iU x)),("least",.int ((aM7 x).1:Int)),("most",.int ((aM7 x).2:Int)),("name",.ref na),("behind",.int (b:Int))]
def jD(C:Addr)(H:Hp)(a:Addr)(x:Itm)(b:Nat):Prop:=∃dx na,H a=some (.ins C dx (itemF x na b))/\mL H na (nameOf x)
def jD.same{C:Addr}{H H':Hp}{a:Addr}{x:Itm}{b:Nat}(h:jD C H a x b)(s:aV H H'):jD C H' a x b:=by
 obtain⟨dx,na,h1,h2⟩:=h
 exact⟨dx,na,s _ _ h1,s _ _ h2⟩
def dY(x:Itm)(na:Addr)(b:Nat):(itemF x na b).lookup ("kind":Str)=some (.int (iU x)):=rfl
def Cq(x:Itm)(na:Addr)(b:Nat):(itemF x na b).lookup ("least":Str)=some (.int ((aM7 x).1:Int)):=rfl
def lM(x:Itm)(na:Addr)(b:Nat):(itemF x na b).lookup ("most":Str)=some (.int ((aM7 x).2:Int)):=rfl
def uR(x:Itm)(na:Addr)(b:Nat):(itemF x na b).lookup ("name":Str)=some (.ref na):=rfl
def mS(x:Itm)(na:Addr)(b:Nat):(itemF x na b).lookup ("behind":Str)=some (.int (b:Int)):=rfl
abbrev IL(K:aMC)(H:Hp)(a:Addr)(ns:List Int):Prop:=aZ K H a (ns.map V.int)
def ISq(K:aMC)(H:Hp)(a:Addr)(ns:List Int):Prop:=aZ K H a (ns.map V.int)\/eE K H a (ns.map V.int)
def Yw{ns:List Int}{i:Nat}{x:Int}(h:ns[i]?=some x):(ns.map V.int)[i]?=some (V.int x):=by rw[aM4,h];rfl
def Kl{ns:List Int}{i:Nat}{y:V}(h:(ns.map V.int)[i]?=some y):∃x,ns[i]?=some x/\y=V.int x:=by
 rw[aM4]at h
 cases e:ns[i]? with
 |none=>rw[e]at h;cases h
 |some x=>rw[e]at h;exact⟨x,rfl,(aP6 h).symm⟩
theorem JY{α β:Type}{F:α->β->Prop}:∀{l:List α} {m:List β} {i:Nat} {b:β},Paired F l m->m[i]?=some b->∃a,l[i]?=some a/\F a b
 |_,_,_,_,.nil,e=>by simp at e
 |_,_,0,_,.cons r _,e=>by simp at e;subst e;exact⟨_,rfl,r⟩
 | _,_,i+1,b,.cons _ t,e=>by
  obtain⟨a,h1,h2⟩:=JY (i:=i) (b:=b) t (by simpa using e)
  exact⟨a,by simpa using h1,h2⟩
theorem dU{α β:Type}{F:α->β->Prop}:∀{l:List α} {m:List β} {i:Nat} {a:α},Paired F l m->l[i]?=some a->∃b,m[i]?=some b/\F a b
 |_,_,_,_,.nil,e=>by simp at e
 |_,_,0,_,.cons r _,e=>by simp at e;subst e;exact⟨_,rfl,r⟩
 | _,_,i+1,b,.cons _ t,e=>by
  obtain⟨a,h1,h2⟩:=dU (i:=i) (a:=b) t (by simpa using e)
  exact⟨a,by simpa using h1,h2⟩
theorem dZ{α β:Type}{F G:α->β->Prop}(f:∀a b,F a b->G a b):∀{l:List α} {m:List β},Paired F l m->Paired G l m
 |_,_,.nil=>.nil
 |_,_,.cons r t=>.cons (f _ _ r) (dZ f t)
theorem eK{α β:Type}{F:α->β->Prop}{a:α}{b:β}(r:F a b):∀{l:List α} {m:List β},Paired F l m->Paired F (l++[a]) (m++[b])
 |_,_,.nil=>.cons r .nil
 |_,_,.cons q t=>.cons q (eK r t)
def bG{α β:Type}{F:α->β->Prop}{l:List α}{m:List β}(h:Paired F l m):l.length=m.length:=aPo h
def bI{H H':Hp}{D:Addr}{o:HO}(s:aV H H')(hn:H D=aP4):aV H (upd H' D o):=λb u e=>by rw[aT (aJ e hn)];exact s b u e
def JW(D:Addr)(H H':Hp):Prop:=∀b o,H b=some o->b≠D->H' b=some o
def cD{H:Hp}{D:Addr}{o:HO}:JW D H (upd H D o):=λb u e n=>by rw[aT n];exact e
def mL.but{H H':Hp}{D a:Addr}{t:aMV}{xs:List V}(h:mL H a t)(hD:H D=some (.lst xs))(k:JW D H H'):mL H' a t:=k _ _ h (c7 h hD (by intro z;cases z))
theorem jD.but{C:Addr}{H H':Hp}{D a:Addr}{x:Itm}{b:Nat}{xs:List V}(h:jD C H a x b)(hD:H D=some (.lst xs))(k:JW D H H'):jD C H' a x b:=by
 obtain⟨dx,na,h1,h2⟩:=h
 exact⟨dx,na,k _ _ h1 (c7 h1 hD (by intro z;cases z)),mL.but h2 hD k⟩
def aS.same{H H':Hp}{xs:List V}{iT:List (List Int)}(h:aS H xs iT)(s:aV H H'):aS H' xs iT:=dZ (λ_ _ ⟨a,e,h⟩=>⟨a,e,s _ _ h⟩) h
def aS.but{H H':Hp}{D:Addr}{xs ys:List V}{iT:List (List Int)}(h:aS H xs iT)(hD:H D=some (.lst ys))(k:JW D H H'):aS H' xs iT:=
 dZ (λ_ _ ⟨a,e,h⟩=>⟨a,e,k _ _ h (c7 h hD (by intro z;cases z))⟩) h
def mR(C:Addr)(H:Hp)(as:List Addr)(q:List (Itm×Nat)):Prop:=Paired (λa xb=>jD C H a xb.1 xb.2) as q
theorem mR.same{C:Addr}{H H':Hp}{as:List Addr}{q:List (Itm×Nat)}(h:mR C H as q)(s:aV H H'):mR C H' as q:=dZ (λ_ _ h=>h.same s) h
theorem mR.but{C:Addr}{H H':Hp}{D:Addr}{as:List Addr}{q:List (Itm×Nat)}{ys:List V}(h:mR C H as q)(hD:H D=some (.lst ys))(k:JW D H H'):mR C H' as q:=dZ (λ_ _ h=>h.but hD k) h
def c6(C:Addr)(H:Hp)(l:Addr)(q:List (Itm×Nat)):Prop:=∃as:List Addr,H l=some (.lst (as.map V.ref))/\mR C H as q
theorem c6.same{C:Addr}{H H':Hp}{l:Addr}{q:List (Itm×Nat)}(h:c6 C H l q)(s:aV H H'):c6 C H' l q:=by
 obtain⟨as,h1,h2⟩:=h
 exact⟨as,s _ _ h1,h2.same s⟩
def iK{as:List Addr}{i:Nat}{y:V}(h:(as.map V.ref)[i]?=some y):∃a,as[i]?=some a/\y=V.ref a:=by
 rw[aM4]at h
 cases e:as[i]? with
 |none=>rw[e]at h;cases h
 |some x=>rw[e]at h;exact⟨x,rfl,(aP6 h).symm⟩
def Yp{as:List Addr}{i:Nat}{a:Addr}(h:as[i]?=some a):(as.map V.ref)[i]?=some (V.ref a):=by rw[aM4,h];rfl
def zE(q:List (Itm×Nat)):List (List Int):=(aMD (q.map (·.1))).map aLz
def Aa(q:List (Itm×Nat))(x:Itm)(b:Nat):zE (q++[(x,b)])=zE q++(aMD [x]).map aLz:=by
 unfold zE;rw[aMU,aM2,aOE,uQ,aMU]
def oN{x:Itm}(h:iU x=3):∃n,x=.mark n:=by
 cases x with
 |mark n=>exact⟨n,rfl⟩
 |years m=>exact absurd h (by show¬(0:Int)=3;decide)
 |doubts m=>exact absurd h (by show¬(1:Int)=3;decide)
 |gap m k=>exact absurd h (by show¬(2:Int)=3;decide)
def HG{x:Itm}(h:iU x≠3):aMD [x]=[]:=by
 cases x with
 |mark n=>exact absurd rfl h
 |years m=>rfl
 |doubts m=>rfl
 |gap m k=>rfl
def WV{σ:L2.St}{H:Hp}{F G:Hp->Prop}(h:F H):aEN σ H (λb H3=>if b=true then F H3 else G H3):=by
 show if true=true then F H else G H
 rw[if_pos rfl]
 exact h
def vEq{a b:Int}(h:decide (V.int a=V.int b)=true):a=b:=by
 have h:=of_decide_eq_true h;injection h
def GS{a b:Int}(h:¬decide (V.int a=V.int b)=true):a≠b:=λe=>h (decide_eq_true (by rw[e]))
def Yr{a b:Int}(h:(!decide (V.int a=V.int b))=true):a≠b:=λe=>by
 rw[decide_eq_true (show V.int a=V.int b by rw[e])]at h
 cases h
def Yt{a b:Int}(h:¬(!decide (V.int a=V.int b))=true):a=b:=by
 by_cases e:a=b
 ·exact e
 ·exact absurd (show(!decide (V.int a=V.int b))=true by rw[decide_eq_false (show¬V.int a=V.int b from λq=>e (by injection q))];rfl) h
def dT{p:Prop}[Decidable p](h:decide p=true):p:=of_decide_eq_true h
def dF{p:Prop}[Decidable p](h:¬decide p=true):¬p:=λq=>h (decide_eq_true q)
def G7(ns:List Int)(s e:Nat):oE (ns.map V.int) (some (s:Int)) (some (e:Int))=((ns.take e).drop s).map V.int:=by
 unfold oE;have h1:HT.Ml (ns.map V.int).length 0 (some (s:Int))=min s ns.length:=by
  unfold HT.Ml;simp only[aLx];split<;>omega
 have h2:HT.Ml (ns.map V.int).length (ns.map V.int).length (some (e:Int))=min e ns.length:=by
  unfold HT.Ml;simp only[aLx];split<;>omega
 rw[h1,h2,aON,List.map_take,List.map_drop]
 by_cases hs:s<=ns.length
 ·rw[aPY hs]
  by_cases he:e<=ns.length
  ·rw[aPY he]
  ·rw[aPZ (by omega)]
   rw[aOn (by simp),aOn (by simp;omega)]
 ·have e1:min s ns.length=ns.length:=aPZ (by omega)
  have e2:(ns.map V.int).drop ns.length=[]:=aPB (by simp)
  have e3:(ns.map V.int).drop s=[]:=aPB (by rw[aLx];omega)
  rw[e1,e2,e3,aP0,aP0]
theorem l9:∀{l:List Int},eQ l->aLz (aLy l)=l
 |[],_=>rfl
 | a::l,h=>by
  have ha:=h a aMN;show((a.toNat:Int)::aLz (aLy l))=a::l;rw[l9 h.tail];congr 1;omega
theorem EB:∀(t:aMV),aLy (aLz t)=t
 |[]=>rfl
 | a::l=>by
  show((a:Int).toNat::aLy (aLz l))=a::l
  rw[EB l]
  rfl
def Gq{a b:aMV}(h:aLz a=aLz b):a=b:=by
 rw[<-EB a,h,EB]
def aE{H:Hp}{p:Addr}{o:HO}(hp:H p=aP4):aV H (upd H p o):=λb u e=>by rw[aT (aJ e hp)];exact e
inductive bu(vs:List V)(H:Hp)(Q:VK)(E:XK):Prop
 |mk:∀n:Int,vs=[.int n]->Q (.bl (isLet n)) H->bu vs H Q E
def Hd(T:Txt K mg A):bQ P w K mg base eV 1 A.Cp A.DK ["number"] bu:=by
 refine T.wG.ok QG (λvs H Q E h=>?_) (λd3 A' outer s H vs Q E hr h=>?_)
 ·obtain⟨n,rfl,_⟩:=h;rfl
 ·obtain⟨n,rfl,k⟩:=h
  refine⟨_,(aF (aI (Gn JX JX aG (pv 0) aG))),?_⟩
  refine⟨_,rfl,_,_,rfl,rfl,_,rfl,?_⟩
  unfold isLet at k;refine cA (λh1=>?_) (λh1=>?_)
  ·refine⟨_,_,rfl,rfl,?_⟩
   rw[h1,aNJ]at k
   exact k
  ·rw[aNb]at h1
   rw[h1,aNO]at k
   exact k
inductive fe(vs:List V)(H:Hp)(Q:VK)(E:XK):Prop
 |mk:∀n:Int,vs=[.int n]->Q (.bl (cM n)) H->fe vs H Q E
def J7(T:Txt K mg A):bQ P w K mg base eV 1 A.Ft A.F6 ["number"] fe:=by
 refine T.Ae.ok X9 (λvs H Q E h=>?_) (λd3 A' outer s H vs Q E hr h=>?_)
 ·obtain⟨n,rfl,_⟩:=h;rfl
 ·obtain⟨n,rfl,k⟩:=h
  refine⟨_,(aF (aI (Gn JX JX aG (pv 0) aG))),?_⟩
  refine⟨_,rfl,_,_,rfl,rfl,_,rfl,?_⟩
  unfold cM at k;refine cA (λh1=>?_) (λh1=>?_)
  ·refine⟨_,_,rfl,rfl,?_⟩
   rw[h1,aNJ]at k
   exact k
  ·rw[aNb]at h1
   rw[h1,aNO]at k
   exact k
inductive LQ(K:aMC)(vs:List V)(H:Hp)(Q:VK)(E:XK):Prop
 |mk:∀(a:Addr) (ns:List Int),vs=[.ref a]->ISq K H a ns->Q (.bl (isNm ns)) H->LQ K vs H Q E
def A7(T:Txt K mg A):bQ P w K mg base eV 2 A.IX A.Iv ["row"] (LQ K):=by
 refine T.t6.ok Lg (λvs H Q E h=>?_) (λd3 A' outer s H vs Q E hr h=>?_)
 ·obtain⟨a,ns,rfl,_⟩:=h;rfl
 ·obtain⟨a,ns,rfl,hS,k⟩:=h
  have hl:(ns.map V.int).length=ns.length:=aLx _;refine⟨_,(aC (bE (PW.pt (jR (aL eW (bJ aW (by rfl) T.eX c8 (aA (pv 0) aD)) aG (aP _)) (jR (aL iG (bJ aW (by rfl) T.eX c8 (aA (pv 0) aD)) (aM rfl T.MU) (aP _)) (gX (fG (dC (cF T.wG (Hd T) hr T.J2 (Jv T) (aA (Ky aBm (pv 0) aG (λ_ _=>rfl)) aD)))))))) (aF (aI jQ)) aN)
   (aC (cT aP5 rfl (PI.or (cI (pv 0)) (og (pv 0))) (jN 1 Lg.nd) (aF (bE (PW.pt (w9 (fG (dC (cF T.wG (Hd T) hr T.J2 (Jv T) (aA (pv 1) aD)))) (sY (fG (dC (cF T.Ae (J7 T) hr T.Li (Ls T) (aA (pv 1) aD))))))) (aF (aI jQ)) aN)))
   (aF (aI jQ)))),?_⟩
  refine⟨_,rfl,a,_,rfl,hS,rfl,_,rfl,?_⟩
  refine cA (λh1=>bW ?_) (λh1=>?_)
  ·have e:isNm ns=false:=by unfold isNm;rw[if_pos];left;have:=vEq h1;omega
   rw[e]at k;exact k
  have n0:=GS h1;refine⟨_,rfl,a,_,rfl,hS,_,_,rfl,rfl,_,rfl,?_⟩;refine cA (λh2=>bW ?_) (λh2=>?_)
  ·have e:isNm ns=false:=by unfold isNm;rw[if_pos];right;left;have:=dT h2;omega
   rw[e]at k;exact k
  have n6:=dF h2;have hg:ns[0]?=some (ns.getD 0 0):=by
   rw[aMW,aMK (by omega:0<ns.length)];rfl
  have EJ:FR (ns.map V.int) 0=some (V.int (ns.getD 0 0)):=dS (j:=0) (Yw hg);have go:∀R:VK,R (.int (ns.getD 0 0)) H->rIx K (.ref a) (.int 0) H R:=by
   intro R r;rcases hS with hS|hS
   ·exact .inl ⟨a,_,0,_,rfl,rfl,hS,EJ,r⟩
   ·exact .inr (.inl ⟨a,_,0,_,rfl,rfl,hS,EJ,r⟩)
  refine⟨_,rfl,go _ ⟨_,rfl,_,rfl,?_⟩⟩
  cases hb:isLet (ns.getD 0 0)with
  | false=>
   refine bW ?_;have e:isNm ns=false:=by unfold isNm;rw[if_pos];right;right;exact hb
   rw[e]at k;exact k
  | true=>
   refine cG ?_;have ek:isNm ns=ns.all λn=>isLet n||cM n:=by
    unfold isNm;rw[if_neg];rintro(q|q|q)
    ·omega
    ·omega
    ·rw[hb]at q;cases q
   rw[ek]at k
   have hS0:=hS;rcases hS with hS|hS
   ·refine .inl ⟨_,rfl,a,rfl,⟨_,hS⟩,cW (K:=K) (a:=a) (xs:=ns.map V.int) (λi σ H'=>∃v:Option V,σ=[some (.ref a),v]/\H'=H/\∀j y,j<i->ns[j]?=some y->(isLet y||cM y)=true) ?_ ?_ ?_ ?_⟩
    ·exact⟨none,rfl,rfl,λj y hj=>by omega⟩
    ·exact λi σ H' _ ⟨_,_,e,_⟩=>by rw[e];exact hS
    ·rintro i x σ H' hi ⟨v,rfl,rfl,iS⟩;obtain⟨z,hz,rfl⟩:=Kl hi;have Zt:(isLet z||cM z)=false->Q (.bl false) H':=by
      intro q;have e:(ns.all λn=>isLet n||cM n)=false:=by
       rw[<-aNb,aNB]
       intro q2;rw[q2 z (aMZ hz)]at q;cases q
      rw[e]at k;exact k
     have wa:(isLet z||cM z)=true->∀j y,j<i+1->ns[j]?=some y->(isLet y||cM y)=true:=by
      intro q j y hj hy;by_cases hji:j=i
      ·subst hji;rw[hz]at hy;injection hy with hy;rw[<-hy];exact q
      ·exact iS j y (by omega) hy
     refine⟨_,rfl,z,rfl,_,rfl,?_⟩
     cases hL:isLet z with
     |true=>exact cG (cG ⟨_,rfl,rfl,wa (by rw[hL];rfl)⟩)
     | false=>
      refine bW ⟨_,rfl,z,rfl,_,rfl,?_⟩;cases hD:cM z with
      |true=>exact cG ⟨_,rfl,rfl,wa (by rw[hL,hD];rfl)⟩
      |false=>exact bW (Zt (by rw[hL,hD];rfl))
    ·rintro σ H' ⟨v,rfl,rfl,iS⟩;have e:(ns.all λn=>isLet n||cM n)=true:=by
      rw[aNB]
      intro y hy;obtain⟨j,hj,Md⟩:=aNa hy;exact iS j y (by rw[hl];exact hj) (by rw[aMK hj,Md])
     rw[e]at k
     exact k
   ·refine .inr ⟨_,rfl,a,rfl,⟨_,hS⟩,bh (K:=K) (a:=a) (xs:=ns.map V.int) (λi σ H'=>∃v:Option V,σ=[some (.ref a),v]/\H'=H/\∀j y,j<i->ns[j]?=some y->(isLet y||cM y)=true) ?_ ?_ ?_ ?_⟩
    ·exact⟨none,rfl,rfl,λj y hj=>by omega⟩
    ·exact λi σ H' _ ⟨_,_,e,_⟩=>by rw[e];exact hS
    ·rintro i x σ H' hi ⟨v,rfl,rfl,iS⟩;obtain⟨z,hz,rfl⟩:=Kl hi;have Zt:(isLet z||cM z)=false->Q (.bl false) H':=by
      intro q;have e:(ns.all λn=>isLet n||cM n)=false:=by
       rw[<-aNb,aNB]
       intro q2;rw[q2 z (aMZ hz)]at q;cases q
      rw[e]at k;exact k
     have wa:(isLet z||cM z)=true->∀j y,j<i+1->ns[j]?=some y->(isLet y||cM y)=true:=by
      intro q j y hj hy;by_cases hji:j=i
      ·subst hji;rw[hz]at hy;injection hy with hy;rw[<-hy];exact q
      ·exact iS j y (by omega) hy
     refine⟨_,rfl,z,rfl,_,rfl,?_⟩
     cases hL:isLet z with
     |true=>exact cG (cG ⟨_,rfl,rfl,wa (by rw[hL];rfl)⟩)
     | false=>
      refine bW ⟨_,rfl,z,rfl,_,rfl,?_⟩;cases hD:cM z with
      |true=>exact cG ⟨_,rfl,rfl,wa (by rw[hL,hD];rfl)⟩
      |false=>exact bW (Zt (by rw[hL,hD];rfl))
    ·rintro σ H' ⟨v,rfl,rfl,iS⟩;have e:(ns.all λn=>isLet n||cM n)=true:=by
      rw[aNB]
      intro y hy;obtain⟨j,hj,Md⟩:=aNa hy;exact iS j y (by rw[hl];exact hj) (by rw[aMK hj,Md])
     rw[e]at k
     exact k
inductive We(K:aMC)(vs:List V)(H:Hp)(Q:VK)(E:XK):Prop
 |mk:∀(a:Addr) (t:List Int) (p:Nat),vs=[.ref a,.int (p:Int)]->IL K H a t->Q (.int (byteAt t p)) H->We K vs H Q E
def oR(T:Txt K mg A):bQ P w K mg base eV 1 A.Ir A.Iy ["text","place"] (We K):=by
 refine T.mB.ok ZN (λvs H Q E h=>?_) (λd3 A' outer s H vs Q E hr h=>?_)
 ·obtain⟨a,t,p,rfl,_⟩:=h;rfl
 ·obtain⟨a,t,p,rfl,hS,k⟩:=h
  have hl:(t.map V.int).length=t.length:=aLx _;refine⟨_,(aF (aI (eM (aL fP (pv 1) (bJ aW (by rfl) T.eX c8 (aA (pv 0) aD)) (aP _)) (fO (pv 0) (pv 1)) (CF uF aG)))),?_⟩
  refine⟨_,rfl,_,rfl,a,_,rfl,.inl hS,_,_,rfl,rfl,_,rfl,?_⟩
  refine cA (λh1=>?_) (λh1=>?_)
  ·have h1:=dT h1;have hp:p<t.length:=by omega
   exact⟨_,rfl,_,rfl,a,_,_,_,rfl,rfl,hS,dS (Yw (F4 hp)),k⟩
  ·have h1:=dF h1;have e:byteAt t p=-1:=by
    unfold byteAt;rw[aMW,aOB (by omega)];rfl
   rw[e]at k
   exact⟨_,rfl,k⟩
inductive dg(K:aMC)(vs:List V)(H:Hp)(Q:VK)(E:XK):Prop
 |mk:∀(a:Addr) (t:List Int) (p:Nat),vs=[.ref a,.int (p:Int)]->IL K H a t->Q (.int (fD t p:Nat)) H->dg K vs H Q E
def oX(T:Txt K mg A):bQ P w K mg base eV 2 A.sM A.rP ["text","place"] (dg K):=by
 refine T.iX.ok zV (λvs H Q E h=>?_) (λd3 A' outer s H vs Q E hr h=>?_)
 ·obtain⟨a,t,p,rfl,_⟩:=h;rfl
 ·obtain⟨a,t,p,rfl,hS,k⟩:=h
  refine⟨_,(aC (uK aP5 (aL eW (cF T.mB (oR T) hr T.t5 (t7 T) (aA (pv 0) (aA (pv 1) aD))) (aM rfl T.dv) (aP _)) (aF (CI (i:=1) zV.nd rfl (aQB rfl) aG FX)))
   (aF (aI (pv 1)))),?_⟩
  refine⟨λm σ H'=>∃q:Nat,σ=[some (.ref a),some (.int (q:Int))]/\H'=H/\fD t q=fD t p/\m=t.length-q,⟨_,p,rfl,rfl,rfl,rfl⟩,?_⟩
  rintro m σ H' ⟨q,rfl,rfl,hb,rfl⟩;refine⟨_,rfl,_,rfl,a,t,q,rfl,hS,rfl,_,rfl,?_⟩;refine cA (λh1=>?_) (λh1=>?_)
  ·have h1:=vEq h1;have hq:q<t.length:=Iw (by rw[h1];decide)
   refine⟨fun σ' H2=>σ'=[some (.ref a),some (.int ((q+1:Nat):Int))]/\H2=H',?_,?_⟩
   ·rintro σ' H2 ⟨rfl,rfl⟩;refine⟨_,(by omega:t.length-(q+1)<t.length-q),q+1,rfl,rfl,?_,rfl⟩
    rw[<-hb,Ib,Ib,LP hq (by rw[h1];rfl)]
   ·exact⟨_,rfl,_,_,rfl,rfl,rfl,rfl⟩
  ·have h1:=GS h1;have e:fD t p=q:=by
    rw[<-hb,Ib]
    exact LI λ_=>by simpa using h1
   rw[e]at k
   exact⟨_,rfl,k⟩
inductive XT(K:aMC)(vs:List V)(H:Hp)(Q:VK)(E:XK):Prop
 |mk:∀(a:Addr) (t:List Int) (p:Nat),vs=[.ref a,.int (p:Int)]->IL K H a t->Q (.int (aY t p:Nat)) H->XT K vs H Q E
def pO(T:Txt K mg A):bQ P w K mg base eV 2 A.r6 A.sU ["text","start"] (XT K):=by
 refine T.i4.ok pW (λvs H Q E h=>?_) (λd3 A' outer s H vs Q E hr h=>?_)
 ·obtain⟨a,t,p,rfl,_⟩:=h;rfl
 ·obtain⟨a,t,p,rfl,hS,k⟩:=h
  refine⟨_,(aC (dE 2 pW.nd (pv 1))
   (aC (uK aP5 (dC (cF T.Ae (J7 T) hr T.Li (Ls T) (aA (cF T.mB (oR T) hr T.t5 (t7 T) (aA (pv 0) (aA (pv 2) aD))) aD))) (aF (CI (i:=2) pW.nd rfl (aQB rfl) aG FX)))
   (aC (bE (aL iG (bH oK (pv 2) (pv 1)) (aM rfl T.NI) (aP _)) (aF (aI (pv 1))) aN)
   (aC (bE (PW.pt (w9 (aL iG (bH oK (pv 2) (pv 1)) aG (aP _)) (sY (aL eW (fO (pv 0) (pv 1)) (aM rfl T.ot) (aP _))))) (aF (aI (pv 1))) aN)
   (aF (aI (pv 2))))))),?_⟩
  refine⟨_,rfl,?_⟩
  refine⟨λm σ H'=>∃q:Nat,σ=[some (.ref a),some (.int (p:Int)),some (.int (q:Int))]/\H'=H/\runEnd cM t q=runEnd cM t p/\p<=q/\m=t.length-q,⟨_,p,rfl,rfl,rfl,aMG _,rfl⟩,?_⟩
  rintro m σ H' ⟨q,rfl,rfl,hb,hpq,rfl⟩;refine⟨_,rfl,_,rfl,a,t,q,rfl,hS,_,rfl,_,rfl,?_⟩;refine cA (λh1=>?_) (λh1=>?_)
  ·have hq:q<t.length:=Iw (by intro e;rw[e]at h1;exact absurd h1 (by decide))
   refine⟨fun σ' H2=>σ'=[some (.ref a),some (.int (p:Int)),some (.int ((q+1:Nat):Int))]/\H2=H',?_,?_⟩
   ·rintro σ' H2 ⟨rfl,rfl⟩;exact⟨_,(by omega:t.length-(q+1)<t.length-q),q+1,rfl,rfl,by rw[<-hb,LP hq h1],by omega,rfl⟩
   ·exact⟨_,rfl,_,_,rfl,rfl,rfl,rfl⟩
  ·have e:p+lI t p=q:=by
    rw[se,<-hb]
    exact LI λ_=>by simpa using h1
   have e2:lI t p=q-p:=by omega
   refine⟨_,rfl,_,rfl,_,_,rfl,rfl,_,_,rfl,rfl,_,rfl,?_⟩
   refine cA (λh2=>?_) (λh2=>?_)
   ·have h2:=dT h2;have z:aY t p=p:=by unfold aY;rw[if_pos (by omega)]
    rw[z]at k
    exact⟨_,rfl,k⟩
   ·have h2:=dF h2;refine⟨_,rfl,_,rfl,_,_,rfl,rfl,_,_,rfl,rfl,_,rfl,?_⟩;refine cA (λh3=>?_) (λh3=>?_)
    ·have h3:=dT h3;have hp:p<t.length:=by
      have:=yx t p
      omega
     refine⟨_,rfl,_,rfl,a,_,_,_,rfl,rfl,hS,dS (Yw (F4 hp)),rfl,_,rfl,?_⟩
     have eb:t.getD p 0=byteAt t p:=by
      unfold byteAt;rw[aMW,aMW,aMK hp];rfl
     refine cA (λh4=>?_) (λh4=>?_)
     ·have h4:=vEq h4;have z:aY t p=p:=by unfold aY;rw[if_neg (by omega),if_pos ⟨by omega,by rw[eb,h4]⟩]
      rw[z]at k
      exact⟨_,rfl,k⟩
     ·have h4:=GS h4;have z:aY t p=q:=by unfold aY;rw[if_neg (by omega),if_neg (λc=>h4 (by rw[<-eb];exact c.2))];exact e
      rw[z]at k
      exact⟨_,rfl,k⟩
    ·have h3:=dF h3;refine cG ?_;have z:aY t p=q:=by unfold aY;rw[if_neg (by omega),if_neg (λc=>h3 (by omega))];exact e
     rw[z]at k
     exact⟨_,rfl,k⟩
inductive Wt(K:aMC)(vs:List V)(H:Hp)(Q:VK)(E:XK):Prop
 |mk:∀(a:Addr) (t:List Int) (p e:Nat),vs=[.ref a,.int (p:Int),.int (e:Int)]->IL K H a t->(∀H',aV H H'->Q (.int (dB t p e)) H')->Wt K vs H Q E
def bK{α:Type}{l:List α}{i:Nat}{x:α}(h:l[i]?=some x):l.take (i+1)=l.take i++[x]:=by
 rw[List.take_succ,h];rfl
def nV(T:Txt K mg A):bQ P w K mg base eV 1 A.oY A.oU ["text","start","end"] (Wt K):=by
 refine T.iC.ok jM (λvs H Q E h=>?_) (λd3 A' outer s H vs Q E hr h=>?_)
 ·obtain⟨a,t,p,e,rfl,_⟩:=h;rfl
 ·obtain⟨a,t,p,e,rfl,hS,k⟩:=h
  refine⟨_,(aC (dE 3 jM.nd aG)
   (aC (cT aP5 rfl (cI (uJ AR (pv 0) (jL (pv 1)) (jL (pv 2)))) (jN 4 jM.nd) (aF (dE 3 jM.nd (bH oK (bH cH (bH PB (pv 3) aG) (pv 4)) (aM rfl T.ot)))))
   (aF (aI (pv 3))))),?_⟩
  refine⟨_,rfl,_,rfl,_,rfl,_,rfl,_,rfl,a,_,rfl,hS,λl hl=>?_⟩
  rw[G7]
  have s1:aV H (upd H l (.lst (((t.take e).drop p).map V.int))):=aE hl;refine⟨l,rfl,⟨_,aZ.of aB⟩,cW (K:=K) (a:=l) (xs:=((t.take e).drop p).map V.int)
   (λi σ H'=>∃v:Option V,σ=[some (.ref a),some (.int (p:Int)),some (.int (e:Int)),some (.int ((((t.take e).drop p).take i).foldl (λv d=>v*10+d-48) 0)),v]/\H'=upd H l (.lst (((t.take e).drop p).map V.int))) ?_ ?_ ?_ ?_⟩
  ·exact⟨none,rfl,rfl⟩
  ·exact λi σ H' _ ⟨_,_,q⟩=>by rw[q];exact aZ.of aB
  ·rintro i x σ H' hi ⟨v,rfl,rfl⟩;obtain⟨z,hz,rfl⟩:=Kl hi;refine⟨_,rfl,_,_,rfl,rfl,.inr ⟨by decide,by decide⟩,_,rfl,_,_,rfl,rfl,_,_,rfl,rfl,?_⟩
   refine⟨some (.int z),?_,rfl⟩
   rw[bK hz,aOK]
   rfl
  ·rintro σ H' ⟨v,rfl,rfl⟩;refine⟨_,rfl,?_⟩;have:=k _ s1;unfold dB at this;rw[aLx,aMe];exact this
inductive qd(C:Addr)(vs:List V)(H:Hp)(Q:VK)(E:XK):Prop
 |mk:∀(x dx na:Addr) (k l m b:Int),vs=[.ref x,.int k,.int l,.int m,.ref na,.int b]->H x=some (.ins C dx [])->Q .non (upd H x (.ins C dx [("kind",.int k),("least",.int l),("most",.int m),("name",.ref na),("behind",.int b)]))->qd C vs H Q E
def kD(T:Txt K mg A):bQ P w K mg base eV 1 A.DX A.Cf ["self","kind","least","most","name","behind"] (qd A.bZ):=by
 refine T.Je.ok QS (λvs H Q E h=>?_) (λd3 A' outer s H vs Q E hr h=>?_)
 ·obtain⟨x,dx,na,k,l,m,b,rfl,_⟩:=h;rfl
 ·obtain⟨x,dx,na,k,l,m,b,rfl,hx,q⟩:=h
  refine⟨_,(aC (gO (pv 0) (pv 1) rfl)
   (aC (gO (pv 0) (pv 2) rfl)
   (aC (gO (pv 0) (pv 3) rfl)
   (aC (gO (pv 0) (pv 4) rfl)
   (aF (gO (pv 0) (pv 5) rfl)))))),?_⟩
  refine⟨_,rfl,_,rfl,x,_,dx,_,rfl,hx,T.bV,T.cO,by show 0<1000;decide,?_⟩
  refine⟨_,rfl,_,rfl,x,_,dx,_,rfl,aB,T.bV,T.qH,by show 1<1000;decide,?_⟩
  refine⟨_,rfl,_,rfl,x,_,dx,_,rfl,aB,T.bV,T.gM,by show 2<1000;decide,?_⟩
  refine⟨_,rfl,_,rfl,x,_,dx,_,rfl,aB,T.bV,T.j5,by show 3<1000;decide,?_⟩
  refine⟨_,rfl,_,rfl,x,_,dx,_,rfl,aB,T.bV,T.hW,by show 4<1000;decide,?_⟩
  rw[j0,j0,j0,j0]
  exact q
def qm(C:Addr)(H:Hp)(v:V):Option (Itm×Nat)->Prop
 |none=>v=.non
 |some (x,b)=>∃a,v=.ref a/\jD C H a x b
def Gp{C:Addr}{H:Hp}{x dx na:Addr}{y:Itm}{b:Nat}{k l m:Int}(nx:H x=aP4)(T5:H dx=aP4)(ne:dx≠x)(hn:mL H na (nameOf y))(hk:k=iU y)(hl:l=((aM7 y).1:Int))(hm:m=((aM7 y).2:Int)):
  aV H (upd (upd (upd H dx (.own x)) x (.ins C dx [])) x (.ins C dx [("kind",.int k),("least",.int l),("most",.int m),("name",.ref na),("behind",.int (b:Int))]))/\
  jD C (upd (upd (upd H dx (.own x)) x (.ins C dx [])) x (.ins C dx [("kind",.int k),("least",.int l),("most",.int m),("name",.ref na),("behind",.int (b:Int))])) x y b:=by
 have s:aV H (upd (upd (upd H dx (.own x)) x (.ins C dx [])) x (.ins C dx [("kind",.int k),("least",.int l),("most",.int m),("name",.ref na),("behind",.int (b:Int))])):=by
  intro c o e;rw[aT (aJ e nx),aT (aJ e nx),aT (aJ e T5)];exact e
 subst hk hl hm;exact⟨s,dx,na,aB,s _ _ hn⟩
inductive LH(A:jK)(K:aMC)(f:List Int->Nat->Option (Itm×Nat))(pre:List Int->Nat->Prop)(vs:List V)(H:Hp)(Q:VK)(E:XK):Prop
 |mk:∀(a:Addr) (t:List Int) (p:Nat),vs=[.ref a,.int (p:Int)]->IL K H a t->pre t p->(∀(H':Hp) (v:V),aV H H'->qm A.bZ H' v (f t p)->Q v H')->LH A K f pre vs H Q E
def PL{H:Hp}{p:Addr}:mL (upd H p (.tup [])) p []:=aB
def M8(T:Txt K mg A):bQ P w K mg base eV 3 A.xY A.yM ["text","start"] (LH A K gH λ_ _=>True):=by
 refine T.yG.ok nA (λvs H Q E h=>?_) (λd3 A' outer s H vs Q E hr h=>?_)
 ·obtain⟨a,t,p,rfl,_⟩:=h;rfl
 ·obtain⟨a,t,p,rfl,hS,-,k⟩:=h
  have hm0:0<=(if p<aY t p then dB t p (aY t p)else 1):=by
   split
   ·next q=>
    have e:aY t p=p+lI t p:=by
     unfold aY at q ⊢;split at q
     ·omega
     ·next q1=>
      split at q
      ·omega
      ·next q2=>rw[if_neg q1,if_neg q2]
    rw[e];exact(j6 p).2
   ·omega
  refine⟨_,(aC (dE 2 nA.nd (cF T.i4 (pO T) hr T.sC (rW T) (aA (pv 0) (aA (pv 1) aD))))
   (aC (dE 3 nA.nd (eM (aL iG (pv 2) (pv 1) (aP _)) (cF T.iC (nV T) hr T.oZ (oW T) (aA (pv 0) (aA (pv 1) (aA (pv 2) aD)))) aG))
   (sZ (λD σ H1=>∃m:Int,σ=[some (.ref a),some (.int (p:Int)),some (.int (aY t p:Nat)),some (.int m),none]/\aV H H1/\m=(if p<aY t p then dB t p (aY t p)else 1)/\D.rt=Q) (aC (dE 4 nA.nd (cF T.mB (oR T) hr T.t5 (t7 T) (aA (pv 0) (aA (pv 2) aD))))
   (aC (bE (aL eW (pv 3) aG (aP _)) (aF (aI kO)) aN)
   (aC (bE (aL eW (pv 4) (aM rfl T.La) (aP _)) (aF (aI (vQ T.IK (kD T) (hr.mono (by decide)) rfl T.IS (mI T) .nil B8 (aA (aM rfl T.Gm) (aA (pv 3) (aA (pv 3) (aA (gC aD) (aA (bH cH (pv 2) aG) aD)))))))) aN)
   (aC (bE (aL eW (pv 4) (aM rfl T.L6) (aP _)) (aF (aI (vQ T.IK (kD T) (hr.mono (by decide)) rfl T.IS (mI T) .nil B8 (aA (aM rfl T.Lu) (aA aG (aA (pv 3) (aA (gC aD) (aA (bH cH (pv 2) aG) aD)))))))) aN)
   (aF (aI kO)))))) ?cut))),?_⟩
  case cut=>
   rintro D σ H1 ⟨m,rfl,s1,hm,hD⟩;rw[<-hm]at hm0;refine⟨_,rfl,_,rfl,a,t,_,rfl,s1.seq hS,?_⟩;refine⟨_,rfl,rfl,_,rfl,?_⟩;refine cA (λh1=>?_) (λh1=>?_)
   ·have h1:=vEq h1;have e:gH t p=none:=by unfold gH;simp only[];rw[<-hm,if_pos h1]
    show D.rt .non H1;rw[hD];exact k _ _ s1 (by rw[e];rfl)
   have h1:=GS h1;refine⟨_,rfl,rfl,_,rfl,?_⟩;refine cA (λh2=>?_) (λh2=>?_)
   ·have h2:=vEq h2;have e:gH t p=some (.years m.toNat,aY t p+1):=by unfold gH;simp only[];rw[<-hm,if_neg h1,if_pos h2]
    refine⟨_,rfl,_,rfl,aM1 _,λna B5=>⟨_,rfl,_,_,rfl,rfl,λx dx nx T5 vc=>⟨x,dx,na,_,_,_,_,rfl,aB,rfl,?_⟩⟩⟩
    have I:=Gp (C:=A.bZ) (y:=.years m.toNat) (b:=aY t p+1) (k:=0) (l:=m) (m:=m) nx T5 vc PL rfl (by show m=(m.toNat:Int);omega) (by show m=(m.toNat:Int);omega)
    show D.rt _ _;rw[hD];exact k _ _ (s1.trans ((aE B5).trans I.1)) (by rw[e];exact⟨x,rfl,I.2⟩)
   have h2:=GS h2;refine⟨_,rfl,rfl,_,rfl,?_⟩;refine cA (λh3=>?_) (λh3=>?_)
   ·have h3:=vEq h3;have e:gH t p=some (.doubts m.toNat,aY t p+1):=by unfold gH;simp only[];rw[<-hm,if_neg h1,if_neg h2,if_pos h3]
    refine⟨_,rfl,aM1 _,λna B5=>⟨_,rfl,_,_,rfl,rfl,λx dx nx T5 vc=>⟨x,dx,na,_,_,_,_,rfl,aB,rfl,?_⟩⟩⟩
    have I:=Gp (C:=A.bZ) (y:=.doubts m.toNat) (b:=aY t p+1) (k:=1) (l:=0) (m:=m) nx T5 vc PL rfl rfl (by show m=(m.toNat:Int);omega)
    show D.rt _ _;rw[hD];exact k _ _ (s1.trans ((aE B5).trans I.1)) (by rw[e];exact⟨x,rfl,I.2⟩)
   have h3:=GS h3;have e:gH t p=none:=by unfold gH;simp only[];rw[<-hm,if_neg h1,if_neg h2,if_neg h3]
   show D.rt .non H1;rw[hD];exact k _ _ s1 (by rw[e];rfl)
  refine⟨_,rfl,_,rfl,a,t,p,rfl,hS,?_⟩
  refine⟨_,rfl,_,rfl,_,_,rfl,rfl,_,rfl,?_⟩
  refine cA (λh1=>?_) (λh1=>?_)
  ·have h1:=dT h1;exact⟨_,rfl,_,rfl,_,rfl,a,t,p,_,rfl,hS,λH1 s1=>⟨_,rfl,s1,by rw[if_pos (by omega)],rfl⟩⟩
  ·have h1:=dF h1;exact⟨_,rfl,aV.refl H,by rw[if_neg (by omega)],rfl⟩
def Xc(T:Txt K mg A):bQ P w K mg base eV 3 A.F2 A.F0 ["text","start"] (LH A K qV λ_ _=>True):=by
 refine T.F3.ok rA (λvs H Q E h=>?_) (λd3 A' outer s H vs Q E hr h=>?_)
 ·obtain⟨a,t,p,rfl,_⟩:=h;rfl
 ·obtain⟨a,t,p,rfl,hS,-,k⟩:=h
  have nb:∀q,0<=dB t q (aY t q):=by
   intro q;unfold aY;have z:dB t q q=0:=by unfold dB;rw[aPB (by rw[aMj];omega)];rfl
   split
   ·rw[z];omega
   ·split
    ·rw[z];omega
    ·exact(j6 q).2
  refine⟨_,(aC (dE 2 rA.nd (cF T.i4 (pO T) hr T.sC (rW T) (aA (pv 0) (aA (bH cH (pv 1) aG) aD))))
   (aC (bE (PW.pt (jR (aL eW (pv 2) (bH cH (pv 1) aG) (aP _)) (gX (aL LA (cF T.mB (oR T) hr T.t5 (t7 T) (aA (pv 0) (aA (pv 2) aD))) (aM rfl T.XU) (aP _))))) (aF (aI kO)) aN)
   (aC (dE 3 rA.nd (cF T.i4 (pO T) hr T.sC (rW T) (aA (pv 0) (aA (bH cH (pv 2) aG) aD))))
   (aC (bE (PW.pt (jR (aL eW (pv 3) (bH cH (pv 2) aG) (aP _)) (gX (aL LA (cF T.mB (oR T) hr T.t5 (t7 T) (aA (pv 0) (aA (pv 3) aD))) (aM rfl T.Ez) (aP _))))) (aF (aI kO)) aN)
   (aC (dE 4 rA.nd (cF T.iC (nV T) hr T.oZ (oW T) (aA (pv 0) (aA (bH cH (pv 1) aG) (aA (pv 2) aD)))))
   (aC (dE 5 rA.nd (cF T.iC (nV T) hr T.oZ (oW T) (aA (pv 0) (aA (bH cH (pv 2) aG) (aA (pv 3) aD)))))
   (aC (bE (aL iG (pv 4) (pv 5) (aP _)) (aF (aI kO)) aN)
   (aF (aI (vQ T.IK (kD T) (hr.mono (by decide)) rfl T.IS (mI T) .nil B8 (aA (aM rfl T.aAq) (aA (pv 4) (aA (pv 5) (aA (gC aD) (aA (bH cH (pv 3) aG) aD))))))))))))))),?_⟩
  refine⟨_,rfl,_,rfl,_,_,rfl,rfl,a,t,p+1,rfl,hS,?_⟩
  refine⟨_,rfl,_,rfl,_,_,rfl,rfl,rfl,_,rfl,?_⟩
  refine cA (λh1=>bW ?_) (λh1=>?_)
  ·have h1:=vEq h1;have e:qV t p=none:=by unfold qV;simp only[];rw[if_pos (.inl (by omega))]
   exact k _ _ (aV.refl H) (by rw[e];rfl)
  have h1:=GS h1;refine⟨_,rfl,_,rfl,a,t,_,rfl,hS,rfl,_,rfl,?_⟩;refine cA (λh2=>?_) (λh2=>?_)
  ·have h2:=Yr h2;have e:qV t p=none:=by unfold qV;simp only[];rw[if_pos (.inr h2)]
   exact k _ _ (aV.refl H) (by rw[e];rfl)
  have h2:=Yt h2;refine⟨_,rfl,_,rfl,_,_,rfl,rfl,a,t,aY t (p+1)+1,rfl,hS,?_⟩;refine⟨_,rfl,_,rfl,_,_,rfl,rfl,rfl,_,rfl,?_⟩;refine cA (λh3=>bW ?_) (λh3=>?_)
  ·have h3:=vEq h3;have e:qV t p=none:=by unfold qV;simp only[];rw[if_neg (by rintro(q|q);omega;exact q h2),if_pos (.inl (by omega))]
   exact k _ _ (aV.refl H) (by rw[e];rfl)
  have h3:=GS h3;refine⟨_,rfl,_,rfl,a,t,_,rfl,hS,rfl,_,rfl,?_⟩;refine cA (λh4=>?_) (λh4=>?_)
  ·have h4:=Yr h4;have e:qV t p=none:=by unfold qV;simp only[];rw[if_neg (by rintro(q|q);omega;exact q h2),if_pos (.inr h4)]
   exact k _ _ (aV.refl H) (by rw[e];rfl)
  have h4:=Yt h4;refine⟨_,rfl,_,rfl,_,_,rfl,rfl,_,rfl,a,t,p+1,_,rfl,hS,λH1 s1=>?_⟩;refine⟨_,rfl,_,rfl,_,_,rfl,rfl,_,rfl,a,t,aY t (p+1)+1,aY t (aY t (p+1)+1),rfl,s1.seq hS,λH2 s2=>?_⟩;have n1:=nb (p+1);have n2:=nb (aY t (p+1)+1);refine⟨_,rfl,_,rfl,_,_,rfl,rfl,_,rfl,?_⟩;refine cA (λh5=>?_) (λh5=>?_)
  ·have h5:=dT h5;have e:qV t p=none:=by unfold qV;simp only[];rw[if_neg (by rintro(q|q);omega;exact q h2),if_neg (by rintro(q|q);omega;exact q h4),if_pos h5]
   exact k _ _ (s1.trans s2) (by rw[e];rfl)
  have h5:=dF h5;have e:qV t p=some (.gap (dB t (p+1) (aY t (p+1))).toNat (dB t (aY t (p+1)+1) (aY t (aY t (p+1)+1))).toNat,aY t (aY t (p+1)+1)+1):=by
   unfold qV;simp only[];rw[if_neg (by rintro(q|q);omega;exact q h2),if_neg (by rintro(q|q);omega;exact q h4),if_neg h5]
  refine⟨_,rfl,_,rfl,aM1 _,λna B5=>⟨_,rfl,_,_,rfl,rfl,λx dx nx T5 vc=>⟨x,dx,na,_,_,_,_,rfl,aB,rfl,?_⟩⟩⟩
  have I:=Gp (C:=A.bZ) (y:=.gap (dB t (p+1) (aY t (p+1))).toNat (dB t (aY t (p+1)+1) (aY t (aY t (p+1)+1))).toNat) (b:=aY t (aY t (p+1)+1)+1) (k:=2) (l:=dB t (p+1) (aY t (p+1))) (m:=dB t (aY t (p+1)+1) (aY t (aY t (p+1)+1))) nx T5 vc PL rfl
   (aOT n1).symm (aOT n2).symm
  exact k _ _ (s1.trans (s2.trans ((aE B5).trans I.1))) (by rw[e];exact⟨x,rfl,I.2⟩)
def QF(T:Txt K mg A):bQ P w K mg base eV 3 A.Cd A.Cn ["text","start"] (LH A K uH λt p=>eQ t/\p<t.length):=by
 refine T.Cg.ok tS (λvs H Q E h=>?_) (λd3 A' outer s H vs Q E hr h=>?_)
 ·obtain⟨a,t,p,rfl,_⟩:=h;rfl
 ·obtain⟨a,t,p,rfl,hS,⟨hB,hp⟩,k⟩:=h
  have hl:(t.map V.int).length=t.length:=aLx _;have vy:fA t p<=t.length:=by rw[YE];exact aBp (by omega)
  refine⟨_,(aC (dE 2 tS.nd (bH cH (pv 1) aG))
   (aC (uK aP5 (PW.pt (w9 (aL fP (pv 2) (bJ aW (by rfl) T.eX c8 (aA (pv 0) aD)) (aP _)) (sY (aL LA (fO (pv 0) (pv 2)) (aM rfl T.Es) (aP _))))) (aF (CI (i:=2) tS.nd rfl (aQB rfl) aG FX)))
   (sZ (λD σ H1=>σ=[some (.ref a),some (.int (p:Int)),some (.int (fA t p:Nat)),none]/\H1=H/\D.rt=Q) (aC (dE 3 tS.nd (hJ i8 (by rfl) T.Dq zL (aA (uJ AR (pv 0) (jL (bH cH (pv 1) aG)) (jL (pv 2))) aD)))
   (aC (bE (PW.pt (jR (aL eW (pv 2) (bJ aW (by rfl) T.eX c8 (aA (pv 0) aD)) (aP _)) (gX (fG (dC (cF T.t6 (A7 T) hr T.Dx (Dt T) (aA (pv 3) aD))))))) (aF (aI kO)) aN)
   (aF (aI (vQ T.IK (kD T) (hr.mono (by decide)) rfl T.IS (mI T) .nil B8 (aA (aM rfl T.AN) (aA aG (aA aG (aA (pv 3) (aA (bH cH (pv 2) aG) aD)))))))))) ?cut))),?_⟩
  case cut=>
   rintro D σ H1 ⟨rfl,rfl,hD⟩;refine⟨_,rfl,_,rfl,_,_,rfl,rfl,_,rfl,_,rfl,_,rfl,a,_,rfl,hS,λl hl=>?_⟩;have hc:oE (t.map V.int) (some ((p:Int)+1)) (some ((fA t p:Nat):Int))=((t.take (fA t p)).drop (p+1)).map V.int:=G7 t (p+1) (fA t p);rw[hc];refine⟨l,_,rfl,.inl ⟨aZ.of aB,λna B5=>?_⟩⟩;generalize hn:(t.take (fA t p)).drop (p+1)=n at B5 ⊢;have s1:aV H1 (upd (upd H1 l (.lst (n.map V.int))) na (.tup (n.map V.int))):=(aE hl).trans (aE B5);have hbn:eQ n:=by
    intro x hx;rw[<-hn]at hx;exact hB x (aPI (aQ0 hx))
   have rG:aLz (aLy n)=n:=l9 hbn;refine⟨_,rfl,_,rfl,a,_,rfl,.inl (s1.seq hS),rfl,_,rfl,?_⟩;have cC:(t.map V.int).length=t.length:=aLx _;refine cA (λh1=>bW ?_) (λh1=>?_)
   ·have h1:=vEq h1;have e:uH t p=none:=by unfold uH;simp only[];rw[if_pos (.inl (by omega))]
    show D.rt .non _;rw[hD];exact k _ _ s1 (by rw[e];rfl)
   have h1:=GS h1;refine⟨_,rfl,na,n,rfl,.inr (eE.of aB),_,rfl,?_⟩;cases hb:isNm n with
   | false=>
    refine bW ?_;have e:uH t p=none:=by unfold uH;simp only[];rw[hn,if_pos (.inr hb)]
    show D.rt .non _;rw[hD];exact k _ _ s1 (by rw[e];rfl)
   | true=>
    refine cG ?_;have e:uH t p=some (.mark (aLy n),fA t p+1):=by
     unfold uH;simp only[];rw[hn,if_neg (by rintro(q|q);omega;rw[hb]at q;cases q)]
    refine⟨_,rfl,_,rfl,_,_,rfl,rfl,λx dx nx T5 vc=>⟨x,dx,na,_,_,_,_,rfl,aB,rfl,?_⟩⟩
    have I:=Gp (C:=A.bZ) (na:=na) (y:=.mark (aLy n)) (b:=fA t p+1) (k:=3) (l:=0) (m:=0) nx T5 vc (by show _=some (HO.tup ((aLz (aLy n)).map V.int));rw[rG];exact aB) rfl rfl rfl
    show D.rt _ _;rw[hD];exact k _ _ (s1.trans I.1) (by rw[e];exact⟨x,rfl,I.2⟩)
  refine⟨_,rfl,_,_,rfl,rfl,?_⟩
  refine⟨λm σ H'=>∃q:Nat,σ=[some (.ref a),some (.int (p:Int)),some (.int (q:Int)),none]/\H'=H/\runEnd (λc=>!(c==41)) t q=fA t p/\q<=t.length/\m=t.length-q,⟨_,p+1,rfl,rfl,rfl,by omega,rfl⟩,?_⟩
  rintro m σ H' ⟨q,rfl,rfl,hb,hq,rfl⟩;have after:(q<t.length->byteAt t q=41)->fA t p=q:=by
   intro h1;rw[<-hb];exact LI λh=>by rw[h1 h];rfl
  refine⟨_,rfl,_,rfl,a,_,rfl,.inl hS,_,_,rfl,rfl,_,rfl,?_⟩
  refine cA (λh1=>?_) (λh1=>cG ?_)
  ·have h1:=dT h1;have hql:q<t.length:=by omega
   refine⟨_,rfl,_,rfl,a,_,_,_,rfl,rfl,hS,dS (Yw (F4 hql)),rfl,_,rfl,?_⟩
   refine cA (λh2=>?_) (λh2=>?_)
   ·have h2:=Yr h2;refine⟨fun σ' H2=>σ'=[some (.ref a),some (.int (p:Int)),some (.int ((q+1:Nat):Int)),none]/\H2=H',?_,⟨_,rfl,_,_,rfl,rfl,rfl,rfl⟩⟩;rintro σ' H2 ⟨rfl,rfl⟩;refine⟨_,(by omega:t.length-(q+1)<t.length-q),q+1,rfl,rfl,?_,by omega,rfl⟩
    rw[<-hb,LP hql]
    show(!(byteAt t q==41))=true
    rw[beq_eq_false_iff_ne.2 h2];rfl
   ·have h2:=Yt h2;rw[after λ_=>h2];exact⟨rfl,rfl,rfl⟩
  ·have h1:=dF h1;rw[after λh=>by omega]
   exact⟨rfl,rfl,rfl⟩
def HA(T:Txt K mg A):bQ P w K mg base eV 4 A.Cz A.DD ["text","start"] (LH A K uG λt p=>eQ t):=by
 refine T.wF.ok HR (λvs H Q E h=>?_) (λd3 A' outer s H vs Q E hr h=>?_)
 ·obtain⟨a,t,p,rfl,_⟩:=h;rfl
 ·obtain⟨a,t,p,rfl,hS,hB,k⟩:=h
  refine⟨_,(aC (dE 2 HR.nd (cF T.mB (oR T) hr T.t5 (t7 T) (aA (pv 0) (aA (pv 1) aD))))
   (aC (bE (aL eW (pv 2) (aM rfl T.HU) (aP _)) (aF (aI (cF T.F3 (Xc T) hr T.Za (Zg T) (aA (pv 0) (aA (pv 1) aD))))) aN)
   (aC (bE (aL eW (pv 2) (aM rfl T.HV) (aP _)) (aF (aI (cF T.Cg (QF T) hr T.X1 (Xz T) (aA (pv 0) (aA (pv 1) aD))))) aN)
   (aF (aI (cF T.yG (M8 T) hr T.ND (Nj T) (aA (pv 0) (aA (pv 1) aD)))))))),?_⟩
  refine⟨_,rfl,_,rfl,a,t,p,rfl,hS,?_⟩
  refine⟨_,rfl,rfl,_,rfl,?_⟩
  unfold uG at k;refine cA (λh1=>?_) (λh1=>?_)
  ·have h1:=vEq h1;rw[if_pos h1]at k;exact⟨_,rfl,_,rfl,a,t,p,rfl,hS,trivial,k⟩
  have h1:=GS h1;rw[if_neg h1]at k;refine⟨_,rfl,rfl,_,rfl,?_⟩;refine cA (λh2=>?_) (λh2=>?_)
  ·have h2:=vEq h2;rw[if_pos h2]at k;exact⟨_,rfl,_,rfl,a,t,p,rfl,hS,⟨hB,Iw (by rw[h2];decide)⟩,k⟩
  have h2:=GS h2;rw[if_neg h2]at k;exact⟨_,rfl,_,rfl,a,t,p,rfl,hS,trivial,k⟩
inductive bc(A:jK)(vs:List V)(H:Hp)(Q:VK)(E:XK):Prop
 |mk:∀(l:Addr) (q:List (Itm×Nat)),vs=[.ref l]->c6 A.bZ H l q->q.length<=1000->(∀(H':Hp) (r:Addr) (ms:List V),aV H H'->H r=aP4->H' r=some (.lst ms)->aS H' ms (zE q)->Q (.ref r) H')->bc A vs H Q E
def DM(T:Txt K mg A):bQ P w K mg base eV 1 A.A2 A.Ad ["parts"] (bc A):=by
 refine T.lP.ok mG (λvs H Q E h=>?_) (λd3 A' outer s H vs Q E hr h=>?_)
 ·obtain⟨l,q,rfl,_⟩:=h;rfl
 ·obtain⟨l,q,rfl,⟨as,hl,hi⟩,cC,k⟩:=h
  refine⟨_,(aF (aI (GZ rfl mG.nd (cI (pv 0)) (own:=[("item",1)]) (by show oG ["parts","item"] (aH AZ) _ _;exact⟨rfl,by decide +kernel,by decide +kernel,by decide +kernel,by decide +kernel⟩) (λ_ _ _ _ _=>by exact(jN 1 mG.nd)) (λ_ _ _ _ _=>by exact(Dm (aL eW (Ga K (pv 1) rfl) (aM rfl T.AN) (aP _)))) (λ_ _ _ _ _=>by exact(Ga K (pv 1) rfl))))),?_⟩
  have IF:=bG hi;refine⟨_,rfl,l,rfl,⟨_,aZ.of hl⟩,λD hD=>mQ (K:=K) (a:=l) (xs:=as.map V.ref) (λi H'=>aV H H'/\∃ms,H' D=some (.lst ms)/\ms.length<=i/\aS H' ms (zE (q.take i))) ?_ ?_ ?_ ?_⟩
  ·exact⟨aE hD,[],aB,aM1 _,.nil⟩
  ·rintro i H' _ ⟨s1,_⟩;exact aZ.of (s1 _ _ hl)
  ·rintro i x H' hx ⟨s1,ms,Nl,GQ,ht⟩;obtain⟨a,ha,rfl⟩:=iK hx;obtain⟨⟨y,b⟩,hy,vJ⟩:=dU hi ha;obtain⟨dx,na,h1,h2⟩:=jD.same vJ s1;have T6:i<q.length:=(aM0.mp hy).1;refine⟨rfl,_,rfl,a,_,dx,_,_,rfl,h1,T.bV,T.cO,dY _ _ _,rfl,_,rfl,?_⟩;refine cA (λh3=>?_) (λh3=>?_)
   ·obtain⟨n,rfl⟩:=oN (vEq h3)
    refine⟨_,rfl,a,_,dx,_,_,rfl,h1,T.bV,T.j5,uR _ _ _,ms,Nl,bB (by omega),?_⟩
    refine⟨bI s1 hD,_,aB,by rw[aMH];show _+1<=_;omega,?_⟩
    rw[bK hy,Aa]
    exact eK ⟨na,rfl,mL.but h2 Nl cD⟩ (aS.but ht Nl cD)
   ·have h3:=GS h3;refine⟨s1,ms,Nl,by omega,?_⟩
    rw[bK hy,Aa,HG h3]
    rw[aOE,aMc]
    exact ht
  ·rintro H' ⟨s1,ms,Nl,GQ,ht⟩;rw[aLx,IF,aMe]at ht;exact k H' D ms s1 hD Nl ht
inductive aAw(A:jK)(K:aMC)(vs:List V)(H:Hp)(Q:VK)(E:XK):Prop
 |mk:∀(a lm:Addr) (x:Itm) (b:Nat) (ms:List V) (nms:List aMV),vs=[.ref a,.ref lm]->jD A.bZ H a x b->H lm=some (.lst ms)->aS H ms (nms.map aLz)->Q (.bl (i7 x nms)) H->aAw A K vs H Q E
theorem yF(n:aMV):∀(l:List aMV),(l.map aLz).contains (aLz n)=l.contains n
 |[]=>rfl
 | a::l=>by
  rw[aM2,aOl,aOl,yF n l]
  congr 1
  by_cases e:n=a
  ·subst e;rw[beq_self_eq_true,beq_self_eq_true]
  ·rw[beq_eq_false_iff_ne.2 e,beq_eq_false_iff_ne.2 λq=>e (Gq q)]
def N4(T:Txt K mg A):bQ P w K mg base eV 1 A.BA A.BD ["item","marks"] (aAw A K):=by
 refine T.BV.ok Na (λvs H Q E h=>?_) (λd3 A' outer s H vs Q E hr h=>?_)
 ·obtain⟨a,lm,x,b,ms,nms,rfl,_⟩:=h;rfl
 ·obtain⟨a,lm,x,b,ms,nms,rfl,⟨dx,na,h1,h2⟩,hm,ht,k⟩:=h
  have cC:ms.length=nms.length:=by rw[ht.length,aLx]
  refine⟨_,(aC (bE (aL LA (aU (pv 0) rfl) (aM rfl T.AN) (aP _)) (aF (aI jQ)) aN)
   (aF (aI (ZD (AQ fP (bJ aW (by rfl) T.eX c8 (aA (pv 1) aD)) (aM rfl T.QB) (aP _)) (LF (AQ (JA hr.units) (aU (pv 0) rfl) (pv 1) (by rfl))))))),?_⟩
  refine⟨_,rfl,a,_,dx,_,_,rfl,h1,T.bV,T.cO,dY _ _ _,rfl,_,rfl,?_⟩
  refine cA (λh3=>?_) (λh3=>?_)
  ·have h3:=Yr h3;have e:i7 x nms=true:=by
    cases x with
    |mark n=>exact absurd rfl h3
    |years m=>rfl
    |doubts m=>rfl
    |gap m k=>rfl
   rw[e]at k;exact k
  ·obtain⟨n,rfl⟩:=oN (Yt h3)
   refine⟨_,rfl,lm,_,rfl,.inl (aZ.of hm),_,_,rfl,rfl,_,rfl,?_⟩
   have e:i7 (.mark n) nms=(decide (nms.length<12)&&!nms.contains n):=rfl;rw[e]at k;refine cA (λh4=>?_) (λh4=>?_)
   ·have h4:=dT h4;rw[decide_eq_true (by omega),aNJ]at k
    refine⟨_,rfl,a,_,dx,_,_,rfl,h1,T.bV,T.j5,uR _ _ _,_,rfl,lm,ms,na,_,_,rfl,aZ.of hm,rfl,h2,ht,?_⟩
    rw[if_pos rfl,yF]
    exact k
   ·have h4:=dF h4;rw[decide_eq_false (by omega),aNO]at k
    exact k
structure G8(C:Addr)(H H':Hp)(lp lm:Addr)(acc:List (Itm×Nat)):Prop where
 same:aV H H'
 parts:c6 C H' lp acc
 marks:∃ms,H' lm=some (.lst ms)/\aS H' ms (zE acc)
def G8.keep{C:Addr}{H H' H2:Hp}{lp lm:Addr}{acc:List (Itm×Nat)}(h:G8 C H H' lp lm acc)(s:aV H' H2):G8 C H H2 lp lm acc:=by
 obtain⟨h1,h2,ms,h3,h4⟩:=h
 exact⟨h1.trans s,h2.same s,ms,s _ _ h3,aS.same h4 s⟩
def mz(C:Addr)(H:Hp)(a lp lm:Addr)(t:List Int)(m:Nat)(σ:L2.St)(H':Hp):Prop:=∃(acc:List (Itm×Nat)) (p:Nat) (it:V),σ=[some (.ref a),some (.ref lp),some (.ref lm),some it]/\G8 C H H' lp lm acc/\
 qm C H' it (uG t (fD t p))/\uD t m acc p=gB t/\t.length-p+1<=m/\p<=t.length/\acc.length<=p
inductive cx(A:jK)(K:aMC)(vs:List V)(H:Hp)(Q:VK)(E:XK):Prop
 |mk:∀(a:Addr) (t:List Int),vs=[.ref a]->IL K H a t->eQ t->t.length<=300->(∀(H':Hp) (r:Addr),aV H H'->H r=aP4->c6 A.bZ H' r (gB t)->Q (.ref r) H')->cx A K vs H Q E
def NV(T:Txt K mg A):bQ P w K mg base eV 5 A.BZ A.BI ["text"] (cx A K):=by
 refine T.BC.ok kW (λvs H Q E h=>?_) (λd3 A' outer s H vs Q E hr h=>?_)
 ·obtain⟨a,t,rfl,_⟩:=h;rfl
 ·obtain⟨a,t,rfl,hS,hB,Zz,k⟩:=h
  refine⟨_,(aC (dE 1 kW.nd (aR aD))
   (aC (dE 2 kW.nd (aR aD))
   (aC (dE 3 kW.nd (cF T.wF (HA T) hr T.J8 (Jp T) (aA (pv 0) (aA (cF T.iX (oX T) hr T.rS (rX T) (aA (pv 0) (aA aG aD))) aD))))
   (aC (uK aP5 (PW.pt (w9 (gY (vU (pv 3))) (sY (dC (cF T.BV (N4 T) hr T.QD (Pc T) (aA (pv 3) (aA (pv 2) aD))))))) (aC (cS (e9 aMa aMr aMs cR (pv 1) (aA (pv 3) aD)))
   (aC (bE (aL eW (aU (pv 3) rfl) (aM rfl T.AN) (aP _)) (aF (cS (e9 aMa aMr aMs cR (pv 2) (aA (aU (pv 3) rfl) aD)))) aN)
   (sZ (λD σ H2=>∃(lp lm:Addr) (acc:List (Itm×Nat)) (x:Itm) (b g:Nat) (a2:Addr),σ=[some (.ref a),some (.ref lp),some (.ref lm),some (.ref a2)]/\G8 A.bZ H H2 lp lm acc/\jD A.bZ H2 a2 x b/\uD t g acc b=gB t/\t.length-b+1<=g/\b<=t.length/\acc.length<=b/\∀σ' H3,mz A.bZ H a lp lm t g σ' H3->D.nx σ' H3) (aF (dE 3 kW.nd (cF T.wF (HA T) hr T.J8 (Jp T) (aA (pv 0) (aA (cF T.iX (oX T) hr T.rS (rX T) (aA (pv 0) (aA (aU (pv 3) rfl) aD))) aD))))) ?cut))))
   (aF (aI (pv 1))))))),?_⟩
  case cut=>
   rintro D σ H2 ⟨lp,lm,acc,x,b,g,a2,rfl,hL,⟨dx,na,h1,h2⟩,hm,hg,hb,Oe,hN⟩;have s2:=hL.same;refine⟨_,rfl,_,rfl,_,rfl,a2,_,dx,_,_,rfl,h1,T.bV,T.hW,mS _ _ _,a,t,b,rfl,s2.seq hS,a,t,fD t b,rfl,s2.seq hS,hB,λH3 v s3 hv=>?_⟩;exact hN _ _ ⟨acc,b,v,rfl,hL.keep s3,hv,hm,hg,hb,Oe⟩
  refine⟨aM1 _,λlp hlp=>?_⟩
  refine⟨aM1 _,λlm hlm=>?_⟩
  have s1:aV H (upd (upd H lp (.lst [])) lm (.lst [])):=(aE hlp).trans (aE hlm);have npm:lp≠lm:=aJ (H:=upd H lp (.lst [])) aB hlm;have nH:H lm=aP4:=(aE hlp).free hlm;refine⟨_,rfl,_,rfl,a,t,0,rfl,s1.seq hS,a,t,fD t 0,rfl,s1.seq hS,hB,λH2 v s2 hv=>?_⟩;refine⟨mz A.bZ H a lp lm t,⟨t.length+1,[],0,v,rfl,⟨s1.trans s2,⟨[],s2 _ _ (by rw[aT npm];exact aB),.nil⟩,[],s2 _ _ aB,.nil⟩,hv,rfl,by omega,aM1 _,aMG _⟩,?_⟩
  rintro m σ H3 ⟨acc,p,it,rfl,hL,vJ,hm,hg,hp,Oe⟩;obtain⟨m,rfl⟩:∃m',m=m'+1:=⟨m-1,by omega⟩
  have fin:gB t=acc->Q (.ref lp) H3:=λe=>k H3 lp hL.same hlp (by rw[e];exact hL.parts)
  refine⟨_,rfl,_,rfl,?_⟩
  cases hi:uG t (fD t p)with
  | none=>
   rw[hi]at vJ
   cases(show it=.non from vJ)
   have e:gB t=acc:=by rw[<-hm];simp only[uD,hi]
   exact cG (cG ⟨_,rfl,fin e⟩)
  | some y=>
   obtain⟨x,b⟩:=y
   rw[hi]at vJ
   obtain⟨a2,rfl,hx⟩:=(show ∃a2,it=.ref a2/\jD A.bZ H3 a2 x b from vJ)
   obtain⟨ms,Nl,t8⟩:=hL.marks
   refine bW ⟨_,rfl,_,rfl,a2,lm,x,b,ms,aMD (acc.map fun(z:Itm×Nat)=>z.1),rfl,hx,Nl,t8,_,rfl,?_⟩;have e0:gB t=if i7 x (aMD (acc.map (·.1)))=true then uD t m (acc++[(x,b)]) b else acc:=by rw[<-hm];simp only[uD,hi]
   cases hmf:i7 x (aMD (acc.map (·.1)))with
   | false=>
    rw[hmf]at e0
    exact cG ⟨_,rfl,fin e0⟩
   | true=>
    rw[hmf,if_pos rfl]at e0
    obtain⟨-,hpb,hbt⟩:=Jt hB hi
    have hpb:p<b:=by
     have:p<=fD t p:=aCC
     omega
    obtain⟨as,vq,aAX⟩:=hL.parts
    refine bW ⟨fun σ' H'=>∃m',m'<m+1/\mz A.bZ H a lp lm t m' σ' H',λ_ _ h=>h,?_⟩;have hasl:=bG aAX;refine⟨_,rfl,.inl ⟨rfl,_,aZ.of vq⟩,_,rfl,lp,_,_,rfl,rfl,vq,bB (by rw[aLx];omega),?_⟩
    generalize hH4:upd H3 lp (.lst (as.map V.ref++[V.ref a2]))=H4;have b4:JW lp H3 H4:=by rw[<-hH4];exact cD
    have hx4:=hx.but vq b4;have s4:aV H H4:=by rw[<-hH4];exact bI hL.same hlp
    have p4:c6 A.bZ H4 lp (acc++[(x,b)]):=⟨as++[a2],by rw[<-hH4,aB,aMU];rfl,eK (F:=fun(a:Addr) (xb:Itm×Nat)=>jD A.bZ H4 a xb.1 xb.2) (a:=a2) (b:=(x,b)) hx4 (mR.but aAX vq b4)⟩
    have hm4:H4 lm=some (.lst ms):=b4 _ _ Nl npm.symm;have ht4:=aS.but t8 vq b4;obtain⟨dx,na,h1,h2⟩:=hx4;refine⟨_,rfl,a2,_,dx,_,_,rfl,h1,T.bV,T.cO,dY _ _ _,rfl,_,rfl,?_⟩;have GQ:ms.length<=1000:=by
     have e1:=aS.length t8;have e2:(zE acc).length<=acc.length:=by
      unfold zE;rw[aLx];exact aM3 (aOx _ _) (by rw[aLx];exact aMG _)
     omega
    refine cA (λh3=>?_) (λh3=>?_)
    ·obtain⟨n,rfl⟩:=oN (vEq h3)
     refine⟨_,rfl,.inl ⟨rfl,_,aZ.of hm4⟩,_,rfl,a2,_,dx,_,_,rfl,h1,T.bV,T.j5,uR _ _ _,lm,_,_,rfl,rfl,hm4,bB GQ,?_⟩
     have b5:JW lm H4 (upd H4 lm (.lst (ms++[V.ref na]))):=cD;obtain⟨as4,q1,q2⟩:=p4;refine⟨lp,lm,acc++[(.mark n,b)],.mark n,b,m,a2,rfl,?_,?_,e0.symm,by omega,hbt,by rw[aMH];show _+1<=_;omega,fun σ' H' q=>⟨m,by omega,q⟩⟩
     ·refine⟨bI s4 nH,⟨as4,b5 _ _ q1 npm,mR.but q2 hm4 b5⟩,_,aB,?_⟩
      rw[Aa]
      exact eK ⟨na,rfl,mL.but h2 hm4 b5⟩ (aS.but ht4 hm4 b5)
     ·exact jD.but ⟨dx,na,h1,h2⟩ hm4 b5
    ·have h3:=GS h3;refine⟨lp,lm,acc++[(x,b)],x,b,m,a2,rfl,?_,?_,e0.symm,by omega,hbt,by rw[aMH];show _+1<=_;omega,fun σ' H' q=>⟨m,by omega,q⟩⟩
     ·refine⟨s4,p4,ms,hm4,?_⟩
      rw[Aa,HG h3,aOE,aMc]
      exact ht4
     ·exact⟨dx,na,h1,h2⟩
def Dk(t:List Int)(q:List (Itm×Nat)):Int:=if fD t (uE q)=t.length then 0 else((fD t (uE q)+1:Nat):Int)
inductive cp(A:jK)(K:aMC)(vs:List V)(H:Hp)(Q:VK)(E:XK):Prop
 |mk:∀(a l:Addr) (t:List Int) (q:List (Itm×Nat)),vs=[.ref a,.ref l]->IL K H a t->c6 A.bZ H l q->Q (.int (Dk t q)) H->cp A K vs H Q E
def MP(T:Txt K mg A):bQ P w K mg base eV 3 A.x8 A.xV ["text","parts"] (cp A K):=by
 refine T.y6.ok DY (λvs H Q E h=>?_) (λd3 A' outer s H vs Q E hr h=>?_)
 ·obtain⟨a,l,t,q,rfl,_⟩:=h;rfl
 ·obtain⟨a,l,t,q,rfl,hS,⟨as,hl,hi⟩,k⟩:=h
  have cC:(t.map V.int).length=t.length:=aLx _;refine⟨_,(aC (dE 2 DY.nd (cF T.iX (oX T) hr T.rS (rX T) (aA (pv 0) (aA (eM (CN (pv 1) (λ_=>rfl)) (aU (fO (pv 1) (CF uF aG)) rfl) aG) aD))))
   (sZ (λD σ H1=>σ=[some (.ref a),some (.ref l),some (.int (fD t (uE q):Nat))]/\H1=H/\D.rt=Q) (aF (aI (eM (aL eW (pv 2) (bJ aW (by rfl) T.eX c8 (aA (pv 0) aD)) (aP _)) aG (bH cH (pv 2) aG)))) ?cut)),?_⟩
  case cut=>
   rintro D σ H1 ⟨rfl,rfl,hD⟩;refine⟨_,rfl,_,rfl,a,_,rfl,.inl hS,rfl,_,rfl,?_⟩;unfold Dk at k;refine cA (λh1=>?_) (λh1=>?_)
   ·have h1:=vEq h1;rw[if_pos (by omega)]at k
    show D.rt _ _;rw[hD];exact k
   ·have h1:=GS h1;rw[if_neg (by omega)]at k
    refine⟨_,rfl,_,_,rfl,rfl,?_⟩
    show D.rt _ _;rw[hD];exact k
  refine⟨_,rfl,_,rfl,_,.inl ⟨_,aZ.of hl,rfl⟩,?_⟩
  rcases aPE as with rfl|⟨bs,z,rfl⟩
  ·cases hi;exact cG ⟨a,t,0,rfl,hS,rfl,rfl,rfl⟩
  ·rw[aPF]at hl hi
   have y8:(!((bs++[z]).map V.ref).isEmpty)=true:=by simp
   obtain⟨⟨x,b⟩,hx1,dx,na,h1,h2⟩:=dU hi (i:=bs.length) (a:=z) (by simp)
   have hql:=bG hi;have Y9:uE q=b:=by
    unfold uE;have:q.getLast?=some (x,b):=by
     rw[aPO]
     rw[aMH]at hql
     have e:q.length-1=bs.length:=by have:=hql;simp at this;omega
     rw[e];exact hx1
    rw[this]
   rw[aPF]
   rw[y8]
   refine bW ⟨_,rfl,_,rfl,l,_,_,_,rfl,rfl,aZ.of hl,?_,z,_,dx,_,_,rfl,h1,T.bV,T.hW,mS _ _ _,a,t,b,rfl,hS,?_⟩
   ·rw[aMU];exact CK _ _
   ·rw[Y9];exact⟨rfl,rfl,rfl⟩
inductive Wl(K:aMC)(vs:List V)(H:Hp)(Q:VK)(E:XK):Prop
 |mk:∀(n:Nat),vs=[.int (n:Int)]->n<=100000000->(∀(H':Hp) (r:Addr),aV H H'->H r=aP4->H' r=some (.lst ((aLz (aNY n)).map V.int))->Q (.ref r) H')->Wl K vs H Q E
def As(T:Txt K mg A):bQ P w K mg base eV 1 A.DJ A.CZ ["number"] (Wl K):=by
 refine T.rE.ok Au (λvs H Q E h=>?_) (λd3 A' outer s H vs Q E hr h=>?_)
 ·obtain⟨n,rfl,_⟩:=h;rfl
 ·obtain⟨n,rfl,hn,k⟩:=h
  refine⟨_,(aF (aI (GZ rfl Au.nd (aCU (hJ QN (by rfl) T.aE5 aCV (aA (pv 0) aD))) (own:=[("sign",1)]) (by show oG ["number","sign"] (aH DS) _ _;exact⟨rfl,by decide +kernel,by decide +kernel,by decide +kernel,by decide +kernel⟩) (λ_ _ _ _ _=>by exact(jN 1 Au.nd)) (λ_ _ _ _ _=>by exact vV) (λ_ _ _ _ _=>by exact(bJ tq (by rfl) T.aEQ aCM (aA (pv 1) aD)))))),?_⟩
  have hsg:(toString (n:Int):Str).cps.toList=aNY n:=by
   show(aQ6 (toString (n:Int))).cps.toList=_
   rw[signs_ofString]
   exact(JF n).symm
  have hsz:(toString (n:Int):Str).cps.size=(aNY n).length:=by rw[<-hsg,aPj]
  have aIQ:((n:Int).natAbs).log2<1920:=by
   rw[Int.natAbs_natCast]
   rcases Nat.eq_zero_or_pos n with h|h
   ·subst h;decide
   ·rw[Nat.log2_lt (by omega)]
    refine aPW hn (aNN (by decide:100000000<2 ^ 27) (Nat.pow_le_pow_right (n:=2) (i:=27) (by decide) (by omega)))
  have Y4:(aNY n).length<=9:=eF hn;refine⟨_,rfl,_,rfl,aIQ,_,rfl,λD hD=>aCX (x:=(toString (n:Int):Str)) (λi H'=>aV H H'/\H' D=some (.lst ((aLz ((aNY n).take i)).map V.int))) ?_ ?_ ?_⟩
  ·exact⟨aE hD,aB⟩
  ·rintro i c H' hc ⟨s1,hd⟩;have hc':(aNY n)[i]?=some c:=by rw[<-hsg,aPk];exact hc
   refine⟨rfl,WV ⟨_,rfl,_,rfl,rfl,_,hd,bB ?_,bI s1 hD,?_⟩⟩
   ·rw[aLx];unfold aLz;rw[aLx,aMj];omega
   ·rw[aB,bK hc',fK,aMU]
    rfl
  ·rintro H' ⟨s1,hd⟩;rw[hsz,aMe]at hd;exact k H' D s1 hD hd
inductive qf(A:jK)(vs:List V)(H:Hp)(Q:VK)(E:XK):Prop
 |mk:∀(a:Addr) (x:Itm) (b:Nat),vs=[.ref a]->jD A.bZ H a x b->mN x->(∀(H':Hp) (r:Addr),aV H H'->H r=aP4->H' r=some (.lst ((aLz (aNL x)).map V.int))->Q (.ref r) H')->qf A vs H Q E
def dH(t:aMV):(aLz t).length=t.length:=by unfold aLz;rw[aLx]
def Pn(T:Txt K mg A):bQ P w K mg base eV 2 A.DL A.DV ["item"] (qf A):=by
 refine T.DE.ok HY (λvs H Q E h=>?_) (λd3 A' outer s H vs Q E hr h=>?_)
 ·obtain⟨a,x,b,rfl,_⟩:=h;rfl
 ·obtain⟨a,x,b,rfl,⟨dx,na,h1,h2⟩,hw,k⟩:=h
  refine⟨_,(aC (bE (aL eW (aU (pv 0) rfl) (aM rfl T.AN) (aP _)) (aF (aI (bH fR (bH fR (aR (aA (aM rfl T.HV) aD)) (hJ Ar (by rfl) T.Oz Kq (aA (aU (pv 0) rfl) aD))) (aR (aA (aM rfl T.Es) aD))))) aN)
   (aC (bE (aL eW (aU (pv 0) rfl) (aM rfl T.aAq) (aP _)) (aF (aI (bH fR (bH fR (bH fR (bH fR (aR (aA (aM rfl T.HU) aD)) (cF T.rE (As T) hr T.DT (Ce T) (aA (aU (pv 0) rfl) aD))) (aR (aA (aM rfl T.XU) aD))) (cF T.rE (As T) hr T.DT (Ce T) (aA (aU (pv 0) rfl) aD))) (aR (aA (aM rfl T.Ez) aD))))) aN)
   (aC (dE 1 HY.nd (eM (aL eW (aU (pv 0) rfl) (aM rfl T.Gm) (aP _)) (aM rfl T.La) (aM rfl T.L6)))
   (sZ (λD σ H1=>∃sg:Int,σ=[some (.ref a),some (.int sg)]/\H1=H/\sg=(if iU x=0 then 121 else 63)/\iU x≠3/\iU x≠2/\D.rt=Q) (aC (bE (aL eW (aU (pv 0) rfl) aG (aP _)) (aF (aI (aR (aA (pv 1) aD)))) aN)
   (aF (aI (bH fR (cF T.rE (As T) hr T.DT (Ce T) (aA (aU (pv 0) rfl) aD)) (aR (aA (pv 1) aD)))))) ?cut)))),?_⟩
  case cut=>
   rintro D σ H1 ⟨sg,rfl,rfl,hsg,n3,n2,hD⟩;refine⟨_,rfl,a,_,dx,_,_,rfl,h1,T.bV,T.gM,lM _ _ _,rfl,_,rfl,?_⟩;have aII:∃m:Nat,(aM7 x).2=m/\aNL x=(if m=1 then[]else aNY m)++[sg.toNat]/\m<=9999/\0<=sg:=by
    cases x with
    | years m=>
     have e:sg=121:=hsg;subst e;exact⟨m,rfl,rfl,hw.2,by decide⟩
    | doubts m=>
     have e:sg=63:=hsg;subst e;exact⟨m,rfl,rfl,hw.2,by decide⟩
    |gap m k=>exact absurd rfl n2
    |mark n=>exact absurd rfl n3
   obtain⟨m,hm,hsh,hm9,hs0⟩:=aII
   have hsi:((sg.toNat:Nat):Int)=sg:=aOT hs0;refine cA (λh3=>?_) (λh3=>?_)
   ·have h3:((aM7 x).2:Int)=1:=vEq h3;have e1:m=1:=by omega
    rw[if_pos e1]at hsh
    refine⟨_,rfl,aO,λr hr=>?_⟩
    show D.rt _ _;rw[hD];refine k _ r (aE hr) hr ?_;rw[aB,hsh];show _=some (HO.lst [V.int ((sg.toNat:Nat):Int)]);rw[hsi]
   ·have h3:((aM7 x).2:Int)≠1:=GS h3;have e1:¬m=1:=by omega
    rw[if_neg e1]at hsh
    have Y4:=eF (n:=m) (by omega)
    refine⟨_,rfl,a,_,dx,_,_,rfl,h1,T.bV,T.gM,lM _ _ _,m,by rw[hm];rfl,by omega,λH2 d s2 hd0 hd=>?_⟩
    refine⟨_,rfl,aO,λg hg=>?_⟩
    have Bs:=aE (o:=.lst [V.int sg]) hg _ _ hd;refine⟨d,g,_,_,rfl,rfl,Bs,aB,?_,λr hr=>?_⟩
    ·rw[aLx,dH]
     exact aM3 (show _+1<=1000 by omega) (by decide)
    ·show D.rt _ _;rw[hD];refine k _ r (s2.trans ((aE hg).trans (aE hr))) ((s2.trans (aE hg)).free hr) ?_;rw[aB,hsh,fK,aMU];show some (HO.lst (_++[V.int sg]))=some (HO.lst (_++[V.int ((sg.toNat:Nat):Int)]));rw[hsi]
  refine⟨_,rfl,a,_,dx,_,_,rfl,h1,T.bV,T.cO,dY _ _ _,rfl,_,rfl,?_⟩
  refine cA (λh3=>?_) (λh3=>?_)
  ·obtain⟨n,rfl⟩:=oN (vEq h3)
   have h2:H na=some (HO.tup ((aLz n).map V.int)):=h2;have hnl:n.length<=6:=by
    have hw:aNW n=true:=hw;unfold aNW at hw;split at hw
    ·cases hw
    ·simp only[aM5,decide_eq_true_eq]at hw
     rw[aMT];omega
   refine⟨aO,λp1 WM=>?_⟩
   have s1:aV H (upd H p1 (.lst [V.int 40])):=aE WM;refine⟨_,rfl,a,_,dx,_,_,rfl,s1 _ _ h1,T.bV,T.j5,uR _ _ _,na,_,rfl,.inr (eE.of (s1 _ _ h2)),λp2 Kg=>?_⟩;have e2:=aE (o:=.lst ((aLz n).map V.int)) Kg p1 _ aB;refine⟨p1,p2,_,_,rfl,rfl,e2,aB,?_,λp3 hp3=>?_⟩
   ·rw[aLx,dH]
    exact aM3 (show 1+_<=1000 by omega) (by decide)
   refine⟨aO,λp4 lz=>?_⟩
   refine⟨p3,p4,_,_,rfl,rfl,aE lz p3 _ aB,aB,?_,λp5 ll=>?_⟩
   ·rw[aMH,aLx,dH]
    exact aM3 (show 1+_+1<=1000 by omega) (by decide)
   have st:=s1.trans ((aE Kg).trans ((aE hp3).trans (aE (o:=.lst [V.int 41]) lz)));refine k _ p5 (st.trans (aE ll)) (st.free ll) ?_;rw[aB];show _=some (HO.lst ((aLz ([40]++(n++[41]))).map V.int));rw[fK,fK,aMU,aMU,aMb];rfl
  have h3:=GS h3;refine⟨_,rfl,a,_,dx,_,_,rfl,h1,T.bV,T.cO,dY _ _ _,rfl,_,rfl,?_⟩;refine cA (λh4=>?_) (λh4=>?_)
  ·have h4:=vEq h4;obtain⟨u,v,rfl⟩:∃u v,x=.gap u v:=by
    cases x with
    |gap u v=>exact⟨u,v,rfl⟩
    |years m=>exact absurd h4 (by show¬(0:Int)=2;decide)
    |doubts m=>exact absurd h4 (by show¬(1:Int)=2;decide)
    |mark m=>exact absurd h4 (by show¬(3:Int)=2;decide)
   have hu9:u<=9999:=aM3 hw.1 hw.2;have hdu:=eF (n:=u) (by omega)
   have hdv:=eF (n:=v) (by have:=hw.2;omega)
   refine⟨aO,λp1 WM=>?_⟩
   have s1:aV H (upd H p1 (.lst [V.int 60])):=aE WM;refine⟨_,rfl,a,_,dx,_,_,rfl,s1 _ _ h1,T.bV,T.qH,Cq _ _ _,u,rfl,by omega,λH2 d s2 hd0 hd=>?_⟩
   refine⟨p1,d,_,_,rfl,rfl,s2 _ _ aB,hd,?_,λp3 hp3=>?_⟩
   ·rw[aLx,dH]
    exact aM3 (show 1+_<=1000 by omega) (by decide)
   refine⟨aO,λp4 lz=>?_⟩
   refine⟨p3,p4,_,_,rfl,rfl,aE lz p3 _ aB,aB,?_,λp5 ll=>?_⟩
   ·rw[aMH,aLx,dH]
    exact aM3 (show 1+_+1<=1000 by omega) (by decide)
   have s4:=s1.trans (s2.trans ((aE hp3).trans (aE (o:=.lst [V.int 45]) lz)));refine⟨_,rfl,a,_,dx,_,_,rfl,(s4.trans (aE ll)) _ _ h1,T.bV,T.gM,lM _ _ _,v,rfl,by have:=hw.2;omega,λH6 f s6 hf0 hf=>?_⟩
   refine⟨p5,f,_,_,rfl,rfl,s6 _ _ aB,hf,?_,λp7 hp7=>?_⟩
   ·rw[aMH,aMH,aLx,aLx,dH,dH]
    exact aM3 (show 1+_+1+_<=1000 by omega) (by decide)
   refine⟨aO,λp8 hp8=>?_⟩
   refine⟨p7,p8,_,_,rfl,rfl,aE hp8 p7 _ aB,aB,?_,λp9 hp9=>?_⟩
   ·rw[aMH,aMH,aMH,aLx,aLx,dH,dH]
    exact aM3 (show 1+_+1+_+1<=1000 by omega) (by decide)
   have st:=s4.trans ((aE ll).trans (s6.trans ((aE hp7).trans (aE (o:=.lst [V.int 62]) hp8))));refine k _ p9 (st.trans (aE hp9)) (st.free hp9) ?_;rw[aB];show _=some (HO.lst ((aLz ([60]++(aNY u++([45]++(aNY v++[62]))))).map V.int));rw[fK,fK,fK,fK,aMU,aMU,aMU,aMU,aMb,aMb,aMb];rfl
  have h4:=GS h4;refine⟨_,rfl,a,_,dx,_,_,rfl,h1,T.bV,T.cO,dY _ _ _,rfl,_,rfl,?_⟩;refine cA (λh5=>?_) (λh5=>?_)
  ·exact⟨_,rfl,rfl,by rw[if_pos (vEq h5)],h3,h4,rfl⟩
  ·exact⟨_,rfl,rfl,by rw[if_neg (GS h5)],h3,h4,rfl⟩
def dX{n:Nat}(h:n<=100000):n<sizeLine:=aPW h (by decide)
def OP{x:Itm}(h:mN x):(aNL x).length<=21:=by
 cases x with
 | years m=>
  have:=eF (n:=m) (by have:=h.2;omega)
  show((if m=1 then[]else aNY m)++[121]).length<=21
  rw[aMH]
  split
  ·decide
  ·show _+1<=21;omega
 | doubts m=>
  have:=eF (n:=m) (by have:=h.2;omega)
  show((if m=1 then[]else aNY m)++[63]).length<=21
  rw[aMH]
  split
  ·decide
  ·show _+1<=21;omega
 | gap u v=>
  have h1:=eF (n:=u) (by have:=h.1;have:=h.2;omega)
  have h2:=eF (n:=v) (by have:=h.2;omega)
  show(60::(aNY u++(45::(aNY v++[62])))).length<=21
  rw[aMT,aMH,aMT,aMH]
  show _+(_+1+1)+1<=21;omega
 | mark n=>
  have h:aNW n=true:=h;unfold aNW at h;split at h
  ·cases h
  ·simp only[aM5,decide_eq_true_eq]at h
   show(40::((_::_)++[41])).length<=21
   rw[aMT,aMH,aMT]
   show _+1+1+1<=21;omega
inductive qr(A:jK)(vs:List V)(H:Hp)(Q:VK)(E:XK):Prop
 |mk:∀(l:Addr) (q:List (Itm×Nat)),vs=[.ref l]->c6 A.bZ H l q->q.length<=300->(∀z∈q,mN z.1)->(∀(H':Hp) (r:Addr),aV H H'->H r=aP4->H' r=some (.lst ((aLz (aOA (q.map (·.1)))).map V.int))->(aOA (q.map (·.1))).length<=10000->Q (.ref r) H')->qr A vs H Q E
def QM(T:Txt K mg A):bQ P w K mg base eV 3 A.C0 A.DH ["parts"] (qr A):=by
 refine T.DO.ok BF (λvs H Q E h=>?_) (λd3 A' outer s H vs Q E hr h=>?_)
 ·obtain⟨l,q,rfl,_⟩:=h;rfl
 ·obtain⟨l,q,rfl,⟨as,hl,hi⟩,Zz,hw,k⟩:=h
  refine⟨_,(aC (dE 1 BF.nd (aR aD))
   (aC (cT aP5 rfl (cI (pv 0)) (jN 2 BF.nd) (aC (bE (CN (pv 1) (λ_=>rfl)) (aF (cS (e9 aMa aMr aMs cR (pv 1) (aA (aM rfl T.dv) aD)))) aN)
   (sZ (λD σ H2=>∃(r a:Addr) (x:Itm) (b:Nat) (acc:List Int),σ=[some (.ref l),some (.ref r),some (.ref a)]/\H r=aP4/\aV H H2/\H2 r=some (.lst (acc.map V.int))/\jD A.bZ H2 a x b/\mN x/\acc.length<=10000/\∀H3,aV H H3->H3 r=some (.lst ((acc++aLz (aNL x)).map V.int))->D.nx σ H3) (aF (cS (e9 aMa aOH aOI zO (pv 1) (aA (cF T.DE (Pn T) hr T.X3 (Xk T) (aA (pv 2) aD)) aD)))) ?cut)))
   (aF (aI (pv 1))))),?_⟩
  case cut=>
   rintro D σ H2 ⟨r,a,x,b,acc,rfl,Oi,s2,h2,hx,hwx,Oe,hN⟩;refine⟨_,rfl,.inl ⟨rfl,_,aZ.of h2⟩,_,rfl,a,x,b,rfl,hx,hwx,λH3 d s3 hd0 hd=>?_⟩;have CB:=OP hwx;refine⟨r,d,_,_,rfl,rfl,s3 _ _ h2,hd,?_,?_⟩
   ·rw[aLx,aLx,dH]
    exact aMm (dX (by omega))
   ·exact hN _ (bI (s2.trans s3) Oi) (by rw[aB,aMU])
  refine⟨aM1 _,λr hr=>?_⟩
  have IF:=bG hi;refine⟨_,rfl,l,rfl,⟨_,aZ.of (aE hr _ _ hl)⟩,cW (K:=K) (a:=l) (xs:=as.map V.ref)
   (λi σ H'=>∃v:Option V,σ=[some (.ref l),some (.ref r),v]/\aV H H'/\H' r=some (.lst ((((q.take i).map fun(z:Itm×Nat)=>z.1).foldl sW []).map V.int))/\((((q.take i).map fun(z:Itm×Nat)=>z.1).foldl sW [])).length<=22*i) ?_ ?_ ?_ ?_⟩
  ·exact⟨none,rfl,aE hr,aB,aMG _⟩
  ·rintro i σ H' _ ⟨v,_,s1,_⟩;exact aZ.of (s1 _ _ hl)
  ·rintro i y σ H' hy ⟨v,rfl,s1,h1,cC⟩;obtain⟨a,ha,rfl⟩:=iK hy;obtain⟨⟨x,b⟩,hx,vJ⟩:=dU hi ha;have T6:i<q.length:=(aM0.mp hx).1;have hwx:mN x:=hw (x,b) (aMZ hx);have CB:=OP hwx;have etk:((q.take (i+1)).map fun(z:Itm×Nat)=>z.1).foldl sW []=sW (((q.take i).map fun(z:Itm×Nat)=>z.1).foldl sW []) x:=by
    rw[bK hx,aMU,aOK];rfl
   generalize By:((q.take i).map fun(z:Itm×Nat)=>z.1).foldl sW []=acc at h1 cC etk;have hnx:∀acc',acc'=(if acc=[]then acc else acc++[32])->∀H3,aV H H3->H3 r=some (.lst ((acc'++aLz (aNL x)).map V.int))->
     ∃v:Option V,[some (V.ref l),some (V.ref r),some (V.ref a)]=[some (V.ref l),some (V.ref r),v]/\aV H H3/\H3 r=some (.lst ((((q.take (i+1)).map fun(z:Itm×Nat)=>z.1).foldl sW []).map V.int))/\((((q.take (i+1)).map fun(z:Itm×Nat)=>z.1).foldl sW [])).length<=22*(i+1):=by
    rintro acc' rfl H3 s3 h3;refine⟨_,rfl,s3,by rw[etk];exact h3,?_⟩
    rw[etk]
    unfold sW;rw[aMH,dH];split
    ·omega
    ·rw[aMH];show _+1+_<=_;omega
   refine⟨_,rfl,_,.inl ⟨_,aZ.of h1,rfl⟩,?_⟩
   cases acc with
   |nil=>exact cG ⟨r,a,x,b,[],rfl,hr,s1,h1,vJ.same s1,hwx,aM1 _,hnx [] rfl⟩
   | cons c acc=>
    refine bW ⟨_,rfl,.inl ⟨rfl,_,aZ.of h1⟩,r,_,_,rfl,rfl,h1,?_,?_⟩
    ·rw[aLx];exact dX (by omega)
    ·exact⟨r,a,x,b,(c::acc)++[32],rfl,hr,bI s1 hr,by rw[aB,aMU];rfl,(vJ.same s1).but h1 cD,hwx,by rw[aMH];show _+1<=_;omega,hnx _ rfl⟩
  ·rintro σ H' ⟨v,rfl,s1,h1,cC⟩;rw[aLx,IF,aMe,yg]at h1 cC;refine⟨_,rfl,k H' r s1 hr h1 ?_⟩;rw[dH]at cC;omega
def cZ(H:Hp):List V->List (Int×Int)->Prop:=Paired λv p=>∃a,v=.ref a/\H a=some (.tup [.int p.1,.int p.2])
def cZ.same{H H':Hp}{xs:List V}{ps:List (Int×Int)}(h:cZ H xs ps)(s:aV H H'):cZ H' xs ps:=dZ (λ_ _ ⟨a,e,h⟩=>⟨a,e,s _ _ h⟩) h
def cZ.but{H H':Hp}{D:Addr}{xs ys:List V}{ps:List (Int×Int)}(h:cZ H xs ps)(hD:H D=some (.lst ys))(k:JW D H H'):cZ H' xs ps:=
 dZ (λ_ _ ⟨a,e,h⟩=>⟨a,e,k _ _ h (c7 h hD (by intro z;cases z))⟩) h
inductive aAh(A:jK)(vs:List V)(H:Hp)(Q:VK)(E:XK):Prop
 |mk:∀(l:Addr) (q:List (Itm×Nat)),vs=[.ref l]->c6 A.bZ H l q->q.length<=300->(∀(H':Hp) (r:Addr) (fs:List V),aV H H'->H r=aP4->H' r=some (.lst fs)->cZ H' fs (cV 0 0 (q.map (·.1)))->Q (.ref r) H')->aAh A vs H Q E
def OW{x:Itm}(h:iU x=3)(l m:Int)(c:aMO):cV l m (x::c)=(l+((aM7 x).1:Int),m+((aM7 x).2:Int))::cV 0 0 c:=by
 obtain⟨n,rfl⟩:=oN h;rfl
def MA{x:Itm}(h:iU x≠3)(l m:Int)(c:aMO):cV l m (x::c)=cV (l+((aM7 x).1:Int)) (m+((aM7 x).2:Int)) c:=by
 cases x with
 |mark n=>exact absurd rfl h
 |years m=>rfl
 |doubts m=>rfl
 |gap m k=>rfl
def G2{α:Type}{l:List α}{i:Nat}{x:α}(h:l[i]?=some x):l.drop i=x::l.drop (i+1):=by
 obtain⟨hi,e⟩:=aM0.mp h
 rw[aQy hi,e]
def Hc(T:Txt K mg A):bQ P w K mg base eV 1 A.wQ A.wA ["parts"] (aAh A):=by
 refine T.mF.ok cB (λvs H Q E h=>?_) (λd3 A' outer s H vs Q E hr h=>?_)
 ·obtain⟨l,q,rfl,_⟩:=h;rfl
 ·obtain⟨l,q,rfl,⟨as,hl,hi⟩,Zz,k⟩:=h
  refine⟨_,(aC (dE 1 cB.nd (aR aD))
   (aC (dE 2 cB.nd aG)
   (aC (dE 3 cB.nd aG)
   (aC (cT aP5 rfl (cI (pv 0)) (jN 4 cB.nd) (aC (CI (i:=2) cB.nd rfl (aQB rfl) (aU (pv 4) rfl) FX)
   (aC (CI (i:=3) cB.nd rfl (aQB rfl) (aU (pv 4) rfl) FX)
   (aF (bE (aL eW (aU (pv 4) rfl) (aM rfl T.AN) (aP _)) (aC (cS (e9 aMa aMr aMs cR (pv 1) (aA (gC (aA (pv 2) (aA (pv 3) aD))) aD)))
   (aC (dE 2 cB.nd aG)
   (aF (dE 3 cB.nd aG)))) aN)))))
   (aC (cS (e9 aMa aMr aMs cR (pv 1) (aA (gC (aA (pv 2) (aA (pv 3) aD))) aD)))
   (aF (aI (pv 1)))))))),?_⟩
  refine⟨aM1 _,λr hr=>?_⟩
  have IF:=bG hi;refine⟨_,rfl,l,rfl,⟨_,aZ.of (aE hr _ _ hl)⟩,cW (K:=K) (a:=l) (xs:=as.map V.ref)
   (λi σ H'=>∃(v:Option V) (lo hi:Int) (fs:List V) (ps:List (Int×Int)),σ=[some (.ref l),some (.ref r),some (.int lo),some (.int hi),v]/\aV H H'/\H' r=some (.lst fs)/\fs.length<=i/\cZ H' fs ps/\ps++cV lo hi ((q.drop i).map fun(z:Itm×Nat)=>z.1)=cV 0 0 (q.map fun(z:Itm×Nat)=>z.1)) ?_ ?_ ?_ ?_⟩
  ·exact⟨none,0,0,[],[],rfl,aE hr,aB,aMG _,.nil,rfl⟩
  ·rintro i σ H' _ ⟨v,_,_,_,_,_,s1,_⟩;exact aZ.of (s1 _ _ hl)
  ·rintro i y σ H' hy ⟨v,lo,hh,fs,ps,rfl,s1,h1,T7,JV,he⟩;obtain⟨a,ha,rfl⟩:=iK hy;obtain⟨⟨x,b⟩,hx,vJ⟩:=dU hi ha;have T6:i<q.length:=(aM0.mp hx).1;obtain⟨dx,na,g1,g2⟩:=vJ.same s1;rw[G2 hx,aM2]at he;refine⟨_,rfl,_,rfl,a,_,dx,_,_,rfl,g1,T.bV,T.qH,Cq _ _ _,_,_,rfl,rfl,?_⟩;refine⟨_,rfl,_,rfl,a,_,dx,_,_,rfl,g1,T.bV,T.gM,lM _ _ _,_,_,rfl,rfl,?_⟩;refine⟨_,rfl,a,_,dx,_,_,rfl,g1,T.bV,T.cO,dY _ _ _,rfl,_,rfl,?_⟩;refine cA (λh3=>?_) (λh3=>?_)
   ·rw[OW (vEq h3)]at he
    refine⟨_,rfl,.inl ⟨rfl,_,aZ.of h1⟩,_,rfl,_,rfl,pZ,λt ht=>?_⟩
    have hb:=aE (o:=.tup [.int (lo+((aM7 x).1:Int)),.int (hh+((aM7 x).2:Int))]) ht;have h1':=hb _ _ h1;refine⟨r,_,_,rfl,rfl,h1',bB (by omega),?_⟩
    refine⟨_,0,0,fs++[V.ref t],ps++[(lo+((aM7 x).1:Int),hh+((aM7 x).2:Int))],rfl,bI (s1.trans hb) hr,aB,by rw[aMH];show _+1<=_;omega,?_,?_⟩
    ·refine eK ⟨t,rfl,?_⟩ (cZ.but (cZ.same JV hb) h1' cD);rw[aT (aJ h1 ht).symm];exact aB
    ·rw[aMb];exact he
   ·rw[MA (GS h3)]at he
    exact⟨_,_,_,fs,ps,rfl,s1,h1,by omega,JV,he⟩
  ·rintro σ H' ⟨v,lo,hh,fs,ps,rfl,s1,h1,T7,JV,he⟩;rw[aLx,IF]at T7 he;rw[aOf]at he;refine⟨_,rfl,.inl ⟨rfl,_,aZ.of h1⟩,_,rfl,_,rfl,pZ,λt ht=>?_⟩;have hb:=aE (o:=.tup [.int lo,.int hh]) ht;have h1':=hb _ _ h1;refine⟨r,_,_,rfl,rfl,h1',bB (by omega),?_⟩
   refine⟨_,rfl,k _ r _ (bI (s1.trans hb) hr) hr aB ?_⟩
   rw[<-he]
   refine eK ⟨t,rfl,?_⟩ (cZ.but (cZ.same JV hb) h1' cD);rw[aT (aJ h1 ht).symm];exact aB
def fE(lp:Addr)(on:Bool):List (Str×V):=[("parts",.ref lp),("counted",.bl on)]
def lK(k:Nat)(a:Int)(o t:Addr)(on:Bool):List (Str×V):=[("kind",.int (k:Int)),("years",.int a),("one",.ref o),("two",.ref t),("on",.bl on)]
def uB(lc lt:Addr):List (Str×V):=[("cores",.ref lc),("things",.ref lt)]
def fQ(A:jK)(H:Hp)(a:Addr)(p:aMx):Prop:=∃(dc lp:Addr) (q:List (Itm×Nat)),H a=some (.ins A.dP dc (fE lp p.on))/\c6 A.bZ H lp q/\q.map (λz=>z.1)=p.core
def IJ(A:jK)(H:Hp)(v:V):Option aMx->Prop
 |none=>v=.non
 |some p=>∃a,v=.ref a/\fQ A H a p
def AS(A:jK)(H:Hp)(a:Addr)(x:aNI):Prop:=∃dt o t:Addr,H a=some (.ins A.eJ dt (lK x.kind x.a o t x.on))/\mL H o x.one/\mL H t x.two
theorem fQ.same{A:jK}{H H':Hp}{a:Addr}{p:aMx}(h:fQ A H a p)(s:aV H H'):fQ A H' a p:=by
 obtain⟨dc,lp,q,h1,h2,h3⟩:=h
 exact⟨dc,lp,q,s _ _ h1,h2.same s,h3⟩
theorem IJ.same{A:jK}{H H':Hp}{v:V}{o:Option aMx}(h:IJ A H v o)(s:aV H H'):IJ A H' v o:=by
 cases o with
 |none=>exact h
 | some p=>
  obtain⟨a,e,h⟩:=(show ∃a,v=.ref a/\fQ A H a p from h)
  exact⟨a,e,h.same s⟩
def AS.same{A:jK}{H H':Hp}{a:Addr}{x:aNI}(h:AS A H a x)(s:aV H H'):AS A H' a x:=by
 obtain⟨dt,o,t,h1,h2,h3⟩:=h
 exact⟨dt,o,t,s _ _ h1,s _ _ h2,s _ _ h3⟩
def iM(A:jK)(H:Hp)(l:Addr)(cs:List V)(ps:List (Option aMx)):Prop:=H l=some (.lst cs)/\Paired (IJ A H) cs ps
def iW(A:jK)(H:Hp)(l:Addr)(ts:List Addr)(xs:List aNI):Prop:=H l=some (.lst (ts.map V.ref))/\Paired (AS A H) ts xs
theorem iM.same{A:jK}{H H':Hp}{l:Addr}{cs:List V}{ps:List (Option aMx)}(h:iM A H l cs ps)(s:aV H H'):iM A H' l cs ps:=⟨s _ _ h.1,dZ (λ_ _ q=>q.same s) h.2⟩
theorem iW.same{A:jK}{H H':Hp}{l:Addr}{ts:List Addr}{xs:List aNI}(h:iW A H l ts xs)(s:aV H H'):iW A H' l ts xs:=⟨s _ _ h.1,dZ (λ_ _ q=>q.same s) h.2⟩
def GY(ns:List aMV):List (List Key×V):=ns.map λt=>((aLz t).map aPd,V.bl true)
def cy(l:List Int):(l.map (aPd:Int->Key)).map kV=l.map V.int:=by rw[aNn];rfl
theorem Km:∀{a b:List Int},a.map (aPd:Int->Key)=b.map aPd->a=b
 |[],[],_=>rfl
 |[],_::_,h=>by simp at h
 |_::_,[],h=>by simp at h
 | x::a,y::b,h=>by
  simp only[aM2,aPX.injEq]at h
  have e:x=y:=by injection h.1
  rw[e,Km h.2]
def gf(ns:List aMV):(GY ns).map (·.1)=ns.map λt=>(aLz t).map aPd:=by unfold GY;rw[aNn];rfl
def mL.key{H:Hp}{a:Addr}{t:aMV}(h:mL H a t):H a=some (.tup (((aLz t).map (aPd:Int->Key)).map kV)):=by rw[cy];exact h
def gp(ns:List aMV)(n:aMV):putK (GY ns) ((aLz n).map aPd) (V.bl true)=GY (KQ ns n):=by
 have aAC:(GY ns).any (λkv=>decide (kv.1=(aLz n).map aPd))=ns.contains n:=by
  unfold GY
  induction ns with
  |nil=>rfl
  | cons a ns ih=>
   rw[aM2,aNm,ih,aOl]
   congr 1
   by_cases e:n=a
   ·subst e;simp
   ·have:¬(aLz a).map (aPd:Int->Key)=(aLz n).map aPd:=λq=>e (Gq (Km q)).symm
    simp[this,e]
 unfold putK;rw[aAC];unfold KQ;by_cases h:ns.contains n=true
 ·rw[if_pos h,if_pos h]
  conv=>rhs;rw[<-List.map_id (GY ns)]
  apply List.map_congr_left;intro kv hkv;unfold GY at hkv;obtain⟨t,_,rfl⟩:=aNG.1 hkv;split<;>rfl
 ·rw[if_neg h,if_neg h]
  unfold GY;rw[aMU];rfl
def aS.butD{H H':Hp}{D:Addr}{xs:List V}{bU:List (List Key×V)}{iT:List (List Int)}(h:aS H xs iT)(hD:H D=some (.dT bU))(k:JW D H H'):aS H' xs iT:=
 dZ (λ_ _ ⟨a,e,h⟩=>⟨a,e,k _ _ h (c7 h hD (by intro z;cases z))⟩) h
theorem OC{H:Hp}:∀{ms:List V} {ns:List aMV},ZA H ms (ns.map λt=>(aLz t).map aPd)->aS H ms (ns.map aLz)
 |[],[],_=>.nil
 |[],_::_,h=>by cases h
 |_::_,[],h=>by cases h
 |m::ms,n::ns,.cons ⟨a,e,h⟩ t=>.cons ⟨a,e,by rw[cy]at h;exact h⟩ (OC t)
def ye(l:List aMV):(l.foldl KQ []).length<=l.length:=by rw[<-E1];exact KD l
inductive om(C:Addr)(vs:List V)(H:Hp)(Q:VK)(E:XK):Prop
 |mk:∀(x dx lp:Addr),vs=[.ref x,.ref lp]->H x=some (.ins C dx [])->Q .non (upd H x (.ins C dx (fE lp true)))->om C vs H Q E
def QL(T:Txt K mg A):bQ P w K mg base eV 1 A.CV A.CY ["self","parts"] (om A.dP):=by
 refine T.J1.ok Pw (λvs H Q E h=>?_) (λd3 A' outer s H vs Q E hr h=>?_)
 ·obtain⟨x,dx,lp,rfl,_⟩:=h;rfl
 ·obtain⟨x,dx,lp,rfl,hx,q⟩:=h
  refine⟨_,(aC (gO (pv 0) (pv 1) rfl)
   (aF (gO (pv 0) jQ rfl))),?_⟩
  refine⟨_,rfl,_,rfl,x,_,dx,_,rfl,hx,T.kZ,T.fL,by show 0<1000;decide,?_⟩
  refine⟨_,rfl,x,_,dx,_,rfl,aB,T.kZ,T.lA,by show 1<1000;decide,?_⟩
  rw[j0]
  exact q
inductive fb(C:Addr)(vs:List V)(H:Hp)(Q:VK)(E:XK):Prop
 |mk:∀(x dx o t:Addr) (k:Nat) (a:Int),vs=[.ref x,.int (k:Int),.int a,.ref o,.ref t]->H x=some (.ins C dx [])->Q .non (upd H x (.ins C dx (lK k a o t true)))->fb C vs H Q E
def N3(T:Txt K mg A):bQ P w K mg base eV 1 A.BK A.BJ ["self","kind","years","one","two"] (fb A.eJ):=by
 refine T.HM.ok NN (λvs H Q E h=>?_) (λd3 A' outer s H vs Q E hr h=>?_)
 ·obtain⟨x,dx,o,t,k,a,rfl,_⟩:=h;rfl
 ·obtain⟨x,dx,o,t,k,a,rfl,hx,q⟩:=h
  refine⟨_,(aC (gO (pv 0) (pv 1) rfl)
   (aC (gO (pv 0) (pv 2) rfl)
   (aC (gO (pv 0) (pv 3) rfl)
   (aC (gO (pv 0) (pv 4) rfl)
   (aF (gO (pv 0) jQ rfl)))))),?_⟩
  refine⟨_,rfl,_,rfl,x,_,dx,_,rfl,hx,T.cN,T.kU,by show 0<1000;decide,?_⟩
  refine⟨_,rfl,_,rfl,x,_,dx,_,rfl,aB,T.cN,T.fY,by show 1<1000;decide,?_⟩
  refine⟨_,rfl,_,rfl,x,_,dx,_,rfl,aB,T.cN,T.tE,by show 2<1000;decide,?_⟩
  refine⟨_,rfl,_,rfl,x,_,dx,_,rfl,aB,T.cN,T.mU,by show 3<1000;decide,?_⟩
  refine⟨_,rfl,x,_,dx,_,rfl,aB,T.cN,T.jW,by show 4<1000;decide,?_⟩
  rw[j0,j0,j0,j0]
  exact q
inductive XA(C:Addr)(vs:List V)(H:Hp)(Q:VK)(E:XK):Prop
 |mk:∀(x dx:Addr),vs=[.ref x]->H x=some (.ins C dx [])->(∀(H':Hp) (lc lt:Addr),(∀b o,H b=some o->b≠x->H' b=some o)->H lc=aP4->H lt=aP4->lc≠lt->H' x=some (.ins C dx (uB lc lt))->H' lc=some (.lst [.non,.non,.non,.non])->H' lt=some (.lst [])->Q .non H')->XA C vs H Q E
def D6(T:Txt K mg A):bQ P w K mg base eV 1 A.yE A.xS ["self"] (XA A.dQ):=by
 refine T.FJ.ok MG (λvs H Q E h=>?_) (λd3 A' outer s H vs Q E hr h=>?_)
 ·obtain⟨x,dx,rfl,_⟩:=h;rfl
 ·obtain⟨x,dx,rfl,hx,q⟩:=h
  refine⟨_,(aC (gO (pv 0) (bH LC (aR (aA kO aD)) (aM rfl T.Ay)) rfl)
   (aF (gO (pv 0) (aR aD) rfl))),?_⟩
  refine⟨aO,λl1 h1=>?_⟩
  refine⟨l1,4,[.non],rfl,rfl,aB,by decide,by decide,by show 1*4<=sizeLine;decide,λlc hc=>?_⟩
  have n1:x≠l1:=aJ hx h1;have nc:x≠lc:=aJ (aE h1 _ _ hx) hc;refine⟨_,rfl,x,_,dx,_,rfl,by rw[aT nc,aT n1];exact hx,T.bA,T.bD,by show 0<1000;decide,?_⟩
  refine⟨aM1 _,λlt ht=>?_⟩
  have nt:x≠lt:=aJ aB ht;refine⟨_,rfl,x,_,dx,_,rfl,by rw[aT nt];exact aB,T.bA,T.bC,by show 1<1000;decide,?_⟩
  have ct:lc≠lt:=by
   refine aJ (o:=.lst [.non,.non,.non,.non]) ?_ ht;rw[aT nc.symm];exact aB
  have Mh:H lc=aP4:=(aE h1).free hc;have jZ:H lt=aP4:=by
   have:(upd (upd H l1 (.lst [V.non])) lc (.lst (aMF (4:Int).toNat [V.non]).flatten)) lt=aP4:=by rw[aT nt.symm]at ht;exact ht
   exact((aE h1).trans (aE hc)).free this
  refine q _ lc lt ?_ Mh jZ ct aB ?_ ?_
  ·intro b o e hb;rw[aT hb,aT (aJ e jZ),aT hb,aT (aJ e Mh),aT (aJ e h1)];exact e
  ·rw[aT nc.symm,aT ct,aT nc.symm];exact aB
  ·rw[aT nt.symm];exact aB
def cn:Option aMx->List aMV
 |some x=>aMD x.core
 |none=>[]
def tn(x:aNI):List aMV:=if x.kind<=1 then[x.one]else[x.one,x.two]
def Xn(s:aMA):aMI s=(s.cores.flatMap cn++s.said.flatMap tn).foldl KQ []:=by
 rw[<-E1]
 unfold aMI;congr 2
theorem cQ{α β:Type}(f:α->List β)(m:Nat):∀(l:List α),(∀x∈l,(f x).length<=m)->(l.flatMap f).length<=m*l.length
 |[],_=>by simp
 | a::l,h=>by
  rw[aNC,aMH,aMT,Nat.mul_succ]
  have h1:=h a aMN;have h2:=cQ f m l λx hx=>h x (aMM _ hx);omega
def mT(c:aMO):(aMD c).length<=c.length:=by unfold aMD;exact aOx _ _
def aCP(x:aNI):(tn x).length<=2:=by unfold tn;split<;>simp
structure Dn(ps:List (Option aMx))(xs:List aNI):Prop where
 four:ps.length<=4
 core:∀p,some p∈ps->p.core.length<=300
 lb:xs.length<=13
 one:∀x∈xs,x.kind<=1->x.two=[]
 two:∀x∈xs,¬x.kind<=1->x.two≠[]
def aBo{ps:List (Option aMx)}{xs:List aNI}(h:Dn ps xs):∀o∈ps,(cn o).length<=300:=by
 intro o ho;cases o with
 |none=>exact aM1 _
 |some p=>exact aM3 (mT _) (h.core p ho)
def rn{ps:List (Option aMx)}{xs:List aNI}(h:Dn ps xs){l:List aMV}(hl:∃r,l++r=ps.flatMap cn++xs.flatMap tn):(l.foldl KQ []).length<=10000:=by
 obtain⟨r,hr⟩:=hl
 have h0:=ye l;have h1:=cQ cn 300 ps (aBo h);have h2:=cQ tn 2 xs λx _=>aCP x;have h3:=congrArg aMi hr;rw[aMH,aMH]at h3;have h4:=h.four;have h5:=h.lb;omega
inductive cb(A:jK)(vs:List V)(H:Hp)(Q:VK)(E:XK):Prop
 |mk:∀(lc lt:Addr) (cs:List V) (ts:List Addr) (ps:List (Option aMx)) (xs:List aNI),vs=[.ref lc,.ref lt]->iM A H lc cs ps->iW A H lt ts xs->Dn ps xs->(∀(H':Hp) (r:Addr) (ms:List V),aV H H'->H r=aP4->H' r=some (.lst ms)->aS H' ms ((aMI ⟨ps,xs⟩).map aLz)->Q (.ref r) H')->cb A vs H Q E
def gJ(T:Txt K mg A):bQ P w K mg base eV 2 A.Fu A.FZ ["cores","things"] (cb A):=by
 refine T.fU.ok rD (λvs H Q E h=>?_) (λd3 A' outer s H vs Q E hr h=>?_)
 ·obtain⟨lc,lt,cs,ts,ps,xs,rfl,_⟩:=h;rfl
 ·obtain⟨lc,lt,cs,ts,ps,xs,rfl,⟨Mh,hcs⟩,⟨jZ,hts⟩,eI,k⟩:=h
  have hu:=Nt hr;refine⟨_,(aC (dE 2 rD.nd LU)
   (aC (cT aP5 rfl (cI (pv 0)) (jN 3 rD.nd) (aF (bE (gY (vU (pv 3))) (aF (cT aP5 rfl (cI (cF T.lP (DM T) hr T.A0 (Ah T) (aA (aU (pv 3) rfl) aD))) (jN 4 rD.nd) (aF (Gd hu (pv 2) (pv 4) jQ rfl)))) aN)))
   (aC (cT aP5 rfl (cI (pv 1)) (jN 5 rD.nd) (aC (Gd hu (pv 2) (aU (pv 5) rfl) jQ rfl)
   (aF (bE (CN (aU (pv 5) rfl) (λ_=>rfl)) (aF (Gd hu (pv 2) (aU (pv 5) rfl) jQ rfl)) aN))))
   (aF (aI (hJ (QT rfl) (by rfl) T.Oz Kq (aA (pv 2) aD))))))),?_⟩
  refine λd hd=>?_;have Y6:=bG hcs;have ma:=bG hts
  let At:Hp->List aMV->Prop:=λH' l=>aV H H'/\H' d=some (.dT (GY (l.foldl KQ [])))
  have put:∀{H':Hp} {l r:List aMV} {na:Addr} {n:aMV},At H' l->mL H' na n->l++r=ps.flatMap cn++xs.flatMap tn->At (upd H' d (.dT (putK (GY (l.foldl KQ [])) ((aLz n).map aPd) (V.bl true)))) (l++[n]):=by
   rintro H' l r na n ⟨s1,h1⟩ hn hl;refine⟨bI s1 hd,?_⟩;rw[aB,gp,aOK];rfl
  have lb:∀{l r:List aMV},l++r=ps.flatMap cn++xs.flatMap tn->(GY (l.foldl KQ [])).length<sizeLine:=by
   intro l r hl;have:=rn eI ⟨r,hl⟩;unfold GY;rw[aLx];exact dX (by omega)
  refine⟨_,rfl,lc,rfl,⟨_,aZ.of (aE hd _ _ Mh)⟩,cW (K:=K) (a:=lc) (xs:=cs)
   (λi σ H'=>∃v3 v4:Option V,σ=[some (.ref lc),some (.ref lt),some (.ref d),v3,v4,none]/\At H' ((ps.take i).flatMap cn)) ?_ ?_ ?_ ?_⟩
  ·exact⟨none,none,rfl,aE hd,aB⟩
  ·rintro i σ H' _ ⟨_,_,_,s1,_⟩;exact aZ.of (s1 _ _ Mh)
  ·rintro i y σ H' hy ⟨v3,v4,rfl,hAt⟩;obtain⟨o,ho,CB⟩:=dU hcs hy;have etk:(ps.take (i+1)).flatMap cn=(ps.take i).flatMap cn++cn o:=by rw[bK ho,aNo,aNC];simp
   have Oh:∀j,((ps.take i).flatMap cn++(cn o).take j)++((cn o).drop j++((ps.drop (i+1)).flatMap cn++xs.flatMap tn))=ps.flatMap cn++xs.flatMap tn:=by
    intro j;have e1:ps=ps.take i++(o::ps.drop (i+1)):=by rw[<-G2 ho];exact(aQY i ps).symm
    conv=>rhs;rw[e1,aNo,aNC]
    rw[<-aMb,aMb _ _ ((cn o).drop j),aQY]
    simp only[aMb]
   refine⟨_,rfl,_,rfl,?_⟩
   cases o with
   | none=>
    cases(show y=.non from CB)
    refine cG ⟨_,_,rfl,?_⟩;rw[etk];show At H' (_++[]);rw[aMc];exact hAt
   | some p=>
    obtain⟨a,rfl,IG⟩:=(show ∃a,y=.ref a/\fQ A H a p from CB)
    obtain⟨s1,lu⟩:=hAt
    obtain⟨dc,lp,q,h1,h2,h3⟩:=IG.same s1
    have hq:q.length<=300:=by
     have:=congrArg aMi h3
     rw[aLx]at this
     rw[this]
     exact eI.core p (aMZ ho)
    refine bW ⟨_,rfl,a,_,dc,_,_,rfl,h1,T.kZ,T.fL,rfl,lp,q,rfl,h2,by omega,λH2 r2 ms s2 uz Nl t8=>?_⟩
    have ly:zE q=(cn (some p)).map aLz:=by unfold zE;rw[h3];rfl
    rw[ly]at t8
    have GQ:ms.length=(cn (some p)).length:=by rw[aS.length t8,aLx]
    refine⟨r2,rfl,⟨_,aZ.of Nl⟩,cW (K:=K) (a:=r2) (xs:=ms)
     (λj σ H3=>∃v4:Option V,σ=[some (.ref lc),some (.ref lt),some (.ref d),some (.ref a),v4,none]/\H3 r2=some (.lst ms)/\aS H3 ms ((cn (some p)).map aLz)/\At H3 ((ps.take i).flatMap cn++(cn (some p)).take j)) ?_ ?_ ?_ ?_⟩
    ·refine⟨v4,rfl,Nl,t8,s1.trans s2,?_⟩
     rw[aPC,aMc]
     exact s2 _ _ lu
    ·rintro j σ H3 _ ⟨_,_,h,_⟩;exact aZ.of h
    ·rintro j z σ H3 hz ⟨v4',rfl,hr3,Yc,aAQ⟩;have Ke:j<(cn (some p)).length:=by rw[<-GQ];exact(aM0.mp hz).1
     obtain⟨n,hn⟩:∃n,(cn (some p))[j]?=some n:=⟨_,aMK Ke⟩
     obtain⟨na,B5,lq⟩:=aS.get Yc (i:=j) (ns:=aLz n) (by rw[aM4,hn];rfl)
     rw[hz]at B5
     injection B5 with B5;subst B5;obtain⟨s3,xr⟩:=aAQ;refine⟨_,rfl,_,rfl,d,_,rfl,Ms.t (k:=(aLz n).map aPd) xr (mL.key lq) (lb (Oh j)),?_⟩;refine⟨_,rfl,?_,aS.butD Yc xr cD,?_⟩
     ·rw[aT (c7 hr3 xr (by intro z;cases z))];exact hr3
     ·rw[bK hn,<-aMb]
      exact put ⟨s3,xr⟩ lq (Oh j)
    ·rintro σ H3 ⟨v4',rfl,_,_,aAQ⟩;rw[GQ,aMe,<-etk]at aAQ;exact⟨_,_,rfl,aAQ⟩
  ·rintro σ H' ⟨v3,v4,rfl,s1,lu⟩;rw[Y6,aMe]at lu;refine⟨_,rfl,lt,rfl,⟨_,aZ.of (s1 _ _ jZ)⟩,cW (K:=K) (a:=lt) (xs:=ts.map V.ref)
    (λi σ H'=>∃v5:Option V,σ=[some (.ref lc),some (.ref lt),some (.ref d),v3,v4,v5]/\At H' (ps.flatMap cn++(xs.take i).flatMap tn)) ?_ ?_ ?_ ?_⟩
   ·refine⟨none,rfl,s1,?_⟩
    rw[aPC,aO2,aMc]
    exact lu
   ·rintro i σ H' _ ⟨_,_,s1,_⟩;exact aZ.of (s1 _ _ jZ)
   ·rintro i y σ H' hy ⟨v5,rfl,s2,Bs⟩;obtain⟨a,ha,rfl⟩:=iK hy;obtain⟨x,hx,vN⟩:=dU hts ha;obtain⟨dt,o,t,h1,h2,h3⟩:=vN.same s2;have hxm:=aMZ hx;have etk:(xs.take (i+1)).flatMap tn=(xs.take i).flatMap tn++tn x:=by rw[bK hx,aNo,aNC];simp
    have Oh:∀u v,u++v=tn x->(ps.flatMap cn++((xs.take i).flatMap tn++u))++(v++(xs.drop (i+1)).flatMap tn)=ps.flatMap cn++xs.flatMap tn:=by
     intro u v huv;have e1:xs=xs.take i++(x::xs.drop (i+1)):=by rw[<-G2 hx];exact(aQY i xs).symm
     conv=>rhs;rw[e1,aNo,aNC,<-huv]
     simp only[aMb]
    have r1:∃v,(ps.flatMap cn++(xs.take i).flatMap tn)++v=ps.flatMap cn++xs.flatMap tn:=⟨_,by have:=Oh [] (tn x) rfl;rw[aMc]at this;exact this⟩
    obtain⟨w1,kj⟩:=r1
    refine⟨_,rfl,_,rfl,a,_,dt,_,_,rfl,h1,T.cN,T.tE,rfl,d,_,rfl,Ms.t (k:=(aLz x.one).map aPd) Bs (mL.key h2) (lb kj),?_⟩
    have A3:=put (H':=H') ⟨s2,Bs⟩ h2 kj;rw[aMb]at A3;generalize upd H' d (.dT (putK (GY ((ps.flatMap cn++(xs.take i).flatMap tn).foldl KQ [])) ((aLz x.one).map aPd) (V.bl true)))=H3 at A3;obtain⟨s3,xr⟩:=A3;obtain⟨dt3,o3,t3,g1,g2,g3⟩:=vN.same s3;refine⟨_,rfl,a,_,dt3,_,_,rfl,g1,T.cN,T.mU,rfl,_,.inr (.inl ⟨_,eE.of g3,rfl⟩),?_⟩;by_cases hk:x.kind<=1
    ·have e2:x.two=[]:=eI.one x hxm hk;have et:tn x=[x.one]:=by unfold tn;rw[if_pos hk]
     rw[e2]
     refine cG ⟨_,rfl,s3,?_⟩;rw[etk,et];exact xr
    ·have e2:=eI.two x hxm hk;have et:tn x=[x.one]++[x.two]:=by unfold tn;rw[if_neg hk];rfl
     have y8:(!((aLz x.two).map V.int).isEmpty)=true:=by
      cases hc:x.two with
      |nil=>exact absurd hc e2
      |cons c r=>rfl
     rw[y8]
     refine bW ⟨_,rfl,_,rfl,a,_,dt3,_,_,rfl,g1,T.cN,T.mU,rfl,d,_,rfl,Ms.t (k:=(aLz x.two).map aPd) xr (mL.key g3) (lb (Oh [x.one] [x.two] et.symm)),?_⟩;have A4:=put (H':=H3) ⟨s3,xr⟩ g3 (Oh [x.one] [x.two] et.symm);refine⟨_,rfl,?_⟩;rw[etk,et];simp only[aMb]at A4 ⊢;exact A4
   ·rintro σ H' ⟨v5,rfl,s2,Bs⟩;rw[aLx,ma,aMe]at Bs;refine⟨_,rfl,d,_,rfl,Bs,λr ms hr hks=>?_⟩;rw[gf]at hks;refine k _ r ms (s2.trans (aE hr)) (s2.free hr) aB ?_;rw[Xn];exact aS.same (OC hks) (aE hr)
def Kz(e:bO):List V:=[.int (e.from_:Int),.int (e.to_:Int),.int e.most,.int (e.source:Int)]
def aQ(H:Hp):List V->List bO->Prop:=Paired λv e=>∃a,v=.ref a/\H a=some (.tup (Kz e))
def aQ.same{H H':Hp}{xs:List V}{l:List bO}(h:aQ H xs l)(s:aV H H'):aQ H' xs l:=dZ (λ_ _ ⟨a,e,h⟩=>⟨a,e,s _ _ h⟩) h
def aQ.but{H H':Hp}{D:Addr}{xs ys:List V}{l:List bO}(h:aQ H xs l)(hD:H D=some (.lst ys))(k:JW D H H'):aQ H' xs l:=
 dZ (λ_ _ ⟨a,e,h⟩=>⟨a,e,k _ _ h (c7 h hD (by intro z;cases z))⟩) h
theorem Dl{α β:Type}{F:α->β->Prop}:∀{l l':List α} {m m':List β},Paired F l m->Paired F l' m'->Paired F (l++l') (m++m')
 |_,_,_,_,.nil,h=>h
 |_,_,_,_,.cons r t,h=>.cons r (Dl t h)
def jE:Nat->List aMV->List (List Key×V)
 |_,[]=>[]
 |i,t::l=>((aLz t).map aPd,V.int ((i+1:Nat):Int))::jE (i+1) l
theorem ZF:∀(i:Nat) (l:List aMV),(jE i l).length=l.length
 |_,[]=>rfl
 |i,t::l=>by rw[jE,aMT,ZF,aMT]
theorem dz:∀(i:Nat) (l:List aMV) (t:aMV),jE i (l++[t])=jE i l++[((aLz t).map aPd,V.int ((i+l.length+1:Nat):Int))]
 |i,[],t=>rfl
 | i,u::l,t=>by
  have e:i+1+l.length+1=i+(l.length+1)+1:=by omega
  rw[aO3,jE,dz,jE,aO3,aMT,e]
theorem ba:∀(i:Nat) (l:List aMV) (t:aMV),t∉l->kS (jE i l) ((aLz t).map aPd)=none
 |_,[],_,_=>rfl
 | i,u::l,t,h=>by
  have ne:¬(aLz u).map (aPd:Int->Key)=(aLz t).map aPd:=λq=>h (by rw[Gq (Km q)];exact aMN)
  have ih:=ba (i+1) l t (λq=>h (aMM _ q));unfold kS at ih ⊢;rw[jE,aOG,decide_eq_false ne];exact ih
theorem qa:∀(i:Nat) (l:List aMV) (t:aMV),t∈l->kS (jE i l) ((aLz t).map aPd)=some (V.int ((i+(1+l.findIdx λm=>m==t):Nat):Int))
 |_,[],_,h=>by cases h
 | i,u::l,t,h=>by
  rw[List.findIdx_cons]
  by_cases e:u=t
  ·subst e;unfold kS;rw[jE,aOG,decide_eq_true rfl,beq_self_eq_true];rfl
  ·have ne:¬(aLz u).map (aPd:Int->Key)=(aLz t).map aPd:=λq=>e (Gq (Km q));have hm:t∈l:=by
    rcases aMR.1 h with q|q
    ·exact absurd q.symm e
    ·exact q
   have ih:=qa (i+1) l t hm;rw[beq_eq_false_iff_ne.2 e];unfold kS at ih ⊢;rw[jE,aOG,decide_eq_false ne];refine ih.trans ?_;show some (V.int _)=some (V.int ((i+(1+(l.findIdx _+1)):Nat):Int));congr 3;omega
def AV(H:Hp)(d:Addr)(s:aMA):Prop:=H d=some (.dT (jE 0 (aMI s)))
def AV.get{H:Hp}{d a:Addr}{s:aMA}{t:aMV}(h:AV H d s)(ha:mL H a t)(ht:t∈aMI s):KS H d (.ref a) (some (V.int (aMQ s t:Nat))):=by
 have e:=qa 0 (aMI s) t ht;rw[Nat.zero_add]at e;have q:=KS.t (k:=(aLz t).map aPd) h (mL.key ha);rw[e]at q;exact q
inductive dq(K:aMC)(vs:List V)(H:Hp)(Q:VK)(E:XK):Prop
 |mk:∀(l:Addr) (ms:List V),vs=[.ref l]->aZ K H l ms->Q (.int ((9+ms.length:Nat):Int)) H->dq K vs H Q E
def D7(T:Txt K mg A):bQ P w K mg base eV 1 A.x5 A.yB ["names"] (dq K):=by
 refine T.qB.ok M9 (λvs H Q E h=>?_) (λd3 A' outer s H vs Q E hr h=>?_)
 ·obtain⟨l,ms,rfl,_⟩:=h;rfl
 ·obtain⟨l,ms,rfl,hl,k⟩:=h
  refine⟨_,(aF (aI (bH cH (bH cH aG (bJ aW (by rfl) T.eX c8 (aA (pv 0) aD))) (bH PB aG (aM rfl T.Ay))))),?_⟩
  refine⟨_,rfl,l,_,rfl,.inl hl,_,_,rfl,rfl,_,_,rfl,rfl,.inl ⟨by decide,by decide⟩,_,_,rfl,rfl,?_⟩
  have e:(1:Int)+(ms.length:Int)+2*4=((9+ms.length:Nat):Int):=by omega
  show Q (.int ((1:Int)+(ms.length:Int)+2*4)) H;rw[e];exact k
inductive aAo(A:jK)(vs:List V)(H:Hp)(Q:VK)(E:XK):Prop
 |mk:∀(s:aMA) (a d:Addr) (k:Nat) (x:aNI),vs=[.ref a,.int (k:Int),.ref d]->AS A H a x->AV H d s->x∈s.said->x.on=true->x.kind<=3->(∀(H':Hp) (r:Addr) (ls:List V),aV H H'->H r=aP4->H' r=some (.lst ls)->aQ H' ls (aMy s k x)->Q (.ref r) H')->aAo A vs H Q E
def M5(T:Txt K mg A):bQ P w K mg base eV 1 A.xJ A.yU ["thing","source","times"] (aAo A):=by
 refine T.xQ.ok vG (λvs H Q E h=>?_) (λd3 A' outer s H vs Q E hr h=>?_)
 ·obtain⟨st,a,d,k,x,rfl,_⟩:=h;rfl
 ·obtain⟨st,a,d,k,x,rfl,⟨dt,o,t,h1,h2,h3⟩,hd,hx,vL,hk3,q⟩:=h
  have hu:=Nt hr;refine⟨_,(aC (dE 3 vG.nd (Gg hu (pv 2) (aU (pv 0) rfl) (λ_ _=>rfl)))
   (aC (bE (aL eW (aU (pv 0) rfl) aG (aP _)) (aF (aI (aR (aA (gC (aA (pv 3) (aA (aM rfl T.mE) (aA (CF uF (aU (pv 0) rfl)) (aA (pv 1) aD))))) aD)))) aN)
   (aC (bE (aL eW (aU (pv 0) rfl) aG (aP _)) (aF (aI (aR (aA (gC (aA (aM rfl T.mE) (aA (pv 3) (aA (aU (pv 0) rfl) (aA (pv 1) aD))))) aD)))) aN)
   (aC (dE 4 vG.nd (Gg hu (pv 2) (aU (pv 0) rfl) (λ_ _=>rfl)))
   (aC (bE (aL eW (aU (pv 0) rfl) aG (aP _)) (aF (aI (aR (aA (gC (aA (pv 3) (aA (pv 4) (aA (CF uF (aU (pv 0) rfl)) (aA (pv 1) aD))))) aD)))) aN)
   (aF (aI (aR (aA (gC (aA (pv 3) (aA (pv 4) (aA (aU (pv 0) rfl) (aA (pv 1) aD))))) (aA (gC (aA (pv 4) (aA (pv 3) (aA (aU (pv 0) rfl) (aA (pv 1) aD))))) aD)))))))))),?_⟩
  refine⟨_,rfl,_,rfl,a,_,dt,_,_,rfl,h1,T.cN,T.tE,rfl,d,_,rfl,hd.get h2 (AB hx),?_⟩
  refine⟨_,rfl,a,_,dt,_,_,rfl,h1,T.cN,T.kU,rfl,rfl,_,rfl,?_⟩
  have vj:(4:Nat)<=sizeLine:=by decide
  refine cA (λc0=>?_) (λc0=>?_)
  ·have c0:x.kind=0:=by have:=vEq c0;omega
   have e:aMy st k x=[⟨aMQ st x.one,0,-x.a,k⟩]:=by
    unfold aMy;simp only[vL];rw[if_neg (by decide),if_pos c0]
   refine⟨_,rfl,_,rfl,a,_,dt,_,_,rfl,h1,T.cN,T.fY,rfl,_,rfl,_,rfl,vj,λp hp=>⟨aO,λr hr=>?_⟩⟩
   refine q _ r _ ((aE hp).trans (aE hr)) ((aE hp).free hr) aB ?_;rw[e];exact .cons ⟨p,rfl,aE hr _ _ aB⟩ .nil
  have c0:x.kind≠0:=by have:=GS c0;omega
  refine⟨_,rfl,a,_,dt,_,_,rfl,h1,T.cN,T.kU,rfl,rfl,_,rfl,?_⟩
  refine cA (λc1=>?_) (λc1=>?_)
  ·have c1:x.kind=1:=by have:=vEq c1;omega
   have e:aMy st k x=[⟨0,aMQ st x.one,x.a,k⟩]:=by
    unfold aMy;simp only[vL];rw[if_neg (by decide),if_neg c0,if_pos c1]
   refine⟨_,rfl,_,rfl,a,_,dt,_,_,rfl,h1,T.cN,T.fY,rfl,_,rfl,vj,λp hp=>⟨aO,λr hr=>?_⟩⟩
   refine q _ r _ ((aE hp).trans (aE hr)) ((aE hp).free hr) aB ?_;rw[e];exact .cons ⟨p,rfl,aE hr _ _ aB⟩ .nil
  have c1:x.kind≠1:=by have:=GS c1;omega
  refine⟨_,rfl,_,rfl,a,_,dt,_,_,rfl,h1,T.cN,T.mU,rfl,d,_,rfl,hd.get h3 (AA hx (by omega)),?_⟩
  refine⟨_,rfl,a,_,dt,_,_,rfl,h1,T.cN,T.kU,rfl,rfl,_,rfl,?_⟩
  refine cA (λc2=>?_) (λc2=>?_)
  ·have c2:x.kind=2:=by have:=vEq c2;omega
   have e:aMy st k x=[⟨aMQ st x.one,aMQ st x.two,-x.a,k⟩]:=by
    unfold aMy;simp only[vL];rw[if_neg (by decide),if_neg c0,if_neg c1,if_pos c2]
   refine⟨_,rfl,_,rfl,_,rfl,a,_,dt,_,_,rfl,h1,T.cN,T.fY,rfl,_,rfl,_,rfl,vj,λp hp=>⟨aO,λr hr=>?_⟩⟩
   refine q _ r _ ((aE hp).trans (aE hr)) ((aE hp).free hr) aB ?_;rw[e];exact .cons ⟨p,rfl,aE hr _ _ aB⟩ .nil
  have c2:x.kind≠2:=by have:=GS c2;omega
  have e:aMy st k x=[⟨aMQ st x.one,aMQ st x.two,x.a,k⟩,⟨aMQ st x.two,aMQ st x.one,x.a,k⟩]:=by
   unfold aMy;simp only[vL];rw[if_neg (by decide),if_neg c0,if_neg c1,if_neg c2]
  refine⟨_,rfl,_,rfl,_,rfl,a,_,dt,_,_,rfl,h1,T.cN,T.fY,rfl,_,rfl,vj,λp hp=>?_⟩
  refine⟨_,rfl,_,rfl,_,rfl,a,_,dt,_,_,rfl,aE hp _ _ h1,T.cN,T.fY,rfl,_,rfl,vj,λp2 Kg=>⟨pZ,λr hr=>?_⟩⟩
  refine q _ r _ ((aE hp).trans ((aE Kg).trans (aE hr))) (((aE hp).trans (aE Kg)).free hr) aB ?_;rw[e];exact .cons ⟨p,rfl,aE hr _ _ (aE Kg _ _ aB)⟩ (.cons ⟨p2,rfl,aE hr _ _ aB⟩ .nil)
def kN(l:List Nat):List V:=l.map fun(n:Nat)=>V.int (n:Int)
def Gi{l:List Nat}{i n:Nat}(h:l[i]?=some n):(kN l)[i]?=some (V.int (n:Int)):=by unfold kN;rw[aM4,h];rfl
inductive aBG(A:jK)(vs:List V)(H:Hp)(Q:VK)(E:XK):Prop
 |mk:∀(s:aMA) (a d:Addr) (c:Nat) (p:aMx),vs=[.ref a,.int (c:Int),.ref d]->fQ A H a p->AV H d s->aMf s c=some p->p.core.length<=300->(∀(H':Hp) (r:Addr),aV H H'->H r=aP4->H' r=some (.lst (kN (qX s c p.core)))->Q (.ref r) H')->aBG A vs H Q E
def D8(T:Txt K mg A):bQ P w K mg base eV 2 A.yJ A.xK ["core","c","times"] (aBG A):=by
 refine T.qF.ok mW (λvs H Q E h=>?_) (λd3 A' outer s H vs Q E hr h=>?_)
 ·obtain⟨st,a,d,c,p,rfl,_⟩:=h;rfl
 ·obtain⟨st,a,d,c,p,rfl,IG,hd,hcp,Zz,q⟩:=h
  have hu:=Nt hr;obtain⟨dc,lp,pq,h1,h2,h3⟩:=IG;have hq:pq.length<=300:=by
   have:=congrArg aMi h3
   rw[aLx]at this
   omega
  have hnl:(aMD p.core).length<=300:=aM3 (mT _) Zz;have Y4:(jE 0 (aMI st)).length=(aMI st).length:=ZF _ _;have aIA:(1:Int)+((jE 0 (aMI st)).length:Int)+2*(c:Int)=((aOQ st c:Nat):Int):=by
   rw[Y4];unfold aOQ;omega
  refine⟨_,(aC (dE 3 mW.nd (bH cH (bH cH aG (bJ gn (by rfl) T.eX c8 (aA (pv 2) aD))) (bH PB aG (pv 1))))
   (aF (aI (bH fR (bH fR (aR (aA (pv 3) aD)) (GZ rfl mW.nd (cI (cF T.lP (DM T) hr T.A0 (Ah T) (aA (aU (pv 0) rfl) aD))) (own:=[("name",4)]) (by show oG ["core","c","times","upper_end","name"] (aH xN) _ _;exact⟨rfl,by decide +kernel,by decide +kernel,by decide +kernel,by decide +kernel⟩) (λ_ _ _ _ _=>by exact(jN 4 mW.nd)) (λ_ _ _ _ _=>by exact vV) (λ_ _ _ _ _=>by exact(Gg hu (pv 2) (pv 4) (λ_ _=>rfl))))) (aR (aA (bH cH (pv 3) aG) aD)))))),?_⟩
  refine⟨_,rfl,d,_,rfl,hd,_,_,rfl,rfl,_,rfl,_,_,rfl,rfl,.inl ⟨by decide,by decide⟩,_,_,rfl,rfl,?_⟩
  rw[aIA]
  refine⟨_,rfl,aO,λp1 WM=>?_⟩
  have s1:aV H (upd H p1 (.lst [V.int (aOQ st c:Nat)])):=aE WM;refine⟨_,rfl,a,_,dc,_,_,rfl,s1 _ _ h1,T.kZ,T.fL,rfl,lp,pq,rfl,h2.same s1,by omega,λH2 r2 ms s2 uz Nl t8=>?_⟩
  have ly:zE pq=(aMD p.core).map aLz:=by unfold zE;rw[h3]
  rw[ly]at t8
  have GQ:ms.length=(aMD p.core).length:=by rw[aS.length t8,aLx]
  have kY:aV H H2:=s1.trans s2;refine⟨r2,rfl,⟨_,aZ.of Nl⟩,λL hL=>mQ (K:=K) (a:=r2) (xs:=ms) (λj H3=>aV H2 H3/\H3 L=some (.lst (kN (((aMD p.core).take j).map (aMQ st))))) ?_ ?_ ?_ ?_⟩
  ·exact⟨aE hL,aB⟩
  ·rintro j H3 _ ⟨s3,_⟩;exact aZ.of (s3 _ _ Nl)
  ·rintro j z H3 hz ⟨s3,hL3⟩;have Ke:j<(aMD p.core).length:=by rw[<-GQ];exact(aM0.mp hz).1
   obtain⟨n,hn⟩:∃n,(aMD p.core)[j]?=some n:=⟨_,aMK Ke⟩
   obtain⟨na,B5,lq⟩:=aS.get (aS.same t8 s3) (i:=j) (ns:=aLz n) (by rw[aM4,hn];rfl)
   rw[hz]at B5
   injection B5 with B5;subst B5;have EU:n∈aMI st:=w4 hcp (aMZ hn);have xr:AV H3 d st:=(kY.trans s3) _ _ hd;refine⟨rfl,WV ⟨_,rfl,_,rfl,d,_,rfl,xr.get lq EU,_,hL3,bB ?_,bI s3 hL,?_⟩⟩
   ·unfold kN;rw[aLx,aLx,aMj];omega
   ·rw[aB,bK hn,aMU]
    unfold kN;rw[aMU];rfl
  ·rintro H3 ⟨s3,hL3⟩;rw[GQ,aMe]at hL3;have hp3:=s3 _ _ (s2 _ _ (aB (H:=H) (a:=p1) (o:=.lst [V.int (aOQ st c:Nat)])));refine⟨p1,L,_,_,rfl,rfl,hp3,hL3,?_,λp3 hp3'=>?_⟩
   ·unfold kN;rw[aLx,aLx];exact aMm (bB (show 1+_<=1000 by omega))
   refine⟨_,rfl,_,_,rfl,rfl,aO,λp4 lz=>?_⟩
   refine⟨p3,p4,_,_,rfl,rfl,aE lz p3 _ aB,aB,?_,λp5 ll=>?_⟩
   ·unfold kN;rw[aMH,aLx,aLx];exact aMm (bB (show 1+_+1<=1000 by omega))
   have sF:=kY.trans (s3.trans ((aE hp3').trans (aE (o:=.lst [V.int ((aOQ st c:Nat)+1)]) lz)));refine q _ p5 (sF.trans (aE ll)) (sF.free ll) ?_;rw[aB];unfold qX kN;rw[aM2,aMU];rfl
inductive aAn(vs:List V)(H:Hp)(Q:VK)(E:XK):Prop
 |mk:∀(pl fl:Addr) (src:Nat) (w6:List Nat) (fs:List V) (ss:List (Int×Int)),vs=[.ref pl,.ref fl,.int (src:Int)]->H pl=some (.lst (kN w6))->H fl=some (.lst fs)->cZ H fs ss->w6.length=ss.length+1->ss.length<=400->(∀(H':Hp) (r:Addr) (ls:List V),aV H H'->H r=aP4->H' r=some (.lst ls)->aQ H' ls (vM src w6 ss)->Q (.ref r) H')->aAn vs H Q E
def AE(T:Txt K mg A):bQ P w K mg base eV 1 A.sE A.sA ["points","years","source"] aAn:=by
 refine T.lG.ok kH (λvs H Q E h=>?_) (λd3 A' outer s H vs Q E hr h=>?_)
 ·obtain⟨pl,fl,src,w6,fs,ss,rfl,_⟩:=h;rfl
 ·obtain⟨pl,fl,src,w6,fs,ss,rfl,hpt,xn,JV,AJ,h400,q⟩:=h
  have aAG:fs.length=ss.length:=bG JV;refine⟨_,(aC (dE 3 kH.nd (aR aD))
   (aC (cT aP5 rfl (vR rfl T.iH (aA (pv 1) aD)) (rO rfl (bY (jN 4 kH.nd) (bY (jN 5 kH.nd) k8))) (aC (cS (e9 aMa aMr aMs cR (pv 3) (aA (gC (aA (fO (pv 0) (pv 4)) (aA (fO (pv 0) (bH cH (pv 4) aG)) (aA (Om (pv 5) aG) (aA (pv 2) aD))))) aD)))
   (aF (cS (e9 aMa aMr aMs cR (pv 3) (aA (gC (aA (fO (pv 0) (bH cH (pv 4) aG)) (aA (fO (pv 0) (pv 4)) (aA (CF uF (Om (pv 5) aG)) (aA (pv 2) aD))))) aD))))))
   (aF (aI (pv 3))))),?_⟩
  refine⟨aM1 _,λr hr=>?_⟩
  have s2:=aE (o:=.lst []) hr;have nfr:fl≠r:=aJ xn hr;have npr:pl≠r:=aJ hpt hr;refine⟨_,rfl,fl,_,rfl,aZ.of (s2 _ _ xn),uI (K:=K) (a:=fl) (xs:=fs)
   (λi σ H'=>∃(v4 v5:Option V) (ls:List V),σ=[some (.ref pl),some (.ref fl),some (.int (src:Int)),some (.ref r),v4,v5]/\aV H H'/\H' pl=some (.lst (kN w6))/\H' fl=some (.lst fs)/\cZ H' fs ss/\H' r=some (.lst ls)/\ls.length<=2*i/\
    aQ H' ls (vM src w6 (ss.take i))) ?_ ?_ ?_ ?_⟩
  ·refine⟨none,none,[],rfl,s2,s2 _ _ hpt,s2 _ _ xn,cZ.same JV s2,aB,aMG _,?_⟩
   have e0:vM src w6 (ss.take 0)=[]:=by
    rw[aPC]
    match w6 with
    |[]=>rfl
    |[_]=>rfl
    |_::_::_=>rfl
   rw[e0]
   exact .nil
  ·rintro i σ H' _ ⟨_,_,_,_,_,_,h,_⟩;exact aZ.of h
  ·rintro i x σ H' t hx ⟨v4,v5,ls,rfl,s4,lz,hf4,aDB,hr4,Kf,gN⟩ ht;have T6:i<ss.length:=by rw[<-aAG];exact(aM0.mp hx).1
   obtain⟨⟨lo,hh⟩,hlo⟩:∃z,ss[i]?=some z:=⟨_,aMK T6⟩
   obtain⟨sa,rfl,hsa⟩:∃sa,x=.ref sa/\H' sa=some (.tup [.int lo,.int hh]):=by
    obtain⟨b,hb,sa,e1,e2⟩:=dU aDB hx
    rw[hlo]at hb
    injection hb with hb;subst hb;exact⟨sa,e1,e2⟩
   obtain⟨n1,hn1⟩:∃n1,w6[i]?=some n1:=⟨_,aMK (by omega)⟩
   obtain⟨n2,hn2⟩:∃n2,w6[i+1]?=some n2:=⟨_,aMK (by omega)⟩
   have s5:=aE (o:=.tup [.int (i:Nat),.ref sa]) ht;refine⟨t,_,rfl,eE.of aB,rfl,_,_,rfl,_,_,rfl,rfl,?_⟩;generalize hH5:upd H' t (.tup [.int (i:Nat),.ref sa])=H5 at s5;have ll:=s5 _ _ lz;have hr5:=s5 _ _ hr4;have aC6:=s5 _ _ hsa;have at1:FR (kN w6) ((i:Nat):Int)=some (V.int (n1:Int)):=dS (Gi hn1);have at2:FR (kN w6) (((i:Nat):Int)+1)=some (V.int (n2:Int)):=G0 (j:=i+1) (by omega) (Gi hn2)
   refine⟨_,rfl,.inl ⟨rfl,_,aZ.of hr5⟩,_,rfl,_,rfl,pl,_,_,_,rfl,rfl,aZ.of ll,at1,_,rfl,_,rfl,_,_,rfl,rfl,pl,_,_,_,rfl,rfl,aZ.of ll,at2,_,rfl,sa,_,_,_,rfl,rfl,eE.of aC6,dS (j:=1) rfl,_,rfl,vT,λt1 ht1=>?_⟩
   have s6:=aE (o:=.tup [.int (n1:Int),.int (n2:Int),.int hh,.int (src:Int)]) ht1;refine⟨r,_,_,rfl,rfl,s6 _ _ hr5,bB (by omega),?_⟩
   have b7:=cD (H:=upd H5 t1 (.tup [.int (n1:Int),.int (n2:Int),.int hh,.int (src:Int)])) (D:=r) (o:=.lst (ls++[V.ref t1]));generalize hH7:upd (upd H5 t1 (.tup [.int (n1:Int),.int (n2:Int),.int hh,.int (src:Int)])) r (.lst (ls++[V.ref t1]))=H7 at b7;have hr7:H7 r=some (.lst (ls++[V.ref t1])):=by rw[<-hH7];exact aB
   have aFW:t1≠r:=(aJ hr5 ht1).symm;have aI6:H7 t1=some (.tup [.int (n1:Int),.int (n2:Int),.int hh,.int (src:Int)]):=b7 _ _ aB aFW;have hp7:H7 pl=some (.lst (kN w6)):=b7 _ _ (s6 _ _ ll) npr;have aHZ:sa≠r:=c7 aC6 hr5 (by intro z;cases z)
   have aHK:=b7 _ _ (s6 _ _ aC6) aHZ;refine⟨_,rfl,.inl ⟨rfl,_,aZ.of hr7⟩,_,rfl,_,rfl,_,_,rfl,rfl,pl,_,_,_,rfl,rfl,aZ.of hp7,at2,_,rfl,_,rfl,pl,_,_,_,rfl,rfl,aZ.of hp7,at1,_,rfl,sa,_,_,_,rfl,rfl,eE.of aHK,dS (j:=0) rfl,_,rfl,_,rfl,vT,λt2 ht2=>?_⟩;have s8:=aE (o:=.tup [.int (n2:Int),.int (n1:Int),.int (-lo),.int (src:Int)]) ht2;refine⟨r,_,_,rfl,rfl,s8 _ _ hr7,bB (by rw[aMH];show _+1<=_;omega),?_⟩
   have b9:=cD (H:=upd H7 t2 (.tup [.int (n2:Int),.int (n1:Int),.int (-lo),.int (src:Int)])) (D:=r) (o:=.lst (ls++[V.ref t1]++[V.ref t2]));have aH1:t2≠r:=(aJ hr7 ht2).symm;have all:∀b o,H' b=some o->b≠r->upd (upd H7 t2 (.tup [.int (n2:Int),.int (n1:Int),.int (-lo),.int (src:Int)])) r (.lst (ls++[V.ref t1]++[V.ref t2])) b=some o:=
    λb o e hb=>b9 _ _ (s8 _ _ (b7 _ _ (s6 _ _ (s5 _ _ e)) hb)) hb
   have g1:=b9 _ _ (s8 _ _ aI6) aFW;have g2:=b9 _ _ aB aH1;have g3:=aB (H:=upd H7 t2 (.tup [.int (n2:Int),.int (n1:Int),.int (-lo),.int (src:Int)])) (a:=r) (o:=.lst (ls++[V.ref t1]++[V.ref t2]));refine⟨_,_,ls++[V.ref t1,V.ref t2],rfl,λb o e=>all b o (s4 _ _ e) (aJ e hr),all _ _ lz npr,all _ _ hf4 nfr,cZ.but aDB hr4 all,g3.trans (by rw[aMb];rfl),?_,?_⟩
   ·rw[aMH];show _+2<=_;omega
   ·rw[OA src _ _ i n1 n2 (lo,hh) hlo hn1 hn2]
    exact Dl (aQ.but gN hr4 all) (.cons ⟨t1,rfl,g1⟩ (.cons ⟨t2,rfl,g2⟩ .nil))
  ·rintro σ H' ⟨v4,v5,ls,rfl,s4,lz,hf4,aDB,hr4,Kf,gN⟩;rw[aAG,aMe]at gN;exact⟨_,rfl,q H' r ls s4 hr hr4 gN⟩
structure iJ where
 dr:Addr
 lc:Addr
 lt:Addr
 cs:List V
 ts:List Addr
def refsOf(cs:List V):List Addr:=cs.filterMap λv=>match v with
 |.ref a=>some a
 |_=>none
def iJ.all(f:iJ)(r:Addr):List Addr:=r::f.lc::f.lt::(refsOf f.cs++f.ts)
structure dW(A:jK)(H:Hp)(r:Addr)(f:iJ)(s:aMA):Prop where
 obj:H r=some (.ins A.dQ f.dr (uB f.lc f.lt))
 cores:iM A H f.lc f.cs s.cores
 things:iW A H f.lt f.ts s.said
 ndc:(refsOf f.cs).Nodup
 ndt:f.ts.Nodup
 wf:Wf s
theorem dW.same{A:jK}{H H':Hp}{r:Addr}{f:iJ}{s:aMA}(h:dW A H r f s)(q:aV H H'):dW A H' r f s:=
 ⟨q _ _ h.obj,h.cores.same q,h.things.same q,h.ndc,h.ndt,h.wf⟩
def Oc{t:aMV}(h:aNW t=true):t≠[]:=by intro e;subst e;cases h
def Wf.namesOk{s:aMA}(h:Wf s):Dn s.cores s.said:=
 ⟨by rw[h.four];exact aMG _,λp hp=>(h.cores p hp).len,by have:=h.rN;omega,λx hx=>(h.said x hx).yc,λx hx hk=>Oc ((h.said x hx).fz (by omega))⟩
def Pt{s:aMA}{k:Nat}{x:aNI}(h:s.said[k]?=some x)(ho:x.on=false):bX s k=[]:=by
 unfold bX;rw[h];show aMy s k x=[];unfold aMy;rw[if_pos ho]
def YF{s:aMA}{k:Nat}{x:aNI}(h:s.said[k]?=some x):bX s k=aMy s k x:=by
 unfold bX;rw[h]
def G3{s:aMA}{c:Nat}{o:Option aMx}(h:s.cores[c]?=some o):aMf s c=o:=by unfold aMf;rw[h];rfl
inductive aEK(vs:List V)(H:Hp)(Q:VK)(E:XK):Prop
 |mk:∀(nm:Addr) (ms:List V) (names:List aMV),vs=[.ref nm]->H nm=some (.lst ms)->aS H ms (names.map aLz)->names.Nodup->names.length<=900->(∀(H':Hp) (d:Addr),aV H H'->H d=aP4->H' d=some (.dT (jE 0 names))->Q (.ref d) H')->aEK vs H Q E
def Bc(T:Txt K mg A):bQ P w K mg base eV 1 A.vB A.u1 ["names"] aEK:=by
 refine T.mY.ok lC (λvs H Q E h=>?_) (λd3 A' outer s H vs Q E hr h=>?_)
 ·obtain⟨nm,ms,names,rfl,_⟩:=h;rfl
 ·obtain⟨nm,ms,names,rfl,zA,t8,nd,h900,q⟩:=h
  have hu:=Nt hr;have GQ:ms.length=names.length:=by rw[aS.length t8,aLx]
  refine⟨_,(aC (dE 1 lC.nd LU)
   (aC (cT aP5 rfl (vR rfl T.iH (aA (pv 0) aD)) (rO rfl (bY (jN 2 lC.nd) (bY (jN 3 lC.nd) k8))) (aF (Gd hu (pv 1) (pv 3) (bH cH (pv 2) aG) rfl)))
   (aF (aI (pv 1))))),?_⟩
  refine λd hd=>?_;have hdH:=hd;refine⟨_,rfl,nm,_,rfl,aZ.of (aE hd _ _ zA),uI (K:=K) (a:=nm) (xs:=ms)
   (λi σ H'=>∃v3 v4:Option V,σ=[some (.ref nm),some (.ref d),v3,v4]/\aV H H'/\H' nm=some (.lst ms)/\aS H' ms (names.map aLz)/\H' d=some (.dT (jE 0 (names.take i)))) ?_ ?_ ?_ ?_⟩
  ·exact⟨none,none,rfl,aE hd,aE hd _ _ zA,aS.same t8 (aE hd),aB⟩
  ·rintro i σ H' _ ⟨_,_,_,_,h,_⟩;exact aZ.of h
  ·rintro i x σ H' t hx ⟨v3,v4,rfl,s2,Nn,CA,Bs⟩ ht;have T6:i<names.length:=by rw[<-GQ];exact(aM0.mp hx).1
   obtain⟨n,hn⟩:∃n,names[i]?=some n:=⟨_,aMK T6⟩
   obtain⟨na,B5,lq⟩:=aS.get CA (i:=i) (ns:=aLz n) (by rw[aM4,hn];rfl)
   rw[hx]at B5
   injection B5 with B5;subst B5;have s5:=aE (o:=.tup [.int (i:Nat),.ref na]) ht;refine⟨t,_,rfl,eE.of aB,rfl,_,_,rfl,_,_,rfl,rfl,?_⟩;have aHW:n∉names.take i:=by
    intro hm;obtain⟨j,hj,Md⟩:=aNa hm;rw[aMj]at hj;have e2:names[j]?=some n:=by
     rw[List.getElem_take]at Md
     rw[aMK (by omega),Md]
    have:=aAt nd hn e2
    omega
   refine⟨_,rfl,_,_,rfl,rfl,_,rfl,_,rfl,d,_,rfl,Ms.t (k:=(aLz n).map aPd) (s5 _ _ Bs) (mL.key (s5 _ _ lq)) (by rw[ZF,aMj];exact bB (by omega)),?_⟩
   have b6:=cD (H:=upd H' t (.tup [.int (i:Nat),.ref na])) (D:=d) (o:=.dT (putK (jE 0 (names.take i)) ((aLz n).map aPd) (V.int ((i:Nat)+1))));refine⟨_,_,rfl,bI (s2.trans s5) hdH,?_,?_,?_⟩
   ·rw[aT (c7 (s5 _ _ Nn) (s5 _ _ Bs) (by intro z;cases z))];exact s5 _ _ Nn
   ·exact aS.butD (aS.same CA s5) (s5 _ _ Bs) b6
   ·rw[aB,rd _ (ba 0 _ n aHW),bK hn,dz]
    have e:0+(names.take i).length+1=i+1:=by rw[aMj];omega
    rw[e]
    rfl
  ·rintro σ H' ⟨v3,v4,rfl,s2,Nn,CA,Bs⟩;rw[GQ,aMe]at Bs;exact⟨_,rfl,q H' d s2 hdH Bs⟩
inductive ph(A:jK)(vs:List V)(H:Hp)(Q:VK)(E:XK):Prop
 |mk:∀(r:Addr) (f:iJ) (s:aMA),vs=[.ref r]->dW A H r f s->(∀H',aV H H'->Q (.int (aMB s:Nat)) H')->ph A vs H Q E
def bM(T:Txt K mg A):bQ P w K mg base eV 3 A.pQ A.pL ["record"] (ph A):=by
 refine T.bL.ok Hv (λvs H Q E h=>?_) (λd3 A' outer s H vs Q E hr h=>?_)
 ·obtain⟨r,f,st,rfl,_⟩:=h;rfl
 ·obtain⟨r,f,st,rfl,hR,q⟩:=h
  refine⟨_,(aF (aI (cF T.qB (D7 T) hr T.FN (Eu T) (aA (cF T.fU (gJ T) hr T.iO (iP T) (aA (aU (pv 0) rfl) (aA (aU (pv 0) rfl) aD))) aD)))),?_⟩
  refine⟨_,rfl,r,_,f.dr,_,_,rfl,hR.obj,T.bA,T.bD,rfl,_,rfl,r,_,f.dr,_,_,rfl,hR.obj,T.bA,T.bC,rfl,
   f.lc,f.lt,f.cs,f.ts,st.cores,st.said,rfl,hR.cores,hR.things,hR.wf.namesOk,λH1 nm ms s1 Y3 zA t8=>?_⟩
  have GQ:ms.length=(aMI st).length:=by rw[aS.length t8,aLx]
  have aBM:9+ms.length=aMB st:=by rw[cK,GQ]
  refine⟨nm,ms,rfl,aZ.of zA,?_⟩
  rw[aBM]
  exact q H1 s1
inductive dh(A:jK)(vs:List V)(H:Hp)(Q:VK)(E:XK):Prop
 |mk:∀(r:Addr) (f:iJ) (s:aMA),vs=[.ref r]->dW A H r f s->(∀(H':Hp) (L:Addr) (ls:List V),aV H H'->H L=aP4->H' L=some (.lst ls)->aQ H' ls (aMJ s)->Q (.ref L) H')->dh A vs H Q E
def cX(T:Txt K mg A):bQ P w K mg base eV 4 A.DF A.DQ ["record"] (dh A):=by
 refine T.cU.ok gK (λvs H Q E h=>?_) (λd3 A' outer s H vs Q E hr h=>?_)
 ·obtain⟨r,f,st,rfl,_⟩:=h;rfl
 ·obtain⟨r,f,st,rfl,hR,q⟩:=h
  have hu:=Nt hr;have Ol:=hR.wf;refine⟨_,(aC (dE 1 gK.nd (cF T.mY (Bc T) hr T.Dd (Dh T) (aA (cF T.fU (gJ T) hr T.iO (iP T) (aA (aU (pv 0) rfl) (aA (aU (pv 0) rfl) aD))) aD)))
   (aC (dE 2 gK.nd (aR aD))
   (aC (cT aP5 rfl (vR rfl T.iH (aA (aU (pv 0) rfl) aD)) (rO rfl (bY (jN 3 gK.nd) (bY (jN 4 gK.nd) k8))) (aF (bE (dC (aU (pv 4) rfl)) (aF (cS (e9 aMa aOH aOI zO (pv 2) (aA (cF T.xQ (M5 T) hr T.NB (N7 T) (aA (pv 4) (aA (pv 3) (aA (pv 1) aD)))) aD)))) aN)))
   (aC (cT aP5 rfl (vR rfl T.iH (aA (aU (pv 0) rfl) aD)) (rO rfl (bY (jN 5 gK.nd) (bY (jN 6 gK.nd) k8))) (aF (bE (PW.pt (w9 (gY (vU (pv 6))) (sY (dC (aU (pv 6) rfl))))) (aF (cS (e9 aMa aOH aOI zO (pv 2) (aA (cF T.lG (AE T) hr T.Bp (Bq T) (aA (cF T.qF (D8 T) hr T.Ef (FK T) (aA (pv 6) (aA (pv 5) (aA (pv 1) aD)))) (aA (cF T.mF (Hc T) hr T.DG (DA T) (aA (aU (pv 6) rfl) aD)) (aA (bH cH (aM rfl T.Ex) (pv 5)) aD)))) aD)))) aN)))
   (aC (cT aP5 rfl (gq rfl T.AU (aA aG (aA (cF T.bL (bM T) hr T.bT (bS T) (aA (pv 0) aD)) aD))) (jN 7 gK.nd) (aF (cS (e9 aMa aMr aMs cR (pv 2) (aA (gC (aA (pv 7) (aA (aM rfl T.mE) (aA aG (aA (aM rfl T.JD) aD))))) aD)))))
   (aF (aI (pv 2)))))))),?_⟩
  refine⟨_,rfl,r,_,f.dr,_,_,rfl,hR.obj,T.bA,T.bD,rfl,_,rfl,r,_,f.dr,_,_,rfl,hR.obj,T.bA,T.bC,rfl,
   f.lc,f.lt,f.cs,f.ts,st.cores,st.said,rfl,hR.cores,hR.things,Ol.namesOk,λH1 nm ms s1 Y3 zA t8=>?_⟩
  have Oe:aMI ⟨st.cores,st.said⟩=aMI st:=rfl;rw[Oe]at t8;have GQ:ms.length=(aMI st).length:=by rw[aS.length t8,aLx]
  have aEg:=Ol.names;have nd:(aMI st).Nodup:=by unfold aMI;exact A8 _
  refine⟨nm,ms,aMI st,rfl,zA,t8,nd,by omega,λH' d kY hd0 Bs=>?_⟩
  have s2:=s1.trans kY;have Bs:AV H' d st:=Bs;refine⟨aM1 _,λL hL=>?_⟩;have hLH:H L=aP4:=s2.free hL;have sL:=aE (o:=.lst []) hL;have R2:=hR.same (s2.trans sL);have ma:=bG hR.things.2;have Y6:=bG hR.cores.2;have nLd:d≠L:=aJ Bs hL
  let Mq:Hp->List bO->Prop:=λH' l=>aV H H'/\AV H' d st/\∃ls,H' L=some (.lst ls)/\aQ H' ls l/\l.length<=5000
  have aFA:∀{Ha Hb:Hp} {l l':List bO} {b:Addr} {zs ls:List V},Mq Ha l->Ha L=some (.lst ls)->aQ Ha ls l->aV Ha Hb->Hb b=some (.lst zs)->aQ Hb zs l'->l'.length<=700->l.length<=4000->Mq (upd Hb L (.lst (ls++zs))) (l++l'):=by
   rintro Ha Hb l l' b zs ls ⟨m1,m3,_⟩ e1 e2 sab e3 e4 e5 e6;have bb:=cD (H:=Hb) (D:=L) (o:=.lst (ls++zs));have eL:=sab _ _ e1;refine⟨bI (m1.trans sab) hLH,bb _ _ (sab _ _ m3) nLd,ls++zs,aB,?_,by rw[aMH];omega⟩
   exact Dl (aQ.but (aQ.same e2 sab) eL bb) (aQ.but e4 eL bb)
  have M0:Mq (upd H' L (.lst [])) []:=⟨s2.trans sL,sL _ _ Bs,[],aB,.nil,by decide⟩
  refine⟨_,rfl,r,_,f.dr,_,_,rfl,R2.obj,T.bA,T.bC,rfl,f.lt,_,rfl,aZ.of R2.things.1,uI (K:=K) (a:=f.lt) (xs:=f.ts.map V.ref)
   (λi σ H'=>∃v3 v6:Option V,σ=[some (.ref r),some (.ref d),some (.ref L),v3,v6,none,none,none]/\Mq H' ((aME i).flatMap (bX st))) ?_ ?_ ?_ ?_⟩
  ·exact⟨none,none,rfl,M0⟩
  ·rintro i σ H' _ ⟨_,_,_,m,_⟩;exact aZ.of (m _ _ hR.things.1)
  ·rintro i y σ H3 t hy ⟨v3',v6,rfl,m⟩ ht;obtain⟨a,ha,rfl⟩:=iK hy;obtain⟨x,hx,vN⟩:=dU hR.things.2 ha;have T6:i<st.said.length:=(aM0.mp hx).1;have lx:=Ol.rN;have hxm:=aMZ hx;have hxw:=Ol.said x hxm;have s5:=aE (o:=.tup [.int (i:Nat),.ref a]) ht;have m5:Mq (upd H3 t (.tup [.int (i:Nat),.ref a])) ((aME i).flatMap (bX st)):=by
    obtain⟨m1,m3,ls,m4,m5,m6⟩:=m
    exact⟨m1.trans s5,s5 _ _ m3,ls,s5 _ _ m4,aQ.same m5 s5,m6⟩
   refine⟨t,_,rfl,eE.of aB,rfl,_,_,rfl,_,_,rfl,rfl,?_⟩
   generalize upd H3 t (.tup [.int (i:Nat),.ref a])=H5 at m5;obtain⟨m1,m3,ls,m4,m6,m7⟩:=id m5;obtain⟨dt,o,tt,g1,g2,g3⟩:=vN.same m1;have cC:((aME i).flatMap (bX st)).length<=24:=by
    have:=cQ (bX st) 2 (aME i) (λk _=>by
     unfold bX;split
     ·exact kX _ _ _
     ·simp)
    rw[aMk]at this
    omega
   refine⟨_,rfl,a,_,dt,_,_,rfl,g1,T.cN,T.jW,rfl,_,rfl,?_⟩
   cases vL:x.on with
   | false=>
    refine cG ⟨_,_,rfl,?_⟩;rw[lH,Pt hx vL,aMc];exact m5
   | true=>
    refine bW ⟨_,rfl,.inl ⟨rfl,_,aZ.of m4⟩,_,rfl,_,rfl,_,rfl,st,a,d,i,x,rfl,⟨dt,o,tt,g1,g2,g3⟩,m3,hxm,vL,hxw.kind,λH6 b zs s6 hb0 hb gN=>?_⟩;have fm:zs.length<=2:=by rw[bG gN];exact kX _ _ _
    refine⟨L,b,_,_,rfl,rfl,s6 _ _ m4,hb,by rw[bG m6];exact aMm (bB (by omega)),?_⟩
    refine⟨_,_,rfl,?_⟩
    rw[lH,YF hx]
    exact aFA m5 m4 m6 s6 hb gN (aM3 (kX _ _ _) (by decide)) (by omega)
  ·rintro σ H3 ⟨v3',v6,rfl,m⟩;rw[aLx,ma]at m;obtain⟨m1,m3,ls0,m4,m6,m7⟩:=id m;have h24:((aME st.said.length).flatMap (bX st)).length<=24:=by
    have:=cQ (bX st) 2 (aME st.said.length) (λk _=>by
     unfold bX;split
     ·exact kX _ _ _
     ·simp)
    rw[aMk]at this
    have:=Ol.rN
    omega
   have vm:∀c,(aMp st c).length<=602:=by
    intro c;cases hc:aMf st c with
    |none=>rw[hX hc];decide
    | some p=>
     cases vL:p.on with
     |false=>rw[jB hc vL];decide
     | true=>
      rw[gT hc vL]
      have h1:=LN (100+c) (cV 0 0 p.core) (qX st c p.core);have h2:=CO p.core;have h3:=mT p.core;have h4:=(Ol.cores p (fV hc)).len;omega
   refine⟨_,rfl,r,_,f.dr,_,_,rfl,m1 _ _ hR.obj,T.bA,T.bD,rfl,f.lc,_,rfl,aZ.of (m1 _ _ hR.cores.1),uI (K:=K) (a:=f.lc) (xs:=f.cs)
    (λi σ H'=>∃v7 v8:Option V,σ=[some (.ref r),some (.ref d),some (.ref L),v3',v6,v7,v8,none]/\Mq H' ((aME st.said.length).flatMap (bX st)++(aME i).flatMap (aMp st))) ?_ ?_ ?_ ?_⟩
   ·refine⟨none,none,rfl,?_⟩
    rw[List.range_zero,aO2,aMc]
    exact m
   ·rintro i σ H' _ ⟨_,_,_,m,_⟩;exact aZ.of (m _ _ hR.cores.1)
   ·rintro i y σ H4 t hy ⟨v7,v8,rfl,mm⟩ ht;obtain⟨o,ho,CB⟩:=dU hR.cores.2 hy;have T6:i<4:=by rw[<-Ol.four];exact(aM0.mp ho).1
    have s5:=aE (o:=.tup [.int (i:Nat),y]) ht;have m5:Mq (upd H4 t (.tup [.int (i:Nat),y])) ((aME st.said.length).flatMap (bX st)++(aME i).flatMap (aMp st)):=by
     obtain⟨m1,m3,ls,m4,m5,m6⟩:=mm
     exact⟨m1.trans s5,s5 _ _ m3,ls,s5 _ _ m4,aQ.same m5 s5,m6⟩
    refine⟨t,_,rfl,eE.of aB,rfl,_,_,rfl,_,_,rfl,rfl,?_⟩
    generalize upd H4 t (.tup [.int (i:Nat),y])=H5 at m5;obtain⟨n1,n3,ls,n4,n6,n7⟩:=id m5;have cC:((aME st.said.length).flatMap (bX st)++(aME i).flatMap (aMp st)).length<=24+602*i:=by
     have:=cQ (aMp st) 602 (aME i) (λk _=>vm k)
     rw[aMk]at this
     rw[aMH]
     omega
    have Zy:(aME st.said.length).flatMap (bX st)++(aME (i+1)).flatMap (aMp st)=((aME st.said.length).flatMap (bX st)++(aME i).flatMap (aMp st))++aMp st i:=by
     rw[lH,aMb]
    refine⟨_,rfl,_,rfl,?_⟩
    cases o with
    | none=>
     cases(show y=.non from CB)
     refine cG (cG ⟨_,_,rfl,?_⟩);rw[Zy,hX (G3 ho),aMc];exact m5
    | some p=>
     obtain⟨a,rfl,IG⟩:=(show ∃a,y=.ref a/\fQ A H a p from CB)
     obtain⟨dc,lp,pq,g1,g2,g3⟩:=IG.same n1
     refine bW ⟨_,rfl,a,_,dc,_,_,rfl,g1,T.kZ,T.lA,rfl,_,rfl,?_⟩;cases vL:p.on with
     | false=>
      refine cG ⟨_,_,rfl,?_⟩;rw[Zy,jB (G3 ho) vL,aMc];exact m5
     | true=>
      have hl3:=(Ol.cores p (aMZ ho)).len;have hq3:pq.length<=300:=by
       have:=congrArg aMi g3
       rw[aLx]at this
       omega
      refine bW ⟨_,rfl,.inl ⟨rfl,_,aZ.of n4⟩,_,rfl,_,rfl,_,rfl,st,a,d,i,p,rfl,⟨dc,lp,pq,g1,g2,g3⟩,n3,G3 ho,hl3,λH6 pl s6 aFS AJ=>?_⟩;refine⟨_,rfl,a,_,dc,_,_,rfl,s6 _ _ g1,T.kZ,T.fL,rfl,lp,pq,rfl,g2.same s6,hq3,λH7 fl fs s7 T7 xn JV=>?_⟩;rw[g3]at JV;have hpl2:=ju st i p.core;have hsl2:=CO p.core;have hnl2:=mT p.core;refine⟨_,rfl,_,_,rfl,rfl,pl,fl,100+i,qX st i p.core,fs,cV 0 0 p.core,rfl,s7 _ _ AJ,xn,JV,by omega,by omega,λH8 b zs s8 hb0 hb gN=>?_⟩
      have s68:=s6.trans (s7.trans s8);rw[<-gT (G3 ho) vL]at gN;have hc6:=vm i;have fm:zs.length<=602:=by rw[bG gN];exact hc6
      refine⟨L,b,_,_,rfl,rfl,s68 _ _ n4,hb,by rw[bG n6];exact aMm (dX (by omega)),?_⟩
      refine⟨_,_,rfl,?_⟩
      rw[Zy]
      exact aFA m5 n4 n6 s68 hb gN (by omega) (by omega)
   ·rintro σ H4 ⟨v7,v8,rfl,mm⟩;rw[Y6,Ol.four]at mm;obtain⟨n1,n3,ls,n4,n6,n7⟩:=id mm;have aBM:aMB st=9+(aMI st).length:=cK st;have cC:((aME st.said.length).flatMap (bX st)++(aME 4).flatMap (aMp st)).length<=3000:=by
     have:=cQ (aMp st) 602 (aME 4) (λk _=>vm k)
     rw[aMk]at this
     rw[aMH]
     omega
    refine⟨_,rfl,r,f,st,rfl,hR.same n1,λH4' s4'=>?_⟩
    have mm':Mq H4' ((aME st.said.length).flatMap (bX st)++(aME 4).flatMap (aMp st)):=
     ⟨n1.trans s4',s4' _ _ n3,ls,s4' _ _ n4,aQ.same n6 s4',n7⟩
    refine⟨1,_,rfl,⟨by decide,by decide,by omega,by omega⟩,zN (lo:=1) (n:=(((aMB st:Nat):Int)-1).toNat)
     (λi σ H'=>∃v9:Option V,σ=[some (.ref r),some (.ref d),some (.ref L),v3',v6,v7,v8,v9]/\Mq H' (((aME st.said.length).flatMap (bX st)++(aME 4).flatMap (aMp st))++(aME i).map λi=>⟨i+1,0,0,200⟩)) ?_ ?_ ?_⟩
    ·refine⟨none,rfl,?_⟩
     rw[List.range_zero,aOE,aMc]
     exact mm'
    ·rintro i σ H5 hi ⟨v9,rfl,mi⟩;obtain⟨o1,o3,ls5,o4,o6,o7⟩:=id mi;have hi30:i<30:=by omega
     refine⟨_,rfl,.inl ⟨rfl,_,aZ.of o4⟩,_,rfl,vT,λt ht=>?_⟩
     have s6:=aE (o:=.tup [.int (1+(i:Int)),.int 0,.int 0,.int 200]) ht;have hl5:ls5.length<=5000:=by rw[bG o6];exact o7
     refine⟨L,_,_,rfl,rfl,s6 _ _ o4,dX (by omega),?_⟩
     have bb:=cD (H:=upd H5 t (.tup [.int (1+(i:Int)),.int 0,.int 0,.int 200])) (D:=L) (o:=.lst (ls5++[V.ref t]));have tL:t≠L:=(aJ o4 ht).symm;have gt:=bb _ _ aB tL;refine⟨_,rfl,bI (o1.trans s6) hLH,bb _ _ (s6 _ _ o3) nLd,ls5++[V.ref t],aB,?_,?_⟩
     ·rw[show aME (i+1)=aME i++[i]from aOr,aMU,<-aMb]
      refine Dl (aQ.but (aQ.same o6 s6) (s6 _ _ o4) bb) (.cons ⟨t,rfl,?_⟩ .nil);rw[gt];unfold Kz;have e:(1:Int)+(i:Int)=((i+1:Nat):Int):=by omega
      rw[e]
      rfl
     ·rw[aMH,aLx,aMk];omega
    ·rintro σ H5 ⟨v9,rfl,o1,o3,ls5,o4,o6,o7⟩;have e:(((aMB st:Nat):Int)-1).toNat=aMB st-1:=by omega
     rw[e,aMb,<-zH]at o6
     exact⟨_,rfl,q H5 L ls5 o1 hLH o4 o6⟩
theorem CL{α:Type}(a:α):∀n:Nat,(aMF n [a]).flatten=aMF n a
 |0=>rfl
 |n+1=>by rw[aO6,aPA,CL a n,aO6];rfl
def tD{d:List Int}{i:Nat}(h:i<d.length):FR (d.map V.int) (i:Int)=some (V.int (d.getD i 0)):=by
 refine dS (Yw ?_);rw[aMW,aMK h];rfl
def AM{n i:Nat}(h:i<n):Yl n (i:Int)=some i:=by
 unfold Yl;rw[if_pos (by omega),if_pos (by omega)]
 simp
inductive bf(A:jK)(K:aMC)(vs:List V)(H:Hp)(Q:VK)(E:XK):Prop
 |mk:∀(L:Addr) (n:Nat) (ls:List V) (l:List bO),vs=[.ref L,.int (n:Int)]->H L=some (.lst ls)->aQ H ls l->mK n l->n<=1000->((sX l n (aMF n 0)=none->∀H',aV H H'->Q .non H'))->((∀d,sX l n (aMF n 0)=some d->∀(H':Hp) (r:Addr),aV H H'->H r=aP4->H' r=some (.lst (d.map V.int))->d.length=n->Q (.ref r) H'))->bf A K vs H Q E
def jC(T:Txt K mg A):bQ P w K mg base eV 1 A.Ak A.BW ["lines","how_many"] (bf A K):=by
 refine T.gL.ok eT (λvs H Q E h=>?_) (λd3 A' outer s H vs Q E hr h=>?_)
 ·obtain⟨L,n,ls,l,rfl,_⟩:=h;rfl
 ·obtain⟨L,n,ls,l,rfl,hL,gN,rG,hn,k0,k1⟩:=h
  have Kf:=bG gN;refine⟨_,(aC (dE 2 eT.nd (bH LC (aR (aA aG aD)) (pv 1)))
   (aC (cT aP5 rfl (Dz rfl T.AU (aA (pv 1) aD)) (jN 3 eT.nd) (aC (dE 4 eT.nd jQ)
   (aC (cT aP5 rfl (cI (pv 0)) (rO rfl (bY (jN 5 eT.nd) (bY (jN 6 eT.nd) (bY (jN 7 eT.nd) (bY (jN 8 eT.nd) k8))))) (aF (bE (aL fP (fO (pv 2) (pv 5)) (bH oK (fO (pv 2) (pv 6)) (pv 7)) (aP _)) (aC (FU (bH oK (fO (pv 2) (pv 6)) (pv 7)) (FV (pv 2) (pv 5) uN))
   (aF (dE 4 eT.nd jQ))) aN)))
   (aF (bE (fG (dC (pv 4))) (aF (aI (pv 2))) aN)))))
   (aF (aI kO)))),?_⟩
  refine⟨aO,λl1 h1=>?_⟩
  refine⟨_,rfl,l1,_,_,rfl,rfl,aB,by omega,by omega,?_,λag T3=>?_⟩
  ·show 1*((n:Int)).toNat<=sizeLine;rw[aNe,aP1];exact aMm (bB hn)
  have s1:aV H (upd (upd H l1 (.lst [V.int 0])) ag (.lst (aMF ((n:Int)).toNat [V.int 0]).flatten)):=(aE h1).trans (aE T3);have Mf:H ag=aP4:=(aE h1).free T3;have e0:(aMF ((n:Int)).toNat [V.int 0]).flatten=(aMF n (0:Int)).map V.int:=by
   rw[aNe,CL,aP2]
  have h0:(upd (upd H l1 (.lst [V.int 0])) ag (.lst (aMF ((n:Int)).toNat [V.int 0]).flatten)) ag=some (.lst ((aMF n (0:Int)).map V.int)):=by rw[aB,e0]
  generalize upd (upd H l1 (.lst [V.int 0])) ag (.lst (aMF ((n:Int)).toNat [V.int 0]).flatten)=H1 at s1 h0;have cC:∀i,(eZ l i (aMF n 0)).length=n:=λi=>by rw[uS,aN6]
  refine⟨_,rfl,_,rfl,by omega,by omega,zN (lo:=0) (n:=n)
   (λi σ H'=>∃v3 v4 v5 v6 v7 v8:Option V,σ=[some (.ref L),some (.int (n:Int)),some (.ref ag),v3,v4,v5,v6,v7,v8]/\aV H H'/\H' ag=some (.lst ((eZ l i (aMF n 0)).map V.int))/\sX l (n-i) (eZ l i (aMF n 0))=sX l n (aMF n 0)) ?_ ?_ ?_⟩
  ·exact⟨none,none,none,none,none,none,rfl,s1,h0,rfl⟩
  ·rintro i σ H' hi ⟨v3,v4,v5,v6,v7,v8,rfl,s2,aCl,Mj⟩;generalize hd:eZ l i (aMF n 0)=d at aCl Mj;have Y4:d.length=n:=by rw[<-hd];exact cC i
   have T7:∀j,((l.take j).foldl lo1 (d,false)).1.length=n:=λj=>by rw[Kj];exact Y4
   refine⟨_,rfl,L,rfl,⟨_,aZ.of (s2 _ _ hL)⟩,cW (K:=K) (a:=L) (xs:=ls)
    (λj σ H3=>∃v5 v6 v7 v8:Option V,σ=[some (.ref L),some (.int (n:Int)),some (.ref ag),some (.int (0+(i:Int))),some (.bl ((l.take j).foldl lo1 (d,false)).2),v5,v6,v7,v8]/\aV H H3/\H3 ag=some (.lst (((l.take j).foldl lo1 (d,false)).1.map V.int))) ?_ ?_ ?_ ?_⟩
   ·exact⟨v5,v6,v7,v8,rfl,s2,aCl⟩
   ·rintro j σ H3 _ ⟨_,_,_,_,_,s3,_⟩;exact aZ.of (s3 _ _ hL)
   ·rintro j x σ H3 hx ⟨v5,v6,v7,v8,rfl,s3,EV⟩;obtain⟨e,he,ta,rfl,vN⟩:=dU gN hx;have hr:=rG e (aMZ he);have vv:(l.take (j+1)).foldl lo1 (d,false)=lo1 ((l.take j).foldl lo1 (d,false)) e:=by rw[bK he,aOK];rfl
    have hlj:=T7 j;generalize(l.take j).foldl lo1 (d,false)=st at EV vv hlj;refine⟨ta,_,rfl,eE.of (s3 _ _ vN),rfl,_,_,rfl,_,_,rfl,_,_,rfl,_,_,rfl,rfl,?_⟩;have a1:=tD (d:=st.1) (i:=e.from_) (by omega)
    have a2:=tD (d:=st.1) (i:=e.to_) (by omega)
    refine⟨_,rfl,_,rfl,ag,_,_,_,rfl,rfl,aZ.of EV,a1,_,rfl,_,rfl,ag,_,_,_,rfl,rfl,aZ.of EV,a2,_,rfl,_,_,rfl,rfl,_,_,rfl,rfl,_,rfl,?_⟩
    refine cA (λc=>?_) (λc=>?_)
    ·have c:=dT c;have el:lo1 st e=(st.1.set e.from_ (st.1.getD e.to_ 0-e.most),true):=by unfold lo1;rw[if_pos c]
     refine⟨_,rfl,_,rfl,ag,_,_,_,rfl,rfl,aZ.of EV,a2,_,rfl,_,_,rfl,rfl,_,rfl,_,rfl,ag,_,_,e.from_,rfl,rfl,EV,AM (by rw[aLx];omega),?_⟩
     refine⟨some (.int (e.from_:Int)),some (.int (e.to_:Int)),some (.int e.most),some (.int (e.source:Int)),?_,bI s3 Mf,?_⟩
     ·rw[vv,el];rfl
     ·rw[aB,vv,el,aPD]
    ·have c:=dF c;have el:lo1 st e=st:=by unfold lo1;rw[if_neg c]
     refine⟨some (.int (e.from_:Int)),some (.int (e.to_:Int)),some (.int e.most),some (.int (e.source:Int)),?_,s3,?_⟩
     ·rw[vv,el];rfl
     ·rw[vv,el];exact EV
   ·rintro σ H3 ⟨v5,v6,v7,v8,rfl,s3,EV⟩;rw[Kf,aMe]at EV ⊢;have er:l.foldl lo1 (d,false)=iL l d:=rfl;rw[er]at EV ⊢;obtain⟨m,hm⟩:∃m,n-i=m+1:=⟨n-i-1,by omega⟩
    rw[hm]at Mj
    have Mj:(if(iL l d).2=false then some (iL l d).1 else sX l m (iL l d).1)=sX l n (aMF n 0):=Mj
    refine⟨_,rfl,_,rfl,?_⟩
    cases hc:(iL l d).2 with
    | false=>
     rw[if_pos hc]at Mj
     refine bW ⟨_,rfl,k1 _ Mj.symm H3 ag s3 Mf EV ?_⟩;show(l.foldl lo1 (d,false)).1.length=n;rw[Kj];exact Y4
    | true=>
     rw[if_neg (by rw[hc];decide)]at Mj
     have ei:eZ l (i+1) (aMF n 0)=(iL l d).1:=by rw[<-hd];rfl
     refine cG ⟨_,_,_,_,_,_,rfl,s3,?_,?_⟩
     ·rw[ei];exact EV
     ·rw[ei,show n-(i+1)=m by omega];exact Mj
  ·rintro σ H' ⟨v3,v4,v5,v6,v7,v8,rfl,s2,aCl,Mj⟩;rw[aNr]at Mj;exact k0 Mj.symm H' s2
def d6:Option Int->V
 |none=>.non
 |some x=>.int x
def iV{d:List (Option Int)}{i:Nat}(h:i<d.length):FR (d.map d6) (i:Int)=some (d6 (d.getD i none)):=by
 refine dS ?_;rw[aM4,aMW,aMK h];rfl
def rq{d:List (Option Int)}{e:bO}(h:d.getD e.from_ none=none):Bu d e=d:=by
 unfold Bu;rw[h];show d.set e.to_ (aNv (d.getD e.to_ none) none)=d;rw[Jr];by_cases hl:e.to_<d.length
 ·rw[aMW,aMK hl]
  exact aQZ hl
 ·exact List.set_eq_of_length_le (by omega)
def ua{d:List (Option Int)}{e:bO}{x y:Int}(h:d.getD e.from_ none=some x)(g:d.getD e.to_ none=some y)(c:¬x+e.most<y):Bu d e=d:=by
 unfold Bu;rw[h,g];have e1:aNv (some y) (aNw (some x) (some e.most))=some y:=by
  show some (min y (x+e.most))=some y;rw[aRJ (by omega)]
 rw[e1,<-g]
 have hl:e.to_<d.length:=by
  by_cases hl:e.to_<d.length
  ·exact hl
  ·rw[aMW,aOB (by omega)]at g;cases g
 rw[aMW,aMK hl]
 exact aQZ hl
def yw{d:List (Option Int)}{e:bO}{x:Int}(h:d.getD e.from_ none=some x)(c:∀y,d.getD e.to_ none=some y->x+e.most<y):Bu d e=d.set e.to_ (some (x+e.most)):=by
 unfold Bu;rw[h];cases g:d.getD e.to_ none with
 |none=>rfl
 | some y=>
  have:=c y g
  show d.set e.to_ (some (min y (x+e.most)))=_;rw[aRA (by omega)]
inductive ez(vs:List V)(H:Hp)(Q:VK)(E:XK):Prop
 |mk:∀(L:Addr) (n tm:Nat) (ls:List V) (l:List bO),vs=[.ref L,.int (n:Int),.int (tm:Int)]->H L=some (.lst ls)->aQ H ls l->mK n l->n<=1000->tm<n->(∀(H':Hp) (r:Addr),aV H H'->H r=aP4->H' r=some (.lst ((dJ l n (bR n tm)).map d6))->Q (.ref r) H')->ez vs H Q E
def nG(T:Txt K mg A):bQ P w K mg base eV 1 A.pK A.o9 ["lines","how_many","time"] ez:=by
 refine T.iD.ok eB (λvs H Q E h=>?_) (λd3 A' outer s H vs Q E hr h=>?_)
 ·obtain⟨L,n,tm,ls,l,rfl,_⟩:=h;rfl
 ·obtain⟨L,n,tm,ls,l,rfl,hL,gN,rG,hn,hn0,k⟩:=h
  have Kf:=bG gN;refine⟨_,(aC (dE 3 eB.nd (bH LC (aR (aA kO aD)) (pv 1)))
   (aC (FU aG (FV (pv 3) (pv 2) uN))
   (aC (cT aP5 rfl (Dz rfl T.AU (aA (pv 1) aD)) (jN 4 eB.nd) (aF (cT aP5 rfl (cI (pv 0)) (rO rfl (bY (jN 5 eB.nd) (bY (jN 6 eB.nd) (bY (jN 7 eB.nd) (bY (jN 8 eB.nd) k8))))) (aC (bE (gY (lJ (fO (pv 3) (pv 5)))) (aF J5) aN)
   (aF (bE (PW.pt (jR (gY (lJ (fO (pv 3) (pv 6)))) (gX (aL iG (fO (pv 3) (pv 6)) (bH cH (fO (pv 3) (pv 5)) (pv 7)) (aP _))))) (aF (FU (bH cH (fO (pv 3) (pv 5)) (pv 7)) (FV (pv 3) (pv 6) uN))) aN))))))
   (aF (aI (pv 3)))))),?_⟩
  refine⟨aO,λl1 h1=>?_⟩
  refine⟨_,rfl,l1,_,_,rfl,rfl,aB,by omega,by omega,?_,λag T3=>?_⟩
  ·show 1*((n:Int)).toNat<=sizeLine;rw[aNe,aP1];exact aMm (bB hn)
  have s1:aV H (upd (upd H l1 (.lst [V.non])) ag (.lst (aMF ((n:Int)).toNat [V.non]).flatten)):=(aE h1).trans (aE T3);have Mf:H ag=aP4:=(aE h1).free T3;have e0:(aMF ((n:Int)).toNat [V.non]).flatten=(aMF n (none:Option Int)).map d6:=by
   rw[aNe,CL,aP2];rfl
  have h0:(upd (upd H l1 (.lst [V.non])) ag (.lst (aMF ((n:Int)).toNat [V.non]).flatten)) ag=some (.lst ((aMF n (none:Option Int)).map d6)):=by rw[aB,e0]
  generalize upd (upd H l1 (.lst [V.non])) ag (.lst (aMF ((n:Int)).toNat [V.non]).flatten)=H1 at s1 h0;refine⟨_,rfl,_,rfl,ag,_,_,tm,rfl,rfl,h0,AM (i:=tm) (by rw[aLx,aN6];exact hn0),?_⟩
  have hs0:upd H1 ag (.lst (((aMF n (none:Option Int)).map d6).set tm (V.int 0))) ag=some (.lst ((bR n tm).map d6)):=by
   rw[aB];unfold bR;rw[aPD];rfl
  have s2:aV H (upd H1 ag (.lst (((aMF n (none:Option Int)).map d6).set tm (V.int 0)))):=bI s1 Mf;have cC:∀i,(dJ l i (bR n tm)).length=n:=λi=>by rw[gQ];unfold bR;rw[aMv,aN6]
  refine⟨_,rfl,_,rfl,by omega,by omega,zN (lo:=0) (n:=n)
   (λi σ H'=>∃v3 v4 v5 v6 v7:Option V,σ=[some (.ref L),some (.int (n:Int)),some (.int (tm:Int)),some (.ref ag),v3,v4,v5,v6,v7]/\aV H H'/\H' ag=some (.lst ((dJ l i (bR n tm)).map d6))) ?_ ?_ ?_⟩
  ·exact⟨none,none,none,none,none,rfl,s2,hs0⟩
  ·rintro i σ H' hi ⟨v3,v4,v5,v6,v7,rfl,s3,EV⟩;have Y4:=cC i;generalize hd:dJ l i (bR n tm)=d at EV Y4;refine⟨_,rfl,L,rfl,⟨_,aZ.of (s3 _ _ hL)⟩,cW (K:=K) (a:=L) (xs:=ls)
    (λj σ H3=>∃v4 v5 v6 v7:Option V,σ=[some (.ref L),some (.int (n:Int)),some (.int (tm:Int)),some (.ref ag),some (.int (0+(i:Int))),v4,v5,v6,v7]/\aV H H3/\H3 ag=some (.lst (((l.take j).foldl Bu d).map d6))) ?_ ?_ ?_ ?_⟩
   ·exact⟨v4,v5,v6,v7,rfl,s3,EV⟩
   ·rintro j σ H3 _ ⟨_,_,_,_,_,s3,_⟩;exact aZ.of (s3 _ _ hL)
   ·rintro j x σ H3 hx ⟨v4,v5,v6,v7,rfl,s4,sV⟩;obtain⟨e,he,ta,rfl,vN⟩:=dU gN hx;have hr:=rG e (aMZ he);have vv:(l.take (j+1)).foldl Bu d=Bu ((l.take j).foldl Bu d) e:=by rw[bK he,aOK];rfl
    have hlj:((l.take j).foldl Bu d).length=n:=by rw[PR];exact Y4
    generalize(l.take j).foldl Bu d=st at sV vv hlj
    refine⟨ta,_,rfl,eE.of (s4 _ _ vN),rfl,_,_,rfl,_,_,rfl,_,_,rfl,_,_,rfl,rfl,?_⟩
    have a1:=iV (d:=st) (i:=e.from_) (by omega)
    have a2:=iV (d:=st) (i:=e.to_) (by omega)
    have fin:∀{H5:Hp},aV H H5->H5 ag=some (.lst ((Bu st e).map d6))->∃v4 v5 v6 v7:Option V,[some (V.ref L),some (V.int (n:Int)),some (V.int (tm:Int)),some (V.ref ag),some (V.int (0+(i:Int))),some (V.int (e.from_:Int)),some (V.int (e.to_:Int)),some (V.int e.most),some (V.int (e.source:Int))]=[some (V.ref L),some (V.int (n:Int)),some (V.int (tm:Int)),some (V.ref ag),some (V.int (0+(i:Int))),v4,v5,v6,v7]/\aV H H5/\H5 ag=some (.lst (((l.take (j+1)).foldl Bu d).map d6)):=
     λs5 h5=>⟨_,_,_,_,rfl,s5,by rw[vv];exact h5⟩
    refine⟨_,rfl,_,rfl,ag,_,_,_,rfl,rfl,aZ.of sV,a1,_,rfl,?_⟩
    cases hf:st.getD e.from_ none with
    | none=>
     rw[hf]at a1
     exact bW (fin s4 (by rw[rq hf];exact sV))
    | some xf=>
     rw[hf]at a1
     refine cG ⟨_,rfl,_,rfl,ag,_,_,_,rfl,rfl,aZ.of sV,a2,_,rfl,?_⟩;have Y2:(∀y,st.getD e.to_ none=some y->xf+e.most<y)->aV H (upd H3 ag (.lst ((st.map d6).set e.to_ (V.int (xf+e.most)))))/\upd H3 ag (.lst ((st.map d6).set e.to_ (V.int (xf+e.most)))) ag=some (.lst ((Bu st e).map d6)):=by
      intro c;refine⟨bI s4 Mf,?_⟩;rw[aB,yw hf c,aPD];rfl
     cases ht:st.getD e.to_ none with
     | none=>
      rw[ht]at a2
      have S:=Y2 (λy hy=>by rw[ht]at hy;cases hy)
      refine bW (bW ⟨_,rfl,_,rfl,ag,_,_,_,rfl,rfl,aZ.of sV,a1,_,rfl,_,_,rfl,rfl,_,rfl,_,rfl,ag,_,_,e.to_,rfl,rfl,sV,AM (by rw[aLx];omega),?_⟩)
      exact fin S.1 S.2
     | some y=>
      rw[ht]at a2
      refine cG ⟨_,rfl,_,rfl,ag,_,_,_,rfl,rfl,aZ.of sV,a2,_,rfl,_,rfl,ag,_,_,_,rfl,rfl,aZ.of sV,a1,_,rfl,_,_,rfl,rfl,_,_,rfl,rfl,_,rfl,?_⟩;refine cA (λc=>?_) (λc=>?_)
      ·have c:=dT c;have S:=Y2 (λy' hy=>by rw[ht]at hy;injection hy with hy;omega)
       refine⟨_,rfl,_,rfl,ag,_,_,_,rfl,rfl,aZ.of sV,a1,_,rfl,_,_,rfl,rfl,_,rfl,_,rfl,ag,_,_,e.to_,rfl,rfl,sV,AM (by rw[aLx];omega),?_⟩
       exact fin S.1 S.2
      ·have c:=dF c;exact fin s4 (by rw[ua hf ht c];exact sV)
   ·rintro σ H3 ⟨v4,v5,v6,v7,rfl,s4,sV⟩;rw[Kf,aMe]at sV;refine⟨_,_,_,_,_,rfl,s4,?_⟩;show H3 ag=some (.lst ((P1 l (dJ l i (bR n tm))).map d6));rw[hd];exact sV
  ·rintro σ H' ⟨v3,v4,v5,v6,v7,rfl,s3,EV⟩;exact⟨_,rfl,k H' ag s3 Mf EV⟩
inductive qc(vs:List V)(H:Hp)(Q:VK)(E:XK):Prop
 |mk:∀(L:Addr) (n:Nat) (ls:List V) (l:List bO),vs=[.ref L,.int (n:Int)]->H L=some (.lst ls)->aQ H ls l->mK n l->n<=1000->0<n->(∀(H':Hp) (r:Addr),aV H H'->H r=aP4->H' r=some (.lst ((dJ l n (bR n 0)).map d6))->Q (.ref r) H')->qc vs H Q E
def kG(T:Txt K mg A):bQ P w K mg base eV 2 A.sN A.r8 ["lines","how_many"] qc:=by
 refine T.gE.ok JE (λvs H Q E h=>?_) (λd3 A' outer s H vs Q E hr h=>?_)
 ·obtain⟨L,n,ls,l,rfl,_⟩:=h;rfl
 ·obtain⟨L,n,ls,l,rfl,hL,gN,rG,hn,hn0,k⟩:=h
  refine⟨_,(aF (aI (cF T.iD (nG T) hr T.pE (pU T) (aA (pv 0) (aA (pv 1) (aA (aM rfl T.mE) aD)))))),?_⟩
  exact⟨_,rfl,_,rfl,L,n,0,ls,l,rfl,hL,gN,rG,hn,hn0,k⟩
inductive Wk(vs:List V)(H:Hp)(Q:VK)(E:XK):Prop
 |mk:∀n:Int,vs=[.int n]->Q (.bl (aMg n)) H->Wk vs H Q E
def wX(T:Txt K mg A):bQ P w K mg base eV 1 A.pG A.pB ["c"] Wk:=by
 refine T.kF.ok Hm (λvs H Q E h=>?_) (λd3 A' outer s H vs Q E hr h=>?_)
 ·obtain⟨n,rfl,_⟩:=h;rfl
 ·obtain⟨n,rfl,k⟩:=h
  refine⟨_,(aF (aI (Gn JX fP aG (pv 0) (aM rfl T.Ay)))),?_⟩
  refine⟨_,rfl,_,_,rfl,rfl,_,rfl,?_⟩
  unfold aMg aMP at k;refine cA (λh1=>?_) (λh1=>?_)
  ·refine⟨_,_,rfl,rfl,?_⟩
   rw[h1,aNJ]at k
   have e:decide (n<=3)=decide (n<4):=by
    by_cases c:n<4
    ·rw[decide_eq_true c,decide_eq_true (by omega)]
    ·rw[decide_eq_false c,decide_eq_false (by omega)]
   rw[e]at k
   exact k
  ·rw[aNb]at h1
   rw[h1,aNO]at k
   exact k
inductive Wr(K:aMC)(vs:List V)(H:Hp)(Q:VK)(E:XK):Prop
 |mk:∀(a:Addr) (t:List Int),vs=[.ref a]->IL K H a t->Q (.bl (aNt t 300)) H->Wr K vs H Q E
def ZM(T:Txt K mg A):bQ P w K mg base eV 1 A.Iu A.Ik ["row"] (Wr K):=by
 refine T.Ic.ok Lw (λvs H Q E h=>?_) (λd3 A' outer s H vs Q E hr h=>?_)
 ·obtain⟨a,t,rfl,_⟩:=h;rfl
 ·obtain⟨a,t,rfl,hS,k⟩:=h
  have hl:(t.map V.int).length=t.length:=aLx _;refine⟨_,(aC (bE (aL iG (bJ aW (by rfl) T.eX c8 (aA (pv 0) aD)) (aM rfl T.Xq) (aP _)) (aF (aI jQ)) aN)
   (aC (cT aP5 rfl (cI (pv 0)) (jN 1 Lw.nd) (aF (bE (PW.pt (jR (aL fP (pv 1) aG (aP _)) (gX (aL iG (pv 1) aG (aP _))))) (aF (aI jQ)) aN)))
   (aF (aI jQ)))),?_⟩
  refine⟨_,rfl,a,_,rfl,.inl hS,_,_,rfl,rfl,_,rfl,?_⟩
  unfold aNt at k;refine cA (λh1=>?_) (λh1=>?_)
  ·have h1:=dT h1;rw[decide_eq_false (by omega),aNO]at k
   exact k
  have h1:=dF h1;rw[decide_eq_true (by omega),aNJ]at k
  refine⟨_,rfl,a,rfl,⟨_,hS⟩,cW (K:=K) (a:=a) (xs:=t.map V.int) (λi σ H'=>∃v:Option V,σ=[some (.ref a),v]/\H'=H/\∀j y,j<i->t[j]?=some y->aMP y 0 255=true) ?_ ?_ ?_ ?_⟩
  ·exact⟨none,rfl,rfl,λj y hj=>by omega⟩
  ·exact λi σ H' _ ⟨_,_,e,_⟩=>by rw[e];exact hS
  ·rintro i x σ H' hi ⟨v,rfl,rfl,iS⟩;obtain⟨z,hz,rfl⟩:=Kl hi;have Zt:aMP z 0 255=false->Q (.bl false) H':=by
    intro q;have e:(t.all λc=>aMP c 0 255)=false:=by
     rw[<-aNb,aNB]
     intro q2;rw[q2 z (aMZ hz)]at q;cases q
    rw[e]at k;exact k
   refine⟨_,rfl,_,_,rfl,rfl,_,rfl,?_⟩
   refine cA (λc=>bW ?_) (λc=>?_)
   ·have c:=dT c;exact Zt (by unfold aMP;rw[decide_eq_false (by omega)];rfl)
   have c:=dF c;refine⟨_,rfl,_,_,rfl,rfl,_,rfl,?_⟩;refine cA (λc2=>?_) (λc2=>?_)
   ·have c2:=dT c2;exact Zt (by unfold aMP;rw[decide_eq_false (by omega:¬z<=255),aNT])
   ·have c2:=dF c2;refine⟨_,rfl,rfl,λj y hj hy=>?_⟩;by_cases hji:j=i
    ·subst hji;rw[hz]at hy;injection hy with hy;subst hy;unfold aMP;rw[decide_eq_true (by omega),decide_eq_true (by omega)];rfl
    ·exact iS j y (by omega) hy
  ·rintro σ H' ⟨v,rfl,rfl,iS⟩;have e:(t.all λc=>aMP c 0 255)=true:=by
    rw[aNB]
    intro y hy;obtain⟨j,hj,Md⟩:=aNa hy;exact iS j y (by rw[hl];exact hj) (by rw[aMK hj,Md])
   rw[e]at k
   exact k
def k7(s:aMA)(c:Int):Int:=if aMg c=false then -1 else if aMf s c.toNat=none then -4 else 0
def tW{A:jK}{H:Hp}{r:Addr}{f:iJ}{s:aMA}(h:dW A H r f s){c:Int}(hc:aMg c=true):
  ∃v,f.cs[c.toNat]?=some v/\FR f.cs c=some v/\IJ A H v (aMf s c.toNat)/\s.cores[c.toNat]?=some (aMf s c.toNat):=by
 have h4:=zQ hc;obtain⟨o,ho⟩:∃o,s.cores[c.toNat]?=some o:=⟨_,aMK (by rw[h.wf.four];exact h4.1)⟩
 obtain⟨v,hv,hs⟩:=JY h.cores.2 ho
 rw[G3 ho]
 exact⟨v,hv,G0 (by omega) hv,hs,ho⟩
inductive OD(A:jK)(vs:List V)(H:Hp)(Q:VK)(E:XK):Prop
 |mk:∀(r:Addr) (f:iJ) (s:aMA) (c:Int),vs=[.ref r,.int c]->dW A H r f s->Q (.int (k7 s c)) H->OD A vs H Q E
def iY(T:Txt K mg A):bQ P w K mg base eV 2 A.vH A.u9 ["record","c"] (OD A):=by
 refine T.fX.ok K0 (λvs H Q E h=>?_) (λd3 A' outer s H vs Q E hr h=>?_)
 ·obtain⟨r,f,st,c,rfl,_⟩:=h;rfl
 ·obtain⟨r,f,st,c,rfl,hR,k⟩:=h
  refine⟨_,(aC (bE (fG (dC (cF T.kF (wX T) hr T.AG (z8 T) (aA (pv 1) aD)))) (aF (aI (aM rfl T.eA))) aN)
   (aF (aI (eM (gY (lJ (fO (aU (pv 0) rfl) (pv 1)))) (aM rfl T.rB) aG)))),?_⟩
  refine⟨_,rfl,c,rfl,_,rfl,?_⟩
  unfold k7 at k;cases hc:aMg c with
  | false=>
   rw[if_pos hc]at k
   exact bW k
  | true=>
   rw[if_neg (by rw[hc];decide)]at k
   obtain⟨v,hv,EJ,CB,_⟩:=tW hR hc
   refine cG ⟨_,rfl,r,_,f.dr,_,_,rfl,hR.obj,T.bA,T.bD,rfl,_,rfl,f.lc,_,_,_,rfl,rfl,aZ.of hR.cores.1,EJ,_,rfl,?_⟩;cases ho:aMf st c.toNat with
   | none=>
    rw[ho]at CB
    cases(show v=.non from CB)
    rw[if_pos ho]at k
    exact bW k
   | some p=>
    rw[ho]at CB
    obtain⟨a,rfl,_⟩:=(show ∃a,v=.ref a/\fQ A H a p from CB)
    rw[if_neg (by rw[ho];intro z;cases z)]at k
    exact cG k
inductive aAz(A:jK)(vs:List V)(H:Hp)(Q:VK)(E:XK):Prop
 |mk:∀(r:Addr) (f:iJ) (s:aMA) (c:Int),vs=[.ref r,.int c]->dW A H r f s->Q (.bl (aNf s c)) H->aAz A vs H Q E
def tG(T:Txt K mg A):bQ P w K mg base eV 1 A.Cm A.DU ["record","k"] (aAz A):=by
 refine T.mH.ok QH (λvs H Q E h=>?_) (λd3 A' outer s H vs Q E hr h=>?_)
 ·obtain⟨r,f,st,c,rfl,_⟩:=h;rfl
 ·obtain⟨r,f,st,c,rfl,hR,k⟩:=h
  have hl:(f.ts.map V.ref).length=st.said.length:=by rw[aLx];exact bG hR.things.2
  refine⟨_,(aF (aI (Gn JX fP aG (pv 1) (bJ aW (by rfl) T.eX c8 (aA (aU (pv 0) rfl) aD))))),?_⟩
  refine⟨_,rfl,_,_,rfl,rfl,_,rfl,?_⟩
  unfold aNf aMP at k;refine cA (λh1=>?_) (λh1=>?_)
  ·rw[h1,aNJ]at k
   refine⟨_,rfl,r,_,f.dr,_,_,rfl,hR.obj,T.bA,T.bC,rfl,f.lt,_,rfl,.inl (aZ.of hR.things.1),_,_,rfl,rfl,?_⟩
   have e:decide (c<=(st.said.length:Int)-1)=decide (c<((f.ts.map V.ref).length:Int)):=by
    by_cases q:c<((f.ts.map V.ref).length:Int)
    ·rw[decide_eq_true q,decide_eq_true (by omega)]
    ·rw[decide_eq_false q,decide_eq_false (by omega)]
   rw[e]at k
   exact k
  ·rw[aNb]at h1
   rw[h1,aNO]at k
   exact k
inductive xw(vs:List V)(H:Hp)(Q:VK)(E:XK):Prop
 |mk:∀o:Option Int,vs=[d6 o]->(∀(H':Hp) (r:Addr),aV H H'->H r=aP4->H' r=some (.lst ((aNS o).map V.int))->Q (.ref r) H')->xw vs H Q E
def qO(T:Txt K mg A):bQ P w K mg base eV 1 A.BR A.BL ["bound"] xw:=by
 refine T.kC.ok NM (λvs H Q E h=>?_) (λd3 A' outer s H vs Q E hr h=>?_)
 ·obtain⟨o,rfl,_⟩:=h;rfl
 ·obtain⟨o,rfl,k⟩:=h
  refine⟨_,(aF (aI (eM (gY (lJ (pv 0))) (aR (aA aG (aA aG aD))) (aR (aA aG (aA (pv 0) aD)))))),?_⟩
  refine⟨_,rfl,_,rfl,?_⟩
  cases o with
  |none=>exact bW ⟨pZ,λr hr=>k _ r (aE hr) hr aB⟩
  |some x=>exact cG ⟨_,rfl,pZ,λr hr=>k _ r (aE hr) hr aB⟩
def c9{l:List Int}(h:isNm l=true):eQ l/\l.length<=6:=by
 unfold isNm at h;split at h
 ·cases h
 ·next q=>
  rw[aNB]at h
  refine⟨λx hx=>?_,?_⟩
  ·have:=h x hx
   unfold isLet cM at this;simp only[Bool.or_eq_true,aM5,decide_eq_true_eq]at this;omega
  ·have:=λz=>q (.inr (.inl z));omega
def Wz{l:List Int}{m:Nat}(h:aNt l m=true):eQ l/\l.length<=m:=by
 unfold aNt at h;simp only[aM5,decide_eq_true_eq,aNB]at h;refine⟨λx hx=>?_,h.1⟩;have:=h.2 x hx;unfold aMP at this;simp only[aM5,decide_eq_true_eq]at this;exact this
def ZW{l:List Int}{m:Nat}(h:eQ l)(hl:l.length<=m):aNt l m=true:=by
 unfold aNt;simp only[aM5,decide_eq_true_eq,aNB];refine⟨hl,λx hx=>?_⟩;unfold aMP;simp only[aM5,decide_eq_true_eq];exact h x hx
def dD(l:List Int):aNc l=isNm l:=by
 unfold aNc;cases hb:aNt l 6 with
 |true=>rw[aNJ,PK (Wz hb).1]
 | false=>
  cases hn:isNm l with
  |false=>rfl
  | true=>
   have:=c9 hn
   rw[ZW this.1 this.2]at hb
   cases hb
def uf:∀{a b:List Int},eQ a->eQ b->aLy a=aLy b->a=b:=by
 intro a b ha hb h;rw[<-l9 ha,h,l9 hb]
inductive W8(K:aMC)(vs:List V)(H:Hp)(Q:VK)(E:XK):Prop
 |mk:∀(o t:Addr) (k a:Int) (one two:List Int),vs=[.int k,.int a,.ref o,.ref t]->IL K H o one->IL K H t two->Q (.bl (aMn (.say k a one two))) H->W8 K vs H Q E
def M3(T:Txt K mg A):bQ P w K mg base eV 3 A.yY A.xF ["kind","years","one","two"] (W8 K):=by
 refine T.yA.ok M7 (λvs H Q E h=>?_) (λd3 A' outer s H vs Q E hr h=>?_)
 ·obtain⟨o,t,k,a,one,two,rfl,_⟩:=h;rfl
 ·obtain⟨o,t,k,a,one,two,rfl,ho,ht,q⟩:=h
  have xk:(two.map V.int).length=two.length:=aLx _;have ke:aMn (.say k a one two)=(aMP k 0 3&&(aMP a (-100000) 100000&&(isNm one&&(if k<=1 then two.isEmpty else isNm two&&(aLy one !=aLy two&&(k==2||decide (0<=a))))))):=by
   show(aMP k 0 3&&(aMP a (-100000) 100000&&(aNc one&&(if k<=1 then two.isEmpty else aNc two&&(aLy one !=aLy two&&(k==2||decide (0<=a)))))))=_
   rw[dD,dD]
  rw[ke]at q
  refine⟨_,(aC (bE (PW.pt (jR (aL fP (pv 0) aG (aP _)) (jR (aL iG (pv 0) aG (aP _)) (jR (aL iG (bJ su (by rfl) T.aER aBq (aA (pv 1) aD)) (aM rfl T.QE) (aP _)) (gX (fG (dC (cF T.t6 (A7 T) hr T.Dx (Dt T) (aA (pv 2) aD))))))))) (aF (aI jQ)) aN)
   (aC (bE (aL fP (pv 0) aG (aP _)) (aF (aI (AQ eW (bJ aW (by rfl) T.eX c8 (aA (pv 3) aD)) aG (aP _)))) aN)
   (aC (bE (PW.pt (w9 (aL eW (pv 0) aG (aP _)) (sY (aL fP (pv 1) aG (aP _))))) (aF (aI jQ)) aN)
   (aF (aI (ZD (cF T.t6 (A7 T) hr T.Dx (Dt T) (aA (pv 3) aD)) (LF (AQ (aBz hr.units) (pv 2) (pv 3) (aP _))))))))),?_⟩
  refine⟨_,rfl,_,_,rfl,rfl,_,rfl,?_⟩
  refine cA (λc=>bW ?_) (λc=>?_)
  ·have c:=dT c;have e:aMP k 0 3=false:=by unfold aMP;rw[decide_eq_false (by omega)];rfl
   rw[e,aNO]at q;exact q
  have c1:=dF c;refine⟨_,rfl,_,_,rfl,rfl,_,rfl,?_⟩;refine cA (λc=>bW ?_) (λc=>?_)
  ·have c:=dT c;have e:aMP k 0 3=false:=by unfold aMP;rw[decide_eq_false (by omega:¬k<=3),aNT]
   rw[e,aNO]at q;exact q
  have c2:=dF c;have e:aMP k 0 3=true:=by unfold aMP;rw[decide_eq_true (by omega),decide_eq_true (by omega)];rfl
  rw[e,aNJ]at q
  refine⟨_,rfl,_,rfl,_,_,rfl,rfl,_,rfl,?_⟩
  refine cA (λc=>bW ?_) (λc=>?_)
  ·have c:=dT c;have e:aMP a (-100000) 100000=false:=by
    unfold aMP;split at c
    ·rw[decide_eq_false (by omega)];rfl
    ·rw[decide_eq_false (by omega:¬a<=100000),aNT]
   rw[e,aNO]at q;exact q
  have c3:=dF c;have e:aMP a (-100000) 100000=true:=by
   unfold aMP;split at c3
   ·rw[decide_eq_true (by omega),decide_eq_true (by omega)];rfl
   ·rw[decide_eq_true (by omega),decide_eq_true (by omega)];rfl
  rw[e,aNJ]at q
  refine⟨_,rfl,o,one,rfl,.inl ho,_,rfl,?_⟩
  cases hn1:isNm one with
  |false=>rw[hn1,aNO]at q;exact bW q
  | true=>
   rw[hn1,aNJ]at q
   refine cG ⟨_,rfl,_,_,rfl,rfl,_,rfl,?_⟩;refine cA (λc=>?_) (λc=>?_)
   ·have c:=dT c;rw[if_pos (by omega)]at q
    refine⟨_,rfl,t,_,rfl,.inl ht,rfl,?_⟩
    have e:decide (V.int ((two.map V.int).length:Int)=V.int 0)=two.isEmpty:=by
     cases two with
     |nil=>rfl
     | cons x l=>
      refine decide_eq_false λz=>?_;injection z with z;simp at z;omega
    rw[e];exact q
   have c4:=dF c;rw[if_neg (by omega)]at q
   refine⟨_,rfl,rfl,_,rfl,?_⟩
   have kR:(k==2||decide (0<=a))=true->aBD (Nv (LQ K) [] E0 (B9 (t9 3) WS)) (Yn (aDy K) (t9 2) (t9 3)) [some (V.int k),some (V.int a),some (V.ref o),some (V.ref t)] H Q:=by
    intro hk;rw[hk,aOa]at q;refine⟨_,rfl,t,two,rfl,.inl ht,_,rfl,?_⟩;cases hn2:isNm two with
    |false=>rw[hn2,aNO]at q;exact cG q
    | true=>
     rw[hn2,aNJ]at q
     refine bW ⟨_,rfl,_,rfl,o,t,one,two,rfl,rfl,ho,ht,?_⟩;have e:(!decide (one=two))=(aLy one !=aLy two):=by
      by_cases z:one=two
      ·subst z;simp
      ·have z2:aLy one≠aLy two:=λw=>z (uf (c9 hn1).1 (c9 hn2).1 w);rw[decide_eq_false z,bne_iff_ne.2 z2];rfl
     rw[e];exact q
   refine cA (λc=>?_) (λc=>cG ?_)
   ·have c:=vEq c;refine⟨_,rfl,_,_,rfl,rfl,_,rfl,?_⟩;refine cA (λc5=>?_) (λc5=>?_)
    ·have c5:=dT c5;have e:(k==2||decide (0<=a))=false:=by
      rw[decide_eq_false (by omega),aPK]
      exact beq_eq_false_iff_ne.2 (by omega)
     rw[e,aNT,aNT]at q
     exact q
    ·have c5:=dF c5;exact kR (by rw[decide_eq_true (by omega),Bool.or_true])
   ·have c:=GS c;exact kR (by rw[beq_iff_eq.2 (by omega:k=2)];rfl)
def jS(H:Hp):List Addr->List (List Int)->Prop:=Paired λa row=>H a=some (.lst (row.map V.int))
def jS.same{H H':Hp}{rs:List Addr}{rows:List (List Int)}(h:jS H rs rows)(s:aV H H'):jS H' rs rows:=dZ (λ_ _ q=>s _ _ q) h
def GX(A:jK)(H:Hp)(cs:List V)(H':Hp)(cs':List V):Prop:=∀(a dx l:Addr) (b:Bool),V.ref a∈cs'->H' a=some (.ins A.dP dx (fE l b))->(∃b',V.ref a∈cs/\H a=some (.ins A.dP dx (fE l b')))\/H l=aP4
def tZ{C C' d d' l l':Addr}{b b':Bool}(h:HO.ins C d (fE l b)=HO.ins C' d' (fE l' b')):d=d'/\l=l':=by
 unfold fE at h;injection h with _ h1 h2;injection h2 with h3 _;injection h3 with _ h4;injection h4 with h5;exact⟨h1,h5⟩
def zM{A:jK}{H:Hp}{lc a:Addr}{cs:List V}{ps:List (Option aMx)}(h:iM A H lc cs ps)(ha:V.ref a∈cs):∃dc lp b q,H a=some (.ins A.dP dc (fE lp b))/\c6 A.bZ H lp q:=by
 obtain⟨i,hi,hie⟩:=aNa ha
 obtain⟨y,hy,hs⟩:=dU h.2 (i:=i) (a:=V.ref a) (by rw[aMK hi,hie])
 cases y with
 |none=>cases(show V.ref a=.non from hs)
 | some p=>
  obtain⟨ca,e,dc,lp,qq,g1,g2,_⟩:=(show ∃ca,V.ref a=.ref ca/\fQ A H ca p from hs)
  injection e with e;subst e;exact⟨dc,lp,p.on,qq,g1,g2⟩
def GX.of{A:jK}{H H':Hp}{lc:Addr}{cs cs':List V}{ps:List (Option aMx)}(h:iM A H lc cs ps)(sub:∀a,V.ref a∈cs'->V.ref a∈cs\/∃dx l b,H' a=some (.ins A.dP dx (fE l b))/\H l=aP4)
  (k:∀(a dx l:Addr) (b:Bool),V.ref a∈cs->H a=some (.ins A.dP dx (fE l b))->∃b',H' a=some (.ins A.dP dx (fE l b'))):GX A H cs H' cs':=by
 intro a dx l b ha hH';rcases sub a ha with ha|⟨dx',l',b',e,n⟩
 ·obtain⟨dc,lp,b0,q,g1,_⟩:=zM h ha
  obtain⟨b',e⟩:=k a dc lp b0 ha g1
  rw[e]at hH'
  obtain⟨rfl,rfl⟩:=tZ (aP6 hH')
  exact .inl ⟨b0,ha,g1⟩
 ·rw[e]at hH'
  obtain⟨rfl,rfl⟩:=tZ (aP6 hH')
  exact .inr n
def gW(A:jK)(H:Hp)(r:Addr)(f:iJ)(s:aMA)(c:aN4)(Q:VK):Prop:=∀(H':Hp) (out:Addr) (f':iJ),dW A H' r f' (aMY s c).1->H out=aP4->
 H' out=some (.lst ((aMY s c).2.map V.int))->(∀b o,H b=some o->b∉f.all r->H' b=some o)->(∀b∈f'.all r,b∈f.all r\/H b=aP4)->GX A H f.cs H' f'.cs->Q (.ref out) H'
def gW.pure{A:jK}{H H':Hp}{r out:Addr}{f:iJ}{s:aMA}{c:aN4}{Q:VK}{ans:List Int}(k:gW A H r f s c Q)(hR:dW A H r f s)(hs:aMY s c=(s,ans))(sm:aV H H')(ho:H out=aP4)
  (e:H' out=some (.lst (ans.map V.int))):Q (.ref out) H':=by
 refine k H' out f ?_ ho ?_ (λb o h _=>sm b o h) (λb hb=>.inl hb) (GX.of hR.cores (λ_ z=>.inl z) λa dx l b _ e=>⟨b,sm _ _ e⟩)
 ·rw[hs];exact hR.same sm
 ·rw[hs];exact e
inductive gF(A:jK)(n k:Nat)(mk:List Int->List (List Int)->aN4)(vs:List V)(H:Hp)(Q:VK)(E:XK):Prop
 |mk:∀(r ln lr:Addr) (f:iJ) (s:aMA) (nums:List Int) (rows:List (List Int)) (rs:List Addr),vs=[.ref r,.ref ln,.ref lr]->dW A H r f s->H ln=some (.lst (nums.map V.int))->H lr=some (.lst (rs.map V.ref))->jS H rs rows->nums.length=n->rows.length=k->(∀x∈rows,x.length<=310)->gW A H r f s (mk nums rows) Q->gF A n k mk vs H Q E
def kP{nums:List Int}{i:Nat}(h:i<nums.length):FR (nums.map V.int) (i:Int)=some (V.int (nums.getD i 0)):=tD h
def k5{H:Hp}{rs:List Addr}{rows:List (List Int)}(h:jS H rs rows){i:Nat}(hi:i<rows.length):∃a,FR (rs.map V.ref) (i:Int)=some (V.ref a)/\H a=some (.lst ((rows.getD i []).map V.int))/\rows.getD i []∈rows:=by
 have e:rows[i]?=some (rows.getD i []):=by rw[aMW,aMK hi];rfl
 obtain⟨a,ha,hr⟩:=JY h e
 exact⟨a,dS (Yp ha),hr,aMZ e⟩
def qL(s:aMA)(c:Int):(k7 s c=-1/\aMg c=false)\/(k7 s c=-4/\aMg c=true/\aMf s c.toNat=none)\/(k7 s c=0/\aMg c=true/\∃p,aMf s c.toNat=some p):=by
 unfold k7;cases hc:aMg c with
 |false=>exact .inl ⟨if_pos rfl,rfl⟩
 | true=>
  rw[if_neg (by decide)]
  cases ho:aMf s c.toNat with
  |none=>exact .inr (.inl ⟨if_pos rfl,rfl,rfl⟩)
  |some p=>exact .inr (.inr ⟨if_neg (by intro z;cases z),rfl,p,rfl⟩)
def M1(T:Txt K mg A):bQ P w K mg base eV 4 A.qK A.xB ["record","numbers","rows"] (gF A 1 0 λnums _=>.print (nums.getD 0 0)):=by
 refine T.x6.ok uV (λvs H Q E h=>?_) (λd3 A' outer s H vs Q E hr h=>?_)
 ·obtain⟨r,ln,lr,f,st,nums,rows,rs,rfl,_⟩:=h;rfl
 ·obtain⟨r,ln,lr,f,st,nums,rows,rs,rfl,hR,pX,oA,rK,hn,hk,rH,k⟩:=h
  have a0:=kP (nums:=nums) (i:=0) (by omega)
  refine⟨_,(aC (dE 3 uV.nd (cF T.fX (iY T) hr T.jY (jX T) (aA (pv 0) (aA (fO (pv 1) aG) aD))))
   (aC (bE (aL fP (pv 3) aG (aP _)) (aF (aI (aR (aA (pv 3) aD)))) aN)
   (aC (dE 4 uV.nd (cF T.DO (QM T) hr T.Xb (Xw T) (aA (aU (fO (aU (pv 0) rfl) (fO (pv 1) aG)) rfl) aD)))
   (aF (aI (bH fR (aR (aA (bJ aW (by rfl) T.eX c8 (aA (pv 4) aD)) aD)) (pv 4))))))),?_⟩
  refine⟨_,rfl,_,rfl,ln,_,_,_,rfl,rfl,aZ.of pX,a0,r,f,st,_,rfl,hR,?_⟩
  have k:gW A H r f st (.print (nums.getD 0 0)) Q:=k;generalize hc:nums.getD 0 0=c at*;refine⟨_,rfl,_,_,rfl,rfl,_,rfl,?_⟩;rcases qL st c with⟨e,AI⟩|⟨e,AI,rJ⟩|⟨e,AI,p,hp⟩
  ·rw[e]
   refine bW ⟨_,rfl,aO,λout ho=>?_⟩;exact k.pure hR (ans:=[-1]) (by show(if aMg c=false then _ else _)=_;rw[if_pos AI]) (aE ho) ho aB
  ·rw[e]
   refine bW ⟨_,rfl,aO,λout ho=>?_⟩;exact k.pure hR (ans:=[-4]) (by show(if aMg c=false then _ else _)=_;rw[if_neg (by rw[AI];decide)];unfold aMS;simp only[rJ]) (aE ho) ho aB
  ·rw[e]
   obtain⟨v,hv,EJ,CB,hco⟩:=tW hR AI
   rw[hp]at CB
   obtain⟨a,rfl,dc,lp,q,g1,g2,g3⟩:=(show ∃a,v=.ref a/\fQ A H a p from CB)
   have Zq:=hR.wf.cores p (fV hp);have hq:q.length<=300:=by
    have:=congrArg aMi g3
    rw[aLx]at this
    rw[this];exact Zq.len
   have Mo:∀z∈q,mN z.1:=λz hz=>Zq.items z.1 (by rw[<-g3];exact aOb hz)
   refine cG ⟨_,rfl,r,_,f.dr,_,_,rfl,hR.obj,T.bA,T.bD,rfl,_,rfl,ln,_,_,_,rfl,rfl,aZ.of pX,a0,f.lc,_,_,_,rfl,rfl,aZ.of hR.cores.1,EJ,a,_,dc,_,_,rfl,g1,T.kZ,T.fL,rfl,lp,q,rfl,g2,hq,Mo,λH1 t s1 ht0 ht ma=>?_⟩;rw[g3]at ht ma;refine⟨_,rfl,t,_,rfl,.inl (aZ.of ht),aO,λp1 WM=>?_⟩;refine⟨_,rfl,p1,t,_,_,rfl,rfl,aB,aE WM _ _ ht,?_,λout ho=>?_⟩
   ·rw[aLx,dH];exact aMm (dX (show 1+_<=100000 by omega))
   ·refine k.pure hR (ans:=aMl (aLz (aOA p.core))) ?_ (s1.trans ((aE WM).trans (aE ho))) ((s1.trans (aE WM)).free ho) ?_
    ·show(if aMg c=false then _ else _)=_
     rw[if_neg (by rw[AI];decide)]
     unfold aMS;simp only[hp]
    ·rw[aB]
     unfold aMl;rw[aM2,aLx];rfl
def MC(T:Txt K mg A):bQ P w K mg base eV 3 A.qP A.xG ["record","numbers","rows"] (gF A 1 0 λnums _=>.parts (nums.getD 0 0)):=by
 refine T.x4.ok nD (λvs H Q E h=>?_) (λd3 A' outer s H vs Q E hr h=>?_)
 ·obtain⟨r,ln,lr,f,st,nums,rows,rs,rfl,_⟩:=h;rfl
 ·obtain⟨r,ln,lr,f,st,nums,rows,rs,rfl,hR,pX,oA,rK,hn,hk,rH,k⟩:=h
  have a0:=kP (nums:=nums) (i:=0) (by omega)
  refine⟨_,(aC (dE 3 nD.nd (cF T.fX (iY T) hr T.jY (jX T) (aA (pv 0) (aA (fO (pv 1) aG) aD))))
   (aC (bE (aL fP (pv 3) aG (aP _)) (aF (aI (aR (aA (pv 3) aD)))) aN)
   (aC (dE 4 nD.nd (aR aD))
   (aC (cT aP5 rfl (cI (cF T.mF (Hc T) hr T.DG (DA T) (aA (aU (fO (aU (pv 0) rfl) (fO (pv 1) aG)) rfl) aD))) (jN 5 nD.nd) (aF (cS (e9 aMa aOH aOI Ab (pv 4) (aA (pv 5) aD)))))
   (aF (aI (bH fR (aR (aA (bJ aW (by rfl) T.eX c8 (aA (pv 4) aD)) aD)) (pv 4)))))))),?_⟩
  refine⟨_,rfl,_,rfl,ln,_,_,_,rfl,rfl,aZ.of pX,a0,r,f,st,_,rfl,hR,?_⟩
  have k:gW A H r f st (.parts (nums.getD 0 0)) Q:=k;generalize hc:nums.getD 0 0=c at*;refine⟨_,rfl,_,_,rfl,rfl,_,rfl,?_⟩;rcases qL st c with⟨e,AI⟩|⟨e,AI,rJ⟩|⟨e,AI,p,hp⟩
  ·rw[e]
   refine bW ⟨_,rfl,aO,λout ho=>?_⟩;exact k.pure hR (ans:=[-1]) (by show(if aMg c=false then _ else _)=_;rw[if_pos AI]) (aE ho) ho aB
  ·rw[e]
   refine bW ⟨_,rfl,aO,λout ho=>?_⟩;exact k.pure hR (ans:=[-4]) (by show(if aMg c=false then _ else _)=_;rw[if_neg (by rw[AI];decide)];unfold aMS;simp only[rJ]) (aE ho) ho aB
  ·rw[e]
   obtain⟨v,hv,EJ,CB,hco⟩:=tW hR AI
   rw[hp]at CB
   obtain⟨a,rfl,dc,lp,q,g1,g2,g3⟩:=(show ∃a,v=.ref a/\fQ A H a p from CB)
   have Zq:=hR.wf.cores p (fV hp);have hq:q.length<=300:=by
    have:=congrArg aMi g3
    rw[aLx]at this
    rw[this];exact Zq.len
   refine cG ⟨aM1 _,λy hy=>?_⟩;have sy:=aE (o:=.lst []) hy;refine⟨_,rfl,r,_,f.dr,_,_,rfl,sy _ _ hR.obj,T.bA,T.bD,rfl,_,rfl,ln,_,_,_,rfl,rfl,aZ.of (sy _ _ pX),a0,f.lc,_,_,_,rfl,rfl,aZ.of (sy _ _ hR.cores.1),EJ,a,_,dc,_,_,rfl,sy _ _ g1,T.kZ,T.fL,rfl,lp,q,rfl,g2.same sy,hq,λH1 fl fs s1 T7 xn JV=>?_⟩;rw[g3]at JV;have aAG:fs.length=(cV 0 0 p.core).length:=bG JV;have CB:=CO p.core;have hnl:=aM3 (mT p.core) Zq.len;have nfy:fl≠y:=(aJ aB T7).symm;refine⟨fl,rfl,⟨_,aZ.of xn⟩,cW (K:=K) (a:=fl) (xs:=fs)
    (λi σ H'=>∃v5:Option V,σ=[some (.ref r),some (.ref ln),some (.ref lr),some (.int 0),some (.ref y),v5]/\aV H H'/\H' fl=some (.lst fs)/\cZ H' fs (cV 0 0 p.core)/\H' y=some (.lst ((((cV 0 0 p.core).take i).flatMap λz=>[z.1,z.2]).map V.int))) ?_ ?_ ?_ ?_⟩
   ·exact⟨none,rfl,sy.trans s1,xn,JV,s1 _ _ aB⟩
   ·rintro i σ H' _ ⟨_,_,_,h,_⟩;exact aZ.of h
   ·rintro i x σ H' hx ⟨v5,rfl,s2,hf2,aCn,hy2⟩;obtain⟨z,hz,sa,rfl,hsa⟩:=dU aCn hx;have T6:i<(cV 0 0 p.core).length:=(aM0.mp hz).1;have aCq:(((cV 0 0 p.core).take i).flatMap λz=>[z.1,z.2]).length<=2*i:=by
     have:=cQ (λz:Int×Int=>[z.1,z.2]) 2 ((cV 0 0 p.core).take i) (λ_ _=>by simp)
     rw[aMj]at this
     omega
    refine⟨_,rfl,.inl ⟨rfl,_,aZ.of hy2⟩,_,rfl,y,sa,_,_,rfl,rfl,hy2,hsa,?_,?_⟩
    ·rw[aLx];exact aMm (bB (show _+2<=1000 by omega))
    ·have bb:=cD (H:=H') (D:=y) (o:=.lst ((((cV 0 0 p.core).take i).flatMap λz=>[z.1,z.2]).map V.int++[.int z.1,.int z.2]));refine⟨_,rfl,bI s2 hy,bb _ _ hf2 nfy,cZ.but aCn hy2 bb,?_⟩;rw[aB,bK hz,aNo,aMU];rfl
   ·rintro σ H' ⟨v5,rfl,s2,hf2,aCn,hy2⟩;rw[aAG,aMe]at hy2;have aCq:((cV 0 0 p.core).flatMap λz=>[z.1,z.2]).length<=2*(cV 0 0 p.core).length:=cQ (λz:Int×Int=>[z.1,z.2]) 2 _ (λ_ _=>by simp)
    refine⟨_,rfl,y,_,rfl,.inl (aZ.of hy2),aO,λp1 WM=>?_⟩
    refine⟨_,rfl,p1,y,_,_,rfl,rfl,aB,aE WM _ _ hy2,?_,λout ho=>?_⟩
    ·rw[aLx];exact aMm (dX (show 1+_<=100000 by omega))
    ·refine k.pure hR (ans:=aMl ((cV 0 0 p.core).flatMap λz=>[z.1,z.2])) ?_ (s2.trans ((aE WM).trans (aE ho))) ((s2.trans (aE WM)).free ho) ?_
     ·show(if aMg c=false then _ else _)=_
      rw[if_neg (by rw[AI];decide)]
      unfold aMS;simp only[hp];rw[j8,List.flatMap_map];rfl
     ·rw[aB]
      unfold aMl;rw[aM2,aLx];rfl
def Jl(n:aMV):(aMl (aLz n)).map V.int=V.int (n.length:Nat)::(aLz n).map V.int:=by
 unfold aMl;rw[aM2,dH]
def Ag{n:aMV}(h:aNW n=true):n.length<=6:=by
 unfold aNW at h;split at h
 ·cases h
 ·simp only[aM5,decide_eq_true_eq]at h
  rw[aMT];omega
def QP{c:aMO}(h:∀x∈c,mN x):∀n∈aMD c,aNW n=true:=by
 intro n hn;unfold aMD at hn;rw[aNd]at hn;obtain⟨x,hx,e⟩:=hn;cases x with
 |mark m=>injection e with e;subst e;exact h _ hx
 |years m=>cases e
 |doubts m=>cases e
 |gap m k=>cases e
def Bf{s:aMA}(h:Wf s):∀n∈aMI s,aNW n=true:=by
 intro n hn;unfold aMI at hn;rw[qY,aMX,aNR,aNR]at hn;rcases hn with⟨o,ho,hn⟩|⟨x,hx,hn⟩
 ·cases o with
  |none=>simp at hn
  |some p=>exact QP (h.cores p ho).items n hn
 ·have hw:=h.said x hx;split at hn
  ·have:n=x.one:=by simpa using hn
   rw[this];exact hw.one
  ·next hk=>
   have:n=x.one\/n=x.two:=by simpa using hn
   rcases this with q|q
   ·rw[q];exact hw.one
   ·rw[q];exact hw.fz (by omega)
def ME(T:Txt K mg A):bQ P w K mg base eV 3 A.qD A.yS ["record","numbers","rows"] (gF A 0 0 λ_ _=>.times):=by
 refine T.yZ.ok mX (λvs H Q E h=>?_) (λd3 A' outer s H vs Q E hr h=>?_)
 ·obtain⟨r,ln,lr,f,st,nums,rows,rs,rfl,_⟩:=h;rfl
 ·obtain⟨r,ln,lr,f,st,nums,rows,rs,rfl,hR,pX,oA,rK,hn,hk,rH,k⟩:=h
  have k:gW A H r f st .times Q:=k;refine⟨_,(aC (dE 3 mX.nd (cF T.fU (gJ T) hr T.iO (iP T) (aA (aU (pv 0) rfl) (aA (aU (pv 0) rfl) aD))))
   (aC (dE 4 mX.nd (aR (aA (cF T.qB (D7 T) hr T.FN (Eu T) (aA (pv 3) aD)) aD)))
   (aC (cT aP5 rfl (cI (pv 3)) (jN 5 mX.nd) (aC (cS (e9 aMa aMr aMs cR (pv 4) (aA (bJ aW (by rfl) T.eX c8 (aA (pv 5) aD)) aD)))
   (aF (cS (e9 aMa aOH aOI Ab (pv 4) (aA (pv 5) aD))))))
   (aF (aI (pv 4)))))),?_⟩
  refine⟨_,rfl,r,_,f.dr,_,_,rfl,hR.obj,T.bA,T.bD,rfl,_,rfl,r,_,f.dr,_,_,rfl,hR.obj,T.bA,T.bC,rfl,
   f.lc,f.lt,f.cs,f.ts,st.cores,st.said,rfl,hR.cores,hR.things,hR.wf.namesOk,λH1 nm ms s1 Y3 zA t8=>?_⟩
  have Oe:aMI ⟨st.cores,st.said⟩=aMI st:=rfl;rw[Oe]at t8;have GQ:ms.length=(aMI st).length:=by rw[aS.length t8,aLx]
  have aEg:=hR.wf.names;refine⟨_,rfl,nm,ms,rfl,aZ.of zA,aO,λL hL=>?_⟩;have hLH:H L=aP4:=s1.free hL;have sL:=aE (o:=.lst [V.int ((9+ms.length:Nat):Int)]) hL;have nnL:nm≠L:=aJ zA hL;have aIU:((9+ms.length:Nat):Int)=(aMB st:Int):=by rw[cK,GQ]
  refine⟨_,rfl,nm,rfl,⟨_,aZ.of (sL _ _ zA)⟩,cW (K:=K) (a:=nm) (xs:=ms)
   (λi σ H'=>∃v5:Option V,σ=[some (.ref r),some (.ref ln),some (.ref lr),some (.ref nm),some (.ref L),v5]/\aV H H'/\H' nm=some (.lst ms)/\aS H' ms ((aMI st).map aLz)/\H' L=some (.lst (((aMB st:Int)::((aMI st).take i).flatMap λn=>aMl (aLz n)).map V.int))) ?_ ?_ ?_ ?_⟩
  ·refine⟨none,rfl,s1.trans sL,sL _ _ zA,aS.same t8 sL,?_⟩
   rw[aB,aIU];rfl
  ·rintro i σ H' _ ⟨_,_,_,h,_⟩;exact aZ.of h
  ·rintro i x σ H' hx ⟨v5,rfl,s2,Nn,CA,WO⟩;have T6:i<(aMI st).length:=by rw[<-GQ];exact(aM0.mp hx).1
   obtain⟨n,hn⟩:∃n,(aMI st)[i]?=some n:=⟨_,aMK T6⟩
   obtain⟨na,B5,lq⟩:=aS.get CA (i:=i) (ns:=aLz n) (by rw[aM4,hn];rfl)
   rw[hx]at B5
   injection B5 with B5;subst B5;have cC:(((aMB st:Int)::((aMI st).take i).flatMap λn=>aMl (aLz n)).map V.int).length<=1+7*i:=by
    rw[aLx,aMT]
    refine aM3 (Nat.add_le_add_right (cQ _ 7 ((aMI st).take i) (λm hm=>?_)) 1) ?_
    ·have:=Ag (Bf hR.wf m (aPI hm))
     unfold aMl;rw[aMT,dH];omega
    ·rw[aMj];omega
   have hn6:=Ag (Bf hR.wf n (aMZ hn));generalize By:((aMB st:Int)::((aMI st).take i).flatMap λn=>aMl (aLz n)).map V.int=acc at WO cC;refine⟨_,rfl,.inl ⟨rfl,_,aZ.of WO⟩,_,rfl,na,_,rfl,.inr (eE.of lq),L,_,_,rfl,rfl,WO,bB (by omega),?_⟩
   have b1:=cD (H:=H') (D:=L) (o:=.lst (acc++[V.int (((aLz n).map V.int).length:Int)]));have aCu:na≠L:=c7 lq WO (by intro z;cases z)
   refine⟨_,rfl,.inl ⟨rfl,_,aZ.of aB⟩,_,rfl,L,na,_,_,rfl,rfl,aB,b1 _ _ lq aCu,?_,?_⟩
   ·rw[aMH,aLx,dH];exact aMm (bB (show _+1+_<=1000 by omega))
   ·rw[j0]
    have b2:=cD (H:=H') (D:=L) (o:=.lst (acc++[V.int (((aLz n).map V.int).length:Int)]++(aLz n).map V.int));refine⟨_,rfl,bI s2 hLH,b2 _ _ Nn nnL,aS.but CA WO b2,?_⟩;rw[aB,bK hn,aNo,<-aO3,aMU,By,aNC,aO2,aMc,Jl,aLx,dH,aMb];rfl
  ·rintro σ H' ⟨v5,rfl,s2,Nn,CA,WO⟩;rw[GQ,aMe]at WO;refine⟨_,rfl,k.pure hR (ans:=(aMB st:Int)::(aMI st).flatMap λn=>aMl (aLz n)) rfl s2 hLH WO⟩
def YC{s:aMA}{d:List Int}(h:sX (aMJ s) (aMB s) (aMF (aMB s) 0)=some d):kT (aMJ s)/\d.length=aMB s/\aNE (aMB s) (aML s)=true:=by
 have hs:=Fd (n:=aMB s) (l:=aMJ s) (by rw[cK];omega) (bP s) (lL s)
 rw[h]at hs
 exact⟨hs.1,hs.2.1,(gS (bP s)).2 hs.1⟩
def Fq{s:aMA}(h:sX (aMJ s) (aMB s) (aMF (aMB s) 0)=none):aNE (aMB s) (aML s)=false:=by
 have hs:=Fd (n:=aMB s) (l:=aMJ s) (by rw[cK];omega) (bP s) (lL s)
 rw[h]at hs
 rw[<-aNb]
 exact λz=>hs ((gS (bP s)).1 z)
def Wy{s:aMA}{d:List Int}(h:sX (aMJ s) (aMB s) (aMF (aMB s) 0)=some d){i:Nat}(hi:i<aMB s):aMq (aML s) i=d.getD i 0:=by
 have hs:=Fd (n:=aMB s) (l:=aMJ s) (by rw[cK];omega) (bP s) (lL s)
 rw[h]at hs
 have e:=cP.uniq (d5 (bP s) hs.1 hi (by rw[cK];omega:0<aMB s)) (hs.2.2 i hi)
 unfold aMq aML;rw[e];show - -(d.getD i 0)=_;omega
def PF{s:aMA}(hc:kT (aMJ s)){i:Nat}(hi:i<aMB s):aND (aML s) i=(dJ (aMJ s) (aMB s) (bR (aMB s) 0)).getD i none:=
 cP.uniq (d5 (bP s) hc (by rw[cK];omega) hi) (wD (by rw[cK];omega) (bP s) hc (by omega) hi)
def si{s:aMA}{n:List Int}(h:eQ n):((aMI s).map aLz).contains n=aN1 s n:=by
 unfold aN1
 conv=>lhs;rw[<-l9 h]
 exact yF _ _
def iN{s:aMA}{n:List Int}(h:eQ n)(hk:aN1 s n=true):
  ((aMI s).map aLz)[(aMI s).findIdx λm=>m==aLy n]?=some n/\(∀m,m<((aMI s).findIdx λm=>m==aLy n)->((aMI s).map aLz)[m]?≠some n)/\aLy n∈aMI s:=by
 have hm:aLy n∈aMI s:=by unfold aN1 at hk;simpa using hk
 have jZ:=Lq hm;refine⟨?_,?_,hm⟩
 ·rw[aM4,aMK jZ]
  have:=List.findIdx_getElem (xs:=aMI s) (p:=λm=>m==aLy n) (w:=jZ)
  have e:=eq_of_beq this;show some (aLz _)=some n;rw[e,l9 h]
 ·intro m hmj e;rw[aM4,aMK (by omega)]at e
  have e1:aLz (aMI s)[m]=n:=aP6 e;have:=List.not_of_lt_findIdx hmj;have e2:=congrArg aLy e1;rw[EB]at e2;exact(beq_eq_false_iff_ne.1 this) e2
def NF(T:Txt K mg A):bQ P w K mg base eV 2 A.tH A.An ["record","numbers","rows"] (gF A 1 0 λnums _=>.said (nums.getD 0 0)):=by
 refine T.BH.ok qM (λvs H Q E h=>?_) (λd3 A' outer s H vs Q E hr h=>?_)
 ·obtain⟨r,ln,lr,f,st,nums,rows,rs,rfl,_⟩:=h;rfl
 ·obtain⟨r,ln,lr,f,st,nums,rows,rs,rfl,hR,pX,oA,rK,hn,hk,rH,k⟩:=h
  have k:gW A H r f st (.said (nums.getD 0 0)) Q:=k;have a0:=kP (nums:=nums) (i:=0) (by omega)
  have Bt:∀c x,aMS st (.said c)=x->aMY st (.said c)=x:=λc x hx=>hx;refine⟨_,(aC (bE (fG (dC (cF T.mH (tG T) hr T.wJ (wH T) (aA (pv 0) (aA (fO (pv 1) aG) aD))))) (aF (aI (aR (aA (aM rfl T.rB) aD)))) aN)
   (aC (dE 3 qM.nd (fO (aU (pv 0) rfl) (fO (pv 1) aG)))
   (aC (dE 4 qM.nd (aR (aA (aU (pv 3) rfl) (aA (aU (pv 3) rfl) (aA (eM (dC (aU (pv 3) rfl)) aG aG) aD)))))
   (sZ (λD σ H1=>∃(a L:Addr) (x:aNI) (c:Int),σ=[some (.ref r),some (.ref ln),some (.ref lr),some (.ref a),some (.ref L),none]/\c=nums.getD 0 0/\aNf st c=true/\st.said[c.toNat]?=some x/\AS A H a x/\aV H H1/\H L=aP4/\H1 L=some (.lst ([(x.kind:Int),x.a,aNA x.on].map V.int))/\D.rt=Q) (aC (cT aP5 rfl (og (gC (aA (aU (pv 3) rfl) (aA (aU (pv 3) rfl) aD)))) (jN 5 qM.nd) (aC (cS (e9 aMa aMr aMs cR (pv 4) (aA (bJ aW (by rfl) T.eX c8 (aA (pv 5) aD)) aD)))
   (aF (cS (e9 aMa aOH aOI Ab (pv 4) (aA (pv 5) aD))))))
   (aF (aI (pv 4)))) ?cut)))),?_⟩
  case cut=>
   rintro D σ H1 ⟨a,L,x,c,rfl,hc,Mi,hx,vN,s1,Y8,hL,hD⟩;rw[<-hc]at k;obtain⟨dt,o,t,g1,g2,g3⟩:=vN;have hw:=hR.wf.said x (aMZ hx);have l1:=Ag hw.one;have l2:x.two.length<=6:=by
    by_cases hk2:x.kind<=1
    ·rw[hw.yc hk2];decide
    ·exact Ag (hw.fz (by omega))
   refine⟨_,rfl,a,_,dt,_,_,rfl,s1 _ _ g1,T.cN,T.tE,rfl,_,rfl,a,_,dt,_,_,rfl,s1 _ _ g1,T.cN,T.mU,rfl,pZ,λp hp=>?_⟩
   have sp:=aE (o:=.tup [.ref o,.ref t]) hp;refine⟨p,rfl,⟨_,eE.of aB⟩,bh (K:=K) (a:=p) (xs:=[.ref o,.ref t])
    (λi σ H'=>∃v5:Option V,σ=[some (.ref r),some (.ref ln),some (.ref lr),some (.ref a),some (.ref L),v5]/\aV H H'/\H' p=some (.tup [.ref o,.ref t])/\H' L=some (.lst (([(x.kind:Int),x.a,aNA x.on]++(([x.one,x.two].take i).flatMap λn=>aMl (aLz n))).map V.int))) ?_ ?_ ?_ ?_⟩
   ·exact⟨none,rfl,s1.trans sp,aB,sp _ _ hL⟩
   ·rintro i σ H' _ ⟨_,_,_,h,_⟩;exact eE.of h
   ·rintro i y σ H' hy ⟨v5,rfl,s2,Kg,WO⟩;have one:∃(na:Addr) (n:aMV),y=.ref na/\mL H na n/\[x.one,x.two][i]?=some n/\n.length<=6/\i<2:=by
     match i,hy with
     |0,hy=>exact⟨o,x.one,(aP6 hy).symm,g2,rfl,l1,by decide⟩
     |1,hy=>exact⟨t,x.two,(aP6 hy).symm,g3,rfl,l2,by decide⟩
     |i+2,hy=>simp at hy
    obtain⟨na,n,rfl,B5,hn,hn6,hi2⟩:=one
    have aCs:H' na=some (.tup ((aLz n).map V.int)):=s2 _ _ B5;have cC:(([(x.kind:Int),x.a,aNA x.on]++(([x.one,x.two].take i).flatMap λn=>aMl (aLz n))).map V.int).length<=20:=by
     rw[aLx,aMH]
     refine aM3 (Nat.add_le_add_left (cQ _ 7 ([x.one,x.two].take i) (λm hm=>?_)) _) ?_
     ·have hm:=aPI hm;have:m=x.one\/m=x.two:=by simpa using hm
      unfold aMl;rw[aMT,dH];rcases this with q|q<;>(rw[q];omega)
     ·rw[aMj];show 3+7*min i 2<=20;omega
    generalize By:([(x.kind:Int),x.a,aNA x.on]++(([x.one,x.two].take i).flatMap λn=>aMl (aLz n))).map V.int=acc at WO cC;refine⟨_,rfl,.inl ⟨rfl,_,aZ.of WO⟩,_,rfl,na,_,rfl,.inr (eE.of aCs),L,_,_,rfl,rfl,WO,bB (by omega),?_⟩
    have b1:=cD (H:=H') (D:=L) (o:=.lst (acc++[V.int (((aLz n).map V.int).length:Int)]));have aCu:na≠L:=c7 aCs WO (by intro z;cases z)
    have npL:p≠L:=c7 Kg WO (by intro z;cases z)
    refine⟨_,rfl,.inl ⟨rfl,_,aZ.of aB⟩,_,rfl,L,na,_,_,rfl,rfl,aB,b1 _ _ aCs aCu,?_,?_⟩
    ·rw[aMH,aLx,dH];exact aMm (bB (show _+1+_<=1000 by omega))
    ·rw[j0]
     have b2:=cD (H:=H') (D:=L) (o:=.lst (acc++[V.int (((aLz n).map V.int).length:Int)]++(aLz n).map V.int));refine⟨_,rfl,bI s2 Y8,b2 _ _ Kg npL,?_⟩;rw[aB,bK hn,aNo,<-aMb,aMU,By,aNC,aO2,aMc,Jl,aLx,dH,aMb];rfl
   ·rintro σ H' ⟨v5,rfl,s2,Kg,WO⟩;refine⟨_,rfl,?_⟩;show D.rt _ _;rw[hD];refine k.pure hR (ans:=[(x.kind:Int),x.a,aNA x.on]++(aMl (aLz x.one)++aMl (aLz x.two))) (Bt _ _ ?_) s2 Y8 ?_
    ·unfold aMS;simp only[Mi];rw[if_neg (by decide)]
     simp only[hx]
    ·rw[WO]
     show some (HO.lst (([(x.kind:Int),x.a,aNA x.on]++(aMl (aLz x.one)++(aMl (aLz x.two)++[]))).map V.int))=_;rw[aMc]
  refine⟨_,rfl,_,rfl,ln,_,_,_,rfl,rfl,aZ.of pX,a0,r,f,st,_,rfl,hR,_,rfl,?_⟩
  generalize hc:nums.getD 0 0=c at*;cases Mi:aNf st c with
  | false=>
   refine bW ⟨aO,λout ho=>?_⟩;exact k.pure hR (ans:=[-4]) (Bt _ _ (by unfold aMS;simp only[];rw[if_pos Mi])) (aE ho) ho aB
  | true=>
   have rG:0<=c/\c.toNat<st.said.length:=by
    unfold aNf aMP at Mi;simp only[aM5,decide_eq_true_eq]at Mi;omega
   obtain⟨x,hx⟩:∃x,st.said[c.toNat]?=some x:=⟨_,aMK rG.2⟩
   obtain⟨a,ha,vN⟩:=JY hR.things.2 hx
   have EJ:FR (f.ts.map V.ref) c=some (V.ref a):=G0 (by omega) (Yp ha)
   obtain⟨dt,o,t,g1,g2,g3⟩:=id vN
   refine cG ⟨_,rfl,r,_,f.dr,_,_,rfl,hR.obj,T.bA,T.bC,rfl,_,rfl,ln,_,_,_,rfl,rfl,aZ.of pX,a0,f.lt,_,_,_,rfl,rfl,aZ.of hR.things.1,EJ,?_⟩;refine⟨_,rfl,a,_,dt,_,_,rfl,g1,T.cN,T.kU,rfl,_,rfl,a,_,dt,_,_,rfl,g1,T.cN,T.fY,rfl,_,rfl,a,_,dt,_,_,rfl,g1,T.cN,T.jW,rfl,_,rfl,?_⟩;cases vL:x.on with
   |true=>exact bW ⟨PU,λL hL=>⟨a,L,x,c,rfl,rfl,Mi,hx,vN,aE hL,hL,by rw[aB,vL];rfl,rfl⟩⟩
   |false=>exact cG ⟨PU,λL hL=>⟨a,L,x,c,rfl,rfl,Mi,hx,vN,aE hL,hL,by rw[aB,vL];rfl,rfl⟩⟩
theorem pairOf{α β:Type}{F:α->β->Prop}:∀{l:List α} {m:List β},l.length=m.length->(∀(i:Nat) (a:α) (b:β),l[i]?=some a->m[i]?=some b->F a b)->Paired F l m
 |[],[],_,_=>.nil
 |[],_::_,h,_=>by simp at h
 |_::_,[],h,_=>by simp at h
 |a::l,b::m,h,g=>.cons (g 0 a b rfl rfl) (pairOf (by simpa using h) λi x y hx hy=>g (i+1) x y (by simpa using hx) (by simpa using hy))
def CP:∀{cs:List V} {a:Addr},V.ref a∈cs->a∈refsOf cs:=by
 intro cs a h;unfold refsOf;exact aNd.2 ⟨_,h,rfl⟩
def Gk:∀{cs:List V} {a:Addr},a∈refsOf cs->V.ref a∈cs:=by
 intro cs a h;unfold refsOf at h;obtain⟨v,hv,e⟩:=aNd.1 h;cases v with
 |ref b=>injection e with e;subst e;exact hv
 |_=>cases e
theorem W4:∀{cs:List V} {i j:Nat} {a:Addr},(refsOf cs).Nodup->cs[i]?=some (.ref a)->cs[j]?=some (.ref a)->i=j
 |[],_,_,_,_,h,_=>by simp at h
 |v::cs,0,0,_,_,_,_=>rfl
 | v::cs,0,j+1,a,hn,h1,h2=>by
  simp at h1 h2
  subst h1;have hn:(a::refsOf cs).Nodup:=hn;exact absurd (CP (aMZ h2)) (aNP.1 hn).1
 | v::cs,i+1,0,a,hn,h1,h2=>by
  simp at h1 h2
  subst h2;have hn:(a::refsOf cs).Nodup:=hn;exact absurd (CP (aMZ h1)) (aNP.1 hn).1
 | v::cs,i+1,j+1,a,hn,h1,h2=>by
  have hn':(refsOf cs).Nodup:=by
   cases v with
   |ref b=>exact(aNP.1 (show(b::refsOf cs).Nodup from hn)).2
   |_=>exact hn
  have e:i=j:=W4 (i:=i) (j:=j) (a:=a) hn' (by simpa using h1) (by simpa using h2)
  rw[e]
def vS{C1 C2 d1 d2:Addr}{f1 f2:List (Str×V)}(k:Str)(h:(f1.lookup k).isSome≠(f2.lookup k).isSome):HO.ins C1 d1 f1≠HO.ins C2 d2 f2:=by
 intro z;obtain⟨z1,z2,z3⟩:=HO.ins.inj z;exact h (by rw[z3])
structure ng(g:List (Str×V)):Prop where
 item:∀(x:Itm) (na:Addr) (b:Nat),∃k:Str,((itemF x na b).lookup k).isSome≠(g.lookup k).isSome
 aEJ:∀lc lt:Addr,∃k:Str,((uB lc lt).lookup k).isSome≠(g.lookup k).isSome
section
variable{A:jK}{H H':Hp}{D C dx:Addr}{g:List (Str×V)}
def c6.butI{Ci:Addr}{lp:Addr}{q:List (Itm×Nat)}(ap:ng g)(hD:H D=some (.ins C dx g))(bb:JW D H H')(h:c6 Ci H lp q):c6 Ci H' lp q:=by
 obtain⟨as,h1,h2⟩:=h
 refine⟨as,bb _ _ h1 (c7 h1 hD (by intro z;cases z)),dZ (λa xb hx=>?_) h2⟩
 obtain⟨dd,na,g1,g2⟩:=hx
 obtain⟨k,hk⟩:=ap.item xb.1 na xb.2
 exact⟨dd,na,bb _ _ g1 (c7 g1 hD (vS k hk)),bb _ _ g2 (c7 g2 hD (by intro z;cases z))⟩
def Zp(lp:Addr)(b:Bool):ng (fE lp b):=⟨λx na c=>⟨"least",by show(true:Bool)≠false;decide⟩,λlc lt=>⟨"cores",by show(true:Bool)≠false;decide⟩⟩
def Xu(k:Nat)(a:Int)(o t:Addr)(b:Bool):ng (lK k a o t b):=⟨λx na c=>⟨"least",by show(true:Bool)≠false;decide⟩,λlc lt=>⟨"cores",by show(true:Bool)≠false;decide⟩⟩
def qI{C1 C2 d1 d2 lp o t:Addr}{k:Nat}{a:Int}{b b':Bool}:HO.ins C1 d1 (fE lp b)≠HO.ins C2 d2 (lK k a o t b'):=vS "parts" (by show(true:Bool)≠false;decide)
end
section
variable{A:jK}{H:Hp}{r:Addr}{f:iJ}{s:aMA}
def dW.setThing(h:dW A H r f s){k:Nat}{a dt o t:Addr}{x:aNI}(b:Bool)(hk:s.said[k]?=some x)(ha:f.ts[k]?=some a)(hx:H a=some (.ins A.eJ dt (lK x.kind x.a o t x.on)))(ho:mL H o x.one)(ht:mL H t x.two):
  dW A (upd H a (.ins A.eJ dt (lK x.kind x.a o t b))) r f (aNz s k b):=by
 have bb:JW a H (upd H a (.ins A.eJ dt (lK x.kind x.a o t b))):=cD;have ap:=Xu x.kind x.a o t x.on;have nl:∀{c:Addr} {xs:List V},H c=some (.lst xs)->upd H a (.ins A.eJ dt (lK x.kind x.a o t b)) c=some (.lst xs):=λe=>bb _ _ e (c7 e hx (by intro z;cases z))
 have nt:∀{c:Addr} {xs:List V},H c=some (.tup xs)->upd H a (.ins A.eJ dt (lK x.kind x.a o t b)) c=some (.tup xs):=λe=>bb _ _ e (c7 e hx (by intro z;cases z))
 refine⟨?_,⟨nl h.cores.1,dZ (λv p q=>?_) h.cores.2⟩,⟨nl h.things.1,?_⟩,h.ndc,h.ndt,h.wf.setOn k b⟩
 ·obtain⟨kk,hkk⟩:=ap.aEJ f.lc f.lt
  exact bb _ _ h.obj (c7 h.obj hx (vS kk hkk))
 ·cases p with
  |none=>exact q
  | some p=>
   obtain⟨ca,rfl,dc,lp,qq,g1,g2,g3⟩:=(show ∃ca,v=.ref ca/\fQ A H ca p from q)
   exact⟨ca,rfl,dc,lp,qq,bb _ _ g1 (c7 g1 hx qI),c6.butI ap hx bb g2,g3⟩
 ·rw[lR]
  refine pairOf (by rw[aQj];exact bG h.things.2) λi c y hc hy=>?_
  rw[aQ2]at hy
  obtain⟨z,hz,hcz⟩:=dU h.things.2 hc
  rw[hz]at hy
  have hy:(if i=k then{ z with on:=b }else z)=y:=aP6 hy
  by_cases e:i=k
  ·subst e;rw[ha]at hc;injection hc with hc;subst hc;rw[hk]at hz;injection hz with hz;subst hz;rw[if_pos rfl]at hy;subst hy;exact⟨dt,o,t,aB,nt ho,nt ht⟩
  ·rw[if_neg e]at hy
   subst hy;obtain⟨dd,o',t',g1,g2,g3⟩:=hcz;have nca:c≠a:=λq=>e (aAt h.ndt hc (by rw[q];exact ha))
   exact⟨dd,o',t',bb _ _ g1 nca,nt g2,nt g3⟩
def dW.setCore(h:dW A H r f s){c:Nat}{a dc lp:Addr}{p:aMx}{q:List (Itm×Nat)}(b:Bool)(hc:s.cores[c]?=some (some p))(ha:f.cs[c]?=some (.ref a))(hx:H a=some (.ins A.dP dc (fE lp p.on)))(hp:c6 A.bZ H lp q)(hq:q.map (λz=>z.1)=p.core)
  (hw:Wf { s with cores:=s.cores.set c (some { p with on:=b }) }):
  dW A (upd H a (.ins A.dP dc (fE lp b))) r f { s with cores:=s.cores.set c (some { p with on:=b }) }:=by
 have bb:JW a H (upd H a (.ins A.dP dc (fE lp b))):=cD;have ap:=Zp lp p.on;have nl:∀{c:Addr} {xs:List V},H c=some (.lst xs)->upd H a (.ins A.dP dc (fE lp b)) c=some (.lst xs):=λe=>bb _ _ e (c7 e hx (by intro z;cases z))
 have nt:∀{c:Addr} {xs:List V},H c=some (.tup xs)->upd H a (.ins A.dP dc (fE lp b)) c=some (.tup xs):=λe=>bb _ _ e (c7 e hx (by intro z;cases z))
 refine⟨?_,⟨nl h.cores.1,?_⟩,⟨nl h.things.1,dZ (λta x q=>?_) h.things.2⟩,h.ndc,h.ndt,hw⟩
 ·obtain⟨kk,hkk⟩:=ap.aEJ f.lc f.lt
  exact bb _ _ h.obj (c7 h.obj hx (vS kk hkk))
 ·refine pairOf (by rw[aMv];exact bG h.cores.2) λi v y hv hy=>?_
  obtain⟨z,hz,hvz⟩:=dU h.cores.2 hv
  by_cases e:i=c
  ·subst e;rw[ha]at hv;injection hv with hv;subst hv;rw[aOC (aM0.mp hz).1]at hy;injection hy with hy;subst hy;exact⟨a,rfl,dc,lp,q,aB,c6.butI ap hx bb hp,hq⟩
  ·rw[aNh (λz=>e z.symm)]at hy
   rw[hz]at hy
   injection hy with hy;subst hy;cases z with
   |none=>exact hvz
   | some p'=>
    obtain⟨ca,rfl,dc',lp',qq,g1,g2,g3⟩:=(show ∃ca,v=.ref ca/\fQ A H ca p' from hvz)
    have nca:ca≠a:=λw=>e (W4 h.ndc hv (by rw[w];exact ha))
    exact⟨ca,rfl,dc',lp',qq,bb _ _ g1 nca,c6.butI ap hx bb g2,g3⟩
 ·obtain⟨dd,o',t',g1,g2,g3⟩:=q
  exact⟨dd,o',t',bb _ _ g1 (c7 g1 hx qI.symm),nt g2,nt g3⟩
def Lo(hR:dW A H r f s){a out C dt:Addr}{g':List (Str×V)}{k:Nat}{z:Int}{o t:Addr}{b:Bool}{u:HO}(hx:H a=some (.ins C dt (lK k z o t b)))(ho:H out=aP4):GX A H f.cs (upd (upd H a (.ins C dt g')) out u) f.cs:=
 GX.of hR.cores (λ_ z=>.inl z) λc dx l b' _ e=>⟨b',by rw[aT (aJ e ho),aT (c7 e hx qI)];exact e⟩
def ED{a out:Addr}{o:HO}{u:HO}(ha:a∈f.all r)(ho:H out=aP4):∀b p,H b=some p->b∉f.all r->upd (upd H a o) out u b=some p:=λb p e hb=>by
 rw[aT (aJ e ho),aT (λq=>hb (by rw[q];exact ha))]
 exact e
end
def Lh{H:Hp}{r:Addr}{f:iJ}{st:aMA}(hR:dW A H r f st){c:Int}(Mi:aNf st c=true):∃x a,st.said[c.toNat]?=some x/\f.ts[c.toNat]?=some a/\AS A H a x/\FR (f.ts.map V.ref) c=some (V.ref a)/\a∈f.all r:=by
 have rG:0<=c/\c.toNat<st.said.length:=by
  unfold aNf aMP at Mi;simp only[aM5,decide_eq_true_eq]at Mi;omega
 obtain⟨x,hx⟩:∃x,st.said[c.toNat]?=some x:=⟨_,aMK rG.2⟩
 obtain⟨a,ha,vN⟩:=JY hR.things.2 hx
 refine⟨x,a,hx,ha,vN,G0 (by omega) (Yp ha),?_⟩
 unfold iJ.all;exact aMM _ (aMM _ (aMM _ (aMz _ (aMZ ha))))
def MS(T:Txt K mg A):bQ P w K mg base eV 2 A.qA A.xC ["record","numbers","rows"] (gF A 1 0 λnums _=>.aside (nums.getD 0 0)):=by
 refine T.xD.ok MV (λvs H Q E h=>?_) (λd3 A' outer s H vs Q E hr h=>?_)
 ·obtain⟨r,ln,lr,f,st,nums,rows,rs,rfl,_⟩:=h;rfl
 ·obtain⟨r,ln,lr,f,st,nums,rows,rs,rfl,hR,pX,oA,rK,hn,hk,rH,k⟩:=h
  have k:gW A H r f st (.aside (nums.getD 0 0)) Q:=k;have a0:=kP (nums:=nums) (i:=0) (by omega)
  refine⟨_,(aC (bE (fG (dC (cF T.mH (tG T) hr T.wJ (wH T) (aA (pv 0) (aA (fO (pv 1) aG) aD))))) (aF (aI (aR (aA (aM rfl T.rB) aD)))) aN)
   (aC (gO (fO (aU (pv 0) rfl) (fO (pv 1) aG)) jQ rfl)
   (aF (aI (aR (aA aG aD)))))),?_⟩
  refine⟨_,rfl,_,rfl,ln,_,_,_,rfl,rfl,aZ.of pX,a0,r,f,st,_,rfl,hR,_,rfl,?_⟩
  generalize hc:nums.getD 0 0=c at*;cases Mi:aNf st c with
  | false=>
   refine bW ⟨aO,λout ho=>?_⟩;exact k.pure hR (ans:=[-4]) (by show aMS st (.aside c)=_;unfold aMS;simp only[];rw[if_pos Mi]) (aE ho) ho aB
  | true=>
   obtain⟨x,a,hx,ha,⟨dt,o,t,g1,g2,g3⟩,EJ,EU⟩:=Lh hR Mi
   have rL:aMY st (.aside c)=(aNz st c.toNat false,[0]):=by
    show aMS st (.aside c)=_;unfold aMS;simp only[];rw[if_neg (by rw[Mi];decide)]
   refine cG ⟨_,rfl,r,_,f.dr,_,_,rfl,hR.obj,T.bA,T.bC,rfl,_,rfl,ln,_,_,_,rfl,rfl,aZ.of pX,a0,f.lt,_,_,_,rfl,rfl,aZ.of hR.things.1,EJ,a,_,dt,_,rfl,g1,T.cN,T.jW,by show 5<1000;decide,?_⟩
   refine⟨aO,λout ho=>?_⟩
   have Mn:H out=aP4:=by
    rw[aT (aJ (H:=upd H a _) aB ho).symm]at ho;exact ho
   have R2:=hR.setThing false hx ha g1 g2 g3;refine k _ out f ?_ Mn ?_ (ED EU Mn) (λb hb=>.inl hb) (Lo hR g1 Mn)
   ·rw[rL];exact R2.same (aE ho)
   ·rw[rL];exact aB
def NH(T:Txt K mg A):bQ P w K mg base eV 2 A.tK A.B0 ["record","numbers","rows"] (gF A 1 0 λnums _=>.back (nums.getD 0 0)):=by
 refine T.BO.ok Nb (λvs H Q E h=>?_) (λd3 A' outer s H vs Q E hr h=>?_)
 ·obtain⟨r,ln,lr,f,st,nums,rows,rs,rfl,_⟩:=h;rfl
 ·obtain⟨r,ln,lr,f,st,nums,rows,rs,rfl,hR,pX,oA,rK,hn,hk,rH,k⟩:=h
  have k:gW A H r f st (.back (nums.getD 0 0)) Q:=k;have a0:=kP (nums:=nums) (i:=0) (by omega)
  refine⟨_,(aC (bE (fG (dC (cF T.mH (tG T) hr T.wJ (wH T) (aA (pv 0) (aA (fO (pv 1) aG) aD))))) (aF (aI (aR (aA (aM rfl T.rB) aD)))) aN)
   (aC (gO (fO (aU (pv 0) rfl) (fO (pv 1) aG)) jQ rfl)
   (aF (aI (aR (aA aG aD)))))),?_⟩
  refine⟨_,rfl,_,rfl,ln,_,_,_,rfl,rfl,aZ.of pX,a0,r,f,st,_,rfl,hR,_,rfl,?_⟩
  generalize hc:nums.getD 0 0=c at*;cases Mi:aNf st c with
  | false=>
   refine bW ⟨aO,λout ho=>?_⟩;exact k.pure hR (ans:=[-4]) (by show aMS st (.back c)=_;unfold aMS;simp only[];rw[if_pos Mi]) (aE ho) ho aB
  | true=>
   obtain⟨x,a,hx,ha,⟨dt,o,t,g1,g2,g3⟩,EJ,EU⟩:=Lh hR Mi
   have rL:aMY st (.back c)=(aNz st c.toNat true,[0]):=by
    show aMS st (.back c)=_;unfold aMS;simp only[];rw[if_neg (by rw[Mi];decide)]
   refine cG ⟨_,rfl,r,_,f.dr,_,_,rfl,hR.obj,T.bA,T.bC,rfl,_,rfl,ln,_,_,_,rfl,rfl,aZ.of pX,a0,f.lt,_,_,_,rfl,rfl,aZ.of hR.things.1,EJ,a,_,dt,_,rfl,g1,T.cN,T.jW,by show 5<1000;decide,?_⟩
   refine⟨aO,λout ho=>?_⟩
   have Mn:H out=aP4:=by
    rw[aT (aJ (H:=upd H a _) aB ho).symm]at ho;exact ho
   have R2:=hR.setThing true hx ha g1 g2 g3;refine k _ out f ?_ Mn ?_ (ED EU Mn) (λb hb=>.inl hb) (Lo hR g1 Mn)
   ·rw[rL];exact R2.same (aE ho)
   ·rw[rL];exact aB
def ug{f:iJ}{r:Addr}{c:Nat}{a:Addr}(h:f.cs[c]?=some (.ref a)):a∈f.all r:=by
 unfold iJ.all;exact aMM _ (aMM _ (aMM _ (aN3 _ (CP (aMZ h)))))
def MT(T:Txt K mg A):bQ P w K mg base eV 3 A.qQ A.yD ["record","numbers","rows"] (gF A 2 0 λnums _=>.whole (nums.getD 0 0) (nums.getD 1 0)):=by
 refine T.yC.ok D1 (λvs H Q E h=>?_) (λd3 A' outer s H vs Q E hr h=>?_)
 ·obtain⟨r,ln,lr,f,st,nums,rows,rs,rfl,_⟩:=h;rfl
 ·obtain⟨r,ln,lr,f,st,nums,rows,rs,rfl,hR,pX,oA,rK,hn,hk,rH,k⟩:=h
  have k:gW A H r f st (.whole (nums.getD 0 0) (nums.getD 1 0)) Q:=k;have a0:=kP (nums:=nums) (i:=0) (by omega)
  have a1:=kP (nums:=nums) (i:=1) (by omega)
  generalize nums.getD 0 0=c at*;generalize nums.getD 1 0=on at*;have vK:aMn (.whole c on)=(aMg c&&aMP on 0 1):=rfl;refine⟨_,(aC (bE (PW.pt (jR (aL fP (fO (pv 1) aG) aG (aP _)) (gX (aL iG (fO (pv 1) aG) aG (aP _))))) (aF (aI (aR (aA (aM rfl T.eA) aD)))) aN)
   (aC (dE 3 D1.nd (cF T.fX (iY T) hr T.jY (jX T) (aA (pv 0) (aA (fO (pv 1) aG) aD))))
   (aC (bE (aL fP (pv 3) aG (aP _)) (aF (aI (aR (aA (pv 3) aD)))) aN)
   (aC (gO (fO (aU (pv 0) rfl) (fO (pv 1) aG)) (AQ eW (fO (pv 1) aG) aG (aP _)) rfl)
   (aF (aI (aR (aA aG aD)))))))),?_⟩
  have aEj:aMP on 0 1=false->aMY st (.whole c on)=(st,[-1]):=by
   intro e;unfold aMY;rw[if_pos (by rw[vK,e,aNT])]
  refine⟨_,rfl,ln,_,_,_,rfl,rfl,aZ.of pX,a1,_,_,rfl,rfl,_,rfl,?_⟩
  refine cA (λc1=>bW ?_) (λc1=>?_)
  ·have c1:=dT c1;refine⟨aO,λout ho=>?_⟩;exact k.pure hR (ans:=[-1]) (aEj (by unfold aMP;rw[decide_eq_false (by omega)];rfl)) (aE ho) ho aB
  have c1:=dF c1;refine⟨_,rfl,ln,_,_,_,rfl,rfl,aZ.of pX,a1,_,_,rfl,rfl,_,rfl,?_⟩;refine cA (λc2=>?_) (λc2=>?_)
  ·have c2:=dT c2;refine⟨aO,λout ho=>?_⟩;exact k.pure hR (ans:=[-1]) (aEj (by unfold aMP;rw[decide_eq_false (by omega:¬on<=1),aNT])) (aE ho) ho aB
  have c2:=dF c2;have Mo:aMP on 0 1=true:=by unfold aMP;rw[decide_eq_true (by omega),decide_eq_true (by omega)];rfl
  refine⟨_,rfl,_,rfl,ln,_,_,_,rfl,rfl,aZ.of pX,a0,r,f,st,_,rfl,hR,?_⟩
  refine⟨_,rfl,_,_,rfl,rfl,_,rfl,?_⟩
  rcases qL st c with⟨e,AI⟩|⟨e,AI,rJ⟩|⟨e,AI,p,hp⟩
  ·rw[e]
   refine bW ⟨_,rfl,aO,λout ho=>?_⟩;exact k.pure hR (ans:=[-1]) (by unfold aMY;rw[if_pos (by rw[vK,AI,aNO])]) (aE ho) ho aB
  ·rw[e]
   refine bW ⟨_,rfl,aO,λout ho=>?_⟩;exact k.pure hR (ans:=[-4]) (by unfold aMY;rw[if_neg (by rw[vK,AI,Mo];decide)];unfold aMS;simp only[rJ]) (aE ho) ho aB
  ·rw[e]
   obtain⟨v,hv,EJ,CB,hco⟩:=tW hR AI
   rw[hp]at CB hco
   obtain⟨a,rfl,dc,lp,q,g1,g2,g3⟩:=(show ∃a,v=.ref a/\fQ A H a p from CB)
   have rL:aMY st (.whole c on)=({ st with cores:=st.cores.set c.toNat (some { p with on:=on==1 }) },[0]):=by
    unfold aMY;rw[if_neg (by rw[vK,AI,Mo];decide)];unfold aMS;simp only[hp]
   have kn:=G5 hR.wf (.whole c on);rw[rL]at kn;refine cG ⟨_,rfl,ln,_,_,_,rfl,rfl,aZ.of pX,a1,rfl,_,rfl,r,_,f.dr,_,_,rfl,hR.obj,T.bA,T.bD,rfl,_,rfl,ln,_,_,_,rfl,rfl,aZ.of pX,a0,f.lc,_,_,_,rfl,rfl,aZ.of hR.cores.1,EJ,a,_,dc,_,rfl,g1,T.kZ,T.lA,by show 2<1000;decide,?_⟩
   refine⟨aO,λout ho=>?_⟩
   have eb:decide (V.int on=V.int 1)=(on==1):=P5;have Mn:H out=aP4:=by
    rw[aT (aJ (H:=upd H a _) aB ho).symm]at ho;exact ho
   have R2:=hR.setCore (on==1) hco hv g1 g2 g3 kn;have pn:GX A H f.cs (upd (upd H a (.ins A.dP dc (Bv "counted" (V.bl (decide (V.int on=V.int 1))) (fE lp p.on)))) out (.lst [V.int 0])) f.cs:=by
    refine GX.of hR.cores (λ_ z=>.inl z) λca dx l b' _ e=>?_;rw[aT (aJ e Mn)];by_cases z:ca=a
    ·subst z;rw[e]at g1;obtain⟨rfl,rfl⟩:=tZ (aP6 g1);exact⟨_,aB⟩
    ·rw[aT z];exact⟨b',e⟩
   refine k _ out f ?_ Mn ?_ (ED (ug hv) Mn) (λb hb=>.inl hb) pn
   ·rw[rL]
    have e2:Bv "counted" (V.bl (decide (V.int on=V.int 1))) (fE lp p.on)=fE lp (on==1):=by rw[eb];rfl
    have R3:=R2.same (aE (p:=out) (o:=.lst [V.int 0]) (by rw[e2]at ho;exact ho))
    rw[<-e2]at R3
    exact R3
   ·rw[rL];exact aB
theorem tR:∀(cs:List V) (i:Nat),(refsOf (cs.set i .non)).Sublist (refsOf cs)
 |[],i=>by simp
 | v::cs,0=>by
  cases v with
  |ref a=>exact List.sublist_cons_self a (refsOf cs)
  |_=>exact List.Sublist.refl _
 | v::cs,i+1=>by
  cases v with
  |ref a=>exact(tR cs i).cons_cons a
  |_=>exact tR cs i
theorem Ap:∀(cs:List V) (i:Nat) (x:Addr),(refsOf cs).Nodup->x∉refsOf cs->(refsOf (cs.set i (.ref x))).Nodup
 |[],i,x,h,_=>by simpa using h
 | v::cs,0,x,h,hx=>by
  show(x::refsOf cs).Nodup
  cases v with
  | ref a=>
   have h:(a::refsOf cs).Nodup:=h;have hx:x∉a::refsOf cs:=hx;exact aNP.2 ⟨λz=>hx (aMM _ z),(aNP.1 h).2⟩
  |_=>exact aNP.2 ⟨hx,h⟩
 | v::cs,i+1,x,h,hx=>by
  cases v with
  | ref a=>
   have h:(a::refsOf cs).Nodup:=h;have hx:x∉a::refsOf cs:=hx;show(a::refsOf (cs.set i (.ref x))).Nodup;refine aNP.2 ⟨λz=>?_,Ap cs i x (aNP.1 h).2 (λz=>hx (aMM _ z))⟩;have z:=Gk z;rcases aOd z with z|z
   ·exact(aNP.1 h).1 (CP z)
   ·injection z with z;exact hx (by rw[z];exact aMN)
  |_=>exact Ap cs i x h hx
section
variable{A:jK}{H:Hp}{r:Addr}{f:iJ}{s:aMA}
def dW.first(h:dW A H r f s):∃v cs,f.cs=v::cs/\(v=.non\/∃a p,v=.ref a/\fQ A H a p):=by
 have h4:f.cs.length=4:=by rw[bG h.cores.2];exact h.wf.four
 cases hc:f.cs with
 |nil=>rw[hc]at h4;cases h4
 | cons v cs=>
  obtain⟨o,ho,hs⟩:=dU h.cores.2 (i:=0) (a:=v) (by rw[hc];rfl)
  refine⟨v,cs,rfl,?_⟩
  cases o with
  |none=>exact .inl hs
  | some p=>
   obtain⟨a,e,hc⟩:=(show ∃a,v=.ref a/\fQ A H a p from hs)
   exact .inr ⟨a,p,e,hc⟩
def dW.lc_parts(h:dW A H r f s){lp:Addr}{q:List (Itm×Nat)}(hp:c6 A.bZ H lp q):lp≠f.lc:=by
 rintro rfl;obtain⟨as,h1,h2⟩:=hp;obtain⟨v,cs,e,hv⟩:=h.first
 have e1:as.map V.ref=v::cs:=by
  have:=h1.symm.trans h.cores.1
  injection this with this;injection this with this;rw[this,e]
 cases as with
 |nil=>cases e1
 | cons a as=>
  have e1:V.ref a::as.map V.ref=v::cs:=e1;injection e1 with e2 e3;rcases hv with hv|⟨b,p,hb,hc⟩
  ·rw[hv]at e2;cases e2
  ·rw[hb]at e2
   injection e2 with e2;subst e2;obtain⟨xb,hx1,dd,na,g1,g2⟩:=dU h2 (i:=0) (a:=a) rfl;obtain⟨dc,lp',qq,k1,k2,k3⟩:=hc;have:=g1.symm.trans k1;injection this with this;exact vS (f1:=itemF xb.1 na xb.2) (f2:=fE lp' p.on) "least" (by show(true:Bool)≠false;decide) this
def dW.lc_lt(h:dW A H r f s):f.lt≠f.lc:=by
 intro e0;obtain⟨v,cs,e,hv⟩:=h.first
 have e1:f.ts.map V.ref=v::cs:=by
  have h1:=h.things.1;rw[e0]at h1;have:=h1.symm.trans h.cores.1;injection this with this;injection this with this;rw[this,e]
 cases hts:f.ts with
 |nil=>rw[hts]at e1;cases e1
 | cons a as=>
  rw[hts]at e1
  have e1:V.ref a::as.map V.ref=v::cs:=e1;injection e1 with e2 e3;rcases hv with hv|⟨b,p,hb,hc⟩
  ·rw[hv]at e2;cases e2
  ·rw[hb]at e2
   injection e2 with e2;subst e2;obtain⟨x,hx1,dt,o,t,g1,g2,g3⟩:=dU h.things.2 (i:=0) (a:=a) (by rw[hts];rfl)
   obtain⟨dc,lp',qq,k1,k2,k3⟩:=hc
   have:=k1.symm.trans g1
   injection this with this;exact qI this
def dW.dropCore(h:dW A H r f s)(c:Nat)(hw:Wf { s with cores:=s.cores.set c none }):
  dW A (upd H f.lc (.lst (f.cs.set c .non))) r { f with cs:=f.cs.set c .non } { s with cores:=s.cores.set c none }:=by
 have bb:JW f.lc H (upd H f.lc (.lst (f.cs.set c .non))):=cD;have Mh:=h.cores.1;have ni:∀{b C dx:Addr} {g:List (Str×V)},H b=some (.ins C dx g)->upd H f.lc (.lst (f.cs.set c .non)) b=some (.ins C dx g):=λe=>bb _ _ e (c7 e Mh (by intro z;cases z))
 have nt:∀{b:Addr} {xs:List V},H b=some (.tup xs)->upd H f.lc (.lst (f.cs.set c .non)) b=some (.tup xs):=λe=>bb _ _ e (c7 e Mh (by intro z;cases z))
 refine⟨ni h.obj,⟨aB,?_⟩,⟨bb _ _ h.things.1 h.lc_lt,dZ (λta x q=>?_) h.things.2⟩,h.ndc.sublist (tR _ _),h.ndt,hw⟩
 ·refine pairOf (by rw[aMv,aMv];exact bG h.cores.2) λi v y hv hy=>?_
  by_cases e:i=c
  ·subst e;have hi:i<f.cs.length:=by have:=(aM0.mp hv).1;rw[aMv]at this;exact this
   rw[aOC hi]at hv
   rw[aOC (by rw[<-bG h.cores.2];exact hi)]at hy
   injection hv with hv;injection hy with hy;subst hv;subst hy;rfl
  ·rw[aNh (λz=>e z.symm)]at hv hy
   obtain⟨z,hz,hvz⟩:=dU h.cores.2 hv
   rw[hz]at hy
   injection hy with hy;subst hy;cases z with
   |none=>exact hvz
   | some p'=>
    obtain⟨ca,rfl,dc',lp',qq,g1,g2,g3⟩:=(show ∃ca,v=.ref ca/\fQ A H ca p' from hvz)
    refine⟨ca,rfl,dc',lp',qq,ni g1,?_,g3⟩
    obtain⟨as,k1,k2⟩:=id g2
    exact⟨as,bb _ _ k1 (h.lc_parts g2),mR.but k2 Mh bb⟩
 ·obtain⟨dd,o',t',g1,g2,g3⟩:=q
  exact⟨dd,o',t',ni g1,nt g2,nt g3⟩
end
def NT(T:Txt K mg A):bQ P w K mg base eV 3 A.tI A.Aw ["record","numbers","rows"] (gF A 1 0 λnums _=>.drop (nums.getD 0 0)):=by
 refine T.BB.ok FL (λvs H Q E h=>?_) (λd3 A' outer s H vs Q E hr h=>?_)
 ·obtain⟨r,ln,lr,f,st,nums,rows,rs,rfl,_⟩:=h;rfl
 ·obtain⟨r,ln,lr,f,st,nums,rows,rs,rfl,hR,pX,oA,rK,hn,hk,rH,k⟩:=h
  have k:gW A H r f st (.drop (nums.getD 0 0)) Q:=k;have a0:=kP (nums:=nums) (i:=0) (by omega)
  refine⟨_,(aC (dE 3 FL.nd (cF T.fX (iY T) hr T.jY (jX T) (aA (pv 0) (aA (fO (pv 1) aG) aD))))
   (aC (bE (aL fP (pv 3) aG (aP _)) (aF (aI (aR (aA (pv 3) aD)))) aN)
   (aC (FU kO (FV (aU (pv 0) rfl) (fO (pv 1) aG) uN))
   (aF (aI (aR (aA aG aD))))))),?_⟩
  refine⟨_,rfl,_,rfl,ln,_,_,_,rfl,rfl,aZ.of pX,a0,r,f,st,_,rfl,hR,?_⟩
  generalize hc:nums.getD 0 0=c at*;have vK:aMn (.drop c)=aMg c:=rfl;refine⟨_,rfl,_,_,rfl,rfl,_,rfl,?_⟩;rcases qL st c with⟨e,AI⟩|⟨e,AI,rJ⟩|⟨e,AI,p,hp⟩
  ·rw[e]
   refine bW ⟨_,rfl,aO,λout ho=>?_⟩;exact k.pure hR (ans:=[-1]) (by unfold aMY;rw[if_pos (by rw[vK,AI])]) (aE ho) ho aB
  ·rw[e]
   refine bW ⟨_,rfl,aO,λout ho=>?_⟩;exact k.pure hR (ans:=[-4]) (by unfold aMY;rw[if_neg (by rw[vK,AI];decide)];unfold aMS;simp only[rJ]) (aE ho) ho aB
  ·rw[e]
   have h4:=zQ AI;have rL:aMY st (.drop c)=({ st with cores:=st.cores.set c.toNat none },[0]):=by
    unfold aMY;rw[if_neg (by rw[vK,AI];decide)];unfold aMS;simp only[hp]
   have kn:=G5 hR.wf (.drop c);rw[rL]at kn;have hix:Yl f.cs.length c=some c.toNat:=by
    have:f.cs.length=4:=by rw[bG hR.cores.2];exact hR.wf.four
    have:=AM (n:=f.cs.length) (i:=c.toNat) (by omega)
    rw[aOT h4.2.1]at this
    exact this
   refine cG ⟨_,rfl,r,_,f.dr,_,_,rfl,hR.obj,T.bA,T.bD,rfl,_,rfl,ln,_,_,_,rfl,rfl,aZ.of pX,a0,f.lc,_,_,c.toNat,rfl,rfl,hR.cores.1,hix,?_⟩;refine⟨aO,λout ho=>?_⟩;have Mn:H out=aP4:=by
    rw[aT (aJ (H:=upd H f.lc _) aB ho).symm]at ho;exact ho
   have R2:=hR.dropCore c.toNat kn;have EU:f.lc∈f.all r:=aMM _ aMN;have pn:GX A H f.cs (upd (upd H f.lc (.lst (f.cs.set c.toNat .non))) out (.lst [V.int 0])) (f.cs.set c.toNat .non):=by
    refine GX.of hR.cores (λa z=>?_) λca dx l b' _ e=>⟨b',?_⟩
    ·rcases aOd z with z | z
     ·exact .inl z
     ·cases z
    ·rw[aT (aJ e Mn),aT (c7 e hR.cores.1 (by intro z;cases z))];exact e
   refine k _ out { f with cs:=f.cs.set c.toNat .non } ?_ Mn ?_ (ED EU Mn) (λb hb=>.inl ?_) pn
   ·rw[rL];exact R2.same (aE ho)
   ·rw[rL];exact aB
   ·unfold iJ.all at hb ⊢;simp only[aMR,aMX]at hb ⊢;rcases hb with h|h|h|h|h
    ·exact .inl h
    ·exact .inr (.inl h)
    ·exact .inr (.inr (.inl h))
    ·exact .inr (.inr (.inr (.inl ((tR _ _).subset h))))
    ·exact .inr (.inr (.inr (.inr h)))
def ML(T:Txt K mg A):bQ P w K mg base eV 3 A.qJ A.yO ["record","numbers","rows"] (gF A 0 0 λ_ _=>.clear):=by
 refine T.xA.ok Dc (λvs H Q E h=>?_) (λd3 A' outer s H vs Q E hr h=>?_)
 ·obtain⟨r,ln,lr,f,st,nums,rows,rs,rfl,_⟩:=h;rfl
 ·obtain⟨r,ln,lr,f,st,nums,rows,rs,rfl,hR,pX,oA,rK,hn,hk,rH,k⟩:=h
  have k:gW A H r f st .clear Q:=k;refine⟨_,(aC (dE 3 Dc.nd (XH T.Wb (D6 T) (hr.mono (by decide)) rfl T.XQ (Et T) .nil B8))
   (aC (gO (pv 0) (aU (pv 3) rfl) rfl)
   (aC (gO (pv 0) (aU (pv 3) rfl) rfl)
   (aF (aI (aR (aA aG aD))))))),?_⟩
  intro x dx nx T5 vc;refine⟨x,dx,rfl,aB,λH1 lc lt keep Mh jZ nlt hx1 aAE aAW=>⟨rfl,?_⟩⟩;have s1:aV H H1:=aV.made nx T5 keep;have nxr:x≠r:=(aJ hR.obj nx).symm;have aAI:H lc=aP4:=by
   have n1:lc≠x:=by rintro rfl;rw[aB]at Mh;cases Mh
   have n2:lc≠dx:=by rintro rfl;rw[aT n1,aB]at Mh;cases Mh
   rw[aT n1,aT n2]at Mh;exact Mh
  have aA2:H lt=aP4:=by
   have n1:lt≠x:=by rintro rfl;rw[aB]at jZ;cases jZ
   have n2:lt≠dx:=by rintro rfl;rw[aT n1,aB]at jZ;cases jZ
   rw[aT n1,aT n2]at jZ;exact jZ
  have Yb:=s1 _ _ hR.obj;refine⟨_,rfl,x,_,dx,_,_,rfl,hx1,T.bA,T.bD,rfl,_,rfl,r,_,f.dr,_,rfl,Yb,T.bA,T.bD,by show 2<1000;decide,?_⟩
  refine⟨_,rfl,x,_,dx,_,_,rfl,by rw[aT nxr];exact hx1,T.bA,T.bC,rfl,_,rfl,r,_,f.dr,_,rfl,aB,T.bA,T.bC,by show 2<1000;decide,?_⟩
  rw[j0]
  refine⟨aO,λout ho=>?_⟩
  have nro:out≠r:=(aJ aB ho).symm;have ho1:H1 out=aP4:=by rw[aT nro]at ho;exact ho
  have so:=aE (o:=.lst [V.int 0]) ho;have nrc:lc≠r:=(aJ hR.obj aAI).symm;have nrt:lt≠r:=(aJ hR.obj aA2).symm;refine k _ out ⟨f.dr,lc,lt,[.non,.non,.non,.non],[]⟩ ?_ (s1.free ho1) aB ?_ ?_ (λa dx l b z _=>absurd z (by simp))
  ·refine⟨so _ _ aB,⟨so _ _ (by rw[aT nrc];exact aAE),?_⟩,⟨so _ _ (by rw[aT nrt];exact aAW),.nil⟩,by show(refsOf [.non,.non,.non,.non]).Nodup;exact aO9,aO9,LS⟩
   exact .cons rfl (.cons rfl (.cons rfl (.cons rfl .nil)))
  ·intro b o e hb;have nbr:b≠r:=λq=>hb (by rw[q];exact aMN)
   exact so _ _ (by rw[aT nbr];exact s1 _ _ e)
  ·intro b hb;unfold iJ.all at hb;simp only[aMR,aMX]at hb;rcases hb with h|h|h|h|h
   ·rw[h];exact .inl aMN
   ·rw[h];exact .inr aAI
   ·rw[h];exact .inr aA2
   ·exact absurd h (by show b∉(refsOf [.non,.non,.non,.non]);exact aN5)
   ·exact absurd h aN5
section
variable{A:jK}{H H':Hp}{r C dr lc lt:Addr}
def YB{C1 C2 d1 d2 na:Addr}{x:Itm}{b:Nat}:HO.ins C1 d1 (itemF x na b)≠HO.ins C2 d2 (uB lc lt):=vS "least" (by show(true:Bool)≠false;decide)
def DI{C1 C2 d1 d2 lp:Addr}{b:Bool}:HO.ins C1 d1 (fE lp b)≠HO.ins C2 d2 (uB lc lt):=vS "parts" (by show(true:Bool)≠false;decide)
def QW{C1 C2 d1 d2 o t:Addr}{k:Nat}{a:Int}{b:Bool}:HO.ins C1 d1 (lK k a o t b)≠HO.ins C2 d2 (uB lc lt):=vS "kind" (by show(true:Bool)≠false;decide)
def c6.butR{Ci lp:Addr}{q:List (Itm×Nat)}(hr:H r=some (.ins C dr (uB lc lt)))(bb:JW r H H')(h:c6 Ci H lp q):c6 Ci H' lp q:=by
 obtain⟨as,h1,h2⟩:=h
 refine⟨as,bb _ _ h1 (c7 h1 hr (by intro z;cases z)),dZ (λa xb hx=>?_) h2⟩
 obtain⟨dd,na,g1,g2⟩:=hx
 exact⟨dd,na,bb _ _ g1 (c7 g1 hr YB),bb _ _ g2 (c7 g2 hr (by intro z;cases z))⟩
theorem iM.butR{l:Addr}{cs:List V}{ps:List (Option aMx)}(hr:H r=some (.ins C dr (uB lc lt)))(bb:JW r H H')(h:iM A H l cs ps):iM A H' l cs ps:=by
 refine⟨bb _ _ h.1 (c7 h.1 hr (by intro z;cases z)),dZ (λv p q=>?_) h.2⟩
 cases p with
 |none=>exact q
 | some p=>
  obtain⟨ca,rfl,dc,lp,qq,g1,g2,g3⟩:=(show ∃ca,v=.ref ca/\fQ A H ca p from q)
  exact⟨ca,rfl,dc,lp,qq,bb _ _ g1 (c7 g1 hr DI),c6.butR hr bb g2,g3⟩
def iW.butR{l:Addr}{ts:List Addr}{xs:List aNI}(hr:H r=some (.ins C dr (uB lc lt)))(bb:JW r H H')(h:iW A H l ts xs):iW A H' l ts xs:=by
 refine⟨bb _ _ h.1 (c7 h.1 hr (by intro z;cases z)),dZ (λta x q=>?_) h.2⟩
 obtain⟨dd,o',t',g1,g2,g3⟩:=q
 exact⟨dd,o',t',bb _ _ g1 (c7 g1 hr QW),bb _ _ g2 (c7 g2 hr (by intro z;cases z)),bb _ _ g3 (c7 g3 hr (by intro z;cases z))⟩
end
def Mz(T:Txt K mg A):bQ P w K mg base eV 6 A.tM A.BU ["record","numbers","rows"] (gF A 1 1 λnums rows=>.core (nums.getD 0 0) (rows.getD 0 [])):=by
 refine T.BS.ok jA (λvs H Q E h=>?_) (λd3 A' outer s H vs Q E hr h=>?_)
 ·obtain⟨r,ln,lr,f,st,nums,rows,rs,rfl,_⟩:=h;rfl
 ·obtain⟨r,ln,lr,f,st,nums,rows,rs,rfl,hR,pX,oA,rK,hn,hk,rH,k⟩:=h
  have k:gW A H r f st (.core (nums.getD 0 0) (rows.getD 0 [])) Q:=k;have a0:=kP (nums:=nums) (i:=0) (by omega)
  obtain⟨ra,lj,n9,EU⟩:=k5 rK (i:=0) (by omega)
  generalize nums.getD 0 0=c at*;generalize rows.getD 0 []=t at*;have vK:aMn (.core c t)=(aMg c&&aNt t 300):=rfl;refine⟨_,(aC (dE 3 jA.nd (fO (pv 1) aG))
   (aC (dE 4 jA.nd (fO (pv 2) aG))
   (aC (bE (PW.pt (jR (fG (dC (cF T.kF (wX T) hr T.AG (z8 T) (aA (pv 3) aD)))) (gX (fG (dC (cF T.Ic (ZM T) hr T.jn (jg T) (aA (pv 4) aD))))))) (aF (aI (aR (aA (aM rfl T.eA) aD)))) aN)
   (aC (dE 5 jA.nd (cF T.BC (NV T) hr T.Pe (Px T) (aA (pv 4) aD)))
   (aC (dE 6 jA.nd (cF T.y6 (MP T) hr T.Nk (N8 T) (aA (pv 4) (aA (pv 5) aD))))
   (aC (bE (aL iG (pv 6) aG (aP _)) (aF (aI (aR (aA (bH oK (aM rfl T.Pj) (pv 6)) aD)))) aN)
   (aC (dE 7 jA.nd (hJ Ar (by rfl) T.Oz Kq (aA (aU (pv 0) rfl) aD)))
   (aC (FU (vQ T.aCQ (QL T) (hr.mono (by decide)) rfl T.aBy (Xa T) .nil B8 (aA (pv 5) aD)) (FV (pv 7) (pv 3) uN))
   (aC (bE (aL iG (bJ aW (by rfl) T.eX c8 (aA (cF T.fU (gJ T) hr T.iO (iP T) (aA (pv 7) (aA (aU (pv 0) rfl) aD))) aD)) (aM rfl T.HQ) (aP _)) (aF (aI (aR (aA (aM rfl T.zU) aD)))) aN)
   (aC (gO (pv 0) (pv 7) rfl)
   (aF (aI (aR (aA (bJ aW (by rfl) T.eX c8 (aA (cF T.lP (DM T) hr T.A0 (Ah T) (aA (pv 5) aD)) aD)) aD)))))))))))))),?_⟩
  refine⟨_,rfl,ln,_,_,_,rfl,rfl,aZ.of pX,a0,?_⟩
  refine⟨_,rfl,lr,_,_,_,rfl,rfl,aZ.of oA,lj,?_⟩
  refine⟨_,rfl,c,rfl,_,rfl,?_⟩
  cases AI:aMg c with
  | false=>
   refine bW (bW ⟨aO,λout ho=>?_⟩);exact k.pure hR (ans:=[-1]) (by unfold aMY;rw[if_pos (by rw[vK,AI,aNO])]) (aE ho) ho aB
  |true=>
  refine cG ⟨_,rfl,ra,t,rfl,aZ.of n9,_,rfl,?_⟩;cases hib:aNt t 300 with
  | false=>
   refine bW ⟨aO,λout ho=>?_⟩;exact k.pure hR (ans:=[-1]) (by unfold aMY;rw[if_pos (by rw[vK,hib,aNT])]) (aE ho) ho aB
  |true=>
  have hBy:=Wz hib;have h4:=zQ AI;have Bt:∀x,aMS st (.core c t)=x->aMY st (.core c t)=x:=by
   intro x hx;unfold aMY;rw[if_neg (by rw[vK,AI,hib];decide)];exact hx
  refine cG ⟨_,rfl,ra,t,rfl,aZ.of n9,hBy.1,hBy.2,λH1 pl s1 aFS hpt=>?_⟩;refine⟨_,rfl,_,rfl,ra,pl,t,gB t,rfl,aZ.of (s1 _ _ n9),hpt,?_⟩;have aBO:=X5 hBy.1;refine⟨_,rfl,_,_,rfl,rfl,_,rfl,?_⟩;by_cases wd:fD t (uE (gB t))=t.length
  case neg=>
   have ew:Dk t (gB t)=((fD t (uE (gB t))+1:Nat):Int):=by unfold Dk;rw[if_neg wd]
   rw[ew]
   have er:aOt (aLy t)=.error (fD t (uE (gB t))+1):=by rw[aBO];unfold finish;rw[if_neg wd]
   have aCd:decide ((0:Int)<((fD t (uE (gB t))+1:Nat):Int))=true:=decide_eq_true (by omega)
   rw[aCd]
   refine bW ⟨_,rfl,_,_,rfl,rfl,aO,λout ho=>?_⟩;refine k.pure hR (ans:=[-100-((fD t (uE (gB t))+1:Nat):Int)]) (Bt _ ?_) (s1.trans (aE ho)) (s1.free ho) aB;unfold aMS;simp only[er]
  case pos=>
  have ew:Dk t (gB t)=0:=by unfold Dk;rw[if_pos wd]
  rw[ew]
  have er:aOt (aLy t)=.ok ((gB t).map (·.1)):=by rw[aBO];unfold finish;rw[if_pos wd]
  generalize vf:(gB t).map (·.1)=core at er;have Zq:Ox core:=Ja er (by rw[fJ];exact hBy.2)
  have hql:(gB t).length<=300:=by
   have:=congrArg aMi vf
   rw[aLx]at this
   rw[this];exact Zq.len
  have R1:=hR.same s1;have hcl4:f.cs.length=4:=by rw[bG hR.cores.2];exact hR.wf.four
  refine cG ⟨_,rfl,r,_,f.dr,_,_,rfl,R1.obj,T.bA,T.bD,rfl,f.lc,_,rfl,.inl (aZ.of R1.cores.1),λl2 xk=>?_⟩;have s2:=aE (o:=.lst f.cs) xk;refine⟨_,rfl,λx dx nx T5 vc=>⟨x,dx,pl,rfl,aB,rfl,?_⟩⟩;have s3:aV (upd H1 l2 (.lst f.cs)) (upd (upd (upd (upd H1 l2 (.lst f.cs)) dx (.own x)) x (.ins A.dP dx [])) x (.ins A.dP dx (fE pl true))):=by
   intro b o e;rw[aT (aJ e nx),aT (aJ e nx),aT (aJ e T5)];exact e
  have hx3:upd (upd (upd (upd H1 l2 (.lst f.cs)) dx (.own x)) x (.ins A.dP dx [])) x (.ins A.dP dx (fE pl true)) x=some (.ins A.dP dx (fE pl true)):=aB;have aCe:=s3 _ _ (aB (H:=H1) (a:=l2) (o:=.lst f.cs));have aI2:H1 x=aP4:=s2.free nx;generalize upd (upd (upd (upd H1 l2 (.lst f.cs)) dx (.own x)) x (.ins A.dP dx [])) x (.ins A.dP dx (fE pl true))=H3 at s3 hx3 aCe;have hix:Yl f.cs.length c=some c.toNat:=by
   have:=AM (n:=f.cs.length) (i:=c.toNat) (by omega)
   rw[aOT h4.2.1]at this
   exact this
  refine⟨_,rfl,_,rfl,l2,_,_,c.toNat,rfl,rfl,aCe,hix,?_⟩
  have CC:aV H1 (upd H3 l2 (.lst (f.cs.set c.toNat (.ref x)))):=bI (s2.trans s3) xk;have aC5:upd H3 l2 (.lst (f.cs.set c.toNat (.ref x))) l2=some (.lst (f.cs.set c.toNat (.ref x))):=aB;have hx4:upd H3 l2 (.lst (f.cs.set c.toNat (.ref x))) x=some (.ins A.dP dx (fE pl true)):=by rw[aT (c7 hx3 aCe (by intro z;cases z))];exact hx3
  generalize upd H3 l2 (.lst (f.cs.set c.toNat (.ref x)))=H4 at CC aC5 hx4;have s04:=s1.trans CC;have R4:=hR.same s04;have aBN:Paired (IJ A H4) (f.cs.set c.toNat (.ref x)) (st.cores.set c.toNat (some ⟨core,true⟩)):=by
   refine pairOf (by rw[aMv,aMv];exact bG hR.cores.2) λi v y hv hy=>?_
   by_cases e:i=c.toNat
   ·subst e;rw[aOC (by omega)]at hv
    rw[aOC (by rw[hR.wf.four];omega)]at hy
    injection hv with hv;injection hy with hy;subst hv;subst hy;exact⟨x,rfl,dx,pl,gB t,hx4,hpt.same CC,vf⟩
   ·rw[aNh (λz=>e z.symm)]at hv hy
    obtain⟨z,hz,hvz⟩:=dU R4.cores.2 hv
    rw[hz]at hy
    injection hy with hy;subst hy;exact hvz
  have aCZ:Dn (st.cores.set c.toNat (some ⟨core,true⟩)) st.said:=by
   have h0:=hR.wf.namesOk;refine⟨by rw[aMv];exact h0.four,λp hp=>?_,h0.lb,h0.one,h0.two⟩
   rcases aOd hp with hp|hp
   ·exact h0.core p hp
   ·injection hp with hp;subst hp;exact Zq.len
  refine⟨_,rfl,_,rfl,r,_,f.dr,_,_,rfl,R4.obj,T.bA,T.bC,rfl,l2,f.lt,f.cs.set c.toNat (.ref x),f.ts,st.cores.set c.toNat (some ⟨core,true⟩),st.said,rfl,⟨aC5,aBN⟩,R4.things,aCZ,λH5 nm ms s5 Y3 zA t8=>?_⟩
  have GQ:ms.length=(aMI { st with cores:=st.cores.set c.toNat (some ⟨core,true⟩) }).length:=by rw[aS.length t8,aLx]
  have xl:=s04.trans s5;refine⟨nm,_,rfl,.inl (aZ.of zA),_,_,rfl,rfl,_,rfl,?_⟩;have oF:aMS st (.core c t)=if aOe<(aMI { st with cores:=st.cores.set c.toNat (some ⟨core,true⟩) }).length then(st,[-5])else({ st with cores:=st.cores.set c.toNat (some ⟨core,true⟩) },[((aMD core).length:Int)]):=by
   unfold aMS;simp only[er]
  have e14:aOe=14:=rfl;refine cA (λc5=>?_) (λc5=>?_)
  ·have c5:=dT c5;refine⟨aO,λout ho=>?_⟩;refine k.pure hR (ans:=[-5]) (Bt _ ?_) (xl.trans (aE ho)) (xl.free ho) aB;rw[oF,if_pos (by omega)]
  have c5:=dF c5;have rL:aMY st (.core c t)=({ st with cores:=st.cores.set c.toNat (some ⟨core,true⟩) },[((aMD core).length:Int)]):=Bt _ (by rw[oF,if_neg (by omega)])
  have kn:=G5 hR.wf (.core c t);rw[rL]at kn;have R5:=hR.same xl;refine⟨_,rfl,_,rfl,r,_,f.dr,_,rfl,R5.obj,T.bA,T.bD,by show 2<1000;decide,?_⟩
  have bb:=cD (H:=H5) (D:=r) (o:=.ins A.dQ f.dr (uB l2 f.lt));have hp6:c6 A.bZ (upd H5 r (.ins A.dQ f.dr (uB l2 f.lt))) pl (gB t):=c6.butR R5.obj bb ((hpt.same CC).same s5);have aF4:upd H5 r (.ins A.dQ f.dr (uB l2 f.lt)) r=some (.ins A.dQ f.dr (uB l2 f.lt)):=aB;have aH5:iM A (upd H5 r (.ins A.dQ f.dr (uB l2 f.lt))) l2 (f.cs.set c.toNat (.ref x)) (st.cores.set c.toNat (some ⟨core,true⟩)):=iM.butR R5.obj bb (iM.same ⟨aC5,aBN⟩ s5);have aHh:iW A (upd H5 r (.ins A.dQ f.dr (uB l2 f.lt))) f.lt f.ts st.said:=iW.butR R5.obj bb R5.things;refine⟨_,rfl,pl,gB t,rfl,hp6,by omega,λH8 mr ms8 s8 hmr0 hmr aHo=>?_⟩
  refine⟨mr,_,rfl,.inl (aZ.of hmr),aO,λout ho=>?_⟩
  have hm8:(ms8.length:Int)=((aMD core).length:Int):=by
   have:=aS.length aHo
   unfold zE at this;rw[aLx,vf]at this;rw[this]
  have so:=s8.trans (aE (o:=.lst [V.int (ms8.length:Int)]) ho);have xnH:H x=aP4:=s1.free aI2;have l2H:H l2=aP4:=s1.free xk;have ho5:H5 out=aP4:=by
   have h6:upd H5 r (.ins A.dQ f.dr (uB l2 f.lt)) out=aP4:=s8.free ho;have:out≠r:=by rintro rfl;rw[aB]at h6;cases h6
   rw[aT this]at h6;exact h6
  have vo:∀(ca dx l:Addr) (b:Bool),H5 ca=some (.ins A.dP dx (fE l b))->upd (upd H5 r (.ins A.dQ f.dr (uB l2 f.lt))) r (.ins A.dQ f.dr (uB l2 f.lt)) ca=some (.ins A.dP dx (fE l b)):=λca dx l b e=>by
   have n:ca≠r:=c7 e R5.obj DI;rw[aT n,aT n];exact e
  rw[j0]at vo
  have pn:GX A H f.cs (upd H8 out (.lst [V.int (ms8.length:Int)])) (f.cs.set c.toNat (.ref x)):=by
   refine GX.of hR.cores (λa z=>?_) λca dx' l b' _ e=>⟨b',so _ _ (vo _ _ _ _ (xl _ _ e))⟩;rcases aOd z with z|z
   ·exact .inl z
   ·injection z with z;subst z;exact .inr ⟨dx,pl,true,so _ _ (vo _ _ _ _ (s5 _ _ hx4)),aFS⟩
  refine k _ out ⟨f.dr,l2,f.lt,f.cs.set c.toNat (.ref x),f.ts⟩ ?_ (xl.free ho5) ?_ ?_ ?_ pn
  ·rw[rL]
   refine⟨so _ _ aF4,aH5.same so,aHh.same so,?_,hR.ndt,kn⟩
   refine Ap _ _ _ hR.ndc λz=>?_;obtain⟨i,hi,hie⟩:=aNa (Gk z);obtain⟨y,hy,hs⟩:=dU hR.cores.2 (i:=i) (a:=V.ref x) (by rw[aMK hi,hie])
   cases y with
   |none=>cases(show V.ref x=.non from hs)
   | some p=>
    obtain⟨ca,e,dc,lp,qq,g1,_⟩:=(show ∃ca,V.ref x=.ref ca/\fQ A H ca p from hs)
    injection e with e;subst e;rw[xnH]at g1;cases g1
  ·rw[rL,aB,hm8];rfl
  ·intro b o e hb;have nbr:b≠r:=λq=>hb (by rw[q];exact aMN)
   exact so _ _ (bb _ _ (xl _ _ e) nbr)
  ·intro b hb;unfold iJ.all at hb ⊢;simp only[aMR,aMX]at hb ⊢;rcases hb with h|h|h|h|h
   ·exact .inl (.inl h)
   ·exact .inr (by rw[h];exact l2H)
   ·exact .inl (.inr (.inr (.inl h)))
   ·rcases aOd (Gk h)with z | z
    ·exact .inl (.inr (.inr (.inr (.inl (CP z)))))
    ·injection z with z;exact .inr (by rw[z];exact xnH)
   ·exact .inl (.inr (.inr (.inr (.inr h))))
def QJ(T:Txt K mg A):bQ P w K mg base eV 4 A.wO A.Cv ["record","numbers","rows"] (gF A 2 2 λnums rows=>.say (nums.getD 0 0) (nums.getD 1 0) (rows.getD 0 []) (rows.getD 1 [])):=by
 refine T.DB.ok HX (λvs H Q E h=>?_) (λd3 A' outer s H vs Q E hr h=>?_)
 ·obtain⟨r,ln,lr,f,st,nums,rows,rs,rfl,_⟩:=h;rfl
 ·obtain⟨r,ln,lr,f,st,nums,rows,rs,rfl,hR,pX,oA,rK,hn,hk,rH,k⟩:=h
  have k:gW A H r f st (.say (nums.getD 0 0) (nums.getD 1 0) (rows.getD 0 []) (rows.getD 1 [])) Q:=k;have a0:=kP (nums:=nums) (i:=0) (by omega)
  have a1:=kP (nums:=nums) (i:=1) (by omega)
  obtain⟨r0,Oi,xq,-⟩:=k5 rK (i:=0) (by omega)
  obtain⟨r1,Yb,kj,-⟩:=k5 rK (i:=1) (by omega)
  generalize nums.getD 0 0=kd at*;generalize nums.getD 1 0=a at*;generalize rows.getD 0 []=one at*;generalize rows.getD 1 []=two at*;refine⟨_,(aC (bE (fG (dC (cF T.yA (M3 T) hr T.NS (NL T) (aA (fO (pv 1) aG) (aA (fO (pv 1) aG) (aA (fO (pv 2) aG) (aA (fO (pv 2) aG) aD))))))) (aF (aI (aR (aA (aM rfl T.eA) aD)))) aN)
   (aC (bE (aL eW (bJ aW (by rfl) T.eX c8 (aA (aU (pv 0) rfl) aD)) (aM rfl T.NC) (aP _)) (aF (aI (aR (aA (aM rfl T.Hs) aD)))) aN)
   (aC (dE 3 HX.nd (bH fR (aU (pv 0) rfl) (aR (aA (vQ T.yh (N3 T) (hr.mono (by decide)) rfl T.yz (QA T) .nil B8 (aA (fO (pv 1) aG) (aA (fO (pv 1) aG) (aA (hJ i8 (by rfl) T.Dq zL (aA (fO (pv 2) aG) aD)) (aA (hJ i8 (by rfl) T.Dq zL (aA (fO (pv 2) aG) aD)) aD))))) aD))))
   (aC (bE (aL iG (bJ aW (by rfl) T.eX c8 (aA (cF T.fU (gJ T) hr T.iO (iP T) (aA (aU (pv 0) rfl) (aA (pv 3) aD))) aD)) (aM rfl T.HQ) (aP _)) (aF (aI (aR (aA (aM rfl T.zU) aD)))) aN)
   (aC (gO (pv 0) (pv 3) rfl)
   (aF (aI (aR (aA (bH oK (bJ aW (by rfl) T.eX c8 (aA (pv 3) aD)) aG) aD))))))))),?_⟩
  refine⟨_,rfl,ln,_,_,_,rfl,rfl,aZ.of pX,a0,_,rfl,ln,_,_,_,rfl,rfl,aZ.of pX,a1,_,rfl,lr,_,_,_,rfl,rfl,aZ.of oA,Oi,_,rfl,lr,_,_,_,rfl,rfl,aZ.of oA,Yb,r0,r1,kd,a,one,two,rfl,aZ.of xq,aZ.of kj,_,rfl,?_⟩
  cases vK:aMn (.say kd a one two)with
  | false=>
   refine bW ⟨aO,λout ho=>?_⟩;exact k.pure hR (ans:=[-1]) (by unfold aMY;rw[if_pos vK]) (aE ho) ho aB
  |true=>
  have Bt:∀x,aMS st (.say kd a one two)=x->aMY st (.say kd a one two)=x:=by
   intro x hx;unfold aMY;rw[if_neg (by rw[vK];decide)];exact hx
  have aC9:0<=kd/\kd<=3/\eQ one/\eQ two/\(kd<=1->two=[])/\(¬kd<=1->aLy two≠[]):=by
   have hrg':=vK;unfold aMn at hrg';simp only[aM5,aMP,decide_eq_true_eq,dD]at hrg';obtain⟨⟨k0,k3⟩,⟨q0,q1⟩,n1,h2⟩:=hrg';by_cases hkd:kd<=1
   ·rw[if_pos hkd]at h2
    have h2:two=[]:=by simpa using h2
    subst h2;exact⟨k0,k3,(c9 n1).1,(show eQ []from λx hx=>absurd hx aN5),λ_=>rfl,λz=>absurd hkd z⟩
   ·rw[if_neg hkd]at h2
    simp only[aM5,dD]at h2
    refine⟨k0,k3,(c9 n1).1,(c9 h2.1).1,λz=>absurd z hkd,λ_ z=>?_⟩
    have h3:=h2.1;rw[<-PK (c9 h2.1).1,z]at h3;cases h3
  obtain⟨k0,k3,hb1,hb2,aHx,aH7⟩:=aC9
  have ma:(f.ts.map V.ref).length=st.said.length:=by rw[aLx];exact bG hR.things.2
  have lx:=hR.wf.rN;have e12:Vbexal.SAID=12:=rfl;refine cG ⟨_,rfl,r,_,f.dr,_,_,rfl,hR.obj,T.bA,T.bC,rfl,f.lt,_,rfl,.inl (aZ.of hR.things.1),rfl,_,rfl,?_⟩;refine cA (λc=>?_) (λc=>?_)
  ·have c:=vEq c;refine⟨aO,λout ho=>?_⟩;refine k.pure hR (ans:=[-6]) (Bt _ ?_) (aE ho) ho aB;unfold aMS;simp only[];rw[if_pos (by omega)]
  have c:=GS c;refine⟨_,rfl,r,_,f.dr,_,_,rfl,hR.obj,T.bA,T.bC,rfl,_,rfl,ln,_,_,_,rfl,rfl,aZ.of pX,a0,_,rfl,ln,_,_,_,rfl,rfl,aZ.of pX,a1,_,rfl,lr,_,_,_,rfl,rfl,aZ.of oA,Oi,r0,_,rfl,.inl ⟨aZ.of xq,λo ho=>?_⟩⟩;have so:=aE (o:=.tup (one.map V.int)) ho;refine⟨_,rfl,lr,_,_,_,rfl,rfl,aZ.of (so _ _ oA),Yb,r1,_,rfl,.inl ⟨aZ.of (so _ _ kj),λt ht=>?_⟩⟩;have stt:=aE (o:=.tup (two.map V.int)) ht;have hoN:upd (upd H o (.tup (one.map V.int))) t (.tup (two.map V.int)) o=some (.tup (one.map V.int)):=stt _ _ aB;have htN:upd (upd H o (.tup (one.map V.int))) t (.tup (two.map V.int)) t=some (.tup (two.map V.int)):=aB;have s2:=so.trans stt;generalize upd (upd H o (.tup (one.map V.int))) t (.tup (two.map V.int))=H2 at s2 hoN htN;intro x dx nx T5 vc;have ekd:V.int kd=V.int ((kd.toNat:Nat):Int):=by rw[aOT k0]
  rw[ekd]
  refine⟨x,dx,o,t,kd.toNat,a,rfl,aB,rfl,?_⟩
  have s3:aV H2 (upd (upd (upd H2 dx (.own x)) x (.ins A.eJ dx [])) x (.ins A.eJ dx (lK kd.toNat a o t true))):=by
   intro b u e;rw[aT (aJ e nx),aT (aJ e nx),aT (aJ e T5)];exact e
  have hx3:upd (upd (upd H2 dx (.own x)) x (.ins A.eJ dx [])) x (.ins A.eJ dx (lK kd.toNat a o t true)) x=some (.ins A.eJ dx (lK kd.toNat a o t true)):=aB;generalize upd (upd (upd H2 dx (.own x)) x (.ins A.eJ dx [])) x (.ins A.eJ dx (lK kd.toNat a o t true))=H3 at s3 hx3;have s03:=s2.trans s3;have xnH:H x=aP4:=s2.free nx;refine⟨aO,λp1 WM=>?_⟩;have s4:=aE (o:=.lst [V.ref x]) WM;refine⟨f.lt,p1,_,_,rfl,rfl,s4 _ _ (s03 _ _ hR.things.1),aB,by rw[ma];exact aMm (bB (show _+1<=1000 by omega)),λl2 xk=>?_⟩
  have s5:=aE (o:=.lst (f.ts.map V.ref++[V.ref x])) xk;have xl:=s03.trans (s4.trans s5);have aEk:upd (upd H3 p1 (.lst [V.ref x])) l2 (.lst (f.ts.map V.ref++[V.ref x])) l2=some (.lst ((f.ts++[x]).map V.ref)):=by rw[aB,aMU];rfl
  have hx5:=s5 _ _ (s4 _ _ hx3);have ho5:=s5 _ _ (s4 _ _ (s3 _ _ hoN));have ht5:=s5 _ _ (s4 _ _ (s3 _ _ htN));have l2H:H l2=aP4:=(s03.trans s4).free xk;generalize upd (upd H3 p1 (.lst [V.ref x])) l2 (.lst (f.ts.map V.ref++[V.ref x]))=H5 at xl aEk hx5 ho5 ht5;have R5:=hR.same xl;have aA9:iW A H5 l2 (f.ts++[x]) (st.said++[⟨kd.toNat,a,aLy one,aLy two,true⟩]):=by
   refine⟨aEk,eK ⟨dx,o,t,hx5,?_,?_⟩ R5.things.2⟩
   ·show H5 o=some (.tup ((aLz (aLy one)).map V.int));rw[l9 hb1];exact ho5
   ·show H5 t=some (.tup ((aLz (aLy two)).map V.int));rw[l9 hb2];exact ht5
  have aCZ:Dn st.cores (st.said++[⟨kd.toNat,a,aLy one,aLy two,true⟩]):=by
   have h0:=hR.wf.namesOk;refine⟨h0.four,h0.core,by rw[aMH];show _+1<=13;omega,λy hy hk=>?_,λy hy hk=>?_⟩
   ·rcases aMX.1 hy with hy | hy
    ·exact h0.one y hy hk
    ·have e:y=⟨kd.toNat,a,aLy one,aLy two,true⟩:=by simpa using hy
     subst e;have hk:kd.toNat<=1:=hk;show aLy two=[];rw[aHx (by omega)];rfl
   ·rcases aMX.1 hy with hy | hy
    ·exact h0.two y hy hk
    ·have e:y=⟨kd.toNat,a,aLy one,aLy two,true⟩:=by simpa using hy
     subst e;have hk:¬kd.toNat<=1:=hk;exact aH7 (by omega)
  refine⟨_,rfl,r,_,f.dr,_,_,rfl,R5.obj,T.bA,T.bD,rfl,_,rfl,f.lc,l2,f.cs,f.ts++[x],st.cores,_,rfl,R5.cores,aA9,aCZ,λH6 nm ms s6 Y3 zA t8=>?_⟩
  have GQ:ms.length=(aMI { st with said:=st.said++[⟨kd.toNat,a,aLy one,aLy two,true⟩] }).length:=by rw[aS.length t8,aLx]
  have s06:=xl.trans s6;refine⟨nm,_,rfl,.inl (aZ.of zA),_,_,rfl,rfl,_,rfl,?_⟩;have e14:aOe=14:=rfl;have oF:aMS st (.say kd a one two)=if aOe<(aMI { st with said:=st.said++[⟨kd.toNat,a,aLy one,aLy two,true⟩] }).length then(st,[-5])else({ st with said:=st.said++[⟨kd.toNat,a,aLy one,aLy two,true⟩] },[(st.said.length:Int)]):=by
   unfold aMS;simp only[];rw[if_neg (by omega)]
  refine cA (λc5=>?_) (λc5=>?_)
  ·have c5:=dT c5;refine⟨aO,λout tU=>?_⟩;refine k.pure hR (ans:=[-5]) (Bt _ ?_) (s06.trans (aE tU)) (s06.free tU) aB;rw[oF,if_pos (by omega)]
  have c5:=dF c5;have rL:aMY st (.say kd a one two)=({ st with said:=st.said++[⟨kd.toNat,a,aLy one,aLy two,true⟩] },[(st.said.length:Int)]):=Bt _ (by rw[oF,if_neg (by omega)])
  have kn:=G5 hR.wf (.say kd a one two);rw[rL]at kn;have R6:=hR.same s06;refine⟨_,rfl,_,rfl,r,_,f.dr,_,rfl,R6.obj,T.bA,T.bC,by show 2<1000;decide,?_⟩
  have bb:=cD (H:=H6) (D:=r) (o:=.ins A.dQ f.dr (uB f.lc l2));have aFg:upd H6 r (.ins A.dQ f.dr (uB f.lc l2)) r=some (.ins A.dQ f.dr (uB f.lc l2)):=aB;have aHX:iM A (upd H6 r (.ins A.dQ f.dr (uB f.lc l2))) f.lc f.cs st.cores:=iM.butR R6.obj bb R6.cores;have aEh:=iW.butR R6.obj bb (aA9.same s6);refine⟨_,rfl,l2,_,rfl,.inl (aZ.of aEh.1),_,_,rfl,rfl,aO,λout tU=>?_⟩;have cC:((((f.ts++[x]).map V.ref).length:Int)-1)=(st.said.length:Int):=by
   rw[aMU,aMH,ma];show((st.said.length+1:Nat):Int)-1=_;omega
  have so2:=aE (o:=.lst [V.int ((((f.ts++[x]).map V.ref).length:Int)-1)]) tU;have va:H6 out=aP4:=by
   have:out≠r:=by rintro rfl;rw[aB]at tU;cases tU
   rw[aT this]at tU;exact tU
  have pn:GX A H f.cs (upd (upd H6 r (.ins A.dQ f.dr (uB f.lc l2))) out (.lst [V.int ((((f.ts++[x]).map V.ref).length:Int)-1)])) f.cs:=
   GX.of hR.cores (λ_ z=>.inl z) λca dx' l b' _ e=>⟨b',so2 _ _ (bb _ _ (s06 _ _ e) (c7 (s06 _ _ e) R6.obj DI))⟩
  refine k _ out ⟨f.dr,f.lc,l2,f.cs,f.ts++[x]⟩ ?_ (s06.free va) ?_ ?_ ?_ pn
  ·rw[rL]
   refine⟨so2 _ _ aFg,aHX.same so2,aEh.same so2,hR.ndc,?_,kn⟩
   refine eh hR.ndt λz=>?_;obtain⟨i,hi,hie⟩:=aNa z;obtain⟨y,hy,dd,oo,tt,g1,_⟩:=dU hR.things.2 (i:=i) (a:=x) (by rw[aMK hi,hie])
   rw[xnH]at g1
   cases g1
  ·rw[rL,aB]
   show some (HO.lst [V.int ((((f.ts++[x]).map V.ref).length:Int)-1)])=_;rw[cC];rfl
  ·intro b u e hb;have nbr:b≠r:=λq=>hb (by rw[q];exact aMN)
   exact so2 _ _ (bb _ _ (s06 _ _ e) nbr)
  ·intro b hb;unfold iJ.all at hb ⊢;simp only[aMR,aMX]at hb ⊢;rcases hb with h|h|h|h|h|h
   ·exact .inl (.inl h)
   ·exact .inl (.inr (.inl h))
   ·exact .inr (by rw[h];exact l2H)
   ·exact .inl (.inr (.inr (.inr (.inl h))))
   ·exact .inl (.inr (.inr (.inr (.inr h))))
   ·rcases h with h | h
    ·exact .inr (by rw[h];exact xnH)
    ·cases h
def fS(s:aMA)(rows:List (List Int)):Int:=
 if(rows.all isNm)=false then -1 else if(rows.all (aN1 s))=false then -3 else if aNE (aMB s) (aML s)=false then -7 else 0
def O1{α:Type}{p:α->Bool}{l:List α}{i:Nat}{x:α}(h:l[i]?=some x)(hx:p x=false):l.all p=false:=by
 rw[<-aNb,aNB]
 intro q;rw[q x (aMZ h)]at hx;cases hx
def Wm{α:Type}{p:α->Bool}{l:List α}{i:Nat}{x:α}(h:l[i]?=some x)(hx:p x=true)(ht:(l.take i).all p=true):(l.take (i+1)).all p=true:=by
 rw[bK h,List.all_append,ht]
 simp[hx]
def oM{s:aMA}{rows:List (List Int)}(h:¬fS s rows<0):(∀x∈rows,isNm x=true/\aN1 s x=true)/\aNE (aMB s) (aML s)=true:=by
 unfold fS at h;by_cases h1:(rows.all isNm)=false
 ·rw[if_pos h1]at h;exact absurd (by decide) h
 rw[if_neg h1]at h
 by_cases h2:(rows.all (aN1 s))=false
 ·rw[if_pos h2]at h;exact absurd (by decide) h
 rw[if_neg h2]at h
 by_cases h3:aNE (aMB s) (aML s)=false
 ·rw[if_pos h3]at h;exact absurd (by decide) h
 rw[aOX]at h1 h2 h3
 rw[aNB]at h1 h2
 exact⟨λx hx=>⟨h1 x hx,h2 x hx⟩,h3⟩
def l8{s:aMA}:aNE (aMB s) (aML s)=true↔kT (aMJ s):=gS (bP s)
def j3(s:aMA):aNF s=aNE (aMB s) (aML s):=(JB (bP s)).symm
inductive qk(A:jK)(vs:List V)(H:Hp)(Q:VK)(E:XK):Prop
 |mk:∀(r:Addr) (f:iJ) (s:aMA),vs=[.ref r]->dW A H r f s->(∀H',aV H H'->Q (.bl (aNF s)) H')->qk A vs H Q E
def fW(T:Txt K mg A):bQ P w K mg base eV 5 A.y4 A.yQ ["record"] (qk A):=by
 refine T.eU.ok MD (λvs H Q E h=>?_) (λd3 A' outer s H vs Q E hr h=>?_)
 ·obtain⟨r,f,st,rfl,_⟩:=h;rfl
 ·obtain⟨r,f,st,rfl,hR,q⟩:=h
  have h9:=hR.wf.names;have hm:=cK st;refine⟨_,(aF (aI (PD (vU (cF T.gL (jC T) hr T.j4 (kE T) (aA (cF T.cU (cX T) hr T.dN (dM T) (aA (pv 0) aD)) (aA (cF T.bL (bM T) hr T.bT (bS T) (aA (pv 0) aD)) aD))))))),?_⟩;refine⟨_,rfl,r,f,st,rfl,hR,λH1 L ls s1 Y8 hL gN=>?_⟩;refine⟨_,rfl,r,f,st,rfl,hR.same s1,λH2 s2=>?_⟩;refine⟨L,aMB st,ls,aMJ st,rfl,s2 _ _ hL,aQ.same gN s2,bP st,by omega,?_,?_⟩
  ·intro e H3 s3;have hp:aNF st=false:=by rw[j3];exact Fq e
   rw[hp]at q
   exact q H3 (s1.trans (s2.trans s3))
  ·intro d e H3 rr s3 Oi hr3 Y4;have hp:aNF st=true:=by rw[j3];exact(YC e).2.2
   rw[hp]at q
   exact q H3 (s1.trans (s2.trans s3))
inductive qo(A:jK)(vs:List V)(H:Hp)(Q:VK)(E:XK):Prop
 |mk:∀(r lr:Addr) (f:iJ) (s:aMA) (rs:List Addr) (rows:List (List Int)),vs=[.ref r,.ref lr]->dW A H r f s->H lr=some (.lst (rs.map V.ref))->jS H rs rows->(∀H',aV H H'->Q (.int (fS s rows)) H')->qo A vs H Q E
def iF(T:Txt K mg A):bQ P w K mg base eV 6 A.rV A.rY ["record","rows"] (qo A):=by
 refine T.fB.ok kM (λvs H Q E h=>?_) (λd3 A' outer s H vs Q E hr h=>?_)
 ·obtain⟨r,lr,f,st,rs,rows,rfl,_⟩:=h;rfl
 ·obtain⟨r,lr,f,st,rs,rows,rfl,hR,oA,rK,q⟩:=h
  have cC:=bG rK;unfold fS at q;refine⟨_,(aC (cT aP5 rfl (cI (pv 1)) (jN 2 kM.nd) (aF (bE (fG (dC (cF T.t6 (A7 T) hr T.Dx (Dt T) (aA (pv 2) aD)))) (aF (aI (aM rfl T.eA))) aN)))
   (aC (dE 3 kM.nd (cF T.fU (gJ T) hr T.iO (iP T) (aA (aU (pv 0) rfl) (aA (aU (pv 0) rfl) aD))))
   (aC (cT aP5 rfl (cI (pv 1)) (jN 2 kM.nd) (aF (bE (aL (JA hr.units) (hJ i8 (by rfl) T.Dq zL (aA (pv 2) aD)) (pv 3) (by rfl)) (aF (aI (aM rfl T.MJ))) aN)))
   (aF (aI (eM (dC (cF T.eU (fW T) hr T.gU (gR T) (aA (pv 0) aD))) aG (aM rfl T.hU))))))),?_⟩
  refine⟨_,rfl,lr,rfl,⟨_,aZ.of oA⟩,cW (K:=K) (a:=lr) (xs:=rs.map V.ref) (λi σ H'=>∃v2:Option V,σ=[some (.ref r),some (.ref lr),v2,none]/\H'=H/\(rows.take i).all isNm=true) ?_ ?_ ?_ ?_⟩
  ·exact⟨none,rfl,rfl,rfl⟩
  ·rintro i σ H' _ ⟨_,_,e,_⟩;rw[e];exact aZ.of oA
  ·rintro i x σ H' hi ⟨v2,rfl,rfl,iS⟩;obtain⟨ra,ha,rfl⟩:=iK hi;obtain⟨n,hn,n9⟩:=dU rK ha;refine⟨_,rfl,ra,n,rfl,.inl (aZ.of n9),_,rfl,?_⟩;cases zA:isNm n with
   | false=>
    rw[if_pos (O1 hn zA)]at q
    exact bW (q _ λ_ _ e=>e)
   |true=>exact cG ⟨_,rfl,rfl,Wm hn zA iS⟩
  ·rintro σ H' ⟨v2,rfl,rfl,iS⟩;rw[aLx,cC,aMe]at iS;rw[if_neg (by rw[iS];decide)]at q
   rw[aNB]at iS
   refine⟨_,rfl,r,_,f.dr,_,_,rfl,hR.obj,T.bA,T.bD,rfl,_,rfl,r,_,f.dr,_,_,rfl,hR.obj,T.bA,T.bC,rfl,
    f.lc,f.lt,f.cs,f.ts,st.cores,st.said,rfl,hR.cores,hR.things,hR.wf.namesOk,λH1 nm ms s1 Y3 aA7 t8=>?_⟩
   have Oe:aMI ⟨st.cores,st.said⟩=aMI st:=rfl;rw[Oe]at t8;refine⟨_,rfl,lr,rfl,⟨_,aZ.of (s1 _ _ oA)⟩,cW (K:=K) (a:=lr) (xs:=rs.map V.ref) (λi σ H2=>∃v2:Option V,σ=[some (.ref r),some (.ref lr),v2,some (.ref nm)]/\aV H' H2/\H2 nm=some (.lst ms)/\aS H2 ms ((aMI st).map aLz)/\(rows.take i).all (aN1 st)=true) ?_ ?_ ?_ ?_⟩
   ·exact⟨v2,rfl,s1,aA7,t8,rfl⟩
   ·rintro i σ H2 _ ⟨_,_,s2,_⟩;exact aZ.of (s2 _ _ oA)
   ·rintro i x σ H2 hi ⟨v2,rfl,s2,Nn,CA,Mp⟩;obtain⟨ra,ha,rfl⟩:=iK hi;obtain⟨n,hn,n9⟩:=dU rK ha;have hby:=(c9 (iS n (aMZ hn))).1;refine⟨_,rfl,ra,_,rfl,.inl ⟨aZ.of (s2 _ _ n9),λna B5=>?_⟩⟩;have s3:=aE (o:=.tup (n.map V.int)) B5;refine⟨_,rfl,nm,ms,na,n,_,rfl,aZ.of (s3 _ _ Nn),rfl,aB,aS.same CA s3,_,rfl,?_⟩;rw[if_pos rfl,si hby];cases hk:aN1 st n with
    | false=>
     rw[if_pos (O1 hn hk)]at q
     exact bW (q _ (s2.trans s3))
    |true=>exact cG ⟨_,rfl,s2.trans s3,s3 _ _ Nn,aS.same CA s3,Wm hn hk Mp⟩
   ·rintro σ H2 ⟨v2,rfl,s2,Nn,CA,Mp⟩;rw[aLx,cC,aMe]at Mp;rw[if_neg (by rw[Mp];decide),<-j3]at q
    refine⟨_,rfl,r,f,st,rfl,hR.same s2,λH3 s3=>⟨_,rfl,?_⟩⟩
    cases hp:aNF st with
    | false=>
     rw[if_pos hp]at q
     exact cG (q _ (s2.trans s3))
    | true=>
     rw[if_neg (by rw[hp];decide)]at q
     exact bW (q _ (s2.trans s3))
inductive XC(A:jK)(vs:List V)(H:Hp)(Q:VK)(E:XK):Prop
 |mk:∀(r ra:Addr) (f:iJ) (s:aMA) (n:List Int),vs=[.ref r,.ref ra]->dW A H r f s->H ra=some (.lst (n.map V.int))->isNm n=true->aN1 s n=true->(∀H',aV H H'->Q (.int (aMQ s (aLy n):Nat)) H')->XC A vs H Q E
def jV(T:Txt K mg A):bQ P w K mg base eV 3 A.Ih A.Ig ["record","row"] (XC A):=by
 refine T.i6.ok ZP (λvs H Q E h=>?_) (λd3 A' outer s H vs Q E hr h=>?_)
 ·obtain⟨r,ra,f,st,n,rfl,_⟩:=h;rfl
 ·obtain⟨r,ra,f,st,n,rfl,hR,n9,zA,Mp,q⟩:=h
  have hby:=(c9 zA).1;obtain⟨fp1,fp2,fmem⟩:=iN hby Mp;refine⟨_,(aF (aI (bH cH (e9 aMa aOo aQP (jx hr.units) (cF T.fU (gJ T) hr T.iO (iP T) (aA (aU (pv 0) rfl) (aA (aU (pv 0) rfl) aD))) (aA (hJ i8 (by rfl) T.Dq zL (aA (pv 1) aD)) aD)) aG))),?_⟩
  refine⟨_,rfl,r,_,f.dr,_,_,rfl,hR.obj,T.bA,T.bD,rfl,_,rfl,r,_,f.dr,_,_,rfl,hR.obj,T.bA,T.bC,rfl,
   f.lc,f.lt,f.cs,f.ts,st.cores,st.said,rfl,hR.cores,hR.things,hR.wf.namesOk,λH1 nm ms s1 Y3 aA7 t8=>?_⟩
  have Oe:aMI ⟨st.cores,st.said⟩=aMI st:=rfl;rw[Oe]at t8;refine⟨.inl ⟨rfl,_,aZ.of aA7⟩,_,rfl,ra,_,rfl,.inl ⟨aZ.of (s1 _ _ n9),λna B5=>?_⟩⟩;have s3:=aE (o:=.tup (n.map V.int)) B5;refine⟨nm,ms,na,n,_,_,rfl,rfl,aZ.of (s3 _ _ aA7),aB,aS.same t8 s3,fp1,fp2,_,_,rfl,rfl,?_⟩;have e:(((aMI st).findIdx λm=>m==aLy n:Nat):Int)+1=((aMQ st (aLy n):Nat):Int):=by unfold aMQ;omega
  have q2:=q _ (s1.trans s3);rw[<-e]at q2;exact q2
inductive bq(vs:List V)(H:Hp)(Q:VK)(E:XK):Prop
 |mk:∀(L:Addr) (n i:Nat) (ls:List V) (l:List bO) (a:Int) (b:Option Int),vs=[.ref L,.int (n:Int),.int (i:Int)]->H L=some (.lst ls)->aQ H ls l->mK n l->n<=1000->i<n->kT l->G1 n l->cP (Way l i 0) (some (-a))->cP (Way l 0 i) b->(∀(H':Hp) (r:Addr),aV H H'->H r=aP4->H' r=some (.lst ((a::aNS b).map V.int))->Q (.ref r) H')->bq vs H Q E
def oP(b:Option Int):(aNS b).length=2:=by cases b<;>rfl
def Al(T:Txt K mg A):bQ P w K mg base eV 3 A.CS A.DN ["lines","how_many","time"] bq:=by
 refine T.qZ.ok Pp (λvs H Q E h=>?_) (λd3 A' outer s H vs Q E hr h=>?_)
 ·obtain⟨L,n,i,ls,l,a,b,rfl,_⟩:=h;rfl
 ·obtain⟨L,n,i,ls,l,a,b,rfl,hL,gN,rG,hn,hi,hc,ha,l1,l2,k⟩:=h
  have hs:=wC (by omega:0<n) rG ha
  refine⟨_,(aF (aI (bH fR (aR (aA (fO (cF T.gL (jC T) hr T.j4 (kE T) (aA (pv 0) (aA (pv 1) aD))) (pv 2)) aD)) (cF T.kC (qO T) hr T.tQ (tT T) (aA (fO (cF T.gE (kG T) hr T.lD (k9 T) (aA (pv 0) (aA (pv 1) aD))) (pv 2)) aD))))),?_⟩
  refine⟨_,rfl,_,rfl,L,n,ls,l,rfl,hL,gN,rG,hn,?_,?_⟩
  ·intro e H3 s3;rw[e]at hs;exact absurd hc hs
  intro d e H1 ag s1 aAB T3 Y4;rw[e]at hs;have ea:d.getD i 0=a:=by
   have:=aP6 (cP.uniq (hs.2.2 i hi) l1)
   omega
  refine⟨_,rfl,ag,_,_,_,rfl,rfl,aZ.of T3,tD (by omega),aO,λp hp=>?_⟩
  rw[ea]
  have s2:=aE (o:=.lst [V.int a]) hp;have kY:=s1.trans s2;refine⟨_,rfl,_,rfl,L,n,ls,l,rfl,kY _ _ hL,aQ.same gN kY,rG,hn,by omega,λH2 gr s3 vg vb=>?_⟩
  have eb:(dJ l n (bR n 0)).getD i none=b:=cP.uniq (wD (by omega) rG hc (by omega) hi) l2
  have hhl:(dJ l n (bR n 0)).length=n:=by rw[gQ];unfold bR;rw[aMv,aN6]
  have a3:=iV (d:=dJ l n (bR n 0)) (i:=i) (by omega)
  rw[eb]at a3
  refine⟨_,rfl,gr,_,_,_,rfl,rfl,aZ.of vb,a3,b,rfl,λH3 bo s4 aDC hbo=>?_⟩
  have fj:=s3.trans s4;refine⟨p,bo,_,_,rfl,rfl,fj _ _ aB,hbo,by rw[aLx,oP];show 3<=sizeLine;decide,λout ho=>?_⟩
  exact k _ out ((kY.trans fj).trans (aE ho)) ((kY.trans fj).free ho) aB
inductive Yy(A:jK)(vs:List V)(H:Hp)(Q:VK)(E:XK):Prop
 |mk:∀(r:Addr) (f:iJ) (s:aMA) (one two:Nat),vs=[.ref r,.int (one:Int),.int (two:Int)]->dW A H r f s->kT (aMJ s)->one<aMB s->two<aMB s->(∀H',aV H H'->Q (d6 (aM9 (aML s) two one)) H')->Yy A vs H Q E
def fH(T:Txt K mg A):bQ P w K mg base eV 5 A.jI A.jJ ["record","one","two"] (Yy A):=by
 refine T.dO.ok B3 (λvs H Q E h=>?_) (λd3 A' outer s H vs Q E hr h=>?_)
 ·obtain⟨r,f,st,one,two,rfl,_⟩:=h;rfl
 ·obtain⟨r,f,st,one,two,rfl,hR,hc,h1,h2,q⟩:=h
  have h9:=hR.wf.names;have hm:=cK st;refine⟨_,(aF (aI (fO (cF T.iD (nG T) hr T.pE (pU T) (aA (cF T.cU (cX T) hr T.dN (dM T) (aA (pv 0) aD)) (aA (cF T.bL (bM T) hr T.bT (bS T) (aA (pv 0) aD)) (aA (pv 2) aD)))) (pv 1)))),?_⟩;refine⟨_,rfl,r,f,st,rfl,hR,λH1 L ls s1 Y8 hL gN=>?_⟩;refine⟨_,rfl,r,f,st,rfl,hR.same s1,λH2 s2=>?_⟩;refine⟨_,rfl,L,aMB st,two,ls,aMJ st,rfl,s2 _ _ hL,aQ.same gN s2,bP st,by omega,h2,λH3 gr s3 vg vb=>?_⟩
  have eb:aM9 (aML st) two one=(dJ (aMJ st) (aMB st) (bR (aMB st) two)).getD one none:=cP.uniq (d5 (bP st) hc h2 h1) (wD h2 (bP st) hc (by omega) h1)
  have hhl:(dJ (aMJ st) (aMB st) (bR (aMB st) two)).length=aMB st:=by rw[gQ];unfold bR;rw[aMv,aN6]
  have a3:=iV (d:=dJ (aMJ st) (aMB st) (bR (aMB st) two)) (i:=one) (by omega)
  rw[<-eb]at a3
  exact⟨_,rfl,gr,_,_,_,rfl,rfl,aZ.of vb,a3,q H3 (s1.trans (s2.trans s3))⟩
def LJ(a:Int)(b:Option Int):((a::aNS b).map V.int).length=3:=by cases b<;>rfl
def aFz(o:Option Int):(match o with|none=>none|some x=>some (-x))=o.map λx=>-x:=by cases o<;>rfl
def lO{s:aMA}{c:aN4}(h:aMn c=false):aMY s c=(s,[-1]):=by unfold aMY;rw[if_pos h]
def uO{s:aMA}{c:aN4}(h:aMn c=true):aMY s c=aMS s c:=by unfold aMY;rw[if_neg (by rw[h];decide)]
def Yz{s:aMA}{n:List Int}{k:Nat->aMA×List Int}(h:aN1 s n=false):aNH s n k=(s,[-3]):=by unfold aNH;rw[if_pos h]
def AO{s:aMA}{n:List Int}{k:Nat->aMA×List Int}(h:aN1 s n=true):aNH s n k=k (aMQ s (aLy n)):=by unfold aNH;rw[if_neg (by rw[h];decide)]
def IP{s:aMA}{k:List aMt->aMA×List Int}(h:aNE (aMB s) (aML s)=false):aMw s k=(s,[-7]):=by unfold aMw;simp only[];rw[if_pos h]
def Dr{s:aMA}{k:List aMt->aMA×List Int}(h:aNE (aMB s) (aML s)=true):aMw s k=k (aML s):=by unfold aMw;simp only[];rw[if_neg (by rw[h];decide)]
def da{s:aMA}{n:List Int}{c:aN4}{k:Nat->List aMt->aMA×List Int}(hr:aMn c=isNm n)(hc:aMS s c=aNH s n λi=>aMw s λt=>k i t)(h:fS s [n]<0):
  aMY s c=(s,[fS s [n]]):=by
 unfold fS at h ⊢;simp only[aNj,List.all_nil,aOa]at h ⊢;by_cases h1:isNm n=false
 ·rw[if_pos h1,lO (hr.trans h1)]
 rw[if_neg h1]at h ⊢
 rw[aOX]at h1
 rw[uO (hr.trans h1),hc]
 by_cases h2:aN1 s n=false
 ·rw[if_pos h2,Yz h2]
 rw[if_neg h2]at h ⊢
 rw[aOX]at h2
 rw[AO h2]
 by_cases h3:aNE (aMB s) (aML s)=false
 ·rw[if_pos h3,IP h3]
 ·rw[if_neg h3]at h;exact absurd h (by decide)
def P0{s:aMA}{n m:List Int}{c:aN4}{k:Nat->Nat->List aMt->aMA×List Int}(hr:aMn c=(isNm n&&isNm m))(hc:aMS s c=aNH s n λi=>aNH s m λj=>aMw s λt=>k i j t)(h:fS s [n,m]<0):
  aMY s c=(s,[fS s [n,m]]):=by
 unfold fS at h ⊢;simp only[aNj,List.all_nil,aOa]at h ⊢;by_cases h1:(isNm n&&isNm m)=false
 ·rw[if_pos h1,lO (hr.trans h1)]
 rw[if_neg h1]at h ⊢
 rw[aOX]at h1
 rw[uO (hr.trans h1),hc]
 by_cases h2:(aN1 s n&&aN1 s m)=false
 ·rw[if_pos h2]
  cases hn:aN1 s n with
  |false=>rw[Yz hn]
  | true=>
   rw[hn,aNJ]at h2
   rw[AO hn,Yz h2]
 rw[if_neg h2]at h ⊢
 rw[aOX,aM5]at h2
 rw[AO h2.1,AO h2.2]
 by_cases h3:aNE (aMB s) (aML s)=false
 ·rw[if_pos h3,IP h3]
 ·rw[if_neg h3]at h;exact absurd h (by decide)
def cj{s:aMA}{n:List Int}{c:aN4}{k:Nat->List aMt->aMA×List Int}(hr:aMn c=isNm n)(hc:aMS s c=aNH s n λi=>aMw s λt=>k i t)(h:¬fS s [n]<0):
  aMY s c=k (aMQ s (aLy n)) (aML s):=by
 obtain⟨h1,h2⟩:=oM h
 obtain⟨hn,hk⟩:=h1 n (by simp)
 rw[uO (hr.trans hn),hc,AO hk,Dr h2]
def PV{s:aMA}{n m:List Int}{c:aN4}{k:Nat->Nat->List aMt->aMA×List Int}(hr:aMn c=(isNm n&&isNm m))(hc:aMS s c=aNH s n λi=>aNH s m λj=>aMw s λt=>k i j t)(h:¬fS s [n,m]<0):
  aMY s c=k (aMQ s (aLy n)) (aMQ s (aLy m)) (aML s):=by
 obtain⟨h1,h2⟩:=oM h
 obtain⟨hn,hk⟩:=h1 n (by simp)
 obtain⟨hm,vh⟩:=h1 m (by simp)
 rw[uO (by rw[hr,hn,hm];rfl),hc,AO hk,AO vh,Dr h2]
def Fi{s:aMA}(hc:kT (aMJ s)){i:Nat}(hi:i<aMB s):cP (Way (aMJ s) i 0) (some (-(aMq (aML s) i))):=by
 have h:=d5 (bP s) hc hi (by rw[cK];omega:0<aMB s)
 obtain⟨vs,w,p,_⟩:=(lL s).toW i hi
 unfold aMq aML;cases e:aM9 (aOJ (aMB s) (aMJ s)) i 0 with
 |none=>rw[e]at h;exact absurd ⟨vs,p⟩ (h w)
 | some x=>
  rw[e]at h
  have e2:- -((some x).getD 0)=x:=by show - -x=x;omega
  rw[e2]
  exact h
def OV{s:aMA}(hc:kT (aMJ s)){i:Nat}(hi:i<aMB s):cP (Way (aMJ s) 0 i) (aND (aML s) i):=d5 (bP s) hc (by rw[cK];omega) hi
def Hq(T:Txt K mg A):bQ P w K mg base eV 6 A.kK A.o8 ["record","numbers","rows"] (gF A 0 0 λ_ _=>.possible):=by
 refine T.oV.ok Ho (λvs H Q E h=>?_) (λd3 A' outer s H vs Q E hr h=>?_)
 ·obtain⟨r,ln,lr,f,st,nums,rows,rs,rfl,_⟩:=h;rfl
 ·obtain⟨r,ln,lr,f,st,nums,rows,rs,rfl,hR,pX,oA,rK,hn,hk,rH,k⟩:=h
  have k:gW A H r f st .possible Q:=k;refine⟨_,(aF (aI (aR (aA (eM (dC (cF T.eU (fW T) hr T.gU (gR T) (aA (pv 0) aD))) aG aG) aD)))),?_⟩;refine⟨_,rfl,r,f,st,rfl,hR,λH1 s1=>⟨_,rfl,?_⟩⟩;cases hp:aNF st with
  | true=>
   refine bW ⟨aO,λout ho=>?_⟩;refine k.pure hR (ans:=[1]) ?_ (s1.trans (aE ho)) (s1.free ho) aB;show(st,[aNA (aNF st)])=_;rw[hp];rfl
  | false=>
   refine cG ⟨aO,λout ho=>?_⟩;refine k.pure hR (ans:=[0]) ?_ (s1.trans (aE ho)) (s1.free ho) aB;show(st,[aNA (aNF st)])=_;rw[hp];rfl
def aAi{rows:List (List Int)}(h:rows.length=1):rows=[rows.getD 0 []]:=by
 match rows,h with
 |[_],_=>rfl
def my{rows:List (List Int)}(h:rows.length=2):rows=[rows.getD 0 [],rows.getD 1 []]:=by
 match rows,h with
 |[_,_],_=>rfl
def K7(T:Txt K mg A):bQ P w K mg base eV 7 A.m8 A.uY ["record","numbers","rows"] (gF A 0 1 λ_ rows=>.bounds (rows.getD 0 [])):=by
 refine T.u4.ok Br (λvs H Q E h=>?_) (λd3 A' outer s H vs Q E hr h=>?_)
 ·obtain⟨r,ln,lr,f,st,nums,rows,rs,rfl,_⟩:=h;rfl
 ·obtain⟨r,ln,lr,f,st,nums,rows,rs,rfl,hR,pX,oA,rK,hn,hk,rH,k⟩:=h
  have k:gW A H r f st (.bounds (rows.getD 0 [])) Q:=k;obtain⟨ra,lj,n9,EU⟩:=k5 rK (i:=0) (by omega)
  have hrw:=aAi hk;generalize rows.getD 0 []=n at*;have h9:=hR.wf.names;have hm:=cK st;refine⟨_,(aC (dE 3 Br.nd (cF T.fB (iF T) hr T.i3 (iZ T) (aA (pv 0) (aA (pv 2) aD))))
   (aC (bE (aL fP (pv 3) aG (aP _)) (aF (aI (aR (aA (pv 3) aD)))) aN)
   (aF (aI (bH fR (aR (aA aG aD)) (cF T.qZ (Al T) hr T.Cr (DP T) (aA (cF T.cU (cX T) hr T.dN (dM T) (aA (pv 0) aD)) (aA (cF T.bL (bM T) hr T.bT (bS T) (aA (pv 0) aD)) (aA (cF T.i6 (jV T) hr T.mD (mC T) (aA (pv 0) (aA (fO (pv 2) aG) aD))) aD))))))))),?_⟩
  refine⟨_,rfl,_,rfl,r,lr,f,st,rs,rows,rfl,hR,oA,rK,λH1 s1=>?_⟩
  refine⟨_,rfl,_,_,rfl,rfl,_,rfl,?_⟩
  rw[hrw]
  refine cA (λc=>?_) (λc=>?_)
  ·have c:=dT c;refine⟨_,rfl,aO,λout ho=>?_⟩;exact k.pure hR (da (dD n) (k:=λi t=>(st,0::aNZ t i)) rfl c) (s1.trans (aE ho)) (s1.free ho) aB
  have c0:=dF c;have c:=oM c0;obtain⟨zA,Mp⟩:=c.1 n (by simp)
  have fM:=l8.1 c.2;have AJ:=fT (iN (c9 zA).1 Mp).2.2;refine⟨aO,λp hp=>?_⟩;have s2:=aE (o:=.lst [V.int 0]) hp;have kY:=s1.trans s2;refine⟨_,rfl,r,f,st,rfl,hR.same kY,λH2 L ls s3 Y8 hL gN=>?_⟩;have CC:=kY.trans s3;refine⟨_,rfl,r,f,st,rfl,hR.same CC,λH3 s4=>?_⟩;have GU:=CC.trans s4;refine⟨_,rfl,_,rfl,lr,_,_,_,rfl,rfl,aZ.of (GU _ _ oA),lj,r,ra,f,st,n,rfl,hR.same GU,GU _ _ n9,zA,Mp,λH4 s5=>?_⟩;have Mm:=s4.trans s5;refine⟨L,aMB st,aMQ st (aLy n),ls,aMJ st,_,_,rfl,Mm _ _ hL,aQ.same gN Mm,bP st,by omega,AJ.1,fM,(lL st).toW,Fi fM AJ.1,OV fM AJ.1,λH5 bo s6 aDC hbo=>?_⟩
  have Yi:=s3.trans (Mm.trans s6);refine⟨p,bo,_,_,rfl,rfl,Yi _ _ aB,hbo,by rw[LJ];show 4<=sizeLine;decide,λout ho=>?_⟩
  refine k.pure hR (ans:=0::aNZ (aML st) (aMQ st (aLy n))) ?_ ((kY.trans Yi).trans (aE ho)) ((kY.trans Yi).free ho) aB;exact cj (dD n) (k:=λi t=>(st,0::aNZ t i)) rfl c0
def M6(T:Txt K mg A):bQ P w K mg base eV 7 A.qC A.xU ["record","numbers","rows"] (gF A 0 2 λ_ rows=>.apart (rows.getD 0 []) (rows.getD 1 [])):=by
 refine T.xP.ok iB (λvs H Q E h=>?_) (λd3 A' outer s H vs Q E hr h=>?_)
 ·obtain⟨r,ln,lr,f,st,nums,rows,rs,rfl,_⟩:=h;rfl
 ·obtain⟨r,ln,lr,f,st,nums,rows,rs,rfl,hR,pX,oA,rK,hn,hk,rH,k⟩:=h
  have k:gW A H r f st (.apart (rows.getD 0 []) (rows.getD 1 [])) Q:=k;obtain⟨r0,Oi,xq,-⟩:=k5 rK (i:=0) (by omega)
  obtain⟨r1,Yb,kj,-⟩:=k5 rK (i:=1) (by omega)
  have hrw:=my hk;generalize rows.getD 0 []=n at*;generalize rows.getD 1 []=m at*;have h9:=hR.wf.names;have hm:=cK st;have vK:aMn (.apart n m)=(isNm n&&isNm m):=by show(aNc n&&aNc m)=_;rw[dD,dD]
  refine⟨_,(aC (dE 3 iB.nd (cF T.fB (iF T) hr T.i3 (iZ T) (aA (pv 0) (aA (pv 2) aD))))
   (aC (bE (aL fP (pv 3) aG (aP _)) (aF (aI (aR (aA (pv 3) aD)))) aN)
   (aC (dE 4 iB.nd (cF T.i6 (jV T) hr T.mD (mC T) (aA (pv 0) (aA (fO (pv 2) aG) aD))))
   (aC (dE 5 iB.nd (cF T.i6 (jV T) hr T.mD (mC T) (aA (pv 0) (aA (fO (pv 2) aG) aD))))
   (aC (dE 6 iB.nd (cF T.dO (fH T) hr T.f9 (gA T) (aA (pv 0) (aA (pv 5) (aA (pv 4) aD)))))
   (aC (dE 7 iB.nd (eM (gY (lJ (pv 6))) kO (CF uF (pv 6))))
   (aF (aI (bH fR (bH fR (aR (aA aG aD)) (cF T.kC (qO T) hr T.tQ (tT T) (aA (pv 7) aD))) (cF T.kC (qO T) hr T.tQ (tT T) (aA (cF T.dO (fH T) hr T.f9 (gA T) (aA (pv 0) (aA (pv 4) (aA (pv 5) aD)))) aD))))))))))),?_⟩
  refine⟨_,rfl,_,rfl,r,lr,f,st,rs,rows,rfl,hR,oA,rK,λH1 s1=>?_⟩
  refine⟨_,rfl,_,_,rfl,rfl,_,rfl,?_⟩
  rw[hrw]
  refine cA (λc=>?_) (λc=>?_)
  ·have c:=dT c;refine⟨_,rfl,aO,λout ho=>?_⟩;exact k.pure hR (P0 vK (k:=λi j t=>(st,0::(aNS ((aM9 t i j).map λx=>-x)++aNS (aM9 t j i)))) rfl c) (s1.trans (aE ho)) (s1.free ho) aB
  have c0:=dF c;have c:=oM c0;obtain⟨zA,Mp⟩:=c.1 n (by simp)
  obtain⟨hmm,vh⟩:=c.1 m (by simp)
  have fM:=l8.1 c.2;have pn:=fT (iN (c9 zA).1 Mp).2.2;have pm:=fT (iN (c9 hmm).1 vh).2.2;refine⟨_,rfl,_,rfl,lr,_,_,_,rfl,rfl,aZ.of (s1 _ _ oA),Oi,r,r0,f,st,n,rfl,hR.same s1,s1 _ _ xq,zA,Mp,λH2 s2=>?_⟩;have kY:=s1.trans s2;refine⟨_,rfl,_,rfl,lr,_,_,_,rfl,rfl,aZ.of (kY _ _ oA),Yb,r,r1,f,st,m,rfl,hR.same kY,kY _ _ kj,hmm,vh,λH3 s3=>?_⟩;have CC:=kY.trans s3;refine⟨_,rfl,_,rfl,_,rfl,r,f,st,_,_,rfl,hR.same CC,fM,pm.1,pn.1,λH4 s4=>?_⟩;have GU:=CC.trans s4;have aAF:aMY st (.apart n m)=(st,0::(aNS ((aM9 (aML st) (aMQ st (aLy n)) (aMQ st (aLy m))).map λx=>-x)++aNS (aM9 (aML st) (aMQ st (aLy m)) (aMQ st (aLy n))))):=
   PV vK (k:=λi j t=>(st,0::(aNS ((aM9 t i j).map λx=>-x)++aNS (aM9 t j i)))) rfl c0
  have kR:∀(o:Option Int) (tv:V),o=((aM9 (aML st) (aMQ st (aLy n)) (aMQ st (aLy m))).map λx=>-x)->Yn xu (Yn xu (aBd (B9 (tC (.int 0)) WS)) (Nv xw [] E0 (B9 (t9 7) WS))) (Nv xw [] E0 (B9 (Nv (Yy A) [] E0 (B9 (t9 0) (B9 (t9 4) (B9 (t9 5) WS)))) WS))
    [some (.ref r),some (.ref ln),some (.ref lr),some (.int (fS st [n,m])),some (.int (aMQ st (aLy n):Nat)),some (.int (aMQ st (aLy m):Nat)),some tv,some (d6 o)] H4 Q:=by
   intro o tv ho;refine⟨aO,λp hp=>?_⟩;have s5:=aE (o:=.lst [V.int 0]) hp;refine⟨_,rfl,o,rfl,λH5 b1 s6 hb10 hb1=>?_⟩;refine⟨p,b1,_,_,rfl,rfl,s6 _ _ aB,hb1,by rw[aLx,oP];show 3<=sizeLine;decide,λp2 Kg=>?_⟩
   have s7:=aE (o:=.lst ([V.int 0]++(aNS o).map V.int)) Kg;have s17:=GU.trans (s5.trans (s6.trans s7));refine⟨_,rfl,_,rfl,_,rfl,r,f,st,_,_,rfl,hR.same s17,fM,pn.1,pm.1,λH8 s8=>?_⟩;refine⟨_,rfl,λH9 b2 s9 hb20 hb2=>?_⟩;have s89:=s8.trans s9;refine⟨p2,b2,_,_,rfl,rfl,s89 _ _ aB,hb2,by rw[aMH,aLx,aLx,oP,oP];show 5<=sizeLine;decide,λout tU=>?_⟩
   refine k.pure hR aAF ((s17.trans s89).trans (aE tU)) ((s17.trans s89).free tU) ?_;rw[aB,<-ho,aM2,aMU];rfl
  refine⟨_,rfl,_,rfl,?_⟩
  cases ht:aM9 (aML st) (aMQ st (aLy n)) (aMQ st (aLy m))with
  |none=>exact bW (kR none _ (by rw[ht];rfl))
  |some x=>exact cG ⟨_,rfl,_,rfl,kR (some (-x)) _ (by rw[ht];rfl)⟩
def LG(o y:Option Int):List Int:=[0,aNA (match o with
     |some x=>decide (1<=x)
     |none=>true),aNA ((match y.map λx=>-x with
     |some x=>decide (x<=0)
     |none=>true)&&(match o with
     |some x=>decide (0<=x)
     |none=>true)),aNA (match y.map λx=>-x with
     |some x=>decide (x<=-1)
     |none=>true)]
def xt:Option Int->Bool
 |some x=>decide (0<=x)
 |none=>true
def upB:Option Int->Bool
 |some x=>decide (0<x)
 |none=>true
def iq(o y:Option Int):LG o y=[0,aNA (upB o),aNA (xt o&&xt y),aNA (upB y)]:=by
 have e1:∀x:Int,decide (-x<=0)=decide (0<=x):=λx=>decide_eq_decide.2 (by omega)
 have e2:∀x:Int,decide (-x<=-1)=decide (0<x):=λx=>decide_eq_decide.2 (by omega)
 have e3:∀x:Int,decide (1<=x)=decide (0<x):=λx=>decide_eq_decide.2 (by omega)
 unfold LG;cases o<;>cases y<;>simp only[aOO,Option.map_none,upB,xt,e1,e2,e3,Bool.and_comm]
def aDp{σ:L2.St}{H:Hp}{Q:VK}{o:Option Int}{i:Nat}(hv:∀R:VK,R (d6 o) H->t9 i σ H R)(q:Q (.bl (xt o)) H):aDw (ft (t9 i)) (Yn (af λi j=>V.bl (decide (j<=i))) (t9 i) (tC (V.int 0))) σ H Q:=by
 cases o with
 |none=>exact hv _ ⟨_,rfl,bW q⟩
 |some x=>exact hv _ ⟨_,rfl,cG (hv _ ⟨_,_,rfl,rfl,q⟩)⟩
def zh(p:Prop)[Decidable p]:aNA (decide p)=if p then 1 else 0:=by
 by_cases h:p
 ·rw[if_pos h,decide_eq_true h];rfl
 ·rw[if_neg h,decide_eq_false h];rfl
def aDq{σ:L2.St}{H:Hp}{Q:VK}{o:Option Int}{i:Nat}(hv:∀R:VK,R (d6 o) H->t9 i σ H R)(q:Q (.int (aNA (upB o))) H):
  tIf (tOr (tB (ft (t9 i))) (LB (Yn (af λi j=>V.bl (decide (j<i))) (t9 i) (tC (V.int 0))))) (tC (V.int 1)) (tC (V.int 0)) σ H Q:=by
 cases o with
 |none=>exact hv _ ⟨_,rfl,bW (bW q)⟩
 | some x=>
  refine hv _ ⟨_,rfl,cG ?_⟩;unfold LB Yn;refine hv _ ⟨_,_,rfl,rfl,_,rfl,?_⟩;have q:Q (.int (aNA (decide (0<x)))) H:=q;rw[zh]at q;refine cA (λc=>?_) (λc=>?_)
  ·rw[if_pos (dT c)]at q;exact q
  ·rw[if_neg (dF c)]at q;exact q
def MH(T:Txt K mg A):bQ P w K mg base eV 7 A.qG A.xZ ["record","numbers","rows"] (gF A 0 2 λ_ rows=>.order (rows.getD 0 []) (rows.getD 1 [])):=by
 refine T.xW.ok fZ (λvs H Q E h=>?_) (λd3 A' outer s H vs Q E hr h=>?_)
 ·obtain⟨r,ln,lr,f,st,nums,rows,rs,rfl,_⟩:=h;rfl
 ·obtain⟨r,ln,lr,f,st,nums,rows,rs,rfl,hR,pX,oA,rK,hn,hk,rH,k⟩:=h
  have k:gW A H r f st (.order (rows.getD 0 []) (rows.getD 1 [])) Q:=k;obtain⟨r0,Oi,xq,-⟩:=k5 rK (i:=0) (by omega)
  obtain⟨r1,Yb,kj,-⟩:=k5 rK (i:=1) (by omega)
  have hrw:=my hk;generalize rows.getD 0 []=n at*;generalize rows.getD 1 []=m at*;have h9:=hR.wf.names;have hm:=cK st;have vK:aMn (.order n m)=(isNm n&&isNm m):=by show(aNc n&&aNc m)=_;rw[dD,dD]
  refine⟨_,(aC (dE 3 fZ.nd (cF T.fB (iF T) hr T.i3 (iZ T) (aA (pv 0) (aA (pv 2) aD))))
   (aC (bE (aL fP (pv 3) aG (aP _)) (aF (aI (aR (aA (pv 3) aD)))) aN)
   (aC (dE 4 fZ.nd (cF T.i6 (jV T) hr T.mD (mC T) (aA (pv 0) (aA (fO (pv 2) aG) aD))))
   (aC (dE 5 fZ.nd (cF T.i6 (jV T) hr T.mD (mC T) (aA (pv 0) (aA (fO (pv 2) aG) aD))))
   (aC (dE 6 fZ.nd (cF T.dO (fH T) hr T.f9 (gA T) (aA (pv 0) (aA (pv 4) (aA (pv 5) aD)))))
   (aC (dE 7 fZ.nd (cF T.dO (fH T) hr T.f9 (gA T) (aA (pv 0) (aA (pv 5) (aA (pv 4) aD)))))
   (aC (dE 8 fZ.nd (ZD (aAj (PD (lJ (pv 6))) (LF (AQ aAk (pv 6) aG (aP _)))) (LF (aAj (PD (lJ (pv 7))) (LF (AQ aAk (pv 7) aG (aP _)))))))
   (aF (aI (aR (aA aG (aA (eM (PW.pt (jR (gY (lJ (pv 6))) (gX (aL iG (pv 6) aG (aP _))))) aG aG) (aA (eM (dC (pv 8)) aG aG) (aA (eM (PW.pt (jR (gY (lJ (pv 7))) (gX (aL iG (pv 7) aG (aP _))))) aG aG) aD)))))))))))))),?_⟩
  refine⟨_,rfl,_,rfl,r,lr,f,st,rs,rows,rfl,hR,oA,rK,λH1 s1=>?_⟩
  refine⟨_,rfl,_,_,rfl,rfl,_,rfl,?_⟩
  rw[hrw]
  refine cA (λc=>?_) (λc=>?_)
  ·have c:=dT c;refine⟨_,rfl,aO,λout ho=>?_⟩;exact k.pure hR (P0 vK (k:=λi j t=>(st,LG (aM9 t j i) (aM9 t i j))) rfl c) (s1.trans (aE ho)) (s1.free ho) aB
  have c0:=dF c;have c:=oM c0;obtain⟨zA,Mp⟩:=c.1 n (by simp)
  obtain⟨hmm,vh⟩:=c.1 m (by simp)
  have fM:=l8.1 c.2;have pn:=fT (iN (c9 zA).1 Mp).2.2;have pm:=fT (iN (c9 hmm).1 vh).2.2;refine⟨_,rfl,_,rfl,lr,_,_,_,rfl,rfl,aZ.of (s1 _ _ oA),Oi,r,r0,f,st,n,rfl,hR.same s1,s1 _ _ xq,zA,Mp,λH2 s2=>?_⟩;have kY:=s1.trans s2;refine⟨_,rfl,_,rfl,lr,_,_,_,rfl,rfl,aZ.of (kY _ _ oA),Yb,r,r1,f,st,m,rfl,hR.same kY,kY _ _ kj,hmm,vh,λH3 s3=>?_⟩;have CC:=kY.trans s3;refine⟨_,rfl,_,rfl,_,rfl,r,f,st,_,_,rfl,hR.same CC,fM,pn.1,pm.1,λH4 s4=>?_⟩;have GU:=CC.trans s4;refine⟨_,rfl,_,rfl,_,rfl,r,f,st,_,_,rfl,hR.same GU,fM,pm.1,pn.1,λH5 s5=>?_⟩;have JT:=GU.trans s5;have aAF:aMY st (.order n m)=(st,LG (aM9 (aML st) (aMQ st (aLy m)) (aMQ st (aLy n))) (aM9 (aML st) (aMQ st (aLy n)) (aMQ st (aLy m)))):=
   PV vK (k:=λi j t=>(st,LG (aM9 t j i) (aM9 t i j))) rfl c0
  generalize aM9 (aML st) (aMQ st (aLy m)) (aMQ st (aLy n))=o at*;generalize aM9 (aML st) (aMQ st (aLy n)) (aMQ st (aLy m))=y at*;rw[iq]at aAF;have fin:∀b:Bool,b=(xt o&&xt y)->aEO (aBd (B9 (tC (V.int 0)) (B9 (tIf (tOr (tB (ft (t9 6))) (LB (Yn (af λi j=>V.bl (decide (j<i))) (t9 6) (tC (V.int 0))))) (tC (V.int 1)) (tC (V.int 0)))
    (B9 (tIf (tB (t9 8)) (tC (V.int 1)) (tC (V.int 0))) (B9 (tIf (tOr (tB (ft (t9 7))) (LB (Yn (af λi j=>V.bl (decide (j<i))) (t9 7) (tC (V.int 0))))) (tC (V.int 1)) (tC (V.int 0))) WS)))))
    { nx:=λx H'=>Q V.non H',rt:=Q } [some (.ref r),some (.ref ln),some (.ref lr),some (.int (fS st [n,m])),some (.int (aMQ st (aLy n):Nat)),some (.int (aMQ st (aLy m):Nat)),some (d6 o),some (d6 y),some (.bl b)] H5:=by
   intro b hb;have aFG:∀v:Int,v=aNA b->tIf (tOr (tB (ft (t9 7))) (LB (Yn (af λi j=>V.bl (decide (j<i))) (t9 7) (tC (V.int 0))))) (tC (V.int 1)) (tC (V.int 0))
     [some (.ref r),some (.ref ln),some (.ref lr),some (.int (fS st [n,m])),some (.int (aMQ st (aLy n):Nat)),some (.int (aMQ st (aLy m):Nat)),some (d6 o),some (d6 y),some (.bl b)] H5 λw H6=>
      ([V.int 0,V.int (aNA (upB o)),V.int v,w]:List V).length<=sizeLine/\∀l,H6 l=aP4->Q (.ref l) (upd H6 l (.lst [V.int 0,V.int (aNA (upB o)),V.int v,w])):=by
    intro v hv;refine aDq (o:=y) (λ_ q=>⟨_,rfl,q⟩) ⟨vT,λout ho=>?_⟩;refine k.pure hR aAF (JT.trans (aE ho)) (JT.free ho) ?_;rw[aB,hv,hb];rfl
   refine aDq (o:=o) (λ_ q=>⟨_,rfl,q⟩) ⟨_,rfl,_,rfl,?_⟩;cases b with
   |true=>exact bW (aFG 1 rfl)
   |false=>exact cG (aFG 0 rfl)
  refine aDp (o:=o) (λ_ q=>⟨_,rfl,q⟩) ⟨_,rfl,?_⟩;cases ho:xt o with
  |true=>exact bW (aDp (o:=y) (λ_ q=>⟨_,rfl,q⟩) (fin _ (by rw[ho];rfl)))
  |false=>exact cG (fin _ (by rw[ho];rfl))
def ck(xs:List V)(s e:Nat):oE xs (some (s:Int)) (some (e:Int))=(xs.take e).drop s:=by
 unfold oE;have h1:HT.Ml xs.length 0 (some (s:Int))=min s xs.length:=HT.bj _ _ _;have h2:HT.Ml xs.length xs.length (some (e:Int))=min e xs.length:=HT.bj _ _ _;rw[h1,h2,aON];by_cases hs:s<=xs.length
 ·rw[aPY hs]
  by_cases he:e<=xs.length
  ·rw[aPY he]
  ·rw[aPZ (by omega),aOn (by simp),aOn (by simp;omega)]
 ·have e1:min s xs.length=xs.length:=aPZ (by omega)
  have e2:xs.drop xs.length=[]:=aPB (aMG _);have e3:xs.drop s=[]:=aPB (by omega)
  rw[e1,e2,e3,aP0,aP0]
def EF{α:Type}(f:α->V)(g:Nat->α){d:List α}{n:Nat}(z:α)(hd:n+1<=d.length)(hg:∀i,i<n->d.getD (i+1) z=g i):((d.map f).take (1+n)).drop 1=((aME n).map g).map f:=by
 rw[aON,show 1+n-1=n by omega,<-List.map_drop,<-List.map_take]
 congr 1
 apply aRB
 ·rw[aMj,aN8,aLx,aMk];omega
 ·intro i h1 h2;rw[aLx,aMk]at h2;rw[List.getElem_take,List.getElem_drop,List.getElem_map,aOh,<-hg i h2,aMW,aMK (by omega)]
  simp only[Option.getD_some]
  congr 1
  omega
inductive pj(A:jK)(vs:List V)(H:Hp)(Q:VK)(E:XK):Prop
 |mk:∀(r:Addr) (f:iJ) (s:aMA) (i:Nat) (a:Int),vs=[.ref r,.int (i:Int),.int a]->dW A H r f s->(∀(H':Hp) (L:Addr) (ls:List V),aV H H'->H L=aP4->H' L=some (.lst ls)->aQ H' ls (uA s i a 300)->Q (.ref L) H')->pj A vs H Q E
def Hu(T:Txt K mg A):bQ P w K mg base eV 5 A.pP A.pJ ["record","time","age"] (pj A):=by
 refine T.pS.ok Hw (λvs H Q E h=>?_) (λd3 A' outer s H vs Q E hr h=>?_)
 ·obtain⟨r,f,st,i,a,rfl,_⟩:=h;rfl
 ·obtain⟨r,f,st,i,a,rfl,hR,q⟩:=h
  refine⟨_,(aF (aI (bH fR (cF T.cU (cX T) hr T.dN (dM T) (aA (pv 0) aD)) (aR (aA (gC (aA (aM rfl T.mE) (aA (pv 1) (aA (pv 2) (aA (aM rfl T.wV) aD))))) (aA (gC (aA (pv 1) (aA (aM rfl T.mE) (aA (CF uF (pv 2)) (aA (aM rfl T.wV) aD))))) aD)))))),?_⟩
  refine⟨_,rfl,r,f,st,rfl,hR,λH1 L ls s1 Y8 hL gN=>?_⟩
  refine⟨_,rfl,_,rfl,vT,λp1 WM=>?_⟩
  have s2:=aE (o:=.tup [.int 0,.int (i:Int),.int a,.int 300]) WM;refine⟨_,rfl,_,rfl,_,rfl,vT,λp2 Kg=>⟨pZ,λp3 hp3=>?_⟩⟩;have s3:=aE (o:=.tup [.int (i:Int),.int 0,.int (-a),.int 300]) Kg;have s4:=aE (o:=.lst [.ref p1,.ref p2]) hp3;have Zw:=s2.trans (s3.trans s4);have Kf:ls.length<=3000:=by rw[bG gN];exact tY hR.wf
  refine⟨L,p3,_,_,rfl,rfl,Zw _ _ hL,aB,by show ls.length+2<=sizeLine;exact aMm (dX (by omega)),λout ho=>?_⟩
  have s5:=aE (o:=.lst (ls++[.ref p1,.ref p2])) ho;refine q _ out _ (s1.trans (Zw.trans s5)) ((s1.trans Zw).free ho) aB ?_;refine Dl (aQ.same gN (Zw.trans s5)) (.cons ⟨p1,rfl,s5 _ _ (s4 _ _ (s3 _ _ aB))⟩ (.cons ⟨p2,rfl,s5 _ _ (s4 _ _ aB)⟩ .nil))
def JM(T:Txt K mg A):bQ P w K mg base eV 7 A.lE A.sG ["record","numbers","rows"] (gF A 1 2 λnums rows=>.suppose (nums.getD 0 0) (rows.getD 0 []) (rows.getD 1 [])):=by
 refine T.sQ.ok iE (λvs H Q E h=>?_) (λd3 A' outer s H vs Q E hr h=>?_)
 ·obtain⟨r,ln,lr,f,st,nums,rows,rs,rfl,_⟩:=h;rfl
 ·obtain⟨r,ln,lr,f,st,nums,rows,rs,rfl,hR,pX,oA,rK,hn,hk,rH,k⟩:=h
  have k:gW A H r f st (.suppose (nums.getD 0 0) (rows.getD 0 []) (rows.getD 1 [])) Q:=k;have a0:=kP (nums:=nums) (i:=0) (by omega)
  obtain⟨r0,Oi,xq,-⟩:=k5 rK (i:=0) (by omega)
  obtain⟨r1,Yb,kj,-⟩:=k5 rK (i:=1) (by omega)
  have hrw:=my hk;generalize nums.getD 0 0=a at*;generalize rows.getD 0 []=n at*;generalize rows.getD 1 []=m at*;have h9:=hR.wf.names;have hm:=cK st;have vK:aMn (.suppose a n m)=(aMP a 0 1000000&&(isNm n&&isNm m)):=by show(aMP a 0 1000000&&(aNc n&&aNc m))=_;rw[dD,dD]
  refine⟨_,(aC (dE 3 iE.nd (fO (pv 1) aG))
   (aC (bE (PW.pt (jR (aL fP (pv 3) aG (aP _)) (gX (aL iG (pv 3) (aM rfl T.K4) (aP _))))) (aF (aI (aR (aA (aM rfl T.eA) aD)))) aN)
   (aC (dE 4 iE.nd (cF T.fB (iF T) hr T.i3 (iZ T) (aA (pv 0) (aA (pv 2) aD))))
   (aC (bE (aL fP (pv 4) aG (aP _)) (aF (aI (aR (aA (pv 4) aD)))) aN)
   (aC (dE 5 iE.nd (cF T.pS (Hu T) hr T.JO (JS T) (aA (pv 0) (aA (cF T.i6 (jV T) hr T.mD (mC T) (aA (pv 0) (aA (fO (pv 2) aG) aD))) (aA (pv 3) aD)))))
   (aC (dE 6 iE.nd (cF T.bL (bM T) hr T.bT (bS T) (aA (pv 0) aD)))
   (aC (bE (gY (lJ (cF T.gL (jC T) hr T.j4 (kE T) (aA (pv 5) (aA (pv 6) aD))))) (aF (aI (aR (aA (aM rfl T.MF) aD)))) aN)
   (aF (aI (bH fR (aR (aA aG aD)) (cF T.qZ (Al T) hr T.Cr (DP T) (aA (pv 5) (aA (pv 6) (aA (cF T.i6 (jV T) hr T.mD (mC T) (aA (pv 0) (aA (fO (pv 2) aG) aD))) aD)))))))))))))),?_⟩
  refine⟨_,rfl,ln,_,_,_,rfl,rfl,aZ.of pX,a0,?_⟩
  have Zt:aMP a 0 1000000=false->1<=sizeLine/\∀l,H l=aP4->Q (.ref l) (upd H l (.lst [V.int (-1)])):=by
   intro hb;refine⟨by decide,λout ho=>?_⟩
   exact k.pure hR (ans:=[-1]) (lO (by rw[vK,hb];rfl)) (aE ho) ho aB
  refine⟨_,rfl,_,_,rfl,rfl,_,rfl,?_⟩
  refine cA (λc=>bW (Zt ?_)) (λc=>?_)
  ·have c:=dT c;unfold aMP;rw[decide_eq_false (by omega)];rfl
  have c1:=dF c;refine⟨_,rfl,_,_,rfl,rfl,_,rfl,?_⟩;refine cA (λc=>Zt ?_) (λc=>?_)
  ·have c:=dT c;unfold aMP;rw[decide_eq_false (by omega:¬a<=1000000),aNT]
  have c2:=dF c;have Mo:aMP a 0 1000000=true:=by unfold aMP;rw[decide_eq_true (by omega),decide_eq_true (by omega)];rfl
  rw[Mo,aNJ]at vK
  refine⟨_,rfl,_,rfl,r,lr,f,st,rs,rows,rfl,hR,oA,rK,λH1 s1=>?_⟩
  refine⟨_,rfl,_,_,rfl,rfl,_,rfl,?_⟩
  rw[hrw]
  have oF:aMS st (.suppose a n m)=aNH st n λi=>aNH st m λj=>aMw st λ_=>
   if aNE (aMB st) (aNq st [⟨0,i,a,200⟩,⟨i,0,-a,200⟩])=false then(st,[-8])else(st,0::aNZ (aNq st [⟨0,i,a,200⟩,⟨i,0,-a,200⟩]) j):=rfl
  refine cA (λc=>?_) (λc=>?_)
  ·have c:=dT c;refine⟨_,rfl,aO,λout ho=>?_⟩;exact k.pure hR (P0 vK (k:=λi j _=>if aNE (aMB st) (aNq st [⟨0,i,a,200⟩,⟨i,0,-a,200⟩])=false then(st,[-8])else(st,0::aNZ (aNq st [⟨0,i,a,200⟩,⟨i,0,-a,200⟩]) j)) oF c) (s1.trans (aE ho)) (s1.free ho) aB
  have c0:=dF c;have c:=oM c0;obtain⟨zA,Mp⟩:=c.1 n (by simp)
  obtain⟨hmm,vh⟩:=c.1 m (by simp)
  have pn:=fT (iN (c9 zA).1 Mp).2.2;have pm:=fT (iN (c9 hmm).1 vh).2.2;have rL:=PV vK (k:=λi j _=>if aNE (aMB st) (aNq st [⟨0,i,a,200⟩,⟨i,0,-a,200⟩])=false then(st,[-8])else(st,0::aNZ (aNq st [⟨0,i,a,200⟩,⟨i,0,-a,200⟩]) j)) oF c0
  refine⟨_,rfl,_,rfl,_,rfl,lr,_,_,_,rfl,rfl,aZ.of (s1 _ _ oA),Oi,r,r0,f,st,n,rfl,hR.same s1,s1 _ _ xq,zA,Mp,λH2 s2=>?_⟩
  have kY:=s1.trans s2;refine⟨_,rfl,r,f,st,aMQ st (aLy n),a,rfl,hR.same kY,λH3 L ls s3 Y8 hL gN=>?_⟩;have CC:=kY.trans s3;refine⟨_,rfl,r,f,st,rfl,hR.same CC,λH4 s4=>?_⟩;have GU:=CC.trans s4;generalize aMQ st (aLy n)=i at*;have rG:mK (aMB st) (uA st i a 300):=Gf pn.1;have hs:=wC (by omega:0<aMB st) rG LO
  refine⟨_,rfl,_,rfl,L,aMB st,ls,uA st i a 300,rfl,s4 _ _ hL,aQ.same gN s4,rG,by omega,?_,?_⟩
  ·intro e H5 s5;rw[e]at hs;have hf:aNE (aMB st) (aNq st [⟨0,i,a,200⟩,⟨i,0,-a,200⟩])=false:=by
    rw[<-aNb]
    exact λz=>hs (XF 200 300 ((gS (l:=uA st i a 200) (Gf pn.1)).1 z))
   rw[if_pos hf]at rL
   have JT:=GU.trans s5;exact⟨_,rfl,bW ⟨aO,λout ho=>k.pure hR rL (JT.trans (aE ho)) (JT.free ho) aB⟩⟩
  ·intro d e H5 ag s5 aAB T3 Y4;rw[e]at hs;have hc3:kT (uA st i a 300):=hs.1;have Yk:kT (uA st i a 200):=XF 300 200 hc3;have hf:aNE (aMB st) (aNq st [⟨0,i,a,200⟩,⟨i,0,-a,200⟩])=true:=(gS (l:=uA st i a 200) (Gf pn.1)).2 Yk;rw[if_neg (by rw[hf];decide)]at rL
   have JT:=GU.trans s5;refine⟨_,rfl,cG ⟨aO,λp hp=>?_⟩⟩;have s6:=aE (o:=.lst [V.int 0]) hp;have Zr:=JT.trans s6;have s46:=s4.trans (s5.trans s6);refine⟨_,rfl,_,rfl,_,rfl,_,rfl,lr,_,_,_,rfl,rfl,aZ.of (Zr _ _ oA),Yb,r,r1,f,st,m,rfl,hR.same Zr,Zr _ _ kj,hmm,vh,λH7 s7=>?_⟩;have s47:=s46.trans s7;have least:cP (Way (uA st i a 300) (aMQ st (aLy m)) 0) (some (-(aMq (aNq st [⟨0,i,a,200⟩,⟨i,0,-a,200⟩]) (aMQ st (aLy m))))):=by
    have h:=(d5 (l:=uA st i a 200) (Gf pn.1) Yk pm.1 (by omega:0<aMB st)).congr (λw=>br 200 300)
    obtain⟨vs,x,p,_⟩:=LO (s:=st) (i:=i) (a:=a) (src:=300) _ pm.1
    have e1:aNq st [⟨0,i,a,200⟩,⟨i,0,-a,200⟩]=aOJ (aMB st) (uA st i a 200):=rfl;unfold aMq;rw[e1];cases e:aM9 (aOJ (aMB st) (uA st i a 200)) (aMQ st (aLy m)) 0 with
    |none=>rw[e]at h;exact absurd ⟨vs,p⟩ (h x)
    | some y=>
     rw[e]at h
     have e2:- -((some y).getD 0)=y:=by show - -y=y;omega
     rw[e2]
     exact h
   have most:cP (Way (uA st i a 300) 0 (aMQ st (aLy m))) (aND (aNq st [⟨0,i,a,200⟩,⟨i,0,-a,200⟩]) (aMQ st (aLy m))):=
    (d5 (l:=uA st i a 200) (Gf pn.1) Yk (by omega:0<aMB st) pm.1).congr (λw=>br 200 300)
   refine⟨L,aMB st,aMQ st (aLy m),ls,uA st i a 300,_,_,rfl,s47 _ _ hL,aQ.same gN s47,rG,by omega,pm.1,hc3,LO,least,most,λH8 bo s8 aDC hbo=>?_⟩
   have s78:=s7.trans s8;refine⟨p,bo,_,_,rfl,rfl,s78 _ _ aB,hbo,by rw[LJ];show 4<=sizeLine;decide,λout ho=>?_⟩
   exact k.pure hR rL ((Zr.trans s78).trans (aE ho)) ((Zr.trans s78).free ho) aB
inductive aBE(A:jK)(vs:List V)(H:Hp)(Q:VK)(E:XK):Prop
 |mk:∀(r la:Addr) (f:iJ) (s:aMA) (xs:List V),vs=[.ref r,.ref la]->dW A H r f s->H la=some (.lst xs)->(∀(H':Hp) (o:Addr),aV H H'->H o=aP4->H' o=some (.lst ((xs.take (1+(aMI s).length)).drop 1))->Q (.ref o) H')->aBE A vs H Q E
def wK(T:Txt K mg A):bQ P w K mg base eV 3 A.Ff A.Fm ["record","ages"] (aBE A):=by
 refine T.oQ.ok Xs (λvs H Q E h=>?_) (λd3 A' outer s H vs Q E hr h=>?_)
 ·obtain⟨r,la,f,st,xs,rfl,_⟩:=h;rfl
 ·obtain⟨r,la,f,st,xs,rfl,hR,hla,q⟩:=h
  refine⟨_,(aF (aI (uJ AR (pv 1) (jL aG) (jL (bH cH aG (bJ aW (by rfl) T.eX c8 (aA (cF T.fU (gJ T) hr T.iO (iP T) (aA (aU (pv 0) rfl) (aA (aU (pv 0) rfl) aD))) aD))))))),?_⟩
  refine⟨_,rfl,_,rfl,_,rfl,r,_,f.dr,_,_,rfl,hR.obj,T.bA,T.bD,rfl,_,rfl,r,_,f.dr,_,_,rfl,hR.obj,T.bA,T.bC,rfl,
   f.lc,f.lt,f.cs,f.ts,st.cores,st.said,rfl,hR.cores,hR.things,hR.wf.namesOk,λH1 nm ms s1 Y3 zA t8=>?_⟩
  have GQ:ms.length=(aMI st).length:=by rw[aS.length t8,aLx]
  refine⟨nm,_,rfl,.inl (aZ.of zA),_,_,rfl,rfl,_,rfl,la,_,rfl,aZ.of (s1 _ _ hla),λo ho=>?_⟩
  refine q _ o (s1.trans (aE ho)) (s1.free ho) ?_;rw[aB];have e:(1:Int)+(ms.length:Int)=((1+(aMI st).length:Nat):Int):=by omega
  show some (HO.lst (oE xs (some ((1:Nat):Int)) (some ((1:Int)+(ms.length:Int)))))=_;rw[e,ck]
def Hk(T:Txt K mg A):bQ P w K mg base eV 6 A.kJ A.oT ["record","numbers","rows"] (gF A 0 0 λ_ _=>.youngest):=by
 refine T.pR.ok Hi (λvs H Q E h=>?_) (λd3 A' outer s H vs Q E hr h=>?_)
 ·obtain⟨r,ln,lr,f,st,nums,rows,rs,rfl,_⟩:=h;rfl
 ·obtain⟨r,ln,lr,f,st,nums,rows,rs,rfl,hR,pX,oA,rK,hn,hk,rH,k⟩:=h
  have k:gW A H r f st .youngest Q:=k;have h9:=hR.wf.names;have hm:=cK st;refine⟨_,(aC (bE (fG (dC (cF T.eU (fW T) hr T.gU (gR T) (aA (pv 0) aD)))) (aF (aI (aR (aA (aM rfl T.hU) aD)))) aN)
   (aF (aI (bH fR (aR (aA aG aD)) (cF T.oQ (wK T) hr T.A6 (Af T) (aA (pv 0) (aA (cF T.gL (jC T) hr T.j4 (kE T) (aA (cF T.cU (cX T) hr T.dN (dM T) (aA (pv 0) aD)) (aA (cF T.bL (bM T) hr T.bT (bS T) (aA (pv 0) aD)) aD))) aD))))))),?_⟩
  refine⟨_,rfl,r,f,st,rfl,hR,λH1 s1=>⟨_,rfl,?_⟩⟩
  rw[j3]
  cases hp:aNE (aMB st) (aML st)with
  | false=>
   refine bW ⟨aO,λout ho=>?_⟩;exact k.pure hR (ans:=[-7]) (IP (k:=λt=>(st,0::(aME (aMI st).length).map λi=>aMq t (i+1))) hp) (s1.trans (aE ho)) (s1.free ho) aB
  | true=>
   have rL:=Dr (k:=λt=>(st,0::(aME (aMI st).length).map λi=>aMq t (i+1))) hp;refine cG ⟨aO,λp hp0=>?_⟩;have s2:=aE (o:=.lst [V.int 0]) hp0;have kY:=s1.trans s2;refine⟨_,rfl,_,rfl,r,f,st,rfl,hR.same kY,λH3 L ls s3 Y8 hL gN=>?_⟩;have CC:=kY.trans s3;refine⟨_,rfl,r,f,st,rfl,hR.same CC,λH4 s4=>?_⟩;have GU:=CC.trans s4;refine⟨L,aMB st,ls,aMJ st,rfl,s4 _ _ hL,aQ.same gN s4,bP st,by omega,?_,?_⟩
   ·intro e H5 s5;rw[Fq e]at hp;cases hp
   ·intro d e H5 ag s5 aAB T3 Y4;have JT:=GU.trans s5;refine⟨r,ag,f,st,_,rfl,hR.same JT,T3,λH6 o s6 Mn ho=>?_⟩;have e2:=EF V.int (λi=>aMq (aML st) (i+1)) (d:=d) (n:=(aMI st).length) 0 (by omega) (λi hi=>(Wy e (by omega)).symm)
    rw[e2]at ho
    have Yi:=s3.trans (s4.trans (s5.trans s6));refine⟨p,o,_,_,rfl,rfl,Yi _ _ aB,ho,?_,λout tU=>?_⟩
    ·rw[aLx,aLx,aMk];exact aMm (bB (show 1+_<=1000 by omega))
    exact k.pure hR rL ((kY.trans Yi).trans (aE tU)) ((kY.trans Yi).free tU) aB
theorem EA:∀l:List (Option Int),(l.map d6).all vO=true
 |[]=>rfl
 |none::l=>by rw[aM2,aNj,EA l];rfl
 |some x::l=>by rw[aM2,aNj,EA l];rfl
theorem qi:∀l:List (Option Int),inV V.non (l.map d6)=!(l.all λx=>x.isSome)
 |[]=>rfl
 |none::l=>by rw[aNj];rfl
 | some x::l=>by
  have:=qi l
  unfold inV at this ⊢;rw[aM2,aNm,this,aNj];rfl
theorem OX:∀l:List (Option Int),(l.all λx=>x.isSome)=true->l.map d6=(l.map λx=>x.getD 0).map V.int
 |[],_=>rfl
 |none::l,h=>by rw[aNj]at h;cases h
 | some x::l,h=>by
  rw[aNj]at h
  rw[aM2,OX l (by simpa using h)]
  rfl
def K6(T:Txt K mg A):bQ P w K mg base eV 6 A.nB A.u6 ["record","numbers","rows"] (gF A 0 0 λ_ _=>.oldest):=by
 refine T.uU.ok Bj (λvs H Q E h=>?_) (λd3 A' outer s H vs Q E hr h=>?_)
 ·obtain⟨r,ln,lr,f,st,nums,rows,rs,rfl,_⟩:=h;rfl
 ·obtain⟨r,ln,lr,f,st,nums,rows,rs,rfl,hR,pX,oA,rK,hn,hk,rH,k⟩:=h
  have k:gW A H r f st .oldest Q:=k;have h9:=hR.wf.names;have hm:=cK st
  let kk:List aMt->aMA×List Int:=λt=>if(((aME (aMI st).length).map λi=>aND t (i+1)).all λx=>x.isSome)=false then(st,[-9])else(st,0::((aME (aMI st).length).map λi=>aND t (i+1)).map λx=>x.getD 0)
  refine⟨_,(aC (bE (fG (dC (cF T.eU (fW T) hr T.gU (gR T) (aA (pv 0) aD)))) (aF (aI (aR (aA (aM rfl T.hU) aD)))) aN)
   (aC (dE 3 Bj.nd (cF T.oQ (wK T) hr T.A6 (Af T) (aA (pv 0) (aA (cF T.gE (kG T) hr T.lD (k9 T) (aA (cF T.cU (cX T) hr T.dN (dM T) (aA (pv 0) aD)) (aA (cF T.bL (bM T) hr T.bT (bS T) (aA (pv 0) aD)) aD))) aD))))
   (aC (bE (aL iy kO (pv 3) (by rfl)) (aF (aI (aR (aA (aM rfl T.wZ) aD)))) aN)
   (aF (aI (bH fR (aR (aA aG aD)) (pv 3))))))),?_⟩
  refine⟨_,rfl,r,f,st,rfl,hR,λH1 s1=>⟨_,rfl,?_⟩⟩
  rw[j3]
  cases hp:aNE (aMB st) (aML st)with
  | false=>
   refine bW ⟨aO,λout ho=>?_⟩;exact k.pure hR (ans:=[-7]) (IP (k:=kk) hp) (s1.trans (aE ho)) (s1.free ho) aB
  | true=>
   have rL:aMY st .oldest=kk (aML st):=Dr (k:=kk) hp;have fM:=l8.1 hp;refine cG ⟨_,rfl,_,rfl,r,f,st,rfl,hR.same s1,λH3 L ls s3 Y8 hL gN=>?_⟩;have CC:=s1.trans s3;refine⟨_,rfl,r,f,st,rfl,hR.same CC,λH4 s4=>?_⟩;have GU:=CC.trans s4;refine⟨L,aMB st,ls,aMJ st,rfl,s4 _ _ hL,aQ.same gN s4,bP st,by omega,by omega,λH5 gr s5 vg vb=>?_⟩
   have JT:=GU.trans s5;have hhl:(dJ (aMJ st) (aMB st) (bR (aMB st) 0)).length=aMB st:=by rw[gQ];unfold bR;rw[aMv,aN6]
   refine⟨r,gr,f,st,_,rfl,hR.same JT,vb,λH6 o s6 Mn ho=>?_⟩
   have e2:=EF d6 (λi=>aND (aML st) (i+1)) (d:=dJ (aMJ st) (aMB st) (bR (aMB st) 0)) (n:=(aMI st).length) none (by omega) (λi hi=>(PF fM (by omega)).symm)
   rw[e2]at ho
   have Zr:=JT.trans s6;have hkk:kk (aML st)=if(((aME (aMI st).length).map λi=>aND (aML st) (i+1)).all λx=>x.isSome)=false then(st,[-9])else(st,0::((aME (aMI st).length).map λi=>aND (aML st) (i+1)).map λx=>x.getD 0):=rfl
   have hl14:((aME (aMI st).length).map λi=>aND (aML st) (i+1)).length<=14:=by rw[aLx,aMk];exact h9
   rw[hkk]at rL
   generalize((aME (aMI st).length).map λi=>aND (aML st) (i+1))=l at*
   refine⟨_,rfl,o,_,rfl,.inl (aZ.of ho),rfl,EA l,_,rfl,?_⟩
   rw[if_neg aMd,qi]
   cases iS:l.all λx=>x.isSome with
   | false=>
    rw[if_pos iS]at rL
    exact bW ⟨aO,λout tU=>k.pure hR rL (Zr.trans (aE tU)) (Zr.free tU) aB⟩
   | true=>
    rw[if_neg (by rw[iS];decide)]at rL
    rw[OX l iS]at ho
    refine cG ⟨aO,λp hp0=>?_⟩;have s7:=aE (o:=.lst [V.int 0]) hp0;refine⟨_,rfl,p,o,_,_,rfl,rfl,aB,s7 _ _ ho,?_,λout tU=>?_⟩
    ·rw[aLx,aLx];exact aMm (bB (show 1+_<=1000 by omega))
    exact k.pure hR rL ((Zr.trans s7).trans (aE tU)) ((Zr.trans s7).free tU) aB
def Pl(T:Txt K mg A):bQ P w K mg base eV 6 A.wB A.CU ["record","numbers","rows"] (gF A 0 0 λ_ _=>.all):=by
 refine T.Ct.ok j9 (λvs H Q E h=>?_) (λd3 A' outer s H vs Q E hr h=>?_)
 ·obtain⟨r,ln,lr,f,st,nums,rows,rs,rfl,_⟩:=h;rfl
 ·obtain⟨r,ln,lr,f,st,nums,rows,rs,rfl,hR,pX,oA,rK,hn,hk,rH,k⟩:=h
  have k:gW A H r f st .all Q:=k;have h9:=hR.wf.names;have hm:=cK st
  let kk:List aMt->aMA×List Int:=λt=>(st,0::(aME (aMI st).length).flatMap λi=>aNZ t (i+1))
  refine⟨_,(aC (bE (fG (dC (cF T.eU (fW T) hr T.gU (gR T) (aA (pv 0) aD)))) (aF (aI (aR (aA (aM rfl T.hU) aD)))) aN)
   (aC (dE 3 j9.nd (cF T.oQ (wK T) hr T.A6 (Af T) (aA (pv 0) (aA (cF T.gL (jC T) hr T.j4 (kE T) (aA (cF T.cU (cX T) hr T.dN (dM T) (aA (pv 0) aD)) (aA (cF T.bL (bM T) hr T.bT (bS T) (aA (pv 0) aD)) aD))) aD))))
   (aC (dE 4 j9.nd (cF T.oQ (wK T) hr T.A6 (Af T) (aA (pv 0) (aA (cF T.gE (kG T) hr T.lD (k9 T) (aA (cF T.cU (cX T) hr T.dN (dM T) (aA (pv 0) aD)) (aA (cF T.bL (bM T) hr T.bT (bS T) (aA (pv 0) aD)) aD))) aD))))
   (aC (dE 5 j9.nd (aR (aA aG aD)))
   (aC (cT aP5 rfl (vR rfl T.iH (aA (pv 3) aD)) (rO rfl (bY (jN 6 j9.nd) (bY (jN 7 j9.nd) k8))) (aC (cS (e9 aMa aMr aMs cR (pv 5) (aA (pv 7) aD)))
   (aF (cS (e9 aMa aOH aOI zO (pv 5) (aA (cF T.kC (qO T) hr T.tQ (tT T) (aA (fO (pv 4) (pv 6)) aD)) aD))))))
   (aF (aI (pv 5)))))))),?_⟩
  refine⟨_,rfl,r,f,st,rfl,hR,λH1 s1=>⟨_,rfl,?_⟩⟩
  rw[j3]
  cases hp:aNE (aMB st) (aML st)with
  | false=>
   refine bW ⟨aO,λout ho=>?_⟩;exact k.pure hR (ans:=[-7]) (IP (k:=kk) hp) (s1.trans (aE ho)) (s1.free ho) aB
  | true=>
   have rL:aMY st .all=(st,0::(aME (aMI st).length).flatMap λi=>aNZ (aML st) (i+1)):=Dr (k:=kk) hp;have fM:=l8.1 hp;refine cG ⟨_,rfl,_,rfl,r,f,st,rfl,hR.same s1,λH3 L ls s3 Y8 hL gN=>?_⟩;have CC:=s1.trans s3;refine⟨_,rfl,r,f,st,rfl,hR.same CC,λH4 s4=>?_⟩;have GU:=CC.trans s4;refine⟨L,aMB st,ls,aMJ st,rfl,s4 _ _ hL,aQ.same gN s4,bP st,by omega,?_,?_⟩
   ·intro e H5 s5;rw[Fq e]at hp;cases hp
   intro d e H5 ag s5 aAB T3 Y4;have JT:=GU.trans s5;refine⟨r,ag,f,st,_,rfl,hR.same JT,T3,λH6 o s6 Mn ho=>?_⟩;have e2:=EF V.int (λi=>aMq (aML st) (i+1)) (d:=d) (n:=(aMI st).length) 0 (by omega) (λi hi=>(Wy e (by omega)).symm)
   rw[e2]at ho
   have Zr:=JT.trans s6;refine⟨_,rfl,_,rfl,r,f,st,rfl,hR.same Zr,λH7 L2 ls2 s7 hL20 WO aHn=>?_⟩;have s17:=Zr.trans s7;refine⟨_,rfl,r,f,st,rfl,hR.same s17,λH8 s8=>?_⟩;have s18:=s17.trans s8;refine⟨L2,aMB st,ls2,aMJ st,rfl,s8 _ _ WO,aQ.same aHn s8,bP st,by omega,by omega,λH9 gr s9 vg vb=>?_⟩
   have s19:=s18.trans s9;have hhl:(dJ (aMJ st) (aMB st) (bR (aMB st) 0)).length=aMB st:=by rw[gQ];unfold bR;rw[aMv,aN6]
   refine⟨r,gr,f,st,_,rfl,hR.same s19,vb,λHa g s10 hg0 hg=>?_⟩
   have e3:=EF d6 (λi=>aND (aML st) (i+1)) (d:=dJ (aMJ st) (aMB st) (bR (aMB st) 0)) (n:=(aMI st).length) none (by omega) (λi hi=>(PF fM (by omega)).symm)
   rw[e3]at hg
   have s1a:=s19.trans s10;have hoa:=(s7.trans (s8.trans (s9.trans s10))) _ _ ho;refine⟨aO,λD hD=>?_⟩;have sD:=aE (o:=.lst [V.int 0]) hD;have hDH:H D=aP4:=s1a.free hD;have noD:o≠D:=aJ hoa hD;have ngD:g≠D:=aJ hg hD;generalize hN:(aMI st).length=N at*;refine⟨_,rfl,o,_,rfl,aZ.of (sD _ _ hoa),uI (K:=K) (a:=o) (xs:=((aME N).map λi=>aMq (aML st) (i+1)).map V.int)
    (λi σ H'=>∃v6 v7:Option V,σ=[some (.ref r),some (.ref ln),some (.ref lr),some (.ref o),some (.ref g),some (.ref D),v6,v7]/\aV H H'/\H' o=some (.lst (((aME N).map λi=>aMq (aML st) (i+1)).map V.int))/\H' g=some (.lst (((aME N).map λi=>aND (aML st) (i+1)).map d6))/\
     H' D=some (.lst ((0::(aME i).flatMap λi=>aNZ (aML st) (i+1)).map V.int))) ?_ ?_ ?_ ?_⟩
   ·exact⟨none,none,rfl,s1a.trans sD,sD _ _ hoa,sD _ _ hg,aB⟩
   ·rintro i σ H' _ ⟨_,_,_,_,h,_⟩;exact aZ.of h
   ·rintro i x σ H' t hx ⟨v6,v7,rfl,sx,hox,hgx,hDx⟩ ht;have hiN:i<N:=by have:=(aM0.mp hx).1;rwa [aLx,aLx,aMk]at this
    have ex:x=V.int (aMq (aML st) (i+1)):=by
     rw[aM4,aM4,aMK (by rw[aMk];exact hiN),aOh]at hx
     exact(aP6 hx).symm
    subst ex;have eg:(((aME N).map λi=>aND (aML st) (i+1)).map d6)[i]?=some (d6 (aND (aML st) (i+1))):=by
     rw[aM4,aM4,aMK (by rw[aMk];exact hiN),aOh];rfl
    have vn:=aE (o:=.tup [.int (i:Nat),V.int (aMq (aML st) (i+1))]) ht;have cC:((0::(aME i).flatMap λi=>aNZ (aML st) (i+1)).map V.int).length<=1+3*i:=by
     rw[aLx,aMT]
     have:=cQ (λi=>aNZ (aML st) (i+1)) 3 (aME i) (λj _=>by unfold aNZ;rw[aMT,oP];omega)
     rw[aMk]at this
     omega
    generalize By:(0::(aME i).flatMap λi=>aNZ (aML st) (i+1)).map V.int=acc at hDx cC;refine⟨t,_,rfl,eE.of aB,rfl,_,_,rfl,_,_,rfl,rfl,?_⟩;refine⟨_,rfl,.inl ⟨rfl,_,aZ.of (vn _ _ hDx)⟩,_,rfl,D,_,_,rfl,rfl,vn _ _ hDx,bB (by omega),?_⟩
    have b6:=cD (H:=upd H' t (.tup [.int (i:Nat),V.int (aMq (aML st) (i+1))])) (D:=D) (o:=.lst (acc++[V.int (aMq (aML st) (i+1))]));refine⟨_,rfl,.inl ⟨rfl,_,aZ.of aB⟩,_,rfl,_,rfl,g,_,_,_,rfl,rfl,aZ.of (b6 _ _ (vn _ _ hgx) ngD),dS eg,_,rfl,λH7 b s7 hb0 hb=>?_⟩;have hD7:=s7 _ _ (aB (H:=upd H' t (.tup [.int (i:Nat),V.int (aMq (aML st) (i+1))])) (a:=D) (o:=.lst (acc++[V.int (aMq (aML st) (i+1))])));refine⟨D,b,_,_,rfl,rfl,hD7,hb,by rw[aMH,aLx,oP];exact aMm (bB (show _+1+2<=1000 by omega)),?_⟩
    have b8:=cD (H:=H7) (D:=D) (o:=.lst (acc++[V.int (aMq (aML st) (i+1))]++(aNS (aND (aML st) (i+1))).map V.int));have all:∀b o,H' b=some o->b≠D->upd H7 D (.lst (acc++[V.int (aMq (aML st) (i+1))]++(aNS (aND (aML st) (i+1))).map V.int)) b=some o:=
     λb o e nb=>b8 _ _ (s7 _ _ (b6 _ _ (vn _ _ e) nb)) nb
    refine⟨_,_,rfl,λb o e=>all b o (sx _ _ e) (aJ e hDH),all _ _ hox noD,all _ _ hgx ngD,?_⟩
    rw[aB,lH,<-aO3,aMU,By,aMb]
    rfl
   ·rintro σ H' ⟨v6,v7,rfl,sx,hox,hgx,hDx⟩;rw[aLx,aLx,aMk]at hDx;exact⟨_,rfl,k.pure hR rL sx hDH hDx⟩
def rM(e:bO):List Key:=[aPd (e.from_:Int),aPd (e.to_:Int)]
def zC(e:bO):List Int:=[(e.from_:Int),(e.to_:Int)]
def W0(e:bO):List Int:=[(e.from_:Int),(e.to_:Int),e.most,(e.source:Int)]
def PH{e b:bO}(h:Pr e b):rM b=rM e:=by unfold rM;rw[h.1,h.2]
def LZ{e b:bO}(h:rM b=rM e):Pr e b:=by
 unfold rM at h;simp only[aPX.injEq,Sum.inl.injEq,and_true]at h;exact⟨by omega,by omega⟩
def ka{e b:bO}(h:zC b=zC e):Pr e b:=by
 unfold zC at h;simp only[aPX.injEq,and_true]at h;exact⟨by omega,by omega⟩
def O9(bU:List (List Key×V))(k:List Key)(v:V):(putK bU k v).map (·.1)=if(kS bU k).isSome=true then bU.map (·.1)else bU.map (·.1)++[k]:=by
 unfold putK;rw[uM];by_cases h:(kS bU k).isSome=true
 ·rw[if_pos h,if_pos h,aNn]
  apply List.map_congr_left;intro kv _;show(if kv.1=k then(kv.1,v)else kv).1=kv.1
  split<;>rfl
 ·rw[if_neg h,if_neg h,aMU];rfl
def uj{e b:bO}(h:Pr e b):HT.lexLt (W0 e) (W0 b)=decide (e.most<b.most\/(e.most=b.most/\e.source<b.source)):=by
 unfold W0;rw[h.1,h.2];simp only[HT.lexLt];by_cases h1:e.most<b.most
 ·have:¬e.most=b.most:=by omega
  simp[h1,this]
 ·by_cases h2:e.most=b.most
  ·by_cases h3:e.source<b.source
   ·simp[h2,h3];omega
   ·have:¬(e.source:Int)<(b.source:Int):=by omega
    simp[h2,h3,this]
  ·simp[h1,h2]
structure EW(H:Hp)(bU:List (List Key×V))(l:List bO):Prop where
 len:bU.length<=l.length
 keys:∃iT:List (List Int),bU.map (·.1)=iT.map (λns=>ns.map aPd)/\∀ns∈iT,∃e∈l,ns=zC e
 all:∀e∈l,∃b a,kS bU (rM e)=some (.ref a)/\H a=some (.tup (Kz b))/\b∈l/\Pr e b/\∀e'∈l,Pr b e'->Ym b e'
def Ym.refl(e:bO):Ym e e:=.inr ⟨rfl,aMG _⟩
def EW.put{H:Hp}{bU:List (List Key×V)}{l:List bO}(h:EW H bU l){e:bO}{ta:Addr}(vN:H ta=some (.tup (Kz e)))(IF:∀e'∈l,Pr e e'->Ym e e'):EW H (putK bU (rM e) (.ref ta)) (l++[e]):=by
 obtain⟨iT,k1,k2⟩:=h.keys
 refine⟨?_,?_,?_⟩
 ·have:=congrArg aMi (O9 bU (rM e) (.ref ta))
  rw[aLx]at this
  have hl:=h.len;rw[this,aMH];split
  ·rw[aLx];omega
  ·rw[aMH,aLx];exact Nat.add_le_add_right hl 1
 ·rw[O9]
  split
  ·exact⟨iT,k1,λns hn=>by obtain⟨x,hx,q⟩:=k2 ns hn;exact⟨x,aN3 _ hx,q⟩⟩
  ·refine⟨iT++[zC e],by rw[k1,aMU];rfl,λns hn=>?_⟩
   rcases aMX.1 hn with hn|hn
   ·obtain⟨x,hx,q⟩:=k2 ns hn;exact⟨x,aN3 _ hx,q⟩
   ·exact⟨e,aMz _ (by simp),by simpa using hn⟩
 ·intro x hx;by_cases hp:Pr e x
  ·refine⟨e,ta,by rw[XG,if_pos (PH hp)],vN,aMz _ (by simp),⟨hp.1.symm,hp.2.symm⟩,λe' he' q=>?_⟩
   rcases aMX.1 he' with z|z
   ·exact IF e' z q
   ·have:e'=e:=by simpa using z
    rw[this];exact Ym.refl e
  ·have hxl:x∈l:=by
    rcases aMX.1 hx with z|z
    ·exact z
    ·have:x=e:=by simpa using z
     subst this;exact absurd ⟨rfl,rfl⟩ hp
   obtain⟨b,a,g1,g2,g3,g4,g5⟩:=h.all x hxl
   refine⟨b,a,by rw[XG,if_neg (λq=>hp (LZ q))];exact g1,g2,aN3 _ g3,g4,λe' he' q=>?_⟩
   rcases aMX.1 he' with z|z
   ·exact g5 e' z q
   ·have:e'=e:=by simpa using z
    subst this;exact absurd (show Pr e' x from⟨g4.1.symm.trans q.1.symm,g4.2.symm.trans q.2.symm⟩) hp
def EW.skip{H:Hp}{bU:List (List Key×V)}{l:List bO}(h:EW H bU l){e b:bO}{a:Addr}(hv:kS bU (rM e)=some (.ref a))(ha:H a=some (.tup (Kz b)))(hbl:b∈l)(kh:Pr e b)(Mg:∀e'∈l,Pr b e'->Ym b e')(IF:Ym b e):EW H bU (l++[e]):=by
 obtain⟨iT,k1,k2⟩:=h.keys
 refine⟨by rw[aMH];exact aM3 h.len (Nat.le_add_right _ _),⟨iT,k1,λns hn=>by obtain⟨x,hx,q⟩:=k2 ns hn;exact⟨x,aN3 _ hx,q⟩⟩,?_⟩
 have ext:∀b:bO,b∈l->(∀e'∈l,Pr b e'->Ym b e')->(Pr b e->Ym b e)->∀e'∈l++[e],Pr b e'->Ym b e':=by
  intro b _ h1 h2 e' he' q;rcases aMX.1 he' with z|z
  ·exact h1 e' z q
  ·have:e'=e:=by simpa using z
   subst this;exact h2 q
 intro x hx;by_cases hp:Pr e x
 ·exact⟨b,a,by rw[PH hp];exact hv,ha,aN3 _ hbl,⟨kh.1.trans hp.1.symm,kh.2.trans hp.2.symm⟩,ext b hbl Mg λ_=>IF⟩
 ·have hxl:x∈l:=by
   rcases aMX.1 hx with z|z
   ·exact z
   ·have:x=e:=by simpa using z
    subst this;exact absurd ⟨rfl,rfl⟩ hp
  obtain⟨b',a',g1,g2,g3,g4,g5⟩:=h.all x hxl
  exact⟨b',a',g1,g2,aN3 _ g3,g4,ext b' g3 g5 λq=>absurd (show Pr e x from⟨g4.1.symm.trans q.1.symm,g4.2.symm.trans q.2.symm⟩) hp⟩
inductive oq(vs:List V)(H:Hp)(Q:VK)(E:XK):Prop
 |mk:∀(L:Addr) (ls:List V) (l:List bO),vs=[.ref L]->H L=some (.lst ls)->aQ H ls l->l.length<=4000->(∀(H':Hp) (r:Addr) (zs:List V) (M:List bO),aV H H'->H r=aP4->H' r=some (.lst zs)->aQ H' zs M->zD l M->Q (.ref r) H')->oq vs H Q E
def D2(T:Txt K mg A):bQ P w K mg base eV 1 A.xI A.yV ["lines"] oq:=by
 refine T.qR.ok hZ (λvs H Q E h=>?_) (λd3 A' outer s H vs Q E hr h=>?_)
 ·obtain⟨L,ls,l,rfl,_⟩:=h;rfl
 ·obtain⟨L,ls,l,rfl,hL,gN,h4,q⟩:=h
  have hu:=Nt hr;have Kf:=bG gN;refine⟨_,(aC (dE 1 hZ.nd LU)
   (aC (cT aP5 rfl (cI (pv 0)) (jN 2 hZ.nd) (aC (dE 3 hZ.nd (gC (aA (Om (pv 2) aG) (aA (Om (pv 2) aG) aD))))
   (aF (bE (PW.pt (jR (gY (jr hu (pv 3) (pv 1))) (gX (aL (aBu hr.units0) (pv 2) (Gg hu (pv 1) (pv 3) (λ_ _=>rfl)) (aP _))))) (aF (Gd hu (pv 1) (pv 3) (pv 2) rfl)) aN))))
   (aF (aI (GZ rfl hZ.nd (cI (bJ (XZ rfl) (by rfl) T.tp jv (aA (pv 1) aD))) (own:=[("pair",3)]) (by show oG ["lines","least","line","pair"] (aH yX) _ _;exact⟨rfl,by decide +kernel,by decide +kernel,by decide +kernel,by decide +kernel⟩) (λ_ _ _ _ _=>by exact(jN 3 hZ.nd)) (λ_ _ _ _ _=>by exact vV) (λ_ _ _ _ _=>by exact(Gg hu (pv 1) (pv 3) (λ_ _=>rfl)))))))),?_⟩
  refine λd hd=>?_;refine⟨_,rfl,L,rfl,⟨_,aZ.of (aE hd _ _ hL)⟩,cW (K:=K) (a:=L) (xs:=ls)
   (λi σ H'=>∃(v2 v3:Option V) (bU:List (List Key×V)),σ=[some (.ref L),some (.ref d),v2,v3]/\aV H H'/\H' d=some (.dT bU)/\EW H bU (l.take i)) ?_ ?_ ?_ ?_⟩
  ·exact⟨none,none,[],rfl,aE hd,aB,⟨aMG _,⟨[],rfl,λ_ z=>by cases z⟩,λ_ z=>by cases z⟩⟩
  ·rintro i σ H' _ ⟨_,_,_,_,s1,_⟩;exact aZ.of (s1 _ _ hL)
  ·rintro i x σ H' hx ⟨v2,v3,bU,rfl,s1,hd1,hB⟩;obtain⟨e,he,ta,rfl,vN⟩:=dU gN hx;have htk:=bK he;have il:i<l.length:=(aM0.mp he).1;have hkl:bU.length<sizeLine:=by
    have:=hB.len
    rw[aMj]at this
    exact dX (by omega)
   refine⟨_,rfl,ta,_,_,_,rfl,rfl,eE.of (s1 _ _ vN),dS (j:=0) rfl,_,rfl,ta,_,_,_,rfl,rfl,eE.of (s1 _ _ vN),dS (j:=1) rfl,pZ,λp hp=>?_⟩
   have s2:=aE (o:=.tup [.int (e.from_:Int),.int (e.to_:Int)]) hp;have kY:=s1.trans s2;have hpk:upd H' p (.tup [.int (e.from_:Int),.int (e.to_:Int)]) p=some (.tup ((rM e).map kV)):=aB;have Bs:=s2 _ _ hd1;have fin:∀(v:List (List Key×V)) (Hn:Hp),aV H Hn->Hn d=some (.dT v)->EW H v (l.take i++[e])->∃(v2 v3:Option V) (bU:List (List Key×V)),[some (V.ref L),some (V.ref d),some (V.ref ta),some (V.ref p)]=[some (V.ref L),some (V.ref d),v2,v3]/\aV H Hn/\Hn d=some (.dT bU)/\EW H bU (l.take (i+1)):=
    λv Hn g1 g2 g3=>⟨_,_,v,rfl,g1,g2,by rw[htk];exact g3⟩
   have put:(∀e'∈l.take i,Pr e e'->Ym e e')->∃(v2 v3:Option V) (kvs':List (List Key×V)),[some (V.ref L),some (V.ref d),some (V.ref ta),some (V.ref p)]=[some (V.ref L),some (V.ref d),v2,v3]/\aV H (upd (upd H' p (.tup [.int (e.from_:Int),.int (e.to_:Int)])) d (.dT (putK bU (rM e) (.ref ta))))/\
     upd (upd H' p (.tup [.int (e.from_:Int),.int (e.to_:Int)])) d (.dT (putK bU (rM e) (.ref ta))) d=some (.dT kvs')/\EW H kvs' (l.take (i+1)):=
    λIF=>fin _ _ (bI kY hd) aB (hB.put vN IF)
   refine⟨_,rfl,_,rfl,d,_,rfl,KS.t (k:=rM e) Bs hpk,_,rfl,?_⟩
   cases hv:kS bU (rM e)with
   | none=>
    refine bW (bW ⟨_,rfl,_,rfl,_,rfl,d,_,rfl,Ms.t (k:=rM e) Bs hpk hkl,put λe' he' hp'=>?_⟩);obtain⟨b,a,g1,_⟩:=hB.all e' he';rw[PH hp',hv]at g1;cases g1
   | some v=>
    obtain⟨iT,k1,k2⟩:=hB.keys
    have EU:rM e∈bU.map (·.1):=eu hv;rw[k1]at EU;obtain⟨ns,hns,hnk⟩:=aNG.1 EU;obtain⟨e0,he0,rfl⟩:=k2 ns hns;have hk0:rM e0=rM e:=hnk;obtain⟨b,a,g1,g2,g3,g4,g5⟩:=hB.all e0 he0;rw[hk0,hv]at g1;injection g1 with g1;subst g1;have kh:Pr e b:=by have:=LZ hk0;exact⟨g4.1.trans this.1,g4.2.trans this.2⟩
    refine cG ⟨_,rfl,_,rfl,_,rfl,d,_,rfl,by rw[<-hv];exact KS.t (k:=rM e) Bs hpk,ta,a,W0 e,W0 b,rfl,rfl,eE.of (kY _ _ vN),eE.of (kY _ _ g2),_,rfl,?_⟩
    rw[uj kh]
    refine cA (λc=>?_) (λc=>?_)
    ·have c:=dT c;refine⟨_,rfl,_,rfl,_,rfl,d,_,rfl,Ms.t (k:=rM e) Bs hpk hkl,put λe' he' hp'=>?_⟩;have:=g5 e' he' ⟨hp'.1.trans kh.1.symm,hp'.2.trans kh.2.symm⟩;unfold Ym at this ⊢;omega
    ·have c:=dF c;refine fin bU _ kY Bs (hB.skip hv g2 g3 kh g5 ?_);unfold Ym;omega
  ·rintro σ H' ⟨v2,v3,bU,rfl,s1,hd1,hB⟩;rw[Kf,aMe]at hB;obtain⟨iT,k1,k2⟩:=hB.keys;refine⟨_,rfl,d,bU,iT,rfl,hd1,k1,λns hn=>?_,λso ms nss' hso t8 Y0 aFN=>?_⟩
   ·obtain⟨e,_,rfl⟩:=k2 ns hn
    exact aOm _ _
   have s2:=aE (o:=.lst ms) hso;have kY:=s1.trans s2;have CA:=aS.same t8 s2;have GQ:=aS.length t8;have hlen':nss'.length<=4000:=by
    have e1:=congrArg aMi k1;rw[aLx,aLx]at e1;have:=hB.len;rw[Y0.length_eq];omega
   refine⟨so,rfl,⟨_,aZ.of aB⟩,λD hD=>mQ (K:=K) (a:=so) (xs:=ms) (λj H3=>aV (upd H' so (.lst ms)) H3/\∃(zs:List V) (M:List bO),H3 D=some (.lst zs)/\aQ H zs M/\M.map zC=nss'.take j/\∀e∈M,e∈l/\∀e'∈l,Pr e e'->Ym e e') ?_ ?_ ?_ ?_⟩
   ·exact⟨aE hD,[],[],aB,.nil,by rw[aPC];rfl,λ_ z=>by cases z⟩
   ·rintro j H3 _ ⟨s3,_⟩;exact aZ.of (s3 _ _ aB)
   ·rintro j z H3 hz ⟨s3,zs,M,xp,hM,hMp,hMb⟩;have Ke:j<nss'.length:=by rw[<-GQ];exact(aM0.mp hz).1
    obtain⟨ns,hn⟩:∃ns,nss'[j]?=some ns:=⟨_,aMK Ke⟩
    obtain⟨na,B5,lq⟩:=aS.get (aS.same CA s3) hn
    rw[hz]at B5
    injection B5 with B5;subst B5;obtain⟨e,he,rfl⟩:=k2 ns (Y0.mem_iff.1 (aMZ hn));obtain⟨b,a,g1,g2,g3,g4,g5⟩:=hB.all e he;have lu:H3 d=some (.dT bU):=s3 _ _ (s2 _ _ hd1);have fm:zs.length<sizeLine:=by
     have e1:=congrArg aMi hMp;rw[aLx,aMj]at e1;rw[bG hM];exact dX (by omega)
    refine⟨rfl,WV ⟨_,rfl,_,rfl,d,_,rfl,by rw[<-g1];exact KS.t (k:=rM e) lu lq,_,xp,fm,bI s3 hD,zs++[.ref a],M++[b],aB,eK ⟨a,rfl,g2⟩ hM,?_,λx hx=>?_⟩⟩
    ·rw[aMU,hMp,bK hn]
     congr 1
     show[zC b]=[zC e]
     unfold zC;rw[g4.1,g4.2]
    ·rcases aMX.1 hx with hx | hx
     ·exact hMb x hx
     ·have:x=b:=by simpa using hx
      subst this;exact⟨g3,g5⟩
   ·rintro H3 ⟨s3,zs,M,xp,hM,hMp,hMb⟩;rw[GQ,aMe]at hMp;have sF:=kY.trans s3;refine q H3 D zs M sF (kY.free hD) xp (aQ.same hM sF) ⟨hMb,λe he=>?_,λi j a b hij hi hj=>?_⟩
    ·obtain⟨bb,aa,g1,g2,g3,g4,g5⟩:=hB.all e he
     have hk:rM e∈bU.map (·.1):=eu g1;rw[k1]at hk;obtain⟨ns,hns,hnk⟩:=aNG.1 hk;obtain⟨e0,he0,rfl⟩:=k2 ns hns;have:zC e0∈M.map zC:=by rw[hMp];exact Y0.mem_iff.2 hns
     obtain⟨e1,he1,hpe⟩:=aNG.1 this
     have p1:=ka hpe;have p0:=LZ (show rM e0=rM e from hnk);exact⟨e1,he1,p1.1.trans p0.1,p1.2.trans p0.2⟩
    ·have g:=aFN i j (zC a) (zC b) hij (by rw[<-hMp,aM4,hi];rfl) (by rw[<-hMp,aM4,hj];rfl)
     have g:(decide ((b.from_:Int)<(a.from_:Int))||(!decide ((a.from_:Int)<(b.from_:Int))&&(decide ((b.to_:Int)<(a.to_:Int))||(!decide ((a.to_:Int)<(b.to_:Int))&&false))))=false:=g;simp only[Bool.or_eq_false_iff,decide_eq_false_iff_not,aNT,aPK,Bool.and_eq_false_iff,Bool.not_eq_false',decide_eq_true_eq]at g;omega
def CK{xs:List V}{j:Nat}{v:V}(hl:xs.length=j+1)(h:xs[j]?=some v):FR xs (-1)=some v:=by
 have e:Yl xs.length (-1)=some j:=by
  unfold Yl;rw[hl];split
  ·omega
  ·split
   ·simp;omega
   ·omega
 unfold FR;rw[e];exact h
def XI{d:List (Option Int)}{i:Nat}(o:Option Int)(h:d.getD i none=o)(hi:i<d.length):d.set i o=d:=by
 rw[<-h,aMW,aMK hi]
 exact aQZ hi
def gm{sums d:List (Option Int)}{e:bO}(h:sums.getD e.to_ none=none)(hl:e.from_<d.length):oJ sums d e=d:=by
 unfold oJ;rw[h];show d.set e.from_ (aNv (d.getD e.from_ none) none)=d;rw[Jr];exact XI _ rfl hl
def ij{sums d:List (Option Int)}{e:bO}{x y:Int}(h:sums.getD e.to_ none=some x)(g:d.getD e.from_ none=some y)(c:¬e.most+x<y)(hl:e.from_<d.length):oJ sums d e=d:=by
 unfold oJ;rw[h,g];have e1:aNv (some y) (aNw (some e.most) (some x))=some y:=by
  show some (min y (e.most+x))=some y;rw[aRJ (by omega)]
 rw[e1]
 exact XI _ g hl
def qy{sums d:List (Option Int)}{e:bO}{x:Int}(h:sums.getD e.to_ none=some x)(c:∀y,d.getD e.from_ none=some y->e.most+x<y):oJ sums d e=d.set e.from_ (some (e.most+x)):=by
 unfold oJ;rw[h];cases g:d.getD e.from_ none with
 |none=>rfl
 | some y=>
  have:=c y g
  show d.set e.from_ (some (min y (e.most+x)))=_;rw[aRA (by omega)]
inductive aBA(vs:List V)(H:Hp)(Q:VK)(E:XK):Prop
 |mk:∀(L S:Addr) (n:Nat) (ls:List V) (M:List bO) (sums:List (Option Int)),vs=[.ref L,.ref S]->H L=some (.lst ls)->aQ H ls M->mK n M->H S=some (.lst (sums.map d6))->sums.length=n->n<=1000->(∀(H':Hp) (r:Addr),aV H H'->H r=aP4->H' r=some (.lst ((M.foldl (oJ sums) (aMF n none)).map d6))->Q (.ref r) H')->aBA vs H Q E
def JJ(T:Txt K mg A):bQ P w K mg base eV 1 A.sO A.sS ["lines","sums"] aBA:=by
 refine T.sH.ok fN (λvs H Q E h=>?_) (λd3 A' outer s H vs Q E hr h=>?_)
 ·obtain⟨L,S,n,ls,M,sums,rfl,_⟩:=h;rfl
 ·obtain⟨L,S,n,ls,M,sums,rfl,hL,gN,rG,hS,CB,hn,k⟩:=h
  have Kf:=bG gN;refine⟨_,(aC (dE 2 fN.nd (bH LC (aR (aA kO aD)) (bJ aW (by rfl) T.eX c8 (aA (pv 1) aD))))
   (aC (cT aP5 rfl (cI (pv 0)) (rO rfl (bY (jN 3 fN.nd) (bY (jN 4 fN.nd) (bY (jN 5 fN.nd) (bY (jN 6 fN.nd) k8))))) (aC (bE (gY (lJ (fO (pv 1) (pv 4)))) (aF J5) aN)
   (aF (bE (PW.pt (jR (gY (lJ (fO (pv 2) (pv 3)))) (gX (aL iG (fO (pv 2) (pv 3)) (bH cH (pv 5) (fO (pv 1) (pv 4))) (aP _))))) (aF (FU (bH cH (pv 5) (fO (pv 1) (pv 4))) (FV (pv 2) (pv 3) uN))) aN))))
   (aF (aI (pv 2))))),?_⟩
  refine⟨aO,λl1 h1=>?_⟩
  have sl1:=aE (o:=.lst [V.non]) h1;refine⟨_,rfl,S,_,rfl,.inl (aZ.of (sl1 _ _ hS)),?_⟩;rw[aLx,CB];refine⟨l1,_,_,rfl,rfl,aB,by omega,by omega,?_,λag T3=>?_⟩
  ·show 1*((n:Int)).toNat<=sizeLine;rw[aNe,aP1];exact aMm (bB hn)
  have s1:aV H (upd (upd H l1 (.lst [V.non])) ag (.lst (aMF ((n:Int)).toNat [V.non]).flatten)):=sl1.trans (aE T3);have Mf:H ag=aP4:=sl1.free T3;have e0:(aMF ((n:Int)).toNat [V.non]).flatten=(aMF n (none:Option Int)).map d6:=by
   rw[aNe,CL,aP2];rfl
  have h0:(upd (upd H l1 (.lst [V.non])) ag (.lst (aMF ((n:Int)).toNat [V.non]).flatten)) ag=some (.lst ((aMF n (none:Option Int)).map d6)):=by rw[aB,e0]
  generalize upd (upd H l1 (.lst [V.non])) ag (.lst (aMF ((n:Int)).toNat [V.non]).flatten)=H1 at s1 h0;refine⟨_,rfl,L,rfl,⟨_,aZ.of (s1 _ _ hL)⟩,cW (K:=K) (a:=L) (xs:=ls)
   (λj σ H3=>∃v3 v4 v5 v6:Option V,σ=[some (.ref L),some (.ref S),some (.ref ag),v3,v4,v5,v6]/\aV H H3/\H3 ag=some (.lst (((M.take j).foldl (oJ sums) (aMF n none)).map d6))) ?_ ?_ ?_ ?_⟩
  ·exact⟨none,none,none,none,rfl,s1,h0⟩
  ·rintro j σ H3 _ ⟨_,_,_,_,_,s3,_⟩;exact aZ.of (s3 _ _ hL)
  ·rintro j x σ H3 hx ⟨v3,v4,v5,v6,rfl,s4,sV⟩;obtain⟨e,he,ta,rfl,vN⟩:=dU gN hx;have hr:=rG e (aMZ he);have vv:(M.take (j+1)).foldl (oJ sums) (aMF n none)=oJ sums ((M.take j).foldl (oJ sums) (aMF n none)) e:=by rw[bK he,aOK];rfl
   have hlj:((M.take j).foldl (oJ sums) (aMF n none)).length=n:=by rw[LL,aN6]
   generalize(M.take j).foldl (oJ sums) (aMF n none)=st at sV vv hlj
   have hS4:=s4 _ _ hS;refine⟨ta,_,rfl,eE.of (s4 _ _ vN),rfl,_,_,rfl,_,_,rfl,_,_,rfl,_,_,rfl,rfl,?_⟩;have a1:=iV (d:=st) (i:=e.from_) (by omega)
   have a2:=iV (d:=sums) (i:=e.to_) (by omega)
   have fin:∀{H5:Hp},aV H H5->H5 ag=some (.lst ((oJ sums st e).map d6))->∃v3 v4 v5 v6:Option V,[some (V.ref L),some (V.ref S),some (V.ref ag),some (V.int (e.from_:Int)),some (V.int (e.to_:Int)),some (V.int e.most),some (V.int (e.source:Int))]=[some (V.ref L),some (V.ref S),some (V.ref ag),v3,v4,v5,v6]/\aV H H5/\H5 ag=some (.lst (((M.take (j+1)).foldl (oJ sums) (aMF n none)).map d6)):=
    λs5 h5=>⟨_,_,_,_,rfl,s5,by rw[vv];exact h5⟩
   refine⟨_,rfl,_,rfl,S,_,_,_,rfl,rfl,aZ.of hS4,a2,_,rfl,?_⟩
   cases hf:sums.getD e.to_ none with
   | none=>
    rw[hf]at a2
    exact bW (fin s4 (by rw[gm hf (by omega)];exact sV))
   | some xf=>
    rw[hf]at a2
    refine cG ⟨_,rfl,_,rfl,ag,_,_,_,rfl,rfl,aZ.of sV,a1,_,rfl,?_⟩;have Y2:(∀y,st.getD e.from_ none=some y->e.most+xf<y)->aV H (upd H3 ag (.lst ((st.map d6).set e.from_ (V.int (e.most+xf)))))/\upd H3 ag (.lst ((st.map d6).set e.from_ (V.int (e.most+xf)))) ag=some (.lst ((oJ sums st e).map d6)):=by
     intro c;refine⟨bI s4 Mf,?_⟩;rw[aB,qy hf c,aPD];rfl
    cases ht:st.getD e.from_ none with
    | none=>
     rw[ht]at a1
     have S2:=Y2 (λy hy=>by rw[ht]at hy;cases hy)
     refine bW (bW ⟨_,rfl,_,rfl,_,rfl,S,_,_,_,rfl,rfl,aZ.of hS4,a2,_,_,rfl,rfl,_,rfl,_,rfl,ag,_,_,e.from_,rfl,rfl,sV,AM (by rw[aLx];omega),?_⟩)
     exact fin S2.1 S2.2
    | some y=>
     rw[ht]at a1
     refine cG ⟨_,rfl,_,rfl,ag,_,_,_,rfl,rfl,aZ.of sV,a1,_,rfl,_,rfl,_,rfl,S,_,_,_,rfl,rfl,aZ.of hS4,a2,_,_,rfl,rfl,_,_,rfl,rfl,_,rfl,?_⟩;refine cA (λc=>?_) (λc=>?_)
     ·have c:=dT c;have S2:=Y2 (λy' hy=>by rw[ht]at hy;injection hy with hy;omega)
      refine⟨_,rfl,_,rfl,_,rfl,S,_,_,_,rfl,rfl,aZ.of hS4,a2,_,_,rfl,rfl,_,rfl,_,rfl,ag,_,_,e.from_,rfl,rfl,sV,AM (by rw[aLx];omega),?_⟩
      exact fin S2.1 S2.2
     ·have c:=dF c;exact fin s4 (by rw[ij hf ht c (by omega)];exact sV)
  ·rintro σ H3 ⟨v3,v4,v5,v6,rfl,s4,sV⟩;rw[Kf,aMe]at sV;exact⟨_,rfl,k H3 ag s4 Mf sV⟩
def gG(H:Hp)(rs:List Addr)(rows:List (List (Option Int))):Prop:=Paired (λa row=>H a=some (.lst (row.map d6))) rs rows
def gG.same{H H':Hp}{rs:List Addr}{rows:List (List (Option Int))}(h:gG H rs rows)(s:aV H H'):gG H' rs rows:=dZ (λ_ _ q=>s _ _ q) h
def gG.snoc{H:Hp}{rs:List Addr}{rows:List (List (Option Int))}{a:Addr}{row:List (Option Int)}(h:gG H rs rows)(q:H a=some (.lst (row.map d6))):gG H (rs++[a]) (rows++[row]):=eK (F:=fun(a:Addr) (row:List (Option Int))=>H a=some (.lst (row.map d6))) q h
theorem gG.but{H H':Hp}{D:Addr}:∀{rs:List Addr} {rows:List (List (Option Int))},gG H rs rows->D∉rs->JW D H H'->gG H' rs rows
 |_,_,.nil,_,_=>.nil
 |a::_,_::_,.cons r t,hn,k=>.cons (k _ _ r λe=>hn (by rw[e];exact aMN)) (gG.but t (λm=>hn (aMM _ m)) k)
def Ec(n:Nat)(l:List bO)(t j:Nat):(aME (j+1)).map (fI n l t)=(aME j).map (fI n l t)++[fI n l t j]:=by rw[aOr,aMU];rfl
inductive nh(vs:List V)(H:Hp)(Q:VK)(E:XK):Prop
 |mk:∀(L:Addr) (n t m:Nat) (ls:List V) (l M:List bO),vs=[.ref L,.int (n:Int),.int (t:Int),.int (m:Int)]->H L=some (.lst ls)->aQ H ls M->mK n l->zD l M->t<n->n<=900->m<=n->(∀(H':Hp) (r:Addr) (rs:List Addr),aV H H'->H r=aP4->H' r=some (.lst (rs.map V.ref))->gG H' rs ((aME (m+1)).map (fI n l t))->Q (.ref r) H')->nh vs H Q E
def Lm(T:Txt K mg A):bQ P w K mg base eV 2 A.IU A.Ii ["lines","how_many","end","longest"] nh:=by
 refine T.EC.ok F8 (λvs H Q E h=>?_) (λd3 A' outer s H vs Q E hr h=>?_)
 ·obtain⟨L,n,t,m,ls,l,M,rfl,_⟩:=h;rfl
 ·obtain⟨L,n,t,m,ls,l,M,rfl,hL,gN,rG,hb,ht,hn,hm,k⟩:=h
  refine⟨_,(aC (dE 4 F8.nd (bH LC (aR (aA kO aD)) (pv 1)))
   (aC (FU aG (FV (pv 4) (pv 2) uN))
   (aC (dE 5 F8.nd (aR (aA (pv 4) aD)))
   (aC (uK aP5 (aL JX (bJ aW (by rfl) T.eX c8 (aA (pv 5) aD)) (pv 3) (aP _)) (aF (cS (e9 aMa aMr aMs cR (pv 5) (aA (cF T.sH (JJ T) hr T.Ka (K9 T) (aA (pv 0) (aA (fO (pv 5) (CF uF aG)) aD))) aD)))))
   (aF (aI (pv 5))))))),?_⟩
  refine⟨aO,λl1 h1=>?_⟩
  refine⟨_,rfl,l1,_,_,rfl,rfl,aB,by omega,by omega,?_,λag T3=>?_⟩
  ·show 1*((n:Int)).toNat<=sizeLine;rw[aNe,aP1];exact aMm (bB (by omega))
  have s1:aV H (upd (upd H l1 (.lst [V.non])) ag (.lst (aMF ((n:Int)).toNat [V.non]).flatten)):=(aE h1).trans (aE T3);have Mf:H ag=aP4:=(aE h1).free T3;have e0:(aMF ((n:Int)).toNat [V.non]).flatten=(aMF n (none:Option Int)).map d6:=by
   rw[aNe,CL,aP2];rfl
  have h0:(upd (upd H l1 (.lst [V.non])) ag (.lst (aMF ((n:Int)).toNat [V.non]).flatten)) ag=some (.lst ((aMF n (none:Option Int)).map d6)):=by rw[aB,e0]
  generalize upd (upd H l1 (.lst [V.non])) ag (.lst (aMF ((n:Int)).toNat [V.non]).flatten)=H1 at s1 h0;refine⟨_,rfl,_,rfl,ag,_,_,t,rfl,rfl,h0,AM (i:=t) (by rw[aLx,aN6];exact ht),?_⟩
  have hs0:upd H1 ag (.lst (((aMF n (none:Option Int)).map d6).set t (V.int 0))) ag=some (.lst ((fI n l t 0).map d6)):=by
   rw[aB,ZU ht];unfold bR;rw[aPD];rfl
  have s2:aV H (upd H1 ag (.lst (((aMF n (none:Option Int)).map d6).set t (V.int 0)))):=bI s1 Mf;generalize upd H1 ag (.lst (((aMF n (none:Option Int)).map d6).set t (V.int 0)))=H2 at s2 hs0;refine⟨_,rfl,aO,λD hD=>?_⟩;have sD:=aE (o:=.lst [V.ref ag]) hD;have hDH:H D=aP4:=s2.free hD;have aHy:ag≠D:=aJ hs0 hD;refine⟨λmm σ H'=>∃(j:Nat) (rs:List Addr),σ=[some (.ref L),some (.int (n:Int)),some (.int (t:Int)),some (.int (m:Int)),some (.ref ag),some (.ref D)]/\j<=m/\aV H H'/\H' D=some (.lst (rs.map V.ref))/\D∉rs/\gG H' rs ((aME (j+1)).map (fI n l t))/\mm=m-j,⟨m,?_⟩,?_⟩
  ·exact⟨0,[ag],rfl,aM1 _,s2.trans sD,aB,by simpa using aHy.symm,.cons (sD _ _ hs0) .nil,rfl⟩
  ·rintro mm σ H' ⟨j,rs,rfl,hj,s3,xp,hDn,rF,rfl⟩;have fh:rs.length=j+1:=by rw[bG rF,aLx,aMk]
   refine⟨_,rfl,D,_,rfl,.inl (aZ.of xp),_,rfl,_,_,rfl,rfl,_,rfl,?_⟩
   rw[aLx,fh]
   refine cA (λc=>?_) (λc=>?_)
   ·have c:=dT c;have hjm:j<m:=by omega
    obtain⟨ra,lj,n9⟩:=JY rF (i:=j) (b:=fI n l t j) (by rw[Ec,aOL (by simp),aLx,aMk,aNr];rfl)
    have EJ:FR (rs.map V.ref) (-1)=some (V.ref ra):=by
     exact CK (j:=j) (by rw[aLx,fh]) (Yp lj)
    refine⟨_,λ_ _ h=>h,?_⟩
    refine⟨_,rfl,.inl ⟨rfl,_,aZ.of xp⟩,_,rfl,_,rfl,_,rfl,D,_,_,_,rfl,rfl,aZ.of xp,EJ,L,ra,n,ls,M,fI n l t j,rfl,s3 _ _ hL,aQ.same gN s3,hb.inR rG,n9,j2 n l t j,by omega,λH4 nr s4 aEp hnr=>?_⟩
    rw[yr rG hb ht j]at hnr
    have hD4:=s4 _ _ xp;refine⟨D,_,_,rfl,rfl,hD4,by rw[aLx,fh];exact bB (by omega),?_⟩
    have bb:=cD (H:=H4) (D:=D) (o:=.lst (rs.map V.ref++[V.ref nr]));have nnr:nr≠D:=λe=>by rw[e,xp]at aEp;cases aEp
    refine⟨m-(j+1),by omega,j+1,rs++[nr],rfl,by omega,bI (s3.trans s4) hDH,by rw[aB,aMU];rfl,?_,?_,rfl⟩
    ·intro z;rcases aMX.1 z with z|z
     ·exact hDn z
     ·exact nnr (List.mem_singleton.1 z).symm
    ·rw[Ec]
     exact gG.snoc (gG.but (rF.same s4) hDn bb) (bb _ _ hnr nnr)
   ·have c:=dF c;have:j=m:=by omega
    subst this;exact⟨_,rfl,k H' D rs s3 hDH xp rF⟩
inductive aAr(vs:List V)(H:Hp)(Q:VK)(E:XK):Prop
 |mk:∀(L S:Addr) (n tm:Nat) (WR:Int) (ls:List V) (M:List bO) (sums:List (Option Int)) (e:bO),vs=[.ref L,.int (tm:Int),.ref S,.int WR]->H L=some (.lst ls)->aQ H ls M->mK n M->H S=some (.lst (sums.map d6))->sums.length=n->M.find? (Ye sums tm WR)=some e->(∀(a:Addr),H a=some (.tup (Kz e))->Q (.ref a) H)->aAr vs H Q E
def gy{α:Type}{p:α->Bool}{M:List α}{i:Nat}{x e:α}(hx:M[i]?=some x)(rJ:∀j y,j<i->M[j]?=some y->p y=false)(hp:p x=true)(hf:M.find? p=some e):e=x:=by
 obtain⟨_,as,bs,hM,hA⟩:=aQa.1 hf
 have hl:M[as.length]?=some e:=by rw[hM];simp
 rcases Nat.lt_trichotomy as.length i with h|h|h
 ·have:=rJ _ e h hl
  rw[aRK hf]at this;cases this
 ·rw[h,hx]at hl;exact(aP6 hl).symm
 ·have:x∈as:=by
   have e1:M[i]?=as[i]?:=by rw[hM,aOZ h]
   rw[e1]at hx
   exact aMZ hx
  have:=hA x this
  rw[hp]at this;cases this
def MI(T:Txt K mg A):bQ P w K mg base eV 1 A.yW A.yN ["lines","time","sums","due"] aAr:=by
 refine T.yH.ok D5 (λvs H Q E h=>?_) (λd3 A' outer s H vs Q E hr h=>?_)
 ·obtain⟨L,S,n,tm,WR,ls,M,sums,e,rfl,_⟩:=h;rfl
 ·obtain⟨L,S,n,tm,WR,ls,M,sums,e0,rfl,hL,gN,rG,hS,CB,Me,k⟩:=h
  have Kf:=bG gN;refine⟨_,(aC (cT aP5 rfl (cI (pv 0)) (jN 4 D5.nd) (aF (bE (PW.pt (w9 (aL eW (Om (pv 4) aG) (pv 1) (aP _)) (w9 (gY (vU (fO (pv 2) (Om (pv 4) aG)))) (sY (aL eW (bH cH (Om (pv 4) aG) (fO (pv 2) (Om (pv 4) aG))) (pv 3) (aP _)))))) (aF (aI (pv 4))) aN)))
   (aF (aI kO))),?_⟩
  refine⟨_,rfl,L,rfl,⟨_,aZ.of hL⟩,cW (K:=K) (a:=L) (xs:=ls)
   (λi σ H3=>∃v4:Option V,σ=[some (.ref L),some (.int (tm:Int)),some (.ref S),some (.int WR),v4]/\H3=H/\∀j y,j<i->M[j]?=some y->Ye sums tm WR y=false) ?_ ?_ ?_ ?_⟩
  ·exact⟨none,rfl,rfl,λj y hj=>by omega⟩
  ·rintro i σ H3 _ ⟨_,_,e,_⟩;rw[e];exact aZ.of hL
  ·rintro i x σ H3 hx ⟨v4,rfl,rfl,rJ⟩;obtain⟨e,he,ta,rfl,vN⟩:=dU gN hx;have hr:=rG e (aMZ he);have a2:=iV (d:=sums) (i:=e.to_) (by omega)
   have next:Ye sums tm WR e=false->∃v4:Option V,[some (V.ref L),some (V.int (tm:Int)),some (V.ref S),some (V.int WR),some (V.ref ta)]=[some (V.ref L),some (V.int (tm:Int)),some (V.ref S),some (V.int WR),v4]/\H3=H3/\∀j y,j<i+1->M[j]?=some y->Ye sums tm WR y=false:=by
    intro hf;refine⟨_,rfl,rfl,λj y hj hy=>?_⟩;by_cases hji:j=i
    ·subst hji;rw[he]at hy;injection hy with hy;subst hy;exact hf
    ·exact rJ j y (by omega) hy
   refine⟨_,rfl,ta,_,_,_,rfl,rfl,eE.of vN,dS (j:=0) rfl,_,rfl,rfl,_,rfl,?_⟩
   refine cA (λc=>?_) (λc=>?_)
   rotate_left
   ·have c:=GS c;refine cG (next ?_);unfold Ye;rw[beq_eq_false_iff_ne.2 (by omega)];rfl
   have c:e.from_=tm:=by have:=vEq c;omega
   refine⟨_,rfl,_,rfl,ta,_,_,_,rfl,rfl,eE.of vN,dS (j:=1) rfl,S,_,_,_,rfl,rfl,aZ.of hS,a2,_,rfl,?_⟩
   cases hf:sums.getD e.to_ none with
   | none=>
    refine cG (cG (next ?_));unfold Ye;rw[hf,aNT]
   | some xf=>
    rw[hf]at a2
    refine bW ⟨_,rfl,ta,_,_,_,rfl,rfl,eE.of vN,dS (j:=2) rfl,_,rfl,_,rfl,ta,_,_,_,rfl,rfl,eE.of vN,dS (j:=1) rfl,S,_,_,_,rfl,rfl,aZ.of hS,a2,_,_,rfl,rfl,_,rfl,rfl,_,rfl,?_⟩;refine cA (λc2=>?_) (λc2=>?_)
    ·have c2:=vEq c2;have vL:Ye sums tm WR e=true:=by unfold Ye;rw[hf];simp[c,c2]
     have:=gy he rJ vL Me
     subst this;exact⟨_,rfl,k ta vN⟩
    ·have c2:=GS c2;refine next ?_;unfold Ye;rw[hf];simp[c2]
  ·rintro σ H3 ⟨v4,rfl,rfl,rJ⟩;rw[Kf]at rJ;have hm:=aOv Me;obtain⟨j,hj,Md⟩:=aNa hm;have:=rJ j e0 hj (by rw[aMK hj,Md])
   rw[aRK Me]at this;cases this
inductive cw(vs:List V)(H:Hp)(Q:VK)(E:XK):Prop
 |mk:∀(L tb:Addr) (n i t k m:Nat) (ls:List V) (l M:List bO) (rs:List Addr) (w:Int),vs=[.ref L,.ref tb,.int (i:Int),.int (k:Int)]->H L=some (.lst ls)->aQ H ls M->mK n l->zD l M->t<n->i<n->n<=900->k<=m->m<=n->H tb=some (.lst (rs.map V.ref))->gG H rs ((aME (m+1)).map (fI n l t))->aM9 (aNg n l k) i t=some w->(∀(H':Hp) (r:Addr) (zs:List V),aV H H'->H r=aP4->H' r=some (.lst zs)->aQ H' zs (aOR n l (aO8 n l n) k i t w)->Q (.ref r) H')->cw vs H Q E
def Ki{H:Hp}{rs:List Addr}{n m t j:Nat}{l:List bO}(h:gG H rs ((aME (m+1)).map (fI n l t)))(hj:j<=m):∃a,rs[j]?=some a/\H a=some (.lst ((fI n l t j).map d6)):=
 JY (b:=fI n l t j) h (by rw[aM4,aMK (by rw[aMk];omega),aOh];rfl)
def EZ(T:Txt K mg A):bQ P w K mg base eV 2 A.Ax A.Av ["lines","table","start","length"] cw:=by
 refine T.tN.ok i9 (λvs H Q E h=>?_) (λd3 A' outer s H vs Q E hr h=>?_)
 ·obtain⟨L,tb,n,i,t,k,m,ls,l,M,rs,w,rfl,_⟩:=h;rfl
 ·obtain⟨L,tb,n,i,t,k,m,ls,l,M,rs,w,rfl,hL,gN,rG,hb,ht,hi,hn,vh,hmn,vi,rF,hw,q⟩:=h
  refine⟨_,(aC (dE 4 i9.nd (aR aD))
   (aC (dE 5 i9.nd (pv 2))
   (aC (cT aP5 rfl (OS rfl T.AU (aA (pv 3) (aA aG (aA (CF uF aG) aD)))) (jN 6 i9.nd) (aC (dE 7 i9.nd (cF T.yH (MI T) hr T.NW (NU T) (aA (pv 0) (aA (pv 5) (aA (fO (pv 1) (bH oK (pv 6) aG)) (aA (fO (fO (pv 1) (pv 6)) (pv 5)) aD))))))
   (aC (cS (e9 aMa aMr aMs cR (pv 4) (aA (pv 7) aD)))
   (aF (dE 5 i9.nd (Om (pv 7) aG))))))
   (aF (aI (pv 4)))))),?_⟩
  refine⟨aM1 _,λD hD=>?_⟩
  have sD:=aE (o:=.lst []) hD;have hrc:RgC (k:Int) 0 (-1) k:=by
   have:=RgC.neg (i:=(k:Int)) (j:=0) (by omega) (by omega) (by omega) (by omega)
   rw[show((k:Int)-0).toNat=k by omega]at this
   exact this
  refine⟨_,rfl,_,rfl,_,rfl,_,0,-1,k,rfl,hrc,Zf (lo:=(k:Int)) (c:=-1) (n:=k)
   (λj σ H'=>∃(v6 v7:Option V) (tm:Nat) (w':Int) (zs:List V) (pre:List bO),σ=[some (.ref L),some (.ref tb),some (.int (i:Int)),some (.int (k:Int)),some (.ref D),some (.int (tm:Int)),v6,v7]/\aV H H'/\H' D=some (.lst zs)/\aQ H' zs pre/\pre.length=j/\tm<n/\aM9 (aNg n l (k-j)) tm t=some w'/\
    aOR n l (aO8 n l n) k i t w=pre++aOR n l (aO8 n l n) (k-j) tm t w') ?_ ?_ ?_⟩
  ·exact⟨none,none,i,w,[],[],rfl,sD,aB,.nil,rfl,hi,hw,rfl⟩
  ·rintro j σ H' hj ⟨v6,v7,tm,w',zs,pre,rfl,s1,Yh,km,AJ,htm,hw',ko⟩;obtain⟨kk,hkk⟩:∃kk,k-j=kk+1:=⟨k-j-1,by omega⟩
   rw[hkk]at hw' ko
   obtain⟨e,f1,f2,f3,f4,f5,f6⟩:=rm rG hb ht (ts:=aO8 n l n) (lN n l n kk (by omega)) htm hw'
   obtain⟨r1,Yb,aEc⟩:=Ki rF (j:=kk) (by omega)
   obtain⟨r2,uz,aFk⟩:=Ki rF (j:=kk+1) (by omega)
   have aEz:=s1 _ _ vi;have eleft:(k:Int)+(j:Nat)*(-1)=((kk+1:Nat):Int):=by omega
   have at1:FR (rs.map V.ref) ((k:Int)+(j:Nat)*(-1)-1)=some (V.ref r1):=G0 (j:=kk) (by omega) (Yp Yb)
   have at2:FR (rs.map V.ref) ((k:Int)+(j:Nat)*(-1))=some (V.ref r2):=G0 (j:=kk+1) (by omega) (Yp uz)
   have at3:=iV (d:=fI n l t (kk+1)) (i:=tm) (by rw[j2];exact htm)
   rw[j1 htm,hw']at at3
   refine⟨_,rfl,_,rfl,_,rfl,_,rfl,_,_,rfl,rfl,tb,_,_,_,rfl,rfl,aZ.of aEz,at1,_,rfl,_,rfl,tb,_,_,_,rfl,rfl,aZ.of aEz,at2,_,rfl,r2,_,_,_,rfl,rfl,aZ.of (s1 _ _ aFk),at3,
    L,r1,n,tm,w',ls,M,fI n l t kk,e,rfl,s1 _ _ hL,aQ.same gN s1,hb.inR rG,s1 _ _ aEc,j2 _ _ _ _,f1,λa ha=>?_⟩
   have fm:zs.length=j:=by rw[bG km,AJ]
   refine⟨_,rfl,.inl ⟨rfl,_,aZ.of Yh⟩,_,rfl,D,_,_,rfl,rfl,Yh,by rw[fm];exact bB (by omega),?_⟩
   have naD:a≠D:=c7 ha Yh (by intro z;cases z)
   have ha2:upd H' D (.lst (zs++[V.ref a])) a=some (.tup (Kz e)):=by rw[aT naD];exact ha
   refine⟨_,rfl,a,_,_,_,rfl,rfl,eE.of ha2,dS (j:=1) rfl,?_⟩
   rw[show k-(j+1)=kk by omega]
   refine⟨_,_,e.to_,w'-e.most,zs++[V.ref a],pre++[e],rfl,bI s1 hD,aB,eK ⟨a,rfl,ha2⟩ (aQ.but km Yh cD),by rw[aMH,AJ];rfl,f4,f5,by rw[ko,f6,aMb];rfl⟩
  ·rintro σ H' ⟨v6,v7,tm,w',zs,pre,rfl,s1,Yh,km,AJ,htm,hw',ko⟩;rw[aNr]at ko;have e0:aOR n l (aO8 n l n) 0 tm t w'=[]:=rfl;rw[e0,aMc]at ko;refine⟨_,rfl,q H' D zs s1 hD Yh ?_⟩;rw[ko];exact km
def KU(n:Nat)(l:List bO)(m i:Nat):Nat:=((aME (m+1)).find? λj=>oC n l j i).getD 0
inductive oz(vs:List V)(H:Hp)(Q:VK)(E:XK):Prop
 |mk:∀(tb:Addr) (n i m:Nat) (l:List bO) (rs:List Addr),vs=[.ref tb,.int (i:Int)]->i<n->H tb=some (.lst (rs.map V.ref))->gG H rs ((aME (m+1)).map (fI n l i))->(∀H',aV H H'->Q (.int (KU n l m i:Nat)) H')->oz vs H Q E
def MZ(T:Txt K mg A):bQ P w K mg base eV 1 A.xT A.xR ["table","time"] oz:=by
 refine T.yI.ok vA (λvs H Q E h=>?_) (λd3 A' outer s H vs Q E hr h=>?_)
 ·obtain⟨tb,n,i,m,l,rs,rfl,_⟩:=h;rfl
 ·obtain⟨tb,n,i,m,l,rs,rfl,hi,vi,rF,q⟩:=h
  have fh:rs.length=m+1:=by rw[bG rF,aLx,aMk]
  refine⟨_,(aC (cT aP5 rfl (vR rfl T.iH (aA (pv 0) aD)) (rO rfl (bY (jN 2 vA.nd) (bY (jN 3 vA.nd) k8))) (aF (bE (PW.pt (w9 (gY (vU (fO (pv 3) (pv 1)))) (sY (aL fP (fO (pv 3) (pv 1)) aG (aP _))))) (aF (aI (pv 2))) aN)))
   (aF (aI aG))),?_⟩
  refine⟨_,rfl,tb,_,rfl,aZ.of vi,uI (K:=K) (a:=tb) (xs:=rs.map V.ref)
   (λj σ H'=>∃v2 v3:Option V,σ=[some (.ref tb),some (.int (i:Int)),v2,v3]/\aV H H'/\∀j',j'<j->oC n l j' i=false) ?_ ?_ ?_ ?_⟩
  ·exact⟨none,none,rfl,λ_ _ e=>e,λj' hj=>by omega⟩
  ·rintro j σ H' _ ⟨_,_,_,s1,_⟩;exact aZ.of (s1 _ _ vi)
  ·rintro j x σ H' t hx ⟨v2,v3,rfl,s1,rJ⟩ ht;obtain⟨ra,ha,rfl⟩:=iK hx;have hjm:j<m+1:=by rw[<-fh];exact(aM0.mp ha).1
   obtain⟨ra',ha',n9⟩:=Ki rF (j:=j) (by omega)
   rw[ha]at ha'
   injection ha' with ha';subst ha';have s5:=aE (o:=.tup [.int (j:Nat),.ref ra]) ht;have JT:=s1.trans s5;have a3:=iV (d:=fI n l i j) (i:=i) (by rw[j2];exact hi)
   rw[j1 hi]at a3
   refine⟨t,_,rfl,eE.of aB,rfl,_,_,rfl,_,_,rfl,rfl,?_⟩
   have next:oC n l j i=false->∃v2 v3:Option V,[some (V.ref tb),some (V.int (i:Int)),some (V.int (j:Nat)),some (V.ref ra)]=[some (V.ref tb),some (V.int (i:Int)),v2,v3]/\aV H (upd H' t (.tup [.int (j:Nat),.ref ra]))/\∀j',j'<j+1->oC n l j' i=false:=by
    intro hf;refine⟨_,_,rfl,JT,λj' hj'=>?_⟩;by_cases e:j'=j
    ·rw[e];exact hf
    ·exact rJ j' (by omega)
   refine⟨_,rfl,_,rfl,ra,_,_,_,rfl,rfl,aZ.of (JT _ _ n9),a3,_,rfl,?_⟩
   cases hv:aM9 (aNg n l j) i i with
   |none=>exact cG (cG (next (by unfold oC;rw[hv])))
   | some x=>
    rw[hv]at a3
    refine bW ⟨_,rfl,_,rfl,ra,_,_,_,rfl,rfl,aZ.of (JT _ _ n9),a3,_,_,rfl,rfl,_,rfl,?_⟩;refine cA (λc=>?_) (λc=>?_)
    ·have c:=dT c;have e:KU n l m i=j:=by
      unfold KU;rw[aOj.2 ⟨by unfold oC;rw[hv];exact decide_eq_true c,aMh.2 hjm,λj' hj'=>by rw[rJ j' hj'];rfl⟩]
      rfl
     rw[e]at q
     exact⟨_,rfl,q _ JT⟩
    ·exact next (by unfold oC;rw[hv];exact decide_eq_false (dF c))
  ·rintro σ H' ⟨v2,v3,rfl,s1,rJ⟩;rw[aLx,fh]at rJ;have e:KU n l m i=0:=by
    unfold KU;rw[aOi.2 λj hj=>by rw[rJ j (aMh.1 hj)];decide]
    rfl
   rw[e]at q
   exact q _ s1
inductive P2(vs:List V)(H:Hp)(Q:VK)(E:XK):Prop
 |mk:∀(L:Addr) (ls:List V) (l:List bO),vs=[.ref L]->H L=some (.lst ls)->aQ H ls l->l.length<=1000->(∀(H':Hp) (r:Addr),aV H H'->H r=aP4->H' r=some (.lst ((aOg l).map V.int))->Q (.ref r) H')->P2 vs H Q E
def x9(T:Txt K mg A):bQ P w K mg base eV 1 A.Az A.BN ["chain"] P2:=by
 refine T.mV.ok xX (λvs H Q E h=>?_) (λd3 A' outer s H vs Q E hr h=>?_)
 ·obtain⟨L,ls,l,rfl,_⟩:=h;rfl
 ·obtain⟨L,ls,l,rfl,hL,gN,h1000,q⟩:=h
  have Kf:=bG gN;refine⟨_,(aC (dE 1 xX.nd (aR (aA (bJ aW (by rfl) T.eX c8 (aA (pv 0) aD)) aD)))
   (aC (cT aP5 rfl (cI (pv 0)) (jN 2 xX.nd) (aF (cS (e9 aMa aOH aOI Ab (pv 1) (aA (pv 2) aD)))))
   (aF (aI (pv 1))))),?_⟩
  refine⟨_,rfl,L,_,rfl,.inl (aZ.of hL),aO,λD hD=>?_⟩
  have sD:=aE (o:=.lst [V.int (ls.length:Int)]) hD;have nLD:L≠D:=aJ hL hD;refine⟨_,rfl,L,rfl,⟨_,aZ.of (sD _ _ hL)⟩,cW (K:=K) (a:=L) (xs:=ls)
   (λi σ H'=>∃v2:Option V,σ=[some (.ref L),some (.ref D),v2]/\aV H H'/\H' D=some (.lst (((l.length:Int)::(l.take i).flatMap aNM).map V.int))) ?_ ?_ ?_ ?_⟩
  ·exact⟨none,rfl,sD,by rw[aB,Kf];rfl⟩
  ·rintro i σ H' _ ⟨_,_,s1,_⟩;exact aZ.of (s1 _ _ hL)
  ·rintro i x σ H' hx ⟨v2,rfl,s1,Yh⟩;obtain⟨e,he,ta,rfl,vN⟩:=dU gN hx;have il:i<l.length:=(aM0.mp he).1;have cC:(((l.length:Int)::(l.take i).flatMap aNM).map V.int).length<=1+4*i:=by
    rw[aLx,aMT]
    have:=cQ aNM 4 (l.take i) (λx _=>aMG _)
    rw[aMj]at this
    omega
   refine⟨_,rfl,.inl ⟨rfl,_,aZ.of Yh⟩,_,rfl,D,ta,_,_,rfl,rfl,Yh,s1 _ _ vN,?_,?_⟩
   ·exact aMm (dX (show _+4<=100000 by omega))
   ·refine⟨_,rfl,bI s1 hD,?_⟩
    rw[aB,bK he,aNo,<-aO3,aMU,aNC,aO2,aMc]
    rfl
  ·rintro σ H' ⟨v2,rfl,s1,Yh⟩;rw[Kf,aMe]at Yh;exact⟨_,rfl,q H' D s1 hD Yh⟩
def rh{n:Nat}{l:List bO}{i:Nat}(hi:i<n):oC n l 0 i=false:=by
 unfold oC;rw[aNg,gZ hi hi,if_pos rfl];rfl
def gi{n:Nat}{l:List bO}{m i:Nat}(hi:i<n):(KU n l m i=0/\∀j,j<=m->oC n l j i=false)\/(1<=KU n l m i/\KU n l m i<=m/\oC n l (KU n l m i) i=true/\∀j,j<KU n l m i->oC n l j i=false):=by
 unfold KU;cases e:(aME (m+1)).find? (λj=>oC n l j i)with
 | none=>
  rw[aOi]at e
  exact .inl ⟨rfl,λj hj=>by have:=e j (aMh.2 (by omega));simpa using this⟩
 | some j=>
  obtain⟨h1,h2,h3⟩:=aOj.1 e
  have h2:=aMh.1 h2;refine .inr ⟨?_,by show j<=m;omega,h1,λj' hj'=>by have:=h3 j' hj';simpa using this⟩
  show 1<=j;rcases Nat.eq_zero_or_pos j with z|z
  ·rw[z,rh hi]at h1;cases h1
  ·exact z
def pY(n:Nat)(l:List bO)(i m:Nat)(ring:List bO):Prop:=m<=n/\((m=n/\ring=[]/\∀s,s<i->∀j,j<=n->oC n l j s=false)\/
 ∃(k s:Nat) (w:Int),1<=k/\k<=n/\s<i/\aM9 (aNg n l k) s s=some w/\w<0/\m=k-1/\ring=aOR n l (aO8 n l n) k s s w/\(∀j,j<k->∀s',s'<i->oC n l j s'=false)/\∀s',s'<s->oC n l k s'=false)
def pY.keep{n:Nat}{l:List bO}{i m:Nat}{ring:List bO}(h:pY n l i m ring)(hz:∀j,j<=m->oC n l j i=false):pY n l (i+1) m ring:=by
 refine⟨h.1,?_⟩
 rcases h.2 with⟨h1,h2,h3⟩|⟨k,s,w,h1,h2,h3,h4,h5,h6,h7,h8,h9⟩
 ·refine .inl ⟨h1,h2,λs hs j hj=>?_⟩;by_cases e:s=i
  ·rw[e];exact hz j (by omega)
  ·exact h3 s (by omega) j hj
 ·refine .inr ⟨k,s,w,h1,h2,by omega,h4,h5,h6,h7,λj hj s' hs'=>?_,h9⟩
  by_cases e:s'=i
  ·rw[e];exact hz j (by omega)
  ·exact h8 j hj s' (by omega)
def zp{n:Nat}{l:List bO}{k i:Nat}(h:oC n l k i=true):∃w,aM9 (aNg n l k) i i=some w/\w<0:=by
 unfold oC at h;cases e:aM9 (aNg n l k) i i with
 |none=>rw[e]at h;cases h
 |some w=>rw[e]at h;exact⟨w,rfl,of_decide_eq_true h⟩
def pY.new{n:Nat}{l:List bO}{i m:Nat}{ring:List bO}(h:pY n l i m ring){k:Nat}{w:Int}(h1:1<=k)(hk:k<=m)(hw:aM9 (aNg n l k) i i=some w)(hn:w<0)(hz:∀j,j<k->oC n l j i=false):
  pY n l (i+1) (k-1) (aOR n l (aO8 n l n) k i i w):=by
 have hm:=h.1;have old:∀j,j<=m->∀s',s'<i->oC n l j s'=false:=by
  rcases h.2 with⟨_,_,h3⟩|⟨k',s,w,g1,g2,g3,g4,g5,g6,g7,g8,g9⟩
  ·exact λj hj s' hs'=>h3 s' hs' j (by omega)
  ·exact λj hj s' hs'=>g8 j (by omega) s' hs'
 refine⟨by omega,.inr ⟨k,i,w,h1,by omega,by omega,hw,hn,rfl,rfl,λj hj s' hs'=>?_,λs' hs'=>old k hk s' hs'⟩⟩
 by_cases e:s'=i
 ·rw[e];exact hz j hj
 ·exact old j (by omega) s' (by omega)
def pY.fin{n:Nat}{l:List bO}{m:Nat}{ring:List bO}(h:pY n l n m ring):ring=(aO1 n l).getD []:=by
 rcases h.2 with⟨_,h2,h3⟩|⟨k,s,w,g1,g2,g3,g4,g5,g6,g7,g8,g9⟩
 ·rw[jc λk hk i hi=>h3 i hi k hk];exact h2
 ·rw[jk g1 g2 g3 g4 g5 g8 g9];exact g7
def sd{n:Nat}{l:List bO}{i m:Nat}{ring:List bO}(h:pY n l i m ring):ring.length<=n:=by
 rcases h.2 with⟨_,h2,_⟩|⟨k,s,w,g1,g2,g3,g4,g5,g6,g7,g8,g9⟩
 ·rw[h2];exact aM1 _
 ·rw[g7];exact aM3 (Du _ _ _ _ _ _ _) g2
inductive bt(vs:List V)(H:Hp)(Q:VK)(E:XK):Prop
 |mk:∀(L:Addr) (n:Nat) (ls:List V) (l:List bO),vs=[.ref L,.int (n:Int)]->H L=some (.lst ls)->aQ H ls l->l.length<=4000->mK n l->n<=900->(∀(H':Hp) (r:Addr) (zs:List V),aV H H'->H r=aP4->H' r=some (.lst zs)->aQ H' zs ((aO1 n l).getD [])->((aO1 n l).getD []).length<=n->Q (.ref r) H')->bt vs H Q E
def N6(T:Txt K mg A):bQ P w K mg base eV 3 A.BM A.Aj ["lines","how_many"] bt:=by
 refine T.BY.ok eS (λvs H Q E h=>?_) (λd3 A' outer s H vs Q E hr h=>?_)
 ·obtain⟨L,n,ls,l,rfl,_⟩:=h;rfl
 ·obtain⟨L,n,ls,l,rfl,hL,gN,h4,rG,hn,q⟩:=h
  refine⟨_,(aC (dE 2 eS.nd (cF T.qR (D2 T) hr T.FI (Eh T) (aA (pv 0) aD)))
   (aC (dE 3 eS.nd (aR aD))
   (aC (dE 4 eS.nd (pv 1))
   (aC (cT aP5 rfl (Dz rfl T.AU (aA (pv 1) aD)) (jN 5 eS.nd) (aC (dE 6 eS.nd (cF T.EC (Lm T) hr T.OG (OE T) (aA (pv 2) (aA (pv 1) (aA (pv 5) (aA (pv 4) aD))))))
   (aC (dE 7 eS.nd (cF T.yI (MZ T) hr T.Mv (NY T) (aA (pv 6) (aA (pv 5) aD))))
   (aF (bE (aL iG (pv 7) aG (aP _)) (aC (dE 3 eS.nd (cF T.tN (EZ T) hr T.HI (Gu T) (aA (pv 2) (aA (pv 6) (aA (pv 5) (aA (pv 7) aD))))))
   (aF (dE 4 eS.nd (bH oK (pv 7) aG)))) aN)))))
   (aF (aI (pv 3))))))),?_⟩
  refine⟨_,rfl,L,ls,l,rfl,hL,gN,h4,λH1 b bs M s1 hb0 hb hM Mg=>?_⟩
  refine⟨aM1 _,λrg vK=>?_⟩
  have s2:=aE (o:=.lst []) vK;have kY:=s1.trans s2;refine⟨_,rfl,_,rfl,_,rfl,by omega,by omega,zN (lo:=0) (n:=n)
   (λi σ H'=>∃(v5 v6 v7:Option V) (rg:Addr) (m:Nat) (zs:List V) (ring:List bO),σ=[some (.ref L),some (.int (n:Int)),some (.ref b),some (.ref rg),some (.int (m:Int)),v5,v6,v7]/\aV H1 H'/\H rg=aP4/\H' rg=some (.lst zs)/\aQ H' zs ring/\pY n l i m ring) ?_ ?_ ?_⟩
  ·exact⟨none,none,none,rg,n,[],[],rfl,s2,s1.free vK,aB,.nil,aMG _,.inl ⟨rfl,rfl,λs hs=>by omega⟩⟩
  ·rintro i σ H' hi ⟨v5,v6,v7,rg,m,zs,ring,rfl,s3,aCf,aCh,B4,Zx⟩;have e0:(0:Int)+(i:Int)=((i:Nat):Int):=by omega
   rw[e0]
   refine⟨_,rfl,_,rfl,_,rfl,_,rfl,b,n,i,m,bs,l,M,rfl,s3 _ _ hb,aQ.same hM s3,rG,Mg,hi,hn,Zx.1,λH4 tb rs s4 aHJ vi rF=>?_⟩
   refine⟨_,rfl,_,rfl,tb,n,i,m,l,rs,rfl,hi,vi,rF,λH5 s5=>?_⟩
   have Mm:=s4.trans s5;have WN:=s3.trans Mm;refine⟨_,rfl,_,_,rfl,rfl,_,rfl,?_⟩;rcases gi (n:=n) (l:=l) (m:=m) hi with⟨z1,z2⟩|⟨z1,z2,z3,z4⟩
   ·rw[z1]
    refine cG ?_;exact⟨_,_,_,rg,m,zs,ring,rfl,WN,aCf,Mm _ _ aCh,aQ.same B4 Mm,Zx.keep z2⟩
   ·obtain⟨w,hw,aCt⟩:=zp z3
    generalize KU n l m i=kk at*;have hd:decide ((0:Int)<((kk:Nat):Int))=true:=decide_eq_true (by omega)
    rw[hd]
    refine bW ⟨_,rfl,_,rfl,_,rfl,_,rfl,b,tb,n,i,i,kk,m,bs,l,M,rs,w,rfl,WN _ _ hb,aQ.same hM WN,rG,Mg,hi,hi,hn,z2,Zx.1,s5 _ _ vi,rF.same s5,hw,λH6 r2 zs2 s6 aC2 uz Zv=>?_⟩;have e1:((kk:Nat):Int)-1=((kk-1:Nat):Int):=by omega
    refine⟨_,rfl,_,_,rfl,rfl,?_⟩
    refine⟨some (.int (i:Int)),some (.ref tb),some (.int (kk:Int)),r2,kk-1,zs2,_,?_,WN.trans s6,(s1.trans WN).free aC2,uz,Zv,Zx.new z1 z2 hw aCt z4⟩
    rw[<-e1];rfl
  ·rintro σ H' ⟨v5,v6,v7,rg,m,zs,ring,rfl,s3,aCf,aCh,B4,Zx⟩;have hl:=sd Zx;rw[Zx.fin]at B4 hl;exact⟨_,rfl,q H' rg zs (s1.trans s3) aCf aCh B4 hl⟩
def N2(T:Txt K mg A):bQ P w K mg base eV 5 A.tF A.BX ["record","numbers","rows"] (gF A 0 0 λ_ _=>.ring):=by
 refine T.BG.ok Ng (λvs H Q E h=>?_) (λd3 A' outer s H vs Q E hr h=>?_)
 ·obtain⟨r,ln,lr,f,st,nums,rows,rs,rfl,_⟩:=h;rfl
 ·obtain⟨r,ln,lr,f,st,nums,rows,rs,rfl,hR,pX,oA,rK,hn,hk,rH,k⟩:=h
  have k:gW A H r f st .ring Q:=k;have h9:=hR.wf.names;have hm:=cK st;refine⟨_,(aF (aI (cF T.mV (x9 T) hr T.Aq (Am T) (aA (cF T.BY (N6 T) hr T.Pd (QU T) (aA (cF T.cU (cX T) hr T.dN (dM T) (aA (pv 0) aD)) (aA (cF T.bL (bM T) hr T.bT (bS T) (aA (pv 0) aD)) aD))) aD)))),?_⟩;refine⟨_,rfl,r,f,st,rfl,hR,λH1 L ls s1 Y8 hL gN=>?_⟩;refine⟨_,rfl,r,f,st,rfl,hR.same s1,λH2 s2=>?_⟩;refine⟨L,aMB st,ls,aMJ st,rfl,s2 _ _ hL,aQ.same gN s2,aM3 (tY hR.wf) (by decide),bP st,by omega,λH3 c zs s3 hc0 hc B4 cC=>?_⟩
  refine⟨c,zs,_,rfl,hc,B4,by omega,λH4 out s4 Mn ho=>?_⟩
  have sF:=s1.trans (s2.trans (s3.trans s4));refine k.pure hR (ans:=aOg ((aO1 (aMB st) (aMJ st)).getD [])) ?_ sF ((s1.trans (s2.trans s3)).free Mn) ho;show aMS st .ring=_;unfold aMS;cases e:aO1 (aMB st) (aMJ st)with
  |none=>simp only[e];rfl
  |some c=>simp only[e];rfl
def W2(l:List (Option Int))(o:Option Int):(l++[o]).filterMap id=l.filterMap id++o.toList:=by rw[aOu];cases o<;>rfl
inductive XM(vs:List V)(H:Hp)(Q:VK)(E:XK):Prop
 |mk:∀(L:Addr) (n i t:Nat) (ls:List V) (l:List bO) (w:Int),vs=[.ref L,.int (n:Int),.int (i:Int),.int (t:Int)]->H L=some (.lst ls)->aQ H ls l->l.length<=4000->mK n l->kT l->i<n->t<n->n<=900->aM9 (aOJ n l) i t=some w->(∀(H':Hp) (r:Addr) (zs:List V) (c:List bO),aV H H'->H r=aP4->H' r=some (.lst zs)->aQ H' zs c->aOw n l i t=some c->Q (.ref r) H')->XM vs H Q E
def D4(T:Txt K mg A):bQ P w K mg base eV 3 A.yK A.y0 ["lines","how_many","start","end"] XM:=by
 refine T.qT.ok e8 (λvs H Q E h=>?_) (λd3 A' outer s H vs Q E hr h=>?_)
 ·obtain⟨L,n,i,t,ls,l,w,rfl,_⟩:=h;rfl
 ·obtain⟨L,n,i,t,ls,l,w,rfl,hL,gN,h4,rG,fM,hi,ht,hn,hw,q⟩:=h
  obtain⟨k,Oj,hk2,hk3,hk4,hk5⟩:=Z9 rG fM hi ht hw
  obtain⟨m,hm⟩:∃m,n=m+1:=⟨n-1,by omega⟩
  have e1:((m:Nat):Int)=(n:Int)-1:=by omega
  refine⟨_,(aC (dE 4 e8.nd (cF T.qR (D2 T) hr T.FI (Eh T) (aA (pv 0) aD)))
   (aC (dE 5 e8.nd (cF T.EC (Lm T) hr T.OG (OE T) (aA (pv 4) (aA (pv 1) (aA (pv 3) (aA (bH oK (pv 1) aG) aD))))))
   (aC (CM (i:=7) rfl e8.nd rfl rfl (Gh rfl rfl rfl rfl) (cI (pv 5)) (own:=[("row",6)]) (by show oG ["lines","how_many","start","end","least","table","row","sums","found","length"] (aH qU) _ _;exact⟨rfl,by decide +kernel,by decide +kernel,by decide +kernel,by decide +kernel⟩) (λ_ _ _ _ _=>by exact(jN 6 e8.nd)) (λ_ _ _ _ _=>by exact vV) (λ_ _ _ _ _=>by exact(Ky (uc K) (pv 6) (pv 2) (λ_ _=>rfl))))
   (aC (dE 9 e8.nd (e9 aMa aOo aQP ud (pv 7) (aA (bJ (aCW rfl) (by rfl) T.aE2 aCH (aA (GZ rfl e8.nd (cI (pv 7)) (own:=[("found",8)]) (by show oG ["lines","how_many","start","end","least","table","row","sums","found","length"] (aH qU) _ _;exact⟨rfl,by decide +kernel,by decide +kernel,by decide +kernel,by decide +kernel⟩) (λ_ _ _ _ _=>by exact(jN 8 e8.nd)) (λ_ _ _ _ _=>by exact(Dm (gY (vU (pv 8))))) (λ_ _ _ _ _=>by exact(pv 8))) aD)) aD)))
   (aF (aI (cF T.tN (EZ T) hr T.HI (Gu T) (aA (pv 4) (aA (pv 5) (aA (pv 2) (aA (pv 9) aD))))))))))),?_⟩
  refine⟨_,rfl,L,ls,l,rfl,hL,gN,h4,λH1 b bs M s1 hb0 hb hM Mg=>?_⟩
  refine⟨_,rfl,_,rfl,_,rfl,_,rfl,_,_,rfl,rfl,b,n,t,m,bs,l,M,by rw[e1];rfl,hb,hM,rG,Mg,ht,hn,by omega,λH2 tb rs s2 aHJ vi rF=>?_⟩
  have kY:=s1.trans s2;have fh:rs.length=n:=by rw[bG rF,aLx,aMk];omega
  let sv:List (Option Int):=(aME n).map λk=>aM9 (aNg n l k) i t
  have svl:sv.length=n:=by show((aME n).map _).length=n;rw[aLx,aMk]
  have svg:∀j,j<n->sv[j]?=some (aM9 (aNg n l j) i t):=by
   intro j hj;show((aME n).map _)[j]?=_;rw[aM4,aMK (by rw[aMk];exact hj),aOh];rfl
  generalize hsv:sv=sv0 at svl svg;refine⟨_,rfl,tb,rfl,⟨_,aZ.of vi⟩,λS hS=>mQ (K:=K) (a:=tb) (xs:=rs.map V.ref) (λj H3=>aV H2 H3/\H3 S=some (.lst ((sv0.take j).map d6))) ?_ ?_ ?_ ?_⟩
  ·exact⟨aE hS,aB⟩
  ·rintro j H3 _ ⟨s3,_⟩;exact aZ.of (s3 _ _ vi)
  ·rintro j z H3 hz ⟨s3,Y5⟩;obtain⟨ra,ha,rfl⟩:=iK hz;have hjn:j<n:=by rw[<-fh];exact(aM0.mp ha).1
   obtain⟨ra',ha',n9⟩:=Ki rF (j:=j) (by omega)
   rw[ha]at ha'
   injection ha' with ha';subst ha';have a3:=iV (d:=fI n l t j) (i:=i) (by rw[j2];exact hi)
   rw[j1 hi]at a3
   refine⟨rfl,WV ⟨_,rfl,_,rfl,ra,_,_,_,rfl,rfl,aZ.of (s3 _ _ n9),a3,_,Y5,bB ?_,bI s3 hS,?_⟩⟩
   ·rw[aLx,aMj];omega
   ·rw[aB,bK (svg j hjn),aMU];rfl
  ·rintro H3 ⟨s3,Y5⟩;rw[aLx,fh,<-svl,aMe]at Y5;have s23:=s2.trans s3;refine⟨_,rfl,.inl ⟨rfl,_,aZ.of Y5⟩,_,rfl,S,rfl,⟨_,aZ.of Y5⟩,λF hF=>mQ (K:=K) (a:=S) (xs:=sv0.map d6) (λj H4=>aV H3 H4/\H4 F=some (.lst (((sv0.take j).filterMap id).map V.int))) ?_ ?_ ?_ ?_⟩
   ·exact⟨aE hF,aB⟩
   ·rintro j H4 _ ⟨s4,_⟩;exact aZ.of (s4 _ _ Y5)
   ·rintro j z H4 hz ⟨s4,hF4⟩;rw[aM4]at hz;obtain⟨o,ho,rfl⟩:=aOp.1 hz;have hjn:j<n:=by rw[<-svl];exact(aM0.mp ho).1
    have cC:((sv0.take j).filterMap id).length<=j:=aM3 (aOx _ _) (by rw[aMj];omega)
    refine⟨rfl,_,rfl,_,rfl,?_⟩
    cases o with
    | none=>
     refine cG ⟨s4,?_⟩;rw[bK ho,W2,show(none:Option Int).toList=[]from rfl,aMc];exact hF4
    | some x=>
     refine bW ⟨_,rfl,_,hF4,bB (by rw[aLx];omega),bI s4 hF,?_⟩
     rw[aB,bK ho,W2,aMU];rfl
   ·rintro H4 ⟨s4,hF4⟩;rw[aLx,aMe]at hF4;have hwm:w∈sv0.filterMap id:=aNd.2 ⟨some w,by rw[<-hk2];exact aMZ (svg k Oj),rfl⟩
    refine⟨F,_,rfl,aZ.of hF4,List.length_pos_of_mem hwm,λmn hmn IF=>?_⟩
    have hmw:mn=w:=by
     have h1:=IF w hwm;obtain⟨o,ho,hoe⟩:=aNd.1 hmn;have hoe:o=some mn:=hoe;obtain⟨j,hj,Md⟩:=aNa ho;have h2:=svg j (by omega)
     rw[aMK hj,Md,hoe]at h2
     have h3:=hk4 j mn (aP6 h2).symm;omega
    rw[hmw]
    have fj:=s3.trans s4;have Zw:=s2.trans fj;refine⟨S,_,_,k,d6 (some w),rfl,rfl,aZ.of (s4 _ _ Y5),rfl,EA sv0,by rw[aM4,svg k Oj,hk2];rfl,by show(w==w)=true;exact beq_self_eq_true w,?_,?_⟩
    ·intro m' z' hm' hz';rw[aM4,svg m' (by omega)]at hz'
     have hz':d6 (aM9 (aNg n l m') i t)=z':=aP6 hz';have y8:=hk3 m' hm';rw[<-hz'];cases hv:aM9 (aNg n l m') i t with
     |none=>rfl
     | some y=>
      rw[hv]at y8
      show(y==w)=false
      exact beq_eq_false_iff_ne.2 λe=>y8 (by rw[e])
    ·refine⟨_,rfl,_,rfl,_,rfl,_,rfl,b,tb,n,i,t,k,m,bs,l,M,rs,w,rfl,Zw _ _ hb,aQ.same hM Zw,rG,Mg,ht,hi,hn,by omega,by omega,fj _ _ vi,rF.same fj,hk2,λH5 r zs s5 Oi hr5 B4=>?_⟩
     exact q H5 r zs _ (s1.trans (Zw.trans s5)) ((s1.trans Zw).free Oi) hr5 B4 hk5
def mw(s:aMA)(aEi:Int)(i:Nat):aMA×List Int:=match(if aEi=0 then aOw (aMB s) (aMJ s) i 0 else aOw (aMB s) (aMJ s) 0 i)with
 |none=>(s,[-9])
 |some l=>(s,aOg l)
def QR(T:Txt K mg A):bQ P w K mg base eV 7 A.wM A.Cb ["record","numbers","rows"] (gF A 1 1 λnums rows=>.why (nums.getD 0 0) (rows.getD 0 [])):=by
 refine T.CT.ok j7 (λvs H Q E h=>?_) (λd3 A' outer s H vs Q E hr h=>?_)
 ·obtain⟨r,ln,lr,f,st,nums,rows,rs,rfl,_⟩:=h;rfl
 ·obtain⟨r,ln,lr,f,st,nums,rows,rs,rfl,hR,pX,oA,rK,hn,hk,rH,k⟩:=h
  have k:gW A H r f st (.why (nums.getD 0 0) (rows.getD 0 [])) Q:=k;have a0:=kP (nums:=nums) (i:=0) (by omega)
  obtain⟨r0,Oi,xq,-⟩:=k5 rK (i:=0) (by omega)
  have hrw:=aAi hk;generalize nums.getD 0 0=a at*;generalize rows.getD 0 []=n at*;have h9:=hR.wf.names;have hm:=cK st;have vK:aMn (.why a n)=(aMP a 0 1&&isNm n):=by show(aMP a 0 1&&aNc n)=_;rw[dD]
  refine⟨_,(aC (dE 3 j7.nd (fO (pv 1) aG))
   (aC (bE (PW.pt (jR (aL fP (pv 3) aG (aP _)) (gX (aL iG (pv 3) aG (aP _))))) (aF (aI (aR (aA (aM rfl T.eA) aD)))) aN)
   (aC (dE 4 j7.nd (cF T.fB (iF T) hr T.i3 (iZ T) (aA (pv 0) (aA (pv 2) aD))))
   (aC (bE (aL fP (pv 4) aG (aP _)) (aF (aI (aR (aA (pv 4) aD)))) aN)
   (aC (dE 5 j7.nd (cF T.i6 (jV T) hr T.mD (mC T) (aA (pv 0) (aA (fO (pv 2) aG) aD))))
   (aC (dE 6 j7.nd (cF T.cU (cX T) hr T.dN (dM T) (aA (pv 0) aD)))
   (aC (dE 7 j7.nd (cF T.bL (bM T) hr T.bT (bS T) (aA (pv 0) aD)))
   (aC (bE (aL eW (pv 3) aG (aP _)) (aF (aI (cF T.mV (x9 T) hr T.Aq (Am T) (aA (cF T.qT (D4 T) hr T.Ed (Ey T) (aA (pv 6) (aA (pv 7) (aA (pv 5) (aA (aM rfl T.mE) aD))))) aD)))) aN)
   (aC (bE (gY (lJ (fO (cF T.gE (kG T) hr T.lD (k9 T) (aA (pv 6) (aA (pv 7) aD))) (pv 5)))) (aF (aI (aR (aA (aM rfl T.wZ) aD)))) aN)
   (aF (aI (cF T.mV (x9 T) hr T.Aq (Am T) (aA (cF T.qT (D4 T) hr T.Ed (Ey T) (aA (pv 6) (aA (pv 7) (aA (aM rfl T.mE) (aA (pv 5) aD))))) aD))))))))))))),?_⟩
  refine⟨_,rfl,ln,_,_,_,rfl,rfl,aZ.of pX,a0,?_⟩
  have Zt:aMP a 0 1=false->1<=sizeLine/\∀l,H l=aP4->Q (.ref l) (upd H l (.lst [V.int (-1)])):=by
   intro hb;refine⟨by decide,λout ho=>?_⟩
   exact k.pure hR (ans:=[-1]) (lO (by rw[vK,hb];rfl)) (aE ho) ho aB
  refine⟨_,rfl,_,_,rfl,rfl,_,rfl,?_⟩
  refine cA (λc=>bW (Zt ?_)) (λc=>?_)
  ·have c:=dT c;unfold aMP;rw[decide_eq_false (by omega)];rfl
  have c1:=dF c;refine⟨_,rfl,_,_,rfl,rfl,_,rfl,?_⟩;refine cA (λc=>Zt ?_) (λc=>?_)
  ·have c:=dT c;unfold aMP;rw[decide_eq_false (by omega:¬a<=1),aNT]
  have c2:=dF c;have Mo:aMP a 0 1=true:=by unfold aMP;rw[decide_eq_true (by omega),decide_eq_true (by omega)];rfl
  rw[Mo,aNJ]at vK
  refine⟨_,rfl,_,rfl,r,lr,f,st,rs,rows,rfl,hR,oA,rK,λH1 s1=>?_⟩
  refine⟨_,rfl,_,_,rfl,rfl,_,rfl,?_⟩
  rw[hrw]
  refine cA (λc=>?_) (λc=>?_)
  ·have c:=dT c;refine⟨_,rfl,aO,λout ho=>?_⟩;exact k.pure hR (da vK (k:=λi _=>mw st a i) rfl c) (s1.trans (aE ho)) (s1.free ho) aB
  have c0:=dF c;have c:=oM c0;obtain⟨zA,Mp⟩:=c.1 n (by simp)
  have fM:=l8.1 c.2;have pn:=fT (iN (c9 zA).1 Mp).2.2;have rL:=cj vK (k:=λi _=>mw st a i) rfl c0;refine⟨_,rfl,_,rfl,lr,_,_,_,rfl,rfl,aZ.of (s1 _ _ oA),Oi,r,r0,f,st,n,rfl,hR.same s1,s1 _ _ xq,zA,Mp,λH2 s2=>?_⟩;have kY:=s1.trans s2;refine⟨_,rfl,r,f,st,rfl,hR.same kY,λH3 L ls s3 Y8 hL gN=>?_⟩;have CC:=kY.trans s3;refine⟨_,rfl,r,f,st,rfl,hR.same CC,λH4 s4=>?_⟩;have GU:=CC.trans s4;generalize aMQ st (aLy n)=i at*;have aBT:(aMJ st).length<=4000:=aM3 (tY hR.wf) (by decide)
  have kR:∀(H5:Hp) (c:Addr) (zs:List V) (ch:List bO),aV H H5->H5 c=some (.lst zs)->aQ H5 zs ch->ch.length<=aMB st->aMY st (.why a n)=(st,aOg ch)->P2 ([V.ref c]++[]) H5 Q E0:=by
   intro H5 c zs ch s5 hc B4 hl he;refine⟨c,zs,ch,rfl,hc,B4,by omega,λH6 out s6 Mn ho=>?_⟩
   exact k.pure hR he (s5.trans s6) (s5.free Mn) ho
  refine⟨_,rfl,rfl,_,rfl,?_⟩
  refine cA (λc=>?_) (λc=>?_)
  ·have c:=vEq c;have Y6:=Fi fM pn.1;have aHD:=d5 (bP st) fM pn.1 (by omega:0<aMB st)
   have EJ:=cP.uniq aHD Y6;refine⟨_,rfl,_,rfl,_,rfl,L,aMB st,i,0,ls,aMJ st,_,rfl,s4 _ _ hL,aQ.same gN s4,aBT,bP st,fM,pn.1,by omega,by omega,EJ,λH5 r2 zs ch s5 aC2 uz B4 kh=>?_⟩
   refine kR H5 r2 zs ch (GU.trans s5) uz B4 (wU kh) ?_;rw[rL];unfold mw;rw[if_pos c,kh]
  ·have c:=GS c;have aEe:=PF fM pn.1;have hhl:(dJ (aMJ st) (aMB st) (bR (aMB st) 0)).length=aMB st:=by rw[gQ];unfold bR;rw[aMv,aN6]
   refine⟨_,rfl,_,rfl,L,aMB st,ls,aMJ st,rfl,s4 _ _ hL,aQ.same gN s4,bP st,by omega,by omega,λH5 gr s5 vg vb=>?_⟩
   have a3:=iV (d:=dJ (aMJ st) (aMB st) (bR (aMB st) 0)) (i:=i) (by omega)
   rw[<-aEe]at a3
   have JT:=GU.trans s5;have Mm:=s4.trans s5;refine⟨_,rfl,gr,_,_,_,rfl,rfl,aZ.of vb,a3,_,rfl,?_⟩;cases EJ:aND (aML st) i with
   | none=>
    refine bW ⟨aO,λout ho=>?_⟩;refine k.pure hR (ans:=[-9]) ?_ (JT.trans (aE ho)) (JT.free ho) aB;rw[rL];unfold mw;rw[if_neg c,ZX EJ]
   | some x=>
    refine cG ⟨_,rfl,_,rfl,_,rfl,L,aMB st,0,i,ls,aMJ st,_,rfl,Mm _ _ hL,aQ.same gN Mm,aBT,bP st,fM,by omega,pn.1,by omega,EJ,λH6 r2 zs ch s6 aC2 uz B4 kh=>?_⟩
    refine kR H6 r2 zs ch (JT.trans s6) uz B4 (wU kh) ?_;rw[rL];unfold mw;rw[if_neg c,kh]
def mO(n k:Nat)(l:List bO)(e:bO):Bool:=e.source==k&&(match aM9 (aOJ n (l.filter λe=>decide (e.source≠k))) e.from_ e.to_ with
 |none=>true
 |some w=>decide (e.most<w))
inductive pk(vs:List V)(H:Hp)(Q:VK)(E:XK):Prop
 |mk:∀(L:Addr) (n k:Nat) (ls:List V) (l:List bO),vs=[.ref L,.int (n:Int),.int (k:Int)]->H L=some (.lst ls)->aQ H ls l->l.length<=4000->mK n l->(kT (l.filter λe=>decide (e.source≠k)))->n<=900->(∀H',aV H H'->Q (.bl (!l.any (mO n k l))) H')->pk vs H Q E
def wI{l:List bO}{i:Nat}{e:bO}{p:bO->Bool}(h:l[i]?=some e):(l.take (i+1)).filter p=(l.take i).filter p++(if p e=true then[e]else[]):=by
 rw[bK h,aOy,aNs,aRQ]
def GK(T:Txt K mg A):bQ P w K mg base eV 2 A.nR A.nP ["lines","how_many","k"] pk:=by
 refine T.nY.ok dA (λvs H Q E h=>?_) (λd3 A' outer s H vs Q E hr h=>?_)
 ·obtain⟨L,n,k,ls,l,rfl,_⟩:=h;rfl
 ·obtain⟨L,n,k,ls,l,rfl,hL,gN,h4,rG,fM,hn,q⟩:=h
  have Kf:=bG gN;refine⟨_,(aC (CM (i:=4) rfl dA.nd rfl rfl (Gh rfl rfl rfl rfl) (cI (pv 0)) (own:=[("line",3)]) (by show oG ["lines","how_many","k","line","rest","start","end","number","source","most"] (aH nF) _ _;exact⟨rfl,by decide +kernel,by decide +kernel,by decide +kernel,by decide +kernel⟩) (λ_ _ _ _ _=>by exact(jN 3 dA.nd)) (λ_ _ _ _ _=>by exact(Dm (aL LA (Ky (PQ K) (pv 3) aG (λ_ _=>rfl)) (pv 2) (aP _)))) (λ_ _ _ _ _=>by exact(pv 3)))
   (aC (cT aP5 rfl (cI (pv 0)) (rO rfl (bY (jN 5 dA.nd) (bY (jN 6 dA.nd) (bY (jN 7 dA.nd) (bY (jN 8 dA.nd) k8))))) (aF (bE (aL eW (pv 8) (pv 2) (aP _)) (aC (dE 9 dA.nd (fO (cF T.iD (nG T) hr T.pE (pU T) (aA (pv 4) (aA (pv 1) (aA (pv 5) aD)))) (pv 6)))
   (aF (bE (PW.pt (jR (gY (lJ (pv 9))) (gX (aL iG (pv 9) (pv 7) (aP _))))) (aF (aI jQ)) aN))) aN)))
   (aF (aI jQ)))),?_⟩
  refine⟨_,rfl,L,rfl,⟨_,aZ.of hL⟩,λR hR=>mQ (K:=K) (a:=L) (xs:=ls) (λj H3=>aV H H3/\∃zs,H3 R=some (.lst zs)/\aQ H zs ((l.take j).filter λe=>decide (e.source≠k))) ?_ ?_ ?_ ?_⟩
  ·exact⟨aE hR,[],aB,.nil⟩
  ·rintro j H3 _ ⟨s3,_⟩;exact aZ.of (s3 _ _ hL)
  ·rintro j z H3 hz ⟨s3,zs,hR3,B4⟩;obtain⟨e,he,ta,rfl,vN⟩:=dU gN hz;have Ke:j<l.length:=(aM0.mp he).1;have fm:zs.length<sizeLine:=by
    rw[bG B4]
    have:=aOc (λe:bO=>decide (e.source≠k)) (l.take j)
    rw[aMj]at this
    exact dX (by omega)
   refine⟨rfl,_,rfl,ta,_,_,_,rfl,rfl,eE.of (s3 _ _ vN),dS (j:=3) rfl,_,rfl,rfl,_,rfl,?_⟩
   refine cA (λc=>?_) (λc=>?_)
   ·have c:=Yr c;refine⟨_,rfl,_,hR3,fm,bI s3 hR,zs++[.ref ta],aB,?_⟩;rw[wI he,if_pos (decide_eq_true (by omega))]
    exact eK ⟨ta,rfl,vN⟩ B4
   ·have c:=Yt c;refine⟨s3,zs,hR3,?_⟩;rw[wI he,if_neg (by simp;omega),aMc]
    exact B4
  ·rintro H3 ⟨s3,zs,hR3,B4⟩;rw[Kf,aMe]at B4;refine⟨_,rfl,L,rfl,⟨_,aZ.of (s3 _ _ hL)⟩,cW (K:=K) (a:=L) (xs:=ls)
    (λi σ H4=>∃v5 v6 v7 v8 v9:Option V,σ=[some (.ref L),some (.int (n:Int)),some (.int (k:Int)),none,some (.ref R),v5,v6,v7,v8,v9]/\aV H H4/\H4 R=some (.lst zs)/\(l.take i).any (mO n k l)=false) ?_ ?_ ?_ ?_⟩
   ·exact⟨none,none,none,none,none,rfl,s3,hR3,rfl⟩
   ·rintro i σ H4 _ ⟨_,_,_,_,_,_,s4,_⟩;exact aZ.of (s4 _ _ hL)
   ·rintro i x σ H4 hx ⟨v5,v6,v7,v8,v9,rfl,s4,hR4,rJ⟩;obtain⟨e,he,ta,rfl,vN⟩:=dU gN hx;have hr:=rG e (aMZ he);refine⟨ta,_,rfl,eE.of (s4 _ _ vN),rfl,_,_,rfl,_,_,rfl,_,_,rfl,_,_,rfl,rfl,?_⟩;have keep:∀{H5:Hp} {v:Option V},aV H H5->H5 R=some (.lst zs)->mO n k l e=false->∃v5 v6 v7 v8 v9:Option V,[some (V.ref L),some (V.int (n:Int)),some (V.int (k:Int)),none,some (V.ref R),some (V.int (e.from_:Int)),some (V.int (e.to_:Int)),some (V.int e.most),some (V.int (e.source:Int)),v]=[some (V.ref L),some (V.int (n:Int)),some (V.int (k:Int)),none,some (V.ref R),v5,v6,v7,v8,v9]/\aV H H5/\H5 R=some (.lst zs)/\(l.take (i+1)).any (mO n k l)=false:=by
     intro H5 v s5 hR5 hf;refine⟨_,_,_,_,_,rfl,s5,hR5,?_⟩;rw[bK he,List.any_append,rJ,aNm,hf];rfl
    refine⟨_,rfl,_,rfl,rfl,_,rfl,?_⟩
    refine cA (λc=>?_) (λc=>?_)
    ·have c:e.source=k:=by have:=vEq c;omega
     have kr:mK n (l.filter λe=>decide (e.source≠k)):=λe he=>rG e (aN2.1 he).1;refine⟨_,rfl,_,rfl,_,rfl,R,n,e.from_,zs,_,rfl,hR4,aQ.same B4 s4,kr,by omega,hr.1,λH5 gr s5 vg vb=>?_⟩
     have eb:aM9 (aOJ n (l.filter λe=>decide (e.source≠k))) e.from_ e.to_=(dJ (l.filter λe=>decide (e.source≠k)) n (bR n e.from_)).getD e.to_ none:=cP.uniq (d5 kr fM hr.1 hr.2) (wD hr.1 kr fM (by omega) hr.2)
     have hhl:(dJ (l.filter λe=>decide (e.source≠k)) n (bR n e.from_)).length=n:=by rw[gQ];unfold bR;rw[aMv,aN6]
     have a3:=iV (d:=dJ (l.filter λe=>decide (e.source≠k)) n (bR n e.from_)) (i:=e.to_) (by omega)
     rw[<-eb]at a3
     have Mm:=s4.trans s5;have yes:mO n k l e=true->Q (.bl false) H5:=by
      intro hl;have:l.any (mO n k l)=true:=aOk.2 ⟨e,aMZ he,hl⟩;rw[this]at q;exact q _ Mm
     refine⟨_,rfl,gr,_,_,_,rfl,rfl,aZ.of vb,a3,?_⟩
     refine⟨_,rfl,_,rfl,?_⟩
     cases hv:aM9 (aOJ n (l.filter λe=>decide (e.source≠k))) e.from_ e.to_ with
     |none=>exact bW (bW (yes (by unfold mO;rw[hv];simp[c])))
     | some x=>
      refine cG ⟨_,rfl,_,rfl,_,_,rfl,rfl,_,rfl,?_⟩;refine cA (λc2=>?_) (λc2=>?_)
      ·exact yes (by unfold mO;rw[hv];simp[c];exact dT c2)
      ·exact keep Mm (s5 _ _ hR4) (by unfold mO;rw[hv];simp[c];have:=dF c2;omega)
    ·have c:e.source≠k:=by have:=GS c;omega
     exact keep s4 hR4 (by unfold mO;rw[beq_eq_false_iff_ne.2 c];rfl)
   ·rintro σ H4 ⟨v5,v6,v7,v8,v9,rfl,s4,hR4,rJ⟩;rw[Kf,aMe]at rJ;rw[rJ]at q;exact q _ s4
def cg{s:aMA}{k:Nat}(hk:k<100){e:bO}:(e∈aMJ s/\e.source=k)↔(e∈bX s k/\k<s.said.length):=by
 rw[zH,aMX,aMX]
 constructor
 ·rintro⟨h | h | h,hs⟩
  ·obtain⟨i,hi,he⟩:=aNR.1 h
   have:=wR he
   have:i=k:=by omega
   subst this;exact⟨he,aMh.1 hi⟩
  ·obtain⟨c,hc,he⟩:=aNR.1 h
   have:=J3 he
   omega
  ·obtain⟨i,_,rfl⟩:=aNG.1 h
   have:(200:Nat)=k:=hs
   omega
 ·rintro⟨h,hl⟩
  exact⟨.inl (aNR.2 ⟨k,aMh.2 hl,h⟩),wR h⟩
def Z3{s:aMA}{k:Nat}{x:aNI}(hx:s.said[k]?=some x)(hk:k<100):aP3 s k=(aMJ s).any (mO (aMB s) k (aMJ s)):=by
 have hl:k<s.said.length:=(aM0.mp hx).1;have e1:aML (aN9 s k)=aOJ (aMB s) ((aMJ s).filter λe=>decide (e.source≠k)):=by
  unfold aML;rw[BE,E6 s hk]
 have e2:bX s k=aMy s k x:=by unfold bX;rw[hx]
 have e3:aP3 s k=(aMy s k x).any λe=>match aM9 (aOJ (aMB s) ((aMJ s).filter λe=>decide (e.source≠k))) e.from_ e.to_ with
   |none=>true
   |some w=>decide (e.most<w):=by
  unfold aP3;rw[hx];simp only[e1];rfl
 rw[e3,aOS,aOk,aOk]
 constructor
 ·rintro⟨e,he,h⟩
  have he2:=(cg (s:=s) hk).2 ⟨by rw[e2];exact he,hl⟩
  refine⟨e,he2.1,?_⟩
  unfold mO;rw[he2.2,beq_self_eq_true,aNJ];exact h
 ·rintro⟨e,he,h⟩
  unfold mO at h;rw[aM5,beq_iff_eq]at h;have he2:=(cg (s:=s) hk).1 ⟨he,h.1⟩;rw[e2]at he2;exact⟨e,he2.1,h.2⟩
def JR(T:Txt K mg A):bQ P w K mg base eV 6 A.lB A.sI ["record","numbers","rows"] (gF A 1 0 λnums _=>.matters (nums.getD 0 0)):=by
 refine T.sP.ok zZ (λvs H Q E h=>?_) (λd3 A' outer s H vs Q E hr h=>?_)
 ·obtain⟨r,ln,lr,f,st,nums,rows,rs,rfl,_⟩:=h;rfl
 ·obtain⟨r,ln,lr,f,st,nums,rows,rs,rfl,hR,pX,oA,rK,hn,hk,rH,k⟩:=h
  have k:gW A H r f st (.matters (nums.getD 0 0)) Q:=k;have a0:=kP (nums:=nums) (i:=0) (by omega)
  generalize nums.getD 0 0=c at*;have h9:=hR.wf.names;have hm:=cK st;have lx:=hR.wf.rN;have oF:aMY st (.matters c)=if aNf st c=false then(st,[-4])else if((st.said[c.toNat]?).any λx=>x.on)=false then(st,[-10])else if aNF st=false then(st,[-7])else(st,[aNA (aP3 st c.toNat)]):=rfl
  refine⟨_,(aC (dE 3 zZ.nd (fO (pv 1) aG))
   (aC (bE (fG (dC (cF T.mH (tG T) hr T.wJ (wH T) (aA (pv 0) (aA (pv 3) aD))))) (aF (aI (aR (aA (aM rfl T.rB) aD)))) aN)
   (aC (bE (fG (dC (aU (fO (aU (pv 0) rfl) (pv 3)) rfl))) (aF (aI (aR (aA (aM rfl T.Jy) aD)))) aN)
   (aC (bE (fG (dC (cF T.eU (fW T) hr T.gU (gR T) (aA (pv 0) aD)))) (aF (aI (aR (aA (aM rfl T.hU) aD)))) aN)
   (aF (aI (aR (aA (eM (dC (cF T.nY (GK T) hr T.IB (Hx T) (aA (cF T.cU (cX T) hr T.dN (dM T) (aA (pv 0) aD)) (aA (cF T.bL (bM T) hr T.bT (bS T) (aA (pv 0) aD)) (aA (pv 3) aD))))) aG aG) aD)))))))),?_⟩
  refine⟨_,rfl,ln,_,_,_,rfl,rfl,aZ.of pX,a0,?_⟩
  refine⟨_,rfl,_,rfl,r,f,st,c,rfl,hR,_,rfl,?_⟩
  cases Mi:aNf st c with
  | false=>
   rw[if_pos Mi]at oF
   exact bW ⟨aO,λout ho=>k.pure hR oF (aE ho) ho aB⟩
  |true=>
  rw[if_neg (by rw[Mi];decide)]at oF
  have hcr:0<=c/\c.toNat<st.said.length:=by
   unfold aNf aMP at Mi;rw[aM5,decide_eq_true_eq,decide_eq_true_eq]at Mi;omega
  obtain⟨x,hx⟩:∃x,st.said[c.toNat]?=some x:=⟨_,aMK hcr.2⟩
  obtain⟨a,ha,vN⟩:=JY hR.things.2 hx
  obtain⟨dt,o,t,g1,g2,g3⟩:=vN
  have EJ:FR (f.ts.map V.ref) c=some (V.ref a):=G0 (j:=c.toNat) (by omega) (Yp ha)
  have aA4:((st.said[c.toNat]?).any λx=>x.on)=x.on:=by rw[hx];rfl
  rw[aA4]at oF
  refine cG ⟨_,rfl,r,_,f.dr,_,_,rfl,hR.obj,T.bA,T.bC,rfl,_,rfl,f.lt,_,_,_,rfl,rfl,aZ.of hR.things.1,EJ,a,_,dt,_,_,rfl,g1,T.cN,T.jW,rfl,_,rfl,?_⟩;cases vL:x.on with
  | false=>
   rw[if_pos vL]at oF
   exact bW ⟨aO,λout ho=>k.pure hR oF (aE ho) ho aB⟩
  |true=>
  rw[if_neg (by rw[vL];decide)]at oF
  refine cG ⟨_,rfl,r,f,st,rfl,hR,λH1 s1=>⟨_,rfl,?_⟩⟩;cases hp:aNF st with
  | false=>
   rw[if_pos hp]at oF
   exact bW ⟨aO,λout ho=>k.pure hR oF (s1.trans (aE ho)) (s1.free ho) aB⟩
  |true=>
  rw[if_neg (by rw[hp];decide),Z3 hx (by omega)]at oF
  rw[j3]at hp
  have fM:=l8.1 hp;refine cG ⟨_,rfl,r,f,st,rfl,hR.same s1,λH2 L ls s2 Y8 hL gN=>?_⟩;have kY:=s1.trans s2;refine⟨_,rfl,r,f,st,rfl,hR.same kY,λH3 s3=>?_⟩;have CC:=kY.trans s3;have ec:c=((c.toNat:Nat):Int):=by omega
  refine⟨_,rfl,L,aMB st,c.toNat,ls,aMJ st,by rw[<-ec];rfl,s3 _ _ hL,aQ.same gN s3,aM3 (tY hR.wf) (by decide),bP st,YH fM,by omega,λH4 s4=>⟨_,rfl,?_⟩⟩
  have GU:=CC.trans s4;cases ha:(aMJ st).any (mO (aMB st) c.toNat (aMJ st))with
  | true=>
   rw[ha]at oF
   exact cG ⟨aO,λout ho=>k.pure hR oF (GU.trans (aE ho)) (GU.free ho) aB⟩
  | false=>
   rw[ha]at oF
   exact bW ⟨aO,λout ho=>k.pure hR oF (GU.trans (aE ho)) (GU.free ho) aB⟩
def d8(l:List Nat):(aLz l).map V.int=kN l:=by unfold aLz kN;rw[aNn];rfl
theorem cf(x:Nat):∀l:List Nat,inV (V.int (x:Int)) ((aLz l).map V.int)=l.contains x
 |[]=>rfl
 | a::l=>by
  have:=cf x l
  unfold inV at this ⊢;rw[show aLz (a::l)=(a:Int)::aLz l from rfl,aM2,aNm,this,aOl];congr 1;show((a:Int)==(x:Int))=(x==a);rw[aOS,beq_iff_eq,beq_iff_eq];omega
def qw(l:List Nat):((aLz l).map V.int).all vO=true:=by
 rw[aNB]
 intro v hv;obtain⟨x,_,rfl⟩:=aNG.1 hv;rfl
def Nu(c:List Nat)(x:Nat):Bool:=match c.getLast? with
 |none=>true
 |some y=>decide (y<x)
def OJ{l:List Nat}{j x:Nat}(c:List Nat)(h:l[j]?=some x):w8 (l.take (j+1)) c=w8 (l.take j) c++(if Nu c x=true then[c++[x]]else[]):=by
 unfold w8;rw[bK h,aOy,aMU,aNs,aRQ];congr 1;show List.map _ (if Nu c x=true then[x]else[])=_
 split<;>rfl
inductive ox(vs:List V)(H:Hp)(Q:VK)(E:XK):Prop
 |mk:∀(S N:Addr) (xs:List V) (cs:List (List Nat)) (on:List Nat),vs=[.ref S,.ref N]->H S=some (.lst xs)->aS H xs (cs.map aLz)->H N=some (.lst ((aLz on).map V.int))->cs.length<=2000->on.length<=12->(∀c∈cs,c.length<=12)->(∀(H':Hp) (r:Addr) (zs:List V),aV H H'->H r=aP4->H' r=some (.lst zs)->aS H' zs ((cs.flatMap (w8 on)).map aLz)->Q (.ref r) H')->ox vs H Q E
def JG(T:Txt K mg A):bQ P w K mg base eV 1 A.rQ A.rR ["sets","numbers"] ox:=by
 refine T.sJ.ok kL (λvs H Q E h=>?_) (λd3 A' outer s H vs Q E hr h=>?_)
 ·obtain⟨S,N,xs,cs,on,rfl,_⟩:=h;rfl
 ·obtain⟨S,N,xs,cs,on,rfl,hS,t8,hN,h2000,lx,aIV,q⟩:=h
  have hxl:xs.length=cs.length:=by rw[aS.length t8,aLx]
  have hnl:((aLz on).map V.int).length=on.length:=by rw[d8];unfold kN;rw[aLx]
  refine⟨_,(aC (dE 2 kL.nd (aR aD))
   (aC (cT aP5 rfl (cI (pv 0)) (jN 3 kL.nd) (aF (cT aP5 rfl (cI (pv 1)) (jN 4 kL.nd) (aF (bE (PW.pt (jR (fG (CN (pv 3) (λ_=>rfl))) (gX (aL iG (pv 4) (Om (pv 3) (CF uF aG)) (aP _))))) (aF (cS (e9 aMa aMr aMs cR (pv 2) (aA (bH tu (pv 3) (gC (aA (pv 4) aD))) aD)))) aN)))))
   (aF (aI (pv 2))))),?_⟩
  refine⟨aM1 _,λD hD=>?_⟩
  have sD:=aE (o:=.lst []) hD;have nSD:S≠D:=aJ hS hD;have nND:N≠D:=aJ hN hD;refine⟨_,rfl,S,rfl,⟨_,aZ.of (sD _ _ hS)⟩,cW (K:=K) (a:=S) (xs:=xs)
   (λi σ H'=>∃(v3 v4:Option V) (zs:List V),σ=[some (.ref S),some (.ref N),some (.ref D),v3,v4]/\aV H H'/\H' D=some (.lst zs)/\aS H' zs (((cs.take i).flatMap (w8 on)).map aLz)/\zs.length<=12*i) ?_ ?_ ?_ ?_⟩
  ·exact⟨none,none,[],rfl,sD,aB,.nil,aMG _⟩
  ·rintro i σ H' _ ⟨_,_,_,_,s1,_⟩;exact aZ.of (s1 _ _ hS)
  ·rintro i x σ H' hx ⟨v3,v4,zs,rfl,s1,Yh,B4,fm⟩;have T6:i<cs.length:=by rw[<-hxl];exact(aM0.mp hx).1
   obtain⟨c,hc⟩:∃c,cs[i]?=some c:=⟨_,aMK T6⟩
   obtain⟨ca,IG,hct⟩:=aS.get t8 (i:=i) (ns:=aLz c) (by rw[aM4,hc];rfl)
   rw[hx]at IG
   injection IG with IG;subst IG;have Y6:=aIV c (aMZ hc);refine⟨_,rfl,N,rfl,⟨_,aZ.of (s1 _ _ hN)⟩,cW (K:=K) (a:=N) (xs:=(aLz on).map V.int)
    (λj σ H2=>∃(v4:Option V) (zs:List V),σ=[some (.ref S),some (.ref N),some (.ref D),some (.ref ca),v4]/\aV H H2/\H2 D=some (.lst zs)/\aS H2 zs (((cs.take i).flatMap (w8 on)++w8 (on.take j) c).map aLz)/\zs.length<=12*i+j) ?_ ?_ ?_ ?_⟩
   ·refine⟨v4,zs,rfl,s1,Yh,?_,fm⟩
    rw[show w8 (on.take 0) c=[]by rw[aPC];rfl,aMc]
    exact B4
   ·rintro j σ H2 _ ⟨_,_,_,s2,_⟩;exact aZ.of (s2 _ _ hN)
   ·rintro j y σ H2 hy ⟨v4,zs,rfl,s2,hD2,Zv,aFC⟩;rw[d8]at hy;unfold kN at hy;rw[aM4]at hy;obtain⟨n,hn,rfl⟩:=aOp.1 hy;have Ke:j<on.length:=(aM0.mp hn).1;have aAO:=s2 _ _ hct;have app:∀(Hn:Hp) (z:Addr),aV H2 Hn->Hn z=some (.tup ((aLz (c++[n])).map V.int))->Nu c n=true->
      PM (.ref D) [.ref z] Hn λ_ H3=>∃(v4:Option V) (zs:List V),[some (V.ref S),some (V.ref N),some (V.ref D),some (V.ref ca),some (V.int (n:Int))]=[some (V.ref S),some (V.ref N),some (V.ref D),some (V.ref ca),v4]/\aV H H3/\H3 D=some (.lst zs)/\aS H3 zs (((cs.take i).flatMap (w8 on)++w8 (on.take (j+1)) c).map aLz)/\zs.length<=12*i+(j+1):=by
     intro Hn z sn hz Y7;have hDn:=sn _ _ hD2;have nz:z≠D:=c7 hz hDn (by intro q;cases q)
     have bb:=cD (H:=Hn) (D:=D) (o:=.lst (zs++[V.ref z]));refine⟨D,_,_,rfl,rfl,hDn,dX (by omega),_,zs++[.ref z],rfl,bI (s2.trans sn) hD,aB,?_,by rw[aMH];show _+1<=_;omega⟩
     rw[OJ c hn,if_pos Y7,<-aMb,aMU]
     exact eK ⟨z,rfl,bb _ _ hz nz⟩ (aS.but (aS.same Zv sn) hDn bb)
    have skip:Nu c n=false->∃(v4:Option V) (zs:List V),[some (V.ref S),some (V.ref N),some (V.ref D),some (V.ref ca),some (V.int (n:Int))]=[some (V.ref S),some (V.ref N),some (V.ref D),some (V.ref ca),v4]/\aV H H2/\H2 D=some (.lst zs)/\aS H2 zs (((cs.take i).flatMap (w8 on)++w8 (on.take (j+1)) c).map aLz)/\zs.length<=12*i+(j+1):=by
     intro Y7;refine⟨_,zs,rfl,s2,hD2,?_,by omega⟩
     rw[OJ c hn,if_neg (by rw[Y7];decide),aMc]
     exact Zv
    refine⟨_,rfl,_,.inr (.inl ⟨_,eE.of aAO,rfl⟩),?_⟩
    cases c with
    | nil=>
     refine bW (bW ⟨_,rfl,.inl ⟨rfl,_,aZ.of hD2⟩,_,rfl,_,rfl,aO,λp hp=>?_⟩);have sp:=aE (o:=.tup [V.int (n:Int)]) hp;refine⟨ca,p,_,_,rfl,rfl,eE.of (sp _ _ aAO),eE.of aB,aOm _ _,aO,λ_=>?_,λz=>absurd rfl z⟩;exact app _ p sp aB rfl
    | cons b c'=>
     obtain⟨y,hy⟩:∃y,(b::c').getLast?=some y:=by
      cases e:(b::c').getLast? with
      |none=>rw[aPN]at e;cases e
      |some y=>exact⟨y,rfl⟩
     have Y9:FR ((aLz (b::c')).map V.int) (-1)=some (V.int (y:Int)):=by
      refine CK (j:=c'.length) (by rw[d8];unfold kN;rw[aLx];rfl) ?_
      rw[d8]
      unfold kN;rw[aM4];rw[aPO]at hy;have:(b::c')[c'.length]?=some y:=by simpa using hy
      rw[this];rfl
     have ku:Nu (b::c') n=decide (y<n):=by unfold Nu;rw[hy]
     refine cG ⟨_,rfl,_,rfl,_,rfl,ca,_,_,_,rfl,rfl,eE.of aAO,Y9,_,_,rfl,rfl,_,rfl,?_⟩;refine cA (λcc=>?_) (λcc=>?_)
     ·have cc:=dT cc;refine⟨_,rfl,.inl ⟨rfl,_,aZ.of hD2⟩,_,rfl,_,rfl,aO,λp hp=>?_⟩;have sp:=aE (o:=.tup [V.int (n:Int)]) hp;have Y1:((aLz (b::c')).map V.int).length=(b::c').length:=by rw[d8];unfold kN;rw[aLx]
      refine⟨ca,p,_,_,rfl,rfl,eE.of (sp _ _ aAO),eE.of aB,aOm _ _,by rw[Y1];exact aMm (bB (show _+1<=1000 by omega)),λz=>absurd z (aOm _ _),λ_ p2 Kg=>?_⟩
      refine app _ p2 (sp.trans (aE Kg)) ?_ (by rw[ku];exact decide_eq_true (by omega))
      rw[aB,d8,d8]
      unfold kN;rw[aMU];rfl
     ·have cc:=dF cc;exact skip (by rw[ku];exact decide_eq_false (by omega))
   ·rintro σ H2 ⟨v4,zs,rfl,s2,hD2,Zv,aFC⟩;rw[hnl,aMe]at Zv;rw[hnl]at aFC;refine⟨_,_,zs,rfl,s2,hD2,?_,by omega⟩
    rw[bK hc,aNo,aNC,aO2,aMc]
    exact Zv
  ·rintro σ H' ⟨v3,v4,zs,rfl,s1,Yh,B4,fm⟩;rw[hxl,aMe]at B4;exact⟨_,rfl,q H' D zs s1 hD Yh B4⟩
inductive qh(vs:List V)(H:Hp)(Q:VK)(E:XK):Prop
 |mk:∀(L ca:Addr) (n:Nat) (ls:List V) (l:List bO) (c:List Nat),vs=[.ref L,.int (n:Int),.ref ca]->H L=some (.lst ls)->aQ H ls l->l.length<=4000->mK n l->(G1 n (l.filter λe=>!c.contains e.source))->0<n->n<=900->H ca=some (.tup ((aLz c).map V.int))->(∀(b:Bool) H',(b=true↔kT (l.filter λe=>!c.contains e.source))->aV H H'->Q (.bl b) H')->qh vs H Q E
def ET(T:Txt K mg A):bQ P w K mg base eV 2 A.lV A.lS ["lines","how_many","chosen"] qh:=by
 refine T.l4.ok kQ (λvs H Q E h=>?_) (λd3 A' outer s H vs Q E hr h=>?_)
 ·obtain⟨L,ca,n,ls,l,c,rfl,_⟩:=h;rfl
 ·obtain⟨L,ca,n,ls,l,c,rfl,hL,gN,h4,rG,aFc,h0,hn,IG,q⟩:=h
  have Kf:=bG gN;refine⟨_,(aC (CM (i:=4) rfl kQ.nd rfl rfl (Gh rfl rfl rfl rfl) (cI (pv 0)) (own:=[("line",3)]) (by show oG ["lines","how_many","chosen","line","rest"] (aH lY) _ _;exact⟨rfl,by decide +kernel,by decide +kernel,by decide +kernel,by decide +kernel⟩) (λ_ _ _ _ _=>by exact(jN 3 kQ.nd)) (λ_ _ _ _ _=>by exact(Dm (aL (NZ K) (Ky (PQ K) (pv 3) aG (λ_ _=>rfl)) (pv 2) (by rfl)))) (λ_ _ _ _ _=>by exact(pv 3)))
   (aF (aI (PD (vU (cF T.gL (jC T) hr T.j4 (kE T) (aA (pv 4) (aA (pv 1) aD)))))))),?_⟩
  refine⟨_,rfl,L,rfl,⟨_,aZ.of hL⟩,λR hR=>mQ (K:=K) (a:=L) (xs:=ls) (λj H3=>aV H H3/\∃zs,H3 R=some (.lst zs)/\aQ H zs ((l.take j).filter λe=>!c.contains e.source)) ?_ ?_ ?_ ?_⟩
  ·exact⟨aE hR,[],aB,.nil⟩
  ·rintro j H3 _ ⟨s3,_⟩;exact aZ.of (s3 _ _ hL)
  ·rintro j z H3 hz ⟨s3,zs,hR3,B4⟩;obtain⟨e,he,ta,rfl,vN⟩:=dU gN hz;have Ke:j<l.length:=(aM0.mp he).1;have fm:zs.length<sizeLine:=by
    rw[bG B4]
    have:=aOc (λe:bO=>!c.contains e.source) (l.take j)
    rw[aMj]at this
    exact dX (by omega)
   refine⟨rfl,_,rfl,ta,_,_,_,rfl,rfl,eE.of (s3 _ _ vN),dS (j:=3) rfl,_,rfl,ca,_,rfl,.inr (eE.of (s3 _ _ IG)),rfl,qw c,_,rfl,?_⟩
   rw[if_pos rfl,cf]
   cases hc:c.contains e.source with
   | false=>
    refine bW ⟨_,rfl,_,hR3,fm,bI s3 hR,zs++[.ref ta],aB,?_⟩;rw[wI he,if_pos (by rw[hc];rfl)]
    exact eK ⟨ta,rfl,vN⟩ B4
   | true=>
    refine cG ⟨s3,zs,hR3,?_⟩;rw[wI he,if_neg (by rw[hc];decide),aMc]
    exact B4
  ·rintro H3 ⟨s3,zs,hR3,B4⟩;rw[Kf,aMe]at B4;have kr:mK n (l.filter λe=>!c.contains e.source):=λe he=>rG e (aN2.1 he).1;have hs:=wC h0 kr aFc;refine⟨_,rfl,_,rfl,R,n,zs,_,rfl,hR3,aQ.same B4 s3,kr,by omega,?_,?_⟩
   ·intro e H4 s4;rw[e]at hs;exact q false H4 ⟨λz=>by(cases z),λz=>absurd z hs⟩ (s3.trans s4)
   ·intro d e H4 ag s4 aAB T3 Y4;rw[e]at hs;exact q true H4 ⟨λ_=>hs.1,λ_=>rfl⟩ (s3.trans s4)
theorem ig(s:aMA)(f m:Nat):aNp s (f+1) m=(match(aM6 m (cY s)).find? (λl=>aNF (aOD s l))with
 |some l=>some l
 |none=>aNp s f (m+1)):=rfl
def Zh{s:aMA}{c:List Nat}(h:∀k∈c,k<100):aNF (aOD s c)=true↔kT ((aMJ s).filter λe=>!c.contains e.source):=by
 obtain⟨h1,h2⟩:=Jc c s h
 unfold aNF;rw[h1,h2];exact XX Zn
def ZQ{s:aMA}{c:List Nat}(h:∀k∈c,k<100):G1 (aMB s) ((aMJ s).filter λe=>!c.contains e.source):=by
 refine X0 (p:=λx=>!c.contains x) ?_;have:c.contains 200=false:=by
  rw[<-aNb,aQV]
  intro z;have:=h 200 z;omega
 rw[this];rfl
def ib{s:aMA}(lx:s.said.length<=12){m:Nat}{c:List Nat}(h:c∈aM6 m (cY s)):∀k∈c,k<100:=λk hk=>by
 have:=aE1 ((lQ m _ c h).2 k hk)
 omega
def Xi{s:aMA}(lx:s.said.length<=12){m:Nat}(hm:m<=3):(aM6 m (cY s)).length<=2000:=by
 obtain⟨h0,h1,h2,h3⟩:=HK lx
 have e0:(aM6 0 (cY s)).length=1:=by cases cY s<;>rfl
 match m,hm with
 |0,_=>omega
 |1,_=>omega
 |2,_=>omega
 |3,_=>omega
inductive aBF(vs:List V)(H:Hp)(Q:VK)(E:XK):Prop
 |mk:∀(L N:Addr) (ls:List V) (s:aMA),vs=[.ref L,.int (aMB s:Nat),.ref N]->H L=some (.lst ls)->aQ H ls (aMJ s)->Wf s->H N=some (.lst ((aLz (cY s)).map V.int))->((aNp s 4 0=none->∀H',aV H H'->Q .non H'))->(∀c,aNp s 4 0=some c->c.length<=3->∀(H':Hp) (a:Addr),aV H H'->H' a=some (.tup ((aLz c).map V.int))->Q (.ref a) H')->aBF vs H Q E
def pf(H:Hp)(L N:Addr)(s:aMA)(i:Nat)(σ:L2.St)(H':Hp):Prop:=∃(v4 v5:Option V) (S:Addr) (xs:List V),σ=[some (.ref L),some (.int (aMB s:Nat)),some (.ref N),some (.ref S),v4,v5]/\aV H H'/\H' S=some (.lst xs)/\aS H' xs ((aM6 (i-1) (cY s)).map aLz)/\aNp s (4-i) i=aNp s 4 0
def B2(T:Txt K mg A):bQ P w K mg base eV 3 A.jF A.jH ["lines","how_many","numbers"] aBF:=by
 refine T.jG.ok eC (λvs H Q E h=>?_) (λd3 A' outer s H vs Q E hr h=>?_)
 ·obtain⟨L,N,ls,st,rfl,_⟩:=h;rfl
 ·obtain⟨L,N,ls,st,rfl,hL,gN,Ol,hN,q0,q1⟩:=h
  have lx:=Ol.rN;have h9:=Ol.names;have hm:=cK st;have aEm:=(HK lx).1;refine⟨_,(aC (dE 3 eC.nd (aR (aA (gC aD) aD)))
   (aC (cT aP5 rfl (Dz rfl T.AU (aA (bH cH (aM rfl T.JN) aG) aD)) (jN 4 eC.nd) (aC (bE (aL iG (pv 4) aG (aP _)) (aF (dE 3 eC.nd (cF T.sJ (JG T) hr T.K2 (KZ T) (aA (pv 3) (aA (pv 2) aD))))) aN)
   (sZ (λD0 σ H1=>∃(i:Nat) (v5:Option V) (S:Addr) (xs:List V),i<4/\σ=[some (.ref L),some (.int (aMB st:Nat)),some (.ref N),some (.ref S),some (.int (i:Int)),v5]/\aV H H1/\H1 S=some (.lst xs)/\aS H1 xs ((aM6 i (cY st)).map aLz)/\aNp st (4-i) i=aNp st 4 0/\D0.rt=Q/\∀σ' H',pf H L N st (i+1) σ' H'->D0.nx σ' H') (aF (cT aP5 rfl (cI (pv 3)) (jN 5 eC.nd) (aF (bE (dC (cF T.l4 (ET T) hr T.Fy (Fz T) (aA (pv 0) (aA (pv 1) (aA (pv 5) aD))))) (aF (aI (pv 5))) aN)))) ?cut)))
   (aF (aI kO)))),?_⟩
  case cut=>
   rintro D0 σ H1 ⟨i,v5,S,xs,hi,rfl,s1,hS,t8,Nm,hD,hnx⟩;have hxl:xs.length=(aM6 i (cY st)).length:=by rw[aS.length t8,aLx]
   have e4:4-i=(4-(i+1))+1:=by omega
   rw[e4,ig]at Nm
   refine⟨_,rfl,S,rfl,⟨_,aZ.of hS⟩,cW (K:=K) (a:=S) (xs:=xs)
    (λj σ H2=>∃v5:Option V,σ=[some (.ref L),some (.int (aMB st:Nat)),some (.ref N),some (.ref S),some (.int (i:Int)),v5]/\aV H H2/\H2 S=some (.lst xs)/\aS H2 xs ((aM6 i (cY st)).map aLz)/\∀j' c,j'<j->(aM6 i (cY st))[j']?=some c->aNF (aOD st c)=false) ?_ ?_ ?_ ?_⟩
   ·exact⟨v5,rfl,s1,hS,t8,λj' c hj=>by omega⟩
   ·rintro j σ H2 _ ⟨_,_,_,h,_⟩;exact aZ.of h
   ·rintro j x σ H2 hx ⟨v5,rfl,s2,hS2,CA,rJ⟩;have Ke:j<(aM6 i (cY st)).length:=by rw[<-hxl];exact(aM0.mp hx).1
    obtain⟨c,hc⟩:∃c,(aM6 i (cY st))[j]?=some c:=⟨_,aMK Ke⟩
    obtain⟨ca,IG,hct⟩:=aS.get CA (i:=j) (ns:=aLz c) (by rw[aM4,hc];rfl)
    rw[hx]at IG
    injection IG with IG;subst IG;have hcm:=aMZ hc;have aFQ:=ib lx hcm;refine⟨_,rfl,_,rfl,_,rfl,L,ca,aMB st,ls,aMJ st,c,rfl,s2 _ _ hL,aQ.same gN s2,aM3 (tY Ol) (by decide),bP st,ZQ aFQ,by omega,by omega,hct,λb H3 hb s3=>⟨_,rfl,?_⟩⟩
    rw[<-Zh aFQ]at hb
    cases b with
    | true=>
     refine bW ⟨_,rfl,?_⟩;show D0.rt _ _;rw[hD];have hp:=hb.1 rfl;have hf:(aM6 i (cY st)).find? (λl=>aNF (aOD st l))=some c:=by
      rw[List.find?_eq_some_iff_getElem]
      refine⟨hp,j,Ke,by rw[aMK Ke]at hc;exact aP6 hc,λj' hj'=>?_⟩
      rw[rJ j' _ hj' (aMK (by omega))];rfl
     rw[hf]at Nm
     exact q1 c Nm.symm (by rw[(lQ i _ c hcm).1];omega) H3 ca (s2.trans s3) (s3 _ _ hct)
    | false=>
     refine cG ⟨_,rfl,s2.trans s3,s3 _ _ hS2,aS.same CA s3,λj' c' hj' hc'=>?_⟩;by_cases e:j'=j
     ·subst e;rw[hc]at hc';injection hc' with hc';subst hc';rw[<-aNb];exact λz=>by have:=hb.2 z;cases this
     ·exact rJ j' c' (by omega) hc'
   ·rintro σ H2 ⟨v5,rfl,s2,hS2,CA,rJ⟩;rw[hxl]at rJ;have hf:(aM6 i (cY st)).find? (λl=>aNF (aOD st l))=none:=by
     rw[aOi]
     intro c hc;obtain⟨j,hj,Md⟩:=aNa hc;rw[rJ j c hj (by rw[aMK hj,Md])]
     decide
    rw[hf]at Nm
    exact hnx _ _ ⟨_,_,S,xs,rfl,s2,hS2,CA,Nm⟩
  refine⟨aM1 _,λp hp=>⟨aO,λS hS=>?_⟩⟩
  have s1:=aE (o:=.tup []) hp;have s2:=aE (o:=.lst [V.ref p]) hS;have kY:=s1.trans s2;have e0:aM6 0 (cY st)=[[]]:=by cases cY st<;>rfl
  have Kg:=s2 _ _ (aB (H:=H) (a:=p) (o:=.tup []));refine⟨_,_,rfl,rfl,_,rfl,by decide,by decide,zN (lo:=0) (n:=4) (λi σ H'=>pf H L N st i σ H') ?_ ?_ ?_⟩
  ·refine⟨none,none,S,_,rfl,kY,aB,?_,rfl⟩
   show aS _ _ ((aM6 0 (cY st)).map aLz);rw[e0];exact .cons ⟨p,rfl,Kg⟩ .nil
  ·rintro i σ H' hi ⟨v4,v5,S',xs,rfl,s3,Y5,Yc,Nm⟩;have ei:(0:Int)+(i:Int)=((i:Nat):Int):=by omega
   rw[ei]
   refine⟨_,rfl,_,_,rfl,rfl,_,rfl,?_⟩
   refine cA (λc=>?_) (λc=>?_)
   ·have c:=dT c;obtain⟨m,rfl⟩:∃m,i=m+1:=⟨i-1,by omega⟩
    have Yc:aS H' xs ((aM6 m (cY st)).map aLz):=Yc;refine⟨_,rfl,_,rfl,S',N,xs,aM6 m (cY st),cY st,rfl,Y5,Yc,s3 _ _ hN,Xi lx (by omega),aEm,λc hc=>by rw[(lQ m _ c hc).1];omega,λH4 r zs s4 Oi hr4 B4=>?_⟩
    rw[<-Fv _ _ (OH st)]at B4
    exact⟨m+1,_,r,zs,hi,rfl,s3.trans s4,hr4,B4,Nm,rfl,fun σ' H' h=>h⟩
   ·have c:=dF c;have:i=0:=by omega
    subst this;exact⟨0,_,S',xs,hi,rfl,s3,Y5,Yc,Nm,rfl,fun σ' H' h=>h⟩
  ·rintro σ H' ⟨v4,v5,S',xs,rfl,s3,Y5,Yc,Nm⟩;exact q0 (Nm.symm.trans rfl) H' s3
def cq(s:aMA)(j:Nat):(aME (j+1)).filter (λk=>(s.said[k]?).any λx=>x.on)=(aME j).filter (λk=>(s.said[k]?).any λx=>x.on)++(if((s.said[j]?).any λx=>x.on)=true then[j]else[]):=by
 rw[aOr,aOy,aNs,aRQ]
def Kd(T:Txt K mg A):bQ P w K mg base eV 5 A.m9 A.u0 ["record","numbers","rows"] (gF A 0 0 λ_ _=>.repair):=by
 refine T.uX.ok i5 (λvs H Q E h=>?_) (λd3 A' outer s H vs Q E hr h=>?_)
 ·obtain⟨r,ln,lr,f,st,nums,rows,rs,rfl,_⟩:=h;rfl
 ·obtain⟨r,ln,lr,f,st,nums,rows,rs,rfl,hR,pX,oA,rK,hn,hk,rH,k⟩:=h
  have k:gW A H r f st .repair Q:=k;have lx:=hR.wf.rN;have ma:=bG hR.things.2;refine⟨_,(aC (CM (i:=5) rfl i5.nd rfl rfl (Gh rfl rfl rfl rfl) (vR rfl T.iH (aA (aU (pv 0) rfl) aD)) (own:=[("k",3),("thing",4)]) (by show oG ["record","numbers","rows","k","thing","on","chosen"] (aH u5) _ _;exact⟨rfl,by decide +kernel,by decide +kernel,by decide +kernel,by decide +kernel⟩) (λ_ _ _ _ _=>by exact(yp K 2 rfl (bY (jN 3 i5.nd) (bY (jN 4 i5.nd) k8)))) (λ_ _ _ _ _=>by exact(Dm (dC (Ga K (pv 4) rfl)))) (λ_ _ _ _ _=>by exact(pv 3)))
   (aC (dE 6 i5.nd (cF T.jG (B2 T) hr T.Bx (Bw T) (aA (cF T.cU (cX T) hr T.dN (dM T) (aA (pv 0) aD)) (aA (cF T.bL (bM T) hr T.bT (bS T) (aA (pv 0) aD)) (aA (pv 5) aD)))))
   (aC (bE (gY (lJ (pv 6))) (aF (aI (aR (aA (aM rfl T.YD) aD)))) aN)
   (aF (aI (bH fR (aR (aA (bJ aW (by rfl) T.eX c8 (aA (pv 6) aD)) aD)) (hJ Ar (by rfl) T.Oz Kq (aA (pv 6) aD)))))))),?_⟩
  refine⟨_,rfl,r,_,f.dr,_,_,rfl,hR.obj,T.bA,T.bC,rfl,f.lt,_,rfl,aZ.of hR.things.1,λN hN=>zo (K:=K) (a:=f.lt) (xs:=f.ts.map V.ref)
   (λj H3=>aV H H3/\H3 N=some (.lst ((aLz ((aME j).filter λk=>(st.said[k]?).any λx=>x.on)).map V.int))) ?_ ?_ ?_ ?_⟩
  ·exact⟨aE hN,aB⟩
  ·rintro j H3 _ ⟨s3,_⟩;exact aZ.of (s3 _ _ hR.things.1)
  ·rintro j z H3 t hz ⟨s3,hN3⟩ ht;obtain⟨a,ha,rfl⟩:=iK hz;obtain⟨x,hx,vN⟩:=dU hR.things.2 ha;have Ke:j<st.said.length:=(aM0.mp hx).1;have s5:=aE (o:=.tup [.int (j:Nat),.ref a]) ht;have WN:=s3.trans s5;obtain⟨dt,o,tt,g1,g2,g3⟩:=vN.same WN;have aA4:((st.said[j]?).any λx=>x.on)=x.on:=by rw[hx];rfl
   have cC:((aLz ((aME j).filter λk=>(st.said[k]?).any λx=>x.on)).map V.int).length<=12:=by
    rw[d8];unfold kN;rw[aLx]
    have:=aOc (λk=>(st.said[k]?).any λx=>x.on) (aME j)
    rw[aMk]at this
    omega
   refine⟨t,_,rfl,eE.of aB,rfl,_,_,rfl,_,_,rfl,rfl,rfl,?_⟩
   refine⟨_,rfl,a,_,dt,_,_,rfl,g1,T.cN,T.jW,rfl,_,rfl,?_⟩
   cases vL:x.on with
   | false=>
    refine cG ⟨WN,?_⟩;rw[cq,aA4,if_neg (by rw[vL];decide),aMc]
    exact s5 _ _ hN3
   | true=>
    refine bW ⟨_,rfl,_,s5 _ _ hN3,bB (by omega),bI WN hN,?_⟩
    rw[aB,cq,aA4,if_pos vL,d8,d8]
    unfold kN;rw[aMU];rfl
  ·rintro H3 ⟨s3,hN3⟩;rw[aLx,ma]at hN3;have hN3:H3 N=some (.lst ((aLz (cY st)).map V.int)):=hN3;refine⟨_,rfl,r,f,st,rfl,hR.same s3,λH4 L ls s4 Y8 hL gN=>?_⟩;have fj:=s3.trans s4;refine⟨_,rfl,r,f,st,rfl,hR.same fj,λH5 s5=>?_⟩;have WN:=fj.trans s5;have oF:aMY st .repair=(match aNp st 4 0 with
    |none=>(st,[-9])
    |some l=>(st,aMl (aLz l))):=rfl
   refine⟨_,rfl,L,N,ls,st,rfl,s5 _ _ hL,aQ.same gN s5,hR.wf,(s4.trans s5) _ _ hN3,?_,?_⟩
   ·intro e H6 s6;rw[e]at oF;have Yi:=WN.trans s6;exact⟨_,rfl,_,rfl,bW ⟨aO,λout ho=>k.pure hR oF (Yi.trans (aE ho)) (Yi.free ho) aB⟩⟩
   ·intro c e hc3 H6 a s6 ha;rw[e]at oF;have Yi:=WN.trans s6;have Y6:((aLz c).map V.int).length=c.length:=by rw[d8];unfold kN;rw[aLx]
    refine⟨_,rfl,_,rfl,cG ⟨_,rfl,a,_,rfl,.inr (eE.of ha),aO,λp hp=>?_⟩⟩
    have s7:=aE (o:=.lst [V.int (((aLz c).map V.int).length:Int)]) hp;refine⟨_,rfl,a,_,rfl,.inr (eE.of (s7 _ _ ha)),λp2 Kg=>?_⟩;have s8:=aE (o:=.lst ((aLz c).map V.int)) Kg;refine⟨p,p2,_,_,rfl,rfl,s8 _ _ aB,aB,by rw[Y6];exact aMm (bB (show 1+_<=1000 by omega)),λout ho=>?_⟩
    refine k.pure hR oF ((Yi.trans (s7.trans s8)).trans (aE ho)) ((Yi.trans (s7.trans s8)).free ho) ?_;rw[aB,Y6];unfold aMl;rw[aM2,dH];rfl
theorem Lz{H:Hp}:∀{ls:List V} {l:List bO},aQ H ls l->aS H ls (l.map aNM)
 |_,_,.nil=>.nil
 |_,_,.cons ⟨a,e,h⟩ t=>.cons ⟨a,e,h⟩ (Lz t)
def Kw(iT:List (List Int))(k:Nat):Option Int:=if k=0 then none else some ((iT.getD (k-1) []).getD 1 0)
def uk{α:Type}{l:List α}{i:Nat}{x:α}(h:l[i]?=some x):l.drop i=x::l.drop (i+1):=by
 obtain⟨hl,he⟩:=aM0.mp h
 rw[aQy hl,he]
def getD_some{α:Type}{l:List α}{i:Nat}{x d:α}(h:l[i]?=some x):l.getD i d=x:=by rw[aMW,h];rfl
def RgC.four{n:Nat}(hn:n<=100):RgC 0 ((4*n:Nat):Int) 4 n:=by
 have e:aPr 0 ((4*n:Nat):Int) 4=(n:Int):=by
  unfold aPr;rw[if_pos (by decide)]
  split<;>omega
 refine⟨by decide,by decide,?_,e⟩
 unfold aRo;rw[e,if_pos (show(4:Int)>0 by decide)]
 have h4:((4*n:Nat):Int)=4*(n:Int):=by omega
 rw[h4]
 have hn:(n:Int)<=100:=by omega
 have hn0:(0:Int)<=(n:Int):=by omega
 generalize(n:Int)=m at hn hn0
 unfold Builtin.Range.rangeFitsLong;simp only[aM5,Bool.or_eq_true,decide_eq_true_eq,beq_iff_eq];omega
inductive qb(vs:List V)(H:Hp)(Q:VK)(E:XK):Prop
 |mk:∀(G L:Addr) (gs ls:List V) (iT:List (List Int)) (l:List bO),vs=[.ref G,.ref L]->H G=some (.lst gs)->aS H gs iT->(∀r∈iT,r.length=4)->H L=some (.lst ls)->aQ H ls l->(∀H',aV H H'->Q (.bl (WQ (l.map aNM) none iT)) H')->qb vs H Q E
def X2(T:Txt K mg A):bQ P w K mg base eV 1 A.Fl A.Fs ["given","lines"] qb:=by
 refine T.Fe.ok Ck (λvs H Q E h=>?_) (λd3 A' outer s H vs Q E hr h=>?_)
 ·obtain⟨G,L,gs,ls,iT,l,rfl,_⟩:=h;rfl
 ·obtain⟨G,L,gs,ls,iT,l,rfl,hG,ve,h4,hL,gN,q⟩:=h
  have hgl:=aS.length ve;refine⟨_,(aC (cT aP5 rfl (vR rfl T.iH (aA (pv 0) aD)) (rO rfl (bY (jN 2 Ck.nd) (bY (jN 3 Ck.nd) k8))) (aC (bE (aL (JA hr.units) (pv 3) (pv 1) (by rfl)) (aF (aI jQ)) aN)
   (aF (bE (PW.pt (w9 (aL iG (pv 2) aG (aP _)) (sY (aL LA (Om (fO (pv 0) (bH oK (pv 2) aG)) aG) (Om (pv 3) aG) (aP _))))) (aF (aI jQ)) aN))))
   (aF (aI jQ))),?_⟩
  refine⟨_,rfl,G,_,rfl,aZ.of hG,uI (K:=K) (a:=G) (xs:=gs)
   (λi σ H'=>∃v2 v3:Option V,σ=[some (.ref G),some (.ref L),v2,v3]/\aV H H'/\WQ (l.map aNM) none iT=WQ (l.map aNM) (Kw iT i) (iT.drop i)) ?_ ?_ ?_ ?_⟩
  ·exact⟨none,none,rfl,λ_ _ e=>e,rfl⟩
  ·rintro i σ H' _ ⟨_,_,_,s1,_⟩;exact aZ.of (s1 _ _ hG)
  ·rintro i x σ H' t hx ⟨v2,v3,rfl,s1,FQ⟩ ht;have T6:i<iT.length:=by rw[<-hgl];exact(aM0.mp hx).1
   obtain⟨r,hr⟩:∃r,iT[i]?=some r:=⟨_,aMK T6⟩
   obtain⟨ra,lj,hrt⟩:=aS.get ve hr
   rw[hx]at lj
   injection lj with lj;subst lj;have s2:=aE (o:=.tup [.int (i:Nat),.ref ra]) ht;have kY:=s1.trans s2;have aFT:=kY _ _ hrt;have oA:=h4 r (aMZ hr);rw[uk hr]at FQ;have FQ:WQ (l.map aNM) none iT=((l.map aNM).contains r&&(match Kw iT i with
    |none=>true
    |some x=>decide (x=r.getD 0 0))&&WQ (l.map aNM) (some (r.getD 1 0)) (iT.drop (i+1))):=FQ
   refine⟨t,_,rfl,eE.of aB,rfl,_,_,rfl,_,_,rfl,rfl,?_⟩
   refine⟨_,rfl,_,rfl,L,ls,ra,r,_,rfl,aZ.of (kY _ _ hL),rfl,aFT,aS.same (Lz gN) kY,_,rfl,?_⟩
   rw[if_pos rfl]
   cases hc:(l.map aNM).contains r with
   | false=>
    rw[hc,aNO,aNO]at FQ
    rw[FQ]at q
    exact bW (q _ kY)
   |true=>
   rw[hc,aNJ]at FQ
   have next:(match Kw iT i with
    |none=>true
    |some x=>decide (x=r.getD 0 0))=true->∃v2 v3:Option V,[some (V.ref G),some (V.ref L),some (V.int (i:Nat)),some (V.ref ra)]=[some (V.ref G),some (V.ref L),v2,v3]/\aV H (upd H' t (.tup [.int (i:Nat),.ref ra]))/\WQ (l.map aNM) none iT=WQ (l.map aNM) (Kw iT (i+1)) (iT.drop (i+1)):=by
    intro hp;rw[hp,aNJ]at FQ;refine⟨_,_,rfl,kY,FQ.trans ?_⟩;unfold Kw;rw[if_neg (by omega),show i+1-1=i by omega,getD_some hr]
   refine cG ⟨_,rfl,_,_,rfl,rfl,_,rfl,?_⟩;refine cA (λc=>?_) (λc=>?_)
   ·have c:=dT c;obtain⟨m,rfl⟩:∃m,i=m+1:=⟨i-1,by omega⟩
    obtain⟨r',hr'⟩:∃r',iT[m]?=some r':=⟨_,aMK (by omega)⟩
    obtain⟨rb,hrb,hrt'⟩:=aS.get ve hr'
    have hlr':=h4 r' (aMZ hr');have hpv:Kw iT (m+1)=some (r'.getD 1 0):=by unfold Kw;rw[if_neg (by omega),show m+1-1=m by omega,getD_some hr']
    rw[hpv]at FQ next
    refine⟨_,rfl,_,rfl,_,_,rfl,rfl,G,_,_,_,rfl,rfl,aZ.of (kY _ _ hG),G0 (j:=m) (by omega) hrb,rb,_,_,_,rfl,rfl,eE.of (kY _ _ hrt'),tD (d:=r') (i:=1) (by omega),_,rfl,ra,_,_,_,rfl,rfl,eE.of aFT,tD (d:=r) (i:=0) (by omega),rfl,_,rfl,?_⟩
    refine cA (λc2=>?_) (λc2=>?_)
    ·have c2:=Yr c2;have e:(match some (r'.getD 1 0)with
      |none=>true
      |some x=>decide (x=r.getD 0 0))=false:=decide_eq_false c2
     rw[e,aNO]at FQ
     rw[FQ]at q
     exact q _ kY
    ·have c2:=Yt c2;exact next (decide_eq_true c2)
   ·have c:=dF c;have:i=0:=by omega
    subst this;exact cG (next rfl)
  ·rintro σ H' ⟨v2,v3,rfl,s1,FQ⟩;rw[hgl,aOf]at FQ;have FQ:WQ (l.map aNM) none iT=true:=FQ;rw[FQ]at q;exact q _ s1
def MO(T:Txt K mg A):bQ P w K mg base eV 5 A.qS A.xE ["record","numbers","rows"] (gF A 0 1 λ_ rows=>.check (rows.getD 0 [])):=by
 refine T.yR.ok iA (λvs H Q E h=>?_) (λd3 A' outer s H vs Q E hr h=>?_)
 ·obtain⟨r,ln,lr,f,st,nums,rows,rs,rfl,_⟩:=h;rfl
 ·obtain⟨r,ln,lr,f,st,nums,rows,rs,rfl,hR,pX,oA,rK,hn,hk,rH,k⟩:=h
  have k:gW A H r f st (.check (rows.getD 0 [])) Q:=k;obtain⟨ra,lj,n9,EU⟩:=k5 rK (i:=0) (by omega)
  generalize rows.getD 0 []=l at*;have Kf:(l.map V.int).length=l.length:=aLx _;have vK:aMn (.check l)=(decide (l.length<=200)&&l.length % 4==0):=rfl;refine⟨_,(aC (dE 3 iA.nd (fO (pv 2) aG))
   (aC (bE (PW.pt (jR (aL LA (bH aCS (bJ aW (by rfl) T.eX c8 (aA (pv 3) aD)) aG) aG (aP _)) (gX (aL iG (bJ aW (by rfl) T.eX c8 (aA (pv 3) aD)) (bH PB aG (aM rfl T.MR)) (aP _))))) (aF (aI (aR (aA (aM rfl T.eA) aD)))) aN)
   (aC (CM (i:=5) rfl iA.nd rfl rfl (Gh rfl rfl rfl rfl) (OS rfl T.AU (aA aG (aA (bJ aW (by rfl) T.eX c8 (aA (pv 3) aD)) (aA aG aD)))) (own:=[("place",4)]) (by show oG ["record","numbers","rows","row","place","given","line"] (aH qE) _ _;exact⟨rfl,by decide +kernel,by decide +kernel,by decide +kernel,by decide +kernel⟩) (λ_ _ _ _ _=>by exact(jN 4 iA.nd)) (λ_ _ _ _ _=>by exact vV) (λ_ _ _ _ _=>by exact(hJ (MM K) (by rfl) T.Dq zL (aA (uJ (sj K) (pv 3) (jL (pv 4)) (jL (bH cH (pv 4) aG))) aD))))
   (aC (bE (fG (dC (cF T.Fe (X2 T) hr T.Z4 (Z2 T) (aA (pv 5) (aA (cF T.cU (cX T) hr T.dN (dM T) (aA (pv 0) aD)) aD))))) (aF (aI (aR (aA aG aD)))) aN)
   (aC (bE (fG (CN (pv 5) (λ_=>rfl))) (aF (aI (aR (aA aG (aA aG (aA aG (aA aG aD))))))) aN)
   (aF (aI (aR (aA aG (aA (Om (fO (pv 5) aG) aG) (aA (Om (fO (pv 5) (CF uF aG)) aG) (aA (bJ (ZH rfl) (by rfl) T.mx ZI (aA (GZ rfl iA.nd (cI (pv 5)) (own:=[("line",6)]) (by show oG ["record","numbers","rows","row","place","given","line"] (aH qE) _ _;exact⟨rfl,by decide +kernel,by decide +kernel,by decide +kernel,by decide +kernel⟩) (λ_ _ _ _ _=>by exact(jN 6 iA.nd)) (λ_ _ _ _ _=>by exact vV) (λ_ _ _ _ _=>by exact(Ky (PQ K) (pv 6) aG (λ_ _=>rfl)))) aD)) aD)))))))))))),?_⟩
  refine⟨_,rfl,lr,_,_,_,rfl,rfl,aZ.of oA,lj,?_⟩
  have Zt:aMn (.check l)=false->1<=sizeLine/\∀o,H o=aP4->Q (.ref o) (upd H o (.lst [V.int (-1)])):=by
   intro hb;exact⟨by decide,λout ho=>k.pure hR (ans:=[-1]) (lO hb) (aE ho) ho aB⟩
  refine⟨_,rfl,ra,_,rfl,.inl (aZ.of n9),_,_,rfl,rfl,by show(0:Int)<4;decide,rfl,_,rfl,?_⟩
  rw[Kf]
  refine cA (λc=>bW (Zt ?_)) (λc=>?_)
  ·have c:=Yr c;rw[vK,show(l.length % 4==0)=false from beq_eq_false_iff_ne.2 (by omega),aNT]
  have c1:=Yt c;refine⟨_,rfl,ra,_,rfl,.inl (aZ.of n9),_,_,rfl,rfl,.inl ⟨by decide,by decide⟩,_,_,rfl,rfl,_,rfl,?_⟩
  rw[Kf]
  refine cA (λc=>Zt ?_) (λc=>?_)
  ·have c:=dT c;rw[vK,decide_eq_false (by omega),aNO]
  have c2:=dF c;obtain⟨n,hn4⟩:∃n,l.length=4*n:=⟨l.length / 4,by omega⟩
  have hn50:n<=50:=by omega
  have Yb:aMn (.check l)=true:=by rw[vK,decide_eq_true (by omega),show(l.length % 4==0)=true from beq_iff_eq.2 (by omega)];rfl
  obtain⟨T7,hf4⟩:=Wj n l hn4
  have hfg:=W7 n l hn4;have hrc:=RgC.four (n:=n) (by omega)
  have rL:aMY st (.check l)=(st,match(if WQ (Ba st) none (dI l)=true then some (fv (dI l),Nw none (dI l))else none)with
    |none=>[0]
    |some (w,j)=>[1,l.headD 0,((j.getD 0:Nat):Int),w]):=by
   rw[uO Yb]
   have:=XR st n l none hn4
   show(st,match aRC st none l with
    |none=>[0]
    |some (w,j)=>[1,l.headD 0,((j.getD 0:Nat):Int),w])=_
   rw[this]
   rfl
  refine⟨_,rfl,ra,_,rfl,.inl (aZ.of n9),0,_,4,n,rfl,by rw[Kf,hn4];exact hrc,λG hG=>jy (lo:=0) (c:=4) (n:=n) (λj H3=>aV H H3/\∃gs,H3 G=some (.lst gs)/\aS H3 gs ((dI l).take j)) ?_ ?_ ?_⟩
  ·exact⟨aE hG,[],aB,.nil⟩
  ·rintro j H3 hj ⟨s3,gs,hG3,ve⟩;have hgl:gs.length=j:=by rw[aS.length ve,aMj];omega
   have ej:(0:Int)+(j:Nat)*4=((4*j:Nat):Int):=by omega
   have ej4:((4*j:Nat):Int)+4=((4*j+4:Nat):Int):=by omega
   rw[ej]
   refine⟨rfl,WV ⟨_,rfl,_,rfl,_,rfl,_,rfl,_,_,rfl,rfl,_,rfl,ra,_,rfl,aZ.of (s3 _ _ n9),λp hp=>?_⟩⟩
   have aCv:oE (l.map V.int) (some ((4*j:Nat):Int)) (some (((4*j:Nat):Int)+4))=((l.take (4*j+4)).drop (4*j)).map V.int:=by
    rw[ej4];exact G7 l (4*j) (4*j+4)
   have s4:=aE (o:=.lst (oE (l.map V.int) (some ((4*j:Nat):Int)) (some (((4*j:Nat):Int)+4)))) hp;refine⟨p,_,rfl,.inl ⟨aZ.of aB,λt ht=>?_⟩⟩;have s5:=aE (o:=.tup (oE (l.map V.int) (some ((4*j:Nat):Int)) (some (((4*j:Nat):Int)+4)))) ht;have Mm:=s4.trans s5;have hG5:=Mm _ _ hG3;have htv:upd (upd H3 p (.lst (oE (l.map V.int) (some ((4*j:Nat):Int)) (some (((4*j:Nat):Int)+4))))) t (.tup (oE (l.map V.int) (some ((4*j:Nat):Int)) (some (((4*j:Nat):Int)+4)))) t=some (.tup (((l.take (4*j+4)).drop (4*j)).map V.int)):=by rw[aB,aCv]
   have ntG:t≠G:=c7 htv hG5 (by intro q;cases q)
   refine⟨_,hG5,bB (by omega),bI (s3.trans Mm) hG,gs++[.ref t],aB,?_⟩
   rw[bK (hfg j hj)]
   exact eK ⟨t,rfl,cD _ _ htv ntG⟩ (aS.but (aS.same ve Mm) hG5 cD)
  ·rintro H3 ⟨s3,gs,hG3,ve⟩;rw[<-T7,aMe]at ve;have hgl:gs.length=n:=by rw[aS.length ve,T7]
   refine⟨_,rfl,_,rfl,r,f,st,rfl,hR.same s3,λH4 L ls s4 Y8 hL gN=>?_⟩
   have fj:=s3.trans s4;refine⟨G,L,gs,ls,dI l,aMJ st,rfl,s4 _ _ hG3,aS.same ve s4,hf4,hL,gN,λH5 s5=>⟨_,rfl,?_⟩⟩;have Mm:=s4.trans s5;have WN:=s3.trans Mm;have hE:(aMJ st).map aNM=Ba st:=rfl;rw[hE];cases FQ:WQ (Ba st) none (dI l)with
   | false=>
    rw[FQ,if_neg (by decide)]at rL
    exact bW ⟨aO,λout ho=>k.pure hR rL (WN.trans (aE ho)) (WN.free ho) aB⟩
   |true=>
   rw[FQ,if_pos rfl]at rL
   refine cG ⟨_,rfl,_,.inl ⟨_,aZ.of (Mm _ _ hG3),rfl⟩,?_⟩;have aDA:=aS.same ve Mm;cases n with
   | zero=>
    have e1:gs=[]:=aNU.1 hgl;have e2:dI l=[]:=aNU.1 T7;have e3:l=[]:=aNU.1 (by omega)
    have aAR:=rL.trans (show _=(st,[1,0,0,0])by rw[e2,e3];rfl)
    rw[e1]
    exact bW ⟨vT,λout ho=>k.pure hR aAR (WN.trans (aE ho)) (WN.free ho) aB⟩
   | succ n=>
    obtain⟨g0,gr,hge⟩:∃g0 gr,gs=g0::gr:=by
     cases gs with
     |nil=>simp at hgl
     |cons a b=>exact⟨a,b,rfl⟩
    obtain⟨r0,Oi⟩:∃r0,(dI l)[0]?=some r0:=⟨_,hfg 0 (by omega)⟩
    obtain⟨rl,fh⟩:∃rl,(dI l)[n]?=some rl:=⟨_,hfg n (by omega)⟩
    obtain⟨a0,ha0,ht0⟩:=aS.get aDA Oi
    obtain⟨al,Oe,ma⟩:=aS.get aDA fh
    have hl0:=hf4 r0 (aMZ Oi);have hll4:=hf4 rl (aMZ fh);have fg:r0.getD 0 0=l.headD 0:=by
     have:=hfg 0 (by omega)
     rw[Oi]at this
     have:=aP6 this
     rw[this]
     match l,hn4 with
     |a::b::c::d::l',_=>rfl
    have Y9:(dI l).getLast?=some rl:=by rw[aPO,T7];exact fh
    have hlb:((Nw none (dI l)).getD 0:Nat)=(rl.getD 1 0).toNat:=by rw[XB _ _ _ Y9];rfl
    have hnn:0<=rl.getD 1 0:=ay (de FQ rl (aMZ fh));rw[hge];refine cG ?_;have hG5:=Mm _ _ hG3;refine⟨_,rfl,G,_,_,_,rfl,rfl,aZ.of hG5,dS (j:=0) ha0,a0,_,_,_,rfl,rfl,eE.of ht0,tD (d:=r0) (i:=0) (by omega),_,rfl,_,rfl,G,_,_,_,rfl,rfl,aZ.of hG5,CK (j:=n) hgl Oe,al,_,_,_,rfl,rfl,eE.of ma,tD (d:=rl) (i:=1) (by omega),?_⟩
    refine⟨_,rfl,G,rfl,⟨_,aZ.of hG5⟩,λS hS=>mQ (K:=K) (a:=G) (xs:=gs) (λj H6=>aV H5 H6/\H6 S=some (.lst ((((dI l).take j).map λr=>r.getD 2 0).map V.int))) ?_ ?_ ?_ ?_⟩
    ·exact⟨aE hS,aB⟩
    ·rintro j H6 _ ⟨s6,_⟩;exact aZ.of (s6 _ _ hG5)
    ·rintro j z H6 hz ⟨s6,hS6⟩;have Ke:j<(dI l).length:=by rw[T7,<-hgl];exact(aM0.mp hz).1
     obtain⟨rj,hrj⟩:∃rj,(dI l)[j]?=some rj:=⟨_,aMK Ke⟩
     obtain⟨aj,haj,htj⟩:=aS.get aDA hrj
     rw[hz]at haj
     injection haj with haj;subst haj;have hlj:=hf4 rj (aMZ hrj);refine⟨rfl,WV ⟨_,rfl,aj,_,_,_,rfl,rfl,eE.of (s6 _ _ htj),tD (d:=rj) (i:=2) (by omega),_,hS6,bB ?_,bI s6 hS,?_⟩⟩
     ·rw[aLx,aLx,aMj];omega
     ·rw[aB,bK hrj,aMU,aMU];rfl
    ·rintro H6 ⟨s6,hS6⟩;rw[hgl,<-T7,aMe]at hS6;have Yi:=WN.trans s6;refine⟨S,_,rfl,aZ.of hS6,vT,λout ho=>?_⟩;have aAR:aMY st (.check l)=(st,[1,l.headD 0,(((Nw none (dI l)).getD 0:Nat):Int),fv (dI l)]):=rL;rw[hlb,<-fg,aOT hnn]at aAR;exact k.pure hR aAR (Yi.trans (aE ho)) (Yi.free ho) aB
def zB(C:Addr)(H:Hp)(a:Addr)(x:Itm)(na:Addr):Prop:=∃(dx:Addr) (b:Nat),H a=some (.ins C dx (itemF x na b))
def zB.same{C:Addr}{H H':Hp}{a na:Addr}{x:Itm}(h:zB C H a x na)(s:aV H H'):zB C H' a x na:=by
 obtain⟨dx,b,h⟩:=h;exact⟨dx,b,s _ _ h⟩
def zB.but{C D:Addr}{H H':Hp}{a na:Addr}{x:Itm}{xs:List V}(h:zB C H a x na)(hD:H D=some (.lst xs))(k:JW D H H'):zB C H' a x na:=by
 obtain⟨dx,b,h⟩:=h;exact⟨dx,b,k _ _ h (c7 h hD (by intro z;cases z))⟩
def AL(C:Addr)(H:Hp)(as:List Addr)(q:List (Itm×Addr)):Prop:=Paired (λa z=>zB C H a z.1 z.2) as q
def Mu(A:jK)(H:Hp)(q:List (Itm×Addr)):Prop:=∀z∈q,iU z.1=3->(nameOf z.1=[]/\z.2=A.d7)\/(nameOf z.1≠[]/\mL H z.2 (nameOf z.1))
def LR{C:Addr}{H:Hp}{x dx:Addr}{g:List (Str×V)}(nx:H x=aP4)(T5:H dx=aP4):aV H (upd (upd (upd H dx (.own x)) x (.ins C dx [])) x (.ins C dx g)):=by
 intro c o e;rw[aT (aJ e nx),aT (aJ e nx),aT (aJ e T5)];exact e
inductive bw(A:jK)(vs:List V)(H:Hp)(Q:VK)(E:XK):Prop
 |mk:∀(a na:Addr) (x:Itm),vs=[.ref a]->zB A.bZ H a x na->Q (.int (lay x:Nat)) H->bw A vs H Q E
def HE(T:Txt K mg A):bQ P w K mg base eV 1 A.Cs A.Cc ["item"] (bw A):=by
 refine T.vW.ok Pa (λvs H Q E h=>?_) (λd3 A' outer s H vs Q E hr h=>?_)
 ·obtain⟨a,na,x,rfl,_⟩:=h;rfl
 ·obtain⟨a,na,x,rfl,⟨dx,b,h1⟩,k⟩:=h
  refine⟨_,(aF (aI (eM (PW.pt (jR (aL eW (aU (pv 0) rfl) (aM rfl T.Gm) (aP _)) (gX (aL eW (aU (pv 0) rfl) (aM rfl T.Lu) (aP _))))) (aU (pv 0) rfl) aG))),?_⟩
  refine⟨_,rfl,a,_,dx,_,_,rfl,h1,T.bV,T.cO,dY _ _ _,rfl,_,rfl,?_⟩
  cases x with
  |years n=>exact bW (bW ⟨_,rfl,a,_,dx,_,_,rfl,h1,T.bV,T.gM,lM _ _ _,k⟩)
  |doubts n=>exact cG ⟨_,rfl,a,_,dx,_,_,rfl,h1,T.bV,T.cO,dY _ _ _,rfl,_,rfl,bW ⟨_,rfl,a,_,dx,_,_,rfl,h1,T.bV,T.gM,lM _ _ _,k⟩⟩
  |gap m j=>exact cG ⟨_,rfl,a,_,dx,_,_,rfl,h1,T.bV,T.cO,dY _ _ _,rfl,_,rfl,cG k⟩
  |mark m=>exact cG ⟨_,rfl,a,_,dx,_,_,rfl,h1,T.bV,T.cO,dY _ _ _,rfl,_,rfl,cG k⟩
def I0{C:Addr}{H:Hp}{a:Addr}{x:Itm}{b:Nat}(h:jD C H a x b):∃na,zB C H a x na/\mL H na (nameOf x):=by
 obtain⟨dx,na,h1,h2⟩:=h;exact⟨na,⟨dx,b,h1⟩,h2⟩
def jq(l:List Nat):kN l=(l.map fun(n:Nat)=>(n:Int)).map V.int:=by unfold kN;rw[aNn];rfl
def uo(ns:List Nat):(ns.map fun(n:Nat)=>(n:Int)).sum=((ns.sum:Nat):Int):=by
 induction ns with
 |nil=>rfl
 |cons a l ih=>rw[aM2,aOz,ih,aOz];omega
inductive Wh(A:jK)(vs:List V)(H:Hp)(Q:VK)(E:XK):Prop
 |mk:∀(l:Addr) (q:List (Itm×Nat)),vs=[.ref l]->c6 A.bZ H l q->q.length<=300->(∀H',aV H H'->Q (.int (Kt (q.map (·.1)):Nat)) H')->Wh A vs H Q E
def K8(T:Txt K mg A):bQ P w K mg base eV 2 A.uT A.vE ["parts"] (Wh A):=by
 refine T.vC.ok rT (λvs H Q E h=>?_) (λd3 A' outer s H vs Q E hr h=>?_)
 ·obtain⟨l,q,rfl,_⟩:=h;rfl
 ·obtain⟨l,q,rfl,⟨as,hl,hi⟩,Zz,k⟩:=h
  have IF:=bG hi;refine⟨_,(aF (aI (bJ (ZH rfl) (by rfl) T.mx ZI (aA (GZ rfl rT.nd (cI (pv 0)) (own:=[("item",1)]) (by show oG ["parts","item"] (aH u7) _ _;exact⟨rfl,by decide +kernel,by decide +kernel,by decide +kernel,by decide +kernel⟩) (λ_ _ _ _ _=>by exact(jN 1 rT.nd)) (λ_ _ _ _ _=>by exact vV) (λ_ _ _ _ _=>by exact(cF T.vW (HE T) hr T.KC (KG T) (aA (pv 1) aD)))) aD)))),?_⟩
  refine⟨_,rfl,l,rfl,⟨_,aZ.of hl⟩,λS hS=>mQ (K:=K) (a:=l) (xs:=as.map V.ref) (λj H3=>aV H H3/\H3 S=some (.lst (kN ((q.take j).map λz=>lay z.1)))) ?_ ?_ ?_ ?_⟩
  ·exact⟨aE hS,aB⟩
  ·rintro j H3 _ ⟨s3,_⟩;exact aZ.of (s3 _ _ hl)
  ·rintro j z H3 hz ⟨s3,Y5⟩;obtain⟨a,ha,rfl⟩:=iK hz;obtain⟨⟨x,b⟩,hx,vJ⟩:=dU hi ha;have Ke:j<q.length:=(aM0.mp hx).1;obtain⟨na,h0,_⟩:=I0 (vJ.same s3);refine⟨rfl,WV ⟨_,rfl,a,na,x,rfl,h0,_,Y5,bB ?_,bI s3 hS,?_⟩⟩
   ·unfold kN;rw[aLx,aLx,aMj];omega
   ·rw[aB,bK hx,aMU]
    unfold kN;rw[aMU];rfl
  ·rintro H3 ⟨s3,Y5⟩;rw[aLx,IF,aMe]at Y5;rw[jq]at Y5;have es:(((q.map λz=>lay z.1).map fun(n:Nat)=>(n:Int))).sum=((Kt (q.map (·.1)):Nat):Int):=by
    rw[uo]
    unfold Kt;rw[aNn];rfl
   refine⟨S,_,rfl,aZ.of Y5,?_⟩
   rw[es]
   exact k H3 s3
inductive nq(A:jK)(vs:List V)(H:Hp)(Q:VK)(E:XK):Prop
 |mk:∀(a na:Addr) (x:Itm) (h:Nat),vs=[.ref a,.int (h:Int)]->zB A.bZ H a x na->iU x<=1->(∀(H':Hp) (r na':Addr),aV H H'->zB A.bZ H' r (JZ x h) na'->Q (.ref r) H')->nq A vs H Q E
def Df(T:Txt K mg A):bQ P w K mg base eV 3 A.yT A.yP ["item","how_many"] (nq A):=by
 refine T.p6.ok Mc (λvs H Q E h=>?_) (λd3 A' outer s H vs Q E hr h=>?_)
 ·obtain⟨a,na,x,h,rfl,_⟩:=h;rfl
 ·obtain⟨a,na,x,h,rfl,⟨dx,b,h1⟩,hk,q⟩:=h
  refine⟨_,(aF (aI (vQ T.IK (kD T) (hr.mono (by decide)) rfl T.IS (mI T) .nil B8 (aA (aU (pv 0) rfl) (aA (eM (aL eW (aU (pv 0) rfl) (aM rfl T.Gm) (aP _)) (pv 1) aG) (aA (pv 1) (aA (gC aD) (aA (aU (pv 0) rfl) aD)))))))),?_⟩
  refine⟨_,rfl,a,_,dx,_,_,rfl,h1,T.bV,T.cO,dY _ _ _,_,rfl,a,_,dx,_,_,rfl,h1,T.bV,T.cO,dY _ _ _,rfl,_,rfl,?_⟩
  cases x with
  | years n=>
   refine bW ⟨_,rfl,_,rfl,aM1 _,λp hp=>?_⟩;have s1:=aE (o:=.tup []) hp;refine⟨_,rfl,a,_,dx,_,_,rfl,s1 _ _ h1,T.bV,T.hW,mS _ _ _,λy dy ny ndy ney=>?_⟩;exact⟨y,dy,p,_,_,_,_,rfl,aB,rfl,q _ y p (s1.trans (LR ny ndy)) ⟨dy,b,aB⟩⟩
  | doubts n=>
   refine cG ⟨_,rfl,aM1 _,λp hp=>?_⟩;have s1:=aE (o:=.tup []) hp;refine⟨_,rfl,a,_,dx,_,_,rfl,s1 _ _ h1,T.bV,T.hW,mS _ _ _,λy dy ny ndy ney=>?_⟩;exact⟨y,dy,p,_,_,_,_,rfl,aB,rfl,q _ y p (s1.trans (LR ny ndy)) ⟨dy,b,aB⟩⟩
  |gap m j=>exact absurd hk (by show¬(2:Int)<=1;decide)
  |mark m=>exact absurd hk (by show¬(3:Int)<=1;decide)
theorem AL.same{C:Addr}{H H':Hp}{as:List Addr}{q:List (Itm×Addr)}(h:AL C H as q)(s:aV H H'):AL C H' as q:=dZ (λ_ _ h=>h.same s) h
theorem AL.but{C D:Addr}{H H':Hp}{as:List Addr}{q:List (Itm×Addr)}{xs:List V}(h:AL C H as q)(hD:H D=some (.lst xs))(k:JW D H H'):AL C H' as q:=dZ (λ_ _ h=>h.but hD k) h
def Mu.same{A:jK}{H H':Hp}{q:List (Itm×Addr)}(h:Mu A H q)(s:aV H H'):Mu A H' q:=λz hz hk=>(h z hz hk).imp id λh=>⟨h.1,s _ _ h.2⟩
theorem Mu.but{A:jK}{D:Addr}{H H':Hp}{q:List (Itm×Addr)}{xs:List V}(h:Mu A H q)(hD:H D=some (.lst xs))(k:JW D H H'):Mu A H' q:=λz hz hk=>(h z hz hk).imp id λh=>⟨h.1,mL.but h.2 hD k⟩
def Mu.snoc{A:jK}{H:Hp}{q:List (Itm×Addr)}{z:Itm×Addr}(h:Mu A H q)(hz:iU z.1=3->(nameOf z.1=[]/\z.2=A.d7)\/(nameOf z.1≠[]/\mL H z.2 (nameOf z.1))):Mu A H (q++[z]):=λy hy hk=>by
 rcases aMX.1 hy with hy|hy
 ·exact h y hy hk
 ·have:y=z:=by simpa using hy
  subst this;exact hz hk
structure Mt(A:jK)(H0 H:Hp)(D:Addr)(as:List Addr)(q:List (Itm×Addr)):Prop where
 same:aV H0 H
 list:H D=some (.lst (as.map V.ref))
 items:AL A.bZ H as q
 nm:Mu A H q
def Mt.to{A:jK}{H0 H H':Hp}{D:Addr}{as:List Addr}{q:List (Itm×Addr)}(h:Mt A H0 H D as q)(s:aV H H'):Mt A H0 H' D as q:=⟨h.same.trans s,s _ _ h.list,h.items.same s,h.nm.same s⟩
def Mt.app{A:jK}{H0 H:Hp}{D a:Addr}{as:List Addr}{q:List (Itm×Addr)}{z:Itm×Addr}(h:Mt A H0 H D as q)(hD:H0 D=aP4)(ha:zB A.bZ H a z.1 z.2)(hz:iU z.1=3->(nameOf z.1=[]/\z.2=A.d7)\/(nameOf z.1≠[]/\mL H z.2 (nameOf z.1))):
  Mt A H0 (upd H D (.lst (as.map V.ref++[V.ref a]))) D (as++[a]) (q++[z]):=
 have bb:=cD (H:=H) (D:=D) (o:=.lst (as.map V.ref++[V.ref a]))
 ⟨bI h.same hD,by rw[aB,aMU];rfl,eK (F:=λa (z:Itm×Addr)=>zB A.bZ _ a z.1 z.2) (ha.but h.list bb) (h.items.but h.list bb),(h.nm.but h.list bb).snoc λhk=>(hz hk).imp id λh2=>⟨h2.1,mL.but h2.2 h.list bb⟩⟩
inductive aBB(A:jK)(vs:List V)(H:Hp)(Q:VK)(E:XK):Prop
 |mk:∀(l:Addr) (i:Int) (pq:List (Itm×Nat)),vs=[.ref l,.int i]->c6 A.bZ H l pq->pq.length<=300->((∀z∈pq,iU z.1=3->nameOf z.1≠[]))->(∀(H':Hp) (r:Addr) (as:List Addr) (q:List (Itm×Addr)),Mt A H H' r as q->H r=aP4->q.map (·.1)=EK i (pq.map (·.1))->Q (.ref r) H')->aBB A vs H Q E
def GG(T:Txt K mg A):bQ P w K mg base eV 4 A.nJ A.nZ ["parts","i"] (aBB A):=by
 refine T.nT.ok eP (λvs H Q E h=>?_) (λd3 A' outer s H vs Q E hr h=>?_)
 ·obtain⟨l,i,pq,rfl,_⟩:=h;rfl
 ·obtain⟨l,i,pq,rfl,⟨ps,hl,hi⟩,Zz,y8,k⟩:=h
  have IF:=bG hi;refine⟨_,(aC (dE 2 eP.nd (aR aD))
   (aC (dE 3 eP.nd (pv 1))
   (aC (cT aP5 rfl (cI (pv 0)) (jN 4 eP.nd) (aC (dE 5 eP.nd (cF T.vW (HE T) hr T.KC (KG T) (aA (pv 4) aD)))
   (aC (bE (qx fP JX aG (pv 3) (pv 5)) (aC (cS (e9 aMa aMr aMs cR (pv 2) (aA (cF T.p6 (Df T) hr T.FO (FH T) (aA (pv 4) (aA (pv 3) aD))) aD)))
   (aC (cS (e9 aMa aMr aMs cR (pv 2) (aA (vQ T.IK (kD T) (hr.mono (by decide)) rfl T.IS (mI T) .nil B8 (aA (aM rfl T.AN) (aA aG (aA aG (aA (AW (v:=V.ref A.d7) rfl T.Ll rfl) (aA (aU (pv 4) rfl) aD)))))) aD)))
   (aF (cS (e9 aMa aMr aMs cR (pv 2) (aA (cF T.p6 (Df T) hr T.FO (FH T) (aA (pv 4) (aA (bH oK (pv 5) (pv 3)) aD))) aD)))))) (aF (cS (e9 aMa aMr aMs cR (pv 2) (aA (pv 4) aD)))))
   (aF (CI (i:=3) eP.nd rfl (aQB rfl) (pv 5) aCY)))))
   (aF (aI (pv 2)))))),?_⟩
  refine⟨aM1 _,λD hD=>?_⟩
  have sD:=aE (o:=.lst []) hD;refine⟨_,rfl,_,rfl,l,rfl,⟨_,aZ.of (sD _ _ hl)⟩,cW (K:=K) (a:=l) (xs:=ps.map V.ref)
   (λj σ H'=>∃(v4 v5:Option V) (left:Int) (as:List Addr) (q:List (Itm×Addr)),σ=[some (.ref l),some (.int i),some (.ref D),some (.int left),v4,v5]/\Mt A H H' D as q/\as.length<=3*j/\q.map (·.1)++EK left ((pq.drop j).map (·.1))=EK i (pq.map (·.1))) ?_ ?_ ?_ ?_⟩
  ·exact⟨none,none,i,[],[],rfl,⟨sD,aB,.nil,λ_ z=>by cases z⟩,aMG _,rfl⟩
  ·rintro j σ H' _ ⟨_,_,_,_,_,_,c,_⟩;exact aZ.of (c.same _ _ hl)
  ·rintro j y σ H' hy ⟨v4,v5,left,as,q,rfl,c,Oe,hq⟩;obtain⟨a,ha,rfl⟩:=iK hy;obtain⟨⟨x,b⟩,hx,vJ⟩:=dU hi ha;have Ke:j<pq.length:=(aM0.mp hx).1;rw[G2 hx,aM2,EK]at hq;obtain⟨na,h0,zA⟩:=I0 (vJ.same c.same);have lb:∀{n:Nat},n<=3*j+2->n<sizeLine:=λh=>bB (by omega)
   have asl:(as.map V.ref).length=as.length:=aLx _;refine⟨_,rfl,a,na,x,rfl,h0,?_⟩;have fin:∀(H5:Hp) (as':List Addr) (q':List (Itm×Addr)),Mt A H H5 D as' q'->as'.length<=3*(j+1)->q'.map (·.1)=q.map (·.1)++(if 0<left/\left<=(lay x:Int)then[JZ x left.toNat,.mark [],JZ x (lay x-left.toNat)]else[x])->
     ∃(v4 v5:Option V) (left':Int) (as:List Addr) (q:List (Itm×Addr)),[some (V.ref l),some (V.int i),some (V.ref D),some (V.int (left-(lay x:Nat))),some (V.ref a),some (V.int (lay x:Nat))]=[some (V.ref l),some (V.int i),some (V.ref D),some (V.int left'),v4,v5]/\Mt A H H5 D as q/\as.length<=3*(j+1)/\q.map (·.1)++EK left' ((pq.drop (j+1)).map (·.1))=EK i (pq.map (·.1)):=by
    intro H5 as' q' c5 hl5 hq5;exact⟨_,_,_,as',q',rfl,c5,hl5,by rw[hq5,aMb];exact hq⟩
   have whole:¬(0<left/\left<=(lay x:Int))->_:=λhn=>fin _ _ _ (c.app (z:=(x,na)) hD h0 λhk=>.inr ⟨y8 (x,b) (aMZ hx) hk,zA⟩) (by rw[aMH];show _+1<=_;omega) (by rw[aMU,if_neg hn];rfl)
   refine⟨_,rfl,_,_,rfl,rfl,_,rfl,?_⟩
   refine cA (λc1=>?_) (λc1=>?_)
   ·have c1:=dT c1;refine⟨_,rfl,_,_,rfl,rfl,_,rfl,?_⟩;refine cA (λc2=>?_) (λc2=>?_)
    ·have c2:=dT c2;have Oj:iU x<=1:=by
      cases x with
      |years n=>show(0:Int)<=1;decide
      |doubts n=>show(1:Int)<=1;decide
      |gap m n=>have c2:left<=0:=c2;omega
      |mark n=>have c2:left<=0:=c2;omega
     have aP:∀h:Nat,iU (JZ x h)≠3:=by
      intro h;cases x with
      |years n=>show(0:Int)≠3;decide
      |doubts n=>show(1:Int)≠3;decide
      |gap m n=>have c2:left<=0:=c2;omega
      |mark n=>have c2:left<=0:=c2;omega
     have el:left=((left.toNat:Nat):Int):=by omega
     have er:((lay x:Nat):Int)-left=((lay x-left.toNat:Nat):Int):=by omega
     refine⟨_,rfl,.inl ⟨rfl,_,aZ.of c.list⟩,_,rfl,_,rfl,a,na,x,left.toNat,by rw[<-el];rfl,h0,Oj,λH5 r1 n1 s5 h5=>?_⟩
     have C5:=c.to s5;refine⟨D,_,_,rfl,rfl,C5.list,lb (by omega),?_⟩
     have C6:=C5.app (z:=(JZ x left.toNat,n1)) hD h5 λhk=>absurd hk (aP _);generalize upd H5 D (.lst (as.map V.ref++[V.ref r1]))=H6 at C6;obtain⟨dx,bb,h1⟩:=h0;obtain⟨dx',na',g1,g2⟩:=vJ.same C6.same;refine⟨_,rfl,.inl ⟨rfl,_,aZ.of C6.list⟩,_,rfl,a,_,dx',_,_,rfl,g1,T.bV,T.hW,mS _ _ _,λy dy ny ndy ney=>?_⟩;refine⟨y,dy,A.d7,_,_,_,_,rfl,aB,rfl,?_⟩;have s7:=LR (C:=A.bZ) (g:=[("kind",.int 3),("least",.int 0),("most",.int 0),("name",.ref A.d7),("behind",.int (b:Int))]) ny ndy;have C7:=C6.to s7;have l6:(as++[r1]).length=as.length+1:=by rw[aMH];rfl
     refine⟨D,_,_,rfl,rfl,C7.list,lb (by rw[aLx,l6];omega),?_⟩
     have C8:=C7.app (a:=y) (z:=(.mark [],A.d7)) hD ⟨dy,b,aB⟩ λ_=>.inl ⟨rfl,rfl⟩;generalize hH8:upd (upd (upd (upd H6 dy (.own y)) y (.ins A.bZ dy [])) y (.ins A.bZ dy [("kind",.int 3),("least",.int 0),("most",.int 0),("name",.ref A.d7),("behind",.int (b:Int))])) D (.lst ((as++[r1]).map V.ref++[V.ref y]))=H8 at C8;have l7:(as++[r1]++[y]).length=as.length+2:=by rw[aMH,l6];rfl
     obtain⟨na8,h08,_⟩:=I0 (vJ.same C8.same)
     refine⟨_,rfl,.inl ⟨rfl,_,aZ.of C8.list⟩,_,rfl,_,rfl,_,rfl,_,_,rfl,rfl,a,na8,x,lay x-left.toNat,by rw[<-er];rfl,h08,Oj,λH9 r2 n2 s9 h9=>?_⟩
     have C9:=C8.to s9;refine⟨D,_,_,rfl,rfl,C9.list,lb (by rw[aLx,l7];omega),?_⟩
     refine⟨_,rfl,_,rfl,_,_,rfl,rfl,fin _ _ _ (C9.app (z:=(JZ x (lay x-left.toNat),n2)) hD h9 λhk=>absurd hk (aP _)) (by rw[aMH,l7];show _+1<=_;omega) ?_⟩
     rw[if_pos ⟨c1,c2⟩,aMU,aMU,aMU,aMb,aMb]
     rfl
    ·have c2:=dF c2;exact⟨_,rfl,.inl ⟨rfl,_,aZ.of c.list⟩,_,rfl,D,_,_,rfl,rfl,c.list,lb (by omega),_,rfl,_,rfl,_,_,rfl,rfl,whole λz=>c2 z.2⟩
   ·have c1:=dF c1;exact⟨_,rfl,cG ⟨_,rfl,.inl ⟨rfl,_,aZ.of c.list⟩,_,rfl,D,_,_,rfl,rfl,c.list,lb (by omega),_,rfl,_,rfl,_,_,rfl,rfl,whole λz=>c1 z.1⟩⟩
  ·rintro σ H' ⟨v4,v5,left,as,q,rfl,c,Oe,hq⟩;rw[aLx,IF,aOf]at hq;have hq:q.map (·.1)++[]=EK i (pq.map (·.1)):=hq;rw[aMc]at hq;exact⟨_,rfl,k H' D as q c hD hq⟩
def fF(q:List (Itm×Addr)):List V:=q.filterMap λz=>if iU z.1=3 then some (.ref z.2)else none
inductive Wa(A:jK)(vs:List V)(H:Hp)(Q:VK)(E:XK):Prop
 |mk:∀(l:Addr) (as:List Addr) (q:List (Itm×Addr)),vs=[.ref l]->H l=some (.lst (as.map V.ref))->AL A.bZ H as q->q.length<=1000->(∀(H':Hp) (r:Addr),aV H H'->H r=aP4->H' r=some (.lst (fF q))->Q (.ref r) H')->Wa A vs H Q E
def QI(T:Txt K mg A):bQ P w K mg base eV 1 A.A2 A.Ad ["parts"] (Wa A):=by
 refine T.lP.ok mG (λvs H Q E h=>?_) (λd3 A' outer s H vs Q E hr h=>?_)
 ·obtain⟨l,as,q,rfl,_⟩:=h;rfl
 ·obtain⟨l,as,q,rfl,hl,hi,cC,k⟩:=h
  refine⟨_,(aF (aI (GZ rfl mG.nd (cI (pv 0)) (own:=[("item",1)]) (by show oG ["parts","item"] (aH AZ) _ _;exact⟨rfl,by decide +kernel,by decide +kernel,by decide +kernel,by decide +kernel⟩) (λ_ _ _ _ _=>by exact(jN 1 mG.nd)) (λ_ _ _ _ _=>by exact(Dm (aL eW (Ga K (pv 1) rfl) (aM rfl T.AN) (aP _)))) (λ_ _ _ _ _=>by exact(Ga K (pv 1) rfl))))),?_⟩
  have IF:=bG hi;refine⟨_,rfl,l,rfl,⟨_,aZ.of hl⟩,λD hD=>mQ (K:=K) (a:=l) (xs:=as.map V.ref) (λi H'=>aV H H'/\H' D=some (.lst (fF (q.take i)))) ?_ ?_ ?_ ?_⟩
  ·exact⟨aE hD,aB⟩
  ·rintro i H' _ ⟨s1,_⟩;exact aZ.of (s1 _ _ hl)
  ·rintro i x H' hx ⟨s1,Nl⟩;obtain⟨a,ha,rfl⟩:=iK hx;obtain⟨⟨y,na⟩,hy,vJ⟩:=dU hi ha;obtain⟨dx,b,h1⟩:=vJ.same s1;have T6:i<q.length:=(aM0.mp hy).1;have GQ:(fF (q.take i)).length<=i:=aM3 (aOx _ _) (by rw[aMj];omega)
   refine⟨rfl,_,rfl,a,_,dx,_,_,rfl,h1,T.bV,T.cO,dY _ _ _,rfl,_,rfl,?_⟩
   refine cA (λh3=>?_) (λh3=>?_)
   ·have h3:=vEq h3;refine⟨_,rfl,a,_,dx,_,_,rfl,h1,T.bV,T.j5,uR _ _ _,_,Nl,bB (by omega),bI s1 hD,?_⟩
    rw[aB,bK hy]
    unfold fF;rw[aOu,aNy,aQk];simp only[h3,if_true]
   ·have h3:=GS h3;refine⟨s1,?_⟩;rw[bK hy];unfold fF;rw[aOu,aNy,aQk];simp only[h3,if_false,aMc];exact Nl
  ·rintro H' ⟨s1,Nl⟩;rw[aLx,IF,aMe]at Nl;exact k H' D s1 hD Nl
inductive pw(A:jK)(vs:List V)(H:Hp)(Q:VK)(E:XK):Prop
 |mk:∀(l:Addr) (as:List Addr) (q:List (Itm×Addr)),vs=[.ref l]->H l=some (.lst (as.map V.ref))->AL A.bZ H as q->q.length<=900->(∀(H':Hp) (r:Addr) (fs:List V),aV H H'->H r=aP4->H' r=some (.lst fs)->cZ H' fs (cV 0 0 (q.map (·.1)))->Q (.ref r) H')->pw A vs H Q E
def N1(T:Txt K mg A):bQ P w K mg base eV 1 A.wQ A.wA ["parts"] (pw A):=by
 refine T.mF.ok cB (λvs H Q E h=>?_) (λd3 A' outer s H vs Q E hr h=>?_)
 ·obtain⟨l,as,q,rfl,_⟩:=h;rfl
 ·obtain⟨l,as,q,rfl,hl,hi,Zz,k⟩:=h
  refine⟨_,(aC (dE 1 cB.nd (aR aD))
   (aC (dE 2 cB.nd aG)
   (aC (dE 3 cB.nd aG)
   (aC (cT aP5 rfl (cI (pv 0)) (jN 4 cB.nd) (aC (CI (i:=2) cB.nd rfl (aQB rfl) (aU (pv 4) rfl) FX)
   (aC (CI (i:=3) cB.nd rfl (aQB rfl) (aU (pv 4) rfl) FX)
   (aF (bE (aL eW (aU (pv 4) rfl) (aM rfl T.AN) (aP _)) (aC (cS (e9 aMa aMr aMs cR (pv 1) (aA (gC (aA (pv 2) (aA (pv 3) aD))) aD)))
   (aC (dE 2 cB.nd aG)
   (aF (dE 3 cB.nd aG)))) aN)))))
   (aC (cS (e9 aMa aMr aMs cR (pv 1) (aA (gC (aA (pv 2) (aA (pv 3) aD))) aD)))
   (aF (aI (pv 1)))))))),?_⟩
  refine⟨aM1 _,λr hr=>?_⟩
  have IF:=bG hi;refine⟨_,rfl,l,rfl,⟨_,aZ.of (aE hr _ _ hl)⟩,cW (K:=K) (a:=l) (xs:=as.map V.ref)
   (λi σ H'=>∃(v:Option V) (lo hi:Int) (fs:List V) (ps:List (Int×Int)),σ=[some (.ref l),some (.ref r),some (.int lo),some (.int hi),v]/\aV H H'/\H' r=some (.lst fs)/\fs.length<=i/\cZ H' fs ps/\ps++cV lo hi ((q.drop i).map fun(z:Itm×Addr)=>z.1)=cV 0 0 (q.map fun(z:Itm×Addr)=>z.1)) ?_ ?_ ?_ ?_⟩
  ·exact⟨none,0,0,[],[],rfl,aE hr,aB,aMG _,.nil,rfl⟩
  ·rintro i σ H' _ ⟨v,_,_,_,_,_,s1,_⟩;exact aZ.of (s1 _ _ hl)
  ·rintro i y σ H' hy ⟨v,lo,hh,fs,ps,rfl,s1,h1,T7,JV,he⟩;obtain⟨a,ha,rfl⟩:=iK hy;obtain⟨⟨x,na⟩,hx,vJ⟩:=dU hi ha;have T6:i<q.length:=(aM0.mp hx).1;obtain⟨dx,b,g1⟩:=vJ.same s1;rw[G2 hx,aM2]at he;refine⟨_,rfl,_,rfl,a,_,dx,_,_,rfl,g1,T.bV,T.qH,Cq _ _ _,_,_,rfl,rfl,?_⟩;refine⟨_,rfl,_,rfl,a,_,dx,_,_,rfl,g1,T.bV,T.gM,lM _ _ _,_,_,rfl,rfl,?_⟩;refine⟨_,rfl,a,_,dx,_,_,rfl,g1,T.bV,T.cO,dY _ _ _,rfl,_,rfl,?_⟩;refine cA (λh3=>?_) (λh3=>?_)
   ·rw[OW (vEq h3)]at he
    refine⟨_,rfl,.inl ⟨rfl,_,aZ.of h1⟩,_,rfl,_,rfl,pZ,λt ht=>?_⟩
    have hb:=aE (o:=.tup [.int (lo+((aM7 x).1:Int)),.int (hh+((aM7 x).2:Int))]) ht;have h1':=hb _ _ h1;refine⟨r,_,_,rfl,rfl,h1',bB (by omega),?_⟩
    refine⟨_,0,0,fs++[V.ref t],ps++[(lo+((aM7 x).1:Int),hh+((aM7 x).2:Int))],rfl,bI (s1.trans hb) hr,aB,by rw[aMH];show _+1<=_;omega,?_,?_⟩
    ·refine eK ⟨t,rfl,?_⟩ (cZ.but (cZ.same JV hb) h1' cD);rw[aT (aJ h1 ht).symm];exact aB
    ·rw[aMb];exact he
   ·rw[MA (GS h3)]at he
    exact⟨_,_,_,fs,ps,rfl,s1,h1,by omega,JV,he⟩
  ·rintro σ H' ⟨v,lo,hh,fs,ps,rfl,s1,h1,T7,JV,he⟩;rw[aLx,IF]at T7 he;rw[aOf]at he;refine⟨_,rfl,.inl ⟨rfl,_,aZ.of h1⟩,_,rfl,_,rfl,pZ,λt ht=>?_⟩;have hb:=aE (o:=.tup [.int lo,.int hh]) ht;have h1':=hb _ _ h1;refine⟨r,_,_,rfl,rfl,h1',bB (by omega),?_⟩
   refine⟨_,rfl,k _ r _ (bI (s1.trans hb) hr) hr aB ?_⟩
   rw[<-he]
   refine eK ⟨t,rfl,?_⟩ (cZ.but (cZ.same JV hb) h1' cD);rw[aT (aJ h1 ht).symm];exact aB
def ZS(q1 q2:List (Itm×Addr)):fF (q1++q2)=fF q1++fF q2:=by unfold fF;rw[aOu]
theorem L4:∀q:List (Itm×Addr),(fF q).length=(aMD (q.map (·.1))).length
 |[]=>rfl
 | (x,a)::q=>by
  have ih:=L4 q;rw[aM2,F9,aMH];cases x with
  |mark n=>show(fF q).length+1=1+_;omega
  |years n=>show(fF q).length=0+_;omega
  |doubts n=>show(fF q).length=0+_;omega
  |gap m n=>show(fF q).length=0+_;omega
def Lj{q:List (Itm×Addr)}{v:V}(h:v∈fF q):∃z∈q,iU z.1=3/\v=.ref z.2:=by
 unfold fF at h;obtain⟨z,hz,hv⟩:=aNd.1 h;by_cases hk:iU z.1=3
 ·rw[if_pos hk]at hv;exact⟨z,hz,hk,(aP6 hv).symm⟩
 ·rw[if_neg hk]at hv;cases hv
def ee{c:aMO}{x:Itm}(h:x∈c)(hk:iU x=3):nameOf x∈aMD c:=by
 obtain⟨n,rfl⟩:=oN hk
 exact aNd.2 ⟨_,h,rfl⟩
inductive qj(A:jK)(vs:List V)(H:Hp)(Q:VK)(E:XK):Prop
 |mk:∀(r:Addr) (f:iJ) (s:aMA) (c:Nat) (i:Int) (pl:aMx) (u y:aMO),vs=[.ref r,.int (c:Int),.int i]->dW A H r f s->c<4->aMf s c=some pl->Kv pl.core i u y->(∀(H':Hp) (L:Addr) (ls:List V),aV H H'->H L=aP4->H' L=some (.lst ls)->aQ H' ls (GV (aMB s) (aMJ s) (Kr s c u) (KP s c y) (GW u) (EL y) (100+c))->Q (.ref L) H')->qj A vs H Q E
def EO(T:Txt K mg A):bQ P w K mg base eV 5 A.lW A.lU ["record","c","i"] (qj A):=by
 refine T.l5.ok eD (λvs H Q E h=>?_) (λd3 A' outer s H vs Q E hr h=>?_)
 ·obtain⟨r,f,st,c,i,pl,u,y,rfl,_⟩:=h;rfl
 ·obtain⟨r,f,st,c,i,pl,u,y,rfl,hR,hc4,AJ,GP,k⟩:=h
  have Ol:=hR.wf;have Zq:=Ol.cores pl (fV AJ);have AI:aMg (c:Int)=true:=by unfold aMg aMP;rw[decide_eq_true (by omega),decide_eq_true (by omega)];rfl
  obtain⟨v,hv1,hv2,CB,_⟩:=tW hR AI
  rw[aNe,AJ]at CB
  obtain⟨ca,rfl,IG⟩:=(show ∃ca,v=.ref ca/\fQ A H ca pl from CB)
  have aHr:=IG;obtain⟨dc,lp,pq,g1,g2,g3⟩:=IG;have vx:pq.length<=300:=by
   have:=congrArg aMi g3
   rw[aLx]at this
   have:=Zq.len
   omega
  have ly:∀x∈pl.core,iU x=3->nameOf x≠[]:=by
   intro x hx hk;obtain⟨n,rfl⟩:=oN hk;exact Oc (Zq.items _ hx)
  have hnu:∀x∈u,iU x=3->nameOf x≠[]:=by
   intro x hx hk e;have:nameOf x∈aMD pl.core:=by rw[GP.names];exact aN3 _ (ee hx hk)
   rw[e]at this
   obtain⟨z,hz,kf⟩:=aNd.1 this
   cases z with
   |mark n=>have kf:n=[]:=aP6 kf;exact ly _ hz rfl kf
   |years n=>cases kf
   |doubts n=>cases kf
   |gap m n=>cases kf
  have hny:∀n∈aMD y,n≠[]:=by
   intro n hn e;have:n∈aMD pl.core:=by rw[GP.names];exact aMz _ hn
   obtain⟨z,hz,kf⟩:=aNd.1 this
   cases z with
   |mark m=>have kf:m=n:=aP6 kf;exact ly _ hz rfl (kf.trans e)
   |years n=>cases kf
   |doubts n=>cases kf
   |gap m n=>cases kf
  refine⟨_,(aC (dE 3 eD.nd (fO (aU (pv 0) rfl) (pv 1)))
   (aC (dE 4 eD.nd (cF T.qF (D8 T) hr T.Ef (FK T) (aA (pv 3) (aA (pv 1) (aA (cF T.mY (Bc T) hr T.Dd (Dh T) (aA (cF T.fU (gJ T) hr T.iO (iP T) (aA (aU (pv 0) rfl) (aA (aU (pv 0) rfl) aD))) aD)) aD)))))
   (aC (dE 5 eD.nd (cF T.nT (GG T) hr T.Hh (Hz T) (aA (aU (pv 3) rfl) (aA (pv 2) aD))))
   (aC (dE 6 eD.nd (e9 aMa aOo aQP (jf hr.units) (cF T.lP (QI T) hr T.A0 (Ah T) (aA (pv 5) aD)) (aA (AW (v:=V.ref A.d7) rfl T.Ll rfl) aD)))
   (aC (dE 7 eD.nd (aR (aA (fO (pv 4) (pv 6)) (aA (cF T.bL (bM T) hr T.bT (bS T) (aA (pv 0) aD)) (aA (fO (pv 4) (bH cH (pv 6) aG)) aD)))))
   (aF (aI (bH fR (cF T.cU (cX T) hr T.dN (dM T) (aA (pv 0) aD)) (cF T.lG (AE T) hr T.Bp (Bq T) (aA (pv 7) (aA (uJ AR (cF T.mF (N1 T) hr T.DG (DA T) (aA (pv 5) aD)) (jL (pv 6)) (jL (bH cH (pv 6) aG))) (aA (bH cH (aM rfl T.Ex) (pv 1)) aD)))))))))))),?_⟩
  refine⟨_,rfl,r,_,f.dr,_,_,rfl,hR.obj,T.bA,T.bD,rfl,_,rfl,f.lc,_,_,_,rfl,rfl,aZ.of hR.cores.1,hv2,?_⟩
  refine⟨_,rfl,_,rfl,_,rfl,r,_,f.dr,_,_,rfl,hR.obj,T.bA,T.bD,rfl,_,rfl,r,_,f.dr,_,_,rfl,hR.obj,T.bA,T.bC,rfl,
   f.lc,f.lt,f.cs,f.ts,st.cores,st.said,rfl,hR.cores,hR.things,Ol.namesOk,λH1 nm ms s1 Y3 zA t8=>?_⟩
  have Oe:aMI ⟨st.cores,st.said⟩=aMI st:=rfl;rw[Oe]at t8;have aEg:=Ol.names;have nd:(aMI st).Nodup:=by unfold aMI;exact A8 _
  refine⟨nm,ms,aMI st,rfl,zA,t8,nd,by omega,λH2 d s2 hd0 hd=>?_⟩
  have kY:=s1.trans s2;refine⟨st,ca,d,c,pl,rfl,aHr.same kY,hd,AJ,Zq.len,λH3 pt s3 hpt0 hpt=>?_⟩;have CC:=kY.trans s3;refine⟨_,rfl,ca,_,dc,_,_,rfl,CC _ _ g1,T.kZ,T.fL,rfl,_,rfl,lp,i,pq,rfl,g2.same CC,vx,λz hz=>ly _ (by rw[<-g3];exact aOb hz),λH4 cu as q C4 hcu0 hq=>?_⟩
  rw[g3]at hq
  obtain⟨zc,hz1,hz2,hz3,hz4⟩:=GP.cut
  rw[hz1]at hq
  obtain⟨q1,q2',hqe,hq1,hq2⟩:=List.map_eq_append_iff.1 hq
  obtain⟨zm,q2,aHM,hzm,hq3⟩:=List.map_eq_cons_iff.1 hq2
  subst aHM;subst hqe;have hul:=GP.len;have hwl:=Zq.len;have aF0:(q1++zm::q2).length<=900:=by
   have e:=congrArg aMi hq;rw[aLx]at e;rw[e,aMH,aMT];omega
  have GU:=CC.trans C4.same;refine⟨_,rfl,cu,as,q1++zm::q2,rfl,C4.list,C4.items,by omega,λH5 mk s5 hmk0 aDE=>?_⟩
  have JT:=GU.trans s5;have aFj:=C4.nm.same s5;have aFp:zm.2=A.d7:=by
   rcases aFj zm (by simp) (by rw[hzm];rfl)with z|z
   ·exact z.2
   ·exact absurd (by rw[hzm];rfl) z.1
  have hmv:fF (q1++zm::q2)=fF q1++.ref A.d7::fF q2:=by
   rw[ZS]
   congr 1
   unfold fF;rw[aNy];have:iU zm.1=3:=by rw[hzm];rfl
   simp only[this,if_true,aFp]
  have aFB:(fF q1).length=(aMD u).length:=by rw[L4,hq1]
  have oth:∀z∈q1++zm::q2,iU z.1=3->nameOf z.1≠[]->∃b ns,V.ref z.2=.ref b/\eE K H5 b (ns.map V.int)/\ns≠[]:=by
   intro z hz hk y8;rcases aFj z hz hk with w|w
   ·exact absurd w.1 y8
   ·exact⟨z.2,aLz (nameOf z.1),rfl,eE.of w.2,λe=>y8 (by have:=congrArg aMi e;rw[dH]at this;exact aNU.1 this)⟩
  rw[hmv]at aDE
  refine⟨.inl ⟨rfl,_,aZ.of aDE⟩,mk,_,A.d7,(aMD u).length,rfl,rfl,aZ.of aDE,T.Xe _,λm v hm hv=>?_,?_,?_⟩
  ·rcases Nat.lt_or_ge m (fF q1).length with jZ | hge
   ·rw[aOZ jZ]at hv
    obtain⟨z,hz,hk,rfl⟩:=Lj (aMZ hv)
    exact oth z (aN3 _ hz) hk (hnu z.1 (by rw[<-hq1];exact aOb hz) hk)
   ·rw[aOL hge]at hv
    obtain⟨m',hm'⟩:∃m',m-(fF q1).length=m'+1:=⟨m-(fF q1).length-1,by omega⟩
    rw[hm',aQM]at hv
    obtain⟨z,hz,hk,rfl⟩:=Lj (aMZ hv)
    refine oth z (aMz _ (aMM _ hz)) hk ?_;have:nameOf z.1∈aMD y:=by
     rw[<-hz3,<-hq3]
     exact ee (aOb hz) hk
    exact hny _ this
  ·rw[<-aFB,aOL (aMG _),aNr];rfl
  have aFa:=(C4.same.trans s5) _ _ hpt;have at1:FR (kN (qX st c pl.core)) ((aMD u).length:Int)=some (V.int (Kr st c u:Nat)):=dS (Gi (qg st c GP.names));have at2:FR (kN (qX st c pl.core)) (((aMD u).length:Int)+1)=some (V.int (KP st c y:Nat)):=G0 (j:=(aMD u).length+1) (by omega) (Gi (pd st c GP.names))
  refine⟨_,rfl,_,rfl,pt,_,_,_,rfl,rfl,aZ.of aFa,at1,_,rfl,r,f,st,rfl,hR.same JT,λH6 s6=>?_⟩
  have Zr:=JT.trans s6;refine⟨_,rfl,_,rfl,_,_,rfl,rfl,pt,_,_,_,rfl,rfl,aZ.of (s6 _ _ aFa),at2,PU,λar har=>?_⟩;have s7:=aE (o:=.lst [V.int (Kr st c u:Nat),V.int (aMB st:Nat),V.int (KP st c y:Nat)]) har;have s17:=Zr.trans s7;refine⟨_,rfl,r,f,st,rfl,hR.same s17,λH8 L ls s8 Y8 hL gN=>?_⟩;have s18:=s17.trans s8;have s58:=s6.trans (s7.trans s8);have C8:=(C4.to (s5.trans s58));refine⟨_,rfl,_,rfl,cu,as,q1++zm::q2,rfl,C8.list,C8.items,aF0,λH9 fl fs s9 hfl0 T7 JV=>?_⟩;have s19:=s18.trans s9;rw[hq,rz]at JV;obtain⟨A1,hA,hAl⟩:=XO u;obtain⟨B1,hB⟩:=XW y;rw[hz2,hA,hB]at JV;have e2:((aMD u).length:Int)+2=(((aMD u).length+2:Nat):Int):=by omega
  refine⟨_,rfl,_,rfl,_,rfl,_,_,rfl,rfl,_,rfl,fl,_,rfl,aZ.of T7,λsl CB=>?_⟩
  have aCv:oE fs (some ((aMD u).length:Int)) (some (((aMD u).length:Int)+2))=(fs.take ((aMD u).length+2)).drop (aMD u).length:=by rw[e2];exact ck _ _ _
  have sa:=aE (o:=.lst (oE fs (some ((aMD u).length:Int)) (some (((aMD u).length:Int)+2)))) CB;have aHe:upd H9 sl (.lst (oE fs (some ((aMD u).length:Int)) (some (((aMD u).length:Int)+2)))) sl=some (.lst ((fs.take ((aMD u).length+2)).drop (aMD u).length)):=by rw[aB,aCv]
  have Kg:cZ (upd H9 sl (.lst (oE fs (some ((aMD u).length:Int)) (some (((aMD u).length:Int)+2))))) ((fs.take ((aMD u).length+2)).drop (aMD u).length) [GW u,EL y]:=by
   have JV:=cZ.same JV sa;have ep:(A1++[GW u]++EL y::B1)=A1++(GW u::EL y::B1):=by rw[aMb];rfl
   rw[ep]at JV
   have aCq:=bG JV;rw[aMH,aMT,aMT,hAl]at aCq;have aHc:∀{fs:List V} {ss:List (Int×Int)} {Hn:Hp} (n k:Nat),cZ Hn fs ss->cZ Hn ((fs.take n).drop k) ((ss.take n).drop k):=by
    intro fs ss Hn n k h;refine pairOf (by rw[aN8,aMj,aN8,aMj,bG h]) λm v z hv hz=>?_
    rw[List.getElem?_drop,List.getElem?_take]at hv hz
    by_cases hm:k+m<n
    ·rw[if_pos hm]at hv hz
     obtain⟨z',hz',hh⟩:=dU h hv
     rw[hz']at hz
     injection hz with hz;subst hz;exact hh
    ·rw[if_neg hm]at hv;cases hv
   have:=aHc ((aMD u).length+2) (aMD u).length JV
   have e3:((A1++(GW u::EL y::B1)).take ((aMD u).length+2)).drop (aMD u).length=[GW u,EL y]:=by
    rw[<-hAl,aON,List.drop_append_of_le_length (aMG _),aOf,show A1.length+2-A1.length=2 by omega]
    rfl
   rw[e3]at this
   exact this
  have s9a:=s9.trans sa;have aHF:upd H6 ar (.lst [V.int (Kr st c u:Nat),V.int (aMB st:Nat),V.int (KP st c y:Nat)]) ar=some (.lst (kN [Kr st c u,aMB st,KP st c y])):=aB;refine⟨_,rfl,_,_,rfl,rfl,ar,sl,100+c,[Kr st c u,aMB st,KP st c y],_,[GW u,EL y],rfl,(s8.trans s9a) _ _ aHF,aHe,Kg,rfl,by show 2<=400;decide,λHb b zs sb hb0 hb B4=>?_⟩
  have s8b:=s9a.trans sb;have Kf:ls.length<=3000:=by rw[bG gN];exact tY Ol
  have fm:zs.length=4:=by rw[bG B4];rfl
  refine⟨L,b,_,_,rfl,rfl,s8b _ _ hL,hb,by rw[fm];exact aMm (dX (by omega)),λout ho=>?_⟩
  have sc:=aE (o:=.lst (ls++zs)) ho;refine k _ out _ ((s18.trans s8b).trans sc) ((s18.trans s8b).free ho) aB ?_;exact Dl (aQ.same gN (s8b.trans sc)) (aQ.same B4 sc)
def FW(s:aMA)(c i:Int):Int:=if i<1\/100000<i then -1 else if k7 s c<0 then k7 s c else match aMf s c.toNat with
 |none=>-4
 |some p=>if(Kt p.core:Int)<i then -9 else if p.on=false then -10 else if aNF s=false then -7 else 0
def aEC(s:aMA)(c:Int)(x y:aMO)(t:List aMt):aMA×List Int:=(s,0::(aPP s t c.toNat x y).1::aNS (aPP s t c.toNat x y).2)
theorem dk(s:aMA)(c i:Int):aMS s (.layer c i)=(match aMf s c.toNat with
  |none=>(s,[-4])
  | some p=>(match aN0 [] p.core i.toNat with
   |none=>(s,[-9])
   |some (x,y)=>if p.on=false then(s,[-10])else aMw s λt=>aEC s c x y t)):=rfl
def zf{s:aMA}{c i:Int}(h:FW s c i<0):aMY s (.layer c i)=(s,[FW s c i]):=by
 have vK:aMn (.layer c i)=(aMg c&&aMP i 1 100000):=rfl;unfold FW at h ⊢;by_cases h1:i<1\/100000<i
 ·rw[if_pos h1]
  refine lO ?_;rw[vK];have:aMP i 1 100000=false:=by
   unfold aMP;rcases h1 with h1|h1
   ·rw[decide_eq_false (by omega)];rfl
   ·rw[decide_eq_false (by omega:¬i<=100000),aNT]
  rw[this,aNT]
 rw[if_neg h1]at h ⊢
 have Mo:aMP i 1 100000=true:=by unfold aMP;rw[decide_eq_true (by omega),decide_eq_true (by omega)];rfl
 rw[Mo,aOa]at vK
 unfold k7 at h ⊢;by_cases h2:aMg c=false
 ·rw[if_pos h2,if_pos (by decide)]
  exact lO (vK.trans h2)
 rw[if_neg h2]at h ⊢
 rw[aOX]at h2
 rw[uO (vK.trans h2),dk]
 cases hc:aMf s c.toNat with
 |none=>rw[if_pos rfl,if_pos (by decide)]
 | some p=>
  rw[hc]at h
  rw[if_neg (by intro z;cases z)]at h ⊢
  simp only[]at h ⊢
  have Bu:1<=i.toNat:=by omega
  by_cases h3:(Kt p.core:Int)<i
  ·rw[if_pos h3,(iQ p.core [] i.toNat Bu).2 (by omega)]
  rw[if_neg h3]at h ⊢
  cases hl:aN0 [] p.core i.toNat with
  |none=>have:=(iQ p.core [] i.toNat Bu).1 hl;omega
  | some xy=>
   obtain⟨x,y⟩:=xy
   simp only[]
   by_cases h4:p.on=false
   ·rw[if_pos h4,if_pos h4]
   rw[if_neg h4]at h ⊢
   rw[if_neg h4]
   by_cases h5:aNF s=false
   ·rw[if_pos h5]
    rw[j3]at h5
    exact IP h5
   ·rw[if_neg h5]at h;exact absurd h (by decide)
def zq{s:aMA}{c i:Int}(h:¬FW s c i<0):∃p x y,aMg c=true/\1<=i/\aMf s c.toNat=some p/\p.on=true/\aN0 [] p.core i.toNat=some (x,y)/\aNE (aMB s) (aML s)=true/\aMY s (.layer c i)=aEC s c x y (aML s):=by
 have vK:aMn (.layer c i)=(aMg c&&aMP i 1 100000):=rfl;unfold FW at h;by_cases h1:i<1\/100000<i
 ·rw[if_pos h1]at h;exact absurd (by decide) h
 rw[if_neg h1]at h
 have Mo:aMP i 1 100000=true:=by unfold aMP;rw[decide_eq_true (by omega),decide_eq_true (by omega)];rfl
 rw[Mo,aOa]at vK
 unfold k7 at h;by_cases h2:aMg c=false
 ·rw[if_pos h2,if_pos (by decide)]at h;exact absurd (by decide) h
 rw[if_neg h2]at h
 rw[aOX]at h2
 rw[uO (vK.trans h2),dk]
 cases hc:aMf s c.toNat with
 |none=>rw[hc,if_pos rfl,if_pos (by decide)]at h;exact absurd (by decide) h
 | some p=>
  rw[hc]at h
  rw[if_neg (by intro z;cases z)]at h
  simp only[]at h ⊢
  have Bu:1<=i.toNat:=by omega
  by_cases h3:(Kt p.core:Int)<i
  ·rw[if_pos h3]at h;exact absurd (by decide) h
  rw[if_neg h3]at h
  by_cases h4:p.on=false
  ·rw[if_pos h4]at h;exact absurd (by decide) h
  rw[if_neg h4]at h
  by_cases h5:aNF s=false
  ·rw[if_pos h5]at h;exact absurd (by decide) h
  rw[aOX,j3]at h5
  cases hl:aN0 [] p.core i.toNat with
  |none=>have:=(iQ p.core [] i.toNat Bu).1 hl;omega
  | some xy=>
   obtain⟨x,y⟩:=xy
   refine⟨p,x,y,h2,by omega,rfl,by simpa using h4,hl,h5,?_⟩
   simp only[]
   rw[if_neg h4,Dr h5]
inductive Wq(A:jK)(vs:List V)(H:Hp)(Q:VK)(E:XK):Prop
 |mk:∀(r:Addr) (f:iJ) (s:aMA) (c i:Int),vs=[.ref r,.int c,.int i]->dW A H r f s->(∀H',aV H H'->Q (.int (FW s c i)) H')->Wq A vs H Q E
def JL(T:Txt K mg A):bQ P w K mg base eV 6 A.r9 A.sR ["record","c","i"] (Wq A):=by
 refine T.rZ.ok zY (λvs H Q E h=>?_) (λd3 A' outer s H vs Q E hr h=>?_)
 ·obtain⟨r,f,st,c,i,rfl,_⟩:=h;rfl
 ·obtain⟨r,f,st,c,i,rfl,hR,q⟩:=h
  unfold FW at q;refine⟨_,(aC (bE (PW.pt (jR (aL fP (pv 2) aG (aP _)) (gX (aL iG (pv 2) (aM rfl T.QO) (aP _))))) (aF (aI (aM rfl T.eA))) aN)
   (aC (dE 3 zY.nd (cF T.fX (iY T) hr T.jY (jX T) (aA (pv 0) (aA (pv 1) aD))))
   (aC (bE (aL fP (pv 3) aG (aP _)) (aF (aI (pv 3))) aN)
   (aC (bE (aL fP (cF T.vC (K8 T) hr T.M4 (MK T) (aA (aU (fO (aU (pv 0) rfl) (pv 1)) rfl) aD)) (pv 2) (aP _)) (aF (aI (aM rfl T.JC))) aN)
   (aC (bE (fG (dC (aU (fO (aU (pv 0) rfl) (pv 1)) rfl))) (aF (aI (aM rfl T.Jy))) aN)
   (aF (aI (eM (dC (cF T.eU (fW T) hr T.gU (gR T) (aA (pv 0) aD))) aG (aM rfl T.hU))))))))),?_⟩
  refine⟨_,rfl,_,_,rfl,rfl,_,rfl,?_⟩
  refine cA (λc1=>?_) (λc1=>?_)
  ·rw[if_pos (.inl (dT c1))]at q
   exact bW (q _ λ_ _ e=>e)
  refine⟨_,rfl,_,_,rfl,rfl,_,rfl,?_⟩
  refine cA (λc2=>?_) (λc2=>?_)
  ·rw[if_pos (.inr (dT c2))]at q
   exact q _ λ_ _ e=>e
  rw[if_neg (λz=>z.elim (dF c1) (dF c2))]at q
  refine⟨_,rfl,_,rfl,r,f,st,c,rfl,hR,?_⟩
  refine⟨_,rfl,_,_,rfl,rfl,_,rfl,?_⟩
  refine cA (λc3=>?_) (λc3=>?_)
  ·rw[if_pos (dT c3)]at q
   exact⟨_,rfl,q _ λ_ _ e=>e⟩
  have c3:=dF c3;rw[if_neg c3]at q;have AI:aMg c=true:=by
   unfold k7 at c3;by_cases h:aMg c=false
   ·rw[if_pos h]at c3;exact absurd (by decide) c3
   ·simpa using h
  obtain⟨v,hv1,hv2,CB,_⟩:=tW hR AI
  cases AJ:aMf st c.toNat with
  |none=>unfold k7 at c3;rw[if_neg (by rw[AI];decide),if_pos AJ]at c3;exact absurd (by decide) c3
  |some pl=>
  rw[AJ]at q CB
  simp only[]at q
  obtain⟨ca,rfl,dc,lp,pq,g1,g2,g3⟩:=(show ∃ca,v=.ref ca/\fQ A H ca pl from CB)
  have Zq:=hR.wf.cores pl (fV AJ);have vx:pq.length<=300:=by
   have:=congrArg aMi g3
   rw[aLx]at this
   have:=Zq.len
   omega
  refine⟨_,rfl,r,_,f.dr,_,_,rfl,hR.obj,T.bA,T.bD,rfl,_,rfl,f.lc,_,_,_,rfl,rfl,aZ.of hR.cores.1,hv2,ca,_,dc,_,_,rfl,g1,T.kZ,T.fL,rfl,lp,pq,rfl,g2,vx,λH1 s1=>?_⟩
  rw[g3]
  refine⟨_,rfl,_,_,rfl,rfl,_,rfl,?_⟩
  refine cA (λc4=>?_) (λc4=>?_)
  ·rw[if_pos (dT c4)]at q
   exact q _ s1
  rw[if_neg (dF c4)]at q
  have R1:=hR.same s1;refine⟨_,rfl,r,_,f.dr,_,_,rfl,R1.obj,T.bA,T.bD,rfl,_,rfl,f.lc,_,_,_,rfl,rfl,aZ.of R1.cores.1,hv2,ca,_,dc,_,_,rfl,s1 _ _ g1,T.kZ,T.lA,rfl,_,rfl,?_⟩;cases vL:pl.on with
  | false=>
   rw[if_pos vL]at q
   exact bW (q _ s1)
  |true=>
  rw[if_neg (by rw[vL];decide)]at q
  refine cG ⟨_,rfl,r,f,st,rfl,R1,λH2 s2=>⟨_,rfl,?_⟩⟩;cases hp:aNF st with
  | false=>
   rw[if_pos hp]at q
   exact cG (q _ (s1.trans s2))
  | true=>
   rw[if_neg (by rw[hp];decide)]at q
   exact bW (q _ (s1.trans s2))
def MQ(T:Txt K mg A):bQ P w K mg base eV 7 A.qN A.x3 ["record","numbers","rows"] (gF A 2 0 λnums _=>.layer (nums.getD 0 0) (nums.getD 1 0)):=by
 refine T.xM.ok mZ (λvs H Q E h=>?_) (λd3 A' outer s H vs Q E hr h=>?_)
 ·obtain⟨r,ln,lr,f,st,nums,rows,rs,rfl,_⟩:=h;rfl
 ·obtain⟨r,ln,lr,f,st,nums,rows,rs,rfl,hR,pX,oA,rK,hn,hk,rH,k⟩:=h
  have k:gW A H r f st (.layer (nums.getD 0 0) (nums.getD 1 0)) Q:=k;have a0:=kP (nums:=nums) (i:=0) (by omega)
  have a1:=kP (nums:=nums) (i:=1) (by omega)
  generalize nums.getD 0 0=c at*;generalize nums.getD 1 0=i at*;have h9:=hR.wf.names;have hm:=cK st;refine⟨_,(aC (dE 3 mZ.nd (cF T.rZ (JL T) hr T.Kb (K3 T) (aA (pv 0) (aA (fO (pv 1) aG) (aA (fO (pv 1) aG) aD)))))
   (aC (bE (aL fP (pv 3) aG (aP _)) (aF (aI (aR (aA (pv 3) aD)))) aN)
   (aC (dE 4 mZ.nd (cF T.l5 (EO T) hr T.GH (GL T) (aA (pv 0) (aA (fO (pv 1) aG) (aA (fO (pv 1) aG) aD)))))
   (aC (dE 5 mZ.nd (cF T.bL (bM T) hr T.bT (bS T) (aA (pv 0) aD)))
   (aF (aI (bH fR (aR (aA aG aD)) (cF T.qZ (Al T) hr T.Cr (DP T) (aA (pv 4) (aA (bH cH (pv 5) aG) (aA (pv 5) aD))))))))))),?_⟩
  refine⟨_,rfl,_,rfl,ln,_,_,_,rfl,rfl,aZ.of pX,a0,_,rfl,ln,_,_,_,rfl,rfl,aZ.of pX,a1,r,f,st,c,i,rfl,hR,λH1 s1=>?_⟩
  refine⟨_,rfl,_,_,rfl,rfl,_,rfl,?_⟩
  refine cA (λc1=>?_) (λc1=>?_)
  ·exact⟨_,rfl,aO,λout ho=>k.pure hR (zf (dT c1)) (s1.trans (aE ho)) (s1.free ho) aB⟩
  obtain⟨pl,x,y,AI,Bu,AJ,vL,aHQ,hfe,rL⟩:=zq (dF c1)
  obtain⟨u,hu,GP⟩:=Wv pl.core [] i.toNat x y (by omega) aHQ
  have hu:x=u:=hu;subst hu;have ei:((i.toNat:Nat):Int)=i:=by omega
  rw[ei]at GP
  have hc4:=(zQ AI).1;have ec:c=((c.toNat:Nat):Int):=by
   unfold aMg aMP at AI;rw[aM5,decide_eq_true_eq,decide_eq_true_eq]at AI;omega
  have fM:=l8.1 hfe;have M:=yt hR.wf hc4 AJ vL GP fM;refine⟨_,rfl,_,rfl,ln,_,_,_,rfl,rfl,aZ.of (s1 _ _ pX),a0,_,rfl,ln,_,_,_,rfl,rfl,aZ.of (s1 _ _ pX),a1,r,f,st,c.toNat,i,pl,x,y,by rw[<-ec];rfl,hR.same s1,hc4,AJ,GP,λH2 L ls s2 Y8 hL gN=>?_⟩
  have kY:=s1.trans s2;refine⟨_,rfl,r,f,st,rfl,hR.same kY,λH3 s3=>?_⟩;have CC:=kY.trans s3;refine⟨aO,λp hp=>?_⟩;have s4:=aE (o:=.lst [V.int 0]) hp;have GU:=CC.trans s4;have fj:=s3.trans s4;have least:=M.least (src:=100+c.toNat) (a:=λv=>aMq (aML st) v) λv hv=>Fi fM hv;have most:=M.most (src:=100+c.toNat) (f:=λv=>aND (aML st) v) λv hv=>OV fM hv;have en:((aMB st:Nat):Int)+1=((aMB st+1:Nat):Int):=by omega
  refine⟨_,rfl,_,rfl,_,_,rfl,rfl,_,rfl,L,aMB st+1,aMB st,ls,_,_,_,by rw[<-en];rfl,fj _ _ hL,aQ.same gN fj,M.inR,by omega,by omega,least.1,M.agesW,least.2,most,λH5 bo s5 aDC hbo=>?_⟩
  refine⟨p,bo,_,_,rfl,rfl,s5 _ _ aB,hbo,by rw[LJ];show 4<=sizeLine;decide,λout ho=>?_⟩
  refine k.pure hR rL ((GU.trans s5).trans (aE ho)) ((GU.trans s5).free ho) ?_;rw[aB,X4];rfl
theorem jS.but{H H':Hp}{D:Addr}:∀{rs:List Addr} {rows:List (List Int)},jS H rs rows->D∉rs->JW D H H'->jS H' rs rows
 |_,_,.nil,_,_=>.nil
 |_,_,.cons r t,n,k=>.cons (k _ _ r (λe=>n (e▸aMN))) (jS.but (show jS H _ _ from t) (λz=>n (aMM _ z)) k)
def jh(l:List (List Int))(x:List Int):jP (l++[x])=jP l+(1+x.length):=by rw[Jd];rfl
inductive L0(K:aMC)(vs:List V)(H:Hp)(Q:VK)(E:XK):Prop
 |mk:∀(a:Addr) (l:List Int) (p k:Nat) (rows:List (List Int)),vs=[.ref a,.int (p:Int),.int (k:Int)]->IL K H a l->rows.length=k->k<=2->((∀i x,rows[i]?=some x->l[p+jP (rows.take i)]?=some (x.length:Int)/\(l.drop (p+jP (rows.take i)+1)).take x.length=x))->(∀(H':Hp) (lr:Addr) (rs:List Addr),aV H H'->H lr=aP4->H' lr=some (.lst (rs.map V.ref))->jS H' rs rows->lr∉rs->(∀b∈rs,H b=aP4)->Q (.ref lr) H')->L0 K vs H Q E
def Pk(T:Txt K mg A):bQ P w K mg base eV 1 A.Cj A.Cw ["calls","place","how_many"] (L0 K):=by
 refine T.Co.ok tJ (λvs H Q E h=>?_) (λd3 A' outer s H vs Q E hr h=>?_)
 ·obtain⟨a,l,p,k,rows,rfl,_⟩:=h;rfl
 ·obtain⟨a,l,p,k,rows,rfl,hS,hk,hk2,n9,q⟩:=h
  refine⟨_,(aC (dE 3 tJ.nd (aR aD))
   (aC (uK aP5 (aL fP (bJ aW (by rfl) T.eX c8 (aA (pv 3) aD)) (pv 2) (aP _)) (aC (dE 4 tJ.nd (bH cH (bH cH (pv 1) aG) (fO (pv 0) (pv 1))))
   (aC (cS (e9 aMa aMr aMs cR (pv 3) (aA (uJ AR (pv 0) (jL (bH cH (pv 1) aG)) (jL (pv 4))) aD)))
   (aF (dE 1 tJ.nd (pv 4))))))
   (aF (aI (pv 3))))),?_⟩
  refine⟨aM1 _,λlr oA=>?_⟩
  have s0:=aE (o:=.lst []) oA;refine⟨λm σ H'=>∃(i:Nat) (e:Option V) (rs:List Addr),σ=[some (.ref a),some (.int ((p+jP (rows.take i):Nat):Int)),some (.int (k:Int)),some (.ref lr),e]/\aV H H'/\H' lr=some (.lst (rs.map V.ref))/\jS H' rs (rows.take i)/\lr∉rs/\(∀b∈rs,H b=aP4)/\i<=k/\m=k-i,
   ⟨k,0,_,[],rfl,s0,aB,.nil,(λz=>by cases z),(λ_ z=>by cases z),aM1 _,rfl⟩,?_⟩
  rintro m σ H' ⟨i,e,rs,rfl,sm,hl,hR,hni,xh,hik,rfl⟩;have cC:rs.length=i:=by rw[bG hR,aMj];omega
  have Y1:(rs.map V.ref).length=i:=by rw[aLx];exact cC
  refine⟨_,rfl,lr,_,rfl,.inl (aZ.of hl),_,rfl,_,_,rfl,rfl,_,rfl,?_⟩
  refine cA (λc=>?_) (λc=>?_)
  ·have c:=dT c;have hi:i<rows.length:=by rw[Y1]at c;omega
   have hx:rows[i]?=some rows[i]:=aMK hi;generalize rows[i]=x at hx;obtain⟨h1,h2⟩:=n9 i x hx;generalize hP:p+jP (rows.take i)=pp at h1 h2;have hS':=sm.seq hS;refine⟨fun σ' H2=>∃m',m'<k-i/\∃(i:Nat) (e:Option V) (rs:List Addr),σ'=[some (.ref a),some (.int ((p+jP (rows.take i):Nat):Int)),some (.int (k:Int)),some (.ref lr),e]/\aV H H2/\H2 lr=some (.lst (rs.map V.ref))/\jS H2 rs (rows.take i)/\lr∉rs/\(∀b∈rs,H b=aP4)/\i<=k/\m'=k-i,λ_ _ h=>h,?_⟩;refine⟨_,rfl,_,_,rfl,rfl,_,rfl,_,rfl,a,_,_,_,rfl,rfl,hS',dS (Yw h1),_,_,rfl,rfl,?_⟩;refine⟨_,rfl,.inl ⟨rfl,_,aZ.of hl⟩,_,rfl,_,rfl,_,_,rfl,rfl,_,rfl,_,rfl,_,rfl,a,_,rfl,hS',λnp hnp=>?_⟩;have hc:oE (l.map V.int) (some ((pp:Int)+1)) (some ((pp:Int)+1+(x.length:Int)))=x.map V.int:=by
    have:=G7 l (pp+1) (pp+1+x.length)
    have e1:((pp+1:Nat):Int)=(pp:Int)+1:=rfl;have e2:((pp+1+x.length:Nat):Int)=(pp:Int)+1+(x.length:Int):=by omega
    rw[e1,e2]at this
    rw[this,aON,show pp+1+x.length-(pp+1)=x.length by omega,h2]
   have nlr:lr≠np:=aJ hl hnp;have sn:=aE (o:=.lst (x.map V.int)) hnp;have hHn:H np=aP4:=sm.free hnp;have e0:upd H' np (.lst (oE (l.map V.int) (some ((pp:Int)+1)) (some ((pp:Int)+1+(x.length:Int)))))=upd H' np (.lst (x.map V.int)):=by rw[hc]
   refine⟨lr,_,_,rfl,rfl,(show upd H' np (.lst (oE (l.map V.int) (some ((pp:Int)+1)) (some ((pp:Int)+1+(x.length:Int))))) lr=some (.lst (rs.map V.ref))from by rw[e0];exact sn _ _ hl),bB (by rw[Y1];omega),?_⟩
   refine⟨_,rfl,_,(show k-(i+1)<k-i by omega),i+1,some (.int ((pp:Int)+1+(x.length:Int))),rs++[np],?_,?_,?_,?_,?_,?_,by omega,rfl⟩
   ·show[some (V.ref a),some (.int ((pp:Int)+1+(x.length:Int))),some (.int (k:Int)),some (.ref lr),_]=_
    rw[bK hx,jh]
    have:((p+(jP (rows.take i)+(1+x.length)):Nat):Int)=(pp:Int)+1+(x.length:Int):=by omega
    rw[this]
   ·show aV H (upd (upd H' np (.lst (oE (l.map V.int) (some ((pp:Int)+1)) (some ((pp:Int)+1+(x.length:Int)))))) lr _);rw[e0];exact bI (sm.trans sn) oA
   ·rw[aB,aMU];rfl
   ·rw[bK hx]
    show jS (upd (upd H' np (.lst (oE (l.map V.int) (some ((pp:Int)+1)) (some ((pp:Int)+1+(x.length:Int)))))) lr _) _ _;rw[e0];refine jS.but (D:=lr) (H:=upd H' np (.lst (x.map V.int))) (eK (F:=fun(a:Addr) (row:List Int)=>upd H' np (.lst (x.map V.int)) a=some (.lst (row.map V.int))) aB (hR.same sn)) ?_ cD;intro z;rcases aMX.1 z with z|z
    ·exact hni z
    ·exact nlr (by simpa using z)
   ·intro z;rcases aMX.1 z with z|z
    ·exact hni z
    ·exact nlr (by simpa using z)
   ·intro b hb;rcases aMX.1 hb with hb|hb
    ·exact xh b hb
    ·rw[show b=np by simpa using hb];exact hHn
  ·have c:=dF c;have hi:rows.take i=rows:=aOn (by rw[Y1]at c;omega)
   rw[hi]at hR
   exact⟨_,rfl,q H' lr rs sm oA hl hR hni xh⟩
def Ta{a b:Bool}(h:(a&&b)=true):b=true:=by cases a with|false=>cases h|true=>exact h
def hdB{a b:Bool}(h:(a&&b)=true):a=true:=by cases a with|false=>cases h|true=>rfl
def dlB{k:Nat}{l:List Int}(h:decide (l.length<=k)=true)(hk:k<=310:=by decide):l.length<=310:=aM3 (of_decide_eq_true h) hk
def aBf{r:List Int}(h:r.length<=310):∀x∈[r],x.length<=310:=λx hx=>by cases hx with|head=>exact h|tail _ h=>cases h
def aBi{r s:List Int}(h:r.length<=310)(k:s.length<=310):∀x∈[r,s],x.length<=310:=λx hx=>by cases hx with|head=>exact h|tail _ z=>exact aBf k x z
def noB{p:Prop}(h:false=true):p:=absurd h aMd
def Zk{q:Int}{nums:List Int}{rows:List (List Int)}:aQ1 ((q::nums)::rows)=true->∀x∈rows,x.length<=310:=by
 rcases rows with _|⟨r,_|⟨s,_|⟨t,m⟩⟩⟩
 ·exact λ_ _ hx=>by cases hx
 all_goals rcases nums with _|⟨x,_|⟨y,_|⟨z,l⟩⟩⟩
 all_goals try exact λh=>noB h
 all_goals rcases q with n|n
 all_goals try exact λh=>noB h
 all_goals(revert n;apply ya)
 all_goals first
  |exact λh=>noB h
  |exact λ_ h=>noB h
  |exact λh=>aBf (dlB (Ta h))
  |exact λh=>aBf (dlB (Ta (Ta h)))
  |exact λh=>aBi (dlB (Ta (hdB h))) (dlB (Ta (Ta h)))
  |exact λh=>aBi (dlB (Ta (hdB (Ta h)))) (dlB (Ta (Ta (Ta h))))
  |exact λh=>aBi (dlB (Ta (hdB (Ta (Ta h))))) (dlB (Ta (Ta (Ta (Ta h)))))
def dW.butList{A:jK}{H H':Hp}{r D:Addr}{f:iJ}{s:aMA}{ns:List V}(h:dW A H r f s)(hD:H D=some (.lst ns))(hn:D∉f.all r)
  (hp:∀(a dx l:Addr) (b:Bool),V.ref a∈f.cs->H a=some (.ins A.dP dx (fE l b))->l≠D) (k:JW D H H'):dW A H' r f s:=by
 have ni:∀{b C d:Addr} {g:List (Str×V)},H b=some (.ins C d g)->H' b=some (.ins C d g):=λe=>k _ _ e (c7 e hD (by intro z;cases z))
 have nt:∀{b:Addr} {xs:List V},H b=some (.tup xs)->H' b=some (.tup xs):=λe=>k _ _ e (c7 e hD (by intro z;cases z))
 have m1:f.lc≠D:=λz=>hn (by rw[<-z];exact aMM _ aMN)
 have m2:f.lt≠D:=λz=>hn (by rw[<-z];exact aMM _ (aMM _ aMN))
 refine⟨ni h.obj,⟨k _ _ h.cores.1 m1,?_⟩,⟨k _ _ h.things.1 m2,dZ (λa x q=>?_) h.things.2⟩,h.ndc,h.ndt,h.wf⟩
 ·refine pairOf (bG h.cores.2) λi v y hv hy=>?_;obtain⟨z,hz,hs⟩:=dU h.cores.2 hv;rw[hz]at hy;injection hy with hy;subst hy;cases z with
  |none=>exact hs
  | some p=>
   obtain⟨ca,rfl,dc,lp,qq,g1,⟨as,g2,g4⟩,g3⟩:=(show ∃ca,v=.ref ca/\fQ A H ca p from hs)
   exact⟨ca,rfl,dc,lp,qq,ni g1,⟨as,k _ _ g2 (hp ca dc lp _ (aMZ hv) g1),mR.but g4 hD k⟩,g3⟩
 ·obtain⟨dd,o',t',g1,g2,g3⟩:=q
  exact⟨dd,o',t',ni g1,nt g2,nt g3⟩
def dW.there{A:jK}{H:Hp}{r:Addr}{f:iJ}{s:aMA}(h:dW A H r f s):∀b∈f.all r,∃o,H b=some o:=by
 intro b hb;unfold iJ.all at hb;simp only[aMR,aMX]at hb;rcases hb with e|e|e|e|e
 ·rw[e];exact⟨_,h.obj⟩
 ·rw[e];exact⟨_,h.cores.1⟩
 ·rw[e];exact⟨_,h.things.1⟩
 ·obtain⟨dc,lp,b',q,g,_⟩:=zM h.cores (Gk e)
  exact⟨_,g⟩
 ·obtain⟨i,hi,hie⟩:=aNa e
  obtain⟨y,hy,dd,oo,tt,g1,_⟩:=dU h.things.2 (i:=i) (a:=b) (by rw[aMK hi,hie])
  exact⟨_,g1⟩
def rf(rows:List (List Int)):(((rows.map λx=>(1+x.length:Int))).sum)=(jP rows:Int):=by
 induction rows with
 |nil=>rfl
 |cons x l ih=>rw[aM2,aOz,ih];show _=((1+x.length+jP l:Nat):Int);omega
def aEa{α:Type}{p:Prop}[Decidable p]{a b:Option α}{x:α}(h:(if p then a else b)=some x):(p/\a=some x)\/(¬p/\b=some x):=by
 by_cases hp:p
 ·rw[if_pos hp]at h;exact .inl ⟨hp,h⟩
 ·rw[if_neg hp]at h;exact .inr ⟨hp,h⟩
def le2{a b n k:Nat}(h:some (a,b)=some (n,k))(hb:b<=2:=by decide):k<=2:=by cases h;exact hb
def Wd{q:Int}{n k:Nat}:aPw q=some (n,k)->k<=2:=by
 rcases q with m|m
 ·revert m;apply ya
  all_goals first
   |exact λh=>le2 h
   |exact λ_ h=>nomatch (show(none:Option (Nat×Nat))=some (n,k)from h)
 ·exact λh=>nomatch (show(none:Option (Nat×Nat))=some (n,k)from h)
def au(A:jK)(q:Int)(t:Addr):Prop:=(q<11/\FR [V.ref A.pD,V.ref A.pF,V.ref A.o2,V.ref A.pA,V.ref A.pI,V.ref A.pM,V.ref A.pC,V.ref A.pH,V.ref A.o5,V.ref A.oS,V.ref A.nL] q=some (V.ref t))\/(¬q<11/\FR [V.ref A.nS,V.ref A.n8,V.ref A.nM,V.ref A.nU,V.ref A.nO,V.ref A.nW,V.ref A.nN,V.ref A.nX,V.ref A.nQ,V.ref A.nI,V.ref A.lT,V.ref A.lZ,V.ref A.l3,V.ref A.lX] (q-11)=some (V.ref t))
inductive aAs(A:jK)(vs:List V)(H:Hp)(Q:VK)(E:XK):Prop
 |mk:∀(q:Int) (t:Addr),vs=[.int q]->au A q t->Q (.ref t) H->aAs A vs H Q E
def Hg(T:Txt K mg A):bQ P w K mg base eV 1 A.pT A.pV ["number"] (aAs A):=by
 refine T.pN.ok IE (λvs H Q E h=>?_) (λd3 A' outer s H vs Q E hr h=>?_)
 ·obtain⟨q,t,rfl,_⟩:=h;rfl
 ·obtain⟨q,t,rfl,EJ,k⟩:=h
  refine⟨_,(aC (bE (aL fP (pv 0) (bJ aW (by rfl) T.eX c8 (aA (AW (v:=V.ref A.e7) rfl T.vD rfl) aD)) (aP _)) (aF (aI (Om (AW (v:=V.ref A.e7) rfl T.vD rfl) (pv 0)))) aN)
   (aF (aI (Om (AW (v:=V.ref A.lF) rfl T.KY rfl) (bH oK (pv 0) (bJ aW (by rfl) T.eX c8 (aA (AW (v:=V.ref A.e7) rfl T.vD rfl) aD))))))),?_⟩
  refine⟨_,rfl,A.e7,_,rfl,.inr (T.sT _),_,_,rfl,rfl,_,rfl,?_⟩
  rcases EJ with⟨h1,h2⟩|⟨h1,h2⟩
  ·refine cA (λc=>?_) (λc=>absurd h1 (dF c));exact⟨_,rfl,A.e7,_,_,_,rfl,rfl,T.sT _,h2,k⟩
  ·refine cA (λc=>absurd (dT c) h1) (λc=>?_);exact⟨_,rfl,A.e7,_,rfl,.inr (T.sT _),_,_,rfl,rfl,A.lF,_,_,_,rfl,rfl,T.JH _,h2,k⟩
def cv(P:aPa)(w:aPc)(K:aMC)(mg:Str->Option Value)(base:Heap)(A:jK):Prop:=∀(q:Int) (n k:Nat),aPw q=some (n,k)->
 ∃(t fa:Addr) (fd:FuncData) (lv:Nat) (mk:List Int->List (List Int)->aN4),au A q t/\(∀H:Hp,eE K H t [.int (n:Int),.int (k:Int),.ref fa])/\aOW K (.ref fa)=true/\
  bQ P w K mg base eV lv fa fd ["record","numbers","rows"] (gF A n k mk)/\lv<=18/\aX K fd ["record","numbers","rows"] []/\
  ∀nums rows,nums.length=n->rows.length=k->aRk ((q::nums)::rows)=some (mk nums rows)
structure aDz(A:jK)(H:Hp)(l:List Int)(r D:Addr)(H':Hp)(place:Nat)(cs:List (List (List Int)))(st:aMA)(f:iJ)(done:List Int):Prop where
 left:fq l place cs
 Ou:dW A H' r f st
 told:H' D=some (.lst (done.map V.int))
 same:aV H H'
 new:∀b∈f.all r,H b=aP4
 apart:D∉f.all r
 parts:∀(a dx l:Addr) (b:Bool),V.ref a∈f.cs->H' a=some (.ins A.dP dx (fE l b))->l≠D
 WR:done++aRS (aQp aQE st cs)=aPx l
 asked:∀c∈cs,aQ1 c=true
 size:done.length+cs.length*20001<=150*20001
inductive ah(A:jK)(H:Hp)(a r D:Addr)(l:List Int)(m:Nat)(σ:L2.St)(H':Hp):Prop
 |mk:∀(place:Nat) (cs:List (List (List Int))) (st:aMA) (f:iJ) (done:List Int) (v4 v5 v6 v7 v8 v9 v10:Option V),σ=[some (.ref a),some (.ref r),some (.ref D),some (.int (place:Int)),v4,v5,v6,v7,v8,v9,v10]->aDz A H l r D H' place cs st f done->m=cs.length->ah A H a r D l m σ H'
def Zc(T:Txt K mg A)(hC:cv P w K mg base A):bQ P w K mg base eV 20 A.zS A.oO ["calls"] (EG K):=by
 refine T.Im.ok eO (λvs H Q E h=>?_) (λd3 A' outer s H vs Q E hr h=>?_)
 ·obtain⟨a,ns,rfl,_⟩:=h;rfl
 ·obtain⟨a,l,rfl,hS,h17,aCc,q⟩:=h
  obtain⟨cs,hcs,aHP,aEf⟩:=answers_asked aCc
  have aFh:=hC;refine⟨_,(aC (dE 1 eO.nd (XH T.Wb (D6 T) (hr.mono (by decide)) rfl T.XQ (Et T) .nil B8))
   (aC (dE 2 eO.nd (aR aD))
   (aC (dE 3 eO.nd aG)
   (aC (uK aP5 (aL fP (pv 3) (bJ aW (by rfl) T.eX c8 (aA (pv 0) aD)) (aP _)) (aC (dE 4 eO.nd (cF T.pN (Hg T) hr T.JP (JK T) (aA (fO (pv 0) (pv 3)) aD)))
   (aC (dE 5 eO.nd (bH cH (bH cH (pv 3) aG) (Om (pv 4) aG)))
   (aC (dE 6 eO.nd (uJ AR (pv 0) (jL (bH cH (pv 3) aG)) (jL (pv 5))))
   (aC (dE 7 eO.nd (cF T.Co (Pk T) hr T.Xm (Xp T) (aA (pv 0) (aA (pv 5) (aA (Om (pv 4) aG) aD)))))
   (aC (dE 8 eO.nd (Om (pv 4) aG))
   (aC (dE 9 eO.nd (rk (pv 8) (aA (pv 1) (aA (pv 6) (aA (pv 7) aD)))))
   (aC (cS (e9 aMa aMr aMs cR (pv 2) (aA (bJ aW (by rfl) T.eX c8 (aA (pv 9) aD)) aD)))
   (aC (cS (e9 aMa aOH aOI zO (pv 2) (aA (pv 9) aD)))
   (sZ (λD0 σ H2=>∃(r D:Addr) (place aIZ:Nat) (rows:List (List Int)) (cs:List (List (List Int))) (st:aMA) (f:iJ) (done:List Int) (lr:Addr) (rs:List Addr) (v3 v4 v6 v8 v9 v10:Option V),σ=[some (.ref a),some (.ref r),some (.ref D),v3,v4,some (.int (place:Int)),v6,some (.ref lr),v8,v9,v10]/\aDz A H l r D H2 (place+jP rows) cs st f done/\H2 lr=some (.lst (rs.map V.ref))/\jS H2 rs rows/\rows.length<=2/\∀σ' H3,ah A H a r D l cs.length σ' H3->D0.nx σ' H3) (aF (dE 3 eO.nd (bH cH (pv 5) (bJ (ZH rfl) (by rfl) T.mx ZI (aA (GZ rfl eO.nd (cI (pv 7)) (own:=[("row",10)]) (by show oG ["calls","record","told","place","call","rows_at","numbers","rows","reply","answer","row"] (aH Io) _ _;exact⟨rfl,by decide +kernel,by decide +kernel,by decide +kernel,by decide +kernel⟩) (λ_ _ _ _ _=>by exact(jN 10 eO.nd)) (λ_ _ _ _ _=>by exact vV) (λ_ _ _ _ _=>by exact(bH cH aG (bJ (Nc K) (by rfl) T.eX c8 (aA (pv 10) aD))))) aD))))) ?cut))))))))))
   (aF (aI (pv 2))))))),?_⟩
  case cut=>
   rintro D0 σ H2 ⟨r,D,place,aIZ,rows,cs,st,f,done,lr,rs,v3,v4,v6,v8,v9,v10,rfl,I,oA,rK,hk2,hN⟩;have cC:=bG rK;refine⟨_,rfl,_,rfl,lr,rfl,⟨_,aZ.of oA⟩,λL hL=>mQ (K:=K) (a:=lr) (xs:=rs.map V.ref) (λi H3=>aV H2 H3/\H3 L=some (.lst (((rows.take i).map λx=>(1+x.length:Int)).map V.int))) ?_ ?_ ?_ ?_⟩
   ·exact⟨aE hL,aB⟩
   ·rintro j H3 _ ⟨s3,_⟩;exact aZ.of (s3 _ _ oA)
   ·rintro j z H3 hz ⟨s3,hL3⟩;obtain⟨ra,ha,rfl⟩:=iK hz;obtain⟨x,hx,n9⟩:=dU rK ha;refine⟨rfl,WV ⟨_,rfl,ra,_,rfl,.inl (aZ.of (s3 _ _ n9)),_,_,rfl,rfl,_,hL3,bB ?_,bI s3 hL,?_⟩⟩
    ·rw[aLx,aLx,aMj];omega
    ·rw[aB,bK hx,aMU,aMU,aLx];rfl
   ·rintro H3 ⟨s3,hL3⟩;rw[aLx,cC,aMe]at hL3;refine⟨L,_,rfl,aZ.of hL3,_,_,rfl,rfl,?_⟩;refine hN _ _ ⟨place+jP rows,cs,st,f,done,v4,some (.int (place:Int)),v6,some (.ref lr),v8,v9,v10,?_,⟨I.left,I.Ou.same s3,s3 _ _ I.told,I.same.trans s3,I.new,I.apart,?_,I.WR,I.asked,I.size⟩,rfl⟩
    ·rw[rf];rfl
    ·intro ca dx lp b IG hH3;obtain⟨dc,lp',b',qq,g1,_⟩:=zM I.Ou.cores IG;have g:=s3 _ _ g1;rw[hH3]at g;obtain⟨rfl,rfl⟩:=tZ (aP6 g);exact I.parts ca _ _ _ IG g1
  intro x dx nx T5 vc;refine⟨x,dx,rfl,aB,λH1 lc lt keep Mh jZ nlt hx1 aAE aAW=>⟨rfl,?_⟩⟩;have s1:aV H H1:=aV.made nx T5 keep;have aAI:H lc=aP4:=by
   have n1:lc≠x:=by rintro rfl;rw[aB]at Mh;cases Mh
   have n2:lc≠dx:=by rintro rfl;rw[aT n1,aB]at Mh;cases Mh
   rw[aT n1,aT n2]at Mh;exact Mh
  have aA2:H lt=aP4:=by
   have n1:lt≠x:=by rintro rfl;rw[aB]at jZ;cases jZ
   have n2:lt≠dx:=by rintro rfl;rw[aT n1,aB]at jZ;cases jZ
   rw[aT n1,aT n2]at jZ;exact jZ
  refine⟨aM1 _,λD hD=>?_⟩
  have s2:=aE (o:=.lst []) hD;have hDH:H D=aP4:=s1.free hD;refine⟨ah A H a x D l,⟨cs.length,0,cs,aPL,⟨dx,lc,lt,[.non,.non,.non,.non],[]⟩,[],_,_,_,_,_,_,_,rfl,⟨Z6 hcs,?_,aB,s1.trans s2,?_,?_,(λca _ _ _ z _=>absurd z (by simp)),?_,aEf,?_⟩,rfl⟩,?_⟩
  ·refine⟨s2 _ _ hx1,⟨s2 _ _ aAE,?_⟩,⟨s2 _ _ aAW,.nil⟩,by show(refsOf [.non,.non,.non,.non]).Nodup;exact aO9,aO9,LS⟩
   exact .cons rfl (.cons rfl (.cons rfl (.cons rfl .nil)))
  ·intro b hb;unfold iJ.all at hb;simp only[aMR,aMX]at hb;rcases hb with h|h|h|h|h
   ·rw[h];exact nx
   ·rw[h];exact aAI
   ·rw[h];exact aA2
   ·exact absurd h (by show b∉(refsOf [.non,.non,.non,.non]);exact aN5)
   ·exact absurd h aN5
  ·intro hb;unfold iJ.all at hb;simp only[aMR,aMX]at hb;rcases hb with h|h|h|h|h
   ·rw[h,hx1]at hD;cases hD
   ·rw[h,aAE]at hD;cases hD
   ·rw[h,aAW]at hD;cases hD
   ·exact absurd h (by show D∉(refsOf [.non,.non,.non,.non]);exact aN5)
   ·exact absurd h aN5
  ·rw[Z0 hcs];rfl
  ·show 0+cs.length*20001<=_;have:=Nat.mul_le_mul_right 20001 aHP;omega
  rintro m σ H2 ⟨place,cs,st,f,done,v4,v5,v6,v7,v8,v9,v10,rfl,I,rfl⟩;have hS2:=I.same.seq hS;refine⟨_,rfl,_,rfl,a,_,rfl,.inl hS2,_,_,rfl,rfl,_,rfl,?_⟩;refine cA (λc=>?_) (λc=>?_)
  ·have c:=dT c;rw[aLx]at c;cases cs with
   |nil=>have:=sh I.left;omega
   |cons c0 cs=>
   obtain⟨qn,n,k,nums,rows,hq,hsh,rfl,hn,hk,htk,IF,aFi,n9⟩:=je I.left
   obtain⟨t,fa,fd,lv,mk,EJ,ht,hkp,hF,hlv,hB,aHL⟩:=aFh qn n k hsh
   have rH:=Zk (I.asked _ aMN);refine⟨fun σ' H'=>∃m',m'<cs.length+1/\ah A H a x D l m' σ' H',λ_ _ h=>h,?_⟩;refine⟨_,rfl,_,rfl,a,_,_,_,rfl,rfl,hS2,dS (Yw hq),qn,t,rfl,EJ,?_⟩;refine⟨_,rfl,_,_,rfl,rfl,_,rfl,t,_,_,_,rfl,rfl,ht _,rfl,_,_,rfl,rfl,?_⟩;refine⟨_,rfl,_,rfl,_,_,rfl,rfl,_,rfl,_,rfl,_,rfl,a,_,rfl,hS2,λln pX=>?_⟩;have hc:oE (l.map V.int) (some ((place:Int)+1)) (some ((place:Int)+1+(n:Int)))=nums.map V.int:=by
    have:=G7 l (place+1) (place+1+n)
    have e1:((place+1:Nat):Int)=(place:Int)+1:=rfl;have e2:((place+1+n:Nat):Int)=(place:Int)+1+(n:Int):=by omega
    rw[e1,e2]at this
    rw[this,aON,show place+1+n-(place+1)=n by omega,htk]
   have s3:aV H2 (upd H2 ln (.lst (oE (l.map V.int) (some ((place:Int)+1)) (some ((place:Int)+1+(n:Int)))))):=aE pX;have aEy:upd H2 ln (.lst (oE (l.map V.int) (some ((place:Int)+1)) (some ((place:Int)+1+(n:Int))))) ln=some (.lst (nums.map V.int)):=by rw[aB,hc]
   refine⟨_,rfl,_,rfl,_,rfl,t,_,_,_,rfl,rfl,ht _,rfl,a,l,place+1+n,k,rows,rfl,s3.seq hS2,hk,Wd hsh,n9,λH4 lr rs s4 aFY oA rK hni xh=>?_⟩
   generalize upd H2 ln (.lst (oE (l.map V.int) (some ((place:Int)+1)) (some ((place:Int)+1+(n:Int)))))=H3 at s3 aEy s4 aFY xh;have Zw:=s3.trans s4;refine⟨_,rfl,t,_,_,_,rfl,rfl,ht _,rfl,?_⟩;refine⟨_,rfl,lv,fa,fd,_,_,rfl,hkp,hF,hr.mono (by omega),hB,_,rfl,_,rfl,_,rfl,x,ln,lr,f,st,nums,rows,rs,rfl,I.Ou.same Zw,s4 _ _ aEy,oA,rK,hn,hk,rH,λH5 out f' hR5 aB1 tU aDF aBS hpn=>?_⟩
   have Bt:aO0 st ((qn::nums)::rows)=aMY st (mk nums rows):=by unfold aO0;rw[aHL nums rows hn hk]
   have aEq:=sq I.Ou.wf (mk nums rows);have Ol:=hR5.wf;have aAZ:=I.WR;rw[Xv,Bt]at aAZ;have hD4:=Zw _ _ I.told;have hD5:=aDF _ _ hD4 I.apart;generalize(aMY st (mk nums rows)).2=ans at aEq aAZ tU;generalize(aMY st (mk nums rows)).1=st' at hR5 Ol aAZ;have nDo:out≠D:=λz=>by rw[z,hD4]at aB1;cases aB1
   have hsz:=I.size;rw[aMT,Nat.succ_mul]at hsz;have Y4:(done.map V.int).length=done.length:=aLx _;have Oe:(ans.map V.int).length=ans.length:=aLx _;have big:sizeLine=16777216:=rfl;have vz:D∉f'.all x:=λz=>by
    rcases aBS D z with z|z
    ·exact I.apart z
    ·rw[hD4]at z;cases z
   have we:∀(a dx l:Addr) (b:Bool),V.ref a∈f'.cs->H5 a=some (.ins A.dP dx (fE l b))->l≠D:=λca dx l b IG e=>by
    rcases hpn ca dx l b IG e with⟨b',hca',e'⟩|e'
    ·obtain⟨dc,lp',b2,qq,g1,_⟩:=zM I.Ou.cores hca'
     have g:=Zw _ _ g1;rw[e']at g;obtain⟨rfl,rfl⟩:=tZ (aP6 g);exact I.parts ca _ _ _ hca' g1
    ·intro z;rw[z,hD4]at e';cases e'
   refine⟨_,rfl,.inl ⟨rfl,_,aZ.of hD5⟩,_,rfl,out,_,rfl,.inl (aZ.of tU),D,_,_,rfl,rfl,hD5,by omega,?_⟩
   have b6:JW D H5 (upd H5 D (.lst (done.map V.int++[V.int ((ans.map V.int).length:Int)]))):=cD;have hD6:upd H5 D (.lst (done.map V.int++[V.int ((ans.map V.int).length:Int)])) D=some (.lst (done.map V.int++[V.int ((ans.map V.int).length:Int)])):=aB;have va:=b6 _ _ tU nDo;refine⟨_,rfl,.inl ⟨rfl,_,aZ.of hD6⟩,_,rfl,D,out,_,_,rfl,rfl,hD6,va,by rw[aMH,Y4,Oe];show _+1+_<=_;omega,?_⟩
   generalize upd H5 D (.lst (done.map V.int++[V.int ((ans.map V.int).length:Int)]))=H6 at b6 hD6;have b7:JW D H6 (upd H6 D (.lst ((done.map V.int++[V.int ((ans.map V.int).length:Int)])++ans.map V.int))):=cD;have hD7:upd H6 D (.lst ((done.map V.int++[V.int ((ans.map V.int).length:Int)])++ans.map V.int)) D=some (.lst ((done++((ans.length:Int)::ans)).map V.int)):=by
    rw[aB,Oe,aMU,aMb];rfl
   generalize upd H6 D (.lst ((done.map V.int++[V.int ((ans.map V.int).length:Int)])++ans.map V.int))=H7 at b7 hD7;have b57:JW D H5 H7:=λb o e nb=>b7 _ _ (b6 _ _ e nb) nb;have hex:∀b∈f.all x,∃o,H2 b=some o:=I.Ou.there;have aF8:∀{b:Addr},H3 b=aP4->b∉f.all x:=fun{b} e z=>by
    obtain⟨o,e2⟩:=hex b z
    rw[s3 _ _ e2]at e;cases e
   have keep:∀{b:Addr} {o:HO},H4 b=some o->H3 b=aP4->H7 b=some o:=fun{b o} e e3=>by
    refine b57 _ _ (aDF _ _ e (aF8 e3)) ?_;intro z;rw[z,s3 _ _ I.told]at e3;cases e3
   refine⟨x,D,place+1+n,0,rows,cs,st',f',done++((ans.length:Int)::ans),lr,rs,_,_,_,_,_,_,rfl,⟨aFi,hR5.butList hD5 vz we b57,hD7,?_,?_,vz,?_,?_,λc hc=>I.asked c (aMM _ hc),?_⟩,keep oA aFY,?_,by rw[hk];exact Wd hsh,fun σ' H3 h=>⟨_,aPS _,h⟩⟩
   ·intro b o e;have nb:b≠D:=aJ e hDH;exact b57 _ _ (aDF _ _ (Zw _ _ (I.same _ _ e)) λz=>by rw[I.new b z]at e;cases e) nb
   ·intro b hb;rcases aBS b hb with z|z
    ·exact I.new b z
    ·exact(I.same.trans Zw).free z
   ·intro ca dx' l' b IG e;obtain⟨dc,lp',b2,qq,g1,_⟩:=zM hR5.cores IG;have g:=b57 _ _ g1 (c7 g1 hD5 (by intro z;cases z))
    rw[e]at g
    obtain⟨rfl,rfl⟩:=tZ (aP6 g)
    exact we ca _ _ _ IG g1
   ·rw[aMb];exact aAZ
   ·rw[aMH,aMT];omega
   ·refine pairOf (bG rK) λi v y hv hy=>?_;obtain⟨z,hz,hs⟩:=dU rK hv;rw[hz]at hy;injection hy with hy;subst hy;exact keep hs (xh v (aMZ hv))
  ·have c:=dF c;rw[aLx]at c;have hp:=I.left.1;have e:place=l.length:=by omega
   have hl:=I.left;rw[e]at hl;have:=ub hl;subst this;have hd:=I.WR;have hd:done=aPx l:=by rw[<-hd];show _=done++[];rw[aMc]
   refine⟨_,rfl,q _ D ?_⟩
   rw[<-hd];exact I.told
def WW{R:List Int->List (List Int)->Prop}(h:R [] [])(x:List Int)(y:List (List Int))(p:x.length=0)(q:y.length=0):R x y:=match x,y,p,q with|[],[],_,_=>h
def aED{R:List Int->List (List Int)->Prop}(h:∀r,R [] [r])(x:List Int)(y:List (List Int))(p:x.length=0)(q:y.length=1):R x y:=match x,y,p,q with|[],[r],_,_=>h r
def aEH{R:List Int->List (List Int)->Prop}(h:∀r s,R [] [r,s])(x:List Int)(y:List (List Int))(p:x.length=0)(q:y.length=2):R x y:=match x,y,p,q with|[],[r,s],_,_=>h r s
def Yq{R:List Int->List (List Int)->Prop}(h:∀a,R [a] [])(x:List Int)(y:List (List Int))(p:x.length=1)(q:y.length=0):R x y:=match x,y,p,q with|[a],[],_,_=>h a
def aEI{R:List Int->List (List Int)->Prop}(h:∀a r,R [a] [r])(x:List Int)(y:List (List Int))(p:x.length=1)(q:y.length=1):R x y:=match x,y,p,q with|[a],[r],_,_=>h a r
def aGk{R:List Int->List (List Int)->Prop}(h:∀a r s,R [a] [r,s])(x:List Int)(y:List (List Int))(p:x.length=1)(q:y.length=2):R x y:=match x,y,p,q with|[a],[r,s],_,_=>h a r s
def aEM{R:List Int->List (List Int)->Prop}(h:∀a b,R [a,b] [])(x:List Int)(y:List (List Int))(p:x.length=2)(q:y.length=0):R x y:=match x,y,p,q with|[a,b],[],_,_=>h a b
def aGs{R:List Int->List (List Int)->Prop}(h:∀a b r s,R [a,b] [r,s])(x:List Int)(y:List (List Int))(p:x.length=2)(q:y.length=2):R x y:=match x,y,p,q with|[a,b],[r,s],_,_=>h a b r s
def dR{q:Int}{n k:Nat}{t fa:Addr}{fd:FuncData}{lv:Nat}{mk:List Int->List (List Int)->aN4}(hs:aPw q=some (n,k))(a:au A q t)(b:∀H:Hp,eE K H t [.int (n:Int),.int (k:Int),.ref fa])(c:aOW K (.ref fa)=true)
  (d:bQ P w K mg base eV lv fa fd ["record","numbers","rows"] (gF A n k mk)) (e:lv<=18) (f:aX K fd ["record","numbers","rows"] []) (g:∀nums rows,nums.length=n->rows.length=k->aRk ((q::nums)::rows)=some (mk nums rows)) (n' k':Nat) (h:aPw q=some (n',k')):
  ∃(t fa:Addr) (fd:FuncData) (lv:Nat) (mk:List Int->List (List Int)->aN4),au A q t/\(∀H:Hp,eE K H t [.int (n':Int),.int (k':Int),.ref fa])/\aOW K (.ref fa)=true/\
  bQ P w K mg base eV lv fa fd ["record","numbers","rows"] (gF A n' k' mk)/\lv<=18/\aX K fd ["record","numbers","rows"] []/\
  ∀nums rows,nums.length=n'->rows.length=k'->aRk ((q::nums)::rows)=some (mk nums rows):=by
 cases hs.symm.trans h;exact⟨t,fa,fd,lv,mk,a,b,c,d,e,f,g⟩
def ui(T:Txt K mg A):cv P w K mg base A:=by
 intro q;rcases q with m|m
 ·revert m;refine ya
   (dR rfl (.inl ⟨by decide,rfl⟩) T.Hl T.xA.kp (ML T) (by decide) (NJ T) (WW rfl))
   (dR rfl (.inl ⟨by decide,rfl⟩) T.Hj T.BS.kp (Mz T) (by decide) (Pf T) (aEI λ_ _=>rfl))
   (dR rfl (.inl ⟨by decide,rfl⟩) T.ID T.BB.kp (NT T) (by decide) (P8 T) (Yq λ_=>rfl))
   (dR rfl (.inl ⟨by decide,rfl⟩) T.Ht T.x6.kp (M1 T) (by decide) (NO T) (Yq λ_=>rfl))
   (dR rfl (.inl ⟨by decide,rfl⟩) T.Hy T.x4.kp (MC T) (by decide) (NR T) (Yq λ_=>rfl))
   (dR rfl (.inl ⟨by decide,rfl⟩) T.Hr T.DB.kp (QJ T) (by decide) (Xx T) (aGs λ_ _ _ _=>rfl))
   (dR rfl (.inl ⟨by decide,rfl⟩) T.He T.xD.kp (MS T) (by decide) (Nh T) (Yq λ_=>rfl))
   (dR rfl (.inl ⟨by decide,rfl⟩) T.IC T.BO.kp (NH T) (by decide) (QV T) (Yq λ_=>rfl))
   (dR rfl (.inl ⟨by decide,rfl⟩) T.Hf T.yC.kp (MT T) (by decide) (NA T) (aEM λ_ _=>rfl))
   (dR rfl (.inl ⟨by decide,rfl⟩) T.IA T.BH.kp (NF T) (by decide) (Pg T) (Yq λ_=>rfl))
   (dR rfl (.inl ⟨by decide,rfl⟩) T.GC T.yZ.kp (ME T) (by decide) (NK T) (WW rfl))
   (dR rfl (.inr ⟨by decide,rfl⟩) T.Fw T.oV.kp (Hq T) (by decide) (JI T) (WW rfl))
   (dR rfl (.inr ⟨by decide,rfl⟩) T.GJ T.u4.kp (K7 T) (by decide) (Ma T) (aED λ_=>rfl))
   (dR rfl (.inr ⟨by decide,rfl⟩) T.GB T.xP.kp (M6 T) (by decide) (Ni T) (aEH λ_ _=>rfl))
   (dR rfl (.inr ⟨by decide,rfl⟩) T.GF T.xW.kp (MH T) (by decide) (NG T) (aEH λ_ _=>rfl))
   (dR rfl (.inr ⟨by decide,rfl⟩) T.GD T.sQ.kp (JM T) (by decide) (Kc T) (aGk λ_ _ _=>rfl))
   (dR rfl (.inr ⟨by decide,rfl⟩) T.GA T.xM.kp (MQ T) (by decide) (NP T) (aEM λ_ _=>rfl))
   (dR rfl (.inr ⟨by decide,rfl⟩) T.GI T.pR.kp (Hk T) (by decide) (JQ T) (WW rfl))
   (dR rfl (.inr ⟨by decide,rfl⟩) T.GN T.uU.kp (K6 T) (by decide) (MX T) (WW rfl))
   (dR rfl (.inr ⟨by decide,rfl⟩) T.Fx T.CT.kp (QR T) (by decide) (X6 T) (aEI λ_ _=>rfl))
   (dR rfl (.inr ⟨by decide,rfl⟩) T.GO T.BG.kp (N2 T) (by decide) (Py T) (WW rfl))
   (dR rfl (.inr ⟨by decide,rfl⟩) T.EN T.yR.kp (MO T) (by decide) (N5 T) (aED λ_=>rfl))
   (dR rfl (.inr ⟨by decide,rfl⟩) T.ES T.sP.kp (JR T) (by decide) (K1 T) (Yq λ_=>rfl))
   (dR rfl (.inr ⟨by decide,rfl⟩) T.EM T.uX.kp (Kd T) (by decide) (Mb T) (WW rfl))
   (dR rfl (.inr ⟨by decide,rfl⟩) T.ER T.Ct.kp (Pl T) (by decide) (Xf T) (WW rfl)) (λm n k h=>?_)
  exact nomatch (show(none:Option (Nat×Nat))=some (n,k)from h)
 ·intro n k h;exact nomatch (show(none:Option (Nat×Nat))=some (n,k)from h)
end Vx
theorem PySem.Challenge.cw_layerages_s01_answers_holds : PySem.Challenge.rw_layerages_s01_answers.Holds := by
 exact Vx.hd (Vx.sr λT=>Vx.Zc T (Vx.ui T))
