import PyProof.Rows.All
import Wide.All
import OpenK.AllK
import Wide.FinOn
import PyProof.EqAt
import PyProof.EqKinds
import PyProof.TupleCall
import KE.BitLaws
import Open.SpecLaws
import KE.OsHead
import KE.OsGo
import PyKm465
import PySem.Challenge.RW_studenthouse_s01_answers
set_option Elab.async false
set_option linter.all false
set_option maxRecDepth 100000
set_option maxHeartbeats 2000000
open Array renaming length_toList->Df,toList->iF,append_assoc->oi
open Bool renaming false_ne_true->AZ,and_eq_true->BB,noConfusion->Bn,false_eq_true->Cf,eq_iff_iff->C4,or_eq_true->EN,true_and->F8,and_comm->JA,and_false->Q6,not_eq_true'->Vz,false_and->bp,false_or->g6,and_eq_true_iff->nF,not_eq_true->vG
open Classical renaming choose->Cg,byContradiction->De,choose_spec->Fh
open False renaming elim->C8
open ForInStep renaming yield->Ii,done->ADD
open Int renaming toNat_natCast->A8,toNat->Hx,zero_add->OV,toNat_of_nonneg->Sq,fdiv_eq_ediv_of_nonneg->eU,natCast_nonneg->rY,natCast_pow->xn
open Km463 renaming part->Cd,spread->D6,sets->Ej,excess->Gw,bestGo->Jx,odd->Kv,best->N4,size->N5,House->Qx,why->Q7,mayBe->XZ,key->rV
open Km464 renaming withIn->BD,pairs->B5,ring->DK,okWish->E8,perms->Gb,ringGo->Ud,oddRings->aY,next->oh
open Km465 renaming act->Ag,graph->Aq,only->BK,pairsOf->BY,arr->Bs,way->DE,everyPairing->Dv,Ans->EZ,breakers->Eh,MOST->Ei,bits->Ek,Call->El,told->Ga,breaks->Gs,levels->Gu,votedOut->Hy,broken->Jw,fill->Sk,rather->Uc,isPairing->Xt,asTold->iI,Desk->oe
open Km465.Desk renaming mk->og
open Km465.House renaming now->Bd
open Km465Neutral renaming step->B2,asked1->Ce,natural->Fo,callOf->GC,may->HV,S->Mq,start->OK,nats->QV,told->ABk,isStart->ABm,asked->ABn
open List renaming length_map->AB,range->AF,mem_cons_of_mem->AG,mem_cons_self->AI,mem_filter->AJ,contains_iff_mem->AN,getD_eq_getElem?_getD->AQ,size_toArray->Aa,length_append->Ab,replicate->Ac,mem_range->Ah,mem_cons->Ak,getElem?_eq_some_iff->Ap,mem_of_getElem?->Ar,length_filter_le->Ax,map_cons->Az,mem_singleton->A3,getElem?_eq_getElem->A5,length_cons->BC,mem_map->BE,getElem?_map->BH,foldl_cons->BI,mem_append->BN,filter_congr->BO,map_append->BS,length_range->BW,lookup_cons->BX,filter_eq_self->BZ,all_eq_true->Bc,filter_cons->Bm,getElem?_eq_none->Bo,flatMap_singleton->Br,nodup_cons->Bt,range'->By,mem_flatMap->Bz,length_take->B0,append_nil->B1,filter_filter->B6,length_set->B7,take_length->B9,flatMap_cons->CA,mem_append_right->CD,find?_cons->CM,append_assoc->CY,lookup->Cc,nodup_range->Cq,replicate_succ->Cv,nodup_nil->C3,nodup_append->DA,length_nil->DJ,mem_append_left->DQ,filter_eq_nil_iff->Dc,map_map->Dd,flatMap_append->Dl,length_reverse->Dm,length_singleton->Du,any_eq_true->D4,getElem?_take_of_lt->ED,range_eq_range'->EF,foldl_append->EK,flatten_cons->EM,map_id'->EY,range'_succ->Ee,length_drop->Ef,getElem?_of_mem->FG,getElem?_range->FT,map_congr_left->FU,take_of_length_le->Fn,nil_append->F0,any_cons->GA,findIdx_getElem->Gq,range_succ->HQ,length->HW,map_nil->IA,reverse_cons->IB,getElem_inj->Iz,map_take->JB,all_cons->JC,mem_of_mem_take->JV,filter_map->Jp,map_eq_nil_iff->Jy,filterMap_cons->Jz,flatMap_assoc->K1,drop_eq_getElem_cons->L1,mem_range'_1->L4,length_eq_zero_iff->Nd,getElem?_set_self->OL,drop_of_length_le->ON,length_replicate->QR,take_append_drop->QT,getElem?_set_ne->Q9,filter_flatMap->Sf,length_pos_iff->Sg,find?_eq_none->UY,filter_append->UZ,contains_cons->Ub,ext_getElem?->Vx,getElem?_set->Vy,of_mem_zip->aU,forIn_cons->aV,getElem?_append_right->bq,foldl->br,forIn_nil->bt,getElem?_eq_none_iff->eS,getElem?_append_left->eX,length_erase_of_mem->gz,map_drop->h8,getElem?_replicate->iC,take->iD,any_map->kj,take_eq_take_iff->kx,getElem?_append->m8,mem_filterMap->rP,take_sublist->rW,contains_nil->rX,any_eq_false->rg,map_flatMap->vD,flatMap_def->vE,countP_cons->vI,filter_nil->vR,countP_map->vT,take_take->xW,take_left->xX,drop_zero->xl,take_zero->xm,drop_drop->xo,take_nil->yY,map_set->AAM,count->ABl
open List.Nodup renaming sublist->g0
open List.Pairwise renaming filter->Ct,map->OQ,sublist->AAc,of_map->AAu
open List.cons renaming injEq->m9
open Nat renaming le_refl->AV,le_trans->AY,lt_of_lt_of_le->A9,zero_le->Bb,ne_of_lt->Bl,lt_irrefl->Bu,lt_of_le_of_lt->Ci,le_antisymm->F9,pow_le_pow_right->Gv,le_of_lt->IF,lt_succ_self->JD,mul_le_mul_right->Jb,mul_comm->Ky,lt_or_gt_of_ne->LQ,le_of_succ_le->Mr,lt_succ_of_lt->Ms,div_eq_of_lt->N6,succ_mul->OP,min_eq_left->QS,mul_le_mul->Ri,pow_succ->W0,ne_of_gt->W3,le_of_eq->W5,le_succ->aS,two_pow_pos->aZ,zero_add->kn,sub_zero->ko,not_lt->rn,rec->vF,min_eq_right->vS,succ_ne_self->vZ,le_add_right->vc,strongRecOn->xV,not_lt_zero->xY,mul_assoc->AAC
open Ne renaming symm->Cr
open Option renaming map_eq_some_iff->CN,getD_some->IX,getD_none->Mp,none->W6,map_some->Xa,isSome_some->nE,isSome_map->ot
open Option.some renaming inj->Al,injEq->ACC
open Or renaming inl->Ai,inr->HI
open Prod renaming fst->CB
open PyFlat renaming call->EV,calls->E6,told->QU,played->Rh,rows->kc,row->AAD
open PyKm465 renaming shape->Bp,whole->CF,answers->Fi,answers_asked->Hz
open PyProof.Rows renaming callWith_type1->Cn,slot_tuple_getitem->Cu,boot_tuple->HD,step_dedup->J2,boot_list->eg,subscriptTail_builtinR->rl,entry_tuple_getitem->xf,boot_range->yQ,args_tuple_getitem->yS,callWith_builtin1->AB3,firstMet->AB5,get?_update_seq->AB6,callWith_kw->AB7,slicePart_none->ACB,boot_enumerate->ACD,Constant_none->ACs,tupleItemsOf_->ACt
open PySem renaming wpAny_bind->AL,boot_len->An,wpAny_pure->A1,mem_of_lookup->Bi,wpAny_loadPart'->CH,wpAny_mono->DH,wpAny_truthy_bool->Ds,wpAny_newObj_type->Dt,wpAny_holding->EL,codeAny_builtin->FR,wpAny_Call_Name_kw->GF,call_meets->GG,wpAny_passesOwn->Gf,wpAny_callSpecial?_slot->IY,wpAny_tryCatch->JF,wpAny_field->Kz,codeAny_mono->L6,wpAny_pyIter_tuple->Mt,wpAny_seqItems->Mv,wpAny_pyIter_enum->OM,wpAny_standAt->OR,plainId_quiet->OU,wpAny_call_entry->Qz,wpAny_execs_nil->Si,pushCells_keeps->Sj,sizeLine_eq->Ue,typeIs_int->Xr,wpAny_pyIter_list->af,wpAny_typeOf->ah,noFill_tuple_add->eY,wpAny_letGo->h7,Within->iE,wpAny_updateSeq->iH,wpAny_letOwnedTupleGo_enum->ku,wpAny_binaryOp_repeat_ref->nD,rangeSize_one->oj,seq_tuple_add->oo,nums_intItems->oq,concat_meets->rh,seqIndex_neg->rj,seqSlot_of->rm,wpAny_isTrue_Compare1->vH,wpAny_loadName_local->vU,seqIndex_of->vV,numAt_eq->vW,getD_mem->vX,wpAny_pyIter_revIter->vY,wpAny_loadName_cell->xc,wpAny_Name->yP,wpAny_call->yR,tupleKind_room_in1->yW,Params->yZ,wpAny_assign_Name->AAI,wpAny_sequenceKey->AAJ,wpAny_execs_cons->AAd,small_one->AAe,Stmt->AAv,wpAny_setField->ACE,evalPart_none->ACu,call_list_seq->AC9
open PySem.Around renaming under_plainId->GZ,under->hJ,frames_deeper->kh
open PySem.AutoListH renaming list___mul___list_int_3->ADC
open PySem.AutoSeq1 renaming sub_tuple_tuple->K2,idx_int->Ua
open PySem.Builtin renaming bitAnd->OS,bitOr->ag
open PySem.Builtin.Builtins renaming bindParams->Q0
open PySem.Builtin.List renaming listTooLong->GY,listExtendWith->AB4
open PySem.Builtin.Range renaming rangeSize->Ew,small->IC
open PySem.Builtin.Slice renaming slicePlaces->F1,sliceAdjust->JE,sliceApplied->Sn,slicePartIndex->AAp,sliceFields->AAq
open PySem.Builtin.SmallTypes renaming nextOf->FW
open PySem.Builtin.Tuple renaming tupleExact->Dj,tupleItemsOf->So,tupleTooMany->Sr,tupleIsExact->AAt
open PySem.Calls renaming Name_function_global->ae,callWith_builtin->iG
open PySem.Challenge renaming rw_studenthouse_s01_answers->BR,pw_studenthouse_s01_answers->yX
open PySem.CmpOp renaming NotIn->AAH,In->ACA
open PySem.Code renaming isFrame->kd,frames->AAo
open PySem.Data renaming seq->xh
open PySem.DictEntry renaming refKey->ADA
open PySem.EqMixed renaming eq_bool_str->AAf,eq_int_str->AAg,eq_str_bool->AAh,eq_str_int->AAi,ne_bool_str->AAj,ne_int_str->AAk,ne_str_bool->AAl,ne_str_int->AAm
open PySem.EqNone renaming eq_none_none->ABo,eq_none_bool->ABp,eq_none_int->ABq,eq_none_str->ABr,eq_bool_none->ABs,eq_int_none->ABt,eq_str_none->ABu,ne_none_none->ABv,ne_none_bool->ABw,ne_none_int->ABx,ne_none_str->ABy,ne_bool_none->ABz,ne_int_none->AB0,ne_str_none->AB1
open PySem.F renaming plainAttrs_list->BQ,slot_list_append->CO,type_list_append->CP,slot_list_extend->E9,type_list_extend->FA,slot_tuple_iterator_next->G1,slot_tuple_mul->Jd,args_tuple_add_2->LR,entry_tuple_add->L7,slot_tuple_add->Mu,entry_max_loop->Mw,entry_min_loop->Mx,slot_int_rmul->RA,args_tuple_mul_2->W8,entry_tuple_mul->Xs,slot_tuple_index->aj,slot_list_count->bu,args_tuple_iterator_next_1->eZ,entry_tuple_iterator_next->hZ,slot_list_pop->h9,type_list_pop->iA,args_object_init_2->rp,args_int_rmul_2->xg,slot_tuple_rmul->xi,plain_list_iadd->xj,slot_int_index->yT,entry_int_rmul->yU,fills_int_mul->AAL
open PySem.Heap renaming get?_push_of_some->AW,lt_size->Av,get?_push_size->BA,size_push->Cp,SameBut->Kw,get?_update_other->ki,get?_update_self->kr,ExtBut->AAs
open PySem.Heap.IsSliceOf renaming new->AAK
open PySem.Heap.SameBut renaming update->GD
open PySem.IsL renaming update->ADB
open PySem.NameKind renaming free->IG,cell->aW
open PySem.Obj renaming mapSeq->D8,data_mapFields->rq
open PySem.Paired renaming length->AX,snoc->yV
open PySem.PassesOwn renaming never->Bg
open PySem.SeqAt renaming EqAt->AAr
open PySem.SeqAt.EqAt renaming int_str->g8,str_int->g9,same->ACv,none_bool->ACw,none_int->ACx,none_str->ACy,bool_none->ACz,bool_bool->AC0,bool_int->AC1,bool_str->AC2,int_none->AC3,int_bool->AC4,int_int->AC5,str_none->AC6,str_bool->AC7,str_str->AC8
open PySem.Str renaming ofString->G0
open PySem.Value renaming ref->CG,type->Ge,none->HR,bool->N7,int->Q8,str->g7,isStrOf->xZ,isInt->AAE,bytes->AAF,float->AAG
open PySem.Value.type renaming inj->nG
open PySem.W renaming Frag->AE,findIn->DU,emptyDict->DV,keepIn->D7,instObj->Ep,kla_obj->Er,mg_none_of->GH,codeHdIn->IH,fnOf->Jc,envX->Je,callWith_K->J0,CodeHd->J1,plainGet->L5,lookIn->OT,tabObj->OW,plainGet_of->Qy,methodObj->Sl,hasDictIn->Sm,takerIn->W4,length_le_weightAllW->W7,codeIn->Xq,isFn->eV,cellsFrom_some->eW,methodCall_KW->hX,callWith_K0->kg,plainOver->nA,specialIn->nB,handedIn->om,WRecords->ou,makesIn->rQ,kla_fn->sA,WData->vJ
open PySem.W.Codec renaming inInt->AAN,app->AB8
open PySem.W.Looks renaming here->AAn
open PySem.Walks renaming list->ai
open PySem.Within renaming cons->AB2
open Std.Legacy.Range renaming size->Kx,forIn_eq_forIn_range'->xk
open Sum renaming inl->Sh,inr->W2
open Sum.inl renaming inj->iB
open True renaming intro->Em
namespace SH
open Km464 (House)
def wl(w:List (List Nat))(a:Nat):List Nat:=w.getD a []
def wd(w:List (List Nat))(a b:Nat):Bool:=(wl w a).contains b&&(wl w b).contains a
def st(w:List (List Nat))(a b:Nat):Nat:=if a=b then (wl w a).length else (wl w a).findIdx fun x=>x==b
def A6(p:List Nat)(a:Nat):Nat:=p.getD a a
def hs(w:List (List Nat))(p:List Nat):House:=⟨w,BY p⟩
structure Eg(w:List (List Nat)):Prop where
 len:w.length<=6
 nd:∀a,(wl w a).Nodup
 lt:∀a b,b∈wl w a->b<w.length/\b≠a
structure GI(w:List (List Nat))(p:List Nat):Prop where
 len:p.length=w.length
 lt:∀a,a<w.length->A6 p a<w.length
 inv:∀a,A6 p (A6 p a)=a
 sh:∀a,A6 p a≠a->wd w a (A6 p a)=true
theorem II{p:List Nat}{a:Nat}(h:p.length<=a):A6 p a=a:=by
 unfold A6;rw[AQ,Bo h,Mp]
theorem Cj{p:List Nat}{a:Nat}(h:a<p.length):p[a]?=some (A6 p a):=by
 unfold A6;rw[AQ,A5 h,IX]
theorem IZ{p q:List Nat}(hl:p.length=q.length)(h:∀a,a<p.length->A6 p a=A6 q a):p=q:=by
 refine Vx fun i=>?_
 by_cases hi:i<p.length
 ·rw[Cj hi,Cj (hl ▸ hi),h i hi]
 ·rw[Bo (by omega),Bo (by omega)]
theorem G8(n:Nat)(f:Nat->Nat)(a:Nat):A6 ((AF n).map f) a=if a<n then f a else a:=by
 by_cases h:a<n
 ·rw[if_pos h];unfold A6;rw[AQ,BH,FT h];rfl
 ·rw[if_neg h];exact II (by simp;omega)
theorem QW(p:List Nat)(i v a:Nat):A6 (p.set i v) a=if i=a/\a<p.length then v else A6 p a:=by
 unfold A6;rw[AQ,AQ,Vy]
 by_cases h:i=a
 ·subst h
  by_cases hl:i<p.length
  ·simp[hl]
  ·simp[hl]
 ·simp[h]
theorem K3{α:Type}{P:α->Bool}{x:α}:∀{l:List α},x∈l->P x=true->(∀y∈l,P y=true->y=x)->l.find? P=some x
 |[],h,_,_=>nomatch h
 |y::l,h,hp,hu=>by
  by_cases hy:P y=true
  ·rw[List.find?_cons_of_pos hy,hu y AI hy]
  ·rw[List.find?_cons_of_neg (by simpa using hy)];refine K3 ?_ hp fun z hz=>hu z (AG _ hz)
   rcases Ak.mp h with e|e
   ·subst e;exact absurd hp hy
   ·exact e
theorem Jf(w:List (List Nat))(a b:Nat):wd w a b=wd w b a:=by unfold wd;rw[JA]
theorem HX{w:List (List Nat)}{a b:Nat}(h:wd w a b=true):b∈wl w a/\a∈wl w b:=by
 unfold wd at h;rw[BB]at h;exact ⟨AN.mp h.1,AN.mp h.2⟩
theorem AAw{w:List (List Nat)}{a:Nat}(h:w.length<=a):wl w a=[]:=by
 unfold wl;rw[AQ,Bo h,Mp]
theorem OX{w:List (List Nat)}(W:Eg w){a b:Nat}(h:wd w a b=true):a<w.length/\b<w.length/\a≠b:=by
 obtain ⟨h1,h2⟩:=HX h;exact ⟨(W.lt b a h2).1,(W.lt a b h1).1,fun e=>(W.lt a b h1).2 e.symm⟩
theorem OY{w:List (List Nat)}{p:List Nat}(Pk:GI w p)(a:Nat):BD (BY p) a=A6 p a:=by
 have e:(BY p).find? (fun q=>q.1==a||q.2==a)=(((AF p.length).filter fun x=>decide (x<A6 p x)).find? fun x=>x==a||A6 p x==a).map fun x=>(x,A6 p x):=by
  unfold BY;rw[List.find?_map];rfl
 unfold BD
 by_cases h:A6 p a=a
 ·have n:((AF p.length).filter fun x=>decide (x<A6 p x)).find? (fun x=>x==a||A6 p x==a)=none:=by
   rw[UY];intro x hx hq;have hx2:=of_decide_eq_true (AJ.mp hx).2;rw[EN,beq_iff_eq,beq_iff_eq]at hq;rcases hq with rfl|rfl
   ·omega
   ·rw[Pk.inv]at h;omega
  rw[e,n,h];rfl
 ·have hal:a<p.length:=by
   by_cases q:a<p.length
   ·exact q
   ·exact absurd (II (by omega)) h
  have hl2:A6 p a<p.length:=by rw[Pk.len];exact Pk.lt a (by rw[<-Pk.len];exact hal)
  have hi:=Pk.inv a
  by_cases hlt:a<A6 p a
  ·have n:((AF p.length).filter fun x=>decide (x<A6 p x)).find? (fun x=>x==a||A6 p x==a)=some a:=by
    refine K3 (AJ.mpr ⟨Ah.mpr hal,decide_eq_true hlt⟩) (by simp) fun y hy hq=>?_
    have hy2:=of_decide_eq_true (AJ.mp hy).2;rw[EN,beq_iff_eq,beq_iff_eq]at hq;rcases hq with rfl|rfl
    ·rfl
    ·rw[Pk.inv]at hlt;omega
   rw[e,n];show (if a=a then A6 p a else a)=A6 p a;rw[if_pos rfl]
  ·have n:((AF p.length).filter fun x=>decide (x<A6 p x)).find? (fun x=>x==a||A6 p x==a)=some (A6 p a):=by
    refine K3 (AJ.mpr ⟨Ah.mpr hl2,decide_eq_true (by rw[hi];omega)⟩) (by simp[hi]) fun y hy hq=>?_
    have hy2:=of_decide_eq_true (AJ.mp hy).2;rw[EN,beq_iff_eq,beq_iff_eq]at hq;rcases hq with rfl|rfl
    ·omega
    ·rw[Pk.inv]
   rw[e,n];show (if A6 p a=a then A6 p (A6 p a) else A6 p a)=A6 p a;rw[if_neg h]
theorem iJ{w:List (List Nat)}{p:List Nat}(Pk:GI w p)(s:House)(hw:s.wish=w):Bs s (BY p)=p:=by
 unfold Bs House.all House.many;rw[hw];refine IZ (by simp[Pk.len]) fun a ha=>?_
 have ha:a<w.length:=by simpa using ha
 rw[G8,if_pos ha,OY Pk]
theorem ya{w:List (List Nat)}{p:List Nat}(Pk:GI w p):Bd (hs w p)=p:=iJ Pk _ rfl
def rk(w:List (List Nat))(a b:Nat):Nat:=if (wl w a).contains b=true then (wl w a).findIdx fun x=>x==b else if b=a then w.length else w.length+1
theorem FC{l:List Nat}{b:Nat}(h:b∈l):(l.findIdx fun x=>x==b)<l.length:=List.findIdx_lt_length_of_exists ⟨b,h,beq_self_eq_true b⟩
theorem Jq:∀(n:Nat) (l:List Nat),l.Nodup->(∀x∈l,x<n)->l.length<=n
 |0,[],_,_=>AV _
 |0,a::l,_,h=>absurd (h a AI) (by omega)
 |n+1,l,hn,h=>by
  have h1:(l.filter fun x=>x != n).length<=n:=by
   refine Jq n _ (hn.filter _) fun x hx=>?_
   obtain ⟨h2,h3⟩:=AJ.mp hx
   have:=h x h2
   have h3:x≠n:=by simpa using h3
   omega
  have h2:l.length<=(l.filter fun x=>x != n).length+1:=by
   by_cases hm:n∈l
   ·have e:l.filter (fun x=>x != n)=l.erase n:=by rw[hn.erase_eq_filter]
    rw[e,gz hm];omega
   ·have e:l.filter (fun x=>x != n)=l:=BZ.mpr fun x hx=>by
     have:x≠n:=fun e=>hm (e ▸ hx)
     simpa using this
    rw[e];omega
  omega
theorem eh{w:List (List Nat)}(W:Eg w)(a:Nat):(wl w a).length<=w.length:=Jq _ _ (W.nd a) fun x hx=>(W.lt a x hx).1
theorem nH{w:List (List Nat)}(W:Eg w){a:Nat}(ha:a<w.length):(wl w a).length<w.length:=by
 have h:(a::wl w a).Nodup:=Bt.mpr ⟨fun hm=>(W.lt a a hm).2 rfl,W.nd a⟩
 have:=Jq w.length _ h fun x hx=>by
  rcases Ak.mp hx with e|e
  ·rw[e];exact ha
  ·exact (W.lt a x e).1
 rw[BC]at this;exact this
theorem Xu{w:List (List Nat)}{a b:Nat}(h:b∈wl w a):rk w a b=(wl w a).findIdx fun x=>x==b:=by
 unfold rk;rw[if_pos (AN.mpr h)]
theorem Xb{w:List (List Nat)}(W:Eg w)(a:Nat):rk w a a=w.length:=by
 unfold rk;rw[if_neg (fun h=>(W.lt a a (AN.mp h)).2 rfl),if_pos rfl]
theorem yb{w:List (List Nat)}{a b:Nat}(h:b ∉ wl w a)(hn:b≠a):rk w a b=w.length+1:=by
 unfold rk;rw[if_neg (fun z=>h (AN.mp z)),if_neg hn]
theorem Ug{w:List (List Nat)}(W:Eg w){a b:Nat}(h:b∈wl w a):st w a b=(wl w a).findIdx fun x=>x==b:=by
 unfold st;rw[if_neg fun e=>(W.lt a b h).2 e.symm]
theorem nI(w:List (List Nat))(a:Nat):st w a a=(wl w a).length:=by
 unfold st;rw[if_pos rfl]
def Uh(w:List (List Nat))(a b:Nat):Prop:=b∈wl w a\/b=a
theorem Ss{w:List (List Nat)}{p:List Nat}(Pk:GI w p)(a:Nat):Uh w a (A6 p a):=by
 by_cases h:A6 p a=a
 ·exact .inr h
 ·exact .inl (HX (Pk.sh a h)).1
theorem nJ{w:List (List Nat)}(W:Eg w){a b c:Nat}(hb:Uh w a b)(hc:Uh w a c):decide (rk w a b<rk w a c)=decide (st w a b<st w a c):=by
 have hl:=eh W a;rcases hb with hb|rfl<;>rcases hc with hc|rfl
 ·rw[Xu hb,Xu hc,Ug W hb,Ug W hc]
 ·have:=FC hb
  rw[Xu hb,Xb W,Ug W hb,nI,decide_eq_true (by omega),decide_eq_true (by omega)]
 ·have:=FC hc
  rw[Xu hc,Xb W,Ug W hc,nI,decide_eq_false (by omega),decide_eq_false (by omega)]
 ·rw[decide_eq_false (by omega),decide_eq_false (by omega)]
theorem nL{w:List (List Nat)}(W:Eg w){a b c:Nat}(hc:Uh w a c):decide (rk w a b<rk w a c)=((wl w a).contains b&&decide (st w a b<st w a c)):=by
 by_cases hb:b∈wl w a
 ·rw[nJ W (.inl hb) hc,AN.mpr hb,F8]
 ·have hf:(wl w a).contains b=false:=by
   cases e:(wl w a).contains b with
   |false=>rfl
   |true=>exact absurd (AN.mp e) hb
  rw[hf,bp];have hl:=eh W a;have h1:w.length<=rk w a b:=by
   by_cases e:b=a
   ·subst e;rw[Xb W];exact AV _
   ·rw[yb hb e];omega
  have h2:rk w a c<=w.length:=by
   rcases hc with hc|rfl
   ·have:=FC hc
    rw[Xu hc];omega
   ·rw[Xb W];exact AV _
  exact decide_eq_false (by omega)
def wb(w:List (List Nat))(p:List Nat)(a b:Nat):Bool:=decide (rk w a b<rk w a (A6 p a))&&decide (rk w b a<rk w b (A6 p b))
theorem QX{w:List (List Nat)}(W:Eg w){p:List Nat}(Pk:GI w p)(s:House)(hw:s.wish=w)(a b:Nat):wb w p a b=Gs s p a b:=by
 subst hw;unfold wb;rw[nL W (Ss Pk a),nL W (Ss Pk b)];show _=(wd s.wish a b&&(decide (st s.wish a b<st s.wish a (A6 p a))&&decide (st s.wish b a<st s.wish b (A6 p b))));unfold wd;cases (wl s.wish a).contains b<;>cases (wl s.wish b).contains a<;>simp
def Gx(w:List (List Nat)):List (Nat×Nat):=(B5 w.length).filter fun q=>wd w q.1 q.2
def L8(w:List (List Nat))(p:List Nat):List (Nat×Nat):=(Gx w).filter fun q=>wb w p q.1 q.2
theorem My{w:List (List Nat)}(W:Eg w){p:List Nat}(Pk:GI w p)(s:House)(hw:s.wish=w):L8 w p=Eh s p:=by
 subst hw;unfold L8 Gx Eh House.many;rw[B6];refine BO fun q _=>?_
 rw[QX W Pk s rfl];show (Gs s p q.1 q.2&&wd s.wish q.1 q.2)=Gs s p q.1 q.2;unfold Gs;show ((wd s.wish q.1 q.2&&_)&&wd s.wish q.1 q.2)=(wd s.wish q.1 q.2&&_);cases wd s.wish q.1 q.2<;>simp
theorem Fp{n a b:Nat}:(a,b)∈B5 n ↔ a<b/\b<n:=by
 unfold B5;simp only[Bz,Ah,BE,AJ,decide_eq_true_eq,Prod.mk.injEq];constructor
 ·rintro ⟨i,hi,j,⟨hj,hij⟩,rfl,rfl⟩;exact ⟨hij,hj⟩
 ·rintro ⟨h1,h2⟩;exact ⟨a,by omega,b,⟨h2,h1⟩,rfl,rfl⟩
def parted(p:List Nat)(a:Nat):List Nat:=(p.set (A6 p a) (A6 p a)).set a a
def joined(p:List Nat)(a b:Nat):List Nat:=(p.set a b).set b a
def brk(p:List Nat)(a b:Nat):List Nat:=joined (parted (parted p a) b) a b
theorem C5{w:List (List Nat)}{p:List Nat}(Pk:GI w p){a:Nat}(ha:a<w.length)(x:Nat):A6 (parted p a) x=if x=a\/x=A6 p a then x else A6 p x:=by
 have h1:=Pk.lt a ha;have hl:=Pk.len;unfold parted;rw[QW,QW,B7]
 by_cases h2:a=x
 ·subst h2;rw[if_pos ⟨rfl,by omega⟩,if_pos (.inl rfl)]
 ·rw[if_neg (fun z=>h2 z.1)]
  by_cases h3:A6 p a=x
  ·rw[if_pos ⟨h3,by omega⟩,if_pos (.inr h3.symm),h3]
  ·rw[if_neg (fun z=>h3 z.1),if_neg];rintro (z|z)
   ·exact h2 z.symm
   ·exact h3 z.symm
theorem Cb(p:List Nat)(a:Nat):(parted p a).length=p.length:=by unfold parted;rw[B7,B7]
theorem FD(p:List Nat)(a b:Nat):(joined p a b).length=p.length:=by unfold joined;rw[B7,B7]
theorem Jr{w:List (List Nat)}{p:List Nat}(Pk:GI w p){a:Nat}(ha:a<w.length):GI w (parted p a):=by
 have hi:=Pk.inv;have hlt:=Pk.lt a ha;refine ⟨(Cb p a).trans Pk.len,fun x hx=>?_,fun x=>?_,fun x hx=>?_⟩
 ·rw[C5 Pk ha]
  by_cases h:x=a\/x=A6 p a
  ·rw[if_pos h];exact hx
  ·rw[if_neg h];exact Pk.lt x hx
 ·rw[C5 Pk ha x]
  by_cases h:x=a\/x=A6 p a
  ·rw[if_pos h,C5 Pk ha,if_pos h]
  ·rw[if_neg h,C5 Pk ha,if_neg,hi];rintro (z|z)
   ·exact h (.inr (by rw[<-z,hi]))
   ·refine h (.inl ?_)
    have:=congrArg (A6 p) z
    rwa [hi,hi]at this
 ·rw[C5 Pk ha]at hx ⊢
  by_cases h:x=a\/x=A6 p a
  ·rw[if_pos h]at hx;exact absurd rfl hx
  ·rw[if_neg h]at hx ⊢;exact Pk.sh x hx
theorem GJ{p:List Nat}{a b:Nat}(ha:a<p.length)(hb:b<p.length)(hab:a≠b)(x:Nat):A6 (joined p a b) x=if x=a then b else if x=b then a else A6 p x:=by
 unfold joined;rw[QW,QW,B7]
 by_cases h1:x=a
 ·subst h1;rw[if_neg (fun z=>hab z.1.symm),if_pos ⟨rfl,ha⟩,if_pos rfl]
 ·by_cases h2:x=b
  ·subst h2;rw[if_pos ⟨rfl,hb⟩,if_neg h1,if_pos rfl]
  ·rw[if_neg (fun z=>h2 z.1.symm),if_neg (fun z=>h1 z.1.symm),if_neg h1,if_neg h2]
theorem Ui{w:List (List Nat)}{p:List Nat}(W:Eg w)(Pk:GI w p){a b:Nat}(h:wd w a b=true)(ha:A6 p a=a)(hb:A6 p b=b):GI w (joined p a b):=by
 obtain ⟨h1,h2,h3⟩:=OX W h;have hl:=Pk.len;have hi:=Pk.inv;have key:=GJ (p:=p) (a:=a) (b:=b) (by omega) (by omega) h3;refine ⟨(FD p a b).trans Pk.len,fun x hx=>?_,fun x=>?_,fun x hx=>?_⟩
 ·rw[key]
  by_cases e1:x=a
  ·rw[if_pos e1];exact h2
  ·rw[if_neg e1]
   by_cases e2:x=b
   ·rw[if_pos e2];exact h1
   ·rw[if_neg e2];exact Pk.lt x hx
 ·rw[key x]
  by_cases e1:x=a
  ·rw[if_pos e1,key,if_neg (Cr h3),if_pos rfl,e1]
  ·rw[if_neg e1]
   by_cases e2:x=b
   ·rw[if_pos e2,key,if_pos rfl,e2]
   ·rw[if_neg e2,key,if_neg,if_neg,hi]
    ·intro z;exact e2 (by rw[<-hi x,z,hb])
    ·intro z;exact e1 (by rw[<-hi x,z,ha])
 ·rw[key]at hx ⊢
  by_cases e1:x=a
  ·subst e1;rw[if_pos rfl];exact h
  ·rw[if_neg e1]at hx ⊢
   by_cases e2:x=b
   ·subst e2;rw[if_pos rfl,Jf];exact h
   ·rw[if_neg e2]at hx ⊢;exact Pk.sh x hx
theorem vd{w:List (List Nat)}{p:List Nat}(Pk:GI w p){a b:Nat}(ha:a<w.length)(hb:b<w.length)(hab:a≠b)(x:Nat) :
  A6 (brk p a b) x=if x=a then b else if x=b then a else if A6 p x=a\/A6 p x=b then x else A6 p x:=by
 have hl:=Pk.len;have P1:=Jr Pk ha;have hi:=Pk.inv;unfold brk;rw[GJ (by rw[Cb,Cb];omega) (by rw[Cb,Cb];omega) hab]
 by_cases e1:x=a
 ·rw[if_pos e1,if_pos e1]
 ·rw[if_neg e1,if_neg e1]
  by_cases e2:x=b
  ·rw[if_pos e2,if_pos e2]
  ·rw[if_neg e2,if_neg e2,C5 P1 hb,C5 Pk ha x,C5 Pk ha b]
   by_cases e3:A6 p x=a
   ·have e4:x=A6 p a:=by rw[<-e3,hi]
    rw[if_pos (show A6 p x=a\/A6 p x=b from .inl e3),if_pos (show x=a\/x=A6 p a from .inr e4)]
    by_cases z:x=b\/x=if b=a\/b=A6 p a then b else A6 p b
    ·rw[if_pos z]
    ·rw[if_neg z]
   ·have e4:¬x=A6 p a:=fun z=>e3 (by rw[z,hi])
    rw[if_neg (show ¬(x=a\/x=A6 p a) from fun z=>z.elim e1 e4)]
    by_cases e5:A6 p x=b
    ·have e6:x=A6 p b:=by rw[<-e5,hi]
     have e7:¬b=A6 p a:=fun z=>e1 (by rw[<-hi x,e5,z,hi])
     rw[if_pos (show A6 p x=a\/A6 p x=b from .inr e5),if_neg (show ¬(b=a\/b=A6 p a) from fun z=>z.elim (fun q=>hab q.symm) e7),if_pos (show x=b\/x=A6 p b from .inr e6)]
    ·have e6:¬x=A6 p b:=fun z=>e5 (by rw[z,hi])
     rw[if_neg (show ¬(A6 p x=a\/A6 p x=b) from fun z=>z.elim e3 e5),if_neg];rintro (z|z)
     ·exact e2 z
     ·by_cases q:b=a\/b=A6 p a
      ·rw[if_pos q]at z;exact e2 z
      ·rw[if_neg q]at z;exact e6 z
theorem Xv{w:List (List Nat)}{p:List Nat}(Pk:GI w p){a b:Nat}(ha:a<w.length)(hb:b<w.length)(hab:a≠b):brk p a b=Jw p a b:=by
 refine IZ (by unfold brk Jw;rw[FD,Cb,Cb,AB,BW]) fun x hx=>?_
 have hx:x<p.length:=by unfold brk at hx;rwa [FD,Cb,Cb]at hx
 rw[vd Pk ha hb hab];unfold Jw;rw[G8,if_pos hx];rfl
theorem Xw{w:List (List Nat)}{p:List Nat}(W:Eg w)(Pk:GI w p){a b:Nat}(h:wd w a b=true):GI w (brk p a b):=by
 obtain ⟨h1,h2,h3⟩:=OX W h;have P1:=Jr Pk h1;refine Ui W (Jr P1 h2) h ?_ ?_
 ·have ea:A6 (parted p a) a=a:=by rw[C5 Pk h1,if_pos (.inl rfl)]
  rw[C5 P1 h2]
  by_cases q:a=b\/a=A6 (parted p a) b
  ·rw[if_pos q]
  ·rw[if_neg q,ea]
 ·rw[C5 P1 h2,if_pos (.inl rfl)]
open Km464 (House)
def cnt(p:List Nat):Nat:=((AF p.length).filter fun a=>decide (a<A6 p a)).length
theorem K4(p:List Nat):(BY p).length=cnt p:=by
 unfold BY cnt;rw[AB];rfl
theorem Xx{α:Type}[DecidableEq α]{P P':α->Bool}{x:α}:∀{l:List α},l.Nodup->x∈l->P x=false->P' x=true->(∀y∈l,y≠x->P' y=P y)->(l.filter P').length=(l.filter P).length+1
 |[],_,h,_,_,_=>nomatch h
 |y::l,nd,h,h1,h2,h3=>by
  obtain ⟨n1,n2⟩:=Bt.mp nd
  by_cases e:y=x
  ·subst e;have q:l.filter P'=l.filter P:=BO fun z hz=>h3 z (AG _ hz) fun c=>n1 (c ▸ hz)
   rw[Bm,Bm,h1,h2,q];simp
  ·have hm:x∈l:=by
    rcases Ak.mp h with c|c
    ·exact absurd c.symm e
    ·exact c
   have ih:=Xx n2 hm h1 h2 fun z hz=>h3 z (AG _ hz)
   have q:=h3 y AI e;rw[Bm,Bm,q];cases P y
   ·simpa using ih
   ·simpa using ih
theorem Xy{p:List Nat}{a b:Nat}(ha:a<p.length)(hb:b<p.length)(hab:a≠b)(h1:A6 p a=a)(h2:A6 p b=b):cnt (joined p a b)=cnt p+1:=by
 unfold cnt;rw[FD];have key:=GJ ha hb hab;refine Xx (x:=if a<b then a else b) Cq ?_ ?_ ?_ fun y hy hne=>?_
 ·by_cases q:a<b
  ·rw[if_pos q];exact Ah.mpr ha
  ·rw[if_neg q];exact Ah.mpr hb
 ·by_cases q:a<b
  ·rw[if_pos q,h1];exact decide_eq_false (by omega)
  ·rw[if_neg q,h2];exact decide_eq_false (by omega)
 ·by_cases q:a<b
  ·rw[if_pos q,key,if_pos rfl];exact decide_eq_true q
  ·rw[if_neg q,key,if_neg (Cr hab),if_pos rfl];exact decide_eq_true (by omega)
 ·rw[key]
  by_cases e1:y=a
  ·subst e1;rw[if_pos rfl,h1]
   by_cases q:y<b
   ·rw[if_pos q]at hne;exact absurd rfl hne
   ·rw[decide_eq_false q,decide_eq_false (Bu _)]
  ·rw[if_neg e1]
   by_cases e2:y=b
   ·subst e2;rw[if_pos rfl,h2]
    by_cases q:a<y
    ·rw[decide_eq_false (show ¬y<a by omega),decide_eq_false (Bu _)]
    ·rw[if_neg q]at hne;exact absurd rfl hne
   ·rw[if_neg e2]
def DN(w:List (List Nat))(p:List Nat)(a:Nat):List (List Nat) :=
 p::(if A6 p a=a then ((Gx w).filter fun q=>decide (q.1=a)&&decide (A6 p q.2=q.2)).map fun q=>joined p a q.2 else [])
def ET(w:List (List Nat)):List (List Nat):=(AF w.length).foldl (fun found a=>found.flatMap fun p=>DN w p a) [AF w.length]
def cont(w:List (List Nat)):Nat->Nat->List Nat->List (List Nat)
 |0,_,p=>[p]
 |m+1,k,p=>(DN w p k).flatMap (cont w m (k+1))
theorem Xz(w:List (List Nat)):∀(m k:Nat) (L:List (List Nat)),(By k m).foldl (fun found a=>found.flatMap fun p=>DN w p a) L=L.flatMap (cont w m k)
 |0,k,L=>by
  show L=L.flatMap (cont w 0 k);have e:cont w 0 k=fun p=>[p]:=rfl
  rw[e];exact (List.flatMap_singleton' L).symm
 |m+1,k,L=>by
  rw[Ee,BI,Xz w m (k+1),K1];rfl
theorem Rj(w:List (List Nat)):ET w=cont w w.length 0 (AF w.length):=by
 unfold ET;rw[show AF w.length=By 0 w.length from EF,Xz,Br]
theorem RB(k m:Nat):(AF (k+1+m)).filter (fun j=>decide (k<j))=By (k+1) m:=by
 rw[EF,show By 0 (k+1+m)=By 0 (k+1)++By (k+1) m from by
  rw[<-List.range'_append_1];simp,UZ]
 have e1:(By 0 (k+1)).filter (fun j=>decide (k<j))=[]:=Dc.mpr fun x hx h=>by
  have:=L4.mp hx
  have:=of_decide_eq_true h
  omega
 have e2:(By (k+1) m).filter (fun j=>decide (k<j))=By (k+1) m:=BZ.mpr fun x hx=>by
  have:=L4.mp hx
  exact decide_eq_true (by omega)
 rw[e1,e2,F0]
theorem V0{α:Type}(f:Nat->List α)(k:Nat):∀(l:List Nat),l.Nodup->k∈l->(∀x∈l,x≠k->f x=[])->l.flatMap f=f k
 |[],_,h,_=>nomatch h
 |y::l,nd,h,hz=>by
  obtain ⟨n1,n2⟩:=Bt.mp nd;rw[CA]
  by_cases e:y=k
  ·subst e;have q:l.flatMap f=[]:=List.flatMap_eq_nil_iff.mpr fun x hx=>hz x (AG _ hx) fun c=>n1 (c ▸ hx)
   rw[q,B1]
  ·have hm:k∈l:=by
    rcases Ak.mp h with c|c
    ·exact absurd c.symm e
    ·exact c
   rw[hz y AI e,F0];exact V0 f k l n2 hm fun x hx=>hz x (AG _ hx)
theorem vg(w:List (List Nat))(Q:Nat->Bool){k m:Nat}(hn:w.length=k+1+m):(Gx w).filter (fun q=>decide (q.1=k)&&Q q.2)=((By (k+1) m).filter fun b=>Q b&&wd w k b).map fun b=>(k,b):=by
 unfold Gx;rw[B6];unfold B5;rw[Sf,hn];rw[V0 _ k _ Cq (Ah.mpr (by omega)) fun x _ hx=>?_]
 ·rw[RB,Jp]
  congr 1
  refine BO fun b _=>?_
  simp
 ·rw[Dc];intro q hq h;obtain ⟨j,_,rfl⟩:=BE.mp hq;simp only[BB,decide_eq_true_eq]at h;exact hx h.1.1
def rem(p:List Nat)(k m:Nat):List Nat:=(By k m).filter fun x=>decide (A6 p x=x)
def app(p:List Nat)(m:List (Nat×Nat)):List Nat:=m.foldl (fun p q=>joined p q.1 q.2) p
theorem kz(w:List (List Nat))(p:List Nat){k m:Nat}(hn:w.length=k+1+m)(h:A6 p k=k) :
  DN w p k=p::((rem p (k+1) m).filter fun b=>wd w k b).map fun b=>joined p k b:=by
 unfold DN;rw[if_pos h,vg w (fun b=>decide (A6 p b=b)) hn,Dd]
 congr 1
 unfold rem;rw[B6]
 have:(By (k+1) m).filter (fun b=>decide (A6 p b=b)&&wd w k b)=(By (k+1) m).filter fun b=>wd w k b&&decide (A6 p b=b):=BO fun b _=>JA _ _
 rw[this];rfl
theorem k0{p:List Nat}{k m b:Nat}(hn:p.length=k+1+m)(hb:b∈rem p (k+1) m):rem (joined p k b) (k+1) m=(rem p (k+1) m).filter fun x=>x != b:=by
 obtain ⟨h1,h2⟩:=AJ.mp hb;have h1:=L4.mp h1;unfold rem;rw[B6];refine BO fun x hx=>?_
 have hx:=L4.mp hx;rw[GJ (by omega) (by omega) (by omega),if_neg (by omega)]
 by_cases e:x=b
 ·subst e;rw[if_pos rfl,decide_eq_false (show ¬k=x by omega)];simp
 ·rw[if_neg e];simp[e]
theorem Ia(s:House){w:List (List Nat)}(hw:s.wish=w):∀(m k f:Nat) (p:List Nat),p.length=w.length->w.length=k+m->(rem p k m).length<=f->cont w m k p=(s.pairings f (rem p k m)).map (app p)
 |0,k,f,p,_,_,_=>by
  have e:rem p k 0=[]:=rfl;rw[e];cases f<;>rfl
 |m+1,k,f,p,hp,hn,hf=>by
  show (DN w p k).flatMap (cont w m (k+1))=_;have er:rem p k (m+1)=(if A6 p k=k then [k] else [])++rem p (k+1) m:=by
   unfold rem;rw[Ee,Bm]
   by_cases h:A6 p k=k<;>simp[h]
  by_cases h:A6 p k=k
  ·rw[if_pos h]at er;rw[er]at hf ⊢;have hf':(rem p (k+1) m).length+1<=f:=by simpa using hf
   obtain ⟨f,rfl⟩:∃g,f=g+1:=⟨f-1,by omega⟩;rw[kz w p (m:=m) (by omega) h,CA];show _=((s.pairings f (rem p (k+1) m)++((rem p (k+1) m).filter fun b=>s.would k b).flatMap fun b=>(s.pairings f ((rem p (k+1) m).filter fun x=>x != b)).map fun r=>(k,b)::r)).map (app p);rw[BS,Ia s hw m (k+1) f p hp (by omega) (by omega)]
   congr 1
   rw[vD,List.flatMap_map];have ew:((rem p (k+1) m).filter fun b=>s.would k b)=(rem p (k+1) m).filter fun b=>wd w k b:=by subst hw;rfl
   rw[ew,vE,vE]
   congr 1
   refine FU fun b hb=>?_
   have hb:=(AJ.mp hb).1;have hr:=k0 (p:=p) (by omega) hb;have hfl:((rem p (k+1) m).filter fun x=>x != b).length<=f:=AY (Ax _ _) (by omega);rw[Ia s hw m (k+1) f (joined p k b) ((FD _ _ _).trans hp) (by omega) (by rw[hr];exact hfl),hr,Dd];rfl
  ·rw[if_neg h,F0]at er;rw[er]at hf ⊢;have ec:DN w p k=[p]:=by unfold DN;rw[if_neg h]
   rw[ec,Br];exact Ia s hw m (k+1) f p hp (by omega) hf
def Sep(n:Nat):List (Nat×Nat)->Prop
 |[]=>True
 |q::r=>q.1≠q.2/\q.1<n/\q.2<n/\(∀t∈r,t.1≠q.1/\t.1≠q.2/\t.2≠q.1/\t.2≠q.2)/\Sep n r
theorem Rk{m:List (Nat×Nat)}{x:Nat}(h:∀t∈m,t.1≠x/\t.2≠x):BD m x=x:=by
 unfold BD;have e:m.find? (fun p=>p.1==x||p.2==x)=none:=UY.mpr fun t ht hq=>by
  rw[EN,beq_iff_eq,beq_iff_eq]at hq;exact hq.elim (h t ht).1 (h t ht).2
 rw[e]
theorem V1(q:Nat×Nat)(r:List (Nat×Nat))(x:Nat):BD (q::r) x=if q.1=x then q.2 else if q.2=x then q.1 else BD r x:=by
 unfold BD;rw[CM]
 by_cases h1:q.1=x
 ·have e:(q.1==x||q.2==x)=true:=by simp[h1]
  rw[e];simp[h1]
 ·by_cases h2:q.2=x
  ·have e:(q.1==x||q.2==x)=true:=by simp[h2]
   rw[e];simp[h1,h2]
  ·have e:(q.1==x||q.2==x)=false:=by simp[h1,h2]
   rw[e,if_neg h1,if_neg h2]
theorem nM{n:Nat}:∀(m:List (Nat×Nat)) (p:List Nat),p.length=n->Sep n m->∀x,A6 (app p m) x=if BD m x=x then A6 p x else BD m x
 |[],p,_,_,x=>by
  have e:BD [] x=x:=rfl;rw[e,if_pos rfl];rfl
 |q::r,p,hp,⟨h1,h2,h3,h4,h5⟩,x=>by
  show A6 (app (joined p q.1 q.2) r) x=_;rw[nM r (joined p q.1 q.2) ((FD _ _ _).trans hp) h5 x,GJ (by omega) (by omega) h1,V1];have o1:BD r q.1=q.1:=Rk fun t ht=>⟨(h4 t ht).1,(h4 t ht).2.2.1⟩
  have o2:BD r q.2=q.2:=Rk fun t ht=>⟨(h4 t ht).2.1,(h4 t ht).2.2.2⟩
  by_cases e1:q.1=x
  ·subst e1;rw[if_pos o1,if_pos rfl,if_pos rfl,if_neg (Cr h1)]
  ·rw[if_neg (Cr e1),if_neg e1]
   by_cases e2:q.2=x
   ·subst e2;rw[if_pos o2,if_pos rfl,if_pos rfl,if_neg h1]
   ·rw[if_neg (Cr e2),if_neg e2]
theorem Jg(s:House):∀(f:Nat) (l:List Nat) (m:List (Nat×Nat)),m∈s.pairings f l->∀t∈m,t.1∈l/\t.2∈l
 |0,l,m,h,t,ht=>by
  have e:m=[]:=by simpa [House.pairings] using h
  subst e;exact nomatch ht
 |f+1,[],m,h,t,ht=>by
  have e:m=[]:=by simpa [House.pairings] using h
  subst e;exact nomatch ht
 |f+1,a::l,m,h,t,ht=>by
  have h:m∈s.pairings f l++(l.filter fun b=>s.would a b).flatMap fun b=>(s.pairings f (l.filter fun x=>x != b)).map fun r=>(a,b)::r:=h
  rcases BN.mp h with h|h
  ·have:=Jg s f l m h t ht
   exact ⟨AG _ this.1,AG _ this.2⟩
  ·obtain ⟨b,hb,hm⟩:=Bz.mp h;obtain ⟨r,hr,rfl⟩:=BE.mp hm;rcases Ak.mp ht with rfl|ht
   ·exact ⟨AI,AG _ (AJ.mp hb).1⟩
   ·have:=Jg s f _ r hr t ht
    exact ⟨AG _ (AJ.mp this.1).1,AG _ (AJ.mp this.2).1⟩
theorem Mz(s:House){n:Nat}:∀(f:Nat) (l:List Nat) (m:List (Nat×Nat)),l.Nodup->(∀x∈l,x<n)->m∈s.pairings f l->Sep n m
 |0,l,m,_,_,h=>by
  have e:m=[]:=by simpa [House.pairings] using h
  subst e;exact Em
 |f+1,[],m,_,_,h=>by
  have e:m=[]:=by simpa [House.pairings] using h
  subst e;exact Em
 |f+1,a::l,m,nd,hl,h=>by
  obtain ⟨n1,n2⟩:=Bt.mp nd;have h:m∈s.pairings f l++(l.filter fun b=>s.would a b).flatMap fun b=>(s.pairings f (l.filter fun x=>x != b)).map fun r=>(a,b)::r:=h
  rcases BN.mp h with h|h
  ·exact Mz s f l m n2 (fun x hx=>hl x (AG _ hx)) h
  ·obtain ⟨b,hb,hm⟩:=Bz.mp h;obtain ⟨r,hr,rfl⟩:=BE.mp hm;have hb:=(AJ.mp hb).1;refine ⟨fun e=>n1 (by show a∈l;rw[show a=b from e];exact hb),hl a AI,hl b (AG _ hb),fun t ht=>?_,Mz s f _ r (n2.filter _) (fun x hx=>hl x (AG _ (AJ.mp hx).1)) hr⟩;have q:=Jg s f _ r hr t ht;obtain ⟨q1,q2⟩:=AJ.mp q.1;obtain ⟨q3,q4⟩:=AJ.mp q.2;have q2:t.1≠b:=by simpa using q2
   have q4:t.2≠b:=by simpa using q4
   exact ⟨fun e=>n1 (by have e:t.1=a:=e;rw[<-e];exact q1),q2,fun e=>n1 (by have e:t.2=a:=e;rw[<-e];exact q3),q4⟩
theorem len_app:∀(m:List (Nat×Nat)) (p:List Nat),(app p m).length=p.length
 |[],_=>rfl
 |q::r,p=>(len_app r (joined p q.1 q.2)).trans (FD _ _ _)
theorem Fq(n x:Nat):A6 (AF n) x=x:=by
 have:=G8 n (fun x=>x) x
 rw[EY]at this;rw[this]
 by_cases h:x<n
 ·rw[if_pos h]
 ·rw[if_neg h]
theorem ek(s:House){w:List (List Nat)}(hw:s.wish=w){m:List (Nat×Nat)}(h:Sep w.length m):app (AF w.length) m=Bs s m:=by
 subst hw;refine IZ (by rw[len_app];unfold Bs House.all House.many;simp) fun x hx=>?_
 have hx:x<s.wish.length:=by rw[len_app]at hx;simpa using hx
 rw[nM m _ (by simp) h];unfold Bs House.all House.many;rw[G8,if_pos hx,Fq]
 by_cases e:BD m x=x
 ·rw[if_pos e,e]
 ·rw[if_neg e]
theorem nN{n:Nat}:∀(m:List (Nat×Nat)) (p:List Nat),p.length=n->Sep n m->(∀t∈m,A6 p t.1=t.1/\A6 p t.2=t.2)->cnt (app p m)=cnt p+m.length
 |[],p,_,_,_=>rfl
 |q::r,p,hp,⟨h1,h2,h3,h4,h5⟩,hf=>by
  obtain ⟨f1,f2⟩:=hf q AI;show cnt (app (joined p q.1 q.2) r)=_;rw[nN r _ ((FD _ _ _).trans hp) h5 fun t ht=>?_,Xy (by omega) (by omega) h1 f1 f2,BC]
  ·omega
  ·obtain ⟨g1,g2,g3,g4⟩:=h4 t ht;obtain ⟨k1,k2⟩:=hf t (AG _ ht);rw[GJ (by omega) (by omega) h1,GJ (by omega) (by omega) h1,if_neg g1,if_neg g2,if_neg g3,if_neg g4];exact ⟨k1,k2⟩
theorem bw(n:Nat):cnt (AF n)=0:=by
 unfold cnt;rw[Nd,Dc];intro x _ h;rw[Fq]at h;exact absurd (of_decide_eq_true h) (Bu _)
theorem Xc(s:House){w:List (List Nat)}(hw:s.wish=w){m:List (Nat×Nat)}(h:m∈s.pairings (s.many+1) s.all):Sep w.length m:=by
 subst hw;exact Mz s _ _ m Cq (fun x hx=>Ah.mp hx) h
theorem M0(s:House){w:List (List Nat)}(hw:s.wish=w){m:List (Nat×Nat)}(h:Sep w.length m):cnt (Bs s m)=m.length:=by
 rw[<-ek s hw h,nN m _ (by simp) h fun t _=>⟨Fq _ _,Fq _ _⟩,bw,kn]
theorem J3(s:House){w:List (List Nat)}(hw:s.wish=w):ET w=Dv s:=by
 rw[Rj];have er:rem (AF w.length) 0 w.length=AF w.length:=by
  unfold rem;rw[<-EF];exact BZ.mpr fun x _=>decide_eq_true (Fq _ _)
 rw[Ia s hw w.length 0 (w.length+1) (AF w.length) (by simp) (by simp) (by rw[er];simp),er];unfold Dv;subst hw;refine FU fun m hm=>?_
 exact ek s rfl (Xc s rfl hm)
open Km464 (House)
theorem Su{w:List (List Nat)}:GI w (AF w.length) :=
 ⟨by simp,fun a h=>by rw[Fq];exact h,fun a=>by rw[Fq,Fq],fun a h=>absurd (Fq _ _) h⟩
theorem X0{w:List (List Nat)}(W:Eg w){p:List Nat}(Pk:GI w p){a:Nat}{q:List Nat}(h:q∈DN w p a):GI w q:=by
 unfold DN at h;rcases Ak.mp h with rfl|h
 ·exact Pk
 ·by_cases ha:A6 p a=a
  ·rw[if_pos ha]at h;obtain ⟨t,ht,rfl⟩:=BE.mp h;obtain ⟨h1,h2⟩:=AJ.mp ht;have h3:=(AJ.mp h1).2;simp only[BB,decide_eq_true_eq]at h2;rw[h2.1]at h3;exact Ui W Pk h3 ha h2.2
  ·rw[if_neg ha]at h;exact nomatch h
theorem nO{w:List (List Nat)}(W:Eg w):∀(m k:Nat) (p:List Nat),GI w p->∀q∈cont w m k p,GI w q
 |0,k,p,Pk,q,h=>by
  have e:q=p:=by simpa [cont] using h
  subst e;exact Pk
 |m+1,k,p,Pk,q,h=>by
  obtain ⟨r,hr,hq⟩:=Bz.mp (show q∈(DN w p k).flatMap (cont w m (k+1)) from h);exact nO W m (k+1) r (X0 W Pk hr) q hq
theorem FJ{w:List (List Nat)}(W:Eg w){q:List Nat}(h:q∈ET w):GI w q:=by
 rw[Rj]at h;exact nO W _ _ _ Su q h
def Ea(p:List Nat)(k:Nat):List Nat:=(AF p.length).map fun x=>if x<k\/A6 p x<k then A6 p x else x
theorem FV{p:List Nat}{k x:Nat}(h:p.length<=x->¬x<k):A6 (Ea p k) x=if x<k\/A6 p x<k then A6 p x else x:=by
 unfold Ea;rw[G8]
 by_cases hx:x<p.length
 ·rw[if_pos hx]
 ·rw[if_neg hx,II (by omega)]
  by_cases q:x<k\/x<k
  ·rw[if_pos q]
  ·rw[if_neg q]
theorem iK{w:List (List Nat)}(W:Eg w){p:List Nat}(Pk:GI w p):∀(m k:Nat),w.length=k+m->p∈cont w m k (Ea p k)
 |0,k,hn=>by
  have hl:=Pk.len;have e:Ea p k=p:=by
   refine IZ (by unfold Ea;simp) fun x hx=>?_
   have hx:x<p.length:=by unfold Ea at hx;simpa using hx
   rw[FV (by omega),if_pos (.inl (by omega))]
  rw[e];exact A3.mpr rfl
 |m+1,k,hn=>by
  have hl:=Pk.len;have hi:=Pk.inv;refine Bz.mpr ⟨Ea p (k+1),?_,iK W Pk m (k+1) (by omega)⟩;have lenp:∀j,(Ea p j).length=p.length:=fun j=>by unfold Ea;simp
  have same:A6 p k<=k->Ea p (k+1)=Ea p k:=fun hk=>by
   refine IZ (by rw[lenp,lenp]) fun x hx=>?_
   rw[FV (by omega),FV (by omega)]
   by_cases h1:x<k\/A6 p x<k
   ·rw[if_pos h1,if_pos (by omega)]
   ·rw[if_neg h1]
    by_cases h2:x<k+1\/A6 p x<k+1
    ·rw[if_pos h2];have h3:x=k\/A6 p x=k:=by omega
     rcases h3 with rfl|h3
     ·omega
     ·have:x=A6 p k:=by rw[<-h3,hi]
      omega
    ·rw[if_neg h2]
  by_cases hk:A6 p k<=k
  ·rw[same hk];exact AI
  ·have ea:A6 (Ea p k) k=k:=by rw[FV (by omega),if_neg (by omega)]
   have hb:A6 p k<w.length:=Pk.lt k (by omega);have hs:=Pk.sh k (by omega);unfold DN;rw[if_pos ea];refine AG _ (BE.mpr ⟨(k,A6 p k),AJ.mpr ⟨AJ.mpr ⟨Fp.mpr ⟨by omega,hb⟩,hs⟩,?_⟩,?_⟩)
   ·have:A6 (Ea p k) (A6 p k)=A6 p k:=by rw[FV (by omega),if_neg (by rw[hi];omega)]
    simp[this]
   ·refine IZ (by rw[FD,lenp,lenp]) fun x hx=>?_
    rw[GJ (by rw[lenp];omega) (by rw[lenp];omega) (by omega),FV (by omega),FV (by omega)]
    by_cases e1:x=k
    ·subst e1;rw[if_pos rfl,if_pos (.inl (by omega))]
    ·rw[if_neg e1]
     by_cases e2:x=A6 p k
     ·rw[if_pos e2,e2,hi,if_pos (.inr (by omega))]
     ·rw[if_neg e2]
      by_cases h1:x<k\/A6 p x<k
      ·rw[if_pos h1,if_pos (by omega)]
      ·rw[if_neg h1,if_neg];intro h2;have h3:A6 p x=k:=by omega
       exact e2 (by rw[<-h3,hi])
theorem ow{w:List (List Nat)}(W:Eg w){p:List Nat}(Pk:GI w p):p∈ET w:=by
 rw[Rj];have e:Ea p 0=AF w.length:=by
  refine IZ (by unfold Ea;simp[Pk.len]) fun x hx=>?_
  rw[FV (by omega),if_neg (by omega),Fq]
 rw[<-e];exact iK W Pk _ _ (by omega)
def T:Nat->Nat
 |0=>1
 |1=>1
 |k+2=>T (k+1)+(k+1)*T k
theorem yc:∀(k:Nat),T k<=T (k+1)
 |0=>AV _
 |k+1=>by
  show T (k+1)<=T (k+1)+(k+1)*T k;omega
theorem yd{j k:Nat}(h:j<=k):T j<=T k:=by
 induction k with
 |zero =>
  have:j=0:=by omega
  subst this;exact AV _
 |succ k ih =>
  by_cases e:j=k+1
  ·subst e;exact AV _
  ·exact AY (ih (by omega)) (yc k)
theorem GK{α β:Type}(f:α->List β)(c:Nat):∀(l:List α),(∀x∈l,(f x).length<=c)->(l.flatMap f).length<=l.length*c
 |[],_=>by simp
 |x::l,h=>by
  have h1:=GK f c l fun y hy=>h y (AG _ hy)
  have h2:=h x AI;rw[CA,Ab,BC,OP];omega
theorem Jh(s:House):∀(f:Nat) (l:List Nat),(s.pairings f l).length<=T l.length
 |0,l=>by
  show 1<=T l.length;exact yd (j:=0) (Bb _)
 |f+1,[]=>AV _
 |f+1,[a]=>by
  show (s.pairings f []++(([]:List Nat).filter fun b=>s.would a b).flatMap fun b=>_).length<=1
  have:=Jh s f []
  simp only[vR,List.flatMap_nil,B1];exact this
 |f+1,a::c::l=>by
  show (s.pairings f (c::l)++((c::l).filter fun b=>s.would a b).flatMap fun b=>(s.pairings f ((c::l).filter fun x=>x != b)).map fun r=>(a,b)::r).length<=T (l.length+1)+(l.length+1)*T l.length;rw[Ab];have h1:=Jh s f (c::l);have h2:(((c::l).filter fun b=>s.would a b).flatMap fun b=>(s.pairings f ((c::l).filter fun x=>x != b)).map fun r=>(a,b)::r).length<=((c::l).filter fun b=>s.would a b).length*T l.length:=by
   refine GK _ _ _ fun b hb=>?_
   rw[AB];refine AY (Jh s f _) (yd ?_);have hm:=(AJ.mp hb).1
   have:((c::l).filter fun x=>x != b).length<(c::l).length:=by
    have q:=List.length_filter_lt_length_iff_exists (l:=c::l) (p:=fun x=>x != b);exact q.mpr ⟨b,hm,by simp⟩
   rw[BC]at this;omega
  have h3:((c::l).filter fun b=>s.would a b).length<=l.length+1:=Ax _ _;have h4:((c::l).filter fun b=>s.would a b).length*T l.length<=(l.length+1)*T l.length:=Jb _ h3;have h1:(s.pairings f (c::l)).length<=T (l.length+1):=h1;omega
theorem Gg{w:List (List Nat)}(W:Eg w):(ET w).length<=76:=by
 rw[J3 ⟨w,[]⟩ rfl];unfold Dv;rw[AB];have h:=Jh ⟨w,[]⟩ (w.length+1) (AF w.length);rw[BW]at h;exact AY h (yd W.len)
theorem Gh{α:Type}[DecidableEq α]:∀(l L:List α),l.Nodup->(∀x∈l,x∈L)->l.length<=L.length
 |[],_,_,_=>Bb _
 |x::l,L,nd,h=>by
  obtain ⟨n1,n2⟩:=Bt.mp nd;have hx:=h x AI
  have:=Gh l (L.erase x) n2 fun y hy=>(List.mem_erase_of_ne (show y≠x from fun e=>n1 (e ▸ hy))).mpr (h y (AG _ hy))
  rw[gz hx]at this
  have:0<L.length:=List.length_pos_of_mem hx
  rw[BC];omega
theorem fA{w:List (List Nat)}(W:Eg w){l:List (List Nat)}(nd:l.Nodup)(h:∀p∈l,GI w p):l.length<=76 :=
 AY (Gh l (ET w) nd fun p hp=>ow W (h p hp)) (Gg W)
theorem iL(s:House){w:List (List Nat)}(hw:s.wish=w)(m:List (Nat×Nat)):s.holds m=(Eh s (Bs s m) == []):=by
 unfold House.holds House.breakers Eh
 congr 1
 refine BO fun q hq=>?_
 obtain ⟨h1,h2⟩:=Fp.mp (show (q.1,q.2)∈B5 s.many from hq);have e:∀x,x<s.many->(Bs s m).getD x x=BD m x:=fun x hx=>by
  have:=G8 s.many (BD m) x
  rw[if_pos hx]at this;exact this
 unfold House.breaks Gs;rw[e q.1 (by omega),e q.2 h2]
def holding(w:List (List Nat)):List (List Nat):=(ET w).filter fun p=>L8 w p == []
theorem Xd(s:House){w:List (List Nat)}(W:Eg w)(hw:s.wish=w):s.good.map (Bs s)=holding w:=by
 have e1:holding w=(Dv s).filter fun p=>Eh s p == []:=by
  unfold holding;rw[<-J3 s hw];refine BO fun p hp=>?_
  rw[My W (FJ W hp) s hw]
 rw[e1];unfold Dv House.good;rw[Jp]
 congr 1
 refine BO fun m _=>?_
 rw[iL s hw];rfl
theorem iM(s:House){w:List (List Nat)}(hw:s.wish=w){m:List (Nat×Nat)}(h:m∈s.good):Sep w.length m:=Xc s hw (AJ.mp h).1
def glad(w:List (List Nat))(p q:List Nat):Nat:=((AF w.length).filter fun a=>decide (rk w a (A6 p a)<rk w a (A6 q a))).length
theorem QY(s:House){w:List (List Nat)}(W:Eg w)(hw:s.wish=w){p q:List Nat}(Pp:GI w p)(Pq:GI w q):glad w p q=Uc s q p:=by
 subst hw;unfold glad Uc House.all House.many
 congr 1
 refine BO fun a _=>?_
 rw[nJ W (Ss Pp a) (Ss Pq a)];rfl
def iN(w:List (List Nat))(p:List Nat):List (List Nat):=(ET w).filter fun q=>decide (glad w p q<glad w q p)
theorem fB(s:House){w:List (List Nat)}(W:Eg w)(hw:s.wish=w){p:List Nat}(Pp:GI w p):iN w p=Hy s p:=by
 unfold iN Hy;rw[<-J3 s hw];refine BO fun q hq=>?_
 rw[QY s W hw Pp (FJ W hq),QY s W hw (FJ W hq) Pp]
def better(r q:List Nat):List Nat:=if cnt r<cnt q then q else r
def best(w:List (List Nat)):List Nat:=(ET w).foldl better (AF w.length)
def fm(r:List (Nat×Nat))(L:List (List (Nat×Nat))):List (Nat×Nat):=L.foldl (fun r q=>if r.length<q.length then q else r) r
theorem bx(r:List (Nat×Nat))(A B:List (List (Nat×Nat))):fm r (A++B)=fm (fm r A) B:=EK
theorem sC:∀(L:List (List (Nat×Nat))) (r:List (Nat×Nat)),r.length<=(fm r L).length
 |[],r=>AV _
 |q::L,r=>by
  show r.length<=(fm (if r.length<q.length then q else r) L).length;refine AY ?_ (sC L _)
  split<;>omega
theorem fC:∀(L:List (List (Nat×Nat))) (r r0:List (Nat×Nat)),r0.length<=r.length->fm r L=if r.length<(fm r0 L).length then fm r0 L else r
 |[],r,r0,h=>by
  show r=if r.length<r0.length then r0 else r
  rw[if_neg (by omega)]
 |q::L,r,r0,h=>by
  show fm (if r.length<q.length then q else r) L=if r.length<(fm (if r0.length<q.length then q else r0) L).length then fm (if r0.length<q.length then q else r0) L else r
  by_cases h1:r.length<q.length
  ·rw[if_pos h1,if_pos (show r0.length<q.length by omega)]
   have:=sC L q
   rw[if_pos (by omega)]
  ·rw[if_neg h1]
   by_cases h2:r0.length<q.length
   ·rw[if_pos h2];exact fC L r q (by omega)
   ·rw[if_neg h2];exact fC L r r0 h
theorem Xe(x:Nat×Nat):∀(L:List (List (Nat×Nat))) (r:List (Nat×Nat)),fm (x::r) (L.map (fun q=>x::q))=x::fm r L
 |[],r=>rfl
 |q::L,r=>by
  show fm (if (x::r).length<(x::q).length then x::q else x::r) (L.map fun q=>x::q)=x::fm (if r.length<q.length then q else r) L;rw[BC,BC]
  by_cases h:r.length<q.length
  ·rw[if_pos h,if_pos (by omega)];exact Xe x L q
  ·rw[if_neg h,if_neg (by omega)];exact Xe x L r
theorem Ib(s:House):∀(f:Nat) (l:List Nat),∃L,s.pairings f l=[]::L
 |0,l=>⟨[],rfl⟩
 |f+1,[]=>⟨[],rfl⟩
 |f+1,a::l=>by
  obtain ⟨L,e⟩:=Ib s f l;exact ⟨L++_,by show s.pairings f l++_=_;rw[e];rfl⟩
theorem vh{L:List (List (Nat×Nat))}{x:Nat×Nat}(r:List (Nat×Nat)):(∃M,L=[]::M)->fm r (L.map fun q=>x::q)=if r.length<(x::fm [] L).length then x::fm [] L else r:=by
 rintro ⟨M,rfl⟩
 by_cases h0:r=[]
 ·subst h0;rw[if_pos (by simp)];show fm [x] (M.map fun q=>x::q)=x::fm [] M;exact Xe x M []
 ·have hr:1<=r.length:=by cases r with
   |nil=>exact absurd rfl h0
   |cons=>simp
  show fm (if r.length < [x].length then [x] else r) (M.map fun q=>x::q)=_;rw[if_neg (by simp;omega),fC _ r [x] (by simpa using hr),Xe x M []];rfl
theorem QZ(s:House){g:Qx}(hg:∀a b,a<s.many->b<s.many->g.likes a b=s.would a b):∀(f:Nat) (l:List Nat),(∀x∈l,x<s.many)->Jx g f l=fm [] (s.pairings f l)
 |0,l,_=>by
  show []=fm [] [[]];rfl
 |f+1,[],_=>by
  show []=fm [] [[]];rfl
 |f+1,a::l,hl=>by
  have hl':∀x∈l,x<s.many:=fun x hx=>hl x (AG _ hx)
  show (l.filter fun b=>g.likes a b).foldl (fun r b=>if r.length<((a,b)::Jx g f (l.filter fun x=>x != b)).length then (a,b)::Jx g f (l.filter fun x=>x != b) else r) (Jx g f l)
   = fm [] (s.pairings f l++(l.filter fun b=>s.would a b).flatMap fun b=>(s.pairings f (l.filter fun x=>x != b)).map fun r=>(a,b)::r)
  rw[bx,QZ s hg f l hl'];have ef:(l.filter fun b=>g.likes a b)=l.filter fun b=>s.would a b:=BO fun b hb=>hg a b (hl a AI) (hl' b hb)
  rw[ef];have go:∀(B:List Nat) (r:List (Nat×Nat)),B.foldl (fun r b=>if r.length<((a,b)::Jx g f (l.filter fun x=>x != b)).length then (a,b)::Jx g f (l.filter fun x=>x != b) else r) r
    = fm r (B.flatMap fun b=>(s.pairings f (l.filter fun x=>x != b)).map fun r=>(a,b)::r):=by
   intro B
   induction B with
   |nil=>intro r;rfl
   |cons b B ih =>
    intro r;rw[BI,CA,bx,ih]
    congr 1
    rw[vh r (Ib s f _),QZ s hg f _ fun x hx=>hl' x (AJ.mp hx).1]
  exact go _ _
theorem OZ(s:House){w:List (List Nat)}(W:Eg w)(hw:s.wish=w)(a b:Nat):(Aq s).likes a b=s.would a b:=by
 subst hw;show ((B5 s.wish.length).filter fun q=>wd s.wish q.1 q.2).contains (rV a b)=wd s.wish a b;have e:rV a b=if a<b then (a,b) else (b,a):=rfl
 cases h:wd s.wish a b with
 |true =>
  obtain ⟨h1,h2,h3⟩:=OX W h;refine AN.mpr (AJ.mpr ?_);rw[e]
  by_cases q:a<b
  ·rw[if_pos q];exact ⟨Fp.mpr ⟨q,h2⟩,h⟩
  ·rw[if_neg q];exact ⟨Fp.mpr ⟨by omega,h1⟩,by rw[Jf];exact h⟩
 |false =>
  cases z:((B5 s.wish.length).filter fun q=>wd s.wish q.1 q.2).contains (rV a b) with
  |false=>rfl
  |true =>
   have z:=(AJ.mp (AN.mp z)).2;rw[e]at z
   by_cases q:a<b
   ·rw[if_pos q]at z;rw[show wd s.wish a b=true from z]at h;cases h
   ·rw[if_neg q]at z;have z:wd s.wish b a=true:=z;rw[Jf,h]at z;cases z
theorem fD(s:House){w:List (List Nat)}(W:Eg w)(hw:s.wish=w):N4 (Aq s) s.all=fm [] (s.pairings (s.many+1) s.all):=by
 unfold N4;rw[show s.all.length=s.many from BW];exact QZ s (fun a b _ _=>OZ s W hw a b) _ _ fun x hx=>Ah.mp hx
theorem fold_map(s:House){w:List (List Nat)}(hw:s.wish=w):∀(L:List (List (Nat×Nat))) (r:List (Nat×Nat)),Sep w.length r->(∀m∈L,Sep w.length m)->(L.map (Bs s)).foldl better (Bs s r)=Bs s (fm r L)/\Sep w.length (fm r L)
 |[],r,h,_=>⟨rfl,h⟩
 |q::L,r,h,hL=>by
  have hq:=hL q AI;have e:better (Bs s r) (Bs s q)=Bs s (if r.length<q.length then q else r):=by
   unfold better;rw[M0 s hw h,M0 s hw hq]
   split<;>rfl
  have hs:Sep w.length (if r.length<q.length then q else r):=by
   split
   ·exact hq
   ·exact h
  have:=fold_map s hw L (if r.length<q.length then q else r) hs fun m hm=>hL m (AG _ hm)
  rw[Az,BI,e];exact this
theorem fE(s:House){w:List (List Nat)}(W:Eg w)(hw:s.wish=w):best w=Bs s (N4 (Aq s) s.all)/\cnt (best w)=N5 (Aq s) s.all:=by
 have e0:AF w.length=Bs s []:=by
  rw[<-ek s hw (show Sep w.length [] from Em)];rfl
 have:=fold_map s hw (s.pairings (s.many+1) s.all) [] Em fun m hm=>Xc s hw hm
 have e1:best w=Bs s (N4 (Aq s) s.all):=by
  unfold best;rw[J3 s hw,fD s W hw,e0];exact this.1
 refine ⟨e1,?_⟩;rw[e1,fD s W hw,M0 s hw this.2];unfold N5;rw[fD s W hw]
open Km464 (House)
abbrev Lv:=List (List Nat×List (Nat×Nat))
def Ij(seen:List (List Nat))(r:Lv)(y:List Nat×List (Nat×Nat)):Lv:=if seen.contains y.1=true\/(r.map CB).contains y.1=true then r else r++[y]
def ext(w:List (List Nat))(x:List Nat×List (Nat×Nat)):Lv:=(L8 w x.1).map fun q=>(brk x.1 q.1 q.2,x.2++[q])
def OO(seen:List (List Nat))(ys:Lv):Lv:=ys.foldl (Ij seen) []
def Nf(w:List (List Nat))(seen:List (List Nat))(l:Lv):Lv:=OO seen (l.flatMap (ext w))
theorem V2(seen:List (List Nat))(r:Lv):∀(ys N:Lv),ys.foldl (Ij seen) (r++N)=r++ys.foldl (Ij (seen++r.map CB)) N
 |[],N=>rfl
 |y::ys,N=>by
  rw[BI,BI];have e:Ij seen (r++N) y=r++Ij (seen++r.map CB) N y:=by
   unfold Ij;rw[BS];have c:(seen.contains y.1=true\/(r.map CB++N.map CB).contains y.1=true) ↔ ((seen++r.map CB).contains y.1=true\/(N.map CB).contains y.1=true):=by
    rw[AN,AN,AN,AN,BN,BN,or_assoc]
   by_cases h:seen.contains y.1=true\/(r.map CB++N.map CB).contains y.1=true
   ·rw[if_pos h,if_pos (c.mp h)]
   ·rw[if_neg h,if_neg (fun z=>h (c.mpr z)),CY]
  rw[e];exact V2 seen r ys _
theorem k3(seen:List (List Nat))(A B:Lv):OO seen (A++B)=OO seen A++OO (seen++(OO seen A).map CB) B:=by
 unfold OO;rw[EK]
 have:=V2 seen (A.foldl (Ij seen) []) B []
 rw[B1]at this;exact this
theorem bz{seen:List (List Nat)}:∀(ys r:Lv) {y:List Nat×List (Nat×Nat)},y∈ys.foldl (Ij seen) r->y∈r\/y∈ys
 |[],r,y,h=>.inl h
 |z::ys,r,y,h=>by
  rw[BI]at h;rcases bz ys _ h with h|h
  ·unfold Ij at h
   split at h
   ·exact .inl h
   ·rcases BN.mp h with h|h
    ·exact .inl h
    ·exact .inr (by rw[A3.mp h];exact AI)
  ·exact .inr (AG _ h)
theorem fF{seen:List (List Nat)}{ys:Lv}{y:List Nat×List (Nat×Nat)}(h:y∈OO seen ys):y∈ys:=by
 rcases bz ys [] h with h|h
 ·exact nomatch h
 ·exact h
theorem V3{seen:List (List Nat)}:∀(ys r:Lv),(seen++r.map CB).Nodup->(seen++(ys.foldl (Ij seen) r).map CB).Nodup
 |[],r,h=>h
 |y::ys,r,h=>by
  rw[BI];refine V3 ys _ ?_;unfold Ij
  split
  ·exact h
  ·rename_i hn;rw[BS,<-CY];refine DA.mpr ⟨h,by simp,fun a ha b hb e=>hn ?_⟩;have hb:b=y.1:=by simpa using hb
   rw[e,hb]at ha;rcases BN.mp ha with z|z
   ·exact .inl (AN.mpr z)
   ·exact .inr (AN.mpr z)
structure X1(w:List (List Nat))(seen:List (List Nat))(l:Lv):Prop where
 nd:seen.Nodup
 ok:∀p∈seen,GI w p
 sub:∀x∈l,x.1∈seen
 ye:∀x∈l,∀q∈x.2,wd w q.1 q.2=true
theorem k4{w:List (List Nat)}{p:List Nat}{q:Nat×Nat}(h:q∈L8 w p):wd w q.1 q.2=true/\q.1<q.2/\q.2<w.length:=by
 have h:=(AJ.mp h).1;obtain ⟨h1,h2⟩:=AJ.mp h;obtain ⟨h3,h4⟩:=Fp.mp (show (q.1,q.2)∈B5 w.length from h1);exact ⟨h2,h3,h4⟩
theorem sG{w:List (List Nat)}(W:Eg w){seen:List (List Nat)}{l:Lv}(B:X1 w seen l){y:List Nat×List (Nat×Nat)}(h:y∈l.flatMap (ext w)):GI w y.1/\∀q∈y.2,wd w q.1 q.2=true:=by
 obtain ⟨x,hx,hy⟩:=Bz.mp h;obtain ⟨q,hq,rfl⟩:=BE.mp hy;have hw:=(k4 hq).1;refine ⟨Xw W (B.ok _ (B.sub x hx)) hw,fun t ht=>?_⟩;rcases BN.mp ht with ht|ht
 ·exact B.ye x hx t ht
 ·rw[A3.mp ht];exact hw
theorem X1.next{w:List (List Nat)}(W:Eg w){seen:List (List Nat)}{l:Lv}(B:X1 w seen l):X1 w (seen++(Nf w seen l).map CB) (Nf w seen l):=by
 refine ⟨V3 _ [] (by simpa using B.nd),fun p hp=>?_,fun x hx=>CD _ (BE.mpr ⟨x,hx,rfl⟩),fun x hx=>(sG W B (fF hx)).2⟩;rcases BN.mp hp with hp|hp
 ·exact B.ok p hp
 ·obtain ⟨x,hx,rfl⟩:=BE.mp hp;exact (sG W B (fF hx)).1
theorem X1.first{w:List (List Nat)}{p:List Nat}(Pk:GI w p):X1 w [p] [(p,[])] :=
 ⟨by simp,fun q hq=>by rw[A3.mp hq];exact Pk,fun x hx=>by rw[A3.mp hx];exact A3.mpr rfl,fun x hx q hq=>by rw[A3.mp hx]at hq;exact nomatch hq⟩
theorem X2{α:Type}{P Q:α->Bool}:∀{l:List α},(∀x∈l,P x=Q x)->l.find? P=l.find? Q
 |[],_=>rfl
 |x::l,h=>by
  rw[CM,CM,h x AI,X2 fun y hy=>h y (AG _ hy)]
theorem Dy{α β:Type}{f g:α->List β}:∀{l:List α},(∀x∈l,f x=g x)->l.flatMap f=l.flatMap g
 |[],_=>rfl
 |x::l,h=>by
  rw[CA,CA,h x AI,Dy fun y hy=>h y (AG _ hy)]
theorem K5(s:House){w:List (List Nat)}(W:Eg w)(hw:s.wish=w){seen:List (List Nat)}{l:Lv}(B:X1 w seen l)(f:Nat) :
  Gu s (f+1) seen l=match l.find? fun x=>L8 w x.1 == [] with
   |some x=>.inl x.2
   |none=>if l=[] then .inr true else Gu s f (seen++(Nf w seen l).map CB) (Nf w seen l):=by
 have e1:(l.find? fun x=>Eh s x.1 == [])=l.find? fun x=>L8 w x.1 == [] :=
  X2 fun x hx=>by rw[My W (B.ok _ (B.sub x hx)) s hw]
 have e2:(l.flatMap fun x=>(Eh s x.1).map fun q=>(Jw x.1 q.1 q.2,x.2++[q]))=l.flatMap (ext w):=by
  refine Dy fun x hx=>?_
  have Pk:=B.ok _ (B.sub x hx);unfold ext;rw[My W Pk s hw];refine FU fun q hq=>?_
  rw[<-My W Pk s hw]at hq;obtain ⟨h1,h2,h3⟩:=k4 hq;rw[Xv Pk (by omega) h3 (by omega)]
 rw[Gu,e1,e2];rfl
structure At(s:House)(w:List (List Nat))(p:List Nat)(f:Nat)(seen:List (List Nat))(l:Lv):Prop where
 inv:X1 w seen l
 eq:Gu s f seen l=Gu s 400 [p] [(p,[])]
 one:1<=f
 room:l≠[]->78<=f+seen.length
theorem At.first{w:List (List Nat)}{p:List Nat}(s:House)(Pk:GI w p):At s w p 400 [p] [(p,[])]:=⟨.first Pk,rfl,by omega,fun _=>by simp⟩
theorem At.empty{s:House}{w:List (List Nat)}(W:Eg w)(hw:s.wish=w){p:List Nat}{f:Nat}{seen:List (List Nat)}(A:At s w p f seen []):DE s p=none:=by
 unfold DE;rw[<-A.eq];obtain ⟨g,rfl⟩:∃g,f=g+1:=⟨f-1,by have:=A.one;omega⟩;rw[K5 s W hw A.inv];rfl
theorem At.found{s:House}{w:List (List Nat)}(W:Eg w)(hw:s.wish=w){p:List Nat}{f:Nat}{seen:List (List Nat)}{l:Lv}(A:At s w p f seen l){x:List Nat×List (Nat×Nat)}
  (h:(l.find? fun x=>L8 w x.1 == [])=some x):DE s p=some x.2:=by
 unfold DE;rw[<-A.eq];obtain ⟨g,rfl⟩:∃g,f=g+1:=⟨f-1,by have:=A.one;omega⟩;rw[K5 s W hw A.inv,h]
theorem At.turn{s:House}{w:List (List Nat)}(W:Eg w)(hw:s.wish=w){p:List Nat}{f:Nat}{seen:List (List Nat)}{l:Lv}(A:At s w p f seen l)(hl:l≠[])
  (h:(l.find? fun x=>L8 w x.1 == [])=none):At s w p (f-1) (seen++(Nf w seen l).map CB) (Nf w seen l):=by
 have h1:=A.room hl;have h2:=fA W A.inv.nd A.inv.ok;have e:=A.eq;obtain ⟨g,rfl⟩:∃g,f=g+1:=⟨f-1,by omega⟩;rw[K5 s W hw A.inv,h]at e;simp only[if_neg hl]at e;refine ⟨A.inv.next W,e,by omega,fun hn=>?_⟩;rw[Ab,AB]
 have:0<(Nf w seen l).length:=Sg.mpr hn
 omega
theorem b7(s:House){w:List (List Nat)}(W:Eg w)(hw:s.wish=w):∀(f:Nat) (seen:List (List Nat)) (l:Lv) (v:List (Nat×Nat)),X1 w seen l->Gu s f seen l=.inl v->∀q∈v,wd w q.1 q.2=true
 |0,seen,l,v,B,h=>by
  rw[Gu]at h;cases h
 |f+1,seen,l,v,B,h=>by
  rw[K5 s W hw B]at h;cases e:l.find? fun x=>L8 w x.1 == [] with
  |some x =>
   rw[e]at h;have h:x.2=v:=iB h;rw[<-h];exact B.ye x (List.mem_of_find?_eq_some e)
  |none =>
   rw[e]at h
   by_cases hl:l=[]
   ·simp only[if_pos hl]at h;cases h
   ·simp only[if_neg hl]at h;exact b7 s W hw f _ _ v (B.next W) h
theorem yf(s:House){w:List (List Nat)}(W:Eg w)(hw:s.wish=w){p:List Nat}(Pk:GI w p){v:List (Nat×Nat)}(h:DE s p=some v):∀q∈v,wd w q.1 q.2=true:=by
 unfold DE at h;cases e:Gu s 400 [p] [(p,[])] with
 |inl u =>
  rw[e]at h;have h:u=v:=Al h;rw[<-h];exact b7 s W hw 400 _ _ u (.first Pk) e
 |inr b =>
  rw[e]at h;cases h
def endOf(p:List Nat)(v:List (Nat×Nat)):List Nat:=v.foldl (fun p q=>brk p q.1 q.2) p
theorem X3{w:List (List Nat)}(W:Eg w):∀(v:List (Nat×Nat)) (p:List Nat),GI w p->(∀q∈v,wd w q.1 q.2=true)->endOf p v=v.foldl (fun p q=>Jw p q.1 q.2) p/\GI w (endOf p v)
 |[],p,Pk,_=>⟨rfl,Pk⟩
 |q::v,p,Pk,h=>by
  have hq:=h q AI;obtain ⟨h1,h2,h3⟩:=OX W hq
  have:=X3 W v (brk p q.1 q.2) (Xw W Pk hq) fun t ht=>h t (AG _ ht)
  refine ⟨?_,this.2⟩;show endOf (brk p q.1 q.2) v=v.foldl _ (Jw p q.1 q.2);rw[this.1,Xv Pk h1 h2 h3]
open Km464 (House)
theorem Oa{p p':List Nat}{keep:Nat×Nat->Bool}(hl:p'.length=p.length)(h1:∀x,x<p.length->x<A6 p x->keep (x,A6 p x)=true->A6 p' x=A6 p x)
  (h2:∀x,x<p.length->x<A6 p x->keep (x,A6 p x)=false->A6 p' x=x) (h3:∀x,x<p.length->¬x<A6 p x->¬x<A6 p' x):(BY p).filter keep=BY p':=by
 show (((AF p.length).filter fun a=>decide (a<A6 p a)).map fun a=>(a,A6 p a)).filter keep=((AF p'.length).filter fun a=>decide (a<A6 p' a)).map fun a=>(a,A6 p' a)
 rw[Jp,B6,hl];have e:((AF p.length).filter fun a=>(keep ∘ fun a=>(a,A6 p a)) a&&decide (a<A6 p a))=(AF p.length).filter fun a=>decide (a<A6 p' a):=by
  refine BO fun x hx=>?_
  have hx:=Ah.mp hx;show (keep (x,A6 p x)&&decide (x<A6 p x))=decide (x<A6 p' x)
  by_cases c:x<A6 p x
  ·rw[decide_eq_true c,Bool.and_true];cases k:keep (x,A6 p x) with
   |true=>rw[h1 x hx c k,decide_eq_true c]
   |false=>rw[h2 x hx c k,decide_eq_false (Bu _)]
  ·rw[decide_eq_false c,Q6,decide_eq_false (h3 x hx c)]
 rw[e];refine FU fun x hx=>?_
 obtain ⟨m1,m2⟩:=AJ.mp hx;have m1:=Ah.mp m1;have m2:=of_decide_eq_true m2;have c:x<A6 p x:=by
  by_cases c:x<A6 p x
  ·exact c
  ·exact absurd m2 (h3 x m1 c)
 cases k:keep (x,A6 p x) with
 |true=>rw[h1 x m1 c k]
 |false=>rw[h2 x m1 c k]at m2;exact absurd m2 (Bu _)
theorem X4{w:List (List Nat)}{p:List Nat}(Pk:GI w p){a:Nat}(ha:a<w.length):(BY p).filter (fun q=>q.1 != a&&q.2 != a)=BY (parted p a):=by
 have key:=C5 Pk ha;have hi:=Pk.inv;refine Oa (Cb p a) (fun x hx c k=>?_) (fun x hx c k=>?_) fun x hx c=>?_
 ·have k:x≠a/\A6 p x≠a:=by simpa using k
  rw[key,if_neg];rintro (z|z)
  ·exact k.1 z
  ·exact k.2 (by rw[z,hi])
 ·have k:¬(x≠a/\A6 p x≠a):=fun z=>by simp[z.1,z.2]at k
  rw[key,if_pos]
  by_cases e:x=a
  ·exact .inl e
  ·by_cases e2:A6 p x=a
   ·exact .inr (by rw[<-e2,hi])
   ·exact absurd ⟨e,e2⟩ k
 ·rw[key]
  split
  ·exact Bu _
  ·exact c
theorem Sv{p:List Nat}{a:Nat}(h:A6 p a=a):parted p a=p:=by
 unfold parted;rw[h,List.set_set];refine IZ (by rw[B7]) fun x hx=>?_
 rw[QW]
 by_cases e:a=x/\x<p.length
 ·rw[if_pos e,<-e.1,h]
 ·rw[if_neg e]
theorem ox{p:List Nat}{a b:Nat}(ha:A6 p a=a)(hb:A6 p b=b):brk p a b=joined p a b:=by
 unfold brk;rw[Sv ha,Sv hb]
theorem Sw(n a:Nat):wl (Ac n []) a=[]:=by
 unfold wl;rw[AQ,iC]
 split<;>rfl
theorem oy(n:Nat):Km464.opened n=hs (Ac n []) (AF n):=by
 show House.mk _ []=House.mk _ (BY (AF n));have e:BY (AF n)=[]:=Nd.mp (by rw[K4,bw]);rw[e]
theorem iO{n:Nat}(h:n<=6):Eg (Ac n []) :=
 ⟨by simpa using h,fun a=>by rw[Sw];exact C3,fun a b hb=>by rw[Sw]at hb;exact nomatch hb⟩
theorem sI(n:Nat):GI (Ac n []) (AF n):=by
 have:=@Su (Ac n [])
 rwa [QR]at this
def Dq(n a:Nat)(l:List Nat):Prop:=l.Nodup/\∀b∈l,b<n/\b≠a
theorem M3{n a:Nat}{l:List Nat}:E8 n a l=true ↔ Dq n a l:=by
 unfold E8 Dq;rw[BB,Bc,Bc];constructor
 ·rintro ⟨h1,h2⟩;refine ⟨List.pairwise_iff_getElem.mpr fun i j hi hj hij=>?_,fun b hb=>by have:=h1 b hb;simpa using this⟩
  have:=Bc.mp (h2 i (Ah.mpr hi)) j (Ah.mpr hj)
  intro e;rw[EN,beq_iff_eq]at this;rcases this with z|z
  ·omega
  ·rw[AQ,AQ,A5 hi,A5 hj,e]at z;simp at z
 ·rintro ⟨h1,h2⟩;refine ⟨fun b hb=>by simpa using h2 b hb,fun i hi=>Bc.mpr fun j hj=>?_⟩;have hi:=Ah.mp hi;have hj:=Ah.mp hj
  by_cases e:i=j
  ·simp[e]
  ·rw[EN];refine .inr ?_;rw[AQ,AQ,A5 hi,A5 hj];show (l[i] != l[j])=true
   have:l[i]≠l[j]:=fun z=>e ((Iz h1).mp z)
   simpa using this
theorem fG{w:List (List Nat)}{a:Nat}(ha:a<w.length)(l:List Nat)(x:Nat):wl (w.set a l) x=if x=a then l else wl w x:=by
 unfold wl;rw[AQ,AQ,Vy]
 by_cases e:a=x
 ·subst e;simp[ha]
 ·simp[e,Cr e]
theorem X5{w:List (List Nat)}(W:Eg w){a:Nat}(ha:a<w.length){l:List Nat}(hl:Dq w.length a l):Eg (w.set a l):=by
 refine ⟨by rw[B7];exact W.len,fun x=>?_,fun x b hb=>?_⟩
 ·rw[fG ha]
  split
  ·exact hl.1
  ·exact W.nd x
 ·rw[fG ha]at hb;rw[B7]
  by_cases e:x=a
  ·rw[if_pos e]at hb;rw[e];exact hl.2 b hb
  ·rw[if_neg e]at hb;exact W.lt x b hb
def G2(w':List (List Nat))(p:List Nat)(a:Nat):List Nat:=if wd w' a (A6 p a)=true then p else parted p a
theorem k5{w:List (List Nat)}{a:Nat}(ha:a<w.length)(l:List Nat){x y:Nat}(hx:x≠a)(hy:y≠a):wd (w.set a l) x y=wd w x y:=by
 unfold wd;rw[fG ha,fG ha,if_neg hx,if_neg hy]
theorem yg{w:List (List Nat)}(W:Eg w){p:List Nat}(Pk:GI w p){a:Nat}(ha:a<w.length){l:List Nat}(hl:Dq w.length a l):GI (w.set a l) (G2 (w.set a l) p a):=by
 have hi:=Pk.inv;have W':=X5 W ha hl;have P1:=Jr Pk ha;have lenw:(w.set a l).length=w.length:=B7;unfold G2
 by_cases h:wd (w.set a l) a (A6 p a)=true
 ·rw[if_pos h];refine ⟨by rw[lenw];exact Pk.len,fun x hx=>by rw[lenw]at hx ⊢;exact Pk.lt x hx,hi,fun x hx=>?_⟩
  by_cases e1:x=a
  ·rw[e1];exact h
  ·by_cases e2:A6 p x=a
   ·have:x=A6 p a:=by rw[<-e2,hi]
    rw[this,hi,Jf];exact h
   ·rw[k5 ha l e1 e2];exact Pk.sh x hx
 ·rw[if_neg h];refine ⟨by rw[lenw];exact P1.len,fun x hx=>by rw[lenw]at hx ⊢;exact P1.lt x hx,P1.inv,fun x hx=>?_⟩;have hx':=hx;rw[C5 Pk ha]at hx ⊢
  by_cases c:x=a\/x=A6 p a
  ·rw[if_pos c]at hx;exact absurd rfl hx
  ·rw[if_neg c]at hx ⊢;rw[k5 ha l (fun z=>c (.inl z)) (fun z=>c (.inr (by rw[<-z,hi])))];exact Pk.sh x hx
theorem vi{w:List (List Nat)}(W:Eg w){p:List Nat}(Pk:GI w p){a:Nat}(ha:a<w.length){l:List Nat}(hl:Dq w.length a l):((hs w p).setWish a l).mended=hs (w.set a l) (G2 (w.set a l) p a):=by
 have hi:=Pk.inv;have W':=X5 W ha hl;show House.mk (w.set a l) ((BY p).filter fun q=>wd (w.set a l) q.1 q.2)=House.mk (w.set a l) (BY (G2 (w.set a l) p a))
 congr 1
 have key:=C5 Pk ha;have other:∀x,A6 p x≠x->¬(x=a\/x=A6 p a)->wd (w.set a l) x (A6 p x)=true:=fun x hx c=>by
  rw[k5 ha l (fun z=>c (.inl z)) (fun z=>c (.inr (by rw[<-z,hi])))];exact Pk.sh x hx
 have at_a:∀x,x=a\/x=A6 p a->wd (w.set a l) x (A6 p x)=wd (w.set a l) a (A6 p a):=fun x c=>by
  rcases c with rfl|rfl
  ·rfl
  ·rw[hi,Jf]
 refine Oa (by unfold G2;split;rfl;exact Cb p a) (fun x hx c k=>?_) (fun x hx c k=>?_) fun x hx c=>?_
 ·unfold G2
  by_cases h:wd (w.set a l) a (A6 p a)=true
  ·rw[if_pos h]
  ·rw[if_neg h,key,if_neg];intro z;exact h (by rw[<-at_a x z];exact k)
 ·have z:x=a\/x=A6 p a:=by
   by_cases z:x=a\/x=A6 p a
   ·exact z
   ·have:=other x (by omega) z
    rw[show wd (w.set a l) x (A6 p x)=false from k]at this;cases this
  have h:¬wd (w.set a l) a (A6 p a)=true:=by rw[<-at_a x z,show wd (w.set a l) x (A6 p x)=false from k];exact AZ
  unfold G2;rw[if_neg h,key,if_pos z]
 ·unfold G2
  split
  ·exact c
  ·rw[key]
   split
   ·exact Bu _
   ·exact c
def nP(w:List (List Nat))(l:List Nat):List (List Nat):=(w.map fun v=>v++[w.length])++[l]
theorem Xf(w:List (List Nat))(l:List Nat):(nP w l).length=w.length+1:=by unfold nP;simp
theorem sJ(w:List (List Nat))(l:List Nat)(x:Nat):wl (nP w l) x=if x<w.length then wl w x++[w.length] else if x=w.length then l else []:=by
 unfold wl nP;rw[AQ,m8,AB]
 by_cases h:x<w.length
 ·rw[if_pos h,if_pos h,BH,AQ,A5 h];rfl
 ·rw[if_neg h,if_neg h]
  by_cases e:x=w.length
  ·subst e;simp
  ·rw[if_neg e,Bo (by simp;omega)];rfl
theorem AAx{w:List (List Nat)}(W:Eg w)(h6:w.length<6){l:List Nat}(hl:Dq w.length w.length l):Eg (nP w l):=by
 refine ⟨by rw[Xf];omega,fun x=>?_,fun x b hb=>?_⟩
 ·rw[sJ]
  by_cases h:x<w.length
  ·rw[if_pos h];refine DA.mpr ⟨W.nd x,by simp,fun c hc d hd e=>?_⟩
   have:=(W.lt x c hc).1
   have hd:d=w.length:=by simpa using hd
   omega
  ·rw[if_neg h]
   split
   ·exact hl.1
   ·exact C3
 ·rw[sJ]at hb;rw[Xf]
  by_cases h:x<w.length
  ·rw[if_pos h]at hb;rcases BN.mp hb with hb|hb
   ·have:=W.lt x b hb
    exact ⟨by omega,this.2⟩
   ·have hb:b=w.length:=by simpa using hb
    exact ⟨by omega,by omega⟩
  ·rw[if_neg h]at hb
   by_cases e:x=w.length
   ·rw[if_pos e]at hb
    have:=hl.2 b hb
    exact ⟨by omega,by omega⟩
   ·rw[if_neg e]at hb;exact nomatch hb
theorem Ik(p:List Nat)(x:Nat):A6 (p++[p.length]) x=A6 p x:=by
 unfold A6;rw[AQ,AQ,m8]
 by_cases h:x<p.length
 ·rw[if_pos h]
 ·rw[if_neg h,Bo (l:=p) (by omega)]
  by_cases e:x=p.length
  ·subst e;simp
  ·rw[Bo (by simp;omega)]
theorem ACF{w:List (List Nat)}(W:Eg w){p:List Nat}(Pk:GI w p)(l:List Nat):GI (nP w l) (p++[w.length]):=by
 have hl:=Pk.len;rw[<-hl];have wm:∀x y,y∈wl w x->y∈wl (nP w l) x:=fun x y h=>by
  rw[sJ]
  by_cases c:x<w.length
  ·rw[if_pos c];exact DQ _ h
  ·rw[AAw (by omega)]at h;exact nomatch h
 refine ⟨by rw[Xf];simp[hl],fun x hx=>?_,fun x=>by rw[Ik,Ik];exact Pk.inv x,fun x hx=>?_⟩
 ·rw[Ik,Xf]at *
  by_cases c:x<w.length
  ·have:=Pk.lt x c;omega
  ·rw[II (by omega)];omega
 ·rw[Ik]at hx ⊢;obtain ⟨h1,h2⟩:=HX (Pk.sh x hx);unfold wd;rw[BB];exact ⟨AN.mpr (wm _ _ h1),AN.mpr (wm _ _ h2)⟩
theorem X6(p:List Nat):BY (p++[p.length])=BY p:=by
 show ((AF (p++[p.length]).length).filter fun a=>decide (a<A6 (p++[p.length]) a)).map (fun a=>(a,A6 (p++[p.length]) a))=((AF p.length).filter fun a=>decide (a<A6 p a)).map fun a=>(a,A6 p a)
 have e:(p++[p.length]).length=p.length+1:=by simp
 rw[e,HQ,UZ];have e2:[p.length].filter (fun a=>decide (a<A6 (p++[p.length]) a))=[]:=by
  rw[Dc];intro x hx h;have hx:x=p.length:=by simpa using hx
  rw[Ik,hx,II (AV _)]at h;exact absurd (of_decide_eq_true h) (Bu _)
 rw[e2,B1];have e3:(fun a=>A6 (p++[p.length]) a)=A6 p:=funext fun a=>Ik p a
 simp only[Ik]
theorem AAy{w:List (List Nat)}{p:List Nat}(Pk:GI w p)(l:List Nat):({ hs w p with wish:=(w.map fun v=>v++[w.length])++[l] }:House)=hs (nP w l) (p++[w.length]):=by
 show House.mk _ (BY p)=House.mk _ (BY (p++[w.length]));rw[<-Pk.len,X6,Pk.len];rfl
def Sx(w:List (List Nat)):List (List Nat):=(w.dropLast).map fun v=>v.filter fun b=>b != w.length-1
def Rl(w:List (List Nat))(p:List Nat):List Nat:=(parted p (w.length-1)).take (w.length-1)
theorem Sy(w:List (List Nat)):(Sx w).length=w.length-1:=by unfold Sx;simp
theorem fH(w:List (List Nat))(x:Nat):wl (Sx w) x=if x<w.length-1 then (wl w x).filter (fun b=>b != w.length-1) else []:=by
 unfold wl Sx;rw[AQ,BH,List.getElem?_dropLast,AQ]
 by_cases h:x<w.length-1
 ·rw[if_pos h,if_pos h,A5 (by omega)];rfl
 ·rw[if_neg h,if_neg h];rfl
theorem xp{w:List (List Nat)}(W:Eg w):Eg (Sx w):=by
 refine ⟨by rw[Sy];have:=W.len;omega,fun x=>?_,fun x b hb=>?_⟩
 ·rw[fH]
  split
  ·exact (W.nd x).filter _
  ·exact C3
 ·rw[fH]at hb;rw[Sy]
  by_cases h:x<w.length-1
  ·rw[if_pos h]at hb;obtain ⟨h1,h2⟩:=AJ.mp hb;have h3:=W.lt x b h1;have h2:b≠w.length-1:=by simpa using h2
   exact ⟨by omega,h3.2⟩
  ·rw[if_neg h]at hb;exact nomatch hb
theorem sL{p:List Nat}{n:Nat}(h:n<=p.length)(x:Nat):A6 (p.take n) x=if x<n then A6 p x else x:=by
 unfold A6;rw[AQ,AQ,List.getElem?_take]
 by_cases c:x<n
 ·rw[if_pos c,if_pos c]
 ·rw[if_neg c,if_neg c];rfl
theorem iP{w:List (List Nat)}{p:List Nat}(Pk:GI w p)(h0:0<w.length)(x:Nat):A6 (Rl w p) x=if x=A6 p (w.length-1)\/w.length-1<=x then x else A6 p x:=by
 unfold Rl;rw[sL (by rw[Cb,Pk.len];omega),C5 Pk (by omega)]
 by_cases c:x<w.length-1
 ·rw[if_pos c]
  by_cases e:x=A6 p (w.length-1)
  ·rw[if_pos (.inr e),if_pos (.inl e)]
  ·rw[if_neg (show ¬(x=w.length-1\/x=A6 p (w.length-1)) from fun z=>z.elim (fun q=>by omega) e),if_neg (show ¬(x=A6 p (w.length-1)\/w.length-1<=x) from fun z=>z.elim e (fun q=>by omega))]
 ·rw[if_neg c,if_pos (.inr (by omega))]
theorem AAz{w:List (List Nat)}{p:List Nat}(Pk:GI w p)(h0:0<w.length):GI (Sx w) (Rl w p):=by
 have hi:=Pk.inv;have hl:=Pk.len;have key:=iP Pk h0;have notlast:∀x,¬(x=A6 p (w.length-1)\/w.length-1<=x)->A6 p x<w.length-1:=fun x c=>by
  have h1:=Pk.lt x (by omega);have h2:A6 p x≠w.length-1:=fun e=>c (.inl (by rw[<-e,hi]))
  omega
 refine ⟨by unfold Rl;rw[Sy,B0,Cb];omega,fun x hx=>?_,fun x=>?_,fun x hx=>?_⟩
 ·rw[Sy]at hx ⊢;rw[key]
  by_cases c:x=A6 p (w.length-1)\/w.length-1<=x
  ·rw[if_pos c];exact hx
  ·rw[if_neg c];exact notlast x c
 ·rw[key x]
  by_cases c:x=A6 p (w.length-1)\/w.length-1<=x
  ·rw[if_pos c,key,if_pos c]
  ·rw[if_neg c,key,if_neg,hi]
   have:=notlast x c
   rintro (z|z)
   ·have z2:=congrArg (A6 p) z;rw[hi,hi]at z2;exact c (.inr (by omega))
   ·omega
 ·rw[key]at hx ⊢
  by_cases c:x=A6 p (w.length-1)\/w.length-1<=x
  ·rw[if_pos c]at hx;exact absurd rfl hx
  ·rw[if_neg c]at hx ⊢;have h1:=notlast x c;obtain ⟨h2,h3⟩:=HX (Pk.sh x hx);unfold wd;rw[BB,fH,fH,if_pos (by omega),if_pos h1];exact ⟨AN.mpr (AJ.mpr ⟨h2,by simp;omega⟩),AN.mpr (AJ.mpr ⟨h3,by simp;omega⟩)⟩
theorem oz{w:List (List Nat)}{p:List Nat}(Pk:GI w p)(h0:0<w.length):(BY p).filter (fun q=>q.1 != w.length-1&&q.2 != w.length-1)=BY (Rl w p):=by
 rw[X4 Pk (show w.length-1<w.length by omega)];have hl:=Pk.len;have hlp:(parted p (w.length-1)).length=w.length-1+1:=by rw[Cb];omega
 have e:parted p (w.length-1)=Rl w p++[(Rl w p).length]:=by
  have lo:(Rl w p).length=w.length-1:=by unfold Rl;rw[B0,Cb];omega
  refine IZ (by simp[lo,hlp]) fun x hx=>?_
  rw[Ik,iP Pk h0,C5 Pk (by omega)]
  by_cases c:x=A6 p (w.length-1)
  ·rw[if_pos (.inr c),if_pos (.inl c)]
  ·by_cases c2:x=w.length-1
   ·rw[if_pos (.inl c2),if_pos (.inr (by omega))]
   ·rw[if_neg (fun z=>z.elim c2 c),if_neg (fun z=>z.elim c (fun q=>by omega))]
 rw[e,X6]
theorem yh{w:List (List Nat)}{p:List Nat}(Pk:GI w p)(h0:0<w.length) :
  ({ wish:=((hs w p).wish.dropLast).map fun v=>v.filter fun b=>b != w.length-1,paired:=(hs w p).paired.filter fun q=>q.1 != w.length-1&&q.2 != w.length-1 }:House)=hs (Sx w) (Rl w p):=by
 show House.mk _ ((BY p).filter _)=House.mk _ (BY (Rl w p));rw[oz Pk h0];rfl
open Km464 (House)
abbrev S:=List (List Nat)×List Nat
def hS(x:S):House:=hs x.1 x.2
structure Dk where
 now:S
 past:List S
 X7:List S
def Dk.AU(d:Dk):oe:=⟨hS d.now,d.past.map hS,d.X7.map hS⟩
def Dk.become(d:Dk)(x:S):Dk:=⟨x,(d.now::d.past).take 20,[]⟩
structure SOk(x:S):Prop where
 w:Eg x.1
 p:GI x.1 x.2
structure E7(d:Dk):Prop where
 now:SOk d.now
 past:∀x∈d.past,SOk x
 X7:∀x∈d.X7,SOk x
 room:d.past.length+d.X7.length<=20
theorem Ex(d:Dk)(x:S):(d.become x).AU=d.AU.become (hS x):=by
 show og _ _ _=og _ _ _;have e:((d.now::d.past).take 20).map hS=(hS d.now::d.past.map hS).take Km465.PAST:=by
  rw[JB];rfl
 rw[show (d.become x).past=(d.now::d.past).take 20 from rfl,e];rfl
theorem E7.become{d:Dk}(h:E7 d){x:S}(hx:SOk x):E7 (d.become x):=by
 refine ⟨hx,fun y hy=>?_,(fun y hy=>nomatch hy),by show ((d.now::d.past).take 20).length+0<=20;rw[B0];omega⟩;have hy:=JV (show y∈(d.now::d.past).take 20 from hy);rcases Ak.mp hy with e|e
 ·rw[e];exact h.now
 ·exact h.past y e
abbrev JW(a:EZ):List Int:=ABk a
theorem Ey{d:Dk}(h:E7 d):Bd d.AU.now=d.now.2:=ya h.now.p
theorem Gi{d:Dk}(h:E7 d)(a:Nat):BD d.AU.now.paired a=A6 d.now.2 a:=OY h.now.p a
theorem V4(d:Dk):d.AU.now.paired.length=cnt d.now.2:=K4 d.now.2
theorem Sz(d:Dk){n:Nat}(h:6<n):Ag d.AU (.start n)=(d.AU,BK (-22)):=if_pos h
def opened(n:Nat):Dk:=⟨(Ac n [],AF n),[],[]⟩
theorem b8(d:Dk){n:Nat}(h:¬6<n):Ag d.AU (.start n)=((opened n).AU,BK 0):=by
 show (if Ei<n then _ else _)=_;rw[if_neg (show ¬Ei<n from h),oy];rfl
theorem b9{n:Nat}(h:n<=6):E7 (opened n):=⟨⟨iO h,sI n⟩,(fun x hx=>nomatch hx),(fun x hx=>nomatch hx),Bb _⟩
theorem ak(d:Dk){a n:Nat}{l:List Nat}(h:d.now.1.length<=a):Ag d.AU (.wish a n l)=(d.AU,BK (-2)):=if_pos h
theorem V5(d:Dk){a n:Nat}{l:List Nat}(h:¬d.now.1.length<=a)(h2:5<n\/¬Dq d.now.1.length a (l.take n)):Ag d.AU (.wish a n l)=(d.AU,BK (-22)):=by
 show (if d.now.1.length<=a then _ else if Ei-1<n\/E8 d.now.1.length a (l.take n)=false then _ else _)=_;rw[if_neg h,if_pos];rcases h2 with h2|h2
 ·exact .inl h2
 ·refine .inr ?_;cases z:E8 d.now.1.length a (l.take n) with
  |false=>rfl
  |true=>exact absurd (M3.mp z) h2
theorem sM{d:Dk}(D:E7 d){a n:Nat}{l:List Nat}(h:a<d.now.1.length)(h1:n<=5)(h2:Dq d.now.1.length a (l.take n)) :
  Ag d.AU (.wish a n l)=((d.become (d.now.1.set a (l.take n),G2 (d.now.1.set a (l.take n)) d.now.2 a)).AU,⟨((wl d.now.1 a).length:Int),[cnt (G2 (d.now.1.set a (l.take n)) d.now.2 a)]⟩):=by
 show (if d.now.1.length<=a then _ else if Ei-1<n\/E8 d.now.1.length a (l.take n)=false then _ else _)=_;have h3:¬(Ei-1<n\/E8 d.now.1.length a (l.take n)=false):=by
  rintro (z|z)
  ·exact absurd (show 5<n from z) (by omega)
  ·rw[M3.mpr h2]at z;cases z
 rw[if_neg (by omega),if_neg h3];have e:(d.AU.now.setWish a (l.take n)).mended=hS (d.now.1.set a (l.take n),G2 (d.now.1.set a (l.take n)) d.now.2 a):=vi D.now.w D.now.p h h2;rw[e,Ex];rw[show (hS (d.now.1.set a (l.take n),G2 (d.now.1.set a (l.take n)) d.now.2 a)).paired.length=cnt (G2 (d.now.1.set a (l.take n)) d.now.2 a) from K4 _];rfl
theorem vj{d:Dk}(D:E7 d){a:Nat}{l:List Nat}(h:a<d.now.1.length)(h2:Dq d.now.1.length a l):E7 (d.become (d.now.1.set a l,G2 (d.now.1.set a l) d.now.2 a)) :=
 D.become ⟨X5 D.now.w h h2,yg D.now.w D.now.p h h2⟩
theorem iQ(d:Dk){n:Nat}{l:List Nat}(h:6<=d.now.1.length):Ag d.AU (.moveIn n l)=(d.AU,BK (-28)):=if_pos h
theorem okIn{n:Nat}{l:List Nat}:Dq (n+1) n l ↔ Dq n n l:=by
 unfold Dq;constructor
 ·rintro ⟨h1,h2⟩;exact ⟨h1,fun b hb=>by have:=h2 b hb;omega⟩
 ·rintro ⟨h1,h2⟩;exact ⟨h1,fun b hb=>by have:=h2 b hb;omega⟩
theorem cA(d:Dk){n:Nat}{l:List Nat}(h:¬6<=d.now.1.length)(h2:5<n\/¬Dq d.now.1.length d.now.1.length (l.take n)):Ag d.AU (.moveIn n l)=(d.AU,BK (-22)):=by
 show (if Ei<=d.now.1.length then _ else if Ei-1<n\/E8 (d.now.1.length+1) d.now.1.length (l.take n)=false then _ else _)=_;rw[if_neg (show ¬Ei<=d.now.1.length from h),if_pos];rcases h2 with h2|h2
 ·exact .inl h2
 ·refine .inr ?_;cases z:E8 (d.now.1.length+1) d.now.1.length (l.take n) with
  |false=>rfl
  |true=>exact absurd (okIn.mp (M3.mp z)) h2
theorem yi{d:Dk}(D:E7 d){n:Nat}{l:List Nat}(h:¬6<=d.now.1.length)(h1:n<=5)(h2:Dq d.now.1.length d.now.1.length (l.take n)) :
  Ag d.AU (.moveIn n l)=((d.become (nP d.now.1 (l.take n),d.now.2++[d.now.1.length])).AU,BK (d.now.1.length:Int)):=by
 show (if Ei<=d.now.1.length then _ else if Ei-1<n\/E8 (d.now.1.length+1) d.now.1.length (l.take n)=false then _ else _)=_;have h3:¬(Ei-1<n\/E8 (d.now.1.length+1) d.now.1.length (l.take n)=false):=by
  rintro (z|z)
  ·exact absurd (show 5<n from z) (by omega)
  ·rw[M3.mpr (okIn.mpr h2)]at z;cases z
 rw[if_neg (show ¬Ei<=d.now.1.length from h),if_neg h3,Ex];have e:({ d.AU.now with wish:=(d.AU.now.wish.map fun w=>w++[d.AU.now.many])++[l.take n] }:House)=hS (nP d.now.1 (l.take n),d.now.2++[d.now.1.length]):=AAy D.now.p (l.take n);rw[<-e];rfl
theorem AA0{d:Dk}(D:E7 d){l:List Nat}(h:d.now.1.length<6)(h2:Dq d.now.1.length d.now.1.length l):E7 (d.become (nP d.now.1 l,d.now.2++[d.now.1.length])) :=
 D.become ⟨AAx D.now.w h h2,ACF D.now.w D.now.p l⟩
theorem ao(d:Dk)(h:d.now.1.length=0):Ag d.AU .moveOut=(d.AU,BK (-6)):=if_pos h
theorem sN{d:Dk}(D:E7 d)(h:0<d.now.1.length):Ag d.AU .moveOut=((d.become (Sx d.now.1,Rl d.now.1 d.now.2)).AU,
  ⟨((d.now.1.length-1:Nat):Int),[if A6 d.now.2 (d.now.1.length-1)=d.now.1.length-1 then 0 else A6 d.now.2 (d.now.1.length-1)+1]⟩):=by
 show (if d.now.1.length=0 then _ else _)=_;rw[if_neg (by omega),Ex];have e:({ wish:=(d.AU.now.wish.dropLast).map fun v=>v.filter fun b=>b != d.now.1.length-1,paired:=d.AU.now.paired.filter fun q=>q.1 != d.now.1.length-1&&q.2 != d.now.1.length-1 }:House)=hS (Sx d.now.1,Rl d.now.1 d.now.2):=yh D.now.p h;rw[<-e,<-Gi D];rfl
theorem vk{d:Dk}(D:E7 d)(h:0<d.now.1.length):E7 (d.become (Sx d.now.1,Rl d.now.1 d.now.2)):=D.become ⟨xp D.now.w,AAz D.now.p h⟩
theorem RC(d:Dk){a b:Nat}(h:d.now.1.length<=a\/d.now.1.length<=b):Ag d.AU (.pair a b)=(d.AU,BK (-2)):=if_pos h
theorem iR(d:Dk){a b:Nat}(h:¬(d.now.1.length<=a\/d.now.1.length<=b))(h2:wd d.now.1 a b=false):Ag d.AU (.pair a b)=(d.AU,BK (-33)):=by
 show (if d.now.1.length<=a\/d.now.1.length<=b then _ else if wd d.now.1 a b=false then _ else _)=_;rw[if_neg h,if_pos h2]
theorem Ob{d:Dk}(D:E7 d){a b:Nat}(h:¬(d.now.1.length<=a\/d.now.1.length<=b))(h2:wd d.now.1 a b=true)(h3:A6 d.now.2 a≠a\/A6 d.now.2 b≠b):Ag d.AU (.pair a b)=(d.AU,BK (-16)):=by
 show (if d.now.1.length<=a\/d.now.1.length<=b then _ else if wd d.now.1 a b=false then _ else if BD d.AU.now.paired a≠a\/BD d.AU.now.paired b≠b then _ else _)=_;rw[if_neg h,if_neg (by rw[h2];exact Bn),Gi D,Gi D,if_pos h3]
theorem sO{d:Dk}(D:E7 d){a b:Nat}(h2:wd d.now.1 a b=true)(h3:A6 d.now.2 a=a)(h4:A6 d.now.2 b=b) :
  Ag d.AU (.pair a b)=((d.become (d.now.1,joined d.now.2 a b)).AU,BK (cnt (joined d.now.2 a b):Int)):=by
 obtain ⟨l1,l2,l3⟩:=OX D.now.w h2;show (if d.now.1.length<=a\/d.now.1.length<=b then _ else if wd d.now.1 a b=false then _ else if BD d.AU.now.paired a≠a\/BD d.AU.now.paired b≠b then _ else _)=_;rw[if_neg (by omega),if_neg (by rw[h2];exact Bn),Gi D,Gi D,if_neg (by rintro (z|z);exact z h3;exact z h4),Ex,Ey D,<-Xv D.now.p l1 l2 l3,ox h3 h4,V4];have hl:=D.now.p.len;rw[Xy (by omega) (by omega) l3 h3 h4];rfl
theorem vm{d:Dk}(D:E7 d){a b:Nat}(h2:wd d.now.1 a b=true)(h3:A6 d.now.2 a=a)(h4:A6 d.now.2 b=b):E7 (d.become (d.now.1,joined d.now.2 a b)):=D.become ⟨D.now.w,Ui D.now.w D.now.p h2 h3 h4⟩
theorem aq(d:Dk){a:Nat}(h:d.now.1.length<=a):Ag d.AU (.part a)=(d.AU,BK (-2)):=if_pos h
theorem iS{d:Dk}(D:E7 d){a:Nat}(h:¬d.now.1.length<=a)(h2:A6 d.now.2 a=a):Ag d.AU (.part a)=(d.AU,BK (-6)):=by
 show (if d.now.1.length<=a then _ else if BD d.AU.now.paired a=a then _ else _)=_;rw[if_neg h,Gi D,if_pos h2]
theorem sP{d:Dk}(D:E7 d){a:Nat}(h:¬d.now.1.length<=a)(h2:¬A6 d.now.2 a=a):Ag d.AU (.part a)=((d.become (d.now.1,parted d.now.2 a)).AU,BK (A6 d.now.2 a:Int)):=by
 show (if d.now.1.length<=a then _ else if BD d.AU.now.paired a=a then _ else (d.AU.become { d.AU.now with paired:=d.AU.now.paired.filter fun p=>p.1 != a&&p.2 != a },BK ((BD d.AU.now.paired a:Nat):Int)))=_;rw[if_neg h,Gi D,if_neg h2,Ex];have e:({ d.AU.now with paired:=d.AU.now.paired.filter fun p=>p.1 != a&&p.2 != a }:House)=hS (d.now.1,parted d.now.2 a):=by
  show House.mk d.now.1 _=House.mk d.now.1 _;rw[show d.AU.now.paired=BY d.now.2 from rfl,X4 D.now.p (by omega)]
 rw[e]
theorem vn{d:Dk}(D:E7 d){a:Nat}(h:a<d.now.1.length):E7 (d.become (d.now.1,parted d.now.2 a)):=D.become ⟨D.now.w,Jr D.now.p h⟩
theorem Oc(d:Dk){a b:Nat}(h:d.now.1.length<=a\/d.now.1.length<=b):Ag d.AU (.break_ a b)=(d.AU,BK (-2)):=if_pos h
theorem fJ{d:Dk}(D:E7 d){a b:Nat}(h:¬(d.now.1.length<=a\/d.now.1.length<=b))(h2:wb d.now.1 d.now.2 a b=false):Ag d.AU (.break_ a b)=(d.AU,BK (-33)):=by
 show (if d.now.1.length<=a\/d.now.1.length<=b then _ else if Gs d.AU.now (Bd d.AU.now) a b=false then _ else _)=_;rw[if_neg h,Ey D,<-QX D.now.w D.now.p d.AU.now rfl,if_pos h2]
theorem xq{w:List (List Nat)}(W:Eg w){p:List Nat}(Pk:GI w p){a b:Nat}(h:wb w p a b=true):wd w a b=true:=by
 rw[QX W Pk ⟨w,[]⟩ rfl]at h;unfold Gs at h;rw[BB]at h;exact h.1
theorem o4{d:Dk}(D:E7 d){a b:Nat}(h2:wb d.now.1 d.now.2 a b=true):Ag d.AU (.break_ a b)=((d.become (d.now.1,brk d.now.2 a b)).AU,⟨(cnt (brk d.now.2 a b):Int),[(L8 d.now.1 (brk d.now.2 a b)).length]⟩):=by
 have hw:=xq D.now.w D.now.p h2;obtain ⟨l1,l2,l3⟩:=OX D.now.w hw;show (if d.now.1.length<=a\/d.now.1.length<=b then _ else if Gs d.AU.now (Bd d.AU.now) a b=false then _ else _)=_;rw[if_neg (by omega),Ey D,<-QX D.now.w D.now.p d.AU.now rfl,if_neg (by rw[h2];exact Bn),Ex];dsimp only;rw[<-Xv D.now.p l1 l2 l3,K4,<-My D.now.w (Xw D.now.w D.now.p hw) d.AU.now rfl];rfl
theorem iT{d:Dk}(D:E7 d){a b:Nat}(h:wd d.now.1 a b=true):E7 (d.become (d.now.1,brk d.now.2 a b)):=D.become ⟨D.now.w,Xw D.now.w D.now.p h⟩
def K0(d:Dk):Option (List (Nat×Nat)):=DE ⟨d.now.1,BY d.now.2⟩ d.now.2
theorem GL{d:Dk}(D:E7 d):DE d.AU.now (Bd d.AU.now)=K0 d:=by
 rw[Ey D];rfl
theorem iU{d:Dk}(D:E7 d)(h:K0 d=none):Ag d.AU .step=(d.AU,BK (-33)):=by
 show (match DE d.AU.now (Bd d.AU.now) with|none=>_|some []=>_|some (q::l)=>_)=_;rw[GL D,h]
theorem au{d:Dk}(D:E7 d)(h:K0 d=some []):Ag d.AU .step=(d.AU,BK (-17)):=by
 show (match DE d.AU.now (Bd d.AU.now) with|none=>_|some []=>_|some (q::l)=>_)=_;rw[GL D,h]
theorem S1{d:Dk}(D:E7 d){v:List (Nat×Nat)}(h:K0 d=some v):∀q∈v,wd d.now.1 q.1 q.2=true:=yf _ D.now.w rfl D.now.p h
theorem sQ{d:Dk}(D:E7 d){q:Nat×Nat}{l:List (Nat×Nat)}(h:K0 d=some (q::l)):Ag d.AU .step=((d.become (d.now.1,brk d.now.2 q.1 q.2)).AU,⟨(l.length:Int),[q.1,q.2]⟩):=by
 have hw:=S1 D h q AI;obtain ⟨l1,l2,l3⟩:=OX D.now.w hw;show (match DE d.AU.now (Bd d.AU.now) with|none=>_|some []=>_|some (q::l)=>_)=_;rw[GL D,h];dsimp only;rw[Ex,Ey D,<-Xv D.now.p l1 l2 l3];rfl
theorem vo{s:House}{w:List (List Nat)}(hw:s.wish=w){p:List Nat}(hl:p.length=w.length)(h6:w.length<=6):Ga s p=((AF p.length).map fun x=>if A6 p x=x then 0 else A6 p x+1)++Ac (6-p.length) 0:=by
 subst hw;unfold Ga Sk House.all House.many;rw[AB,BW,Fn (by simp;exact h6),hl];rfl
theorem aw{d:Dk}(D:E7 d)(h:K0 d=none):Ag d.AU .settle=(d.AU,BK (-33)):=by
 show (match DE d.AU.now (Bd d.AU.now) with|none=>_|some []=>_|some (q::l)=>_)=_;rw[GL D,h]
theorem W9{d:Dk}(D:E7 d)(h:K0 d=some []):Ag d.AU .settle=(d.AU,BK (-17)):=by
 show (match DE d.AU.now (Bd d.AU.now) with|none=>_|some []=>_|some (q::l)=>_)=_;rw[GL D,h]
theorem k6{d:Dk}(D:E7 d){q:Nat×Nat}{l:List (Nat×Nat)}(h:K0 d=some (q::l)):Ag d.AU .settle=((d.become (d.now.1,endOf d.now.2 (q::l))).AU,⟨((q::l).length:Int),Ga d.AU.now (endOf d.now.2 (q::l))⟩):=by
 have hw:=S1 D h;have he:=X3 D.now.w (q::l) d.now.2 D.now.p hw;show (match DE d.AU.now (Bd d.AU.now) with|none=>_|some []=>_|some (q::l)=>_)=_;rw[GL D,h];dsimp only;rw[Ex,Ey D,<-he.1];rfl
theorem yj{d:Dk}(D:E7 d){v:List (Nat×Nat)}(h:K0 d=some v):E7 (d.become (d.now.1,endOf d.now.2 v)):=D.become ⟨D.now.w,(X3 D.now.w v d.now.2 D.now.p (S1 D h)).2⟩
theorem Xg{d:Dk}(D:E7 d)(k:Nat):(holding d.now.1)[k]?=(d.AU.now.good[k]?).map (Bs d.AU.now):=by
 rw[<-Xd d.AU.now D.now.w rfl,BH]
theorem iV{d:Dk}(D:E7 d){k:Nat}(h:(holding d.now.1)[k]?=none):Ag d.AU (.take k)=(d.AU,BK (-2)):=by
 rw[Xg D]at h;have h:d.AU.now.good[k]?=none:=by
  cases e:d.AU.now.good[k]? with
  |none=>rfl
  |some m=>rw[e]at h;cases h
 show (match d.AU.now.good[k]? with|none=>_|some m=>_)=_;rw[h]
theorem sR{d:Dk}(D:E7 d){k:Nat}{p:List Nat}(h:(holding d.now.1)[k]?=some p):Ag d.AU (.take k)=((d.become (d.now.1,p)).AU,⟨(cnt p:Int),Ga d.AU.now p⟩):=by
 rw[Xg D]at h;cases e:d.AU.now.good[k]? with
 |none=>rw[e]at h;cases h
 |some m =>
  rw[e]at h;have h:Bs d.AU.now m=p:=Al h;have hs:=iM d.AU.now (w:=d.now.1) rfl (Ar e);show (match d.AU.now.good[k]? with|none=>_|some m=>_)=_;rw[e];dsimp only;rw[Ex,<-h,M0 d.AU.now rfl hs];rfl
theorem FX{w:List (List Nat)}(W:Eg w){p:List Nat}(h:p∈holding w):GI w p:=FJ W (AJ.mp h).1
theorem vp{d:Dk}(D:E7 d){p:List Nat}(h:p∈holding d.now.1):E7 (d.become (d.now.1,p)):=D.become ⟨D.now.w,FX D.now.w h⟩
theorem o5{d:Dk}(D:E7 d):Ag d.AU .holds=(d.AU,BK (if (L8 d.now.1 d.now.2 == [])=true then 1 else 0)):=by
 show (d.AU,BK ((Km465.bit (d.AU.now.holds d.AU.now.paired):Nat):Int))=_;rw[iL d.AU.now rfl,show Bs d.AU.now d.AU.now.paired=d.now.2 from Ey D,<-My D.now.w D.now.p d.AU.now rfl];cases (L8 d.now.1 d.now.2 == [])<;>rfl
theorem fK{d:Dk}(D:E7 d)(h:K0 d=none):Ag d.AU .steps=(d.AU,BK (-33)):=by
 show (d.AU,match DE d.AU.now (Bd d.AU.now) with|none=>_|some w=>_)=_;rw[GL D,h]
theorem o6{d:Dk}(D:E7 d){v:List (Nat×Nat)}(h:K0 d=some v):Ag d.AU .steps=(d.AU,BK (v.length:Int)):=by
 show (d.AU,match DE d.AU.now (Bd d.AU.now) with|none=>_|some w=>_)=_;rw[GL D,h]
theorem k7{d:Dk}(D:E7 d){k:Nat}(h:K0 d=none):Ag d.AU (.nth k)=(d.AU,BK (-33)):=by
 show (d.AU,match DE d.AU.now (Bd d.AU.now) with|none=>_|some w=>_)=_;rw[GL D,h]
theorem fL{d:Dk}(D:E7 d){k:Nat}{v:List (Nat×Nat)}(h:K0 d=some v)(h2:v[k]?=none):Ag d.AU (.nth k)=(d.AU,BK (-2)):=by
 show (d.AU,match DE d.AU.now (Bd d.AU.now) with|none=>_|some w=>match w[k]? with|none=>_|some q=>_)=_;rw[GL D,h];dsimp only;rw[h2]
theorem vq{d:Dk}(D:E7 d){k:Nat}{v:List (Nat×Nat)}{q:Nat×Nat}(h:K0 d=some v)(h2:v[k]?=some q):Ag d.AU (.nth k)=(d.AU,⟨(q.1:Int),[q.2]⟩):=by
 show (d.AU,match DE d.AU.now (Bd d.AU.now) with|none=>_|some w=>match w[k]? with|none=>_|some q=>_)=_;rw[GL D,h];dsimp only;rw[h2]
theorem fM{d:Dk}(D:E7 d)(h:iN d.now.1 d.now.2=[]):Ag d.AU .out=(d.AU,⟨0,Ac 6 0⟩):=by
 show (d.AU,match Hy d.AU.now (Bd d.AU.now) with | []=>_|q::l=>_)=_;rw[Ey D,<-fB d.AU.now D.now.w rfl D.now.p,h];rfl
theorem vt{d:Dk}(D:E7 d){q:List Nat}{l:List (List Nat)}(h:iN d.now.1 d.now.2=q::l):Ag d.AU .out=(d.AU,⟨((q::l).length:Int),Ga d.AU.now q⟩):=by
 show (d.AU,match Hy d.AU.now (Bd d.AU.now) with | []=>_|q::l=>_)=_;rw[Ey D,<-fB d.AU.now D.now.w rfl D.now.p,h];rfl
theorem nQ{w:List (List Nat)}(W:Eg w):GI w (best w):=by
 unfold best;have go:∀(L:List (List Nat)) (r:List Nat),GI w r->(∀p∈L,GI w p)->GI w (L.foldl better r):=by
  intro L
  induction L with
  |nil=>intro r h _;exact h
  |cons q L ih =>
   intro r h hL;rw[BI];refine ih _ ?_ fun p hp=>hL p (AG _ hp)
   unfold better
   split
   ·exact hL q AI
   ·exact h
 exact go _ _ Su fun p hp=>FJ W hp
theorem sS{d:Dk}(D:E7 d):Ag d.AU .most=(d.AU,⟨(cnt (best d.now.1):Int),Ga d.AU.now (best d.now.1)⟩):=by
 have h:=fE d.AU.now D.now.w rfl;show (d.AU,(⟨((N5 (Aq d.AU.now) d.AU.now.all:Nat):Int),Ga d.AU.now (Bs d.AU.now (N4 (Aq d.AU.now) d.AU.now.all))⟩:EZ))=_;rw[<-h.1,<-h.2]
structure J4(n:Nat)(e:Nat->Nat->Prop)(r:Nat->Nat->Nat):Prop where
 sym:∀{a b},e a b->e b a
 irr:∀{a b},e a b->a≠b
 lt:∀{a b},e a b->a<n
 inj:∀{a b c},e a b->e a c->r a b=r a c->b=c
section
variable {n:Nat} {e:Nat->Nat->Prop} {r:Nat->Nat->Nat}
abbrev Tb:=Nat->Nat->Prop
def En(r:Nat->Nat->Nat)(T:Tb)(a b:Nat):Prop:=T a b/\∀c,T a c->r a b<=r a c
def Last(r:Nat->Nat->Nat)(T:Tb)(a b:Nat):Prop:=T a b/\∀c,T a c->r a c<=r a b
def yk(r:Nat->Nat->Nat)(T:Tb)(b a:Nat):Prop:=∃c,En r T c b/\r b c<r b a
structure Good(e:Nat->Nat->Prop)(r:Nat->Nat->Nat)(T:Tb):Prop where
 sym:∀{a b},T a b->T b a
 sub:∀{a b},T a b->e a b
 dom:∀{a b},e a b->¬T a b->yk r T b a\/yk r T a b
def Sub(T' T:Tb):Prop:=∀a b,T' a b->T a b
def Min(e:Nat->Nat->Prop)(r:Nat->Nat->Nat)(T:Tb):Prop:=Good e r T/\∀T',Good e r T'->Sub T' T->Sub T T'
theorem TB(f:Nat->Nat)(Q:Nat->Prop)(n:Nat)(h:∃b,b<n/\Q b):∃b,Q b/\∀c,c<n->Q c->f b<=f c:=by
 obtain ⟨b,hb,q⟩:=h;have go:∀k,∀b,f b=k->Q b->∃b,Q b/\∀c,c<n->Q c->f b<=f c:=by
  intro k
  induction k using xV with
  |_ k ih =>
   intro b hk q
   by_cases h:∃c,c<n/\Q c/\f c<f b
   ·obtain ⟨c,_,qc,l⟩:=h;exact ih (f c) (by omega) c rfl qc
   ·refine ⟨b,q,fun c hc qc=>?_⟩
    by_cases l:f b<=f c
    ·exact l
    ·exact absurd ⟨c,hc,qc,by omega⟩ h
 exact go _ b rfl q
theorem Good.lt(P:J4 n e r){T:Tb}(G:Good e r T){a b:Nat}(h:T a b):a<n/\b<n:=⟨P.lt (G.sub h),P.lt (P.sym (G.sub h))⟩
theorem X8(P:J4 n e r){T:Tb}(G:Good e r T){a b:Nat}(h:T a b):∃c,En r T a c:=by
 obtain ⟨c,h1,h2⟩:=TB (r a) (T a) n ⟨b,(G.lt P h).2,h⟩;exact ⟨c,h1,fun d hd=>h2 d (G.lt P hd).2 hd⟩
theorem En.uniq(P:J4 n e r){T:Tb}(G:Good e r T){a b c:Nat}(h1:En r T a b)(h2:En r T a c):b=c :=
 P.inj (G.sub h1.1) (G.sub h2.1) (F9 (h1.2 c h2.1) (h2.2 b h1.1))
theorem Last.uniq(P:J4 n e r){T:Tb}(G:Good e r T){a b c:Nat}(h1:Last r T a b)(h2:Last r T a c):b=c :=
 P.inj (G.sub h1.1) (G.sub h2.1) (F9 (h2.2 b h1.1) (h1.2 c h2.1))
theorem Min.last(P:J4 n e r){T:Tb}(M:Min e r T){a b:Nat}(h:En r T a b):Last r T b a:=by
 obtain ⟨G,mn⟩:=M;refine ⟨G.sym h.1,fun c hc=>?_⟩;have fa:∀{T':Tb},Sub T' T->T' a b->En r T' a b:=fun s t=>⟨t,fun c hc=>h.2 c (s _ _ hc)⟩
 have ne:a≠b:=P.irr (G.sub h.1)
 let T':Tb:=fun x y=>T x y/\¬(x=b/\r b a<r b y)/\¬(y=b/\r b a<r b x)
 have sub:Sub T' T:=fun x y q=>q.1
 have tab:T' a b:=⟨h.1,fun q=>ne q.1,fun q=>absurd q.2 (Bu _)⟩;have fab:En r T' a b:=fa sub tab;have one:∀{u v},yk r T v u->yk r T' v u:=by
  rintro u v ⟨c,fc,lc⟩
  by_cases t:T' c v
  ·exact ⟨c,⟨t,fun d hd=>fc.2 d hd.1⟩,lc⟩
  ·by_cases q1:c=b/\r b a<r b v
   ·obtain ⟨rfl,l⟩:=q1
    have:=fc.2 a (G.sym h.1)
    omega
   ·by_cases q2:v=b/\r b a<r b c
    ·obtain ⟨rfl,l⟩:=q2;exact ⟨a,fab,by omega⟩
    ·exact absurd ⟨fc.1,q1,q2⟩ t
 have G':Good e r T':=by
  refine ⟨fun q=>⟨G.sym q.1,q.2.2,q.2.1⟩,fun q=>G.sub q.1,fun {u v} ev nt=>?_⟩
  by_cases t:T u v
  ·by_cases q1:u=b/\r b a<r b v
   ·obtain ⟨rfl,l⟩:=q1;exact .inr ⟨a,fab,l⟩
   ·by_cases q2:v=b/\r b a<r b u
    ·obtain ⟨rfl,l⟩:=q2;exact .inl ⟨a,fab,l⟩
    ·exact absurd ⟨t,q1,q2⟩ nt
  ·rcases G.dom ev t with d|d
   ·exact .inl (one d)
   ·exact .inr (one d)
 have t:=mn T' G' sub b c hc
 by_cases l:r b c<=r b a
 ·exact l
 ·exact absurd ⟨rfl,by omega⟩ t.2.1
theorem Min.inj(P:J4 n e r){T:Tb}(M:Min e r T){a a' b:Nat}(h:En r T a b)(h':En r T a' b):a=a':=(M.last P h).uniq P M.1 (M.last P h')
open Classical in
theorem Min.sT(P:J4 n e r){T:Tb}(M:Min e r T){b c:Nat}(h:T b c):∃a,En r T a b:=by
 let l:=(AF n).filter fun a=>decide (∃b,T a b)
 let f:Nat->Nat:=fun a=>if h:∃b,En r T a b then Cg h else 0
 have nd:l.Nodup:=Ct _ Cq;have fl:∀a∈l,En r T a (f a):=fun a ha=>by
  obtain ⟨b,hb⟩:=of_decide_eq_true (AJ.mp ha).2;have hx:=X8 P M.1 hb;show En r T a (if h:∃b,En r T a b then Cg h else 0);rw[dif_pos hx];exact Fh hx
 have mem:∀{x y},T x y->x∈l:=fun {x y} t=>AJ.mpr ⟨Ah.mpr (M.1.lt P t).1,decide_eq_true ⟨y,t⟩⟩
 have nd2:(l.map f).Nodup:=by
  refine OQ (R:=fun x y=>x∈l/\y∈l/\x≠y) f (fun x y ⟨hx,hy,ne⟩ q=>ne ?_) ?_
  ·have h1:=fl x hx;have h2:=fl y hy;rw[<-q]at h2;exact M.inj P h1 h2
  ·have:∀m:List Nat,(∀x∈m,x∈l)->m.Nodup->m.Pairwise (fun x y=>x∈l/\y∈l/\x≠y):=by
    intro m
    induction m with
    |nil=>intro _ _;exact .nil
    |cons x m ih =>
     intro hm hn;have hn:=Bt.mp hn;exact .cons (fun y hy=>⟨hm x AI,hm y (AG _ hy),fun q=>hn.1 (q ▸ hy)⟩) (ih (fun y hy=>hm y (AG _ hy)) hn.2)
   exact this l (fun _ h=>h) nd
 have sub:∀x∈l.map f,x∈l:=fun x hx=>by
  obtain ⟨a,ha,rfl⟩:=BE.mp hx;exact mem (M.1.sym (fl a ha).1)
 have hb:b∈l:=mem h
 by_cases q:b∈l.map f
 ·obtain ⟨a,ha,q⟩:=BE.mp q;exact ⟨a,q ▸ fl a ha⟩
 ·have:=Gh (b::l.map f) l (Bt.mpr ⟨q,nd2⟩) (fun x hx=>(Ak.mp hx).elim (fun z=>z ▸ hb) (sub x))
  rw[BC,AB]at this;omega
theorem Min.first(P:J4 n e r){T:Tb}(M:Min e r T){a b:Nat}(h:Last r T b a):En r T a b:=by
 obtain ⟨a',h'⟩:=M.sT P h.1;rw[<-(M.last P h').uniq P M.1 h];exact h'
def Second(r:Nat->Nat->Nat)(T:Tb)(a s:Nat):Prop:=∃b,En r T a b/\T a s/\s≠b/\∀c,T a c->c=b\/r a s<=r a c
theorem cB(P:J4 n e r){T:Tb}(G:Good e r T){a b c:Nat}(h:En r T a b)(t:T a c)(ne:c≠b):∃s,Second r T a s:=by
 obtain ⟨s,h1,h2⟩:=TB (r a) (fun x=>T a x/\x≠b) n ⟨c,(G.lt P t).2,t,ne⟩;refine ⟨s,b,h,h1.1,h1.2,fun d hd=>?_⟩
 by_cases q:d=b
 ·exact .inl q
 ·exact .inr (h2 d (G.lt P hd).2 ⟨hd,q⟩)
theorem Second.uniq(P:J4 n e r){T:Tb}(G:Good e r T){a s t:Nat}(h1:Second r T a s)(h2:Second r T a t):s=t:=by
 obtain ⟨b,f,t1,n1,m1⟩:=h1;obtain ⟨c,g,t2,n2,m2⟩:=h2
 have:=f.uniq P G g
 subst this;have a1:=(m1 t t2).resolve_left n2;have a2:=(m2 s t1).resolve_left n1;exact P.inj (G.sub t1) (G.sub t2) (F9 a1 a2)
def vw(r:Nat->Nat->Nat)(T:Tb)(a:Nat):Prop:=∃s,Second r T a s
def On(r:Nat->Nat->Nat)(T:Tb)(a x:Nat):Prop:=∃s,Second r T a s/\En r T x s
theorem AA1(P:J4 n e r){T:Tb}(M:Min e r T){a:Nat}(h:vw r T a):∃x,On r T a x/\vw r T x:=by
 obtain ⟨s,hs⟩:=h;obtain ⟨b,fb,ts,ne,mn⟩:=id hs;obtain ⟨x,fx⟩:=M.sT P (M.1.sym ts);refine ⟨x,⟨s,hs,fx⟩,?_⟩;have ax:a≠x:=fun q=>by
  subst q;exact ne (fx.uniq P M.1 fb)
 by_cases q:∃c,T x c/\c≠s
 ·obtain ⟨c,t,n⟩:=q;exact cB P M.1 fx t n
 ·have lx:Last r T x s:=⟨fx.1,fun c hc=>by
   by_cases z:c=s
   ·rw[z];exact AV _
   ·exact absurd ⟨c,hc,z⟩ q⟩
  have fs:=M.first P lx;have ls:=M.last P fx;have h1:=fs.2 a (M.1.sym ts);have h2:=ls.2 a (M.1.sym ts);exact absurd (P.inj (M.1.sub (M.1.sym ts)) (M.1.sub fs.1) (F9 h2 h1)) ax
structure Ring(r:Nat->Nat->Nat)(T:Tb)(p:Nat)(a b:Nat->Nat):Prop where
 pos:0<p
 sU:∀k,a (k+p)=a k
 fst:∀k,En r T (a k) (b k)
 snd:∀k,Second r T (a k) (b (k+1))
theorem Ring.sV(P:J4 n e r){T:Tb}(M:Min e r T){p:Nat}{a b:Nat->Nat}(R:Ring r T p a b)(k:Nat):b (k+p)=b k:=by
 have h1:=R.fst (k+p);rw[R.sU]at h1;exact h1.uniq P M.1 (R.fst k)
theorem Ring.nR(P:J4 n e r){T:Tb}(M:Min e r T){p:Nat}{a b:Nat->Nat}(R:Ring r T p a b)(k:Nat):a k≠a (k+1):=fun q=>by
 obtain ⟨c,f,_,ne,_⟩:=R.snd k;have h1:=R.fst (k+1);rw[<-q]at h1;exact ne (h1.uniq P M.1 f)
theorem Ring.sX(P:J4 n e r){T:Tb}(M:Min e r T){p:Nat}{a b:Nat->Nat}(R:Ring r T p a b){i k:Nat}(h:b (i+1)=b (k+1)):a i=a k:=by
 have h1:a (i+1)=a (k+1):=M.inj P (R.fst (i+1)) (h ▸ R.fst (k+1));have go:∀m,a (i+1+m)=a (k+1+m):=by
  intro m
  induction m with
  |zero=>exact h1
  |succ m ih =>
   have s1:=R.snd (i+1+m);have s2:=R.snd (k+1+m);rw[ih]at s1;have eb:=s1.uniq P M.1 s2;have f1:=R.fst (i+1+m+1);have f2:=R.fst (k+1+m+1);rw[eb]at f1;exact M.inj P f1 f2
 have:=go (p-1)
 have hp:=R.pos;rw[show i+1+(p-1)=i+p by omega,show k+1+(p-1)=k+p by omega,R.sU,R.sU]at this;exact this
def Sc(a b:Nat->Nat)(i j:Nat):Prop:=a j=b i/\a i=b (j+1)
theorem Ring.sc(P:J4 n e r){T:Tb}(M:Min e r T){p:Nat}{a b:Nat->Nat}(R:Ring r T p a b):∃i j,Sc a b i j:=by
 apply De;intro no;have no:∀i j,¬Sc a b i j:=fun i j h=>no ⟨i,j,h⟩
 have G:=M.1
 let del:Nat->Nat->Prop:=fun x y=>∃k,x=b (k+1)/\r x (a k)<r x y
 let T':Tb:=fun x y=>T x y/\¬del x y/\¬del y x
 have sub:Sub T' T:=fun x y q=>q.1
 have tk:∀k,T (a k) (b (k+1)):=fun k=>let ⟨_,_,t,_⟩:=R.snd k;t
 have ti:∀i,T' (a i) (b (i+1)):=fun i=>by
  refine ⟨tk i,?_,?_⟩
  ·rintro ⟨k,e1,l⟩;obtain ⟨c,f,t,ne,mn⟩:=R.snd i;have tt:T (a i) (a k):=by rw[e1];exact G.sym (tk k)
   rcases mn _ tt with q|q
   ·have:=f.uniq P G (R.fst i)
    exact no i k ⟨q.trans this,e1⟩
   ·omega
  ·rintro ⟨k,e1,l⟩;rw[R.sX P M e1]at l;omega
 have back:∀i,∃k,b (k+1)=b i/\a (k+1)=a i:=fun i=>⟨i+p-1,by
  have hp:=R.pos;rw[show i+p-1+1=i+p by omega,R.sV P M,R.sU];exact ⟨rfl,rfl⟩⟩
 have gone:∀i,¬T' (a i) (b i):=fun i q=>by
  obtain ⟨k,e1,e2⟩:=back i;refine q.2.2 ⟨k,e1.symm,?_⟩;have la:=M.last P (R.fst i);have tt:T (b i) (a k):=by rw[<-e1];exact G.sym (tk k)
  have l:=la.2 _ tt
  by_cases q2:r (b i) (a k)=r (b i) (a i)
  ·have:=P.inj (G.sub tt) (G.sub la.1) q2
   exact absurd (this.trans e2.symm) (R.nR P M k)
  ·omega
 have fi:∀i,En r T' (a i) (b (i+1)):=fun i=>by
  refine ⟨ti i,fun c hc=>?_⟩;obtain ⟨d,f,t,ne,mn⟩:=R.snd i;rcases mn c hc.1 with q|q
  ·have:=f.uniq P G (R.fst i)
   rw[q,this]at hc;exact absurd hc (gone i)
  ·exact q
 have one:∀{u v},yk r T v u->yk r T' v u:=by
  rintro u v ⟨c,fc,lc⟩
  by_cases t:T' c v
  ·exact ⟨c,⟨t,fun d hd=>fc.2 d hd.1⟩,lc⟩
  ·by_cases q1:del c v
   ·obtain ⟨k,e1,l⟩:=q1;have tt:T c (a k):=by rw[e1];exact G.sym (tk k)
    have:=fc.2 _ tt
    omega
   ·by_cases q2:del v c
    ·obtain ⟨k,e1,l⟩:=q2;exact ⟨a k,by rw[e1];exact fi k,by omega⟩
    ·exact absurd ⟨fc.1,q1,q2⟩ t
 have G':Good e r T':=by
  refine ⟨fun q=>⟨G.sym q.1,q.2.2,q.2.1⟩,fun q=>G.sub q.1,fun {u v} ev nt=>?_⟩
  by_cases t:T u v
  ·by_cases q1:del u v
   ·obtain ⟨k,e1,l⟩:=q1;exact .inr ⟨a k,by rw[e1];exact fi k,l⟩
   ·by_cases q2:del v u
    ·obtain ⟨k,e1,l⟩:=q2;exact .inl ⟨a k,by rw[e1];exact fi k,l⟩
    ·exact absurd ⟨t,q1,q2⟩ nt
  ·rcases G.dom ev t with d|d
   ·exact .inl (one d)
   ·exact .inr (one d)
 exact gone 0 (M.2 T' G' sub _ _ (R.fst 0).1)
theorem Sc.two(P:J4 n e r){T:Tb}(M:Min e r T){p:Nat}{a b:Nat->Nat}(R:Ring r T p a b){i j:Nat}(h:Sc a b i j){c:Nat}(t:T (a j) c):c=b j\/(c=a i/\Last r T (a j) c):=by
 obtain ⟨h1,h2⟩:=h;obtain ⟨d,f,t2,ne,mn⟩:=R.snd j;have la:=M.last P (R.fst i);rw[<-h1]at la;rcases mn c t with q|q
 ·exact .inl (q.trans (f.uniq P M.1 (R.fst j)))
 ·rw[<-h2]at q;have l:=la.2 c t
  have:=P.inj (M.1.sub t) (M.1.sub la.1) (F9 l q)
  exact .inr ⟨this,this ▸ la⟩
theorem Sc.prev(P:J4 n e r){T:Tb}(M:Min e r T){p:Nat}{a b:Nat->Nat}(R:Ring r T p a b){i j:Nat}(h:Sc a b i j):Sc a b j (i+p-1):=by
 have hp:=R.pos;have e1:i+p-1+1=i+p:=by omega
 have eb:b (i+p-1+1)=b i:=by rw[e1,R.sV P M]
 have ea:a (i+p-1+1)=a i:=by rw[e1,R.sU]
 have t:T (a (i+p-1)) (a j):=by
  obtain ⟨_,_,t,_⟩:=R.snd (i+p-1);rw[eb,<-h.1]at t;exact t
 rcases h.two P M R (M.1.sym t) with q|⟨q,_⟩
 ·exact ⟨q,by rw[eb];exact h.1⟩
 ·exact absurd (q.trans ea.symm) (R.nR P M _)
theorem Ring.all(P:J4 n e r){T:Tb}(M:Min e r T){p:Nat}{a b:Nat->Nat}(R:Ring r T p a b):∀k,∃j,Sc a b k j:=by
 obtain ⟨i,j,h⟩:=R.sc P M;have down:∀k,(∃j,Sc a b (k+1) j)->∃j,Sc a b k j:=by
  rintro k ⟨j,h⟩;have h2:=(h.prev P M R).prev P M R;have hp:=R.pos;rw[show k+1+p-1=k+p by omega]at h2;refine ⟨j+p-1,?_,?_⟩
  ·exact h2.1.trans (R.sV P M k)
  ·exact (R.sU k).symm.trans h2.2
 have up:∀m,∃j,Sc a b (i+m*p) j:=by
  intro m
  induction m with
  |zero=>exact ⟨j,by simpa using h⟩
  |succ m ih =>
   obtain ⟨j',h'⟩:=ih;refine ⟨j',?_,?_⟩
   ·rw[h'.1,show i+(m+1)*p=i+m*p+p by rw[OP];omega,R.sV P M]
   ·rw[show i+(m+1)*p=i+m*p+p by rw[OP];omega,R.sU];exact h'.2
 intro k;have go:∀d t,(∃j,Sc a b (t+d) j)->∃j,Sc a b t j:=by
  intro d
  induction d with
  |zero=>intro t h;exact h
  |succ d ih=>intro t h;exact ih t (down _ h)
 have hk:k<=i+k*p:=by
  have:k*1<=k*p:=Nat.mul_le_mul_left k R.pos
  omega
 have:=up k
 rw[show i+k*p=k+(i+k*p-k) by omega]at this;exact go _ k this
theorem Ring.closed(P:J4 n e r){T:Tb}(M:Min e r T){p:Nat}{a b:Nat->Nat}(R:Ring r T p a b)(k:Nat){c:Nat}(t:T (a k) c):(∃m,c=a m)/\(En r T (a k) c\/Last r T (a k) c):=by
 obtain ⟨j,h⟩:=R.all P M (k+1);have h2:=h.prev P M R;rw[show k+1+p-1=k+p by omega]at h2;have h3:=h2.two P M R (c:=c) (by rw[R.sU];exact t);rw[R.sU,R.sV P M]at h3;rcases h3 with q|⟨q,l⟩
 ·obtain ⟨m,hm⟩:=R.all P M k;exact ⟨⟨m,q.trans hm.1.symm⟩,.inl (q ▸ R.fst k)⟩
 ·exact ⟨⟨j,q⟩,.inr l⟩
open Classical in
theorem Min.two(P:J4 n e r){T:Tb}(M:Min e r T){x c:Nat}(t:T x c):En r T x c\/Last r T x c:=by
 by_cases hb:vw r T x
 case neg =>
  obtain ⟨b,fb⟩:=X8 P M.1 t
  by_cases q:c=b
  ·exact .inl (q ▸ fb)
  ·exact absurd (cB P M.1 fb t q) hb
 let g:Nat->Nat:=fun a=>if h:∃y,On r T a y/\vw r T y then Cg h else 0
 have hg:∀a,vw r T a->On r T a (g a)/\vw r T (g a):=fun a ha=>by
  have hx:=AA1 P M ha;show On r T a (if h:∃y,On r T a y/\vw r T y then Cg h else 0)/\_;have e1:g a=Cg hx:=dif_pos hx;rw[show (if h:∃y,On r T a y/\vw r T y then Cg h else 0)=g a from rfl,e1];exact Fh hx
 let A:Nat->Nat:=fun k=>vF x (fun _ y=>g y) k
 have A0:A 0=x:=rfl;have AS:∀k,A (k+1)=g (A k):=fun _=>rfl
 have bg:∀k,vw r T (A k):=by
  intro k
  induction k with
  |zero=>exact hb
  |succ k ih=>exact (hg _ ih).2
 have on:∀k,On r T (A k) (A (k+1)):=fun k=>(hg _ (bg k)).1
 have lt:∀k,A k<n:=fun k=>by
  obtain ⟨s,b,f,_⟩:=bg k;exact (M.1.lt P f.1).1
 obtain ⟨i,j,hij,hA⟩:∃i j,i<j/\A i=A j:=by
  apply De;intro no;have nd:((AF (n+1)).map A).Nodup:=by
   refine OQ (R:=fun x y=>x≠y) A (fun u v ne q=>?_) Cq;rcases LQ ne with h|h
   ·exact no ⟨u,v,h,q⟩
   ·exact no ⟨v,u,h,q.symm⟩
  have:=Jq n _ nd fun y hy=>by
   obtain ⟨k,_,rfl⟩:=BE.mp hy;exact lt k
  rw[AB,BW]at this;omega
 have sU:∀k,A (i+(k+(j-i)))=A (i+k):=by
  intro k
  induction k with
  |zero=>rw[show i+(0+(j-i))=j by omega];exact hA.symm
  |succ k ih =>
   rw[show i+(k+1+(j-i))=i+(k+(j-i))+1 by omega,AS,ih,<-AS];rfl
 let b:Nat->Nat:=fun k=>if h:∃y,En r T (A (i+k)) y then Cg h else 0
 have fb:∀k,En r T (A (i+k)) (b k):=fun k=>by
  obtain ⟨s,y,f,_⟩:=bg (i+k);have hx:∃y,En r T (A (i+k)) y:=⟨y,f⟩;have e1:b k=Cg hx:=dif_pos hx;rw[e1];exact Fh hx
 have R:Ring r T (j-i) (fun k=>A (i+k)) b:=by
  refine ⟨by omega,sU,fb,fun k=>?_⟩;obtain ⟨s,hs,f⟩:=on (i+k)
  have:=f.uniq P M.1 (fb (k+1))
  rw[<-this];exact hs
 have inR:∀d k,k+d=i->∃m,A k=A (i+m):=by
  intro d
  induction d with
  |zero=>intro k h;exact ⟨0,by rw[show k=i by omega];rfl⟩
  |succ d ih =>
   intro k h;obtain ⟨m,hm⟩:=ih (k+1) (by omega);obtain ⟨s,⟨y,_,ts,_⟩,f⟩:=on k;rw[hm]at f;obtain ⟨m2,e2⟩:=(R.closed P M m f.1).1;have tk:T (A (i+m2)) (A k):=by rw[<-e2];exact M.1.sym ts
   exact (R.closed P M m2 tk).1
 obtain ⟨m,hm⟩:=inR i 0 (by omega);rw[A0]at hm;have tm:T (A (i+m)) c:=by rw[<-hm];exact t
 have:=(R.closed P M m tm).2
 rw[<-hm]at this;exact this
open Classical in
noncomputable def szT (n:Nat) (T:Tb):Nat:=((AF (n*n)).filter fun k=>decide (T (k / n) (k % n))).length
theorem filter_lt{α:Type}{P Q:α->Bool}{x:α}:∀{l:List α},x∈l->(∀y∈l,Q y=true->P y=true)->P x=true->Q x=false->(l.filter Q).length<(l.filter P).length
 |y::l,hx,h,h1,h2=>by
  have le:∀m:List α,(∀y∈m,Q y=true->P y=true)->(m.filter Q).length<=(m.filter P).length:=by
   intro m
   induction m with
   |nil=>intro _;simp
   |cons z m ih =>
    intro hm
    have:=ih fun y hy=>hm y (AG _ hy)
    rw[Bm,Bm]
    by_cases q:Q z=true
    ·rw[if_pos q,if_pos (hm z AI q)];simpa using this
    ·rw[if_neg q]
     split
     ·simp;omega
     ·exact this
  have hl:∀y∈l,Q y=true->P y=true:=fun y hy=>h y (AG _ hy)
  rw[Bm,Bm];rcases Ak.mp hx with rfl|hx
  ·rw[if_neg (by rw[h2];exact AZ),if_pos h1]
   have:=le l hl
   simp;omega
  ·have ih:=filter_lt hx hl h1 h2
   by_cases q:Q y=true
   ·rw[if_pos q,if_pos (h y AI q)];simpa using ih
   ·rw[if_neg q]
    split
    ·simp;omega
    ·exact ih
open Classical in
theorem yl(P:J4 n e r):∃T,Min e r T:=by
 have go:∀k T,szT n T=k->Good e r T->∃T,Min e r T:=by
  intro k
  induction k using xV with
  |_ k ih =>
   intro T hk G
   by_cases h:∃T',Good e r T'/\Sub T' T/\∃a b,T a b/\¬T' a b
   ·obtain ⟨T',G',s,a,b,t,nt⟩:=h;refine ih (szT n T') ?_ T' rfl G';rw[<-hk];obtain ⟨la,lb⟩:=G.lt P t;have e1:(a*n+b) / n=a:=by
     rw[Ky,Nat.mul_add_div (by omega),N6 lb];rfl
    have e2:(a*n+b) % n=b:=by
     rw[Ky,Nat.mul_add_mod,Nat.mod_eq_of_lt lb]
    refine filter_lt (x:=a*n+b) (Ah.mpr ?_) (fun y _ q=>decide_eq_true (s _ _ (of_decide_eq_true q))) (decide_eq_true (by rw[e1,e2];exact t)) (decide_eq_false (by rw[e1,e2];exact nt))
    have:(a+1)*n<=n*n:=Jb n la
    rw[OP]at this;omega
   ·refine ⟨T,G,fun T' G' s a b t=>?_⟩;apply De;intro nt;exact h ⟨T',G',s,a,b,t,nt⟩
 exact go _ e rfl ⟨P.sym,fun h=>h,fun h nt=>absurd h nt⟩
open Classical in
theorem sY(P:J4 n e r):∃f g:Nat->Nat,(∀a,a<n->f a<n/\g a<n/\g (f a)=a/\f (g a)=a) /\
  (∀a,a<n->f a=a\/(e a (f a)/\e a (g a)/\r a (f a)<=r a (g a)))/\∀a b,e a b->r a b<r a (g a)->r b a<r b (g b)->False:=by
 obtain ⟨T,M⟩:=yl P
 let f:Nat->Nat:=fun a=>if h:∃y,En r T a y then Cg h else a
 let g:Nat->Nat:=fun a=>if h:∃y,Last r T a y then Cg h else a
 have hf:∀{a b},En r T a b->f a=b:=fun {a b} h=>by
  have hx:∃y,En r T a y:=⟨b,h⟩;have e1:f a=Cg hx:=dif_pos hx;rw[e1];exact (Fh hx).uniq P M.1 h
 have hg:∀{a b},Last r T a b->g a=b:=fun {a b} h=>by
  have hx:∃y,Last r T a y:=⟨b,h⟩;have e1:g a=Cg hx:=dif_pos hx;rw[e1];exact (Fh hx).uniq P M.1 h
 have fl:∀{a},(∃b,T a b)->∃x y,En r T a x/\Last r T a y:=fun {a} ⟨b,t⟩=>by
  obtain ⟨x,hx⟩:=X8 P M.1 t;obtain ⟨y,hy⟩:=M.sT P t;exact ⟨x,y,hx,M.last P hy⟩
 have nf:∀{a},¬(∃b,T a b)->f a=a/\g a=a:=fun {a} h=>⟨dif_neg fun ⟨y,q⟩=>h ⟨y,q.1⟩,dif_neg fun ⟨y,q⟩=>h ⟨y,q.1⟩⟩
 refine ⟨f,g,fun a ha=>?_,fun a ha=>?_,fun a b eab l1 l2=>?_⟩
 ·by_cases h:∃b,T a b
  ·obtain ⟨x,y,hx,hy⟩:=fl h;rw[hf hx,hg hy];exact ⟨(M.1.lt P hx.1).2,(M.1.lt P hy.1).2,hg (M.last P hx),hf (M.first P hy)⟩
  ·obtain ⟨h1,h2⟩:=nf h;rw[h1,h2];exact ⟨ha,ha,rfl,h1⟩
 ·by_cases h:∃b,T a b
  ·obtain ⟨x,y,hx,hy⟩:=fl h;rw[hf hx,hg hy];exact .inr ⟨M.1.sub hx.1,M.1.sub hy.1,hx.2 y hy.1⟩
  ·exact .inl (nf h).1
 ·have dm:∀{u v},yk r T v u->r v u<r v (g v)->False:=by
   rintro u v ⟨c,fc,lc⟩ l;rw[hg (M.last P fc)]at l;omega
  by_cases t:T a b
  ·rcases M.two P t with q|q
   ·rw[hg (M.last P q)]at l2;omega
   ·rw[hg q]at l1;omega
  ·rcases M.1.dom eab t with d|d
   ·exact dm d l2
   ·exact dm d l1
end
open Km464 (House)
def HJ(w:List (List Nat))(pre:List Nat)(x:Nat):Bool :=
 if pre.contains x=true then false else if x=pre.length then true else if wd w pre.length x=false then false
 else if x<pre.length/\rk w x pre.length<rk w x (pre.getD x 0) then false
 else (!pre.contains pre.length) || !decide (rk w pre.length (pre.findIdx fun y=>y==pre.length)<rk w pre.length x)
def HY(w:List (List Nat))(pre:List Nat):List (List Nat):=((AF w.length).filter (HJ w pre)).map fun x=>pre++[x]
def genS(w:List (List Nat)):Nat->List Nat->List (List Nat)
 |0,pre=>[pre]
 |m+1,pre=>((AF w.length).filter (HJ w pre)).flatMap fun x=>genS w m (pre++[x])
def M4(n:Nat):Nat->List Nat->List (List Nat)
 |0,pre=>[pre]
 |m+1,pre=>((AF n).filter fun x => !pre.contains x).flatMap fun x=>M4 n m (pre++[x])
def Gr(w:List (List Nat)):Nat->List (List Nat)
 |0=>[[]]
 |k+1=>(Gr w k).flatMap (HY w)
theorem cC(w:List (List Nat)):∀(m:Nat) (L:List (List Nat)),(vF L (fun _ l=>l.flatMap (HY w)) m:List (List Nat))=L.flatMap (genS w m)
 |0,L=>by
  show L=L.flatMap fun p=>[p]
  induction L with
  |nil=>rfl
  |cons p L ih=>rw[CA,<-ih];rfl
 |m+1,L=>by
  have ih:=cC w m L;show (vF L (fun _ l=>l.flatMap (HY w)) m:List (List Nat)).flatMap (HY w)=_;rw[ih,K1];refine Dy fun p hp=>?_
  clear hp ih L
  induction m generalizing p with
  |zero =>
   show [p].flatMap (HY w)=((AF w.length).filter (HJ w p)).flatMap fun x=>[p++[x]]
   rw[Br];unfold HY;rw[List.map_eq_flatMap]
  |succ m ih =>
   show (((AF w.length).filter (HJ w p)).flatMap fun x=>genS w m (p++[x])).flatMap (HY w)=((AF w.length).filter (HJ w p)).flatMap fun x=>genS w (m+1) (p++[x])
   rw[K1];exact Dy fun x _=>ih (p++[x])
theorem X9(w:List (List Nat))(m:Nat):Gr w m=genS w m []:=by
 have h:∀m,Gr w m=(vF [[]] (fun _ l=>l.flatMap (HY w)) m:List (List Nat)):=by
  intro m
  induction m with
  |zero=>rfl
  |succ m ih=>show (Gr w m).flatMap (HY w)=_;rw[ih]
 rw[h,cC,Br]
theorem cD(n:Nat):∀(m:Nat) (pre:List Nat),(Gb m ((AF n).filter fun x => !pre.contains x)).map (fun t=>pre++t)=M4 n m pre
 |0,pre=>by simp[Gb,M4]
 |m+1,pre=>by
  show (((AF n).filter fun x => !pre.contains x).flatMap fun x=>(Gb m (((AF n).filter fun x => !pre.contains x).filter fun y=>y != x)).map fun r=>x::r).map (fun t=>pre++t)=((AF n).filter fun x => !pre.contains x).flatMap fun x=>M4 n m (pre++[x])
  rw[vD];refine Dy fun x _=>?_
  rw[<-cD n m (pre++[x]),Dd,B6];have e:((AF n).filter fun a=>(a != x) && !pre.contains a)=(AF n).filter fun y => !(pre++[x]).contains y:=BO fun y _=>by
   rw[C4];simp;rw[And.comm]
  rw[e];refine FU fun t _=>?_
  show pre++x::t=pre++[x]++t;rw[CY];rfl
structure Pm(n:Nat)(q:List Nat):Prop where
 len:q.length=n
 nd:q.Nodup
 lt:∀x∈q,x<n
theorem YA{n:Nat}:∀{m:Nat} {pre q:List Nat},q∈M4 n m pre->pre.Nodup->(∀x∈pre,x<n)->q.length=pre.length+m/\q.take pre.length=pre/\q.Nodup/\∀x∈q,x<n
 |0,pre,q,h,nd,lt=>by
  have e:q=pre:=by simpa [M4] using h
  subst e;exact ⟨rfl,B9,nd,lt⟩
 |m+1,pre,q,h,nd,lt=>by
  obtain ⟨x,hx,hq⟩:=Bz.mp h;obtain ⟨h1,h2⟩:=AJ.mp hx;have hn:x ∉ pre:=by simpa using h2
  have:=YA hq (DA.mpr ⟨nd,by simp,fun a ha b hb e=>hn (by rw[A3.mp hb]at e;exact e ▸ ha)⟩) (fun y hy=>(BN.mp hy).elim (lt y) fun z=>by rw[A3.mp z];exact Ah.mp h1)
  obtain ⟨a1,a2,a3,a4⟩:=this;refine ⟨by rw[a1,Ab,Du];omega,?_,a3,a4⟩;have e:=congrArg (iD pre.length) a2;rw[xW,Ab,QS (by omega),xX]at e;exact e
theorem nU{n:Nat}{q:List Nat}(h:q∈M4 n n []):Pm n q:=by
 obtain ⟨a,_,b,c⟩:=YA h C3 (fun x hx=>nomatch hx);exact ⟨by simpa using a,b,c⟩
theorem iW{n:Nat}:∀(t pre:List Nat),(pre++t).Nodup->(∀x∈t,x<n)->pre++t∈M4 n t.length pre
 |[],pre,_,_=>by simp[M4]
 |x::t,pre,nd,lt=>by
  refine Bz.mpr ⟨x,AJ.mpr ⟨Ah.mpr (lt x AI),?_⟩,?_⟩
  ·have:x ∉ pre:=fun h=>(DA.mp nd).2.2 x h x AI rfl
   simpa using this
  ·have e:pre++x::t=pre++[x]++t:=by rw[CY];rfl
   rw[e]at nd ⊢;exact iW t (pre++[x]) nd fun y hy=>lt y (AG _ hy)
def vK(w:List (List Nat))(q:List Nat)(k:Nat):Bool:=HJ w (q.take k) (q.getD k 0)
theorem YB{α β:Type}(P:α->Bool)(F:α->List β):∀l:List α,(l.flatMap fun x=>if P x=true then F x else [])=(l.filter P).flatMap F
 |[]=>rfl
 |x::l=>by
  rw[CA,Bm,YB P F l]
  split
  ·rw[CA]
  ·rfl
theorem o7{w:List (List Nat)}{pre:List Nat}{x:Nat}(h:HJ w pre x=true):pre.contains x=false:=by
 unfold HJ at h;cases c:pre.contains x with
 |false=>rfl
 |true=>rw[c,if_pos rfl]at h;cases h
theorem K6(w:List (List Nat)):∀(m:Nat) (pre:List Nat),pre.Nodup->(∀x∈pre,x<w.length)->genS w m pre=(M4 w.length m pre).filter fun q=>(By pre.length m).all (vK w q)
 |0,pre,_,_=>by simp[genS,M4]
 |m+1,pre,nd,lt=>by
  show ((AF w.length).filter (HJ w pre)).flatMap (fun x=>genS w m (pre++[x]))=(((AF w.length).filter fun x => !pre.contains x).flatMap fun x=>M4 w.length m (pre++[x])).filter _;rw[Sf];have e1:(AF w.length).filter (HJ w pre)=((AF w.length).filter fun x => !pre.contains x).filter (HJ w pre):=by
   rw[B6];refine BO fun x _=>?_
   cases h:HJ w pre x with
   |false=>rfl
   |true=>rw[o7 h];rfl
  rw[e1,<-YB];refine Dy fun x hx=>?_
  obtain ⟨h1,h2⟩:=AJ.mp hx;have hn:x ∉ pre:=by simpa using h2
  have nd2:(pre++[x]).Nodup:=DA.mpr ⟨nd,by simp,fun a ha b hb e=>hn (by rw[A3.mp hb]at e;exact e ▸ ha)⟩;have lt2:∀y∈pre++[x],y<w.length:=fun y hy=>(BN.mp hy).elim (lt y) fun z=>by rw[A3.mp z];exact Ah.mp h1
  have C2:∀q∈M4 w.length m (pre++[x]),vK w q pre.length=HJ w pre x:=fun q hq=>by
   obtain ⟨a1,a2,_,_⟩:=YA hq nd2 lt2;rw[Ab,Du]at a2;have e2:q.take pre.length=pre:=by
    have e:=congrArg (iD pre.length) a2;rw[xW,QS (by omega),xX]at e;exact e
   have e3:q.getD pre.length 0=x:=by
    have e:(q.take (pre.length+1))[pre.length]?=(pre++[x])[pre.length]?:=by rw[a2]
    rw[ED (by omega),bq (AV _),Nat.sub_self]at e;rw[AQ,e];rfl
   unfold vK;rw[e2,e3]
  have ef:(M4 w.length m (pre++[x])).filter (fun q=>(By pre.length (m+1)).all (vK w q))=(M4 w.length m (pre++[x])).filter (fun q=>HJ w pre x&&(By (pre++[x]).length m).all (vK w q)):=BO fun q hq=>by
   rw[Ee,JC,C2 q hq,Ab,Du]
  rw[ef];cases hs:HJ w pre x with
  |false=>simp
  |true=>simp only[F8,if_true];exact K6 w m (pre++[x]) nd2 lt2
section
variable {n:Nat} {q:List Nat}
theorem Pm.Cj(h:Pm n q){a:Nat}(ha:a<n):A6 q a<n:=by
 have:=SH.Cj (p:=q) (a:=a) (by rw[h.len];exact ha)
 exact h.lt _ (Ar this)
theorem Pm.inj(h:Pm n q){a b:Nat}(ha:a<n)(hb:b<n)(e:A6 q a=A6 q b):a=b:=by
 have h1:=SH.Cj (p:=q) (a:=a) (by rw[h.len];exact ha);have h2:=SH.Cj (p:=q) (a:=b) (by rw[h.len];exact hb);rw[e,<-h2]at h1;obtain ⟨l1,e1⟩:=Ap.mp (h1.trans h2);obtain ⟨l2,e2⟩:=Ap.mp h2;exact (Iz h.nd).mp (e1.trans e2.symm)
theorem Pm.sT(h:Pm n q){a:Nat}(ha:a<n):∃b,b<n/\A6 q b=a:=by
 have hm:a∈q:=by
  apply De;intro no
  have:=Gh (a::q) (AF n) (Bt.mpr ⟨no,h.nd⟩) (fun x hx=>Ah.mpr ((Ak.mp hx).elim (fun z=>z ▸ ha) (h.lt x)))
  rw[BC,BW,h.len]at this;omega
 obtain ⟨b,hb⟩:=FG hm;have lb:b<q.length:=(Ap.mp hb).1
 have:=SH.Cj lb
 rw[hb]at this;exact ⟨b,by rw[<-h.len];exact lb,(Al this).symm⟩
abbrev RD(q:List Nat)(a:Nat):Nat:=Km464.before q a
theorem Pm.Qb(h:Pm n q){b:Nat}(hb:b<n):RD q (A6 q b)=b:=by
 have e:((AF q.length).find? fun c=>oh q c==A6 q b)=some b:=K3 (Ah.mpr (by rw[h.len];exact hb)) (by show (A6 q b==A6 q b)=true;simp) fun y hy e=>by
  have hy:=Ah.mp hy;rw[h.len]at hy;have e:A6 q y=A6 q b:=by
   have:(A6 q y==A6 q b)=true:=e
   simpa using this
  exact h.inj hy hb e
 show ((AF q.length).find? fun c=>oh q c==A6 q b).getD (A6 q b)=b;rw[e];rfl
theorem Pm.Xh(h:Pm n q){a:Nat}(ha:a<n):A6 q (RD q a)=a/\RD q a<n:=by
 obtain ⟨b,hb,rfl⟩:=h.sT ha;rw[h.Qb hb];exact ⟨rfl,hb⟩
end
def Fits(w:List (List Nat))(q:List Nat)(a:Nat):Prop:=A6 q a=a\/(wd w a (A6 q a)=true/\wd w a (RD q a)=true/\st w a (A6 q a)<=st w a (RD q a))
theorem Uj{w:List (List Nat)}(W:Eg w){a b c:Nat}(hb:Uh w a b)(hc:Uh w a c):(¬rk w a b<rk w a c) ↔ st w a c<=st w a b:=by
 have:=nJ W hb hc
 constructor
 ·intro h;rw[decide_eq_false h]at this
  have:=of_decide_eq_false this.symm
  omega
 ·intro h h2;rw[decide_eq_true h2]at this
  have:=of_decide_eq_true this.symm
  omega
theorem cE{q:List Nat}{k x d:Nat}(h:x<k)(hx:x<q.length):(q.take k).getD x d=A6 q x:=by
 rw[AQ,ED h,SH.Cj hx];rfl
theorem sZ{w:List (List Nat)}(W:Eg w){q:List Nat}(h:Pm w.length q):(∀k,k<w.length->vK w q k=true) ↔ ∀a,a<w.length->Fits w q a:=by
 have len:∀k,k<w.length->(q.take k).length=k:=fun k hk=>by rw[B0,h.len];omega
 have at_:∀k,k<w.length->q.getD k 0=A6 q k:=fun k hk=>by
  rw[AQ,SH.Cj (by rw[h.len];exact hk)];rfl
 have mem:∀k x,k<w.length->((q.take k).contains x=true ↔ ∃j,j<k/\A6 q j=x):=fun k x hk=>by
  rw[AN];constructor
  ·intro hm;obtain ⟨j,hj⟩:=FG hm;have lj:j<(q.take k).length:=(Ap.mp hj).1;rw[len k hk]at lj;rw[ED lj,SH.Cj (by rw[h.len];omega)]at hj;exact ⟨j,lj,Al hj⟩
  ·rintro ⟨j,lj,rfl⟩
   have:(q.take k)[j]?=some (A6 q j):=by rw[ED lj,SH.Cj (by rw[h.len];omega)]
   exact Ar this
 have idx:∀k j,k<w.length->j<k->A6 q j=k->((q.take k).findIdx fun y=>y==k)=j:=fun k j hk lj e=>by
  have hm:(q.take k)[j]?=some k:=by rw[ED lj,SH.Cj (by rw[h.len];omega),e]
  have nd:(q.take k).Nodup:=g0 (rW k q) h.nd;have hmm:k∈q.take k:=Ar hm;have hlt:=FC hmm;have hg:=Gq (xs:=q.take k) (p:=fun y=>y==k) (w:=hlt);have e1:(q.take k)[(q.take k).findIdx fun y=>y==k]=k:=by simpa using hg
  have e2:=(Ap.mp hm);obtain ⟨l2,e2⟩:=e2;exact (Iz nd).mp (e1.trans e2.symm)
 constructor
 ·intro ok a ha
  by_cases al:A6 q a=a
  ·exact .inl al
  have hw:∀k,k<w.length->A6 q k≠k->wd w k (A6 q k)=true/\(A6 q k<k->¬rk w (A6 q k) k<rk w (A6 q k) (A6 q (A6 q k)))/\(∀j,j<k->A6 q j=k->¬rk w k j<rk w k (A6 q k)):=fun k hk ne=>by
   have o:=ok k hk;unfold vK HJ at o;rw[at_ k hk,len k hk]at o
   split at o
   ·cases o
   try rw[if_neg ne]at o
   split at o
   ·cases o
   rename_i _ c2;have c2:wd w k (A6 q k)=true:=by simpa using c2
   split at o
   ·cases o
   rename_i c3;refine ⟨c2,fun l r=>c3 ⟨l,?_⟩,fun j lj e r=>?_⟩
   ·rw[cE l (by rw[h.len];exact h.Cj hk)];exact r
   ·rw[(mem k k hk).mpr ⟨j,lj,e⟩,idx k j hk lj e]at o;simp only[Bool.not_true,g6,Vz,decide_eq_false_iff_not]at o;exact o r
  obtain ⟨hb,lb⟩:=h.Xh ha;have nb:RD q a≠a:=fun e=>al (by rw[e]at hb;exact hb)
  obtain ⟨w1,_,w3⟩:=hw a ha al;obtain ⟨v1,v2,_⟩:=hw (RD q a) lb (by rw[hb];exact Cr nb);rw[hb]at v1 v2;have w2:wd w a (RD q a)=true:=by rw[Jf];exact v1
  refine .inr ⟨w1,w2,?_⟩;have m1:Uh w a (A6 q a):=.inl (HX w1).1;have m2:Uh w a (RD q a):=.inl (HX w2).1;rw[<-Uj W m2 m1];rcases LQ nb with l|l
  ·exact w3 _ l hb
  ·exact v2 l
 ·intro ft k hk;unfold vK HJ;rw[at_ k hk,len k hk];have c1:¬(q.take k).contains (A6 q k)=true:=fun c=>by
   obtain ⟨j,lj,e⟩:=(mem k _ hk).mp c
   have:=h.inj (a:=j) (b:=k) (by omega) hk e
   omega
  rw[if_neg c1]
  by_cases al:A6 q k=k
  ·rw[if_pos al]
  rw[if_neg al];obtain ⟨w1,w2,w3⟩:=(ft k hk).resolve_left al;rw[if_neg (by rw[w1];exact Bn)];have lx:=h.Cj hk;have c3:¬(A6 q k<k/\rk w (A6 q k) k<rk w (A6 q k) ((q.take k).getD (A6 q k) 0)):=by
   rintro ⟨l,r⟩;rw[cE l (by rw[h.len];exact lx)]at r;have ne:A6 q (A6 q k)≠A6 q k:=fun e=>al (h.inj lx hk e)
   obtain ⟨v1,v2,v3⟩:=(ft _ lx).resolve_left ne;rw[h.Qb hk]at v2 v3;exact (Uj W (.inl (HX v2).1) (.inl (HX v1).1)).mpr v3 r
  rw[if_neg c3];cases cc:(q.take k).contains k with
  |false=>rfl
  |true =>
   obtain ⟨j,lj,e⟩:=(mem k k hk).mp cc;rw[idx k j hk lj e];have ej:RD q k=j:=by rw[<-e,h.Qb (by omega)]
   rw[ej]at w2 w3
   have:=(Uj W (.inl (HX w2).1) (.inl (HX w1).1)).mpr w3
   rw[decide_eq_false this];rfl
def Uk(q:List Nat):List Nat:=(AF q.length).map (RD q)
theorem TC{n:Nat}{q:List Nat}(h:Pm n q){a:Nat}(ha:a<n):A6 (Uk q) a=RD q a:=by
 unfold Uk;rw[G8,h.len,if_pos ha]
theorem cF{w:List (List Nat)}{q:List Nat}(h:Pm w.length q){a:Nat}(ha:a<w.length)(ft:Fits w q a):Uh w a (RD q a):=by
 rcases ft with e|⟨_,h2,_⟩
 ·exact .inr (by have:=h.Qb ha;rwa [e]at this)
 ·exact .inl (HX h2).1
theorem o8(s:House){w:List (List Nat)}(W:Eg w)(hw:s.wish=w){q:List Nat}(h:Pm w.length q) :
  ((AF w.length).all (vK w q)&&(L8 w (Uk q) == []))=s.rings q:=by
 subst hw;have e2:s.rings q=(((AF s.wish.length).all fun a=>(A6 q a==a)||(wd s.wish a (A6 q a)&&(wd s.wish a (RD q a)&&decide (st s.wish a (A6 q a)<=st s.wish a (RD q a)))))&&(B5 s.wish.length).all fun p => !(wd s.wish p.1 p.2&&(decide (st s.wish p.1 p.2<st s.wish p.1 (RD q p.1))&&decide (st s.wish p.2 p.1<st s.wish p.2 (RD q p.2))))):=rfl;rw[e2];have part1:(AF s.wish.length).all (vK s.wish q)=(AF s.wish.length).all fun a=>(A6 q a==a)||(wd s.wish a (A6 q a)&&(wd s.wish a (RD q a)&&decide (st s.wish a (A6 q a)<=st s.wish a (RD q a)))):=by
  rw[C4,Bc,Bc]
  have:=sZ W h
  constructor
  ·intro h1 a ha
   have:=this.mp (fun k hk=>h1 k (Ah.mpr hk)) a (Ah.mp ha)
   unfold Fits at this;simpa using this
  ·intro h1 a ha;refine this.mpr (fun k hk=>?_) a (Ah.mp ha)
   have:=h1 k (Ah.mpr hk)
   unfold Fits;simpa using this
 rw[part1];cases c:(AF s.wish.length).all fun a=>(A6 q a==a)||(wd s.wish a (A6 q a)&&(wd s.wish a (RD q a)&&decide (st s.wish a (A6 q a)<=st s.wish a (RD q a)))) with
 |false=>rfl
 |true =>
  rw[F8,F8,C4,Bc];have ft:∀a,a<s.wish.length->Fits s.wish q a:=fun a ha=>by
   have:=Bc.mp c a (Ah.mpr ha)
   unfold Fits;simpa using this
  have key:∀p∈B5 s.wish.length,wd s.wish p.1 p.2=true->wb s.wish (Uk q) p.1 p.2=(decide (st s.wish p.1 p.2<st s.wish p.1 (RD q p.1))&&decide (st s.wish p.2 p.1<st s.wish p.2 (RD q p.2))):=fun p hp hd=>by
   obtain ⟨l1,l2⟩:=Fp.mp (show (p.1,p.2)∈B5 s.wish.length from hp);unfold wb;rw[TC h (by omega),TC h l2,nL W (cF h (by omega) (ft _ (by omega))),nL W (cF h l2 (ft _ l2))];obtain ⟨m1,m2⟩:=HX hd;rw[AN.mpr m1,AN.mpr m2,F8,F8]
  have e3:(L8 s.wish (Uk q) == [])=true ↔ ∀p∈Gx s.wish,¬wb s.wish (Uk q) p.1 p.2=true:=by
   rw[beq_iff_eq];exact Dc
  rw[e3];constructor
  ·intro h1 p hp;cases hd:wd s.wish p.1 p.2 with
   |false=>rfl
   |true =>
    have:=h1 p (AJ.mpr ⟨hp,hd⟩)
    rw[key p hp hd,vG]at this;rw[this];rfl
  ·intro h1 p hp;obtain ⟨hp,hd⟩:=AJ.mp hp
   have:=h1 p hp
   rw[key p hp hd];rw[hd,F8,Vz]at this;rw[this];exact AZ
def LS(w:List (List Nat)):List (List Nat):=(Gr w w.length).filter fun q=>L8 w (Uk q) == []
theorem filter_all(s:House){w:List (List Nat)}(hw:s.wish=w):Gb s.many s.all=M4 w.length w.length []:=by
 subst hw
 have:=cD s.wish.length s.wish.length []
 simp only[rX,Bool.not_false,F0,EY]at this;rw[<-this];show Gb s.wish.length (AF s.wish.length)=_
 congr 1
 exact (BZ.mpr fun _ _=>rfl).symm
theorem cG(s:House){w:List (List Nat)}(W:Eg w)(hw:s.wish=w):LS w=(Gb s.many s.all).filter s.rings:=by
 unfold LS;rw[X9,K6 w w.length [] C3 (fun x hx=>nomatch hx),B6,filter_all s hw];refine BO fun q hq=>?_
 have:=o8 s W hw (nU hq)
 rw[<-this,JA,DJ,<-EF]
theorem V6{α:Type}(P:α->Bool):∀l:List α,l.find? P=(l.filter P).head?
 |[]=>rfl
 |x::l=>by
  rw[CM,Bm];cases h:P x with
  |true=>rfl
  |false=>simp only[Cf,if_false];exact V6 P l
theorem o9{w:List (List Nat)}(W:Eg w):LS w≠[]:=by
 have P:J4 w.length (fun a b=>wd w a b=true) (st w):=by
  refine ⟨fun {a b} h=>by rw[Jf];exact h,fun h=>(OX W h).2.2,fun h=>(OX W h).1,fun {a b c} h1 h2 e=>?_⟩;have m1:=(HX h1).1;have m2:=(HX h2).1;rw[Ug W m1,Ug W m2]at e;have g1:=Gq (xs:=wl w a) (p:=fun x=>x==b) (w:=FC m1);have g2:=Gq (xs:=wl w a) (p:=fun x=>x==c) (w:=FC m2);have g1:(wl w a)[(wl w a).findIdx fun x=>x==b]'(FC m1)=b:=by simpa using g1
  have g2:(wl w a)[(wl w a).findIdx fun x=>x==c]'(FC m2)=c:=by simpa using g2
  rw[<-g1,<-g2];exact getElem_congr rfl e _
 obtain ⟨f,g,h1,h2,h3⟩:=sY P
 let q:=(AF w.length).map f
 have lq:q.length=w.length:=by simp[q]
 have hq:∀a,a<w.length->A6 q a=f a:=fun a ha=>by
  show A6 ((AF w.length).map f) a=f a;rw[G8,if_pos ha]
 have nd:q.Nodup:=by
  have:∀m:List Nat,(∀x∈m,x<w.length)->m.Nodup->(m.map f).Nodup:=by
   intro m
   induction m with
   |nil=>intro _ _;exact C3
   |cons x m ih =>
    intro hm hn;have hn:=Bt.mp hn;refine Bt.mpr ⟨fun hx=>?_,ih (fun y hy=>hm y (AG _ hy)) hn.2⟩;obtain ⟨y,hy,e⟩:=BE.mp hx;have e2:=congrArg g e;rw[(h1 y (hm y (AG _ hy))).2.2.1,(h1 x (hm x AI)).2.2.1]at e2;exact hn.1 (e2 ▸ hy)
  exact this _ (fun x hx=>Ah.mp hx) Cq
 have pm:Pm w.length q:=⟨lq,nd,fun x hx=>by
  obtain ⟨a,ha,rfl⟩:=BE.mp hx;exact (h1 a (Ah.mp ha)).1⟩
 have hb:∀a,a<w.length->RD q a=g a:=fun a ha=>by
  have hg:=(h1 a ha).2.1
  have:=pm.Qb hg
  rw[hq _ hg,(h1 a ha).2.2.2]at this;exact this
 have hm:q∈Gb (House.many ⟨w,[]⟩) (House.all ⟨w,[]⟩):=by
  rw[filter_all ⟨w,[]⟩ rfl]
  have:=iW (n:=w.length) q [] (by simpa using nd) pm.lt
  rw[lq]at this;simpa using this
 have hr:House.rings ⟨w,[]⟩ q=true:=by
  have e2:House.rings ⟨w,[]⟩ q=(((AF w.length).all fun a=>(A6 q a==a)||(wd w a (A6 q a)&&(wd w a (RD q a)&&decide (st w a (A6 q a)<=st w a (RD q a)))))&&(B5 w.length).all fun p => !(wd w p.1 p.2&&(decide (st w p.1 p.2<st w p.1 (RD q p.1))&&decide (st w p.2 p.1<st w p.2 (RD q p.2))))):=rfl;rw[e2,BB,Bc,Bc];constructor
  ·intro a ha;have ha:=Ah.mp ha;rw[hq a ha,hb a ha]
   have:=h2 a ha
   simpa using this
  ·intro p hp;obtain ⟨l1,l2⟩:=Fp.mp (show (p.1,p.2)∈B5 w.length from hp);rw[hb _ (by omega),hb _ l2];cases hd:wd w p.1 p.2 with
   |false=>rfl
   |true =>
    by_cases c1:st w p.1 p.2<st w p.1 (g p.1)
    ·by_cases c2:st w p.2 p.1<st w p.2 (g p.2)
     ·exact (h3 _ _ hd c1 c2).elim
     ·rw[decide_eq_false c2];simp
    ·rw[decide_eq_false c1];simp
 rw[cG ⟨w,[]⟩ W rfl];intro e
 have:q∈(Gb (House.many ⟨w,[]⟩) (House.all ⟨w,[]⟩)).filter (House.rings ⟨w,[]⟩):=AJ.mpr ⟨hm,hr⟩
 rw[e]at this;exact nomatch this
theorem iX(s:House){w:List (List Nat)}(W:Eg w)(hw:s.wish=w){q:List Nat}{l:List (List Nat)}(h:LS w=q::l):s.told=q:=by
 show ((Gb s.many s.all).find? s.rings).getD s.all=q;rw[V6,<-cG s W hw,h];rfl
theorem YC{w:List (List Nat)}{q:List Nat}(h:q∈Gr w w.length):Pm w.length q:=by
 rw[X9,K6 w w.length [] C3 (fun x hx=>nomatch hx)]at h;exact nU (AJ.mp h).1
open Km464 (House)
def aX(q:List Nat)(s:Nat):Nat->Nat
 |0=>s
 |k+1=>A6 q (aX q s k)
def IJ(q:List Nat)(s k:Nat):List Nat:=(AF (k+1)).map (aX q s)
theorem iY(q:List Nat)(s k:Nat):IJ q s (k+1)=IJ q s k++[aX q s (k+1)]:=by
 unfold IJ;rw[HQ,BS];rfl
section
variable {n:Nat} {q:List Nat} {s:Nat}
theorem YD(h:Pm n q)(hs:s<n):∀k,aX q s k<n
 |0=>hs
 |k+1=>h.Cj (YD h hs k)
theorem YE(h:Pm n q)(hs:s<n):∀(i d:Nat),aX q s (i+d)=aX q s i->aX q s d=s
 |0,d,e=>by rw[kn]at e;exact e
 |i+1,d,e=>by
  rw[show i+1+d=i+d+1 by omega]at e;exact YE h hs i d (h.inj (YD h hs _) (YD h hs _) e)
def Open(q:List Nat)(s k:Nat):Prop:=∀j,1<=j->j<=k->aX q s j≠s
theorem Open.room(h:Pm n q)(hs:s<n){k:Nat}(o:Open q s k):k+1<=n:=by
 have nd:(IJ q s k).Nodup:=by
  unfold IJ
  have:∀m:List Nat,(∀x∈m,x<=k)->m.Nodup->(m.map (aX q s)).Nodup:=by
   intro m
   induction m with
   |nil=>intro _ _;exact C3
   |cons x m ih =>
    intro hm hn;have hn:=Bt.mp hn;refine Bt.mpr ⟨fun hx=>?_,ih (fun y hy=>hm y (AG _ hy)) hn.2⟩;obtain ⟨y,hy,e⟩:=BE.mp hx;have ly:=hm y (AG _ hy);have lx:=hm x AI;have ne:x≠y:=fun z=>hn.1 (z ▸ hy)
    rcases LQ ne with l|l
    ·exact o (y-x) (by omega) (by omega) (YE h hs x (y-x) (by rw[show x+(y-x)=y by omega];exact e))
    ·exact o (x-y) (by omega) (by omega) (YE h hs y (x-y) (by rw[show y+(x-y)=x by omega];exact e.symm))
  exact this _ (fun x hx=>by have:=Ah.mp hx;omega) Cq
 have:=Jq n _ nd fun x hx=>by
  obtain ⟨j,_,rfl⟩:=BE.mp hx;exact YD h hs j
 unfold IJ at this;simpa using this
theorem nV(h:Pm n q)(hs:s<n){k:Nat}(o:Open q s k)(e:aX q s (k+1)=s):DK q s=IJ q s k:=by
 have hk:=o.room h hs;have go:∀(d m f:Nat),m+d=k+1->1<=m->d<=f->Ud q s f (aX q s m)=(By m d).map (aX q s):=by
  intro d
  induction d with
  |zero =>
   intro m f hm h1 hf;have em:m=k+1:=by omega
   subst em;cases f with
   |zero=>rfl
   |succ f=>show (if aX q s (k+1)=s then [] else _)=_;rw[if_pos e];rfl
  |succ d ih =>
   intro m f hm h1 hf;cases f with
   |zero=>omega
   |succ f =>
    show (if aX q s m=s then [] else aX q s m::Ud q s f (A6 q (aX q s m)))=_;rw[if_neg (o m h1 (by omega)),Ee,Az]
    congr 1
    exact ih (m+1) f (by omega) (by omega) (by omega)
 show s::Ud q s q.length (aX q s 1)=_;rw[go k 1 q.length (by omega) (AV _) (by rw[h.len];omega)];unfold IJ;rw[EF,Ee,Az];rfl
theorem vx(h:Pm n q)(hs:s<n):∃k,Open q s k/\aX q s (k+1)=s:=by
 apply De;intro no;have all:∀k,Open q s k:=by
  intro k
  induction k with
  |zero=>intro j h1 h2;omega
  |succ k ih =>
   intro j h1 h2
   by_cases ej:j=k+1
   ·intro e;exact no ⟨k,ih,by rw[<-ej];exact e⟩
   ·exact ih j h1 (by omega)
 have:=(all n).room h hs
 omega
theorem sd(h:Pm n q)(hs:s<n):(DK q s).length<=n:=by
 obtain ⟨k,o,e⟩:=vx h hs;rw[nV h hs o e];unfold IJ;rw[AB,BW];exact o.room h hs
end
def k8(q:List Nat)(s:Nat):Bool:=((DK q s).foldl min s==s)&&((DK q s).length == 3||(DK q s).length == 5)
theorem ym{n:Nat}{q:List Nat}(h:Pm n q)(h6:n<=6):aY q=(AF q.length).filter (k8 q):=by
 unfold aY Km464.odds;rw[B6];refine BO fun s hs=>?_
 have hs:=Ah.mp hs;rw[h.len]at hs;have hl:=sd h hs;unfold k8 Km464.oddRing
 congr 1
 rw[C4];simp only[BB,decide_eq_true_eq,beq_iff_eq,EN];omega
theorem TF:∀(l:List Nat) (a:Nat),l.foldl min a<=a/\(∀x∈l,l.foldl min a<=x)/\(l.foldl min a=a\/l.foldl min a∈l)
 |[],a=>⟨AV _,(fun x hx=>nomatch hx),.inl rfl⟩
 |y::l,a=>by
  obtain ⟨h1,h2,h3⟩:=TF l (min a y);rw[BI];refine ⟨by omega,fun x hx=>?_,?_⟩
  ·rcases Ak.mp hx with rfl|hx
   ·omega
   ·exact h2 x hx
  ·rcases h3 with e|e
   ·rw[e]
    by_cases l:a<=y
    ·exact .inl (QS l)
    ·exact .inr (by rw[vS (by omega)];exact AI)
   ·exact .inr (AG _ e)
theorem se{l:List Nat}{a m:Nat}(hm:m∈a::l)(hle:∀x∈a::l,m<=x):(a::l).foldl min a=m:=by
 obtain ⟨h1,h2,h3⟩:=TF (a::l) a;have h4:=h2 m hm;rcases h3 with e|e
 ·have:=hle a AI
  omega
 ·have:=hle _ e
  omega
open Km464 (House)
def relabel(nm:List Nat)(a b:Nat):List Nat:=nm.map fun x=>if x=A6 nm b then A6 nm a else x
def nameStep(l nm:List Nat)(t:Nat×Nat):List Nat:=if l.contains t.1=true/\l.contains t.2=true then relabel nm t.1 t.2 else nm
def sf(n:Nat)(l:List Nat)(ts:List (Nat×Nat)):List Nat:=ts.foldl (nameStep l) (AF n)
def names(w:List (List Nat))(l:List Nat):List Nat:=sf w.length l (Gx w)
theorem GN{nm:List Nat}{a b x:Nat}(hx:x<nm.length):A6 (relabel nm a b) x=if A6 nm x=A6 nm b then A6 nm a else A6 nm x:=by
 unfold relabel;show (nm.map _).getD x x=_;rw[AQ,BH,Cj hx];rfl
structure Nm(n:Nat)(l:List Nat)(nm:List Nat):Prop where
 len:nm.length=n
 mem:∀x∈l,A6 nm x∈l
 idem:∀x∈l,A6 nm (A6 nm x)=A6 nm x
theorem Nm.first{n:Nat}{l:List Nat}(hl:∀x∈l,x<n):Nm n l (AF n):=by
 refine ⟨BW,fun x hx=>?_,fun x hx=>?_⟩
 ·have:=G8 n (fun x=>x) x
  rw[EY]at this;rw[this,if_pos (hl x hx)];exact hx
 ·have h:∀y,A6 (AF n) y=y:=fun y=>by
   have:=G8 n (fun x=>x) y
   rw[EY]at this;rw[this];split<;>rfl
  rw[h,h]
theorem Nm.step{n:Nat}{l nm:List Nat}(hl:∀x∈l,x<n)(N:Nm n l nm)(t:Nat×Nat):Nm n l (nameStep l nm t):=by
 unfold nameStep
 split
 ·rename_i h;obtain ⟨h1,h2⟩:=h;have h1:=AN.mp h1;have h2:=AN.mp h2;have hh:∀x∈l,A6 (relabel nm t.1 t.2) x=if A6 nm x=A6 nm t.2 then A6 nm t.1 else A6 nm x:=fun x hx=>GN (by rw[N.len];exact hl x hx)
  refine ⟨by unfold relabel;rw[AB,N.len],fun x hx=>?_,fun x hx=>?_⟩
  ·rw[hh x hx]
   split
   ·exact N.mem _ h1
   ·exact N.mem _ hx
  ·rw[hh x hx]
   split
   ·rename_i c;rw[hh _ (N.mem _ h1),N.idem _ h1]
    split<;>rfl
   ·rename_i c;rw[hh _ (N.mem _ hx),N.idem _ hx,if_neg c]
 ·exact N
theorem Nm.fold{n:Nat}{l:List Nat}(hl:∀x∈l,x<n):∀(ts:List (Nat×Nat)) (nm:List Nat),Nm n l nm->Nm n l (ts.foldl (nameStep l) nm)
 |[],nm,N=>N
 |t::ts,nm,N=>by rw[BI];exact Nm.fold hl ts _ (N.step hl t)
theorem pA{n:Nat}{l nm:List Nat}(hl:∀x∈l,x<n)(N:Nm n l nm)(t:Nat×Nat){x y:Nat}(hx:x∈l)(hy:y∈l)(e:A6 nm x=A6 nm y):A6 (nameStep l nm t) x=A6 (nameStep l nm t) y:=by
 unfold nameStep
 split
 ·rw[GN (by rw[N.len];exact hl x hx),GN (by rw[N.len];exact hl y hy),e]
 ·exact e
theorem cH{n:Nat}{l:List Nat}(hl:∀x∈l,x<n){x y:Nat}(hx:x∈l)(hy:y∈l):∀(ts:List (Nat×Nat)) (nm:List Nat),Nm n l nm->A6 nm x=A6 nm y->A6 (ts.foldl (nameStep l) nm) x=A6 (ts.foldl (nameStep l) nm) y
 |[],nm,N,e=>e
 |t::ts,nm,N,e=>by rw[BI];exact cH hl hx hy ts _ (N.step hl t) (pA hl N t hx hy e)
theorem Ul{n:Nat}{l:List Nat}(hl:∀x∈l,x<n){x y:Nat}(hx:x∈l)(hy:y∈l):∀(ts:List (Nat×Nat)) (nm:List Nat),Nm n l nm->(x,y)∈ts->A6 (ts.foldl (nameStep l) nm) x=A6 (ts.foldl (nameStep l) nm) y
 |t::ts,nm,N,h=>by
  rw[BI];rcases Ak.mp h with rfl|h
  ·refine cH hl hx hy ts _ (N.step hl _) ?_;unfold nameStep;rw[if_pos ⟨AN.mpr hx,AN.mpr hy⟩,GN (by rw[N.len];exact hl x hx),GN (by rw[N.len];exact hl y hy),if_pos rfl]
   split<;>rfl
  ·exact Ul hl hx hy ts _ (N.step hl t) h
theorem V7{n:Nat}{l:List Nat}(hl:∀x∈l,x<n)(R:Nat->Prop):∀(ts:List (Nat×Nat)) (nm:List Nat),Nm n l nm->(∀t∈ts,t.1∈l->t.2∈l->(R t.1 ↔ R t.2)) ->
  (∀x∈l,∀y∈l,A6 nm x=A6 nm y->(R x ↔ R y))->∀x∈l,∀y∈l,A6 (ts.foldl (nameStep l) nm) x=A6 (ts.foldl (nameStep l) nm) y->(R x ↔ R y)
 |[],nm,N,hR,h=>h
 |t::ts,nm,N,hR,h=>by
  rw[BI];refine V7 hl R ts _ (N.step hl t) (fun u hu=>hR u (AG _ hu)) fun x hx y hy e=>?_
  unfold nameStep at e
  split at e
  ·rename_i c;obtain ⟨c1,c2⟩:=c;have c1:=AN.mp c1;have c2:=AN.mp c2;have ab:=hR t AI c1 c2;rw[GN (by rw[N.len];exact hl x hx),GN (by rw[N.len];exact hl y hy)]at e
   split at e
   ·rename_i d1;have r1:=h x hx t.2 c2 d1
    split at e
    ·rename_i d2;exact r1.trans (h y hy t.2 c2 d2).symm
    ·exact r1.trans (ab.symm.trans (h t.1 c1 y hy e))
   ·split at e
    ·rename_i d2;exact (h x hx t.1 c1 e).trans (ab.trans (h y hy t.2 c2 d2).symm)
    ·exact h x hx y hy e
  ·exact h x hx y hy e
def fN(g:Qx)(l r:List Nat):Prop:=∀y∈r,∀x∈l,g.likes y x=true->x∈r
theorem Rm(g:Qx)(l:List Nat)(hd:l.Nodup):∀(f:Nat) (r:List Nat),r.Nodup->(∀x∈r,x∈l)->(D6 g l f r).Nodup/\(∀x∈D6 g l f r,x∈l)/\(∀x∈r,x∈D6 g l f r)/\(fN g l (D6 g l f r)\/r.length+f<=(D6 g l f r).length)
 |0,r,nd,hs=>⟨nd,hs,fun _ h=>h,.inr (AV _)⟩
 |f+1,r,nd,hs=>by
  have nd2:(r++l.filter fun x => !r.contains x&&r.any fun y=>g.likes y x).Nodup:=by
   refine DA.mpr ⟨nd,Ct _ hd,fun a ha b hb e=>?_⟩
   have:=(AJ.mp hb).2
   rw[BB]at this;have hn:b ∉ r:=by simpa using this.1
   exact hn (e ▸ ha)
  have hs2:∀x∈r++l.filter (fun x => !r.contains x&&r.any fun y=>g.likes y x),x∈l:=fun x hx=>(BN.mp hx).elim (hs x) fun z=>(AJ.mp z).1
  obtain ⟨a1,a2,a3,a4⟩:=Rm g l hd f _ nd2 hs2;refine ⟨a1,a2,fun x hx=>a3 x (DQ _ hx),?_⟩
  by_cases c:fN g l (D6 g l (f+1) r)
  ·exact .inl c
  ·right
   rcases a4 with a4|a4
   ·exact absurd a4 c
   ·have:0<(l.filter fun x => !r.contains x&&r.any fun y=>g.likes y x).length:=by
     apply Nat.pos_of_ne_zero;intro z;have z:=Nd.mp z;have cl:fN g l r:=fun y hy x hx hyx=>by
      apply De;intro hn
      have:x∈l.filter fun x => !r.contains x&&r.any fun y=>g.likes y x:=AJ.mpr ⟨hx,by
       rw[BB];exact ⟨by simpa using hn,D4.mpr ⟨y,hy,hyx⟩⟩⟩
      rw[z]at this;exact nomatch this
     have ay:∀f,D6 g l f r=r:=by
      intro f
      induction f with
      |zero=>rfl
      |succ f ih =>
       show D6 g l f (r++l.filter fun x => !r.contains x&&r.any fun y=>g.likes y x)=r;rw[z,B1,ih]
     rw[ay]at c;exact c cl
    rw[Ab]at a4;show r.length+(f+1)<=(D6 g l f (r++l.filter fun x => !r.contains x&&r.any fun y=>g.likes y x)).length;omega
theorem az(g:Qx){l:List Nat}(hd:l.Nodup){a:Nat}(ha:a∈l):fN g l (D6 g l l.length [a]):=by
 obtain ⟨a1,a2,_,a4⟩:=Rm g l hd l.length [a] (by simp) (fun x hx=>by rw[A3.mp hx];exact ha);rcases a4 with c|c
 ·exact c
 ·have:=Gh _ l a1 a2
  rw[Du]at c;omega
theorem TH(g:Qx)(l nm:List Nat)(hn:∀x∈l,∀y∈l,g.likes y x=true->A6 nm x=A6 nm y):∀(f:Nat) (r:List Nat) (c:Nat),(∀x∈r,x∈l/\A6 nm x=c)->∀x∈D6 g l f r,A6 nm x=c
 |0,r,c,h=>fun x hx=>(h x hx).2
 |f+1,r,c,h=>by
  refine TH g l nm hn f _ c fun x hx=>?_
  rcases BN.mp hx with hx|hx
  ·exact h x hx
  ·obtain ⟨h1,h2⟩:=AJ.mp hx;rw[BB]at h2;obtain ⟨y,hy,e⟩:=D4.mp h2.2;exact ⟨h1,(hn x h1 y (h y hy).1 e).trans (h y hy).2⟩
section
variable {w:List (List Nat)} {l:List Nat}
theorem vy(s:House)(W:Eg w)(hw:s.wish=w)(hd:l.Nodup)(hl:∀x∈l,x<w.length){a:Nat}(ha:a∈l):Cd (Aq s) l a=l.filter fun x=>A6 (names w l) x==A6 (names w l) a:=by
 unfold Cd;have lk:∀x y,(Aq s).likes x y=wd w x y:=fun x y=>by rw[OZ s W hw];subst hw;rfl
 have N0:Nm w.length l (AF w.length):=.first hl;have tw:∀x∈l,∀y∈l,wd w x y=true->A6 (names w l) x=A6 (names w l) y:=fun x hx y hy e=>by
  obtain ⟨l1,l2,ne⟩:=OX W e;rcases LQ ne with q|q
  ·exact Ul hl hx hy (Gx w) _ N0 (AJ.mpr ⟨Fp.mpr ⟨q,l2⟩,e⟩)
  ·exact (Ul hl hy hx (Gx w) _ N0 (AJ.mpr ⟨Fp.mpr ⟨q,l1⟩,by rw[Jf]at e;exact e⟩)).symm
 refine BO fun x hx=>?_
 rw[C4,AN,beq_iff_eq];constructor
 ·exact TH (Aq s) l (names w l) (fun x hx y hy e=>(tw y hy x hx (by rw[<-lk];exact e)).symm) l.length [a] _ (fun y hy=>by rw[A3.mp hy];exact ⟨ha,rfl⟩) x
 ·intro e;have cl:=az (Aq s) hd ha;obtain ⟨_,_,a3,_⟩:=Rm (Aq s) l hd l.length [a] (by simp) (fun x hx=>by rw[A3.mp hx];exact ha);have id0:∀y,A6 (AF w.length) y=y:=fun y=>by
   have:=G8 w.length (fun x=>x) y
   rw[EY]at this;rw[this];split<;>rfl
  have:=V7 hl (fun y=>y∈D6 (Aq s) l l.length [a]) (Gx w) _ N0 (fun t ht h1 h2=>by
   have hwd:=(AJ.mp ht).2;exact ⟨fun z=>cl _ z _ h2 (by rw[lk];exact hwd),fun z=>cl _ z _ h1 (by rw[lk,Jf];exact hwd)⟩) (fun x _ y _ e=>by rw[id0,id0]at e;rw[e]) x hx a ha e
  exact this.mpr (a3 a (A3.mpr rfl))
theorem Um{f:Nat->Nat}:∀{m:List Nat},m.Nodup->(∀x∈m,∀y∈m,f x=f y->x=y)->(m.map f).Nodup
 |[],_,_=>C3
 |x::m,hn,hi=>by
  have hn:=Bt.mp hn;refine Bt.mpr ⟨fun hx=>?_,Um hn.2 fun a ha b hb=>hi a (AG _ ha) b (AG _ hb)⟩;obtain ⟨y,hy,e⟩:=BE.mp hx
  have:=hi y (AG _ hy) x AI e
  exact hn.1 (this ▸ hy)
def iZ(w:List (List Nat))(l:List Nat):List Nat:=l.filter fun s=>(l.map (A6 (names w l))).count s % 2 == 1
theorem pB(s:House)(W:Eg w)(hw:s.wish=w)(hd:l.Nodup)(hl:∀x∈l,x<w.length):(iZ w l).length=Kv (Aq s) l:=by
 have N:Nm w.length l (names w l):=Nm.fold hl (Gx w) _ (.first hl);have pe:=fun {a:Nat} (ha:a∈l)=>vy s W hw hd hl ha
 have e1:Kv (Aq s) l=(l.filter fun a=>((Cd (Aq s) l a).headD a==a)&&((Cd (Aq s) l a).length % 2 == 1)).length:=by
  unfold Kv Km463.partsOf;rw[Jp,AB,B6]
  congr 1
  refine BO fun a _=>?_
  rw[JA];rfl
 have cnt_eq:∀c,(l.map (A6 (names w l))).count c=(l.filter fun x=>A6 (names w l) x==c).length:=fun c=>by
  rw[ABl,vT,List.countP_eq_length_filter];rfl
 rw[e1];have mN:∀{c},c∈iZ w l ↔ c∈l/\(l.filter fun x=>A6 (names w l) x==c).length % 2=1:=fun {c}=>by
  unfold iZ;rw[AJ,cnt_eq,beq_iff_eq]
 have mS:∀{a},a∈(l.filter fun a=>((Cd (Aq s) l a).headD a==a)&&((Cd (Aq s) l a).length % 2 == 1)) ↔ a∈l/\(Cd (Aq s) l a).headD a=a/\(Cd (Aq s) l a).length % 2=1:=fun {a}=>by
  rw[AJ,BB,beq_iff_eq,beq_iff_eq]
 have self:∀c∈iZ w l,A6 (names w l) c=c:=fun c hc=>by
  obtain ⟨h1,h2⟩:=mN.mp hc
  have:0<(l.filter fun x=>A6 (names w l) x==c).length:=by omega
  obtain ⟨x,hx⟩:=List.exists_mem_of_length_pos this;obtain ⟨h3,h4⟩:=AJ.mp hx;have h4:A6 (names w l) x=c:=by simpa using h4
  rw[<-h4];exact N.idem x h3
 have ndN:(iZ w l).Nodup:=Ct _ hd;have ndS:(l.filter fun a=>((Cd (Aq s) l a).headD a==a)&&((Cd (Aq s) l a).length % 2 == 1)).Nodup:=Ct _ hd;have headS:∀{a},a∈l->(Cd (Aq s) l a).headD a∈l/\A6 (names w l) ((Cd (Aq s) l a).headD a)=A6 (names w l) a:=fun {a} ha=>by
  rw[pe ha];cases q:l.filter fun x=>A6 (names w l) x==A6 (names w l) a with
  |nil=>exact ⟨ha,rfl⟩
  |cons z m =>
   have:z∈l.filter fun x=>A6 (names w l) x==A6 (names w l) a:=by rw[q];exact AI
   obtain ⟨h1,h2⟩:=AJ.mp this;exact ⟨h1,by simpa using h2⟩
 have partL:∀{a b},a∈l->b∈l->A6 (names w l) a=A6 (names w l) b->Cd (Aq s) l a=Cd (Aq s) l b:=fun {a b} ha hb e=>by rw[pe ha,pe hb,e]
 have headL:∀{a b},a∈l->b∈l->A6 (names w l) a=A6 (names w l) b->(Cd (Aq s) l a).headD a=(Cd (Aq s) l b).headD b:=fun {a b} ha hb e=>by
  have ha':a∈Cd (Aq s) l b:=by rw[pe hb];exact AJ.mpr ⟨ha,by simpa using e⟩
  rw[partL ha hb e];cases q:Cd (Aq s) l b with
  |nil=>rw[q]at ha';exact nomatch ha'
  |cons z m=>rfl
 apply F9
 ·have:=Gh ((iZ w l).map fun c=>(Cd (Aq s) l c).headD c) _ (Um ndN fun a ha b hb e=>by
   have h1:=(headS (mN.mp ha).1).2;have h2:=(headS (mN.mp hb).1).2;rw[self a ha]at h1;rw[self b hb]at h2;rw[<-h1,<-h2];exact congrArg (A6 (names w l)) e) (fun x hx=>by
    obtain ⟨c,hc,rfl⟩:=BE.mp hx;obtain ⟨h1,h2⟩:=mN.mp hc;obtain ⟨h3,h4⟩:=headS h1;refine mS.mpr ⟨h3,?_,?_⟩
    ·exact headL h3 h1 h4
    ·rw[partL h3 h1 h4,pe h1,self c hc];exact h2)
  rwa [AB]at this
 ·have:=Gh ((l.filter fun a=>((Cd (Aq s) l a).headD a==a)&&((Cd (Aq s) l a).length % 2 == 1)).map (A6 (names w l))) (iZ w l) (Um ndS fun a ha b hb e=>by
   obtain ⟨a1,a2,_⟩:=mS.mp ha;obtain ⟨b1,b2,_⟩:=mS.mp hb;rw[<-a2,<-b2];exact headL a1 b1 e) (fun x hx=>by
    obtain ⟨a,ha,rfl⟩:=BE.mp hx;obtain ⟨a1,a2,a3⟩:=mS.mp ha;refine mN.mpr ⟨N.mem a a1,?_⟩;rw[pe a1]at a3;exact a3)
  rwa [AB]at this
end
open Km464 (House)
abbrev V8(c:Nat)(t:List Nat):Nat:=t.foldl (fun w k=>w+2 ^ k) c
def Eb(k:Nat):List Nat:=(AF k).foldl (fun found k=>found.flatMap fun c=>[c,c+2 ^ k]) [0]
theorem K7(k:Nat):Eb (k+1)=(Eb k).flatMap fun c=>[c,c+2 ^ k]:=by
 unfold Eb;rw[HQ,EK];rfl
theorem cI:∀(k:Nat),∀c∈Eb k,c<2 ^ k
 |0,c,h=>by
  have:c=0:=by simpa [Eb] using h
  omega
 |k+1,c,h=>by
  rw[K7]at h;obtain ⟨d,hd,hc⟩:=Bz.mp h
  have:=cI k d hd
  rw[W0];rcases Ak.mp hc with rfl|hc
  ·omega
  ·rw[A3.mp hc];omega
theorem Rn:∀(k:Nat),(Eb k).length=2 ^ k
 |0=>rfl
 |k+1=>by
  rw[K7];have go:∀(x:Nat) (L:List Nat),(L.flatMap fun c=>[c,c+x]).length=L.length*2:=by
   intro x L
   induction L with
   |nil=>rfl
   |cons c L ih=>rw[CA,Ab,ih,BC];simp;omega
  rw[go,Rn k,W0]
theorem cJ:∀(m k:Nat) (L:List Nat),(By k m).foldl (fun found k=>found.flatMap fun c=>[c,c+2 ^ k]) L=L.flatMap fun c=>(Ej (By k m)).map (V8 c)
 |0,k,L=>by
  show L=L.flatMap fun c=>[c]
  induction L with
  |nil=>rfl
  |cons p L ih=>rw[CA,<-ih];rfl
 |m+1,k,L=>by
  rw[Ee,BI,cJ m (k+1),K1];refine Dy fun c _=>?_
  show ([c,c+2 ^ k].flatMap fun c=>(Ej (By (k+1) m)).map (V8 c))=(Ej (By (k+1) m)++(Ej (By (k+1) m)).map fun r=>k::r).map (V8 c);rw[BS,Dd,CA,Br];rfl
theorem pC(n:Nat):Eb n=(Ej (AF n)).map Ek:=by
 unfold Eb;rw[EF,cJ,Br];rfl
theorem TJ:∀{l t:List Nat},t∈Ej l->t.Sublist l
 |[],t,h=>by
  have:t=[]:=by simpa [Ej] using h
  rw[this];exact .slnil
 |p::l,t,h=>by
  rcases BN.mp h with h|h
  ·exact .cons _ (TJ h)
  ·obtain ⟨r,hr,rfl⟩:=BE.mp h;exact .cons_cons _ (TJ hr)
theorem k9:∀(t:List Nat) (c k s:Nat),t.Pairwise (· < ·)->(∀x∈t,k<=x)->c<2 ^ k->(V8 c t / 2 ^ s) % 2=if s<k then (c / 2 ^ s) % 2 else if s∈t then 1 else 0
 |[],c,k,s,_,_,hc=>by
  show (c / 2 ^ s) % 2=_
  split
  ·rfl
  ·rename_i h
   have:2 ^ k<=2 ^ s:=Gv (by omega) (by omega)
   rw[N6 (by omega)];simp
 |a::t,c,k,s,hp,hk,hc=>by
  have ha:=hk a AI;obtain ⟨p1,p2⟩:=List.pairwise_cons.mp hp;have h2:2 ^ k<=2 ^ a:=Gv (by omega) ha;have ih:=k9 t (c+2 ^ a) (a+1) s p2 (fun x hx=>p1 x hx) (by rw[W0];omega);show (V8 (c+2 ^ a) t / 2 ^ s) % 2=_;rw[ih];have hn:s<a+1->¬s=a->s ∉ a::t:=fun h1 h2 h=>by
   rcases Ak.mp h with h|h
   ·exact h2 h
   ·have:=p1 s h;omega
  by_cases h1:s<a+1
  ·rw[if_pos h1]
   by_cases e:s=a
   ·subst e;rw[if_neg (show ¬s<k by omega),if_pos AI,Nat.add_div_right _ (aZ s),N6 (by omega)]
   ·have e2:2 ^ a=2 ^ s*(2*2 ^ (a-s-1)):=by
     rw[<-AAC,Ky _ 2,Ky 2,AAC,<-Nat.pow_succ',<-Nat.pow_add]
     congr 1
     omega
    rw[e2,Nat.add_mul_div_left _ _ (aZ s)];have e3:(c / 2 ^ s+2*2 ^ (a-s-1)) % 2=(c / 2 ^ s) % 2:=by omega
    rw[e3]
    by_cases h3:s<k
    ·rw[if_pos h3]
    ·rw[if_neg h3,if_neg (hn h1 e)]
     have:2 ^ k<=2 ^ s:=Gv (by omega) (by omega)
     rw[N6 (by omega)]
  ·rw[if_neg h1,if_neg (show ¬s<k by omega)]
   have:(s∈a::t) ↔ s∈t:=⟨fun h=>(Ak.mp h).resolve_left (by omega),fun h=>AG _ h⟩
   by_cases q:s∈t
   ·rw[if_pos q,if_pos (this.mpr q)]
   ·rw[if_neg q,if_neg (fun z=>q (this.mp z))]
def GO(n c:Nat):List Nat:=(AF n).filter fun s=>(c / 2 ^ s) % 2 == 0
theorem vz{n:Nat}{t:List Nat}(h:t∈Ej (AF n)):GO n (Ek t)=(AF n).filter fun x => !t.contains x:=by
 have hp:t.Pairwise (· < ·):=AAc (TJ h) List.pairwise_lt_range;refine BO fun s _=>?_
 have:=k9 t 0 0 s hp (fun _ _=>Bb _) (by simp)
 show ((V8 0 t / 2 ^ s) % 2 == 0)=_;rw[this,if_neg (xY _)]
 by_cases q:s∈t
 ·rw[if_pos q,AN.mpr q];rfl
 ·rw[if_neg q]
  have:t.contains s=false:=by
   cases z:t.contains s with
   |false=>rfl
   |true=>exact absurd (AN.mp z) q
  rw[this];rfl
theorem si{n:Nat}{t:List Nat}(h:t∈Ej (AF n)):((AF n).filter fun x => !t.contains x).length+t.length=n:=by
 have sl:=TJ h;have nd:t.Nodup:=g0 sl Cq;have e1:((AF n).filter fun x=>t.contains x).length=t.length:=by
  apply F9
  ·exact Gh _ _ (Ct _ Cq) fun x hx=>AN.mp (AJ.mp hx).2
  ·exact Gh _ _ nd fun x hx=>AJ.mpr ⟨sl.subset hx,AN.mpr hx⟩
 have e2:∀(P:Nat->Bool) (l:List Nat),(l.filter P).length+(l.filter fun x => !P x).length=l.length:=by
  intro P l
  induction l with
  |nil=>rfl
  |cons x l ih =>
   rw[Bm,Bm];cases h:P x with
   |true=>simp;omega
   |false=>simp;omega
 have:=e2 (fun x=>t.contains x) (AF n)
 rw[BW]at this;omega
def Od(w:List (List Nat))(c:Nat):Int:=((iZ w (GO w.length c)).length:Int)-((w.length:Int)-((GO w.length c).length:Int))
theorem pD(n c:Nat):(GO n c).Nodup:=Ct _ Cq
theorem cK(n c:Nat):∀x∈GO n c,x<n:=fun x hx=>Ah.mp (AJ.mp hx).1
theorem nW(s:House){w:List (List Nat)}(W:Eg w)(hw:s.wish=w){t:List Nat}(h:t∈Ej (AF w.length)) :
  Od w (Ek t)=(Kv (Aq s) ((AF w.length).filter fun x => !t.contains x):Int)-(t.length:Int):=by
 unfold Od;rw[pB s W hw (pD _ _) (cK _ _),vz h]
 have:=si h
 omega
def J5(k:Nat->Int):List Nat->Nat
 |[]=>0
 |x::xs=>xs.foldl (fun r t=>if k r<k t then t else r) x
theorem YF{α:Type}(k:Nat->Int)(b:α->Nat)(Z:α->Int)(ex:α->Nat):∀(L:List α) (r:α),(∀t∈r::L,k (b t)=Z t/\ex t=(Z t).toNat)->0<=Z r ->
  (L.map b).foldl (fun r t=>if k r<k t then t else r) (b r)=b (L.foldl (fun r t=>if ex r<ex t then t else r) r)/\0<=Z (L.foldl (fun r t=>if ex r<ex t then t else r) r)/\L.foldl (fun r t=>if ex r<ex t then t else r) r∈r::L
 |[],r,h,h0=>⟨rfl,h0,AI⟩
 |t::L,r,h,h0=>by
  rw[Az,BI,BI];obtain ⟨k1,e1⟩:=h r AI;obtain ⟨k2,e2⟩:=h t (AG _ AI)
  by_cases c:Z r<Z t
  ·rw[k1,k2,if_pos c,if_pos (by rw[e1,e2];omega)];obtain ⟨a1,a2,a3⟩:=YF k b Z ex L t (fun u hu=>h u (AG _ hu)) (by omega);exact ⟨a1,a2,AG _ a3⟩
  ·rw[k1,k2,if_neg c,if_neg (by rw[e1,e2];omega)];obtain ⟨a1,a2,a3⟩:=YF k b Z ex L r (fun u hu=>h u ((Ak.mp hu).elim (fun z=>z ▸ AI) fun z=>AG _ (AG _ z))) h0;exact ⟨a1,a2,(Ak.mp a3).elim (fun z=>Ak.mpr (.inl z)) fun z=>AG _ (AG _ z)⟩
theorem cM:∀l:List Nat,∃L,Ej l=[]::L
 |[]=>⟨[],rfl⟩
 |p::l=>by
  obtain ⟨L,e⟩:=cM l;refine ⟨L++(Ej l).map fun r=>p::r,?_⟩;show Ej l++_=_;rw[e];rfl
theorem yn(s:House){w:List (List Nat)}(W:Eg w)(hw:s.wish=w):J5 (Od w) (Eb w.length)=Ek (Q7 (Aq s) s.all) /\
  Od w (J5 (Od w) (Eb w.length))=(Gw (Aq s) s.all (Q7 (Aq s) s.all):Int):=by
 have eall:s.all=AF w.length:=by subst hw;rfl
 obtain ⟨L,e⟩:=cM (AF w.length)
 let Z:List Nat->Int:=fun t=>(Kv (Aq s) ((AF w.length).filter fun x => !t.contains x):Int)-(t.length:Int)
 have hex:∀t,Gw (Aq s) s.all t=(Z t).toNat:=fun t=>by
  show Kv (Aq s) (s.all.filter fun x => !t.contains x)-t.length=_;rw[eall];show _=((Kv (Aq s) ((AF w.length).filter fun x => !t.contains x):Int)-(t.length:Int)).toNat;omega
 have key:=YF (Od w) Ek Z (Gw (Aq s) s.all) L [] (fun t ht=>⟨nW s W hw (by rw[e];exact ht),hex t⟩) (by
  show 0<=(Kv (Aq s) _:Int)-0;omega)
 have ew:Q7 (Aq s) s.all=L.foldl (fun r t=>if Gw (Aq s) s.all r<Gw (Aq s) s.all t then t else r) []:=by
  unfold Q7;rw[eall,e,BI,if_neg (Bu _)]
 have ef:J5 (Od w) (Eb w.length)=(L.map Ek).foldl (fun r t=>if Od w r<Od w t then t else r) (Ek []):=by
  rw[pC,e,Az];rfl
 rw[ef,key.1,ew];refine ⟨rfl,?_⟩;rw[nW s W hw (t:=L.foldl (fun r t=>if Gw (Aq s) s.all r<Gw (Aq s) s.all t then t else r) []) (by rw[e];exact key.2.2),hex]
 have:=key.2.1
 show Z _=_;omega
theorem M5{α:Type}(c:α->Nat):∀(L:List α) (r:α),(∀x∈r::L,c x<=c (L.foldl (fun r q=>if c r<c q then q else r) r)) /\
  (r::L).find? (fun x=>c x==c (L.foldl (fun r q=>if c r<c q then q else r) r))=some (L.foldl (fun r q=>if c r<c q then q else r) r)
 |[],r=>⟨fun x hx=>by rw[A3.mp hx];exact AV _,by rw[CM];simp⟩
 |q::L,r=>by
  rw[BI]
  by_cases h:c r<c q
  ·rw[if_pos h];obtain ⟨h1,h2⟩:=M5 c L q;have hq:=h1 q AI;refine ⟨fun x hx=>?_,?_⟩
   ·rcases Ak.mp hx with rfl|hx
    ·omega
    ·exact h1 x hx
   ·rw[CM]
    have:(c r==c (L.foldl (fun r q=>if c r<c q then q else r) q))=false:=by rw[beq_eq_false_iff_ne];omega
    rw[this];exact h2
  ·rw[if_neg h];obtain ⟨h1,h2⟩:=M5 c L r;have hr:=h1 r AI;refine ⟨fun x hx=>?_,?_⟩
   ·rcases Ak.mp hx with rfl|hx
    ·exact hr
    ·rcases Ak.mp hx with rfl|hx
     ·omega
     ·exact h1 x (AG _ hx)
   ·rw[CM]at h2 ⊢;cases e:(c r==c (L.foldl (fun r q=>if c r<c q then q else r) r)) with
    |true=>rw[e]at h2;exact h2
    |false =>
     rw[e]at h2;have e:=beq_eq_false_iff_ne.mp e
     have:(c q==c (L.foldl (fun r q=>if c r<c q then q else r) r))=false:=by rw[beq_eq_false_iff_ne];omega
     show (q::L).find? _=_;rw[CM,this];exact h2
theorem YG{w:List (List Nat)}:∃L,ET w=AF w.length::L:=by
 obtain ⟨L,e⟩:=Ib ⟨w,[]⟩ (w.length+1) (AF w.length);refine ⟨L.map (Bs ⟨w,[]⟩),?_⟩;rw[J3 ⟨w,[]⟩ rfl];show ((House.pairings ⟨w,[]⟩ (w.length+1) (AF w.length)).map _)=_;rw[e,Az]
 congr 1
 show (AF w.length).map (BD [])=_
 have:BD []=fun x=>x:=rfl
 rw[this,EY]
def Oe(w:List (List Nat)):List (List Nat):=(ET w).filter fun p=>cnt p==cnt (best w)
theorem YH{w:List (List Nat)}:(∀p∈ET w,cnt p<=cnt (best w))/\(ET w).find? (fun p=>cnt p==cnt (best w))=some (best w):=by
 obtain ⟨L,e⟩:=@YG w
 have:=M5 cnt L (AF w.length)
 have eb:best w=L.foldl (fun r q=>if cnt r<cnt q then q else r) (AF w.length):=by
  unfold best;rw[e,BI]
  have:better (AF w.length) (AF w.length)=AF w.length:=if_neg (Bu _)
  rw[this];rfl
 rw[eb,e];exact this
theorem Ro{w:List (List Nat)}:∃L,Oe w=best w::L:=by
 have:=YH (w:=w)
 have h:(Oe w).head?=some (best w):=by
  have ff:∀(P:List Nat->Bool) (l:List (List Nat)),l.find? P=(l.filter P).head?:=by
   intro P l
   induction l with
   |nil=>rfl
   |cons x l ih =>
    rw[CM,Bm];cases h:P x with
    |true=>rfl
    |false=>simp only[Cf,if_false];exact ih
  unfold Oe;rw[<-ff];exact this.2
 cases e:Oe w with
 |nil=>rw[e]at h;cases h
 |cons p L=>rw[e]at h;cases h;exact ⟨L,rfl⟩
theorem sj{w:List (List Nat)}:best w∈ET w:=by
 obtain ⟨L,e⟩:=@Ro w
 have:best w∈Oe w:=by rw[e];exact AI
 exact (AJ.mp this).1
theorem lA:∀(L:List (List (Nat×Nat))) (r:List (Nat×Nat)),fm r L∈r::L
 |[],r=>AI
 |q::L,r=>by
  show fm (if r.length<q.length then q else r) L∈_
  split
  ·exact AG _ (lA L q)
  ·exact (Ak.mp (lA L r)).elim (fun z=>Ak.mpr (.inl z)) fun z=>AG _ (AG _ z)
theorem yo:∀(L:List (List (Nat×Nat))) (r:List (Nat×Nat)),∀m∈r::L,m.length<=(fm r L).length:=fun L r=>(M5 HW L r).1
theorem xr{s:House}{f:Nat}{l:List Nat}:fm [] (s.pairings f l)∈s.pairings f l/\∀m∈s.pairings f l,m.length<=(fm [] (s.pairings f l)).length:=by
 obtain ⟨L,e⟩:=Ib s f l;refine ⟨?_,fun m hm=>yo _ _ m (AG _ hm)⟩
 have:=lA (s.pairings f l) []
 rcases Ak.mp this with z|z
 ·rw[z,e];exact AI
 ·exact z
theorem Ic(s:House):∀(f f':Nat) (l:List Nat),l.length<f->l.length<f'->s.pairings f l=s.pairings f' l
 |0,_,l,h,_=>by omega
 |_+1,0,l,_,h=>by omega
 |f+1,f'+1,[],_,_=>rfl
 |f+1,f'+1,a::l,h,h'=>by
  rw[BC]at h h';show s.pairings f l++_=s.pairings f' l++_;rw[Ic s f f' l (by omega) (by omega)]
  congr 1
  refine Dy fun b _=>?_
  have hl:=Ax (fun x=>x != b) l;rw[Ic s f f' (l.filter fun x=>x != b) (by omega) (by omega)]
theorem Gj(s:House){a:Nat}:∀(f:Nat) (l:List Nat),l.Nodup->l.length<f->∀m,(m∈s.pairings f (l.filter fun x=>x != a) ↔ m∈s.pairings f l/\∀t∈m,t.1≠a/\t.2≠a)
 |0,l,_,h=>by omega
 |f+1,[],_,_=>fun m=>by
  show m∈[[]] ↔ m∈[[]]/\_;constructor
  ·intro h;refine ⟨h,fun t ht=>?_⟩;rw[A3.mp h]at ht;exact nomatch ht
  ·exact fun h=>h.1
 |f+1,x::l,nd,hl=>fun m=>by
  rw[BC]at hl;obtain ⟨hx,nd'⟩:=Bt.mp nd
  by_cases e:x=a
  ·subst e;have ef:((x::l).filter fun y=>y != x)=l:=by
    rw[Bm,if_neg (by simp)];exact BZ.mpr fun y hy=>by
     have:y≠x:=fun z=>hx (z ▸ hy)
     simpa using this
   rw[ef,Ic s (f+1) f l (by omega) (by omega)];constructor
   ·intro h;refine ⟨DQ _ h,fun t ht=>?_⟩;obtain ⟨h1,h2⟩:=Jg s f l m h t ht;exact ⟨fun z=>hx (z ▸ h1),fun z=>hx (z ▸ h2)⟩
   ·rintro ⟨h,h2⟩;rcases BN.mp h with h|h
    ·exact h
    ·obtain ⟨b,_,h⟩:=Bz.mp h;obtain ⟨r,_,rfl⟩:=BE.mp h;exact absurd rfl (h2 (x,b) AI).1
  ·have ef:((x::l).filter fun y=>y != a)=x::l.filter fun y=>y != a:=by rw[Bm,if_pos (by simpa using e)]
   rw[ef];have ih:=Gj s (a:=a) f l nd' (by omega);constructor
   ·intro h;rcases BN.mp h with h|h
    ·obtain ⟨h1,h2⟩:=(ih m).mp h;exact ⟨DQ _ h1,h2⟩
    ·obtain ⟨b,hb,h⟩:=Bz.mp h;obtain ⟨r,hr,rfl⟩:=BE.mp h;obtain ⟨hb1,hb2⟩:=AJ.mp hb;obtain ⟨hb3,hb4⟩:=AJ.mp hb1;have ec:((l.filter fun y=>y != a).filter fun y=>y != b)=(l.filter fun y=>y != b).filter fun y=>y != a:=by
      rw[B6,B6];exact BO fun y _=>JA _ _
     rw[ec]at hr;have hlb:=Ax (fun y=>y != b) l;obtain ⟨h1,h2⟩:=(Gj s (a:=a) f (l.filter fun y=>y != b) (Ct _ nd') (by omega) r).mp hr;refine ⟨CD _ (Bz.mpr ⟨b,AJ.mpr ⟨hb3,hb2⟩,BE.mpr ⟨r,h1,rfl⟩⟩),fun t ht=>?_⟩;rcases Ak.mp ht with rfl|ht
     ·exact ⟨e,by simpa using hb4⟩
     ·exact h2 t ht
   ·rintro ⟨h,h2⟩;rcases BN.mp h with h|h
    ·exact DQ _ ((ih m).mpr ⟨h,h2⟩)
    ·obtain ⟨b,hb,h⟩:=Bz.mp h;obtain ⟨r,hr,rfl⟩:=BE.mp h;obtain ⟨hb1,hb2⟩:=AJ.mp hb;have hba:=(h2 (x,b) AI).2;have ec:((l.filter fun y=>y != a).filter fun y=>y != b)=(l.filter fun y=>y != b).filter fun y=>y != a:=by
      rw[B6,B6];exact BO fun y _=>JA _ _
     have hlb:=Ax (fun y=>y != b) l
     have:=(Gj s (a:=a) f (l.filter fun y=>y != b) (Ct _ nd') (by omega) r).mpr ⟨hr,fun t ht=>h2 t (AG _ ht)⟩
     refine CD _ (Bz.mpr ⟨b,AJ.mpr ⟨AJ.mpr ⟨hb1,by simpa using hba⟩,hb2⟩,BE.mpr ⟨r,?_,rfl⟩⟩);rw[ec];exact this
theorem nX(s:House){w:List (List Nat)}(W:Eg w)(hw:s.wish=w){l:List Nat}(hl:∀x∈l,x<w.length)(f:Nat)(hf:l.length<f):N5 (Aq s) l=(fm [] (s.pairings f l)).length:=by
 unfold N5 N4;rw[QZ s (fun a b _ _=>OZ s W hw a b) (l.length+1) l (by subst hw;exact hl),Ic s (l.length+1) f l (by omega) hf]
theorem cN{n:Nat}:∀{m:List (Nat×Nat)},Sep n m->∀{a:Nat},BD m a=a->∀t∈m,t.1≠a/\t.2≠a
 |[],_,_,_=>fun t ht=>nomatch ht
 |q::m,h,a,e=>by
  rw[V1]at e;obtain ⟨h1,h2,h3,h4,h5⟩:=h
  by_cases c1:q.1=a
  ·rw[if_pos c1]at e;omega
  ·rw[if_neg c1]at e
   by_cases c2:q.2=a
   ·rw[if_pos c2]at e;exact absurd e c1
   ·rw[if_neg c2]at e;intro t ht;rcases Ak.mp ht with rfl|ht
    ·exact ⟨c1,c2⟩
    ·exact cN h5 e t ht
open Km464 (House)
def pE(w:List (List Nat)):List Nat:=(AF w.length).filter fun a=>(Oe w).any fun p=>decide (A6 p a=a)
theorem Qc(s:House){w:List (List Nat)}(hw:s.wish=w){m:List (Nat×Nat)}{a:Nat}(ha:a<w.length):A6 (Bs s m) a=BD m a:=by
 subst hw
 have:=G8 s.many (BD m) a
 rw[if_pos (show a<s.many from ha)]at this;exact this
theorem yp(s:House){w:List (List Nat)}(W:Eg w)(hw:s.wish=w):pE w=XZ (Aq s) s.all:=by
 have eall:s.all=AF w.length:=by subst hw;rfl
 have emany:s.many=w.length:=by subst hw;rfl
 unfold pE XZ;rw[eall];refine BO fun a ha=>?_
 have ha:=Ah.mp ha;have hb:=(fE s W hw).2;rw[eall]at hb;have hl:∀x∈AF w.length,x<w.length:=fun x hx=>Ah.mp hx
 have hl2:∀x∈(AF w.length).filter (fun x=>x != a),x<w.length:=fun x hx=>hl x (AJ.mp hx).1
 have lf:=Ax (fun x=>x != a) (AF w.length);rw[BW]at lf;have s1:=nX s W hw hl (w.length+1) (by rw[BW];omega);have s2:=nX s W hw hl2 (w.length+1) (by omega);have key:=Gj s (a:=a) (w.length+1) (AF w.length) Cq (by rw[BW];omega);have i1:=@xr s (w.length+1) (AF w.length);have i2:=@xr s (w.length+1) ((AF w.length).filter fun x=>x != a);have sep:∀{m},m∈s.pairings (w.length+1) (AF w.length)->Sep w.length m:=fun {m} hm=>Xc s hw (by rw[emany,eall];exact hm)
 have ev:ET w=(s.pairings (w.length+1) (AF w.length)).map (Bs s):=by
  rw[J3 s hw];unfold Dv;rw[emany,eall]
 rw[C4,D4,beq_iff_eq];constructor
 ·rintro ⟨p,hp,e⟩;have e:A6 p a=a:=by simpa using e
  obtain ⟨h1,h2⟩:=AJ.mp hp;rw[ev]at h1;obtain ⟨m,hm,rfl⟩:=BE.mp h1;have h2:cnt (Bs s m)=cnt (best w):=by simpa using h2
  rw[M0 s hw (sep hm),hb,s1]at h2;rw[Qc s hw ha]at e;have hm2:=(key m).mpr ⟨hm,cN (sep hm) e⟩;have l1:=i2.2 m hm2;have l2:=i1.2 _ ((key _).mp i2.1).1;rw[s1,s2];omega
 ·intro e;rw[s1,s2]at e;obtain ⟨h1,h2⟩:=(key _).mp i2.1;refine ⟨Bs s (fm [] (s.pairings (w.length+1) ((AF w.length).filter fun x=>x != a))),AJ.mpr ⟨by rw[ev];exact BE.mpr ⟨_,h1,rfl⟩,?_⟩,?_⟩
  ·rw[M0 s hw (sep h1),hb,s1,e];simp
  ·rw[Qc s hw ha,Rk h2];simp
theorem YI{d:Dk}(D:E7 d)(h:holding d.now.1=[]):d.AU.now.good=[]:=by
 rw[<-Xd d.AU.now D.now.w rfl]at h;exact Jy.mp h
theorem Uo{d:Dk}(D:E7 d){p:List Nat}{L:List (List Nat)}(h:holding d.now.1=p::L):∃m M,d.AU.now.good=m::M/\Bs d.AU.now m=p/\M.map (Bs d.AU.now)=L/\cnt p=m.length:=by
 rw[<-Xd d.AU.now D.now.w rfl]at h;cases e:d.AU.now.good with
 |nil=>rw[e]at h;cases h
 |cons m M =>
  rw[e,Az,m9]at h;refine ⟨m,M,rfl,h.1,h.2,?_⟩;rw[<-h.1,M0 d.AU.now rfl (iM d.AU.now (w:=d.now.1) rfl (by rw[e];exact AI))]
theorem ia{d:Dk}(D:E7 d)(h:holding d.now.1=[]):Ag d.AU .lost=(d.AU,BK (-33)):=by
 show (d.AU,match d.AU.now.good with | []=>_|m::_=>_)=_;rw[YI D h]
theorem sk{d:Dk}(D:E7 d){p:List Nat}{L:List (List Nat)}(h:holding d.now.1=p::L):Ag d.AU .lost=(d.AU,⟨(cnt (best d.now.1):Int)-(cnt p:Int),[cnt p]⟩):=by
 obtain ⟨m,M,e,_,_,ec⟩:=Uo D h;have hp:p∈ET d.now.1:=(AJ.mp (show p∈holding d.now.1 by rw[h];exact AI)).1;have hle:=YH.1 p hp;show (d.AU,match d.AU.now.good with | []=>_|m::_=>_)=_;rw[e];show (d.AU,(⟨((N5 (Aq d.AU.now) d.AU.now.all-m.length:Nat):Int),[m.length]⟩:EZ))=_;rw[<-(fE d.AU.now D.now.w rfl).2,<-ec]
 have:((cnt (best d.now.1)-cnt p:Nat):Int)=(cnt (best d.now.1):Int)-(cnt p:Int):=by omega
 rw[<-this]
theorem wA{d:Dk}(D:E7 d):Ag d.AU .why=(d.AU,⟨Od d.now.1 (J5 (Od d.now.1) (Eb d.now.1.length)),[J5 (Od d.now.1) (Eb d.now.1.length)]⟩):=by
 obtain ⟨h1,h2⟩:=yn d.AU.now D.now.w rfl;show (d.AU,(⟨((Gw (Aq d.AU.now) d.AU.now.all (Q7 (Aq d.AU.now) d.AU.now.all):Nat):Int),[Ek (Q7 (Aq d.AU.now) d.AU.now.all)]⟩:EZ))=_;rw[<-h2,<-h1]
theorem wB{d:Dk}(D:E7 d):Ag d.AU .may=(d.AU,⟨((pE d.now.1).length:Int),[Ek (pE d.now.1)]⟩):=by
 show (d.AU,(⟨(((XZ (Aq d.AU.now) d.AU.now.all).length:Nat):Int),[Ek (XZ (Aq d.AU.now) d.AU.now.all)]⟩:EZ))=_;rw[<-yp d.AU.now D.now.w rfl]
def fO(w:List (List Nat)):List (List Nat):=(ET w).filter fun p => !((ET w).any fun q=>decide (glad w p q<glad w q p))
theorem so{d:Dk}(D:E7 d):Ag d.AU .good=(d.AU,⟨((holding d.now.1).length:Int),[(fO d.now.1).length,(ET d.now.1).length]⟩):=by
 show (d.AU,(⟨((d.AU.now.good.length:Nat):Int),[((Dv d.AU.now).filter fun p=>Hy d.AU.now p == []).length,(Dv d.AU.now).length]⟩:EZ))=_;rw[<-J3 d.AU.now (w:=d.now.1) rfl,<-Xd d.AU.now D.now.w rfl,AB];have e:(ET d.now.1).filter (fun p=>Hy d.AU.now p == [])=fO d.now.1:=by
  unfold fO;refine BO fun p hp=>?_
  rw[<-fB d.AU.now D.now.w rfl (FJ D.now.w hp),C4,beq_iff_eq];unfold iN;rw[Dc,Vz,<-vG,D4];constructor
  ·rintro h ⟨q,hq,z⟩;exact h q hq z
  ·intro h q hq z;exact h ⟨q,hq,z⟩
 rw[e]
theorem YJ{n:Nat}{l:List Nat}(h:l.length<=n):Sk n l=l++Ac (n-l.length) 0:=by
 unfold Sk;rw[Fn h]
theorem pF{d:Dk}(D:E7 d){q:List Nat}{L:List (List Nat)}(h:LS d.now.1=q::L):Ag d.AU .rings=(d.AU,⟨(((AF q.length).filter (k8 q)).length:Int),(q.map fun x=>x+1)++Ac (6-q.length) 0⟩):=by
 have ht:=iX d.AU.now D.now.w rfl h;have hm:q∈Gr d.now.1 d.now.1.length:=(AJ.mp (show q∈LS d.now.1 by rw[h];exact AI)).1;have pm:=YC hm;show (d.AU,(⟨(((aY d.AU.now.told).length:Nat):Int),Sk Ei (d.AU.now.told.map fun b=>b+1)⟩:EZ))=_;rw[ht,ym pm D.now.w.len,YJ (by rw[AB,pm.len];exact D.now.w.len),AB];rfl
theorem fP{d:Dk}(D:E7 d)(h:holding d.now.1=[]):Ag d.AU .alone=(d.AU,BK (-33)):=by
 show (d.AU,match d.AU.now.good with | []=>_|m::_=>_)=_;rw[YI D h]
def Up(p:List Nat):List Nat:=(AF p.length).filter fun a=>decide (A6 p a=a)
theorem pG{d:Dk}(D:E7 d){p:List Nat}{L:List (List Nat)}(h:holding d.now.1=p::L):Ag d.AU .alone=(d.AU,⟨((Up p).length:Int),[Ek (Up p)]⟩):=by
 obtain ⟨m,M,e,ea,_,_⟩:=Uo D h;have Pk:=FX D.now.w (show p∈holding d.now.1 by rw[h];exact AI);show (d.AU,match d.AU.now.good with | []=>_|m::_=>_)=_;rw[e];show (d.AU,(⟨(((d.AU.now.all.filter fun a=>BD m a==a).length:Nat):Int),[Ek (d.AU.now.all.filter fun a=>BD m a==a)]⟩:EZ))=_;have e2:(d.AU.now.all.filter fun a=>BD m a==a)=Up p:=by
  unfold Up;rw[Pk.len];show (AF d.now.1.length).filter _=_;refine BO fun a ha=>?_
  rw[<-ea,Qc d.AU.now (w:=d.now.1) rfl (Ah.mp ha)];rfl
 rw[e2]
theorem a5(d:Dk){a:Nat}(h:d.now.1.length<=a):Ag d.AU (.best a)=(d.AU,BK (-2)):=by
 show (d.AU,if d.now.1.length<=a then _ else _)=_;rw[if_pos h]
theorem ib{d:Dk}(D:E7 d){a:Nat}(h0:¬d.now.1.length<=a)(h:holding d.now.1=[]):Ag d.AU (.best a)=(d.AU,BK (-33)):=by
 show (d.AU,if d.now.1.length<=a then _ else match d.AU.now.good with | []=>_|m::l=>_)=_;rw[if_neg h0,YI D h]
def ic(k:Nat->Int):List Nat->Nat
 |[]=>0
 |x::xs=>xs.foldl (fun r t=>if k t<k r then t else r) x
theorem sq{d:Dk}(D:E7 d){a:Nat}(h0:¬d.now.1.length<=a){p:List Nat}{L:List (List Nat)}(h:holding d.now.1=p::L) :
  Ag d.AU (.best a)=(d.AU,BK (ic (fun x=>(rk d.now.1 a x:Int)) ((holding d.now.1).map fun p=>A6 p a):Int)):=by
 obtain ⟨m,M,e,ea,eL,_⟩:=Uo D h;have ha:a<d.now.1.length:=by omega
 show (d.AU,if d.now.1.length<=a then _ else match d.AU.now.good with | []=>_|m::l=>_)=_;rw[if_neg h0,e];show (d.AU,BK (((M.foldl (fun r q=>if st d.now.1 a (BD q a)<st d.now.1 a r then BD q a else r) (BD m a)):Nat):Int))=_;have C2:∀p∈holding d.now.1,Uh d.now.1 a (A6 p a):=fun p hp=>Ss (FX D.now.w hp) a
 rw[h]at C2 ⊢;rw[Az];show _=(d.AU,BK (((L.map fun p=>A6 p a).foldl (fun r t=>if (rk d.now.1 a t:Int)<(rk d.now.1 a r:Int) then t else r) (A6 p a):Nat):Int));have go:∀(M:List (List (Nat×Nat))) (r:Nat),Uh d.now.1 a r->(∀m∈M,Uh d.now.1 a (A6 (Bs d.AU.now m) a)) ->
   M.foldl (fun r q=>if st d.now.1 a (BD q a)<st d.now.1 a r then BD q a else r) r=((M.map (Bs d.AU.now)).map fun p=>A6 p a).foldl (fun r t=>if (rk d.now.1 a t:Int)<(rk d.now.1 a r:Int) then t else r) r:=by
  intro M
  induction M with
  |nil=>intro r _ _;rfl
  |cons q M ih =>
   intro r hr hM;rw[Az,Az,BI,BI,Qc d.AU.now (w:=d.now.1) rfl ha];have hq:=hM q AI;rw[Qc d.AU.now (w:=d.now.1) rfl ha]at hq
   have:=nJ D.now.w hq hr
   have hM':∀m∈M,Uh d.now.1 a (A6 (Bs d.AU.now m) a):=fun m hm=>hM m (AG _ hm)
   by_cases c:st d.now.1 a (BD q a)<st d.now.1 a r
   ·have c2:rk d.now.1 a (BD q a)<rk d.now.1 a r:=of_decide_eq_true (this.trans (decide_eq_true c));rw[if_pos c,if_pos (by omega)];exact ih _ hq hM'
   ·have c2:¬rk d.now.1 a (BD q a)<rk d.now.1 a r:=of_decide_eq_false (this.trans (decide_eq_false c));rw[if_neg c,if_neg (by omega)];exact ih _ hr hM'
 have hp:BD m a=A6 p a:=by rw[<-ea,Qc d.AU.now (w:=d.now.1) rfl ha]
 rw[hp,go M (A6 p a) (C2 p AI) (fun x hx=>C2 _ (AG _ (by rw[<-eL];exact BE.mpr ⟨x,hx,rfl⟩))),eL]
theorem a6{d:Dk}(D:E7 d){k:Nat}(h:(holding d.now.1)[k]?=none):Ag d.AU (.rather k)=(d.AU,BK (-2)):=by
 rw[Xg D]at h;have h:d.AU.now.good[k]?=none:=by
  cases e:d.AU.now.good[k]? with
  |none=>rfl
  |some m=>rw[e]at h;cases h
 show (d.AU,match d.AU.now.good[k]? with|none=>_|some m=>_)=_;rw[h]
theorem lC{d:Dk}(D:E7 d){k:Nat}{p:List Nat}(h:(holding d.now.1)[k]?=some p):Ag d.AU (.rather k)=(d.AU,⟨(glad d.now.1 p d.now.2:Int),[glad d.now.1 d.now.2 p]⟩):=by
 have Pp:=FX D.now.w (Ar h);rw[Xg D]at h;cases e:d.AU.now.good[k]? with
 |none=>rw[e]at h;cases h
 |some m =>
  rw[e]at h;have h:Bs d.AU.now m=p:=Al h;show (d.AU,match d.AU.now.good[k]? with|none=>_|some m=>_)=_;rw[e];show (d.AU,(⟨((Uc d.AU.now (Bd d.AU.now) (Bs d.AU.now m):Nat):Int),[Uc d.AU.now (Bs d.AU.now m) (Bd d.AU.now)]⟩:EZ))=_;rw[h,Ey D,<-QY d.AU.now (w:=d.now.1) D.now.w rfl Pp D.now.p,<-QY d.AU.now (w:=d.now.1) D.now.w rfl D.now.p Pp]
theorem TK{d:Dk}(D:E7 d)(h:L8 d.now.1 d.now.2=[]):Ag d.AU .breakers=(d.AU,⟨0,[0,0]⟩):=by
 show (d.AU,match Eh d.AU.now (Bd d.AU.now) with | []=>_|p::l=>_)=_;rw[Ey D,<-My D.now.w D.now.p d.AU.now rfl,h]
theorem fQ{d:Dk}(D:E7 d){q:Nat×Nat}{l:List (Nat×Nat)}(h:L8 d.now.1 d.now.2=q::l):Ag d.AU .breakers=(d.AU,⟨((q::l).length:Int),[q.1,q.2]⟩):=by
 show (d.AU,match Eh d.AU.now (Bd d.AU.now) with | []=>_|p::l=>_)=_;rw[Ey D,<-My D.now.w D.now.p d.AU.now rfl,h];rfl
theorem a7(d:Dk){a:Nat}(h:d.now.1.length<=a):Ag d.AU (.with_ a)=(d.AU,BK (-2)):=by
 show (d.AU,if d.now.1.length<=a then _ else _)=_;rw[if_pos h]
theorem ie{d:Dk}(D:E7 d){a:Nat}(h:¬d.now.1.length<=a)(h2:A6 d.now.2 a=a):Ag d.AU (.with_ a)=(d.AU,BK (-6)):=by
 show (d.AU,if d.now.1.length<=a then _ else if BD d.AU.now.paired a=a then _ else _)=_;rw[if_neg h,Gi D,if_pos h2]
theorem sr{d:Dk}(D:E7 d){a:Nat}(h:¬d.now.1.length<=a)(h2:¬A6 d.now.2 a=a):Ag d.AU (.with_ a)=(d.AU,BK (A6 d.now.2 a:Int)):=by
 show (d.AU,if d.now.1.length<=a then _ else if BD d.AU.now.paired a=a then _ else _)=_;rw[if_neg h,Gi D,if_neg h2]
theorem a8(d:Dk){a:Nat}(h:d.now.1.length<=a):Ag d.AU (.look a)=(d.AU,BK (-2)):=by
 show (d.AU,if d.now.1.length<=a then _ else _)=_;rw[if_pos h]
theorem su{d:Dk}(D:E7 d){a:Nat}(h:¬d.now.1.length<=a):Ag d.AU (.look a)=(d.AU,⟨((wl d.now.1 a).length:Int),((wl d.now.1 a).map fun b=>b+1)++Ac (5-(wl d.now.1 a).length) 0⟩):=by
 have h5:=nH D.now.w (a:=a) (by omega);have h6:=D.now.w.len;show (d.AU,if d.now.1.length<=a then _ else (⟨(((wl d.now.1 a).length:Nat):Int),Sk 5 ((wl d.now.1 a).map fun b=>b+1)⟩:EZ))=_;rw[if_neg h,YJ (by rw[AB];omega),AB]
theorem wC{d:Dk}(D:E7 d):Ag d.AU .all_=(d.AU,⟨(cnt d.now.2:Int),Ga d.AU.now d.now.2⟩):=by
 show (d.AU,(⟨((d.AU.now.paired.length:Nat):Int),Ga d.AU.now (Bd d.AU.now)⟩:EZ))=_;rw[V4,Ey D]
theorem ig(d:Dk)(h:d.past=[]):Ag d.AU .back=(d.AU,BK (-2)):=by
 show (match d.past.map hS with | []=>_|k::r=>_)=_;rw[h];rfl
theorem sv(d:Dk){x:S}{r:List S}(h:d.past=x::r):Ag d.AU .back=((⟨x,r,d.now::d.X7⟩:Dk).AU,BK (r.length:Int)):=by
 show (match d.past.map hS with | []=>_|k::r=>_)=_;rw[h];show ((⟨hS x,r.map hS,hS d.now::d.X7.map hS⟩:oe),BK (((r.map hS).length:Nat):Int))=_;rw[AB];rfl
theorem wD{d:Dk}(D:E7 d){x:S}{r:List S}(h:d.past=x::r):E7 ⟨x,r,d.now::d.X7⟩:=by
 have hp:=D.past;have hr:=D.room;rw[h]at hp hr;refine ⟨hp x AI,fun y hy=>hp y (AG _ hy),fun y hy=>?_,by rw[BC]at hr;show r.length+(d.X7.length+1)<=20;omega⟩;rcases Ak.mp hy with rfl|hy
 ·exact D.now
 ·exact D.X7 y hy
theorem fR(d:Dk)(h:d.X7=[]):Ag d.AU .again=(d.AU,BK (-2)):=by
 show (match d.X7.map hS with | []=>_|k::r=>_)=_;rw[h];rfl
theorem pH{d:Dk}(D:E7 d){x:S}{r:List S}(h:d.X7=x::r):Ag d.AU .again=((⟨x,d.now::d.past,r⟩:Dk).AU,BK (r.length:Int)):=by
 have hr:=D.room;rw[h,BC]at hr;show (match d.X7.map hS with | []=>_|k::r=>_)=_;rw[h];show ((⟨hS x,(hS d.now::d.past.map hS).take 20,r.map hS⟩:oe),BK (((r.map hS).length:Nat):Int))=_;rw[AB,Fn (by rw[BC,AB];omega)];rfl
theorem sy{d:Dk}(D:E7 d){x:S}{r:List S}(h:d.X7=x::r):E7 ⟨x,d.now::d.past,r⟩:=by
 have hp:=D.X7;have hr:=D.room;rw[h]at hp hr;refine ⟨hp x AI,fun y hy=>?_,fun y hy=>hp y (AG _ hy),by rw[BC]at hr;show d.past.length+1+r.length<=20;omega⟩;rcases Ak.mp hy with rfl|hy
 ·exact D.now
 ·exact D.past y hy
theorem pJ(d:Dk):Ag d.AU .state=(d.AU,⟨(d.now.1.length:Int),[d.past.length,d.X7.length]⟩):=by
 show (d.AU,(⟨((d.now.1.length:Nat):Int),[(d.past.map hS).length,(d.X7.map hS).length]⟩:EZ))=_;rw[AB,AB]
open Km464 (House)
def Dn:Nat->Nat->Nat
 |0,_=>1
 |m+1,k=>k*Dn m (k-1)
theorem ij{n:Nat}:∀(m:Nat) (pre:List Nat),pre.Nodup->(∀x∈pre,x<n)->(M4 n m pre).length<=Dn m (n-pre.length)
 |0,pre,_,_=>by simp[M4,Dn]
 |m+1,pre,nd,lt=>by
  have hc:((AF n).filter fun x => !pre.contains x).length<=n-pre.length:=by
   have nd2:(pre++(AF n).filter fun x => !pre.contains x).Nodup:=DA.mpr ⟨nd,Ct _ Cq,fun a ha b hb e=>by
    have:=(AJ.mp hb).2
    have hn:b ∉ pre:=by simpa using this
    exact hn (e ▸ ha)⟩
   have:=Jq n _ nd2 fun x hx=>(BN.mp hx).elim (lt x) fun z=>Ah.mp (AJ.mp z).1
   rw[Ab]at this;omega
  show (((AF n).filter fun x => !pre.contains x).flatMap fun x=>M4 n m (pre++[x])).length<=(n-pre.length)*Dn m (n-pre.length-1);refine AY (GK _ (Dn m (n-pre.length-1)) _ fun x hx=>?_) (Jb _ hc);obtain ⟨h1,h2⟩:=AJ.mp hx;have hn:x ∉ pre:=by simpa using h2
  have:=ij m (pre++[x]) (DA.mpr ⟨nd,by simp,fun a ha b hb e=>hn (by rw[A3.mp hb]at e;exact e ▸ ha)⟩) (fun y hy=>(BN.mp hy).elim (lt y) fun z=>by rw[A3.mp z];exact Ah.mp h1)
  rw[Ab,Du]at this;rw[show n-pre.length-1=n-(pre.length+1) by omega];exact this
theorem pK{w:List (List Nat)}(W:Eg w):(Gr w w.length).length<=1000:=by
 rw[X9,K6 w w.length [] C3 (fun x hx=>nomatch hx)];refine AY (Ax _ _) (AY (ij w.length [] C3 (fun x hx=>nomatch hx)) ?_);have h6:=W.len;rw[DJ,ko]
 have:∀k,k<=6->Dn k k<=1000:=by decide
 exact this _ h6
theorem cO{w:List (List Nat)}(W:Eg w):∀k,(Gr w k).length<=6 ^ k
 |0=>by simp[Gr]
 |k+1=>by
  have h6:=W.len;show ((Gr w k).flatMap (HY w)).length<=_;rw[W0];refine AY (GK _ 6 _ fun x _=>?_) (Jb _ (cO W k));unfold HY;rw[AB];exact AY (Ax _ _) (by simpa using h6)
theorem cP{w:List (List Nat)}:∀(k:Nat),∀p∈Gr w k,p.length=k/\∀x∈p,x<w.length
 |0,p,h=>by
  have:p=[]:=by simpa [Gr] using h
  subst this;exact ⟨rfl,fun x hx=>nomatch hx⟩
 |k+1,p,h=>by
  obtain ⟨q,hq,hp⟩:=Bz.mp (show p∈(Gr w k).flatMap (HY w) from h);obtain ⟨x,hx,rfl⟩:=BE.mp hp;obtain ⟨a1,a2⟩:=cP k q hq;refine ⟨by rw[Ab,a1];rfl,fun y hy=>?_⟩;rcases BN.mp hy with hy|hy
  ·exact a2 y hy
  ·rw[A3.mp hy];exact Ah.mp (AJ.mp hx).1
def ik(q:List Nat):Nat->List Nat
 |0=>q
 |i+1=>(ik q i).set (A6 q i) i
theorem Of(q:List Nat):∀i,(ik q i).length=q.length
 |0=>rfl
 |i+1=>by show ((ik q i).set _ _).length=_;rw[B7,Of q i]
theorem il{n:Nat}{q:List Nat}(h:Pm n q):∀(i:Nat),i<=n->∀x,x<n->A6 (ik q i) x=if RD q x<i then RD q x else A6 q x
 |0,_,x,hx=>by rw[if_neg (xY _)];rfl
 |i+1,hi,x,hx=>by
  show A6 ((ik q i).set (A6 q i) i) x=_;rw[QW,Of,h.len,il h i (by omega) x hx]
  by_cases e:A6 q i=x
  ·rw[if_pos ⟨e,hx⟩,<-e,h.Qb (by omega),if_pos (JD _)]
  ·rw[if_neg (fun z=>e z.1)];have ne:RD q x≠i:=fun z=>e (by rw[<-z];exact (h.Xh hx).1)
   by_cases l:RD q x<i
   ·rw[if_pos l,if_pos (by omega)]
   ·rw[if_neg l,if_neg (by omega)]
theorem pL{n:Nat}{q:List Nat}(h:Pm n q):ik q n=Uk q:=by
 refine IZ (by rw[Of];unfold Uk;simp) fun x hx=>?_
 rw[Of,h.len]at hx;rw[il h n (AV _) x hx,if_pos (h.Xh hx).2,TC h hx]
def Parsed(p:Int)(r tl:List Int)(c:List (List Int))(n:Nat)(b:Bool):Prop:=∃as r',r=as++r'/\as.length=n /\
 ((b=false/\tl=r'/\c=[p::as])\/(b=true/\∃m r2,r'=m::r2/\0<=m/\m.toNat<=r2.length/\tl=r2.drop m.toNat/\c=[p::as,r2.take m.toNat]))
theorem Js{p:Int}{r tl:List Int}{c:List (List Int)}{n:Nat}{b:Bool}(hs:Bp p=some (n,if b=true then 1 else 0))(h:EV Bp (p::r)=some (c,tl)):Parsed p r tl c n b:=by
 simp only[EV]at h;rw[hs]at h;simp only at h
 split at h
 ·cases h
 rename_i hl;have e:r=r.take n++r.drop n:=(QT n r).symm;refine ⟨r.take n,r.drop n,e,by rw[B0];omega,?_⟩;cases b with
 |false =>
  simp only[Cf,if_false]at h;unfold kc at h;simp only at h;injection h with h
  injection h with h1 h2
  exact .inl ⟨rfl,h2.symm,h1.symm⟩
 |true =>
  simp only[if_true]at h;unfold kc at h;refine .inr ⟨rfl,?_⟩;cases hd:r.drop n with
  |nil =>
   rw[hd]at h;simp only[AAD]at h;cases h
  |cons m r2 =>
   rw[hd]at h;simp only[AAD]at h
   by_cases hm:0<=m/\m.toNat<=r2.length
   ·rw[if_pos hm]at h;simp only[kc]at h;injection h with h
    injection h with h1 h2
    exact ⟨m,r2,rfl,hm.1,hm.2,h2.symm,h1.symm⟩
   ·rw[if_neg hm]at h;simp only at h;cases h
theorem lD{f:Nat}{p:Int}{r:List Int}{cs:List (List (List Int))}(h:E6 Bp f (p::r)=some cs):∃c tl cs' f',EV Bp (p::r)=some (c,tl)/\E6 Bp f' tl=some cs'/\cs=c::cs':=by
 cases f with
 |zero=>simp only[E6]at h;cases h
 |succ f =>
  unfold E6 at h;cases e:EV Bp (p::r) with
  |none=>rw[e]at h;cases h
  |some ct =>
   obtain ⟨c,tl⟩:=ct;rw[e]at h;simp only at h;cases e2:E6 Bp f tl with
   |none=>rw[e2]at h;cases h
   |some cs' =>
    rw[e2]at h;injection h with h
    exact ⟨c,tl,cs',f,rfl,e2,h.symm⟩
theorem pM{f:Nat}{cs:List (List (List Int))}(h:E6 Bp f []=some cs):cs=[]:=by
 cases f<;>(simp only[E6]at h;injection h with h;exact h.symm)
def Rs(s:Mq)(d:Dk):Prop:=s=some d.AU\/(s=none/\d.AU=Km465.fresh 0)
theorem ACG:Rs OK (opened 0):=.inr ⟨rfl,rfl⟩
theorem wG{s:Mq}{d:Dk}{c:List (List Int)}{x:El}(R:Rs s d)(hc:GC c=some x)(hne:(B2 s c).2.isEmpty=false) :
  (B2 s c).2=JW (Ag d.AU x).2/\∀d':Dk,(Ag d.AU x).1=d'.AU->Rs (B2 s c).1 d':=by
 rcases R with rfl|⟨rfl,h0⟩
 ·unfold B2;rw[hc];exact ⟨rfl,fun d' e=>.inl (congrArg some e)⟩
 ·unfold B2 at hne ⊢;rw[hc]at hne ⊢;simp only at hne ⊢;cases hi:ABm x with
  |false =>
   rw[hi]at hne;simp only[Cf,if_false]at hne;cases hne
  |true =>
   simp only[if_true];rw[h0];refine ⟨rfl,fun d' e=>?_⟩;cases x with
   |start n =>
    by_cases h6:6<n
    ·have ha:=Sz d h6;rw[h0]at ha;rw[ha]at e ⊢;exact .inr ⟨if_pos (by show (-22:Int)<0;decide),e.symm⟩
    ·have ha:=b8 d h6;rw[h0]at ha;rw[ha]at e ⊢;refine .inl ?_;rw[if_neg (by show ¬(0:Int)<0;decide),e]
   |_=>cases hi
theorem tD{s:Mq}{c:List (List Int)}{l:List (List (List Int))}(h:HV s (c::l)=true):(B2 s c).2.isEmpty=false/\HV (B2 s c).1 l=true:=by
 unfold HV at h;rw[BB]at h;refine ⟨?_,h.2⟩
 have:=h.1
 cases e:(B2 s c).2.isEmpty with
 |false=>rfl
 |true=>rw[e]at this;cases this
theorem pN(a:List Int)(l:List (List Int)):QU (a::l)=(a.length:Int)::a++QU l:=by
 unfold QU;rw[CA]
theorem tE{l:List Int}(h:Hz l=true):∃cs,E6 Bp l.length l=some cs/\(cs.map CF).all Ce=true/\HV OK (cs.map CF)=true/\Fi l=QU (Rh B2 OK (cs.map CF))/\(Fi l).length<=10000000:=by
 unfold Hz at h;cases e:E6 Bp l.length l with
 |none=>rw[e]at h;cases h
 |some cs =>
  rw[e]at h;simp only[BB]at h;obtain ⟨⟨⟨_,_⟩,h2⟩,h3⟩:=h;unfold ABn at h2;simp only[BB]at h2;obtain ⟨_,_,h4,h5⟩:=h2;refine ⟨cs,rfl,h4,h5,?_,of_decide_eq_true h3⟩;unfold Fi PyKm465.calls;rw[e]
end SH
namespace L2
open PySem PySem.Spec PyProof.Rows
abbrev Key:=Sum Int Str
def cQ:Key->Value->Bool
 |.inl k,v=>AAE k v
 |.inr x,v=>xZ x v
def ACH(w:World):Key->Int
 |.inl k=>hashInt k
 |.inr x=>hashStr w x
theorem Ez:∀{k:Key} {v:Value},cQ k v=true->(∃i t,k=Sh i/\v=Q8 i t)\/(∃x t,k=W2 x/\v=g7 x t)
 |.inl i,v,h=>by
  obtain ⟨t,e⟩:=Value.isInt_shape (k:=i) (v:=v) h;exact .inl ⟨i,t,rfl,e⟩
 |.inr x,v,h=>by
  obtain ⟨t,e⟩:=Value.isStrOf_shape (x:=x) (v:=v) h;exact .inr ⟨x,t,rfl,e⟩
theorem pO(i:Int)(t:Tok):cQ (.inl i) (.int i t)=true:=by simp[cQ,AAE]
theorem pP(x:Str)(t:Tok):cQ (.inr x) (.str x t)=true:=by simp[cQ,xZ]
theorem yq(a b:Int):decide ((Sh a:Key)=Sh b)=(a==b):=by
 by_cases e:a=b
 ·subst e;simp
 ·have h:¬(Sh a:Key)=Sh b:=fun q=>e (iB q)
  rw[decide_eq_false h];exact (beq_eq_false_iff_ne.mpr e).symm
theorem yr(a b:Str):decide ((W2 a:Key)=W2 b)=decide (a=b):=by
 by_cases e:a=b
 ·subst e;simp
 ·have h:¬(W2 a:Key)=W2 b:=fun q=>e (Sum.inr.inj q)
  rw[decide_eq_false h,decide_eq_false e]
theorem yt(a:Int)(b:Str):decide ((Sh a:Key)=W2 b)=false:=decide_eq_false (fun q=>nomatch q)
theorem yu(a:Str)(b:Int):decide ((W2 a:Key)=Sh b)=false:=decide_eq_false (fun q=>nomatch q)
def FI(prog:Program)(w:World):PySem.KeyKind prog w Key where
 is:=cQ
 hash:=ACH w
 inj:=fun v a b ha hb=>by
  rcases Ez ha with ⟨i,t,rfl,rfl⟩|⟨x,t,rfl,rfl⟩
  ·rcases Ez hb with ⟨j,u,rfl,e⟩|⟨y,u,rfl,e⟩
   ·injection e with e1 _;rw[e1]
   ·exact nomatch e
  ·rcases Ez hb with ⟨j,u,rfl,e⟩|⟨y,u,rfl,e⟩
   ·exact nomatch e
   ·injection e with e1 _;rw[e1]
 byValue:=fun k v h=>by
  rcases Ez h with ⟨i,t,rfl,rfl⟩|⟨x,t,rfl,rfl⟩<;>rfl
 pyHash:=fun hv h=>by
  rcases Ez hv with ⟨i,t,rfl,rfl⟩|⟨x,t,rfl,rfl⟩
  ·exact wpAny_pyHash_int h
  ·exact wpAny_pyHash_str h
 eqBool:=fun hu hv h=>by
  rcases Ez hu with ⟨i,t,rfl,rfl⟩|⟨x,t,rfl,rfl⟩
  ·rcases Ez hv with ⟨j,u,rfl,rfl⟩|⟨y,u,rfl,rfl⟩
   ·rw[yq]at h;exact wpAny_eqBool_int h
   ·rw[yt]at h;exact g8 i t y u _ _ _ _ h
  ·rcases Ez hv with ⟨j,u,rfl,rfl⟩|⟨y,u,rfl,rfl⟩
   ·rw[yu]at h;exact g9 x t j u _ _ _ _ h
   ·rw[yr]at h;exact wpAny_eqBool_str h
 «strs»:=fun k x t v h=>by
  rcases Ez h with ⟨i,u,rfl,e⟩|⟨y,u,rfl,e⟩
  ·exact nomatch e
  ·injection e with e1 _
   subst e1;cases v<;>rfl
theorem ip(prog:Program)(w:World)(i:Int)(t:Tok):(FI prog w).is (.inl i) (.int i t)=true:=pO i t
theorem iq(prog:Program)(w:World)(x:Str)(t:Tok):(FI prog w).is (.inr x) (.str x t)=true:=pP x t
end L2
namespace L2
open PySem PySem.Spec PyProof.Rows
inductive V where
 |Ft|bl (b:Bool)|int (i:Int)|str (x:Str)|a9 (b:Array UInt8)|yw (b:UInt64)|ref (a:Addr)|ty (n:String)
 deriving DecidableEq
def RelV:V->Value->Prop
 |.Ft,u=>u=HR
 |.bl b,u=>u=N7 b
 |.int i,u=>∃t,u=Q8 i t
 |.str x,u=>∃t,u=g7 x t
 |.a9 b,u=>∃t,u=AAF b t
 |.yw b,u=>∃t,u=AAG b t
 |.ref a,u=>u=CG a
 |.ty n,u=>u=Ge n
abbrev Vals:List V->List Value->Prop:=Paired RelV
theorem Vals.length{xs:List V}{us:List Value}(r:Vals xs us):xs.length=us.length:=AX r
theorem Vals.get:∀{xs:List V} {us:List Value} {i:Nat} {x:V},Vals xs us->xs[i]?=some x->∃u,us[i]?=some u/\RelV x u
 |_,_,_,_,.nil,e=>by simp at e
 |_,_,0,_,.cons r _,e=>by simp at e;subst e;exact ⟨_,rfl,r⟩
 |_,_,i+1,x,.cons _ t,e=>by
  obtain ⟨u,h1,h2⟩:=Vals.get (i:=i) (x:=x) t (by simpa using e);exact ⟨u,by simpa using h1,h2⟩
theorem Vals.set{x:V}{u:Value}(r:RelV x u):∀{xs:List V} {us:List Value} (i:Nat),Vals xs us->Vals (xs.set i x) (us.set i u)
 |_,_,_,.nil=>.nil
 |_,_,0,.cons _ t=>.cons r t
 |_,_,i+1,.cons q t=>.cons q (Vals.set r i t)
theorem Vals.append:∀{xs ys:List V} {us ws:List Value},Vals xs us->Vals ys ws->Vals (xs++ys) (us++ws)
 |_,_,_,_,.nil,s=>s
 |_,_,_,_,.cons r t,s=>.cons r (Vals.append t s)
theorem Vals.take:∀{xs:List V} {us:List Value} (n:Nat),Vals xs us->Vals (xs.take n) (us.take n)
 |_,_,0,_=>.nil
 |_,_,_+1,.nil=>.nil
 |_,_,n+1,.cons r t=>.cons r (Vals.take n t)
theorem Vals.drop:∀{xs:List V} {us:List Value} (n:Nat),Vals xs us->Vals (xs.drop n) (us.drop n)
 |_,_,0,r=>r
 |_,_,_+1,.nil=>.nil
 |_,_,n+1,.cons _ t=>Vals.drop n t
theorem Vals.none_of:∀{xs:List V} {us:List Value} {i:Nat},Vals xs us->xs[i]?=none->us[i]?=none:=fun {xs us i} r e=>by
 have h1:=r.length;have h2:xs.length<=i:=eS.mp e;exact eS.mpr (by omega)
def Q1:Option V->Option Value->Prop
 |some v,some u=>RelV v u
 |none,none=>True
 |_,_=>False
def KV{κ:Type}:List (κ×V)->List (κ×Value)->Prop:=Paired fun (p:κ×V) (q:κ×Value)=>p.1=q.1/\RelV p.2 q.2
def kV:Key->V
 |.inl i=>.int i
 |.inr x=>.str x
def JG(h:Heap)(a:Addr)(items:Array Value):Prop:=∃o,h.get? a=some o/\o.cls=.type "tuple" /\ (∃n,o.data=.seq items n)/\o.dict=none
theorem JG.up{h:Heap}{a:Addr}{items:Array Value}(x:JG h a items):IsTup h a items:=let ⟨o,e,c,d,_⟩:=x;⟨o,e,c,d⟩
theorem JG.lt{h:Heap}{a:Addr}{items:Array Value}(x:JG h a items):a<h.objs.size:=let ⟨_,e,_⟩:=x;Av e
theorem JG.new(h:Heap)(items:Array Value):JG (h.push { cls:=.type "tuple",data:=.seq items }) h.objs.size items:=⟨_,BA _ rfl,rfl,⟨_,rfl⟩,rfl⟩
inductive HO where
 |lst (xs:List V)
 |tup (xs:List V)
 |dK (kvs:List (Key×V))|dT (kvs:List (List Key×V))
 |set (S:Int->Bool) (n:Nat)
 |ins (C dx:Addr) (fs:List (Str×V))
 |own (x:Addr)
 |xd (fs:List (Str×V))
 |met (f x:Addr)
 |xt (lo hi:Int)
 |YK (o:Obj) (u:HO)
 |Jt (ps:Array Value)
 |ext (φ:Heap->Prop)
abbrev Hp:=Addr->Option HO
def upd(H:Hp)(a:Addr)(o:HO):Hp:=fun b=>if b=a then some o else H b
theorem AK{H:Hp}{a:Addr}{o:HO}:upd H a o a=some o:=by unfold upd;rw[if_pos rfl]
theorem A2{H:Hp}{a b:Addr}{o:HO}(h:b≠a):upd H a o b=H b:=by unfold upd;rw[if_neg h]
theorem CI{H:Hp}{a b:Addr}{o u:HO}(h:H a=some o)(h':H b=some u)(d:o≠u):a≠b:=by
 intro e;subst e;rw[h]at h';exact d (Al h')
theorem Af{H:Hp}{a b:Addr}{o:HO}(h:H a=some o)(h':H b=none):a≠b:=by
 intro e;subst e;rw[h]at h';cases h'
section
variable (P:Program) (w:World)
def Eo(H:Hp)(h:Heap)(a:Addr):HO->Prop
 |.lst xs=>xs.length<=sizeLine/\∃(its:List Value) (n:Nat),Vals xs its/\h.get? a=some { cls:=.type "list",data:=.seq its.toArray n }
 |.tup xs=>xs.length<=sizeLine/\∃its:List Value,Vals xs its/\JG h a its.toArray
 |.dK kvs=>kvs.length<=sizeLine/\(a==sysModules)=false/\∃vs,KV kvs vs/\h.DictOf (FI P w) a vs
 |.dT kvs=>kvs.length<=sizeLine/\(a==sysModules)=false/\∃xs:List (List Key×Addr×Value),
   Paired (fun (p:List Key×V) (q:List Key×Addr×Value)=>p.1=q.1/\H q.2.1=some (.tup (p.1.map kV))/\RelV p.2 q.2.2) kvs xs /\
   ∃o es ep,h.get? a=some o/\o.ExactDict/\o.data=.dict es ep/\es.toList=xs.map (entryOfKey (tupleKind (FI P w)))/\(xs.map (·.1)).Nodup
 |.set S n=>h.SetOf (intKind P w) a S n
 |.ins C dx fs=>H dx=some (.own a)/\fs.length<=1000/\dx≠a/\h.get? a=some (Ep C dx) /\
   ∃mA,h.Ns1 dx mA/\(∀f,Q1 (fs.lookup f) (mA f))/\iE mA (fs.map (·.1))
 |.own _=>∃o,h.get? a=some o
 |.xd fs=>∃mA,h.Ns1 a mA/\∀f,Q1 (fs.lookup f) (mA f)
 |.xt lo hi=>∃t u v,h.get? a=some { cls:=.type "range",data:=.fields #[.int lo t,.int hi u,.int 1 v] }
 |.YK o u=>h.get? a=some o/\Eo H h a u
 |.Jt ps=>h.get? a=some { cls:=.none,data:=.fields ps }
 |.met f x=>h.get? a=some (Sl (.ref f) (.ref x))
 |.ext φ=>φ h/\(∃o,h.get? a=some o)/\∀h1 h2:Heap,φ h1->(∀o,h1.get? a=some o->h2.get? a=some o)->φ h2
def L3(H:Hp)(h:Heap):Prop:=∀a o,H a=some o->Eo P w H h a o
end
section
variable {P:Program} {w:World} {H H':Hp} {h h':Heap} {a:Addr} {o:HO}
theorem Eo.lt(x:Eo P w H h a o):a<h.objs.size:=by
 cases o with
 |lst xs=>obtain ⟨_,_,_,_,e⟩:=x;exact Av e
 |tup xs=>obtain ⟨_,_,_,p⟩:=x;exact p.lt
 |dK kvs=>obtain ⟨_,_,_,_,o,_,_,e,_⟩:=x;exact Av e
 |dT kvs=>obtain ⟨_,_,_,_,o,_,_,e,_⟩:=x;exact Av e
 |set S n=>obtain ⟨o,_,_,_,e,_⟩:=x;exact Av e
 |ins C dx fs=>obtain ⟨_,_,_,e,_⟩:=x;exact Av e
 |own y=>obtain ⟨_,e⟩:=x;exact Av e
 |xd fs=>obtain ⟨_,⟨_,_,_,e,_⟩,_⟩:=x;exact Av e
 |xt lo hi=>obtain ⟨_,_,_,e⟩:=x;exact Av e
 |YK ob u=>obtain ⟨e,_⟩:=x;exact Av e
 |Jt ps=>exact Av (show h.get? a=some _ from x)
 |met f y=>exact Av (show h.get? a=some _ from x)
 |ext φ=>obtain ⟨_,⟨_,e⟩,_⟩:=x;exact Av e
theorem Paired.wH{α β:Type}{F G:α->β->Prop}:∀{l₁:List α} {l₂:List β},Paired F l₁ l₂->(∀a b,F a b->G a b)->Paired G l₁ l₂
 |_,_,.nil,_=>.nil
 |_,_,.cons r t,f=>.cons (f _ _ r) (Paired.wH t f)
theorem Eo.ay(x:Eo P w H h a o)(k:∀b u,(b=a\/H b=some (.own a))->h.get? b=some u->h'.get? b=some u)
  (ho:∀b,H b=some (.own a)->H' b=some (.own a)) (ht:∀b xs,H b=some (.tup xs)->H' b=some (.tup xs)):Eo P w H' h' a o:=by
 induction o with
 |lst xs=>obtain ⟨z,its,n,r,e⟩:=x;exact ⟨z,its,n,r,k _ _ (.inl rfl) e⟩
 |tup xs=>obtain ⟨z,its,r,ob,e,c⟩:=x;exact ⟨z,its,r,ob,k _ _ (.inl rfl) e,c⟩
 |dK kvs=>obtain ⟨z,y,vs,r,ob,es,ep,e,c⟩:=x;exact ⟨z,y,vs,r,ob,es,ep,k _ _ (.inl rfl) e,c⟩
 |dT kvs =>
  obtain ⟨z,y,xs,r,ob,es,ep,e,c⟩:=x;exact ⟨z,y,xs,Paired.wH r fun p q z=>⟨z.1,ht _ _ z.2.1,z.2.2⟩,ob,es,ep,k _ _ (.inl rfl) e,c⟩
 |set S n=>obtain ⟨ob,es,ep,t,e,c⟩:=x;exact ⟨ob,es,ep,t,k _ _ (.inl rfl) e,c⟩
 |ins C dx fs =>
  obtain ⟨d,z,ne,e,mA,⟨od,es,ep,e2,c⟩,r⟩:=x;exact ⟨ho _ d,z,ne,k _ _ (.inl rfl) e,mA,⟨od,es,ep,k _ _ (.inr d) e2,c⟩,r⟩
 |own y=>obtain ⟨ob,e⟩:=x;exact ⟨ob,k _ _ (.inl rfl) e⟩
 |xd fs=>obtain ⟨mA,⟨od,es,ep,e,c⟩,r⟩:=x;exact ⟨mA,⟨od,es,ep,k _ _ (.inl rfl) e,c⟩,r⟩
 |xt lo hi=>obtain ⟨t,u,v,e⟩:=x;exact ⟨t,u,v,k _ _ (.inl rfl) e⟩
 |YK ob u ih=>obtain ⟨e,q⟩:=x;exact ⟨k _ _ (.inl rfl) e,ih q⟩
 |Jt ps =>
  have e:h.get? a=some { cls:=.none,data:=.fields ps }:=x;show h'.get? a=some { cls:=.none,data:=.fields ps };exact k a _ (.inl rfl) e
 |met f y =>
  have e:h.get? a=some (Sl (.ref f) (.ref y)):=x;show h'.get? a=some (Sl (.ref f) (.ref y));exact k a _ (.inl rfl) e
 |ext φ=>obtain ⟨p,⟨o,e⟩,st⟩:=x;exact ⟨st _ _ p fun o q=>k _ _ (.inl rfl) q,⟨o,k _ _ (.inl rfl) e⟩,st⟩
theorem L3.lt(x:L3 P w H h)(e:H a=some o):a<h.objs.size:=(x a o e).lt
theorem L3.fresh(x:L3 P w H h)(e:h.objs.size<=a):H a=none:=by
 cases q:H a with
 |none=>rfl
 |some u=>exact absurd (A9 (x.lt q) e) (Bu _)
theorem L3.kept(x:L3 P w H h)(k:∀b u,h.get? b=some u->h'.get? b=some u):L3 P w H h':=fun a o e =>
 (x a o e).ay (fun b u _ q=>k b u q) (fun _ q=>q) fun _ _ q=>q
theorem L3.laid(x:L3 P w H h)(k:∀b u,h.get? b=some u->h'.get? b=some u)(hp:h.objs.size<=a)(new:Eo P w (upd H a o) h' a o):L3 P w (upd H a o) h':=fun b u e=>by
 have hn:=x.fresh hp
 by_cases hb:b=a
 ·subst hb;rw[AK]at e;cases e;exact new
 ·rw[A2 hb]at e;exact (x b u e).ay (fun c v _ q=>k c v q) (fun c q=>by rw[A2 (Af q hn)];exact q) fun c xs q=>by rw[A2 (Af q hn)];exact q
end
def Rd(H:Hp)(a:Addr)(u:HO):Prop:=H a=some u\/∃o,H a=some (.YK o u)
theorem Rd.ok{P:Program}{w:World}{H:Hp}{h:Heap}{a:Addr}{u:HO}(r:Rd H a u)(x:L3 P w H h):Eo P w H h a u:=by
 rcases r with r|⟨o,r⟩
 ·exact x a u r
 ·obtain ⟨_,q⟩:=x a _ r;exact q
def Mut:Option HO->Prop
 |some (.lst _)=>True
 |some (.dK _)=>True
 |some (.dT _)=>True
 |some (.set _ _)=>True
 |some (.ins _ _ _)=>True
 |some (.ext _)=>True
 |_=>False
section
variable {P:Program} {w:World} {H:Hp} {h h':Heap} {x e:Addr} {o':HO}
theorem L3.write(ok:L3 P w H h)(mu:Mut (H x))(he:e=x\/H e=some (.own x))(k:∀b u,b≠e->h.get? b=some u->h'.get? b=some u)(heo:∃u,h'.get? e=some u)
  (new:Eo P w (upd H x o') h' x o'):L3 P w (upd H x o') h':=fun b u q=>by
 have nown:∀c y,H c=some (.own y)->c≠x:=fun c y r z=>by subst z;rw[r]at mu;exact mu
 have ntup:∀c xs,H c=some (.tup xs)->c≠x:=fun c xs r z=>by subst z;rw[r]at mu;exact mu
 by_cases hb:b=x
 ·subst hb;rw[AK]at q;cases q;exact new
 ·rw[A2 hb]at q
  by_cases hbe:b=e
  ·have q':H b=some (.own x):=by
    rcases he with z|z
    ·exact absurd (hbe.trans z) hb
    ·rw[hbe];exact z
   rw[q]at q';cases q';obtain ⟨v,hv⟩:=heo;exact ⟨v,by rw[hbe];exact hv⟩
  ·refine (ok b u q).ay (fun c v hc r=>k c v ?_ r) (fun c r=>by rw[A2 (nown c b r)];exact r) fun c xs r=>by rw[A2 (ntup c xs r)];exact r
   rcases hc with rfl|hc
   ·exact hbe
   ·rintro rfl;rcases he with z|z
    ·exact nown c b hc z
    ·rw[hc]at z;cases z;exact hb rfl
end
structure Un(fs ex:List Addr)(H H':Hp)(h h':Heap):Prop where
 keep:∀b o,h.get? b=some o->H b=none->b ∉ fs->b ∉ ex->h'.get? b=some o
 slot:∀b o,h.get? b=some o->H b=none->b∈fs->b ∉ ex->∃sl,h'.get? b=some { o with slots:=sl }
 free:∀b o,h.get? b=some o->H b=none->b ∉ ex->H' b=none
 there:∀b o,h.get? b=some o->b ∉ ex->∃o',h'.get? b=some o'
 Uq:∀b xs,H b=some (.tup xs)->H' b=some (.tup xs)
 TM:∀b o u,H b=some (.YK o u)->H' b=some (.YK o u)
 TQ:∀b ps,H b=some (.Jt ps)->∃more,H' b=some (.Jt (ps++more))
section
variable {fs fs' ex ex':List Addr} {H H1 H2:Hp} {h h1 h2 h':Heap} {a x e:Addr} {o:HO}
theorem Un.any(u:Un fs ex H H1 h h1){b:Addr}{ob:Obj}(q:h.get? b=some ob)(n:H b=none)(hx:b ∉ ex):∃sl,h1.get? b=some { ob with slots:=sl }:=by
 by_cases hb:b∈fs
 ·exact u.slot b ob q n hb hx
 ·exact ⟨ob.slots,u.keep b ob q n hb hx⟩
theorem Un.trans(a:Un fs ex H H1 h h1)(b:Un fs ex H1 H2 h1 h2):Un fs ex H H2 h h2 where
 keep:=fun c ob q n hc hx=>b.keep c ob (a.keep c ob q n hc hx) (a.free c ob q n hx) hc hx
 slot:=fun c ob q n hc hx=>by
  obtain ⟨sl,e1⟩:=a.slot c ob q n hc hx;obtain ⟨sl',e2⟩:=b.slot c _ e1 (a.free c ob q n hx) hc hx;exact ⟨sl',e2⟩
 free:=fun c ob q n hx=>by
  obtain ⟨o',e1⟩:=a.there c ob q hx;exact b.free c o' e1 (a.free c ob q n hx) hx
 there:=fun c ob q hx=>by
  obtain ⟨o',e1⟩:=a.there c ob q hx;exact b.there c o' e1 hx
 Uq:=fun c xs q=>b.Uq c xs (a.Uq c xs q)
 TM:=fun c ob xs q=>b.TM c ob xs (a.TM c ob xs q)
 TQ:=fun c ps q=>by
  obtain ⟨m1,e1⟩:=a.TQ c ps q;obtain ⟨m2,e2⟩:=b.TQ c _ e1;exact ⟨m1++m2,by rw[e2,oi]⟩
theorem Un.kept(k:∀b u,h.get? b=some u->h'.get? b=some u):Un fs ex H H h h' :=
 ⟨fun b ob q _ _ _=>k b ob q,fun b ob q _ _ _=>⟨ob.slots,k b ob q⟩,fun _ _ _ n _=>n,fun b ob q _=>⟨ob,k b ob q⟩,fun _ _ q=>q,fun _ _ _ q=>q,fun _ ps q=>⟨#[],by rw[q];simp⟩⟩
theorem Un.refl:Un fs ex H H h h:=Un.kept fun _ _ q=>q
theorem Un.laid(k:∀b u,h.get? b=some u->h'.get? b=some u)(hp:h.objs.size<=a)(hn:H a=none):Un fs ex H (upd H a o) h h' where
 keep:=fun b u q _ _ _=>k b u q
 slot:=fun b u q _ _ _=>⟨u.slots,k b u q⟩
 free:=fun b u q n _=>by rw[A2 (Bl (A9 (Av q) hp))];exact n
 there:=fun b u q _=>⟨u,k b u q⟩
 Uq:=fun b xs q=>by rw[A2 (Af q hn)];exact q
 TM:=fun b u xs q=>by rw[A2 (Af q hn)];exact q
 TQ:=fun b ps q=>⟨#[],by rw[A2 (Af q hn),q];simp⟩
theorem Un.write(mu:Mut (H x))(he:e=x\/H e=some (.own x))(k:∀b u,b≠e->h.get? b=some u->h'.get? b=some u)(heo:∃u,h'.get? e=some u):Un fs ex H (upd H x o) h h':=by
 have hx:∀b,H b=none->b≠x:=fun b n z=>by subst z;rw[n]at mu;exact mu
 have hb:∀b,H b=none->b≠e:=fun b n z=>by
  subst z;rcases he with r|r
  ·exact hx b n r
  ·rw[n]at r;cases r
 have hm:∀b u,H b=some u->¬Mut (some u)->b≠x:=fun b u q nm z=>by subst z;rw[q]at mu;exact nm mu
 refine ⟨fun b u q n _ _=>k b u (hb b n) q,fun b u q n _ _=>⟨u.slots,k b u (hb b n) q⟩,fun b u q n _=>by rw[A2 (hx b n)];exact n,fun b u q _=>?_,
  fun b xs q=>by rw[A2 (hm b _ q fun z=>z)];exact q,fun b u xs q=>by rw[A2 (hm b _ q fun z=>z)];exact q,fun b ps q=>⟨#[],by rw[A2 (hm b _ q fun z=>z),q];simp⟩⟩
 by_cases hbe:b=e
 ·subst hbe;exact heo
 ·exact ⟨u,k b u hbe q⟩
theorem Un.mono(u:Un fs ex H H1 h h1)(hs:∀b∈fs,b∈fs')(hx:∀b∈ex,b∈ex'):Un fs' ex' H H1 h h1 :=
 ⟨fun b ob q n hb he=>u.keep b ob q n (fun z=>hb (hs b z)) fun z=>he (hx b z),fun _ _ q n _ he=>u.any q n fun z=>he (hx _ z),fun b ob q n he=>u.free b ob q n fun z=>he (hx b z),fun b ob q he=>u.there b ob q fun z=>he (hx b z),u.Uq,u.TM,u.TQ⟩
end
def trk(h:Heap)(H:Hp):List Addr:=(AF h.objs.size).filter fun a=>(H a).isSome
def bA(h:Heap)(H:Hp):Heap:=PySem.W.hideAll h (trk h H)
theorem pQ(h:Heap)(H:Hp):(bA h H).objs.size=h.objs.size:=PySem.W.hideAll_size _ _
theorem tF{h:Heap}{H:Hp}{b:Addr}{o:Obj}(e:h.get? b=some o)(n:H b=none):(bA h H).get? b=some o :=
 PySem.W.hideAll_get _ e fun hm=>by
  have q:(H b).isSome=true:=(AJ.mp hm).2;rw[n]at q;simp at q
theorem wI{h:Heap}{H:Hp}{b:Addr}{o:Obj}(e:(bA h H).get? b=some o):h.get? b=some o/\H b=none:=by
 have e':h.get? b=some o:=PySem.W.of_hideAll (trk h H) e;refine ⟨e',?_⟩;cases q:H b with
 |none=>rfl
 |some x =>
  have hm:b∈trk h H:=AJ.mpr ⟨Ah.mpr (Av e'),by simp[q]⟩;have z:(bA h H).get? b=none:=PySem.W.hideAll_none (trk h H) hm;rw[z]at e;cases e
def wJ(g h:Heap)(L:Addr):List (Addr×Obj):=(AF h.objs.size).filterMap fun a=>if a=L\/(g.get? a).isSome=true then none else (h.get? a).map fun o=>(a,o)
def rest(g h:Heap)(L d:Addr):List (Addr×Obj):=(wJ g h L).filter fun p=>decide (p.1≠d)
end L2
namespace L2
open PySem PySem.Spec PyProof.Rows
structure Mod(K:AE)(mg:Str->Option Value)(base:Heap):Prop where
 yx:K.In base
 glob:base.Ns mainGlobals mg
 blt:∃mb,base.Ns builtinsNs mb/\∀x:Str,x ≠ "__name__" -> mb x=bootBuiltins x
 nolimit:base.NoLimit
structure Cx where
 prog:Program
 w:World
 K:AE
 mg:Str->Option Value
 base:Heap
 A:Around
 N:List Str
 bB:Shared
 H_0:Hp
 env:Env
 outer:List Env
 stack:List Env
 ex:List Addr
 fn:Str->Bool
 calm:Bool
 pn:List (Addr×Obj)
 xe:Value->Shared->Prop
def TR(l:List Env):List Addr:=l.filterMap (·.frame)
abbrev Cx.fs(X:Cx):List Addr:=TR X.outer
def Vis(sc:Scope)(x:Str):Prop:=sc.names.lookup x=some .local\/sc.names.lookup x=some .cell\/sc.names.lookup x=some .free
def Loc(sc:Scope)(x:Str):Prop:=sc.names.lookup x=some .local\/sc.names.lookup x=some .cell
def Look(env:Env)(h:Heap)(m:Str->Option Value)(x:Str)(u:Value):Prop :=
 (env.kindOf x=some .local/\m x=some u)\/((env.kindOf x=some .cell\/env.kindOf x=some .free)/\∃c,env.cells.lookup x=some c/\h.IsCell c (some u))
structure Cx.Ok(X:Cx):Prop where
 mod:Mod X.K X.mg X.base
 kind:X.env.scope.kind=.function
 glob:X.env.globals=mainGlobals
 blt:X.env.builtins=builtinsNs
 above:X.bB.heap.objs.size<=X.env.locals
 inj:∀x y c,X.env.cells.lookup x=some c->X.env.cells.lookup y=some c->x=y
 has:∀x,(X.env.kindOf x=some .cell\/X.env.kindOf x=some .free)->∃c,X.env.cells.lookup x=some c
 cab:∀x c,X.fn x=true->X.env.cells.lookup x=some c->X.bB.heap.objs.size<=c
 hd:X.calm=true->X.A.handled=none
 frames:X.A.frames=some X.stack
 stk:X.stack=X.outer\/(X.stack=X.env::X.outer/\X.env.frame=some X.env.locals)
 exf:∀b∈X.ex,b≠X.env.locals/\∀x c,X.env.cells.lookup x=some c->c≠b
 bs:∀b o,X.base.get? b=some o->X.bB.heap.get? b=some o/\X.H_0 b=none
 pR:X.base.objs.size<=X.bB.heap.objs.size
 tG:∀b o,X.base.get? b=some o->b ∉ X.ex
 tH:∀b∈X.ex,b ∉ X.fs
 LU:X.bB.heap.FunFrames X.base X.outer
 pT:∀b∈X.fs,X.H_0 b=none
structure Inv(X:Cx)(pins:List (Addr×Obj))(σ:List (Option V))(H:Hp)(s:Shared):Prop where
 ok:X.Ok
 os:s.os=X.bB.os
 bare:AllBare s.gens
 base:Un X.fs X.ex X.H_0 H X.bB.heap s.heap
 loc:∃m,s.heap.Ns X.env.locals m/\∀(i:Nat) (x:Str) (v:V),X.N[i]?=some x->σ[i]?=some (some v)->Vis X.env.scope x->∃u,RelV v u/\Look X.env s.heap m x u
 cell:∀x c,X.env.cells.lookup x=some c->∃v,s.heap.IsCell c v
 free:H X.env.locals=none
 Ng:∀x c,X.env.cells.lookup x=some c->H c=none
 pin:∀p∈X.pn++pins,s.heap.get? p.1=some p.2/\H p.1=none/\p.1≠X.env.locals/\p.1 ∉ X.fs/\∀v,p.2.data≠.cell v
 C2:L3 X.prog X.w H s.heap
 len:σ.length=X.N.length
section
variable {X:Cx} {pins:List (Addr×Obj)} {σ:List (Option V)} {H H':Hp} {s:Shared} {h':Heap}
theorem Cx.Ok.ACI(ok:X.Ok){b:Addr}{o:Obj}(e:X.base.get? b=some o):b ∉ X.fs:=fun hb=>by
 have:=(ok.LU.mem hb).1
 rw[e]at this;cases this
theorem Inv.bs(I:Inv X pins σ H s):∀b o,X.base.get? b=some o->s.heap.get? b=some o/\H b=none:=fun b o e =>
 ⟨I.base.keep b o (I.ok.bs b o e).1 (I.ok.bs b o e).2 (I.ok.ACI e) (I.ok.tG b o e),I.base.free b o (I.ok.bs b o e).1 (I.ok.bs b o e).2 (I.ok.tG b o e)⟩
theorem Inv.bk(I:Inv X pins σ H s):∀b o,X.base.get? b=some o->s.heap.get? b=some o:=fun b o e=>(I.bs b o e).1
theorem Inv.mod(I:Inv X pins σ H s):Mod X.K X.mg X.base:=I.ok.mod
theorem Inv.kl(I:Inv X pins σ H s):X.K.In s.heap:=I.ok.mod.yx.keeps I.bk
theorem Inv.nolimit(I:Inv X pins σ H s):s.heap.NoLimit:=I.ok.mod.nolimit.keeps I.bk
theorem Inv.lt(I:Inv X pins σ H s):X.env.locals<s.heap.objs.size:=let ⟨_,hn,_⟩:=I.loc;hn.lt
theorem Inv.sz(I:Inv X pins σ H s):X.bB.heap.objs.size<=s.heap.objs.size:=AY I.ok.above (IF I.lt)
theorem Inv.ACJ(I:Inv X pins σ H s){a:Addr}(h:s.heap.objs.size<=a):a ∉ X.fs:=fun hb=>by
 obtain ⟨_,o,ho,_⟩:=I.ok.LU.mem hb;exact absurd (A9 (Av ho) (AY I.sz h)) (Bu _)
theorem Inv.xu(I:Inv X pins σ H s):∀x c,X.env.cells.lookup x=some c->c≠X.env.locals:=fun x c e z=>by
 obtain ⟨v,o,ho,hd⟩:=I.cell x c e;obtain ⟨m,⟨o',es,ep,ho',hd',_⟩,_⟩:=I.loc;rw[z,ho']at ho;cases ho;rw[hd']at hd;cases hd
theorem Inv.LU(I:Inv X pins σ H s):s.heap.FunFrames X.base X.outer:=by
 have all:∀(l:List Env),(∀b∈TR l,b∈X.fs)->X.bB.heap.FunFrames X.base l->s.heap.FunFrames X.base l:=by
  intro l
  induction l with
  |nil=>intro _ _;trivial
  |cons env r ih =>
   intro hs hl;obtain ⟨hk,⟨L,o,hf,hn,ho,hd⟩,hr⟩:=hl;have hL:L∈X.fs:=hs L (by unfold TR;rw[Jz,hf];exact AI);obtain ⟨sl,e⟩:=I.base.slot L o ho (I.ok.pT L hL) hL fun z=>I.ok.tH L z hL
   exact ⟨hk,⟨L,_,hf,hn,e,hd⟩,ih (fun b hb=>hs b (by unfold TR;rw[Jz,hf];exact AG _ hb)) hr⟩
 exact all X.outer (fun _ hb=>hb) I.ok.LU
theorem Inv.stack(I:Inv X pins σ H s):s.heap.FunFrames X.base X.stack:=by
 rcases I.ok.stk with e|⟨e,hf⟩
 ·rw[e];exact I.LU
 ·rw[e];obtain ⟨m,hn,_⟩:=I.loc;refine .cons (by rw[I.ok.kind];decide) hf hn ?_ I.LU;exact Heap.get?_none_of_le (AY I.ok.pR I.ok.above)
theorem Inv.fT(I:Inv X pins σ H s):∀b∈TR X.stack,b∈X.env.locals::X.fs:=fun b hb=>by
 rcases I.ok.stk with e|⟨e,hf⟩
 ·rw[e]at hb;exact AG _ hb
 ·rw[e]at hb;unfold TR at hb;rw[Jz,hf]at hb;exact hb
theorem Inv.nY(I:Inv X pins σ H s):∀b∈TR X.stack,H b=none:=fun b hb=>by
 rcases Ak.mp (I.fT b hb) with e|hb
 ·rw[e];exact I.free
 ·obtain ⟨_,o,ho,_⟩:=I.ok.LU.mem hb;exact I.base.free b o ho (I.ok.pT b hb) fun z=>I.ok.tH b z hb
theorem Inv.step{g':Array GenState}{t':Nat}{d':Drawn}{ch:List Addr}(I:Inv X pins σ H s)
  (hch:∀b∈ch,(b∈X.ex\/X.bB.heap.objs.size<=b)/\b≠X.env.locals/\(∀x c,X.env.cells.lookup x=some c->c≠b)/\∀p∈X.pn++pins,p.1≠b)
  (keep:∀b o,b≠X.env.locals->b ∉ X.fs->b ∉ ch->s.heap.get? b=some o->H b=none->h'.get? b=some o)
  (slot:∀b o,b≠X.env.locals->b∈X.fs->b ∉ ch->s.heap.get? b=some o->H b=none->∃sl,h'.get? b=some { o with slots:=sl }) (free:∀b o,b ∉ ch->s.heap.get? b=some o->H b=none->H' b=none)
  (there:∀b o,b ∉ ch->s.heap.get? b=some o->∃o',h'.get? b=some o')
  (Uq:∀b xs,H b=some (.tup xs)->H' b=some (.tup xs)) (TM:∀b o u,H b=some (.YK o u)->H' b=some (.YK o u)) (TQ:∀b ps,H b=some (.Jt ps)->∃more,H' b=some (.Jt (ps++more)))
  (ns:∀m,s.heap.Ns X.env.locals m->h'.Ns X.env.locals m) (C2:L3 X.prog X.w H' h') (hg:AllBare g') :
  Inv X pins σ H' { s with heap:=h',gens:=g',drawn:=d',toks:=t' }:=by
 have neL:∀b o,X.bB.heap.get? b=some o->b≠X.env.locals:=fun b o e=>Bl (A9 (Av e) I.ok.above)
 have neC:∀b o,X.bB.heap.get? b=some o->b ∉ X.ex->b ∉ ch:=fun b o e hx hb=>by
  rcases (hch b hb).1 with z|z
  ·exact hx z
  ·exact absurd (A9 (Av e) z) (Bu _)
 have cellK:∀x c,X.env.cells.lookup x=some c->∀v,s.heap.IsCell c v->h'.IsCell c v:=fun x c e v ⟨o,ho,hd⟩=>by
  have nch:c ∉ ch:=fun z=>(hch c z).2.2.1 x c e rfl
  by_cases hc:c∈X.fs
  ·obtain ⟨sl,q⟩:=slot c o (I.xu x c e) hc nch ho (I.Ng x c e);exact ⟨_,q,hd⟩
  ·exact ⟨o,keep c o (I.xu x c e) hc nch ho (I.Ng x c e),hd⟩
 refine ⟨I.ok,I.os,hg,⟨fun b o e n hb hx=>?_,fun b o e n hb hx=>?_,fun b o e n hx=>?_,fun b o e hx=>?_,fun b xs e=>Uq b xs (I.base.Uq b xs e),fun b o xs e=>TM b o xs (I.base.TM b o xs e),fun b ps e=>?_⟩,?_,fun x c e=>?_,?_,fun x c e=>?_,fun p hp=>?_,C2,I.len⟩
 ·exact keep b o (neL b o e) hb (neC b o e hx) (I.base.keep b o e n hb hx) (I.base.free b o e n hx)
 ·obtain ⟨sl,e1⟩:=I.base.slot b o e n hb hx;obtain ⟨sl',e2⟩:=slot b _ (neL b o e) hb (neC b o e hx) e1 (I.base.free b o e n hx);exact ⟨sl',e2⟩
 ·obtain ⟨o',e1⟩:=I.base.there b o e hx;exact free b o' (neC b o e hx) e1 (I.base.free b o e n hx)
 ·obtain ⟨o',e1⟩:=I.base.there b o e hx;exact there b o' (neC b o e hx) e1
 ·obtain ⟨m1,e1⟩:=I.base.TQ b ps e;obtain ⟨m2,e2⟩:=TQ b _ e1;exact ⟨m1++m2,by rw[e2,oi]⟩
 ·obtain ⟨m,hn,hl⟩:=I.loc;refine ⟨m,ns m hn,fun i x v e1 e2 e3=>?_⟩;obtain ⟨u,r,l⟩:=hl i x v e1 e2 e3;refine ⟨u,r,?_⟩;rcases l with l|⟨k,c,e,z⟩
  ·exact .inl l
  ·exact .inr ⟨k,c,e,cellK x c e _ z⟩
 ·obtain ⟨v,z⟩:=I.cell x c e;exact ⟨v,cellK x c e v z⟩
 ·obtain ⟨m,⟨o,_,_,ho,_⟩,_⟩:=I.loc;exact free _ o (fun z=>(hch _ z).2.1 rfl) ho I.free
 ·obtain ⟨v,o,ho,hd⟩:=I.cell x c e;exact free c o (fun z=>(hch c z).2.2.1 x c e rfl) ho (I.Ng x c e)
 ·obtain ⟨e,n,ne,nf,d⟩:=I.pin p hp;have nch:p.1 ∉ ch:=fun z=>(hch p.1 z).2.2.2 p hp rfl
  exact ⟨keep p.1 p.2 ne nf nch e n,free p.1 p.2 nch e n,ne,nf,d⟩
theorem Inv.un{t':Nat}(I:Inv X pins σ H s)(u:Un X.fs [] H H' s.heap h')(C2:L3 X.prog X.w H' h'):Inv X pins σ H' { s with heap:=h',toks:=t' }:=by
 obtain ⟨m,⟨o,es,ep,ho,r⟩,_⟩:=id I.loc;obtain ⟨sl,hL⟩:=u.any ho I.free (by simp);exact I.step (g':=s.gens) (d':=s.drawn) (ch:=[]) (fun _ z=>nomatch z) (fun b o _ hb _ e n=>u.keep b o e n hb (by simp)) (fun b o _ hb _ e n=>u.slot b o e n hb (by simp)) (fun b o _ e n=>u.free b o e n (by simp)) (fun b o _ e=>u.there b o e (by simp)) u.Uq u.TM u.TQ (fun m' hm=>by
  obtain ⟨o',es',ep',ho',r'⟩:=hm;rw[ho]at ho';cases ho';exact ⟨_,es',ep',hL,r'⟩) C2 I.bare
theorem Inv.call{g':Array GenState}{t':Nat}{d':Drawn}{ch:List Addr}(I:Inv X pins σ H s)(u:Un (TR X.stack) ch H H' s.heap h')(C2:L3 X.prog X.w H' h')(hg:AllBare g')
  (hch:∀b∈ch,(b∈X.ex\/X.bB.heap.objs.size<=b)/\b≠X.env.locals/\(∀x c,X.env.cells.lookup x=some c->c≠b)/\∀p∈X.pn++pins,p.1≠b) :
  Inv X pins σ H' { s with heap:=h',gens:=g',drawn:=d',toks:=t' }:=by
 obtain ⟨m,⟨o,es,ep,ho,r⟩,_⟩:=id I.loc;obtain ⟨sl,hL⟩:=u.any ho I.free fun z=>(hch _ z).2.1 rfl
 exact I.step (ch:=ch) hch (fun b o hL hb hc e n=>u.keep b o e n (fun z=>(Ak.mp (I.fT b z)).elim hL hb) hc) (fun b o _ _ hc e n=>u.any e n hc) (fun b o hc e n=>u.free b o e n hc) (fun b o hc e=>u.there b o e hc) u.Uq u.TM u.TQ (fun m' hm=>by
  obtain ⟨o',es',ep',ho',r'⟩:=hm;rw[ho]at ho';cases ho';exact ⟨_,es',ep',hL,r'⟩) C2 hg
theorem Inv.turned{t':Nat}{it:Addr}(I:Inv X pins σ H s)(k:∀b o,b≠it->s.heap.get? b=some o->h'.get? b=some o)(hn:H it=none)(hL:it≠X.env.locals)
  (h1:it∈X.ex\/X.bB.heap.objs.size<=it) (h2:∀x c,X.env.cells.lookup x=some c->c≠it) (h3:∀p∈X.pn++pins,p.1≠it):Inv X pins σ H { s with heap:=h',toks:=t' }:=by
 have nit:∀b u,H b=some u->b≠it:=fun b u e z=>by rw[z,hn]at e;cases e
 refine I.step (g':=s.gens) (d':=s.drawn) (ch:=[it]) (fun b hb=>?_) (fun b o _ _ hc e _=>k b o (fun z=>hc (by simp[z])) e) (fun b o _ _ hc e _=>⟨o.slots,k b o (fun z=>hc (by simp[z])) e⟩) (fun _ _ _ _ n=>n)
  (fun b o hc e=>⟨o,k b o (fun z=>hc (by simp[z])) e⟩) (fun _ _ e=>e) (fun _ _ _ e=>e) (fun b ps e=>⟨#[],by rw[e];simp⟩) (fun m hm=>?_) (fun b u e=>?_) I.bare
 ·have e:b=it:=by simpa using hb
  subst e;exact ⟨h1,hL,h2,h3⟩
 ·obtain ⟨o,es,ep,ho,r⟩:=hm;exact ⟨o,es,ep,k _ o (Cr hL) ho,r⟩
 ·refine (I.C2 b u e).ay (fun c v hc q=>k c v ?_ q) (fun _ q=>q) fun _ _ q=>q
  rcases hc with z|z
  ·rw[z];exact nit b u e
  ·exact nit c _ z
theorem Inv.tok(I:Inv X pins σ H s)(t:Nat):Inv X pins σ H { s with toks:=t }:=I.un (h':=s.heap) (t':=t) Un.refl I.C2
theorem Inv.kept{t':Nat}(I:Inv X pins σ H s)(k:∀b u,s.heap.get? b=some u->h'.get? b=some u):Inv X pins σ H { s with heap:=h',toks:=t' }:=I.un (Un.kept k) (I.C2.kept k)
theorem Inv.laid{a:Addr}{o:HO}{t':Nat}(I:Inv X pins σ H s)(k:∀b u,s.heap.get? b=some u->h'.get? b=some u)(hp:s.heap.objs.size<=a)(new:Eo X.prog X.w (upd H a o) h' a o) :
  Inv X pins σ (upd H a o) { s with heap:=h',toks:=t' }:=I.un (Un.laid k hp (I.C2.fresh hp)) (I.C2.laid k hp new)
theorem Inv.write{x e:Addr}{o:HO}{t':Nat}(I:Inv X pins σ H s)(mu:Mut (H x))(he:e=x\/H e=some (.own x))(k:∀b u,b≠e->s.heap.get? b=some u->h'.get? b=some u)(heo:∃u,h'.get? e=some u)
  (new:Eo X.prog X.w (upd H x o) h' x o):Inv X pins σ (upd H x o) { s with heap:=h',toks:=t' }:=I.un (Un.write mu he k heo) (I.C2.write mu he k heo new)
theorem Inv.weak{σ':List (Option V)}(I:Inv X pins σ H s)(hl:σ'.length=σ.length)(w:∀(i:Nat) v,σ'[i]?=some (some v)->σ[i]?=some (some v)):Inv X pins σ' H s :=
 ⟨I.ok,I.os,I.bare,I.base,let ⟨m,hn,hl'⟩:=I.loc;⟨m,hn,fun i x v e1 e2 e3=>hl' i x v e1 (w i v e2) e3⟩,I.cell,I.free,I.Ng,I.pin,I.C2,hl.trans I.len⟩
theorem Inv.nZ{pins':List (Addr×Obj)}(I:Inv X pins σ H s)(h:∀p∈pins',s.heap.get? p.1=some p.2/\H p.1=none/\p.1≠X.env.locals/\p.1 ∉ X.fs/\∀v,p.2.data≠.cell v):Inv X pins' σ H s :=
 ⟨I.ok,I.os,I.bare,I.base,I.loc,I.cell,I.free,I.Ng,fun p hp=>(BN.mp hp).elim (fun z=>I.pin p (DQ _ z)) (h p),I.C2,I.len⟩
theorem YL{N:List Str}(hN:N.Nodup){i j:Nat}{x:Str}(a:N[i]?=some x)(b:N[j]?=some x):i=j:=by
 obtain ⟨h1,e1⟩:=Ap.mp a;obtain ⟨h2,e2⟩:=Ap.mp b;exact (Iz hN).mp (e1.trans e2.symm)
theorem cR{M:Model}{A:Around}{E:Value->Shared->Prop}{i:Nat}{x:Str}{v:V}{u:Value}{Q:Unit->Shared->Prop}(I:Inv X pins σ H s)(hN:X.N.Nodup)(hi:X.N[i]?=some x)(hx:Loc X.env.scope x)(r:RelV v u)
  (h:∀s',Inv X pins (σ.set i (some v)) H s'->(∃a,Kw a s.heap s'.heap/\(a=X.env.locals\/X.env.cells.lookup x=some a))->Q () s') (hf:X.fn x=true\/X.env.scope.names.lookup x=some .local:=by first|exact .inl rfl|exact .inr rfl|assumption):wpAny M A (storeName X.env x u) Q E s:=by
 obtain ⟨m,hn,hl⟩:=id I.loc;have hcls:(X.env.scope.kind == .class||(X.env.scope.kind == .module&&X.env.locals != X.env.globals))=false:=by rw[I.ok.kind];rfl
 have hiσ:i < σ.length:=by rw[I.len];exact (Ap.mp hi).1
 have xu:=I.xu;have tracked:∀{a:Addr} {h':Heap},(∃o,s.heap.get? a=some o/\H a=none)->Kw a s.heap h'->L3 X.prog X.w H h':=fun {a h'} ha hs b ob e=>by
  obtain ⟨_,_,hfree⟩:=ha;refine (I.C2 b ob e).ay (fun c w' hc q=>(hs.2 c ?_).trans q) (fun _ q=>q) fun _ _ q=>q
  rintro rfl;rcases hc with rfl|hc
  ·rw[hfree]at e;cases e
  ·rw[hfree]at hc;cases hc
 rcases hx with hk|hk
 ·refine wpAny_storeName_local hk hn (fun h' hn' hs=>?_) hcls;obtain ⟨oL,_,_,hoL,_⟩:=id hn;refine h _ ⟨I.ok,I.os,I.bare,⟨fun b o e n hb hx=>?_,fun b o e n hb hx=>?_,I.base.free,fun b o e hx=>?_,I.base.Uq,I.base.TM,I.base.TQ⟩,⟨_,hn',fun j y v' e1 e2 e3=>?_⟩,fun y c e=>?_,I.free,I.Ng,fun p hp=>?_,tracked ⟨oL,hoL,I.free⟩ hs,by simpa using I.len⟩ ⟨_,hs,.inl rfl⟩
  ·exact (hs.2 b (Bl (A9 (Av e) I.ok.above))).trans (I.base.keep b o e n hb hx)
  ·obtain ⟨sl,e1⟩:=I.base.slot b o e n hb hx;exact ⟨sl,(hs.2 b (Bl (A9 (Av e) I.ok.above))).trans e1⟩
  ·obtain ⟨o',e1⟩:=I.base.there b o e hx;exact ⟨o',(hs.2 b (Bl (A9 (Av e) I.ok.above))).trans e1⟩
  ·by_cases hj:j=i
   ·subst hj;rw[hi]at e1;cases e1;rw[OL hiσ]at e2;cases e2;exact ⟨u,r,.inl ⟨hk,by simp⟩⟩
   ·rw[Q9 (Cr hj)]at e2;obtain ⟨u',r',q⟩:=hl j y v' e1 e2 e3;refine ⟨u',r',?_⟩;rcases q with ⟨k,e⟩|⟨k,c,e,z⟩
    ·refine .inl ⟨k,?_⟩
     have:y≠x:=fun e=>hj (YL hN e1 (e ▸ hi))
     simp[this,e]
    ·exact .inr ⟨k,c,e,z.sameBut hs (xu y c e)⟩
  ·obtain ⟨w',z⟩:=I.cell y c e;exact ⟨w',z.sameBut hs (xu y c e)⟩
  ·obtain ⟨e,n,ne,nf,d⟩:=I.pin p hp;exact ⟨(hs.2 p.1 ne).trans e,n,ne,nf,d⟩
 ·have hfn:X.fn x=true:=by
   rcases hf with z|z
   ·exact z
   ·rw[z]at hk;cases hk
  obtain ⟨c,hc⟩:=I.ok.has x (.inl hk);obtain ⟨w',z⟩:=I.cell x c hc;refine wpAny_storeName_cell I.ok.kind hk hc z (fun h' hc' hs=>?_);obtain ⟨oc,hoc,hocd⟩:=id z;refine h { s with heap:=h' } ⟨I.ok,I.os,I.bare,⟨fun b o e n hb hx=>?_,fun b o e n hb hx=>?_,I.base.free,fun b o e hx=>?_,I.base.Uq,I.base.TM,I.base.TQ⟩,⟨m,hn.sameBut hs (Cr (xu x c hc)),fun j y v' e1 e2 e3=>?_⟩,fun y c' e=>?_,I.free,I.Ng,fun p hp=>?_,tracked ⟨oc,hoc,I.Ng x c hc⟩ hs,by simpa using I.len⟩ ⟨c,hs,.inr hc⟩
  ·exact (hs.2 b (Bl (A9 (Av e) (I.ok.cab x c hfn hc)))).trans (I.base.keep b o e n hb hx)
  ·obtain ⟨sl,e1⟩:=I.base.slot b o e n hb hx;exact ⟨sl,(hs.2 b (Bl (A9 (Av e) (I.ok.cab x c hfn hc)))).trans e1⟩
  ·obtain ⟨o',e1⟩:=I.base.there b o e hx;exact ⟨o',(hs.2 b (Bl (A9 (Av e) (I.ok.cab x c hfn hc)))).trans e1⟩
  ·by_cases hj:j=i
   ·subst hj;rw[hi]at e1;cases e1;rw[OL hiσ]at e2;cases e2;exact ⟨u,r,.inr ⟨.inl hk,c,hc,hc'⟩⟩
   ·rw[Q9 (Cr hj)]at e2;obtain ⟨u',r',q⟩:=hl j y v' e1 e2 e3;refine ⟨u',r',?_⟩;rcases q with q|⟨k,c',e,z'⟩
    ·exact .inl q
    ·refine .inr ⟨k,c',e,z'.sameBut hs ?_⟩;rintro rfl;exact hj (YL hN e1 (I.ok.inj _ _ _ e hc ▸ hi))
  ·by_cases hcc:c'=c
   ·subst hcc;exact ⟨_,hc'⟩
   ·obtain ⟨w2,z2⟩:=I.cell y c' e;exact ⟨w2,z2.sameBut hs hcc⟩
  ·obtain ⟨e,n,ne,nf,d⟩:=I.pin p hp;refine ⟨(hs.2 p.1 ?_).trans e,n,ne,nf,d⟩;intro q;rw[q,hoc]at e;have q':oc=p.2:=Al e;exact d w' (by rw[<-q'];exact hocd)
theorem YM{M:Model}{A:Around}{E:Value->Shared->Prop}{i:Nat}{x:Str}{v:V}{u:Value}{Q:Unit->Shared->Prop}(I:Inv X pins σ H s)(hN:X.N.Nodup)(hi:X.N[i]?=some x)(hx:Loc X.env.scope x)(r:RelV v u)
  (h:∀s',Inv X pins (σ.set i (some v)) H s'->Q () s') (hf:X.fn x=true\/X.env.scope.names.lookup x=some .local:=by first|exact .inl rfl|exact .inr rfl|assumption):wpAny M A (storeName X.env x u) Q E s :=
 cR I hN hi hx r (fun s' I' _=>h s' I') hf
theorem Inv.AA2{s':Shared}{ch:List Addr}(I:Inv X pins σ H s)(ho:s'.os=s.os)(u:Un (TR X.stack) ch H H' s.heap s'.heap)(C2:L3 X.prog X.w H' s'.heap)(hg:AllBare s'.gens)
  (hch:∀b∈ch,(b∈X.ex\/X.bB.heap.objs.size<=b)/\b≠X.env.locals/\(∀x c,X.env.cells.lookup x=some c->c≠b)/\∀p∈X.pn++pins,p.1≠b):Inv X pins σ H' s':=by
 obtain ⟨h',g',d',t',o'⟩:=s';have e:o'=s.os:=ho;subst e;exact I.call (g':=g') (t':=t') (d':=d') u C2 hg hch
end
abbrev XK:=Value->Option Addr->Hp->Prop
abbrev St:=List (Option V)
abbrev VK:=V->Hp->Prop
abbrev TE:=St->Hp->VK->Prop
abbrev TT:=St->Hp->(Bool->Hp->Prop)->Prop
abbrev TA:=St->Hp->(List V->Hp->Prop)->Prop
structure Ends where
 nx:St->Hp->Prop
 rt:VK
 bk:St->Hp->Prop:=fun _ _=>False
 ct:St->Hp->Prop:=fun _ _=>False
abbrev TS:=Ends->St->Hp->Prop
def EP(X:Cx)(pins:List (Addr×Obj))(σ:St)(Q:VK)(u:Value)(s':Shared):Prop:=∃v H',Inv X pins σ H' s'/\RelV v u/\Q v H'
def TP(X:Cx)(pins:List (Addr×Obj))(σ:St)(Q:Bool->Hp->Prop)(b:Bool)(s':Shared):Prop:=∃H',Inv X pins σ H' s'/\Q b H'
def AP(X:Cx)(pins:List (Addr×Obj))(σ:St)(Q:List V->Hp->Prop)(us:List Value)(s':Shared):Prop:=∃vs H',Inv X pins σ H' s'/\Vals vs us/\Q vs H'
def SP(X:Cx)(pins:List (Addr×Obj))(D:Ends)(f:Flow)(s':Shared):Prop :=
 match f with
 |.next=>∃σ' H',Inv X pins σ' H' s'/\D.nx σ' H'
 |.brk=>∃σ' H',Inv X pins σ' H' s'/\D.bk σ' H'
 |.cont=>∃σ' H',Inv X pins σ' H' s'/\D.ct σ' H'
 |.ret u=>∃v σ' H',Inv X pins σ' H' s'/\RelV v u/\D.rt v H'
def PE(X:Cx)(e:Expr)(t:TE):Prop :=
 ∀(pins:List (Addr×Obj)) (s:Shared) (σ:St) (H:Hp) (Q:VK),Inv X pins σ H s->t σ H Q->wpAny (model X.prog X.w) X.A (eval e X.env) (EP X pins σ Q) X.xe s
def PT(X:Cx)(e:Expr)(t:TT):Prop :=
 ∀(pins:List (Addr×Obj)) (s:Shared) (σ:St) (H:Hp) (Q:Bool->Hp->Prop),Inv X pins σ H s->t σ H Q->wpAny (model X.prog X.w) X.A (isTrue e X.env (eval e X.env)) (TP X pins σ Q) X.xe s
def PW(X:Cx)(e:Expr)(t:TT):Prop :=
 ∀(whole:Sem Value) (pins:List (Addr×Obj)) (s:Shared) (σ:St) (H:Hp) (Q:Bool->Hp->Prop),Inv X pins σ H s->t σ H Q->wpAny (model X.prog X.w) X.A (isTrue e X.env whole) (TP X pins σ Q) X.xe s
theorem PW.pt{X:Cx}{e:Expr}{t:TT}(h:PW X e t):PT X e t:=h _
def PA(X:Cx)(es:List Expr)(t:TA):Prop :=
 ∀(pos:Pos) (pins:List (Addr×Obj)) (s:Shared) (σ:St) (H:Hp) (Q:List V->Hp->Prop),Inv X pins σ H s->t σ H Q->wpAny (model X.prog X.w) X.A (spliced (backTo pos (starEach es X.env))) (AP X pins σ Q) X.xe s
def PS(X:Cx)(st:Stmt)(t:TS):Prop :=
 ∀(pins:List (Addr×Obj)) (s:Shared) (σ:St) (H:Hp) (D:Ends),Inv X pins σ H s->t D σ H->wpAny (model X.prog X.w) X.A (exec st X.env) (SP X pins D) X.xe s
def nc(X:Cx)(st:List Stmt)(t:TS):Prop :=
 ∀(pins:List (Addr×Obj)) (s:Shared) (σ:St) (H:Hp) (D:Ends),Inv X pins σ H s->t D σ H->wpAny (model X.prog X.w) X.A (execs st X.env) (SP X pins D) X.xe s
theorem FH{α:Type}{t:Sem α}{Q Q':α->Shared->Prop}{M:Model}{A:Around}{E:Value->Shared->Prop}{s:Shared}(h:wpAny M A t Q E s)(hQ:∀a s,Q a s->Q' a s):wpAny M A t Q' E s:=DH h hQ fun _ _ x=>x
end L2
namespace L2
open PySem PySem.Spec PyProof.Rows
section
variable {X:Cx}
def TU(i:Nat):TE:=fun σ H Q=>∃v,σ[i]?=some (some v)/\Q v H
def tC(v:V):TE:=fun _ H Q=>Q v H
theorem yy{i:Nat}{x:Str}{pos:Pos}(hN:X.N[i]?=some x)(hv:Vis X.env.scope x)(hd:(x==("__debug__" : Str))=false:=by decide)(hcd:(x==("__classdict__" : Str))=false:=by decide):PE X (.Name x pos) (TU i):=by
 intro pins s σ H Q I h;obtain ⟨v,e,h⟩:=h;obtain ⟨m,hn,hl⟩:=I.loc;obtain ⟨u,r,l⟩:=hl i x v hN e hv;have fin:EP X pins σ Q u s:=⟨v,H,I,r,h⟩;rcases l with ⟨hk,hm⟩|⟨hk,c,hc,hcell⟩
 ·exact yP (vU I.ok.kind hk hn hm fin) hd
 ·rcases hk with hk|hk
  ·exact yP (xc I.ok.kind hk hc hcell fin) hd
  ·exact yP (wpAny_loadName_free I.ok.kind hk hc hcell fin hcd) hd
theorem BG{i j pos}:PE X (.Constant (.int i) j pos) (tC (.int i)):=fun _ _ _ H _ I h=>wpAny_Constant_int ⟨.int i,H,I.tok _,⟨_,rfl⟩,h⟩
theorem Og{b j pos}:PE X (.Constant (.bool b) j pos) (tC (.bl b)):=fun _ _ _ H _ I h=>Constant_bool ⟨.bl b,H,I,rfl,h⟩
theorem tI{j pos}:PE X (.Constant .none j pos) (tC .Ft):=fun _ _ _ H _ I h=>ACs ⟨.Ft,H,I,rfl,h⟩
def Gl(X:Cx)(x:Str):Prop:=X.env.kindOf x=some .globalImplicit
theorem Xi{E:Value->Shared->Prop}{pins:List (Addr×Obj)}{s:Shared}{σ:St}{H:Hp}{x:Str}{u:Value}{pos:Pos}{Q:Value->Shared->Prop}(I:Inv X pins σ H s)(hg:Gl X x)(hm:X.mg x=some u)(h:Q u s)
  (hd:(x==("__debug__" : Str))=false:=by decide):wpAny (model X.prog X.w) X.A (eval (.Name x pos) X.env) Q E s :=
 ae I.ok.kind hg (Calls.loadGlobal_global (by rw[I.ok.glob];exact I.mod.glob.keeps I.bk) hm h) hd
theorem M6{E:Value->Shared->Prop}{pins:List (Addr×Obj)}{s:Shared}{σ:St}{H:Hp}{x:Str}{u:Value}{pos:Pos}{Q:Value->Shared->Prop}(I:Inv X pins σ H s)(hg:Gl X x)(hm:X.mg x=none)(hv:bootBuiltins x=some u)(h:Q u s)
  (hn:x ≠ "__name__" := by decide) (hd:(x==("__debug__" : Str))=false:=by decide):wpAny (model X.prog X.w) X.A (eval (.Name x pos) X.env) Q E s:=by
 obtain ⟨mb,h1,h2⟩:=I.mod.blt;exact ae I.ok.kind hg (Calls.loadGlobal_builtin (by rw[I.ok.glob];exact I.mod.glob.keeps I.bk) hm (by rw[I.ok.blt];exact h1.keeps I.bk) ((h2 x hn).trans hv) h) hd
theorem Bw{x:Str}{v:V}{u:Value}{pos:Pos}(hg:Gl X x)(hm:X.mg x=some u)(r:RelV v u)(hd:(x==("__debug__" : Str))=false:=by decide):PE X (.Name x pos) (tC v) :=
 fun _ _ _ H _ I h=>Xi I hg hm ⟨v,H,I,r,h⟩ hd
variable {a b:Expr} {ta tb:TE} {pos:Pos}
def PC(X:Cx)(op:CmpOp)(a b:Expr)(t:TE):Prop :=
 ∀(pins:List (Addr×Obj)) (s:Shared) (σ:St) (H:Hp) (Q:VK),Inv X pins σ H s->t σ H Q ->
  wpAny (model X.prog X.w) X.A (eval a X.env) (fun v s₁=>wpAny (model X.prog X.w) X.A (eval b X.env) (fun u s₂=>wpAny (model X.prog X.w) X.A (compareOp op v u) (EP X pins σ Q) X.xe s₂) X.xe s₁) X.xe s
theorem tJ(b:Expr){op:CmpOp}(h:op≠.In)(h2:op≠.NotIn):behindInMarks op b=false:=by
 have e1:(op==ACA)=false:=by cases op<;>first|rfl|exact absurd rfl h
 have e2:(op==AAH)=false:=by cases op<;>first|rfl|exact absurd rfl h2
 cases b<;>simp[behindInMarks,e1,e2]
def ACK(ta:TE):TE:=fun σ H Q=>ta σ H fun x H1=>Q (.bl (decide (x=.Ft))) H1
theorem RelV.tK{x:V}{v:Value}(r:RelV x v):(v==HR)=decide (x=.Ft):=by
 cases x with
 |Ft=>cases r;rfl
 |bl _=>cases r;rfl
 |int _=>obtain ⟨t,rfl⟩:=r;rfl
 |str _=>obtain ⟨t,rfl⟩:=r;rfl
 |a9 _=>obtain ⟨t,rfl⟩:=r;rfl
 |yw _=>obtain ⟨t,rfl⟩:=r;rfl
 |ref _=>cases r;rfl
 |ty _=>cases r;rfl
theorem YN{j pos'}(ha:PE X a ta):PC X .Is a (.Constant .none j pos') (ACK ta):=by
 intro pins s σ H Q I h;refine FH (ha pins s σ H _ I h) fun v s1 ⟨x,H1,I1,r1,q1⟩=>?_
 exact ACs (is_none_gen ⟨.bl _,H1,I1,by rw[r1.tK];rfl,q1⟩)
def tB(t:TE):TT:=fun σ H Q=>t σ H fun x H1=>∃c,x=.bl c/\Q c H1
theorem Ur{op:CmpOp}{t:TE}(h:PC X op a b t)(h1:behindInMarks op b=false:=by first|exact tJ _ (by decide) (by decide)|rfl):PT X (.Compare a [op] [b] pos) (tB t):=by
 intro pins s σ H Q I hw;refine vH (FH (h pins s σ H _ I hw) fun v s1 h1=>FH h1 fun u s2 h2=>FH h2 fun c s3 ⟨x,H1,I1,r1,q1⟩=>?_) h1;obtain ⟨d,rfl,q⟩:=q1;cases r1;exact Ds ⟨H1,I1,q⟩
theorem Ck{e:Expr}{t:TE}(h:PE X e t)(he:∀whole,isTrue e X.env whole=(do let v <-whole;standAt e.pos;holding [v] (truthy v)):=by intro _;rfl):PT X e (tB t):=by
 intro pins s σ H Q I hw;refine isTrue_plain (FH (h pins s σ H _ I hw) fun v s1 ⟨x,H1,I1,r1,q1⟩=>?_) (he _);obtain ⟨d,rfl,q⟩:=q1;cases r1;exact Ds ⟨H1,I1,q⟩
variable {tA tB':TT} {rest:List Expr}
def ACL(t u:TT):TT:=fun σ H Q=>t σ H fun c H1=>if c=true then u σ H1 Q else Q false H1
def tOr(t u:TT):TT:=fun σ H Q=>t σ H fun c H1=>if c=true then Q true H1 else u σ H1 Q
def ACN(t:TT):TT:=fun σ H Q=>t σ H fun c H1=>Q (!c) H1
theorem TV(ha:PT X a tA):PW X (.BoolOp .And [a] pos) tA:=by
 intro wh pins s σ H Q I h;refine isTrue_and (FH (ha pins s σ H Q I h) fun c s1 e=>?_);cases c with
 |true=>exact isTrue_and_nil e
 |false=>exact e
theorem Us(ha:PT X a tA):PW X (.BoolOp .Or [a] pos) tA:=by
 intro wh pins s σ H Q I h;refine isTrue_or (FH (ha pins s σ H Q I h) fun c s1 e=>?_);cases c with
 |false=>exact isTrue_or_nil e
 |true=>exact e
theorem YO(ha:PT X a tA)(hb:PW X (.BoolOp .And (b::rest) pos) tB'):PW X (.BoolOp .And (a::b::rest) pos) (ACL tA tB'):=by
 intro wh pins s σ H Q I h;refine isTrue_and (FH (ha pins s σ H _ I h) fun c s1 ⟨H1,I1,q1⟩=>?_);cases c with
 |true=>exact hb wh pins s1 σ H1 Q I1 q1
 |false=>exact ⟨H1,I1,q1⟩
theorem cS(ha:PT X a tA)(hb:PW X (.BoolOp .Or (b::rest) pos) tB'):PW X (.BoolOp .Or (a::b::rest) pos) (tOr tA tB'):=by
 intro wh pins s σ H Q I h;refine isTrue_or (FH (ha pins s σ H _ I h) fun c s1 ⟨H1,I1,q1⟩=>?_);cases c with
 |true=>exact ⟨H1,I1,q1⟩
 |false=>exact hb wh pins s1 σ H1 Q I1 q1
theorem FK(ha:PT X a tA):PT X (.UnaryOp .Not a pos) (ACN tA):=by
 intro pins s σ H Q I h;exact isTrue_not (ha pins s σ H (fun c H1=>Q (!c) H1) I h)
def AA3(ta tb:TE):TE:=fun σ H Q=>ta σ H fun x H1=>∃c,x=.bl c/\if c=true then tb σ H1 Q else Q (.bl false) H1
def AA4(ta tb:TE):TE:=fun σ H Q=>ta σ H fun x H1=>∃c,x=.bl c/\if c=true then Q (.bl true) H1 else tb σ H1 Q
def xw(ta:TE):TE:=fun σ H Q=>ta σ H fun x H1=>∃c,x=.bl c/\Q (.bl (!c)) H1
theorem fU{op}{t:TE}(h:PE X a t):PE X (.BoolOp op [a] pos) t:=fun pins s σ H Q I hw=>BoolOp_one (h pins s σ H Q I hw)
theorem fV(ha:PE X a ta)(hb:PE X (.BoolOp .And (b::rest) pos) tb):PE X (.BoolOp .And (a::b::rest) pos) (AA3 ta tb):=by
 intro pins s σ H Q I h;refine BoolOp_and (FH (ha pins s σ H _ I h) fun v s1 ⟨x,H1,I1,r1,q1⟩=>?_);obtain ⟨c,rfl,q1⟩:=q1;cases r1;refine Ds ?_;cases c with
 |true=>exact hb pins s1 σ H1 Q I1 q1
 |false=>exact ⟨.bl false,H1,I1,rfl,q1⟩
theorem AA5(ha:PE X a ta)(hb:PE X (.BoolOp .Or (b::rest) pos) tb):PE X (.BoolOp .Or (a::b::rest) pos) (AA4 ta tb):=by
 intro pins s σ H Q I h;refine BoolOp_or (FH (ha pins s σ H _ I h) fun v s1 ⟨x,H1,I1,r1,q1⟩=>?_);obtain ⟨c,rfl,q1⟩:=q1;cases r1;refine Ds ?_;cases c with
 |false=>exact hb pins s1 σ H1 Q I1 q1
 |true=>exact ⟨.bl true,H1,I1,rfl,q1⟩
theorem tL(ha:PE X a ta):PE X (.UnaryOp .Not a pos) (xw ta):=by
 intro pins s σ H Q I h;refine UnaryOp_ (FH (ha pins s σ H _ I h) fun v s1 ⟨x,H1,I1,r1,q1⟩=>?_);obtain ⟨c,rfl,q1⟩:=q1;cases r1;exact not_of (Ds ⟨.bl (!c),H1,I1,rfl,q1⟩)
def tIf(t:TT)(ta tb:TE):TE:=fun σ H Q=>t σ H fun c H1=>if c=true then ta σ H1 Q else tb σ H1 Q
theorem TX{c:Expr}(hc:PT X c tA)(ha:PE X a ta)(hb:PE X b tb):PE X (.IfExp c a b pos) (tIf tA ta tb):=by
 intro pins s σ H Q I h;refine wpAny_IfExp (FH (hc pins s σ H _ I h) fun d s1 ⟨H1,I1,q1⟩=>?_);cases d with
 |true=>exact ha pins s1 σ H1 Q I1 q1
 |false=>exact hb pins s1 σ H1 Q I1 q1
end
end L2
namespace L2
open PySem PySem.Spec PyProof.Rows
def Bq(K:AE)(H:Hp)(a:Addr)(xs:List V):Prop :=
 Rd H a (.lst xs) \/
  ∃(o:Obj) (its:Array Value) (n:Nat),K.lookup a=some o/\o.cls=.type "list" /\ o.dict=none/\o.data=.seq its n/\its.size<=sizeLine/\Vals xs its.toList
def DR(K:AE)(H:Hp)(a:Addr)(xs:List V):Prop :=
 Rd H a (.tup xs) \/
  ∃(o:Obj) (its:Array Value) (n:Nat),K.lookup a=some o/\o.cls=.type "tuple" /\ o.data=.seq its n/\its.size<=sizeLine/\Vals xs its.toList
def ACO:Value->Option V
 |.none=>some .Ft
 |.bool b=>some (.bl b)
 |.int i _=>some (.int i)
 |.str x _=>some (.str x)
 |.bytes b _=>some (.a9 b)
 |.float b _=>some (.yw b)
 |.ref a=>some (.ref a)
 |.type n=>some (.ty n)
 |_=>none
theorem RelV.abs{x:V}{u:Value}(r:RelV x u):ACO u=some x:=by
 cases x with
 |Ft=>cases r;rfl
 |bl _=>cases r;rfl
 |int _=>obtain ⟨t,rfl⟩:=r;rfl
 |str _=>obtain ⟨t,rfl⟩:=r;rfl
 |a9 _=>obtain ⟨t,rfl⟩:=r;rfl
 |yw _=>obtain ⟨t,rfl⟩:=r;rfl
 |ref _=>cases r;rfl
 |ty _=>cases r;rfl
theorem RelV.inj{x y:V}{u:Value}(r:RelV x u)(q:RelV y u):x=y:=Al (r.abs.symm.trans q.abs)
theorem Vals.inj:∀{xs ys:List V} {us:List Value},Vals xs us->Vals ys us->xs=ys
 |_,_,_,.nil,.nil=>rfl
 |_,_,_,.cons r t,.cons r' t'=>by rw[r.inj r',Vals.inj t t']
section
variable {X:Cx} {pins:List (Addr×Obj)} {σ:St} {H:Hp} {s:Shared} {a:Addr} {xs ys:List V}
theorem Bq.of{K:AE}(h:H a=some (.lst xs)):Bq K H a xs:=.inl (.inl h)
theorem DR.of{K:AE}(h:H a=some (.tup xs)):DR K H a xs:=.inl (.inl h)
theorem Inv.list(I:Inv X pins σ H s)(h:Bq X.K H a xs):∃its:List Value,Vals xs its/\PlainL s.heap a its.toArray/\xs.length<=sizeLine:=by
 rcases h with h|⟨o,its,n,hk,hc,hd,hs,hz,r⟩
 ·obtain ⟨z,its,n,r,e⟩:=h.ok I.C2;exact ⟨its,r,⟨_,n,e,rfl,rfl,rfl⟩,z⟩
 ·refine ⟨its.toList,r,⟨o,n,I.kl a o hk,hc,hd,by simpa using hs⟩,?_⟩;have e:=r.length;simp only[Df]at e;omega
theorem Inv.tuple(I:Inv X pins σ H s)(h:DR X.K H a xs):∃its:List Value,Vals xs its/\IsTup s.heap a its.toArray/\xs.length<=sizeLine:=by
 rcases h with h|⟨o,its,n,hk,hc,hs,hz,r⟩
 ·obtain ⟨z,its,r,p⟩:=h.ok I.C2;exact ⟨its,r,p.up,z⟩
 ·refine ⟨its.toList,r,⟨o,I.kl a o hk,hc,n,by simpa using hs⟩,?_⟩;have e:=r.length;simp only[Df]at e;omega
theorem Inv.YQ(I:Inv X pins σ H s)(h:Bq X.K H a xs)(h':Bq X.K H a ys):xs=ys:=by
 obtain ⟨its,r,⟨o,n,e,_,_,d⟩,_⟩:=I.list h;obtain ⟨its',r',⟨o',n',e',_,_,d'⟩,_⟩:=I.list h';rw[e]at e';cases e';rw[d]at d';injection d' with d1 _
 have:its=its':=by simpa using congrArg iF d1
 subst this;exact r.inj r'
theorem Inv.cT(I:Inv X pins σ H s)(h:DR X.K H a xs)(h':DR X.K H a ys):xs=ys:=by
 obtain ⟨its,r,⟨o,e,_,n,d⟩,_⟩:=I.tuple h;obtain ⟨its',r',⟨o',e',_,n',d'⟩,_⟩:=I.tuple h';rw[e]at e';cases e';rw[d]at d';injection d' with d1 _
 have:its=its':=by simpa using congrArg iF d1
 subst this;exact r.inj r'
end
abbrev Cx.wish(X:Cx)(E:Value->Shared->Prop):Cx:={ X with xe:=E }
abbrev Cx.vL(X:Cx):Cx:=X.wish fun _ _=>False
theorem Cx.Ok.wish{X:Cx}(ok:X.Ok)(E:Value->Shared->Prop):(X.wish E).Ok :=
 ⟨ok.mod,ok.kind,ok.glob,ok.blt,ok.above,ok.inj,ok.has,ok.cab,ok.hd,ok.frames,ok.stk,ok.exf,ok.bs,ok.pR,ok.tG,ok.tH,ok.LU,ok.pT⟩
theorem Cx.Ok.LV{X:Cx}{E:Value->Shared->Prop}(ok:(X.wish E).Ok):X.Ok :=
 ⟨ok.mod,ok.kind,ok.glob,ok.blt,ok.above,ok.inj,ok.has,ok.cab,ok.hd,ok.frames,ok.stk,ok.exf,ok.bs,ok.pR,ok.tG,ok.tH,ok.LU,ok.pT⟩
section
variable {X:Cx} {pins:List (Addr×Obj)} {σ:St} {H:Hp} {s:Shared} {E:Value->Shared->Prop}
theorem Inv.wish(I:Inv X pins σ H s)(E:Value->Shared->Prop):Inv (X.wish E) pins σ H s:=⟨I.ok.wish E,I.os,I.bare,I.base,I.loc,I.cell,I.free,I.Ng,I.pin,I.C2,I.len⟩
theorem Inv.LV(I:Inv (X.wish E) pins σ H s):Inv X pins σ H s:=⟨I.ok.LV,I.os,I.bare,I.base,I.loc,I.cell,I.free,I.Ng,I.pin,I.C2,I.len⟩
theorem SP.LV{D:Ends}{f:Flow}{s':Shared}(h:SP (X.wish E) pins D f s'):SP X pins D f s':=by
 cases f with
 |next=>obtain ⟨σ',H',I,q⟩:=h;exact ⟨σ',H',I.LV,q⟩
 |brk=>obtain ⟨σ',H',I,q⟩:=h;exact ⟨σ',H',I.LV,q⟩
 |cont=>obtain ⟨σ',H',I,q⟩:=h;exact ⟨σ',H',I.LV,q⟩
 |ret u=>obtain ⟨v,σ',H',I,r,q⟩:=h;exact ⟨v,σ',H',I.LV,r,q⟩
theorem PE.vL{e:Expr}{t:TE}(h:PE X.vL e t):PE X e t:=fun pins s σ H Q I hw =>
 DH (h pins s σ H Q (I.wish _) hw) (fun _ _ ⟨v,H',I',r,q⟩=>⟨v,H',I'.LV,r,q⟩) fun _ _ z=>C8 z
theorem PT.vL{e:Expr}{t:TT}(h:PT X.vL e t):PT X e t:=fun pins s σ H Q I hw =>
 DH (h pins s σ H Q (I.wish _) hw) (fun _ _ ⟨H',I',q⟩=>⟨H',I'.LV,q⟩) fun _ _ z=>C8 z
theorem nc.vL{st:List Stmt}{t:TS}(h:nc X.vL st t):nc X st t:=fun pins s σ H D I hw =>
 DH (h pins s σ H D (I.wish _) hw) (fun _ _ q=>q.LV) fun _ _ z=>C8 z
end
section
variable {X:Cx} {st:Stmt} {rest:List Stmt} {t u:TS} {e:Expr} {te:TE} {pos:Pos}
def AA6:TS:=fun D σ H=>D.nx σ H
def AA7(t u:TS):TS:=fun D σ H=>t { D with nx:=u D } σ H
theorem Bk:nc X [] AA6:=fun _ _ σ H _ I h=>Si ⟨σ,H,I,h⟩
theorem AH(h1:PS X st t)(h2:nc X rest u):nc X (st::rest) (AA7 t u):=by
 intro pins s σ H D I h;refine AAd (FH (h1 pins s σ H { D with nx:=u D } I h) fun f s1 q=>?_);cases f with
 |next =>
  obtain ⟨σ',H',I',q⟩:=q;exact h2 pins s1 σ' H' D I' q
 |ret v=>exact q
 |brk=>exact q
 |cont=>exact q
theorem AM(h1:PS X st t):nc X [st] t:=by
 intro pins s σ H D I h;refine AAd (FH (h1 pins s σ H D I h) fun f s1 q=>?_);cases f with
 |next=>exact Si q
 |ret v=>exact q
 |brk=>exact q
 |cont=>exact q
theorem Inv.quiet{pins:List (Addr×Obj)}{σ:St}{H:Hp}{s:Shared}(I:Inv X pins σ H s):interactive X.env=false:=by simp[interactive,I.ok.kind]
def xx(te:TE):TS:=fun D σ H=>te σ H fun _ H1=>D.nx σ H1
theorem Cw(he:PE X e te)(hs:swapsWith e none pos.line X.env=pure false:=by rfl):PS X (.Expr e pos) (xx te):=by
 intro pins s σ H D I h;exact wpAny_Expr_any (FH (he pins s σ H _ I h) fun v s1 ⟨x,H1,I1,r1,q1⟩=>⟨σ,H1,I1,q1⟩) I.quiet hs
def yz(te:TE):TS:=fun D σ H=>te σ H D.rt
theorem Am(he:PE X e te):PS X (.Return (some e) pos) (yz te):=by
 intro pins s σ H D I h;exact wpAny_Return_some (FH (he pins s σ H _ I h) fun v s1 ⟨x,H1,I1,r1,q1⟩=>⟨x,σ,H1,I1,r1,q1⟩)
def ACP(c:TT)(t u:TS):TS:=fun D σ H=>c σ H fun b H1=>if b=true then t D σ H1 else u D σ H1
theorem Cm{c:Expr}{a b:List Stmt}{tc:TT}(hc:PT X c tc)(ha:nc X a t)(hb:nc X b u):PS X (.If c a b pos) (ACP tc t u):=by
 intro pins s σ H D I h;refine wpAny_If (FH (hc pins s σ H _ I h) fun d s1 ⟨H1,I1,q1⟩=>?_);cases d with
 |true=>exact ha pins s1 σ H1 D I1 q1
 |false=>exact hb pins s1 σ H1 D I1 q1
end
abbrev TG:=V->St->Hp->(St->Hp->Prop)->Prop
abbrev y0:=List V->St->Hp->(St->Hp->Prop)->Prop
def PG(X:Cx)(target:Expr)(t:TG):Prop :=
 ∀(pins:List (Addr×Obj)) (s:Shared) (σ:St) (H:Hp) (v:V) (u:Value) (Q:St->Hp->Prop),Inv X pins σ H s->RelV v u->t v σ H Q ->
  wpAny (model X.prog X.w) X.A (assign target X.env u) (fun _ s'=>∃σ' H',Inv X pins σ' H' s'/\Q σ' H') X.xe s
def PGs(X:Cx)(ts:List Expr)(t:y0):Prop :=
 ∀(pins:List (Addr×Obj)) (s:Shared) (σ:St) (H:Hp) (vs:List V) (us:List Value) (Q:St->Hp->Prop),Inv X pins σ H s->Vals vs us->t vs σ H Q ->
  wpAny (model X.prog X.w) X.A (assignInOrder ((assignEach ts X.env).map (·.2)) us) (fun _ s'=>∃σ' H',Inv X pins σ' H' s'/\Q σ' H') X.xe s
abbrev y6:=V->V->V->Hp->(Hp->Prop)->Prop
def AA8(X:Cx)(t:y6):Prop :=
 ∀(pins:List (Addr×Obj)) (s:Shared) (σ:St) (H:Hp) (o i v:V) (ov iv u:Value) (Q:Hp->Prop),Inv X pins σ H s->RelV o ov->RelV i iv->RelV v u->t o i v H Q ->
  wpAny (model X.prog X.w) X.A (setItem ov iv u) (fun _ s'=>∃H',Inv X pins σ H' s'/\Q H') X.xe s
abbrev TIp:=V->V->Hp->VK->Prop
def PIp(X:Cx)(op:Operator)(t:TIp):Prop :=
 ∀(pins:List (Addr×Obj)) (s:Shared) (σ:St) (H:Hp) (x y:V) (v u:Value) (Q:VK),Inv X pins σ H s->RelV x v->RelV y u->t x y H Q ->
  wpAny (model X.prog X.w) X.A (inplaceOp op v u) (EP X pins σ Q) X.xe s
section
variable {X:Cx} {pos:Pos}
def YR(i:Nat):TG:=fun v σ H Q=>Q (σ.set i (some v)) H
theorem Bj{i:Nat}{x:Str}(hN:X.N.Nodup)(hi:X.N[i]?=some x)(hx:Loc X.env.scope x)(hf:X.fn x=true\/X.env.scope.names.lookup x=some .local:=by first|exact .inl rfl|exact .inr rfl|assumption):PG X (.Name x pos) (YR i):=by
 intro pins s σ H v u Q I r h;exact AAI (YM I hN hi hx r (fun s' I'=>⟨_,H,I',h⟩) hf)
def ACQ:y0:=fun vs σ H Q=>vs=[]/\Q σ H
def AA9(t:TG)(u:y0):y0:=fun vs σ H Q=>∃v r,vs=v::r/\t v σ H fun σ' H'=>u r σ' H' Q
theorem TY:PGs X [] ACQ:=by
 intro pins s σ H vs us Q I r h;obtain ⟨e,h⟩:=h;subst e;cases r;exact assignInOrder_nil ⟨σ,H,I,h⟩
theorem G3{e:Expr}{es:List Expr}{t:TG}{u:y0}(h1:PG X e t)(h2:PGs X es u)
  (hs:(assignEach (e::es) X.env).map (·.2)=assign e X.env::(assignEach es X.env).map (·.2):=by rfl):PGs X (e::es) (AA9 t u):=by
 intro pins s σ H vs us Q I r h;obtain ⟨v,vr,e1,h⟩:=h;subst e1;cases r with
 |cons r rr =>
  rw[hs];refine assignInOrder_cons (FH (h1 pins s σ H _ _ _ I r h) fun _ s1 ⟨σ1,H1,I1,q1⟩=>?_);exact h2 pins s1 σ1 H1 _ _ Q I1 rr q1
def ACR(K:AE)(n:Nat)(t:y0):TG:=fun v σ H Q=>∃a xs,v=.ref a/\DR K H a xs/\xs.length=n/\t xs σ H Q
theorem YS{es:List Expr}{k:Nat}{t:y0}{n:Nat}(hc:X.calm=true)(h:PGs X es t)
  (hn:(assignEach es X.env).length=n:=by rfl) (hst:(assignEach es X.env).findIdx? (·.1)=none:=by rfl):PG X (.Tuple es k pos) (ACR X.K n t):=by
 intro pins s σ H v u Q I r hw;obtain ⟨a,xs,e1,hq,hl,hw⟩:=hw;subst e1;cases r;obtain ⟨its,rv,ht,hz⟩:=I.tuple hq;refine assign_Tuple_tuple (I.ok.hd hc) ht (by simp[hn,<-hl,rv.length]) hst fun h' hx=>?_
 have I1:Inv X pins σ H { s with heap:=h' }:=I.kept (t':=s.toks) fun b o e=>hx b o (Bl (Av e)) e
 exact h pins _ σ H xs _ Q I1 (by simpa using rv) hw
def ACS(to ti:TE)(t:y6):TG:=fun v σ H Q=>to σ H fun o H1=>ti σ H1 fun i H2=>t o i v H2 fun H3=>Q σ H3
theorem Oh{o i:Expr}{to ti:TE}{t:y6}(ho:PE X o to)(hi:PE X i ti)(hs:AA8 X t)
  (ha:∀v,assign (.Subscript o i pos) X.env v=(do
   let ov <-holding [v] (eval o X.env)
   let iv <-holding [v,ov] (eval i X.env)
   standAt pos
   holding [v,ov,iv] (setItem ov iv v)
   release [v,ov,iv] []):=by intro _;rfl):PG X (.Subscript o i pos) (ACS to ti t):=by
 intro pins s σ H v u Q I r h;rw[ha];refine AL (EL (FH (ho pins s σ H _ I h) fun ov s1 ⟨x,H1,I1,r1,q1⟩=>?_));refine AL (EL (FH (hi pins s1 σ H1 _ I1 q1) fun iv s2 ⟨y,H2,I2,r2,q2⟩=>?_));refine AL (OR (AL (EL (FH (hs pins s2 σ H2 x y v ov iv u _ I2 r1 r2 r q2) fun _ s3 ⟨H3,I3,q3⟩=>?_))));exact wpAny_release ⟨σ,H3,I3,q3⟩
def y8(te:TE)(g:TG):TS:=fun D σ H=>te σ H fun x H1=>g x σ H1 D.nx
theorem Oi{tg e:Expr}{te:TE}{g:TG}(he:PE X e te)(hg:PG X tg g)(hs:swapsWithSole [tg] e pos.line X.env=pure false:=by rfl)(hw:swappedStores [tg] e X.env=pure none:=by rfl)
  (h1:(assignEach [tg] X.env).map (·.2)=[assign tg X.env]:=by rfl):PS X (.Assign [tg] e pos) (y8 te g):=by
 intro pins s σ H D I h;refine wpAny_Assign_stores (FH (he pins s σ H _ I h) fun v s1 ⟨x,H1,I1,r1,q1⟩=>?_) hs hw;rw[h1];exact FH (hg pins s1 σ H1 x v _ I1 r1 q1) fun _ s2 q=>q
theorem BF{i:Nat}{x:Str}{e:Expr}{te:TE}{pos':Pos}(hN:X.N.Nodup)(hi:X.N[i]?=some x)(hx:Loc X.env.scope x)(he:PE X e te)(hs:swapsWith e (some (.Name x pos')) pos.line X.env=pure false:=by rfl)(hf:X.fn x=true\/X.env.scope.names.lookup x=some .local:=by first|exact .inl rfl|exact .inr rfl|assumption) :
  PS X (.Assign [.Name x pos'] e pos) (y8 te (YR i)):=by
 intro pins s σ H D I h;refine wpAny_Assign_Name (FH (he pins s σ H _ I h) fun v s1 ⟨y,H1,I1,r1,q1⟩=>?_) hs;exact YM I1 hN hi hx r1 (fun s2 I2=>⟨_,H1,I2,q1⟩) hf
def ACT(i:Nat)(te:TE)(ti:TIp):TS:=fun D σ H=>∃x,σ[i]?=some (some x)/\te σ H fun y H1=>ti x y H1 fun z H2=>D.nx (σ.set i (some z)) H2
theorem y9{i:Nat}{x:Str}{e:Expr}{te:TE}{op:Operator}{ti:TIp}{pos':Pos}(hN:X.N.Nodup)(hi:X.N[i]?=some x)(hx:Loc X.env.scope x)(he:PE X e te)(ho:PIp X op ti)(hf:X.fn x=true\/X.env.scope.names.lookup x=some .local:=by first|exact .inl rfl|exact .inr rfl|assumption) :
  PS X (.AugAssign (.Name x pos') op e pos) (ACT i te ti):=by
 intro pins s σ H D I h;obtain ⟨v,e1,h⟩:=h;obtain ⟨m,hn,hl⟩:=I.loc;have vis:Vis X.env.scope x:=by rcases hx with k|k;exact .inl k;exact .inr (.inl k)
 obtain ⟨u,r,l⟩:=hl i x v hi e1 vis;refine wpAny_AugAssign_Name ?_;have go:wpAny (model X.prog X.w) X.A (eval e X.env) (fun w s₂=>wpAny (model X.prog X.w) X.A (inplaceOp op u w) (fun r s₃=>wpAny (model X.prog X.w) X.A (storeName X.env x r) (fun _=>SP X pins D .next) X.xe s₃) X.xe s₂) X.xe s:=by
  refine FH (he pins s σ H _ I h) fun w s1 ⟨y,H1,I1,r1,q1⟩=>?_
  refine FH (ho pins s1 σ H1 v y u w _ I1 r r1 q1) fun z s2 ⟨zv,H2,I2,r2,q2⟩=>?_
  exact YM I2 hN hi hx r2 (fun s3 I3=>⟨_,H2,I3,q2⟩) hf
 rcases l with ⟨hk,hm⟩|⟨hk,c,hc,hcell⟩
 ·exact vU I.ok.kind hk hn hm go
 ·rcases hk with hk|hk
  ·exact xc I.ok.kind hk hc hcell go
  ·rcases hx with k|k
   ·have:X.env.scope.names.lookup x=some .free:=hk
    rw[k]at this;cases this
   ·have:X.env.scope.names.lookup x=some .free:=hk
    rw[k]at this;cases this
def ipI(f:Int->Int->Int):TIp:=fun x y H Q=>∃i j,x=.int i/\y=.int j/\Q (.int (f i j)) H
theorem zA:PIp X .Add (ipI fun i j=>i+j):=by
 intro pins s σ H x y v u Q I r1 r2 h;obtain ⟨i,j,e1,e2,q⟩:=h;subst e1;subst e2;obtain ⟨t,rfl⟩:=r1;obtain ⟨t',rfl⟩:=r2;exact iadd_int ⟨.int _,H,I.tok _,⟨_,rfl⟩,q⟩
end
section
variable {X:Cx} {pos:Pos}
def zB(c:TT)(tb:TS):TS:=fun D σ H=>∃W:Nat->St->Hp->Prop,(∃m,W m σ H)/\∀m σ H,W m σ H ->
 c σ H fun b H1=>if b=true then ∃N:St->Hp->Prop,(∀σ' H',N σ' H'->∃m',m'<m/\W m' σ' H')/\tb { D with nx:=N,ct:=N,bk:=D.nx } σ H1 else D.nx σ H1
theorem YT{c:Expr}{body:List Stmt}{tc:TT}{tb:TS}(hp:PassesOwn (model X.prog X.w) X.A X.env X.xe)(hc:PT X c tc)(hb:nc X body tb):PS X (.While c body [] pos) (zB tc tb):=by
 intro pins s σ H D I h;obtain ⟨W,⟨m0,w0⟩,turn⟩:=h;refine wpAny_While (codeAny_whileLoop (fun n s'=>∃σ' H',Inv X pins σ' H' s'/\W n σ' H') ?_ m0 ⟨σ,H,I,w0⟩);rintro n s1 ⟨σ1,H1,I1,w1⟩;refine Gf hp (FH (hc pins s1 σ1 H1 _ I1 (turn n σ1 H1 w1)) fun b s2 ⟨H2,I2,q2⟩=>?_);cases b with
 |true =>
  obtain ⟨N,hN,q2⟩:=q2;rw[if_pos rfl];refine Gf hp (FH (hb pins s2 σ1 H2 _ I2 q2) fun f s3 q3=>?_);cases f with
  |next =>
   obtain ⟨σ3,H3,I3,n3⟩:=q3;obtain ⟨m',hm,w3⟩:=hN σ3 H3 n3;exact ⟨m',hm,σ3,H3,I3,w3⟩
  |cont =>
   obtain ⟨σ3,H3,I3,n3⟩:=q3;obtain ⟨m',hm,w3⟩:=hN σ3 H3 n3;exact ⟨m',hm,σ3,H3,I3,w3⟩
  |brk=>exact q3
  |ret v=>exact q3
 |false =>
  rw[if_neg AZ];exact Si ⟨σ1,H2,I2,q2⟩
end
structure It where
 go:Nat->Hp->Prop
 ng:Nat->Hp->V->Hp->Prop
 stop:Nat->Hp->Prop
def YU(X:Cx)(pins:List (Addr×Obj))(H:Hp)(b:Addr):Prop :=
 H b=none/\b≠X.env.locals/\b ∉ X.fs/\(b∈X.ex\/X.bB.heap.objs.size<=b)/\(∀x c,X.env.cells.lookup x=some c->c≠b)/\∀p∈X.pn++pins,p.1≠b
theorem Inv.lF{X:Cx}{pins:List (Addr×Obj)}{σ:St}{H H':Hp}{s:Shared}{b:Addr}(I:Inv X pins σ H s)(hb:s.heap.objs.size<=b)(hn:H' b=none):YU X pins H' b:=by
 refine ⟨hn,W3 (A9 I.lt hb),I.ACJ hb,.inr (AY I.sz hb),fun x c e z=>?_,fun p hp z=>?_⟩
 ·obtain ⟨v,q⟩:=I.cell x c e;exact absurd (A9 q.lt (by rw[z];exact hb)) (Bu _)
 ·exact absurd (A9 (Av (I.pin p hp).1) (by rw[z];exact hb)) (Bu _)
structure Turn(P:Program)(w:World)(K:AE)(tg:Expr)(J:It)(fp:List Addr)(it:Addr)(tn:Nat->Heap->Prop):Prop where
 mem:it∈fp
 obj:∀i h,tn i h->∀b∈fp,∃o,h.get? b=some o/\∀v,o.data≠.cell v
 keep:∀i h h',tn i h->(∀b∈fp,∀o,h.get? b=some o->h'.get? b=some o)->tn i h'
 item:∀(X:Cx),X.prog=P->X.w=w->X.K=K->X.calm=true->∀(i:Nat) (pins:List (Addr×Obj)) (s:Shared) (σ:St) (H:Hp) (E:Value->Shared->Prop),Inv X pins σ H s->(∀b∈fp,YU X pins H b)->tn i s.heap->J.go i H ->
  wpAny (model P w) X.A (pyNext (.ref it)) (fun r s1=>∃u,r=some u /\
   wpAny (model P w) X.A (letOwnedTupleGo tg (.ref it) u) (fun _ s2=>∃x H',Inv X pins σ H' s2/\RelV x u/\J.ng i H x H'/\tn (i+1) s2.heap/\∀b∈fp,H' b=none) E s1) E s
 done:∀(X:Cx),X.prog=P->X.w=w->X.K=K->X.calm=true->∀(i:Nat) (pins:List (Addr×Obj)) (s:Shared) (σ:St) (H:Hp) (E:Value->Shared->Prop),Inv X pins σ H s->(∀b∈fp,YU X pins H b)->tn i s.heap->J.stop i H ->
  wpAny (model P w) X.A (pyNext (.ref it)) (fun r s1=>r=none/\Inv X pins σ H s1) E s
 self:∀(A:Around) (i:Nat) (s:Shared) (Q:Value->Shared->Prop) (E:Value->Shared->Prop),tn i s.heap->Q (.ref it) s->wpAny (model P w) A (pyIter (.ref it)) Q E s
abbrev TI:=St->Hp->(It->Hp->Prop)->Prop
def PIE(X:Cx)(pins:List (Addr×Obj))(σ:St)(tg:Expr)(R:It->Hp->Prop)(itv:Value)(s2:Shared):Prop :=
 ∃(it:Addr) (fp:List Addr) (tn:Nat->Heap->Prop) (J:It) (H':Hp),itv=.ref it/\Inv X pins σ H' s2/\Turn X.prog X.w X.K tg J fp it tn/\tn 0 s2.heap/\(∀b∈fp,YU X pins H' b)/\R J H'
def PI(X:Cx)(tg iter:Expr)(wi:TI):Prop :=
 ∀(pins:List (Addr×Obj)) (s:Shared) (σ:St) (H:Hp) (R:It->Hp->Prop),Inv X pins σ H s->wi σ H R ->
  wpAny (model X.prog X.w) X.A (eval iter X.env) (fun v s1=>wpAny (model X.prog X.w) X.A (pyIter v) (PIE X pins σ tg R) X.xe s1) X.xe s
theorem nh{M:Model}{A:Around}{E:Value->Shared->Prop}{s:Shared}{tg:Expr}{it:Addr}{u:Value}{o:Obj}{n:String}{vs:Array Value}{Q:Unit->Shared->Prop}(ho:s.heap.get? it=some o)(hc:o.cls=.type n)(hd:o.data=.fields vs)
  (hn:["enumerate","zip","dict_itemiterator","dict_reverseitemiterator","odict_iterator","itertools.zip_longest","itertools.pairwise"].contains n=false) (hQ:Q () s):wpAny M A (letOwnedTupleGo tg (.ref it) u) Q E s:=by
 unfold letOwnedTupleGo;cases tg<;>first
  |exact A1 hQ
  |(cases u<;>first
    |exact A1 hQ
    |(refine AL (wpAny_load ho ?_);rw[hc,hd];show wpAny M A (if (["enumerate","zip","dict_itemiterator","dict_reverseitemiterator","odict_iterator","itertools.zip_longest","itertools.pairwise"].contains n&&vs[0]?==some (rawInt _))=true then _ else _) Q E s;rw[if_neg (by intro h;rw[hn,bp]at h;cases h)];exact A1 hQ))
def tM(K:AE)(a:Addr):It :=
 ⟨fun i H=>∃xs x,Bq K H a xs/\xs[i]?=some x,fun i H x H'=>H'=H/\∀xs,Bq K H a xs->xs[i]?=some x,fun i H=>∃xs,Bq K H a xs/\xs.length<=i⟩
def xy(K:AE)(a:Addr):It :=
 ⟨fun i H=>∃xs x,DR K H a xs/\xs[i]?=some x,fun i H x H'=>H'=H/\∀xs,DR K H a xs->xs[i]?=some x,fun i H=>∃xs,DR K H a xs/\xs.length<=i⟩
def pU(lo:Int)(n:Nat):It:=⟨fun i _=>i<n,fun i H x H'=>H'=H/\x=.int (lo+i),fun i _=>n<=i⟩
theorem pV{P:Program}{w:World}{K:AE}{tg:Expr}(a it:Addr):Turn P w K tg (tM K a) [it] it (fun i h=>h.IsListIter it a i) where
 mem:=by simp
 obj:=fun i h st b hb=>by
  have e:b=it:=by simpa using hb
  subst e;obtain ⟨o,e,c,d⟩:=st;exact ⟨o,e,fun v z=>by rw[d]at z;cases z⟩
 keep:=fun i h h' st k=>st.at fun o e=>k it (by simp) o e
 item:=by
  intro X hP hw hK hc i pins s σ H E I hf st hg;subst hP hw hK;obtain ⟨xs,x,hq,hx⟩:=hg;obtain ⟨its,rv,p,hz⟩:=I.list hq;obtain ⟨u,hu,ru⟩:=rv.get hx;obtain ⟨f0,f1,f2,f3,f4,f5⟩:=hf it (by simp);refine wpAny_pyNext_list_item st p.isList (x:=u) (by simpa using hu) fun h' st' sb=>?_
  have I1:Inv X pins σ H { s with heap:=h' }:=I.turned (t':=s.toks) (fun b o hb e=>(sb.2 b hb).trans e) f0 f1 f3 f4 f5;obtain ⟨o,e,c,d⟩:=id st';exact ⟨u,rfl,nh (s:={ s with heap:=h' }) e c d (by decide) ⟨x,H,I1,ru,⟨rfl,fun ys hy=>by rw[I.YQ hy hq];exact hx⟩,st',fun b hb=>(hf b hb).1⟩⟩
 done:=by
  intro X hP hw hK hc i pins s σ H E I hf st hg;subst hP hw hK;obtain ⟨xs,hq,hx⟩:=hg;obtain ⟨its,rv,p,hz⟩:=I.list hq;obtain ⟨f0,f1,f2,f3,f4,f5⟩:=hf it (by simp);have hl:=rv.length;exact wpAny_pyNext_list_end (I.ok.hd hc) st p.isList (by simp;omega) fun h' eb=>⟨rfl,I.turned (t':=s.toks) (fun b o hb e=>eb b o hb e) f0 f1 f3 f4 f5⟩
 self:=fun _ _ _ _ _ st h=>wpAny_pyIter_listiter st h
theorem lG{P:Program}{w:World}{K:AE}{tg:Expr}(a it:Addr):Turn P w K tg (xy K a) [it] it (fun i h=>h.IsTupleIter it a i) where
 mem:=by simp
 obj:=fun i h st b hb=>by
  have e:b=it:=by simpa using hb
  subst e;obtain ⟨o,e,c,d⟩:=st;exact ⟨o,e,fun v z=>by rw[d]at z;cases z⟩
 keep:=fun i h h' st k=>st.at fun o e=>k it (by simp) o e
 item:=by
  intro X hP hw hK hc i pins s σ H E I hf st hg;subst hP hw hK;obtain ⟨xs,x,hq,hx⟩:=hg;obtain ⟨its,rv,p,hz⟩:=I.tuple hq;obtain ⟨u,hu,ru⟩:=rv.get hx;obtain ⟨f0,f1,f2,f3,f4,f5⟩:=hf it (by simp);refine wpAny_pyNext_tuple_item st (show s.heap.IsTuple a its.toArray from p) (x:=u) (by simpa using hu) fun h' st' sb=>?_
  have I1:Inv X pins σ H { s with heap:=h' }:=I.turned (t':=s.toks) (fun b o hb e=>(sb.2 b hb).trans e) f0 f1 f3 f4 f5;obtain ⟨o,e,c,d⟩:=id st';exact ⟨u,rfl,nh (s:={ s with heap:=h' }) e c d (by decide) ⟨x,H,I1,ru,⟨rfl,fun ys hy=>by rw[I.cT hy hq];exact hx⟩,st',fun b hb=>(hf b hb).1⟩⟩
 done:=by
  intro X hP hw hK hc i pins s σ H E I hf st hg;subst hP hw hK;obtain ⟨xs,hq,hx⟩:=hg;obtain ⟨its,rv,p,hz⟩:=I.tuple hq;obtain ⟨f0,f1,f2,f3,f4,f5⟩:=hf it (by simp);have hl:=rv.length;exact wpAny_pyNext_tuple_end (I.ok.hd hc) st (show s.heap.IsTuple a its.toArray from p) (by simp;omega) fun h' eb=>⟨rfl,I.turned (t':=s.toks) (fun b o hb e=>eb b o hb e) f0 f1 f3 f4 f5⟩
 self:=fun _ _ _ _ _ st h=>wpAny_pyIter_tupleiter st h
theorem lH{P:Program}{w:World}{K:AE}{tg:Expr}(it:Addr)(lo:Int)(n:Nat):Turn P w K tg (pU lo n) [it] it (fun i h=>IsRangeIter h it (lo+(i:Nat)*1) ((n:Int)-(i:Nat)) 1) where
 mem:=by simp
 obj:=fun i h st b hb=>by
  have e:b=it:=by simpa using hb
  subst e;exact ⟨_,st,fun v z=>by
   have z':Data.fields _=Data.cell v:=z;cases z'⟩
 keep:=fun i h h' st k=>k it (by simp) _ st
 item:=by
  intro X hP hw hK hc i pins s σ H E I hf st hg;subst hP hw hK;obtain ⟨f0,f1,f2,f3,f4,f5⟩:=hf it (by simp);have W:=Walks.range (prog:=X.prog) (w:=X.w) (I.ok.hd hc) it lo 1 n;refine W.item i s _ _ hg st fun v h' tk hv st' kk=>?_
  obtain ⟨t,rfl⟩:=hv;have I1:Inv X pins σ H { s with heap:=h',toks:=tk }:=I.turned (fun b o hb e=>kk b o (by simpa using hb) e) f0 f1 f3 f4 f5;refine ⟨_,rfl,nh (s:={ s with heap:=h',toks:=tk }) (n := "range_iterator") st' rfl rfl (by decide) ⟨.int (lo+i),H,I1,⟨t,?_⟩,⟨rfl,rfl⟩,st',fun b hb=>(hf b hb).1⟩⟩;rw[Int.mul_one]
 done:=by
  intro X hP hw hK hc i pins s σ H E I hf st hg;subst hP hw hK;obtain ⟨f0,f1,f2,f3,f4,f5⟩:=hf it (by simp);exact wpAny_pyNext_range_end (I.ok.hd hc) st (by have:n<=i:=hg;omega) fun h' eb=>⟨rfl,I.turned (t':=s.toks) (fun b o hb e=>eb b o hb e) f0 f1 f3 f4 f5⟩
 self:=fun _ _ _ _ _ st h=>wpAny_pyIter_rangeiter st h
end L2
namespace L2
open PySem PySem.Spec PyProof.Rows
section
variable {X:Cx} {tg:Expr}
def x9(K:AE)(tl:TE):TI:=fun σ H R=>tl σ H fun x H1=>∃a,x=.ref a/\(∃xs,Bq K H1 a xs)/\R (tM K a) H1
def ACU(K:AE)(tl:TE):TI:=fun σ H R=>tl σ H fun x H1=>∃a,x=.ref a/\(∃xs,DR K H1 a xs)/\R (xy K a) H1
theorem DO{l:Expr}{tl:TE}(hl:PE X l tl):PI X tg l (x9 X.K tl):=by
 intro pins s σ H R I h;refine FH (hl pins s σ H _ I h) fun v s1 ⟨x,H1,I1,r1,q1⟩=>?_
 obtain ⟨a,e,⟨xs,hq⟩,q⟩:=q1;subst e;cases r1;obtain ⟨its,rv,p,hz⟩:=I1.list hq;refine af p.isList ?_;refine ⟨s1.heap.objs.size,[s1.heap.objs.size],_,_,H1,rfl,I1.kept (t':=s1.toks) fun b o e=>AW _ e,pV a _,⟨_,BA _ rfl,rfl,rfl⟩,fun b hb=>?_,q⟩;have e:b=s1.heap.objs.size:=by simpa using hb
 subst e;exact I1.lF (AV _) (I1.C2.fresh (AV _))
theorem YV{l:Expr}{tl:TE}(hl:PE X l tl):PI X tg l (ACU X.K tl):=by
 intro pins s σ H R I h;refine FH (hl pins s σ H _ I h) fun v s1 ⟨x,H1,I1,r1,q1⟩=>?_
 obtain ⟨a,e,⟨xs,hq⟩,q⟩:=q1;subst e;cases r1;obtain ⟨its,rv,p,hz⟩:=I1.tuple hq;refine Mt (show s1.heap.IsTuple a its.toArray from p) ?_;refine ⟨s1.heap.objs.size,[s1.heap.objs.size],_,_,H1,rfl,I1.kept (t':=s1.toks) fun b o e=>AW _ e,lG a _,⟨_,BA _ rfl,rfl,rfl⟩,fun b hb=>?_,q⟩;have e:b=s1.heap.objs.size:=by simpa using hb
 subst e;exact I1.lF (AV _) (I1.C2.fresh (AV _))
theorem ir{pins:List (Addr×Obj)}{σ:St}{H:Hp}{s:Shared}{R:It->Hp->Prop}{E:Value->Shared->Prop}{lo hi:Int}{t u v:Tok}{tk:Nat}(I:Inv X pins σ H s)(h1 : -(2 ^ 62)<=lo)(h2:lo<2 ^ 62)(h3 : -(2 ^ 62)<=hi)(h4:hi<2 ^ 62)
  (q:R (pU lo (hi-lo).toNat) H):wpAny (model X.prog X.w) X.A (pyIter (.ref s.heap.objs.size)) (PIE X pins σ tg R) E { s with heap:=s.heap.push { cls:=.type "range",data:=.fields #[.int lo t,.int hi u,.int 1 v] },toks:=tk }:=by
 refine wpAny_pyIter_range (IsRange.new ..) (AAe h1 h2 h3 h4) ?_;have I1:Inv X pins σ H { s with heap:=s.heap.push { cls:=.type "range",data:=.fields #[.int lo t,.int hi u,.int 1 v] },toks:=tk }:=I.kept fun b o e=>AW _ e
 refine ⟨(s.heap.push { cls:=.type "range",data:=.fields #[.int lo t,.int hi u,.int 1 v] }).objs.size,[(s.heap.push { cls:=.type "range",data:=.fields #[.int lo t,.int hi u,.int 1 v] }).objs.size],_,_,H,rfl,
  I1.kept (t':=tk) fun b o e=>AW _ e,lH _ lo (hi-lo).toNat,?_,fun b hb=>?_,q⟩
 ·have e1:lo+((0:Nat):Int)*1=lo:=by simp
  have e2:(((hi-lo).toNat:Nat):Int)-((0:Nat):Int)=Ew lo hi 1:=by rw[oj];split<;>omega
  show IsRangeIter _ _ (lo+((0:Nat):Int)*1) ((((hi-lo).toNat:Nat):Int)-((0:Nat):Int)) 1;rw[e1,e2];exact BA _ rfl
 ·have e:b=(s.heap.push { cls:=.type "range",data:=.fields #[.int lo t,.int hi u,.int 1 v] }).objs.size:=by simpa using hb
  subst e;exact I1.lF (AV _) (I1.C2.fresh (AV _))
def ABA(ta:TA):TI:=fun σ H R=>ta σ H fun vs H1=>∃j:Int,vs=[.int j] /\ -(2 ^ 62)<=j/\j<2 ^ 62/\R (pU 0 j.toNat) H1
def ABB(ta:TA):TI:=fun σ H R=>ta σ H fun vs H1=>∃i j:Int,vs=[.int i,.int j]/\(-(2 ^ 62)<=i/\i<2 ^ 62 /\ -(2 ^ 62)<=j/\j<2 ^ 62)/\R (pU i (j-i).toNat) H1
theorem EG{a:Expr}{ta:TA}{p pos:Pos}(hg:Gl X "range")(hm:X.mg "range" = none)(ha:PA X [a] ta)(hs:starEach [a] X.env=[(false,eval a X.env)]:=by rfl):PI X tg (.Call (.Name "range" p) [a] [] pos) (ABA ta):=by
 intro pins s σ H R I h;refine Call_ (M6 I hg hm yQ (Cn (FH (ha pos pins s σ H _ I h) fun us s1 ⟨vs,H1,I1,r1,q1⟩=>?_) hs rfl));obtain ⟨j,e,q1,q2,q⟩:=q1;subst e;cases r1 with
 |cons r rr =>
  cases rr;obtain ⟨t,rfl⟩:=r;exact call_range_1 (ir I1 (by omega) (by omega) q1 q2 (by simpa using q))
theorem pW{a b:Expr}{ta:TA}{p pos:Pos}(hg:Gl X "range")(hm:X.mg "range" = none)(ha:PA X [a,b] ta)(hs:starEach [a,b] X.env=[(false,eval a X.env),(false,eval b X.env)]:=by rfl)(hs2:starEach [b] X.env=[(false,eval b X.env)]:=by rfl) :
  PI X tg (.Call (.Name "range" p) [a,b] [] pos) (ABB ta):=by
 intro pins s σ H R I h;refine Call_ (M6 I hg hm yQ (Cn (FH (ha pos pins s σ H _ I h) fun us s1 ⟨vs,H1,I1,r1,q1⟩=>?_) (by rw[hs,hs2]) (by rw[hs2];rfl)));obtain ⟨i,j,e,⟨q1,q2,q3,q4⟩,q⟩:=q1;subst e;cases r1 with
 |cons r rr =>
  cases rr with
  |cons r' rr =>
   cases rr;obtain ⟨t,rfl⟩:=r;obtain ⟨t',rfl⟩:=r';exact call_range_2 (ir I1 q1 q2 q3 q4 q)
def ACV(wi:TI)(g:TG)(tb:TS):TS:=fun D σ H=>wi σ H fun J H1=>∃W:Nat->Nat->St->Hp->Prop,(∃m,W 0 m σ H1)/\∀i m σ H,W i m σ H ->
 (J.stop i H/\D.nx σ H)\/(J.go i H/\∃N:St->Hp->Prop,(∀σ' H',N σ' H'->∃m',m'<m/\W (i+1) m' σ' H')/\∀x H',J.ng i H x H'->g x σ H' fun σ2 H2=>tb { D with nx:=N,ct:=N,bk:=D.nx } σ2 H2)
def YW(fp:List Addr)(h:Heap):List (Addr×Obj):=fp.filterMap fun b=>(h.get? b).map fun o=>(b,o)
theorem Rp{fp:List Addr}{h:Heap}{b:Addr}{o:Obj}(hb:b∈fp)(e:h.get? b=some o):(b,o)∈YW fp h:=rP.mpr ⟨b,hb,by rw[e];rfl⟩
theorem pX{fp:List Addr}{h:Heap}{p:Addr×Obj}(hp:p∈YW fp h):p.1∈fp/\h.get? p.1=some p.2:=by
 obtain ⟨b,hb,e⟩:=rP.mp hp;cases q:h.get? b with
 |none=>rw[q]at e;cases e
 |some o =>
  rw[q]at e;have e':(b,o)=p:=Al e;subst e';exact ⟨hb,q⟩
theorem Inv.pinned{pins:List (Addr×Obj)}{σ:St}{H:Hp}{s:Shared}{fp:List Addr}(I:Inv X pins σ H s)(hf:∀b∈fp,YU X pins H b)(ho:∀b∈fp,∃o,s.heap.get? b=some o/\∀v,o.data≠.cell v):Inv X (pins++YW fp s.heap) σ H s :=
 I.nZ fun p hp=>(BN.mp hp).elim (fun z=>I.pin p (CD _ z)) fun z=>by
  obtain ⟨hb,e⟩:=pX z;obtain ⟨f0,f1,f2,_⟩:=hf p.1 hb;obtain ⟨o,e',d⟩:=ho p.1 hb;rw[e]at e';cases e';exact ⟨e,f0,f1,f2,d⟩
theorem Inv.TZ{pins pl:List (Addr×Obj)}{σ:St}{H:Hp}{s:Shared}(I:Inv X (pins++pl) σ H s):Inv X pins σ H s:=I.nZ fun p hp=>I.pin p (CD _ (DQ _ hp))
theorem FY{iter:Expr}{body:List Stmt}{wi:TI}{g:TG}{tb:TS}{pos:Pos}(hp:PassesOwn (model X.prog X.w) X.A X.env X.xe)(hc:X.calm=true)(hi:PI X tg iter wi)(hg:PG X tg g)(hb:nc X body tb)
  (hs:∀x,foldedSetIterable iter X.env x=pure x:=by intro _;rfl):PS X (.For tg iter body [] pos) (ACV wi g tb):=by
 intro pins s σ H D I h;refine wpAny_For (FH (hi pins s σ H _ I h) fun v s1 h1=>FH h1 fun itv s2 h2=>?_) hs;obtain ⟨it,fp,tn,J,H2,e,I2,T,st2,f2,W,⟨m0,w0⟩,turn⟩:=h2;subst e;have stat:∀{H':Hp},(∀b∈fp,H' b=none)->∀b∈fp,YU X pins H' b:=fun hn b hb=>⟨hn b hb,(f2 b hb).2⟩
 refine codeAny_forLoop_any (fun n s'=>∃i σ' H',Inv X pins σ' H' s'/\tn i s'.heap/\(∀b∈fp,H' b=none)/\W i n σ' H') ?_ m0 ⟨0,σ,H2,I2,st2,fun b hb=>(f2 b hb).1,w0⟩;rintro n s3 ⟨i,σ3,H3,I3,st3,fr3,w3⟩;rcases turn i n σ3 H3 w3 with ⟨stop,qn⟩|⟨go,N,hN,step⟩
 ·refine Gf hp (FH (T.done X rfl rfl rfl hc i pins s3 σ3 H3 X.xe I3 (stat fr3) st3 stop) fun r s4 ⟨hr,I4⟩=>?_);subst hr;exact Si ⟨σ3,H3,I4,qn⟩
 ·refine Gf hp (FH (T.item X rfl rfl rfl hc i pins s3 σ3 H3 X.xe I3 (stat fr3) st3 go) fun r s4 ⟨u,hr,h4⟩=>?_);subst hr;refine Gf hp (FH h4 fun _ s5 ⟨x,H5,I5,r5,y5,st5,fr5⟩=>?_);have I5':=I5.pinned (stat fr5) (T.obj _ _ st5);refine Gf hp (FH (hg _ s5 σ3 H5 x u _ I5' r5 (step x H5 y5)) fun _ s6 ⟨σ6,H6,I6,q6⟩=>?_);refine Gf hp (FH (hb _ s6 σ6 H6 _ I6 q6) fun f s7 q7=>?_);have again:∀{σ7:St} {H7:Hp},Inv X (pins++YW fp s5.heap) σ7 H7 s7->N σ7 H7->∃m,m<n/\∃i σ' H',Inv X pins σ' H' s7/\tn i s7.heap/\(∀b∈fp,H' b=none)/\W i m σ' H':=fun {σ7 H7} I7 n7=>by
   obtain ⟨m',hm,w7⟩:=hN σ7 H7 n7;refine ⟨m',hm,i+1,σ7,H7,I7.TZ,T.keep _ _ _ st5 fun b hb o e=>(I7.pin (b,o) (CD _ (CD _ (Rp hb e)))).1,fun b hb=>?_,w7⟩;obtain ⟨o,e,d⟩:=T.obj _ _ st5 b hb;exact (I7.pin (b,o) (CD _ (CD _ (Rp hb e)))).2.1
  cases f with
  |next=>obtain ⟨σ7,H7,I7,n7⟩:=q7;exact again I7 n7
  |cont=>obtain ⟨σ7,H7,I7,n7⟩:=q7;exact again I7 n7
  |brk=>obtain ⟨σ7,H7,I7,q7⟩:=q7;exact ⟨σ7,H7,I7.TZ,q7⟩
  |ret v=>obtain ⟨x7,σ7,H7,I7,r7,q7⟩:=q7;exact ⟨x7,σ7,H7,I7.TZ,r7,q7⟩
end
theorem G4{K:AE}{a:Addr}{xs:List V}{g:TG}{tb:TS}{D:Ends}{σ:St}{H:Hp}(Pv:Nat->St->Hp->Prop)(h0:Pv 0 σ H)(hl:∀i σ H,i<=xs.length->Pv i σ H->Bq K H a xs)
  (hs:∀i x σ H,xs[i]?=some x->Pv i σ H->g x σ H fun σ2 H2=>tb { D with nx:=Pv (i+1),ct:=Pv (i+1),bk:=D.nx } σ2 H2) (hd:∀σ H,Pv xs.length σ H->D.nx σ H) :
  ∃W:Nat->Nat->St->Hp->Prop,(∃m,W 0 m σ H)/\∀i m σ H,W i m σ H ->
   ((tM K a).stop i H/\D.nx σ H)\/((tM K a).go i H/\∃N:St->Hp->Prop,(∀σ' H',N σ' H'->∃m',m'<m/\W (i+1) m' σ' H')/\∀x H',(tM K a).ng i H x H'->g x σ H' fun σ2 H2=>tb { D with nx:=N,ct:=N,bk:=D.nx } σ2 H2):=by
 refine ⟨fun i m σ H=>m=xs.length-i/\i<=xs.length/\Pv i σ H,⟨xs.length,by simp,Bb _,h0⟩,?_⟩;rintro i m σ H ⟨rfl,hi,p⟩;have q:=hl i σ H hi p
 by_cases hlt:i<xs.length
 ·refine .inr ⟨⟨xs,xs[i],q,by simp[hlt]⟩,Pv (i+1),fun σ' H' p'=>⟨xs.length-(i+1),by omega,rfl,hlt,p'⟩,fun x H' y=>?_⟩;obtain ⟨e,y⟩:=y;subst e;exact hs i x σ _ (y xs q) p
 ·have e:i=xs.length:=by omega
  subst e;exact .inl ⟨⟨xs,q,AV _⟩,hd σ H p⟩
theorem L9{lo:Int}{n:Nat}{g:TG}{tb:TS}{D:Ends}{σ:St}{H:Hp}(Pv:Nat->St->Hp->Prop)(h0:Pv 0 σ H)
  (hs:∀i σ H,i<n->Pv i σ H->g (.int (lo+i)) σ H fun σ2 H2=>tb { D with nx:=Pv (i+1),ct:=Pv (i+1),bk:=D.nx } σ2 H2) (hd:∀σ H,Pv n σ H->D.nx σ H) :
  ∃W:Nat->Nat->St->Hp->Prop,(∃m,W 0 m σ H)/\∀i m σ H,W i m σ H ->
   ((pU lo n).stop i H/\D.nx σ H)\/((pU lo n).go i H/\∃N:St->Hp->Prop,(∀σ' H',N σ' H'->∃m',m'<m/\W (i+1) m' σ' H')/\∀x H',(pU lo n).ng i H x H'->g x σ H' fun σ2 H2=>tb { D with nx:=N,ct:=N,bk:=D.nx } σ2 H2):=by
 refine ⟨fun i m σ H=>m=n-i/\i<=n/\Pv i σ H,⟨n,by simp,Bb _,h0⟩,?_⟩;rintro i m σ H ⟨rfl,hi,p⟩
 by_cases hlt:i<n
 ·refine .inr ⟨hlt,Pv (i+1),fun σ' H' p'=>⟨n-(i+1),by omega,rfl,hlt,p'⟩,fun x H' y=>?_⟩;obtain ⟨e,y⟩:=y;subst e y;exact hs i σ _ hlt p
 ·have e:i=n:=by omega
  subst e;exact .inl ⟨AV _,hd σ H p⟩
end L2
namespace L2
open PySem PySem.Spec PyProof.Rows
abbrev R2:=V->V->Hp->VK->Prop
def V9(X:Cx)(f:Value->Value->Sem Value)(r:R2):Prop :=
 ∀(pins:List (Addr×Obj)) (s:Shared) (σ:St) (H:Hp) (x y:V) (v u:Value) (Q:VK),Inv X pins σ H s->RelV x v->RelV y u->r x y H Q ->
  wpAny (model X.prog X.w) X.A (f v u) (EP X pins σ Q) X.xe s
def JX(X:Cx)(f:Value)(r:List V->Hp->VK->Prop):Prop :=
 ∀(pins:List (Addr×Obj)) (s:Shared) (σ:St) (H:Hp) (xs:List V) (us:List Value) (Q:VK),Inv X pins σ H s->Vals xs us->r xs H Q ->
  wpAny (model X.prog X.w) X.A (call f us) (EP X pins σ Q) X.xe s
def ACW(X:Cx)(r:V->Hp->(Bool->Hp->Prop)->Prop):Prop :=
 ∀(pins:List (Addr×Obj)) (s:Shared) (σ:St) (H:Hp) (x:V) (v:Value) (Q:Bool->Hp->Prop),Inv X pins σ H s->RelV x v->r x H Q ->
  wpAny (model X.prog X.w) X.A (truthy v) (TP X pins σ Q) X.xe s
def tOp(r:R2)(ta tb:TE):TE:=fun σ H Q=>ta σ H fun x H1=>tb σ H1 fun y H2=>r x y H2 Q
def rI(C:Int->Int->Prop)(g:Int->Int->V):R2:=fun x y H Q=>∃i j,x=.int i/\y=.int j/\C i j/\Q (g i j) H
def wK(g:Int->Int->V):R2:=fun x y H Q=>∃i j,x=.int i/\y=.int j/\Q (g i j) H
section
variable {X:Cx} {a b c:Expr} {ta tb tc:TE} {pos:Pos}
theorem zC(ha:PE X a ta)(hb:PE X b tb){pins:List (Addr×Obj)}{s:Shared}{σ:St}{H:Hp}{R:V->V->Hp->Prop}(I:Inv X pins σ H s)
  (h:ta σ H fun x H1=>tb σ H1 fun y H2=>R x y H2) {Q:Value->Shared->Prop} {f:Value->Value->Sem Value}
  (hf:∀v u s2 x y H2,Inv X pins σ H2 s2->RelV x v->RelV y u->R x y H2->wpAny (model X.prog X.w) X.A (f v u) Q X.xe s2) :
  wpAny (model X.prog X.w) X.A (eval a X.env) (fun v s₁=>wpAny (model X.prog X.w) X.A (eval b X.env) (fun u s₂=>wpAny (model X.prog X.w) X.A (f v u) Q X.xe s₂) X.xe s₁) X.xe s:=by
 refine FH (ha pins s σ H _ I h) fun v s1 ⟨x,H1,I1,r1,q1⟩=>?_
 refine FH (hb pins s1 σ H1 _ I1 q1) fun u s2 ⟨y,H2,I2,r2,q2⟩=>?_
 exact hf v u s2 x y H2 I2 r1 r2 q2
theorem CZ{op:Operator}{r:R2}(ho:V9 X (binaryOp op) r)(ha:PE X a ta)(hb:PE X b tb):PE X (.BinOp a op b pos) (tOp r ta tb):=by
 intro pins s σ H Q I h;exact wpAny_BinOp (zC ha hb I h fun v u s2 x y H2 I2 rx ry q=>ho pins s2 σ H2 x y v u Q I2 rx ry q)
theorem opI{f:Value->Value->Sem Value}{C:Int->Int->Prop}{g:Int->Int->Int}
  (rule:∀(i j:Int) (t u:Tok) (s:Shared) (Q:Value->Shared->Prop) (E:Value->Shared->Prop),C i j->Q (.int (g i j) s.toks) { s with toks:=s.toks+1 }->wpAny (model X.prog X.w) X.A (f (.int i t) (.int j u)) Q E s) :
  V9 X f (rI C fun i j=>.int (g i j)):=by
 intro pins s σ H x y v u Q I rx ry h;obtain ⟨i,j,rfl,rfl,hc,q⟩:=h;obtain ⟨t,rfl⟩:=rx;obtain ⟨t',rfl⟩:=ry;exact rule i j t t' s _ _ hc ⟨.int (g i j),H,I.tok _,⟨_,rfl⟩,q⟩
theorem wL{f:Value->Value->Sem Value}{g:Int->Int->Int}
  (rule:∀(i j:Int) (t u:Tok) (s:Shared) (Q:Value->Shared->Prop) (E:Value->Shared->Prop),Q (.int (g i j) s.toks) { s with toks:=s.toks+1 }->wpAny (model X.prog X.w) X.A (f (.int i t) (.int j u)) Q E s) :
  V9 X f (wK fun i j=>.int (g i j)):=by
 intro pins s σ H x y v u Q I rx ry h;obtain ⟨i,j,rfl,rfl,q⟩:=h;obtain ⟨t,rfl⟩:=rx;obtain ⟨t',rfl⟩:=ry;exact rule i j t t' s _ _ ⟨.int (g i j),H,I.tok _,⟨_,rfl⟩,q⟩
theorem zD{f:Value->Value->Sem Value}{g:Int->Int->Bool}
  (rule:∀(i j:Int) (t u:Tok) (s:Shared) (Q:Value->Shared->Prop) (E:Value->Shared->Prop),Q (.bool (g i j)) s->wpAny (model X.prog X.w) X.A (f (.int i t) (.int j u)) Q E s) :
  V9 X f (wK fun i j=>.bl (g i j)):=by
 intro pins s σ H x y v u Q I rx ry h;obtain ⟨i,j,rfl,rfl,q⟩:=h;obtain ⟨t,rfl⟩:=rx;obtain ⟨t',rfl⟩:=ry;exact rule i j t t' s _ _ ⟨.bl (g i j),H,I,rfl,q⟩
def ACX(i j:Int):Prop:=0<=j/\j<=1000000/\i.natAbs<2 ^ 64
theorem lI(k:Nat):(0:Int)<=2 ^ k:=by
 rw[two_pow_cast];exact rY _
theorem JH:V9 X (binaryOp .Add) (wK fun i j=>.int (i+j)):=wL fun _ _ _ _ _ _ _ q=>add_int q
theorem J6:V9 X (binaryOp .Sub) (wK fun i j=>.int (i-j)):=wL fun _ _ _ _ _ _ _ q=>sub_int q
theorem zE:V9 X (binaryOp .Mod) (rI (fun _ j=>0<j) fun i j=>.int (i % j)):=opI fun i j _ _ _ _ _ hc q=>by
 have h1:(0:Int)<j:=hc;exact mod_int' (by omega) (by rw[Int.fmod_eq_emod_of_nonneg i (by omega)];exact q)
theorem tN:V9 X (binaryOp .LShift) (rI ACX fun i j=>.int (i*2 ^ j.toNat)):=opI fun _ _ _ _ _ _ _ hc q=>lshift_int_small hc.1 hc.2.1 hc.2.2 q
theorem zF:V9 X (binaryOp .RShift) (rI (fun _ j=>0<=j) fun i j=>.int (i / 2 ^ j.toNat)):=opI fun i j _ _ _ _ _ hc q =>
 rshift_int hc (by rw[eU i (lI _)];exact q)
theorem zG:V9 X (binaryOp .BitAnd) (wK fun i j=>.int (OS i j)):=wL fun _ _ _ _ _ _ _ q=>and_int q
theorem ABC:V9 X (binaryOp .BitOr) (wK fun i j=>.int (ag i j)):=wL fun _ _ _ _ _ _ _ q=>or_int q
end
def ABD:V->V->Bool
 |.Ft,.Ft=>true|.Ft,.int _=>true|.int _,.Ft=>true|.Ft,.bl _=>true|.bl _,.Ft=>true|.Ft,.str _=>true|.str _,.Ft=>true
 |.int _,.int _=>true|.bl _,.bl _=>true|.str _,.str _=>true|.a9 _,.a9 _=>true
 |.int _,.str _=>true|.str _,.int _=>true|.bl _,.str _=>true|.str _,.bl _=>true
 |_,_=>false
def rEq:R2:=fun x y H Q=>ABD x y=true/\Q (.bl (decide (x=y))) H
def rNe:R2:=fun x y H Q=>ABD x y=true/\Q (.bl (!decide (x=y))) H
theorem ni{i j:Int}:decide (V.int i=V.int j)=(i==j):=by
 rw[C4];simp
theorem tO{i j:Bool}:decide (V.bl i=V.bl j)=(i==j):=by
 rw[C4];simp
theorem nj{i j:Str}:decide (V.str i=V.str j)=(i==j):=by
 rw[C4];simp
theorem nk{i j:Array UInt8}:decide (V.a9 i=V.a9 j)=(i.toList==j.toList):=by
 rw[C4];cases i;cases j;simp
section
variable {X:Cx} {a b c:Expr} {ta tb tc:TE} {pos:Pos}
theorem DP{pins:List (Addr×Obj)}{σ:St}{H:Hp}{s:Shared}{Q:VK}{k k':Bool}(I:Inv X pins σ H s)(q:Q (.bl k) H)(e:k=k'):EP X pins σ Q (.bool k') s:=by
 subst e;exact ⟨.bl k,H,I,rfl,q⟩
theorem K8:V9 X (compareOp .Eq) rEq:=by
 intro pins s σ H x y v u Q I rx ry h;obtain ⟨hs,q⟩:=h;cases x with
 |Ft =>
  cases rx;cases y with
  |Ft=>cases ry;exact ABo (DP I q (by simp))
  |bl j=>cases ry;exact ABp (DP I q (by simp))
  |int j=>obtain ⟨t',rfl⟩:=ry;exact ABq (DP I q (by simp))
  |str j=>obtain ⟨t',rfl⟩:=ry;exact ABr (DP I q (by simp))
  |_=>exact absurd (show false=true from hs) AZ
 |bl i =>
  cases rx;cases y with
  |Ft=>cases ry;exact ABs (DP I q (by simp))
  |bl j=>cases ry;exact eq_bool (DP I q tO)
  |str j=>obtain ⟨t',rfl⟩:=ry;exact AAf (DP I q (by simp))
  |_=>exact absurd (show false=true from hs) AZ
 |int i =>
  obtain ⟨t,rfl⟩:=rx;cases y with
  |Ft=>cases ry;exact ABt (DP I q (by simp))
  |int j=>obtain ⟨t',rfl⟩:=ry;exact eq_int (DP I q ni)
  |str j=>obtain ⟨t',rfl⟩:=ry;exact AAg (DP I q (by simp))
  |_=>exact absurd (show false=true from hs) AZ
 |str i =>
  obtain ⟨t,rfl⟩:=rx;cases y with
  |Ft=>cases ry;exact ABu (DP I q (by simp))
  |bl j=>cases ry;exact AAh (DP I q (by simp))
  |int j=>obtain ⟨t',rfl⟩:=ry;exact AAi (DP I q (by simp))
  |str j=>obtain ⟨t',rfl⟩:=ry;exact eq_str (DP I q nj)
  |_=>exact absurd (show false=true from hs) AZ
 |a9 i =>
  obtain ⟨t,rfl⟩:=rx;cases y with
  |a9 j=>obtain ⟨t',rfl⟩:=ry;exact PySem.W.eq_bytes (DP I q nk)
  |_=>exact absurd (show false=true from hs) AZ
 |_=>cases y<;>exact absurd (show false=true from hs) AZ
theorem tP:V9 X (compareOp .NotEq) rNe:=by
 intro pins s σ H x y v u Q I rx ry h;obtain ⟨hs,q⟩:=h;cases x with
 |Ft =>
  cases rx;cases y with
  |Ft=>cases ry;exact ABv (DP I q (by simp))
  |bl j=>cases ry;exact ABw (DP I q (by simp))
  |int j=>obtain ⟨t',rfl⟩:=ry;exact ABx (DP I q (by simp))
  |str j=>obtain ⟨t',rfl⟩:=ry;exact ABy (DP I q (by simp))
  |_=>exact absurd (show false=true from hs) AZ
 |bl i =>
  cases rx;cases y with
  |Ft=>cases ry;exact ABz (DP I q (by simp))
  |bl j=>cases ry;exact ne_bool (DP I q (congrArg not tO))
  |str j=>obtain ⟨t',rfl⟩:=ry;exact AAj (DP I q (by simp))
  |_=>exact absurd (show false=true from hs) AZ
 |int i =>
  obtain ⟨t,rfl⟩:=rx;cases y with
  |Ft=>cases ry;exact AB0 (DP I q (by simp))
  |int j=>obtain ⟨t',rfl⟩:=ry;exact ne_int (DP I q (congrArg not ni))
  |str j=>obtain ⟨t',rfl⟩:=ry;exact AAk (DP I q (by simp))
  |_=>exact absurd (show false=true from hs) AZ
 |str i =>
  obtain ⟨t,rfl⟩:=rx;cases y with
  |Ft=>cases ry;exact AB1 (DP I q (by simp))
  |bl j=>cases ry;exact AAl (DP I q (by simp))
  |int j=>obtain ⟨t',rfl⟩:=ry;exact AAm (DP I q (by simp))
  |str j=>obtain ⟨t',rfl⟩:=ry;exact ne_str (DP I q (congrArg not nj))
  |_=>exact absurd (show false=true from hs) AZ
 |a9 i =>
  obtain ⟨t,rfl⟩:=rx;cases y with
  |a9 j=>obtain ⟨t',rfl⟩:=ry;exact PySem.W.ne_bytes (DP I q (congrArg not nk))
  |_=>exact absurd (show false=true from hs) AZ
 |_=>cases y<;>exact absurd (show false=true from hs) AZ
theorem YX:V9 X (compareOp .Lt) (wK fun i j=>.bl (decide (i<j))):=zD fun _ _ _ _ _ _ _ q=>lt_int q
theorem iu:V9 X (compareOp .Gt) (wK fun i j=>.bl (decide (j<i))):=zD fun _ _ _ _ _ _ _ q=>gt_int q
theorem nq:V9 X (compareOp .GtE) (wK fun i j=>.bl (decide (j<=i))):=zD fun _ _ _ _ _ _ _ q=>ge_int q
theorem C6(b:Expr){op:CmpOp}(h:op≠.In:=by decide)(h2:op≠.NotIn:=by decide):behindInMarks op b=false:=by
 have e1:(op==ACA)=false:=by cases op<;>first|rfl|exact absurd rfl h
 have e2:(op==AAH)=false:=by cases op<;>first|rfl|exact absurd rfl h2
 cases b<;>simp[behindInMarks,e1,e2]
theorem HZ{op:CmpOp}{r:R2}(ho:V9 X (compareOp op) r)(ha:PE X a ta)(hb:PE X b tb)(hm:behindInMarks op b=false):PE X (.Compare a [op] [b] pos) (tOp r ta tb):=by
 intro pins s σ H Q I h;exact wpAny_Compare1 (zC ha hb I h fun v u s2 x y H2 I2 rx ry q=>ho pins s2 σ H2 x y v u Q I2 rx ry q) hm
def ABE(t:TE):TT:=fun σ H Q=>t σ H fun x H'=>∃k,x=.bl k/\Q k H'
theorem Cy{op:CmpOp}{r:R2}(ho:V9 X (compareOp op) r)(ha:PE X a ta)(hb:PE X b tb)(hm:behindInMarks op b=false):PT X (.Compare a [op] [b] pos) (ABE (tOp r ta tb)):=by
 intro pins s σ H Q I h;refine vH (FH (ha pins s σ H _ I h) fun v s1 ⟨x,H1,I1,r1,q1⟩=>FH (hb pins s1 σ H1 _ I1 q1) fun u s2 ⟨y,H2,I2,r2,q2⟩ =>
  FH (ho pins s2 σ H2 x y v u _ I2 r1 r2 q2) fun c s3 ⟨z,H3,I3,r3,k,e,q3⟩=>?_) hm
 subst e;cases r3;exact Ds ⟨H3,I3,q3⟩
def ABF(K:AE)(x:V)(H:Hp)(k:Bool):Prop :=
 match x with
 |.Ft=>k=false
 |.bl b=>k=b
 |.int i=>k=(i != 0)
 |.str y=>y.length<=sizeLine/\k=((y.length:Int) != 0)
 |.a9 y=>y.size<=sizeLine/\k=((y.size:Int) != 0)
 |.ref p=>(∃xs,Bq K H p xs/\k = !xs.isEmpty)\/(∃xs,DR K H p xs/\k = !xs.isEmpty)\/∃kvs,H p=some (.dK kvs)/\k = !kvs.isEmpty
 |_=>False
theorem lJ{κ:Type}{kvs:List (κ×V)}{vs:List (κ×Value)}(r:KV kvs vs):(!vs.isEmpty) = !kvs.isEmpty:=by
 cases r<;>rfl
theorem YY{xs:List V}{its:List Value}(r:Vals xs its):(!its.toArray.isEmpty) = !xs.isEmpty:=by
 cases r<;>simp
theorem YZ:(sizeLine:Nat)<2 ^ 63:=by rw[Ue];decide
theorem zH:ACW X (fun x H Q=>∃k,ABF X.K x H k/\Q k H):=by
 intro pins s σ H x v Q I rx h;obtain ⟨k,e,q⟩:=h;have hl:=YZ;have hs:sizeLine=16777216:=Ue;cases x with
 |Ft =>
  cases rx;have e':k=false:=e;subst e';exact truthy_none ⟨H,I,q⟩
 |bl b =>
  cases rx;have e':k=b:=e;subst e';exact Ds ⟨H,I,q⟩
 |int i =>
  obtain ⟨t,rfl⟩:=rx;have e':k=(i != 0):=e;subst e';exact PySem.P.truthy_int ⟨H,I,q⟩
 |str y =>
  obtain ⟨t,rfl⟩:=rx;obtain ⟨hy,e'⟩:y.length<=sizeLine/\k=((y.length:Int) != 0):=e;subst e';exact PySem.P.truthy_str (by omega) ⟨H,I.tok _,q⟩
 |a9 y =>
  obtain ⟨t,rfl⟩:=rx;obtain ⟨hy,e'⟩:y.size<=sizeLine/\k=((y.size:Int) != 0):=e;subst e';exact PySem.W.truthy_bytes (by omega) ⟨H,I.tok _,q⟩
 |ref p =>
  cases rx;have e':(∃xs,Bq X.K H p xs/\k = !xs.isEmpty)\/(∃xs,DR X.K H p xs/\k = !xs.isEmpty)\/∃kvs,H p=some (.dK kvs)/\k = !kvs.isEmpty:=e;rcases e' with ⟨xs,hx,e'⟩|⟨xs,hx,e'⟩|⟨kvs,hx,e'⟩
  ·subst e';obtain ⟨its,r,pl,hz⟩:=I.list hx;have hlen:=r.length;exact wpAny_truthy_list pl.isList (by simp only[Aa];omega) ⟨H,I.tok _,by rw[YY r];exact q⟩
  ·subst e';obtain ⟨its,r,pl,hz⟩:=I.tuple hx;have hlen:=r.length;exact truthy_tuple pl (by simp only[Aa];omega) ⟨H,I.tok _,by rw[YY r];exact q⟩
  ·subst e';obtain ⟨hz,hS,vs,r,m⟩:kvs.length<=sizeLine/\(p==sysModules)=false/\∃vs,KV kvs vs/\s.heap.DictOf (FI X.prog X.w) p vs:=I.C2 p _ hx;have hlen:kvs.length=vs.length:=AX r;exact wpAny_truthy_dict hS m (by omega) ⟨H,I.tok _,by rw[lJ r];exact q⟩
 |_=>exact (show False from e).elim
theorem GP(ha:PE X a ta)(he:∀whole,isTrue a X.env whole=(do let v <-whole;standAt a.pos;holding [v] (truthy v))) :
  PT X a (fun σ H Q=>ta σ H fun x H'=>∃k,ABF X.K x H' k/\Q k H'):=by
 intro pins s σ H Q I h;exact isTrue_plain (FH (ha pins s σ H _ I h) fun v s1 ⟨x,H1,I1,r1,q1⟩=>zH pins s1 σ H1 x v Q I1 r1 q1) (he _)
theorem vals1{x:V}{us:List Value}(r:Vals [x] us):∃u,us=[u]/\RelV x u:=by
 cases r with
 |cons r1 r2=>cases r2;exact ⟨_,rfl,r1⟩
end
end L2
namespace L2
open PySem PySem.Spec PyProof.Rows
structure lK(h:Heap)(x dx C:Addr)(mA:Str->Option Value):Prop where
 obj:h.get? x=some (Ep C dx)
 ns:h.Ns1 dx mA
 ne:dx≠x
theorem pY{h:Heap}{dx:Addr}{mA:Str->Option Value}(n:h.Ns1 dx mA):∃od,h.get? dx=some od/\∀name,OT name od=some (mA name):=by
 obtain ⟨o,es,ep,ho,hd,hk,_,hm⟩:=n;refine ⟨o,ho,fun name=>?_⟩;have e:=hm name;unfold nsFind findBy at e;rw[<-Array.find?_toList]at e;unfold OT;rw[hd];dsimp only
 split
 ·rename_i y q;rw[q]at e;exact congrArg some e
 ·rename_i q;rw[q]at e;have a:es.toList.any (·.refKey)=false:=by
   rw[rg];intro y hy;obtain ⟨z,t,hkey⟩:=hk y (Array.mem_toList_iff.mp hy);simp[ADA,hkey]
  have a':¬es.toList.any (·.refKey)=true:=by rw[a];exact AZ
  rw[if_neg a'];exact congrArg some e
theorem lK.look{h:Heap}{x dx C:Addr}{mA:Str->Option Value}(I:lK h x dx C mA):∃od,PySem.W.InstAt h x (Ep C dx) C (some od)/\∀name,OT name od=some (mA name) :=
 let ⟨od,ho,hl⟩:=pY I.ns
 ⟨od,⟨I.obj,rfl,rfl,ho⟩,hl⟩
section
variable {prog:Program} {w:World} {A:Around} {E:Value->Shared->Prop} {s:Shared} {K:AE} {x dx C f:Addr} {mA:Str->Option Value} {name:Str} {v:Value}
theorem get_map{expr:Bool}{Q:Value->Shared->Prop}(X:K.In s.heap)(I:lK s.heap x dx C mA)(hg:L5 K C name=true)(hh:Sm K C=true)
  (ha:DU K (.ref C) name=some none) (hv:mA name=some v) (hv':om v=true) (h:Q v { s with toks:=s.toks+1 }) :
  wpAny (model prog w) A (getAttr (.ref x) name expr) Q E s:=by
 obtain ⟨od,J,hl⟩:=I.look;exact PySem.W.get_value X J (Qy hg).1 (PySem.W.findObj_own hh ha rfl (by rw[hl,hv])) hv' h
theorem tQ{pl:Sem Bool}{Q:Value×List Value->Shared->Prop}(X:K.In s.heap)(I:lK s.heap x dx C mA)(hg:L5 K C name=true)
  (hf:DU K (.ref C) name=some (some (.ref f))) (ht:eV K (.ref f)=true) (hv:mA name=none) (h:Q (.ref f,[.ref x]) s) :
  wpAny (model prog w) A (getMethod (.ref x) name pl) Q E s:=by
 obtain ⟨od,J,hl⟩:=I.look;exact PySem.W.method_fn X J (Qy hg).1 (Qy hg).2 hf (beq_iff_eq.mp ht) (by show (OT name od).map (·.isSome)=some false;rw[hl,hv];rfl) h
theorem wM{ns:List Str}{Q:Unit->Shared->Prop}(X:K.In s.heap)(I:lK s.heap x dx C mA)
  (hs:DU K (.ref C) "__setattr__" = some (some (.builtin "object.__setattr__"))) (hp:nA K C=true) (ht:W4 K C name=some none) (hh:Sm K C=true)
  (hw:iE mA ns) (hsz:ns.length<=sizeLine)
  (h:∀h',lK h' x dx C (fun y=>if y=name then some v else mA y)->Kw dx s.heap h'->Q () { s with heap:=h',toks:=s.toks+2 }) :
  wpAny (model prog w) A (setAttr (.ref x) name v) Q E s:=by
 obtain ⟨od,J,hl⟩:=I.look;refine PySem.W.set_plain X J hs (PySem.W.osa_open (s:={ s with toks:=s.toks+1 }) (r:=none) X J hp ht fun b=>?_);obtain ⟨cd,hc,hd'⟩:=PySem.W.any_some hh;have hx:s.heap.get? x=some ⟨.ref C,some dx,.plain,#[]⟩:=I.obj;refine AL (A1 (AL (AL (wpAny_loadPart hx (AL (AAn (s:={ s with toks:=s.toks+1 }) (PySem.W.looks_clsIn X hc) ?_))))));rw[hd'];refine A1 (a:=some dx) (AL (A1 (AL ?_)));refine wpAny_nsSet1 (s:={ s with toks:=s.toks+1 }) I.ns fun h' hn2 hs2=>?_
 obtain ⟨oD,esD,epD,hoD,hdD,hcD⟩:=hn2.count (AB2 name v hw);refine AL (wpAny_lookBehind hoD (by rw[hdD];exact pastItsLine_dict (AY hcD (by rw[BC];omega))) ?_);exact A1 (h _ ⟨(hs2.2 _ (Cr I.ne)).trans I.obj,hn2,I.ne⟩ hs2)
theorem tR{R:Result->Shared->Prop}{vs:List Value}{kw:List (Str×Value)}(X:K.In s.heap)(hm:rQ K C=true)
  (hi:DU K (.ref C) "__init__" = some (some (.ref f))) (hf:PySem.W.typeIn K (.ref f)=some (.type "function"))
  (h:codeAny (model prog w) (A.under (.builtin "type.__call__" ⟨.ref C::vs,kw⟩)) (.call (.ref f) ⟨.ref (s.heap.objs.size+1)::vs,kw⟩) (PySem.W.InitBack (s.heap.objs.size+1) R)
   { s with heap:=(s.heap.push DV).push (Ep C s.heap.objs.size) }) :
  codeAny (model prog w) A (.call (.ref C) ⟨vs,kw⟩) R s:=by
 obtain ⟨hh,g,d,t,os⟩:=s;exact PySem.W.make_core (PySem.W.makes_of X hm) (PySem.W.looks_findIn X hi) (fun self=>PySem.W.bind_fn X self hf) (.inl rfl) h
end
def B3(f:Str)(v:V):List (Str×V)->List (Str×V)
 |[]=>[(f,v)]
 |(g,x)::r=>if g=f then (g,v)::r else (g,x)::B3 f v r
theorem CK(f g:Str)(v:V):∀fs:List (Str×V),(B3 f v fs).lookup g=if g=f then some v else fs.lookup g
 |[]=>by
  show Cc g [(f,v)]=_
  by_cases h:g=f
  ·have hb:(g==f)=true:=beq_iff_eq.mpr h;simp only[Cc,hb,if_pos h]
  ·have hb:(g==f)=false:=beq_eq_false_iff_ne.mpr h;simp only[Cc,hb,if_neg h]
 |(k,x)::r=>by
  have ih:=CK f g v r;rw[show B3 f v ((k,x)::r)=(if k=f then (k,v)::r else (k,x)::B3 f v r) from rfl]
  by_cases hk:k=f
  ·rw[if_pos hk]
   by_cases h:g=k
   ·have hb:(g==k)=true:=beq_iff_eq.mpr h;simp only[Cc,hb,if_pos (h.trans hk)]
   ·have hb:(g==k)=false:=beq_eq_false_iff_ne.mpr h;simp only[Cc,hb,if_neg (fun e:g=f=>h (e.trans hk.symm))]
  ·rw[if_neg hk]
   by_cases h:g=k
   ·have hb:(g==k)=true:=beq_iff_eq.mpr h;simp only[Cc,hb,if_neg (fun e:g=f=>hk (h.symm.trans e))]
   ·have hb:(g==k)=false:=beq_eq_false_iff_ne.mpr h;simp only[Cc,hb];exact ih
theorem Ut(f:Str)(v:V):∀fs:List (Str×V),f∈(B3 f v fs).map (·.1)/\∀g,g∈fs.map (·.1)->g∈(B3 f v fs).map (·.1)
 |[]=>⟨by simp[B3],fun g h=>by simp at h⟩
 |(k,x)::r=>by
  obtain ⟨i1,i2⟩:=Ut f v r;rw[show B3 f v ((k,x)::r)=(if k=f then (k,v)::r else (k,x)::B3 f v r) from rfl]
  by_cases hk:k=f
  ·rw[if_pos hk];subst hk;exact ⟨by simp,fun g h=>by simpa using h⟩
  ·rw[if_neg hk];refine ⟨?_,fun g h=>?_⟩
   ·rw[Az];exact AG _ i1
   ·rw[Az]at h ⊢;rcases Ak.mp h with e|e
    ·exact Ak.mpr (.inl e)
    ·exact AG _ (i2 g e)
theorem D9(f:Str)(v:V):∀fs:List (Str×V),(B3 f v fs).length<=fs.length+1
 |[]=>by simp[B3]
 |(k,x)::r=>by
  have ih:=D9 f v r;rw[show B3 f v ((k,x)::r)=(if k=f then (k,v)::r else (k,x)::B3 f v r) from rfl]
  by_cases hk:k=f
  ·rw[if_pos hk,BC,BC];omega
  ·rw[if_neg hk,BC,BC];omega
theorem Q1.some_of{v:V}{o:Option Value}(r:Q1 (some v) o):∃u,o=some u/\RelV v u:=by
 cases o with
 |none=>exact (show False from r).elim
 |some u=>exact ⟨u,rfl,r⟩
theorem Q1.none_of{o:Option Value}(r:Q1 none o):o=none:=by
 cases o with
 |none=>rfl
 |some u=>exact (show False from r).elim
theorem pZ{v:V}{u:Value}(r:RelV v u):om u=true:=by
 cases v with
 |Ft=>cases (show u=HR from r);rfl
 |bl b=>cases (show u=N7 b from r);rfl
 |int i=>obtain ⟨t,e⟩:=(show ∃t,u=Q8 i t from r);cases e;rfl
 |str x=>obtain ⟨t,e⟩:=(show ∃t,u=g7 x t from r);cases e;rfl
 |a9 b=>obtain ⟨t,e⟩:=(show ∃t,u=AAF b t from r);cases e;rfl
 |yw b=>obtain ⟨t,e⟩:=(show ∃t,u=AAG b t from r);cases e;rfl
 |ref a=>cases (show u=CG a from r);rfl
 |ty n=>cases (show u=Ge n from r);rfl
section
variable {P:Program} {w:World} {H H':Hp} {h h':Heap} {a C dx:Addr} {fs fs':List (Str×V)}
theorem fW(C2:L3 P w H h)(e:H a=some (.ins C dx fs)):∃mA,lK h a dx C mA/\(∀f,Q1 (fs.lookup f) (mA f))/\iE mA (fs.map (·.1))/\fs.length<=1000/\H dx=some (.own a):=by
 obtain ⟨d,z,ne,ob,mA,n,r,q⟩:=(show Eo P w H h a (.ins C dx fs) from C2 a _ e);exact ⟨mA,⟨ob,n,ne⟩,r,q,z,d⟩
end
structure rR(K:AE)(C:Addr):Prop where
 pg:L5 K C Str.empty=true
 hd:Sm K C=true
 po:nA K C=true
 sa:DU K (.ref C) "__setattr__" = some (some (.builtin "object.__setattr__"))
theorem rR.get{K:AE}{C:Addr}(c:rR K C)(f:Str):L5 K C f=true:=c.pg
def HE(K:AE)(C:Addr)(f:Str):Prop:=DU K (.ref C) f=some none
theorem HE.ABG{K:AE}{C:Addr}{f:Str}(n:HE K C f):W4 K C f=some none:=by
 unfold W4;rw[show DU K (.ref C) f=some none from n];rfl
structure Con(K:AE)(C:Addr)(f:Str)(v:V)(u:Value):Prop where
 at_:DU K (.ref C) f=some (some u)
 rel:RelV v u
 get:nB K u "__get__" = some none
 cp:PySem.W.copiedNames.contains f=false
structure Meth(K:AE)(C:Addr)(m:Str)(f:Addr):Prop where
 at_:DU K (.ref C) m=some (some (.ref f))
 fn:eV K (.ref f)=true
 kp:D7 K (.ref f)=true
section
variable {X:Cx} {pins:List (Addr×Obj)} {σ:St} {H:Hp} {s:Shared} {a C dx:Addr} {fs:List (Str×V)} {f:Str} {v:V} {A:Around} {E:Value->Shared->Prop}
theorem lL{b:Bool}{Q:Value->Shared->Prop}(I:Inv X pins σ H s)(e:H a=some (.ins C dx fs))(c:rR X.K C)(n:HE X.K C f)(l:fs.lookup f=some v)
  (h:∀u s',Inv X pins σ H s'->RelV v u->Q u s'):wpAny (model X.prog X.w) A (getAttr (.ref a) f b) Q E s:=by
 obtain ⟨mA,O,r,_,_,_⟩:=fW I.C2 e;obtain ⟨u,hu,ru⟩:=Q1.some_of (v:=v) (o:=mA f) (by rw[<-l];exact r f);exact get_map I.kl O (c.get f) c.hd n hu (pZ ru) (h u _ (I.tok _) ru)
theorem Ya{m:Str}{g:Addr}{pl:Sem Bool}{Q:Value×List Value->Shared->Prop}(I:Inv X pins σ H s)(e:H a=some (.ins C dx fs))(c:rR X.K C)(k:Meth X.K C m g)(l:fs.lookup m=none)
  (h:Q (.ref g,[.ref a]) s):wpAny (model X.prog X.w) A (getMethod (.ref a) m pl) Q E s:=by
 obtain ⟨mA,O,r,_,_,_⟩:=fW I.C2 e;have hn:mA m=none:=Q1.none_of (by rw[<-l];exact r m);exact tQ I.kl O (c.get m) k.at_ k.fn hn h
theorem lM{y:V}{u:Value}{Q:Unit->Shared->Prop}(I:Inv X pins σ H s)(e:H a=some (.ins C dx fs))(c:rR X.K C)(n:HE X.K C f)(hl:fs.length<1000)(ry:RelV y u)
  (h:∀s',Inv X pins σ (upd H a (.ins C dx (B3 f y fs))) s'->Q () s'):wpAny (model X.prog X.w) A (setAttr (.ref a) f u) Q E s:=by
 obtain ⟨mA,O,r,wi,_,ho⟩:=fW I.C2 e;have hz:(fs.map (·.1)).length<=sizeLine:=by rw[AB,Ue];omega
 refine wM I.kl O c.sa c.po n.ABG c.hd wi hz fun h' O' sb=>h _ ?_
 have hd:∃o,h'.get? dx=some o:=let ⟨o,_,_,e',_⟩:=O'.ns;⟨o,e'⟩;refine I.write (x:=a) (e:=dx) (by rw[e];exact Em) (.inr ho) (fun b q hb z=>(sb.2 b hb).trans z) hd ?_;refine ⟨by rw[A2 O.ne];exact ho,?_,O.ne,O'.obj,_,O'.ns,fun g=>?_,fun g hg=>?_⟩
 ·have:=D9 f y fs;omega
 ·show Q1 ((B3 f y fs).lookup g) (if g=f then some u else mA g);rw[CK]
  by_cases q:g=f
  ·rw[if_pos q,if_pos q];exact ry
  ·rw[if_neg q,if_neg q];exact r g
 ·by_cases q:g=f
  ·rw[q];exact (Ut f y fs).1
  ·refine (Ut f y fs).2 g (wi g fun z=>hg ?_);show (if g=f then some u else mA g)=none;rw[if_neg q];exact z
theorem Inv.made(I:Inv X pins σ H s):Inv X pins σ (upd (upd H s.heap.objs.size (.own (s.heap.objs.size+1))) (s.heap.objs.size+1) (.ins C s.heap.objs.size []))
  { s with heap:=(s.heap.push DV).push (Ep C s.heap.objs.size) }:=by
 have e1:(s.heap.push DV).get? s.heap.objs.size=some DV:=BA s.heap rfl;have e2:((s.heap.push DV).push (Ep C s.heap.objs.size)).get? (s.heap.objs.size+1)=some (Ep C s.heap.objs.size):=by
  have:=BA (s.heap.push DV) (o:=Ep C s.heap.objs.size) rfl
  rwa [Cp]at this
 have e3:(s.heap.push DV).Ns s.heap.objs.size (fun _=>none):=⟨DV,#[],_,e1,rfl,(fun e he=>absurd he (by simp)),fun _=>rfl⟩;have I1:=I.laid (a:=s.heap.objs.size) (o:=.own (s.heap.objs.size+1)) (h':=s.heap.push DV) (t':=s.toks) (fun b u q=>AW _ q) (AV _) ⟨_,e1⟩;refine I1.laid (a:=s.heap.objs.size+1) (o:=.ins C s.heap.objs.size []) (t':=s.toks) (fun b u q=>AW _ q) (W5 (Cp _ _)) ?_;have ne:s.heap.objs.size≠s.heap.objs.size+1:=Bl (JD _);refine ⟨by rw[A2 ne,AK],Bb _,ne,e2,fun _=>none,(Heap.Ns1.of_empty e3).at fun o q=>AW _ q,fun _=>Em,fun y hy=>absurd rfl hy⟩
theorem wN{prog:Program}{w:World}{env:Env}{e:Expr}{f:Str}{pos:Pos}{s:Shared}{Q:Value->Shared->Prop}(hb:attributeBase e f env (eval e env)=eval e env)
  (h:wpAny (model prog w) A (eval e env) (fun o s₁=>wpAny (model prog w) A (getAttr o f true) Q E s₁) E s):wpAny (model prog w) A (eval (.Attribute e f pos) env) Q E s :=
 Attribute_any_ h (by rw[arm_eval_Attribute,hb])
end
def ABH(K:AE)(ta:TE)(f:Str):TE:=fun σ H Q=>ta σ H fun x H1=>∃a C dx fs v,x=.ref a/\H1 a=some (.ins C dx fs)/\rR K C/\HE K C f/\fs.lookup f=some v/\Q v H1
def ACY(K:AE)(ta tv:TE)(f:Str):TS:=fun D σ H=>tv σ H fun y H1=>ta σ H1 fun x H2=>∃a C dx fs,x=.ref a/\H2 a=some (.ins C dx fs)/\rR K C/\HE K C f/\fs.length<1000 /\
 D.nx σ (upd H2 a (.ins C dx (B3 f y fs)))
section
variable {X:Cx} {o e value:Expr} {f:Str} {pos pos' tpos:Pos} {ta tv:TE}
theorem Ao(he:PE X e ta)(hb:attributeBase e f X.env (eval e X.env)=eval e X.env):PE X (.Attribute e f pos) (ABH X.K ta f):=by
 intro pins s σ H Q I h;refine wN hb (FH (he pins s σ H _ I h) fun u s1 ⟨x,H1,I1,rx,a,C,dx,fs,v,ex,ea,c,n,l,q⟩=>?_);subst ex;obtain rfl:u=CG a:=rx;exact lL I1 ea c n l fun u' s2 I2 ru=>⟨v,H1,I2,ru,q⟩
theorem Ha(ha:PE X o ta)(hv:PE X value tv)(hs:swapsWith value (some (.Attribute o f pos')) pos.line X.env=pure false):PS X (.Assign [.Attribute o f pos'] value pos) (ACY X.K ta tv f):=by
 intro pins s σ H D I h;refine plainObj_wpAny_Assign_Attribute (FH (hv pins s σ H _ I h) fun u s1 ⟨y,H1,I1,ry,q⟩=>FH (ha pins s1 σ H1 _ I1 q) fun ov s2 ⟨x,H2,I2,rx,a,C,dx,fs,ex,ea,c,n,l,q2⟩=>?_) hs;subst ex;obtain rfl:ov=CG a:=rx;exact lM I2 ea c n l ry fun s3 I3=>⟨σ,_,I3,q2⟩
end
section
variable {X:Cx} {pins:List (Addr×Obj)} {σ:St} {H:Hp} {s:Shared} {A:Around} {E:Value->Shared->Prop} {Q:Value->Shared->Prop} {c:Value} {b:Bool}
inductive Yb (K:AE) (H:Hp):V->Value->Prop where
 |Ft:Yb K H .Ft (.type "NoneType")
 |bl (x:Bool):Yb K H (.bl x) (.type "bool")
 |int (i:Int):Yb K H (.int i) (.type "int")
 |str (x:Str):Yb K H (.str x) (.type "str")
 |yw (x:UInt64):Yb K H (.yw x) (.type "float")
 |lst {a:Addr} {xs:List V} (e:H a=some (.lst xs)):Yb K H (.ref a) (.type "list")
 |YK {a:Addr} {o:Obj} {xs:List V} (e:H a=some (.YK o (.lst xs))):Yb K H (.ref a) (.type "list")
 |tup {a:Addr} {xs:List V} (e:H a=some (.tup xs)):Yb K H (.ref a) (.type "tuple")
 |dK {a:Addr} {kvs:List (Key×V)} (e:H a=some (.dK kvs)):Yb K H (.ref a) (.type "dict")
 |dT {a:Addr} {kvs:List (List Key×V)} (e:H a=some (.dT kvs)):Yb K H (.ref a) (.type "dict")
 |ins {a C dx:Addr} {fs:List (Str×V)} (e:H a=some (.ins C dx fs)) (cl:rR K C) (ha:DU K (.ref C) "__class__" = some (some (.builtin "object.__class__")))
   (hn:nB K (.builtin "object.__class__") "__get__" = some (some (.builtin "getset_descriptor.__get__"))) (htk:PySem.W.takesIn K (.builtin "object.__class__")=some true)
   (hm:PySem.W.mroIn K C (.type "object")=some true):Yb K H (.ref a) (.ref C)
end
end L2
namespace L2
open PySem PySem.Spec PyProof.Rows
structure GB(k:Nat)(A:Around):Prop where
 hd:A.handled=none
 dp:A.depth+3*k+5<recursionLimit
 un:A.units+16*k+200<cLine
theorem GB.mono{j k:Nat}{A:Around}(r:GB k A)(h:j<=k):GB j A:=⟨r.hd,by have:=r.dp;omega,by have:=r.un;omega⟩
theorem GB.deeper{k:Nat}{A:Around}(r:GB (k+1) A)(env:Env):GB k (A.deeper env) :=
 ⟨r.hd,by have:=r.dp;show A.depth+1+3*k+5<_;omega,by have:=r.un;show A.units+3+16*k+200<_;omega⟩
theorem GB.in1{k:Nat}{A:Around}(r:GB (k+1) A):GB k A.in1 :=
 ⟨r.hd,by have:=r.dp;show A.depth+3*k+5<_;omega,by have:=r.un;show A.units+1+16*k+200<_;omega⟩
theorem lN{A:Around}{C:Addr}{us:List Value}{kw:List (Str×Value)}:(A.under (.builtin "type.__call__" ⟨.ref C::us,kw⟩)).depth=A.depth+1:=by
 first|rfl|simp[hJ,Code.weight,Code.isCreation,Code.isGuard,Code.isCaller,AAo,kd,guardIds]
theorem lO{A:Around}{C:Addr}{us:List Value}{kw:List (Str×Value)}:(A.under (.builtin "type.__call__" ⟨.ref C::us,kw⟩)).units=A.units+1:=by
 first|rfl|simp[hJ,Code.cUnits,AAo,kd]
theorem GB.make{k:Nat}{A:Around}(r:GB (k+1) A)(C:Addr)(us:List Value)(kw:List (Str×Value)):GB k (A.under (.builtin "type.__call__" ⟨.ref C::us,kw⟩)) :=
 ⟨r.hd,by have:=r.dp;rw[lN];omega,by have:=r.un;rw[lO];omega⟩
theorem GB.depth{k:Nat}{A:Around}(r:GB k A):A.depth<recursionLimit:=by have:=r.dp;omega
theorem GB.units{k:Nat}{A:Around}(r:GB k A):A.units+64<cLine:=by have:=r.un;omega
def iw:TA:=fun _ H Q=>Q [] H
def RE(ta:TE)(tr:TA):TA:=fun σ H Q=>ta σ H fun x H1=>tr σ H1 fun xs H2=>Q (x::xs) H2
section
variable {X:Cx} {e:Expr} {es:List Expr} {te:TE} {t:TA} {pos:Pos}
theorem AD:PA X [] iw:=fun _ _ _ _ H Q I h=>Calls.spliced_nil ⟨[],H,I,.nil,h⟩
theorem AA(ha:PE X e te)(hr:PA X es t)(hs:starEach (e::es) X.env=(false,eval e X.env)::starEach es X.env:=by rfl):PA X (e::es) (RE te t):=by
 intro pos pins s σ H Q I h;rw[hs];show wpAny _ _ (spliced ((false,eval e X.env)::backTo pos (starEach es X.env))) _ _ s;refine Calls.spliced_cons (FH (ha pins s σ H _ I h) fun u s1 ⟨x,H1,I1,r1,q1⟩=>?_);exact FH (hr pos pins s1 σ H1 _ I1 q1) fun us s2 ⟨xs,H2,I2,r2,q2⟩=>⟨x::xs,H2,I2,.cons r1 r2,q2⟩
def ACZ(t:TA):TE:=fun σ H Q=>t σ H fun xs H1=>xs.length<=sizeLine/\∀p,H1 p=none->Q (.ref p) (upd H1 p (.tup xs))
def ABI(t:TA):TE:=fun σ H Q=>t σ H fun xs H1=>xs.length<=sizeLine/\∀p,H1 p=none->Q (.ref p) (upd H1 p (.lst xs))
theorem IK{x1}(h:PA X es t):PE X (.Tuple es x1 pos) (ACZ t):=by
 intro pins s σ H Q I hq;refine wpAny_Tuple_spliced (FH (h pos pins s σ H _ I hq) fun us s1 ⟨xs,H1,I1,r,z,q⟩=>⟨by rw[<-r.length];exact z,?_⟩);have hf:H1 s1.heap.objs.size=none:=I1.C2.fresh (AV _);refine ⟨.ref s1.heap.objs.size,upd H1 s1.heap.objs.size (.tup xs),I1.laid (t':=s1.toks) (fun b u e=>AW _ e) (AV _) ?_,rfl,q _ hf⟩;exact ⟨z,us,r,⟨_,BA _ rfl,rfl,⟨_,rfl⟩,rfl⟩⟩
theorem BM(h:PA X es t):PE X (.List es pos) (ABI t):=by
 intro pins s σ H Q I hq;refine wpAny_List_spliced (FH (h pos pins s σ H _ I hq) fun us s1 ⟨xs,H1,I1,r,z,q⟩=>⟨by rw[<-r.length];exact z,?_⟩);have hf:H1 s1.heap.objs.size=none:=I1.C2.fresh (AV _);refine ⟨.ref s1.heap.objs.size,upd H1 s1.heap.objs.size (.lst xs),I1.laid (t':=s1.toks) (fun b u e=>AW _ e) (AV _) ?_,rfl,q _ hf⟩;exact ⟨z,us,0,r,BA _ rfl⟩
end
abbrev Sp:=List V->Hp->VK->XK->Prop
abbrev vM:=List Env->Hp->Shared->XK->Value->Shared->Prop
structure MA(P:Program)(w:World)(K:AE)(mg:Str->Option Value)(base:Heap)(A:Around)(outer:List Env)(s:Shared)(H:Hp):Prop where
 frames:A.frames=some outer
 mod:Mod K mg base
 bs:∀b o,base.get? b=some o->s.heap.get? b=some o/\H b=none
 pR:base.objs.size<=s.heap.objs.size
 LU:s.heap.FunFrames base outer
 pT:∀b∈TR outer,H b=none
 C2:L3 P w H s.heap
 bare:AllBare s.gens
def CE(outer:List Env)(P:Program)(w:World)(H:Hp)(s:Shared)(Q:VK)(u:Value)(s':Shared):Prop :=
 ∃v H',s'.os=s.os/\AllBare s'.gens/\Un (TR outer) [] H H' s.heap s'.heap/\L3 P w H' s'.heap/\RelV v u/\Q v H'
def CR(CX:vM)(outer:List Env)(P:Program)(w:World)(H:Hp)(s:Shared)(Q:VK)(E:XK)(r:Result)(s':Shared):Prop :=
 match r with
 |.ok (.ret u)=>CE outer P w H s Q u s'
 |.ok _=>False
 |.error e=>CX outer H s E e s'
structure Bv(P:Program)(w:World)(K:AE)(mg:Str->Option Value)(base:Heap)(CX:vM)(k:Nat)(f:Addr)(fd:FuncData)(ps:List Str)(sp:Sp):Prop where
 len:∀vs H Q E,sp vs H Q E->vs.length=ps.length
 run:∀(A:Around) (outer:List Env) (s:Shared) (H:Hp) (args:Args) (us:List Value) (vs:List V) (Q:VK) (E:XK),GB k A->MA P w K mg base A outer s H->BindsTo s fd args (ps.zip us)->Vals vs us->sp vs H Q E ->
  codeAny (model P w) A (.call (.ref f) args) (CR CX outer P w H s Q E) s
theorem Bv.mono{P:Program}{w:World}{K:AE}{mg:Str->Option Value}{base:Heap}{CX:vM}{j k:Nat}{f:Addr}{fd:FuncData}{ps:List Str}{sp:Sp}(F:Bv P w K mg base CX j f fd ps sp)(h:j<=k) :
  Bv P w K mg base CX k f fd ps sp:=⟨F.len,fun A outer s H args us vs Q E hr=>F.run A outer s H args us vs Q E (hr.mono h)⟩
theorem MA.make{P:Program}{w:World}{K:AE}{mg:Str->Option Value}{base:Heap}{A:Around}{outer:List Env}{s:Shared}{H:Hp}(e:MA P w K mg base A outer s H)(C:Addr)(us:List Value)(kw:List (Str×Value)) :
  MA P w K mg base (A.under (.builtin "type.__call__" ⟨.ref C::us,kw⟩)) outer s H:=⟨by first|exact e.frames|(simpa [hJ,Code.envs,kd,pushEnvs] using e.frames),e.mod,e.bs,e.pR,e.LU,e.pT,e.C2,e.bare⟩
theorem MA.in1{P:Program}{w:World}{K:AE}{mg:Str->Option Value}{base:Heap}{A:Around}{outer:List Env}{s:Shared}{H:Hp}(e:MA P w K mg base A outer s H) :
  MA P w K mg base A.in1 outer s H:=⟨e.frames,e.mod,e.bs,e.pR,e.LU,e.pT,e.C2,e.bare⟩
section
variable {X:Cx} {pins:List (Addr×Obj)} {σ:St} {H:Hp} {s s':Shared}
theorem Inv.zI(I:Inv X pins σ H s):MA X.prog X.w X.K X.mg X.base X.A X.stack s H :=
 ⟨I.ok.frames,I.ok.mod,I.bs,AY I.ok.pR I.sz,I.stack,I.nY,I.C2,I.bare⟩
theorem Inv.after{Q:VK}{u:Value}(I:Inv X pins σ H s)(h:CE X.stack X.prog X.w H s Q u s'):EP X pins σ Q u s':=by
 obtain ⟨v,H',os,bare,un,C2,r,q⟩:=h;obtain ⟨hh,g,d,t,os'⟩:=s';obtain rfl:os'=s.os:=os;exact ⟨v,H',I.call (h':=hh) (g':=g) (d':=d) (t':=t) (ch:=[]) un C2 bare (fun b z=>absurd z (by simp)),r,q⟩
end
def yA(sp:Sp)(dvs:List V)(E:XK)(t:TA):TE:=fun σ H Q=>t σ H fun vs H1=>sp (vs++dvs) H1 Q E
def nr(C:Addr)(m:Str)(sp:Sp)(dvs:List V)(E:XK)(ta:TE)(t:TA):TE:=fun σ H Q=>ta σ H fun x H1=>∃a dx fs,x=.ref a/\H1 a=some (.ins C dx fs)/\fs.lookup m=none /\
 t σ H1 fun vs H2=>sp (x::(vs++dvs)) H2 Q E
def yB(C:Addr)(sp:Sp)(dvs:List V)(E:XK)(t:TA):TE:=fun σ H Q=>t σ H fun vs H1=>∀x dx,H1 x=none->H1 dx=none->dx≠x ->
 sp (.ref x::(vs++dvs)) (upd (upd H1 dx (.own x)) x (.ins C dx [])) (fun v H2=>v=.Ft/\Q (.ref x) H2) E
def Binds(K:AE)(fd:FuncData)(ps:List Str)(ds:List Value):Prop :=
 ∀(s:Shared) (us:List Value),K.In s.heap->(us++ds).length=ps.length->BindsTo s fd ⟨us,[]⟩ (ps.zip (us++ds))
theorem Binds.all{K:AE}{fd:FuncData}{ps:List Str}(h:∀us:List Value,us.length=ps.length->bindArgs fd ⟨us,[]⟩=pure (ps.zip us)):Binds K fd ps []:=fun s us _ hl=>by
 rw[B1]at hl ⊢;exact .of_eq (h us hl)
def Passes(CX:vM)(X:Cx)(E:XK):Prop:=∀(pins:List (Addr×Obj)) (σ:St) (H:Hp) (s:Shared) (e:Value) (s':Shared),Inv X pins σ H s->CX X.stack H s E e s'->X.xe e s'
section
variable {X:Cx} {CX:vM} {k:Nat} {f C:Addr} {fd:FuncData} {ps:List Str} {sp:Sp} {dvs:List V} {ds:List Value} {E:XK} {x m:Str} {p pos apos:Pos} {e o:Expr} {es:List Expr} {ta:TE} {t:TA}
theorem fX{pins:List (Addr×Obj)}{σ:St}{H:Hp}{s:Shared}{Q:VK}{us:List Value}{vs:List V}(F:Bv X.prog X.w X.K X.mg X.base CX k f fd ps sp)(hr:GB k X.A)(hb:Binds X.K fd ps ds)(hd:Vals dvs ds)(hx:Passes CX X E)
  (I:Inv X pins σ H s) (r:Vals vs us) (h:sp (vs++dvs) H Q E):wpAny (model X.prog X.w) X.A (call (.ref f) us) (EP X pins σ Q) X.xe s:=by
 have r2:Vals (vs++dvs) (us++ds):=r.append hd;have hl:(us++ds).length=ps.length:=by rw[<-r2.length];exact F.len _ _ _ _ h
 refine yR (L6 (F.run X.A X.stack s H ⟨us,[]⟩ (us++ds) (vs++dvs) Q E hr I.zI (hb s us I.kl hl) r2 h) fun r s' hq=>?_);cases r with
 |error e=>exact hx pins σ H s e s' I hq
 |ok fl =>
  cases fl with
  |ret u=>exact I.after hq
  |next=>exact C8 hq
  |brk=>exact C8 hq
  |cont=>exact C8 hq
theorem Aj(F:Bv X.prog X.w X.K X.mg X.base CX k f fd ps sp)(hr:GB k X.A)(hg:Gl X x)(hm:X.mg x=some (.ref f))(hk:D7 X.K (.ref f)=true)(hb:Binds X.K fd ps ds)(hd:Vals dvs ds)(hx:Passes CX X E)
  (ha:PA X (e::es) t) (hdb:(x==("__debug__" : Str))=false:=by decide) (he:starEach (e::es) X.env=(false,eval e X.env)::starEach es X.env:=by rfl) (hpl:(backTo pos (starEach es X.env)).any (·.1)=false:=by rfl) :
  PE X (.Call (.Name x p) (e::es) [] pos) (yA sp dvs E t):=by
 intro pins s σ H Q I h;refine GF (Xi I hg hm ?_ hdb);refine J0 (h₀:=X.base) I.ok.mod.yx hk (FH (ha pos pins s σ H _ I h) fun us s1 ⟨vs,H1,I1,r,q⟩=>⟨I1.kl,?_⟩) he hpl;exact fX F hr hb hd hx I1 r q
theorem CV{pl:Sem Bool}(he:PE X o ta)(c:rR X.K C)(hm:Meth X.K C m f)(F:Bv X.prog X.w X.K X.mg X.base CX k f fd ps sp)(hr:GB k X.A)(hb:Binds X.K fd ps ds)(hd:Vals dvs ds)(hx:Passes CX X E)(ha:PA X (e::es) t)
  (hst:starEach (e::es) X.env=(false,eval e X.env)::starEach es X.env:=by rfl) (hpl:(backTo pos (starEach es X.env)).any (·.1)=false:=by rfl)
  (ht:eval (.Call (.Attribute o m apos) (e::es) [] pos) X.env=(do
   let ov <-eval o X.env
   standAt apos.atName
   let (f,first) <-holding [ov] (getMethod ov m pl)
   callWith pos f first (backTo pos (starEach (e::es) X.env)) (backToKw pos (keywordEach [] X.env))):=by rfl) :
  PE X (.Call (.Attribute o m apos) (e::es) [] pos) (nr C m sp dvs E ta t):=by
 intro pins s σ H Q I h;refine hX (pl:=pl) (FH (he pins s σ H _ I h) fun u s1 ⟨x,H1,I1,rx,a,dx,fs,ex,ea,l,q⟩=>?_) ht;subst ex;obtain rfl:u=CG a:=rx;refine Ya I1 ea c hm l ?_;refine J0 (first:=[.ref a]) (h₀:=X.base) I.ok.mod.yx hm.kp (FH (ha pos pins s1 σ H1 _ I1 q) fun us s2 ⟨vs,H2,I2,r,q2⟩=>⟨I2.kl,?_⟩) hst hpl;exact fX (us:=.ref a::us) (vs:=.ref a::vs) F hr hb hd hx I2 (.cons rfl r) q2
theorem Yc{pl:Sem Bool}(he:PE X o ta)(c:rR X.K C)(hm:Meth X.K C m f)(F:Bv X.prog X.w X.K X.mg X.base CX k f fd ps sp)(hr:GB k X.A)(hb:Binds X.K fd ps ds)(hd:Vals dvs ds)(hx:Passes CX X E)
  (ht:eval (.Call (.Attribute o m apos) [] [] pos) X.env=(do
   let ov <-eval o X.env
   standAt apos.atName
   let (f,first) <-holding [ov] (getMethod ov m pl)
   callWith pos f first (backTo pos (starEach [] X.env)) (backToKw pos (keywordEach [] X.env))):=by rfl) :
  PE X (.Call (.Attribute o m apos) [] [] pos) (nr C m sp dvs E ta iw):=by
 intro pins s σ H Q I h;refine hX (pl:=pl) (FH (he pins s σ H _ I h) fun u s1 ⟨x,H1,I1,rx,a,dx,fs,ex,ea,l,q⟩=>?_) ht;subst ex;obtain rfl:u=CG a:=rx;refine Ya I1 ea c hm l ?_;exact kg (first:=[.ref a]) I1.kl hm.kp (fX (us:=[.ref a]) (vs:=[.ref a]) F hr hb hd hx I1 (.cons rfl .nil) q)
structure Mk(K:AE)(C f:Addr):Prop where
 makes:rQ K C=true
 init:DU K (.ref C) "__init__" = some (some (.ref f))
 fn:eV K (.ref f)=true
 kp:D7 K (.ref C)=true
theorem iy{pins:List (Addr×Obj)}{σ:St}{H:Hp}{s:Shared}{Q:VK}{us:List Value}{vs:List V}(M:Mk X.K C f)(F:Bv X.prog X.w X.K X.mg X.base CX k f fd ps sp)(hr:GB (k+1) X.A)(hb:Binds X.K fd ps ds)(hd:Vals dvs ds)
  (hx:Passes CX X E) (I:Inv X pins σ H s) (r:Vals vs us)
  (h:∀x dx,H x=none->H dx=none->dx≠x->sp (.ref x::(vs++dvs)) (upd (upd H dx (.own x)) x (.ins C dx [])) (fun v H2=>v=.Ft/\Q (.ref x) H2) E) :
  wpAny (model X.prog X.w) X.A (call (.ref C) us) (EP X pins σ Q) X.xe s:=by
 have hq:=h (s.heap.objs.size+1) s.heap.objs.size (I.C2.fresh (aS _)) (I.C2.fresh (AV _)) (Bl (JD _));have I2:=Inv.made (C:=C) I;have r2:Vals (V.ref (s.heap.objs.size+1)::(vs++dvs)) (CG (s.heap.objs.size+1)::(us++ds)):=.cons rfl (r.append hd);have hl:(CG (s.heap.objs.size+1)::us++ds).length=ps.length:=by
  have e:=r2.length;rw[F.len _ _ _ _ hq]at e;exact e.symm
 refine yR (tR (f:=f) I.kl M.makes M.init (beq_iff_eq.mp M.fn) (L6 (F.run _ X.stack _ _ ⟨CG (s.heap.objs.size+1)::us,[]⟩ (CG (s.heap.objs.size+1)::(us++ds)) _ _ E (hr.make C us [])
  (I2.zI.make C us []) (hb _ (CG (s.heap.objs.size+1)::us) I2.kl hl) r2 hq) fun r s' hq'=>?_))
 cases r with
 |error e=>exact hx pins σ _ _ e s' I2 hq'
 |ok fl =>
  cases fl with
  |ret u =>
   obtain ⟨v,H',I3,rv,ev,q3⟩:=I2.after hq';subst ev;exact ⟨rv,⟨V.ref (s.heap.objs.size+1),H',I3,rfl,q3⟩⟩
  |next=>exact C8 hq'
  |brk=>exact C8 hq'
  |cont=>exact C8 hq'
theorem Xj(M:Mk X.K C f)(F:Bv X.prog X.w X.K X.mg X.base CX k f fd ps sp)(hr:GB (k+1) X.A)(hg:Gl X x)(hm:X.mg x=some (.ref C))(hb:Binds X.K fd ps ds)(hd:Vals dvs ds)(hx:Passes CX X E)
  (ha:PA X (e::es) t) (hdb:(x==("__debug__" : Str))=false:=by decide) (he:starEach (e::es) X.env=(false,eval e X.env)::starEach es X.env:=by rfl) (hpl:(backTo pos (starEach es X.env)).any (·.1)=false:=by rfl) :
  PE X (.Call (.Name x p) (e::es) [] pos) (yB C sp dvs E t):=by
 intro pins s σ H Q I h;refine GF (Xi I hg hm ?_ hdb);refine J0 (h₀:=X.base) I.ok.mod.yx M.kp (FH (ha pos pins s σ H _ I h) fun us s1 ⟨vs,H1,I1,r,q⟩=>⟨I1.kl,?_⟩) he hpl;exact iy M F hr hb hd hx I1 r q
theorem tS(M:Mk X.K C f)(F:Bv X.prog X.w X.K X.mg X.base CX k f fd ps sp)(hr:GB (k+1) X.A)(hg:Gl X x)(hm:X.mg x=some (.ref C))(hb:Binds X.K fd ps ds)(hd:Vals dvs ds)(hx:Passes CX X E)
  (hdb:(x==("__debug__" : Str))=false:=by decide):PE X (.Call (.Name x p) [] [] pos) (yB C sp dvs E iw):=by
 intro pins s σ H Q I h;refine GF (Xi I hg hm ?_ hdb);exact kg I.kl M.kp (iy (us:=[]) M F hr hb hd hx I .nil h)
end
section
variable {X:Cx} {CX:vM} {k:Nat} {f C:Addr} {fd:FuncData} {ps ks:List Str} {sp:Sp} {E:XK} {x m:Str} {p pos apos kpos:Pos} {e o:Expr} {es:List Expr} {kws:List Keyword} {te ta:TE} {t tk:TA} {nm:Option Str}
structure ACa(K:AE)(fd:FuncData)(ps ks:List Str)(g:List Value->List Value->List Value)(gV:List V->List V->List V):Prop where
 to:∀(s:Shared) (us ws:List Value),K.In s.heap->(g us ws).length=ps.length->BindsTo s fd ⟨us,ks.zip ws⟩ (ps.zip (g us ws))
 rel:∀{vs:List V} {us:List Value} {zs:List V} {ws:List Value},Vals vs us->Vals zs ws->Vals (gV vs zs) (g us ws)
variable {g:List Value->List Value->List Value} {gV:List V->List V->List V}
end
structure Au(N P:List Str)(sc:Scope):Prop where
 kind:sc.kind=.function
 co:sc.isCoroutine=false
 gen:sc.isGenerator=false
 nd:N.Nodup
 pre:N.take P.length=P
 par:∀x∈P,sc.names.lookup x=some .local\/sc.names.lookup x=some .cell
 zJ:∀y∈sc.names,y.2≠.free
theorem cU{kindOf:Str->Option NameKind}{x:Str}:∀{binds:List (Str×Value)} {m:Str->Option Value},(∀v,(x,v) ∉ binds)->bindL kindOf binds m x=m x
 |[],_,_=>rfl
 |(n,v)::r,m,h=>by
  unfold bindL;rw[cU fun w hw=>h w (AG _ hw)]
  split
  ·have:x≠n:=by rintro rfl;exact h v AI
   simp[this]
  ·rfl
theorem cV{kindOf:Str->Option NameKind}{x:Str}:∀{binds:List (Str×Value)} {m:Str->Option Value},(∀v,(x,v) ∉ binds)->bindC kindOf binds m x=m x
 |[],_,_=>rfl
 |(n,v)::r,m,h=>by
  unfold bindC;rw[cV fun w hw=>h w (AG _ hw)]
  split
  ·rfl
  ·have:x≠n:=by rintro rfl;exact h v AI
   simp[this]
theorem cW{kindOf:Str->Option NameKind}{x:Str}{v:Value}:∀{P:List Str} {vs:List Value} {i:Nat} {m:Str->Option Value},P.Nodup->P[i]?=some x->vs[i]?=some v->kindOf x=some .local ->
  bindL kindOf (P.zip vs) m x=some v
 |[],_,_,_,_,h,_,_=>by simp at h
 |_::_,[],_,_,_,_,h,_=>by simp at h
 |p::P,w::vs,0,m,nd,h1,h2,hk=>by
  simp at h1 h2;subst h1;subst h2;show bindL kindOf ((p,w)::P.zip vs) m p=_;unfold bindL;rw[cU fun v hv=>(Bt.mp nd).1 (aU hv).1,if_pos hk];simp
 |p::P,w::vs,i+1,m,nd,h1,h2,hk=>by
  show bindL kindOf ((p,w)::P.zip vs) m x=_;unfold bindL;exact cW (i:=i) (Bt.mp nd).2 (by simpa using h1) (by simpa using h2) hk
theorem cX{kindOf:Str->Option NameKind}{x:Str}{v:Value}:∀{P:List Str} {vs:List Value} {i:Nat} {m:Str->Option Value},P.Nodup->P[i]?=some x->vs[i]?=some v->kindOf x≠some .local ->
  bindC kindOf (P.zip vs) m x=some v
 |[],_,_,_,_,h,_,_=>by simp at h
 |_::_,[],_,_,_,_,h,_=>by simp at h
 |p::P,w::vs,0,m,nd,h1,h2,hk=>by
  simp at h1 h2;subst h1;subst h2;show bindC kindOf ((p,w)::P.zip vs) m p=_;unfold bindC;rw[cV fun v hv=>(Bt.mp nd).1 (aU hv).1,if_neg hk];simp
 |p::P,w::vs,i+1,m,nd,h1,h2,hk=>by
  show bindC kindOf ((p,w)::P.zip vs) m x=_;unfold bindC;exact cX (i:=i) (Bt.mp nd).2 (by simpa using h1) (by simpa using h2) hk
def start(N:List Str)(vs:List V):St:=vs.map some++Ac (N.length-vs.length) none
def lP(CX:vM)(P:Program)(w:World)(K:AE)(mg:Str->Option Value)(base:Heap)(N:List Str)(qual:Str)(scope:Scope)(f:Addr)(cd:Value)(A:Around)(outer:List Env)(s:Shared)(H:Hp)(E:XK):Cx where
 prog:=P
 w:=w
 K:=K
 mg:=mg
 base:=base
 A:=A.deeper (envOfC qual scope s.heap.objs.size f cd)
 N:=N
 bB:=s
 H_0:=H
 env:=envOfC qual scope s.heap.objs.size f cd
 outer:=outer
 stack:=envOfC qual scope s.heap.objs.size f cd::outer
 ex:=[]
 calm:=true
 fn:=fun _=>true
 pn:=[]
 xe:=fun e s'=>wpAny (model P w) (A.deeper (envOfC qual scope s.heap.objs.size f cd)) (leaving (envOfC qual scope s.heap.objs.size f cd) e) (fun _ s''=>CX outer H s E e s'') (fun e' s''=>CX outer H s E e' s'') s'
theorem iz{sc:Scope}{n:Nat}{x:Str}(h:sc.names.lookup x=some .cell):∃c,(cellsFrom n sc.names []).lookup x=some c:=by
 have q:=eW sc.names n [] (.inl h);exact Option.isSome_iff_exists.mp q
theorem pd{CX:vM}{P:Program}{w:World}{K:AE}{mg:Str->Option Value}{base:Heap}{N ps:List Str}{qual:Str}{scope:Scope}{f:Addr}{cd:Value}{A:Around}{outer:List Env}{s s1:Shared}{H:Hp}{E:XK}{us:List Value}{vs:List V}
  (S:Au N ps scope) (hd:A.handled=none) (e0:MA P w K mg base A outer s H) (hl:vs.length=ps.length) (r:Vals vs us)
  (x:InCallC s s.heap.objs.size (bindL (envOfC qual scope s.heap.objs.size f cd).kindOf (ps.zip us) fun _=>none) (cellsFrom (s.heap.objs.size+1) scope.names []) (bindC (envOfC qual scope s.heap.objs.size f cd).kindOf (ps.zip us) fun _=>none) s1) :
  Inv (lP CX P w K mg base N qual scope f cd A outer s H E) [] (start N vs) H s1:=by
 have hpl:ps.length<=N.length:=by have:=congrArg HW S.pre;rw[B0]at this;omega
 obtain ⟨h1,tk,rfl,hk⟩:=x.done;have noA:∀b:Addr,b ∉ (lP CX P w K mg base N qual scope f cd A outer s H E).ex:=fun b z=>absurd (show b∈([]:List Addr) from z) (by simp)
 refine ⟨⟨e0.mod,S.kind,rfl,rfl,AV _,fun y z c h1 h2=>?_,fun y hy=>?_,fun y c _ h=>?_,fun _=>hd,kh e0.frames,.inr ⟨rfl,rfl⟩,fun b z=>absurd z (noA b),e0.bs,e0.pR,fun b _ _=>noA b,fun b z=>absurd z (noA b),e0.LU,e0.pT⟩,
  rfl,e0.bare,Un.kept hk,⟨_,x.toInCall.ns,fun i y v h1 h2 h3=>?_⟩,fun y c h=>⟨_,x.cell y c h⟩,e0.C2.fresh (AV _),fun y c h=>?_,fun p hp=>absurd (show p∈([]:List (Addr×Obj)) from hp) (by simp),e0.C2.kept hk,?_⟩
 ·exact name_of_addr x.apart (Bi h1) (Bi h2)
 ·have hy:scope.names.lookup y=some .cell\/scope.names.lookup y=some .free:=hy;rcases hy with hy|hy
  ·exact iz hy
  ·exact absurd rfl (S.zJ _ (Bi hy))
 ·exact IF (x.above y c (Bi h))
 ·have hi:i<vs.length:=by
   unfold start at h2
   by_cases hi:i<vs.length
   ·exact hi
   ·rw[bq (by simpa using hi)]at h2;rw[iC]at h2
    split at h2<;>cases h2
  have ha:vs[i]?=some v:=by
   unfold start at h2;rw[eX (by simpa using hi),BH]at h2;cases e:vs[i]? with
   |none=>rw[e]at h2;cases h2
   |some a=>rw[e]at h2;cases h2;rfl
  obtain ⟨u,hu,rv⟩:=r.get ha;have hp:ps[i]?=some y:=by
   rw[<-S.pre,ED (by omega)];exact h1
  have ndP:ps.Nodup:=by rw[<-S.pre];exact S.nd.sublist (rW _ _)
  refine ⟨u,rv,?_⟩;rcases S.par y (Ar hp) with k|k
  ·exact .inl ⟨k,cW ndP hp hu k⟩
  ·obtain ⟨c,e⟩:=iz (n:=s.heap.objs.size+1) k;refine .inr ⟨.inl k,c,e,?_⟩;have q:=x.cell y c e;rw[cX ndP hp hu (by show scope.names.lookup y≠_;rw[k];decide)]at q;exact q
 ·exact e0.C2.fresh (IF (x.above y c (Bi h)))
 ·unfold start;show _=N.length;rw[Ab,AB,QR];omega
theorem yC{CX:vM}{P:Program}{w:World}{K:AE}{mg:Str->Option Value}{base:Heap}{k:Nat}{f:Addr}{name qual:Str}{params:Arguments}{body:List Stmt}{scope:Scope}{dV kV doc pm cdv ct oc:Value}{an od:Option Addr}
  {osl:Array (Option Value)} {N ps:List Str} {sp:Sp} (lk:K.lookup f=some ⟨oc,od,.func (Jc name qual params body scope dV kV doc pm an cdv ct),osl⟩) (hcd:Xq K cdv qual=true) (S:Au N ps scope)
  (len:∀vs H Q E,sp vs H Q E->vs.length=ps.length)
  (hbody:∀(A:Around) (outer:List Env) (s:Shared) (H:Hp) (vs:List V) (Q:VK) (E:XK),GB k (A.deeper (envOfC qual scope s.heap.objs.size f cdv))->sp vs H Q E ->
   ∃t,nc (lP CX P w K mg base N qual scope f cdv A outer s H E) body t/\t { nx:=fun _ H'=>Q .Ft H',rt:=Q } (start N vs) H) :
  Bv P w K mg base CX (k+1) f (Jc name qual params body scope dV kV doc pm an cdv ct) ps sp:=by
 refine ⟨len,fun A outer s H args us vs Q E hr e0 hb r hsp=>?_⟩;have hl:=len _ _ _ _ hsp;have KX:K.In s.heap:=e0.mod.yx.keeps fun b o e=>(e0.bs b o e).1
 have lim:s.heap.NoLimit:=e0.mod.nolimit.keeps fun b o e=>(e0.bs b o e).1
 have hkind:∀y∈ps.zip us,scope.names.lookup y.1=some .local\/(scope.names.lookup y.1=some .cell/\((cellsFrom (s.heap.objs.size+1) scope.names []).lookup y.1).isSome=true):=fun ⟨n,v⟩ hy=>by
  rcases S.par n (aU hy).1 with q|q
  ·exact .inl q
  ·exact .inr ⟨q,eW _ _ _ (.inl q)⟩
 refine codeAny_call_function hr.depth (KX _ _ lk) rfl S.co S.gen rfl (PySem.W.codeRec_of KX hcd) (hb _ _ _ _ ?_);refine wpAny_newFunctionEnv_cells S.kind hkind fun env he s1 x=>?_
 subst he;refine ⟨lim.keeps x.toInCall.keep,codeAny_func ?_⟩;obtain ⟨t,ht,hq⟩:=hbody A outer s H vs Q E (hr.deeper _) hsp;have I:Inv (lP CX P w K mg base N qual scope f cdv A outer s H E) [] (start N vs) H s1:=pd S hr.hd e0 hl r x;refine DH (ht [] s1 (start N vs) H _ I hq) (fun fl s' hs=>?_) fun e s' hs=>hs
 have fin:∀{σ':St} {H':Hp} {v:V} {u:Value},Inv (lP CX P w K mg base N qual scope f cdv A outer s H E) [] σ' H' s'->RelV v u->Q v H'->CE outer P w H s Q u s' :=
  fun {σ' H' v u} J rv q=>⟨v,H',J.os,J.bare,J.base,J.C2,rv,q⟩
 cases fl with
 |ret u =>
  obtain ⟨v,σ',H',J,rv,q⟩:=hs;exact fin J rv q
 |next =>
  obtain ⟨σ',H',J,q⟩:=hs;exact fin (v:=V.Ft) (u:=HR) J rfl q
 |brk =>
  obtain ⟨_,_,_,q⟩:=hs;exact C8 q
 |cont =>
  obtain ⟨_,_,_,q⟩:=hs;exact C8 q
end L2
namespace L2
open PySem PySem.Spec PyProof.Rows
section
variable {X:Cx} {x:Str} {p pos:Pos} {e:Expr} {es:List Expr} {t:TA} {id T:String} {r:List V->Hp->VK->Prop}
def tCB(r:List V->Hp->VK->Prop)(t:TA):TE:=fun σ H Q=>t σ H fun vs H1=>r vs H1 Q
theorem Ba(hc:JX X (.builtin id) r)(hg:Gl X x)(hm:X.mg x=none)(hv:bootBuiltins x=some (.builtin id))(ha:PA X (e::es) t)(hn:x ≠ "__name__" := by decide)(hdb:(x==("__debug__" : Str))=false:=by decide)
  (he:starEach (e::es) X.env=(false,eval e X.env)::starEach es X.env:=by rfl) (hpl:(backTo pos (starEach es X.env)).any (·.1)=false:=by rfl):PE X (.Call (.Name x p) (e::es) [] pos) (tCB r t):=by
 intro pins s σ H Q I h;refine GF (M6 I hg hm hv ?_ hn hdb);exact AB3 (FH (ha pos pins s σ H _ I h) fun us s1 ⟨vs,H1,I1,r1,q1⟩=>hc pins s1 σ H1 vs us Q I1 r1 q1) he hpl
theorem DZ(hc:JX X (.type T) r)(hg:Gl X x)(hm:X.mg x=none)(hv:bootBuiltins x=some (.type T))(ha:PA X (e::es) t)(hn:x ≠ "__name__" := by decide)(hdb:(x==("__debug__" : Str))=false:=by decide)
  (he:starEach (e::es) X.env=(false,eval e X.env)::starEach es X.env:=by rfl) (hpl:(backTo pos (starEach es X.env)).any (·.1)=false:=by rfl):PE X (.Call (.Name x p) (e::es) [] pos) (tCB r t):=by
 intro pins s σ H Q I h;refine GF (M6 I hg hm hv ?_ hn hdb);exact Cn (FH (ha pos pins s σ H _ I h) fun us s1 ⟨vs,H1,I1,r1,q1⟩=>hc pins s1 σ H1 vs us Q I1 r1 q1) he hpl
end
end L2
namespace HT
open PySem PyProof.Rows
section
open PySem.SeqAt
open PySem.AutoSeq1 (wpAny_loadPart')
open PySem.MeetsSeq PySem.MeetsSeq2 PySem.MeetsSeq3
end
section
variable {prog:Program} {w:World} {A:Around} {E:Value->Shared->Prop} {s:Shared}
theorem wO{t b:Addr}{vs ws:List Value}{Q:Value->Shared->Prop}(ht:IsTup s.heap t vs.toArray)(hb:IsTup s.heap b ws.toArray)(hv:vs≠[])
  (h1:ws=[]->Q (.ref t) s) (h2:ws≠[]->Q (.ref s.heap.objs.size) { s with heap:=s.heap.push { cls:=.type "tuple",data:=.seq (vs++ws).toArray } })
  (hsz:vs.length+ws.length<=sizeLine):wpAny (model prog w) A (binaryOp .Add (.ref t) (.ref b)) Q E s:=by
 obtain ⟨⟨cls,dd,data,sl⟩,ho,hc,n,hd⟩:=id ht;obtain ⟨⟨cls2,dd2,data2,sl2⟩,ho2,hc2,n2,hd2⟩:=id hb;simp only at hc hd hc2 hd2;subst hc hd hc2 hd2;have e:vs.toArray++ws.toArray=(vs++ws).toArray:=by simp
 by_cases hw:ws=[]
 ·exact rh ⟨_,ho,rfl⟩ ⟨_,ho2,rfl⟩ eY oo Mu L7 (LR _ _)
   (tuple_addW1 t b vs.toArray ws.toArray n n2 dd dd2 sl sl2 (by simpa using hv) (by simp[hw])) ⟨ho,ho2,h1 hw⟩
 ·refine rh ⟨_,ho,rfl⟩ ⟨_,ho2,rfl⟩ eY oo Mu L7 (LR _ _)
   (tuple_addW2 t b vs.toArray ws.toArray n n2 dd dd2 sl sl2 (by simpa using hv) (by simpa using hw) (by rw[Aa,Aa];exact hsz)) ⟨ho,ho2,?_⟩
  rw[e];exact h2 hw
def HS(n d:Nat):Option Int->Nat
 |none=>d
 |some v=>if v<0 then (v+(n:Int)).toNat else min v.toNat n
theorem i3(n d:Nat):HS n d none=d:=rfl
theorem fY(n d k:Nat):HS n d (some (k:Int))=min k n:=by
 show (if (k:Int)<0 then ((k:Int)+(n:Int)).toNat else min (k:Int).toNat n)=min k n;rw[if_neg (by omega),A8]
theorem zK(n d:Nat)(hd:d<=n)(o:Option Int):HS n d o<=n:=by
 cases o with
 |none=>exact hd
 |some v =>
  show (if v<0 then (v+(n:Int)).toNat else min v.toNat n)<=n
  by_cases hv:v<0
  ·rw[if_pos hv];omega
  ·rw[if_neg hv];exact Nat.min_le_right _ _
theorem nv(v:Int)(n d:Nat):(if v<0 then max (v+(n:Int)) 0 else min v (n:Int))=((HS n d (some v):Nat):Int):=by
 show (if v<0 then max (v+(n:Int)) 0 else min v (n:Int))=(((if v<0 then (v+(n:Int)).toNat else min v.toNat n):Nat):Int)
 by_cases hv:v<0
 ·simp only[if_pos hv];omega
 ·simp only[if_neg hv];omega
theorem lQ(lo hi:Option Int)(n:Nat):JE lo hi 1 (n:Int)=(((HS n 0 lo:Nat):Int),((HS n n hi:Nat):Int)):=by
 have h1:¬((1:Int)<0):=by omega
 unfold JE;simp only[h1,if_false];refine Prod.ext ?_ ?_
 ·cases lo with
  |none=>rfl
  |some v=>exact nv v n 0
 ·cases hi with
  |none=>rfl
  |some v=>exact nv v n n
theorem lR(i j:Nat):F1 (i:Int) (j:Int) 1=j-i:=by
 unfold F1;have h1:(1:Int) > 0:=by omega
 simp only[h1,if_true,Int.ediv_one]
 split<;>omega
theorem Yd{v:Value}{o:Option Int}{Q:Option Int->Shared->Prop}(p:IsPart v o)(h:Q o s):wpAny (model prog w) A (AAp v) Q E s:=by
 cases p with
 |none=>exact ACB h
 |int i t=>exact slicePart_int h
theorem MB{sl:Addr}{vl vu:Value}{lo hi:Option Int}{n:Nat}{Q:Int×Int×Nat->Shared->Prop}(hs:s.heap.IsSliceOf sl vl vu .none)(pl:IsPart vl lo)(pu:IsPart vu hi)
  (h:Q (((HS n 0 lo:Nat):Int),1,HS n n hi-HS n 0 lo) s):wpAny (model prog w) A (Sn (.ref sl) (pure (n:Int))) Q E s:=by
 obtain ⟨os,hos,hcs,hds⟩:=id hs;unfold Sn AAq;refine AL (AL (Kz hos hds (x:=vl) rfl (AL (Kz hos hds (x:=vu) rfl (AL (Kz hos hds (x:=.none) rfl (A1 ?_)))))));refine AL (ACB ?_);show wpAny _ _ (if ((1:Int) == 0)=true then _ else _) _ _ s;rw[if_neg (by decide)];refine AL (Yd pl (AL (Yd pu (AL (A1 ?_)))));show wpAny _ _ (match JE lo hi 1 (n:Int) with|(lo,hi)=>pure (lo,(1:Int),F1 lo hi 1)) _ _ s;rw[lQ lo hi n];show wpAny _ _ (pure (((HS n 0 lo:Nat):Int),(1:Int),F1 ((HS n 0 lo:Nat):Int) ((HS n n hi:Nat):Int) 1)) _ _ s;rw[lR];exact A1 h
theorem tT(xs:Array Value)(i k:Nat):((AF k).filterMap fun (m:Nat)=>xs[((i:Int)+(m:Int)*1).toNat]?).toArray=((xs.toList.drop i).take k).toArray:=by
 have e:(fun (m:Nat)=>xs[((i:Int)+(m:Int)*1).toNat]?)=fun m=>xs[i+m]?:=by
  funext m
  have:((i:Int)+(m:Int)*1).toNat=i+m:=by omega
  rw[this]
 rw[e]
 have:=pick_run xs i k
 rw[List.filterMap_map]at this;have e2:((fun x=>xs[x]?) ∘ fun x=>i+x)=fun m=>xs[i+m]?:=rfl
 rw[e2]at this;rw[this]
theorem Ta{t sl:Addr}{items:Array Value}{vl vu:Value}{lo hi:Option Int}{Q:Value->Shared->Prop}(ht:IsTup s.heap t items)(hs:s.heap.IsSliceOf sl vl vu .none)(pl:IsPart vl lo)(pu:IsPart vu hi)
  (hw:¬(HS items.size 0 lo=0/\HS items.size items.size hi=items.size))
  (h:Q (.ref s.heap.objs.size) { s with heap:=s.heap.push { cls:=.type "tuple",data:=.seq ((items.toList.drop (HS items.size 0 lo)).take (HS items.size items.size hi-HS items.size 0 lo)).toArray } })
  (hsz:items.size<=sizeLine):wpAny (model prog w) A (getItem (.ref t) (.ref sl)) Q E s:=by
 have htake:sizeOk (.seq ((items.toList.drop (HS items.size 0 lo)).take (HS items.size items.size hi-HS items.size 0 lo)).toArray):=by
  show ((items.toList.drop (HS items.size 0 lo)).take (HS items.size items.size hi-HS items.size 0 lo)).toArray.size<=sizeLine;rw[Aa,B0,Ef,Df];omega
 have hj:HS items.size items.size hi<=items.size:=zK _ _ (AV _) hi;obtain ⟨os,hos,hcs,hds⟩:=id hs;have hTs:s.TypeIs (.ref sl) "slice" := ⟨os,hos,hcs⟩;unfold getItem
 try with_reducible refine EL ?_
 first|refine AL (A1 ?_)|skip
 refine AL (AAJ ht.typeIs (by decide) ?_);refine AL (IY (name:=G0 "__getitem__") ht.typeIs Cu
  (Qz Cu ht.typeIs xf ?_ (yS _ _)))
 show wpAny _ _ (So (.ref t) >>= _) _ _ s;refine AL (ACt ht ?_);refine AL (ah hTs ?_);rw[if_pos (by decide)];refine AL (MB hs pl pu ?_);have hno:¬((((HS items.size 0 lo:Nat):Int) == 0&&(1:Int) == 1&&(HS items.size items.size hi-HS items.size 0 lo)==items.size)=true):=by
  intro q;rw[BB,BB]at q;have q1:((HS items.size 0 lo:Nat):Int)=0:=eq_of_beq q.1.1;have q2:HS items.size items.size hi-HS items.size 0 lo=items.size:=eq_of_beq q.2;exact hw ⟨by omega,by omega⟩
 show wpAny _ _ (if (((HS items.size 0 lo:Nat):Int) == 0&&(1:Int) == 1&&(HS items.size items.size hi-HS items.size 0 lo)==items.size)=true then _ else _) _ _ s;rw[if_neg hno,tT]
 first
  |exact AL (m:=Dj _) (Dt (A1 ⟨_,rfl,A1 h⟩) htake)
  |exact AL (m:=Dj _) (Dt (AL (A1 (A1 ⟨_,rfl,A1 h⟩))) htake)
  |exact AL (AL (m:=Dj _) (Dt (A1 (A1 ⟨_,rfl,A1 h⟩)) htake))
  |exact AL (AL (m:=Dj _) (Dt (A1 ⟨_,rfl,A1 h⟩) htake))
end
end HT
namespace L2
open PySem PySem.Spec PyProof.Rows
abbrev TO:=St->Hp->(Option Int->Hp->Prop)->Prop
def PO(X:Cx)(e:Option Expr)(t:TO):Prop :=
 ∀(pins:List (Addr×Obj)) (s:Shared) (σ:St) (H:Hp) (Q:Option Int->Hp->Prop),Inv X pins σ H s->t σ H Q ->
  wpAny (model X.prog X.w) X.A (evalPart e X.env) (fun u s'=>∃o H',Inv X pins σ H' s'/\IsPart u o/\Q o H') X.xe s
def wQ:TO:=fun _ H Q=>Q none H
def ABJ(t:TE):TO:=fun σ H Q=>t σ H fun x H1=>∃i,x=.int i/\Q (some i) H1
theorem intsAre_of{ns:List Int}:∀{us:List Value},Vals (ns.map V.int) us->IntsAre us ns:=by
 induction ns with
 |nil=>intro us r;rw[IA]at r;cases r;exact .nil
 |cons n ns ih =>
  intro us r;rw[Az]at r;cases r with
  |cons r1 r2 =>
   obtain ⟨t,e⟩:=r1;subst e;exact .cons n t (ih r2)
section
variable {X:Cx} {e:Expr} {te:TE} {lo hi:Option Expr} {tl th:TO} {pos p2:Pos}
theorem Td:PO X none wQ:=by
 intro pins s σ H Q I h;rw[ACu];exact A1 ⟨none,H,I,.none,h⟩
theorem Ji(h:PE X e te):PO X (some e) (ABJ te):=by
 intro pins s σ H Q I hw;rw[evalPart_some];refine FH (h pins s σ H _ I hw) fun u s1 ⟨x,H1,I1,r1,q1⟩=>?_
 obtain ⟨i,rfl,q⟩:=q1;obtain ⟨t,rfl⟩:=r1;exact ⟨some i,H1,I1,.int i t,q⟩
def SlR(X:Cx)(r:V->Option Int->Option Int->Hp->VK->Prop):Prop :=
 ∀(pins:List (Addr×Obj)) (s:Shared) (σ:St) (H:Hp) (x:V) (v vl vu:Value) (lo hi:Option Int) (sl:Addr) (Q:VK),Inv X pins σ H s->RelV x v->s.heap.IsSliceOf sl vl vu .none->IsPart vl lo->IsPart vu hi->r x lo hi H Q ->
  ∃T id,typeLookup (.type T) "__getitem__" = pure (some (.builtin id))/\s.TypeIs v T/\wpAny (model X.prog X.w) X.A (getItem v (.ref sl)) (EP X pins σ Q) X.xe s
def tSl(r:V->Option Int->Option Int->Hp->VK->Prop)(te:TE)(tl th:TO):TE:=fun σ H Q=>te σ H fun x H1=>tl σ H1 fun l H2=>th σ H2 fun u H3=>r x l u H3 Q
theorem J7{r:V->Option Int->Option Int->Hp->VK->Prop}(hr:SlR X r)(he:PE X e te)(hl:PO X lo tl)(hu:PO X hi th):PE X (.Subscript e (.Slice lo hi none p2) pos) (tSl r te tl th):=by
 intro pins s σ H Q I h;refine Subscript_ (FH (he pins s σ H _ I h) fun v s1 ⟨x,H1,I1,r1,q1⟩=>?_);refine wpAny_Slice (FH (hl pins s1 σ H1 _ I1 q1) fun vl s2 ⟨l,H2,I2,pl,q2⟩=>FH (hu pins s2 σ H2 _ I2 q2) fun vu s3 ⟨u,H3,I3,pu,q3⟩=>?_);rw[ACu];refine A1 ?_;have I4:Inv X pins σ H3 { s3 with heap:=s3.heap.push { cls:=.type "slice",data:=.fields #[vl,vu,.none] } }:=I3.kept (t':=s3.toks) fun b ob q=>AW _ q
 obtain ⟨T,id,hT,ht,hg⟩:=hr pins { s3 with heap:=s3.heap.push { cls:=.type "slice",data:=.fields #[vl,vu,.none] } } σ H3 x v vl vu l u s3.heap.objs.size Q I4 r1 (AAK ..) pl pu q3;show wpAny (model X.prog X.w) X.A (subscriptTail e (.Slice lo hi none p2) v (.ref s3.heap.objs.size)) (EP X pins σ Q) X.xe { s3 with heap:=s3.heap.push { cls:=.type "slice",data:=.fields #[vl,vu,.none] } };exact tail_any (ops:=[.ref s3.heap.objs.size,v]) ht hT hg (by with_unfolding_all rfl)
def N8(xs:List V)(lo hi:Option Int):List V:=(xs.drop (HT.HS xs.length 0 lo)).take (HT.HS xs.length xs.length hi-HT.HS xs.length 0 lo)
theorem WA(xs:List V)(lo hi:Option Int):(N8 xs lo hi).length<=xs.length:=by
 unfold N8;rw[B0,Ef];omega
def ACb(K:AE):V->Option Int->Option Int->Hp->VK->Prop:=fun x lo hi H Q=>∃a xs,x=.ref a/\DR K H a xs /\
 ¬(HT.HS xs.length 0 lo=0/\HT.HS xs.length xs.length hi=xs.length)/\∀p,H p=none->Q (.ref p) (upd H p (.tup (N8 xs lo hi)))
theorem zL:SlR X (ACb X.K):=by
 intro pins s σ H x v vl vu lo hi sl Q I rx hs pl pu h;obtain ⟨a,xs,rfl,hx,hw,q⟩:=h;cases rx;obtain ⟨its,r,ht,hz⟩:=I.tuple hx;have hlen:its.toArray.size=xs.length:=by rw[Aa];exact r.length.symm
 refine ⟨"tuple",_,Cu.lookup,ht.typeIs,?_⟩;refine HT.Ta ht hs pl pu (by rw[hlen];exact hw) ?_ (by rw[hlen];exact hz);rw[hlen];refine ⟨.ref s.heap.objs.size,_,I.laid (t':=s.toks) (o:=.tup (N8 xs lo hi)) (fun b ob q=>AW _ q) (AV _) ?_,rfl,q _ (I.C2.fresh (AV _))⟩;exact ⟨AY (WA xs lo hi) hz,_,(r.drop (HT.HS xs.length 0 lo)).take (HT.HS xs.length xs.length hi-HT.HS xs.length 0 lo),JG.new _ _⟩
def ABK(K:AE):R2:=fun x y H Q=>∃a b xs ys,x=.ref a/\y=.ref b/\DR K H a xs/\DR K H b ys/\xs≠[]/\xs.length+ys.length<=sizeLine /\
 (ys=[]->Q (.ref a) H)/\(ys≠[]->∀p,H p=none->Q (.ref p) (upd H p (.tup (xs++ys))))
theorem Vals.Xk{xs:List V}{us:List Value}(r:Vals xs us):us=[] ↔ xs=[]:=by
 cases r with
 |nil=>simp
 |cons _ _=>simp
theorem fZ:V9 X (binaryOp .Add) (ABK X.K):=by
 intro pins s σ H x y v u Q I rx ry h;obtain ⟨a,b,xs,ys,rfl,rfl,ha,hb,hx,hz,q1,q2⟩:=h;cases rx;cases ry;obtain ⟨its,r1,p1,_⟩:=I.tuple ha;obtain ⟨its2,r2,p2,_⟩:=I.tuple hb;refine HT.wO p1 p2 (fun z=>hx (r1.Xk.mp z)) (fun z=>⟨.ref a,H,I,rfl,q1 (r2.Xk.mp z)⟩) (fun z=>?_) (by rw[<-r1.length,<-r2.length];exact hz);refine ⟨.ref s.heap.objs.size,_,I.laid (t':=s.toks) (o:=.tup (xs++ys)) (fun b ob q=>AW _ q) (AV _) ?_,rfl,q2 (fun w=>z (r2.Xk.mpr w)) _ (I.C2.fresh (AV _))⟩;exact ⟨by rw[Ab];exact hz,_,r1.append r2,JG.new _ _⟩
end
end L2
namespace L2
open PySem PySem.Spec PyProof.Rows
def wR(n:Nat)(i:Int):Option Nat:=if 0<=i then (if i<n then some i.toNat else none) else if -(n:Int)<=i then some (i+n).toNat else none
def wU{α:Type}(xs:List α)(i:Int):Option α:=(wR xs.length i).bind fun j=>xs[j]?
theorem ny{n:Nat}{i:Int}{j:Nat}(h:wR n i=some j):seqIndex? i n=some j/\j<n /\ -(n:Int)<=i/\i<n:=by
 unfold wR at h
 by_cases h0:0<=i
 ·rw[if_pos h0]at h
  by_cases h1:i<n
  ·rw[if_pos h1]at h;have e:i.toNat=j:=Al h;exact ⟨by rw[vV h0 h1,e],by omega,by omega,h1⟩
  ·rw[if_neg h1]at h;cases h
 ·rw[if_neg h0]at h
  by_cases h1 : -(n:Int)<=i
  ·rw[if_pos h1]at h;have e:(i+n).toNat=j:=Al h;exact ⟨by rw[rj (by omega) h1,e],by omega,h1,by omega⟩
  ·rw[if_neg h1]at h;cases h
theorem nz{α:Type}{xs:List α}{i:Int}{v:α}(h:wU xs i=some v):∃j,seqIndex? i xs.length=some j/\xs[j]?=some v/\j<xs.length /\ -(xs.length:Int)<=i/\i<xs.length:=by
 unfold wU at h;cases e:wR xs.length i with
 |none=>rw[e]at h;cases h
 |some j =>
  rw[e]at h;obtain ⟨h1,h2,h3,h4⟩:=ny e;exact ⟨j,h1,h,h2,h3,h4⟩
theorem fe{α:Type}{xs:List α}{j:Nat}{v:α}(h:xs[j]?=some v):wU xs (j:Int)=some v:=by
 have hj:j<xs.length:=(Ap.mp h).1;have e:wR xs.length (j:Int)=some j:=by
  unfold wR;rw[if_pos (by omega),if_pos (by omega)];simp
 unfold wU;rw[e];exact h
def wV(b:Expr):Prop:=∀o i,subscripted b false o i=operate [o,i] (getItem o i)
def wW(X:Cx)(r:R2):Prop :=
 ∀(value slice:Expr) (pins:List (Addr×Obj)) (s:Shared) (σ:St) (H:Hp) (x y:V) (v u:Value) (Q:VK),Inv X pins σ H s->RelV x v->RelV y u->r x y H Q ->
  subscripted slice false v u=operate [v,u] (getItem v u)->wpAny (model X.prog X.w) X.A (subscriptTail value slice v u) (EP X pins σ Q) X.xe s
def MtR(X:Cx)(id:String)(r:V->List V->Hp->VK->Prop):Prop :=
 ∀(pins:List (Addr×Obj)) (s:Shared) (σ:St) (H:Hp) (x:V) (xs:List V) (v:Value) (us:List Value) (Q:VK),Inv X pins σ H s->RelV x v->Vals xs us->r x xs H Q ->
  wpAny (model X.prog X.w) X.A (call (.builtin id) (v::us)) (EP X pins σ Q) X.xe s
section
variable {X:Cx} {a b:Expr} {ta tb:TE} {pos:Pos}
theorem wW.or{r r':R2}(h:wW X r)(h':wW X r'):wW X (fun x y H Q=>r x y H Q\/r' x y H Q):=by
 intro value slice pins s σ H x y v u Q I rx ry q hs;rcases q with q|q
 ·exact h value slice pins s σ H x y v u Q I rx ry q hs
 ·exact h' value slice pins s σ H x y v u Q I rx ry q hs
theorem BU{r:R2}(hr:wW X r)(ha:PE X a ta)(hb:PE X b tb)(hs:wV b):PE X (.Subscript a b pos) (tOp r ta tb):=by
 intro pins s σ H Q I h;exact Subscript_ (zC ha hb I h fun v u s2 x y H2 I2 rx ry q=>hr a b pins s2 σ H2 x y v u Q I2 rx ry q (hs _ _))
def zM(K:AE):R2:=fun x y H Q=>∃p xs i v,x=.ref p/\y=.int i/\Bq K H p xs/\wU xs i=some v/\Q v H
def zN(K:AE):R2:=fun x y H Q=>∃p xs i v,x=.ref p/\y=.int i/\DR K H p xs/\wU xs i=some v/\Q v H
theorem Be:wW X (zM X.K):=by
 intro value slice pins s σ H x y v u Q I rx ry h hs;obtain ⟨p,xs,i,z,rfl,rfl,hq,he,q⟩:=h;cases rx;obtain ⟨t,rfl⟩:=ry;obtain ⟨its,r,pl,hz⟩:=I.list hq;obtain ⟨j,h1,h2,h3,h4,h5⟩:=nz he;obtain ⟨w,ew,rw'⟩:=r.get h2;have hl:=r.length;have hn:=YZ;have fin:EP X pins σ Q w s:=⟨z,H,I,rw',q⟩
 by_cases h0:0<=i
 ·have hj:i.toNat=j:=by
   rw[vV h0 h5]at h1;exact Al h1
  exact item_listR pl.isList h0 (by omega) (by rw[hj];simpa using ew) fin hs
 ·have hj:(i+(its.toArray.size:Int)).toNat=j:=by
   rw[rj (by omega) h4]at h1;rw[Aa,<-hl];exact Al h1
  exact rl (x:=w) pl.isList.typeIs slot_list_getitem.lookup
   (wpAny_getItem_list_neg (Q:=fun r s'=>r=w/\EP X pins σ Q r s') pl.isList (by omega) (by rw[Aa]<;>omega) (by omega) (by rw[hj];simpa using ew) ⟨rfl,fin⟩) hs
theorem CU:wW X (zN X.K):=by
 intro value slice pins s σ H x y v u Q I rx ry h hs;obtain ⟨p,xs,i,z,rfl,rfl,hq,he,q⟩:=h;cases rx;obtain ⟨t,rfl⟩:=ry;obtain ⟨its,r,pl,hz⟩:=I.tuple hq;obtain ⟨j,h1,h2,h3,h4,h5⟩:=nz he;obtain ⟨w,ew,rw'⟩:=r.get h2;have hl:=r.length;have hn:=YZ;have fin:EP X pins σ Q w s:=⟨z,H,I,rw',q⟩;exact rl (x:=w) pl.typeIs slot_tuple_getitem.lookup
  (getItem_tuple (j:=j) (Q:=fun r s'=>r=w/\EP X pins σ Q r s') pl (by omega) (by omega) (by rw[Aa,<-hl];exact h1) (by simpa using ew) ⟨rfl,fin⟩) hs
theorem lS(its:List Value)(n j:Nat)(u:Value):D8 (·.setIfInBounds j u) { cls:=.type "list",data:=.seq its.toArray n }={ cls:=.type "list",data:=.seq (its.set j u).toArray n }:=by
 simp[D8]
theorem Inv.lst{pins:List (Addr×Obj)}{σ:St}{H:Hp}{s:Shared}{p:Addr}{xs:List V}(I:Inv X pins σ H s)(h:H p=some (.lst xs)) :
  ∃(its:List Value) (n:Nat),Vals xs its/\s.heap.get? p=some { cls:=.type "list",data:=.seq its.toArray n }/\xs.length<=sizeLine:=by
 obtain ⟨z,its,n,r,e⟩:=I.C2 p _ h;exact ⟨its,n,r,e,z⟩
theorem Inv.zO{pins:List (Addr×Obj)}{σ:St}{H:Hp}{s:Shared}{p:Addr}{xs ys:List V}{its its':List Value}{n n':Nat}{f:Obj->Obj}(I:Inv X pins σ H s)(h:H p=some (.lst xs))
  (ho:s.heap.get? p=some { cls:=.type "list",data:=.seq its.toArray n }) (hf:f { cls:=.type "list",data:=.seq its.toArray n }={ cls:=.type "list",data:=.seq its'.toArray n' }) (r:Vals ys its') (hz:ys.length<=sizeLine) (t:Nat) :
  Inv X pins σ (upd H p (.lst ys)) { s with heap:=s.heap.update p f,toks:=t }:=by
 have e:(s.heap.update p f).get? p=some { cls:=.type "list",data:=.seq its'.toArray n' }:=by
  rw[kr f ho (by rw[hf]<;>rfl),hf]
 refine I.write (x:=p) (e:=p) (by rw[h];trivial) (.inl rfl) (fun b u hb q=>(ki _ _ (Cr hb)).trans q) ⟨_,e⟩ ?_;exact ⟨hz,its',n',r,e⟩
def ABL:V->V->V->Hp->(Hp->Prop)->Prop:=fun o i v H Q=>∃p xs k j,o=.ref p/\i=.int k/\H p=some (.lst xs)/\wR xs.length k=some j/\Q (upd H p (.lst (xs.set j v)))
theorem set_list:AA8 X ABL:=by
 intro pins s σ H o i v ov iv u Q I ro ri rv h;obtain ⟨p,xs,k,j,rfl,rfl,hp,hj,q⟩:=h;cases ro;obtain ⟨t,rfl⟩:=ri;obtain ⟨its,n,r,ho,hz⟩:=I.lst hp;obtain ⟨h1,h2,h3,h4⟩:=ny hj;have hl:=r.length;have hn:=YZ;have I':Inv X pins σ (upd H p (.lst (xs.set j v))) { s with heap:=s.heap.update p (D8 (·.setIfInBounds j u)) } :=
  I.zO hp ho (lS its n j u) (r.set rv j) (by rw[B7];exact hz) s.toks
 by_cases h0:0<=k
 ·have hk:k.toNat=j:=by
   rw[vV h0 h4]at h1;exact Al h1
  exact PySem.W.ki_setAt ho h0 (by omega) (by rw[Aa,<-hl];exact h4) (by rw[hk];exact ⟨_,I',q⟩)
 ·have hk:(k+(its.toArray.size:Int)).toNat=j:=by
   rw[rj (by omega) h3]at h1;rw[Aa,<-hl];exact Al h1
  exact PySem.W.ki_setBack ho (by omega) (by rw[Aa,<-hl];exact h3) (by omega) (by rw[hk];exact ⟨_,I',q⟩)
theorem fg(lo hi:Option Int)(n:Nat):(sliceBounds lo hi none n).1=((HT.HS n 0 lo:Nat):Int)/\(sliceBounds lo hi none n).2.1=((HT.HS n n hi:Nat):Int)/\(sliceBounds lo hi none n).2.2=1:=by
 refine ⟨?_,?_,rfl⟩
 ·cases lo with
  |none=>simp[sliceBounds,HT.HS]
  |some i =>
   simp only[sliceBounds,HT.HS,Mp,show (1:Int) > 0 by decide,if_true]
   by_cases h:i<0
   ·simp only[h,if_true]<;>omega
   ·simp only[h,if_false]<;>omega
 ·cases hi with
  |none=>simp[sliceBounds,HT.HS]
  |some i =>
   simp only[sliceBounds,HT.HS,Mp,show (1:Int) > 0 by decide,if_true]
   by_cases h:i<0
   ·simp only[h,if_true]<;>omega
   ·simp only[h,if_false]<;>omega
theorem bC(its:List Value)(lo hi:Option Int):slicePick its.toArray lo hi none=((its.drop (HT.HS its.length 0 lo)).take (HT.HS its.length its.length hi-HT.HS its.length 0 lo)).toArray:=by
 obtain ⟨h1,h2,h3⟩:=fg lo hi its.toArray.size;unfold slicePick;rw[h1,h2,h3];simp only[sliceRange_one,pick_run,Aa]<;>rfl
def ACc(K:AE):V->Option Int->Option Int->Hp->VK->Prop:=fun x lo hi H Q=>∃a xs,x=.ref a/\Bq K H a xs/\∀p,H p=none->Q (.ref p) (upd H p (.lst (N8 xs lo hi)))
theorem Te:SlR X (ACc X.K):=by
 intro pins s σ H x v vl vu lo hi sl Q I rx hs pl pu h;obtain ⟨a,xs,rfl,hx,q⟩:=h;cases rx;obtain ⟨its,r,ht,hz⟩:=I.list hx;have hlen:=r.length;refine ⟨"list",_,slot_list_getitem.lookup,ht.isList.typeIs,?_⟩;refine wpAny_getItem_list_slice ht.isList hs pl pu .none (by simp) ?_ (by rw[Aa]<;>omega);rw[bC,<-hlen];refine ⟨.ref s.heap.objs.size,_,I.laid (t':=s.toks) (o:=.lst (N8 xs lo hi)) (fun b ob q=>AW _ q) (AV _) ?_,rfl,q _ (I.C2.fresh (AV _))⟩;exact ⟨AY (WA xs lo hi) hz,_,0,(r.drop (HT.HS xs.length 0 lo)).take (HT.HS xs.length xs.length hi-HT.HS xs.length 0 lo),BA _ rfl⟩
def JY:V->Bool
 |.Ft=>true
 |.bl _=>true
 |.int _=>true
 |.str _=>true
 |_=>false
def km:V->V->Bool
 |.Ft,.Ft=>true
 |.bl a,.bl b=>a==b
 |.bl a,.int b=>(if a then 1 else 0)==b
 |.int a,.bl b=>a==(if b then 1 else 0)
 |.int a,.int b=>a==b
 |.str a,.str b=>a==b
 |_,_=>false
theorem zP{A:Around}{s:Shared}{y x:V}{u v:Value}(ry:RelV y u)(rx:RelV x v)(fy:JY y=true)(fx:JY x=true):AAr A s u v (km y x):=by
 cases y with
 |Ft =>
  cases ry;cases x with
  |Ft=>cases rx;exact ACv _
  |bl b=>cases rx;exact ACw b
  |int b=>obtain ⟨t,rfl⟩:=rx;exact ACx b t
  |str b=>obtain ⟨t,rfl⟩:=rx;exact ACy b t
  |_=>exact absurd (show false=true from fx) AZ
 |bl a =>
  cases ry;cases x with
  |Ft=>cases rx;exact ACz a
  |bl b=>cases rx;exact AC0 a b
  |int b=>obtain ⟨t,rfl⟩:=rx;exact AC1 a b t
  |str b=>obtain ⟨t,rfl⟩:=rx;exact AC2 a b t
  |_=>exact absurd (show false=true from fx) AZ
 |int a =>
  obtain ⟨t',rfl⟩:=ry;cases x with
  |Ft=>cases rx;exact AC3 a t'
  |bl b=>cases rx;exact AC4 a t' b
  |int b=>obtain ⟨t,rfl⟩:=rx;exact AC5 a t' b t
  |str b=>obtain ⟨t,rfl⟩:=rx;exact g8 a t' b t
  |_=>exact absurd (show false=true from fx) AZ
 |str a =>
  obtain ⟨t',rfl⟩:=ry;cases x with
  |Ft=>cases rx;exact AC6 a t'
  |bl b=>cases rx;exact AC7 a t' b
  |int b=>obtain ⟨t,rfl⟩:=rx;exact g9 a t' b t
  |str b=>obtain ⟨t,rfl⟩:=rx;exact AC8 a t' b t
  |_=>exact absurd (show false=true from fx) AZ
 |_=>exact absurd (show false=true from fy) AZ
def fh(x:V)(u:Value):Bool:=match u with
 |.none=>km .Ft x
 |.bool b=>km (.bl b) x
 |.int i _=>km (.int i) x
 |.str z _=>km (.str z) x
 |_=>false
theorem Ye{x y:V}{u:Value}(r:RelV y u)(f:JY y=true):fh x u=km y x:=by
 cases y with
 |Ft=>cases r;rfl
 |bl b=>cases r;rfl
 |int i=>obtain ⟨t,rfl⟩:=r;rfl
 |str z=>obtain ⟨t,rfl⟩:=r;rfl
 |_=>exact absurd (show false=true from f) AZ
theorem Tf{x:V}:∀{xs:List V} {us:List Value},Vals xs us->xs.all JY=true->us.any (fh x)=xs.any fun y=>km y x
 |_,_,.nil,_=>rfl
 |y::xs,u::us,.cons r t,f=>by
  rw[JC,BB]at f;rw[GA,GA,Ye r f.1,Tf t f.2]
theorem J8{A:Around}{s:Shared}{x:V}{v:Value}(rx:RelV x v)(fx:JY x=true):∀{xs:List V} {us:List Value},Vals xs us->xs.all JY=true->∀u∈us,AAr A s u v (fh x u)
 |_,_,.nil,_=>fun u hu=>by cases hu
 |y::xs,u::us,.cons r t,f=>fun u' hu=>by
  rw[JC,BB]at f;rcases Ak.mp hu with rfl|hu
  ·rw[Ye r f.1];exact zP r rx f.1 fx
  ·exact J8 rx fx t f.2 u' hu
def rS(x:V)(xs:List V):Bool:=xs.any fun y=>km y x
def rIn(K:AE)(neg:Bool):R2:=fun x y H Q=>∃p xs,y=.ref p/\(Bq K H p xs\/DR K H p xs)/\JY x=true/\xs.all JY=true/\Q (.bl (if neg then !rS x xs else rS x xs)) H
theorem Ju:V9 X (compareOp .In) (rIn X.K false):=by
 intro pins s σ H x y v u Q I rx ry h;obtain ⟨p,xs,rfl,hq,fx,fs,q⟩:=h;cases ry;rcases hq with hq|hq
 ·obtain ⟨its,r,pl,hz⟩:=I.list hq;refine SeqAt.in_listAt (fh x) pl.isList (fun w hw=>J8 rx fx r fs w (by simpa using hw)) ⟨.bl _,H,I,rfl,?_⟩;rw[show its.toArray.any (fh x)=its.any (fh x) by simp,Tf r fs];exact q
 ·obtain ⟨its,r,pl,hz⟩:=I.tuple hq;refine SeqAt.in_tupleAt (fh x) pl (fun w hw=>J8 rx fx r fs w (by simpa using hw)) ⟨.bl _,H,I,rfl,?_⟩;rw[show its.toArray.any (fh x)=its.any (fh x) by simp,Tf r fs];exact q
theorem fj:V9 X (compareOp .NotIn) (rIn X.K true):=by
 intro pins s σ H x y v u Q I rx ry h;obtain ⟨p,xs,rfl,hq,fx,fs,q⟩:=h;cases ry;rcases hq with hq|hq
 ·obtain ⟨its,r,pl,hz⟩:=I.list hq;refine SeqAt.notIn_listAt (fh x) pl.isList (fun w hw=>J8 rx fx r fs w (by simpa using hw)) ⟨.bl _,H,I,rfl,?_⟩;rw[show its.toArray.any (fh x)=its.any (fh x) by simp,Tf r fs];exact q
 ·obtain ⟨its,r,pl,hz⟩:=I.tuple hq;refine SeqAt.notIn_tupleAt (fh x) pl (fun w hw=>J8 rx fx r fs w (by simpa using hw)) ⟨.bl _,H,I,rfl,?_⟩;rw[show its.toArray.any (fh x)=its.any (fh x) by simp,Tf r fs];exact q
theorem A4:JX X (.builtin "len") (fun xs H Q=>∃p ys,xs=[.ref p]/\(Bq X.K H p ys\/DR X.K H p ys)/\Q (.int ys.length) H):=by
 intro pins s σ H xs us Q I r h;obtain ⟨p,ys,rfl,hq,q⟩:=h;obtain ⟨u,rfl,rx⟩:=vals1 r;cases rx;have hn:=YZ;rcases hq with hq|hq
 ·obtain ⟨its,r',pl,hz⟩:=I.list hq;have hlen:=r'.length;exact Calls.call_len_list pl.isList (by simp only[Aa]<;>omega) ⟨.int ys.length,H,I.tok _,⟨s.toks+1,by rw[Aa,hlen]⟩,q⟩
 ·obtain ⟨its,r',pl,hz⟩:=I.tuple hq;have hlen:=r'.length;exact len_tuple pl (by simp only[Aa]<;>omega) ⟨.int ys.length,H,I.tok _,⟨s.toks+1,by rw[Aa,hlen]⟩,q⟩
theorem Jj:JX X (.type "list") (fun xs H Q=>∃p ys,xs=[.ref p]/\(Bq X.K H p ys\/DR X.K H p ys)/\∀l,H l=none->Q (.ref l) (upd H l (.lst ys))):=by
 intro pins s σ H xs us Q I r h;obtain ⟨p,ys,rfl,hq,q⟩:=h;obtain ⟨u,rfl,rx⟩:=vals1 r;cases rx;have fin:∀(its:List Value),Vals ys its->ys.length<=sizeLine->∀(h':Heap) (c':Nat),(∀b o',s.heap.get? b=some o'->h'.get? b=some o') ->
   h'.get? s.heap.objs.size=some { cls:=.type "list",dict:=none,data:=.seq its.toArray c',slots:=#[] }->EP X pins σ Q (.ref s.heap.objs.size) { s with heap:=h' }:=fun its r' hz h' c' kp e =>
  ⟨.ref s.heap.objs.size,_,I.laid (t':=s.toks) kp (AV _) (show Eo X.prog X.w _ h' _ (.lst ys) from ⟨hz,its,c',r',e⟩),rfl,q _ (I.C2.fresh (AV _))⟩
 rcases hq with hq|hq
 ·obtain ⟨its,r',pl,hz⟩:=I.list hq;have hlen:=r'.length;obtain ⟨o,ho,hc,n,hd⟩:=pl.isList;exact AC9 p (.inl rfl) ho hc hd (fun h' c' kp e=>fin its r' hz h' c' kp e) (by simp only[Aa]<;>omega)
 ·obtain ⟨its,r',pl,hz⟩:=I.tuple hq;have hlen:=r'.length;obtain ⟨o,ho,hc,n,hd⟩:=pl;exact AC9 p (.inr rfl) ho hc hd (fun h' c' kp e=>fin its r' hz h' c' kp e) (by simp only[Aa]<;>omega)
theorem Dz:JX X (.type "tuple") (fun xs H Q=>∃p ys,xs=[.ref p]/\((Bq X.K H p ys/\∀l,H l=none->Q (.ref l) (upd H l (.tup ys)))\/(DR X.K H p ys/\Q (.ref p) H))):=by
 intro pins s σ H xs us Q I r h;obtain ⟨p,ys,rfl,h⟩:=h;obtain ⟨u,rfl,rx⟩:=vals1 r;cases rx;rcases h with ⟨hq,q⟩|⟨hq,q⟩
 ·obtain ⟨its,r',pl,hz⟩:=I.list hq;have hlen:=r'.length;refine call_tuple_list pl.isList (fun h' kp=>?_) (by simp only[Aa]<;>omega);have I1:Inv X pins σ H { s with heap:=h' }:=I.kept (t':=s.toks) kp;have I2:Inv X pins σ (upd H h'.objs.size (.tup ys)) { s with heap:=h'.push { cls:=.type "tuple",data:=.seq its.toArray } } :=
   I1.laid (t':=s.toks) (fun b o e=>AW _ e) (AV _) (show Eo X.prog X.w _ _ _ (.tup ys) from ⟨hz,its,r',JG.new _ _⟩)
  exact ⟨.ref h'.objs.size,_,I2,rfl,q _ (I1.C2.fresh (AV _))⟩
 ·obtain ⟨its,r',pl,hz⟩:=I.tuple hq;exact call_tuple_same pl ⟨.ref p,H,I,rfl,q⟩
def tyV(K:AE)(T:String)(x:V)(H:Hp):Prop:=match x with
 |.str _=>T = "str"
 |.int _=>T = "int"
 |.ref p=>(T = "list" /\ ∃xs,Bq K H p xs)\/(T = "tuple" /\ ((∃o,K.lookup p=some o/\o.cls=.type "tuple" /\ o.dict=none)\/∃xs,H p=some (.tup xs))) \/
   (T = "dict" /\ ((∃kvs,H p=some (.dK kvs))\/∃kvs,H p=some (.dT kvs)))\/(T = "set" /\ ∃S n,H p=some (.set S n))
 |_=>False
theorem tU{pins:List (Addr×Obj)}{σ:St}{H:Hp}{s:Shared}{T:String}{x:V}{v:Value}(I:Inv X pins σ H s)(r:RelV x v)(ty:tyV X.K T x H) :
  s.TypeIs v T/\∀a,v=.ref a->∃ob,s.heap.get? a=some ob/\ob.dict=none:=by
 cases x with
 |str z =>
  obtain ⟨t,rfl⟩:=r;cases (show T = "str" from ty);exact ⟨typeIs_str s z t,fun _ e=>nomatch e⟩
 |int i =>
  obtain ⟨t,rfl⟩:=r;cases (show T = "int" from ty);exact ⟨Xr s i t,fun _ e=>nomatch e⟩
 |ref p =>
  cases r;rcases ty with ⟨rfl,xs,hq⟩|⟨rfl,⟨o,hk,hc,hd⟩|⟨xs,hx⟩⟩|⟨rfl,hk⟩|⟨rfl,S,n,hk⟩
  ·obtain ⟨its,_,pl,_⟩:=I.list hq;refine ⟨pl.isList.typeIs,fun a e=>?_⟩;cases e;obtain ⟨o,n,e,c,hd,_⟩:=pl;exact ⟨o,e,hd⟩
  ·refine ⟨⟨o,I.kl p o hk,hc⟩,fun a e=>?_⟩;cases e;exact ⟨o,I.kl _ o hk,hd⟩
  ·obtain ⟨_,its,_,o,e,c,_,hd⟩:=I.C2 p _ hx;refine ⟨⟨o,e,c⟩,fun a e2=>?_⟩;cases e2;exact ⟨o,e,hd⟩
  ·have z:∃o,s.heap.get? p=some o/\o.ExactDict:=by
    rcases hk with ⟨kvs,hk⟩|⟨kvs,hk⟩
    ·obtain ⟨_,_,_,_,o,_,_,e,ex,_⟩:=I.C2 p _ hk;exact ⟨o,e,ex⟩
    ·obtain ⟨_,_,_,_,o,_,_,e,ex,_⟩:=I.C2 p _ hk;exact ⟨o,e,ex⟩
   obtain ⟨o,e,ex⟩:=z;refine ⟨⟨o,e,ex.1⟩,fun a e2=>?_⟩;cases e2;exact ⟨o,e,ex.2.1⟩
  ·obtain ⟨o,_,_,_,e,ex,_⟩:=I.C2 p _ hk;refine ⟨⟨o,e,ex.1⟩,fun a e2=>?_⟩;cases e2;exact ⟨o,e,ex.2.1⟩
 |_=>exact C8 ty
def ACd(K:AE)(T:String)(r:V->List V->Hp->VK->Prop)(to:TE):TE:=fun σ H Q=>to σ H fun x H1=>tyV K T x H1/\r x [] H1 Q
def tBM(K:AE)(T:String)(r:V->List V->Hp->VK->Prop)(to:TE)(t:TA):TE:=fun σ H Q=>to σ H fun x H1=>tyV K T x H1/\t σ H1 fun xs H2=>r x xs H2 Q
variable {o e:Expr} {es:List Expr} {to:TE} {t:TA} {name:Str} {apos cpos:Pos} {T id:String} {r:V->List V->Hp->VK->Prop}
theorem tV(pa:PlainAttrs T)(slot:Slot T name id)(hty:typeOf (.builtin id)=pure (.type "method_descriptor"))(hm:MtR X id r)(ho:PE X o to)
  (hbase:attributeBase o name X.env (eval o X.env)=eval o X.env:=by rfl) (hline:(apos.endLine==cpos.line)=true:=by rfl):PE X (.Call (.Attribute o name apos) [] [] cpos) (ACd X.K T r to):=by
 intro pins s σ H Q I h;refine wpAny_Call_method0_late hbase hline (FH (ho pins s σ H _ I h) fun v s1 ⟨x,H1,I1,r1,ty,q1⟩=>?_);obtain ⟨h1,h2⟩:=tU I1 r1 ty;exact ⟨T,id,pa,slot,hty,h1,h2,iG rfl (PySem.evalArgs_none (hm pins s1 σ H1 x [] v [] Q I1 r1 .nil q1))⟩
theorem JZ(pa:PlainAttrs T)(slot:Slot T name id)(hty:typeOf (.builtin id)=pure (.type "method_descriptor"))(hm:MtR X id r)(ho:PE X o to)(ha:PA X (e::es) t)
  (hbase:attributeBase o name X.env (eval o X.env)=eval o X.env:=by rfl)
  (hfew:((backTo cpos (starEach (e::es) X.env)).all (fun x => !x.1)&&(backToKw cpos (keywordEach [] X.env)).all (fun x=>x.1.isSome)
   && decide ((e::es).length+([]:List Keyword).length+(if ([]:List Keyword).isEmpty then 0 else 1)<30))=true:=by rfl)
  (hline:(apos.endLine==cpos.line)=true:=by rfl) (hs:starEach (e::es) X.env=(false,eval e X.env)::starEach es X.env:=by rfl) (hplain:(backTo cpos (starEach es X.env)).any (·.1)=false:=by rfl) :
  PE X (.Call (.Attribute o name apos) (e::es) [] cpos) (tBM X.K T r to t):=by
 intro pins s σ H Q I h;refine wpAny_Call_method_late hbase hfew hline rfl (FH (ho pins s σ H _ I h) fun v s1 ⟨x,H1,I1,r1,ty,q1⟩=>?_);obtain ⟨h1,h2⟩:=tU I1 r1 ty;refine ⟨T,id,pa,slot,hty,h1,h2,?_⟩;have hA:=ha cpos pins s1 σ H1 _ I1 q1;rw[hs]at hA ⊢;refine iG (by show (false||(backTo cpos (starEach es X.env)).any (·.1))=false;rw[hplain]<;>rfl) (Calls.evalArgs_plain ?_);exact FH hA fun us s2 ⟨vs,H2,I2,r2,q2⟩=>hm pins s2 σ H2 x vs v us Q I2 r1 r2 q2
end
end L2
namespace L2
open PySem PySem.Spec PyProof.Rows
def MtM(X:Cx)(id:String)(r:V->List V->Hp->VK->Prop):Prop :=
 ∀(pins:List (Addr×Obj)) (s:Shared) (σ:St) (H:Hp) (x:V) (xs:List V) (v:Value) (us:List Value) (Q:VK),Inv X pins σ H s->RelV x v->Vals xs us->r x xs H Q ->
  wpAny (model X.prog X.w) X.A (call (.builtin id) (v::us)) (EP X pins σ Q) X.xe s
theorem Vals.one:∀{x:V} {us:List Value},Vals [x] us->∃u,us=[u]/\RelV x u
 |_,_,.cons r .nil=>⟨_,rfl,r⟩
theorem Vals.two:∀{x y:V} {us:List Value},Vals [x,y] us->∃u v,us=[u,v]/\RelV x u/\RelV y v
 |_,_,_,.cons r (.cons q .nil)=>⟨_,_,rfl,r,q⟩
theorem Vals.zero:∀{us:List Value},Vals [] us->us=[]
 |_,.nil=>rfl
theorem Vals.dropLast{xs:List V}{us:List Value}(h:Vals xs us):Vals xs.dropLast us.dropLast:=by
 induction h with
 |nil=>exact .nil
 |cons r t ih =>
  cases t with
  |nil=>exact .nil
  |cons q t'=>exact .cons r ih
theorem Vals.eraseIdx:∀{xs:List V} {us:List Value} (i:Nat),Vals xs us->Vals (xs.eraseIdx i) (us.eraseIdx i)
 |_,_,_,.nil=>.nil
 |_,_,0,.cons _ t=>t
 |_,_,i+1,.cons r t=>.cons r (Vals.eraseIdx i t)
theorem Vals.reverse{xs:List V}{us:List Value}(h:Vals xs us):Vals xs.reverse us.reverse:=by
 induction h with
 |nil=>exact .nil
 |cons r t ih=>rw[IB,IB];exact Vals.append ih (.cons r .nil)
theorem Vals.rep{xs:List V}{us:List Value}(h:Vals xs us):∀k:Nat,Vals (Ac k xs).flatten (Ac k us).flatten
 |0=>.nil
 |k+1=>by
  rw[Cv,Cv,EM,EM];exact Vals.append h (Vals.rep h k)
theorem lT{α:Type}(l:List α):l.eraseIdx (l.length-1)=l.dropLast:=by
 induction l with
 |nil=>rfl
 |cons a r ih =>
  cases r with
  |nil=>rfl
  |cons b r =>
   have e:(a::b::r).length-1=((b::r).length-1)+1:=by
    have h1:(a::b::r).length=r.length+2:=rfl;have h2:(b::r).length=r.length+1:=rfl;omega
   rw[e,List.eraseIdx_cons_succ,ih]
   all_goals rfl
theorem foldl_rep(its:List Value):∀(k:Nat) (acc:List Value),
  br (fun x1 x2=>x1++x2) acc.toArray (Ac k its.toArray)=(acc++(Ac k its).flatten).toArray
 |0,acc=>by simp
 |k+1,acc=>by
  have e:acc.toArray++its.toArray=(acc++its).toArray:=by simp
  have e2:(acc++its)++(Ac k its).flatten=acc++(Ac (k+1) its).flatten:=by
   rw[Cv,EM,CY]
  rw[<-e2,<-foldl_rep its k (acc++its),<-e,Cv,BI]
section
variable {X:Cx} {pins:List (Addr×Obj)} {σ:St} {H:Hp} {s:Shared} {l b:Addr} {xs ys zs:List V}
theorem Inv.zQ{its its':List Value}{n:Nat}{f:Array Value->Array Value}{t':Nat}(I:Inv X pins σ H s)(hH:H l=some (.lst xs))
  (e:s.heap.get? l=some { cls:=.type "list",data:=.seq its.toArray n }) (hf:f its.toArray=its'.toArray) (hv:Vals ys its') (hz:ys.length<=sizeLine) :
  Inv X pins σ (upd H l (.lst ys)) { s with heap:=s.heap.update l (D8 f),toks:=t' }:=by
 have q:=ADB e f;rw[hf]at q;refine I.write (x:=l) (e:=l) (by rw[hH];exact trivial) (.inl rfl) (fun b' u hb hu=>(ki s.heap (D8 f) (Cr hb)).trans hu) ⟨_,q⟩ ?_;exact ⟨hz,its',_,hv,q⟩
theorem Inv.ABM{its:List Value}{t':Nat}(I:Inv X pins σ H s)(hv:Vals ys its)(hz:ys.length<=sizeLine) :
  Inv X pins σ (upd H s.heap.objs.size (.lst ys)) { s with heap:=s.heap.push { cls:=.type "list",data:=.seq its.toArray },toks:=t' } :=
 I.laid (fun _ _ q=>AW _ q) (AV _) ⟨hz,its,0,hv,BA _ rfl⟩
theorem Inv.fresh(I:Inv X pins σ H s):H s.heap.objs.size=none:=I.C2.fresh (AV _)
theorem Inv.lU(I:Inv X pins σ H s)(hH:H l=some (.lst xs)):xs.length<=sizeLine/\∃(its:List Value) (n:Nat),Vals xs its/\xs.length=its.length/\s.heap.get? l=some { cls:=.type "list",data:=.seq its.toArray n }:=by
 obtain ⟨z,its,n,r,e⟩:=I.C2 l _ hH;exact ⟨z,its,n,r,r.length,e⟩
theorem i5{n:Nat}(h:n<=sizeLine):GY n=false:=by
 unfold GY;exact decide_eq_false (by omega)
end
section
variable {X:Cx}
def wX:V->List V->Hp->VK->Prop:=fun x vs H Q=>∃l xs y,x=.ref l/\vs=[y]/\H l=some (.lst xs)/\xs.length<sizeLine/\Q .Ft (upd H l (.lst (xs++[y])))
theorem Gk:MtM X "list.append" wX:=by
 intro pins s σ H x vs v us Q I rx rv h;obtain ⟨l,xs,y,rfl,rfl,hH,hz,q⟩:=h;cases rx;obtain ⟨u,rfl,ru⟩:=rv.one;obtain ⟨z,its,n,r,hl,e⟩:=I.lU hH;refine GG F.slot_list_append ⟨_,e,rfl⟩ F.entry_list_append (F.args_list_append_2 _ _) (PySem.list_append l its.toArray n u (by rw[Aa];omega)) ⟨e,?_⟩;refine ⟨.Ft,_,I.zQ (its':=its++[u]) hH e (by simp) (r.append (.cons ru .nil)) ?_,rfl,q⟩;rw[Ab,Du];omega
def wY:V->List V->Hp->VK->Prop:=fun x vs H Q=>∃l b xs zs,x=.ref l/\vs=[.ref b]/\H l=some (.lst xs)/\H b=some (.lst zs)/\xs.length+zs.length<=sizeLine/\Q .Ft (upd H l (.lst (xs++zs)))
theorem MC:MtM X "list.extend" wY:=by
 intro pins s σ H x vs v us Q I rx rv h;obtain ⟨l,b,xs,zs,rfl,rfl,hH,hB,hz,q⟩:=h;cases rx;obtain ⟨u,rfl,ru⟩:=rv.one;cases ru;obtain ⟨z,its,n,r,hl,e⟩:=I.lU hH;obtain ⟨z2,its2,n2,r2,hl2,e2⟩:=I.lU hB;have hsz:its.toArray.size+its2.toArray.size<=sizeLine:=by rw[Aa,Aa];omega
 have hlong:¬(!its.toArray.isEmpty&&GY (its.toArray.size+its2.toArray.size))=true:=by
  rw[i5 hsz,Q6];exact AZ
 refine GG F.slot_list_extend ⟨_,e,rfl⟩ F.entry_list_extend (F.args_list_extend_2 _ _)
  (AutoSeq1.list_extend_list_list_0 l its.toArray n b its2.toArray n2 hlong (by rw[Aa];omega) (by omega)) ⟨e,e2,?_⟩
 refine ⟨.Ft,_,I.zQ (its':=its++its2) hH e (by simp) (r.append r2) ?_,rfl,q⟩;rw[Ab];omega
def ACe:V->List V->Hp->VK->Prop:=fun x vs H Q=>∃l xs y,x=.ref l/\vs=[]/\H l=some (.lst xs)/\xs[xs.length-1]?=some y/\Q y (upd H l (.lst xs.dropLast))
theorem tW:MtM X "list.pop" ACe:=by
 intro pins s σ H x vs v us Q I rx rv h;obtain ⟨l,xs,y,rfl,rfl,hH,hy,q⟩:=h;cases rx;have hus:=rv.zero;subst hus;obtain ⟨z,its,n,r,hl,e⟩:=I.lU hH;obtain ⟨u,hu,ru⟩:=r.get hy;have hy':its.toArray[its.toArray.size-1]?=some u:=by
  show its.toArray[its.length-1]?=some u;rw[<-Array.getElem?_toList,<-hl];exact hu
 refine GG F.slot_list_pop ⟨_,e,rfl⟩ F.entry_list_pop (F.args_list_pop_1 _) (MeetsSeq.list_pop_last l its.toArray n u hy' (by rw[Aa];omega)) ⟨e,?_⟩;refine ⟨y,_,I.zQ (its':=its.dropLast) hH e ?_ r.dropLast ?_,ru,q⟩
 ·show its.toArray.eraseIdxIfInBounds (its.toArray.size-1)=its.dropLast.toArray;rw[Aa,List.eraseIdxIfInBounds_toArray,lT]
 ·rw[List.length_dropLast];omega
def ACf:R2:=fun x y H Q=>∃l b xs zs,x=.ref l/\y=.ref b/\H l=some (.lst xs)/\H b=some (.lst zs)/\xs.length+zs.length<=sizeLine/\∀p,H p=none->Q (.ref p) (upd H p (.lst (xs++zs)))
theorem IL:V9 X (binaryOp .Add) ACf:=by
 intro pins s σ H x y v u Q I rx ry h;obtain ⟨l,b,xs,zs,rfl,rfl,hH,hB,hz,q⟩:=h;cases rx;cases ry;obtain ⟨z,its,n,r,hl,e⟩:=I.lU hH;obtain ⟨z2,its2,n2,r2,hl2,e2⟩:=I.lU hB;refine PySem.P.add_list e e2 ?_ (by rw[Aa,Aa];omega);have ea:its.toArray++its2.toArray=(its++its2).toArray:=by simp
 rw[ea];exact ⟨.ref _,_,I.ABM (t':=s.toks) (r.append r2) (by rw[Ab];omega),rfl,q _ I.fresh⟩
def ACg:R2:=fun x y H Q=>∃l k xs,x=.ref l/\y=.int k/\H l=some (.lst xs) /\ -(2 ^ 63)<=k/\k<2 ^ 63/\xs.length*k.toNat<=sizeLine /\
 ∀p,H p=none->Q (.ref p) (upd H p (.lst (Ac k.toNat xs).flatten))
theorem len_rep{α:Type}(xs:List α)(k:Nat):(Ac k xs).flatten.length=k*xs.length:=by
 induction k with
 |zero=>simp
 |succ k ih=>rw[Cv,EM,Ab,ih,OP,Nat.add_comm]
theorem Yf:V9 X (binaryOp .Mult) ACg:=by
 intro pins s σ H x y v u Q I rx ry h;obtain ⟨l,k,xs,rfl,rfl,hH,h1,h2,hz,q⟩:=h;cases rx;obtain ⟨t,rfl⟩:=ry;obtain ⟨z,its,n,r,hl,e⟩:=I.lU hH;have hlen:its.toArray.size*k.toNat<=sizeLine:=by rw[Aa,<-hl];exact hz
 have hcap:¬its.toArray.size*k.toNat > (2 ^ 63-1) / 8:=by
  have:(sizeLine:Nat)<=(2 ^ 63-1) / 8:=by decide
  omega
 have hfit:¬(!Builtin.List.listFitsIndex k)=true:=by
  rw[fitsIndex_both h1 h2];exact AZ
 have hlong:¬GY (its.toArray.size*k.toNat)=true:=by
  rw[i5 hlen];exact AZ
 have hnew:br (fun x1 x2=>x1++x2) #[] (Ac (if its.toArray.isEmpty=true then 0 else k.toNat) its.toArray)=(Ac k.toNat its).flatten.toArray:=by
  have f0:∀m:Nat,br (fun x1 x2=>x1++x2) #[] (Ac m its.toArray)=(Ac m its).flatten.toArray:=fun m=>by
   have:=foldl_rep its m []
   rw[F0]at this;exact this
  rw[f0];cases its with
  |nil=>simp
  |cons a r'=>rw[if_neg (by simp)]
 refine nD (T := "list") (U := "int") (by decide) ⟨_,e,rfl⟩ (fun s'=>Xr s' k t) noFill_list_mul AAL RA repeat_list yT.lookup
  (GG RA (Xr s k t) yU (xg _ _) (int___rmul___int_list k t l its.toArray n)
   ⟨e,rfl,⟨_,e,rfl⟩,GG F.slot_list_mul ⟨_,e,rfl⟩ F.entry_list_mul (F.args_list_mul_2 _ _) (ADC l its.toArray n k t hfit hcap hlong) ⟨e,?_⟩⟩)
 rw[hnew];exact ⟨.ref _,_,I.ABM (t':=s.toks) (r.rep k.toNat) (by rw[len_rep,Ky];exact hz),rfl,q _ I.fresh⟩
end
section
variable {prog:Program} {w:World} {A:Around} {E:Value->Shared->Prop} {s:Shared}
set_option maxRecDepth 100000 in
end
section
variable {X:Cx}
end
end L2
namespace L2
open PySem PySem.Spec PyProof.Rows
theorem Vals.ints:∀{ns:List Int} {us:List Value},Vals (ns.map V.int) us->IntsAre us ns
 |[],us,h=>by
  rw[IA]at h;cases h;exact IntsAre.nil
 |n::ns,us,h=>by
  rw[Az]at h;cases h with
  |cons r t =>
   obtain ⟨k,rfl⟩:=r;exact IntsAre.cons n k (Vals.ints t)
theorem Vals.strs:∀{xs:List Str} {us:List Value},Vals (xs.map V.str) us->StrsAre us xs
 |[],us,h=>by
  rw[IA]at h;cases h;exact StrsAre.nil
 |x::xs,us,h=>by
  rw[Az]at h;cases h with
  |cons r t =>
   obtain ⟨k,rfl⟩:=r;exact StrsAre.cons x k (Vals.strs t)
theorem Vals.bls:∀{bs:List Bool} {us:List Value},Vals (bs.map V.bl) us->us=bs.map N7
 |[],us,h=>by
  rw[IA]at h;cases h;rfl
 |b::bs,us,h=>by
  rw[Az]at h;cases h with
  |cons r t =>
   cases r;rw[Vals.bls t,Az]
theorem Vals.wZ{a:Addr}{us:List Value}(r:Vals [V.ref a] us):us=[CG a]:=by
 cases r with
 |cons r t =>
  cases t;cases r;rfl
section
variable {prog:Program} {w:World} {A:Around} {E:Value->Shared->Prop} {s:Shared} {l:Addr} {its:List Value} {ns:List Int} {Q:Value->Shared->Prop}
theorem wc(hh:A.handled=none)(hl:s.heap.IsList l its.toArray)(hi:IntsAre its ns)
  (h:∀h' tk t',(∀b o,s.heap.get? b=some o->h'.get? b=some o)->Q (.int ns.sum t') { s with heap:=h',toks:=tk }):wpAny (model prog w) A (call (.builtin "sum") [.ref l]) Q E s:=by
 obtain ⟨xs,e⟩:=hi.allInts.items;have hn:numsOf (intItems xs).toList=ns:=by rw[<-e];exact hi.numsOf
 rw[oq]at hn;rw[e]at hl;refine PySem.sum_intListG hh hl fun h' tk t' hk=>?_
 have:=h h' tk t' hk
 rw[preSum_eq,Fn (by simp),hn];exact this
theorem we(hh:A.handled=none)(hl:s.heap.IsList l its.toArray)(hi:IntsAre its ns)(hne:0<ns.length)
  (h:∀h' tk M t',(∀b o,s.heap.get? b=some o->h'.get? b=some o)->M∈ns->(∀a,a∈ns->a<=M)->Q (.int M t') { s with heap:=h',toks:=tk }):wpAny (model prog w) A (call (.builtin "max") [.ref l]) Q E s:=by
 obtain ⟨xs,e⟩:=hi.allInts.items;have hn:numsOf (intItems xs).toList=ns:=by rw[<-e];exact hi.numsOf
 rw[oq]at hn;subst hn;rw[e]at hl;have hsz:0<xs.size:=by simpa using hne
 refine PySem.max_intList hh hl hsz fun v h' tk hv hk=>?_
 obtain ⟨t,rfl⟩:=intItems_at hv;obtain ⟨h1,h2⟩:=argBest_gt (numAt xs) (xs.size-1);refine h h' tk _ t hk ?_ fun a ha=>?_
 ·rw[vW];exact vX (by rw[AB,Df];omega)
 ·obtain ⟨j,hj,rfl⟩:=mem_getD ha;rw[AB,Df]at hj;rw[<-vW];exact h2 j (by omega)
theorem wg(hh:A.handled=none)(hl:s.heap.IsList l its.toArray)(hi:IntsAre its ns)(hne:0<ns.length)
  (h:∀h' tk M t',(∀b o,s.heap.get? b=some o->h'.get? b=some o)->M∈ns->(∀a,a∈ns->M<=a)->Q (.int M t') { s with heap:=h',toks:=tk }):wpAny (model prog w) A (call (.builtin "min") [.ref l]) Q E s:=by
 obtain ⟨xs,e⟩:=hi.allInts.items;have hn:numsOf (intItems xs).toList=ns:=by rw[<-e];exact hi.numsOf
 rw[oq]at hn;subst hn;rw[e]at hl;have hsz:0<xs.size:=by simpa using hne
 refine PySem.min_intList hh hl hsz fun v h' tk hv hk=>?_
 obtain ⟨t,rfl⟩:=intItems_at hv;obtain ⟨h1,h2⟩:=argBest_lt (numAt xs) (xs.size-1);refine h h' tk _ t hk ?_ fun a ha=>?_
 ·rw[vW];exact vX (by rw[AB,Df];omega)
 ·obtain ⟨j,hj,rfl⟩:=mem_getD ha;rw[AB,Df]at hj;rw[<-vW];exact h2 j (by omega)
end
section
variable {X:Cx}
def ACh(K:AE):List V->Hp->VK->Prop:=fun vs H Q=>∃(a:Addr) (ns:List Int),vs=[V.ref a]/\Bq K H a (ns.map V.int)/\Q (.int ns.sum) H
def ACi(K:AE):List V->Hp->VK->Prop:=fun vs H Q=>∃(a:Addr) (ns:List Int),vs=[V.ref a]/\Bq K H a (ns.map V.int)/\0<ns.length/\∀m,m∈ns->(∀y,y∈ns->y<=m)->Q (.int m) H
def ABN(K:AE):List V->Hp->VK->Prop:=fun vs H Q=>∃(a:Addr) (ns:List Int),vs=[V.ref a]/\Bq K H a (ns.map V.int)/\0<ns.length/\∀m,m∈ns->(∀y,y∈ns->m<=y)->Q (.int m) H
theorem zR(hc:X.calm=true):JX X (.builtin "sum") (ACh X.K):=by
 intro pins s σ H vs us Q I r h;obtain ⟨a,ns,rfl,hs,q⟩:=h;obtain ⟨its,rv,hl,_⟩:=I.list hs;rw[Vals.wZ r];exact wc (I.ok.hd hc) hl.isList rv.ints fun h' tk t' hk=>⟨.int _,H,I.kept hk,⟨_,rfl⟩,q⟩
theorem zT(hc:X.calm=true):JX X (.builtin "max") (ACi X.K):=by
 intro pins s σ H vs us Q I r h;obtain ⟨a,ns,rfl,hs,hne,q⟩:=h;obtain ⟨its,rv,hl,_⟩:=I.list hs;rw[Vals.wZ r];exact we (I.ok.hd hc) hl.isList rv.ints hne fun h' tk m t' hk h1 h2=>⟨.int _,H,I.kept hk,⟨_,rfl⟩,q m h1 h2⟩
theorem zU(hc:X.calm=true):JX X (.builtin "min") (ABN X.K):=by
 intro pins s σ H vs us Q I r h;obtain ⟨a,ns,rfl,hs,hne,q⟩:=h;obtain ⟨its,rv,hl,_⟩:=I.list hs;rw[Vals.wZ r];exact wg (I.ok.hd hc) hl.isList rv.ints hne fun h' tk m t' hk h1 h2=>⟨.int _,H,I.kept hk,⟨_,rfl⟩,q m h1 h2⟩
end
section
variable {X:Cx}
theorem n4{ys:List V}(f:ys.all JY=true){j:Nat}{z:V}(h:ys[j]?=some z):JY z=true:=Bc.mp f z (Ar h)
end
section
variable {X:Cx}
end
theorem tX{prog:Program}{w:World}{A:Around}{E:Value->Shared->Prop}{s:Shared}{l:Addr}{items:Array Value}{Q:Value->Shared->Prop}(hl:s.heap.IsList l items)
  (h:∀s₂:Shared,s₂={ s with heap:=s.heap.push { cls:=.type "list_iterator",data:=.fields #[.ref l,.int 0 0] } } ->
   (s₂.heap.IsListIter s.heap.objs.size l 0/\s₂.heap.IsList l items)->l≠s.heap.objs.size->Q (.ref s.heap.objs.size) s₂):wpAny (model prog w) A (pyIter (.ref l)) Q E s:=by
 have hlt:l<s.heap.objs.size:=by obtain ⟨_,e,_⟩:=hl;exact Av e
 exact af hl (h _ rfl ⟨⟨_,BA _ rfl,rfl,rfl⟩,hl.push _⟩ (Bl hlt))
theorem i6{prog:Program}{w:World}{A:Around}{bs:List Bool}{its:List Value}(e:its=bs.map N7) :
  TruthOf prog w A (fun i v=>its.toArray[i]?=some v) (fun i=>bs.getD i false):=fun i v s Q E hv hq=>by
 have hv':its[i]?=some v:=by simpa using hv
 rw[e,BH]at hv';obtain ⟨b,hb,rfl⟩:=CN.mp hv';have hg:bs.getD i false=b:=by rw[AQ,hb]<;>rfl
 have hq':Q (bs.getD i false) s:=hq;rw[hg]at hq';exact Ds hq'
theorem any_range:∀bs:List Bool,(AF bs.length).any (fun i=>bs.getD i false)=bs.any id
 |[]=>rfl
 |b::bs=>by
  rw[BC,List.range_succ_eq_map,GA,kj,GA,<-any_range bs]
  all_goals rfl
section
variable {X:Cx}
def ABO(K:AE):List V->Hp->VK->Prop:=fun vs H Q=>∃(a:Addr) (bs:List Bool),vs=[V.ref a]/\Bq K H a (bs.map V.bl)/\Q (.bl (bs.any id)) H
theorem zV(hc:X.calm=true):JX X (.builtin "any") (ABO X.K):=by
 intro pins s σ H vs us Q I r h;obtain ⟨a,bs,rfl,hs,q⟩:=h;obtain ⟨its,rv,hl,_⟩:=I.list hs;rw[Vals.wZ r];have hb:=rv.bls;refine call_any_walk (tX hl.isList fun s₂ e2 st hne=>?_);subst e2;refine ⟨_,_,_,_,_,_,_,rfl,ai (A:=X.A.in1) (I.ok.hd hc) _ a hne its.toArray,st,i6 hb,fun h' tk hk=>?_⟩;refine ⟨.bl _,H,I.kept fun b o eo=>hk b o (fun hmem=>?_) (AW _ eo),?_,q⟩
 ·rcases Ak.mp hmem with e1|hmem
  ·exact absurd (e1 ▸ Av eo) (Bu _)
  ·cases hmem
 ·show N7 _=N7 _;rw[<-any_range,hb,Aa,AB]
end
mutual
inductive Dp (K:AE) (H:Hp):V->PyData->Prop
 |Ft:Dp K H .Ft .none
 |bl (b:Bool):Dp K H (.bl b) (.bool b)
 |int (i:Int):Dp K H (.int i) (.int i)
 |str (x:Str):Dp K H (.str x) (.str x)
 |lst {a:Addr} {xs:List V} {ds:List PyData}:Bq K H a xs->cY K H xs ds->Dp K H (.ref a) (.list ds)
 |tup {a:Addr} {xs:List V} {ds:List PyData}:DR K H a xs->cY K H xs ds->Dp K H (.ref a) (.tuple ds)
inductive cY (K:AE) (H:Hp):List V->List PyData->Prop
 |nil:cY K H [] []
 |cons {v:V} {vs:List V} {d:PyData} {ds:List PyData}:Dp K H v d->cY K H vs ds->cY K H (v::vs) (d::ds)
end
section
variable {X:Cx} {pins:List (Addr×Obj)} {σ:St} {H:Hp} {s:Shared}
mutual
theorem Dp.reads(I:Inv X pins σ H s):∀(d:PyData) (v:V) (u:Value),Dp X.K H v d->RelV v u->∃as,Reads s.heap u d as
 |.none,_,_,h,r=>by
  cases h;cases r;exact ⟨_,Reads.none⟩
 |.bool b,_,_,h,r=>by
  cases h;cases r;exact ⟨_,Reads.bool b⟩
 |.int i,_,_,h,r=>by
  cases h;obtain ⟨t,rfl⟩:=r;exact ⟨_,Reads.int i t⟩
 |.str x,_,_,h,r=>by
  cases h;obtain ⟨t,rfl⟩:=r;exact ⟨_,Reads.str x t⟩
 |.list ds,_,_,h,r=>by
  cases h with
  |lst hs ha =>
   cases r;obtain ⟨its,rv,⟨o,n,ho,hc,_,hd⟩,_⟩:=I.list hs;obtain ⟨as,hr⟩:=Dp.readsAll I ds _ its ha rv;exact ⟨_,Reads.list ho hc hd hr⟩
 |.tuple ds,_,_,h,r=>by
  cases h with
  |tup hs ha =>
   cases r;obtain ⟨its,rv,⟨o,ho,hc,n,hd⟩,_⟩:=I.tuple hs;obtain ⟨as,hr⟩:=Dp.readsAll I ds _ its ha rv;exact ⟨_,Reads.tuple ho hc hd hr⟩
 |.dict _,_,_,h,_=>by cases h
theorem Dp.readsAll(I:Inv X pins σ H s):∀(ds:List PyData) (vs:List V) (us:List Value),cY X.K H vs ds->Vals vs us->∃as,ReadsAll s.heap us ds as
 |[],_,_,h,r=>by
  cases h;cases r;exact ⟨_,ReadsAll.nil⟩
 |d::ds,_,_,h,r=>by
  cases h with
  |cons h1 h2 =>
   cases r with
   |cons r1 r2 =>
    obtain ⟨as,q1⟩:=Dp.reads I d _ _ h1 r1;obtain ⟨bs,q2⟩:=Dp.readsAll I ds _ _ h2 r2;exact ⟨_,ReadsAll.cons q1 q2⟩
end
end
section
variable {X:Cx}
end
end L2
namespace L2
open PySem PySem.Spec PyProof.Rows
abbrev tY(h:Heap)(c:Addr)(v:Option Value):Prop:=h.IsCell c v
def ACj(scope sc:Scope):Scope :=
 { scope with names:=scope.names.map fun (n,k)=>if (k == .free&&sc.kind == .function&&sc.names.lookup n==some .cell) then (n,.cell) else (n,k) }
def D0(cells:List (Str×Addr)):List (Str×NameKind)->List (Str×Addr)->List (Str×Addr)
 |[],acc=>acc
 |(n,k)::r,acc=>if k == .free then D0 cells r ((n,(cells.lookup n).getD 0)::acc) else D0 cells r acc
theorem Tg(env:Env)(f:Str×NameKind->List (Str×Addr)->Sem (ForInStep (List (Str×Addr))))
  (hf:∀n k c,f (n,k) c=if k == .free then (do let a <-cellOf env n;pure (.yield ((n,a)::c))) else pure (.yield c)) :
  ∀(names:List (Str×NameKind)) (acc:List (Str×Addr)),(∀y∈names,y.2=.free->∃c,env.cells.lookup y.1=some c)->forIn names acc f=pure (D0 env.cells names acc)
 |[],acc,_=>by rw[bt];rfl
 |(n,k)::r,acc,h=>by
  rw[aV,hf];have ih:=fun acc=>Tg env f hf r acc fun y hy=>h y (AG _ hy)
  unfold D0
  by_cases hk:(k==IG)=true
  ·rw[if_pos hk,if_pos hk];obtain ⟨c,hc⟩:=h (n,k) AI (by simpa using hk);have e:cellOf env n=pure c:=by unfold cellOf;rw[hc]
   rw[e];have e2:(env.cells.lookup n).getD 0=c:=by rw[hc];rfl
   rw[e2];exact ih _
  ·rw[if_neg hk,if_neg hk];exact ih _
theorem lV{scope:Scope}{env:Env}(h:∀y∈scope.names,y.2=.free->∃c,env.cells.lookup y.1=some c):closureFor scope env=pure (D0 env.cells scope.names []):=by
 simp only[closureFor];rw[Tg env _ (fun n k c=>rfl) scope.names [] h];rfl
theorem mem_lookup{α:Type}:∀{l:List (Str×α)} {n:Str} {c:α},(n,c)∈l->∃c',l.lookup n=some c'
 |(k,v)::r,n,c,h=>by
  rw[BX];cases hb:n==k with
  |true=>exact ⟨_,rfl⟩
  |false =>
   rcases Ak.mp h with e|h
   ·cases e;simp at hb
   ·exact mem_lookup h
theorem K9{cells:List (Str×Addr)}:∀{names:List (Str×NameKind)} {acc:List (Str×Addr)} {n:Str} {c:Addr},(n,c)∈D0 cells names acc->(n,c)∈acc\/((n,.free)∈names/\c=(cells.lookup n).getD 0)
 |[],_,_,_,h=>.inl h
 |(m,k)::r,acc,n,c,h=>by
  unfold D0 at h
  split at h
  ·rename_i hk;have hk:k=.free:=by simpa using hk
   rcases K9 h with h|⟨h1,h2⟩
   ·rcases Ak.mp h with e|h
    ·cases e;exact .inr ⟨hk ▸ AI,rfl⟩
    ·exact .inl h
   ·exact .inr ⟨AG _ h1,h2⟩
  ·rcases K9 h with h|⟨h1,h2⟩
   ·exact .inl h
   ·exact .inr ⟨AG _ h1,h2⟩
theorem Oj{cells:List (Str×Addr)}:∀{names:List (Str×NameKind)} {acc:List (Str×Addr)} {p:Str×Addr},p∈acc->p∈D0 cells names acc
 |[],_,_,h=>h
 |(m,k)::r,acc,p,h=>by
  unfold D0
  split
  ·exact Oj (AG _ h)
  ·exact Oj h
theorem Ol{cells:List (Str×Addr)}:∀{names:List (Str×NameKind)} {acc:List (Str×Addr)} {n:Str},(n,.free)∈names->(n,(cells.lookup n).getD 0)∈D0 cells names acc
 |(m,k)::r,acc,n,h=>by
  unfold D0;rcases Ak.mp h with e|h
  ·cases e;exact Oj AI
  ·split
   ·exact Ol h
   ·exact Ol h
theorem MD:∀{names:List (Str×NameKind)} {h:Heap} {acc:List (Str×Addr)} {x:Str} {c:Addr},(x,c)∈cellsFrom h.objs.size names acc ->
  (x,c)∈acc\/((x,.cell)∈names/\h.objs.size<=c/\tY (pushCells h names) c none)
 |[],_,_,_,_,h=>.inl h
 |(n,k)::r,h,acc,x,c,hm=>by
  unfold cellsFrom at hm;unfold pushCells
  split at hm
  ·rename_i hk;rw[if_pos hk];have hk:k=.cell:=by simpa using hk
   rw[<-Cp h { cls:=.type "cell",data:=.cell none }]at hm;rcases MD hm with hm|⟨h1,h2,h3⟩
   ·rcases Ak.mp hm with e|hm
    ·cases e;exact .inr ⟨hk ▸ AI,AV _,_,Sj r _ _ _ (BA _ rfl),rfl⟩
    ·exact .inl hm
   ·rw[Cp]at h2;exact .inr ⟨AG _ h1,Mr h2,h3⟩
  ·rename_i hk;rw[if_neg hk];rcases MD hm with hm|⟨h1,h2,h3⟩
   ·exact .inl hm
   ·exact .inr ⟨AG _ h1,h2,h3⟩
theorem Qe:∀{names:List (Str×NameKind)} {n:Nat} {acc:List (Str×Addr)} {p:Str×Addr},p∈acc->p∈cellsFrom n names acc
 |[],_,_,_,h=>h
 |(m,k)::r,n,acc,p,h=>by
  unfold cellsFrom
  split
  ·exact Qe (AG _ h)
  ·exact Qe h
theorem Uu:∀{names:List (Str×NameKind)} {n:Nat} {acc:List (Str×Addr)} {x:Str},(x,.cell)∈names->∃c,(x,c)∈cellsFrom n names acc
 |(m,k)::r,n,acc,x,h=>by
  unfold cellsFrom;rcases Ak.mp h with e|h
  ·cases e;exact ⟨n,Qe AI⟩
  ·split
   ·exact Uu h
   ·exact Uu h
theorem Uv:∀{names:List (Str×NameKind)} {h:Heap} {acc:List (Str×Addr)} {x y:Str} {c:Addr},(∀p∈acc,p.2<h.objs.size)->(∀x y c,(x,c)∈acc->(y,c)∈acc->x=y) ->
  (x,c)∈cellsFrom h.objs.size names acc->(y,c)∈cellsFrom h.objs.size names acc->x=y
 |[],_,_,_,_,_,_,hi,h1,h2=>hi _ _ _ h1 h2
 |(n,k)::r,h,acc,x,y,c,hl,hi,h1,h2=>by
  unfold cellsFrom at h1 h2
  split at h1
  ·rename_i hk;rw[if_pos hk]at h2;rw[<-Cp h { cls:=.type "cell",data:=.cell none }]at h1 h2;refine Uv (h:=h.push _) (fun p hp=>?_) (fun x y c a b=>?_) h1 h2
   ·rw[Cp];rcases Ak.mp hp with rfl|hp
    ·exact JD _
    ·exact Ms (hl p hp)
   ·rcases Ak.mp a with e|a<;>rcases Ak.mp b with e'|b
    ·cases e;cases e';rfl
    ·cases e;exact absurd (hl _ b) (Bu _)
    ·cases e';exact absurd (hl _ a) (Bu _)
    ·exact hi _ _ _ a b
  ·rename_i hk;rw[if_neg hk]at h2;exact Uv hl hi h1 h2
theorem i7{M:Model}{A:Around}{E:Value->Shared->Prop}{s:Shared}{scope:Scope}{globals:Addr}{closure:List (Str×Addr)}{qual:Str}{func:Option Addr}{code:Value}{around:Env}{builtins:Addr}{Q:Env->Shared->Prop}
  (h:Q (newEnv scope s.heap.objs.size globals (cellsFrom (s.heap.objs.size+1) scope.names closure) qual func code (some around) builtins)
   { s with heap:=pushCells (s.heap.push { cls:=.type "dict",data:=.dict #[] }) scope.names }) :
  wpAny M A (newFunctionEnv scope globals closure [] qual func code (some around) builtins) Q E s:=by
 simp only[newFunctionEnv,nE,if_true];refine AL (wpAny_alloc ?_);refine AL (wpAny_layCells _ (fun n k c=>rfl) scope.names closure _ _ ?_);rw[show ({ s with heap:=s.heap.push { cls:=.type "dict",data:=.dict #[] } }:Shared).heap.objs.size=s.heap.objs.size+1 from Cp ..];rw[bt];exact AL (A1 (A1 h))
theorem Om{sc:Scope}:∀{names:List (Str×NameKind)} {x:Str} {k:NameKind},
  (names.map fun (n,k)=>if (k==IG&&sc.kind == .function&&sc.names.lookup n==some .cell) then (n,aW) else (n,k)).lookup x=some k ->
  ∃k',names.lookup x=some k'/\(k=k'\/(k'=.free/\k=.cell))
 |[],_,_,h=>by simp at h
 |(n,k₀)::r,x,k,h=>by
  have ih:=@Om sc r x k;have h':Cc x ((if (k₀==IG&&sc.kind == .function&&sc.names.lookup n==some .cell)=true then (n,aW) else (n,k₀))::(r.map _))=some k:=h;cases hx:x==n with
  |true =>
   simp only[BX,hx]
   by_cases hc:(k₀==IG&&sc.kind == .function&&sc.names.lookup n==some .cell)=true
   ·rw[if_pos hc]at h';simp only[BX,hx]at h';cases h';simp only[BB,beq_iff_eq]at hc;exact ⟨k₀,rfl,.inr ⟨hc.1.1,rfl⟩⟩
   ·rw[if_neg hc]at h';simp only[BX,hx]at h';cases h';exact ⟨_,rfl,.inl rfl⟩
  |false =>
   simp only[BX,hx]
   by_cases hc:(k₀==IG&&sc.kind == .function&&sc.names.lookup n==some .cell)=true
   ·rw[if_pos hc]at h';simp only[BX,hx]at h';exact ih h'
   ·rw[if_neg hc]at h';simp only[BX,hx]at h';exact ih h'
structure EH(N:List Str)(sc scope:Scope)(own:List (Str×Nat)):Prop where
 kind:scope.kind=.function
 uniq:∀y∈scope.names,scope.names.lookup y.1=some y.2
 ix:∀p∈own,N[p.2]?=some p.1
 free:∀y∈scope.names,y.2=.free->sc.names.lookup y.1=some .cell\/sc.names.lookup y.1=some .free
 own:∀y∈scope.names,y.2=.local\/y.2=.cell->y.1∈own.map (·.1)\/y.1 ∉ N
def wipe(σ:St):List Nat->St
 |[]=>σ
 |v::vs=>(wipe σ vs).set v none
theorem Oo(σ:St):∀vs:List Nat,(wipe σ vs).length=σ.length
 |[]=>rfl
 |v::vs=>by unfold wipe;rw[B7,Oo σ vs]
theorem Uw{σ:St}{i:Nat}{x:V}:∀{vs:List Nat},(wipe σ vs)[i]?=some (some x)->σ[i]?=some (some x)/\i ∉ vs
 |[],h=>⟨h,by simp⟩
 |v::vs,h=>by
  unfold wipe at h
  by_cases hi:v=i
  ·subst hi
   by_cases hv:v<(wipe σ vs).length
   ·rw[OL hv]at h;cases h
   ·rw[Bo (by simpa using hv)]at h;cases h
  ·rw[Q9 hi]at h;obtain ⟨h1,h2⟩:=Uw h;exact ⟨h1,by simp only[Ak,not_or];exact ⟨fun e=>hi e.symm,h2⟩⟩
abbrev Cx.fk(X:Cx)(s:Shared)(H:Hp)(scope:Scope)(cenv:Env)(fp:List Addr):Cx:={ X with bB:=s,H_0:=H,env:=cenv,outer:=X.stack,ex:=fp,fn:=fun x=>scope.names.lookup x==some .cell,pn:=[],xe:=fun _ _=>False }
section
variable {X:Cx} {pins:List (Addr×Obj)} {σ:St} {H:Hp} {s:Shared}
theorem i8{scope:Scope}{own:List (Str×Nat)}{fp:List Addr}(I:Inv X pins σ H s)(ok:EH X.N X.env.scope scope own)(hN:X.N.Nodup)(hfp:∀b∈fp,YU X pins H b/\b<s.heap.objs.size) :
  Inv (X.fk s H scope (compEnvC scope (cellsFrom (s.heap.objs.size+1) scope.names (D0 X.env.cells scope.names [])) s.heap.objs.size X.env) fp) [] (wipe σ (own.map (·.2))) H { s with heap:=pushCells (s.heap.push { cls:=.type "dict",data:=.dict #[] }) scope.names }:=by
 have hfree:∀y∈scope.names,y.2=.free->∃c,X.env.cells.lookup y.1=some c:=fun y hy e=>by
  rcases ok.free y hy e with k|k
  ·exact I.ok.has _ (.inl k)
  ·exact I.ok.has _ (.inr k)
 generalize hcenv:compEnvC scope (cellsFrom (s.heap.objs.size+1) scope.names (D0 X.env.cells scope.names [])) s.heap.objs.size X.env=cenv;have kp:∀b o,s.heap.get? b=some o->(pushCells (s.heap.push { cls:=.type "dict",data:=.dict #[] }) scope.names).get? b=some o:=fun b o e=>Sj _ _ _ _ (AW _ e)
 have hL:cenv.locals=s.heap.objs.size:=by rw[<-hcenv];rfl
 have hcl:cenv.cells=cellsFrom (s.heap.objs.size+1) scope.names (D0 X.env.cells scope.names []):=by rw[<-hcenv];rfl
 have hsc:cenv.scope=ACj scope X.env.scope:=by rw[<-hcenv];rfl
 rw[<-Cp s.heap { cls:=.type "dict",data:=.dict #[] }]at hcl;have cm:∀{y c},(y,c)∈D0 X.env.cells scope.names []->X.env.cells.lookup y=some c/\c<s.heap.objs.size:=fun {y c} hm=>by
  rcases K9 hm with hm|⟨h1,rfl⟩
  ·cases hm
  ·obtain ⟨c,hc⟩:=hfree _ h1 rfl;rw[hc];obtain ⟨w,z⟩:=I.cell _ _ hc;exact ⟨rfl,z.lt⟩
 have mem:∀{y c},cenv.cells.lookup y=some c->(X.env.cells.lookup y=some c/\c<s.heap.objs.size)\/(s.heap.objs.size+1<=c/\tY (pushCells (s.heap.push { cls:=.type "dict",data:=.dict #[] }) scope.names) c none):=fun {y c} e=>by
  rw[hcl]at e;rcases MD (Bi e) with hm|⟨_,h2,h3⟩
  ·exact .inl (cm hm)
  ·rw[Cp]at h2;exact .inr ⟨h2,h3⟩
 have look:∀{y},scope.names.lookup y=some .free->∃c,cenv.cells.lookup y=some c/\X.env.cells.lookup y=some c:=fun {y} hl=>by
  have hy:(y,IG)∈scope.names:=Bi hl;obtain ⟨c',e'⟩:=mem_lookup (Qe (names:=scope.names) (n:=(s.heap.push { cls:=.type "dict",data:=.dict #[] }).objs.size) (Ol (cells:=X.env.cells) (acc:=[]) hy));rw[<-hcl]at e';refine ⟨c',e',?_⟩;rw[hcl]at e';rcases MD (Bi e') with hm|⟨h1,_,_⟩
  ·exact (cm hm).1
  ·have:=ok.uniq _ h1
   rw[hl]at this;cases this
 have okB:(X.fk s H scope cenv fp).Ok:=by
  refine ⟨I.ok.mod,by show cenv.scope.kind=_;rw[hsc];exact ok.kind,by show cenv.globals=_;rw[<-hcenv];exact I.ok.glob,by show cenv.builtins=_;rw[<-hcenv];exact I.ok.blt,by show s.heap.objs.size<=cenv.locals;rw[hL];exact AV _,
   fun y z c e1 e2=>?_,fun y hy=>?_,fun y c z e=>?_,I.ok.hd,I.ok.frames,.inl rfl,fun b hb=>⟨?_,fun y c e z=>?_⟩,I.bs,AY I.ok.pR I.sz,fun b o e hb=>?_,fun b hb z=>?_,I.stack,I.nY⟩
  ·have e1:cenv.cells.lookup y=some c:=e1;have e2:cenv.cells.lookup z=some c:=e2;rw[hcl]at e1 e2;refine Uv (fun p hp=>?_) (fun y z c a b=>I.ok.inj y z c (cm a).1 (cm b).1) (Bi e1) (Bi e2);rw[Cp];exact Ms (cm (y:=p.1) (c:=p.2) hp).2
  ·show ∃c,cenv.cells.lookup y=some c;have key:∀k,cenv.kindOf y=some k->(k=.cell\/k=.free)->∃c,cenv.cells.lookup y=some c:=fun k hk hk'=>by
    unfold Env.kindOf at hk;rw[hsc]at hk;obtain ⟨k',e,r⟩:=Om hk
    have:k'=.cell\/k'=.free:=by
     rcases r with rfl|⟨rfl,_⟩
     ·exact hk'
     ·exact .inr rfl
    rcases this with rfl|rfl
    ·obtain ⟨c,hm⟩:=Uu (n:=(s.heap.push { cls:=.type "dict",data:=.dict #[] }).objs.size) (acc:=D0 X.env.cells scope.names []) (Bi e);obtain ⟨c',e'⟩:=mem_lookup hm;exact ⟨c',by rw[hcl];exact e'⟩
    ·obtain ⟨c,h1,_⟩:=look e;exact ⟨c,h1⟩
   rcases hy with hy|hy
   ·exact key _ hy (.inl rfl)
   ·exact key _ hy (.inr rfl)
  ·have z:(scope.names.lookup y==some aW)=true:=z;have z:scope.names.lookup y=some .cell:=by simpa using z
   have e:cenv.cells.lookup y=some c:=e;rw[hcl]at e;rcases MD (Bi e) with hm|⟨_,h2,_⟩
   ·rcases K9 hm with hm|⟨h1,_⟩
    ·cases hm
    ·have q:=ok.uniq _ h1;rw[z]at q;cases q
   ·rw[Cp]at h2;exact Mr h2
  ·show b≠cenv.locals;rw[hL];exact Bl (hfp b hb).2
  ·have e:cenv.cells.lookup y=some c:=e;rcases mem e with ⟨h1,_⟩|⟨h1,_⟩
   ·exact (hfp b hb).1.2.2.2.2.1 y c h1 z
   ·have h2:s.heap.objs.size+1<=b:=by rw[<-z];exact h1
    exact absurd (A9 (hfp b hb).2 (Mr h2)) (Bu _)
  ·rcases (hfp b hb).1.2.2.2.1 with z|z
   ·exact I.ok.tG b o e z
   ·exact absurd (A9 (Av e) (AY I.ok.pR z)) (Bu _)
  ·rcases Ak.mp (I.fT b z) with z|z
   ·exact (hfp b hb).1.2.1 z
   ·exact (hfp b hb).1.2.2.1 z
 refine ⟨okB,rfl,I.bare,Un.kept kp,⟨fun _=>none,?_,fun i y av e1 e2 e3=>?_⟩,fun y c e=>?_,?_,fun y c e=>?_,fun p hp=>?_,I.C2.kept kp,by rw[Oo];exact I.len⟩
 ·show Heap.Ns _ cenv.locals _;rw[hL];exact Heap.Ns.keeps (Heap.Ns.new ..) fun b o e=>Sj _ _ _ _ e
 ·obtain ⟨e2,hne⟩:=Uw e2;have hfr:scope.names.lookup y=some .free/\(cenv.kindOf y=some .cell\/cenv.kindOf y=some .free):=by
   have key:∀k,cenv.scope.names.lookup y=some k->k=.local\/k=.cell\/k=.free->scope.names.lookup y=some .free/\(cenv.kindOf y=some .cell\/cenv.kindOf y=some .free):=fun k hk hk'=>by
    have hk0:=hk;rw[hsc]at hk;obtain ⟨k',e,r⟩:=Om hk;have no:¬(k'=.local\/k'=.cell):=fun hh=>by
     rcases ok.own _ (Bi e) hh with e'|e'
     ·obtain ⟨p,hp,hpy⟩:=BE.mp e';have e3:=ok.ix p hp
      have:p.1=y:=hpy
      rw[this]at e3;exact hne (BE.mpr ⟨p,hp,YL hN e3 e1⟩)
     ·exact e' (Ar e1)
    rcases r with rfl|⟨rfl,rfl⟩
    ·rcases hk' with rfl|rfl|rfl
     ·exact absurd (.inl rfl) no
     ·exact absurd (.inr rfl) no
     ·exact ⟨e,.inr hk0⟩
    ·exact ⟨e,.inl hk0⟩
   have e3:Vis cenv.scope y:=e3;rcases e3 with e3|e3|e3
   ·exact key _ e3 (.inl rfl)
   ·exact key _ e3 (.inr (.inl rfl))
   ·exact key _ e3 (.inr (.inr rfl))
  obtain ⟨m,hn,hl⟩:=I.loc;have hvis:Vis X.env.scope y:=(ok.free _ (Bi hfr.1) rfl).elim (fun k=>.inr (.inl k)) (fun k=>.inr (.inr k));obtain ⟨w,r,q⟩:=hl i y av e1 e2 hvis;refine ⟨w,r,.inr ⟨hfr.2,?_⟩⟩;obtain ⟨c,h1,h2⟩:=look hfr.1;rcases q with ⟨k,_⟩|⟨_,c',e',z⟩
  ·have k:X.env.scope.names.lookup y=some .local:=k;rcases ok.free _ (Bi hfr.1) rfl with k'|k'<;>rw[show X.env.scope.names.lookup y=_ from k']at k<;>cases k
  ·rw[h2]at e';cases e';exact ⟨c,h1,z.keeps kp⟩
 ·have e:cenv.cells.lookup y=some c:=e;rcases mem e with ⟨h1,_⟩|⟨_,z⟩
  ·obtain ⟨w,z⟩:=I.cell y c h1;exact ⟨w,z.keeps kp⟩
  ·exact ⟨_,z⟩
 ·show H cenv.locals=none;rw[hL];exact I.C2.fresh (AV _)
 ·have e:cenv.cells.lookup y=some c:=e;rcases mem e with ⟨h1,_⟩|⟨h1,_⟩
  ·exact I.Ng y c h1
  ·exact I.C2.fresh (Mr h1)
 ·exact absurd (show p∈([]:List (Addr×Obj))++[] from hp) (by simp)
theorem zW{E:Value->Shared->Prop}{D:Addr}{xs:List V}{y:V}{v:Value}{Q:Value->Shared->Prop}(I:Inv X pins σ H s)(hD:H D=some (.lst xs))(hz:xs.length<sizeLine)(r:RelV y v)
  (h:∀s',Inv X pins σ (upd H D (.lst (xs++[y]))) s'->Q .none s'):wpAny (model X.prog X.w) X.A (call (.builtin "list.append") [.ref D,v]) Q E s:=by
 obtain ⟨hz',its,n,ri,e⟩:=I.C2 D _ hD;have hl:=ri.length;refine append_at (hsz:=by rw[Aa];omega) e fun h' sb ho'=>?_
 refine h { s with heap:=h' } (I.write (t':=s.toks) (by rw[hD];trivial) (.inl rfl) (fun b u hb q=>(sb.2 b hb).trans q) ⟨_,ho'⟩ ⟨by rw[Ab];exact hz,its++[v],n+1,ri.append (.cons r .nil),?_⟩);rw[ho'];simp
def PTs(X:Cx)(ifs:List Expr)(t:TT):Prop :=
 ∀(pins:List (Addr×Obj)) (s:Shared) (σ:St) (H:Hp) (Q:Bool->Hp->Prop),Inv X pins σ H s->t σ H Q ->
  wpAny (model X.prog X.w) X.A (forIn ifs true fun c r=>if r=true then do let ok <-isTrue c X.env (eval c X.env);pure (Ii ok) else pure (Ii r)) (TP X pins σ Q) X.xe s
def ACk:TT:=fun _ H Q=>Q true H
theorem F4:PTs X [] ACk:=fun _ _ _ H _ I h=>wpAny_tests_nil ⟨H,I,h⟩
theorem FZ{c:Expr}{t:TT}(h:PT X c t):PTs X [c] t:=fun pins s σ H Q I hw=>wpAny_tests_one (h pins s σ H Q I hw)
end
theorem pf{α:Type}{t:Sem α}{Q Q':α->Shared->Prop}{M:Model}{A:Around}{E:Value->Shared->Prop}{s:Shared}(h:wpAny M A t Q (fun _ _=>False) s)(hQ:∀a s,Q a s->Q' a s):wpAny M A t Q' E s:=DH h hQ fun _ _ z=>C8 z
theorem fo{prog:Program}{w:World}{A:Around}{R:Result->Shared->Prop}{s:Shared}{elt target iter:Expr}{ifs:List Expr}{scope:Scope}{pos:Pos}{it acc:Value}{env:Env}(I:Nat->Shared->Prop)
  (turn:∀n s,I n s->wpAny (model prog w) A (pyNext it) (fun r s₁=>match r with
   |none=>R (.ok .next) s₁
   |some v=>wpAny (model prog w) A (letOwnedTupleGo target it v) (fun _ s₁'=>wpAny (model prog w) A (assign target env v) (fun _ s₂ =>
     wpAny (model prog w) A (forIn ifs true fun c r=>if r=true then do let ok <-isTrue c env (eval c env);pure (Ii ok) else pure (Ii r)) (fun ok s₃ =>
      if ok=true then wpAny (model prog w) A (eval elt env) (fun x s₄ =>
       wpAny (model prog w) A (call (.builtin "list.append") [acc,x]) (fun _ s₅=>∃m,m<n/\I m s₅) (notedBy (model prog w) A env fun e s'=>R (.error e) s') s₄) (notedBy (model prog w) A env fun e s'=>R (.error e) s') s₃
      else ∃m,m<n/\I m s₃) (notedBy (model prog w) A env fun e s'=>R (.error e) s') s₂) (notedBy (model prog w) A env fun e s'=>R (.error e) s') s₁') (notedBy (model prog w) A env fun e s'=>R (.error e) s') s₁) (notedBy (model prog w) A env fun e s'=>R (.error e) s') s)
  (n:Nat) (h:I n s) :
  codeAny (model prog w) A (.compLoop (.ListComp elt [⟨target,iter,ifs,0⟩] scope pos) 0 it acc env) R s:=by
 refine codeAny_loop rfl I (fun n s hI=>?_) n h;show wpAny _ A ((compTurn (.ListComp elt [⟨target,iter,ifs,0⟩] scope pos) 0 it acc env).onRaise (fun x=>do noteFrame x env;theTreesLotGoes x)) _ _ s;refine wpAny_noted ?_;rw[compTurn_list];refine AL (OR (AL (DH (turn n s hI) (fun r s₁ h₁=>?_) fun _ _ h'=>h')));cases r with
 |none=>exact A1 h₁
 |some v =>
  refine AL (DH h₁ (fun _ s₁' h₁'=>?_) fun _ _ h'=>h');refine AL (DH h₁' (fun _ s₂ h₂=>AL (DH h₂ (fun ok s₃ h₃=>?_) fun _ _ h'=>h')) fun _ _ h'=>h');cases ok with
  |false=>exact A1 ⟨rfl,h₃⟩
  |true =>
   exact AL (AL (DH h₃ (fun x s₄ h₄=>AL (DH h₄ (fun _ s₅ h₅=>A1 (A1 ⟨rfl,h₅⟩)) fun _ _ h'=>h')) fun _ _ h'=>h'))
section
variable {X:Cx}
def tLc(wi:TI)(g:TG)(tt:TT)(te:TE)(vs:List Nat):TE:=fun σ H Q=>wi σ H fun J H1=>∀D,H1 D=none->∃W:Nat->Nat->Hp->Prop,(∃m,W 0 m (upd H1 D (.lst [])))/\∀i m H,W i m H ->
 (J.stop i H/\Q (.ref D) H)\/(J.go i H/\∃Nx:Hp->Prop,(∀H',Nx H'->∃m',m'<m/\W (i+1) m' H')/\∀x H',J.ng i H x H'->g x (wipe σ vs) H' fun σ2 H2=>wipe σ2 vs=wipe σ vs/\tt σ2 H2 fun b H3 =>
  if b=true then te σ2 H3 fun y H4=>∃acc,H4 D=some (.lst acc)/\acc.length<sizeLine/\Nx (upd H4 D (.lst (acc++[y]))) else Nx H3)
theorem n6{pins:List (Addr×Obj)}{s:Shared}{σ:St}{H:Hp}{Q:VK}{elt tg iter:Expr}{ifs:List Expr}{scope:Scope}{own:List (Str×Nat)}{pos pos':Pos}{wi:TI}{g:TG}{tt:TT}{te:TE}{use:Option (Value->Sem Unit)}{Qf:Value->Shared->Prop}
  (hc:X.calm=true) (hN:X.N.Nodup) (I:Inv X pins σ H s) (hi:PI X tg iter wi) (ok:EH X.N X.env.scope scope own)
  (hg:∀(s:Shared) (H:Hp) (C:Addr) (cl:List (Str×Addr)) (fp:List Addr),PG (X.fk s H scope (compEnvC scope cl C X.env) fp) tg g) (ht:∀(s:Shared) (H:Hp) (C:Addr) (cl:List (Str×Addr)) (fp:List Addr),PTs (X.fk s H scope (compEnvC scope cl C X.env) fp) ifs tt)
  (he:∀(s:Shared) (H:Hp) (C:Addr) (cl:List (Str×Addr)) (fp:List Addr),PE (X.fk s H scope (compEnvC scope cl C X.env) fp) elt te) (hs:∀x,foldedSetIterable iter X.env x=pure x)
  (h:tLc wi g tt te (own.map (·.2)) σ H Q)
  (hRR:∀D C s' m H',Inv X pins σ H' s'->Q (.ref D) H'->s'.heap.Ns C m->YU X pins H' C->compPost (model X.prog X.w) X.A X.xe use Qf (.ref D) C (.ok .next) s') :
  wpAny (model X.prog X.w) X.A (comprehension (.ListComp elt [⟨tg,iter,ifs,0⟩] scope pos) scope X.env pos' (newList []) false (eval iter X.env) use) Qf X.xe s:=by
 have hfree:∀y∈scope.names,y.2=.free->∃c,X.env.cells.lookup y.1=some c:=fun y hy e=>by
  rcases ok.free y hy e with k|k
  ·exact I.ok.has _ (.inl k)
  ·exact I.ok.has _ (.inr k)
 refine wpAny_comprehension_free (use:=use) rfl hs (lV hfree) ok.kind (fun y hy e=>by rw[ok.uniq y hy,e])
  (FH (hi pins s σ H _ I h) fun xv s1 hx=>FH hx fun itv s2 h2=>?_)
 obtain ⟨it,fp,tn,J,H2,e,I2,T,st2,f2,q⟩:=h2;subst e;refine Dt (i7 ?_) (by show 0<=sizeLine;decide);generalize hD:s2.heap.objs.size=D;have hDn:H2 D=none:=I2.C2.fresh (W5 hD);obtain ⟨W,⟨m0,w0⟩,turn⟩:=q D hDn;generalize hs3:({ s2 with heap:=s2.heap.push { cls:=.type "list",data:=.seq ([]:List Value).toArray } }:Shared)=s3;have I3:Inv X pins σ (upd H2 D (.lst [])) s3:=by
  rw[<-hs3];refine I2.laid (t':=s2.toks) (fun b o e=>AW _ e) (W5 hD) ⟨Bb _,[],0,.nil,?_⟩;rw[<-hD];exact BA _ rfl
 have h3:s3.heap=s2.heap.push { cls:=.type "list",data:=.seq ([]:List Value).toArray }:=by rw[<-hs3]
 have sz:∀b∈fp,b<s2.heap.objs.size:=fun b hb=>by
  obtain ⟨o,e,_⟩:=T.obj _ _ st2 b hb;exact Av e
 have f3:∀b∈fp,YU X pins (upd H2 D (.lst [])) b/\b<s3.heap.objs.size:=fun b hb=>by
  have hlt:=sz b hb;refine ⟨⟨?_,(f2 b hb).2⟩,by rw[h3,Cp];exact Ms hlt⟩;rw[A2 (by rw[<-hD];exact Bl hlt)];exact (f2 b hb).1
 have st3:tn 0 s3.heap:=T.keep _ _ _ st2 fun b _ o e=>by rw[h3];exact AW _ e
 have I4:=i8 I3 ok hN f3;have pg:=hg s3 (upd H2 D (.lst [])) s3.heap.objs.size (cellsFrom (s3.heap.objs.size+1) scope.names (D0 X.env.cells scope.names [])) fp;have pt:=ht s3 (upd H2 D (.lst [])) s3.heap.objs.size (cellsFrom (s3.heap.objs.size+1) scope.names (D0 X.env.cells scope.names [])) fp;have pe:=he s3 (upd H2 D (.lst [])) s3.heap.objs.size (cellsFrom (s3.heap.objs.size+1) scope.names (D0 X.env.cells scope.names [])) fp;show codeAny _ _ (.compStart (.ListComp elt [⟨tg,iter,ifs,0⟩] scope pos) 0 (.ref it) (.ref D) (compEnvC scope (cellsFrom (s3.heap.objs.size+1) scope.names (D0 X.env.cells scope.names [])) s3.heap.objs.size X.env)) (compPost (model X.prog X.w) X.A X.xe use Qf (.ref D) s3.heap.objs.size) { s3 with heap:=pushCells (s3.heap.push { cls:=.type "dict",data:=.dict #[] }) scope.names };have nfp:∀b∈fp,(upd H2 D (.lst [])) b=none:=fun b hb=>(f3 b hb).1.1
 generalize hce:compEnvC scope (cellsFrom (s3.heap.objs.size+1) scope.names (D0 X.env.cells scope.names [])) s3.heap.objs.size X.env=ce at I4 pg pt pe ⊢;have cL:ce.locals=s3.heap.objs.size:=by subst hce;rfl
 generalize hH3:upd H2 D (.lst [])=H3 at I3 I4 pg pt pe w0 nfp f3;generalize hs4:({ s3 with heap:=pushCells (s3.heap.push { cls:=.type "dict",data:=.dict #[] }) scope.names }:Shared)=s4 at I4 ⊢;have st4:tn 0 s4.heap:=T.keep _ _ _ st3 fun b _ o e=>by rw[<-hs4];exact Sj _ _ _ _ (AW _ e)
 have stat:∀{σ':St} {H':Hp} {s':Shared},Inv (X.fk s3 H3 scope ce fp) [] σ' H' s'->(∀b∈fp,H' b=none)->∀b∈fp,YU (X.fk s3 H3 scope ce fp) [] H' b:=fun {σ' H' s'} I' hn b hb =>
  ⟨hn b hb,(I'.ok.exf b hb).1,I'.ok.tH b hb,.inl hb,fun x c e=>(I'.ok.exf b hb).2 x c e,fun p hp=>absurd (show p∈([]:List (Addr×Obj))++[] from hp) (by simp)⟩
 have loop:codeAny (model X.prog X.w) X.A (.compLoop (.ListComp elt [⟨tg,iter,ifs,0⟩] scope pos) 0 (.ref it) (.ref D) ce) (compPost (model X.prog X.w) X.A X.xe use Qf (.ref D) s3.heap.objs.size) s4:=by
  refine fo (fun n s'=>∃i H',Inv (X.fk s3 H3 scope ce fp) [] (wipe σ (own.map (·.2))) H' s'/\tn i s'.heap/\(∀b∈fp,H' b=none)/\W i n H') ?_ m0 ⟨0,H3,I4,st4,nfp,w0⟩;rintro n s5 ⟨i,H5,I5,st5,n5,w5⟩;rcases turn i n H5 w5 with ⟨stop,qq⟩|⟨go,Nx,hNx,step⟩
  ·have td:=T.done (X.fk s3 H3 scope ce fp) rfl rfl rfl hc i [] s5 _ H5 (fun _ _=>False) I5 (stat I5 n5) st5 stop;refine pf td fun r s6 ⟨hr,I6⟩=>?_
   subst hr;have I7:Inv X pins σ H5 s6:=I3.AA2 (ch:=fp) I6.os I6.base I6.C2 I6.bare fun b hb=>⟨(f3 b hb).1.2.2.2.1,(f3 b hb).1.2.1,(f3 b hb).1.2.2.2.2.1,(f3 b hb).1.2.2.2.2.2⟩
   have nC:H5 s3.heap.objs.size=none:=by
    have z:H5 ce.locals=none:=I6.free;rw[cL]at z;exact z
   obtain ⟨m,hn,_⟩:=I6.loc;have hn:s6.heap.Ns ce.locals m:=hn;rw[cL]at hn;exact hRR D s3.heap.objs.size s6 m H5 I7 qq hn (I3.lF (AV _) nC)
  ·have ti:=T.item (X.fk s3 H3 scope ce fp) rfl rfl rfl hc i [] s5 _ H5 (fun _ _=>False) I5 (stat I5 n5) st5 go;refine pf ti fun r s6 ⟨u,hr,h6⟩=>?_
   subst hr;refine pf h6 fun _ s7 ⟨x,H7,I7,r7,y7,st7,n7⟩=>?_
   have I7':=I7.pinned (stat I7 n7) (T.obj _ _ st7);refine pf (pg _ s7 _ H7 x u _ I7' r7 (step x H7 y7)) fun _ s8 ⟨σ8,H8,I8,hw8,q8⟩=>?_
   refine pf (pt _ s8 σ8 H8 _ I8 q8) fun b s9 ⟨H9,I9,q9⟩=>?_
   have fin:∀{s':Shared} {H':Hp},Inv (X.fk s3 H3 scope ce fp) ([]++YW fp s7.heap) σ8 H' s'->Nx H'->∃m,m<n/\∃i H',Inv (X.fk s3 H3 scope ce fp) [] (wipe σ (own.map (·.2))) H' s'/\tn i s'.heap/\(∀b∈fp,H' b=none)/\W i m H':=fun {s' H'} I' nx=>by
    obtain ⟨m',hm,w'⟩:=hNx H' nx;have pin':∀b∈fp,∀o,s7.heap.get? b=some o->s'.heap.get? b=some o/\H' b=none:=fun b hb o e =>
     let z:=I'.pin (b,o) (CD _ (CD _ (Rp hb e)))
     ⟨z.1,z.2.1⟩
    have hl:(wipe σ (own.map (·.2))).length=σ8.length:=by rw[<-hw8,Oo]
    refine ⟨m',hm,i+1,H',(I'.TZ (pins:=[])).weak hl (fun j v e=>?_),T.keep _ _ _ st7 fun b hb o e=>(pin' b hb o e).1,fun b hb=>?_,w'⟩
    ·rw[<-hw8]at e;exact (Uw e).1
    ·obtain ⟨o,e,_⟩:=T.obj _ _ st7 b hb;exact (pin' b hb o e).2
   cases b with
   |false =>
    simp only[Cf,if_false]at q9 ⊢;exact fin I9 q9
   |true =>
    simp only[if_true]at q9 ⊢;refine pf (pe _ s9 σ8 H9 _ I9 q9) fun z s10 ⟨yv,H10,I10,r10,acc,hD10,hz10,nx⟩=>?_
    exact zW (X:=X.fk s3 H3 scope ce fp) I10 hD10 hz10 r10 fun s11 I11=>fin I11 nx
 exact codeAny_compStart_list loop (T.self X.A 0 _ _ _ st4 loop)
theorem HK{elt tg iter:Expr}{ifs:List Expr}{scope:Scope}{own:List (Str×Nat)}{pos:Pos}{wi:TI}{g:TG}{tt:TT}{te:TE}(hc:X.calm=true)(hN:X.N.Nodup)(hi:PI X tg iter wi)(ok:EH X.N X.env.scope scope own)
  (hg:∀(s:Shared) (H:Hp) (C:Addr) (cl:List (Str×Addr)) (fp:List Addr),PG (X.fk s H scope (compEnvC scope cl C X.env) fp) tg g) (ht:∀(s:Shared) (H:Hp) (C:Addr) (cl:List (Str×Addr)) (fp:List Addr),PTs (X.fk s H scope (compEnvC scope cl C X.env) fp) ifs tt)
  (he:∀(s:Shared) (H:Hp) (C:Addr) (cl:List (Str×Addr)) (fp:List Addr),PE (X.fk s H scope (compEnvC scope cl C X.env) fp) elt te) (hs:∀x,foldedSetIterable iter X.env x=pure x:=by intro _;rfl) :
  PE X (.ListComp elt [⟨tg,iter,ifs,0⟩] scope pos) (tLc wi g tt te (own.map (·.2))):=by
 intro pins s σ H Q I h;rw[eval_ListComp];refine n6 hc hN I hi ok hg ht he hs h fun D C s' m H' I' q hn f=>⟨m,hn,fun h'' sb=>?_⟩
 obtain ⟨f0,f1,f2,f3,f4,f5⟩:=f;exact ⟨.ref D,H',I'.turned (t':=s'.toks) (fun b o hb e=>(sb.2 b hb).trans e) f0 f1 f3 f4 f5,rfl,q⟩
theorem Hb{i:Nat}{y:Str}{py:Pos}{elt tg iter:Expr}{ifs:List Expr}{scope:Scope}{own:List (Str×Nat)}{pos spos:Pos}{wi:TI}{g:TG}{tt:TT}{te:TE}(hc:X.calm=true)(hN:X.N.Nodup)(hy:X.N[i]?=some y)(hyl:X.env.scope.names.lookup y=some .local)
  (hsw:swapsWith (.ListComp elt [⟨tg,iter,ifs,0⟩] scope pos) (some (.Name y py)) spos.line X.env=pure true) (hi:PI X tg iter wi) (ok:EH X.N X.env.scope scope own)
  (hg:∀(s:Shared) (H:Hp) (C:Addr) (cl:List (Str×Addr)) (fp:List Addr),PG (X.fk s H scope (compEnvC scope cl C X.env) fp) tg g) (ht:∀(s:Shared) (H:Hp) (C:Addr) (cl:List (Str×Addr)) (fp:List Addr),PTs (X.fk s H scope (compEnvC scope cl C X.env) fp) ifs tt)
  (he:∀(s:Shared) (H:Hp) (C:Addr) (cl:List (Str×Addr)) (fp:List Addr),PE (X.fk s H scope (compEnvC scope cl C X.env) fp) elt te) (hs:∀x,foldedSetIterable iter X.env x=pure x:=by intro _;rfl) :
  PS X (.Assign [.Name y py] (.ListComp elt [⟨tg,iter,ifs,0⟩] scope pos) spos) (y8 (tLc wi g tt te (own.map (·.2))) (YR i)):=by
 intro pins s σ H D I h;rw[exec_Assign_Name_used _ _ _ _ hsw];refine AL (OR (AL ?_));show wpAny _ X.A (do let _ <-comprehension (.ListComp elt [⟨tg,iter,ifs,0⟩] scope pos) scope X.env (firstIterPos [⟨tg,iter,ifs,0⟩] pos) (newList []) false (eval iter X.env) (some (assign (.Name y py) X.env))) _ _ s;have h:tLc wi g tt te (own.map (·.2)) σ H (fun x H1=>YR i x σ H1 D.nx):=h;refine AL (FH (n6 (Qf:=fun _ s'=>SP X pins D .next s') hc hN I hi ok hg ht he hs h fun L C s' m H' I' q hn f=>?_) fun _ s' hq=>A1 (A1 hq));show wpAny _ _ (assign (.Name y py) X.env (.ref L)) _ _ _;refine AAI (cR (v:=V.ref L) I' hN hy (.inl hyl) rfl (fun s2 I2 ⟨a,sb,ha⟩=>?_) (.inr hyl));obtain ⟨f0,f1,f2,f3,f4,f5⟩:=f;have haC:C≠a:=by
  rcases ha with z|z
  ·rw[z];exact f1
  ·exact fun e=>f4 y a z e.symm
 refine ⟨m,hn.sameBut sb haC,fun h3 sb3=>?_⟩;exact ⟨_,H',I2.turned (t':=s2.toks) (fun b o hb e=>(sb3.2 b hb).trans e) f0 f1 f3 f4 f5,q⟩
theorem Jk{elt:Expr}{gs:List Comprehension}{scope:Scope}{pos py:Pos}{y:Str}{l:Nat}{env:Env}(hk:env.scope.kind=.function)(hy:env.scope.names.lookup y=some .local)(hl:(py.line==pos.line)=true)
  (ha:(scope.names.any fun (n,k)=>n==y&&(k == .local||k == .cell))=false):swapsWith (.ListComp elt gs scope pos) (some (.Name y py)) l env=pure true:=by
 have ky:env.kindOf y=some .local:=hy;have hb:env.blockKind=.function:=by unfold Env.blockKind;rw[hk];rfl
 unfold swapsWith;simp only[hb,ky,ha,Expr.pos,hl];rfl
end
theorem tZ{lo:Int}{n:Nat}{g:TG}{tt:TT}{te:TE}{vs:List Nat}{σ:St}{H1:Hp}{D:Addr}{Qd:Hp->Prop}(Pv:Nat->Hp->Prop)(h0:Pv 0 (upd H1 D (.lst [])))
  (hs:∀i H,i<n->Pv i H->g (.int (lo+i)) (wipe σ vs) H fun σ2 H2=>wipe σ2 vs=wipe σ vs/\tt σ2 H2 fun b H3 =>
   if b=true then te σ2 H3 fun y H4=>∃acc,H4 D=some (.lst acc)/\acc.length<sizeLine/\Pv (i+1) (upd H4 D (.lst (acc++[y]))) else Pv (i+1) H3) (hd:∀H,Pv n H->Qd H) :
  ∃W:Nat->Nat->Hp->Prop,(∃m,W 0 m (upd H1 D (.lst [])))/\∀i m H,W i m H ->
   ((pU lo n).stop i H/\Qd H)\/((pU lo n).go i H/\∃Nx:Hp->Prop,(∀H',Nx H'->∃m',m'<m/\W (i+1) m' H')/\∀x H',(pU lo n).ng i H x H'->g x (wipe σ vs) H' fun σ2 H2=>wipe σ2 vs=wipe σ vs/\tt σ2 H2 fun b H3 =>
    if b=true then te σ2 H3 fun y H4=>∃acc,H4 D=some (.lst acc)/\acc.length<sizeLine/\Nx (upd H4 D (.lst (acc++[y]))) else Nx H3):=by
 refine ⟨fun i m H=>m=n-i/\i<=n/\Pv i H,⟨n,by simp,Bb _,h0⟩,?_⟩;rintro i m H ⟨rfl,hi,p⟩
 by_cases hlt:i<n
 ·refine .inr ⟨hlt,Pv (i+1),fun H' p'=>⟨n-(i+1),by omega,rfl,hlt,p'⟩,fun x H' y=>?_⟩;obtain ⟨e,y⟩:=y;subst e y;exact hs i _ hlt p
 ·have e:i=n:=by omega
  subst e;exact .inl ⟨AV _,hd H p⟩
theorem wj{K:AE}{a:Addr}{xs:List V}{g:TG}{tt:TT}{te:TE}{vs:List Nat}{σ:St}{H1:Hp}{D:Addr}{Qd:Hp->Prop}(Pv:Nat->Hp->Prop)(h0:Pv 0 (upd H1 D (.lst [])))(hl:∀i H,i<=xs.length->Pv i H->Bq K H a xs)
  (hs:∀i x H,xs[i]?=some x->Pv i H->g x (wipe σ vs) H fun σ2 H2=>wipe σ2 vs=wipe σ vs/\tt σ2 H2 fun b H3 =>
   if b=true then te σ2 H3 fun y H4=>∃acc,H4 D=some (.lst acc)/\acc.length<sizeLine/\Pv (i+1) (upd H4 D (.lst (acc++[y]))) else Pv (i+1) H3) (hd:∀H,Pv xs.length H->Qd H) :
  ∃W:Nat->Nat->Hp->Prop,(∃m,W 0 m (upd H1 D (.lst [])))/\∀i m H,W i m H ->
   ((tM K a).stop i H/\Qd H)\/((tM K a).go i H/\∃Nx:Hp->Prop,(∀H',Nx H'->∃m',m'<m/\W (i+1) m' H')/\∀x H',(tM K a).ng i H x H'->g x (wipe σ vs) H' fun σ2 H2=>wipe σ2 vs=wipe σ vs/\tt σ2 H2 fun b H3 =>
    if b=true then te σ2 H3 fun y H4=>∃acc,H4 D=some (.lst acc)/\acc.length<sizeLine/\Nx (upd H4 D (.lst (acc++[y]))) else Nx H3):=by
 refine ⟨fun i m H=>m=xs.length-i/\i<=xs.length/\Pv i H,⟨xs.length,by simp,Bb _,h0⟩,?_⟩;rintro i m H ⟨rfl,hi,p⟩;have q:=hl i H hi p
 by_cases hlt:i<xs.length
 ·refine .inr ⟨⟨xs,xs[i],q,by simp[hlt]⟩,Pv (i+1),fun H' p'=>⟨xs.length-(i+1),by omega,rfl,hlt,p'⟩,fun x H' y=>?_⟩;obtain ⟨e,y⟩:=y;subst e;exact hs i x _ (y xs q) p
 ·have e:i=xs.length:=by omega
  subst e;exact .inl ⟨⟨xs,q,AV _⟩,hd H p⟩
theorem zX{K:AE}{a:Addr}{xs:List V}{g:TG}{tt:TT}{te:TE}{vs:List Nat}{σ:St}{H1:Hp}{D:Addr}{Qd:Hp->Prop}(Pv:Nat->Hp->Prop)(h0:Pv 0 (upd H1 D (.lst [])))(hl:∀i H,i<=xs.length->Pv i H->DR K H a xs)
  (hs:∀i x H,xs[i]?=some x->Pv i H->g x (wipe σ vs) H fun σ2 H2=>wipe σ2 vs=wipe σ vs/\tt σ2 H2 fun b H3 =>
   if b=true then te σ2 H3 fun y H4=>∃acc,H4 D=some (.lst acc)/\acc.length<sizeLine/\Pv (i+1) (upd H4 D (.lst (acc++[y]))) else Pv (i+1) H3) (hd:∀H,Pv xs.length H->Qd H) :
  ∃W:Nat->Nat->Hp->Prop,(∃m,W 0 m (upd H1 D (.lst [])))/\∀i m H,W i m H ->
   ((xy K a).stop i H/\Qd H)\/((xy K a).go i H/\∃Nx:Hp->Prop,(∀H',Nx H'->∃m',m'<m/\W (i+1) m' H')/\∀x H',(xy K a).ng i H x H'->g x (wipe σ vs) H' fun σ2 H2=>wipe σ2 vs=wipe σ vs/\tt σ2 H2 fun b H3 =>
    if b=true then te σ2 H3 fun y H4=>∃acc,H4 D=some (.lst acc)/\acc.length<sizeLine/\Nx (upd H4 D (.lst (acc++[y]))) else Nx H3):=by
 refine ⟨fun i m H=>m=xs.length-i/\i<=xs.length/\Pv i H,⟨xs.length,by simp,Bb _,h0⟩,?_⟩;rintro i m H ⟨rfl,hi,p⟩;have q:=hl i H hi p
 by_cases hlt:i<xs.length
 ·refine .inr ⟨⟨xs,xs[i],q,by simp[hlt]⟩,Pv (i+1),fun H' p'=>⟨xs.length-(i+1),by omega,rfl,hlt,p'⟩,fun x H' y=>?_⟩;obtain ⟨e,y⟩:=y;subst e;exact hs i x _ (y xs q) p
 ·have e:i=xs.length:=by omega
  subst e;exact .inl ⟨⟨xs,q,AV _⟩,hd H p⟩
def zY(N:List Str)(sc scope:Scope)(own:List (Str×Nat)):Bool :=
 (match scope.kind with|.function=>true|_=>false)&&(scope.names.all fun y=>decide (scope.names.lookup y.1=some y.2))&&(own.all fun p=>decide (N[p.2]?=some p.1)) &&
  (scope.names.all fun y=>match y.2 with
   |.free=>(match sc.names.lookup y.1 with|some .cell=>true|some .free=>true|_=>false)
   |.local=>decide (y.1∈own.map (·.1))||decide (y.1 ∉ N)
   |.cell=>decide (y.1∈own.map (·.1))||decide (y.1 ∉ N)
   |_=>true)
theorem CL{N:List Str}{sc scope:Scope}{own:List (Str×Nat)}(h:zY N sc scope own=true):EH N sc scope own:=by
 unfold zY at h;simp only[BB,Bc,decide_eq_true_eq]at h;obtain ⟨⟨⟨h1,h2⟩,h3⟩,h4⟩:=h;refine ⟨?_,h2,h3,fun y hy e=>?_,fun y hy e=>?_⟩
 ·split at h1
  ·assumption
  ·cases h1
 ·have q:=h4 y hy;simp only[e]at q
  split at q<;>first|exact .inl (by assumption)|exact .inr (by assumption)|cases q
 ·have q:=h4 y hy;rcases e with e|e<;>(simp only[e,EN,decide_eq_true_eq]at q;exact q)
end L2
namespace L2
open PySem PySem.Spec PyProof.Rows
section
variable {prog:Program} {w:World} {A:Around} {R:Result->Shared->Prop} {s:Shared} {elt t0 i0 t1 i1:Expr} {ifs0 ifs1:List Expr} {scope:Scope} {pos:Pos} {it acc:Value} {env:Env}
end
section
variable {X:Cx}
end
end L2
namespace L2
open PySem PySem.Spec PyProof.Rows
section
variable {κ:Type} [DecidableEq κ]
def Ux(kvs:List (κ×V))(k:κ):Option V:=(kvs.find? fun kv=>decide (kv.1=k)).map (·.2)
def putK(kvs:List (κ×V))(k:κ)(v:V):List (κ×V) :=
 if (kvs.any fun kv=>decide (kv.1=k))=true then kvs.map (fun kv=>if kv.1=k then (kv.1,v) else kv) else kvs++[(k,v)]
def yD(kvs:List (κ×V))(k:κ):List (κ×V):=kvs.filter fun kv=>decide (kv.1≠k)
theorem Yg{p:κ×V}{r:List (κ×V)}{k:κ}(e:p.1=k):Ux (p::r) k=some p.2:=by simp[Ux,CM,e]
theorem Yh{p:κ×V}{r:List (κ×V)}{k:κ}(e:¬p.1=k):Ux (p::r) k=Ux r k:=by simp[Ux,CM,e]
theorem Th(k:κ):∀kvs:List (κ×V),(kvs.any fun kv=>decide (kv.1=k))=(Ux kvs k).isSome
 |[]=>rfl
 |p::r=>by
  rw[GA]
  by_cases e:p.1=k
  ·simp only[Yg e,decide_eq_true e,Bool.true_or,nE]
  ·rw[Yh e,decide_eq_false e,g6];exact Th k r
theorem WB(kvs:List (κ×V))(k:κ)(v:V):(putK kvs k v).length<=kvs.length+1:=by
 unfold putK
 split
 ·rw[AB];omega
 ·rw[Ab,BC,DJ];omega
theorem tj{kvs:List (κ×V)}{k:κ}(v:V)(h:Ux kvs k=none):putK kvs k v=kvs++[(k,v)]:=by
 unfold putK;rw[Th,h];exact if_neg (by decide)
theorem Q1.Uy{o:Option V}{u:Option Value}(r:Q1 o u):o.isSome=u.isSome:=by
 cases o with
 |none=>cases u with
  |none=>rfl
  |some _=>exact (show False from r).elim
 |some _=>cases u with
  |none=>exact (show False from r).elim
  |some _=>rfl
theorem Q1.getD{o:Option V}{u:Option Value}{d:V}{d':Value}(r:Q1 o u)(rd:RelV d d'):RelV (o.getD d) (u.getD d'):=by
 cases o with
 |none=>cases u with
  |none=>exact rd
  |some _=>exact (show False from r).elim
 |some _=>cases u with
  |none=>exact (show False from r).elim
  |some _=>exact r
theorem KV.val{kvs:List (κ×V)}{vs:List (κ×Value)}(r:KV kvs vs)(k:κ):Q1 (Ux kvs k) (valueAt vs k):=by
 unfold KV at r
 induction r with
 |nil=>exact Em
 |@cons p q ps qs h t ih =>
  obtain ⟨h1,h2⟩:=h
  by_cases e:p.1=k
  ·have e':q.1=k:=h1.symm.trans e;have b:valueAt (q::qs) k=some q.2:=by simp[valueAt,CM,e']
   rw[Yg e,b];exact h2
  ·have e':¬q.1=k:=fun z=>e (h1.trans z)
   have b:valueAt (q::qs) k=valueAt qs k:=by simp[valueAt,CM,e']
   rw[Yh e,b];exact ih
theorem KV.any{kvs:List (κ×V)}{vs:List (κ×Value)}(r:KV kvs vs)(k:κ):(kvs.any fun kv=>decide (kv.1=k))=vs.any fun kv=>decide (kv.1=k):=by
 unfold KV at r
 induction r with
 |nil=>rfl
 |cons h t ih=>rw[GA,GA,ih,h.1]
theorem KV.zZ{kvs:List (κ×V)}{vs:List (κ×Value)}(r:KV kvs vs)(k:κ){y:V}{u:Value}(ry:RelV y u) :
  KV (kvs.map fun kv=>if kv.1=k then (kv.1,y) else kv) (vs.map fun kv=>if kv.1=k then (kv.1,u) else kv):=by
 unfold KV at r ⊢
 induction r with
 |nil=>exact .nil
 |@cons p q ps qs h t ih =>
  rw[Az,Az];refine .cons ?_ ih;obtain ⟨h1,h2⟩:=h
  by_cases e:p.1=k
  ·rw[if_pos e,if_pos (h1.symm.trans e)];exact ⟨h1,ry⟩
  ·rw[if_neg e,if_neg (fun z=>e (h1.trans z))];exact ⟨h1,h2⟩
theorem KV.put{kvs:List (κ×V)}{vs:List (κ×Value)}(r:KV kvs vs)(k:κ){y:V}{u:Value}(ry:RelV y u):KV (putK kvs k y) (stored vs k u):=by
 unfold putK stored;rw[r.any k]
 by_cases e:(vs.any fun kv=>decide (kv.1=k))=true
 ·rw[if_pos e,if_pos e];exact r.zZ k ry
 ·rw[if_neg e,if_neg e];exact yV r ⟨rfl,ry⟩
theorem KV.drop{kvs:List (κ×V)}{vs:List (κ×Value)}(r:KV kvs vs)(k:κ):KV (yD kvs k) (without vs k):=by
 unfold KV at r ⊢;unfold yD without
 induction r with
 |nil=>exact .nil
 |@cons p q ps qs h t ih =>
  obtain ⟨h1,h2⟩:=h;rw[Bm,Bm]
  by_cases e:p.1=k
  ·have a:¬decide (p.1≠k)=true:=by simp[e]
   have b:¬decide (q.1≠k)=true:=by simp[h1.symm.trans e]
   rw[if_neg a,if_neg b];exact ih
  ·have e':¬q.1=k:=fun z=>e (h1.trans z)
   have a:decide (p.1≠k)=true:=by simp[e]
   have b:decide (q.1≠k)=true:=by simp[e']
   rw[if_pos a,if_pos b];exact .cons ⟨h1,h2⟩ ih
theorem KV.length{kvs:List (κ×V)}{vs:List (κ×Value)}(r:KV kvs vs):kvs.length=vs.length:=AX r
end
theorem tp{P:Program}{w:World}{k:Key}{u:Value}(r:RelV (kV k) u):(FI P w).is k u=true:=by
 cases k with
 |inl i=>obtain ⟨t,e⟩:=(show ∃t,u=Q8 i t from r);subst e;exact ip P w i t
 |inr x=>obtain ⟨t,e⟩:=(show ∃t,u=g7 x t from r);subst e;exact iq P w x t
theorem cZ{P:Program}{w:World}:∀{ks:List Key} {us:List Value},Vals (ks.map kV) us->ItemsAre (FI P w) ks us
 |[],_,r=>by rw[IA]at r;cases r;exact .nil
 |k::ks,_,r=>by
  rw[Az]at r;cases r with
  |cons h t=>exact .cons (tp h) (cZ t)
abbrev KT(H:Hp):List (List Key×V)->List (List Key×Addr×Value)->Prop:=Paired fun p q=>p.1=q.1/\H q.2.1=some (.tup (p.1.map kV))/\RelV p.2 q.2.2
theorem KT.val{H:Hp}{kvs:List (List Key×V)}{xs:List (List Key×Addr×Value)}(r:KT H kvs xs)(k:List Key):Q1 (Ux kvs k) ((atKey xs k).map (·.2)):=by
 induction r with
 |nil=>exact Em
 |@cons p q ps qs h t ih =>
  obtain ⟨h1,_,h2⟩:=h
  by_cases e:p.1=k
  ·have e':q.1=k:=h1.symm.trans e;have b:atKey (q::qs) k=some q.2:=by simp[atKey,CM,e']
   rw[Yg e,b];exact h2
  ·have e':¬q.1=k:=fun z=>e (h1.trans z)
   have b:atKey (q::qs) k=atKey qs k:=by simp[atKey,CM,e']
   rw[Yh e,b];exact ih
theorem KT.zZ{H:Hp}{kvs:List (List Key×V)}{xs:List (List Key×Addr×Value)}(r:KT H kvs xs)(k:List Key){y:V}{u:Value}(ry:RelV y u) :
  KT H (kvs.map fun kv=>if kv.1=k then (kv.1,y) else kv) (xs.map (putAt k u)):=by
 induction r with
 |nil=>exact .nil
 |@cons p q ps qs h t ih =>
  rw[Az,Az];refine .cons ?_ ih;obtain ⟨h1,h2,h3⟩:=h;unfold putAt
  by_cases e:p.1=k
  ·rw[if_pos e,if_pos (h1.symm.trans e)];exact ⟨h1,h2,ry⟩
  ·rw[if_neg e,if_neg (fun z=>e (h1.trans z))];exact ⟨h1,h2,h3⟩
theorem KT.put{H:Hp}{kvs:List (List Key×V)}{xs:List (List Key×Addr×Value)}(r:KT H kvs xs)(k:List Key){b:Addr}{y:V}{u:Value}(hb:H b=some (.tup (k.map kV)))(ry:RelV y u) :
  KT H (putK kvs k y) (storedH xs k b u):=by
 have e:(kvs.any fun kv=>decide (kv.1=k))=(atKey xs k).isSome:=by
  rw[Th,(r.val k).Uy,ot]
 unfold putK storedH;rw[e]
 by_cases q:(atKey xs k).isSome=true
 ·rw[if_pos q,if_pos q];exact r.zZ k ry
 ·rw[if_neg q,if_neg q];exact yV r ⟨rfl,hb,ry⟩
theorem KT.keeps{H H':Hp}{kvs:List (List Key×V)}{xs:List (List Key×Addr×Value)}(r:KT H kvs xs)(ht:∀b ys,H b=some (.tup ys)->H' b=some (.tup ys)):KT H' kvs xs :=
 Paired.wH r fun _ _ z=>⟨z.1,ht _ _ z.2.1,z.2.2⟩
section
variable {P:Program} {w:World} {H:Hp} {h:Heap} {a:Addr}
theorem yE{u:HO}(ok:L3 P w H h)(e:Rd H a u):Eo P w H h a u:=e.ok ok
theorem yF{kvs:List (Key×V)}(ok:L3 P w H h)(e:Rd H a (.dK kvs)):kvs.length<=sizeLine/\(a==sysModules)=false/\∃vs,KV kvs vs/\h.DictOf (FI P w) a vs :=
 show Eo P w H h a (.dK kvs) from yE ok e
theorem ABP{kvs:List (Key×V)}(ok:L3 P w H h)(e:H a=some (.dK kvs)):kvs.length<=sizeLine/\(a==sysModules)=false/\∃vs,KV kvs vs/\h.DictOf (FI P w) a vs:=yF ok (.inl e)
theorem fu{ks:List Key}(ok:L3 P w H h)(e:H a=some (.tup (ks.map kV))):(tupleKind (FI P w)).is h ks a:=by
 obtain ⟨_,its,r,o,h1,h2,⟨n,h3⟩,_⟩:=(show Eo P w H h a (.tup (ks.map kV)) from ok a _ e);exact ⟨o,its.toArray,n,h1,h2,h3,by simpa using cZ r⟩
theorem yG{kvs:List (List Key×V)}(ok:L3 P w H h)(e:Rd H a (.dT kvs)):kvs.length<=sizeLine/\(a==sysModules)=false /\
  ∃xs,KT H kvs xs/\h.DictOfH (tupleKind (FI P w)) a xs:=by
 obtain ⟨z,y,xs,r,o,es,ep,h1,h2,h3,h4,h5⟩:=(show Eo P w H h a (.dT kvs) from yE ok e);refine ⟨z,y,xs,r,o,es,ep,h1,h2,h3,h4,fun x hx=>?_,h5⟩;have all:∀{l:List (List Key×V)} {m:List (List Key×Addr×Value)},KT H l m->∀x∈m,(tupleKind (FI P w)).is h x.1 x.2.1:=by
  intro l m q
  induction q with
  |nil=>intro x hx;exact nomatch hx
  |@cons p q ps qs hq t ih =>
   intro x hx;rcases Ak.mp hx with e|hx
   ·subst e;exact fu ok (by rw[<-hq.1];exact hq.2.1)
   ·exact ih x hx
 exact all r x hx
theorem yH{kvs:List (List Key×V)}(ok:L3 P w H h)(e:H a=some (.dT kvs)):kvs.length<=sizeLine/\(a==sysModules)=false /\
  ∃xs,KT H kvs xs/\h.DictOfH (tupleKind (FI P w)) a xs:=yG ok (.inl e)
end
def tq(H:Hp)(a:Addr)(y:V)(r:Option V):Prop :=
 (∃kvs k,Rd H a (.dK kvs)/\y=kV k/\r=Ux kvs k)\/∃kvs k b,Rd H a (.dT kvs)/\y=.ref b/\H b=some (.tup (k.map kV))/\r=Ux kvs k
def tu(H:Hp)(a:Addr)(y v:V)(H':Hp):Prop :=
 (∃kvs k,H a=some (.dK kvs)/\y=kV k/\kvs.length<sizeLine/\H'=upd H a (.dK (putK kvs k v))) \/
 ∃kvs k b,H a=some (.dT kvs)/\y=.ref b/\H b=some (.tup (k.map kV))/\kvs.length<sizeLine/\H'=upd H a (.dT (putK kvs k v))
theorem tq.t{H:Hp}{a b:Addr}{kvs:List (List Key×V)}{k:List Key}(e:H a=some (.dT kvs))(eb:H b=some (.tup (k.map kV))):tq H a (.ref b) (Ux kvs k):=.inr ⟨kvs,k,b,.inl e,rfl,eb,rfl⟩
theorem tu.t{H:Hp}{a b:Addr}{kvs:List (List Key×V)}{k:List Key}{v:V}(e:H a=some (.dT kvs))(eb:H b=some (.tup (k.map kV)))(hl:kvs.length<sizeLine) :
  tu H a (.ref b) v (upd H a (.dT (putK kvs k v))):=.inr ⟨kvs,k,b,e,rfl,eb,hl,rfl⟩
section
variable {X:Cx} {pins:List (Addr×Obj)} {σ:St} {H:Hp} {s:Shared} {a:Addr} {y v:V} {u r:Value} {o:Option V} {A:Around} {E:Value->Shared->Prop}
theorem Inv.big(I:Inv X pins σ H s):sysModules<s.heap.objs.size:=by
 have h:mainGlobals<s.heap.objs.size:=(I.mod.glob.keeps I.bk).lt;exact Nat.lt_trans (by decide) h
theorem wk{Q:Value->Shared->Prop}(hu:A.units+1<cLine)(I:Inv X pins σ H s)(g:tq H a y o)(ry:RelV y u)(h:∀s',Inv X pins σ H s'->Q (.bool (!o.isSome)) s') :
  wpAny (model X.prog X.w) A (compareOp .NotIn u (.ref a)) Q E s:=by
 rcases g with ⟨kvs,k,e,ey,l⟩|⟨kvs,k,b,e,ey,eb,l⟩
 ·subst ey;obtain ⟨z,hd,vs,rel,dd⟩:=yF I.C2 e;refine wpAny_notIn_of (tp ry) hd dd.mapOf ?_;rw[<-(rel.val k).Uy,<-l];exact h _ (I.tok _)
 ·subst ey;cases (show u=CG b from ry);obtain ⟨z,hd,xs,rel,dd⟩:=yG I.C2 e;refine wpAny_notIn_heap (yW hu) (fu I.C2 eb) hd dd ?_;have q:=(rel.val k).Uy;rw[ot]at q;rw[<-q,<-l];exact h _ (I.tok _)
theorem fv{h':Heap}{t':Nat}{ob:HO}(I:Inv X pins σ H s)(mu:Mut (H a))(hs:Kw a s.heap h')(he:∃q,h'.get? a=some q)(new:Eo X.prog X.w (upd H a ob) h' a ob) :
  Inv X pins σ (upd H a ob) { s with heap:=h',toks:=t' } :=
 I.write (x:=a) (e:=a) mu (.inl rfl) (fun b q hb z=>(hs.2 b hb).trans z) he new
theorem za{P:Program}{w:World}{H':Hp}{h':Heap}{kvs:List (Key×V)}{vs:List (Key×Value)}(z:kvs.length<=sizeLine)(hd:(a==sysModules)=false)(rel:KV kvs vs)(dd:h'.DictOf (FI P w) a vs) :
  Eo P w H' h' a (.dK kvs):=⟨z,hd,vs,rel,dd⟩
theorem ph{H':Hp}{Q:Unit->Shared->Prop}(hu:A.units+1<cLine)(I:Inv X pins σ H s)(g:tu H a y v H')(ry:RelV y u)(rv:RelV v r)(h:∀s',Inv X pins σ H' s'->Q () s') :
  wpAny (model X.prog X.w) A (setItem (.ref a) u r) Q E s:=by
 rcases g with ⟨kvs,k,e,ey,l,eH⟩|⟨kvs,k,b,e,ey,eb,l,eH⟩
 ·subst ey eH;obtain ⟨z,hd,vs,rel,dd⟩:=ABP I.C2 e;have hz:vs.length<=sizeLine:=by rw[<-rel.length];exact z
  have hl:(putK kvs k v).length<=sizeLine:=by have:=WB kvs k v;omega
  refine wpAny_setItem_pairs (hsz:=hz) (tp ry) dd fun h' dd' hs=>h _ ?_
  have he:∃q,h'.get? a=some q:=let ⟨q,_,_,hq,_⟩:=dd';⟨q,hq⟩;exact fv I (by rw[e];exact Em) hs he (za hl hd (rel.put k rv) dd')
 ·subst ey eH;cases (show u=CG b from ry);obtain ⟨z,hd,xs,rel,dd⟩:=yH I.C2 e;have hz:xs.length<=sizeLine:=by rw[<-AX rel];exact z
  have hl:(putK kvs k v).length<=sizeLine:=by have:=WB kvs k v;omega
  refine wpAny_setItem_heap (hsz:=hz) (yW hu) (fu I.C2 eb) dd fun h' dd' hs=>h _ ?_
  obtain ⟨q,es,ep,hq,h2,h3,h4,_,h5⟩:=dd';refine fv I (by rw[e];exact Em) hs ⟨q,hq⟩ ⟨hl,hd,_,(rel.put k eb rv).keeps fun c ys ec=>?_,q,es,ep,hq,h2,h3,h4,h5⟩;rw[A2 (CI ec e (fun z=>nomatch z))];exact ec
end
section
variable {X:Cx} {pins:List (Addr×Obj)} {σ:St} {H:Hp} {s:Shared} {a:Addr} {kvs:List (Key×V)} {k:Key} {u:Value} {A:Around} {E:Value->Shared->Prop}
end
def wo(ty td:TE):TE:=fun σ H Q=>ty σ H fun y H1=>td σ H1 fun x H2=>∃a o,x=.ref a/\tq H2 a y o/\Q (.bl (!o.isSome)) H2
def ABQ(td ty tv:TE):TS:=fun D σ H=>tv σ H fun v H1=>td σ H1 fun x H2=>ty σ H2 fun y H3=>∃a H4,x=.ref a/\tu H3 a y v H4/\D.nx σ H4
section
variable {X:Cx} {o i e value:Expr} {pos pos' tpos:Pos} {td ty tv:TE}
theorem pk(hu:X.A.units+1<cLine)(hi:PE X i ty)(ho:PE X o td):PC X .NotIn i o (wo ty td):=by
 intro pins s σ H Q I h;refine FH (hi pins s σ H _ I h) fun iv s1 ⟨y,H1,I1,ry,q1⟩=>FH (ho pins s1 σ H1 _ I1 q1) fun u s2 ⟨x,H2,I2,rx,a,ov,ex,g,q2⟩=>?_
 subst ex;obtain rfl:u=CG a:=rx;exact wk hu I2 g ry fun s3 I3=>⟨.bl (!ov.isSome),H2,I3,rfl,q2⟩
theorem wq(hu:X.A.units+1<cLine)(ho:PE X o td)(hi:PE X i ty)(hv:PE X value tv)(hs:swapsWith value (some (.Subscript o i pos')) pos.line X.env=pure false) :
  PS X (.Assign [.Subscript o i pos'] value pos) (ABQ td ty tv):=by
 intro pins s σ H D I h;refine wpAny_Assign_Subscript (FH (hv pins s σ H _ I h) fun r s1 ⟨v,H1,I1,rv,q1⟩=>FH (ho pins s1 σ H1 _ I1 q1) fun u s2 ⟨x,H2,I2,rx,q2⟩=>FH (hi pins s2 σ H2 _ I2 q2) fun iv s3 ⟨y,H3,I3,ry,a,H4,ex,g,q3⟩=>?_) hs;subst ex;obtain rfl:u=CG a:=rx;exact ph hu I3 g ry rv fun s4 I4=>⟨σ,H4,I4,q3⟩
end
theorem t4{P:Program}{w:World}{H:Hp}(h:Heap)(hb:sysModules<h.objs.size):Eo P w H (h.push { cls:=.type "dict",data:=.dict #[] }) h.objs.size (.dT []) :=
 ⟨Bb _,beq_eq_false_iff_ne.mpr (Cr (Bl hb)),[],.nil,_,#[],0,BA _ rfl,⟨rfl,rfl,rfl⟩,rfl,rfl,C3⟩
section
variable {X:Cx} {pos:Pos}
end
structure M1(X:Cx)(o:Expr)(m:Str)(apos:Pos)(e:Expr)(cpos:Pos):Prop where
 base:attributeBase o m X.env (eval o X.env)=eval o X.env
 few:((backTo cpos (starEach [e] X.env)).all (fun x => !x.1)&&(backToKw cpos (keywordEach [] X.env)).all (fun x=>x.1.isSome)
  && decide (([e]:List Expr).length+([]:List Keyword).length+(if ([]:List Keyword).isEmpty then 0 else 1)<30))=true
 line:(apos.endLine==cpos.line)=true
 trees:backTo cpos (starEach [e] X.env)=[(false,eval e X.env)]
structure M2(X:Cx)(o:Expr)(m:Str)(apos:Pos)(e f:Expr)(cpos:Pos):Prop where
 base:attributeBase o m X.env (eval o X.env)=eval o X.env
 few:((backTo cpos (starEach [e,f] X.env)).all (fun x => !x.1)&&(backToKw cpos (keywordEach [] X.env)).all (fun x=>x.1.isSome)
  && decide (([e,f]:List Expr).length+([]:List Keyword).length+(if ([]:List Keyword).isEmpty then 0 else 1)<30))=true
 line:(apos.endLine==cpos.line)=true
 trees:backTo cpos (starEach [e,f] X.env)=[(false,eval e X.env),(false,eval f X.env)]
def wt(H:Hp)(a:Addr):Prop:=(∃kvs,Rd H a (.dK kvs))\/∃kvs,Rd H a (.dT kvs)
section
variable {X:Cx} {pins:List (Addr×Obj)} {σ:St} {H:Hp} {s:Shared} {a:Addr} {y d:V} {u r:Value} {o:Option V} {A:Around} {E:Value->Shared->Prop}
end
section
variable {X:Cx} {o e f:Expr} {apos cpos:Pos} {td ty tx:TE}
end
section
variable {X:Cx} {pins:List (Addr×Obj)} {σ:St} {H:Hp} {s:Shared} {a:Addr} {kvs:List (Key×V)} {A:Around} {E:Value->Shared->Prop}
end
section
variable {X:Cx} {pins:List (Addr×Obj)} {σ:St} {H:Hp} {s:Shared} {a:Addr} {y:V} {u:Value} {A:Around} {E:Value->Shared->Prop}
end
end L2
namespace L2
open PySem PySem.Spec PyProof.Rows
section
variable {prog:Program} {w:World} {A:Around} {E:Value->Shared->Prop}
end
section
variable {X:Cx}
end
end L2
namespace L2
open PySem PySem.Spec PyProof.Rows
theorem Yi:bootBuiltins "reversed" = some (.type "reversed"):=by decide +kernel
section
variable {X:Cx} {pins:List (Addr×Obj)} {σ:St} {H:Hp} {s:Shared} {h':Heap}
theorem Inv.cb{t':Nat}{ch:List Addr}{T:Addr}{ob:HO}(I:Inv X pins σ H s)(k:∀b o,b ∉ ch->s.heap.get? b=some o->h'.get? b=some o)(hf:∀b∈ch,YU X pins H b)(hT:s.heap.objs.size<=T)
  (new:Eo X.prog X.w (upd H T ob) h' T ob):Inv X pins σ (upd H T ob) { s with heap:=h',toks:=t' }:=by
 have hn:H T=none:=I.C2.fresh hT;have nit:∀b u,H b=some u->b ∉ ch:=fun b u e z=>by
  have q:=(hf b z).1;rw[q]at e;cases e
 refine I.step (g':=s.gens) (d':=s.drawn) (ch:=ch) (fun b hb=>⟨(hf b hb).2.2.2.1,(hf b hb).2.1,(hf b hb).2.2.2.2.1,(hf b hb).2.2.2.2.2⟩) (fun b o _ _ hc e _=>k b o hc e) (fun b o _ _ hc e _=>⟨o.slots,k b o hc e⟩)
  (fun b o _ e n=>?_) (fun b o hc e=>⟨o,k b o hc e⟩) (fun b xs e=>?_) (fun b o u e=>?_) (fun b ps e=>⟨#[],?_⟩) (fun m hm=>?_) (fun b u e=>?_) I.bare
 ·rw[A2 (Bl (A9 (Av e) hT))];exact n
 ·rw[A2 (Af e hn)];exact e
 ·rw[A2 (Af e hn)];exact e
 ·rw[A2 (Af e hn),e];simp
 ·obtain ⟨o,es,ep,ho,r⟩:=hm;exact ⟨o,es,ep,k _ o (fun z=>(hf _ z).2.1 rfl) ho,r⟩
 ·by_cases hb:b=T
  ·subst hb;rw[AK]at e;cases e;exact new
  ·rw[A2 hb]at e;refine (I.C2 b u e).ay (fun c v hc q=>k c v ?_ q) (fun c q=>by rw[A2 (Af q hn)];exact q) fun c xs q=>by rw[A2 (Af q hn)];exact q
   rcases hc with z|z
   ·rw[z];exact nit b u e
   ·exact nit c _ z
end
section
variable {X:Cx}
theorem zb{tg:Expr}{pins:List (Addr×Obj)}{σ:St}{H:Hp}{s:Shared}{R:It->Hp->Prop}{J:It}{tn:Nat->Heap->Prop}{tk:Nat}(I:Inv X pins σ H s)(o:Obj)
  (T:Turn X.prog X.w X.K tg J [s.heap.objs.size] s.heap.objs.size tn) (st:tn 0 (s.heap.push o)) (q:R J H):PIE X pins σ tg R (.ref s.heap.objs.size) { s with heap:=s.heap.push o,toks:=tk }:=by
 refine ⟨s.heap.objs.size,[s.heap.objs.size],tn,J,H,rfl,I.kept fun b ob e=>AW _ e,T,st,fun b hb=>?_,q⟩;have e:b=s.heap.objs.size:=by simpa using hb
 subst e;exact I.lF (AV _) (I.C2.fresh (AV _))
end
def RgC(i j c:Int)(n:Nat):Prop:=c≠0/\c.natAbs<1073741824/\IC i j c=true/\Ew i j c=n
theorem RgC.neg{i j:Int}(ha : -(2 ^ 62)<=i)(ha':i<2 ^ 62)(hb : -(2 ^ 62)<=j)(hb':j<2 ^ 62):RgC i j (-1) (i-j).toNat :=
 ⟨by decide,by decide,PySem.W.small_down ha ha' hb hb',PySem.W.rangeSize_downNat i j⟩
section
variable {X:Cx} {tg:Expr}
end
def Itv(K:AE)(a:Addr)(n:Nat):It :=
 ⟨fun i H=>i<n/\∃(xs:List V) (x:V),Bq K H a xs/\xs[n-1-i]?=some x,fun i H x H'=>H'=H/\∀xs,Bq K H a xs->xs[n-1-i]?=some x,fun i _=>n<=i⟩
theorem t5{P:Program}{w:World}{K:AE}{tg:Expr}(a it:Addr)(n:Nat):Turn P w K tg (Itv K a n) [it] it (fun i h=>i<=n/\h.IsRevIter it a ((n:Int)-1-(i:Nat))) where
 mem:=by simp
 obj:=fun i h st b hb=>by
  have e:b=it:=by simpa using hb
  subst e;obtain ⟨_,o,e,c,d⟩:=st;exact ⟨o,e,fun v z=>by rw[d]at z;cases z⟩
 keep:=fun i h h' st k=>⟨st.1,st.2.at fun o e=>k it (by simp) o e⟩
 item:=by
  intro X hP hw hK hc i pins s σ H E I hf st hg;subst hP hw hK;obtain ⟨hin,xs,x,hq,hx⟩:=hg;obtain ⟨its,rv,p,hz⟩:=I.list hq;obtain ⟨u,hu,ru⟩:=rv.get hx;obtain ⟨f0,f1,f2,f3,f4,f5⟩:=hf it (by simp);obtain ⟨_,hit⟩:=st;have e1:(n:Int)-1-((i:Nat):Int)=((n-1-i:Nat):Int):=by omega
  rw[e1]at hit;refine wpAny_pyNext_rev_item hit p.isList (x:=u) (by simpa using hu) fun h' st' sb=>?_
  have e2:((n-1-i:Nat):Int)-1=(n:Int)-1-((i+1:Nat):Int):=by omega
  rw[e2]at st';have I1:Inv X pins σ H { s with heap:=h' }:=I.turned (t':=s.toks) (fun b o hb e=>(sb.2 b hb).trans e) f0 f1 f3 f4 f5;obtain ⟨o,e,c,d⟩:=id st';exact ⟨u,rfl,nh (s:={ s with heap:=h' }) e c d (by decide) ⟨x,H,I1,ru,⟨rfl,fun ys hy=>by rw[I.YQ hy hq];exact hx⟩,⟨hin,st'⟩,fun b hb=>(hf b hb).1⟩⟩
 done:=by
  intro X hP hw hK hc i pins s σ H E I hf st hg;subst hP hw hK;obtain ⟨f0,f1,f2,f3,f4,f5⟩:=hf it (by simp);obtain ⟨hin,hit⟩:=st;have hge:n<=i:=hg;have e1:(n:Int)-1-((i:Nat):Int) = -1:=by omega
  rw[e1]at hit;exact wpAny_pyNext_rev_end (I.ok.hd hc) hit fun h' eb=>⟨rfl,I.turned (t':=s.toks) (fun b o hb e=>eb b o hb e) f0 f1 f3 f4 f5⟩
 self:=fun A i s Q E st h=>vY st.2 h
def ACl(K:AE)(ta:TA):TI:=fun σ H R=>ta σ H fun vs H1=>∃(a:Addr) (xs:List V),vs=[.ref a]/\Bq K H1 a xs/\R (Itv K a xs.length) H1
section
variable {X:Cx} {tg:Expr}
theorem i9{e:Expr}{ta:TA}{p pos:Pos}(hg:Gl X "reversed")(hm:X.mg "reversed" = none)(ha:PA X [e] ta)(hs:starEach [e] X.env=[(false,eval e X.env)]:=by rfl):PI X tg (.Call (.Name "reversed" p) [e] [] pos) (ACl X.K ta):=by
 intro pins s σ H R I h;refine Call_ (M6 I hg hm Yi (Cn (FH (ha pos pins s σ H _ I h) fun us s1 ⟨vs,H1,I1,r1,q1⟩=>?_) hs rfl));obtain ⟨a,xs,e,hq,q⟩:=q1;subst e;cases r1 with
 |cons r rr =>
  cases rr;cases r;obtain ⟨its,rv,p',hz⟩:=I1.list hq;have hl:=rv.length;have e1:((its.toArray.size:Nat):Int)-1=(xs.length:Int)-1-((0:Nat):Int):=by simp only[Aa];omega
  refine call_reversed_list p'.isList (vY (l:=a) (i:=((its.toArray.size:Nat):Int)-1) ⟨_,BA _ rfl,rfl,rfl⟩ ?_);refine zb (tk:=s1.toks) I1 _ (t5 a _ xs.length) ⟨Bb _,?_⟩ q;rw[<-e1];exact ⟨_,BA _ rfl,rfl,rfl⟩
end
section
variable {prog:Program} {w:World} {A:Around} {E:Value->Shared->Prop} {s:Shared}
end
theorem CJ{α β:Type}{G:α->β->Prop}{l₁:List α}{l₂:List β}(h:Paired G l₁ l₂):∀{i:Nat} {a:α},l₁[i]?=some a->∃b,l₂[i]?=some b/\G a b:=by
 induction h with
 |nil=>intro i a e;simp at e
 |@cons a b l₁ l₂ r t ih =>
  intro i a' e;cases i with
  |zero =>
   simp only[List.getElem?_cons_zero,ACC]at e;subst e;exact ⟨b,rfl,r⟩
  |succ j =>
   simp only[List.getElem?_cons_succ]at e ⊢;exact ih e
section
variable {X:Cx} {pins:List (Addr×Obj)} {σ:St} {H:Hp} {s:Shared} {d:Addr} {o:Obj}
end
section
variable {P:Program} {w:World} {K:AE} {tg:Expr} {d:Addr} {o:Obj} {es:Array DictEntry} {ep:Nat}
end
section
variable {X:Cx} {tg e:Expr} {td:TE} {apos cpos:Pos}
end
def Ite(K:AE)(a:Addr):It :=
 ⟨fun i H=>∃(xs:List V) (x:V),Bq K H a xs/\xs[i]?=some x,fun i H v H'=>∃T x,v=.ref T/\H T=none/\H'=upd H T (.tup [.int (i:Nat),x])/\∀xs,Bq K H a xs->xs[i]?=some x,fun i H=>∃xs:List V,Bq K H a xs/\xs.length<=i⟩
theorem pq{P:Program}{w:World}{K:AE}{elts:List Expr}{kk:Nat}{tpos:Pos}(a e it:Addr) :
  Turn P w K (.Tuple elts kk tpos) (Ite K a) [e,it] e (fun i h=>(∃old,IsEnum h e it ((i:Nat):Int) old)/\h.IsListIter it a i/\e≠it) where
 mem:=by simp
 obj:=fun i h st b hb=>by
  obtain ⟨⟨old,he⟩,⟨o,ho,hc,hd⟩,_⟩:=st;have e':b=e\/b=it:=by simpa using hb
  rcases e' with z|z
  ·rw[z];exact ⟨_,he,fun v q=>nomatch q⟩
  ·rw[z];exact ⟨o,ho,fun v q=>by rw[hd]at q;cases q⟩
 keep:=fun i h h' st k=>let ⟨⟨old,he⟩,hi,hne⟩:=st;⟨⟨old,k e (by simp) _ he⟩,hi.at fun o q=>k it (by simp) o q,hne⟩
 item:=by
  intro X hP hw hK hc i pins s σ H E I hf st hg;subst hP hw hK;obtain ⟨⟨old,he⟩,hit,hne⟩:=st;obtain ⟨xs,x,hq,hx⟩:=hg;obtain ⟨its,rv,p,hz⟩:=I.list hq;obtain ⟨u,hu,ru⟩:=rv.get hx;have hel:e<s.heap.objs.size:=Av he;have hil:it<s.heap.objs.size:=by obtain ⟨_,q,_⟩:=hit;exact Av q
  refine wpAny_pyNext_enum_item he hit p.isList (x:=u) (by simpa using hu) hne fun h' ho hit' hT hsz hk=>?_
  refine ⟨_,rfl,ku (s:={ s with heap:=h',toks:=s.toks+1 }) ho fun h'' he' sb=>?_⟩;have hT2:h''.get? s.heap.objs.size=some { cls:=.type "tuple",data:=.seq #[.int i s.toks,u] }:=(sb.2 _ (W3 hel)).trans hT;have new:Eo X.prog X.w (upd H s.heap.objs.size (.tup [.int (i:Nat),x])) h'' s.heap.objs.size (.tup [.int (i:Nat),x]) :=
   ⟨by show 2<=sizeLine;decide,[.int i s.toks,u],.cons ⟨_,rfl⟩ (.cons ru .nil),⟨_,hT2,rfl,⟨_,rfl⟩,rfl⟩⟩
  have I1:Inv X pins σ (upd H s.heap.objs.size (.tup [.int (i:Nat),x])) { s with heap:=h'',toks:=s.toks+1 } :=
   I.cb (ch:=[e,it]) (fun b ob hb q=>(sb.2 b (fun z=>hb (by simp[z]))).trans (hk b ob (fun z=>hb (by simp[z])) (fun z=>hb (by simp[z])) q)) hf (AV _) new
  refine ⟨.ref s.heap.objs.size,_,I1,rfl,⟨_,x,rfl,I.C2.fresh (AV _),rfl,fun ys hy=>by rw[I.YQ hy hq];exact hx⟩,⟨⟨u,?_⟩,hit'.at fun o q=>(sb.2 it (Cr hne)).trans q,hne⟩,fun b hb=>?_⟩
  ·have e1:((i+1:Nat):Int)=(i:Int)+1:=by omega
   rw[e1];exact he'
  ·have hb':b<s.heap.objs.size:=by
    have e':b=e\/b=it:=by simpa using hb
    rcases e' with z|z
    ·rw[z];exact hel
    ·rw[z];exact hil
   rw[A2 (Bl hb')];exact (hf b hb).1
 done:=by
  intro X hP hw hK hc i pins s σ H E I hf st hg;subst hP hw hK;obtain ⟨⟨old,he⟩,hit,hne⟩:=st;obtain ⟨xs,hq,hx⟩:=hg;obtain ⟨its,rv,p,hz⟩:=I.list hq;obtain ⟨f0,f1,f2,f3,f4,f5⟩:=hf it (by simp);have hl:=rv.length;exact wpAny_pyNext_enum_end (I.ok.hd hc) he hit p.isList (by simp;omega) fun h' eb=>⟨rfl,I.turned (t':=s.toks) (fun b o hb q=>eb b o hb q) f0 f1 f3 f4 f5⟩
 self:=fun A i s Q E st h=>let ⟨⟨_,he⟩,_⟩:=st;OM he h
def ABR(K:AE)(ta:TA):TI:=fun σ H R=>ta σ H fun vs H1=>∃a xs,vs=[.ref a]/\Bq K H1 a xs/\R (Ite K a) H1
theorem wu{X:Cx}{e:Expr}{ta:TA}{p pos tpos:Pos}{elts:List Expr}{kk:Nat}(hg:Gl X "enumerate")(hm:X.mg "enumerate" = none)(ha:PA X [e] ta)(hs:starEach [e] X.env=[(false,eval e X.env)]:=by rfl) :
  PI X (.Tuple elts kk tpos) (.Call (.Name "enumerate" p) [e] [] pos) (ABR X.K ta):=by
 intro pins s σ H R I h;refine Call_ (M6 I hg hm ACD (Cn (FH (ha pos pins s σ H _ I h) fun us s1 ⟨vs,H1,I1,r1,q1⟩=>?_) hs rfl));obtain ⟨a,xs,ex,hq,q⟩:=q1;subst ex;cases r1 with
 |cons r rr =>
  cases rr;cases r;obtain ⟨its,rv,p',hz⟩:=I1.list hq;refine call_enumerate_list p'.isList fun h' he hit hsz hk=>OM he ?_
  have I2:Inv X pins σ H1 { s1 with heap:=h' }:=I1.kept (t':=s1.toks) hk;refine ⟨s1.heap.objs.size+1,[s1.heap.objs.size+1,s1.heap.objs.size],_,_,H1,rfl,I2,pq a (s1.heap.objs.size+1) s1.heap.objs.size,⟨⟨.none,he⟩,hit,vZ _⟩,fun b hb=>?_,q⟩;have e':b=s1.heap.objs.size+1\/b=s1.heap.objs.size:=by simpa using hb
  have hle:s1.heap.objs.size<=b:=by
   rcases e' with z|z
   ·rw[z];exact vc _ _
   ·rw[z];exact AV _
  exact I1.lF hle (I1.C2.fresh hle)
end L2
section
namespace ACm
open PySem PyProof.Rows
theorem k9{x:Int}(i:Nat):OS (x.fdiv (2 ^ i)) 1=x / 2 ^ i % 2:=by
 have hp:(0:Int)<=2 ^ i:=by
  rw[two_pow_cast];exact rY _
 rw[eU _ hp,bitAnd_m1]
end ACm
end
section
namespace TL
open PySem PySem.Builtin PySem.Builtin.Str PySem.StrLaws
def pre(S l:List Nat):Bool:=l.take S.length==S
def par(S:List Nat):List Nat->List Nat->Option (List Nat×List Nat)
 |_,[]=>none
 |acc,c::r=>if pre S (c::r)=true then some (acc,(c::r).drop S.length) else par S (acc++[c]) r
end TL
end
namespace L2
open PySem PySem.Spec PyProof.Rows
section
variable {X:Cx} {pins:List (Addr×Obj)} {σ:St} {H:Hp} {s:Shared} {Q:VK}
end
section
variable {X:Cx}
end
section
variable {X:Cx} {o e:Expr} {to te:TE}
end
end L2
namespace L2
open PySem PySem.Spec PyProof.Rows
section
variable {X:Cx}
end
end L2
namespace Att
open PySem PySem.W PySem.Calls PyProof.Rows
section
variable {prog:Program} {w:World} {A:Around} {E:Value->Shared->Prop} {s:Shared} {K:Frag}
end
end Att
namespace L2
open PySem PySem.Spec PyProof.Rows
end L2
namespace L2
open PySem PySem.Spec PyProof.Rows
end L2
namespace L2
open PySem PySem.Spec PyProof.Rows
def inClass(s:Stmt)(j:Nat):Stmt:=match s with
 |.ClassDef _ _ _ body _ _ _ _ _ _ _=>body.getD j (.Pass ⟨0,0,0,0⟩)
 |_=>.Pass ⟨0,0,0,0⟩
def Xl(s:Stmt):Arguments:=match s with
 |.FunctionDef _ a _ _ _ _ _ _ _ _=>a
 |_=>{ posonlyargs:=[],args:=[],vararg:=none,kwonlyargs:=[],kw_defaults:=[],kwarg:=none,defaults:=[] }
def Qg(s:Stmt):List Stmt:=match s with
 |.FunctionDef _ _ b _ _ _ _ _ _ _=>b
 |_=>[]
def AO(s:Stmt):Scope:=match s with
 |.FunctionDef _ _ _ _ _ _ sc _ _ _=>sc
 |_=>{ kind:=.function,names:=[],isGenerator:=false,isCoroutine:=false }
abbrev EE:vM:=fun _ _ _ _ _ _=>False
abbrev E0:XK:=fun _ _ _=>False
theorem Ay{X:Cx}:Passes EE X E0:=fun _ _ _ _ _ _ _ h=>h.elim
structure EO(K:AE)(x qual:Str)(st:Stmt)(f:Addr)(fd:FuncData):Prop where
 ex:∃(oc:Value) (od:Option Addr) (kV doc pm:Value) (an:Option Addr) (cdv ct:Value) (osl:Array (Option Value)),
  fd=Jc x qual (Xl st) (Qg st) (AO st) .none kV doc pm an cdv ct/\K.lookup f=some ⟨oc,od,.func fd,osl⟩/\Xq K cdv qual=true
 kp:D7 K (.ref f)=true
section
variable {P:Program} {w:World} {K:AE} {mg:Str->Option Value} {base:Heap}
theorem EO.ok{x qual:Str}{st:Stmt}{f:Addr}{fd:FuncData}{N ps:List Str}{k:Nat}{sp:Sp}(F:EO K x qual st f fd)(S:Au N ps (AO st))(len:∀vs H Q E,sp vs H Q E->vs.length=ps.length)
  (hbody:∀(cdv:Value) (A:Around) (outer:List Env) (s:Shared) (H:Hp) (vs:List V) (Q:VK) (E:XK),GB k (A.deeper (envOfC qual (AO st) s.heap.objs.size f cdv))->sp vs H Q E ->
   ∃t,nc (lP EE P w K mg base N qual (AO st) f cdv A outer s H E).vL (Qg st) t/\t { nx:=fun _ H'=>Q .Ft H',rt:=Q } (start N vs) H):Bv P w K mg base EE (k+1) f fd ps sp:=by
 obtain ⟨oc,od,kV,doc,pm,an,cdv,ct,osl,rfl,lk,hcd⟩:=F.ex;refine yC lk hcd S len fun A outer s H vs Q E hr hsp=>?_
 obtain ⟨t,h,q⟩:=hbody cdv A outer s H vs Q E hr hsp;exact ⟨t,h.vL,q⟩
theorem EO.binds{x qual:Str}{st:Stmt}{f:Addr}{fd:FuncData}{ps:List Str}(F:EO K x qual st f fd)
  (h:∀(kV doc pm:Value) (an:Option Addr) (cdv ct:Value) (us:List Value),us.length=ps.length->bindArgs (Jc x qual (Xl st) (Qg st) (AO st) .none kV doc pm an cdv ct) ⟨us,[]⟩=pure (ps.zip us)):Binds K fd ps []:=by
 obtain ⟨oc,od,kV,doc,pm,an,cdv,ct,osl,rfl,lk,hcd⟩:=F.ex;exact .all (h kV doc pm an cdv ct)
theorem BL{x qual:Str}{st:Stmt}{f:Addr}{oc:Value}{od an:Option Addr}{osl:Array (Option Value)}{kV doc pm cdv ct:Value}(l:K.lookup f=some ⟨oc,od,.func (Jc x qual (Xl st) (Qg st) (AO st) .none kV doc pm an cdv ct),osl⟩)
  (c:Xq K cdv qual=true) (k:D7 K (.ref f)=true):EO K x qual st f (Jc x qual (Xl st) (Qg st) (AO st) .none kV doc pm an cdv ct):=⟨⟨oc,od,kV,doc,pm,an,cdv,ct,osl,rfl,l,c⟩,k⟩
end
theorem yI{A:Around}{k:Nat}(hr:GB k A):A.units+1<cLine:=Ci (Nat.add_le_add_left (by decide:1<=64) _) hr.units
section
variable {X:Cx}
theorem pv(i:Nat){x:Str}{pos:Pos}(hN:X.N[i]?=some x:=by rfl)(hv:Vis X.env.scope x:=by first|exact Ai rfl|exact HI (Ai rfl)|exact HI (HI rfl))(hd:(x==("__debug__" : Str))=false:=by decide)
  (hcd:(x==("__classdict__" : Str))=false:=by decide):PE X (.Name x pos) (TU i):=yy hN hv hd hcd
end
theorem Cz{A B:Prop}(h:B):if false=true then A else B:=by
 rw[if_neg AZ];exact h
theorem Ca{A B:Prop}(h:A):if true=true then A else B:=by
 rw[if_pos rfl];exact h
def Aw(H H':Hp):Prop:=∀b o,H b=some o->H' b=some o
theorem Aw.refl(H:Hp):Aw H H:=fun _ _ h=>h
theorem Aw.trans{H H1 H2:Hp}(a:Aw H H1)(b:Aw H1 H2):Aw H H2:=fun c o h=>b c o (a c o h)
theorem Aw.free{H H':Hp}(e:Aw H H'){l:Addr}(h:H' l=W6):H l=W6:=by
 cases q:H l with
 |none=>rfl
 |some o =>
  rw[e l o q]at h;cases h
theorem Aw.seq{K:AE}{H H':Hp}{a:Addr}{xs:List V}(e:Aw H H')(h:Bq K H a xs):Bq K H' a xs:=by
 rcases h with (h|⟨o,h⟩)|h
 ·exact .inl (.inl (e _ _ h))
 ·exact .inl (.inr ⟨o,e _ _ h⟩)
 ·exact .inr h
section
variable {κ:Type} [DecidableEq κ]
end
theorem at_of{xs:List V}{z:Int}{j:Nat}{v:V}(e:z=(j:Int))(h:xs[j]?=some v):wU xs z=some v:=by
 rw[e];exact fe h
theorem Aw.made{H H1:Hp}{x dx C:Addr}(nx:H x=W6)(nd:H dx=W6)(k:∀b o,(upd (upd H dx (.own x)) x (.ins C dx [])) b=some o->b≠x->H1 b=some o):Aw H H1:=fun b o e =>
 k b o (by rw[A2 (Af e nx),A2 (Af e nd)];exact e) (Af e nx)
end L2
namespace L2
open PySem PySem.Spec PyProof.Rows
open PySem.W (WData Codec OpenSpec Well WellAll ReadsW ReadsAllW)
mutual
inductive Dw (K:AE) (H:Hp):V->WData->Prop
 |Ft:Dw K H .Ft .none
 |bl (b:Bool):Dw K H (.bl b) (.bool b)
 |int (i:Int):Dw K H (.int i) (.int i)
 |str (x:Str):Dw K H (.str x) (.str x)
 |a9 (b:Array UInt8):Dw K H (.a9 b) (.bytes b.toList)
 |lst {a:Addr} {xs:List V} {ds:List WData}:Bq K H a xs->LA K H xs ds->Dw K H (.ref a) (.list ds)
 |tup {a:Addr} {xs:List V} {ds:List WData}:DR K H a xs->LA K H xs ds->Dw K H (.ref a) (.tuple ds)
inductive LA (K:AE) (H:Hp):List V->List WData->Prop
 |nil:LA K H [] []
 |cons {v:V} {vs:List V} {d:WData} {ds:List WData}:Dw K H v d->LA K H vs ds->LA K H (v::vs) (d::ds)
end
theorem n8{K:AE}{H:Hp}:∀ns:List Int,LA K H (ns.map V.int) (ns.map WData.int)
 |[]=>.nil
 |n::r=>.cons (.int n) (n8 r)
theorem n9{K:AE}{H:Hp}:∀(ns:List Int) (xs:List V),LA K H xs (ns.map WData.int)->xs=ns.map V.int
 |[],xs,h=>by
  cases h;rfl
 |n::r,xs,h=>by
  cases h with
  |cons h1 h2 =>
   cases h1;rw[n9 r _ h2]<;>rfl
section
variable {P:Program} {w:World} {K:AE} {H:Hp} {h:Heap} {R:ou} {cl:Str->Option Addr}
theorem zc{a:Addr}{xs:List V}(C2:L3 P w H h)(KX:K.In h)(q:Bq K H a xs):∃(its:List Value) (o:Obj) (n:Nat),Vals xs its/\h.get? a=some o/\o.cls=.type "list" /\ o.data=.seq its.toArray n:=by
 rcases q with q|⟨o,its,n,e,hc,_,hd,_,hv⟩
 ·obtain ⟨_,its,n,hv,e⟩:=(show Eo P w H h a (.lst xs) from q.ok C2);exact ⟨its,_,n,hv,e,rfl,rfl⟩
 ·exact ⟨its.toList,o,n,hv,KX _ _ e,hc,by simp[hd]⟩
theorem zd{a:Addr}{xs:List V}(C2:L3 P w H h)(KX:K.In h)(q:DR K H a xs):∃(its:List Value) (o:Obj) (n:Nat),Vals xs its/\h.get? a=some o/\o.cls=.type "tuple" /\ o.data=.seq its.toArray n:=by
 rcases q with q|⟨o,its,n,e,hc,hd,_,hv⟩
 ·obtain ⟨_,its,hv,o,e,hc,⟨n,hd⟩,_⟩:=(show Eo P w H h a (.tup xs) from q.ok C2);exact ⟨its,o,n,hv,e,hc,hd⟩
 ·exact ⟨its.toList,o,n,hv,KX _ _ e,hc,by simp[hd]⟩
mutual
theorem Dw.reads(C2:L3 P w H h)(KX:K.In h):∀(d:WData) (v:V) (u:Value),Dw K H v d->RelV v u->∃as,ReadsW R cl h u d as
 |.none,_,_,x,r=>by
  cases x;cases r;exact ⟨_,ReadsW.none⟩
 |.bool b,_,_,x,r=>by
  cases x;cases r;exact ⟨_,ReadsW.bool b⟩
 |.int i,_,_,x,r=>by
  cases x;obtain ⟨t,rfl⟩:=r;exact ⟨_,ReadsW.int i t⟩
 |.str s,_,_,x,r=>by
  cases x;obtain ⟨t,rfl⟩:=r;exact ⟨_,ReadsW.str s t⟩
 |.bytes b,_,_,x,r=>by
  cases x;obtain ⟨t,rfl⟩:=r;exact ⟨_,ReadsW.bytes _ t⟩
 |.list ds,_,_,x,r=>by
  cases x with
  |lst hs ha =>
   cases r;obtain ⟨its,o,n,rv,ho,hc,hd⟩:=zc C2 KX hs;obtain ⟨as,hr⟩:=Dw.readsAll C2 KX ds _ its ha rv;exact ⟨_,ReadsW.list ho hc hd hr⟩
 |.tuple ds,_,_,x,r=>by
  cases x with
  |tup hs ha =>
   cases r;obtain ⟨its,o,n,rv,ho,hc,hd⟩:=zd C2 KX hs;obtain ⟨as,hr⟩:=Dw.readsAll C2 KX ds _ its ha rv;exact ⟨_,ReadsW.tuple ho hc hd hr⟩
 |.float _,_,_,x,_=>by cases x
 |.dict _,_,_,x,_=>by cases x
 |.bytearray _,_,_,x,_=>by cases x
 |.set _,_,_,x,_=>by cases x
 |.frozenset _,_,_,x,_=>by cases x
 |.obj _ _,_,_,x,_=>by cases x
theorem Dw.readsAll(C2:L3 P w H h)(KX:K.In h):∀(ds:List WData) (vs:List V) (us:List Value),LA K H vs ds->Vals vs us->∃as,ReadsAllW R cl h us ds as
 |[],_,_,x,r=>by
  cases x;cases r;exact ⟨_,ReadsAllW.nil⟩
 |d::ds,_,_,x,r=>by
  cases x with
  |cons h1 h2 =>
   cases r with
   |cons r1 r2 =>
    obtain ⟨as,q1⟩:=Dw.reads C2 KX d _ _ h1 r1;obtain ⟨bs,q2⟩:=Dw.readsAll C2 KX ds _ _ h2 r2;exact ⟨_,ReadsAllW.cons q1 q2⟩
end
end
mutual
def oA:WData->Bool
 |.none=>true
 |.bool _=>true
 |.int _=>true
 |.str _=>true
 |.bytes _=>true
 |.list xs=>XA xs
 |.tuple xs=>XA xs
 |_=>false
def XA:List WData->Bool
 |[]=>true
 |x::r=>oA x&&XA r
end
theorem jA{α:Type}{f:α->WData}(h:∀a,oA (f a)=true):∀l:List α,XA (l.map f)=true
 |[]=>rfl
 |x::r=>by
  show (oA (f x)&&XA (r.map f))=true;rw[h x,jA h r]<;>rfl
theorem Oq:∀(c:Codec) (a:c.denote),oA (c.enc a)=true
 |.unit,_=>rfl
 |.bool,_=>rfl
 |.int _ _,_=>rfl
 |.nat _ _,_=>rfl
 |.u8,_=>rfl
 |.bytes _ _,_=>rfl
 |.text _ _ _ _,_=>rfl
 |.list _ _ c,a=>jA (fun x=>Oq c x) a
 |.pair c d,a=>by
  show (oA (c.enc a.1)&&(oA (d.enc a.2)&&true))=true;rw[Oq c a.1,Oq d a.2]<;>rfl
 |.triple c d e,a=>by
  show (oA (c.enc a.1)&&(oA (d.enc a.2.1)&&(oA (e.enc a.2.2)&&true)))=true;rw[Oq c a.1,Oq d a.2.1,Oq e a.2.2]<;>rfl
 |.option c,none=>rfl
 |.option c,some x=>Oq c x
theorem cf:∀(cs:List Codec) (a:Codec.denoteAll cs),XA (Codec.encAll cs a)=true
 |[],_=>rfl
 |c::cs,a=>by
  show (oA (c.enc a.1)&&XA (Codec.encAll cs a.2))=true;rw[Oq c a.1,cf cs a.2]<;>rfl
theorem Rq:∀{xs:List WData} {d:WData},d∈xs->d.weight<=WData.weightAll xs
 |[],d,h=>absurd h (by simp)
 |x::r,d,h=>by
  show d.weight<=x.weight+1+WData.weightAll r;rcases Ak.mp h with e|m
  ·rw[e];omega
  ·have z:=Rq m;omega
def toV:Value->V
 |.none=>.Ft
 |.bool b=>.bl b
 |.int i _=>.int i
 |.str x _=>.str x
 |.bytes b _=>.a9 b
 |.ref a=>.ref a
 |_=>.Ft
def pw(A:List Addr):Value->Prop
 |.none=>True
 |.bool _=>True
 |.int _ _=>True
 |.str _ _=>True
 |.bytes _ _=>True
 |.ref a=>a∈A
 |_=>False
theorem pw.mono{A B:List Addr}(h:∀a∈A,a∈B):∀{u:Value},pw A u->pw B u:=fun {u} x=>by
 cases u with
 |ref a=>exact h a x
 |none=>trivial
 |bool b=>trivial
 |int i t=>trivial
 |str s t=>trivial
 |bytes b t=>trivial
 |_=>exact C8 x
theorem t6{A:List Addr}{u:Value}(x:pw A u):RelV (toV u) u:=by
 cases u with
 |ref a=>rfl
 |none=>rfl
 |bool b=>rfl
 |int i t=>exact ⟨t,rfl⟩
 |str s t=>exact ⟨t,rfl⟩
 |bytes b t=>exact ⟨t,rfl⟩
 |_=>exact C8 x
theorem ME{A:List Addr}:∀{vs:List Value},(∀u∈vs,pw A u)->Vals (vs.map toV) vs
 |[],_=>.nil
 |u::r,h=>.cons (t6 (h u (AI ..))) (ME fun x hx=>h x (AG _ hx))
def Ot(h:Heap)(A:List Addr)(a:Addr):Prop:=∃vs:List Value,vs.length<=sizeLine/\(∀u∈vs,pw A u) /\
 (h.get? a=some { cls:=.type "list",data:=.seq vs.toArray }\/h.get? a=some { cls:=.type "tuple",data:=.seq vs.toArray })
theorem Ot.mono{h:Heap}{A B:List Addr}{a:Addr}(k:∀a∈A,a∈B)(x:Ot h A a):Ot h B a:=by
 obtain ⟨vs,h1,h2,h3⟩:=x;exact ⟨vs,h1,fun u hu=>(h2 u hu).mono k,h3⟩
theorem LB{P:Params}{h:Heap}:∀{vs:List Value} {ds:List WData},WellAll P h vs ds->vs.length=ds.length
 |_,_,.nil=>rfl
 |_,_,.cons _ b=>by
  show _+1=_+1;rw[LB b]
theorem cg{P:Params}{h:Heap}{v:Value}{ds:List WData}(x:Well P h v (.list ds)):∃(a:Addr) (vs:List Value),v=.ref a/\h.get? a=some { cls:=.type "list",data:=.seq vs.toArray }/\WellAll P h vs ds:=by
 cases x with
 |list ho hall=>exact ⟨_,_,rfl,ho,hall⟩
theorem Yj{P:Params}{h:Heap}{v:Value}{ds:List WData}(x:Well P h v (.tuple ds)):∃(a:Addr) (vs:List Value),v=.ref a/\h.get? a=some { cls:=.type "tuple",data:=.seq vs.toArray }/\WellAll P h vs ds:=by
 cases x with
 |tuple ho hall=>exact ⟨_,_,rfl,ho,hall⟩
theorem cj{P:Params}{h:Heap}{us:List Value}{d:WData}{ds:List WData}(x:WellAll P h us (d::ds)):∃(v:Value) (vs:List Value),us=v::vs/\Well P h v d/\WellAll P h vs ds:=by
 cases x with
 |cons a b=>exact ⟨_,_,rfl,a,b⟩
theorem oB{n:Nat}(h:n<=1048576):n<=sizeLine:=AY h (by decide)
section
variable {P:Params} {h:Heap}
mutual
theorem t7:∀(d:WData) (v:Value),Well P h v d->oA d=true->d.weight<=1048576->∃A:List Addr,pw A v/\∀a∈A,Ot h A a
 |.none,_,x,_,_=>by
  cases x;exact ⟨[],trivial,fun a m=>absurd m (by simp)⟩
 |.bool b,_,x,_,_=>by
  cases x;exact ⟨[],trivial,fun a m=>absurd m (by simp)⟩
 |.int i,_,x,_,_=>by
  cases x;exact ⟨[],trivial,fun a m=>absurd m (by simp)⟩
 |.str s,_,x,_,_=>by
  cases x;exact ⟨[],trivial,fun a m=>absurd m (by simp)⟩
 |.bytes b,_,x,_,_=>by
  cases x;exact ⟨[],trivial,fun a m=>absurd m (by simp)⟩
 |.list ds,_,x,p,z=>by
  obtain ⟨a,vs,rfl,ho,hall⟩:=cg x;have z2:WData.weightAll ds<=1048576:=z;obtain ⟨A,h1,h2⟩:=Ti ds _ hall p fun d hd=>AY (Rq hd) z2
  have k:∀b∈A,b∈a::A:=fun b hb=>AG _ hb
  refine ⟨a::A,AI ..,fun b hb=>?_⟩;rcases Ak.mp hb with e|m
  ·rw[e];exact ⟨vs,oB (by rw[LB hall];exact AY (W7 ds) z2),fun u hu=>(h1 u hu).mono k,.inl ho⟩
  ·exact (h2 b m).mono k
 |.tuple ds,_,x,p,z=>by
  obtain ⟨a,vs,rfl,ho,hall⟩:=Yj x;have z2:WData.weightAll ds<=1048576:=z;obtain ⟨A,h1,h2⟩:=Ti ds _ hall p fun d hd=>AY (Rq hd) z2
  have k:∀b∈A,b∈a::A:=fun b hb=>AG _ hb
  refine ⟨a::A,AI ..,fun b hb=>?_⟩;rcases Ak.mp hb with e|m
  ·rw[e];exact ⟨vs,oB (by rw[LB hall];exact AY (W7 ds) z2),fun u hu=>(h1 u hu).mono k,.inr ho⟩
  ·exact (h2 b m).mono k
 |.float _,_,_,p,_=>Bn (show false=true from p)
 |.dict _,_,_,p,_=>Bn (show false=true from p)
 |.bytearray _,_,_,p,_=>Bn (show false=true from p)
 |.set _,_,_,p,_=>Bn (show false=true from p)
 |.frozenset _,_,_,p,_=>Bn (show false=true from p)
 |.obj _ _,_,_,p,_=>Bn (show false=true from p)
theorem Ti:∀(ds:List WData) (vs:List Value),WellAll P h vs ds->XA ds=true->(∀d∈ds,d.weight<=1048576)->∃A:List Addr,(∀u∈vs,pw A u)/\∀a∈A,Ot h A a
 |[],_,x,_,_=>by
  cases x;exact ⟨[],fun u m=>absurd m (by simp),fun a m=>absurd m (by simp)⟩
 |d::ds,_,x,p,z=>by
  obtain ⟨v,vs,rfl,x1,x2⟩:=cj x;have q:oA d=true/\XA ds=true:=nF.mp p;obtain ⟨A,a1,a2⟩:=t7 d v x1 q.1 (z d (AI ..));obtain ⟨B,b1,b2⟩:=Ti ds vs x2 q.2 fun e he=>z e (AG _ he)
  have kA:∀b∈A,b∈A++B:=fun b hb=>BN.mpr (.inl hb)
  have kB:∀b∈B,b∈A++B:=fun b hb=>BN.mpr (.inr hb)
  refine ⟨A++B,fun u hu=>?_,fun b hb=>?_⟩
  ·rcases Ak.mp hu with e|m
   ·rw[e];exact a1.mono kA
   ·exact (b1 u m).mono kB
  ·rcases BN.mp hb with m|m
   ·exact (a2 b m).mono kA
   ·exact (b2 b m).mono kB
end
end
def wx(o:Obj):Option HO:=match o.data with
 |.seq vs _=>if (o.cls==Ge "list")=true then some (.YK o (.lst (vs.toList.map toV))) else some (.YK o (.tup (vs.toList.map toV)))
 |_=>none
def IM(K:AE)(h:Heap)(A:List Addr):Hp:=fun b=>if b∈A then (if (K.lookup b).isNone=true then (h.get? b).bind wx else none) else none
def ABS(H:Hp):Prop:=∀b,H b=none\/∃o u,H b=some (.YK o u)
theorem jB(vs:List Value):wx { cls:=.type "list",data:=.seq vs.toArray }=some (.YK { cls:=.type "list",data:=.seq vs.toArray } (.lst (vs.map toV))):=by
 show (if (Ge "list" == Ge "list")=true then some (HO.YK { cls:=.type "list",data:=.seq vs.toArray } (.lst (vs.toArray.toList.map toV))) else some (HO.YK { cls:=.type "list",data:=.seq vs.toArray } (.tup (vs.toArray.toList.map toV))))=_;rw[if_pos (beq_self_eq_true _)]
theorem jC(vs:List Value):wx { cls:=.type "tuple",data:=.seq vs.toArray }=some (.YK { cls:=.type "tuple",data:=.seq vs.toArray } (.tup (vs.map toV))):=by
 show (if (Ge "tuple" == Ge "list")=true then some (HO.YK { cls:=.type "tuple",data:=.seq vs.toArray } (.lst (vs.toArray.toList.map toV))) else some (HO.YK { cls:=.type "tuple",data:=.seq vs.toArray } (.tup (vs.toArray.toList.map toV))))=_;rw[if_neg (by decide)]
section
variable {P:Program} {w:World} {K:AE} {h:Heap} {A:List Addr}
theorem Xm{b:Addr}{o:Obj}(hb:b∈A)(hk:K.lookup b=none)(e:h.get? b=some o):IM K h A b=wx o:=by
 unfold IM;rw[if_pos hb,hk,if_pos (show (none:Option Obj).isNone=true from rfl),e]<;>rfl
theorem wy{b:Addr}{u:HO}(q:IM K h A b=some u):b∈A/\K.lookup b=none:=by
 unfold IM at q
 by_cases hb:b∈A
 ·rw[if_pos hb]at q;cases hk:K.lookup b with
  |none=>exact ⟨hb,rfl⟩
  |some o =>
   rw[hk,if_neg (by simp)]at q;cases q
 ·rw[if_neg hb]at q;cases q
theorem Qh(ar:∀a∈A,Ot h A a){b:Addr}{u:HO}(q:IM K h A b=some u):K.lookup b=none/\∃vs:List Value,vs.length<=sizeLine/\(∀u∈vs,pw A u) /\
  ((h.get? b=some { cls:=.type "list",data:=.seq vs.toArray }/\u=.YK { cls:=.type "list",data:=.seq vs.toArray } (.lst (vs.map toV))) \/
   (h.get? b=some { cls:=.type "tuple",data:=.seq vs.toArray }/\u=.YK { cls:=.type "tuple",data:=.seq vs.toArray } (.tup (vs.map toV)))):=by
 obtain ⟨hb,hk⟩:=wy q;obtain ⟨vs,h1,h2,h3⟩:=ar b hb;refine ⟨hk,vs,h1,h2,?_⟩;rcases h3 with e|e
 ·rw[Xm hb hk e,jB]at q;exact .inl ⟨e,(Al q).symm⟩
 ·rw[Xm hb hk e,jC]at q;exact .inr ⟨e,(Al q).symm⟩
theorem px(ar:∀a∈A,Ot h A a):ABS (IM K h A):=fun b=>by
 cases q:IM K h A b with
 |none=>exact .inl rfl
 |some u =>
  obtain ⟨_,vs,_,_,⟨_,e⟩|⟨_,e⟩⟩:=Qh ar q
  ·exact .inr ⟨_,_,by rw[e]⟩
  ·exact .inr ⟨_,_,by rw[e]⟩
theorem Xn{c c':Value}{vs us:List Value}(e:(some { cls:=c,data:=.seq vs.toArray }:Option Obj)=some { cls:=c',data:=.seq us.toArray }):c=c'/\vs=us:=by
 have e1:=Al e;have e2:c=c':=congrArg Obj.cls e1;have e3:xh vs.toArray=xh us.toArray:=congrArg Obj.data e1;injection e3 with e4
 refine ⟨e2,?_⟩;have e5:=congrArg iF e4;simpa using e5
theorem ACn(KX:K.In h)(ar:∀a∈A,Ot h A a){a:Addr}{vs:List Value}(ha:a∈A)(e:h.get? a=some { cls:=.type "list",data:=.seq vs.toArray }):(∀u∈vs,pw A u)/\Bq K (IM K h A) a (vs.map toV):=by
 obtain ⟨us,h1,h2,h3⟩:=ar a ha;have hu:us=vs:=by
  rcases h3 with q|q
  ·rw[e]at q;exact (Xn q).2.symm
  ·rw[e]at q;exact absurd (nG (Xn q).1) (by decide)
 subst hu;refine ⟨h2,?_⟩;cases hk:K.lookup a with
 |none=>exact .inl (.inr ⟨_,by rw[Xm ha hk e,jB]⟩)
 |some o =>
  have e2:=KX a o hk;rw[e]at e2;obtain rfl:=Al e2;exact .inr ⟨_,us.toArray,_,hk,rfl,rfl,rfl,by rw[Aa];exact h1,by simpa using ME h2⟩
theorem ACo(KX:K.In h)(ar:∀a∈A,Ot h A a){a:Addr}{vs:List Value}(ha:a∈A)(e:h.get? a=some { cls:=.type "tuple",data:=.seq vs.toArray }):(∀u∈vs,pw A u)/\DR K (IM K h A) a (vs.map toV):=by
 obtain ⟨us,h1,h2,h3⟩:=ar a ha;have hu:us=vs:=by
  rcases h3 with q|q
  ·rw[e]at q;exact absurd (nG (Xn q).1) (by decide)
  ·rw[e]at q;exact (Xn q).2.symm
 subst hu;refine ⟨h2,?_⟩;cases hk:K.lookup a with
 |none=>exact .inl (.inr ⟨_,by rw[Xm ha hk e,jC]⟩)
 |some o =>
  have e2:=KX a o hk;rw[e]at e2;obtain rfl:=Al e2;exact .inr ⟨_,us.toArray,_,hk,rfl,rfl,by rw[Aa];exact h1,by simpa using ME h2⟩
mutual
theorem ze{Pm:Params}(KX:K.In h)(ar:∀a∈A,Ot h A a):∀(d:WData) (v:Value),Well Pm h v d->oA d=true->pw A v->Dw K (IM K h A) (toV v) d
 |.none,_,x,_,_=>by
  cases x;exact .Ft
 |.bool b,_,x,_,_=>by
  cases x;exact .bl b
 |.int i,_,x,_,_=>by
  cases x;exact .int i
 |.str s,_,x,_,_=>by
  cases x;exact .str s
 |.bytes b,_,x,_,_=>by
  cases x;have z:=Dw.a9 (K:=K) (H:=IM K h A) b.toArray;exact z
 |.list ds,_,x,p,hu=>by
  obtain ⟨a,vs,rfl,ho,hall⟩:=cg x;obtain ⟨h2,hs⟩:=ACn KX ar hu ho;exact .lst hs (fw KX ar ds _ hall p h2)
 |.tuple ds,_,x,p,hu=>by
  obtain ⟨a,vs,rfl,ho,hall⟩:=Yj x;obtain ⟨h2,hs⟩:=ACo KX ar hu ho;exact .tup hs (fw KX ar ds _ hall p h2)
 |.float _,_,_,p,_=>Bn (show false=true from p)
 |.dict _,_,_,p,_=>Bn (show false=true from p)
 |.bytearray _,_,_,p,_=>Bn (show false=true from p)
 |.set _,_,_,p,_=>Bn (show false=true from p)
 |.frozenset _,_,_,p,_=>Bn (show false=true from p)
 |.obj _ _,_,_,p,_=>Bn (show false=true from p)
theorem fw{Pm:Params}(KX:K.In h)(ar:∀a∈A,Ot h A a):∀(ds:List WData) (vs:List Value),WellAll Pm h vs ds->XA ds=true->(∀u∈vs,pw A u)->LA K (IM K h A) (vs.map toV) ds
 |[],_,x,_,_=>by
  cases x;exact .nil
 |d::ds,_,x,p,hu=>by
  obtain ⟨v,vs,rfl,x1,x2⟩:=cj x;have q:oA d=true/\XA ds=true:=nF.mp p;exact .cons (ze KX ar d v x1 q.1 (hu _ (AI ..))) (fw KX ar ds vs x2 q.2 fun u m=>hu u (AG _ m))
end
end
theorem Yk{ds:List WData}(h:WData.layableAll ds=true):∀d∈ds,d.weight<=1048576:=fun d hd =>
 (PySem.W.layableW_iff.mp (Bc.mp h d hd)).2.2
theorem Yl:∀(cs:List Codec) (a:Codec.denoteAll cs),(Codec.encAll cs a).length=cs.length
 |[],_=>rfl
 |c::cs,a=>by
  show (Codec.encAll cs a.2).length+1=cs.length+1;rw[Yl cs a.2]
end L2
namespace pz
open PySem PySem.Spec PyProof.Rows
open PySem.AutoSeq1 (wpAny_loadPart')
open PySem.MeetsSeq PySem.MeetsSeq2 PySem.MeetsSeq3
section
variable {prog:Program} {w:World} {A:Around} {E:Value->Shared->Prop} {s:Shared}
theorem t8{t b:Addr}{ws:List Value}{Q:Value->Shared->Prop}(ht:IsTup s.heap t ([]:List Value).toArray)(hb:IsTup s.heap b ws.toArray)(h:Q (.ref b) s) :
  wpAny (model prog w) A (binaryOp .Add (.ref t) (.ref b)) Q E s:=by
 obtain ⟨⟨cls,dd,data,sl⟩,ho,hc,n,hd⟩:=id ht;obtain ⟨⟨cls2,dd2,data2,sl2⟩,ho2,hc2,n2,hd2⟩:=id hb;simp only at hc hd hc2 hd2;subst hc hd hc2 hd2;exact rh ⟨_,ho,rfl⟩ ⟨_,ho2,rfl⟩ eY oo Mu L7 (LR _ _) (tuple_addW0 t b _ ws.toArray n n2 dd dd2 sl sl2 rfl) ⟨ho,ho2,h⟩
end
theorem Uz:fillsNumberSlot (.type "tuple") "mul" = pure false :=
 PySem.fillsNumberSlot_seq (id := "tuple.__mul__") (r:=some (.builtin "tuple.__rmul__")) Jd.lookup (by decide +kernel) xi.lookup (by decide +kernel)
theorem fz:seqRepeat? (.type "tuple")=pure (some (.builtin "tuple.__mul__")):=by
 unfold seqRepeat?;rw[rm (T := "tuple") (name := "__mul__") (id := "tuple.__mul__") Jd.lookup (by decide +kernel),rm (T := "tuple") (name := "__rmul__") (id := "tuple.__rmul__") xi.lookup (by decide +kernel)];rfl
theorem Ym(a:Int)(t:Tok)(l:Addr)(items:Array Value)(n:Nat)(dd:Option Addr)(sl:Array (Option Value)) :
  Meets (Builtin.«int.__rmul__» ⟨[.int a t,.ref l],[]⟩) (fun _ R s=>s.heap.get? l=some { cls:=.type "tuple",dict:=dd,data:=.seq items n,slots:=sl }/\R (.ok (.ret Value.notImplemented)) s) :=
 .of_wp fun prog w A R s h=>by obtain ⟨hp,g,d,tk,os⟩:=s;obtain ⟨hl,h⟩:=h;wp_walk;exact ⟨_,rfl,h⟩
theorem Yn(l:Addr)(items:Array Value)(n:Nat)(dd:Option Addr)(sl:Array (Option Value))(t:Tok) :
  Meets (Builtin.«tuple.__mul__» ⟨[.ref l,.int 1 t],[]⟩) (fun _ R s=>s.heap.get? l=some { cls:=.type "tuple",dict:=dd,data:=.seq items n,slots:=sl }/\R (.ok (.ret (CG l))) s) :=
 .of_wp fun prog w A R s h=>by
  obtain ⟨hp,g,d,tk,os⟩:=s;obtain ⟨hl,h⟩:=h;have f1:=Ua;have f2:=K2
  wp_walk using CH hl
  all_goals first|exact ⟨_,rfl,h⟩|skip
theorem Yo(l:Addr)(items:Array Value)(n:Nat)(dd:Option Addr)(sl:Array (Option Value))(k:Int)(t:Tok)(h0:¬items.isEmpty=true)(h1:k<=0)(h2 : -(2 ^ 63)<=k) :
  Meets (Builtin.«tuple.__mul__» ⟨[.ref l,.int k t],[]⟩) (fun _ R s=>s.heap.get? l=some { cls:=.type "tuple",dict:=dd,data:=.seq items n,slots:=sl } /\
   R (.ok (.ret (CG s.heap.objs.size))) { s with heap:=s.heap.push { cls:=.type "tuple",data:=.seq #[] } }) :=
 .of_wp fun prog w A R s h=>by
  obtain ⟨hp,g,d,tk,os⟩:=s;obtain ⟨hl,h⟩:=h;have f1:=Ua;have f2:=K2;have e1:(decide (k < -(2 ^ 63))||decide (k ≥ 2 ^ 63))=false:=by rw[decide_eq_false (by omega),decide_eq_false (by omega)];rfl
  have e2:(items.isEmpty||k == 1)=false:=by
   have:(k == 1)=false:=by simp;omega
   rw[this];simpa using h0
  have e3:(decide (k<=0)||items.isEmpty)=true:=by rw[decide_eq_true h1];rfl
  wp_walk using CH hl
  rw[if_neg (by rw[e1];exact AZ)]
  wp_walk using CH hl
  rw[if_neg (by rw[e2];exact AZ)]
  wp_walk using CH hl
  exact ⟨_,rfl,h⟩
theorem Yp(l:Addr)(items:Array Value)(n:Nat)(dd:Option Addr)(sl:Array (Option Value))(k:Int)(t:Tok)(h0:¬items.isEmpty=true)(h1:2<=k)(h2:k<2 ^ 63)(hz:items.size*k.toNat<=sizeLine) :
  Meets (Builtin.«tuple.__mul__» ⟨[.ref l,.int k t],[]⟩) (fun _ R s=>s.heap.get? l=some { cls:=.type "tuple",dict:=dd,data:=.seq items n,slots:=sl } /\
   R (.ok (.ret (CG s.heap.objs.size))) { s with heap:=s.heap.push { cls:=.type "tuple",data:=.seq ((Ac k.toNat items).foldl (·++·) #[]) } }) :=
 .of_wp fun prog w A R s h=>by
  obtain ⟨hp,g,d,tk,os⟩:=s;obtain ⟨hl,h⟩:=h;have f1:=Ua;have f2:=K2;have e1:(decide (k < -(2 ^ 63))||decide (k ≥ 2 ^ 63))=false:=by rw[decide_eq_false (by omega),decide_eq_false (by omega)];rfl
  have e2:(items.isEmpty||k == 1)=false:=by
   have:(k == 1)=false:=by simp;omega
   rw[this];simpa using h0
  have e3:(decide (k<=0)||items.isEmpty)=false:=by rw[decide_eq_false (by omega)];simpa using h0
  have hk:((items.size*k.toNat:Nat):Int)=(items.size:Int)*k:=by rw[Int.natCast_mul,Sq (by omega)]
  have hs:(sizeLine:Nat)=16777216:=Ue;have e4:¬(items.size:Int)*k > (2 ^ 63-1) / 8:=by rw[<-hk];omega
  have e5:Sr ((items.size:Int)*k)=false:=by
   unfold Sr;rw[<-hk];exact decide_eq_false (by omega)
  have hsz:sizeOk (.seq ((Ac k.toNat items).foldl (·++·) #[])):=by
   show ((Ac k.toNat items).foldl (·++·) #[]).size<=sizeLine;have f0:∀(m:Nat) (acc:Array Value),((Ac m items).foldl (·++·) acc).size=acc.size+items.size*m:=by
    intro m
    induction m with
    |zero=>intro acc;simp
    |succ m ih =>
     intro acc;rw[Cv,BI,ih,Array.size_append,Nat.mul_succ];omega
   rw[f0];simpa using hz
  wp_walk using CH hl
  rw[if_neg (by rw[e1];exact AZ)]
  wp_walk using CH hl
  rw[if_neg (by rw[e2];exact AZ)]
  wp_walk using CH hl
  rw[if_neg (by rw[e3];exact AZ)]
  wp_walk using CH hl
  rw[if_neg e4]
  wp_walk using CH hl
  rw[if_neg (rn.mpr hsz)]
  wp_walk using CH hl
  exact ⟨_,rfl,h⟩
section
variable {prog:Program} {w:World} {A:Around} {E:Value->Shared->Prop} {s:Shared}
theorem wz{l:Addr}{vs:List Value}{k:Int}{t:Tok}{Q:Value->Shared->Prop}(ht:IsTup s.heap l vs.toArray)(h0:vs≠[])(h1 : -(2 ^ 63)<=k)(h2:k<2 ^ 63)(hz:vs.length*k.toNat<=sizeLine)
  (q1:k=1->Q (.ref l) s) (q2:Q (.ref s.heap.objs.size) { s with heap:=s.heap.push { cls:=.type "tuple",data:=.seq ((Ac k.toNat vs.toArray).foldl (·++·) #[]) } }) :
  wpAny (model prog w) A (binaryOp .Mult (.ref l) (.int k t)) Q E s:=by
 obtain ⟨⟨cls,dd,data,sl⟩,ho,hc,n,hd⟩:=id ht;simp only at hc hd;subst hc hd;have hne:¬vs.toArray.isEmpty=true:=by simpa using h0
 refine nD (T := "tuple") (U := "int") (by decide) ⟨_,ho,rfl⟩ (fun s'=>Xr s' k t) Uz AAL RA fz yT.lookup
  (GG RA (Xr s k t) yU (xg _ _) (Ym k t l vs.toArray n dd sl) ⟨ho,rfl,⟨_,ho,rfl⟩,?_⟩)
 by_cases hk1:k=1
 ·subst hk1;exact GG Jd ⟨_,ho,rfl⟩ Xs (W8 _ _) (Yn l vs.toArray n dd sl t) ⟨ho,q1 rfl⟩
 ·by_cases hk0:k<=0
  ·have e:k.toNat=0:=by omega
   rw[e]at q2;exact GG Jd ⟨_,ho,rfl⟩ Xs (W8 _ _) (Yo l vs.toArray n dd sl k t hne hk0 h1) ⟨ho,q2⟩
  ·exact GG Jd ⟨_,ho,rfl⟩ Xs (W8 _ _) (Yp l vs.toArray n dd sl k t hne (by omega) h2 (by rw[Aa];exact hz)) ⟨ho,q2⟩
theorem bD{Q:List Value->Shared->Prop}{r:Addr}{a b c:Int}{t u v:Tok}{n:Nat}(hh:A.handled=none)(hr:IsRange s.heap r a b c t u v)(hsmall:IC a b c=true)
  (hn:Ew a b c=n) (hlen:n<=2 ^ 24)
  (hQ:∀h' tk acc',(∀b o,s.heap.get? b=some o->h'.get? b=some o)->ItemsOf (fun i v=>∃t,v=.int (a+i*c) t) acc' n->Q acc'.toList { s with heap:=h',toks:=tk }) :
  wpAny (model prog w) A (collect (.ref r)) Q E s:=by
 unfold collect;refine AL (wpAny_runValue (FR F.entry_proto_collect ?_));rw[GZ F.plain_proto_collect _];show wpAny _ A.in1 (newList [] >>= fun l=>again (.builtin "list.__iadd__" ⟨[l,.ref r],[]⟩)) _ _ s;refine AL (Dt ?_);refine A1 ⟨OU xj _,FR F.entry_list_iadd ?_⟩;rw[GZ xj _];show wpAny _ A.in1 (AB4 (.ref s.heap.objs.size) (.ref r) (.ref s.heap.objs.size)) _ _ _;have hS:(s.heap.push { cls:=.type "list",data:=.seq ([]:List Value).toArray }).get? s.heap.objs.size=some { cls:=.type "list",data:=.seq #[] 0 }:=BA _ rfl;refine DH (wpAny_extend_range (A:=A) (s:={ s with heap:=s.heap.push { cls:=.type "list",data:=.seq ([]:List Value).toArray } })
  (R:=fun r s'=>r=.ok (.ret (.ref s.heap.objs.size))/\wpAny (model prog w) A (match CG s.heap.objs.size with
   |CG a=>do
    match (<-load a).data with
     |xh xs _=>pure xs.toList
     |_=>unsupported "internal:collect"
   |_=>unsupported "internal:collect") Q E s') hh (AW _ hr) hsmall hn hlen s.heap.objs.size (.ref s.heap.objs.size) 0 hS fun h' tk acc' c' hk hS' hacc=>⟨rfl,?_⟩) (fun fin s' h=>?_) (fun e s' h=>?_)
 ·show wpAny _ A (load s.heap.objs.size >>= _) _ _ _;refine AL (wpAny_load hS' (A1 ?_));exact hQ h' tk acc' (fun b o e=>hk b o (Bl (Av e)) (AW _ e)) hacc
 ·cases fin with
  |done f =>
   obtain ⟨e,h⟩:=h;cases e;exact h
  |again c'=>exact ⟨h.1,L6 h.2 fun r s'' hr=>by obtain ⟨rfl,h⟩:=hr;exact h⟩
 ·exact absurd h.1 (by simp)
end
theorem N9(r:Addr)(a b c:Int)(t u v:Tok)(n:Nat)(hsmall:IC a b c=true)(hn:Ew a b c=n)(hlen:n<=2 ^ 24) :
  Meets (Builtin.«tuple.__new__» ⟨[.type "tuple",.ref r],[]⟩)
   (fun A R s=>A.handled=none/\IsRange s.heap r a b c t u v/\∀(h':Heap) (tk:Nat) (acc':Array Value),(∀b o',s.heap.get? b=some o'->h'.get? b=some o')->ItemsOf (fun i v=>∃t,v=.int (a+i*c) t) acc' n ->
    R (.ok (.ret (.ref h'.objs.size))) { s with heap:=h'.push { cls:=.type "tuple",data:=.seq acc' },toks:=tk }) :=
 .of_wp fun prog w A R s h=>by
  obtain ⟨hp,g,d,tk,os⟩:=s;obtain ⟨hh,hr,h⟩:=h;have hsub:=sub_tuple_self;have hinit:=init_tuple_lookup;have hmh:=madeHere_tuple;have hT:Shared.TypeIs ⟨hp,g,d,tk,os⟩ (.ref r) "range" := ⟨_,hr,rfl⟩;have hh1:A.in1.handled=none:=hh
  wp_walk using CH hr,ah hT,bD hh1 hr hsmall hn hlen
  intro h' tk' acc' hk hacc;have hz:acc'.size=n:=hacc.1;show wpAny _ _ (Dj acc'.toList.toArray >>= fun v=>ret v) _ _ _;unfold Dj;refine AL (Dt ?_ (by show acc'.toList.toArray.size<=sizeLine;rw[Ue];simp;omega));refine A1 ⟨_,rfl,?_⟩;have e:acc'.toList.toArray=acc':=by simp
  rw[e];exact h h' tk' acc' hk hacc
end pz
namespace pz
open PySem PySem.Spec PyProof.Rows
open PySem.AutoSeq1 (wpAny_loadPart')
open PySem.MeetsSeq PySem.MeetsSeq2 PySem.MeetsSeq3
section
variable {prog:Program} {w:World} {A:Around} {E:Value->Shared->Prop} {s:Shared}
theorem U0{r:Addr}{a b c:Int}{t u v:Tok}{n:Nat}{Q:Value->Shared->Prop}(hh:A.handled=none)(hr:IsRange s.heap r a b c t u v)(hsmall:IC a b c=true)
  (hn:Ew a b c=n) (hlen:n<=2 ^ 24)
  (h:∀(h':Heap) (tk:Nat) (acc':Array Value),(∀b o',s.heap.get? b=some o'->h'.get? b=some o')->ItemsOf (fun i v=>∃t,v=.int (a+i*c) t) acc' n ->
   Q (.ref h'.objs.size) { s with heap:=h'.push { cls:=.type "tuple",data:=.seq acc' },toks:=tk }) :
  wpAny (model prog w) A (call (.type "tuple") [.ref r]) Q E s :=
 callType_new F.called_tuple (by decide) (F.typeCall_tuple_1 _) (F.newCall_tuple_1 _) (fun obj=>rp obj _) F.entry_tuple_new
  (N9 r a b c t u v n hsmall hn hlen) ⟨hh,hr,fun h' tk acc' hk hacc=>⟨⟨_,BA _ rfl,rfl⟩,h h' tk acc' hk hacc⟩⟩
theorem Tj{it t:Addr}{i:Nat}{items}{x:Value}{Q:Value->Shared->Prop}(hit:s.heap.IsTupleIter it t i)
  (ht:s.heap.IsTuple t items) (hx:items[i]?=some x)
  (hQ:∀h',h'.IsTupleIter it t (i+1)->Kw it s.heap h'->Q x { s with heap:=h' }) :
  wpAny (model prog w) A (FW (.ref it)) Q E s:=by
 obtain ⟨o,ho,hc,hd⟩:=id hit;obtain ⟨ol,hol,_,nl,hdl⟩:=ht;unfold FW;refine AL (IY (name:=G0 "__next__") hit.typeIs G1
  (Qz G1 hit.typeIs hZ ?_ (eZ _)))
 show wpAny _ _ (field (.ref it) 0 >>= _) _ _ s;refine AL (Kz ho hd (x:=.ref t) rfl ?_);show wpAny _ _ (if (CG t==HR)=true then _ else _) _ _ s;rw[if_neg (show ¬((CG t==HR)=true) from AZ)];show wpAny _ _ (field (.ref it) 1 >>= _) _ _ s;refine AL (Kz ho hd (x:=.int i 0) rfl ?_);show wpAny _ _ (seqItems? (.ref t) >>= _) _ _ s;refine AL (Mv hol hdl ?_);simp only[A8,hx];refine AL (ACE ho hd (by simp) (A1 ⟨x,rfl,A1 (hQ _ ?_ (GD ..))⟩));exact ⟨_,kr _ ho (Obj.isFreed_of_fields (rq hd _)),(Obj.cls_mapFields ..).trans hc,by
  rw[rq hd];simp[rawInt]⟩
theorem U1{it t:Addr}{i:Nat}{items}{Q:Value->Shared->Prop}(hh:A.handled=none)
  (hit:s.heap.IsTupleIter it t i) (ht:s.heap.IsTuple t items) (hx:items[i]?=none)
  (hE:∀h' e,AAs it s.heap h'->(∃o,h'.get? e=some o/\o.cls=.type "StopIteration")->E (.ref e) { s with heap:=h' }) :
  wpAny (model prog w) A (FW (.ref it)) Q E s:=by
 obtain ⟨o,ho,hc,hd⟩:=id hit;obtain ⟨ol,hol,_,nl,hdl⟩:=ht;unfold FW;refine AL (IY (name:=G0 "__next__") hit.typeIs G1
  (Qz G1 hit.typeIs hZ ?_ (eZ _)))
 show wpAny _ _ (field (.ref it) 0 >>= _) _ _ s;refine AL (Kz ho hd (x:=.ref t) rfl ?_);show wpAny _ _ (if (CG t==HR)=true then _ else _) _ _ s;rw[if_neg (show ¬((CG t==HR)=true) from AZ)];show wpAny _ _ (field (.ref it) 1 >>= _) _ _ s;refine AL (Kz ho hd (x:=.int i 0) rfl ?_);show wpAny _ _ (seqItems? (.ref t) >>= _) _ _ s;refine AL (Mv hol hdl ?_);simp only[A8,hx];refine AL (wpAny_rule (AL (ACE ho hd (by simp) ?_)));show wpAny _ _ (newExc (.type "StopIteration") [] >>= _) _ _ _;refine AL ?_;simp only[newExc,newTuple];refine AL (Dt ?_ (by size_fits));refine AL (m:=firstArgMember _ _) (wpAny_of_eq (a:=HR) (by first|rfl|(simp only[firstArgMember];rfl)) ?_);refine Dt ?_ (by size_fits);simp only[raiseNew];refine AL (wpAny_handled ?_)
 first|rw[show A.in1.handled=none from hh]|rw[hh]
 refine AL (A1 (wpAny_throw ?_));exact hE _ _ (((GD ..).extBut.push _).push _) ⟨_,BA _ rfl,rfl⟩
end
theorem WC{prog:Program}{w:World}{A:Around}(hh:A.handled=none)(it l:Addr)(hne:l≠it)(items:Array Value) :
  Draws prog w A it [it,l] items.size (fun i v=>items[i]?=some v) (fun i h=>h.IsTupleIter it l i/\h.IsTuple l items) where
 live:=fun _ _ st=>let ⟨o,ho,_⟩:=st.1;⟨o,ho⟩
 frame:=fun _ _ _ st hk=>⟨let ⟨o,ho,r⟩:=st.1;⟨o,hk it (by simp) o ho,r⟩,let ⟨o,ho,r⟩:=st.2;⟨o,hk l (by simp) o ho,r⟩⟩
 item:=fun i s Q E hi st hQ=>by
  refine Tj st.1 st.2 (x:=items[i]) (by simp[hi]) fun h' hit' hs'=>?_
  exact hQ _ h' s.toks (by simp[hi]) ⟨hit',st.2.extBut hs'.extBut hne⟩ hs'
 done:=fun s Q E st hE=>U1 hh st.1 st.2 (by simp) hE
theorem Ou(l:Addr)(items:Array Value)(n:Nat)(dct:Option Addr)(sl:Array (Option Value)) :
  Meets (Builtin.«enumerate.__new__» ⟨[.type "enumerate",.ref l],[]⟩) (fun _ R s=>s.heap.get? l=some { cls:=.type "tuple",dict:=dct,data:=.seq items n,slots:=sl } /\
   R (.ok (.ret (.ref (s.heap.push { cls:=.type "tuple_iterator",data:=.fields #[.ref l,.int 0 0] }).objs.size)))
    { s with heap:=(s.heap.push { cls:=.type "tuple_iterator",data:=.fields #[.ref l,.int 0 0] }).push { cls:=.type "enumerate",data:=.fields #[.none,.bool false,.ref s.heap.objs.size,rawInt 0,.none,.none] } }) :=
 .of_wp fun prog w A R s h=>by
  obtain ⟨hp,g,d,tk,os⟩:=s;obtain ⟨hl,h⟩:=h;have hsub:=sub_enumerate;have hL:Heap.IsTuple (Shared.heap ⟨hp,g,d,tk,os⟩) l items:=⟨_,hl,rfl,n,rfl⟩
  wp_walk using CH hl
  refine wpAny_stack_any fun st=>A1 ?_
  split
  ·rename_i c _ _ _ _ _;cases (c==Ge "enumerate")
   ·wp_walk using CH hl,Mt hL
    exact ⟨_,rfl,h⟩
   ·wp_walk using CH hl,Mt hL
    exact ⟨_,rfl,h⟩
  ·wp_walk using CH hl,Mt hL
   exact ⟨_,rfl,h⟩
section
variable {prog:Program} {w:World} {A:Around} {E:Value->Shared->Prop} {s:Shared}
theorem Ov{l:Addr}{items:Array Value}{Q:Value->Shared->Prop}(hL:s.heap.IsTuple l items)
  (h:∀h',IsEnum h' (s.heap.objs.size+1) s.heap.objs.size 0 .none->h'.IsTupleIter s.heap.objs.size l 0->h'.objs.size=s.heap.objs.size+2 ->
   (∀b o,s.heap.get? b=some o->h'.get? b=some o)->Q (.ref (s.heap.objs.size+1)) { s with heap:=h' }) :
  wpAny (model prog w) A (call (.type "enumerate") [.ref l]) Q E s:=by
 obtain ⟨⟨c,dct,dt,sl⟩,hl,hc,n,hd⟩:=hL
 replace hc:c=.type "tuple" := hc
 replace hd:dt=.seq items n:=hd
 subst hc hd;refine callType_new F.called_enumerate (by decide) (F.typeCall_enumerate_1 _) (F.newCall_enumerate_1 _) (fun obj=>rp obj _) F.entry_enumerate_new
  (Ou l items n dct sl) ⟨hl,?_⟩
 have hz:(s.heap.push { cls:=.type "tuple_iterator",data:=.fields #[.ref l,.int 0 0] }).objs.size=s.heap.objs.size+1:=Cp ..;show _/\_;rw[hz];have he:IsEnum ((s.heap.push { cls:=.type "tuple_iterator",data:=.fields #[.ref l,.int 0 0] }).push
   { cls:=.type "enumerate",data:=.fields #[.none,.bool false,.ref s.heap.objs.size,rawInt 0,.none,.none] }) (s.heap.objs.size+1) s.heap.objs.size 0 .none:=by
  have:=BA (s.heap.push { cls:=.type "tuple_iterator",data:=.fields #[.ref l,.int 0 0] })
   (o:={ cls:=.type "enumerate",data:=.fields #[.none,.bool false,.ref s.heap.objs.size,rawInt 0,.none,.none] }) rfl
  rw[hz]at this;exact this
 refine ⟨⟨_,he,rfl⟩,h _ he ⟨_,AW _ (BA _ rfl),rfl,rfl⟩ (by rw[Cp,hz]) fun b o x=>AW _ (AW _ x)⟩
theorem t9{K:Type}[DecidableEq K]{knd:HeapKind prog w K}{env:Env}{ke ve:Expr}{pos:Pos}{Q:Value->Shared->Prop}(hu:knd.room A)
  (h:wpAny (model prog w) A (eval ke env) (fun kv s₁=>wpAny (model prog w) A (eval ve env) (fun vv s₂=>∃a k,kv=.ref a/\knd.is s₂.heap k a/\s₂.heap.DictOfH knd s.heap.objs.size [] /\
   ∀h' tk,h'.DictOfH knd s.heap.objs.size (storedH [] k a vv)->Kw s.heap.objs.size s₂.heap h'->Q (.ref s.heap.objs.size) { s₂ with heap:=h',toks:=tk }) E s₁) E
   { s with heap:=s.heap.push { cls:=.type "dict",data:=.dict #[] } }) :
  wpAny (model prog w) A (eval (.Dict [some ke] [ve] pos) env) Q E s:=by
 rw[arm_eval_Dict,zip_pairTrees [some ke] [ve] env pos rfl rfl,dictDisplay_pairs _ (by simp[pairTrees]) (by simp[pairTrees])];refine AL (OR (AL ?_));unfold subDict;refine AL (wpAny_alloc ?_);refine AL (EL ?_);rw[if_pos (by simp[pairTrees])];refine AL (pairTrees_cons_walk (DH h (fun kv s₁ h₁=>DH h₁ (fun vv s₂ h₂=>pairTrees_nil_walk ?_) fun _ _ e=>e) fun _ _ e=>e));obtain ⟨a,k,rfl,hk,hd,q⟩:=h₂;refine EL ?_;rw[aV];refine AL (AL (AL (wpAny_dictSet_heap (hsz:=Bb _) hu hk hd fun h' hd' hs'=>A1 ?_)));dsimp only;rw[bt];exact A1 (A1 (A1 (A1 (q h' _ hd' hs'))))
end
end pz
namespace pz
open PySem PySem.Spec PyProof.Rows
open PySem.AutoSeq1 (wpAny_loadPart')
open PySem.MeetsSeq PySem.MeetsSeq2 PySem.MeetsSeq3 PySem.SeqAt
theorem w4{prog:Program}{w:World}{A:Around}{s:Shared}{Q:Option Fin×PUnit->Shared->Prop}{E:Value->Shared->Prop}{items:Array Value}{x:Value}{e:Value->Bool}{j:Nat}(he:∀y,y∈items->EqAt A s y x (e y))
  (hj:j<items.size) (hit:e items[j]=true) (hno:∀m (hm:m<items.size),m<j->e items[m]=false) (f:Nat->Option Fin×PUnit->Sem (ForInStep (Option Fin×PUnit)))
  (hf:∀i b (hi:i<items.size),f i b=(do
   let c <-eqBool items[i] x
   if c=true then do
    let v <-retInt (i:Int)
    pure (ADD (some v,()))
   else pure (Ii (none,()))))
  (hq:Q (some (Fin.done (.ret (.int j s.toks))),()) { s with toks:=s.toks+1 }):∀(k i:Nat),items.size-i=k->i<=j->wpAny (model prog w) A (forIn (By i (items.size-i)) ((none:Option Fin),()) f) Q E s:=by
 intro k
 induction k with
 |zero=>intro i hk hij;omega
 |succ k ih =>
  intro i hk hij;have hlt:i<items.size:=by omega
  rw[show items.size-i=(items.size-(i+1))+1 by omega,Ee,aV];refine AL ?_;rw[hf i _ hlt];refine AL (he _ (Array.getElem_mem hlt) prog w _ _ ?_)
  by_cases ej:i=j
  ·subst ej;rw[hit,if_pos rfl];unfold retInt
   wp_walk
   exact hq
  ·rw[hno i hlt (by omega),if_neg AZ];refine A1 ?_;exact ih (i+1) (by omega) (by omega)
theorem bE(l:Addr)(items:Array Value)(n:Nat)(dd:Option Addr)(sl:Array (Option Value))(x:Value)(e:Value->Bool)(j:Nat)(hj:j<items.size)(hit:e items[j]=true)(hno:∀m (hm:m<items.size),m<j->e items[m]=false) :
  Meets (Builtin.«tuple.index» ⟨[.ref l,x],[]⟩)
   (fun A R s=>s.heap.get? l=some { cls:=.type "tuple",dict:=dd,data:=.seq items n,slots:=sl }/\(∀y,y∈items->EqAt A.in1 s y x (e y))/\R (.ok (.ret (.int j s.toks))) { s with toks:=s.toks+1 }) :=
 .of_wp fun prog w A R s h=>by
  obtain ⟨hp,g,d,tk,os⟩:=s;obtain ⟨hl,he,h⟩:=h;unfold Builtin.«tuple.index»;simp only[xk]
  wp_walk using CH hl
  show wpAny (model prog w) A.in1 (forIn (By 0 (Kx [:min items.size items.size])) (none,()) _) _ _ _;have ez:Kx [:min items.size items.size]=items.size-0:=by simp[Kx]
  rw[ez];refine w4 he hj hit hno _ (fun i b hi=>?_) ?_ _ 0 rfl (Bb _)
  ·have hi:items[i]?=some items[i]:=by simp[hi]
   simp only[hi]
  ·exact A1 ⟨_,rfl,h⟩
end pz
namespace HT
open PySem PyProof.Rows
section
variable {prog:Program} {w:World} {A:Around} {E:Value->Shared->Prop} {s:Shared}
theorem Q3{t sl:Addr}{items:Array Value}{vl vu:Value}{lo hi:Option Int}{Q:Value->Shared->Prop}(ht:IsTup s.heap t items)(hs:s.heap.IsSliceOf sl vl vu .none)(pl:IsPart vl lo)(pu:IsPart vu hi)
  (hw:HS items.size 0 lo=0/\HS items.size items.size hi=items.size) (h:Q (.ref t) s):wpAny (model prog w) A (getItem (.ref t) (.ref sl)) Q E s:=by
 obtain ⟨os,hos,hcs,hds⟩:=id hs;have hTs:s.TypeIs (.ref sl) "slice" := ⟨os,hos,hcs⟩;unfold getItem
 try with_reducible refine EL ?_
 first|refine AL (A1 ?_)|skip
 refine AL (AAJ ht.typeIs (by decide) ?_);refine AL (IY (name:=G0 "__getitem__") ht.typeIs Cu
  (Qz Cu ht.typeIs xf ?_ (yS _ _)))
 show wpAny _ _ (So (.ref t) >>= _) _ _ s;refine AL (ACt ht ?_);refine AL (ah hTs ?_);rw[if_pos (by decide)];refine AL (MB hs pl pu ?_);show wpAny _ _ (if (((HS items.size 0 lo:Nat):Int) == 0&&(1:Int) == 1&&(HS items.size items.size hi-HS items.size 0 lo)==items.size)=true then _ else _) _ _ s;rw[if_pos (by rw[hw.1,hw.2];simp)];unfold AAt;refine AL (AL (ah ht.typeIs (A1 ?_)));rw[if_pos (by decide)];exact AL (wpAny_rule (A1 ⟨_,rfl,A1 h⟩))
end
end HT
namespace L2
open PySem PySem.Spec PyProof.Rows
section
variable {X:Cx}
theorem Yq{H:Hp}{p:Addr}{o:HO}(h:H p=none):Aw H (upd H p o):=fun b u e=>by
 rw[A2 (Af e h)];exact e
def zf:R2:=fun x y H Q=>∃a b xs ys,x=.ref a/\y=.ref b/\H a=some (.tup xs)/\H b=some (.tup ys)/\xs.length+ys.length<=sizeLine/\∀p H',Aw H H'->H' p=some (.tup (xs++ys))->Q (.ref p) H'
theorem Yr:V9 X (binaryOp .Add) zf:=by
 intro pins s σ H x y v u Q I rx ry h;obtain ⟨a,b,xs,ys,rfl,rfl,ha,hb,hz,q⟩:=h
 by_cases hx:xs=[]
 ·subst hx;cases rx;cases ry;obtain ⟨its,r1,p1,_⟩:=I.tuple (DR.of (K:=X.K) ha);obtain ⟨its2,r2,p2,_⟩:=I.tuple (DR.of (K:=X.K) hb);cases r1;exact pz.t8 p1 p2 ⟨.ref b,H,I,rfl,q b H (Aw.refl H) hb⟩
 ·exact fZ pins s σ H (.ref a) (.ref b) v u Q I rx ry ⟨a,b,xs,ys,rfl,rfl,DR.of ha,DR.of hb,hx,hz,fun hy=>q a H (Aw.refl H) (by rw[hy,B1];exact ha),fun _ p hp=>q p _ (Yq hp) AK⟩
def ABT:R2:=fun x y H Q=>∃l k xs,x=.ref l/\y=.int k/\H l=some (.tup xs)/\xs≠[] /\ -(2 ^ 63)<=k/\k<2 ^ 63/\xs.length*k.toNat<=sizeLine /\
 ∀p H',Aw H H'->H' p=some (.tup (Ac k.toNat xs).flatten)->Q (.ref p) H'
theorem w6:V9 X (binaryOp .Mult) ABT:=by
 intro pins s σ H x y v u Q I rx ry h;obtain ⟨l,k,xs,rfl,rfl,hH,h0,h1,h2,hz,q⟩:=h;cases rx;obtain ⟨t,rfl⟩:=ry;obtain ⟨its,r,p,_⟩:=I.tuple (DR.of (K:=X.K) hH);have hl:=r.length;have f0:br (fun x1 x2=>x1++x2) #[] (Ac k.toNat its.toArray)=(Ac k.toNat its).flatten.toArray:=by
  have:=foldl_rep its k.toNat []
  rw[F0]at this;exact this
 refine pz.wz p (fun z=>h0 (r.Xk.mp z)) h1 h2 (by rw[<-hl];exact hz) (fun e=>⟨.ref l,H,I,rfl,q l H (Aw.refl H) (by rw[e];simpa using hH)⟩) ?_;rw[f0];refine ⟨.ref s.heap.objs.size,_,I.laid (t':=s.toks) (o:=.tup (Ac k.toNat xs).flatten) (fun b ob q=>AW _ q) (AV _) ?_,rfl,q _ _ (Yq I.fresh) AK⟩;exact ⟨by rw[len_rep,Ky];exact hz,_,r.rep k.toNat,JG.new _ _⟩
def ABU:V->Option Int->Option Int->Hp->VK->Prop:=fun x lo hi H Q=>∃a xs,x=.ref a/\H a=some (.tup xs)/\∀p H',Aw H H'->H' p=some (.tup (N8 xs lo hi))->Q (.ref p) H'
theorem oC:SlR X ABU:=by
 intro pins s σ H x v vl vu lo hi sl Q I rx hs pl pu h;obtain ⟨a,xs,rfl,hx,q⟩:=h
 by_cases hw:HT.HS xs.length 0 lo=0/\HT.HS xs.length xs.length hi=xs.length
 ·cases rx;obtain ⟨its,r,ht,hz⟩:=I.tuple (DR.of (K:=X.K) hx);have hlen:its.toArray.size=xs.length:=by rw[Aa];exact r.length.symm
  refine ⟨"tuple",_,Cu.lookup,ht.typeIs,HT.Q3 ht hs pl pu (by rw[hlen];exact hw) ⟨.ref a,H,I,rfl,q a H (Aw.refl H) ?_⟩⟩;unfold N8;rw[hw.1,hw.2,xl,ko,B9];exact hx
 ·exact zL pins s σ H (.ref a) v vl vu lo hi sl Q I rx hs pl pu ⟨a,xs,rfl,DR.of hx,hw,fun p hp=>q p _ (Yq hp) AK⟩
def w8(ta:TA):TE:=fun σ H Q=>ta σ H fun vs H1=>∃j:Int,vs=[.int j] /\ -(2 ^ 62)<=j/\j<2 ^ 62/\∀p,H1 p=none->Q (.ref p) (upd H1 p (.xt 0 j))
theorem ck{a:Expr}{ta:TA}{p pos:Pos}(hg:Gl X "range")(hm:X.mg "range" = none)(ha:PA X [a] ta)(hs:starEach [a] X.env=[(false,eval a X.env)]:=by rfl):PE X (.Call (.Name "range" p) [a] [] pos) (w8 ta):=by
 intro pins s σ H Q I h;refine Call_ (M6 I hg hm yQ (Cn (FH (ha pos pins s σ H _ I h) fun us s1 ⟨vs,H1,I1,r1,q1⟩=>?_) hs rfl));obtain ⟨j,e,h1,h2,q⟩:=q1;subst e;cases r1 with
 |cons r rr =>
  cases rr;obtain ⟨t,rfl⟩:=r;refine call_range_1 ⟨.ref s1.heap.objs.size,_,I1.laid (o:=.xt 0 j) (fun b o e=>AW _ e) (AV _) ?_,rfl,q _ I1.fresh⟩;exact ⟨_,_,_,BA _ rfl⟩
theorem Ys{n:Nat}{acc:Array Value}(h:ItemsOf (fun i v=>∃t,v=Q8 (0+i*1) t) acc n):Vals ((AF n).map fun (i:Nat)=>V.int (i:Int)) acc.toList:=by
 obtain ⟨hz,hp⟩:=h;have go:∀(l:List Value) (k:Nat),(∀j v,l[j]?=some v->∃t,v=Q8 (0+((k+j:Nat):Int)*1) t)->Vals ((By k l.length).map fun (i:Nat)=>V.int (i:Int)) l:=by
  intro l
  induction l with
  |nil=>intro k _;exact .nil
  |cons x l ih =>
   intro k hk;rw[BC,Ee,Az];refine .cons ?_ (ih (k+1) fun j v hv=>?_)
   ·obtain ⟨t,e⟩:=hk 0 x rfl;exact ⟨t,by rw[e];congr 1;omega⟩
   ·obtain ⟨t,e⟩:=hk (j+1) v (by simpa using hv);exact ⟨t,by rw[e];congr 1;omega⟩
 have:=go acc.toList 0 fun j v hv=>by
  obtain ⟨t,e⟩:=hp j v (by simpa using hv);exact ⟨t,by rw[e];congr 1;omega⟩
 rw[Df,hz,<-EF]at this;exact this
theorem Yt(hc:X.calm=true):JX X (.type "tuple") (fun xs H Q=>∃(a:Addr) (n:Nat),xs=[.ref a]/\H a=some (.xt 0 (n:Int))/\n<=1000/\∀p,H p=none->Q (.ref p) (upd H p (.tup ((AF n).map fun (i:Nat)=>V.int (i:Int))))):=by
 intro pins s σ H xs us Q I r h;obtain ⟨a,n,rfl,ha,hn,q⟩:=h;obtain ⟨u,rfl,ru⟩:=vals1 r;cases ru;obtain ⟨t,u,v,e⟩:∃t u v,s.heap.get? a=some { cls:=.type "range",data:=.fields #[.int 0 t,.int (n:Int) u,.int 1 v] }:=I.C2 a _ ha;have hr:IsRange s.heap a 0 (n:Int) 1 t u v:=e;refine pz.U0 (n:=n) (I.ok.hd hc) hr (AAe (by omega) (by omega) (by omega) (by omega)) ?_ (by omega) fun h' tk acc' kp hacc=>?_
 ·rw[oj]
  split<;>omega
 ·have I1:Inv X pins σ H { s with heap:=h',toks:=tk }:=I.kept kp;have hv:=Ys hacc;refine ⟨.ref h'.objs.size,_,I1.laid (t':=tk) (o:=.tup ((AF n).map fun (i:Nat)=>V.int (i:Int))) (fun b ob q=>AW _ q) (AV _) ?_,rfl,q _ (I1.C2.fresh (AV _))⟩;refine ⟨by simp;exact AY hn (by decide),acc'.toList,hv,?_⟩;have e2:acc'.toList.toArray=acc':=by simp
  rw[e2];exact JG.new _ _
def J9(ns:List Int):List Int:=AB5 (fun i=>ns.getD i 0) ns.length
theorem bF(hc:X.calm=true):JX X (.type "set") (fun xs H Q=>∃(a:Addr) (ns:List Int),xs=[.ref a]/\Bq X.K H a (ns.map V.int)/\ns.length<=1000/\∀p,H p=none->Q (.ref p) (upd H p (.set (fun k=>(J9 ns).any (·==k)) (J9 ns).length))):=by
 intro pins s σ H xs us Q I r h;obtain ⟨a,ns,rfl,ha,hn,q⟩:=h;obtain ⟨u,rfl,ru⟩:=vals1 r;cases ru;obtain ⟨its,rv,pl,hz⟩:=I.list ha;have hl:=rv.length;rw[AB]at hl;refine PySem.call_set_list (I.ok.hd hc) pl.isList (intsAre_of rv) (by rw[Aa,<-hl];exact Ci (Nat.succ_le_succ hn) (by decide)) fun h' tk hS kp=>?_
 have e:its.toArray.size=ns.length:=by rw[Aa];exact hl.symm
 rw[e]at hS;have kp':∀b o,s.heap.get? b=some o->h'.get? b=some o:=fun b o e=>kp b o (Av e) e
 exact ⟨.ref s.heap.objs.size,_,I.laid (o:=.set (fun k=>(J9 ns).any (·==k)) (J9 ns).length) kp' (AV _) hS,rfl,q _ I.fresh⟩
theorem call_len_set:JX X (.builtin "len") (fun xs H Q=>∃(a:Addr) (S:Int->Bool) (n:Nat),xs=[.ref a]/\H a=some (.set S n)/\n<=1000/\Q (.int n) H):=by
 intro pins s σ H xs us Q I r h;obtain ⟨a,S,n,rfl,ha,hn,q⟩:=h;obtain ⟨u,rfl,ru⟩:=vals1 r;cases ru;obtain ⟨o,es,ep,t,ho,hex,hd,_,_,hb,hf,hn'⟩:s.heap.SetOf (intKind X.prog X.w) a S n:=I.C2 a _ ha;exact PySem.call_len_set ho hex hd hf (by omega) ⟨.int n,H,I.tok _,⟨_,by rw[hn']⟩,q⟩
end
def uA(K:AE)(a:Addr):It :=
 ⟨fun i H=>∃(xs:List V) (x:V),DR K H a xs/\xs[i]?=some x,fun i H v H'=>∃T x,v=.ref T/\H T=none/\H'=upd H T (.tup [.int (i:Nat),x])/\∀xs,DR K H a xs->xs[i]?=some x,fun i H=>∃xs:List V,DR K H a xs/\xs.length=i⟩
theorem lW{P:Program}{w:World}{K:AE}{elts:List Expr}{kk:Nat}{tpos:Pos}(a e it:Addr) :
  Turn P w K (.Tuple elts kk tpos) (uA K a) [e,it] e (fun i h=>(∃old,IsEnum h e it ((i:Nat):Int) old)/\h.IsTupleIter it a i/\e≠it) where
 mem:=by simp
 obj:=fun i h st b hb=>by
  obtain ⟨⟨old,he⟩,⟨o,ho,hc,hd⟩,_⟩:=st;have e':b=e\/b=it:=by simpa using hb
  rcases e' with z|z
  ·rw[z];exact ⟨_,he,fun v q=>nomatch q⟩
  ·rw[z];exact ⟨o,ho,fun v q=>by rw[hd]at q;cases q⟩
 keep:=fun i h h' st k=>let ⟨⟨old,he⟩,⟨o,ho,r⟩,hne⟩:=st;⟨⟨old,k e (by simp) _ he⟩,⟨o,k it (by simp) o ho,r⟩,hne⟩
 item:=by
  intro X hP hw hK hc i pins s σ H E I hf st hg;subst hP hw hK;obtain ⟨⟨old,he⟩,hit,hne⟩:=st;obtain ⟨xs,x,hq,hx⟩:=hg;obtain ⟨its,rv,p,hz⟩:=I.tuple hq;obtain ⟨u,hu,ru⟩:=rv.get hx;have hel:e<s.heap.objs.size:=Av he;have hil:it<s.heap.objs.size:=by obtain ⟨_,q,_⟩:=hit;exact Av q
  have hae:e≠a:=fun z=>by
   obtain ⟨o,ho,hcl,_⟩:=p;rw[z]at he;rw[he]at ho;cases ho;have hcl:Ge "enumerate" = Ge "tuple" := hcl;injection hcl with z2
   exact absurd z2 (by decide)
  have hai:a≠it:=fun z=>by
   obtain ⟨o,ho,hcl,_⟩:=p;obtain ⟨o2,ho2,hc2,_⟩:=hit;rw[z,ho2]at ho;cases ho;rw[hc2]at hcl;injection hcl with z2
   exact absurd z2 (by decide)
  have hlt:i<its.toArray.size:=by
   have h1:=rv.length;have h2:=(Ap.mp hx).1;rw[Aa];omega
  refine wpAny_pyNext_enum_itemD (pz.WC (A:=X.A.in1) (I.ok.hd hc) it a hai its.toArray) he ⟨hit,p⟩ hlt hne (by simp[hne,hae]) fun x' h' tk hP ho hst' hT hsz hk=>?_
  have ex:x'=u:=by
   have hP:its.toArray[i]?=some x':=hP;have hu':its.toArray[i]?=some u:=by simpa using hu
   exact Al (hP.symm.trans hu')
  subst ex;refine ⟨_,rfl,ku (s:={ s with heap:=h',toks:=tk+1 }) ho fun h'' he' sb=>?_⟩;have hT2:h''.get? s.heap.objs.size=some { cls:=.type "tuple",data:=.seq #[.int i tk,x'] }:=(sb.2 _ (W3 hel)).trans hT;have new:Eo X.prog X.w (upd H s.heap.objs.size (.tup [.int (i:Nat),x])) h'' s.heap.objs.size (.tup [.int (i:Nat),x]) :=
   ⟨by show 2<=sizeLine;decide,[.int i tk,x'],.cons ⟨_,rfl⟩ (.cons ru .nil),⟨_,hT2,rfl,⟨_,rfl⟩,rfl⟩⟩
  have I1:Inv X pins σ (upd H s.heap.objs.size (.tup [.int (i:Nat),x])) { s with heap:=h'',toks:=tk+1 } :=
   I.cb (ch:=[e,it]) (fun b ob hb q=>(sb.2 b (fun z=>hb (by simp[z]))).trans (hk b ob (fun z=>hb (by simp[z])) (fun z=>hb (by simp[z])) q)) hf (AV _) new
  refine ⟨.ref s.heap.objs.size,_,I1,rfl,⟨_,x,rfl,I.C2.fresh (AV _),rfl,fun ys hy=>by rw[I.cT hy hq];exact hx⟩,⟨⟨x',?_⟩,?_,hne⟩,fun b hb=>?_⟩
  ·have e1:((i+1:Nat):Int)=(i:Int)+1:=by omega
   rw[e1];exact he'
  ·obtain ⟨o3,ho3,r3⟩:=hst'.1;exact ⟨o3,(sb.2 it (Cr hne)).trans ho3,r3⟩
  ·have hb':b<s.heap.objs.size:=by
    have e':b=e\/b=it:=by simpa using hb
    rcases e' with z|z
    ·rw[z];exact hel
    ·rw[z];exact hil
   rw[A2 (Bl hb')];exact (hf b hb).1
 done:=by
  intro X hP hw hK hc i pins s σ H E I hf st hg;subst hP hw hK;obtain ⟨⟨old,he⟩,hit,hne⟩:=st;obtain ⟨xs,hq,hx⟩:=hg;obtain ⟨its,rv,p,hz⟩:=I.tuple hq;obtain ⟨f0,f1,f2,f3,f4,f5⟩:=hf it (by simp);have hl:=rv.length;have hai:a≠it:=fun z=>by
   obtain ⟨o,ho,hcl,_⟩:=p;obtain ⟨o2,ho2,hc2,_⟩:=hit;rw[z,ho2]at ho;cases ho;rw[hc2]at hcl;injection hcl with z2
   exact absurd z2 (by decide)
  have ei:i=its.toArray.size:=by rw[Aa];omega
  rw[ei]at hit;exact wpAny_pyNext_enum_endD (pz.WC (A:=X.A.in1) (I.ok.hd hc) it a hai its.toArray) he ⟨hit,p⟩ fun h' eb=>⟨rfl,I.turned (t':=s.toks) (fun b o hb q=>eb b o hb q) f0 f1 f3 f4 f5⟩
 self:=fun A i s Q E st h=>let ⟨⟨_,he⟩,_⟩:=st;OM he h
def zg(K:AE)(ta:TA):TI:=fun σ H R=>ta σ H fun vs H1=>∃a xs,vs=[.ref a]/\DR K H1 a xs/\R (uA K a) H1
theorem jD{X:Cx}{e:Expr}{ta:TA}{p pos tpos:Pos}{elts:List Expr}{kk:Nat}(hg:Gl X "enumerate")(hm:X.mg "enumerate" = none)(ha:PA X [e] ta)(hs:starEach [e] X.env=[(false,eval e X.env)]:=by rfl) :
  PI X (.Tuple elts kk tpos) (.Call (.Name "enumerate" p) [e] [] pos) (zg X.K ta):=by
 intro pins s σ H R I h;refine Call_ (M6 I hg hm ACD (Cn (FH (ha pos pins s σ H _ I h) fun us s1 ⟨vs,H1,I1,r1,q1⟩=>?_) hs rfl));obtain ⟨a,xs,ex,hq,q⟩:=q1;subst ex;cases r1 with
 |cons r rr =>
  cases rr;cases r;obtain ⟨its,rv,p',hz⟩:=I1.tuple hq;refine pz.Ov p' fun h' he hit hsz hk=>OM he ?_
  have I2:Inv X pins σ H1 { s1 with heap:=h' }:=I1.kept (t':=s1.toks) hk;refine ⟨s1.heap.objs.size+1,[s1.heap.objs.size+1,s1.heap.objs.size],_,_,H1,rfl,I2,lW a (s1.heap.objs.size+1) s1.heap.objs.size,⟨⟨.none,he⟩,hit,vZ _⟩,fun b hb=>?_,q⟩;have e':b=s1.heap.objs.size+1\/b=s1.heap.objs.size:=by simpa using hb
  have hle:s1.heap.objs.size<=b:=by
   rcases e' with z|z
   ·rw[z];exact vc _ _
   ·rw[z];exact AV _
  exact I1.lF hle (I1.C2.fresh hle)
theorem cn{K:AE}{a:Addr}{xs:List V}{g:TG}{tb:TS}{D:Ends}{σ:St}{H:Hp}(Pv:Nat->St->Hp->Prop)(h0:Pv 0 σ H)(hl:∀i σ H,i<=xs.length->Pv i σ H->DR K H a xs)
  (hs:∀i x σ H T,xs[i]?=some x->Pv i σ H->H T=none->g (.ref T) σ (upd H T (.tup [.int (i:Nat),x])) fun σ2 H2=>tb { D with nx:=Pv (i+1),ct:=Pv (i+1),bk:=D.nx } σ2 H2) (hd:∀σ H,Pv xs.length σ H->D.nx σ H) :
  ∃W:Nat->Nat->St->Hp->Prop,(∃m,W 0 m σ H)/\∀i m σ H,W i m σ H ->
   ((uA K a).stop i H/\D.nx σ H)\/((uA K a).go i H/\∃N:St->Hp->Prop,(∀σ' H',N σ' H'->∃m',m'<m/\W (i+1) m' σ' H')/\∀x H',(uA K a).ng i H x H'->g x σ H' fun σ2 H2=>tb { D with nx:=N,ct:=N,bk:=D.nx } σ2 H2):=by
 refine ⟨fun i m σ H=>m=xs.length-i/\i<=xs.length/\Pv i σ H,⟨xs.length,by simp,Bb _,h0⟩,?_⟩;rintro i m σ H ⟨rfl,hi,p⟩;have q:=hl i σ H hi p
 by_cases hlt:i<xs.length
 ·refine .inr ⟨⟨xs,xs[i],q,by simp[hlt]⟩,Pv (i+1),fun σ' H' p'=>⟨xs.length-(i+1),by omega,rfl,hlt,p'⟩,fun x H' y=>?_⟩;obtain ⟨T,x',ex,hT,eH,y⟩:=y;subst ex eH;exact hs i x' σ H T (y xs q) p hT
 ·have e:i=xs.length:=by omega
  subst e;exact .inl ⟨⟨xs,q,rfl⟩,hd σ H p⟩
theorem uB{K:AE}{a:Addr}{xs:List V}{g:TG}{tb:TS}{D:Ends}{σ:St}{H:Hp}(Pv:Nat->St->Hp->Prop)(h0:Pv 0 σ H)(hl:∀i σ H,i<=xs.length->Pv i σ H->Bq K H a xs)
  (hs:∀i x σ H T,xs[i]?=some x->Pv i σ H->H T=none->g (.ref T) σ (upd H T (.tup [.int (i:Nat),x])) fun σ2 H2=>tb { D with nx:=Pv (i+1),ct:=Pv (i+1),bk:=D.nx } σ2 H2) (hd:∀σ H,Pv xs.length σ H->D.nx σ H) :
  ∃W:Nat->Nat->St->Hp->Prop,(∃m,W 0 m σ H)/\∀i m σ H,W i m σ H ->
   ((Ite K a).stop i H/\D.nx σ H)\/((Ite K a).go i H/\∃N:St->Hp->Prop,(∀σ' H',N σ' H'->∃m',m'<m/\W (i+1) m' σ' H')/\∀x H',(Ite K a).ng i H x H'->g x σ H' fun σ2 H2=>tb { D with nx:=N,ct:=N,bk:=D.nx } σ2 H2):=by
 refine ⟨fun i m σ H=>m=xs.length-i/\i<=xs.length/\Pv i σ H,⟨xs.length,by simp,Bb _,h0⟩,?_⟩;rintro i m σ H ⟨rfl,hi,p⟩;have q:=hl i σ H hi p
 by_cases hlt:i<xs.length
 ·refine .inr ⟨⟨xs,xs[i],q,by simp[hlt]⟩,Pv (i+1),fun σ' H' p'=>⟨xs.length-(i+1),by omega,rfl,hlt,p'⟩,fun x H' y=>?_⟩;obtain ⟨T,x',ex,hT,eH,y⟩:=y;subst ex eH;exact hs i x' σ H T (y xs q) p hT
 ·have e:i=xs.length:=by omega
  subst e;exact .inl ⟨⟨xs,q,AV _⟩,hd σ H p⟩
section
variable {X:Cx}
def ACp(tk tv:TE):TE:=fun σ H Q=>∀p,H p=none->tk σ (upd H p (.dT [])) fun x H1=>tv σ H1 fun y H2=>∃b k,x=.ref b/\H2 b=some (.tup (k.map kV))/\H2 p=some (.dT [])/\Q (.ref p) (upd H2 p (.dT [(k,y)]))
theorem p9{ke ve:Expr}{tk tv:TE}{pos:Pos}(hu:X.A.units+1<cLine)(hk:PE X ke tk)(hv:PE X ve tv):PE X (.Dict [some ke] [ve] pos) (ACp tk tv):=by
 intro pins s σ H Q I h;have hn:H s.heap.objs.size=none:=I.fresh;have I1:=I.laid (a:=s.heap.objs.size) (o:=.dT []) (h':=s.heap.push { cls:=.type "dict",data:=.dict #[] }) (t':=s.toks) (fun _ _ q=>AW _ q) (AV _) (t4 s.heap I.big);refine pz.t9 (knd:=tupleKind (FI X.prog X.w)) (show (tupleKind (FI X.prog X.w)).room X.A from Nat.lt_of_succ_lt hu) (FH (hk pins _ σ _ _ I1 (h _ hn)) fun kv s1 ⟨x,H1,I2,rx,q1⟩=>FH (hv pins s1 σ H1 _ I2 q1) fun vv s2 ⟨y,H2,I3,ry,b,k,ex,eb,ep,q2⟩=>?_);subst ex;obtain rfl:kv=CG b:=rx;obtain ⟨z,hd,xs,rel,dd⟩:=yH I3.C2 ep;cases rel;refine ⟨b,k,rfl,fu I3.C2 eb,dd,fun h' tk dd' hs=>⟨.ref s.heap.objs.size,_,?_,rfl,q2⟩⟩;obtain ⟨q,es,ep',hq,h2,h3,h4,_,h5⟩:=dd';refine fv I3 (by rw[ep];exact Em) hs ⟨q,hq⟩ ⟨by show 1<=sizeLine;decide,hd,[(k,b,vv)],.cons ⟨rfl,?_,ry⟩ .nil,q,es,ep',hq,h2,h3,h4,h5⟩;show upd H2 s.heap.objs.size (.dT [(k,y)]) b=some (.tup (k.map kV));rw[A2 (CI eb ep (fun z=>nomatch z))];exact eb
def zh(X:Cx)(tf:TE)(t:TA):TE:=fun σ H Q=>tf σ H fun x H1=>∃f:Addr,x=.ref f/\D7 X.K (.ref f)=true/\t σ H1 fun vs H2 =>
 ∃(k:Nat) (fd:FuncData) (ps:List Str) (sp:Sp),Bv X.prog X.w X.K X.mg X.base EE k f fd ps sp/\GB k X.A/\Binds X.K fd ps []/\sp vs H2 Q E0
theorem uC{func e:Expr}{es:List Expr}{tf:TE}{t:TA}{pos:Pos}(hf:PE X func tf)(ha:PA X (e::es) t)
  (he:starEach (e::es) X.env=(false,eval e X.env)::starEach es X.env:=by rfl) (hpl:(backTo pos (starEach es X.env)).any (·.1)=false:=by rfl)
  (hc:eval (.Call func (e::es) [] pos) X.env=(do callWith pos (<-eval func X.env) [] (backTo pos (starEach (e::es) X.env)) (backToKw pos (keywordEach [] X.env))):=by rfl) :
  PE X (.Call func (e::es) [] pos) (zh X tf t):=by
 intro pins s σ H Q I h;refine Call_ (FH (hf pins s σ H _ I h) fun u s1 ⟨x,H1,I1,rx,f,ex,kp,q1⟩=>?_) hc;subst ex;obtain rfl:u=CG f:=rx;refine J0 (h₀:=X.base) I.ok.mod.yx kp (FH (ha pos pins s1 σ H1 _ I1 q1) fun us s2 ⟨vs,H2,I2,r,q2⟩=>⟨I2.kl,?_⟩) he hpl;obtain ⟨k,fd,ps,sp,F,hr,hb,q⟩:=q2;exact fX (dvs:=[]) F hr hb .nil Ay I2 r (by rw[B1];exact q)
end
section
variable {X:Cx}
theorem M7(K:AE)(h:X.K=K):wW X (zN K):=by
 subst h;exact CU
theorem Hc(K:AE)(h:X.K=K):wW X (zM K):=by
 subst h;exact Be
theorem oE(K:AE)(h:X.K=K){e:Expr}{f:Str}{pos:Pos}{ta:TE}(he:PE X e ta)(hb:attributeBase e f X.env (eval e X.env)=eval e X.env):PE X (.Attribute e f pos) (ABH K ta f):=by
 subst h;exact Ao he hb
theorem bG(K:AE)(h:X.K=K):JX X (.builtin "len") (fun xs H Q=>∃p ys,xs=[.ref p]/\(Bq K H p ys\/DR K H p ys)/\Q (.int ys.length) H):=by
 subst h;exact A4
theorem lX(K:AE)(h:X.K=K):V9 X (compareOp .In) (rIn K false):=by
 subst h;exact Ju
end
end L2
namespace SH
open PySem PySem.Spec PyProof.Rows L2
abbrev vN(n:Nat):V:=.int (n:Int)
def nums(l:List Nat):List V:=l.map vN
theorem Bf(l:List Nat):(nums l).length=l.length:=AB _
theorem Yu{l:List Nat}{i x:Nat}(h:l[i]?=some x):(nums l)[i]?=some (vN x):=by
 unfold nums;rw[BH,h];rfl
theorem MF{l:List Nat}{i:Nat}{v:V}(h:(nums l)[i]?=some v):∃x,l[i]?=some x/\v=vN x:=by
 unfold nums at h;rw[BH]at h;cases e:l[i]? with
 |none=>rw[e]at h;cases h
 |some x=>rw[e]at h;exact ⟨x,rfl,(Al h).symm⟩
theorem CQ{l:List Nat}{i x:Nat}(h:l[i]?=some x):wU (nums l) (i:Int)=some (vN x):=fe (Yu h)
theorem DF{l:List Addr}{i:Nat}{x:Addr}(h:l[i]?=some x):wU (l.map V.ref) (i:Int)=some (V.ref x):=fe (by rw[BH,h];rfl)
theorem KA(l:List Nat)(i x:Nat):(nums l).set i (vN x)=nums (l.set i x):=by
 unfold nums;rw[AAM]
theorem Il(l m:List Nat):nums l++nums m=nums (l++m):=by
 unfold nums;rw[BS]
theorem Qi(l:List Nat)(x:Nat):nums l++[vN x]=nums (l++[x]):=Il l [x]
theorem uD{a b:Nat}:vN a=vN b ↔ a=b:=by
 constructor
 ·intro h;injection h with h;omega
 ·intro h;rw[h]
theorem Gy(a b:Nat):decide (vN a=vN b)=decide (a=b):=by
 by_cases h:a=b
 ·rw[decide_eq_true (uD.mpr h),decide_eq_true h]
 ·rw[decide_eq_false (fun z=>h (uD.mp z)),decide_eq_false h]
theorem dec_lt(a b:Nat):decide ((a:Int)<(b:Int))=decide (a<b):=by
 by_cases h:a<b
 ·rw[decide_eq_true h,decide_eq_true (by omega)]
 ·rw[decide_eq_false h,decide_eq_false (by omega)]
theorem f6(a b:Nat):decide ((a:Int)<=(b:Int))=decide (a<=b):=by
 by_cases h:a<=b
 ·rw[decide_eq_true h,decide_eq_true (by omega)]
 ·rw[decide_eq_false h,decide_eq_false (by omega)]
theorem HL(l:List Nat):(nums l).all JY=true:=by
 unfold nums;rw[Bc];intro x hx;obtain ⟨n,_,rfl⟩:=BE.mp hx;rfl
theorem Im(x:Nat):∀l:List Nat,rS (vN x) (nums l)=l.contains x
 |[]=>rfl
 |y::l=>by
  have ih:=Im x l;unfold rS nums at ih ⊢;rw[Az,GA,ih,Ub]
  congr 1
  show ((y:Int)==(x:Int))=(x==y)
  by_cases e:x=y
  ·subst e;simp
  ·have e2:¬(y:Int)=(x:Int):=by omega
   rw[beq_eq_false_iff_ne.mpr e,beq_eq_false_iff_ne.mpr e2]
theorem Ow{n i:Nat}(h:i<n):wR n (i:Int)=some i:=by
 unfold wR;rw[if_pos (by omega),if_pos (by omega),A8]
theorem small{n:Nat}(h:n<=1000):n<=sizeLine:=AY h (by decide)
theorem As{H:Hp}{p:Addr}{o:HO}(h:H p=none):Aw H (upd H p o):=fun b u e=>by
 rw[A2 (Af e h)];exact e
theorem _root_.L2.Aw.upd{H H1:Hp}{p:Addr}{o:HO}(s:Aw H H1)(h:H1 p=none):Aw H (upd H1 p o):=s.trans (As h)
theorem _root_.L2.Aw.put{H H1:Hp}{p:Addr}{o:HO}(s:Aw H H1)(h:H p=none):Aw H (L2.upd H1 p o):=fun b u e=>by
 rw[A2 (Af e h)];exact s b u e
theorem CJ{α β:Type}{R:α->β->Prop}:∀{as:List α} {xs:List β} {i:Nat} {x:β},Paired R as xs->xs[i]?=some x->∃a,as[i]?=some a/\R a x
 |_,_,_,_,.nil,h=>by simp at h
 |_,_,0,_,.cons r _,h=>by
  have h:=Al h;subst h;exact ⟨_,rfl,r⟩
 |_,_,i+1,x,.cons _ t,h=>by
  obtain ⟨a,h1,h2⟩:=CJ (i:=i) (x:=x) t (by simpa using h);exact ⟨a,by simpa using h1,h2⟩
theorem Dg{α β:Type}{R:α->β->Prop}:∀{as:List α} {xs:List β} {i:Nat} {a:α},Paired R as xs->as[i]?=some a->∃x,xs[i]?=some x/\R a x
 |_,_,_,_,.nil,h=>by simp at h
 |_,_,0,_,.cons r _,h=>by
  have h:=Al h;subst h;exact ⟨_,rfl,r⟩
 |_,_,i+1,x,.cons _ t,h=>by
  obtain ⟨a,h1,h2⟩:=Dg (i:=i) (a:=x) t (by simpa using h);exact ⟨a,by simpa using h1,h2⟩
theorem FE{α β:Type}{R:α->β->Prop}:∀{as bs:List α} {xs ys:List β},Paired R as xs->Paired R bs ys->Paired R (as++bs) (xs++ys)
 |_,_,_,_,.nil,s=>s
 |_,_,_,_,.cons r t,s=>.cons r (FE t s)
theorem Yv{α β:Type}{R:α->β->Prop}{a:α}{x:β}(r:R a x):∀{as:List α} {xs:List β} (i:Nat),Paired R as xs->Paired R (as.set i a) (xs.set i x)
 |_,_,_,.nil=>.nil
 |_,_,0,.cons _ t=>.cons r t
 |_,_,i+1,.cons q t=>.cons q (Yv r i t)
theorem WD{α β:Type}{R:α->β->Prop}:∀{as:List α} {xs:List β} (n:Nat),Paired R as xs->Paired R (as.take n) (xs.take n)
 |_,_,0,_=>.nil
 |_,_,_+1,.nil=>.nil
 |_,_,n+1,.cons r t=>.cons r (WD n t)
theorem Ad{α β:Type}{R R':α->β->Prop}{as:List α}{xs:List β}(h:Paired R as xs)(f:∀a x,R a x->R' a x):Paired R' as xs:=Paired.wH h f
def TN(H:Hp)(a:Addr)(l:List Nat):Prop:=H a=some (.tup (nums l))
def LN(H:Hp)(a:Addr)(l:List Nat):Prop:=H a=some (.lst (nums l))
def U2(H:Hp)(a:Addr)(q:Nat×Nat):Prop:=H a=some (.tup [vN q.1,vN q.2])
theorem TN.same{H H':Hp}{a:Addr}{l:List Nat}(h:TN H a l)(s:Aw H H'):TN H' a l:=s _ _ h
theorem LN.same{H H':Hp}{a:Addr}{l:List Nat}(h:LN H a l)(s:Aw H H'):LN H' a l:=s _ _ h
theorem U2.same{H H':Hp}{a:Addr}{q:Nat×Nat}(h:U2 H a q)(s:Aw H H'):U2 H' a q:=s _ _ h
def rkM(w:List (List Nat)):List (List Nat):=(AF w.length).map fun a=>(AF w.length).map (rk w a)
theorem Tn(w:List (List Nat)){a:Nat}(ha:a<w.length):(rkM w)[a]?=some ((AF w.length).map (rk w a)):=by
 unfold rkM;rw[BH,FT ha];rfl
theorem M8(w:List (List Nat))(a:Nat){b:Nat}(hb:b<w.length):((AF w.length).map (rk w a))[b]?=some (rk w a b):=by
 rw[BH,FT hb];rfl
def wF(la:Addr)(n:Nat)(ra ta:Addr):List (Str×V):=B3 "twos" (.ref ta) (B3 "ranks" (.ref ra) (B3 "number" (vN n) (B3 "lists" (.ref la) [])))
theorem MG(la:Addr)(n:Nat)(ra ta:Addr):(wF la n ra ta).lookup ("lists" : Str)=some (.ref la):=by
 unfold wF;rw[CK,if_neg (by decide +kernel),CK,if_neg (by decide +kernel),CK,if_neg (by decide +kernel),CK,if_pos rfl]
theorem Co(la:Addr)(n:Nat)(ra ta:Addr):(wF la n ra ta).lookup ("number" : Str)=some (vN n):=by
 unfold wF;rw[CK,if_neg (by decide +kernel),CK,if_neg (by decide +kernel),CK,if_pos rfl]
theorem MH(la:Addr)(n:Nat)(ra ta:Addr):(wF la n ra ta).lookup ("ranks" : Str)=some (.ref ra):=by
 unfold wF;rw[CK,if_neg (by decide +kernel),CK,if_pos rfl]
theorem To(la:Addr)(n:Nat)(ra ta:Addr):(wF la n ra ta).lookup ("twos" : Str)=some (.ref ta):=by
 unfold wF;rw[CK,if_pos rfl]
theorem Tp{m:Str}(la:Addr)(n:Nat)(ra ta:Addr)(h1:¬m = "lists")(h2:¬m = "number")(h3:¬m = "ranks")(h4:¬m = "twos"):(wF la n ra ta).lookup m=none:=by
 unfold wF;rw[CK,if_neg h4,CK,if_neg h3,CK,if_neg h2,CK,if_neg h1];rfl
def Q4(H:Hp)(a:Addr)(w:List (List Nat)):Prop:=∃as:List Addr,H a=some (.tup (as.map V.ref))/\Paired (TN H) as w
theorem Q4.same{H H':Hp}{a:Addr}{w:List (List Nat)}(h:Q4 H a w)(s:Aw H H'):Q4 H' a w:=by
 obtain ⟨as,h1,h2⟩:=h;exact ⟨as,s _ _ h1,Ad h2 fun _ _ r=>r.same s⟩
def jE(H:Hp)(a:Addr)(w:List (List Nat)):Prop:=∃as:List Addr,H a=some (.lst (as.map V.ref))/\Paired (LN H) as w
def Jl(H:Hp)(a:Addr)(w:List (Nat×Nat)):Prop:=∃as:List Addr,H a=some (.lst (as.map V.ref))/\Paired (U2 H) as w
def Nh(H:Hp)(a:Addr)(w:List (List Nat)):Prop:=∃as:List Addr,H a=some (.lst (as.map V.ref))/\Paired (TN H) as w
theorem jE.same{H H':Hp}{a:Addr}{w:List (List Nat)}(h:jE H a w)(s:Aw H H'):jE H' a w:=by
 obtain ⟨as,h1,h2⟩:=h;exact ⟨as,s _ _ h1,Ad h2 fun _ _ r=>r.same s⟩
theorem Jl.same{H H':Hp}{a:Addr}{w:List (Nat×Nat)}(h:Jl H a w)(s:Aw H H'):Jl H' a w:=by
 obtain ⟨as,h1,h2⟩:=h;exact ⟨as,s _ _ h1,Ad h2 fun _ _ r=>r.same s⟩
theorem Nh.same{H H':Hp}{a:Addr}{w:List (List Nat)}(h:Nh H a w)(s:Aw H H'):Nh H' a w:=by
 obtain ⟨as,h1,h2⟩:=h;exact ⟨as,s _ _ h1,Ad h2 fun _ _ r=>r.same s⟩
def B4(C:Addr)(H:Hp)(a:Addr)(w:List (List Nat)):Prop :=
 ∃dx la ra ta:Addr,H a=some (.ins C dx (wF la w.length ra ta))/\Q4 H la w/\jE H ra (rkM w)/\Jl H ta (Gx w)
theorem B4.same{C:Addr}{H H':Hp}{a:Addr}{w:List (List Nat)}(h:B4 C H a w)(s:Aw H H'):B4 C H' a w:=by
 obtain ⟨dx,la,ra,ta,h1,h2,h3,h4⟩:=h;exact ⟨dx,la,ra,ta,s _ _ h1,h2.same s,h3.same s,h4.same s⟩
open PySem PySem.Spec PyProof.Rows L2
theorem EU{α β:Type}{R:α->β->Prop}{as:List α}{xs:List β}{a:α}{x:β}(h:Paired R as xs)(r:R a x):Paired R (as++[a]) (xs++[x]):=FE h (.cons r .nil)
theorem Io{α:Type}(f:α->Bool)(l:List α)(x:α):(l++[x]).filter f=l.filter f++(if f x=true then [x] else []):=by
 rw[UZ,Bm,vR]
theorem take_snoc{α:Type}:∀{l:List α} {i:Nat} {x:α},l[i]?=some x->l.take (i+1)=l.take i++[x]
 |[],i,x,h=>by simp at h
 |a::l,0,x,h=>by
  have e:a=x:=Al h;subst e;rfl
 |a::l,i+1,x,h=>by
  have ih:=take_snoc (l:=l) (i:=i) (x:=x) (by simpa using h);show a::l.take (i+1)=a::l.take i++[x];rw[ih];rfl
def CC(D:Addr)(H H':Hp):Prop:=∀b o,b≠D->H b=some o->H' b=some o
theorem _root_.L2.Aw.x{D:Addr}{H H':Hp}(s:Aw H H'):CC D H H':=fun b o _ e=>s b o e
theorem CT{D:Addr}{H:Hp}{o:HO}:CC D H (upd H D o):=fun b u hb e=>by rw[A2 hb];exact e
def IsL(H:Hp)(D:Addr):Prop:=∃zs,H D=some (.lst zs)
theorem IsL.same{H H':Hp}{D:Addr}(h:IsL H D)(s:Aw H H'):IsL H' D:=let ⟨zs,e⟩:=h;⟨zs,s _ _ e⟩
theorem IsL.Gz{H:Hp}{D b:Addr}{xs:List V}(h:IsL H D)(e:H b=some (.tup xs)):b≠D:=by
 obtain ⟨zs,hz⟩:=h;exact CI e hz (fun z=>nomatch z)
section
variable {v:Nat} {vs:List Nat} {tt:TT} {te:TE} {σ:L2.St} {H1:Hp} {D:Addr} {Qd:Hp->Prop}
theorem Fs{n:Nat}(f:Nat->Bool)(R:Nat->V->Hp->Prop)(mono:∀i y H H',R i y H->CC D H H'->R i y H')(hn:n<=1000)(hD:H1 D=none)
  (hσ:∀x,wipe ((wipe σ vs).set v (some x)) vs=wipe σ vs)
  (ht:∀i H' (Q:Bool->Hp->Prop),i<n->Aw H1 H'->IsL H' D->(∀H'',Aw H' H''->Q (f i) H'')->tt ((wipe σ vs).set v (some (vN i))) H' Q)
  (he:∀i H' (Q:VK),i<n->f i=true->Aw H1 H'->IsL H' D->(∀y H'',Aw H' H''->R i y H''->Q y H'')->te ((wipe σ vs).set v (some (vN i))) H' Q)
  (hd:∀H' ys,Aw H1 H'->H' D=some (.lst ys)->Paired (fun y i=>R i y H') ys ((AF n).filter f)->Qd H') :
  ∃W:Nat->Nat->Hp->Prop,(∃m,W 0 m (upd H1 D (.lst [])))/\∀i m H,W i m H ->
   ((pU 0 n).stop i H/\Qd H)\/((pU 0 n).go i H/\∃Nx:Hp->Prop,(∀H',Nx H'->∃m',m'<m/\W (i+1) m' H')/\∀x H',(pU 0 n).ng i H x H'->YR v x (wipe σ vs) H' fun σ2 H2=>wipe σ2 vs=wipe σ vs/\tt σ2 H2 fun b H3 =>
    if b=true then te σ2 H3 fun y H4=>∃acc,H4 D=some (.lst acc)/\acc.length<sizeLine/\Nx (upd H4 D (.lst (acc++[y]))) else Nx H3):=by
 refine tZ (fun i H'=>Aw H1 H'/\∃ys,H' D=some (.lst ys)/\Paired (fun y i=>R i y H') ys ((AF i).filter f)) ⟨As hD,[],AK,.nil⟩ ?_ ?_
 ·rintro i H' hi ⟨s,ys,hy,r⟩;have e0:(V.int (0+(i:Int)))=vN i:=by rw[OV]
  rw[e0];have hl:ys.length<=i:=by
   rw[AX r];exact AY (Ax _ _) (by simp)
  refine ⟨hσ _,ht i H' _ hi s ⟨ys,hy⟩ fun H2 s2=>?_⟩;rw[HQ,Io];cases hf:f i with
  |false =>
   simp only[Cf,if_false,B1];exact ⟨s.trans s2,ys,s2 _ _ hy,Ad r fun _ _ q=>mono _ _ _ _ q s2.x⟩
  |true =>
   simp only[if_true];refine he i H2 _ hi hf (s.trans s2) ⟨ys,s2 _ _ hy⟩ fun y H3 s3 ry=>⟨ys,s3 _ _ (s2 _ _ hy),Ci hl (A9 hi (small hn)),((s.trans s2).trans s3).put hD,ys++[y],AK,?_⟩
   exact EU (Ad r fun _ _ q=>mono _ _ _ _ (mono _ _ _ _ q (s2.trans s3).x) CT) (mono _ _ _ _ ry CT)
 ·rintro H' ⟨s,ys,hy,r⟩;exact hd H' ys s hy r
theorem E1{α:Type}{K:AE}{a:Addr}{xs:List V}{zs:List α}(Z:V->α->Prop)(f:α->Bool)(R:α->V->Hp->Prop)(hx:Paired Z xs zs)(mono:∀i y H H',R i y H->CC D H H'->R i y H')(hn:zs.length<=1000)(hD:H1 D=none)
  (ha:Bq K H1 a xs) (hσ:∀x,wipe ((wipe σ vs).set v (some x)) vs=wipe σ vs)
  (ht:∀x z H' (Q:Bool->Hp->Prop),z∈zs->Z x z->Aw H1 H'->IsL H' D->(∀H'',Aw H' H''->Q (f z) H'')->tt ((wipe σ vs).set v (some x)) H' Q)
  (he:∀x z H' (Q:VK),z∈zs->Z x z->f z=true->Aw H1 H'->IsL H' D->(∀y H'',Aw H' H''->R z y H''->Q y H'')->te ((wipe σ vs).set v (some x)) H' Q)
  (hd:∀H' ys,Aw H1 H'->H' D=some (.lst ys)->Paired (fun y z=>R z y H') ys (zs.filter f)->Qd H') :
  ∃W:Nat->Nat->Hp->Prop,(∃m,W 0 m (upd H1 D (.lst [])))/\∀i m H,W i m H ->
   ((tM K a).stop i H/\Qd H)\/((tM K a).go i H/\∃Nx:Hp->Prop,(∀H',Nx H'->∃m',m'<m/\W (i+1) m' H')/\∀x H',(tM K a).ng i H x H'->YR v x (wipe σ vs) H' fun σ2 H2=>wipe σ2 vs=wipe σ vs/\tt σ2 H2 fun b H3 =>
    if b=true then te σ2 H3 fun y H4=>∃acc,H4 D=some (.lst acc)/\acc.length<sizeLine/\Nx (upd H4 D (.lst (acc++[y]))) else Nx H3):=by
 refine wj (xs:=xs) (fun i H'=>Aw H1 H'/\∃ys,H' D=some (.lst ys)/\Paired (fun y z=>R z y H') ys ((zs.take i).filter f)) ⟨As hD,[],AK,.nil⟩ (fun i H' _ p=>p.1.seq ha) ?_ ?_
 ·rintro i x H' hi ⟨s,ys,hy,r⟩;obtain ⟨z,hz,rz⟩:=Dg hx hi;have hm:z∈zs:=Ar hz;have hlt:i<zs.length:=(Ap.mp hz).1;have hl:ys.length<=i:=by
   rw[AX r];exact AY (Ax _ _) (by rw[B0];omega)
  refine ⟨hσ _,ht x z H' _ hm rz s ⟨ys,hy⟩ fun H2 s2=>?_⟩;rw[take_snoc hz,Io];cases hf:f z with
  |false =>
   simp only[Cf,if_false,B1];exact ⟨s.trans s2,ys,s2 _ _ hy,Ad r fun _ _ q=>mono _ _ _ _ q s2.x⟩
  |true =>
   simp only[if_true];refine he x z H2 _ hm rz hf (s.trans s2) ⟨ys,s2 _ _ hy⟩ fun y H3 s3 ry=>⟨ys,s3 _ _ (s2 _ _ hy),Ci hl (A9 hlt (small hn)),((s.trans s2).trans s3).put hD,ys++[y],AK,?_⟩
   exact EU (Ad r fun _ _ q=>mono _ _ _ _ (mono _ _ _ _ q (s2.trans s3).x) CT) (mono _ _ _ _ ry CT)
 ·rintro H' ⟨s,ys,hy,r⟩;rw[AX hx,B9]at r;exact hd H' ys s hy r
theorem Tq{α:Type}{K:AE}{a:Addr}{xs:List V}{zs:List α}(Z:V->α->Prop)(f:α->Bool)(R:α->V->Hp->Prop)(hx:Paired Z xs zs)(mono:∀i y H H',R i y H->CC D H H'->R i y H')(hn:zs.length<=1000)(hD:H1 D=none)
  (ha:H1 a=some (.tup xs)) (hσ:∀x,wipe ((wipe σ vs).set v (some x)) vs=wipe σ vs)
  (ht:∀x z H' (Q:Bool->Hp->Prop),z∈zs->Z x z->Aw H1 H'->IsL H' D->(∀H'',Aw H' H''->Q (f z) H'')->tt ((wipe σ vs).set v (some x)) H' Q)
  (he:∀x z H' (Q:VK),z∈zs->Z x z->f z=true->Aw H1 H'->IsL H' D->(∀y H'',Aw H' H''->R z y H''->Q y H'')->te ((wipe σ vs).set v (some x)) H' Q)
  (hd:∀H' ys,Aw H1 H'->H' D=some (.lst ys)->Paired (fun y z=>R z y H') ys (zs.filter f)->Qd H') :
  ∃W:Nat->Nat->Hp->Prop,(∃m,W 0 m (upd H1 D (.lst [])))/\∀i m H,W i m H ->
   ((xy K a).stop i H/\Qd H)\/((xy K a).go i H/\∃Nx:Hp->Prop,(∀H',Nx H'->∃m',m'<m/\W (i+1) m' H')/\∀x H',(xy K a).ng i H x H'->YR v x (wipe σ vs) H' fun σ2 H2=>wipe σ2 vs=wipe σ vs/\tt σ2 H2 fun b H3 =>
    if b=true then te σ2 H3 fun y H4=>∃acc,H4 D=some (.lst acc)/\acc.length<sizeLine/\Nx (upd H4 D (.lst (acc++[y]))) else Nx H3):=by
 refine zX (xs:=xs) (fun i H'=>Aw H1 H'/\∃ys,H' D=some (.lst ys)/\Paired (fun y z=>R z y H') ys ((zs.take i).filter f)) ⟨As hD,[],AK,.nil⟩ (fun i H' _ p=>DR.of (p.1 _ _ ha)) ?_ ?_
 ·rintro i x H' hi ⟨s,ys,hy,r⟩;obtain ⟨z,hz,rz⟩:=Dg hx hi;have hm:z∈zs:=Ar hz;have hlt:i<zs.length:=(Ap.mp hz).1;have hl:ys.length<=i:=by
   rw[AX r];exact AY (Ax _ _) (by rw[B0];omega)
  refine ⟨hσ _,ht x z H' _ hm rz s ⟨ys,hy⟩ fun H2 s2=>?_⟩;rw[take_snoc hz,Io];cases hf:f z with
  |false =>
   simp only[Cf,if_false,B1];exact ⟨s.trans s2,ys,s2 _ _ hy,Ad r fun _ _ q=>mono _ _ _ _ q s2.x⟩
  |true =>
   simp only[if_true];refine he x z H2 _ hm rz hf (s.trans s2) ⟨ys,s2 _ _ hy⟩ fun y H3 s3 ry=>⟨ys,s3 _ _ (s2 _ _ hy),Ci hl (A9 hlt (small hn)),((s.trans s2).trans s3).put hD,ys++[y],AK,?_⟩
   exact EU (Ad r fun _ _ q=>mono _ _ _ _ (mono _ _ _ _ q (s2.trans s3).x) CT) (mono _ _ _ _ ry CT)
 ·rintro H' ⟨s,ys,hy,r⟩;rw[AX hx,B9]at r;exact hd H' ys s hy r
end
theorem EI{f:Nat->Nat}:∀{ys:List V} {l:List Nat},Paired (fun y i=>y=vN (f i)) ys l->ys=nums (l.map f)
 |_,_,.nil=>rfl
 |_,_,.cons r t=>by rw[r,EI t];rfl
end SH
namespace L2
open PySem PySem.Spec PyProof.Rows
section
variable {P:Program} {w:World} {K:AE} {mg:Str->Option Value} {base:Heap} {A:Around} {outer:List Env} {s s':Shared} {H H' H1:Hp} {h h1 h2:Heap} {I:Addr} {fs ex:List Addr}
theorem Un.off(u:Un fs ex H H1 h h1)(hI:h.objs.size<=I)(k:∀b o,b≠I->h1.get? b=some o->h2.get? b=some o):Un fs ex H H1 h h2:=by
 have ne:∀{b:Addr} {o:Obj},h.get? b=some o->b≠I:=fun {b o} q=>Bl (A9 (Av q) hI)
 exact ⟨fun b o q n hb hx=>k b o (ne q) (u.keep b o q n hb hx),fun b o q n hb hx=>let ⟨sl,e⟩:=u.slot b o q n hb hx;⟨sl,k b _ (ne q) e⟩,u.free,fun b o q hx=>let ⟨o',e⟩:=u.there b o q hx;⟨o',k b _ (ne q) e⟩,u.Uq,u.TM,u.TQ⟩
theorem L3.off(x:L3 P w H h)(hn:H I=none)(k:∀b o,b≠I->h.get? b=some o->h2.get? b=some o):L3 P w H h2:=fun a o e=>by
 refine (x a o e).ay (fun c v hc q=>k c v ?_ q) (fun _ q=>q) fun _ _ q=>q
 rcases hc with z|z
 ·rw[z];exact Af e hn
 ·exact Af z hn
theorem Qj:∀(l:List Env),(∀b∈TR l,∀o,h.get? b=some o->∃sl,h2.get? b=some { o with slots:=sl })->h.FunFrames base l->h2.FunFrames base l
 |[],_,_=>trivial
 |env::r,hs,hl=>by
  obtain ⟨hk,⟨L,o,hf,hn,ho,hd⟩,hr⟩:=hl;have e0:TR (env::r)=L::TR r:=by unfold TR;rw[Jz,hf]
  obtain ⟨sl,e⟩:=hs L (by rw[e0];exact AI) o ho;exact ⟨hk,⟨L,_,hf,hn,e,hd⟩,Qj r (fun b hb=>hs b (by rw[e0];exact AG _ hb)) hr⟩
theorem MA.off{tk:Nat}(e:MA P w K mg base A outer s H)(hb:base.objs.size<=I)(hf:I ∉ TR outer)(hn:H I=none)(k:∀b o,b≠I->s.heap.get? b=some o->h2.get? b=some o)(hI:∃o,h2.get? I=some o) :
  MA P w K mg base A outer { s with heap:=h2,toks:=tk } H:=by
 obtain ⟨oI,hoI⟩:=hI;refine ⟨e.frames,e.mod,fun b o q=>⟨k b o (Bl (A9 (Av q) hb)) (e.bs b o q).1,(e.bs b o q).2⟩,AY hb (IF (Av hoI)),Qj outer (fun b hb' o q=>⟨o.slots,k b o (fun z=>hf (z ▸ hb')) q⟩) e.LU,e.pT,e.C2.off hn k,e.bare⟩
theorem MA.next{S:Addr}(e:MA P w K mg base A outer s H)(u:Un (TR outer) [] H H' s.heap s'.heap)(C2:L3 P w H' s'.heap)(hg:AllBare s'.gens)(hS:base.objs.size<=S)(ho:∃o,s'.heap.get? S=some o):MA P w K mg base A outer s' H':=by
 obtain ⟨oS,hoS⟩:=ho;have nf:∀b o,base.get? b=some o->b ∉ TR outer:=fun b o q hb=>by
  have:=(e.LU.mem hb).1
  rw[q]at this;cases this
 refine ⟨e.frames,e.mod,fun b o q=>⟨u.keep b o (e.bs b o q).1 (e.bs b o q).2 (nf b o q) (by simp),u.free b o (e.bs b o q).1 (e.bs b o q).2 (by simp)⟩,AY hS (IF (Av hoS)),Qj outer (fun b hb o q=>u.any q (e.pT b hb) (by simp)) e.LU,fun b hb=>?_,C2,hg⟩;obtain ⟨_,o,ho,_⟩:=e.LU.mem hb;exact u.free b o ho (e.pT b hb) (by simp)
end
def mxI(kf:Int->Int):List Int->Int
 |[]=>0
 |x::xs=>xs.foldl (fun r t=>if kf r<kf t then t else r) x
def mnI(kf:Int->Int):List Int->Int
 |[]=>0
 |x::xs=>xs.foldl (fun r t=>if kf t<kf r then t else r) x
def MM(nm nl:String)(mf:(Int->Int)->List Int->Int)(lt:Int->Int->Bool)(op:CmpOp):Prop:=nm = "max" /\ nl = "max.loop" /\ mf=mxI/\lt=(fun a b=>decide (a > b))/\op=.Gt\/nm = "min" /\ nl = "min.loop" /\ mf=mnI/\lt=(fun a b=>decide (a<b))/\op=.Lt
section
variable {nm nl:String} {mf:(Int->Int)->List Int->Int} {lt:Int->Int->Bool} {op:CmpOp}
theorem zi:MM "max" "max.loop" mxI (fun a b=>decide (a > b)) .Gt:=.inl ⟨rfl,rfl,rfl,rfl,rfl⟩
theorem zj:MM "min" "min.loop" mnI (fun a b=>decide (a<b)) .Lt:=.inr ⟨rfl,rfl,rfl,rfl,rfl⟩
theorem MM.snoc(hm:MM nm nl mf lt op)(kf:Int->Int){l:List Int}(h:l≠[])(x:Int):mf kf (l++[x])=if lt (kf x) (kf (mf kf l))=true then x else mf kf l:=by
 cases l with
 |nil=>exact absurd rfl h
 |cons a l =>
  rcases hm with ⟨_,_,rfl,rfl,_⟩|⟨_,_,rfl,rfl,_⟩<;>(show (l++[x]).foldl _ a=ite _ x (l.foldl _ a);simp only[EK,BI,List.foldl_nil,decide_eq_true_eq];rfl)
theorem MM.one(hm:MM nm nl mf lt op)(kf:Int->Int)(x:Int):mf kf [x]=x:=by
 rcases hm with ⟨_,_,rfl,_⟩|⟨_,_,rfl,_⟩<;>rfl
theorem MM.name(hm:MM nm nl mf lt op):(toString nm++toString ".loop" : String)=nl:=by
 rcases hm with ⟨rfl,rfl,_⟩|⟨rfl,rfl,_⟩<;>decide
theorem MM.cmp{P:Program}{w:World}{A:Around}{Q E:Value->Shared->Prop}{s:Shared}{a b:Int}{t u:Tok}(hm:MM nm nl mf lt op)(h:Q (.bool (lt a b)) s):wpAny (model P w) A (richCompare op (.int a t) (.int b u)) Q E s:=by
 rcases hm with ⟨_,_,_,rfl,rfl⟩|⟨_,_,_,rfl,rfl⟩
 ·exact CmpOf.ints_gt (P:=fun i v=>∃t,v=.int ((fun i=>if i=1 then a else b) i) t) (fun i=>if i=1 then a else b) (fun i v h=>h) 1 0 _ _ _ _ _ ⟨t,rfl⟩ ⟨u,rfl⟩ h
 ·exact CmpOf.ints_lt (P:=fun i v=>∃t,v=.int ((fun i=>if i=1 then a else b) i) t) (fun i=>if i=1 then a else b) (fun i v h=>h) 1 0 _ _ _ _ _ ⟨t,rfl⟩ ⟨u,rfl⟩ h
theorem MM.pl(hm:MM nm nl mf lt op):plainId nl=true:=by
 rcases hm with ⟨_,rfl,_⟩|⟨_,rfl,_⟩
 ·exact PySem.F.plain_max_loop
 ·exact PySem.F.plain_min_loop
end
def M9(outer:List Env)(pins:List (Addr×Obj))(H:Hp)(h:Heap):Prop:=∀p∈pins,h.get? p.1=some p.2/\H p.1=none/\p.1 ∉ TR outer
def ABV(P:Program)(w:World)(K:AE)(mg:Str->Option Value)(base:Heap)(A:Around)(outer:List Env)(Gd:Hp->Prop)(pins:List (Addr×Obj))(q:Addr)(n k:Int):Prop :=
 ∀(s:Shared) (H:Hp) (t:Tok),MA P w K mg base A outer s H->Gd H->M9 outer pins H s.heap ->
  wpAny (model P w) A (call (.ref q) [.int n t]) (fun x s'=>∃t2 H',x=.int k t2/\s'.os=s.os/\AllBare s'.gens/\Un (TR outer) [] H H' s.heap s'.heap/\L3 P w H' s'.heap/\Gd H') (fun _ _=>False) s
theorem Yw{l:List Int}{i:Nat}{x:Int}(h:l[i]?=some x):l.take (i+1)=l.take i++[x]:=by
 rw[List.take_succ,h];rfl
section
variable {P:Program} {w:World} {K:AE} {mg:Str->Option Value} {base:Heap} {A:Around} {outer:List Env} {Gd:Hp->Prop} {pins:List (Addr×Obj)} {q S I l:Addr} {ns:List Int} {kf:Int->Int} {s0:Shared} {H0:Hp} {R:Result->Shared->Prop}
theorem M9.next{H H':Hp}{h h':Heap}(p:M9 outer pins H h)(u:Un (TR outer) [] H H' h h'):M9 outer pins H' h':=fun x hx=>by
 obtain ⟨a,b,c⟩:=p x hx;exact ⟨u.keep _ _ a b c (by simp),u.free _ _ a b (by simp),c⟩
theorem M9.off{H:Hp}{h h':Heap}(p:M9 outer pins H h)(hi:∀x∈pins,x.1≠I)(k:∀b o,b≠I->h.get? b=some o->h'.get? b=some o):M9 outer pins H h':=fun x hx=>by
 obtain ⟨a,b,c⟩:=p x hx;exact ⟨k _ _ (hi x hx) a,b,c⟩
theorem f7:∀{ns:List Int} {its:List Value} {i:Nat} {v:Value},Vals (ns.map V.int) its->its[i]?=some v->∃n t,ns[i]?=some n/\v=.int n t
 |[],_,i,v,.nil,h=>by simp at h
 |n::ns,_,0,v,.cons ⟨t,e⟩ _,h=>by
  have h:=Al h;exact ⟨n,t,rfl,by rw[<-h,e]⟩
 |n::ns,_,i+1,v,.cons _ r,h=>by
  obtain ⟨m,t,h1,h2⟩:=f7 (i:=i) (v:=v) r (by simpa using h);exact ⟨m,t,by simpa using h1,h2⟩
structure uE(P:Program)(w:World)(K:AE)(mg:Str->Option Value)(base:Heap)(A:Around)(outer:List Env)(Gd:Hp->Prop)(pins:List (Addr×Obj))(S I:Addr)(s0:Shared)(H0:Hp)(s:Shared)(H:Hp):Prop where
 e0:MA P w K mg base A outer s H
 os:s.os=s0.os
 un:Un (TR outer) [] H0 H s0.heap s.heap
 gd:Gd H
 pn:M9 outer pins H s.heap
 hS:H S=none
 hI:H I=none
structure Far(base:Heap)(outer:List Env)(pins:List (Addr×Obj))(S I:Addr)(s0:Shared):Prop where
 b:base.objs.size<=s0.heap.objs.size
 S0:s0.heap.objs.size<=S
 I0:s0.heap.objs.size<=I
 ne:S≠I
 pS:∀p∈pins,p.1≠S
 pI:∀p∈pins,p.1≠I
 fS:S ∉ TR outer
 fI:I ∉ TR outer
theorem uE.ABW{s:Shared}{H:Hp}{h2:Heap}{tk:Nat}(M:uE P w K mg base A outer Gd pins S I s0 H0 s H)(F:Far base outer pins S I s0)(k:∀b o,b≠I->s.heap.get? b=some o->h2.get? b=some o)(hI:∃o,h2.get? I=some o) :
  uE P w K mg base A outer Gd pins S I s0 H0 { s with heap:=h2,toks:=tk } H :=
 ⟨M.e0.off (AY F.b F.I0) F.fI M.hI k hI,M.os,M.un.off F.I0 k,M.gd,M.pn.off F.pI k,M.hS,M.hI⟩
theorem uE.ABX{s:Shared}{H:Hp}{h2:Heap}{tk:Nat}(M:uE P w K mg base A outer Gd pins S I s0 H0 s H)(F:Far base outer pins S I s0)(k:∀b o,b≠S->s.heap.get? b=some o->h2.get? b=some o)(hS:∃o,h2.get? S=some o) :
  uE P w K mg base A outer Gd pins S I s0 H0 { s with heap:=h2,toks:=tk } H :=
 ⟨M.e0.off (AY F.b F.S0) F.fS M.hS k hS,M.os,M.un.off F.S0 k,M.gd,M.pn.off F.pS k,M.hS,M.hI⟩
theorem uE.next{s s2:Shared}{H H2:Hp}{oS:Obj}(M:uE P w K mg base A outer Gd pins S I s0 H0 s H)(F:Far base outer pins S I s0)(hoS:s.heap.get? S=some oS)(hoI:∃o,s.heap.get? I=some o)(os:s2.os=s.os)(hg:AllBare s2.gens)(u:Un (TR outer) [] H H2 s.heap s2.heap)(C2:L3 P w H2 s2.heap)(gd:Gd H2) :
  uE P w K mg base A outer Gd pins S I s0 H0 s2 H2:=by
 obtain ⟨oI,hoI⟩:=hoI;exact ⟨M.e0.next u C2 hg (AY F.b F.S0) ⟨oS,u.keep _ _ hoS M.hS F.fS (by simp)⟩,os.trans M.os,M.un.trans u,gd,M.pn.next u,u.free _ _ hoS M.hS (by simp),u.free _ _ hoI M.hI (by simp)⟩
theorem w9{nm nl:String}{mf:(Int->Int)->List Int->Int}{lt:Int->Int->Bool}{op:CmpOp}(hm:MM nm nl mf lt op)(hh:A.handled=none)(hl:∀H,Gd H->H l=some (.lst (ns.map V.int)))(turn:∀n∈ns,ABV P w K mg base A.in1 outer Gd pins q n (kf n))(F:Far base outer pins S I s0)
  (hR:∀(t:Tok) (s':Shared) (H':Hp),s'.os=s0.os->AllBare s'.gens->Un (TR outer) [] H0 H' s0.heap s'.heap->L3 P w H' s'.heap->Gd H'->R (.ok (.ret (.int (mf kf ns) t))) s') :
  ∀(r j:Nat) (s:Shared) (H:Hp) (t tb:Tok) (c:Nat),ns.length-(j+1)=r->j+1<=ns.length->uE P w K mg base A.in1 outer Gd pins S I s0 H0 s H ->
   s.heap.get? S=some (seqObj "list" #[.int (mf kf (ns.take (j+1))) t,.int (kf (mf kf (ns.take (j+1)))) tb] c)->s.heap.IsListIter I l (j+1) ->
   codeAny (model P w) A (.builtin nl ⟨[.ref I,.ref q,.ref S],[]⟩) R s:=by
 have hSI:=F.ne;intro r
 induction r with
 |zero =>
  intro j s H t tb c hr hj M nS hit;have hm':=hm;rcases hm' with ⟨rfl,rfl,rfl,h1,rfl⟩|⟨rfl,rfl,rfl,h2,rfl⟩
  all_goals
   have hin:j+1=ns.length:=by omega
   have hH:=hl H M.gd;obtain ⟨_,its,n,rv,hL⟩:=M.e0.C2 l _ hH;have hlen:its.length=ns.length:=by rw[<-rv.length,AB]
   have hlI:l≠I:=Af hH M.hI;have W:=ai (prog:=P) (w:=w) (A:=A.in1) hh I l hlI its.toArray;have hsz:its.toArray.size=ns.length:=by rw[Aa,hlen]
   first
   |have:=h1;refine FR Mw ?_
   |refine FR Mx ?_
   rw[GZ (MM.pl hm) _];show wpAny _ A.in1 (seqItems? (.ref S) >>= _) _ _ _;refine AL (Mv nS rfl ?_);show wpAny _ A.in1 (tryCatch (pyNext (.ref I)) _ >>= _) _ _ _;refine AL (JF (W.done _ _ _ ⟨by rw[hsz,<-hin];exact hit,⟨_,hL,rfl,n,rfl⟩⟩ fun h' tk' hk'=>?_));have kI:∀b o,b≠I->s.heap.get? b=some o->h'.get? b=some o:=fun b o hb e=>hk' b o (by simpa using hb) e
   have hS':=kI S _ hSI nS;show wpAny _ A.in1 (updateSeq S (fun _=>#[]) >>= _) _ _ _;refine AL ?_;refine iH hS' rfl (AL (h7 (A1 ?_)));have s1:=GD h' S (D8 fun _=>(#[]:Array Value));have kS:∀b o,b≠S->h'.get? b=some o->(h'.update S (D8 fun _=>(#[]:Array Value))).get? b=some o:=fun b o hb e=>(s1.2 b hb).trans e
   rw[hin,B9];exact hR t _ H M.os M.e0.bare ((M.un.off F.I0 kI).off F.S0 kS) ((M.e0.C2.off M.hI kI).off M.hS kS) M.gd
 |succ r ih =>
  intro j s H t tb c hr hj M nS hit;have ne1:ns.take (j+1)≠[]:=fun z=>by
   have:=congrArg HW z
   rw[B0,DJ]at this;omega
  have em:∀x,ns[j+1]?=some x->mf kf (ns.take (j+1+1))=if lt (kf x) (kf (mf kf (ns.take (j+1))))=true then x else mf kf (ns.take (j+1)):=fun x hx=>by
   rw[Yw hx];exact hm.snoc kf ne1 x
  generalize mf kf (ns.take (j+1))=m at em nS;have hm':=hm;rcases hm' with ⟨rfl,rfl,rfl,h1,rfl⟩|⟨rfl,rfl,rfl,h2,rfl⟩
  all_goals
   have hlt:j+1<ns.length:=by omega
   have hH:=hl H M.gd;obtain ⟨_,its,n,rv,hL⟩:=M.e0.C2 l _ hH;have hlen:its.length=ns.length:=by rw[<-rv.length,AB]
   have hlI:l≠I:=Af hH M.hI;have W:=ai (prog:=P) (w:=w) (A:=A.in1) hh I l hlI its.toArray;have hsz:its.toArray.size=ns.length:=by rw[Aa,hlen]
   first
   |have:=h1;refine FR Mw ?_
   |refine FR Mx ?_
   rw[GZ (MM.pl hm) _];show wpAny _ A.in1 (seqItems? (.ref S) >>= _) _ _ _;refine AL (Mv nS rfl ?_);show wpAny _ A.in1 (tryCatch (pyNext (.ref I)) _ >>= _) _ _ _;refine AL (JF (W.item (j+1) _ _ _ (by rw[hsz];exact hlt) ⟨hit,⟨_,hL,rfl,n,rfl⟩⟩ fun v h' tk' hP hst' hk'=>?_));have kI:∀b o,b≠I->s.heap.get? b=some o->h'.get? b=some o:=fun b o hb e=>hk' b o (by simpa using hb) e
   obtain ⟨x,tx,hx,rfl⟩:=f7 (i:=j+1) rv (by simpa using hP);obtain ⟨oI',hoI',hoc,hod⟩:=id hst'.1;have M1:=M.ABW (tk:=tk') F kI ⟨oI',hoI'⟩;have nS1:=kI S _ hSI nS;show wpAny _ A.in1 (tryCatch (holding [.int x tx] (call (.ref q) [.int x tx])) _ >>= _) _ _ _;refine AL (JF (EL (DH (turn x (Ar hx) { s with heap:=h',toks:=tk' } H tx M1.e0 M1.gd M1.pn) (fun y s2 he=>?_) fun _ _ hF=>hF.elim)));obtain ⟨t2,H2,rfl,os2,bare2,un2,hok2,gd2⟩:=he;have M2:=M1.next F nS1 ⟨oI',hoI'⟩ os2 bare2 un2 hok2 gd2;have nS2:=un2.keep S _ nS1 M1.hS F.fS (by simp);have nI2:=un2.keep I _ hoI' M1.hI F.fI (by simp);have hit2:s2.heap.IsListIter I l (j+1+1):=⟨oI',nI2,hoc,hod⟩;have em:=em x hx;show wpAny _ A.in1 (tryCatch (holding [.int x tx,.int (kf x) t2] (richCompare _ (.int (kf x) t2) (.int (kf m) tb) >>= _)) _ >>= _) _ _ _;refine AL (JF (EL (AL (hm.cmp ?_))));refine AL (EL (Ds ?_));refine AL (h7 (A1 ?_))
   by_cases hb':lt (kf x) (kf m)=true
   ·have s1:=GD s2.heap S (D8 fun _=>#[.int x tx,.int (kf x) t2]);obtain ⟨c2,hc2⟩:∃c2,(s2.heap.update S (D8 fun _=>#[.int x tx,.int (kf x) t2])).get? S=some (seqObj "list" #[.int x tx,.int (kf x) t2] c2):=⟨_,AB6 nS2 fun _=>#[.int x tx,.int (kf x) t2]⟩;have kS:∀b o,b≠S->s2.heap.get? b=some o->(s2.heap.update S (D8 fun _=>#[.int x tx,.int (kf x) t2])).get? b=some o:=fun b o hb e=>(s1.2 b hb).trans e
    rw[if_pos hb'];refine AL ?_;refine iH nS2 rfl (AL (h7 ?_));rw[MM.name hm];rw[if_pos hb']at em;refine A1 ⟨OU hm.pl _,ih (j+1) { s2 with heap:=s2.heap.update S (D8 fun _=>#[.int x tx,.int (kf x) t2]) } H2 tx t2 c2 (by omega) hlt (M2.ABX (tk:=s2.toks) F kS ⟨_,hc2⟩) (by rw[em];exact hc2) ⟨oI',kS I _ (Cr hSI) nI2,hoc,hod⟩⟩
   ·rw[if_neg hb'];refine AL (h7 ?_);rw[MM.name hm];rw[if_neg hb']at em;refine A1 ⟨OU hm.pl _,ih (j+1) s2 H2 t tb c (by omega) hlt M2 (by rw[em];exact nS2) hit2⟩
theorem zk{nm nl:String}{mf:(Int->Int)->List Int->Int}{lt:Int->Int->Bool}{op:CmpOp}{E:Value->Shared->Prop}{Q:Value->Shared->Prop}(hm:MM nm nl mf lt op)(hh:A.handled=none)(hl:∀H,Gd H->H l=some (.lst (ns.map V.int)))(hne:ns≠[])(turn:∀n∈ns,ABV P w K mg base A.in1 outer Gd pins q n (kf n))
  (e0:MA P w K mg base A outer s0 H0) (gd:Gd H0) (pn:M9 outer pins H0 s0.heap)
  (hQ:∀(t:Tok) (s':Shared) (H':Hp),s'.os=s0.os->AllBare s'.gens->Un (TR outer) [] H0 H' s0.heap s'.heap->L3 P w H' s'.heap->Gd H'->Q (.int (mf kf ns) t) s') :
  wpAny (model P w) A (call (.builtin nm) [.ref l] [(G0 "key",.ref q)]) Q E s0:=by
 have e1:∀x,ns[0]?=some x->mf kf (ns.take 1)=x:=fun x hx=>by
  rw[Yw hx];exact hm.one kf x
 have hm':=hm;rcases hm' with ⟨rfl,rfl,rfl,h1,rfl⟩|⟨rfl,rfl,rfl,h2,rfl⟩
 all_goals
  have hH:=hl H0 gd;obtain ⟨_,its,n,rv,hL⟩:=e0.C2 l _ hH;have hlen:its.length=ns.length:=by rw[<-rv.length,AB]
  have hpos:0<ns.length:=Sg.mpr hne;have hls:s0.heap.IsList l its.toArray:=⟨_,hL,rfl,n,rfl⟩;have hll:l<s0.heap.objs.size:=Av hL
  first
  |have:=h1;refine kmk_tree PySem.F.kind_max PySem.F.plain_max PySem.F.entry_max (kmk_max_key _ _) ?_
  |refine kmk_tree PySem.F.kind_min PySem.F.plain_min PySem.F.entry_min (kmk_min_key _ _) ?_
  show wpAny _ A.in1 (Q0 _ ["key","default"] 0 ⟨[],[(G0 "key",.ref q)]⟩ >>= _) _ _ s0;refine AL (wpAny_of_eq (show Q0 _ ["key","default"] 0 ⟨[],[(G0 "key",.ref q)]⟩=pure [some (.ref q),none] from rfl) ?_);refine AL (A1 ?_);refine AL (af hls ?_);refine AL (wpAny_newList ?_ (Bb _));rw[MM.name hm];have zS:(s0.heap.push { cls:=.type "list_iterator",data:=.fields #[.ref l,.int 0 0] }).objs.size=s0.heap.objs.size+1:=size_push' ..;have lim:∀b∈TR outer,b<s0.heap.objs.size:=fun b hb=>by
   obtain ⟨_,o,ho,_⟩:=e0.LU.mem hb;exact Av ho
  have F:Far base outer pins (s0.heap.push { cls:=.type "list_iterator",data:=.fields #[.ref l,.int 0 0] }).objs.size s0.heap.objs.size s0 :=
   ⟨e0.pR,by rw[zS];exact aS _,AV _,by rw[zS];exact W3 (JD _),fun p hp=>by rw[zS];exact Bl (Ms (Av (pn p hp).1)),fun p hp=>Bl (Av (pn p hp).1),
    fun hb=>absurd (lim _ hb) (by rw[zS];exact rn.mpr (aS _)),fun hb=>absurd (lim _ hb) (Bu _)⟩
  have kp:∀b o,s0.heap.get? b=some o->((s0.heap.push { cls:=.type "list_iterator",data:=.fields #[.ref l,.int 0 0] }).push (seqObj "list" #[] 0)).get? b=some o:=fun b o e=>AW _ (AW _ e)
  have gI:((s0.heap.push { cls:=.type "list_iterator",data:=.fields #[.ref l,.int 0 0] }).push (seqObj "list" #[] 0)).get? s0.heap.objs.size=some { cls:=.type "list_iterator",data:=.fields #[.ref l,.int 0 0] } :=
   AW _ (BA _ rfl)
  have gS:((s0.heap.push { cls:=.type "list_iterator",data:=.fields #[.ref l,.int 0 0] }).push (seqObj "list" #[] 0)).get? (s0.heap.push { cls:=.type "list_iterator",data:=.fields #[.ref l,.int 0 0] }).objs.size=some (seqObj "list" #[] 0):=BA _ rfl;have hSI:=F.ne;refine A1 ⟨OU hm.pl _,?_⟩;have M:uE P w K mg base A.in1 outer Gd pins (s0.heap.push { cls:=.type "list_iterator",data:=.fields #[.ref l,.int 0 0] }).objs.size s0.heap.objs.size s0 H0 { s0 with heap:=(s0.heap.push { cls:=.type "list_iterator",data:=.fields #[.ref l,.int 0 0] }).push (seqObj "list" #[] 0) } H0:=by
   refine ⟨⟨e0.frames,e0.mod,fun b o e=>⟨kp b o (e0.bs b o e).1,(e0.bs b o e).2⟩,AY e0.pR (IF (Av gI)),Qj outer (fun b _ o e=>⟨o.slots,kp b o e⟩) e0.LU,e0.pT,e0.C2.kept kp,e0.bare⟩,rfl,Un.kept kp,gd,fun p hp=>⟨kp _ _ (pn p hp).1,(pn p hp).2⟩,e0.C2.fresh (by rw[zS];exact aS _),e0.C2.fresh (AV _)⟩
  revert M gS F hSI;generalize (s0.heap.push { cls:=.type "list_iterator",data:=.fields #[.ref l,.int 0 0] }).objs.size=S;intro F gS hSI M;have hlI:l≠s0.heap.objs.size:=Bl hll;have W:=ai (prog:=P) (w:=w) (A:=A.in1) hh s0.heap.objs.size l hlI its.toArray;have hsz:its.toArray.size=ns.length:=by rw[Aa,hlen]
  first
  |have:=h1;refine FR Mw ?_
  |refine FR Mx ?_
  rw[GZ (MM.pl hm) _];show wpAny _ A.in1 (seqItems? (.ref _) >>= _) _ _ _;refine AL (Mv gS rfl ?_);show wpAny _ A.in1 (tryCatch (pyNext (.ref s0.heap.objs.size)) _ >>= _) _ _ _;refine AL (JF (W.item 0 _ _ _ (by rw[hsz];exact hpos) ⟨⟨_,gI,rfl,rfl⟩,⟨_,kp _ _ hL,rfl,n,rfl⟩⟩ fun v h' tk' hP hst' hk'=>?_));have kI:∀b o,b≠s0.heap.objs.size->((s0.heap.push { cls:=.type "list_iterator",data:=.fields #[.ref l,.int 0 0] }).push (seqObj "list" #[] 0)).get? b=some o->h'.get? b=some o:=fun b o hb e=>hk' b o (by simpa using hb) e
  obtain ⟨x,tx,hx,rfl⟩:=f7 (i:=0) rv (by simpa using hP);obtain ⟨oI',hoI',hoc,hod⟩:=id hst'.1;have M1:=M.ABW (tk:=tk') F kI ⟨oI',hoI'⟩;have nS1:=kI S _ hSI gS;show wpAny _ A.in1 (tryCatch (holding [.int x tx] (call (.ref q) [.int x tx])) _ >>= _) _ _ _;refine AL (JF (EL (DH (turn x (Ar hx) { s0 with heap:=h',toks:=tk' } H0 tx M1.e0 M1.gd M1.pn) (fun y s2 he=>?_) fun _ _ hF=>hF.elim)));obtain ⟨t2,H2,rfl,os2,bare2,un2,hok2,gd2⟩:=he;have M2:=M1.next F nS1 ⟨oI',hoI'⟩ os2 bare2 un2 hok2 gd2;have nS2:=un2.keep S _ nS1 M1.hS F.fS (by simp);have nI2:=un2.keep _ _ hoI' M1.hI F.fI (by simp);have s1:=GD s2.heap S (D8 fun _=>#[.int x tx,.int (kf x) t2]);obtain ⟨c2,hc2⟩:∃c2,(s2.heap.update S (D8 fun _=>#[.int x tx,.int (kf x) t2])).get? S=some (seqObj "list" #[.int x tx,.int (kf x) t2] c2):=⟨_,AB6 nS2 fun _=>#[.int x tx,.int (kf x) t2]⟩;have kS:∀b o,b≠S->s2.heap.get? b=some o->(s2.heap.update S (D8 fun _=>#[.int x tx,.int (kf x) t2])).get? b=some o:=fun b o hb e=>(s1.2 b hb).trans e
  show wpAny _ A.in1 (updateSeq S (fun _=>#[.int x tx,.int (kf x) t2]) >>= _) _ _ _;refine AL ?_;refine iH nS2 rfl ?_;rw[MM.name hm];have e1:=e1 x hx;refine A1 ⟨OU hm.pl _,w9 hm hh hl turn F hQ _ 0 { s2 with heap:=s2.heap.update S (D8 fun _=>#[.int x tx,.int (kf x) t2]) } H2 tx t2 c2 rfl hpos (M2.ABX (tk:=s2.toks) F kS ⟨_,hc2⟩) (by rw[e1];exact hc2) ⟨oI',kS _ _ (Cr hSI) nI2,hoc,hod⟩⟩
end
end L2
namespace L2
open PySem PySem.Spec PyProof.Rows
def oF(P:Program)(w:World)(K:AE)(mg:Str->Option Value)(base:Heap)(N:List Str)(qual:Str)(scope:Scope)(f:Addr)(cd:Value)(cl:List (Str×Addr))(A:Around)(outer:List Env)(s:Shared)(H:Hp):Cx where
 prog:=P
 w:=w
 K:=K
 mg:=mg
 base:=base
 A:=A.deeper (Je qual scope s.heap.objs.size f cd cl)
 N:=N
 bB:=s
 H_0:=H
 env:=Je qual scope s.heap.objs.size f cd cl
 outer:=outer
 stack:=Je qual scope s.heap.objs.size f cd cl::outer
 ex:=[]
 calm:=true
 fn:=fun _=>false
 pn:=[]
 xe:=fun _ _=>False
structure jF(x y:Str)(sc:Scope):Prop where
 kind:sc.kind=.function
 co:sc.isCoroutine=false
 gen:sc.isGenerator=false
 uF:∀z∈sc.names,z.2≠.cell
 loc:sc.names.lookup x=some .local
 fre:sc.names.lookup y=some .free
 only:∀z∈sc.names,z.2=.free->z.1=y
 ne:x≠y
section
variable {P:Program} {w:World} {K:AE} {mg:Str->Option Value} {base:Heap} {A:Around} {outer:List Env} {s:Shared} {H:Hp} {k:Nat} {f c c':Addr} {x y name qual:Str} {params:Arguments} {body:Expr} {scope:Scope} {pm ctv:Value} {tb:TE}
theorem xA(S:jF x y scope)(hr:GB (k+1) A)(e0:MA P w K mg base A outer s H)(ho:s.heap.get? f=some (Er name qual params body scope [(y,c)] pm c' ctv))(hcd:s.heap.CodeRec (.ref c') qual)
  (hbind:∀u,bindArgs (sA name qual params body scope [(y,c)] pm (.ref c') ctv) ⟨[u],[]⟩=pure [(x,u)])
  {v cv:V} {u cu:Value} (rv:RelV v u) (rc:RelV cv cu) (hc:s.heap.IsCell c (some cu)) (hcn:H c=none)
  (hbody:GB k (A.deeper (Je qual scope s.heap.objs.size f (.ref c') [(y,c)]))->PE (oF P w K mg base [x,y] qual scope f (.ref c') [(y,c)] A outer s H) body tb) {Q:VK} (q:tb [some v,some cv] H Q) :
  codeAny (model P w) A (.call (.ref f) ⟨[u],[]⟩) (fun r s'=>∃u',r=.ok (.ret u')/\CE outer P w H s Q u' s') s:=by
 have lim:s.heap.NoLimit:=e0.mod.nolimit.keeps fun b o e=>(e0.bs b o e).1
 refine PySem.W.kla_callFunE (by have:=hr.dp;omega) ho rfl S.co S.gen rfl hcd ?_;rw[hbind];refine A1 (wpAny_newFunctionEnv S.uF (fun z hz=>by rw[A3.mp hz];exact S.loc) (fun h₁ hns hsb=>⟨lim.fresh _ hsb,?_⟩) S.kind);show codeAny _ _ (.expr body (Je qual scope s.heap.objs.size f (.ref c') [(y,c)])) _ _;have hk₁:∀b o,s.heap.get? b=some o->h₁.get? b=some o:=fun b o e=>hsb.extBut b o (Bl (Av e)) (AW _ e)
 have noA:∀b:Addr,b ∉ (oF P w K mg base [x,y] qual scope f (.ref c') [(y,c)] A outer s H).ex:=fun b z=>absurd (show b∈([]:List Addr) from z) (by simp)
 have cellL:∀z d,([(y,c)]:List (Str×Addr)).lookup z=some d->z=y/\d=c:=fun z d e=>by
  rw[BX]at e;cases q:(z==y) with
  |true=>rw[q]at e;exact ⟨eq_of_beq q,(Al e).symm⟩
  |false=>rw[q]at e;cases e
 have cellY:([(y,c)]:List (Str×Addr)).lookup y=some c:=by rw[BX,beq_self_eq_true]
 have hcl:∃o,s.heap.get? c=some o:=let ⟨o,h1,_⟩:=hc;⟨o,h1⟩;obtain ⟨oc,hoc⟩:=hcl;have I:Inv (oF P w K mg base [x,y] qual scope f (.ref c') [(y,c)] A outer s H) [] [some v,some cv] H { s with heap:=h₁,toks:=s.toks+[(x,u)].length }:=by
  refine ⟨⟨e0.mod,S.kind,rfl,rfl,AV _,fun z1 z2 d h1 h2=>(cellL z1 d h1).1.trans (cellL z2 d h2).1.symm,fun z hz=>?_,(fun z d h=>nomatch h),fun _=>hr.hd,kh e0.frames,.inr ⟨rfl,rfl⟩,fun b z=>absurd z (noA b),e0.bs,e0.pR,fun b _ _=>noA b,fun b z=>absurd z (noA b),e0.LU,e0.pT⟩,
   rfl,e0.bare,Un.kept hk₁,⟨_,hns,fun i z v' h1 h2 h3=>?_⟩,fun z d h=>?_,e0.C2.fresh (AV _),fun z d h=>?_,fun p hp=>absurd (show p∈([]:List (Addr×Obj)) from hp) (by simp),e0.C2.kept hk₁,rfl⟩
  ·have hz:scope.names.lookup z=some .cell\/scope.names.lookup z=some .free:=hz;rcases hz with hz|hz
   ·exact absurd rfl (S.uF _ (Bi hz))
   ·have e1:z=y:=S.only _ (Bi hz) rfl;rw[e1];exact ⟨c,cellY⟩
  ·match i,h1,h2 with
   |0,h1,h2 =>
    have e1:x=z:=Al h1;have e2:v=v':=Al (Al h2);subst e1 e2;refine ⟨u,rv,.inl ⟨S.loc,?_⟩⟩;show ([(x,u)]:List (Str×Value)).reverse.lookup x=some u;rw[List.reverse_singleton,BX,beq_self_eq_true]
   |1,h1,h2 =>
    have e1:y=z:=Al h1;have e2:cv=v':=Al (Al h2);subst e1 e2;refine ⟨cu,rc,.inr ⟨.inr S.fre,c,cellY,?_⟩⟩;obtain ⟨o,h1,h2⟩:=hc;exact ⟨o,hk₁ _ _ h1,h2⟩
   |i+2,h1,_=>exact nomatch h1
  ·obtain ⟨_,rfl⟩:=cellL z d h;obtain ⟨o,h1,h2⟩:=hc;exact ⟨_,o,hk₁ _ _ h1,h2⟩
  ·obtain ⟨_,rfl⟩:=cellL z d h;exact hcn
 refine PySem.W.kla_codeExpr (DH (hbody (hr.deeper _) [] _ [some v,some cv] H Q I q) (fun u' s' ⟨v',H',J,rv',qv⟩=>⟨u',rfl,v',H',J.os,J.bare,J.base,J.C2,rv',qv⟩) fun _ _ z=>z.elim)
end
def U3(c:Addr)(qual:Str):Heap->Prop:=fun h=>h.CodeRec (.ref c) qual
theorem U3.ok{P:Program}{w:World}{H:Hp}{h:Heap}{c:Addr}{qual:Str}(x:h.CodeRec (.ref c) qual):Eo P w H h c (.ext (U3 c qual)):=by
 obtain ⟨c0,o,vs,t,e,g,r⟩:=id x;cases e;exact ⟨x,⟨o,g⟩,fun h1 h2 ⟨c1,o1,vs1,t1,e1,g1,r1⟩ k=>by cases e1;exact ⟨c,o1,vs1,t1,rfl,k _ g1,r1⟩⟩
def Tr(f:Addr)(p:Obj->Prop):Heap->Prop:=fun h=>∃o,h.get? f=some o/\p o
theorem Tr.ok{P:Program}{w:World}{H:Hp}{h:Heap}{f:Addr}{p:Obj->Prop}{o:Obj}(x:h.get? f=some o)(hp:p o):Eo P w H h f (.ext (Tr f p)) :=
 ⟨⟨o,x,hp⟩,⟨o,x⟩,fun h1 h2 ⟨o1,g,q⟩ k=>⟨o1,k _ g,q⟩⟩
def HM(H:Hp)(T:Addr)(pos:Pos)(qual:Str):Prop:=H T=some (.Jt #[])\/∃c',H T=some (.Jt #[rawInt pos.line,rawInt pos.col,.ref c'])/\H c'=some (.ext (U3 c' qual))
theorem HM.same{H H':Hp}{T:Addr}{pos:Pos}{qual:Str}(h:HM H T pos qual)(s:Aw H H'):HM H' T pos qual:=by
 rcases h with h|⟨c',h1,h2⟩
 ·exact .inl (s _ _ h)
 ·exact .inr ⟨c',s _ _ h1,s _ _ h2⟩
section
variable {X:Cx} {pins:List (Addr×Obj)} {σ:St} {H:Hp} {s:Shared} {h':Heap}
theorem Inv.tabled{T c':Addr}{ps more:Array Value}{φ:Heap->Prop}{t':Nat}(I:Inv X pins σ H s)(hT:H T=some (.Jt ps))(hx:AAs T s.heap h')(hT':h'.get? T=some { cls:=.none,data:=.fields (ps++more) })
  (hc:s.heap.objs.size<=c') (new:∀H1,Eo X.prog X.w H1 h' c' (.ext φ)):Inv X pins σ (upd (upd H T (.Jt (ps++more))) c' (.ext φ)) { s with heap:=h',toks:=t' }:=by
 have hn:H c'=none:=I.C2.fresh hc;have neT:∀b,H b=none->b≠T:=fun b n z=>by rw[z,hT]at n;cases n
 have nec:∀{b:Addr} {o:HO},H b=some o->b≠c':=fun q=>Af q hn
 have Tc:T≠c':=nec hT;have up:∀{b:Addr} {o:HO},b≠T->H b=some o->(upd (upd H T (.Jt (ps++more))) c' (.ext φ)) b=some o:=fun hb q=>by rw[A2 (nec q),A2 hb];exact q
 refine I.un (t':=t') ⟨fun b o q n _ _=>hx b o (neT b n) q,fun b o q n _ _=>⟨o.slots,hx b o (neT b n) q⟩,fun b o q n _=>?_,fun b o q _=>?_,fun b xs q=>up (fun z=>by rw[z,hT]at q;cases q) q,fun b o u q=>up (fun z=>by rw[z,hT]at q;cases q) q,fun b qs q=>?_⟩ fun b o q=>?_
 ·rw[A2 (Bl (A9 (Av q) hc)),A2 (neT b n)];exact n
 ·by_cases z:b=T
  ·exact ⟨_,z ▸ hT'⟩
  ·exact ⟨o,hx b o z q⟩
 ·by_cases z:b=T
  ·subst z;rw[hT]at q;cases q;exact ⟨more,by rw[A2 Tc,AK]⟩
  ·exact ⟨#[],by rw[up z q];simp⟩
 ·by_cases z:b=c'
  ·subst z;rw[AK]at q;cases q;exact new _
  ·rw[A2 z]at q
   by_cases z2:b=T
   ·subst z2;rw[AK]at q;cases q;exact hT'
   ·rw[A2 z2]at q;refine (I.C2 b o q).ay (fun d v hd e=>hx d v (fun z3=>?_) e) (fun d e=>up (fun z3=>by rw[z3,hT]at e;cases e) e) fun d xs e=>up (fun z3=>by rw[z3,hT]at e;cases e) e
    rcases hd with z4|z4
    ·exact z2 (z4 ▸ z3)
    ·rw[z3,hT]at z4;cases z4
end
def U4(mg:Str->Option Value)(h:Heap):Prop:=∃bm o,mg "__builtins__" = some (.ref bm)/\bm≠builtinsNs/\h.get? bm=some o/\o.cls=.type "module" /\ o.dict=some builtinsNs/\o.data=.plain
section
variable {X:Cx} {pins:List (Addr×Obj)} {σ:St} {H:Hp} {s:Shared}
theorem uG{c T:Addr}{params:Arguments}{body:Expr}{scope:Scope}{pos:Pos}{clos:List (Str×Addr)}(I:Inv X pins σ H s)(B:U4 X.mg X.base)(hcode:X.env.code=.ref c)(C:J1 X.base c T)(hT:HM H T pos (X.env.qual ++ "<lambda>"))
  (hcl:closureFor scope X.env=pure clos) (hdef:defaultsOf params X.env=([],[])) {Q:VK}
  (h:∀(f c':Addr) (H':Hp) (pm:Value),(∀b o,b≠T->H b=some o->H' b=some o)->HM H' T pos (X.env.qual ++ "<lambda>")->H f=none->H' c'=some (.ext (U3 c' (X.env.qual ++ "<lambda>"))) ->
   H' f=some (.ext (Tr f fun o=>∃ctv,o=Er "<lambda>" (X.env.qual ++ "<lambda>") params body scope clos pm c' ctv))->Q (.ref f) H') :
  wpAny (model X.prog X.w) X.A (eval (.Lambda params body scope pos) X.env) (EP X pins σ Q) X.xe s:=by
 refine PySem.W.kla_eval hdef ?_;obtain ⟨bm,ob,b1,b2,b3,b4,b5,b6⟩:=B;have hgs:s.heap.Ns mainGlobals X.mg:=I.mod.glob.keeps I.bk;have nT:X.base.get? T=none:=by
  cases q:X.base.get? T with
  |none=>rfl
  |some o =>
   have:=(I.bs T o q).2
   rcases hT with z|⟨_,z,_⟩<;>· rw[z]at this;cases this
 have hgT:mainGlobals≠T:=fun q=>by
  obtain ⟨o,es,ep,e,_⟩:=I.mod.glob;rw[q,nT]at e;cases e
 have hbT:bm≠T:=fun q=>by rw[q,nT]at b3;cases b3
 have hbG:bm≠mainGlobals:=fun q=>by
  obtain ⟨o,es,ep,e,hd,_⟩:=I.mod.glob;rw[q,e]at b3;cases b3;rw[hd]at b6;cases b6
 have Cs:J1 s.heap c T:=C.keeps I.bk;have hB:s.heap.BuiltinsAt X.mg T:=⟨bm,ob,b1,b2,hbG,hbT,I.bk _ _ b3,b4,b5,b6⟩;rcases hT with hT|⟨c',hT,hc'⟩
 ·have hTo:s.heap.get? T=some (OW #[]):=I.C2 T _ hT;refine PySem.W.kla_makeFunction (mg:=X.mg) hcl I.ok.glob hgs hcode Cs hTo Em rfl hgT hB fun c' ctv h' tk hx hge hlt hrec htb=>?_
  have I1:=I.tabled (t':=tk) hT hx htb hge (fun H1=>U3.ok hrec);have hn:H c'=none:=I.C2.fresh hge;have hsz:s.heap.objs.size<=h'.objs.size:=AY hge (IF hlt);have I2:=I1.laid (a:=h'.objs.size) (o:=.ext (Tr h'.objs.size fun o=>∃ctv,o=Er "<lambda>" (X.env.qual ++ "<lambda>") params body scope clos ((X.mg "__name__").getD .none) c' ctv)) (h':=h'.push (Er "<lambda>" (X.env.qual ++ "<lambda>") params body scope clos ((X.mg "__name__").getD .none) c' ctv)) (t':=tk)
   (fun b u e=>AW _ e) (AV _) (Tr.ok (BA _ rfl) ⟨ctv,rfl⟩)
  have fr:H h'.objs.size=none:=I.C2.fresh hsz;have e1:T≠h'.objs.size:=Af hT fr;have e2:c'≠h'.objs.size:=Bl hlt;have e3:T≠c':=Af hT hn;refine ⟨.ref h'.objs.size,_,I2,rfl,h _ c' _ _ (fun b o hb q=>?_) (.inr ⟨c',?_,?_⟩) fr ?_ AK⟩
  ·rw[A2 (Af q fr),A2 (Af q hn),A2 hb];exact q
  ·rw[A2 e1,A2 e3,AK];rfl
  ·rw[A2 e2,AK]
  ·rw[A2 e2,AK]
 ·have hTo:s.heap.get? T=some (OW #[rawInt pos.line,rawInt pos.col,.ref c']):=I.C2 T _ hT;refine PySem.W.kla_makeFunctionHit (mg:=X.mg) (cv:=.ref c') hcl I.ok.glob hgs hcode Cs hTo (by simp[TriplesOk,rawInt]) (by simp[codeAmong,rawInt]) hB fun ctv h' tk hk hsz=>?_
  have I1:Inv X pins σ H { s with heap:=h',toks:=tk }:=I.kept (t':=tk) hk;have I2:=I1.laid (a:=h'.objs.size) (o:=.ext (Tr h'.objs.size fun o=>∃ctv,o=Er "<lambda>" (X.env.qual ++ "<lambda>") params body scope clos ((X.mg "__name__").getD .none) c' ctv)) (h':=h'.push (Er "<lambda>" (X.env.qual ++ "<lambda>") params body scope clos ((X.mg "__name__").getD .none) c' ctv)) (t':=tk)
   (fun b u e=>AW _ e) (AV _) (Tr.ok (BA _ rfl) ⟨ctv,rfl⟩)
  have fr:H h'.objs.size=none:=I.C2.fresh hsz;have up:∀b o,H b=some o->(upd H h'.objs.size (.ext (Tr h'.objs.size fun o=>∃ctv,o=Er "<lambda>" (X.env.qual ++ "<lambda>") params body scope clos ((X.mg "__name__").getD .none) c' ctv))) b=some o:=fun b o q=>by rw[A2 (Af q fr)];exact q
  exact ⟨.ref h'.objs.size,_,I2,rfl,h _ c' _ _ (fun b o _ q=>up b o q) (.inr ⟨c',up _ _ hT,up _ _ hc'⟩) fr (up _ _ hc') AK⟩
def zl(fin:(Int->Int)->List Int->Int)(T:Addr)(pos:Pos)(qual:Str)(i:Nat)(tb:TE)(ta:TA):TE:=fun σ H Q=>ta σ H fun vs H1=>∃(l:Addr) (ns:List Int) (cv:V) (kf:Int->Int),vs=[.ref l]/\H1 l=some (.lst (ns.map V.int))/\ns≠[]/\σ[i]?=some (some cv)/\HM H1 T pos qual /\
 ∀H2,(∀b o,b≠T->H1 b=some o->H2 b=some o)->HM H2 T pos qual->(∀n∈ns,∀H3,Aw H2 H3->tb [some (.int n),some cv] H3 fun v H4=>v=.int (kf n)/\Aw H3 H4)/\∀H',Aw H2 H'->Q (.int (fin kf ns)) H'
variable {k i:Nat} {c T cc:Addr} {x y:Str} {params:Arguments} {body e:Expr} {scope:Scope} {pos p lpos kpos:Pos} {tb:TE} {ta:TA}
theorem jG{nm nl:String}{mf:(Int->Int)->List Int->Int}{lt:Int->Int->Bool}{op:CmpOp}(hmm:MM nm nl mf lt op)(hc:X.calm=true)(hg:Gl X nm)(hm:X.mg nm=none)(B:U4 X.mg X.base)(hcode:X.env.code=.ref c)(hC:IH X.K c T=true)(S:jF x y scope)(hr:GB (k+2) X.A)(hi:X.N[i]?=some y)(hv:X.env.kindOf y=some .cell)(hcl:closureFor scope X.env=pure [(y,cc)])(hcc:X.env.cells.lookup y=some cc)(hfn:X.fn y=true)
  (hdef:defaultsOf params X.env=([],[])) (hbind:∀(pm ctv:Value) (c':Addr) u,bindArgs (sA "<lambda>" (X.env.qual ++ "<lambda>") params body scope [(y,cc)] pm (.ref c') ctv) ⟨[u],[]⟩=pure [(x,u)])
  (ha:PA X [e] ta) (hbody:∀(A:Around) (s:Shared) (H:Hp) (f:Addr) (cd:Value),GB k (A.deeper (Je (X.env.qual ++ "<lambda>") scope s.heap.objs.size f cd [(y,cc)]))->PE (oF X.prog X.w X.K X.mg X.base [x,y] (X.env.qual ++ "<lambda>") scope f cd [(y,cc)] A X.stack s H) body tb)
  (he:backTo pos (starEach [e] X.env)=[(false,eval e X.env)]:=by rfl)
  (hkw:backToKw pos (keywordEach [⟨some "key",.Lambda params body scope lpos,kpos⟩] X.env)=[(some ("key" : Str),do let v <-eval (.Lambda params body scope lpos) X.env;standAt pos;pure v)]:=by rfl) :
  PE X (.Call (.Name nm p) [e] [⟨some "key",.Lambda params body scope lpos,kpos⟩] pos) (zl mf T lpos (X.env.qual ++ "<lambda>") i tb ta):=by
 intro pins s σ H Q I h;have C:J1 X.base c T:=PySem.W.codeHd_of_K I.mod.yx hC;have hbt:bootBuiltins nm=some (.builtin nm)/\(nm:Str) ≠ "__name__" /\ ((nm:Str)==("__debug__" : Str))=false:=by
  rcases hmm with ⟨rfl,_⟩|⟨rfl,_⟩
  ·exact ⟨boot_max,by decide,by decide⟩
  ·exact ⟨boot_min,by decide,by decide⟩
 refine GF (M6 I hg hm hbt.1 ?_ hbt.2.1 hbt.2.2);refine AB7 (FH (ha pos pins s σ H _ I h) fun us s1 ⟨vs,H1,I1,r1,l,ns,cv,kf,e1,hl,hne,hσ,hT,q⟩=>?_) he (by rw[he];rfl) (by rw[hkw];rfl) (by rw[hkw];rfl);subst e1;obtain ⟨u,rfl,ru⟩:=vals1 r1;cases ru;rw[hkw];show wpAny _ _ (evalAll [(do let v <-eval (.Lambda params body scope lpos) X.env;standAt pos;pure v)]) _ _ s1;refine wpAny_evalAll_cons (AL (FH (uG (Q:=fun v H2=>∃(f c':Addr) (pm:Value),v=.ref f/\(∀b o,b≠T->H1 b=some o->H2 b=some o)/\HM H2 T lpos (X.env.qual ++ "<lambda>")/\H1 f=none/\H2 c'=some (.ext (U3 c' (X.env.qual ++ "<lambda>"))) /\
   H2 f=some (.ext (Tr f fun o=>∃ctv,o=Er "<lambda>" (X.env.qual ++ "<lambda>") params body scope [(y,cc)] pm c' ctv))) I1 B hcode C hT hcl hdef fun f c' H2 pm h1 h2 h3 h4 h5=>⟨f,c',pm,rfl,h1,h2,h3,h4,h5⟩) fun uf s2 ⟨vf,H2,I2,rf,f,c',pm,ef,g1,g2,g3,g4,g5⟩=>AL (OR (A1 ?_))))
 subst ef;obtain rfl:uf=CG f:=rf;refine wpAny_evalAll_nil ?_;show wpAny _ _ (call (.builtin nm) [.ref l] [(G0 "key",.ref f)]) _ _ s2;obtain ⟨q1,q2⟩:=q H2 g1 g2;have hl2:H2 l=some (.lst (ns.map V.int)):=g1 _ _ (fun z=>by rw[z]at hl;rcases hT with t|⟨_,t,_⟩<;>· rw[hl]at t;cases t) hl;obtain ⟨m,hns,hloc⟩:=I2.loc;obtain ⟨cu,rcu,lk⟩:=hloc i y cv hi hσ (.inr (.inl hv));have hcell:s2.heap.IsCell cc (some cu):=by
  rcases lk with ⟨z,_⟩|⟨_,c2,z1,z2⟩
  ·rw[hv]at z;cases z
  ·rw[hcc]at z1;cases z1;exact z2
 obtain ⟨oc,hoc,hod⟩:=id hcell;have hccn:H2 cc=none:=I2.Ng y cc hcc;have hccf:cc ∉ TR X.stack:=fun hb=>by
  rcases Ak.mp (I2.fT _ hb) with z|z
  ·exact I2.xu y cc hcc z
  ·obtain ⟨_,o2,ho2,_⟩:=I2.ok.LU.mem z;exact absurd (Av ho2) (rn.mpr (I2.ok.cab y cc hfn hcc))
 refine zk hmm (P:=X.prog) (w:=X.w) (K:=X.K) (mg:=X.mg) (base:=X.base) (outer:=X.stack) (Gd:=fun H3=>Aw H2 H3) (pins:=[(cc,oc)]) (kf:=kf) (ns:=ns) (H0:=H2) (I2.ok.hd hc) (fun H3 s3=>s3 _ _ hl2) hne (fun n hn s3 H3 t e3 sm pn=>?_) I2.zI (Aw.refl H2) (fun p hp=>by rw[A3.mp hp];exact ⟨hoc,hccn,hccf⟩) fun t s' H' os bare un C2 sm=>I2.after ⟨.int (mf kf ns),H',os,bare,un,C2,⟨t,rfl⟩,q2 H' sm⟩
 obtain ⟨p1,p2,p3⟩:=pn (cc,oc) (A3.mpr rfl);obtain ⟨of,hof,ctv,eof⟩:=(e3.C2 f _ (sm _ _ g5)).1;subst eof;have hrec:s3.heap.CodeRec (.ref c') (X.env.qual ++ "<lambda>"):=(e3.C2 c' _ (sm _ _ g4)).1;refine yR (L6 (xA (k:=k) S hr.in1 e3 hof hrec (hbind pm ctv c') (v:=.int n) (cv:=cv) ⟨t,rfl⟩ rcu ⟨oc,p1,hod⟩ p2 (fun r=>hbody _ _ _ _ _ r) (Q:=fun v H4=>v=.int (kf n)/\Aw H3 H4) (q1 n hn H3 sm)) fun r s4 hq=>?_);obtain ⟨u',rfl,v',H4,os,bare,un,C2,rv,ev,sm4⟩:=hq;subst ev;obtain ⟨t2,rfl⟩:=rv;exact ⟨t2,H4,rfl,os,bare,un,C2,sm.trans sm4⟩
end
end L2
namespace L2
open PySem PySem.Spec PyProof.Rows
section
variable {X:Cx}
def uH(K:AE):V->List V->Hp->VK->Prop:=fun x xs H Q=>∃(a:Addr) (ys:List V) (y:V),x=V.ref a/\xs=[y]/\Bq K H a ys/\JY y=true/\ys.all JY=true/\Q (.int ((ys.countP fun z=>km z y:Nat):Int)) H
theorem uI{y:V}:∀{ys:List V} {its:List Value},Vals ys its->ys.all JY=true->its.countP (fh y)=ys.countP fun z=>km z y
 |[],_,.nil,_=>rfl
 |z::ys,_,.cons r t,f=>by
  rw[JC,BB]at f;rw[vI,vI,uI t f.2,Ye r f.1]
theorem qA:MtR X "list.count" (uH X.K):=by
 intro pins s σ H x xs v us Q I rx rxs h;obtain ⟨a,ys,y,rfl,rfl,hs,fy,fys,q⟩:=h;cases rx;cases rxs with
 |cons ry rt =>
  rename_i uy ut;cases rt;obtain ⟨its,rv,⟨⟨cls,dd,data,sl⟩,n,ho,hc,hdn,hd⟩,hlen⟩:=I.list hs;simp only at hc hd;subst hc hd;refine GG bu ⟨_,ho,rfl⟩ PySem.F.entry_list_count (PySem.F.args_list_count_2 _ _)
   (SeqAt.list_countAt a its.toArray n dd sl uy (fh y)) ⟨ho,fun u' hu'=>J8 ry fy rv fys u' (by simpa using hu'),?_⟩
  have e1:its.toArray.toList.countP (fh y)=ys.countP fun z=>km z y:=uI rv fys
  rw[e1];exact ⟨.int _,H,I.tok _,⟨_,rfl⟩,q⟩
def oG(K:AE):V->List V->Hp->VK->Prop:=fun x xs H Q=>∃(a:Addr) (ys:List V) (y:V) (j:Nat) (z:V),x=V.ref a/\xs=[y]/\DR K H a ys/\JY y=true/\ys.all JY=true/\ys[j]?=some z/\km z y=true /\
 (∀(m:Nat) (z':V),m<j->ys[m]?=some z'->km z' y=false)/\Q (.int (j:Nat)) H
theorem qB:MtR X "tuple.index" (oG X.K):=by
 intro pins s σ H x xs v us Q I rx rxs h;obtain ⟨a,ys,y,j,z,rfl,rfl,hs,fy,fys,hz,hzj,hno,q⟩:=h;cases rx;cases rxs with
 |cons ry rt =>
  rename_i uy ut;cases rt;obtain ⟨its,rv,⟨⟨cls,dd,data,sl⟩,ho,hc,n,hd⟩,hlen⟩:=I.tuple hs;simp only at hc hd;subst hc hd;obtain ⟨u,hu,ru⟩:=rv.get hz;obtain ⟨hjl,hje⟩:=Ap.mp hu;have hvl:=rv.length;have hj:j<its.toArray.size:=by simpa using hjl
  refine GG aj ⟨_,ho,rfl⟩ PySem.F.entry_tuple_index (PySem.F.args_tuple_index_2 _ _)
   (pz.bE a its.toArray n dd sl uy (fh y) j hj ?_ ?_) ⟨ho,fun u' hu'=>J8 ry fy rv fys u' (by simpa using hu'),?_⟩
  ·have e1:its.toArray[j]=u:=by simpa using hje
   rw[e1,Ye ru (n4 fys hz)];exact hzj
  ·intro m hm hmj;have hml:m<its.length:=by simpa using hm
   have hmy:m<ys.length:=by omega
   have hy':ys[m]?=some ys[m]:=A5 hmy;obtain ⟨u2,hu2,ru2⟩:=rv.get hy';obtain ⟨_,hme⟩:=Ap.mp hu2;have e1:its.toArray[m]=u2:=by simpa using hme
   rw[e1,Ye ru2 (n4 fys hy')];exact hno m _ hmj hy'
  ·exact ⟨.int (j:Nat),H,I.tok _,⟨_,rfl⟩,q⟩
theorem bH(hc:X.calm=true):JX X (.type "list") (fun xs H Q=>∃(a:Addr) (n:Nat),xs=[.ref a]/\H a=some (.xt 0 (n:Int))/\n<=1000/\∀p,H p=none->Q (.ref p) (upd H p (.lst ((AF n).map fun (i:Nat)=>V.int (i:Int))))):=by
 intro pins s σ H xs us Q I r h;obtain ⟨a,n,rfl,ha,hn,q⟩:=h;obtain ⟨u,rfl,ru⟩:=vals1 r;cases ru;obtain ⟨t,u,v,e⟩:∃t u v,s.heap.get? a=some { cls:=.type "range",data:=.fields #[.int 0 t,.int (n:Int) u,.int 1 v] }:=I.C2 a _ ha;have hr:IsRange s.heap a 0 (n:Int) 1 t u v:=e;refine PySem.call_list_range (n:=n) (I.ok.hd hc) hr (AAe (by omega) (by omega) (by omega) (by omega)) ?_ (by omega) fun h' tk acc' c' kp hS' hacc=>?_
 ·rw[oj]
  split<;>omega
 ·have hv:=Ys hacc;have e2:acc'.toList.toArray=acc':=by simp
  refine ⟨.ref s.heap.objs.size,_,I.laid (t':=tk) (o:=.lst ((AF n).map fun (i:Nat)=>V.int (i:Int))) kp (AV _) ?_,rfl,q _ I.fresh⟩;exact ⟨by simp;exact AY hn (by decide),acc'.toList,c',hv,by rw[e2];exact hS'⟩
theorem xB(K:AE)(h:X.K=K)(hc:X.calm=true):JX X (.builtin "min") (ABN K):=by
 subst h;exact zU hc
theorem xC(K:AE)(h:X.K=K)(hc:X.calm=true):JX X (.builtin "any") (ABO K):=by
 subst h;exact zV hc
theorem qC(K:AE)(h:X.K=K):MtR X "list.count" (uH K):=by
 subst h;exact qA
theorem zm(K:AE)(h:X.K=K){T:String}{name:Str}{id:String}{r:V->List V->Hp->VK->Prop}{o e:Expr}{es:List Expr}{to:TE}{t:TA}{apos cpos:Pos}(pa:PlainAttrs T)(slot:Slot T name id)(hty:typeOf (.builtin id)=pure (.type "method_descriptor"))(hm:MtR X id r)(ho:PE X o to)(ha:PA X (e::es) t)
  (hbase:attributeBase o name X.env (eval o X.env)=eval o X.env:=by rfl)
  (hfew:((backTo cpos (starEach (e::es) X.env)).all (fun x => !x.1)&&(backToKw cpos (keywordEach [] X.env)).all (fun x=>x.1.isSome)
   && decide ((e::es).length+([]:List Keyword).length+(if ([]:List Keyword).isEmpty then 0 else 1)<30))=true:=by rfl)
  (hline:(apos.endLine==cpos.line)=true:=by rfl) (hs:starEach (e::es) X.env=(false,eval e X.env)::starEach es X.env:=by rfl) (hplain:(backTo cpos (starEach es X.env)).any (·.1)=false:=by rfl) :
  PE X (.Call (.Attribute o name apos) (e::es) [] cpos) (tBM K T r to t):=by
 subst h;exact JZ pa slot hty hm ho ha hbase hfew hline hs hplain
theorem uJ(K:AE)(h:X.K=K){tg l:Expr}{tl:TE}(hl:PE X l tl):PI X tg l (x9 K tl):=by
 subst h;exact DO hl
theorem xD{K:AE}{a:Addr}{xs:List V}{g:TG}{tb:TS}{D:Ends}{σ:St}{H:Hp}(Pv:Nat->St->Hp->Prop)(h0:Pv 0 σ H)(hl:∀i σ H,i<=xs.length->Pv i σ H->Bq K H a xs)
  (hs:∀i x σ H,xs[xs.length-1-i]?=some x->i<xs.length->Pv i σ H->g x σ H fun σ2 H2=>tb { D with nx:=Pv (i+1),ct:=Pv (i+1),bk:=D.nx } σ2 H2) (hd:∀σ H,Pv xs.length σ H->D.nx σ H) :
  ∃W:Nat->Nat->St->Hp->Prop,(∃m,W 0 m σ H)/\∀i m σ H,W i m σ H ->
   ((Itv K a xs.length).stop i H/\D.nx σ H)\/((Itv K a xs.length).go i H/\∃N:St->Hp->Prop,(∀σ' H',N σ' H'->∃m',m'<m/\W (i+1) m' σ' H')/\∀x H',(Itv K a xs.length).ng i H x H'->g x σ H' fun σ2 H2=>tb { D with nx:=N,ct:=N,bk:=D.nx } σ2 H2):=by
 refine ⟨fun i m σ H=>m=xs.length-i/\i<=xs.length/\Pv i σ H,⟨xs.length,by simp,Bb _,h0⟩,?_⟩;rintro i m σ H ⟨rfl,hi,p⟩;have q:=hl i σ H hi p
 by_cases hlt:i<xs.length
 ·have hx:xs[xs.length-1-i]?=some (xs[xs.length-1-i]'(by omega)):=A5 (by omega);refine .inr ⟨⟨hlt,xs,_,q,hx⟩,Pv (i+1),fun σ' H' p'=>⟨xs.length-(i+1),by omega,rfl,hlt,p'⟩,fun x H' y=>?_⟩;obtain ⟨eH,y⟩:=y;subst eH;exact hs i x σ _ (y xs q) hlt p
 ·have e:i=xs.length:=by omega
  subst e;exact .inl ⟨AV _,hd σ H p⟩
end
end L2
namespace SH
open PySem PySem.Spec PyProof.Rows L2
def top(i:Nat):Stmt:=yX.main.body.getD i (.Pass ⟨0,0,0,0⟩)
abbrev LW:Stmt:=inClass (top 3) 0
abbrev bI:List Str:=["self","lists","student"]
abbrev RF:List Str:=["self","lists"]
theorem KD:Au ["self","lists","student"] ["self","lists"] (AO LW):=⟨rfl,rfl,rfl,by decide +kernel,rfl,by decide +kernel,by decide +kernel⟩
abbrev Ox:Stmt:=inClass (top 3) 1
abbrev Oy:List Str:=["self","student"]
theorem XB:Au ["self","student"] ["self","student"] (AO Ox):=⟨rfl,rfl,rfl,by decide +kernel,rfl,by decide +kernel,by decide +kernel⟩
abbrev Oz:Stmt:=inClass (top 3) 2
abbrev O0:List Str:=["self","one","other"]
theorem XC:Au ["self","one","other"] ["self","one","other"] (AO Oz):=⟨rfl,rfl,rfl,by decide +kernel,rfl,by decide +kernel,by decide +kernel⟩
abbrev Ni:Stmt:=inClass (top 3) 3
abbrev Nj:List Str:=["self","student","one","other"]
theorem U5:Au ["self","student","one","other"] ["self","student","one","other"] (AO Ni):=⟨rfl,rfl,rfl,by decide +kernel,rfl,by decide +kernel,by decide +kernel⟩
abbrev KG:Stmt:=inClass (top 3) 4
abbrev KH:List Str:=["self","student","wanted"]
theorem Ja:Au ["self","student","wanted","lists"] ["self","student","wanted"] (AO KG):=⟨rfl,rfl,rfl,by decide +kernel,rfl,by decide +kernel,by decide +kernel⟩
abbrev Fb:Stmt:=inClass (top 3) 5
abbrev NA:List Str:=["self","wanted","lists","others"]
abbrev Hd:List Str:=["self","wanted"]
theorem FL:Au ["self","wanted","lists","others"] ["self","wanted"] (AO Fb):=⟨rfl,rfl,rfl,by decide +kernel,rfl,by decide +kernel,by decide +kernel⟩
abbrev Fu:Stmt:=inClass (top 3) 6
abbrev OA:List Str:=["self","last","others"]
abbrev ID:List Str:=["self"]
theorem ER:Au ["self","last","others"] ["self"] (AO Fu):=⟨rfl,rfl,rfl,by decide +kernel,rfl,by decide +kernel,by decide +kernel⟩
abbrev WE:Stmt:=top 4
abbrev WG:List Str:=["number"]
theorem f9:Au ["number"] ["number"] (AO WE):=⟨rfl,rfl,rfl,by decide +kernel,rfl,by decide +kernel,by decide +kernel⟩
abbrev Yx:Stmt:=top 5
abbrev Yy:List Str:=["student","lists"]
theorem Ip:Au ["student","lists","number","ranks","place","other"] ["student","lists"] (AO Yx):=⟨rfl,rfl,rfl,by decide +kernel,rfl,by decide +kernel,by decide +kernel⟩
abbrev RG:Stmt:=top 6
abbrev RH:List Str:=["lists","one","other"]
theorem Yz:Au ["lists","one","other"] ["lists","one","other"] (AO RG):=⟨rfl,rfl,rfl,by decide +kernel,rfl,by decide +kernel,by decide +kernel⟩
abbrev MI:Stmt:=top 7
abbrev MJ:List Str:=["lists"]
theorem F5:Au ["lists","twos","lesser","other"] ["lists"] (AO MI):=⟨rfl,rfl,rfl,by decide +kernel,rfl,by decide +kernel,by decide +kernel⟩
abbrev U6:Stmt:=top 8
abbrev qD:List Str:=["others","student","other"]
abbrev cq:List Str:=["others","student"]
theorem Rr:Au ["others","student","other"] ["others","student"] (AO U6):=⟨rfl,rfl,rfl,by decide +kernel,rfl,by decide +kernel,by decide +kernel⟩
abbrev cw:Stmt:=top 9
abbrev cx:List Str:=["wanted","number","owner"]
theorem Y0:Au ["wanted","number","owner","other"] ["wanted","number","owner"] (AO cw):=⟨rfl,rfl,rfl,by decide +kernel,rfl,by decide +kernel,by decide +kernel⟩
abbrev WH:Stmt:=top 11
abbrev WI:List Str:=["number"]
theorem gA:Au ["number"] ["number"] (AO WH):=⟨rfl,rfl,rfl,by decide +kernel,rfl,by decide +kernel,by decide +kernel⟩
abbrev Y1:Stmt:=top 12
abbrev Y2:List Str:=["has","student"]
theorem jH:Au ["has","student"] ["has","student"] (AO Y1):=⟨rfl,rfl,rfl,by decide +kernel,rfl,by decide +kernel,by decide +kernel⟩
abbrev LX:Stmt:=top 13
abbrev bJ:List Str:=["has","student"]
abbrev RI:List Str:=["has"]
theorem KI:Au ["has","student"] ["has"] (AO LX):=⟨rfl,rfl,rfl,by decide +kernel,rfl,by decide +kernel,by decide +kernel⟩
abbrev lY:Stmt:=top 14
abbrev zo:List Str:=["has","row","student"]
abbrev uK:List Str:=["has"]
theorem gB:Au ["has","row","student"] ["has"] (AO lY):=⟨rfl,rfl,rfl,by decide +kernel,rfl,by decide +kernel,by decide +kernel⟩
abbrev O1:Stmt:=top 15
abbrev jI:List Str:=["wishes","row","has","student","other"]
abbrev WJ:List Str:=["wishes","row"]
theorem He:Au ["wishes","row","has","student","other"] ["wishes","row"] (AO O1):=⟨rfl,rfl,rfl,by decide +kernel,rfl,by decide +kernel,by decide +kernel⟩
abbrev O2:Stmt:=top 16
abbrev O3:List Str:=["wishes","has","student","other"]
theorem XD:Au ["wishes","has","student","other"] ["wishes","has","student","other"] (AO O2):=⟨rfl,rfl,rfl,by decide +kernel,rfl,by decide +kernel,by decide +kernel⟩
abbrev jJ:Stmt:=top 17
abbrev jK:List Str:=["has","student"]
theorem cy:Au ["has","student","rest"] ["has","student"] (AO jJ):=⟨rfl,rfl,rfl,by decide +kernel,rfl,by decide +kernel,by decide +kernel⟩
abbrev jL:Stmt:=top 18
abbrev jM:List Str:=["has","one","other"]
theorem cz:Au ["has","one","other","rest"] ["has","one","other"] (AO jL):=⟨rfl,rfl,rfl,by decide +kernel,rfl,by decide +kernel,by decide +kernel⟩
abbrev jN:Stmt:=top 19
abbrev jO:List Str:=["has","one","other"]
theorem qE:Au ["has","one","other"] ["has","one","other"] (AO jN):=⟨rfl,rfl,rfl,by decide +kernel,rfl,by decide +kernel,by decide +kernel⟩
abbrev RJ:Stmt:=top 20
abbrev RK:List Str:=["wishes","has","one","other"]
theorem O4:Au ["wishes","has","one","other","ranks"] ["wishes","has","one","other"] (AO RJ):=⟨rfl,rfl,rfl,by decide +kernel,rfl,by decide +kernel,by decide +kernel⟩
abbrev Rt:Stmt:=top 21
abbrev lZ:List Str:=["wishes","has","two"]
abbrev Y3:List Str:=["wishes","has"]
theorem O5:Au ["wishes","has","two"] ["wishes","has"] (AO Rt):=⟨rfl,rfl,rfl,by decide +kernel,rfl,by decide +kernel,by decide +kernel⟩
abbrev Y4:Stmt:=top 22
abbrev Y5:List Str:=["wishes","has"]
theorem WK:Au ["wishes","has","two"] ["wishes","has"] (AO Y4):=⟨rfl,rfl,rfl,by decide +kernel,rfl,by decide +kernel,by decide +kernel⟩
abbrev Nk:Stmt:=top 23
abbrev Nl:List Str:=["wishes"]
theorem EW:Au ["wishes","found","student","further","has"] ["wishes"] (AO Nk):=⟨rfl,rfl,rfl,by decide +kernel,rfl,by decide +kernel,by decide +kernel⟩
abbrev c7:Stmt:=top 24
abbrev c8:List Str:=["wishes","has","student"]
theorem Ru:Au ["wishes","has","student","options","two"] ["wishes","has","student"] (AO c7):=⟨rfl,rfl,rfl,by decide +kernel,rfl,by decide +kernel,by decide +kernel⟩
abbrev GQ:Stmt:=top 25
abbrev O6:List Str:=["wishes","has"]
abbrev Iq:List Str:=["wishes"]
theorem Fv:Au ["wishes","has"] ["wishes"] (AO GQ):=⟨rfl,rfl,rfl,by decide +kernel,rfl,by decide +kernel,by decide +kernel⟩
abbrev JI:Stmt:=top 26
abbrev XE:List Str:=["wishes","has","before","ranks","glad","one"]
abbrev Nn:List Str:=["wishes","has","before"]
theorem Gm:Au ["wishes","has","before","ranks","glad","one"] ["wishes","has","before"] (AO JI):=⟨rfl,rfl,rfl,by decide +kernel,rfl,by decide +kernel,by decide +kernel⟩
abbrev WL:Stmt:=top 27
abbrev WM:List Str:=["wishes","has","before"]
theorem gC:Au ["wishes","has","before"] ["wishes","has","before"] (AO WL):=⟨rfl,rfl,rfl,by decide +kernel,rfl,by decide +kernel,by decide +kernel⟩
abbrev O7:Stmt:=top 28
abbrev O8:List Str:=["wishes","before","pairings"]
theorem Np:Au ["wishes","before","pairings","has"] ["wishes","before","pairings"] (AO O7):=⟨rfl,rfl,rfl,by decide +kernel,rfl,by decide +kernel,by decide +kernel⟩
abbrev Hf:Stmt:=top 29
abbrev Ts:List Str:=["wishes","pairings","has"]
abbrev LC:List Str:=["wishes"]
theorem Fc:Au ["wishes","pairings","has"] ["wishes"] (AO Hf):=⟨rfl,rfl,rfl,by decide +kernel,rfl,by decide +kernel,by decide +kernel⟩
abbrev F6:Stmt:=top 30
abbrev LD:List Str:=["wishes","pairings","most","has"]
abbrev LF:List Str:=["wishes"]
theorem DI:Au ["wishes","pairings","most","has"] ["wishes"] (AO F6):=⟨rfl,rfl,rfl,by decide +kernel,rfl,by decide +kernel,by decide +kernel⟩
abbrev KJ:Stmt:=top 31
abbrev Y6:List Str:=["has","student"]
abbrev O9:List Str:=["has"]
theorem JJ:Au ["has","student"] ["has"] (AO KJ):=⟨rfl,rfl,rfl,by decide +kernel,rfl,by decide +kernel,by decide +kernel⟩
abbrev PB:Stmt:=top 40
abbrev PD:List Str:=["wishes","has"]
theorem Dh:Au ["wishes","has","met","level","further","pairing","way","twos"] ["wishes","has"] (AO PB):=⟨rfl,rfl,rfl,by decide +kernel,rfl,by decide +kernel,by decide +kernel⟩
abbrev PF:Stmt:=top 41
abbrev PH:List Str:=["pairing","way","twos","met"]
theorem G9:Au ["pairing","way","twos","met","further","two","after"] ["pairing","way","twos","met"] (AO PF):=⟨rfl,rfl,rfl,by decide +kernel,rfl,by decide +kernel,by decide +kernel⟩
abbrev jP:Stmt:=top 42
abbrev jQ:List Str:=["has","way"]
theorem U7:Au ["has","way","two"] ["has","way"] (AO jP):=⟨rfl,rfl,rfl,by decide +kernel,rfl,by decide +kernel,by decide +kernel⟩
abbrev Y7:Stmt:=top 44
abbrev Y8:List Str:=["state","given"]
theorem WN:Au ["state","given","number"] ["state","given"] (AO Y7):=⟨rfl,rfl,rfl,by decide +kernel,rfl,by decide +kernel,by decide +kernel⟩
abbrev c9:Stmt:=top 45
abbrev dA:List Str:=["state","given"]
theorem GR:Au ["state","given","student","count","wanted","before","wishes","has"] ["state","given"] (AO c9):=⟨rfl,rfl,rfl,by decide +kernel,rfl,by decide +kernel,by decide +kernel⟩
abbrev oH:Stmt:=top 46
abbrev oJ:List Str:=["state","given"]
theorem Tt:Au ["state","given","newcomer","count","wanted"] ["state","given"] (AO oH):=⟨rfl,rfl,rfl,by decide +kernel,rfl,by decide +kernel,by decide +kernel⟩
abbrev dB:Stmt:=top 47
abbrev dC:List Str:=["state","given"]
theorem Rv:Au ["state","given","last","mate"] ["state","given"] (AO dB):=⟨rfl,rfl,rfl,by decide +kernel,rfl,by decide +kernel,by decide +kernel⟩
abbrev dD:Stmt:=top 48
abbrev dE:List Str:=["state","given"]
theorem Rw:Au ["state","given","one","other"] ["state","given"] (AO dD):=⟨rfl,rfl,rfl,by decide +kernel,rfl,by decide +kernel,by decide +kernel⟩
abbrev dF:Stmt:=top 49
abbrev dG:List Str:=["state","given"]
theorem Rx:Au ["state","given","student","mate"] ["state","given"] (AO dF):=⟨rfl,rfl,rfl,by decide +kernel,rfl,by decide +kernel,by decide +kernel⟩
abbrev Y9:Stmt:=top 50
abbrev ZA:List Str:=["state","given"]
theorem PJ:Au ["state","given","one","other"] ["state","given"] (AO Y9):=⟨rfl,rfl,rfl,by decide +kernel,rfl,by decide +kernel,by decide +kernel⟩
abbrev dH:Stmt:=top 51
abbrev dI:List Str:=["state","given"]
theorem Ry:Au ["state","given","way","two"] ["state","given"] (AO dH):=⟨rfl,rfl,rfl,by decide +kernel,rfl,by decide +kernel,by decide +kernel⟩
abbrev WO:Stmt:=top 52
abbrev WQ:List Str:=["state","given"]
theorem Tu:Au ["state","given","way"] ["state","given"] (AO WO):=⟨rfl,rfl,rfl,by decide +kernel,rfl,by decide +kernel,by decide +kernel⟩
abbrev dJ:Stmt:=top 53
abbrev dM:List Str:=["state","given"]
theorem ZC:Au ["state","given","holding"] ["state","given"] (AO dJ):=⟨rfl,rfl,rfl,by decide +kernel,rfl,by decide +kernel,by decide +kernel⟩
abbrev dN:Stmt:=top 56
abbrev dO:List Str:=["state","given"]
theorem lg:Au ["state","given"] ["state","given"] (AO dN):=⟨rfl,rfl,rfl,by decide +kernel,rfl,by decide +kernel,by decide +kernel⟩
abbrev ZD:Stmt:=top 57
abbrev ZE:List Str:=["state","given"]
theorem jR:Au ["state","given"] ["state","given"] (AO ZD):=⟨rfl,rfl,rfl,by decide +kernel,rfl,by decide +kernel,by decide +kernel⟩
abbrev ZF:Stmt:=top 58
abbrev ZG:List Str:=["state","given"]
theorem jS:Au ["state","given"] ["state","given"] (AO ZF):=⟨rfl,rfl,rfl,by decide +kernel,rfl,by decide +kernel,by decide +kernel⟩
abbrev U8:Stmt:=top 61
abbrev qF:List Str:=["students","student"]
abbrev dP:List Str:=["students"]
theorem Rz:Au ["students","student"] ["students"] (AO U8):=⟨rfl,rfl,rfl,by decide +kernel,rfl,by decide +kernel,by decide +kernel⟩
abbrev WR:Stmt:=top 62
abbrev WS:List Str:=["number"]
theorem Gn:Au ["number","found","student","further","chosen"] ["number"] (AO WR):=⟨rfl,rfl,rfl,by decide +kernel,rfl,by decide +kernel,by decide +kernel⟩
abbrev LY:Stmt:=top 63
abbrev bK:List Str:=["number","chosen","student"]
abbrev RL:List Str:=["number","chosen"]
theorem KL:Au ["number","chosen","student"] ["number","chosen"] (AO LY):=⟨rfl,rfl,rfl,by decide +kernel,rfl,by decide +kernel,by decide +kernel⟩
abbrev Jm:Stmt:=top 64
abbrev Tv:List Str:=["wishes","left","names","one","other","kept","lost","name","student"]
abbrev Tw:List Str:=["wishes","left"]
theorem DB:Au ["wishes","left","names","one","other","kept","lost","name","student"] ["wishes","left"] (AO Jm):=⟨rfl,rfl,rfl,by decide +kernel,rfl,by decide +kernel,by decide +kernel⟩
abbrev NB:Stmt:=top 65
abbrev gD:List Str:=["wishes","chosen","left","names","odd","student"]
abbrev Tx:List Str:=["wishes","chosen"]
theorem G5:Au ["wishes","chosen","left","names","odd","student"] ["wishes","chosen"] (AO NB):=⟨rfl,rfl,rfl,by decide +kernel,rfl,by decide +kernel,by decide +kernel⟩
abbrev Ir:Stmt:=top 66
abbrev Iu:List Str:=["wishes"]
theorem OB:Au ["wishes"] ["wishes"] (AO Ir):=⟨rfl,rfl,rfl,by decide +kernel,rfl,by decide +kernel,by decide +kernel⟩
abbrev NC:Stmt:=top 68
abbrev gE:List Str:=["wishes","holding","nexts"]
abbrev Tz:List Str:=["wishes"]
theorem LZ:Au ["wishes","holding","nexts"] ["wishes"] (AO NC):=⟨rfl,rfl,rfl,by decide +kernel,rfl,by decide +kernel,by decide +kernel⟩
abbrev La:Stmt:=top 69
abbrev bL:List Str:=["wishes","found","student","further","nexts","other"]
abbrev RM:List Str:=["wishes"]
theorem EA:Au ["wishes","found","student","further","nexts","other"] ["wishes"] (AO La):=⟨rfl,rfl,rfl,by decide +kernel,rfl,by decide +kernel,by decide +kernel⟩
abbrev oK:Stmt:=top 70
abbrev oM:List Str:=["wishes","nexts","other"]
theorem jT:Au ["wishes","nexts","other","student"] ["wishes","nexts","other"] (AO oK):=⟨rfl,rfl,rfl,by decide +kernel,rfl,by decide +kernel,by decide +kernel⟩
abbrev Nq:Stmt:=top 71
abbrev Nr:List Str:=["nexts"]
theorem Gp:Au ["nexts","before","student","other"] ["nexts"] (AO Nq):=⟨rfl,rfl,rfl,by decide +kernel,rfl,by decide +kernel,by decide +kernel⟩
abbrev WT:Stmt:=top 72
abbrev WU:List Str:=["nexts","student"]
theorem Jn:Au ["nexts","student","ring","other"] ["nexts","student"] (AO WT):=⟨rfl,rfl,rfl,by decide +kernel,rfl,by decide +kernel,by decide +kernel⟩
abbrev LG:Stmt:=top 73
abbrev WV:List Str:=["nexts","rings","student","ring"]
abbrev WW:List Str:=["nexts"]
theorem Hg:Au ["nexts","rings","student","ring"] ["nexts"] (AO LG):=⟨rfl,rfl,rfl,by decide +kernel,rfl,by decide +kernel,by decide +kernel⟩
abbrev ND:Stmt:=top 74
abbrev gF:List Str:=["nexts","other"]
abbrev T3:List Str:=["nexts"]
theorem Lb:Au ["nexts","other"] ["nexts"] (AO ND):=⟨rfl,rfl,rfl,by decide +kernel,rfl,by decide +kernel,by decide +kernel⟩
abbrev ZH:Stmt:=top 76
abbrev ZI:List Str:=["state","given"]
theorem jU:Au ["state","given"] ["state","given"] (AO ZH):=⟨rfl,rfl,rfl,by decide +kernel,rfl,by decide +kernel,by decide +kernel⟩
abbrev ZJ:Stmt:=top 77
abbrev ZK:List Str:=["state","given"]
theorem WX:Au ["state","given","way"] ["state","given"] (AO ZJ):=⟨rfl,rfl,rfl,by decide +kernel,rfl,by decide +kernel,by decide +kernel⟩
abbrev jV:Stmt:=top 78
abbrev jW:List Str:=["state","given"]
theorem U9:Au ["state","given","way","two"] ["state","given"] (AO jV):=⟨rfl,rfl,rfl,by decide +kernel,rfl,by decide +kernel,by decide +kernel⟩
abbrev ZL:Stmt:=top 79
abbrev ZM:List Str:=["state","given"]
theorem LH:Au ["state","given","wishes","offered","keep"] ["state","given"] (AO ZL):=⟨rfl,rfl,rfl,by decide +kernel,rfl,by decide +kernel,by decide +kernel⟩
abbrev ZN:Stmt:=top 80
abbrev uL:List Str:=["state","given","wishes","better","has"]
abbrev jX:List Str:=["state","given"]
theorem Qk:Au ["state","given","wishes","better","has"] ["state","given"] (AO ZN):=⟨rfl,rfl,rfl,by decide +kernel,rfl,by decide +kernel,by decide +kernel⟩
abbrev dQ:Stmt:=top 81
abbrev dR:List Str:=["state","given"]
theorem ZO:Au ["state","given","best"] ["state","given"] (AO dQ):=⟨rfl,rfl,rfl,by decide +kernel,rfl,by decide +kernel,by decide +kernel⟩
abbrev dS:Stmt:=top 82
abbrev dU:List Str:=["state","given"]
theorem R0:Au ["state","given","holding","pairs"] ["state","given"] (AO dS):=⟨rfl,rfl,rfl,by decide +kernel,rfl,by decide +kernel,by decide +kernel⟩
abbrev jY:Stmt:=top 83
abbrev jZ:List Str:=["state","given"]
theorem dW:Au ["state","given","why"] ["state","given"] (AO jY):=⟨rfl,rfl,rfl,by decide +kernel,rfl,by decide +kernel,by decide +kernel⟩
abbrev ZP:Stmt:=top 84
abbrev ja:List Str:=["state","given","best","may","one","has"]
abbrev jb:List Str:=["state","given"]
theorem Jv:Au ["state","given","best","may","one","has"] ["state","given"] (AO ZP):=⟨rfl,rfl,rfl,by decide +kernel,rfl,by decide +kernel,by decide +kernel⟩
abbrev dX:Stmt:=top 85
abbrev dY:List Str:=["state","given"]
theorem ZQ:Au ["state","given","wishes"] ["state","given"] (AO dX):=⟨rfl,rfl,rfl,by decide +kernel,rfl,by decide +kernel,by decide +kernel⟩
abbrev ZR:Stmt:=top 86
abbrev ZS:List Str:=["state","given"]
theorem WY:Au ["state","given","nexts"] ["state","given"] (AO ZR):=⟨rfl,rfl,rfl,by decide +kernel,rfl,by decide +kernel,by decide +kernel⟩
abbrev ZT:Stmt:=top 87
abbrev ZU:List Str:=["state","given"]
theorem PM:Au ["state","given","holding","alone"] ["state","given"] (AO ZT):=⟨rfl,rfl,rfl,by decide +kernel,rfl,by decide +kernel,by decide +kernel⟩
abbrev VA:Stmt:=top 88
abbrev qG:List Str:=["state","given","student","holding","ranks","has"]
abbrev dZ:List Str:=["state","given"]
theorem IP:Au ["state","given","student","holding","ranks","has"] ["state","given"] (AO VA):=⟨rfl,rfl,rfl,by decide +kernel,rfl,by decide +kernel,by decide +kernel⟩
abbrev WZ:Stmt:=top 89
abbrev Wa:List Str:=["state","given"]
theorem Jo:Au ["state","given","wishes","holding","offered"] ["state","given"] (AO WZ):=⟨rfl,rfl,rfl,by decide +kernel,rfl,by decide +kernel,by decide +kernel⟩
abbrev RN:Stmt:=top 90
abbrev RO:List Str:=["state","given"]
theorem PN:Au ["state","given","twos"] ["state","given"] (AO RN):=⟨rfl,rfl,rfl,by decide +kernel,rfl,by decide +kernel,by decide +kernel⟩
abbrev da:Stmt:=top 91
abbrev dc:List Str:=["state","given"]
theorem ZV:Au ["state","given","student"] ["state","given"] (AO da):=⟨rfl,rfl,rfl,by decide +kernel,rfl,by decide +kernel,by decide +kernel⟩
abbrev VB:Stmt:=top 92
abbrev qH:List Str:=["state","given","student","wanted","other"]
abbrev de:List Str:=["state","given"]
theorem KN:Au ["state","given","student","wanted","other"] ["state","given"] (AO VB):=⟨rfl,rfl,rfl,by decide +kernel,rfl,by decide +kernel,by decide +kernel⟩
abbrev jc:Stmt:=top 93
abbrev jd:List Str:=["state","given"]
theorem qI:Au ["state","given"] ["state","given"] (AO jc):=⟨rfl,rfl,rfl,by decide +kernel,rfl,by decide +kernel,by decide +kernel⟩
abbrev T4:Stmt:=inClass (top 97) 0
abbrev T5:List Str:=["self"]
theorem bM:Au ["self"] ["self"] (AO T4):=⟨rfl,rfl,rfl,by decide +kernel,rfl,by decide +kernel,by decide +kernel⟩
abbrev RP:Stmt:=inClass (top 97) 1
abbrev RQ:List Str:=["self","number"]
theorem ZW:Au ["self","number"] ["self","number"] (AO RP):=⟨rfl,rfl,rfl,by decide +kernel,rfl,by decide +kernel,by decide +kernel⟩
abbrev PQ:Stmt:=inClass (top 97) 2
abbrev PR:List Str:=["self","wishes","has"]
theorem XF:Au ["self","wishes","has"] ["self","wishes","has"] (AO PQ):=⟨rfl,rfl,rfl,by decide +kernel,rfl,by decide +kernel,by decide +kernel⟩
abbrev LI:Stmt:=inClass (top 97) 3
abbrev LJ:List Str:=["self"]
theorem R1:Au ["self"] ["self"] (AO LI):=⟨rfl,rfl,rfl,by decide +kernel,rfl,by decide +kernel,by decide +kernel⟩
abbrev MK:Stmt:=inClass (top 97) 4
abbrev ML:List Str:=["self"]
theorem T6:Au ["self"] ["self"] (AO MK):=⟨rfl,rfl,rfl,by decide +kernel,rfl,by decide +kernel,by decide +kernel⟩
abbrev Wb:Stmt:=inClass (top 97) 5
abbrev Wc:List Str:=["self","kept"]
theorem gG:Au ["self","kept"] ["self","kept"] (AO Wb):=⟨rfl,rfl,rfl,by decide +kernel,rfl,by decide +kernel,by decide +kernel⟩
abbrev RR:Stmt:=inClass (top 97) 6
abbrev RS:List Str:=["self","student"]
theorem ZX:Au ["self","student"] ["self","student"] (AO RR):=⟨rfl,rfl,rfl,by decide +kernel,rfl,by decide +kernel,by decide +kernel⟩
abbrev VC:Stmt:=top 99
abbrev MN:List Str:=["calls"]
theorem GS:Au ["calls","state","given_back","at","form","end","answer"] ["calls"] (AO VC):=⟨rfl,rfl,rfl,by decide +kernel,rfl,by decide +kernel,by decide +kernel⟩
abbrev df:Stmt:=top 100
abbrev dg:List Str:=["number"]
theorem lh:Au ["number"] ["number"] (AO df):=⟨rfl,rfl,rfl,by decide +kernel,rfl,by decide +kernel,by decide +kernel⟩
abbrev RT:Stmt:=top 101
abbrev RU:List Str:=["calls","at","form"]
theorem KO:Au ["calls","at","form","end"] ["calls","at","form"] (AO RT):=⟨rfl,rfl,rfl,by decide +kernel,rfl,by decide +kernel,by decide +kernel⟩
abbrev Nt:Stmt:=top 102
abbrev Nu:List Str:=["calls","at","end","form"]
theorem IQ:Au ["calls","at","end","form","row_at","given"] ["calls","at","end","form"] (AO Nt):=⟨rfl,rfl,rfl,by decide +kernel,rfl,by decide +kernel,by decide +kernel⟩
abbrev Fw:Pos:=⟨301,45,301,86⟩
abbrev Fx:Str:=((("set_that_tells_why" : Str) ++ ".<locals>.") ++ "<lambda>")
abbrev ll:Pos:=⟨407,55,407,79⟩
abbrev lr:Str:=((("hs_best" : Str) ++ ".<locals>.") ++ "<lambda>")
set_option genInjectivity false
set_option genSizeOf false
structure HU where
 Lc:Addr
 Ld:FuncData
 KP:Addr
 KQ:FuncData
 KR:Addr
 KS:FuncData
 JK:Addr
 JL:FuncData
 HF:Addr
 HG:FuncData
 Fd:Addr
 Fe:FuncData
 Fy:Addr
 Fz:FuncData
 PU:Addr
 PV:FuncData
 R3:Addr
 R4:FuncData
 Le:Addr
 Lf:FuncData
 IS:Addr
 IT:FuncData
 VD:Addr
 VE:FuncData
 VF:Addr
 VG:FuncData
 PX:Addr
 PY:FuncData
 R5:Addr
 R6:FuncData
 Lg:Addr
 Lh:FuncData
 lz:Addr
 l0:FuncData
 PZ:Addr
 Pa:FuncData
 KU:Addr
 KW:FuncData
 ZY:Addr
 ZZ:FuncData
 Za:Addr
 Zb:FuncData
 Zc:Addr
 Zd:FuncData
 Li:Addr
 Lj:FuncData
 R7:Addr
 R8:FuncData
 R9:Addr
 SA:FuncData
 JM:Addr
 JN:FuncData
 VH:Addr
 VI:FuncData
 GU:Addr
 GV:FuncData
 JO:Addr
 JP:FuncData
 Pc:Addr
 Pd:FuncData
 KY:Addr
 KZ:FuncData
 Hh:Addr
 Hi:FuncData
 Hj:Addr
 Hk:FuncData
 Ka:Addr
 Kb:FuncData
 Kc:Addr
 Kd:FuncData
 Ke:Addr
 Kf:FuncData
 Ze:Addr
 Zf:FuncData
 Kg:Addr
 SD:FuncData
 MO:Addr
 VJ:FuncData
 T7:Addr
 gH:FuncData
 MP:Addr
 VL:FuncData
 MQ:Addr
 VM:FuncData
 MR:Addr
 VN:FuncData
 Kh:Addr
 SE:FuncData
 MS:Addr
 VO:FuncData
 Iv:Addr
 Pe:FuncData
 MT:Addr
 VP:FuncData
 MU:Addr
 VQ:FuncData
 Ki:Addr
 SF:FuncData
 Kj:Addr
 SG:FuncData
 VR:Addr
 VS:FuncData
 Pf:Addr
 Pg:FuncData
 Lk:Addr
 Ll:FuncData
 NF:Addr
 NG:FuncData
 NH:Addr
 NI:FuncData
 GW:Addr
 E2:FuncData
 NJ:Addr
 NK:FuncData
 Lm:Addr
 Ln:FuncData
 gJ:Addr
 gK:FuncData
 JQ:Addr
 JR:FuncData
 Ph:Addr
 Pj:FuncData
 Pl:Addr
 Pn:FuncData
 NL:Addr
 NM:FuncData
 Kk:Addr
 SI:FuncData
 Kl:Addr
 SJ:FuncData
 Po:Addr
 Zg:FuncData
 Km:Addr
 SK:FuncData
 Pt:Addr
 Zh:FuncData
 MV:Addr
 VT:FuncData
 MW:Addr
 VU:FuncData
 Pu:Addr
 Zi:FuncData
 Pw:Addr
 Zj:FuncData
 MX:Addr
 VW:FuncData
 Kn:Addr
 SM:FuncData
 Ko:Addr
 SN:FuncData
 MY:Addr
 Ql:FuncData
 Iw:Addr
 Py:FuncData
 G6:Addr
 Lo:FuncData
 MZ:Addr
 VX:FuncData
 Ma:Addr
 VY:FuncData
 Pz:Addr
 Zk:FuncData
 NN:Addr
 NO:FuncData
 Lq:Addr
 Lr:FuncData
 Kp:Addr
 Kq:FuncData
 Hl:Addr
 Hm:FuncData
 IU:Addr
 IV:FuncData
 P0:Addr
 P2:FuncData
 Ls:Addr
 Lu:FuncData
 Mb:Addr
 Qm:FuncData
 VZ:Addr
 Va:FuncData
 Lw:Addr
 Lx:FuncData
 JS:Addr
 JT:FuncData
 A7:Addr
 BV:Addr
 Nv:Value
 P4:Value
 Wd:Value
 je:Value
 jf:Value
 Nw:Value
 oN:Value
 uM:Value
 jg:Value
 We:Value
 Qn:Addr
 Qo:List Addr
 Qp:Addr
 Qq:List Addr
 LK:Addr
 LL:List Addr
 EB:Addr
 B8:Addr
 Mc:Addr
 HN:Addr
structure Txt(K:AE)(mg:Str->Option Value)(t:HU):Prop where
 bN:EO K "__init__" "Wishes.__init__" LW t.Lc t.Ld
 Ie:Binds K t.Ld RF []
 Zl:EO K "there" "Wishes.there" Ox t.KP t.KQ
 P5:Binds K t.KQ Oy []
 P6:Meth K t.A7 "there" t.KP
 Zm:EO K "share" "Wishes.share" Oz t.KR t.KS
 Hn:Binds K t.KS O0 []
 Ho:Meth K t.A7 "share" t.KR
 XG:EO K "rather" "Wishes.rather" Ni t.JK t.JL
 Ny:Binds K t.JL Nj []
 Nz:Meth K t.A7 "rather" t.JK
 SO:EO K "with_list" "Wishes.with_list" KG t.HF t.HG
 SQ:Binds K t.HG KH []
 SR:Meth K t.A7 "with_list" t.HF
 NP:EO K "with_one_more" "Wishes.with_one_more" Fb t.Fd t.Fe
 NQ:Binds K t.Fe Hd []
 NR:Meth K t.A7 "with_one_more" t.Fd
 OC:EO K "without_last" "Wishes.without_last" Fu t.Fy t.Fz
 OD:Binds K t.Fz ID []
 OE:Meth K t.A7 "without_last" t.Fy
 Wf:EO K "no_wishes" "no_wishes" WE t.PU t.PV
 jh:Binds K t.PV WG []
 ji:mg "no_wishes" = some (.ref t.PU)
 Zn:EO K "ranks_of" "ranks_of" Yx t.R3 t.R4
 l6:Binds K t.R4 Yy []
 l7:mg "ranks_of" = some (.ref t.R3)
 Ly:EO K "would_share" "would_share" RG t.Le t.Lf
 RV:Binds K t.Lf RH []
 RW:mg "would_share" = some (.ref t.Le)
 Md:EO K "twos_who_share" "twos_who_share" MI t.IS t.IT
 Vb:Binds K t.IT MJ []
 Vc:mg "twos_who_share" = some (.ref t.IS)
 dh:EO K "without" "without" U6 t.VD t.VE
 qJ:Binds K t.VE cq []
 qK:mg "without" = some (.ref t.VD)
 Vd:EO K "is_list" "is_list" cw t.VF t.VG
 di:Binds K t.VG cx []
 dj:mg "is_list" = some (.ref t.VF)
 P7:EO K "all_alone" "all_alone" WH t.PX t.PY
 Wg:Binds K t.PY WI []
 Wh:mg "all_alone" = some (.ref t.PX)
 FF:EO K "is_alone" "is_alone" Y1 t.R5 t.R6
 Ff:Binds K t.R6 Y2 []
 Fg:mg "is_alone" = some (.ref t.R5)
 DC:EO K "count_pairs" "count_pairs" LX t.Lg t.Lh
 DS:Binds K t.Lh RI []
 DT:mg "count_pairs" = some (.ref t.Lg)
 SS:EO K "told" "told" lY t.lz t.l0
 Ve:Binds K t.l0 uK []
 Vf:mg "told" = some (.ref t.lz)
 Wi:EO K "from_told" "from_told" O1 t.PZ t.Pa
 jj:Binds K t.Pa WJ []
 jk:mg "from_told" = some (.ref t.PZ)
 P8:EO K "is_told_pair" "is_told_pair" O2 t.KU t.KW
 Zo:Binds K t.KW O3 []
 Zp:mg "is_told_pair" = some (.ref t.KU)
 Me:EO K "parted" "parted" jJ t.ZY t.ZZ
 P9:Binds K t.ZZ jK []
 QA:mg "parted" = some (.ref t.ZY)
 T8:EO K "joined" "joined" jL t.Za t.Zb
 Zq:Binds K t.Zb jM []
 Zr:mg "joined" = some (.ref t.Za)
 QB:EO K "broken" "broken" jN t.Zc t.Zd
 T9:Binds K t.Zd jO []
 UA:mg "broken" = some (.ref t.Zc)
 Ig:EO K "would_break" "would_break" RJ t.Li t.Lj
 Lz:Binds K t.Lj RK []
 L0:mg "would_break" = some (.ref t.Li)
 Kr:EO K "breakers" "breakers" Rt t.R7 t.R8
 NS:Binds K t.R8 Y3 []
 NT:mg "breakers" = some (.ref t.R7)
 NU:EO K "it_holds" "it_holds" Y4 t.R9 t.SA
 SU:Binds K t.SA Y5 []
 SV:mg "it_holds" = some (.ref t.R9)
 Es:EO K "every_pairing" "every_pairing" Nk t.JM t.JN
 Fj:Binds K t.JN Nl []
 Fl:mg "every_pairing" = some (.ref t.JM)
 dk:EO K "choices" "choices" c7 t.VH t.VI
 qL:Binds K t.VI c8 []
 qM:mg "choices" = some (.ref t.VH)
 C0:EO K "pairings_that_hold" "pairings_that_hold" GQ t.GU t.GV
 DL:Binds K t.GV Iq []
 DM:mg "pairings_that_hold" = some (.ref t.GU)
 EJ:EO K "count_gladder" "count_gladder" JI t.JO t.JP
 Et:Binds K t.JP Nn []
 Eu:mg "count_gladder" = some (.ref t.JO)
 QC:EO K "votes_out" "votes_out" WL t.Pc t.Pd
 Wj:Binds K t.Pd WM []
 Wk:mg "votes_out" = some (.ref t.Pc)
 QD:EO K "is_voted_out" "is_voted_out" O7 t.KY t.KZ
 Zs:Binds K t.KZ O8 []
 Zt:mg "is_voted_out" = some (.ref t.KY)
 LM:EO K "never_voted_out" "never_voted_out" Hf t.Hh t.Hi
 UB:Binds K t.Hi LC []
 UC:mg "never_voted_out" = some (.ref t.Hh)
 F7:EO K "with_most_pairs" "with_most_pairs" F6 t.Hj t.Hk
 Hq:Binds K t.Hk LF []
 Hr:mg "with_most_pairs" = some (.ref t.Hj)
 QE:EO K "who_is_alone" "who_is_alone" KJ t.Ka t.Kb
 Zu:Binds K t.Kb O9 []
 Zv:mg "who_is_alone" = some (.ref t.Ka)
 GX:EO K "shortest_way" "shortest_way" PB t.Kc t.Kd
 Hs:Binds K t.Kd PD []
 Ht:mg "shortest_way" = some (.ref t.Kc)
 QF:EO K "one_break_on" "one_break_on" PF t.Ke t.Kf
 Zw:Binds K t.Kf PH []
 Zx:mg "one_break_on" = some (.ref t.Ke)
 jl:EO K "end_of" "end_of" jP t.Ze t.Zf
 uN:Binds K t.Zf jQ []
 uO:mg "end_of" = some (.ref t.Ze)
 Zy:EO K "hs_start" "hs_start" Y7 t.Kg t.SD
 l8:Binds K t.SD Y8 []
 zp:mg "hs_start" = some (.ref t.Kg)
 dn:EO K "hs_wish" "hs_wish" c9 t.MO t.VJ
 qN:Binds K t.VJ dA []
 AAO:mg "hs_wish" = some (.ref t.MO)
 oO:EO K "hs_in" "hs_in" oH t.T7 t.gH
 xE:Binds K t.gH oJ []
 AB9:mg "hs_in" = some (.ref t.T7)
 dq:EO K "hs_away" "hs_away" dB t.MP t.VL
 qO:Binds K t.VL dC []
 AAP:mg "hs_away" = some (.ref t.MP)
 dr:EO K "hs_pair" "hs_pair" dD t.MQ t.VM
 qP:Binds K t.VM dE []
 AAQ:mg "hs_pair" = some (.ref t.MQ)
 du:EO K "hs_part" "hs_part" dF t.MR t.VN
 qQ:Binds K t.VN dG []
 AAR:mg "hs_part" = some (.ref t.MR)
 Zz:EO K "hs_break" "hs_break" Y9 t.Kh t.SE
 l9:Binds K t.SE ZA []
 zq:mg "hs_break" = some (.ref t.Kh)
 dv:EO K "hs_step" "hs_step" dH t.MS t.VO
 qR:Binds K t.VO dI []
 AAS:mg "hs_step" = some (.ref t.MS)
 Wl:EO K "hs_settle" "hs_settle" WO t.Iv t.Pe
 jm:Binds K t.Pe WQ []
 yJ:mg "hs_settle" = some (.ref t.Iv)
 dy:EO K "hs_take" "hs_take" dJ t.MT t.VP
 qS:Binds K t.VP dM []
 AAT:mg "hs_take" = some (.ref t.MT)
 dz:EO K "hs_back" "hs_back" dN t.MU t.VQ
 qT:Binds K t.VQ dO []
 AAU:mg "hs_back" = some (.ref t.MU)
 Z0:EO K "hs_again" "hs_again" ZD t.Ki t.SF
 mB:Binds K t.SF ZE []
 zr:mg "hs_again" = some (.ref t.Ki)
 Z1:EO K "hs_state" "hs_state" ZF t.Kj t.SG
 mC:Binds K t.SG ZG []
 zt:mg "hs_state" = some (.ref t.Kj)
 Vg:EO K "as_bits" "as_bits" U8 t.VR t.VS
 d3:Binds K t.VS dP []
 d4:mg "as_bits" = some (.ref t.VR)
 Wm:EO K "every_set" "every_set" WR t.Pf t.Pg
 jn:Binds K t.Pg WS []
 jo:mg "every_set" = some (.ref t.Pf)
 RX:EO K "who_is_left" "who_is_left" LY t.Lk t.Ll
 bO:Binds K t.Ll RL []
 bP:mg "who_is_left" = some (.ref t.Lk)
 UD:EO K "part_names" "part_names" Jm t.NF t.NG
 gL:Binds K t.NG Tw []
 gM:mg "part_names" = some (.ref t.NF)
 NV:EO K "odd_beyond" "odd_beyond" NB t.NH t.NI
 UE:Binds K t.NI Tx []
 UG:mg "odd_beyond" = some (.ref t.NH)
 Iy:EO K "set_that_tells_why" "set_that_tells_why" Ir t.GW t.E2
 QG:Binds K t.E2 Iu []
 QH:mg "set_that_tells_why" = some (.ref t.GW)
 UH:EO K "rings_told" "rings_told" NC t.NJ t.NK
 gN:Binds K t.NK Tz []
 gO:mg "rings_told" = some (.ref t.NJ)
 RY:EO K "every_rings" "every_rings" La t.Lm t.Ln
 bQ:Binds K t.Ln RM []
 bR:mg "every_rings" = some (.ref t.Lm)
 oP:EO K "suits" "suits" oK t.gJ t.gK
 xF:Binds K t.gK oM []
 xG:mg "suits" = some (.ref t.gJ)
 N1:EO K "who_is_before" "who_is_before" Nq t.JQ t.JR
 XH:Binds K t.JR Nr []
 XI:mg "who_is_before" = some (.ref t.JQ)
 Wn:EO K "ring_from" "ring_from" WT t.Ph t.Pj
 jq:Binds K t.Pj WU []
 jr:mg "ring_from" = some (.ref t.Ph)
 Wo:EO K "count_odd" "count_odd" LG t.Pl t.Pn
 js:Binds K t.Pn WW []
 jt:mg "count_odd" = some (.ref t.Pl)
 UI:EO K "told_rings" "told_rings" ND t.NL t.NM
 gP:Binds K t.NM T3 []
 gQ:mg "told_rings" = some (.ref t.NL)
 Z2:EO K "hs_holds" "hs_holds" ZH t.Kk t.SI
 mD:Binds K t.SI ZI []
 zu:mg "hs_holds" = some (.ref t.Kk)
 Z3:EO K "hs_steps" "hs_steps" ZJ t.Kl t.SJ
 mE:Binds K t.SJ ZK []
 zw:mg "hs_steps" = some (.ref t.Kl)
 ju:EO K "hs_nth" "hs_nth" jV t.Po t.Zg
 uP:Binds K t.Zg jW []
 ABY:mg "hs_nth" = some (.ref t.Po)
 Z4:EO K "hs_votes" "hs_votes" ZL t.Km t.SK
 mF:Binds K t.SK ZM []
 zx:mg "hs_votes" = some (.ref t.Km)
 jv:EO K "hs_out" "hs_out" ZN t.Pt t.Zh
 uQ:Binds K t.Zh jX []
 ABZ:mg "hs_out" = some (.ref t.Pt)
 d5:EO K "hs_most" "hs_most" dQ t.MV t.VT
 qU:Binds K t.VT dR []
 AAV:mg "hs_most" = some (.ref t.MV)
 d6:EO K "hs_lost" "hs_lost" dS t.MW t.VU
 qV:Binds K t.VU dU []
 AAW:mg "hs_lost" = some (.ref t.MW)
 jw:EO K "hs_why" "hs_why" jY t.Pu t.Zi
 uR:Binds K t.Zi jZ []
 ABa:mg "hs_why" = some (.ref t.Pu)
 jx:EO K "hs_may" "hs_may" ZP t.Pw t.Zj
 uS:Binds K t.Zj jb []
 ABb:mg "hs_may" = some (.ref t.Pw)
 d7:EO K "hs_good" "hs_good" dX t.MX t.VW
 qW:Binds K t.VW dY []
 AAX:mg "hs_good" = some (.ref t.MX)
 Z5:EO K "hs_rings" "hs_rings" ZR t.Kn t.SM
 mG:Binds K t.SM ZS []
 zy:mg "hs_rings" = some (.ref t.Kn)
 Z6:EO K "hs_alone" "hs_alone" ZT t.Ko t.SN
 mH:Binds K t.SN ZU []
 zz:mg "hs_alone" = some (.ref t.Ko)
 d8:EO K "hs_best" "hs_best" VA t.MY t.Ql
 qX:Binds K t.Ql dZ []
 AAY:mg "hs_best" = some (.ref t.MY)
 Wq:EO K "hs_rather" "hs_rather" WZ t.Iw t.Py
 jy:Binds K t.Py Wa []
 yK:mg "hs_rather" = some (.ref t.Iw)
 RZ:EO K "hs_breakers" "hs_breakers" RN t.G6 t.Lo
 bS:Binds K t.Lo RO []
 vO:mg "hs_breakers" = some (.ref t.G6)
 d9:EO K "hs_with" "hs_with" da t.MZ t.VX
 qY:Binds K t.VX dc []
 AAZ:mg "hs_with" = some (.ref t.MZ)
 eA:EO K "hs_look" "hs_look" VB t.Ma t.VY
 qZ:Binds K t.VY de []
 AAa:mg "hs_look" = some (.ref t.Ma)
 jz:EO K "hs_all" "hs_all" jc t.Pz t.Zk
 uT:Binds K t.Zk jd []
 ABc:mg "hs_all" = some (.ref t.Pz)
 gR:EO K "__init__" "State.__init__" T4 t.NN t.NO
 gT:Binds K t.NO T5 []
 bT:EO K "begin" "State.begin" RP t.Lq t.Lr
 Ra:Binds K t.Lr RQ []
 Rb:Meth K t.BV "begin" t.Lq
 Z7:EO K "change" "State.change" PQ t.Kp t.Kq
 DW:Binds K t.Kq PR []
 DX:Meth K t.BV "change" t.Kp
 UJ:EO K "take_back" "State.take_back" LI t.Hl t.Hm
 UK:Binds K t.Hm LJ []
 UL:Meth K t.BV "take_back" t.Hl
 Vh:EO K "do_again" "State.do_again" MK t.IU t.IV
 Vi:Binds K t.IV ML []
 Vj:Meth K t.BV "do_again" t.IU
 j0:EO K "put" "State.put" Wb t.P0 t.P2
 Wr:Binds K t.P2 Wc []
 Ws:Meth K t.BV "put" t.P0
 bU:EO K "lacks" "State.lacks" RR t.Ls t.Lu
 D1:Binds K t.Lu RS []
 D3:Meth K t.BV "lacks" t.Ls
 qd:EO K "answers" "answers" VC t.Mb t.Qm
 qe:Binds K t.Qm MN []
 AAb:mg "answers" = some (.ref t.Mb)
 eB:EO K "form_of" "form_of" df t.VZ t.Va
 qf:Binds K t.Va dg []
 qg:mg "form_of" = some (.ref t.VZ)
 Rc:EO K "end_of_call" "end_of_call" RT t.Lw t.Lx
 bV:Binds K t.Lx RU []
 bW:mg "end_of_call" = some (.ref t.Lw)
 N2:EO K "what_is_given" "what_is_given" Nt t.JS t.JT
 XJ:Binds K t.JT Nu []
 XM:mg "what_is_given" = some (.ref t.JS)
 BP:rR K t.A7
 Qr:Mk K t.A7 t.Lc
 UM:mg "Wishes" = some (.ref t.A7)
 AR:rR K t.BV
 uU:Mk K t.BV t.NN
 xH:mg "State" = some (.ref t.BV)
 Ec:HE K t.A7 "lists"
 Bh:HE K t.A7 "number"
 FN:HE K t.A7 "ranks"
 G7:HE K t.A7 "twos"
 Ae:HE K t.BV "wishes"
 BJ:HE K t.BV "has"
 E3:HE K t.BV "past"
 Ed:HE K t.BV "undone"
 C1:mg "MOST_STUDENTS" = some t.Nv/\RelV (.int (6)) t.Nv
 FO:mg "LONGEST_LIST" = some t.P4/\RelV (.int (5)) t.P4
 Bx:mg "NOT_THERE" = some t.Wd/\RelV (.int (-2)) t.Wd
 Mf:mg "NOBODY" = some t.je/\RelV (.int (-6)) t.je
 j1:mg "PAIRED" = some t.jf/\RelV (.int (-16)) t.jf
 HA:mg "HOLDS_ALREADY" = some t.Nw/\RelV (.int (-17)) t.Nw
 LO:mg "WRONG" = some t.oN/\RelV (.int (-22)) t.oN
 uV:mg "FULL" = some t.uM/\RelV (.int (-28)) t.uM
 Dr:mg "CANNOT" = some t.jg/\RelV (.int (-33)) t.jg
 Wt:mg "MOST_KEPT" = some t.We/\RelV (.int (20)) t.We
 eC:mg "CHANGES" = some (.ref t.Qn)/\RelV (.ref t.Qn) (.ref t.Qn)
 qh:∀H,DR K H t.Qn (t.Qo.map V.ref)
 eD:Paired (fun a (r:List V)=>∀H,DR K H a r) t.Qo [[.ref t.Kg,.int 1,.bl false],[.ref t.MO,.int 2,.bl true],[.ref t.T7,.int 1,.bl true],[.ref t.MP,.int 0,.bl false],[.ref t.MQ,.int 2,.bl false],[.ref t.MR,.int 1,.bl false],[.ref t.Kh,.int 2,.bl false],[.ref t.MS,.int 0,.bl false],[.ref t.Iv,.int 0,.bl false],[.ref t.MT,.int 1,.bl false]]
 eE:mg "HISTORY" = some (.ref t.Qp)/\RelV (.ref t.Qp) (.ref t.Qp)
 qi:∀H,DR K H t.Qp (t.Qq.map V.ref)
 eF:Paired (fun a (r:List V)=>∀H,DR K H a r) t.Qq [[.ref t.MU,.int 0,.bl false],[.ref t.Ki,.int 0,.bl false],[.ref t.Kj,.int 0,.bl false]]
 Wu:mg "QUESTIONS" = some (.ref t.LK)/\RelV (.ref t.LK) (.ref t.LK)
 j2:∀H,DR K H t.LK (t.LL.map V.ref)
 Wv:Paired (fun a (r:List V)=>∀H,DR K H a r) t.LL [[.ref t.Kk,.int 0,.bl false],[.ref t.Kl,.int 0,.bl false],[.ref t.Po,.int 1,.bl false],[.ref t.Km,.int 0,.bl true],[.ref t.Pt,.int 0,.bl false],[.ref t.MV,.int 0,.bl false],[.ref t.MW,.int 0,.bl false],[.ref t.Pu,.int 0,.bl false],[.ref t.Pw,.int 0,.bl false],[.ref t.MX,.int 0,.bl false],[.ref t.Kn,.int 0,.bl false],[.ref t.Ko,.int 0,.bl false],[.ref t.MY,.int 1,.bl false],[.ref t.Iw,.int 1,.bl false],[.ref t.G6,.int 0,.bl false],[.ref t.MZ,.int 1,.bl false],[.ref t.Ma,.int 1,.bl false],[.ref t.Pz,.int 0,.bl false]]
 IE:t.E2.code=.ref t.EB
 OF:IH K t.EB t.B8=true
 Z8:t.Ql.code=.ref t.Mc
 mI:IH K t.Mc t.HN=true
 ABd:mg "any" = none
 QI:mg "enumerate" = none
 C7:mg "len" = none
 Z9:mg "list" = none
 yL:mg "max" = none
 yM:mg "min" = none
 E4:mg "range" = none
 mJ:mg "reversed" = none
 ABe:mg "set" = none
 ABf:mg "sum" = none
 Ih:mg "tuple" = none
 uW:t.B8≠t.HN
open PySem PySem.Spec PyProof.Rows L2
section
variable {P:Program} {w:World} {K:AE} {mg:Str->Option Value} {base:Heap} {t:HU}
theorem w_get{w:List (List Nat)}{a:Nat}(ha:a<w.length):w[a]?=some (wl w a):=by
 unfold wl;rw[AQ,A5 ha,IX]
def aA:Sp:=fun vs H Q _=>∃(la:Addr) (w:List (List Nat)) (a b:Nat),vs=[.ref la,vN a,vN b]/\Q4 H la w/\a<w.length/\b<w.length/\Q (.bl (wd w a b)) H
theorem QJ(T:Txt K mg t):Bv P w K mg base EE 1 t.Le t.Lf RH aA:=by
 refine T.Ly.ok Yz (fun vs H Q E h=>?_) (fun cdv A outer s H vs Q E hr h=>?_)
 ·obtain ⟨la,w,a,b,rfl,_⟩:=h;rfl
 ·obtain ⟨la,w,a,b,rfl,⟨as,h1,h2⟩,ha,hb,k⟩:=h;obtain ⟨aa,ea,ra⟩:=CJ h2 (w_get ha);obtain ⟨ab,eb,rb⟩:=CJ h2 (w_get hb);refine ⟨_,(AM (Am (fV (HZ Ju (pv 2) (BU CU (pv 0) (pv 1) (fun _ _=>rfl)) (by with_unfolding_all rfl)) (fU (HZ Ju (pv 1) (BU CU (pv 0) (pv 2) (fun _ _=>rfl)) (by with_unfolding_all rfl)))))),?_⟩;refine ⟨_,rfl,_,rfl,_,rfl,la,_,_,_,rfl,rfl,DR.of h1,DF ea,aa,_,rfl,.inr (DR.of ra),rfl,HL _,_,rfl,?_⟩;show if rS (vN b) (nums (wl w a))=true then _ else _
  rw[Im];unfold wd at k;cases hc:(wl w a).contains b with
  |false =>
   rw[hc]at k;exact Cz k
  |true =>
   rw[hc]at k;refine Ca ⟨_,rfl,_,rfl,_,rfl,la,_,_,_,rfl,rfl,DR.of h1,DF eb,ab,_,rfl,.inr (DR.of rb),rfl,HL _,?_⟩;show Q (.bl (rS (vN a) (nums (wl w b)))) H;rw[Im];exact k
def uX(C:Addr):Sp:=fun vs H Q _=>∃(a:Addr) (w:List (List Nat)) (s:Nat),vs=[.ref a,vN s]/\B4 C H a w/\Q (.bl (decide (s<w.length))) H
theorem N3(T:Txt K mg t):Bv P w K mg base EE 1 t.KP t.KQ Oy (uX t.A7):=by
 refine T.Zl.ok XB (fun vs H Q E h=>?_) (fun cdv A outer s H vs Q E hr h=>?_)
 ·obtain ⟨a,w,s,rfl,_⟩:=h;rfl
 ·obtain ⟨a,w,s,rfl,⟨dx,la,ra,ta,h1,_⟩,k⟩:=h;refine ⟨_,(AM (Am (HZ YX (pv 1) (Ao (pv 0) rfl) (C6 _)))),?_⟩;refine ⟨_,rfl,_,rfl,a,_,_,_,_,rfl,h1,T.BP,T.Bh,Co _ _ _ _,_,_,rfl,rfl,?_⟩;show Q (.bl (decide ((s:Int)<(w.length:Int)))) H;rw[dec_lt];exact k
def uY(C:Addr):Sp:=fun vs H Q _=>∃(x:Addr) (w:List (List Nat)) (a b:Nat),vs=[.ref x,vN a,vN b]/\B4 C H x w/\a<w.length/\b<w.length/\Q (.bl (wd w a b)) H
theorem HB(T:Txt K mg t):Bv P w K mg base EE 2 t.KR t.KS O0 (uY t.A7):=by
 refine T.Zm.ok XC (fun vs H Q E h=>?_) (fun cdv A outer s H vs Q E hr h=>?_)
 ·obtain ⟨x,w,a,b,rfl,_⟩:=h;rfl
 ·obtain ⟨x,w,a,b,rfl,⟨dx,la,ra,ta,h1,h2,_⟩,ha,hb,k⟩:=h;refine ⟨_,(AM (Am (Aj (QJ T) (hr.mono (by decide)) rfl T.RW T.Ly.kp T.RV .nil Ay (AA (Ao (pv 0) rfl) (AA (pv 1) (AA (pv 2) AD)))))),?_⟩;exact ⟨_,rfl,x,_,_,_,_,rfl,h1,T.BP,T.Ec,MG _ _ _ _,_,rfl,_,rfl,la,w,a,b,rfl,h2,ha,hb,k⟩
def aB(C:Addr):Sp:=fun vs H Q _=>∃(x:Addr) (w:List (List Nat)) (a b c:Nat),vs=[.ref x,vN a,vN b,vN c]/\B4 C H x w/\a<w.length/\b<w.length/\c<w.length/\Q (.bl (decide (rk w a b<rk w a c))) H
theorem Mg(T:Txt K mg t):Bv P w K mg base EE 1 t.JK t.JL Nj (aB t.A7):=by
 refine T.XG.ok U5 (fun vs H Q E h=>?_) (fun cdv A outer s H vs Q E hr h=>?_)
 ·obtain ⟨x,w,a,b,c,rfl,_⟩:=h;rfl
 ·obtain ⟨x,w,a,b,c,rfl,⟨dx,la,ra,ta,h1,h2,⟨rs,h3,h4⟩,h5⟩,ha,hb,hc,k⟩:=h;obtain ⟨xa,ea,ka⟩:=CJ h4 (Tn w ha);refine ⟨_,(AM (Am (HZ YX (BU Be (BU Be (Ao (pv 0) rfl) (pv 1) (fun _ _=>rfl)) (pv 2) (fun _ _=>rfl)) (BU Be (BU Be (Ao (pv 0) rfl) (pv 1) (fun _ _=>rfl)) (pv 3) (fun _ _=>rfl)) (C6 _)))),?_⟩;refine ⟨_,rfl,x,_,_,_,_,rfl,h1,T.BP,T.FN,MH _ _ _ _,_,rfl,ra,_,_,_,rfl,rfl,Bq.of h3,DF ea,_,rfl,xa,_,_,_,rfl,rfl,Bq.of ka,CQ (M8 w a hb),?_⟩;refine ⟨_,rfl,x,_,_,_,_,rfl,h1,T.BP,T.FN,MH _ _ _ _,_,rfl,ra,_,_,_,rfl,rfl,Bq.of h3,DF ea,_,rfl,xa,_,_,_,rfl,rfl,Bq.of ka,CQ (M8 w a hc),_,_,rfl,rfl,?_⟩;show Q (.bl (decide ((rk w a b:Int)<(rk w a c:Int)))) H;rw[dec_lt];exact k
def Pr(H:Hp)(a:Addr)(p:List Nat):Prop:=LN H a p\/TN H a p
theorem Pr.same{H H':Hp}{a:Addr}{p:List Nat}(h:Pr H a p)(s:Aw H H'):Pr H' a p:=h.elim (fun z=>.inl (z.same s)) fun z=>.inr (z.same s)
theorem Pr.ix{K:AE}{H:Hp}{a:Addr}{p:List Nat}(h:Pr H a p){i:Nat}(hi:i<p.length){Q:VK}(q:Q (vN (A6 p i)) H):zM K (.ref a) (vN i) H Q\/zN K (.ref a) (vN i) H Q:=by
 rcases h with h|h
 ·exact .inl ⟨a,_,_,_,rfl,rfl,Bq.of h,CQ (Cj hi),q⟩
 ·exact .inr ⟨a,_,_,_,rfl,rfl,DR.of h,CQ (Cj hi),q⟩
structure Pq(w:List (List Nat))(p:List Nat):Prop where
 len:p.length=w.length
 lt:∀a,a<w.length->A6 p a<w.length
theorem GI.q{w:List (List Nat)}{p:List Nat}(h:GI w p):Pq w p:=⟨h.len,h.lt⟩
def j3:Sp:=fun vs H Q _=>∃(a:Addr) (p:List Nat) (s:Nat),vs=[.ref a,vN s]/\TN H a p/\s<p.length/\Q (.bl (decide (A6 p s=s))) H
theorem E5(T:Txt K mg t):Bv P w K mg base EE 1 t.R5 t.R6 Y2 j3:=by
 refine T.FF.ok jH (fun vs H Q E h=>?_) (fun cdv A outer s H vs Q E hr h=>?_)
 ·obtain ⟨a,p,s,rfl,_⟩:=h;rfl
 ·obtain ⟨a,p,s,rfl,ha,hs,k⟩:=h;refine ⟨_,(AM (Am (HZ K8 (BU CU (pv 0) (pv 1) (fun _ _=>rfl)) (pv 1) (C6 _)))),?_⟩;refine ⟨_,rfl,_,rfl,a,_,_,_,rfl,rfl,DR.of ha,CQ (Cj hs),_,rfl,rfl,?_⟩;rw[Gy];exact k
def QK(p:List Nat)(H:Hp)(Q:VK):Prop:=∀(b:Addr) (H':Hp),Aw H H'->TN H' b p->Q (.ref b) H'
def qj:Sp:=fun vs H Q _=>∃(x:Addr) (p:List Nat) (a b:Nat),vs=[.ref x,vN a,vN b]/\TN H x p/\p.length<=6/\a<p.length/\b<p.length/\QK (joined p a b) H Q
theorem Vk(T:Txt K mg t):Bv P w K mg base EE 1 t.Za t.Zb jM qj:=by
 refine T.T8.ok cz (fun vs H Q E h=>?_) (fun cdv A outer s H vs Q E hr h=>?_)
 ·obtain ⟨x,p,a,b,rfl,_⟩:=h;rfl
 ·obtain ⟨x,p,a,b,rfl,hx,h6,ha,hb,k⟩:=h;refine ⟨_,(AH (BF (i:=3) cz.nd rfl (Ai rfl) (DZ Jj (by rfl) T.Z9 eg (AA (pv 0) AD))) (AH (Oi (pv 2) (Oh (pv 3) (pv 1) set_list)) (AH (Oi (pv 1) (Oh (pv 3) (pv 2) set_list)) (AM (Am (DZ Dz (by rfl) T.Ih HD (AA (pv 3) AD))))))),?_⟩;refine ⟨_,rfl,x,_,rfl,.inr (DR.of hx),fun l hl=>?_⟩;refine ⟨_,rfl,_,rfl,_,rfl,l,_,_,a,rfl,rfl,AK,Ow (by rw[Bf];exact ha),?_⟩;refine ⟨_,rfl,_,rfl,_,rfl,l,_,_,b,rfl,rfl,AK,Ow (by rw[B7,Bf];exact hb),?_⟩;refine ⟨_,rfl,l,_,rfl,.inl ⟨Bq.of AK,fun q hq=>?_⟩⟩;refine k q _ (((As hl).put hl).put hl |>.upd hq) ?_;show upd _ q _ q=_;rw[AK,KA,KA];rfl
def qk:Sp:=fun vs H Q _=>∃(x:Addr) (p:List Nat) (a:Nat),vs=[.ref x,vN a]/\TN H x p/\p.length<=6/\a<p.length/\A6 p a<p.length/\QK (parted p a) H Q
theorem Mh(T:Txt K mg t):Bv P w K mg base EE 1 t.ZY t.ZZ jK qk:=by
 refine T.Me.ok cy (fun vs H Q E h=>?_) (fun cdv A outer s H vs Q E hr h=>?_)
 ·obtain ⟨x,p,a,rfl,_⟩:=h;rfl
 ·obtain ⟨x,p,a,rfl,hx,h6,ha,hb,k⟩:=h;refine ⟨_,(AH (BF (i:=2) cy.nd rfl (Ai rfl) (DZ Jj (by rfl) T.Z9 eg (AA (pv 0) AD))) (AH (Oi (BU CU (pv 0) (pv 1) (fun _ _=>rfl)) (Oh (pv 2) (BU CU (pv 0) (pv 1) (fun _ _=>rfl)) set_list)) (AH (Oi (pv 1) (Oh (pv 2) (pv 1) set_list)) (AM (Am (DZ Dz (by rfl) T.Ih HD (AA (pv 2) AD))))))),?_⟩;refine ⟨_,rfl,x,_,rfl,.inr (DR.of hx),fun l hl=>?_⟩;have hx1:TN (upd H l (.lst (nums p))) x p:=hx.same (As hl);refine ⟨_,rfl,_,rfl,x,_,_,_,rfl,rfl,DR.of hx1,CQ (Cj ha),_,rfl,_,rfl,_,rfl,x,_,_,_,rfl,rfl,DR.of hx1,CQ (Cj ha),l,_,_,A6 p a,rfl,rfl,AK,Ow (by rw[Bf];exact hb),?_⟩;refine ⟨_,rfl,_,rfl,_,rfl,l,_,_,a,rfl,rfl,AK,Ow (by rw[B7,Bf];exact ha),?_⟩;refine ⟨_,rfl,l,_,rfl,.inl ⟨Bq.of AK,fun q hq=>?_⟩⟩;refine k q _ (((As hl).put hl).put hl |>.upd hq) ?_;show upd _ q _ q=_;rw[AK,KA,KA];rfl
def ql:Sp:=fun vs H Q _=>∃(x:Addr) (w:List (List Nat)) (p:List Nat) (a b:Nat),vs=[.ref x,vN a,vN b]/\TN H x p/\Eg w/\GI w p/\wd w a b=true/\QK (brk p a b) H Q
theorem Qs(T:Txt K mg t):Bv P w K mg base EE 2 t.Zc t.Zd jO ql:=by
 refine T.QB.ok qE (fun vs H Q E h=>?_) (fun cdv A outer s H vs Q E hr h=>?_)
 ·obtain ⟨x,w,p,a,b,rfl,_⟩:=h;rfl
 ·obtain ⟨x,w,p,a,b,rfl,hx,W,Pk,hw,k⟩:=h;obtain ⟨h1,h2,h3⟩:=OX W hw;have h6:=W.len;have P1:=Jr Pk h1;have hl:=Pk.len;have hl1:=P1.len;refine ⟨_,(AM (Am (Aj (Vk T) (hr.mono (by decide)) rfl T.Zr T.T8.kp T.Zq .nil Ay (AA (Aj (Mh T) (hr.mono (by decide)) rfl T.QA T.Me.kp T.P9 .nil Ay (AA (Aj (Mh T) (hr.mono (by decide)) rfl T.QA T.Me.kp T.P9 .nil Ay (AA (pv 0) (AA (pv 1) AD))) (AA (pv 2) AD))) (AA (pv 1) (AA (pv 2) AD)))))),?_⟩;refine ⟨_,rfl,_,rfl,x,p,a,rfl,hx,by omega,by omega,by rw[hl];exact Pk.lt a h1,fun y H1 s1 e1=>?_⟩;refine ⟨_,rfl,y,parted p a,b,rfl,e1,by omega,by omega,by rw[hl1];exact P1.lt b h2,fun z H2 s2 e2=>?_⟩;refine ⟨_,rfl,_,rfl,z,parted (parted p a) b,a,b,rfl,e2,by rw[Cb];omega,by rw[Cb];omega,by rw[Cb];omega,fun v H3 s3 e3=>?_⟩;exact k v H3 ((s1.trans s2).trans s3) e3
end
open PySem PySem.Spec PyProof.Rows L2
theorem TN.put{H:Hp}{a D:Addr}{l:List Nat}{o:HO}(h:TN H a l)(hD:IsL H D):TN (upd H D o) a l:=by
 unfold TN;rw[A2 (hD.Gz h)];exact h
theorem U2.put{H:Hp}{a D:Addr}{q:Nat×Nat}{o:HO}(h:U2 H a q)(hD:IsL H D):U2 (upd H D o) a q:=by
 unfold U2;rw[A2 (hD.Gz h)];exact h
def NW(l:List Nat)(H:Hp)(Q:VK):Prop:=∀(b:Addr) (H':Hp),Aw H H'->H b=none->LN H' b l->Q (.ref b) H'
def uZ(l:List (Nat×Nat))(H:Hp)(Q:VK):Prop:=∀(b:Addr) (H':Hp),Aw H H'->H b=none->Jl H' b l->Q (.ref b) H'
def Vl(l:List (List Nat))(H:Hp)(Q:VK):Prop:=∀(b:Addr) (H':Hp),Aw H H'->H b=none->Nh H' b l->Q (.ref b) H'
def Ks(v:V)(H:Hp)(Q:VK):Prop:=∀H':Hp,Aw H H'->Q v H'
theorem EC{α:Type}{R:Addr->α->Prop}:∀{ys:List V} {l:List α},Paired (fun y q=>∃b,y=V.ref b/\R b q) ys l->∃as:List Addr,ys=as.map V.ref/\Paired R as l
 |_,_,.nil=>⟨[],rfl,.nil⟩
 |_,_,.cons ⟨b,e,r⟩ t=>by
  obtain ⟨as,e2,r2⟩:=EC t;exact ⟨b::as,by rw[e,e2];rfl,.cons r r2⟩
theorem Di{α:Type}{R:Addr->α->Prop}:∀{as:List Addr} {l:List α},Paired R as l->Paired (fun y q=>∃b,y=V.ref b/\R b q) (as.map V.ref) l
 |_,_,.nil=>.nil
 |_,_,.cons r t=>.cons ⟨_,rfl,r⟩ (Di t)
theorem uc{w:List (List Nat)}(W:Eg w):(Gx w).length<=1000:=by
 have h1:(Gx w).length<=(B5 w.length).length:=Ax _ _;have h2:(B5 w.length).length<=w.length*w.length:=by
  unfold B5
  have:=GK (fun i=>((AF w.length).filter fun j=>decide (i<j)).map fun j=>(i,j)) w.length (AF w.length) fun x _=>by
   rw[AB];exact AY (Ax _ _) (by simp)
  rwa [BW]at this
 have h3:=W.len;have h4:w.length*w.length<=6*6:=Ri h3 h3;omega
section
variable {P:Program} {w:World} {K:AE} {mg:Str->Option Value} {base:Heap} {t:HU}
def gU:Sp:=fun vs H Q _=>∃n:Nat,vs=[vN n]/\n<=6/\QK (AF n) H Q
theorem UN(T:Txt K mg t):Bv P w K mg base EE 1 t.PX t.PY WI gU:=by
 refine T.P7.ok gA (fun vs H Q E h=>?_) (fun cdv A outer s H vs Q E hr h=>?_)
 ·obtain ⟨n,rfl,_⟩:=h;rfl
 ·obtain ⟨n,rfl,hn,k⟩:=h;refine ⟨_,(AM (Am (DZ (Yt rfl) (by rfl) T.Ih HD (AA (ck rfl T.E4 (AA (pv 0) AD)) AD)))),?_⟩;refine ⟨_,rfl,_,rfl,by omega,by omega,fun r hr=>⟨r,n,rfl,AK,by omega,fun q hq=>?_⟩⟩;exact k q _ ((As hr).upd hq) AK
def QL:Sp:=fun vs H Q _=>∃(a:Addr) (p:List Nat),vs=[.ref a]/\TN H a p/\p.length<=6/\Ks (vN (cnt p)) H Q
theorem DD(T:Txt K mg t):Bv P w K mg base EE 1 t.Lg t.Lh RI QL:=by
 refine T.DC.ok KI (fun vs H Q E h=>?_) (fun cdv A outer s H vs Q E hr h=>?_)
 ·obtain ⟨a,p,rfl,_⟩:=h;rfl
 ·obtain ⟨a,p,rfl,ha,h6,k⟩:=h;refine ⟨_,(AM (Am (Ba A4 (by rfl) T.C7 An (AA (HK rfl KI.nd (EG rfl T.E4 (AA (Ba A4 (by rfl) T.C7 An (AA (pv 0) AD)) AD)) (show EH bJ (AO LX) _ [("student",1)] from CL (by decide +kernel)) (fun _ _ _ _ _=>(Bj (i:=1) KI.nd rfl (Ai rfl))) (fun _ _ _ _ _=>(FZ (Cy iu (BU (M7 K rfl) (pv 0) (pv 1) (fun _ _=>rfl)) (pv 1) (C6 _)))) (fun _ _ _ _ _=>(pv 1))) AD)))),?_⟩;refine ⟨_,rfl,a,_,rfl,.inr (DR.of ha),_,rfl,by omega,by rw[Bf];omega,fun D hD=>?_⟩;rw[A8,Bf];refine Fs (fun i=>decide (i<A6 p i)) (fun i y _=>y=vN i) (fun _ _ _ _ h _=>h) (by omega) hD (fun _=>rfl) ?_ ?_ ?_
  ·intro i H' Q' hi s' _ kk;refine ⟨_,rfl,_,rfl,a,_,_,_,rfl,rfl,DR.of (ha.same s'),CQ (Cj hi),_,rfl,_,_,rfl,rfl,_,rfl,?_⟩;rw[dec_lt];exact kk H' (Aw.refl H')
  ·intro i H' Q' hi hf s' _ kk;exact ⟨_,rfl,kk _ H' (Aw.refl H') rfl⟩
  ·intro H' ys s' hy r;have e:=EI (f:=fun i=>i) r;refine ⟨D,_,rfl,.inl (Bq.of hy),?_⟩;rw[e,Bf,AB];exact k H' s'
def aC(p:List Nat):List Nat:=((AF p.length).map fun s=>if A6 p s=s then 0 else A6 p s+1)++Ac (6-p.length) 0
def xI:Sp:=fun vs H Q _=>∃(a:Addr) (p:List Nat),vs=[.ref a]/\TN H a p/\p.length<=6/\NW (aC p) H Q
theorem Qt(T:Txt K mg t):Bv P w K mg base EE 2 t.lz t.l0 uK xI:=by
 refine T.SS.ok gB (fun vs H Q E h=>?_) (fun cdv A outer s H vs Q E hr h=>?_)
 ·obtain ⟨a,p,rfl,_⟩:=h;rfl
 ·obtain ⟨a,p,rfl,ha,h6,k⟩:=h;refine ⟨_,(AH (Hb (i:=1) rfl gB.nd rfl rfl (Jk rfl rfl rfl rfl) (EG rfl T.E4 (AA (Ba A4 (by rfl) T.C7 An (AA (pv 0) AD)) AD)) (show EH zo (AO lY) _ [("student",2)] from CL (by decide +kernel)) (fun _ _ _ _ _=>(Bj (i:=2) gB.nd rfl (Ai rfl))) (fun _ _ _ _ _=>F4) (fun _ _ _ _ _=>(TX (Ck (Aj (E5 T) (hr.mono (by decide)) rfl T.Fg T.FF.kp T.Ff .nil Ay (AA (pv 0) (AA (pv 2) AD)))) BG (CZ JH (BU (M7 K rfl) (pv 0) (pv 2) (fun _ _=>rfl)) BG)))) (AM (Am (CZ IL (pv 1) (CZ Yf (BM (AA BG AD)) (CZ J6 (Bw rfl T.C1.1 T.C1.2) (Ba A4 (by rfl) T.C7 An (AA (pv 0) AD)))))))),?_⟩;refine ⟨_,rfl,a,_,rfl,.inr (DR.of ha),_,rfl,by omega,by rw[Bf];omega,fun D hD=>?_⟩;rw[A8,Bf];refine Fs (fun _=>true) (fun i y _=>y=vN (if A6 p i=i then 0 else A6 p i+1)) (fun _ _ _ _ h _=>h) (by omega) hD (fun _=>rfl) ?_ ?_ ?_
  ·intro i H' Q' hi s' _ kk;exact kk H' (Aw.refl H')
  ·intro i H' Q' hi _ s' _ kk;refine ⟨_,rfl,_,rfl,a,p,i,rfl,ha.same s',hi,_,rfl,?_⟩
   by_cases c:A6 p i=i
   ·rw[decide_eq_true c];refine Ca (kk _ H' (Aw.refl H') ?_);rw[if_pos c];rfl
   ·rw[decide_eq_false c];refine Cz ⟨_,rfl,_,rfl,a,_,_,_,rfl,rfl,DR.of (ha.same s'),CQ (Cj hi),_,_,rfl,rfl,kk _ H' (Aw.refl H') ?_⟩;rw[if_neg c];rfl
  ·intro H' ys s' hy r;have e:=EI (f:=fun i=>if A6 p i=i then 0 else A6 p i+1) r;rw[BZ.mpr (fun _ _=>rfl)]at e;refine ⟨_,rfl,by show 1<=sizeLine;decide,fun z hz=>?_⟩;have hy2:(upd H' z (.lst [.int 0])) D=some (.lst ys):=by rw[A2 (Af hy hz)];exact hy
   refine ⟨_,rfl,a,_,rfl,.inr (DR.of ((ha.same s').same (As hz))),_,_,rfl,rfl,z,_,_,rfl,rfl,AK,?_⟩;rw[Bf];refine ⟨by omega,by omega,?_,fun z2 hz2=>?_⟩
   ·show 1*_<=_;exact small (by omega)
   have hy3:(upd (upd H' z (.lst [.int 0])) z2 (.lst (Ac ((6:Int)-(p.length:Int)).toNat [V.int 0]).flatten)) D=some (.lst ys):=by rw[A2 (Af hy2 hz2)];exact hy2
   refine ⟨D,z2,_,_,rfl,rfl,hy3,AK,?_,fun b hb=>?_⟩
   ·rw[e,Bf,len_rep];exact small (by simp;omega)
   ·refine k b _ (((s'.upd hz).upd hz2).upd hb) (((s'.upd hz).upd hz2).free hb) ?_;show upd _ b _ b=_;rw[AK,e];have e2:((6:Int)-(p.length:Int)).toNat=6-p.length:=by omega
    have e3:∀m:Nat,(Ac m [V.int 0]).flatten=nums (Ac m 0):=by
     intro m
     induction m with
     |zero=>rfl
     |succ m ih=>rw[Cv,EM,ih];rfl
    rw[e2,e3,Il];rfl
def aD(C:Addr):Sp:=fun vs H Q _=>∃(wa ha:Addr) (w:List (List Nat)) (p:List Nat) (a b:Nat),vs=[.ref wa,.ref ha,vN a,vN b]/\B4 C H wa w/\Pr H ha p/\Pq w p/\a<w.length/\b<w.length/\Q (.bl (wb w p a b)) H
theorem Kt(T:Txt K mg t):Bv P w K mg base EE 1 t.Li t.Lj RK (aD t.A7):=by
 refine T.Ig.ok O4 (fun vs H Q E h=>?_) (fun cdv A outer s H vs Q E hr h=>?_)
 ·obtain ⟨wa,ha,w,p,a,b,rfl,_⟩:=h;rfl
 ·obtain ⟨wa,ha,w,p,a,b,rfl,⟨dx,la,ra,ta,h1,h2,⟨rs,h3,h4⟩,h5⟩,hp,Pk,la',lb',k⟩:=h;obtain ⟨xa,ea,ka⟩:=CJ h4 (Tn w la');obtain ⟨xb,eb,kb⟩:=CJ h4 (Tn w lb');have hl:=Pk.len;have qa:=Pk.lt a la';have qb:=Pk.lt b lb';refine ⟨_,(AH (BF (i:=4) O4.nd rfl (Ai rfl) (Ao (pv 0) rfl)) (AM (Am (fV (HZ YX (BU Be (BU Be (pv 4) (pv 2) (fun _ _=>rfl)) (pv 3) (fun _ _=>rfl)) (BU Be (BU Be (pv 4) (pv 2) (fun _ _=>rfl)) (BU (Be.or CU) (pv 1) (pv 2) (fun _ _=>rfl)) (fun _ _=>rfl)) (C6 _)) (fU (HZ YX (BU Be (BU Be (pv 4) (pv 3) (fun _ _=>rfl)) (pv 2) (fun _ _=>rfl)) (BU Be (BU Be (pv 4) (pv 3) (fun _ _=>rfl)) (BU (Be.or CU) (pv 1) (pv 3) (fun _ _=>rfl)) (fun _ _=>rfl)) (C6 _))))))),?_⟩;refine ⟨_,rfl,wa,_,_,_,_,rfl,h1,T.BP,T.FN,MH _ _ _ _,?_⟩;refine ⟨_,rfl,_,rfl,ra,_,_,_,rfl,rfl,Bq.of h3,DF ea,_,rfl,xa,_,_,_,rfl,rfl,Bq.of ka,CQ (M8 w a lb'),?_⟩;refine ⟨_,rfl,_,rfl,ra,_,_,_,rfl,rfl,Bq.of h3,DF ea,_,rfl,_,rfl,hp.ix (by omega) ⟨xa,_,_,_,rfl,rfl,Bq.of ka,CQ (M8 w a qa),_,_,rfl,rfl,_,rfl,?_⟩⟩;rw[dec_lt];unfold wb at k;cases hc:decide (rk w a b<rk w a (A6 p a)) with
  |false =>
   rw[hc]at k;exact Cz k
  |true =>
   rw[hc]at k;refine Ca ⟨_,rfl,_,rfl,ra,_,_,_,rfl,rfl,Bq.of h3,DF eb,_,rfl,xb,_,_,_,rfl,rfl,Bq.of kb,CQ (M8 w b la'),?_⟩;refine ⟨_,rfl,_,rfl,ra,_,_,_,rfl,rfl,Bq.of h3,DF eb,_,rfl,_,rfl,hp.ix (by omega) ⟨xb,_,_,_,rfl,rfl,Bq.of kb,CQ (M8 w b qb),_,_,rfl,rfl,?_⟩⟩;show Q (.bl (decide ((rk w b a:Int)<(rk w b (A6 p b):Int)))) H;rw[dec_lt];exact k
end
open PySem PySem.Spec PyProof.Rows L2
theorem U2.fst{K:AE}{H:Hp}{b:Addr}{q:Nat×Nat}(h:U2 H b q):DR K H b [vN q.1,vN q.2]:=DR.of h
theorem Xo{w:List (List Nat)}{q:Nat×Nat}(h:q∈Gx w):q.1<w.length/\q.2<w.length/\q.1<q.2/\wd w q.1 q.2=true:=by
 obtain ⟨h1,h2⟩:=AJ.mp h;obtain ⟨h3,h4⟩:=Fp.mp (show (q.1,q.2)∈B5 w.length from h1);exact ⟨by omega,h4,h3,h2⟩
section
variable {P:Program} {w:World} {K:AE} {mg:Str->Option Value} {base:Heap} {t:HU}
def j4(C:Addr):Sp:=fun vs H Q _=>∃(wa ha:Addr) (w:List (List Nat)) (p:List Nat),vs=[.ref wa,.ref ha]/\B4 C H wa w/\TN H ha p/\Eg w/\GI w p/\uZ (L8 w p) H Q
theorem LP(T:Txt K mg t):Bv P w K mg base EE 2 t.R7 t.R8 Y3 (j4 t.A7):=by
 refine T.Kr.ok O5 (fun vs H Q E h=>?_) (fun cdv A outer s H vs Q E hr h=>?_)
 ·obtain ⟨wa,ha,w,p,rfl,_⟩:=h;rfl
 ·obtain ⟨wa,ha,w,p,rfl,hw,hp,W,Pk,k⟩:=h;obtain ⟨dx,la,ra,ta,h1,h2,h3,ts,h4,h5⟩:=id hw;refine ⟨_,(AM (Am (HK rfl O5.nd (DO (Ao (pv 0) rfl)) (show EH lZ (AO Rt) _ [("two",2)] from CL (by decide +kernel)) (fun _ _ _ _ _=>(Bj (i:=2) O5.nd rfl (Ai rfl))) (fun _ _ _ _ _=>(FZ (Ck (Aj (Kt T) (hr.mono (by decide)) rfl T.L0 T.Ig.kp T.Lz .nil Ay (AA (pv 0) (AA (pv 1) (AA (BU (M7 K rfl) (pv 2) BG (fun _ _=>rfl)) (AA (BU (M7 K rfl) (pv 2) BG (fun _ _=>rfl)) AD)))))))) (fun _ _ _ _ _=>(pv 2))))),?_⟩;refine ⟨_,rfl,wa,_,_,_,_,rfl,h1,T.BP,T.G7,To _ _ _ _,ta,rfl,⟨_,Bq.of h4⟩,fun D hD=>?_⟩;refine E1 (zs:=Gx w) (fun x q=>∃b,x=V.ref b/\U2 H b q) (fun q=>wb w p q.1 q.2) (fun q y H'=>∃b,y=V.ref b/\b≠D/\U2 H' b q) (Di h5)
   (fun q y H1 H2 ⟨b,e1,e2,e3⟩ sx=>⟨b,e1,e2,sx b _ e2 e3⟩) (uc W) hD (Bq.of h4) (fun _=>rfl) ?_ ?_ ?_
  ·rintro x q H' Q' hq ⟨b,rfl,hb⟩ s' _ kk;obtain ⟨l1,l2,l3,l4⟩:=Xo hq;refine ⟨_,rfl,_,rfl,_,rfl,b,_,_,_,rfl,rfl,(hb.same s').fst,at_of (j:=0) rfl rfl,_,rfl,b,_,_,_,rfl,rfl,(hb.same s').fst,at_of (j:=1) rfl rfl,?_⟩;exact ⟨wa,ha,w,p,q.1,q.2,rfl,hw.same s',.inr (hp.same s'),Pk.q,l1,l2,_,rfl,kk H' (Aw.refl H')⟩
  ·rintro x q H' Q' hq ⟨b,rfl,hb⟩ hf s' hL kk;exact ⟨_,rfl,kk _ H' (Aw.refl H') ⟨b,rfl,hL.Gz (hb.same s'),hb.same s'⟩⟩
  ·intro H' ys s' hy r;obtain ⟨as,e,r2⟩:=EC (Ad r fun y q ⟨b,e1,_,e3⟩=>⟨b,e1,e3⟩);exact k D H' s' hD ⟨as,by rw[hy,e],r2⟩
def j5(C:Addr):Sp:=fun vs H Q _=>∃(wa ha:Addr) (w:List (List Nat)) (p:List Nat),vs=[.ref wa,.ref ha]/\B4 C H wa w/\Pr H ha p/\Eg w/\Pq w p/\Q (.bl (L8 w p == [])) H
theorem QM(T:Txt K mg t):Bv P w K mg base EE 2 t.R9 t.SA Y5 (j5 t.A7):=by
 refine T.NU.ok WK (fun vs H Q E h=>?_) (fun cdv A outer s H vs Q E hr h=>?_)
 ·obtain ⟨wa,ha,w,p,rfl,_⟩:=h;rfl
 ·obtain ⟨wa,ha,w,p,rfl,hw,hp,W,Pk,k⟩:=h;obtain ⟨dx,la,ra,ta,h1,h2,h3,ts,h4,h5⟩:=id hw;refine ⟨_,(AH (FY Bg rfl (DO (Ao (pv 0) rfl)) (Bj (i:=2) WK.nd rfl (Ai rfl)) (AM (Cm (Ck (Aj (Kt T) (hr.mono (by decide)) rfl T.L0 T.Ig.kp T.Lz .nil Ay (AA (pv 0) (AA (pv 1) (AA (BU CU (pv 2) BG (fun _ _=>rfl)) (AA (BU CU (pv 2) BG (fun _ _=>rfl)) AD)))))) (AM (Am Og)) Bk))) (AM (Am Og))),?_⟩;refine ⟨_,rfl,wa,_,_,_,_,rfl,h1,T.BP,T.G7,To _ _ _ _,ta,rfl,⟨_,Bq.of h4⟩,?_⟩;refine G4 (K:=K) (a:=ta) (xs:=ts.map V.ref) (fun i σ H'=>H'=H/\(∃v,σ=[some (.ref wa),some (.ref ha),v])/\∀j q,j<i->(Gx w)[j]?=some q->wb w p q.1 q.2=false) ⟨rfl,⟨_,rfl⟩,fun j q hj=>absurd hj (by omega)⟩ (fun i σ H' _ p=>by rw[p.1];exact Bq.of h4) ?_ ?_
  ·rintro i x σ H' hi ⟨rfl,⟨v,rfl⟩,hno⟩;rw[BH]at hi;obtain ⟨b,hb,rfl⟩:=CN.mp hi;obtain ⟨q,hq,h2'⟩:=Dg h5 hb;obtain ⟨l1,l2,l3,l4⟩:=Xo (Ar hq);refine ⟨_,rfl,_,rfl,_,rfl,b,_,_,_,rfl,rfl,h2'.fst,at_of (j:=0) rfl rfl,_,rfl,b,_,_,_,rfl,rfl,h2'.fst,at_of (j:=1) rfl rfl,?_⟩;refine ⟨wa,ha,w,p,q.1,q.2,rfl,hw,hp,Pk,l1,l2,_,rfl,?_⟩;cases hb':wb w p q.1 q.2 with
   |true =>
    refine Ca ?_;have e:(L8 w p == [])=false:=by
     have:q∈L8 w p:=AJ.mpr ⟨Ar hq,hb'⟩
     cases z:L8 w p with
     |nil=>rw[z]at this;exact nomatch this
     |cons=>rfl
    rw[e]at k;exact k
   |false =>
    refine Cz ⟨rfl,⟨_,rfl⟩,fun j q' hj hq'=>?_⟩
    by_cases ej:j=i
    ·subst ej;rw[hq]at hq';cases hq';exact hb'
    ·exact hno j q' (by omega) hq'
  ·rintro σ H' ⟨rfl,⟨v,rfl⟩,hno⟩;have e:L8 w p=[]:=Dc.mpr fun q hq=>by
    obtain ⟨j,hj⟩:=FG hq;have hlt:j<(Gx w).length:=(Ap.mp hj).1;rw[hno j q (by rw[AB,AX h5];exact hlt) hj];exact AZ
   rw[e]at k;exact k
def Vm(C:Addr):Sp:=fun vs H Q _=>∃(wa pa qa:Addr) (w:List (List Nat)) (p q:List Nat),vs=[.ref wa,.ref pa,.ref qa]/\B4 C H wa w/\TN H pa p/\TN H qa q/\Eg w/\GI w p/\GI w q/\Ks (vN (glad w p q)) H Q
theorem EX(T:Txt K mg t):Bv P w K mg base EE 1 t.JO t.JP Nn (Vm t.A7):=by
 refine T.EJ.ok Gm (fun vs H Q E h=>?_) (fun cdv A outer s H vs Q E hr h=>?_)
 ·obtain ⟨wa,pa,qa,w,p,q,rfl,_⟩:=h;rfl
 ·obtain ⟨wa,pa,qa,w,p,q,rfl,hw,hp,hq,W,Pp,Pq,k⟩:=h;obtain ⟨dx,la,ra,ta,h1,h2,⟨rs,h3,h4⟩,h5⟩:=id hw;have h6:=W.len;have lp:=Pp.len;have lq:=Pq.len;refine ⟨_,(AH (BF (i:=3) Gm.nd rfl (HI rfl) (Ao (pv 0) rfl)) (AH (Hb (i:=4) rfl Gm.nd rfl rfl (Jk rfl rfl rfl rfl) (EG rfl T.E4 (AA (Ao (pv 0) rfl) AD)) (show EH XE (AO JI) _ [("one",5)] from CL (by decide +kernel)) (fun _ _ _ _ _=>(Bj (i:=5) Gm.nd rfl (Ai rfl))) (fun _ _ _ _ _=>(FZ (Cy YX (BU (Hc K rfl) (BU (Hc K rfl) (pv 3) (pv 5) (fun _ _=>rfl)) (BU (M7 K rfl) (pv 1) (pv 5) (fun _ _=>rfl)) (fun _ _=>rfl)) (BU (Hc K rfl) (BU (Hc K rfl) (pv 3) (pv 5) (fun _ _=>rfl)) (BU (M7 K rfl) (pv 2) (pv 5) (fun _ _=>rfl)) (fun _ _=>rfl)) (C6 _)))) (fun _ _ _ _ _=>(pv 5))) (AM (Am (Ba A4 (by rfl) T.C7 An (AA (pv 4) AD)))))),?_⟩;refine ⟨_,rfl,wa,_,_,_,_,rfl,h1,T.BP,T.FN,MH _ _ _ _,?_⟩;refine ⟨_,rfl,wa,_,_,_,_,rfl,h1,T.BP,T.Bh,Co _ _ _ _,_,rfl,by omega,by omega,fun D hD=>?_⟩;rw[A8];refine Fs (fun a=>decide (rk w a (A6 p a)<rk w a (A6 q a))) (fun i y _=>y=vN i) (fun _ _ _ _ h _=>h) (by omega) hD (fun _=>rfl) ?_ ?_ ?_
  ·intro i H' Q' hi s' _ kk;obtain ⟨xa,ea,ka⟩:=CJ h4 (Tn w hi);have h3':=s' _ _ h3;have ka':=ka.same s';refine ⟨_,rfl,_,rfl,ra,_,_,_,rfl,rfl,Bq.of h3',DF ea,_,rfl,_,rfl,pa,_,_,_,rfl,rfl,DR.of (hp.same s'),CQ (Cj (by omega)),xa,_,_,_,rfl,rfl,Bq.of ka',CQ (M8 w i (Pp.lt i hi)),?_⟩;refine ⟨_,rfl,_,rfl,ra,_,_,_,rfl,rfl,Bq.of h3',DF ea,_,rfl,_,rfl,qa,_,_,_,rfl,rfl,DR.of (hq.same s'),CQ (Cj (by omega)),xa,_,_,_,rfl,rfl,Bq.of ka',CQ (M8 w i (Pq.lt i hi)),_,_,rfl,rfl,_,rfl,?_⟩;rw[dec_lt];exact kk H' (Aw.refl H')
  ·intro i H' Q' hi hf s' _ kk;exact ⟨_,rfl,kk _ H' (Aw.refl H') rfl⟩
  ·intro H' ys s' hy r;have e:=EI (f:=fun i=>i) r;refine ⟨_,rfl,D,_,rfl,.inl (Bq.of hy),?_⟩;rw[e,Bf,AB];exact k H' s'
def gW(C:Addr):Sp:=fun vs H Q _=>∃(wa pa qa:Addr) (w:List (List Nat)) (p q:List Nat),vs=[.ref wa,.ref pa,.ref qa]/\B4 C H wa w/\TN H pa p/\TN H qa q/\Eg w/\GI w p/\GI w q/\Ks (.bl (decide (glad w q p<glad w p q))) H Q
theorem UO(T:Txt K mg t):Bv P w K mg base EE 2 t.Pc t.Pd WM (gW t.A7):=by
 refine T.QC.ok gC (fun vs H Q E h=>?_) (fun cdv A outer s H vs Q E hr h=>?_)
 ·obtain ⟨wa,pa,qa,w,p,q,rfl,_⟩:=h;rfl
 ·obtain ⟨wa,pa,qa,w,p,q,rfl,hw,hp,hq,W,Pp,Pq,k⟩:=h;refine ⟨_,(AM (Am (HZ iu (Aj (EX T) (hr.mono (by decide)) rfl T.Eu T.EJ.kp T.Et .nil Ay (AA (pv 0) (AA (pv 1) (AA (pv 2) AD)))) (Aj (EX T) (hr.mono (by decide)) rfl T.Eu T.EJ.kp T.Et .nil Ay (AA (pv 0) (AA (pv 2) (AA (pv 1) AD)))) (C6 _)))),?_⟩;refine ⟨_,rfl,_,rfl,_,rfl,wa,pa,qa,w,p,q,rfl,hw,hp,hq,W,Pp,Pq,fun H1 s1=>?_⟩;refine ⟨_,rfl,_,rfl,_,rfl,wa,qa,pa,w,q,p,rfl,hw.same s1,hq.same s1,hp.same s1,W,Pq,Pp,fun H2 s2=>?_⟩;refine ⟨_,_,rfl,rfl,?_⟩;show Q (.bl (decide ((glad w q p:Int)<(glad w p q:Int)))) H2;rw[dec_lt];exact k H2 (s1.trans s2)
end
open PySem PySem.Spec PyProof.Rows L2
def made(w:List (List Nat))(k:Nat):List (List Nat):=(AF k).foldl (fun found a=>found.flatMap fun p=>DN w p a) [AF w.length]
theorem Qu(w:List (List Nat))(k:Nat):made w (k+1)=(made w k).flatMap fun p=>DN w p k:=by
 unfold made;rw[HQ,EK];rfl
theorem oQ{w:List (List Nat)}(W:Eg w):∀(k:Nat),∀p∈made w k,GI w p
 |0,p,h=>by
  have e:p=AF w.length:=by simpa [made] using h
  rw[e];exact Su
 |k+1,p,h=>by
  rw[Qu]at h;obtain ⟨q,hq,hp⟩:=Bz.mp h;exact X0 W (oQ W k q hq) hp
theorem gX(w:List (List Nat))(p:List Nat)(k:Nat):1<=(DN w p k).length:=by unfold DN;simp
theorem qm(w:List (List Nat))(k:Nat):(made w k).length<=(made w (k+1)).length:=by
 rw[Qu];have go:∀l:List (List Nat),l.length<=(l.flatMap fun p=>DN w p k).length:=by
  intro l
  induction l with
  |nil=>simp
  |cons p l ih =>
   rw[CA,Ab,BC]
   have:=gX w p k
   omega
 exact go _
theorem xJ{w:List (List Nat)}(W:Eg w){k:Nat}(hk:k<=w.length):(made w k).length<=76:=by
 have go:∀d,(made w (w.length-d)).length<=76:=by
  intro d
  induction d with
  |zero=>exact Gg W
  |succ d ih =>
   by_cases h:d+1<=w.length
   ·have e:w.length-d=(w.length-(d+1))+1:=by omega
    rw[e]at ih;exact AY (qm w _) ih
   ·have e:w.length-(d+1)=w.length-d:=by omega
    rw[e];exact ih
 have:=go (w.length-k)
 rwa [show w.length-(w.length-k)=k by omega]at this
theorem NX{α:Type}{f:α->Nat}:∀{ys:List V} {l:List α},Paired (fun y i=>y=vN (f i)) ys l->ys=nums (l.map f)
 |_,_,.nil=>rfl
 |_,_,.cons r t=>by rw[r,NX t];rfl
theorem JU{α β:Type}(f:α->List β)(l:List α)(i:Nat):((l.take i).flatMap f).length<=(l.flatMap f).length:=by
 have e:l.flatMap f=(l.take i).flatMap f++(l.drop i).flatMap f:=by rw[<-Dl,QT]
 rw[e,Ab];omega
section
variable {P:Program} {w:World} {K:AE} {mg:Str->Option Value} {base:Heap} {t:HU}
def mK(C:Addr):Sp:=fun vs H Q _=>∃(wa ha:Addr) (w:List (List Nat)) (p:List Nat) (a:Nat),vs=[.ref wa,.ref ha,vN a]/\B4 C H wa w/\TN H ha p/\Eg w/\GI w p/\a<w.length/\Vl (DN w p a) H Q
theorem mL(T:Txt K mg t):Bv P w K mg base EE 2 t.VH t.VI c8 (mK t.A7):=by
 refine T.dk.ok Ru (fun vs H Q E h=>?_) (fun cdv A outer s H vs Q E hr h=>?_)
 ·obtain ⟨wa,ha,w,p,a,rfl,_⟩:=h;rfl
 ·obtain ⟨wa,ha,w,p,a,rfl,hw,hp,W,Pk,la,k⟩:=h;have h6:=W.len;have lp:=Pk.len;refine ⟨_,(AH (BF (i:=3) Ru.nd rfl (Ai rfl) (BM (AA (pv 1) AD))) (AH (Cm (Ck (Aj (E5 T) (hr.mono (by decide)) rfl T.Fg T.FF.kp T.Ff .nil Ay (AA (pv 1) (AA (pv 2) AD)))) (AM (FY Bg rfl (DO (Ao (pv 0) rfl)) (Bj (i:=4) Ru.nd rfl (Ai rfl)) (AM (Cm (PW.pt (YO (Cy K8 (BU CU (pv 4) BG (fun _ _=>rfl)) (pv 2) (C6 _)) (TV (Ck (Aj (E5 T) (hr.mono (by decide)) rfl T.Fg T.FF.kp T.Ff .nil Ay (AA (pv 1) (AA (BU CU (pv 4) BG (fun _ _=>rfl)) AD))))))) (AM (Cw (JZ BQ CO CP Gk (pv 3) (AA (Aj (Vk T) (hr.mono (by decide)) rfl T.Zr T.T8.kp T.Zq .nil Ay (AA (pv 1) (AA (pv 2) (AA (BU CU (pv 4) BG (fun _ _=>rfl)) AD)))) AD)))) Bk)))) Bk) (AM (Am (pv 3))))),?_⟩;refine ⟨_,rfl,by show 1<=sizeLine;decide,fun D hD=>?_⟩;have s1:Aw H (upd H D (.lst [V.ref ha])):=As hD;refine ⟨_,rfl,_,rfl,ha,p,a,rfl,hp.same s1,by omega,_,rfl,?_⟩;unfold DN at k
  by_cases c:A6 p a=a
  ·rw[decide_eq_true c];rw[if_pos c]at k;refine Ca ?_;obtain ⟨dx,la',ra,ta,h1,h2,h3,ts,h4,h5⟩:=hw.same s1;refine ⟨_,rfl,wa,_,_,_,_,rfl,h1,T.BP,T.G7,To _ _ _ _,ta,rfl,⟨_,Bq.of h4⟩,?_⟩;have nta:ta≠D:=fun z=>by
    obtain ⟨dx0,la0,ra0,ta0,g1,g2,g3,ts0,g4,g5⟩:=hw;have e:=s1 _ _ g1;rw[h1]at e;cases e;rw[z]at g4;rw[hD]at g4;cases g4
   refine G4 (K:=K) (a:=ta) (xs:=ts.map V.ref) (fun i σ H'=>Aw H H'/\(∀b o,b≠D->(upd H D (.lst [V.ref ha])) b=some o->H' b=some o)/\(∃v,σ=[some (.ref wa),some (.ref ha),some (vN a),some (.ref D),v]) /\
    Nh H' D (p::(((Gx w).take i).filter fun q=>decide (q.1=a)&&decide (A6 p q.2=q.2)).map fun q=>joined p a q.2)) ⟨s1,fun b o _ e=>e,⟨_,rfl⟩,[ha],AK,.cons (hp.same s1) .nil⟩ (fun i σ H' _ q=>Bq.of (q.2.1 _ _ nta h4)) ?_ ?_
   ·rintro i x σ H' hi ⟨s',sx,⟨v,rfl⟩,as,hD',r⟩;rw[BH]at hi;obtain ⟨b,hb,rfl⟩:=CN.mp hi;obtain ⟨q,hq,h2'⟩:=Dg h5 hb;obtain ⟨l1,l2,l3,l4⟩:=Xo (Ar hq);have hIL:IsL (upd H D (.lst [V.ref ha])) D:=⟨_,AK⟩;have h2'':U2 H' b q:=sx _ _ (hIL.Gz h2') h2';have hp':TN H' ha p:=hp.same s';rw[take_snoc hq,Io,BS];have hlen:as.length<=900:=by
     rw[AX r,BC,AB];have z1:(((Gx w).take i).filter fun q=>decide (q.1=a)&&decide (A6 p q.2=q.2)).length<=(Gx w).length:=AY (Ax _ _) (by rw[B0];omega);have z2:(Gx w).length<=36:=by
      have h1:(Gx w).length<=(B5 w.length).length:=Ax _ _;have h2:(B5 w.length).length<=w.length*w.length:=by
       unfold B5
       have:=GK (fun i=>((AF w.length).filter fun j=>decide (i<j)).map fun j=>(i,j)) w.length (AF w.length) fun x _=>by
        rw[AB];exact AY (Ax _ _) (by simp)
       rwa [BW]at this
      have h4:w.length*w.length<=6*6:=Ri h6 h6;omega
     omega
    refine ⟨_,rfl,b,_,_,_,rfl,rfl,h2''.fst,at_of (j:=0) rfl rfl,_,rfl,rfl,_,rfl,?_⟩;rw[Gy]
    by_cases c1:q.1=a
    ·rw[decide_eq_true c1];refine Ca ⟨_,rfl,_,rfl,b,_,_,_,rfl,rfl,h2''.fst,at_of (j:=1) rfl rfl,ha,p,q.2,rfl,hp',by omega,_,rfl,?_⟩
     by_cases c2:A6 p q.2=q.2
     ·rw[decide_eq_true c2];refine Ca ⟨_,rfl,.inl ⟨rfl,_,Bq.of hD'⟩,_,rfl,_,rfl,_,rfl,b,_,_,_,rfl,rfl,h2''.fst,at_of (j:=1) rfl rfl,?_⟩;refine ⟨ha,p,a,q.2,rfl,hp',by omega,by omega,by omega,fun c' H3 s3 e3=>?_⟩;refine ⟨D,_,_,rfl,rfl,s3 _ _ hD',?_,?_⟩
      ·rw[AB];exact Ci hlen (by decide)
      ·refine ⟨(s'.trans s3).put hD,fun b' o' hb' e'=>by rw[A2 hb'];exact s3 _ _ (sx _ _ hb' e'),⟨_,rfl⟩,as++[c'],by rw[AK,BS];rfl,?_⟩;have hL3:IsL H3 D:=⟨_,s3 _ _ hD'⟩;exact EU (xs:=p::_) (Ad r fun _ _ z=>(z.same s3).put hL3) (TN.put e3 hL3)
     ·rw[decide_eq_false c2];simp only[Q6,Cf,if_false,IA,B1];exact ⟨s',sx,⟨_,rfl⟩,as,hD',r⟩
    ·rw[decide_eq_false c1];simp only[bp,Cf,if_false,IA,B1];exact ⟨s',sx,⟨_,rfl⟩,as,hD',r⟩
   ·rintro σ H' ⟨s',sx,⟨v,rfl⟩,hL⟩;rw[AB,AX h5,B9]at hL;exact ⟨_,rfl,k D H' s' hD hL⟩
  ·rw[decide_eq_false c];rw[if_neg c]at k;refine Cz ⟨_,rfl,k D _ s1 hD ⟨[ha],AK,.cons (hp.same s1) .nil⟩⟩
def Vn(C:Addr):Sp:=fun vs H Q _=>∃(wa:Addr) (w:List (List Nat)),vs=[.ref wa]/\B4 C H wa w/\Eg w/\Vl (ET w) H Q
theorem FP(T:Txt K mg t):Bv P w K mg base EE 3 t.JM t.JN Nl (Vn t.A7):=by
 refine T.Es.ok EW (fun vs H Q E h=>?_) (fun cdv A outer s H vs Q E hr h=>?_)
 ·obtain ⟨wa,w,rfl,_⟩:=h;rfl
 ·obtain ⟨wa,w,rfl,hw,W,k⟩:=h;obtain ⟨dx,la,ra,ta,h1,h2,h3,h4⟩:=id hw;have h6:=W.len;refine ⟨_,(AH (BF (i:=1) EW.nd rfl (Ai rfl) (BM (AA (Aj (UN T) (hr.mono (by decide)) rfl T.Wh T.P7.kp T.Wg .nil Ay (AA (Ao (pv 0) rfl) AD)) AD))) (AH (FY Bg rfl (EG rfl T.E4 (AA (Ao (pv 0) rfl) AD)) (Bj (i:=2) EW.nd rfl (Ai rfl)) (AH (BF (i:=3) EW.nd rfl (Ai rfl) (BM AD)) (AH (FY Bg rfl (DO (pv 1)) (Bj (i:=4) EW.nd rfl (Ai rfl)) (AM (Cw (JZ BQ E9 FA MC (pv 3) (AA (Aj (mL T) (hr.mono (by decide)) rfl T.qM T.dk.kp T.qL .nil Ay (AA (pv 0) (AA (pv 4) (AA (pv 2) AD)))) AD))))) (AM (BF (i:=1) EW.nd rfl (Ai rfl) (pv 3)))))) (AM (Am (pv 1))))),?_⟩;refine ⟨_,rfl,wa,_,_,_,_,rfl,h1,T.BP,T.Bh,Co _ _ _ _,w.length,rfl,h6,fun p0 H1 s1 e1=>?_⟩;refine ⟨by show 1<=sizeLine;decide,fun F hF=>?_⟩;have s2:Aw H (upd H1 F (.lst [V.ref p0])):=s1.upd hF;obtain ⟨dx,la,ra,ta,h1',_⟩:=hw.same s2;refine ⟨_,rfl,wa,_,_,_,_,rfl,h1',T.BP,T.Bh,Co _ _ _ _,_,rfl,by omega,by omega,?_⟩;rw[A8];refine L9 (fun i σ H'=>Aw H H'/\(∃F v2 v3 v4,σ=[some (.ref wa),some (.ref F),v2,v3,v4]/\H F=none/\Nh H' F (made w i))) ⟨s2,F,none,none,none,rfl,s1.free hF,[p0],AK,.cons (e1.same (As hF)) .nil⟩ ?_ ?_
  ·rintro i σ H' hi ⟨s',F,v2,v3,v4,rfl,hF0,fs,hF',rF⟩;have e0:(V.int (0+(i:Int)))=vN i:=by rw[OV]
   rw[e0];refine ⟨Bb _,fun G hG=>?_⟩;have nFG:F≠G:=Af hF' hG;refine ⟨_,rfl,F,rfl,⟨_,Bq.of (by rw[A2 nFG];exact hF')⟩,?_⟩;refine G4 (K:=K) (a:=F) (xs:=fs.map V.ref) (fun j σ H2=>Aw H H2/\Aw H' H2/\(∃v4,σ=[some (.ref wa),some (.ref F),some (vN i),some (.ref G),v4])/\Nh H2 G (((made w i).take j).flatMap fun p=>DN w p i))
    ⟨s'.upd hG,As hG,⟨_,rfl⟩,[],AK,.nil⟩ (fun j σ H2 _ q=>Bq.of (q.2.1 _ _ hF')) ?_ ?_
   ·rintro j x σ H2 hj ⟨s3,s4,⟨v4',rfl⟩,gs,hG',rG⟩;rw[BH]at hj;obtain ⟨b,hb,rfl⟩:=CN.mp hj;obtain ⟨p,hp,hTN⟩:=Dg rF hb;have Pk:=oQ W i p (Ar hp);refine ⟨_,rfl,.inl ⟨rfl,_,Bq.of hG'⟩,_,rfl,_,rfl,_,rfl,?_⟩;refine ⟨wa,b,w,p,i,rfl,hw.same s3,hTN.same s4,W,Pk,hi,fun c H3 s5 hc hL=>?_⟩;obtain ⟨cs,hc',rc⟩:=hL;rw[take_snoc hp,Dl,Br];have hlen:gs.length+cs.length<=76:=by
     rw[AX rG,AX rc];have z1:(((made w i).take j).flatMap fun p=>DN w p i).length+(DN w p i).length<=((made w i).flatMap fun p=>DN w p i).length:=by
      have:=JU (fun p=>DN w p i) (made w i) (j+1)
      rw[take_snoc hp,Dl,Br,Ab]at this;exact this
     have z2:=xJ W (k:=i+1) (by omega);rw[Qu]at z2;omega
    refine ⟨G,c,_,_,rfl,rfl,s5 _ _ hG',hc',by rw[AB,AB];exact small (by omega),?_⟩;have hL3:IsL H3 G:=⟨_,s5 _ _ hG'⟩;refine ⟨(s3.trans s5).put (s'.free hG),(s4.trans s5).put hG,⟨_,rfl⟩,gs++cs,by rw[AK,BS],?_⟩;exact FE (Ad rG fun _ _ z=>(z.same s5).put hL3) (Ad rc fun _ _ z=>z.put hL3)
   ·rintro σ H2 ⟨s3,s4,⟨v4',rfl⟩,hL⟩;rw[AB,AX rF,B9]at hL;exact ⟨_,rfl,s3,G,_,_,_,rfl,s'.free hG,by rw[Qu];exact hL⟩
  ·rintro σ H' ⟨s',F,v2,v3,v4,rfl,hF0,hL⟩;exact ⟨_,rfl,k F H' s' hF0 hL⟩
def OG(C:Addr):Sp:=fun vs H Q _=>∃(wa:Addr) (w:List (List Nat)),vs=[.ref wa]/\B4 C H wa w/\Eg w/\Vl (holding w) H Q
theorem C9(T:Txt K mg t):Bv P w K mg base EE 4 t.GU t.GV Iq (OG t.A7):=by
 refine T.C0.ok Fv (fun vs H Q E h=>?_) (fun cdv A outer s H vs Q E hr h=>?_)
 ·obtain ⟨wa,w,rfl,_⟩:=h;rfl
 ·obtain ⟨wa,w,rfl,hw,W,k⟩:=h;refine ⟨_,(AM (Am (HK rfl Fv.nd (DO (Aj (FP T) (hr.mono (by decide)) rfl T.Fl T.Es.kp T.Fj .nil Ay (AA (pv 0) AD))) (show EH O6 (AO GQ) _ [("has",1)] from CL (by decide +kernel)) (fun _ _ _ _ _=>(Bj (i:=1) Fv.nd rfl (Ai rfl))) (fun _ _ _ _ _=>(FZ (Ck (Aj (QM T) (hr.mono (by decide)) rfl T.SV T.NU.kp T.SU .nil Ay (AA (pv 0) (AA (pv 1) AD)))))) (fun _ _ _ _ _=>(pv 1))))),?_⟩;refine ⟨_,rfl,wa,w,rfl,hw,W,fun F H1 s1 hF ⟨fs,hF',rF⟩=>⟨F,rfl,⟨_,Bq.of hF'⟩,fun D hD=>?_⟩⟩;refine E1 (zs:=ET w) (fun x p=>∃b,x=V.ref b/\TN H1 b p) (fun p=>L8 w p == []) (fun p y H'=>∃b,y=V.ref b/\b≠D/\TN H' b p) (Di rF)
   (fun q y H1 H2 ⟨b,e1,e2,e3⟩ sx=>⟨b,e1,e2,sx b _ e2 e3⟩) (AY (Gg W) (by omega)) hD (Bq.of hF') (fun _=>rfl) ?_ ?_ ?_
  ·rintro x p H' Q' hp ⟨b,rfl,hb⟩ s' _ kk;exact ⟨_,rfl,_,rfl,wa,b,w,p,rfl,hw.same (s1.trans s'),.inr (hb.same s'),W,(FJ W hp).q,_,rfl,kk H' (Aw.refl H')⟩
  ·rintro x p H' Q' hp ⟨b,rfl,hb⟩ hf s' hL kk;exact ⟨_,rfl,kk _ H' (Aw.refl H') ⟨b,rfl,hL.Gz (hb.same s'),hb.same s'⟩⟩
  ·intro H' ys s' hy r;obtain ⟨as,e,r2⟩:=EC (Ad r fun y q ⟨b,e1,_,e3⟩=>⟨b,e1,e3⟩);exact k D H' (s1.trans s') (s1.free hD) ⟨as,by rw[hy,e],r2⟩
def SW(C:Addr):Sp:=fun vs H Q _=>∃(wa:Addr) (w:List (List Nat)),vs=[.ref wa]/\B4 C H wa w/\Eg w/\Vl (Oe w) H Q
theorem HH(T:Txt K mg t):Bv P w K mg base EE 4 t.Hj t.Hk LF (SW t.A7):=by
 refine T.F7.ok DI (fun vs H Q E h=>?_) (fun cdv A outer s H vs Q E hr h=>?_)
 ·obtain ⟨wa,w,rfl,_⟩:=h;rfl
 ·obtain ⟨wa,w,rfl,hw,W,k⟩:=h;have h6:=W.len;have le6:∀p∈ET w,p.length<=6:=fun p hp=>by rw[(FJ W hp).len];exact h6
  refine ⟨_,(AH (BF (i:=1) DI.nd rfl (Ai rfl) (Aj (FP T) (hr.mono (by decide)) rfl T.Fl T.Es.kp T.Fj .nil Ay (AA (pv 0) AD))) (AH (BF (i:=2) DI.nd rfl (HI rfl) (Ba (zT rfl) (by rfl) T.yL boot_max (AA (HK rfl DI.nd (DO (pv 1)) (show EH LD (AO F6) _ [("has",3)] from CL (by decide +kernel)) (fun _ _ _ _ _=>(Bj (i:=3) DI.nd rfl (Ai rfl))) (fun _ _ _ _ _=>F4) (fun _ _ _ _ _=>(Aj (DD T) (hr.mono (by decide)) rfl T.DT T.DC.kp T.DS .nil Ay (AA (pv 3) AD)))) AD))) (AM (Am (HK rfl DI.nd (DO (pv 1)) (show EH LD (AO F6) _ [("has",3)] from CL (by decide +kernel)) (fun _ _ _ _ _=>(Bj (i:=3) DI.nd rfl (Ai rfl))) (fun _ _ _ _ _=>(FZ (Cy K8 (Aj (DD T) (hr.mono (by decide)) rfl T.DT T.DC.kp T.DS .nil Ay (AA (pv 3) AD)) (pv 2) (C6 _)))) (fun _ _ _ _ _=>(pv 3))))))),?_⟩;refine ⟨_,rfl,wa,w,rfl,hw,W,fun F H1 s1 hF ⟨fs,hF',rF⟩=>⟨_,rfl,F,rfl,⟨_,Bq.of hF'⟩,fun D hD=>?_⟩⟩;refine E1 (zs:=ET w) (fun x p=>∃b,x=V.ref b/\TN H1 b p) (fun _=>true) (fun p y _=>y=vN (cnt p)) (Di rF) (fun _ _ _ _ h _=>h) (AY (Gg W) (by omega)) hD (Bq.of hF') (fun _=>rfl) ?_ ?_ ?_
  ·intro x z H' Q' _ _ s' _ kk;exact kk H' (Aw.refl H')
  ·rintro x p H' Q' hp ⟨b,rfl,hb⟩ _ s' _ kk;exact ⟨_,rfl,b,p,rfl,hb.same s',le6 p hp,fun H2 s2=>kk _ H2 s2 rfl⟩
  ·intro H2 ys s2 hy r;rw[BZ.mpr (fun _ _=>rfl)]at r;have e:=NX r;have en:ys=(((ET w).map cnt).map fun (n:Nat)=>(n:Int)).map V.int:=by rw[e];unfold nums;rw[Dd,Dd,Dd];rfl
   refine ⟨D,_,rfl,Bq.of (by rw[hy,en]),?_,fun m hm hle=>?_⟩
   ·obtain ⟨L,eL⟩:=@YG w;rw[eL];simp
   have em:m=((cnt (best w):Nat):Int):=by
    obtain ⟨c,hc,rfl⟩:=BE.mp hm;obtain ⟨p,hp,rfl⟩:=BE.mp hc;have h1:=YH.1 p hp;have h2:=hle (cnt (best w):Int) (BE.mpr ⟨_,BE.mpr ⟨_,sj,rfl⟩,rfl⟩);omega
   subst em;have hF2:=s2 _ _ hF';refine ⟨_,rfl,F,rfl,⟨_,Bq.of hF2⟩,fun D2 hD2=>?_⟩;refine E1 (zs:=ET w) (fun x p=>∃b,x=V.ref b/\TN H2 b p) (fun p=>cnt p==cnt (best w)) (fun p y H'=>∃b,y=V.ref b/\b≠D2/\TN H' b p) (Di (Ad rF fun _ _ z=>z.same s2))
    (fun q y H1 H2 ⟨b,e1,e2,e3⟩ sx=>⟨b,e1,e2,sx b _ e2 e3⟩) (AY (Gg W) (by omega)) hD2 (Bq.of hF2) (fun _=>rfl) ?_ ?_ ?_
   ·rintro x p H' Q' hp ⟨b,rfl,hb⟩ s' _ kk;refine ⟨_,rfl,b,p,rfl,hb.same s',le6 p hp,fun H3 s3=>⟨_,rfl,rfl,_,rfl,?_⟩⟩;have e3:decide (vN (cnt p)=V.int ((cnt (best w):Nat):Int))=(cnt p==cnt (best w)):=by
     show decide (vN _=vN _)=_;rw[Gy]
     by_cases c:cnt p=cnt (best w)
     ·rw[decide_eq_true c,c];simp
     ·rw[decide_eq_false c];exact (beq_eq_false_iff_ne.mpr c).symm
    rw[e3];exact kk H3 s3
   ·rintro x p H' Q' hp ⟨b,rfl,hb⟩ hf s' hL kk;exact ⟨_,rfl,kk _ H' (Aw.refl H') ⟨b,rfl,hL.Gz (hb.same s'),hb.same s'⟩⟩
   ·intro H3 ys3 s3 hy3 r3;obtain ⟨as,e3,r4⟩:=EC (Ad r3 fun y q ⟨b,e1,_,e3⟩=>⟨b,e1,e3⟩);exact k D2 H3 ((s1.trans s2).trans s3) ((s1.trans s2).free hD2) ⟨as,by rw[hy3,e3],r4⟩
def XN(C:Addr):Sp:=fun vs H Q _=>∃(wa pa la:Addr) (w:List (List Nat)) (p:List Nat) (L:List (List Nat)),vs=[.ref wa,.ref pa,.ref la]/\B4 C H wa w/\TN H pa p/\Nh H la L/\Eg w/\GI w p/\(∀q∈L,GI w q)/\Ks (.bl (L.any fun q=>decide (glad w p q<glad w q p))) H Q
theorem XO(T:Txt K mg t):Bv P w K mg base EE 3 t.KY t.KZ O8 (XN t.A7):=by
 refine T.QD.ok Np (fun vs H Q E h=>?_) (fun cdv A outer s H vs Q E hr h=>?_)
 ·obtain ⟨wa,pa,la,w,p,L,rfl,_⟩:=h;rfl
 ·obtain ⟨wa,pa,la,w,p,L,rfl,hw,hp,⟨fs,hF',rF⟩,W,Pp,PL,k⟩:=h;have hlen:(fs.map V.ref).length=L.length:=by rw[AB,AX rF]
  refine ⟨_,(AH (FY Bg rfl (i9 rfl T.mJ (AA (pv 2) AD)) (Bj (i:=3) Np.nd rfl (Ai rfl)) (AM (Cm (Ck (Aj (UO T) (hr.mono (by decide)) rfl T.Wk T.QC.kp T.Wj .nil Ay (AA (pv 0) (AA (pv 3) (AA (pv 1) AD))))) (AM (Am Og)) Bk))) (AM (Am Og))),?_⟩;refine ⟨_,rfl,la,_,rfl,Bq.of hF',?_⟩;refine xD (K:=K) (a:=la) (xs:=fs.map V.ref) (fun i σ H'=>Aw H H'/\(∃v,σ=[some (.ref wa),some (.ref pa),some (.ref la),v])/\∀j q,L.length<=j+i->L[j]?=some q->decide (glad w p q<glad w q p)=false) ⟨Aw.refl H,⟨_,rfl⟩,fun j q hj hq=>?_⟩ (fun i σ H' _ q=>Bq.of (q.1 _ _ hF')) ?_ ?_
  ·have:=(Ap.mp hq).1
   omega
  ·rintro i x σ H' hi hlt ⟨s',⟨v,rfl⟩,hno⟩;rw[BH]at hi;obtain ⟨b,hb,rfl⟩:=CN.mp hi;obtain ⟨q,hq,hTN⟩:=Dg rF hb;rw[hlen]at hq;rw[AB,AX rF]at hlt;have hqm:=Ar hq;refine ⟨_,rfl,_,rfl,_,rfl,wa,b,pa,w,q,p,rfl,hw.same s',hTN.same s',hp.same s',W,PL q hqm,Pp,fun H2 s2=>⟨_,rfl,?_⟩⟩;cases hc:decide (glad w p q<glad w q p) with
   |true =>
    refine Ca ?_;have e:(L.any fun q=>decide (glad w p q<glad w q p))=true:=D4.mpr ⟨q,hqm,hc⟩;rw[e]at k;exact k H2 (s'.trans s2)
   |false =>
    refine Cz ⟨s'.trans s2,⟨_,rfl⟩,fun j q' hj hq'=>?_⟩
    by_cases ej:L.length<=j+i
    ·exact hno j q' ej hq'
    ·have:j=L.length-1-i:=by omega
     rw[this,hq]at hq';cases hq';exact hc
  ·rintro σ H' ⟨s',⟨v,rfl⟩,hno⟩;have e:(L.any fun q=>decide (glad w p q<glad w q p))=false:=by
    rw[rg];intro q hq;obtain ⟨j,hj⟩:=FG hq;rw[hno j q (by rw[hlen];omega) hj];exact AZ
   rw[e]at k;exact k H' s'
def SX(C:Addr):Sp:=fun vs H Q _=>∃(wa:Addr) (w:List (List Nat)),vs=[.ref wa]/\B4 C H wa w/\Eg w/\Vl (fO w) H Q
theorem SY(T:Txt K mg t):Bv P w K mg base EE 4 t.Hh t.Hi LC (SX t.A7):=by
 refine T.LM.ok Fc (fun vs H Q E h=>?_) (fun cdv A outer s H vs Q E hr h=>?_)
 ·obtain ⟨wa,w,rfl,_⟩:=h;rfl
 ·obtain ⟨wa,w,rfl,hw,W,k⟩:=h;refine ⟨_,(AH (BF (i:=1) Fc.nd rfl (HI rfl) (Aj (FP T) (hr.mono (by decide)) rfl T.Fl T.Es.kp T.Fj .nil Ay (AA (pv 0) AD))) (AM (Am (HK rfl Fc.nd (DO (pv 1)) (show EH Ts (AO Hf) _ [("has",2)] from CL (by decide +kernel)) (fun _ _ _ _ _=>(Bj (i:=2) Fc.nd rfl (Ai rfl))) (fun _ _ _ _ _=>(FZ (FK (Ck (Aj (XO T) (hr.mono (by decide)) rfl T.Zt T.QD.kp T.Zs .nil Ay (AA (pv 0) (AA (pv 2) (AA (pv 1) AD)))))))) (fun _ _ _ _ _=>(pv 2)))))),?_⟩;refine ⟨_,rfl,wa,w,rfl,hw,W,fun F H1 s1 hF hL1=>?_⟩;obtain ⟨fs,hF',rF⟩:=id hL1;refine ⟨_,rfl,F,rfl,⟨_,Bq.of hF'⟩,fun D hD=>?_⟩;refine E1 (zs:=ET w) (fun x p=>∃b,x=V.ref b/\TN H1 b p) (fun p => !((ET w).any fun q=>decide (glad w p q<glad w q p))) (fun p y H'=>∃b,y=V.ref b/\b≠D/\TN H' b p) (Di rF)
   (fun q y H1 H2 ⟨b,e1,e2,e3⟩ sx=>⟨b,e1,e2,sx b _ e2 e3⟩) (AY (Gg W) (by omega)) hD (Bq.of hF') (fun _=>rfl) ?_ ?_ ?_
  ·rintro x p H' Q' hp ⟨b,rfl,hb⟩ s' _ kk;exact ⟨_,rfl,_,rfl,_,rfl,wa,b,F,w,p,ET w,rfl,hw.same (s1.trans s'),hb.same s',hL1.same s',W,FJ W hp,fun q hq=>FJ W hq,fun H2 s2=>⟨_,rfl,kk H2 s2⟩⟩
  ·rintro x p H' Q' hp ⟨b,rfl,hb⟩ hf s' hL kk;exact ⟨_,rfl,kk _ H' (Aw.refl H') ⟨b,rfl,hL.Gz (hb.same s'),hb.same s'⟩⟩
  ·intro H' ys s' hy r;obtain ⟨as,e,r2⟩:=EC (Ad r fun y q ⟨b,e1,_,e3⟩=>⟨b,e1,e3⟩);exact k D H' (s1.trans s') (s1.free hD) ⟨as,by rw[hy,e],r2⟩
def XQ:Sp:=fun vs H Q _=>∃(a:Addr) (p:List Nat),vs=[.ref a]/\TN H a p/\p.length<=6/\NW (Up p) H Q
theorem XR(T:Txt K mg t):Bv P w K mg base EE 2 t.Ka t.Kb O9 XQ:=by
 refine T.QE.ok JJ (fun vs H Q E h=>?_) (fun cdv A outer s H vs Q E hr h=>?_)
 ·obtain ⟨a,p,rfl,_⟩:=h;rfl
 ·obtain ⟨a,p,rfl,ha,h6,k⟩:=h;refine ⟨_,(AM (Am (HK rfl JJ.nd (EG rfl T.E4 (AA (Ba A4 (by rfl) T.C7 An (AA (pv 0) AD)) AD)) (show EH Y6 (AO KJ) _ [("student",1)] from CL (by decide +kernel)) (fun _ _ _ _ _=>(Bj (i:=1) JJ.nd rfl (Ai rfl))) (fun _ _ _ _ _=>(FZ (Ck (Aj (E5 T) (hr.mono (by decide)) rfl T.Fg T.FF.kp T.Ff .nil Ay (AA (pv 0) (AA (pv 1) AD)))))) (fun _ _ _ _ _=>(pv 1))))),?_⟩;refine ⟨_,rfl,a,_,rfl,.inr (DR.of ha),_,rfl,by omega,by rw[Bf];omega,fun D hD=>?_⟩;rw[A8,Bf];refine Fs (fun i=>decide (A6 p i=i)) (fun i y _=>y=vN i) (fun _ _ _ _ h _=>h) (by omega) hD (fun _=>rfl) ?_ ?_ ?_
  ·intro i H' Q' hi s' _ kk;exact ⟨_,rfl,_,rfl,a,p,i,rfl,ha.same s',hi,_,rfl,kk H' (Aw.refl H')⟩
  ·intro i H' Q' hi hf s' _ kk;exact ⟨_,rfl,kk _ H' (Aw.refl H') rfl⟩
  ·intro H' ys s' hy r;have e:=EI (f:=fun i=>i) r;rw[EY]at e;exact k D H' s' hD (by unfold LN;rw[hy,e];rfl)
end
open PySem PySem.Spec PyProof.Rows L2
theorem mM{l:List Nat}{i x:Nat}(nd:l.Nodup)(h:l[i]?=some x):(l.findIdx fun y=>y==x)=i:=by
 have hi:i<l.length:=(Ap.mp h).1;have hm:x∈l:=Ar h;have hlt:=FC hm;have hg:=Gq (xs:=l) (p:=fun y=>y==x) (w:=hlt);have e1:l[l.findIdx fun y=>y==x]=x:=by simpa using hg
 have e2:l[i]=x:=(Ap.mp h).2;exact (Iz nd).mp (e1.trans e2.symm)
def vP(w:List (List Nat))(a i b:Nat):Nat:=if ((wl w a).take i).contains b=true then (wl w a).findIdx fun x=>x==b else if b=a then w.length else w.length+1
theorem ud(w:List (List Nat))(a b:Nat):vP w a (wl w a).length b=rk w a b:=by
 unfold vP rk;rw[B9]
theorem Rf(n:Nat)(f g:Nat->Nat)(c v:Nat)(h:∀b,b<n->g b=if b=c then v else f b):((AF n).map f).set c v=(AF n).map g:=by
 refine Vx fun i=>?_
 rw[Vy,BH,BH]
 by_cases hi:i<n
 ·rw[FT hi]
  by_cases e:c=i
  ·subst e;simp only[if_true,AB,BW,hi,Xa];rw[h c hi,if_pos rfl]
  ·rw[if_neg e];simp only[Xa];rw[h i hi,if_neg (Cr e)]
 ·rw[Bo (l:=AF n) (by simp;omega)]
  by_cases e:c=i
  ·subst e;simp[hi]
  ·simp[e]
theorem qo(w:List (List Nat)){a:Nat}:(Ac w.length (w.length+1)).set a w.length=(AF w.length).map (vP w a 0):=by
 have e:Ac w.length (w.length+1)=(AF w.length).map fun _=>w.length+1:=by
  rw[List.map_const',BW]
 rw[e];refine Rf _ _ _ _ _ fun b _=>?_
 unfold vP;rw[xm];simp
theorem ue{w:List (List Nat)}(W:Eg w){a i x:Nat}(h:(wl w a)[i]?=some x):((AF w.length).map (vP w a i)).set x i=(AF w.length).map (vP w a (i+1)):=by
 refine Rf _ _ _ _ _ fun b _=>?_
 have ef:=mM (W.nd a) h;unfold vP;rw[take_snoc h]
 by_cases e:b=x
 ·subst e;rw[if_pos (by simp),if_pos rfl,ef]
 ·have ec:((wl w a).take i++[x]).contains b=((wl w a).take i).contains b:=by
   cases z:((wl w a).take i).contains b with
   |true=>exact AN.mpr (DQ _ (AN.mp z))
   |false =>
    cases z2:((wl w a).take i++[x]).contains b with
    |false=>rfl
    |true =>
     rcases BN.mp (AN.mp z2) with q|q
     ·rw[AN.mpr q]at z;cases z
     ·exact absurd (A3.mp q) e
  rw[ec,if_neg e]
def Ku(w:List (List Nat))(a j:Nat):List (Nat×Nat):=((By (a+1) j).filter fun b=>wd w a b).map fun b=>(a,b)
def NY(w:List (List Nat))(i:Nat):List (Nat×Nat):=(AF i).flatMap fun a=>Ku w a (w.length-(a+1))
theorem j6(w:List (List Nat)):NY w w.length=Gx w:=by
 unfold NY Gx B5;rw[Sf];refine Dy fun a ha=>?_
 have ha:=Ah.mp ha;unfold Ku;have e:w.length=a+1+(w.length-(a+1)):=by omega
 have e2:=RB a (w.length-(a+1));rw[<-e]at e2;rw[e2,Jp];rfl
theorem j7(w:List (List Nat))(i:Nat):NY w (i+1)=NY w i++Ku w i (w.length-(i+1)):=by
 unfold NY;rw[HQ,Dl,Br]
theorem j8(w:List (List Nat))(a j:Nat):Ku w a (j+1)=Ku w a j++(if wd w a (a+1+j)=true then [(a,a+1+j)] else []):=by
 unfold Ku;rw[List.range'_concat,Io,BS];simp only[Nat.one_mul]
 split<;>rfl
theorem eG(w:List (List Nat))(a j:Nat):(Ku w a j).length<=j:=by
 unfold Ku;rw[AB];exact AY (Ax _ _) (by simp)
theorem qp(w:List (List Nat))(i:Nat):(NY w i).length<=i*w.length:=by
 unfold NY
 have:=GK (fun a=>Ku w a (w.length-(a+1))) w.length (AF i) fun x _=>AY (eG w x _) (by omega)
 rwa [BW]at this
theorem eI:∀(l acc:List Int),acc.Nodup->((l.foldl J2 acc).length=acc.length+l.length ↔ (acc++l).Nodup)
 |[],acc,h=>by simp[h]
 |x::l,acc,h=>by
  rw[BI];have le:∀(l acc:List Int),(l.foldl J2 acc).length<=acc.length+l.length:=by
   intro l
   induction l with
   |nil=>intro acc;simp
   |cons y l ih =>
    intro acc;rw[BI];refine AY (ih _) ?_;unfold J2
    split<;>simp<;>omega
  by_cases hm:acc.any (·==x)=true
  ·have hx:x∈acc:=by
    obtain ⟨y,hy,e⟩:=D4.mp hm;have e:y=x:=by simpa using e
    rw[<-e];exact hy
   have e:J2 acc x=acc:=by unfold J2;rw[if_pos hm]
   rw[e];constructor
   ·intro z
    have:=le l acc
    rw[BC]at z;omega
   ·intro z
    have:=(DA.mp z).2.2 x hx x AI
    exact absurd rfl this
  ·have hx:x ∉ acc:=fun hx=>hm (D4.mpr ⟨x,hx,by simp⟩)
   have e:J2 acc x=acc++[x]:=by unfold J2;rw[if_neg hm]
   have h2:(acc++[x]).Nodup:=DA.mpr ⟨h,by simp,fun a ha b hb e=>hx (by rw[A3.mp hb]at e;rw[<-e];exact ha)⟩;have ih:=eI l (acc++[x]) h2;rw[e];rw[CY,Ab]at ih;simp only[Du,List.singleton_append]at ih;rw[BC,show acc.length+(l.length+1)=acc.length+1+l.length by omega];exact ih
theorem aE(l:List Nat):((J9 (l.map fun (n:Nat)=>(n:Int))).length=l.length) ↔ l.Nodup:=by
 have e:J9 (l.map fun (n:Nat)=>(n:Int))=(l.map fun (n:Nat)=>(n:Int)).foldl J2 []:=by
  unfold J9 firstMet
  congr 1
  refine Vx fun i=>?_
  rw[BH]
  by_cases hi:i<l.length
  ·rw[FT (by simpa using hi),BH,A5 hi];simp only[Xa];rw[AQ,BH,A5 hi];rfl
  ·rw[Bo (by simp;omega),Bo (by simp;omega)];rfl
 have:=eI (l.map fun (n:Nat)=>(n:Int)) [] C3
 rw[e];simp only[DJ,kn,AB,F0]at this;rw[this];constructor
 ·intro h;exact AAu (fun (n:Nat)=>(n:Int)) (fun a b hab e=>hab (by rw[e])) h
 ·intro h;exact OQ (fun (n:Nat)=>(n:Int)) (fun a b hab e=>hab (by omega)) h
instance {n a:Nat} {l:List Nat}:Decidable (Dq n a l):=by
 unfold Dq;exact inferInstance
section
variable {P:Program} {w:World} {K:AE} {mg:Str->Option Value} {base:Heap} {t:HU}
def j9:Sp:=fun vs H Q _=>∃(a:Nat) (la:Addr) (w:List (List Nat)),vs=[vN a,.ref la]/\Q4 H la w/\Eg w/\a<w.length/\NW ((AF w.length).map (rk w a)) H Q
theorem kC(T:Txt K mg t):Bv P w K mg base EE 1 t.R3 t.R4 Yy j9:=by
 refine T.Zn.ok Ip (fun vs H Q E h=>?_) (fun cdv A outer s H vs Q E hr h=>?_)
 ·obtain ⟨a,la,w,rfl,_⟩:=h;rfl
 ·obtain ⟨a,la,w,rfl,⟨as,h1,h2⟩,W,ha,k⟩:=h;have h6:=W.len;obtain ⟨aa,ea,ra⟩:=CJ h2 (w_get ha);have el:(as.map V.ref).length=w.length:=by rw[AB,AX h2]
  refine ⟨_,(AH (BF (i:=2) Ip.nd rfl (Ai rfl) (Ba A4 (by rfl) T.C7 An (AA (pv 1) AD))) (AH (BF (i:=3) Ip.nd rfl (Ai rfl) (CZ Yf (BM (AA (CZ JH (pv 2) BG) AD)) (pv 2))) (AH (Oi (pv 2) (Oh (pv 3) (pv 0) set_list)) (AH (FY Bg rfl (jD rfl T.QI (AA (BU CU (pv 1) (pv 0) (fun _ _=>rfl)) AD)) (YS rfl (G3 (Bj (i:=4) Ip.nd rfl (Ai rfl)) (G3 (Bj (i:=5) Ip.nd rfl (Ai rfl)) TY))) (AM (Oi (pv 4) (Oh (pv 3) (pv 5) set_list)))) (AM (Am (pv 3))))))),?_⟩;refine ⟨_,rfl,la,_,rfl,.inr (DR.of h1),?_⟩;rw[el];refine ⟨_,rfl,_,_,rfl,rfl,by show 1<=sizeLine;decide,fun z hz=>?_⟩;refine ⟨_,rfl,z,_,_,rfl,rfl,AK,by omega,by omega,by show 1*_<=_;exact small (by omega),fun D hD=>?_⟩;have e3:∀m:Nat,(Ac m [V.int ((w.length:Int)+1)]).flatten=nums (Ac m (w.length+1)):=by
   intro m
   induction m with
   |zero=>rfl
   |succ m ih=>rw[Cv,EM,ih];rfl
  rw[A8,e3];have sD:Aw H (upd (upd H z (.lst [V.int ((w.length:Int)+1)])) D (.lst (nums (Ac w.length (w.length+1))))):=(As hz).upd hD;refine ⟨_,rfl,_,rfl,_,rfl,D,_,_,a,rfl,rfl,AK,Ow (by rw[Bf];simpa using ha),?_⟩;rw[KA,qo];have hDn:H D=none:=(As hz).free hD;have s2:=sD.put (o:=.lst (nums ((AF w.length).map (vP w a 0)))) hDn;refine ⟨_,rfl,_,rfl,la,_,_,_,rfl,rfl,DR.of (s2 _ _ h1),DF ea,aa,_,rfl,DR.of (s2 _ _ ra),?_⟩;refine cn (K:=K) (a:=aa) (xs:=nums (wl w a)) (fun i σ H'=>Aw H H'/\(∃v4 v5,σ=[some (vN a),some (.ref la),some (vN w.length),some (.ref D),v4,v5])/\LN H' D ((AF w.length).map (vP w a i)))
   ⟨s2,⟨_,_,rfl⟩,AK⟩ (fun i σ H' _ q=>DR.of (q.1 _ _ ra)) ?_ ?_
  ·rintro i x σ H' U hi ⟨s',⟨v4,v5,rfl⟩,hD'⟩ hU;obtain ⟨y,hy,rfl⟩:=MF hi;have hyl:y<w.length:=(W.lt a y (Ar hy)).1;have nDU:D≠U:=Af hD' hU;refine ⟨U,_,rfl,DR.of AK,rfl,_,_,rfl,_,_,rfl,rfl,?_⟩;refine ⟨_,rfl,_,rfl,_,rfl,D,_,_,y,rfl,rfl,by rw[A2 nDU];exact hD',Ow (by rw[Bf];simpa using hyl),?_⟩;rw[KA,ue W hy];exact ⟨(s'.upd hU).put hDn,⟨_,_,rfl⟩,AK⟩
  ·rintro σ H' ⟨s',⟨v4,v5,rfl⟩,hD'⟩;refine ⟨_,rfl,k D H' s' hDn ?_⟩;rw[Bf]at hD';have e:(AF w.length).map (vP w a (wl w a).length)=(AF w.length).map (rk w a):=FU fun b _=>ud w a b
   rw[e]at hD';exact hD'
def UP:Sp:=fun vs H Q _=>∃(la:Addr) (w:List (List Nat)),vs=[.ref la]/\Q4 H la w/\Eg w/\uZ (Gx w) H Q
theorem UQ(T:Txt K mg t):Bv P w K mg base EE 2 t.IS t.IT MJ UP:=by
 refine T.Md.ok F5 (fun vs H Q E h=>?_) (fun cdv A outer s H vs Q E hr h=>?_)
 ·obtain ⟨la,w,rfl,_⟩:=h;rfl
 ·obtain ⟨la,w,rfl,hT,W,k⟩:=h;have h6:=W.len;refine ⟨_,(AH (BF (i:=1) F5.nd rfl (Ai rfl) (BM AD)) (AH (FY Bg rfl (EG rfl T.E4 (AA (Ba A4 (by rfl) T.C7 An (AA (pv 0) AD)) AD)) (Bj (i:=2) F5.nd rfl (Ai rfl)) (AM (FY Bg rfl (pW rfl T.E4 (AA (CZ JH (pv 2) BG) (AA (Ba A4 (by rfl) T.C7 An (AA (pv 0) AD)) AD))) (Bj (i:=3) F5.nd rfl (Ai rfl)) (AM (Cm (Ck (Aj (QJ T) (hr.mono (by decide)) rfl T.RW T.Ly.kp T.RV .nil Ay (AA (pv 0) (AA (pv 2) (AA (pv 3) AD))))) (AM (Cw (JZ BQ CO CP Gk (pv 1) (AA (IK (AA (pv 2) (AA (pv 3) AD))) AD)))) Bk))))) (AM (Am (pv 1))))),?_⟩;refine ⟨Bb _,fun D hD=>?_⟩;have s1:Aw H (upd H D (.lst [])):=As hD;obtain ⟨as,h1,h2⟩:=hT.same s1;have el:(as.map V.ref).length=w.length:=by rw[AB,AX h2]
  refine ⟨_,rfl,la,_,rfl,.inr (DR.of h1),?_⟩;rw[el];refine ⟨_,rfl,by omega,by omega,?_⟩;rw[A8];refine L9 (fun i σ H'=>Aw H H'/\(∃v2 v3,σ=[some (.ref la),some (.ref D),v2,v3])/\Jl H' D (NY w i)) ⟨s1,⟨_,_,rfl⟩,[],AK,.nil⟩ ?_ ?_
  ·rintro i σ H' hi ⟨s',⟨v2,v3,rfl⟩,hL⟩;have e0:(V.int (0+(i:Int)))=vN i:=by rw[OV]
   rw[e0];obtain ⟨as',h1',h2'⟩:=hT.same s';have el':(as'.map V.ref).length=w.length:=by rw[AB,AX h2']
   refine ⟨_,rfl,_,_,rfl,rfl,_,rfl,la,_,rfl,.inr (DR.of h1'),?_⟩;rw[el'];refine ⟨_,_,rfl,⟨by omega,by omega,by omega,by omega⟩,?_⟩;have en:((w.length:Int)-((i:Int)+1)).toNat=w.length-(i+1):=by omega
   rw[en];refine L9 (fun j σ H2=>Aw H H2/\(∃v3,σ=[some (.ref la),some (.ref D),some (vN i),v3])/\Jl H2 D (NY w i++Ku w i j)) ⟨s',⟨_,rfl⟩,by rw[show Ku w i 0=[] from rfl,B1];exact hL⟩ ?_ ?_
   ·rintro j σ H2 hj ⟨s3,⟨v3',rfl⟩,ts,hD2,rT⟩;have e1:(V.int ((i:Int)+1+(j:Int)))=vN (i+1+j):=by
     show V.int _=V.int _
     congr 1
    rw[e1];refine ⟨_,rfl,_,rfl,_,rfl,la,w,i,i+1+j,rfl,hT.same s3,hi,by omega,_,rfl,?_⟩;rw[j8,<-CY];cases hc:wd w i (i+1+j) with
    |true =>
     refine Ca ⟨_,rfl,.inl ⟨rfl,_,Bq.of hD2⟩,_,rfl,_,rfl,by show 2<=sizeLine;decide,fun U hU=>?_⟩;have nDU:D≠U:=Af hD2 hU;have hlen:ts.length<=900:=by
      rw[AX rT,Ab];have z1:=qp w i;have z2:=eG w i j;have z3:i*w.length<=6*6:=Ri (by omega) h6;omega
     refine ⟨D,_,_,rfl,rfl,by rw[A2 nDU];exact hD2,by rw[AB];exact Ci hlen (by decide),?_⟩;have hL3:IsL (upd H2 U (.tup [vN i,vN (i+1+j)])) D:=⟨_,by rw[A2 nDU];exact hD2⟩;refine ⟨(s3.upd hU).put hD,⟨_,rfl⟩,ts++[U],by rw[AK,BS];rfl,?_⟩;exact EU (Ad rT fun _ _ z=>(z.same (As hU)).put hL3) (U2.put (q:=(i,i+1+j)) AK hL3)
    |false =>
     simp only[Cf,if_false,B1];exact ⟨s3,⟨_,rfl⟩,ts,hD2,rT⟩
   ·rintro σ H2 ⟨s3,⟨v3',rfl⟩,hL2⟩;exact ⟨s3,⟨_,_,rfl⟩,by rw[j7];exact hL2⟩
  ·rintro σ H' ⟨s',⟨v2,v3,rfl⟩,hL⟩;rw[j6]at hL;exact ⟨_,rfl,k D H' s' hD hL⟩
end
open PySem PySem.Spec PyProof.Rows L2
theorem CC.trans{x:Addr}{H H1 H2:Hp}(a:CC x H H1)(b:CC x H1 H2):CC x H H2:=fun c o hc e=>b c o hc (a c o hc e)
theorem TN.sx{x C dx a:Addr}{fs:List (Str×V)}{H H':Hp}{l:List Nat}(h:TN H a l)(hx:H x=some (.ins C dx fs))(s:CC x H H'):TN H' a l:=s _ _ (CI h hx (fun z=>nomatch z)) h
theorem LN.sx{x C dx a:Addr}{fs:List (Str×V)}{H H':Hp}{l:List Nat}(h:LN H a l)(hx:H x=some (.ins C dx fs))(s:CC x H H'):LN H' a l:=s _ _ (CI h hx (fun z=>nomatch z)) h
theorem U2.sx{x C dx a:Addr}{fs:List (Str×V)}{H H':Hp}{q:Nat×Nat}(h:U2 H a q)(hx:H x=some (.ins C dx fs))(s:CC x H H'):U2 H' a q:=s _ _ (CI h hx (fun z=>nomatch z)) h
theorem Q4.sx{x C dx a:Addr}{fs:List (Str×V)}{H H':Hp}{w:List (List Nat)}(h:Q4 H a w)(hx:H x=some (.ins C dx fs))(s:CC x H H'):Q4 H' a w:=by
 obtain ⟨as,h1,h2⟩:=h;exact ⟨as,s _ _ (CI h1 hx (fun z=>nomatch z)) h1,Ad h2 fun _ _ r=>r.sx hx s⟩
theorem jE.sx{x C dx a:Addr}{fs:List (Str×V)}{H H':Hp}{w:List (List Nat)}(h:jE H a w)(hx:H x=some (.ins C dx fs))(s:CC x H H'):jE H' a w:=by
 obtain ⟨as,h1,h2⟩:=h;exact ⟨as,s _ _ (CI h1 hx (fun z=>nomatch z)) h1,Ad h2 fun _ _ r=>r.sx hx s⟩
theorem Jl.sx{x C dx a:Addr}{fs:List (Str×V)}{H H':Hp}{w:List (Nat×Nat)}(h:Jl H a w)(hx:H x=some (.ins C dx fs))(s:CC x H H'):Jl H' a w:=by
 obtain ⟨as,h1,h2⟩:=h;exact ⟨as,s _ _ (CI h1 hx (fun z=>nomatch z)) h1,Ad h2 fun _ _ r=>r.sx hx s⟩
def Apart(D:Addr)(H:Hp)(a:Addr):Prop:=∃(C dx la:Addr) (n:Nat) (ra ta:Addr) (rs:List Addr),H a=some (.ins C dx (wF la n ra ta))/\ra≠D/\ta≠D/\H ra=some (.lst (rs.map V.ref))/\∀r∈rs,r≠D
def aF(C:Addr)(w:List (List Nat))(H:Hp)(Q:VK):Prop:=∀(b:Addr) (H':Hp),Aw H H'->(∀D o,H D=some o->Apart D H' b)->B4 C H' b w->Q (.ref b) H'
theorem Ww{α β:Type}{R:α->β->Prop}{as:List α}{xs:List β}(h:Paired R as xs){p:α->Prop}(f:∀a x,R a x->p a):∀a∈as,p a:=by
 induction h with
 |nil=>intro a ha;exact nomatch ha
 |cons r _ ih =>
  intro a ha;rcases Ak.mp ha with rfl|ha
  ·exact f _ _ r
  ·exact ih a ha
section
variable {P:Program} {w:World} {K:AE} {mg:Str->Option Value} {base:Heap} {t:HU}
def kD(C:Addr):Sp:=fun vs H Q _=>∃(x dx la:Addr) (w:List (List Nat)),vs=[.ref x,.ref la]/\H x=some (.ins C dx [])/\Q4 H la w/\Eg w/\∀H':Hp,B4 C H' x w->CC x H H'->(∀D o,H D=some o->Apart D H' x)->Q .Ft H'
theorem Hu(T:Txt K mg t):Bv P w K mg base EE 3 t.Lc t.Ld RF (kD t.A7):=by
 refine T.bN.ok KD (fun vs H Q E h=>?_) (fun cdv A outer s H vs Q E hr h=>?_)
 ·obtain ⟨x,dx,la,w,rfl,_⟩:=h;rfl
 ·obtain ⟨x,dx,la,w,rfl,hx,hT,W,k⟩:=h;have h6:=W.len;refine ⟨_,(AH (Ha (pv 0) (pv 1) rfl) (AH (Ha (pv 0) (Ba A4 (by rfl) T.C7 An (AA (pv 1) AD)) rfl) (AH (Ha (pv 0) (HK rfl KD.nd (EG rfl T.E4 (AA (Ba A4 (by rfl) T.C7 An (AA (pv 1) AD)) AD)) (show EH bI (AO LW) _ [("student",2)] from CL (by decide +kernel)) (fun _ _ _ _ _=>(Bj (i:=2) KD.nd rfl (Ai rfl))) (fun _ _ _ _ _=>F4) (fun _ _ _ _ _=>(Aj (kC T) (hr.mono (by decide)) rfl T.l7 T.Zn.kp T.l6 .nil Ay (AA (pv 2) (AA (pv 1) AD))))) rfl) (AM (Ha (pv 0) (Aj (UQ T) (hr.mono (by decide)) rfl T.Vc T.Md.kp T.Vb .nil Ay (AA (pv 1) AD)) rfl))))),?_⟩;refine ⟨_,rfl,_,rfl,x,t.A7,dx,_,rfl,hx,T.BP,T.Ec,by show 0<1000;decide,?_⟩;have sx1:CC x H (upd H x (.ins t.A7 dx (B3 "lists" (.ref la) []))):=CT;have hx1:(upd H x (.ins t.A7 dx (B3 "lists" (.ref la) []))) x=some (.ins t.A7 dx (B3 "lists" (.ref la) [])):=AK;have hT1:=hT.sx hx sx1;revert sx1 hx1 hT1;generalize upd H x (.ins t.A7 dx (B3 "lists" (.ref la) []))=H1;intro sx1 hx1 hT1;obtain ⟨as,h1,h2⟩:=id hT1;have el:(as.map V.ref).length=w.length:=by rw[AB,AX h2]
  refine ⟨_,rfl,la,_,rfl,.inr (DR.of h1),?_⟩;rw[el];refine ⟨_,rfl,x,t.A7,dx,_,rfl,hx1,T.BP,T.Bh,?_,?_⟩
  ·have:=D9 "lists" (.ref la) []
   simp only[DJ]at this;omega
  have sx2:CC x H1 (upd H1 x (.ins t.A7 dx (B3 "number" (vN w.length) (B3 "lists" (.ref la) [])))):=CT;have hx2:(upd H1 x (.ins t.A7 dx (B3 "number" (vN w.length) (B3 "lists" (.ref la) [])))) x=some (.ins t.A7 dx (B3 "number" (vN w.length) (B3 "lists" (.ref la) []))):=AK;have hT2:=hT1.sx hx1 sx2;revert sx2 hx2 hT2;generalize upd H1 x (.ins t.A7 dx (B3 "number" (vN w.length) (B3 "lists" (.ref la) [])))=H2;intro sx2 hx2 hT2;obtain ⟨as2,h12,h22⟩:=id hT2;have el2:(as2.map V.ref).length=w.length:=by rw[AB,AX h22]
  refine ⟨_,rfl,la,_,rfl,.inr (DR.of h12),?_⟩;rw[el2];refine ⟨_,rfl,by omega,by omega,fun D hD=>?_⟩;rw[A8];refine Fs (fun _=>true) (fun i y H'=>∃b,y=V.ref b/\b≠D/\H2 b=none/\LN H' b ((AF w.length).map (rk w i))) (fun q y H1 H2 ⟨b,e1,e2,e4,e3⟩ sx=>⟨b,e1,e2,e4,sx b _ e2 e3⟩) (by omega) hD (fun _=>rfl) ?_ ?_ ?_
  ·intro i H' Q' hi s' _ kk;exact kk H' (Aw.refl H')
  ·intro i H' Q' hi _ s' hIL kk;refine ⟨_,rfl,_,rfl,i,la,w,rfl,hT2.same s',W,hi,fun b H3 s3 hb hL=>?_⟩;obtain ⟨zs,hz⟩:=hIL;exact kk _ H3 s3 ⟨b,rfl,fun e=>(by rw[e,hz]at hb;cases hb),s'.free hb,hL⟩
  ·intro H3 ys s3 hy r;obtain ⟨rs,e,r2'⟩:=EC (Ad r fun y q ⟨b,e1,_,e4,e3⟩=>⟨b,e1,(⟨e3,e4⟩:LN H3 b ((AF w.length).map (rk w q))/\H2 b=none)⟩);rw[BZ.mpr (fun _ _=>rfl)]at r2';have hfr:∀r∈rs,H2 r=none:=Ww r2' fun _ _ z=>z.2
   have r2:=Ad r2' fun _ _ z=>z.1
   have hR3:jE H3 D (rkM w):=by
    refine ⟨rs,by rw[hy,e],?_⟩;unfold rkM;have go:∀(as:List Addr) (l:List Nat),Paired (fun a i=>LN H3 a ((AF w.length).map (rk w i))) as l->Paired (LN H3) as (l.map fun a=>(AF w.length).map (rk w a)):=by
     intro as l hp
     induction hp with
     |nil=>exact .nil
     |cons r _ ih=>exact .cons r ih
    exact go _ _ r2
   have hx3:=s3 _ _ hx2;have hT3:=hT2.same s3;refine ⟨_,rfl,x,t.A7,dx,_,rfl,hx3,T.BP,T.FN,?_,?_⟩
   ·have e1:=D9 "lists" (.ref la) [];have e2:=D9 "number" (vN w.length) (B3 "lists" (.ref la) []);simp only[DJ]at e1;omega
   have sx4:CC x H3 (upd H3 x (.ins t.A7 dx (B3 "ranks" (.ref D) (B3 "number" (vN w.length) (B3 "lists" (.ref la) []))))):=CT;have hx4:(upd H3 x (.ins t.A7 dx (B3 "ranks" (.ref D) (B3 "number" (vN w.length) (B3 "lists" (.ref la) []))))) x=some (.ins t.A7 dx (B3 "ranks" (.ref D) (B3 "number" (vN w.length) (B3 "lists" (.ref la) [])))):=AK;have hT4:=hT3.sx hx3 sx4;have hR4:=hR3.sx hx3 sx4;revert sx4 hx4 hT4 hR4;generalize upd H3 x (.ins t.A7 dx (B3 "ranks" (.ref D) (B3 "number" (vN w.length) (B3 "lists" (.ref la) []))))=H4;intro sx4 hx4 hT4 hR4;refine ⟨_,rfl,la,w,rfl,hT4,W,fun ta H5 s5 fta hW5=>?_⟩;have hx5:=s5 _ _ hx4;refine ⟨_,rfl,x,t.A7,dx,_,rfl,hx5,T.BP,T.G7,?_,?_⟩
   ·have e1:=D9 "lists" (.ref la) [];have e2:=D9 "number" (vN w.length) (B3 "lists" (.ref la) []);have e3:=D9 "ranks" (.ref D) (B3 "number" (vN w.length) (B3 "lists" (.ref la) []));simp only[DJ]at e1;omega
   have sx6:CC x H5 (upd H5 x (.ins t.A7 dx (wF la w.length D ta))):=CT;refine k _ ⟨dx,la,D,ta,AK,(hT4.same s5).sx hx5 sx6,(hR4.same s5).sx hx5 sx6,hW5.sx hx5 sx6⟩ ?_ ?_
   ·exact ((((sx1.trans sx2).trans s3.x).trans sx4).trans s5.x).trans sx6
   ·intro D' o' hD';have i2:∃o,H2 D'=some o:=by
     by_cases e:D'=x
     ·rw[e];exact ⟨_,hx2⟩
     ·exact ⟨_,sx2 _ _ e (sx1 _ _ e hD')⟩
    have i4:∃o,H4 D'=some o:=by
     by_cases e:D'=x
     ·rw[e];exact ⟨_,hx4⟩
     ·exact ⟨_,sx4 _ _ e (s3 _ _ i2.choose_spec)⟩
    have hDx:D≠x:=fun e'=>by rw[e',hx2]at hD;cases hD
    refine ⟨_,dx,la,_,D,ta,rs,AK,fun e'=>?_,fun e'=>?_,sx6 _ _ hDx (s5 _ _ (sx4 _ _ hDx (by rw[hy,e]))),fun r hr e'=>?_⟩
    ·rw[e']at hD;rw[i2.choose_spec]at hD;cases hD
    ·rw[e']at fta;rw[i4.choose_spec]at fta;cases fta
    ·have:=hfr r hr
     rw[e',i2.choose_spec]at this;cases this
theorem gY{C la:Addr}{H:Hp}{Q:VK}{w:List (List Nat)}(hT:Q4 H la w)(W:Eg w)(k:aF C w H Q):∀x dx,H x=none->H dx=none->dx≠x ->
  kD C [.ref x,.ref la] (upd (upd H dx (.own x)) x (.ins C dx [])) (fun v H2=>v=.Ft/\Q (.ref x) H2) E0:=by
 intro x dx nx ndx ne;have s1:Aw H (upd (upd H dx (.own x)) x (.ins C dx [])):=fun b o e=>by
  rw[A2 (Af e nx),A2 (Af e ndx)];exact e
 refine ⟨x,dx,la,w,rfl,AK,hT.same s1,W,fun H' hW sx ap=>⟨rfl,k x H' (fun b o e=>sx b o (Af e nx) (s1 b o e)) (fun D o e=>ap D o (s1 _ _ e)) hW⟩⟩
def gZ(C:Addr):Sp:=fun vs H Q _=>∃n:Nat,vs=[vN n]/\n<=6/\aF C (Ac n []) H Q
theorem gc(T:Txt K mg t):Bv P w K mg base EE 5 t.PU t.PV WG (gZ t.A7):=by
 refine T.Wf.ok f9 (fun vs H Q E h=>?_) (fun cdv A outer s H vs Q E hr h=>?_)
 ·obtain ⟨n,rfl,_⟩:=h;rfl
 ·obtain ⟨n,rfl,hn,k⟩:=h;refine ⟨_,(AM (Am (Xj T.Qr (Hu T) (hr.mono (by decide)) rfl T.UM T.Ie .nil Ay (AA (CZ w6 (IK (AA (IK AD) AD)) (pv 0)) AD)))),?_⟩;refine ⟨Bb _,fun e he=>⟨by show 1<=sizeLine;decide,fun u hu=>?_⟩⟩;refine ⟨_,rfl,u,_,_,rfl,rfl,AK,by simp,by omega,by omega,by show 1*_<=_;exact small (by omega),fun p H1 s1 hp=>?_⟩;have sE:Aw H H1:=((As he).upd hu).trans s1;have hE:TN H1 e []:=s1 _ _ (by rw[A2 (Af (AK (H:=H) (o:=.tup [])) hu)];exact AK);have hT:Q4 H1 p (Ac n []):=by
   refine ⟨Ac n e,?_,?_⟩
   ·rw[hp]
    congr 2
    rw[A8];clear hp s1 hn k
    induction n with
    |zero=>rfl
    |succ n ih=>rw[Cv,EM,ih];rfl
   ·clear hp s1 hn k
    induction n with
    |zero=>exact .nil
    |succ n ih=>exact .cons hE ih
  exact gY hT (iO hn) fun b H' s2 ap hW=>k b H' (sE.trans s2) (fun D o e=>ap D o (sE _ _ e)) hW
def mO:Sp:=fun vs H Q _=>∃(a:Addr) (l:List Nat) (s:Nat),vs=[.ref a,vN s]/\TN H a l/\l.length<=6/\QK (l.filter fun b=>b != s) H Q
theorem mP(T:Txt K mg t):Bv P w K mg base EE 1 t.VD t.VE cq mO:=by
 refine T.dh.ok Rr (fun vs H Q E h=>?_) (fun cdv A outer s H vs Q E hr h=>?_)
 ·obtain ⟨a,l,s,rfl,_⟩:=h;rfl
 ·obtain ⟨a,l,s,rfl,ha,h6,k⟩:=h;refine ⟨_,(AM (Am (DZ Dz (by rfl) T.Ih HD (AA (HK rfl Rr.nd (YV (pv 0)) (show EH qD (AO U6) _ [("other",2)] from CL (by decide +kernel)) (fun _ _ _ _ _=>(Bj (i:=2) Rr.nd rfl (Ai rfl))) (fun _ _ _ _ _=>(FZ (Cy tP (pv 2) (pv 1) (C6 _)))) (fun _ _ _ _ _=>(pv 2))) AD)))),?_⟩;refine ⟨_,rfl,a,rfl,⟨_,DR.of ha⟩,fun D hD=>?_⟩;have hz:Paired (fun x z=>x=vN z) (nums l) l:=by
   clear ha h6 k
   induction l with
   |nil=>exact .nil
   |cons a l ih=>exact .cons rfl ih
  refine Tq (zs:=l) (fun x z=>x=vN z) (fun b=>b != s) (fun z y _=>y=vN z) hz (fun _ _ _ _ h _=>h) (by omega) hD ha (fun _=>rfl) ?_ ?_ ?_
  ·rintro x z H' Q' hm rfl s' _ kk;refine ⟨_,rfl,_,rfl,rfl,_,rfl,?_⟩;have e:(!decide (vN z=vN s))=(z != s):=by
    rw[Gy]
    by_cases e:z=s
    ·subst e;simp
    ·simp[e]
   rw[e];exact kk H' (Aw.refl H')
  ·rintro x z H' Q' hm rfl hf s' _ kk;exact ⟨_,rfl,kk _ H' (Aw.refl H') rfl⟩
  ·intro H' ys s' hy r;have e:=EI (f:=fun i=>i) r;rw[EY]at e;refine ⟨D,_,rfl,.inl ⟨Bq.of hy,fun q hq=>?_⟩⟩;refine k q _ (s'.upd hq) ?_;show upd _ q _ q=_;rw[AK,e]
def mQ:Sp:=fun vs H Q _=>∃(a:Addr) (l:List Nat) (n o:Nat),vs=[.ref a,vN n,vN o]/\LN H a l/\l.length<=6/\Ks (.bl (decide (Dq n o l))) H Q
theorem aG(T:Txt K mg t):Bv P w K mg base EE 1 t.VF t.VG cx mQ:=by
 refine T.Vd.ok Y0 (fun vs H Q E h=>?_) (fun cdv A outer s H vs Q E hr h=>?_)
 ·obtain ⟨a,l,n,o,rfl,_⟩:=h;rfl
 ·obtain ⟨a,l,n,o,rfl,ha,h6,k⟩:=h;refine ⟨_,(AH (FY Bg rfl (DO (pv 0)) (Bj (i:=3) Y0.nd rfl (Ai rfl)) (AM (Cm (PW.pt (cS (Cy nq (pv 3) (pv 1) (C6 _)) (Us (Cy K8 (pv 3) (pv 2) (C6 _))))) (AM (Am Og)) Bk))) (AM (Am (HZ K8 (Ba call_len_set (by rfl) T.C7 An (AA (DZ (bF rfl) (by rfl) T.ABe (by decide +kernel) (AA (pv 0) AD)) AD)) (Ba A4 (by rfl) T.C7 An (AA (pv 0) AD)) (C6 _))))),?_⟩;refine ⟨_,rfl,a,rfl,⟨_,Bq.of ha⟩,?_⟩;refine G4 (K:=K) (a:=a) (xs:=nums l) (fun i σ H'=>H'=H/\(∃v,σ=[some (.ref a),some (vN n),some (vN o),v])/\∀b∈l.take i,b<n/\b≠o) ⟨rfl,⟨_,rfl⟩,fun b hb=>by rw[xm]at hb;exact nomatch hb⟩ (fun i σ H' _ p=>by rw[p.1];exact Bq.of ha) ?_ ?_
  ·rintro i x σ H' hi ⟨rfl,⟨v,rfl⟩,C2⟩;obtain ⟨y,hy,rfl⟩:=MF hi;have hm:=Ar hy;have bad:¬(y<n/\y≠o)->Dq n o l->False:=fun h1 h2=>h1 (h2.2 y hm)
   refine ⟨_,rfl,_,rfl,_,_,rfl,rfl,_,rfl,?_⟩;rw[f6]
   by_cases c1:n<=y
   ·rw[decide_eq_true c1];refine Ca (Ca ?_);have e:decide (Dq n o l)=false:=decide_eq_false (bad (by omega));rw[e]at k;exact k H' (Aw.refl H')
   ·rw[decide_eq_false c1];refine Cz ⟨_,rfl,_,rfl,rfl,_,rfl,?_⟩;rw[Gy]
    by_cases c2:y=o
    ·rw[decide_eq_true c2];refine Ca ?_;have e:decide (Dq n o l)=false:=decide_eq_false (bad (by omega));rw[e]at k;exact k H' (Aw.refl H')
    ·rw[decide_eq_false c2];refine Cz ⟨rfl,⟨_,rfl⟩,fun b hb=>?_⟩;rw[take_snoc hy]at hb;rcases BN.mp hb with hb|hb
     ·exact C2 b hb
     ·rw[A3.mp hb];omega
  ·rintro σ H' ⟨rfl,⟨v,rfl⟩,C2⟩;rw[Bf,B9]at C2;have en:nums l=(l.map fun (n:Nat)=>(n:Int)).map V.int:=by unfold nums;rw[Dd];rfl
   refine ⟨_,rfl,a,l.map fun (n:Nat)=>(n:Int),rfl,by rw[<-en];exact Bq.of ha,by rw[AB];omega,fun u hu=>?_⟩;have hle:(J9 (l.map fun (n:Nat)=>(n:Int))).length<=1000:=AY (firstMet_length_le _ _) (by rw[AB];omega);have ha2:LN (upd H' u (.set (fun k=>(J9 (l.map fun (n:Nat)=>(n:Int))).any (·==k)) (J9 (l.map fun (n:Nat)=>(n:Int))).length)) a l:=ha.same (As hu);refine ⟨u,_,_,rfl,AK,hle,?_⟩;refine ⟨_,rfl,a,_,rfl,.inl (Bq.of ha2),rfl,?_⟩;have e:decide (V.int ((J9 (l.map fun (n:Nat)=>(n:Int))).length:Int)=V.int ((nums l).length:Int))=decide (Dq n o l):=by
    rw[Bf];show decide (vN _=vN _)=_;rw[Gy]
    by_cases c:l.Nodup
    ·rw[decide_eq_true ((aE l).mpr c),decide_eq_true (show Dq n o l from ⟨c,C2⟩)]
    ·rw[decide_eq_false (fun z=>c ((aE l).mp z)),decide_eq_false (fun z:Dq n o l=>c z.1)]
   rw[e];exact k _ (As hu)
end
open PySem PySem.Spec PyProof.Rows L2
theorem ug{xs:List V}{n:Nat}:N8 xs none (some (n:Int))=xs.take n:=by
 unfold N8;rw[HT.i3,HT.fY,xl,ko,kx];omega
theorem qr(l:List Nat)(n:Nat):(nums l).take n=nums (l.take n):=by
 unfold nums;rw[JB]
theorem LN.put{H:Hp}{a D:Addr}{l:List Nat}{o:HO}(h:LN H a l)(hD:a≠D):LN (upd H D o) a l:=by
 unfold LN;rw[A2 hD];exact h
section
variable {P:Program} {w:World} {K:AE} {mg:Str->Option Value} {base:Heap} {t:HU}
def gf(C:Addr):Sp:=fun vs H Q _=>∃(wa la:Addr) (w:List (List Nat)) (a:Nat) (l:List Nat),vs=[.ref wa,vN a,.ref la]/\B4 C H wa w/\Eg w/\a<w.length/\LN H la l/\Dq w.length a l/\aF C (w.set a l) H Q
theorem Q5(T:Txt K mg t):Bv P w K mg base EE 5 t.HF t.HG KH (gf t.A7):=by
 refine T.SO.ok Ja (fun vs H Q E h=>?_) (fun cdv A outer s H vs Q E hr h=>?_)
 ·obtain ⟨wa,la,w,a,l,rfl,_⟩:=h;rfl
 ·obtain ⟨wa,la,w,a,l,rfl,⟨dx,lsa,ra,ta,h1,⟨as,h2,h3⟩,h4⟩,W,ha,hl,ok,k⟩:=h;have el:as.length=w.length:=AX h3;refine ⟨_,(AH (BF (i:=3) Ja.nd rfl (Ai rfl) (DZ Jj (by rfl) T.Z9 eg (AA (Ao (pv 0) rfl) AD))) (AH (Oi (DZ Dz (by rfl) T.Ih HD (AA (pv 2) AD)) (Oh (pv 3) (pv 1) set_list)) (AM (Am (Xj T.Qr (Hu T) (hr.mono (by decide)) rfl T.UM T.Ie .nil Ay (AA (DZ Dz (by rfl) T.Ih HD (AA (pv 3) AD)) AD)))))),?_⟩;refine ⟨_,rfl,wa,_,_,_,_,rfl,h1,T.BP,T.Ec,MG _ _ _ _,lsa,_,rfl,.inr (DR.of h2),fun D hD=>?_⟩;have s1:Aw H (upd H D (.lst (as.map V.ref))):=As hD;refine ⟨_,rfl,la,_,rfl,.inl ⟨Bq.of (hl.same s1),fun u hu=>?_⟩⟩;have nDu:D≠u:=Af (AK (H:=H)) hu;refine ⟨_,rfl,_,rfl,D,_,_,a,rfl,rfl,by rw[A2 nDu];exact AK,Ow (by rw[AB,el];exact ha),?_⟩;have s2:Aw H (upd (upd (upd H D (.lst (as.map V.ref))) u (.tup (nums l))) D (.lst ((as.map V.ref).set a (V.ref u)))):=(s1.upd hu).put hD;refine ⟨_,rfl,D,_,rfl,.inl ⟨Bq.of AK,fun v hv=>?_⟩⟩;have s3:=s2.upd (o:=.tup ((as.map V.ref).set a (V.ref u))) hv;have hu3:TN (upd (upd (upd (upd H D (.lst (as.map V.ref))) u (.tup (nums l))) D (.lst ((as.map V.ref).set a (V.ref u)))) v (.tup ((as.map V.ref).set a (V.ref u)))) u l:=by
   unfold TN;have e1:(upd (upd (upd H D (.lst (as.map V.ref))) u (.tup (nums l))) D (.lst ((as.map V.ref).set a (V.ref u)))) u=some (.tup (nums l)):=by rw[A2 (Cr nDu),AK]
   rw[A2 (Af e1 hv)];exact e1
  have hT:Q4 (upd (upd (upd (upd H D (.lst (as.map V.ref))) u (.tup (nums l))) D (.lst ((as.map V.ref).set a (V.ref u)))) v (.tup ((as.map V.ref).set a (V.ref u)))) v (w.set a l) :=
   ⟨as.set a u,by rw[AK,AAM],Yv hu3 a (Ad h3 fun _ _ z=>z.same s3)⟩
  exact gY hT (X5 W ha ok) fun b H' s4 ap hW=>k b H' ((s3).trans s4) (fun D o e=>ap D o ((s3) _ _ e)) hW
def Vo(C:Addr):Sp:=fun vs H Q _=>∃(wa la:Addr) (w:List (List Nat)) (l:List Nat),vs=[.ref wa,.ref la]/\B4 C H wa w/\Eg w/\w.length<6/\LN H la l/\Dq w.length w.length l/\aF C (nP w l) H Q
theorem Mi(T:Txt K mg t):Bv P w K mg base EE 5 t.Fd t.Fe Hd (Vo t.A7):=by
 refine T.NP.ok FL (fun vs H Q E h=>?_) (fun cdv A outer s H vs Q E hr h=>?_)
 ·obtain ⟨wa,la,w,l,rfl,_⟩:=h;rfl
 ·obtain ⟨wa,la,w,l,rfl,hw,W,h6,hl,ok,k⟩:=h;obtain ⟨dx,lsa,ra,ta,h1,⟨as,h2,h3⟩,h4⟩:=id hw;refine ⟨_,(AH (Hb (i:=2) rfl FL.nd rfl rfl (Jk rfl rfl rfl rfl) (YV (Ao (pv 0) rfl)) (show EH NA (AO Fb) _ [("others",3)] from CL (by decide +kernel)) (fun _ _ _ _ _=>(Bj (i:=3) FL.nd rfl (Ai rfl))) (fun _ _ _ _ _=>F4) (fun _ _ _ _ _=>(CZ Yr (pv 3) (IK (AA (oE K rfl (pv 0) rfl) AD))))) (AH (Cw (JZ BQ CO CP Gk (pv 2) (AA (DZ Dz (by rfl) T.Ih HD (AA (pv 1) AD)) AD))) (AM (Am (Xj T.Qr (Hu T) (hr.mono (by decide)) rfl T.UM T.Ie .nil Ay (AA (DZ Dz (by rfl) T.Ih HD (AA (pv 2) AD)) AD)))))),?_⟩;refine ⟨_,rfl,wa,_,_,_,_,rfl,h1,T.BP,T.Ec,MG _ _ _ _,lsa,rfl,⟨_,DR.of h2⟩,fun D hD=>?_⟩;refine Tq (zs:=w) (fun x v=>∃b,x=V.ref b/\TN H b v) (fun _=>true) (fun v y H'=>∃b,y=V.ref b/\b≠D/\TN H' b (v++[w.length])) (Di h3)
   (fun q y H1 H2 ⟨b,e1,e2,e3⟩ sx=>⟨b,e1,e2,sx b _ e2 e3⟩) (by omega) hD h2 (fun _=>rfl) ?_ ?_ ?_
  ·intro x z H' Q' _ _ s' _ kk;exact kk H' (Aw.refl H')
  ·rintro x v H' Q' hv ⟨b,rfl,hb⟩ _ s' hIL kk;obtain ⟨dx',lsa',ra',ta',h1',_⟩:=hw.same s';have hlen:v.length<=6:=by
    obtain ⟨i,hi⟩:=FG hv;have e:wl w i=v:=by
     unfold wl;rw[AQ,hi,IX]
    have:=eh W i
    rw[e]at this;omega
   refine ⟨_,rfl,_,rfl,wa,_,_,_,_,rfl,h1',T.BP,T.Bh,Co _ _ _ _,by show 1<=sizeLine;decide,fun u hu=>?_⟩;refine ⟨b,u,_,_,rfl,rfl,(hb.same s').same (As hu),AK,?_,fun p H3 s3 hp=>?_⟩
   ·rw[Bf];exact small (by show _+1<=_;omega)
   ·have hp':TN H3 p (v++[w.length]):=by
     unfold TN;rw[hp];exact congrArg (fun z=>some (HO.tup z)) (Qi v w.length)
    exact kk _ H3 ((As hu).trans s3) ⟨p,rfl,(hIL.same ((As hu).trans s3)).Gz hp',hp'⟩
  ·intro H1 ys s1 hy r;obtain ⟨bs,e,r2⟩:=EC (Ad r fun y q ⟨b,e1,_,e3⟩=>⟨b,e1,e3⟩);rw[BZ.mpr (fun _ _=>rfl)]at r2;rw[e]at hy;have lb:bs.length=w.length:=AX r2;refine ⟨_,rfl,.inl ⟨rfl,_,Bq.of hy⟩,_,rfl,la,_,rfl,.inl ⟨Bq.of (hl.same s1),fun u hu=>?_⟩⟩;have nDu:D≠u:=Af hy hu;refine ⟨D,_,_,rfl,rfl,by rw[A2 nDu];exact hy,by rw[AB];exact Ci (show bs.length<=6 by omega) (by decide),?_⟩;have hIL:IsL (upd H1 u (.tup (nums l))) D:=⟨_,by rw[A2 nDu];exact hy⟩;have s2:Aw H (upd (upd H1 u (.tup (nums l))) D (.lst (bs.map V.ref++[V.ref u]))):=(s1.upd hu).put hD;have hu2:TN (upd (upd H1 u (.tup (nums l))) D (.lst (bs.map V.ref++[V.ref u]))) u l:=TN.put (AK) hIL;have r3:Paired (TN (upd (upd H1 u (.tup (nums l))) D (.lst (bs.map V.ref++[V.ref u])))) bs (w.map fun v=>v++[w.length]):=by
    have go:∀(as:List Addr) (m:List (List Nat)),Paired (fun b v=>TN H1 b (v++[w.length])) as m->Paired (TN (upd (upd H1 u (.tup (nums l))) D (.lst (bs.map V.ref++[V.ref u])))) as (m.map fun v=>v++[w.length]):=by
     intro as m hp
     induction hp with
     |nil=>exact .nil
     |cons r _ ih=>exact .cons (TN.put (TN.same r (As hu)) hIL) ih
    exact go _ _ r2
   refine ⟨_,rfl,D,_,rfl,.inl ⟨Bq.of AK,fun v hv=>?_⟩⟩;have s3:=s2.upd (o:=.tup (bs.map V.ref++[V.ref u])) hv;have hT:Q4 (upd (upd (upd H1 u (.tup (nums l))) D (.lst (bs.map V.ref++[V.ref u]))) v (.tup (bs.map V.ref++[V.ref u]))) v (nP w l) :=
    ⟨bs++[u],by rw[AK,BS];rfl,EU (Ad r3 fun _ _ z=>z.same (As hv)) (hu2.same (As hv))⟩
   exact gY hT (AAx W h6 ok) fun b H' s4 ap hW=>k b H' ((s3).trans s4) (fun D o e=>ap D o ((s3) _ _ e)) hW
def XS(C:Addr):Sp:=fun vs H Q _=>∃(wa:Addr) (w:List (List Nat)),vs=[.ref wa]/\B4 C H wa w/\Eg w/\0<w.length/\aF C (Sx w) H Q
theorem NZ(T:Txt K mg t):Bv P w K mg base EE 5 t.Fy t.Fz ID (XS t.A7):=by
 refine T.OC.ok ER (fun vs H Q E h=>?_) (fun cdv A outer s H vs Q E hr h=>?_)
 ·obtain ⟨wa,w,rfl,_⟩:=h;rfl
 ·obtain ⟨wa,w,rfl,hw,W,h0,k⟩:=h;obtain ⟨dx,lsa,ra,ta,h1,⟨as,h2,h3⟩,h4⟩:=id hw;have h6:=W.len;refine ⟨_,(AH (BF (i:=1) ER.nd rfl (HI rfl) (CZ J6 (Ao (pv 0) rfl) BG)) (AM (Am (Xj T.Qr (Hu T) (hr.mono (by decide)) rfl T.UM T.Ie .nil Ay (AA (DZ Dz (by rfl) T.Ih HD (AA (HK rfl ER.nd (YV (J7 oC (Ao (pv 0) rfl) Td (Ji (pv 1)))) (show EH OA (AO Fu) _ [("others",2)] from CL (by decide +kernel)) (fun _ _ _ _ _=>(Bj (i:=2) ER.nd rfl (Ai rfl))) (fun _ _ _ _ _=>F4) (fun _ _ _ _ _=>(Aj (mP T) (hr.mono (by decide)) rfl T.qK T.dh.kp T.qJ .nil Ay (AA (pv 2) (AA (pv 1) AD))))) AD)) AD))))),?_⟩;refine ⟨_,rfl,wa,_,_,_,_,rfl,h1,T.BP,T.Bh,Co _ _ _ _,_,_,rfl,rfl,?_⟩;have e1:(V.int ((w.length:Int)-1))=vN (w.length-1):=by
   show V.int _=V.int _
   congr 1
   omega
  dsimp only;rw[e1];refine ⟨_,rfl,wa,_,_,_,_,rfl,h1,T.BP,T.Ec,MG _ _ _ _,_,rfl,_,rfl,lsa,_,rfl,h2,fun c H1 s1 hc=>?_⟩;rw[ug,<-JB]at hc;refine ⟨c,rfl,⟨_,DR.of hc⟩,fun D hD=>?_⟩;have h3':=WD (w.length-1) h3;refine Tq (zs:=w.take (w.length-1)) (fun x v=>∃b,x=V.ref b/\TN H b v) (fun _=>true) (fun v y H'=>∃b,y=V.ref b/\b≠D/\TN H' b (v.filter fun b=>b != w.length-1)) (Di h3')
   (fun q y H1 H2 ⟨b,e1,e2,e3⟩ sx=>⟨b,e1,e2,sx b _ e2 e3⟩) (by rw[B0];omega) hD hc (fun _=>rfl) ?_ ?_ ?_
  ·intro x z H' Q' _ _ s' _ kk;exact kk H' (Aw.refl H')
  ·rintro x v H' Q' hv ⟨b,rfl,hb⟩ _ s' hIL kk;have hv:=JV hv;have hlen:v.length<=6:=by
    obtain ⟨i,hi⟩:=FG hv;have e:wl w i=v:=by
     unfold wl;rw[AQ,hi,IX]
    have:=eh W i
    rw[e]at this;omega
   refine ⟨_,rfl,_,rfl,b,v,w.length-1,rfl,(hb.same s1).same s',hlen,fun p H3 s3 hp=>?_⟩;exact kk _ H3 s3 ⟨p,rfl,(hIL.same s3).Gz hp,hp⟩
  ·intro H2 ys s2 hy r;obtain ⟨bs,e,r2⟩:=EC (Ad r fun y q ⟨b,e1,_,e3⟩=>⟨b,e1,e3⟩);rw[BZ.mpr (fun _ _=>rfl)]at r2;rw[e]at hy;refine ⟨D,_,rfl,.inl ⟨Bq.of hy,fun v hv=>?_⟩⟩;have hT:Q4 (upd H2 v (.tup (bs.map V.ref))) v (Sx w):=by
    refine ⟨bs,AK,?_⟩;unfold Sx;rw[List.dropLast_eq_take];have go:∀(as:List Addr) (m:List (List Nat)),Paired (fun b v=>TN H2 b (v.filter fun b=>b != w.length-1)) as m->Paired (TN (upd H2 v (.tup (bs.map V.ref)))) as (m.map fun v=>v.filter fun b=>b != w.length-1):=by
     intro as m hp
     induction hp with
     |nil=>exact .nil
     |cons r _ ih=>exact .cons (TN.same r (As hv)) ih
    exact go _ _ r2
   exact gY hT (xp W) fun b H' s4 ap hW=>k b H' ((((s1.trans s2).upd hv)).trans s4) (fun D o e=>ap D o ((((s1.trans s2).upd hv)) _ _ e)) hW
end
open PySem PySem.Spec PyProof.Rows L2
def keyOf(p:List Nat):List Key:=p.map fun (n:Nat)=>Sh (n:Int)
theorem kE(p:List Nat):(keyOf p).map kV=nums p:=by
 unfold keyOf nums;rw[Dd];rfl
theorem eJ:∀{p q:List Nat},keyOf p=keyOf q->p=q
 |[],[],_=>rfl
 |[],_::_,h=>by simp[keyOf]at h
 |_::_,[],h=>by simp[keyOf]at h
 |a::p,b::q,h=>by
  unfold keyOf at h;rw[Az,Az,m9]at h;have e1:(a:Int)=(b:Int):=iB h.1;rw[eJ (p:=p) (q:=q) h.2,show a=b by omega]
def Mj(seen:List (List Nat)):List (List Key×V):=seen.map fun p=>(keyOf p,V.bl true)
theorem oR(seen:List (List Nat))(p:List Nat):(Ux (Mj seen) (keyOf p)).isSome=seen.contains p:=by
 rw[<-Th];unfold Mj;rw[kj];cases h:seen.contains p with
 |true=>exact D4.mpr ⟨p,AN.mp h,by simp⟩
 |false =>
  cases z:seen.any ((fun kv=>decide (kv.1=keyOf p)) ∘ fun p=>(keyOf p,V.bl true)) with
  |false=>rfl
  |true =>
   obtain ⟨q,hq,e⟩:=D4.mp z;have e:q=p:=eJ (of_decide_eq_true e);rw[e]at hq;rw[AN.mpr hq]at h;cases h
theorem xK(seen:List (List Nat)){p:List Nat}(h:seen.contains p=false):putK (Mj seen) (keyOf p) (V.bl true)=Mj (seen++[p]):=by
 rw[tj]
 ·unfold Mj;rw[BS];rfl
 ·have:=oR seen p
  rw[h]at this;exact Option.isSome_eq_false_iff.mp this |> Option.isNone_iff_eq_none.mp
def vQ(H:Hp)(b:Addr)(x:List Nat×List (Nat×Nat)):Prop:=∃pa va:Addr,H b=some (.tup [.ref pa,.ref va])/\TN H pa x.1/\Jl H va x.2
def qu(H:Hp)(a:Addr)(l:Lv):Prop:=∃as:List Addr,H a=some (.lst (as.map V.ref))/\Paired (vQ H) as l
theorem vQ.same{H H':Hp}{b:Addr}{x:List Nat×List (Nat×Nat)}(h:vQ H b x)(s:Aw H H'):vQ H' b x:=by
 obtain ⟨pa,va,h1,h2,h3⟩:=h;exact ⟨pa,va,s _ _ h1,h2.same s,h3.same s⟩
theorem qu.same{H H':Hp}{a:Addr}{l:Lv}(h:qu H a l)(s:Aw H H'):qu H' a l:=by
 obtain ⟨as,h1,h2⟩:=h;exact ⟨as,s _ _ h1,Ad h2 fun _ _ r=>r.same s⟩
def wt(H:Hp)(x:Addr):Prop:=∃kvs,H x=some (.dT kvs)
theorem TN.dx{x a:Addr}{H H':Hp}{l:List Nat}(h:TN H a l)(hx:SH.wt H x)(s:CC x H H'):TN H' a l:=let ⟨_,e⟩:=hx;s _ _ (CI h e (fun z=>nomatch z)) h
theorem U2.dx{x a:Addr}{H H':Hp}{q:Nat×Nat}(h:U2 H a q)(hx:SH.wt H x)(s:CC x H H'):U2 H' a q:=let ⟨_,e⟩:=hx;s _ _ (CI h e (fun z=>nomatch z)) h
theorem Jl.dx{x a:Addr}{H H':Hp}{w:List (Nat×Nat)}(h:Jl H a w)(hx:SH.wt H x)(s:CC x H H'):Jl H' a w:=by
 obtain ⟨as,h1,h2⟩:=h;obtain ⟨_,e⟩:=id hx;exact ⟨as,s _ _ (CI h1 e (fun z=>nomatch z)) h1,Ad h2 fun _ _ r=>r.dx hx s⟩
theorem vQ.dx{x b:Addr}{H H':Hp}{y:List Nat×List (Nat×Nat)}(h:vQ H b y)(hx:SH.wt H x)(s:CC x H H'):vQ H' b y:=by
 obtain ⟨pa,va,h1,h2,h3⟩:=h;obtain ⟨_,e⟩:=id hx;exact ⟨pa,va,s _ _ (CI h1 e (fun z=>nomatch z)) h1,h2.dx hx s,h3.dx hx s⟩
theorem vQ.put{D b:Addr}{H:Hp}{o:HO}{x:List Nat×List (Nat×Nat)}{zs:List V}(h:∃pa va:Addr,va≠D/\H b=some (.tup [.ref pa,.ref va])/\TN H pa x.1/\Jl H va x.2)(hD:H D=some (.lst zs)):vQ (upd H D o) b x:=by
 obtain ⟨pa,va,hne,h1,h2,as,h3,h4⟩:=h;have hIL:IsL H D:=⟨_,hD⟩;refine ⟨pa,va,by rw[A2 (hIL.Gz h1)];exact h1,h2.put hIL,as,by rw[A2 hne];exact h3,Ad h4 fun _ _ z=>z.put hIL⟩
def qw(D:Addr)(H:Hp)(b:Addr)(x:List Nat×List (Nat×Nat)):Prop:=∃pa va:Addr,va≠D/\H b=some (.tup [.ref pa,.ref va])/\TN H pa x.1/\Jl H va x.2
theorem qw.e{D b:Addr}{H:Hp}{x:List Nat×List (Nat×Nat)}(h:qw D H b x):vQ H b x:=let ⟨pa,va,_,h⟩:=h;⟨pa,va,h⟩
theorem qw.same{D b:Addr}{H H':Hp}{x:List Nat×List (Nat×Nat)}(h:qw D H b x)(s:Aw H H'):qw D H' b x:=by
 obtain ⟨pa,va,hne,h1,h2,h3⟩:=h;exact ⟨pa,va,hne,s _ _ h1,h2.same s,h3.same s⟩
theorem qw.put{D b:Addr}{H:Hp}{o:HO}{x:List Nat×List (Nat×Nat)}{zs:List V}(h:qw D H b x)(hD:H D=some (.lst zs)):qw D (upd H D o) b x:=by
 obtain ⟨pa,va,hne,h1,h2,as,h3,h4⟩:=h;have hIL:IsL H D:=⟨_,hD⟩;exact ⟨pa,va,hne,by rw[A2 (hIL.Gz h1)];exact h1,h2.put hIL,as,by rw[A2 hne];exact h3,Ad h4 fun _ _ z=>z.put hIL⟩
theorem qw.dx{D x b:Addr}{H H':Hp}{y:List Nat×List (Nat×Nat)}(h:qw D H b y)(hx:SH.wt H x)(s:CC x H H'):qw D H' b y:=by
 obtain ⟨pa,va,hne,h1,h2,h3⟩:=h;obtain ⟨_,e⟩:=id hx;exact ⟨pa,va,hne,s _ _ (CI h1 e (fun z=>nomatch z)) h1,h2.dx hx s,h3.dx hx s⟩
theorem kF(seen:List (List Nat)):∀(ys r:Lv),(ys.foldl (Ij seen) r).length<=r.length+ys.length
 |[],r=>by simp
 |y::ys,r=>by
  rw[BI];refine AY (kF seen ys _) ?_;unfold Ij
  split<;>simp<;>omega
theorem z0(seen:List (List Nat))(ys:Lv):(OO seen ys).length<=ys.length:=by
 have:=kF seen ys []
 unfold OO;simpa using this
theorem CC.free{x e:Addr}{H H':Hp}{o:HO}(s:CC x H H')(hx:H' x=some o)(h:H' e=none):H e=none:=by
 cases q:H e with
 |none=>rfl
 |some u =>
  by_cases z:e=x
  ·rw[z,hx]at h;cases h
  ·rw[s e u z q]at h;cases h
theorem uh(seen:List (List Nat))(ys:Lv)(y:List Nat×List (Nat×Nat)):OO seen (ys++[y])=if (seen++(OO seen ys).map CB).contains y.1=true then OO seen ys else OO seen ys++[y]:=by
 unfold OO;rw[EK];show Ij seen (ys.foldl (Ij seen) []) y=_;generalize ys.foldl (Ij seen) []=r;unfold Ij;have c:(seen.contains y.1=true\/(r.map CB).contains y.1=true) ↔ (seen++r.map CB).contains y.1=true:=by
  rw[AN,AN,AN,BN]
 by_cases h:(seen++r.map CB).contains y.1=true
 ·rw[if_pos h,if_pos (c.mpr h)]
 ·rw[if_neg h,if_neg (fun z=>h (c.mp z))]
def exts(p:List Nat)(v ts:List (Nat×Nat)):Lv:=ts.map fun q=>(brk p q.1 q.2,v++[q])
section
variable {P:Program} {w:World} {K:AE} {mg:Str->Option Value} {base:Heap} {t:HU}
def XT:Sp:=fun vs H Q _=>∃(pa va ta ma:Addr) (w:List (List Nat)) (p:List Nat) (v ts:List (Nat×Nat)) (seen:List (List Nat)),vs=[.ref pa,.ref va,.ref ta,.ref ma]/\TN H pa p/\Jl H va v/\Jl H ta ts/\H ma=some (.dT (Mj seen)) /\
 Eg w/\GI w p/\(∀q∈ts,wd w q.1 q.2=true)/\seen.length+ts.length<=1000/\v.length<=1000 /\
 ∀(b:Addr) (H':Hp),CC ma H H'->H' ma=some (.dT (Mj (seen++(OO seen (exts p v ts)).map CB)))->H b=none->(∃as:List Addr,H' b=some (.lst (as.map V.ref))/\Paired (fun c x=>∃d e:Addr,H e=none/\e≠b/\H' c=some (.tup [.ref d,.ref e])/\TN H' d x.1/\Jl H' e x.2) as (OO seen (exts p v ts)))->Q (.ref b) H'
theorem XU(T:Txt K mg t):Bv P w K mg base EE 3 t.Ke t.Kf PH XT:=by
 refine T.QF.ok G9 (fun vs H Q E h=>?_) (fun cdv A outer s H vs Q E hr h=>?_)
 ·obtain ⟨pa,va,ta,ma,w,p,v,ts,seen,rfl,_⟩:=h;rfl
 ·obtain ⟨pa,va,ta,ma,w,p,v,ts,seen,rfl,hp,hv,ht,hm,W,Pk,hwd,hlen,hvl,k⟩:=h;have hu:=yI hr;refine ⟨_,(AH (BF (i:=4) G9.nd rfl (Ai rfl) (BM AD)) (AH (FY Bg rfl (DO (pv 2)) (Bj (i:=5) G9.nd rfl (Ai rfl)) (AH (BF (i:=6) G9.nd rfl (Ai rfl) (Aj (Qs T) (hr.mono (by decide)) rfl T.UA T.QB.kp T.T9 .nil Ay (AA (pv 0) (AA (BU CU (pv 5) BG (fun _ _=>rfl)) (AA (BU CU (pv 5) BG (fun _ _=>rfl)) AD))))) (AM (Cm (Ur (pk hu (pv 6) (pv 3))) (AH (wq hu (pv 3) (pv 6) Og rfl) (AM (Cw (JZ BQ CO CP Gk (pv 4) (AA (IK (AA (pv 6) (AA (CZ IL (pv 1) (BM (AA (pv 5) AD))) AD))) AD))))) Bk)))) (AM (Am (pv 4))))),?_⟩;refine ⟨Bb _,fun D hD=>?_⟩;have nDm:ma≠D:=Af hm hD;have s1:Aw H (upd H D (.lst [])):=As hD;obtain ⟨tas,ht0,ht2⟩:=ht;have ht1:=s1 _ _ ht0;have nvD:va≠D:=fun z=>by
   obtain ⟨_,g,_⟩:=hv;rw[z,hD]at g;cases g
  have hIDo:SH.wt H ma:=⟨_,hm⟩;refine ⟨_,rfl,ta,rfl,⟨_,Bq.of ht1⟩,?_⟩;refine G4 (K:=K) (a:=ta) (xs:=tas.map V.ref) (fun i σ H'=>CC ma H H'/\(∃v5 v6,σ=[some (.ref pa),some (.ref va),some (.ref ta),some (.ref ma),some (.ref D),v5,v6]) /\
   H' ma=some (.dT (Mj (seen++(OO seen (exts p v (ts.take i))).map CB)))/\∃as:List Addr,H' D=some (.lst (as.map V.ref))/\Paired (fun c x=>∃d e:Addr,H e=none/\e≠D/\H' c=some (.tup [.ref d,.ref e])/\TN H' d x.1/\Jl H' e x.2) as (OO seen (exts p v (ts.take i))))
   ⟨s1.x,⟨_,_,rfl⟩,by rw[A2 nDm];exact (by simpa [exts,OO] using hm),[],AK,.nil⟩ (fun i σ H' _ q=>Bq.of (q.1 _ _ (CI ht0 hm (fun z=>nomatch z)) ht0)) ?_ ?_
  ·rintro i x σ H' hi ⟨sx,⟨v5,v6,rfl⟩,hm',as,hD',rL⟩;rw[BH]at hi;obtain ⟨b,hb,rfl⟩:=CN.mp hi;obtain ⟨q,hq,h2'⟩:=Dg ht2 hb;have hwq:=hwd q (Ar hq);have hbH:U2 H b q:=h2';have hb':U2 H' b q:=hbH.dx hIDo sx;have hp':TN H' pa p:=hp.dx hIDo sx;have hv':Jl H' va v:=hv.dx hIDo sx;refine ⟨_,rfl,_,rfl,b,_,_,_,rfl,rfl,hb'.fst,at_of (j:=0) rfl rfl,_,rfl,b,_,_,_,rfl,rfl,hb'.fst,at_of (j:=1) rfl rfl,?_⟩;refine ⟨pa,w,p,q.1,q.2,rfl,hp',W,Pk,hwq,fun c H2 s2 hc=>?_⟩;have hm2:=s2 _ _ hm';have hD2:=s2 _ _ hD';have hcK:H2 c=some (.tup ((keyOf (brk p q.1 q.2)).map kV)):=by rw[kE];exact hc
   have eT:exts p v (ts.take (i+1))=exts p v (ts.take i)++[(brk p q.1 q.2,v++[q])]:=by
    unfold exts;rw[take_snoc hq,BS];rfl
   rw[eT,uh];refine ⟨_,rfl,_,rfl,ma,_,rfl,tq.t hm2 hcK,_,rfl,?_⟩;rw[oR];have hil:i<ts.length:=(Ap.mp hq).1;have hob:(OO seen (exts p v (ts.take i))).length<=ts.length:=AY (z0 _ _) (by unfold exts;rw[AB,B0];omega);cases hcn:(seen++(OO seen (exts p v (ts.take i))).map CB).contains (brk p q.1 q.2) with
   |true =>
    rw[if_pos rfl];refine Cz ⟨sx.trans s2.x,⟨_,_,rfl⟩,hm2,as,hD2,Ad rL fun _ _ ⟨d,e,z1,z2,z3,z4,z5⟩=>⟨d,e,z1,z2,s2 _ _ z3,z4.same s2,z5.same s2⟩⟩
   |false =>
    rw[if_neg AZ];refine Ca ⟨_,rfl,_,rfl,ma,_,rfl,tu.t hm2 hcK ?_,?_⟩
    ·unfold Mj;rw[AB,Ab,AB];exact Ci (show _<=1000 by omega) (by decide)
    rw[xK _ hcn];have sm:CC ma H2 (upd H2 ma (.dT (Mj (seen++(OO seen (exts p v (ts.take i))).map CB++[brk p q.1 q.2])))):=CT;have hID2:SH.wt H2 ma:=⟨_,hm2⟩;have hm3:(upd H2 ma (.dT (Mj (seen++(OO seen (exts p v (ts.take i))).map CB++[brk p q.1 q.2])))) ma=some (.dT (Mj (seen++(OO seen (exts p v (ts.take i))).map CB++[brk p q.1 q.2]))):=AK;have hD3:=sm _ _ (Cr nDm) hD2;have hc3:=TN.dx hc hID2 sm;have hb3:=(hb'.same s2).dx hID2 sm;have hv3:=(hv'.same s2).dx hID2 sm;have rL3:=Ad rL (R':=fun c x=>∃d e:Addr,H e=none/\e≠D/\(upd H2 ma (.dT (Mj (seen++(OO seen (exts p v (ts.take i))).map CB++[brk p q.1 q.2])))) c=some (.tup [.ref d,.ref e])/\TN (upd H2 ma (.dT (Mj (seen++(OO seen (exts p v (ts.take i))).map CB++[brk p q.1 q.2])))) d x.1/\Jl (upd H2 ma (.dT (Mj (seen++(OO seen (exts p v (ts.take i))).map CB++[brk p q.1 q.2])))) e x.2)
     fun _ _ ⟨d,e,z1,z2,z3,z4,z5⟩=>⟨d,e,z1,z2,sm _ _ (CI (s2 _ _ z3) hm2 (fun z=>nomatch z)) (s2 _ _ z3),(z4.same s2).dx hID2 sm,(z5.same s2).dx hID2 sm⟩
    have sx3:=(sx.trans s2.x).trans sm;revert hm3 hD3 hc3 hb3 hv3 rL3 sx3;generalize upd H2 ma (.dT (Mj (seen++(OO seen (exts p v (ts.take i))).map CB++[brk p q.1 q.2])))=H3;intro hm3 hD3 hc3 hb3 hv3 rL3 sx3;obtain ⟨vs,hv3,rv3⟩:=hv3;refine ⟨_,rfl,.inl ⟨rfl,_,Bq.of hD3⟩,_,rfl,_,rfl,_,rfl,by show 1<=sizeLine;decide,fun u hu=>?_⟩;have s4:Aw H3 (upd H3 u (.lst [V.ref b])):=As hu;refine ⟨va,u,_,_,rfl,rfl,s4 _ _ hv3,AK,?_,fun e he=>?_⟩
    ·rw[AB,AX rv3];exact AY (show v.length+1<=1001 by omega) (by decide)
    have s5:Aw H3 (upd (upd H3 u (.lst [V.ref b])) e (.lst (vs.map V.ref++[V.ref b]))):=s4.upd he;have he3:H3 e=none:=s4.free he;refine ⟨by show 2<=sizeLine;decide,fun g hg=>?_⟩;have s6:Aw H3 (upd (upd (upd H3 u (.lst [V.ref b])) e (.lst (vs.map V.ref++[V.ref b]))) g (.tup [V.ref c,V.ref e])):=s5.upd hg;have hD6:=s6 _ _ hD3;have heH:H e=none:=sx3.free hm3 he3;have neD:e≠D:=Cr (Af hD3 he3);have he6:(upd (upd (upd H3 u (.lst [V.ref b])) e (.lst (vs.map V.ref++[V.ref b]))) g (.tup [V.ref c,V.ref e])) e=some (.lst (vs.map V.ref++[V.ref b])):=by
     rw[A2 (Af (AK (H:=upd H3 u (.lst [V.ref b]))) hg)];exact AK
    refine ⟨D,_,_,rfl,rfl,hD6,?_,?_⟩
    ·rw[AB,AX rL3];exact Ci (show _<=1000 by omega) (by decide)
    have hIL6:IsL (upd (upd (upd H3 u (.lst [V.ref b])) e (.lst (vs.map V.ref++[V.ref b]))) g (.tup [V.ref c,V.ref e])) D:=⟨_,hD6⟩;have sxD:∀b' o',b'≠ma->H b'=some o'->(upd (upd (upd (upd H3 u (.lst [V.ref b])) e (.lst (vs.map V.ref++[V.ref b]))) g (.tup [V.ref c,V.ref e])) D (.lst (as.map V.ref++[V.ref g]))) b'=some o':=fun b' o' hb' e'=>by
     rw[A2 (Af e' hD)];exact s6 _ _ (sx3 _ _ hb' e')
    refine ⟨sxD,⟨_,_,rfl⟩,?_,as++[g],by rw[AK,BS];rfl,?_⟩
    ·rw[A2 nDm,BS,<-CY];exact s6 _ _ hm3
    ·refine EU (Ad rL3 fun _ _ ⟨d,e',z1,z2,z3,z4,z5⟩=>?_) ⟨c,e,heH,neD,?_,(hc3.same s6).put hIL6,vs++[b],?_,?_⟩
     ·obtain ⟨ws,y1,y2⟩:=z5.same s6;exact ⟨d,e',z1,z2,by rw[A2 (hIL6.Gz (s6 _ _ z3))];exact s6 _ _ z3,(z4.same s6).put hIL6,ws,by rw[A2 z2];exact y1,Ad y2 fun _ _ z=>z.put hIL6⟩
     ·rw[A2 (hIL6.Gz AK)];exact AK
     ·rw[A2 neD,he6,BS];rfl
     ·exact EU (Ad rv3 fun _ _ z=>(z.same s6).put hIL6) ((hb3.same s6).put hIL6)
  ·rintro σ H' ⟨sx,⟨v5,v6,rfl⟩,hm',hL⟩;rw[AB,AX ht2,B9]at hm' hL;exact ⟨_,rfl,k D H' sx hm' hD hL⟩
end
open PySem PySem.Spec PyProof.Rows L2
open Km464 (House)
theorem xM{w:List (List Nat)}(W:Eg w)(p:List Nat):(L8 w p).length<=36:=by
 have h0:(L8 w p).length<=(Gx w).length:=Ax _ _;have h1:(Gx w).length<=(B5 w.length).length:=Ax _ _;have h2:(B5 w.length).length<=w.length*w.length:=by
  unfold B5
  have:=GK (fun i=>((AF w.length).filter fun j=>decide (i<j)).map fun j=>(i,j)) w.length (AF w.length) fun x _=>by
   rw[AB];exact AY (Ax _ _) (by simp)
  rwa [BW]at this
 have h4:w.length*w.length<=6*6:=Ri W.len W.len;omega
theorem ES{α:Type}{R:Addr->α->Prop}{as:List Addr}{l:List α}(h:Paired R as l):(as.map V.ref).isEmpty=l.isEmpty:=by
 cases h<;>rfl
theorem ui(w:List (List Nat))(x:List Nat×List (Nat×Nat)):exts x.1 x.2 (L8 w x.1)=ext w x:=rfl
theorem Sa{w:List (List Nat)}{seen:List (List Nat)}{l:Lv}{i:Nat}{x:List Nat×List (Nat×Nat)}(h:l[i]?=some x) :
  OO seen ((l.take (i+1)).flatMap (ext w))=OO seen ((l.take i).flatMap (ext w))++OO (seen++(OO seen ((l.take i).flatMap (ext w))).map CB) (ext w x):=by
 rw[take_snoc h,Dl,Br,k3]
theorem oT{w:List (List Nat)}(W:Eg w){seen:List (List Nat)}{l:Lv}(B:X1 w seen l)(i:Nat):(seen++(OO seen ((l.take i).flatMap (ext w))).map CB).length<=76:=by
 have B':X1 w seen (l.take i):=⟨B.nd,B.ok,fun x hx=>B.sub x (JV hx),fun x hx=>B.ye x (JV hx)⟩;have N:=B'.next W;exact fA W N.nd N.ok
def xN(k:Nat)(l:Lv):Prop:=∀x∈l,x.2.length=k
theorem xN.next{w:List (List Nat)}{seen:List (List Nat)}{l:Lv}{k:Nat}(h:xN k l):xN (k+1) (Nf w seen l):=fun x hx=>by
 have hx:=fF hx;obtain ⟨y,hy,hz⟩:=Bz.mp hx;obtain ⟨q,_,rfl⟩:=BE.mp hz;show (y.2++[q]).length=k+1;rw[Ab,h y hy];rfl
def QN(r:Option (List (Nat×Nat)))(H:Hp)(Q:VK):Prop:=match r with
 |none=>Ks .Ft H Q
 |some v=>∀(b:Addr) (H':Hp),Aw H H'->Jl H' b v->Q (.ref b) H'
section
variable {P:Program} {w:World} {K:AE} {mg:Str->Option Value} {base:Heap} {t:HU}
def XW(C:Addr):Sp:=fun vs H Q _=>∃(wa ha:Addr) (w:List (List Nat)) (p:List Nat) (ps:List (Nat×Nat)),vs=[.ref wa,.ref ha]/\B4 C H wa w/\TN H ha p/\Eg w/\GI w p/\QN (DE ⟨w,ps⟩ p) H Q
theorem HC(T:Txt K mg t):Bv P w K mg base EE 4 t.Kc t.Kd PD (XW t.A7):=by
 refine T.GX.ok Dh (fun vs H Q E h=>?_) (fun cdv A outer s H vs Q E hr h=>?_)
 ·obtain ⟨wa,ha,w,p,ps,rfl,_⟩:=h;rfl
 ·obtain ⟨wa,ha,w,p,ps,rfl,hw,hp,W,Pk,k⟩:=h;have hu:=yI hr;refine ⟨_,(AH (BF (i:=2) Dh.nd rfl (Ai rfl) (p9 hu (pv 1) Og)) (AH (BF (i:=3) Dh.nd rfl (Ai rfl) (BM (AA (IK (AA (pv 1) (AA (BM AD) AD))) AD))) (AH (YT Bg (GP (pv 3) (fun _=>rfl)) (AH (BF (i:=4) Dh.nd rfl (Ai rfl) (BM AD)) (AH (FY Bg rfl (DO (pv 3)) (YS rfl (G3 (Bj (i:=5) Dh.nd rfl (Ai rfl)) (G3 (Bj (i:=6) Dh.nd rfl (Ai rfl)) TY))) (AH (BF (i:=7) Dh.nd rfl (Ai rfl) (Aj (LP T) (hr.mono (by decide)) rfl T.NT T.Kr.kp T.NS .nil Ay (AA (pv 0) (AA (pv 5) AD)))) (AH (Cm (FK (GP (pv 7) (fun _=>rfl))) (AM (Am (pv 6))) Bk) (AM (Cw (JZ BQ E9 FA MC (pv 4) (AA (Aj (XU T) (hr.mono (by decide)) rfl T.Zx T.QF.kp T.Zw .nil Ay (AA (pv 5) (AA (pv 6) (AA (pv 7) (AA (pv 2) AD))))) AD))))))) (AM (BF (i:=3) Dh.nd rfl (Ai rfl) (pv 4)))))) (AM (Am tI))))),?_⟩;refine fun ma hma=>⟨_,rfl,ha,keyOf p,rfl,by rw[kE];exact hp.same (As hma),AK,?_⟩
  have s1:Aw H (upd (upd H ma (.dT [])) ma (.dT [(keyOf p,V.bl true)])):=(As hma).put hma;have hm1:(upd (upd H ma (.dT [])) ma (.dT [(keyOf p,V.bl true)])) ma=some (.dT (Mj [p])):=AK;revert s1 hm1;generalize upd (upd H ma (.dT [])) ma (.dT [(keyOf p,V.bl true)])=H1;intro s1 hm1;refine ⟨_,rfl,Bb _,fun ea hea=>⟨by show 2<=sizeLine;decide,fun ca hca=>⟨by show 1<=sizeLine;decide,fun la hla=>?_⟩⟩⟩;have s2:Aw H1 (upd (upd (upd H1 ea (.lst [])) ca (.tup [V.ref ha,V.ref ea])) la (.lst [V.ref ca])):=((As hea).upd hca).upd hla;have hL2:qu (upd (upd (upd H1 ea (.lst [])) ca (.tup [V.ref ha,V.ref ea])) la (.lst [V.ref ca])) la [(p,[])]:=by
   refine ⟨[ca],AK,.cons ⟨ha,ea,?_,(hp.same s1).same s2,[],?_,.nil⟩ .nil⟩
   ·rw[A2 (Af (AK (H:=upd H1 ea (.lst []))) hla)];exact AK
   ·have e1:(upd (upd H1 ea (.lst [])) ca (.tup [V.ref ha,V.ref ea])) ea=some (.lst []):=by
     rw[A2 (Af (AK (H:=H1)) hca)];exact AK
    rw[A2 (Af e1 hla)];exact e1
  have hm2:=s2 _ _ hm1;have sE:=s1.trans s2;revert hL2 hm2 sE;generalize upd (upd (upd H1 ea (.lst [])) ca (.tup [V.ref ha,V.ref ea])) la (.lst [V.ref ca])=H2;intro hL2 hm2 sE;clear s2 hea hca hla s1 hm1;refine ⟨fun m σ H'=>∃(f dep:Nat) (seen:List (List Nat)) (l:Lv) (la:Addr) (v4 v5 v6 v7:Option V),m=2*(77-seen.length)+(if l=[] then 0 else 1)/\σ=[some (.ref wa),some (.ref ha),some (.ref ma),some (.ref la),v4,v5,v6,v7] /\
   Aw H H'/\H' ma=some (.dT (Mj seen))/\qu H' la l/\At ⟨w,ps⟩ w p f seen l/\xN dep l/\dep+f=400,⟨_,400,0,[p],[(p,[])],la,none,none,none,none,rfl,rfl,sE,hm2,hL2,At.first _ Pk,fun x hx=>by rw[A3.mp hx];rfl,rfl⟩,?_⟩
  rintro m σ H' ⟨f,dep,seen,l,la,v4,v5,v6,v7,rfl,rfl,sH,hm,⟨las,hl1,hl2⟩,hA,hdeep,hdf⟩;refine ⟨_,rfl,_,.inl ⟨_,Bq.of hl1,rfl⟩,?_⟩;rw[ES hl2]
  by_cases hl:l=[]
  ·subst hl;refine Cz ?_;rw[hA.empty W rfl]at k;exact k H' sH
  ·have e:(!l.isEmpty)=true:=by cases l with
    |nil=>exact absurd rfl hl
    |cons=>rfl
   rw[e];refine Ca ⟨fun σ' H2=>∃(la2:Addr) (v4 v5 v6 v7:Option V),σ'=[some (.ref wa),some (.ref ha),some (.ref ma),some (.ref la2),v4,v5,v6,v7]/\Aw H H2/\H2 ma=some (.dT (Mj (seen++(Nf w seen l).map CB)))/\qu H2 la2 (Nf w seen l)/\(l.find? fun x=>L8 w x.1 == [])=none,?_,?_⟩
   ·rintro σ' H2 ⟨la2,v4',v5',v6',v7',rfl,sH2,hm2',hL2',hno⟩;have hA2:=hA.turn W rfl hl hno;have h76:=fA W hA2.inv.nd hA2.inv.ok;refine ⟨_,?_,f-1,dep+1,_,_,la2,_,_,_,_,rfl,rfl,sH2,hm2',hL2',hA2,hdeep.next,by have:=hA.one;omega⟩;rw[if_neg hl];rw[Ab,AB]at h76 ⊢
    by_cases hn:Nf w seen l=[]
    ·rw[if_pos hn,hn,DJ];omega
    ·rw[if_neg hn]
     have:0<(Nf w seen l).length:=Sg.mpr hn
     omega
   refine ⟨Bb _,fun D hD=>?_⟩;have nlD:la≠D:=Af hl1 hD;have nmD:ma≠D:=Af hm hD;have sD:Aw H' (upd H' D (.lst [])):=As hD;have hDn:H D=none:=sH.free hD;refine ⟨_,rfl,la,rfl,⟨_,Bq.of (sD _ _ hl1)⟩,?_⟩;refine G4 (K:=K) (a:=la) (xs:=las.map V.ref) (fun i σ H2=>Aw H H2/\CC ma H' H2/\(∃v5 v6 v7,σ=[some (.ref wa),some (.ref ha),some (.ref ma),some (.ref la),some (.ref D),v5,v6,v7]) /\
    H2 ma=some (.dT (Mj (seen++(OO seen ((l.take i).flatMap (ext w))).map CB)))/\(∃as:List Addr,H2 D=some (.lst (as.map V.ref))/\Paired (qw D H2) as (OO seen ((l.take i).flatMap (ext w))))/\∀x∈l.take i,(L8 w x.1 == [])=false)
    ⟨sH.trans sD,sD.x,⟨_,_,_,rfl⟩,(by simpa [OO] using sD _ _ hm),⟨[],AK,.nil⟩,fun x hx=>nomatch hx⟩ (fun i σ H2 _ q=>Bq.of (q.2.1 _ _ (CI hl1 hm (fun z=>nomatch z)) hl1)) ?_ ?_
   ·rintro i x σ H2 hi ⟨sH2,sx2,⟨v5',v6',v7',rfl⟩,hmm,⟨as,hDD,rD⟩,hbs⟩;rw[BH]at hi;obtain ⟨b,hb,rfl⟩:=CN.mp hi;obtain ⟨x,hx,hE⟩:=Dg hl2 hb;have hxm:=Ar hx;have Px:=hA.inv.ok _ (hA.inv.sub x hxm);obtain ⟨pa,va,e1,e2,e3⟩:=hE.dx ⟨_,hm⟩ sx2;refine ⟨b,_,rfl,DR.of e1,rfl,_,_,rfl,_,_,rfl,rfl,?_⟩;refine ⟨_,rfl,_,rfl,wa,pa,w,x.1,rfl,hw.same sH2,e2,W,Px,fun ta H3 s3 hta hT3=>?_⟩;obtain ⟨tas,hT1,hT2⟩:=id hT3;refine ⟨_,rfl,_,.inl ⟨_,Bq.of hT1,rfl⟩,?_⟩;rw[ES hT2];show if (!(!(L8 w x.1).isEmpty))=true then _ else _
    cases hbr:(L8 w x.1 == []) with
    |true =>
     have eb:L8 w x.1=[]:=by simpa using hbr
     rw[eb];refine Ca ⟨_,rfl,?_⟩;have hf:(l.find? fun x=>L8 w x.1 == [])=some x:=by
      rw[List.find?_eq_some_iff_append];refine ⟨hbr,l.take i,l.drop (i+1),?_,fun y hy=>by rw[hbs y hy];rfl⟩;have h1:=(Ap.mp hx);rw[<-h1.2,<-L1 h1.1,QT]
     rw[hA.found W rfl hf]at k;exact k va H3 (sH2.trans s3) (e3.same s3)
    |false =>
     have eb:(!(!(L8 w x.1).isEmpty))=false:=by
      cases z:L8 w x.1 with
      |nil=>rw[z]at hbr;cases hbr
      |cons=>rfl
     rw[eb];refine Cz ?_;have hD3:=s3 _ _ hDD;have hm3:=s3 _ _ hmm;refine ⟨_,rfl,.inl ⟨rfl,_,Bq.of hD3⟩,_,rfl,_,rfl,_,rfl,_,rfl,?_⟩;have hle:=oT W hA.inv i;have hbl:=xM W x.1;have hdl:=hdeep x hxm;refine ⟨pa,va,ta,ma,w,x.1,x.2,L8 w x.1,_,rfl,e2.same s3,e3.same s3,hT3,hm3,W,Px,fun q hq=>(k4 hq).1,by omega,by omega,fun c H4 sx4 hm4 hc hL4=>?_⟩;rw[ui]at hm4 hL4;obtain ⟨cs,hc4,rc4⟩:=hL4;have hID3:SH.wt H3 ma:=⟨_,hm3⟩;have hD4:=sx4 _ _ (Cr nmD) hD3;have hle2:=oT W hA.inv (i+1);rw[Sa hx,BS,<-CY,Ab]at hle2;rw[Ab]at hle2;simp only[AB]at hle2;have sH4:Aw H H4:=fun b' o' e'=>sx4 _ _ (fun z=>by rw[z,hma]at e';cases e') ((sH2.trans s3) _ _ e')
     refine ⟨D,c,_,_,rfl,rfl,hD4,hc4,?_,?_⟩
     ·rw[AB,AB,AX rD,AX rc4];exact small (by omega)
     have nDc:D≠c:=Af hD3 hc;refine ⟨sH4.put hDn,fun b' o' hb' e'=>?_,⟨_,_,_,rfl⟩,?_,⟨as++cs,by rw[AK,BS],?_⟩,?_⟩
     ·rw[A2 (Af e' hD)];exact sx4 _ _ hb' (s3 _ _ (sx2 _ _ hb' e'))
     ·rw[A2 nmD,Sa hx,BS,<-CY];exact hm4
     ·rw[Sa hx];refine FE (Ad rD fun _ _ z=>((z.same s3).dx hID3 sx4).put hD4) (Ad rc4 fun _ _ ⟨d,e',y1,y2,y3,y4,y5⟩=>?_);have neD:e'≠D:=fun z=>by rw[z]at y1;rw[hD3]at y1;cases y1
      exact qw.put ⟨d,e',neD,y3,y4,y5⟩ hD4
     ·intro y hy;rw[take_snoc hx]at hy;rcases BN.mp hy with hy|hy
      ·exact hbs y hy
      ·rw[A3.mp hy];exact hbr
   ·rintro σ H2 ⟨sH2,sx2,⟨v5',v6',v7',rfl⟩,hmm,⟨as,hDD,rD⟩,hbs⟩;rw[AB,AX hl2,B9]at hmm rD hbs;refine ⟨_,rfl,D,_,_,_,_,rfl,sH2,hmm,⟨as,hDD,Ad rD fun _ _ z=>z.e⟩,?_⟩;rw[UY];intro y hy;rw[hbs y hy];exact AZ
def qx:Sp:=fun vs H Q _=>∃(ha va:Addr) (w:List (List Nat)) (p:List Nat) (v:List (Nat×Nat)),vs=[.ref ha,.ref va]/\TN H ha p/\Jl H va v/\Eg w/\GI w p/\(∀q∈v,wd w q.1 q.2=true)/\QK (endOf p v) H Q
theorem qy(T:Txt K mg t):Bv P w K mg base EE 3 t.Ze t.Zf jQ qx:=by
 refine T.jl.ok U7 (fun vs H Q E h=>?_) (fun cdv A outer s H vs Q E hr h=>?_)
 ·obtain ⟨ha,va,w,p,v,rfl,_⟩:=h;rfl
 ·obtain ⟨ha,va,w,p,v,rfl,hp,⟨vas,hv1,hv2⟩,W,Pk,hwd,k⟩:=h;refine ⟨_,(AH (FY Bg rfl (DO (pv 1)) (Bj (i:=2) U7.nd rfl (Ai rfl)) (AM (BF (i:=0) U7.nd rfl (Ai rfl) (Aj (Qs T) (hr.mono (by decide)) rfl T.UA T.QB.kp T.T9 .nil Ay (AA (pv 0) (AA (BU CU (pv 2) BG (fun _ _=>rfl)) (AA (BU CU (pv 2) BG (fun _ _=>rfl)) AD))))))) (AM (Am (pv 0)))),?_⟩;refine ⟨_,rfl,va,rfl,⟨_,Bq.of hv1⟩,?_⟩;refine G4 (K:=K) (a:=va) (xs:=vas.map V.ref) (fun i σ H'=>Aw H H'/\∃b v2,σ=[some (.ref b),some (.ref va),v2]/\TN H' b (endOf p (v.take i))/\GI w (endOf p (v.take i))) ⟨Aw.refl H,ha,_,rfl,hp,Pk⟩ (fun i σ H' _ q=>Bq.of (q.1 _ _ hv1)) ?_ ?_
  ·rintro i x σ H' hi ⟨s',b,v2,rfl,hb,Pb⟩;rw[BH]at hi;obtain ⟨c,hc,rfl⟩:=CN.mp hi;obtain ⟨q,hq,h2⟩:=Dg hv2 hc;have hwq:=hwd q (Ar hq);have h2':=h2.same s';have e:endOf p (v.take (i+1))=brk (endOf p (v.take i)) q.1 q.2:=by
    unfold endOf;rw[take_snoc hq,EK];rfl
   refine ⟨_,rfl,_,rfl,c,_,_,_,rfl,rfl,h2'.fst,at_of (j:=0) rfl rfl,_,rfl,c,_,_,_,rfl,rfl,h2'.fst,at_of (j:=1) rfl rfl,?_⟩;refine ⟨b,w,_,q.1,q.2,rfl,hb,W,Pb,hwq,fun d H2 s2 hd=>?_⟩;refine ⟨s'.trans s2,d,_,rfl,by rw[e];exact hd,by rw[e];exact Xw W Pb hwq⟩
  ·rintro σ H' ⟨s',b,v2,rfl,hb,Pb⟩;rw[AB,AX hv2,B9]at hb;exact ⟨_,rfl,k b H' s' hb⟩
end
open PySem PySem.Spec PyProof.Rows L2
open Km464 (House)
def Vp(w:List (List Nat))(row:List Nat):List Nat:=(AF w.length).map fun s=>if row.getD s 0=0 then s else row.getD s 0-1
theorem UR(w:List (List Nat))(row:List Nat):(Vp w row).length=w.length:=by unfold Vp;simp
theorem uj(s:House){w:List (List Nat)}(hw:s.wish=w)(row:List Nat):Vp w row=iI s row:=by
 subst hw;rfl
theorem uk{q:List Nat}{c d e:Nat}(h:c<q.length):q.getD c d=q.getD c e:=by
 rw[AQ,AQ,A5 h];rfl
def qz(w:List (List Nat))(q:List Nat)(a:Nat):Bool:=decide (A6 q a=a)||(decide (A6 q a<w.length)&&(decide (A6 q (A6 q a)=a)&&wd w a (A6 q a)))
def yN(w:List (List Nat))(q:List Nat):Bool:=(AF w.length).all (qz w q)
theorem um(s:House){w:List (List Nat)}(hw:s.wish=w){q:List Nat}(hl:q.length=w.length):yN w q=Xt s q:=by
 subst hw;show (AF s.wish.length).all (qz s.wish q)=(AF s.wish.length).all fun a=>decide (A6 q a<s.wish.length)&&((A6 q a==a)||(wd s.wish a (A6 q a)&&q.getD (A6 q a) a==a))
 have go:∀a∈AF s.wish.length,qz s.wish q a=(decide (A6 q a<s.wish.length)&&((A6 q a==a)||(wd s.wish a (A6 q a)&&q.getD (A6 q a) a==a))):=by
  intro a ha;have ha:=Ah.mp ha;unfold qz
  by_cases e:A6 q a=a
  ·rw[e];simp[ha]
  ·by_cases e2:A6 q a<s.wish.length
   ·have e3:q.getD (A6 q a) a=A6 q (A6 q a):=uk (by omega);rw[e3]
    by_cases e4:A6 q (A6 q a)=a
    ·simp[e,e2,e4]
    ·simp[e,e2,e4]
   ·simp[e,e2]
 rw[C4,Bc,Bc];constructor
 ·intro h a ha;rw[<-go a ha];exact h a ha
 ·intro h a ha;rw[go a ha];exact h a ha
theorem uo{w:List (List Nat)}{q:List Nat}(hl:q.length=w.length)(h:yN w q=true):GI w q:=by
 have h:∀a,a<w.length->qz w q a=true:=fun a ha=>Bc.mp h a (Ah.mpr ha)
 have h2:∀a,a<w.length->A6 q a=a\/(A6 q a<w.length/\A6 q (A6 q a)=a/\wd w a (A6 q a)=true):=fun a ha=>by
  have:=h a ha
  unfold qz at this;simp only[EN,BB,decide_eq_true_eq]at this;exact this
 refine ⟨hl,fun a ha=>?_,fun a=>?_,fun a ha=>?_⟩
 ·rcases h2 a ha with e|e
  ·rw[e];exact ha
  ·exact e.1
 ·by_cases ha:a<w.length
  ·rcases h2 a ha with e|e
   ·rw[e,e]
   ·exact e.2.1
  ·have e:=II (p:=q) (a:=a) (by omega);rw[e,e]
 ·by_cases hl2:a<w.length
  ·rcases h2 a hl2 with e|e
   ·exact absurd e ha
   ·exact e.2.2
  ·exact absurd (II (by omega)) ha
section
variable {P:Program} {w:World} {K:AE} {mg:Str->Option Value} {base:Heap} {t:HU}
def XX(C:Addr):Sp:=fun vs H Q _=>∃(wa la:Addr) (w:List (List Nat)) (q:List Nat) (a b:Nat),vs=[.ref wa,.ref la,vN a,vN b]/\B4 C H wa w/\LN H la q/\q.length=w.length/\a<w.length/\Q (.bl (decide (b<w.length)&&(decide (A6 q b=a)&&wd w a b))) H
theorem XY(T:Txt K mg t):Bv P w K mg base EE 3 t.KU t.KW O3 (XX t.A7):=by
 refine T.P8.ok XD (fun vs H Q E h=>?_) (fun cdv A outer s H vs Q E hr h=>?_)
 ·obtain ⟨wa,la,w,q,a,b,rfl,_⟩:=h;rfl
 ·obtain ⟨wa,la,w,q,a,b,rfl,hw,hq,hl,ha,k⟩:=h;obtain ⟨dx,l1,l2,l3,h1,_⟩:=id hw;refine ⟨_,(AM (Am (fV (CV (pv 0) T.BP T.P6 (N3 T) (hr.mono (by decide)) T.P5 .nil Ay (AA (pv 3) AD)) (fV (HZ K8 (BU Be (pv 1) (pv 3) (fun _ _=>rfl)) (pv 2) (C6 _)) (fU (CV (pv 0) T.BP T.Ho (HB T) (hr.mono (by decide)) T.Hn .nil Ay (AA (pv 2) (AA (pv 3) AD)))))))),?_⟩;refine ⟨_,rfl,wa,_,_,rfl,h1,Tp _ _ _ _ (by decide +kernel) (by decide +kernel) (by decide +kernel) (by decide +kernel),_,rfl,wa,w,b,rfl,hw,_,rfl,?_⟩
  by_cases c1:b<w.length
  ·rw[decide_eq_true c1]at k ⊢;refine Ca ⟨_,rfl,_,rfl,la,_,_,_,rfl,rfl,Bq.of hq,CQ (Cj (by omega)),_,rfl,rfl,_,rfl,?_⟩;rw[Gy]
   by_cases c2:A6 q b=a
   ·rw[decide_eq_true c2]at k ⊢;refine Ca ⟨_,rfl,wa,_,_,rfl,h1,Tp _ _ _ _ (by decide +kernel) (by decide +kernel) (by decide +kernel) (by decide +kernel),_,rfl,_,rfl,wa,w,a,b,rfl,hw,ha,c1,k⟩
   ·rw[decide_eq_false c2]at k ⊢;exact Cz k
  ·rw[decide_eq_false c1]at k ⊢;exact Cz k
def gg(C:Addr):Sp:=fun vs H Q _=>∃(wa la:Addr) (w:List (List Nat)) (row:List Nat),vs=[.ref wa,.ref la]/\B4 C H wa w/\Eg w/\LN H la row/\row.length=6/\(yN w (Vp w row)=true->QK (Vp w row) H Q)/\(yN w (Vp w row)=false->Ks .Ft H Q)
theorem gh(T:Txt K mg t):Bv P w K mg base EE 4 t.PZ t.Pa WJ (gg t.A7):=by
 refine T.Wi.ok He (fun vs H Q E h=>?_) (fun cdv A outer s H vs Q E hr h=>?_)
 ·obtain ⟨wa,la,w,row,rfl,_⟩:=h;rfl
 ·obtain ⟨wa,la,w,row,rfl,hw,W,hl,hr6,k1,k2⟩:=h;obtain ⟨dx,l1,l2,l3,h1,_⟩:=id hw;have h6:=W.len;refine ⟨_,(AH (Hb (i:=2) rfl He.nd rfl rfl (Jk rfl rfl rfl rfl) (EG rfl T.E4 (AA (Ao (pv 0) rfl) AD)) (show EH jI (AO O1) _ [("student",3)] from CL (by decide +kernel)) (fun _ _ _ _ _=>(Bj (i:=3) He.nd rfl (Ai rfl))) (fun _ _ _ _ _=>F4) (fun _ _ _ _ _=>(TX (Cy K8 (BU (Hc K rfl) (pv 1) (pv 3) (fun _ _=>rfl)) BG (C6 _)) (pv 3) (CZ J6 (BU (Hc K rfl) (pv 1) (pv 3) (fun _ _=>rfl)) BG)))) (AH (FY Bg rfl (wu rfl T.QI (AA (pv 2) AD)) (YS rfl (G3 (Bj (i:=3) He.nd rfl (Ai rfl)) (G3 (Bj (i:=4) He.nd rfl (Ai rfl)) TY))) (AM (Cm (PW.pt (YO (Cy tP (pv 4) (pv 3) (C6 _)) (TV (FK (Ck (Aj (XY T) (hr.mono (by decide)) rfl T.Zp T.P8.kp T.Zo .nil Ay (AA (pv 0) (AA (pv 2) (AA (pv 3) (AA (pv 4) AD)))))))))) (AM (Am tI)) Bk))) (AM (Am (DZ Dz (by rfl) T.Ih HD (AA (pv 2) AD)))))),?_⟩;refine ⟨_,rfl,wa,_,_,_,_,rfl,h1,T.BP,T.Bh,Co _ _ _ _,_,rfl,by omega,by omega,fun D hD=>?_⟩;rw[A8];refine Fs (fun _=>true) (fun i y _=>y=vN (if row.getD i 0=0 then i else row.getD i 0-1)) (fun _ _ _ _ h _=>h) (by omega) hD (fun _=>rfl) ?_ ?_ ?_
  ·intro i H' Q' hi s' _ kk;exact kk H' (Aw.refl H')
  ·intro i H' Q' hi _ s' _ kk;have hg:row[i]?=some (row.getD i 0):=by
    rw[AQ,A5 (by omega),IX]
   refine ⟨_,rfl,_,rfl,la,_,_,_,rfl,rfl,Bq.of (hl.same s'),CQ hg,rfl,_,rfl,?_⟩;have e0:decide (vN (row.getD i 0)=V.int 0)=decide (row.getD i 0=0):=Gy _ 0;rw[e0]
   by_cases c:row.getD i 0=0
   ·rw[decide_eq_true c];refine Ca ⟨_,rfl,kk _ H' (Aw.refl H') ?_⟩;rw[if_pos c]
   ·rw[decide_eq_false c];refine Cz ⟨_,rfl,_,rfl,la,_,_,_,rfl,rfl,Bq.of (hl.same s'),CQ hg,_,_,rfl,rfl,kk _ H' (Aw.refl H') ?_⟩;rw[if_neg c];show V.int _=V.int _
    congr 1
    omega
  ·intro H1 ys s1 hy r;have e:=EI (f:=fun i=>if row.getD i 0=0 then i else row.getD i 0-1) r;rw[BZ.mpr (fun _ _=>rfl)]at e;have hq:LN H1 D (Vp w row):=by
    unfold LN;rw[hy,e];rfl
   have hlq:=UR w row;refine ⟨_,rfl,D,_,rfl,Bq.of hq,?_⟩;refine uB (K:=K) (a:=D) (xs:=nums (Vp w row)) (fun i σ H'=>Aw H1 H'/\(∃v3 v4,σ=[some (.ref wa),some (.ref la),some (.ref D),v3,v4])/\∀a,a<i->qz w (Vp w row) a=true) ⟨Aw.refl H1,⟨_,_,rfl⟩,fun a ha=>absurd ha (by omega)⟩ (fun i σ H' _ q=>Bq.of (hq.same q.1)) ?_ ?_
   ·rintro i x σ H' U hi ⟨s',⟨v3,v4,rfl⟩,C2⟩ hU;obtain ⟨y,hy2,rfl⟩:=MF hi;have hil:i<w.length:=by rw[<-hlq];exact (Ap.mp hy2).1
    have ey:A6 (Vp w row) i=y:=by
     have:=Cj (p:=Vp w row) (a:=i) (by omega)
     rw[hy2]at this;exact (Al this).symm
    have s2:Aw H1 (upd H' U (.tup [.int (i:Nat),vN y])):=s'.upd hU;refine ⟨U,_,rfl,DR.of AK,rfl,_,_,rfl,_,_,rfl,rfl,?_⟩;refine ⟨_,rfl,_,rfl,rfl,_,rfl,?_⟩;show if (!decide (vN y=vN i))=true then _ else _
    rw[Gy];have next:qz w (Vp w row) i=true->∀a,a<i+1->qz w (Vp w row) a=true:=fun h a ha=>by
     by_cases e:a=i
     ·rw[e];exact h
     ·exact C2 a (by omega)
    by_cases c:y=i
    ·rw[decide_eq_true c];refine Cz (Cz ⟨s2,⟨_,_,rfl⟩,next ?_⟩);unfold qz;rw[ey,decide_eq_true c];rfl
    ·rw[decide_eq_false c];refine Ca ⟨_,rfl,_,rfl,_,rfl,_,rfl,wa,D,w,Vp w row,i,y,rfl,hw.same (s1.trans s2),hq.same s2,hlq,hil,_,rfl,?_⟩;have eo:qz w (Vp w row) i=(decide (y<w.length)&&(decide (A6 (Vp w row) y=i)&&wd w i y)):=by
      unfold qz;rw[ey,decide_eq_false c,g6]
     rw[<-eo];cases ho:qz w (Vp w row) i with
     |true=>exact Cz ⟨s2,⟨_,_,rfl⟩,next ho⟩
     |false =>
      refine Ca (k2 ?_ _ (s1.trans s2));cases z:yN w (Vp w row) with
      |false=>rfl
      |true =>
       have:=Bc.mp z i (Ah.mpr hil)
       rw[ho]at this;cases this
   ·rintro σ H' ⟨s',⟨v3,v4,rfl⟩,C2⟩;rw[Bf,hlq]at C2;have z:yN w (Vp w row)=true:=Bc.mpr fun a ha=>C2 a (Ah.mp ha)
    refine ⟨_,rfl,D,_,rfl,.inl ⟨Bq.of (hq.same s'),fun u hu=>?_⟩⟩;exact k1 z u _ ((s1.trans s').upd hu) AK
end
open PySem PySem.Spec PyProof.Rows L2
theorem HP(l:List Nat):Paired (fun x z=>x=vN z) (nums l) l:=by
 induction l with
 |nil=>exact .nil
 |cons a l ih=>exact .cons rfl ih
theorem Qv(l:List Nat):nums l=(l.map fun (n:Nat)=>(n:Int)).map V.int:=by unfold nums;rw[Dd];rfl
theorem oU(s:Nat):(1:Int)*2 ^ ((s:Int)).toNat=((2 ^ s:Nat):Int):=by
 rw[A8,Int.one_mul,xn];rfl
theorem xO{c i:Nat}(h:c<2 ^ i):ag (c:Int) ((2 ^ i:Nat):Int)=((c+2 ^ i:Nat):Int):=by
 have e:c &&& 2 ^ i=0:=Nat.eq_of_testBit_eq fun j=>by
  rw[Nat.testBit_and,Nat.testBit_two_pow,Nat.zero_testBit]
  by_cases q:i=j
  ·subst q;rw[Nat.testBit_lt_two_pow h];rfl
  ·rw[decide_eq_false q,Q6]
 rw[bitOr_and,bitAnd_pp (by omega) (by omega),A8,A8,e];omega
theorem kG:∀(l:List Nat) (c:Nat),(((l.map fun s=>2 ^ s).map fun (n:Nat)=>(n:Int)).sum:Int)+(c:Int)=((V8 c l:Nat):Int)
 |[],c=>by simp
 |s::l,c=>by
  rw[Az,Az,List.sum_cons]
  have:=kG l (c+2 ^ s)
  show _=((V8 (c+2 ^ s) l:Nat):Int);rw[<-this];omega
section
variable {P:Program} {w:World} {K:AE} {mg:Str->Option Value} {base:Heap} {t:HU}
def mR:Sp:=fun vs H Q _=>∃(a:Addr) (l:List Nat),vs=[.ref a]/\LN H a l/\l.length<=6/\(∀s∈l,s<6)/\Ks (vN (Ek l)) H Q
theorem aH(T:Txt K mg t):Bv P w K mg base EE 1 t.VR t.VS dP mR:=by
 refine T.Vg.ok Rz (fun vs H Q E h=>?_) (fun cdv A outer s H vs Q E hr h=>?_)
 ·obtain ⟨a,l,rfl,_⟩:=h;rfl
 ·obtain ⟨a,l,rfl,ha,h6,hl,k⟩:=h;refine ⟨_,(AM (Am (Ba (zR rfl) (by rfl) T.ABf boot_sum (AA (HK rfl Rz.nd (DO (pv 0)) (show EH qF (AO U8) _ [("student",1)] from CL (by decide +kernel)) (fun _ _ _ _ _=>(Bj (i:=1) Rz.nd rfl (Ai rfl))) (fun _ _ _ _ _=>F4) (fun _ _ _ _ _=>(CZ tN BG (pv 1)))) AD)))),?_⟩;refine ⟨_,rfl,a,rfl,⟨_,Bq.of ha⟩,fun D hD=>?_⟩;refine E1 (zs:=l) (fun x z=>x=vN z) (fun _=>true) (fun z y _=>y=vN (2 ^ z)) (HP l) (fun _ _ _ _ h _=>h) (by omega) hD (Bq.of ha) (fun _=>rfl) ?_ ?_ ?_
  ·intro x z H' Q' _ _ s' _ kk;exact kk H' (Aw.refl H')
  ·rintro x z H' Q' hz rfl _ s' _ kk;have h2:=hl z hz;refine ⟨_,rfl,_,_,rfl,rfl,⟨by omega,by omega,by decide⟩,kk _ H' (Aw.refl H') ?_⟩;show V.int _=V.int _;rw[oU]
  ·intro H' ys s' hy r;rw[BZ.mpr (fun _ _=>rfl)]at r;have e:=NX r;rw[Qv]at e;refine ⟨D,_,rfl,Bq.of (by rw[hy,e]),?_⟩
   have:=kG l 0
   rw[Int.natCast_zero,Int.add_zero]at this;rw[this];exact k H' s'
def gi:Sp:=fun vs H Q _=>∃n:Nat,vs=[vN n]/\n<=6/\NW (Eb n) H Q
theorem gj(T:Txt K mg t):Bv P w K mg base EE 1 t.Pf t.Pg WS gi:=by
 refine T.Wm.ok Gn (fun vs H Q E h=>?_) (fun cdv A outer s H vs Q E hr h=>?_)
 ·obtain ⟨n,rfl,_⟩:=h;rfl
 ·obtain ⟨n,rfl,hn,k⟩:=h;refine ⟨_,(AH (BF (i:=1) Gn.nd rfl (Ai rfl) (BM (AA BG AD))) (AH (FY Bg rfl (EG rfl T.E4 (AA (pv 0) AD)) (Bj (i:=2) Gn.nd rfl (Ai rfl)) (AH (BF (i:=3) Gn.nd rfl (Ai rfl) (BM AD)) (AH (FY Bg rfl (DO (pv 1)) (Bj (i:=4) Gn.nd rfl (Ai rfl)) (AM (Cw (JZ BQ E9 FA MC (pv 3) (AA (BM (AA (pv 4) (AA (CZ ABC (pv 4) (CZ tN BG (pv 2))) AD))) AD))))) (AM (BF (i:=1) Gn.nd rfl (Ai rfl) (pv 3)))))) (AM (Am (pv 1))))),?_⟩;refine ⟨by show 1<=sizeLine;decide,fun F hF=>⟨_,rfl,_,rfl,by omega,by omega,?_⟩⟩;rw[A8];refine L9 (fun i σ H'=>Aw H H'/\(∃F v2 v3 v4,σ=[some (vN n),some (.ref F),v2,v3,v4]/\H F=none/\LN H' F (Eb i))) ⟨As hF,F,none,none,none,rfl,hF,AK⟩ ?_ ?_
  ·rintro i σ H' hi ⟨s',F,v2,v3,v4,rfl,hF0,hF'⟩;have e0:(V.int (0+(i:Int)))=vN i:=by rw[OV]
   rw[e0];refine ⟨Bb _,fun G hG=>?_⟩;have nFG:F≠G:=Af hF' hG;refine ⟨_,rfl,F,rfl,⟨_,Bq.of (by rw[A2 nFG];exact hF')⟩,?_⟩;refine G4 (K:=K) (a:=F) (xs:=nums (Eb i)) (fun j σ H2=>Aw H H2/\Aw H' H2/\(∃v4,σ=[some (vN n),some (.ref F),some (vN i),some (.ref G),v4])/\LN H2 G (((Eb i).take j).flatMap fun c=>[c,c+2 ^ i]))
    ⟨s'.upd hG,As hG,⟨_,rfl⟩,AK⟩ (fun j σ H2 _ q=>Bq.of (q.2.1 _ _ hF')) ?_ ?_
   ·rintro j x σ H2 hj ⟨s3,s4,⟨v4',rfl⟩,hG'⟩;obtain ⟨c,hc,rfl⟩:=MF hj;have hlt:=cI i c (Ar hc);refine ⟨_,rfl,.inl ⟨rfl,_,Bq.of hG'⟩,_,rfl,_,rfl,_,rfl,_,_,rfl,rfl,⟨by omega,by omega,by decide⟩,_,_,rfl,rfl,?_⟩;have eo:V.int (ag (c:Int) ((1:Int)*2 ^ ((i:Int)).toNat))=vN (c+2 ^ i):=by
     show V.int _=V.int _;rw[oU,xO hlt]
    dsimp only;rw[eo];refine ⟨by show 2<=sizeLine;decide,fun u hu=>?_⟩;have hG2:(upd H2 u (.lst [vN c,vN (c+2 ^ i)])) G=some (.lst (nums (((Eb i).take j).flatMap fun c=>[c,c+2 ^ i]))):=by rw[A2 (Af hG' hu)];exact hG'
    refine ⟨G,u,_,_,rfl,rfl,hG2,AK,?_,?_⟩
    ·rw[Bf];have z1:=JU (fun c=>[c,c+2 ^ i]) (Eb i) j;have z2:((Eb i).flatMap fun c=>[c,c+2 ^ i]).length=2 ^ (i+1):=by rw[<-K7,Rn]
     have z3:2 ^ (i+1)<=2 ^ 6:=Gv (by omega) (by omega);exact small (by show _+2<=_;omega)
    ·refine ⟨(s3.upd hu).put (s'.free hG),(s4.upd hu).put hG,⟨_,rfl⟩,?_⟩;rw[take_snoc hc,Dl,Br];show upd _ G _ G=_;rw[AK];exact congrArg (fun z=>some (HO.lst z)) (Il _ [c,c+2 ^ i])
   ·rintro σ H2 ⟨s3,s4,⟨v4',rfl⟩,hL⟩;rw[Bf,B9,<-K7]at hL;exact ⟨_,rfl,s3,G,_,_,_,rfl,s'.free hG,hL⟩
  ·rintro σ H' ⟨s',F,v2,v3,v4,rfl,hF0,hL⟩;exact ⟨_,rfl,k F H' s' hF0 hL⟩
def aI:Sp:=fun vs H Q _=>∃n c:Nat,vs=[vN n,vN c]/\n<=6/\NW (GO n c) H Q
theorem aJ(T:Txt K mg t):Bv P w K mg base EE 1 t.Lk t.Ll RL aI:=by
 refine T.RX.ok KL (fun vs H Q E h=>?_) (fun cdv A outer s H vs Q E hr h=>?_)
 ·obtain ⟨n,c,rfl,_⟩:=h;rfl
 ·obtain ⟨n,c,rfl,hn,k⟩:=h;refine ⟨_,(AM (Am (HK rfl KL.nd (EG rfl T.E4 (AA (pv 0) AD)) (show EH bK (AO LY) _ [("student",2)] from CL (by decide +kernel)) (fun _ _ _ _ _=>(Bj (i:=2) KL.nd rfl (Ai rfl))) (fun _ _ _ _ _=>(FZ (Cy K8 (CZ zG (CZ zF (pv 1) (pv 2)) BG) BG (C6 _)))) (fun _ _ _ _ _=>(pv 2))))),?_⟩;refine ⟨_,rfl,_,rfl,by omega,by omega,fun D hD=>?_⟩;rw[A8];refine Fs (fun i=>(c / 2 ^ i) % 2 == 0) (fun i y _=>y=vN i) (fun _ _ _ _ h _=>h) (by omega) hD (fun _=>rfl) ?_ ?_ ?_
  ·intro i H' Q' hi s' _ kk;refine ⟨_,rfl,_,rfl,_,_,rfl,rfl,by omega,_,_,rfl,rfl,rfl,_,rfl,?_⟩;have e:decide (V.int (OS ((c:Int) / 2 ^ ((i:Int)).toNat) 1)=V.int 0)=((c / 2 ^ i) % 2 == 0):=by
    have e1:OS ((c:Int) / 2 ^ ((i:Int)).toNat) 1=(((c / 2 ^ i) % 2:Nat):Int):=by
     rw[bitAnd_m1,A8]
     have:(2:Int) ^ i=((2 ^ i:Nat):Int):=by rw[xn];rfl
     rw[this];omega
    rw[e1];show decide (vN _=vN 0)=_;rw[Gy]
    by_cases q:(c / 2 ^ i) % 2=0
    ·rw[decide_eq_true q,q];rfl
    ·rw[decide_eq_false q];exact (beq_eq_false_iff_ne.mpr q).symm
   rw[e];exact kk H' (Aw.refl H')
  ·intro i H' Q' hi hf s' _ kk;exact ⟨_,rfl,kk _ H' (Aw.refl H') rfl⟩
  ·intro H' ys s' hy r;have e:=EI (f:=fun i=>i) r;rw[EY]at e;exact k D H' s' hD (by unfold LN;rw[hy,e];rfl)
def bX(C:Addr):Sp:=fun vs H Q _=>∃(wa la:Addr) (w:List (List Nat)) (l:List Nat),vs=[.ref wa,.ref la]/\B4 C H wa w/\Eg w/\LN H la l/\l.length<=6/\(∀x∈l,x<w.length)/\NW (l.map (A6 (names w l))) H Q
theorem bY(T:Txt K mg t):Bv P w K mg base EE 1 t.NF t.NG Tw (bX t.A7):=by
 refine T.UD.ok DB (fun vs H Q E h=>?_) (fun cdv A outer s H vs Q E hr h=>?_)
 ·obtain ⟨wa,la,w,l,rfl,_⟩:=h;rfl
 ·obtain ⟨wa,la,w,l,rfl,hw,W,hl,hl6,hlt,k⟩:=h;obtain ⟨dx,lsa,ra,ta,h1,_⟩:=id hw;have h6:=W.len;refine ⟨_,(AH (BF (i:=2) DB.nd rfl (HI rfl) (DZ (bH rfl) (by rfl) T.Z9 eg (AA (ck rfl T.E4 (AA (Ao (pv 0) rfl) AD)) AD))) (AH (FY Bg rfl (DO (Ao (pv 0) rfl)) (YS rfl (G3 (Bj (i:=3) DB.nd rfl (Ai rfl)) (G3 (Bj (i:=4) DB.nd rfl (Ai rfl)) TY))) (AM (Cm (PW.pt (YO (Cy Ju (pv 3) (pv 1) (by with_unfolding_all rfl)) (TV (Cy Ju (pv 4) (pv 1) (by with_unfolding_all rfl))))) (AH (BF (i:=5) DB.nd rfl (HI rfl) (BU Be (pv 2) (pv 3) (fun _ _=>rfl))) (AH (BF (i:=6) DB.nd rfl (HI rfl) (BU Be (pv 2) (pv 4) (fun _ _=>rfl))) (AM (BF (i:=2) DB.nd rfl (HI rfl) (HK rfl DB.nd (DO (pv 2)) (show EH Tv (AO Jm) _ [("name",7)] from CL (by decide +kernel)) (fun _ _ _ _ _=>(Bj (i:=7) DB.nd rfl (Ai rfl))) (fun _ _ _ _ _=>F4) (fun _ _ _ _ _=>(TX (Cy K8 (pv 7) (pv 6) (C6 _)) (pv 5) (pv 7)))))))) Bk))) (AM (Am (HK rfl DB.nd (DO (pv 1)) (show EH Tv (AO Jm) _ [("student",8)] from CL (by decide +kernel)) (fun _ _ _ _ _=>(Bj (i:=8) DB.nd rfl (Ai rfl))) (fun _ _ _ _ _=>F4) (fun _ _ _ _ _=>(BU (Hc K rfl) (pv 2) (pv 8) (fun _ _=>rfl)))))))),?_⟩;refine ⟨_,rfl,wa,_,_,_,_,rfl,h1,T.BP,T.Bh,Co _ _ _ _,_,rfl,by omega,by omega,fun r hr=>⟨r,w.length,rfl,AK,by omega,fun N0 hN0=>?_⟩⟩;have s1:Aw H (upd (upd H r (.xt 0 (w.length:Int))) N0 (.lst ((AF w.length).map fun (i:Nat)=>V.int (i:Int)))):=(As hr).upd hN0;obtain ⟨dx1,lsa1,ra1,ta1,g1,g2,g3,ts,g4,g5⟩:=hw.same s1;refine ⟨_,rfl,wa,_,_,_,_,rfl,g1,T.BP,T.G7,To _ _ _ _,ta1,rfl,⟨_,Bq.of g4⟩,?_⟩;have hN00:H N0=none:=(As hr).free hN0;have htaH:∀H',Aw H H'->H' ta1=some (.lst (ts.map V.ref))/\Paired (U2 H') ts (Gx w):=fun H' s'=>by
   obtain ⟨dx0,la0,ra0,ta0,e1,e2,e3,ts0,e4,e5⟩:=id hw
   have:=s1 _ _ e1
   rw[g1]at this;cases this;have e6:=s1 _ _ e4;rw[g4]at e6;have e7:ts.map V.ref=ts0.map V.ref:=by
    have e6:=Al e6;injection e6
   have hts:ts=ts0:=(List.map_inj_right (fun a b z=>by injection z)).mp e7;subst hts;exact ⟨s' _ _ e4,Ad e5 fun _ _ z=>z.same s'⟩
  refine G4 (K:=K) (a:=ta1) (xs:=ts.map V.ref) (fun i σ H'=>Aw H H'/\∃N v3 v4 v5 v6 v7 v8,σ=[some (.ref wa),some (.ref la),some (.ref N),v3,v4,v5,v6,v7,v8]/\H N=none/\LN H' N (((Gx w).take i).foldl (nameStep l) (AF w.length)))
   ⟨s1,N0,none,none,none,none,none,none,rfl,hN00,AK⟩ (fun i σ H' _ q=>Bq.of (htaH H' q.1).1) ?_ ?_
  ·rintro i x σ H' hi ⟨s',N,v3,v4,v5,v6,v7,v8,rfl,hNn,hN⟩;rw[BH]at hi;obtain ⟨b,hb,rfl⟩:=CN.mp hi;obtain ⟨q,hq,h2'⟩:=Dg (htaH H' s').2 hb;obtain ⟨l1,l2,l3,l4⟩:=Xo (Ar hq);have hl':=hl.same s';have lnm:(((Gx w).take i).foldl (nameStep l) (AF w.length)).length=w.length:=(Nm.fold hlt _ _ (.first hlt)).len;rw[take_snoc hq,EK];revert lnm hN;generalize ((Gx w).take i).foldl (nameStep l) (AF w.length)=nm;intro hN lnm;refine ⟨b,_,rfl,DR.of h2',rfl,_,_,rfl,_,_,rfl,rfl,?_⟩;refine ⟨_,rfl,_,rfl,la,_,rfl,.inl (Bq.of hl'),rfl,HL _,_,rfl,?_⟩;show if rS (vN q.1) (nums l)=true then _ else _
   rw[Im];cases c1:l.contains q.1 with
   |false =>
    refine Cz (Cz ⟨s',N,_,_,_,_,_,_,rfl,hNn,?_⟩);show LN H' N (nameStep l nm q);unfold nameStep;rw[if_neg (fun z=>by rw[c1]at z;cases z.1)];exact hN
   |true =>
    refine Ca ⟨_,rfl,_,rfl,la,_,rfl,.inl (Bq.of hl'),rfl,HL _,_,rfl,?_⟩;show if rS (vN q.2) (nums l)=true then _ else _
    rw[Im];cases c2:l.contains q.2 with
    |false =>
     refine Cz ⟨s',N,_,_,_,_,_,_,rfl,hNn,?_⟩;show LN H' N (nameStep l nm q);unfold nameStep;rw[if_neg (fun z=>by rw[c2]at z;cases z.2)];exact hN
    |true =>
     refine Ca ⟨_,rfl,_,rfl,N,_,_,_,rfl,rfl,Bq.of hN,CQ (Cj (by omega)),?_⟩;refine ⟨_,rfl,_,rfl,N,_,_,_,rfl,rfl,Bq.of hN,CQ (Cj (by omega)),?_⟩;refine ⟨_,rfl,N,rfl,⟨_,Bq.of hN⟩,fun D hD=>?_⟩;refine E1 (zs:=nm) (fun x z=>x=vN z) (fun _=>true) (fun z y _=>y=vN (if z=A6 nm q.2 then A6 nm q.1 else z)) (HP nm) (fun _ _ _ _ h _=>h) (by omega) hD (Bq.of hN) (fun _=>rfl) ?_ ?_ ?_
     ·intro x z H2 Q' _ _ s2 _ kk;exact kk H2 (Aw.refl H2)
     ·rintro x z H2 Q' hz rfl _ s2 _ kk;refine ⟨_,rfl,_,rfl,rfl,_,rfl,?_⟩;rw[Gy]
      by_cases c:z=A6 nm q.2
      ·rw[decide_eq_true c];refine Ca ⟨_,rfl,kk _ H2 (Aw.refl H2) ?_⟩;rw[if_pos c]
      ·rw[decide_eq_false c];refine Cz ⟨_,rfl,kk _ H2 (Aw.refl H2) ?_⟩;rw[if_neg c]
     ·intro H2 ys s2 hy r2;rw[BZ.mpr (fun _ _=>rfl)]at r2;have e:=EI r2;refine ⟨s'.trans s2,D,_,_,_,_,_,_,rfl,s'.free hD,?_⟩;show LN H2 D (nameStep l nm q);unfold nameStep;rw[if_pos ⟨c1,c2⟩];unfold LN relabel;rw[hy,e]
  ·rintro σ H' ⟨s',N,v3,v4,v5,v6,v7,v8,rfl,hNn,hN⟩;have lnm:(names w l).length=w.length:=(Nm.fold hlt (Gx w) _ (.first hlt)).len;rw[AB,AX g5,B9]at hN;have hN:LN H' N (names w l):=hN;have hl':=hl.same s';refine ⟨_,rfl,la,rfl,⟨_,Bq.of hl'⟩,fun D hD=>?_⟩;refine E1 (zs:=l) (fun x z=>x=vN z) (fun _=>true) (fun z y _=>y=vN (A6 (names w l) z)) (HP l) (fun _ _ _ _ h _=>h) (by omega) hD (Bq.of hl') (fun _=>rfl) ?_ ?_ ?_
   ·intro x z H2 Q' _ _ s2 _ kk;exact kk H2 (Aw.refl H2)
   ·rintro x z H2 Q' hz rfl _ s2 _ kk
    have:=hlt z hz
    exact ⟨_,rfl,_,rfl,N,_,_,_,rfl,rfl,Bq.of (hN.same s2),CQ (Cj (by omega)),kk _ H2 (Aw.refl H2) rfl⟩
   ·intro H2 ys s2 hy r2;rw[BZ.mpr (fun _ _=>rfl)]at r2;have e:=EI r2;exact k D H2 (s'.trans s2) (s'.free hD) (by unfold LN;rw[hy,e])
end
end SH
namespace L2
open PySem PySem.Spec PyProof.Rows
theorem EO.okC{P:Program}{w:World}{K:AE}{mg:Str->Option Value}{base:Heap}{x qual:Str}{st:Stmt}{f:Addr}{fd:FuncData}{N ps:List Str}{k:Nat}{sp:Sp}(F:EO K x qual st f fd)(S:Au N ps (AO st))(len:∀vs H Q E,sp vs H Q E->vs.length=ps.length)
  (hbody:∀(cdv:Value) (A:Around) (outer:List Env) (s:Shared) (H:Hp) (vs:List V) (Q:VK) (E:XK),fd.code=cdv->GB k (A.deeper (envOfC qual (AO st) s.heap.objs.size f cdv))->sp vs H Q E ->
   ∃t,nc (lP EE P w K mg base N qual (AO st) f cdv A outer s H E).vL (Qg st) t/\t { nx:=fun _ H'=>Q .Ft H',rt:=Q } (start N vs) H):Bv P w K mg base EE (k+1) f fd ps sp:=by
 obtain ⟨oc,od,kV,doc,pm,an,cdv,ct,osl,rfl,lk,hcd⟩:=F.ex;refine yC lk hcd S len fun A outer s H vs Q E hr hsp=>?_
 obtain ⟨t,h,q⟩:=hbody cdv A outer s H vs Q E rfl hr hsp;exact ⟨t,h.vL,q⟩
end L2
namespace SH
open PySem PySem.Spec PyProof.Rows L2
theorem mT(a b:Nat):km (vN a) (vN b)=(a==b):=by
 show ((a:Int)==(b:Int))=(a==b)
 by_cases e:a=b
 ·subst e;simp
 ·have e2:¬(a:Int)=(b:Int):=by omega
  rw[beq_eq_false_iff_ne.mpr e,beq_eq_false_iff_ne.mpr e2]
theorem mU(l:List Nat)(b:Nat):(nums l).countP (fun z=>km z (vN b))=l.count b:=by
 unfold nums ABl;rw[vT];refine List.countP_congr fun x _=>?_
 show km (vN x) (vN b)=true ↔ _;rw[mT]
theorem mV(n c:Nat):(GO n c).length<=n:=AY (Ax _ _) (by simp)
def q0(T:Addr)(H H':Hp):Prop:=∀b o,b≠T->H b=some o->H' b=some o
theorem TN.tx{T a:Addr}{H H':Hp}{l:List Nat}{q:Array Value}(h:TN H a l)(hT:H T=some (.Jt q))(s:q0 T H H'):TN H' a l:=s _ _ (CI h hT (fun z=>nomatch z)) h
theorem LN.tx{T a:Addr}{H H':Hp}{l:List Nat}{q:Array Value}(h:LN H a l)(hT:H T=some (.Jt q))(s:q0 T H H'):LN H' a l:=s _ _ (CI h hT (fun z=>nomatch z)) h
theorem U2.tx{T a:Addr}{H H':Hp}{l:Nat×Nat}{q:Array Value}(h:U2 H a l)(hT:H T=some (.Jt q))(s:q0 T H H'):U2 H' a l:=s _ _ (CI h hT (fun z=>nomatch z)) h
theorem B4.tx{C T a:Addr}{H H':Hp}{w:List (List Nat)}{q:Array Value}(h:B4 C H a w)(hT:H T=some (.Jt q))(s:q0 T H H'):B4 C H' a w:=by
 obtain ⟨dx,la,ra,ta,h1,⟨as,h2,h2'⟩,⟨bs,h3,h3'⟩,⟨cs,h4,h4'⟩⟩:=h;exact ⟨dx,la,ra,ta,s _ _ (CI h1 hT (fun z=>nomatch z)) h1,⟨as,s _ _ (CI h2 hT (fun z=>nomatch z)) h2,Ad h2' fun _ _ r=>r.tx hT s⟩,⟨bs,s _ _ (CI h3 hT (fun z=>nomatch z)) h3,Ad h3' fun _ _ r=>r.tx hT s⟩,⟨cs,s _ _ (CI h4 hT (fun z=>nomatch z)) h4,Ad h4' fun _ _ r=>r.tx hT s⟩⟩
theorem _root_.L2.HM.at{H:Hp}{T:Addr}{pos:Pos}{qual:Str}(h:HM H T pos qual):∃q,H T=some (.Jt q):=by
 rcases h with h|⟨c',h,_⟩
 ·exact ⟨_,h⟩
 ·exact ⟨_,h⟩
section
variable {P:Program} {w:World} {K:AE} {mg:Str->Option Value} {base:Heap} {t:HU}
def bZ(C:Addr):Sp:=fun vs H Q _=>∃(wa:Addr) (w:List (List Nat)) (c:Nat),vs=[.ref wa,vN c]/\B4 C H wa w/\Eg w/\Ks (.int (Od w c)) H Q
theorem Rg(T:Txt K mg t):Bv P w K mg base EE 2 t.NH t.NI Tx (bZ t.A7):=by
 refine T.NV.ok G5 (fun vs H Q E h=>?_) (fun cdv A outer s H vs Q E hr h=>?_)
 ·obtain ⟨wa,w,c,rfl,_⟩:=h;rfl
 ·obtain ⟨wa,w,c,rfl,hw,W,k⟩:=h;obtain ⟨dx,lsa,ra,ta,h1,_⟩:=id hw;have h6:=W.len;have hl6:=mV w.length c;refine ⟨_,(AH (BF (i:=2) G5.nd rfl (Ai rfl) (Aj (aJ T) (hr.mono (by decide)) rfl T.bP T.RX.kp T.bO .nil Ay (AA (Ao (pv 0) rfl) (AA (pv 1) AD)))) (AH (BF (i:=3) G5.nd rfl (HI rfl) (Aj (bY T) (hr.mono (by decide)) rfl T.gM T.UD.kp T.gL .nil Ay (AA (pv 0) (AA (pv 2) AD)))) (AH (Hb (i:=4) rfl G5.nd rfl rfl (Jk rfl rfl rfl rfl) (DO (pv 2)) (show EH gD (AO NB) _ [("student",5)] from CL (by decide +kernel)) (fun _ _ _ _ _=>(Bj (i:=5) G5.nd rfl (Ai rfl))) (fun _ _ _ _ _=>(FZ (Cy K8 (CZ zE (zm K rfl BQ bu PySem.F.type_list_count (qC K rfl) (pv 3) (AA (pv 5) AD)) BG) BG (C6 _)))) (fun _ _ _ _ _=>(pv 5))) (AM (Am (CZ J6 (Ba A4 (by rfl) T.C7 An (AA (pv 4) AD)) (CZ J6 (Ao (pv 0) rfl) (Ba A4 (by rfl) T.C7 An (AA (pv 2) AD))))))))),?_⟩;refine ⟨_,rfl,wa,_,_,_,_,rfl,h1,T.BP,T.Bh,Co _ _ _ _,_,rfl,w.length,c,rfl,h6,fun L H1 s1 hL0 hL=>?_⟩;refine ⟨_,rfl,_,rfl,wa,L,w,GO w.length c,rfl,hw.same s1,W,hL,by omega,cK _ _,fun N H2 s2 hN0 hN=>?_⟩;have hL2:=hL.same s2;refine ⟨_,rfl,L,rfl,⟨_,Bq.of hL2⟩,fun D hD=>?_⟩;refine E1 (zs:=GO w.length c) (fun x z=>x=vN z) (fun s=>((GO w.length c).map (A6 (names w (GO w.length c)))).count s % 2 == 1) (fun z y _=>y=vN z) (HP _) (fun _ _ _ _ h _=>h) (by omega) hD (Bq.of hL2) (fun _=>rfl) ?_ ?_ ?_
  ·rintro x z H' Q' hz rfl s' _ kk;refine ⟨_,rfl,.inl ⟨rfl,_,Bq.of (hN.same s')⟩,_,rfl,N,_,_,rfl,rfl,Bq.of (hN.same s'),rfl,HL _,_,_,rfl,rfl,by show (0:Int)<2;decide,rfl,_,rfl,?_⟩;rw[mU];have e:decide (V.int (((((GO w.length c).map (A6 (names w (GO w.length c)))).count z:Nat):Int) % 2)=V.int 1)=(((GO w.length c).map (A6 (names w (GO w.length c)))).count z % 2 == 1):=by
    generalize ((GO w.length c).map (A6 (names w (GO w.length c)))).count z=m;have e1:((m:Int) % 2)=((m % 2:Nat):Int):=by omega
    rw[e1];show decide (vN _=vN 1)=_;rw[Gy]
    by_cases q:m % 2=1
    ·rw[decide_eq_true q,q];rfl
    ·rw[decide_eq_false q];exact (beq_eq_false_iff_ne.mpr q).symm
   rw[e];exact kk H' (Aw.refl H')
  ·rintro x z H' Q' hz rfl hf s' _ kk;exact ⟨_,rfl,kk _ H' (Aw.refl H') rfl⟩
  ·intro H' ys s' hy r;have e:=EI (f:=fun i=>i) r;rw[EY]at e;obtain ⟨dx2,lsa2,ra2,ta2,g1,_⟩:=hw.same ((s1.trans s2).trans s');refine ⟨_,rfl,D,_,rfl,.inl (Bq.of hy),_,rfl,wa,_,_,_,_,rfl,g1,T.BP,T.Bh,Co _ _ _ _,_,rfl,L,_,rfl,.inl (Bq.of (hL2.same s')),_,_,rfl,rfl,_,_,rfl,rfl,?_⟩
   have:=k H' ((s1.trans s2).trans s')
   rw[e,Bf,Bf];exact this
def ABg(T:Addr)(pos:Pos)(qual:Str)(v:V)(H:Hp)(Q:VK):Prop:=∀H',(∀b o,b≠T->H b=some o->H' b=some o)->HM H' T pos qual->Q v H'
theorem fold_cast(k:Nat->Int)(kf:Int->Int)(h:∀n:Nat,kf (n:Int)=k n):∀(l:List Nat) (a:Nat),(l.map fun (n:Nat)=>(n:Int)).foldl (fun r t=>if kf r<kf t then t else r) (a:Int)=((l.foldl (fun r t=>if k r<k t then t else r) a:Nat):Int)
 |[],a=>rfl
 |x::l,a=>by
  rw[Az,BI,BI,h,h]
  split
  ·exact fold_cast k kf h l x
  ·exact fold_cast k kf h l a
theorem uq(k:Nat->Int)(kf:Int->Int)(h:∀n:Nat,kf (n:Int)=k n):∀(l:List Nat),mxI kf (l.map fun (n:Nat)=>(n:Int))=((J5 k l:Nat):Int)
 |[]=>rfl
 |x::l=>fold_cast k kf h l x
def OH(t:HU):Sp:=fun vs H Q _=>∃(wa:Addr) (w:List (List Nat)),vs=[.ref wa]/\B4 t.A7 H wa w/\Eg w/\HM H t.B8 Fw Fx /\
 ABg t.B8 Fw Fx (vN (J5 (Od w) (Eb w.length))) H Q
theorem OI(T:Txt K mg t)(B:U4 mg base):Bv P w K mg base EE 5 t.GW t.E2 Iu (OH t):=by
 refine T.Iy.okC OB (fun vs H Q E h=>?_) (fun cdv A outer s H vs Q E hcd hr h=>?_)
 ·obtain ⟨wa,w,rfl,_⟩:=h;rfl
 ·obtain ⟨wa,w,rfl,hw,W,hT,k⟩:=h;have ec:cdv=.ref t.EB:=hcd.symm.trans T.IE;subst ec;obtain ⟨dx,lsa,ra,ta,h1,_⟩:=id hw;have h6:=W.len;refine ⟨_,AM (Am (jG zi (k:=2) (i:=0) (x := "chosen") (y := "wishes") (T:=t.B8) (c:=t.EB) rfl rfl T.yL B rfl T.OF ⟨rfl,rfl,rfl,by decide +kernel,rfl,rfl,by decide +kernel,by decide +kernel⟩ (hr.mono (by decide)) rfl rfl rfl rfl rfl rfl (fun _ _ _ _=>rfl)
   (AA (Aj (gj T) (hr.mono (by decide)) rfl T.jo T.Wm.kp T.jn .nil Ay (AA (Ao (pv 0) rfl) AD)) AD)
   (fun A s H f cd r=>Aj (Rg T) (r.mono (by decide)) rfl T.UG T.NV.kp T.UE .nil Ay (AA (pv 1) (AA (pv 0) AD))))),?_⟩
  refine ⟨_,rfl,wa,_,_,_,_,rfl,h1,T.BP,T.Bh,Co _ _ _ _,w.length,rfl,h6,fun F H1 s1 hF0 hF=>?_⟩;refine ⟨F,(Eb w.length).map (fun (n:Nat)=>(n:Int)),.ref wa,fun z=>Od w z.toNat,rfl,by rw[<-Qv];exact hF,?_,rfl,hT.same s1,fun H2 g1 g2=>⟨fun n hn H3 s3=>?_,fun H' s'=>?_⟩⟩
  ·intro e
   have:=congrArg HW e
   rw[AB,Rn,DJ]at this
   have:=aZ w.length
   omega
  ·obtain ⟨m,_,rfl⟩:=BE.mp hn;obtain ⟨q,hq⟩:=(hT.same s1).at;have hw2:B4 t.A7 H2 wa w:=(hw.same s1).tx hq g1;exact ⟨_,rfl,_,rfl,wa,w,m,rfl,hw2.same s3,W,fun H4 s4=>⟨by dsimp only;rw[A8],s4⟩⟩
  ·have e:=uq (Od w) (fun z=>Od w z.toNat) (fun n=>by rw[A8]) (Eb w.length);rw[e];exact k H' (fun b o hb e=>s' _ _ (g1 b o hb (s1 _ _ e))) (g2.same s')
end
open PySem PySem.Spec PyProof.Rows L2
theorem oV(a b:Nat):decide (vN a=V.int (b:Int))=decide (a=b):=Gy a b
section
variable {P:Program} {w:World} {K:AE} {mg:Str->Option Value} {base:Heap} {t:HU}
def ur(C:Addr):Sp:=fun vs H Q _=>∃(wa na:Addr) (w:List (List Nat)) (pre:List Nat) (x:Nat),vs=[.ref wa,.ref na,vN x]/\B4 C H wa w/\TN H na pre/\pre.length<w.length/\(∀y∈pre,y<w.length)/\x<w.length/\Q (.bl (HJ w pre x)) H
theorem uu(T:Txt K mg t):Bv P w K mg base EE 3 t.gJ t.gK oM (ur t.A7):=by
 refine T.oP.ok jT (fun vs H Q E h=>?_) (fun cdv A outer s H vs Q E hr h=>?_)
 ·obtain ⟨wa,na,w,pre,x,rfl,_⟩:=h;rfl
 ·obtain ⟨wa,na,w,pre,x,rfl,hw,hn,hl,hy,hx,k⟩:=h;obtain ⟨dx,lsa,ra,ta,h1,_⟩:=id hw;have no:∀m:Str,¬m = "lists" -> ¬m = "number" -> ¬m = "ranks" -> ¬m = "twos" -> (wF lsa w.length ra ta).lookup m=none:=fun m=>Tp _ _ _ _
  unfold HJ at k;refine ⟨_,(AH (BF (i:=3) jT.nd rfl (Ai rfl) (Ba A4 (by rfl) T.C7 An (AA (pv 1) AD))) (AH (Cm (Cy Ju (pv 2) (pv 1) (by with_unfolding_all rfl)) (AM (Am Og)) Bk) (AH (Cm (Cy K8 (pv 2) (pv 3) (C6 _)) (AM (Am Og)) Bk) (AH (Cm (FK (Ck (CV (pv 0) T.BP T.Ho (HB T) (hr.mono (by decide)) T.Hn .nil Ay (AA (pv 3) (AA (pv 2) AD))))) (AM (Am Og)) Bk) (AH (Cm (PW.pt (YO (Cy YX (pv 2) (pv 3) (C6 _)) (TV (Ck (CV (pv 0) T.BP T.Nz (Mg T) (hr.mono (by decide)) T.Ny .nil Ay (AA (pv 2) (AA (pv 3) (AA (BU CU (pv 1) (pv 2) (fun _ _=>rfl)) AD)))))))) (AM (Am Og)) Bk) (AM (Am (AA5 (HZ fj (pv 3) (pv 1) (by with_unfolding_all rfl)) (fU (tL (CV (pv 0) T.BP T.Nz (Mg T) (hr.mono (by decide)) T.Ny .nil Ay (AA (pv 3) (AA (JZ PySem.F.plainAttrs_tuple aj PySem.F.type_tuple_index (qB) (pv 1) (AA (pv 3) AD)) (AA (pv 2) AD)))))))))))))),?_⟩;refine ⟨_,rfl,na,_,rfl,.inr (DR.of hn),?_⟩;rw[Bf];refine ⟨_,rfl,_,rfl,na,_,rfl,.inr (DR.of hn),rfl,HL _,_,rfl,?_⟩;show if rS (vN x) (nums pre)=true then _ else _
  rw[Im];cases c1:pre.contains x with
  |true =>
   rw[c1,if_pos rfl]at k;exact Ca k
  |false =>
   rw[c1,if_neg AZ]at k;refine Cz ⟨_,rfl,_,rfl,rfl,_,rfl,?_⟩;rw[oV]
   by_cases c2:x=pre.length
   ·rw[decide_eq_true c2];rw[if_pos c2]at k;exact Ca k
   rw[decide_eq_false c2];rw[if_neg c2]at k;refine Cz ⟨_,rfl,wa,_,_,rfl,h1,no _ (by decide +kernel) (by decide +kernel) (by decide +kernel) (by decide +kernel),_,rfl,_,rfl,wa,w,pre.length,x,rfl,hw,hl,hx,_,rfl,?_⟩;cases c3:wd w pre.length x with
   |false =>
    rw[if_pos c3]at k;exact Ca k
   |true =>
    rw[if_neg (by rw[c3];exact Bn)]at k;refine Cz ⟨_,rfl,_,rfl,_,_,rfl,rfl,_,rfl,?_⟩;rw[dec_lt];have fin:(¬(x<pre.length/\rk w x pre.length<rk w x (pre.getD x 0)))->Q (.bl ((!pre.contains pre.length) || !decide (rk w pre.length (pre.findIdx fun y=>y==pre.length)<rk w pre.length x))) H:=fun c4=>by
     rw[if_neg c4]at k;exact k
    have tail:¬(x<pre.length/\rk w x pre.length<rk w x (pre.getD x 0))->yz (AA4 (tOp (rIn K true) (TU 3) (TU 1)) (xw (nr t.A7 "rather" (aB t.A7) [] E0 (TU 0) (RE (TU 3) (RE (tBM K "tuple" (oG K) (TU 1) (RE (TU 3) iw)) (RE (TU 2) iw)))))) { nx:=fun _ H'=>Q .Ft H',rt:=Q }
      [some (V.ref wa),some (V.ref na),some (vN x),some (V.int (pre.length:Int))] H:=fun c4=>by
     have k:=fin c4;refine ⟨_,rfl,_,rfl,na,_,rfl,.inr (DR.of hn),rfl,HL _,_,rfl,?_⟩;show if (!rS (vN pre.length) (nums pre))=true then _ else _
     rw[Im];cases c5:pre.contains pre.length with
     |false =>
      rw[c5]at k;exact Ca k
     |true =>
      rw[c5]at k;have hm:=AN.mp c5;have hi:=FC hm;have hg:(pre.findIdx fun y=>y==pre.length)<w.length:=by omega
      have e1:pre[pre.findIdx fun y=>y==pre.length]?=some pre.length:=by
       rw[A5 hi]
       have:=Gq (xs:=pre) (p:=fun y=>y==pre.length) (w:=hi)
       have:pre[pre.findIdx fun y=>y==pre.length]'hi=pre.length:=by simpa using this
       rw[this]
      refine Cz ⟨_,rfl,wa,_,_,rfl,h1,no _ (by decide +kernel) (by decide +kernel) (by decide +kernel) (by decide +kernel),_,rfl,_,rfl,.inr (.inl ⟨rfl,.inr ⟨_,hn⟩⟩),_,rfl,na,nums pre,vN pre.length,pre.findIdx fun y=>y==pre.length,vN pre.length,rfl,rfl,DR.of hn,rfl,HL _,Yu e1,?_,fun m z' hm' hz'=>?_,_,rfl,?_⟩
      ·rw[mT];simp
      ·obtain ⟨y,hy',rfl⟩:=MF hz';rw[mT]
       have:=List.not_of_lt_findIdx hm'
       obtain ⟨hml,hme⟩:=Ap.mp hy';rw[hme]at this;simpa using this
      ·exact ⟨wa,w,pre.length,_,x,rfl,hw,hl,hg,hx,_,rfl,k⟩
    by_cases c4:x<pre.length
    ·rw[decide_eq_true c4];have hxp:pre[x]?=some (pre.getD x 0):=by rw[AQ,A5 c4];rfl
     refine Ca ⟨_,rfl,wa,_,_,rfl,h1,no _ (by decide +kernel) (by decide +kernel) (by decide +kernel) (by decide +kernel),_,rfl,_,rfl,_,rfl,_,rfl,na,_,_,_,rfl,rfl,DR.of hn,CQ hxp,wa,w,x,pre.length,_,rfl,hw,hx,hl,hy _ (Ar hxp),_,rfl,?_⟩
     by_cases c5:rk w x pre.length<rk w x (pre.getD x 0)
     ·rw[decide_eq_true c5];rw[if_pos ⟨c4,c5⟩]at k;exact Ca k
     ·rw[decide_eq_false c5];exact Cz (tail fun z=>c5 z.2)
    ·rw[decide_eq_false c4];exact Cz (Cz (tail fun z=>c4 z.1))
end
open PySem PySem.Spec PyProof.Rows L2
section
variable {P:Program} {w:World} {K:AE} {mg:Str->Option Value} {base:Heap} {t:HU}
def aK(C:Addr):Sp:=fun vs H Q _=>∃(wa:Addr) (w:List (List Nat)),vs=[.ref wa]/\B4 C H wa w/\Eg w/\Vl (Gr w w.length) H Q
theorem aL(T:Txt K mg t):Bv P w K mg base EE 4 t.Lm t.Ln RM (aK t.A7):=by
 refine T.RY.ok EA (fun vs H Q E h=>?_) (fun cdv A outer s H vs Q E hr h=>?_)
 ·obtain ⟨wa,w,rfl,_⟩:=h;rfl
 ·obtain ⟨wa,w,rfl,hw,W,k⟩:=h;have h6:=W.len;refine ⟨_,(AH (BF (i:=1) EA.nd rfl (Ai rfl) (BM (AA (IK AD) AD))) (AH (FY Bg rfl (EG rfl T.E4 (AA (Ao (pv 0) rfl) AD)) (Bj (i:=2) EA.nd rfl (Ai rfl)) (AH (BF (i:=3) EA.nd rfl (Ai rfl) (BM AD)) (AH (FY Bg rfl (DO (pv 1)) (Bj (i:=4) EA.nd rfl (HI rfl)) (AM (Cw (JZ BQ E9 FA MC (pv 3) (AA (HK rfl EA.nd (EG rfl T.E4 (AA (Ao (pv 0) rfl) AD)) (show EH bL (AO La) _ [("other",5)] from CL (by decide +kernel)) (fun _ _ _ _ _=>(Bj (i:=5) EA.nd rfl (Ai rfl))) (fun _ _ _ _ _=>(FZ (Ck (Aj (uu T) (hr.mono (by decide)) rfl T.xG T.oP.kp T.xF .nil Ay (AA (pv 0) (AA (pv 4) (AA (pv 5) AD))))))) (fun _ _ _ _ _=>(CZ Yr (pv 4) (IK (AA (pv 5) AD))))) AD))))) (AM (BF (i:=1) EA.nd rfl (Ai rfl) (pv 3)))))) (AM (Am (pv 1))))),?_⟩;refine ⟨Bb _,fun p0 hp0=>⟨by show 1<=sizeLine;decide,fun F hF=>?_⟩⟩;have s1:Aw H (upd H p0 (.tup [])):=As hp0;have s2:Aw H (upd (upd H p0 (.tup [])) F (.lst [V.ref p0])):=s1.upd hF;have e1:TN (upd (upd H p0 (.tup [])) F (.lst [V.ref p0])) p0 []:=TN.same (show TN (upd H p0 (.tup [])) p0 [] from AK) (As hF);obtain ⟨dx,la,ra,ta,h1',_⟩:=hw.same s2;refine ⟨_,rfl,wa,_,_,_,_,rfl,h1',T.BP,T.Bh,Co _ _ _ _,_,rfl,by omega,by omega,?_⟩;rw[A8];refine L9 (fun i σ H'=>Aw H H'/\(∃F v2 v3 v4 v5,σ=[some (.ref wa),some (.ref F),v2,v3,v4,v5]/\H F=none/\Nh H' F (Gr w i))) ⟨s2,F,none,none,none,none,rfl,s1.free hF,[p0],AK,.cons e1 .nil⟩ ?_ ?_
  ·rintro i σ H' hi ⟨s',F,v2,v3,v4,v5,rfl,hF0,fs,hF',rF⟩;have e0:(V.int (0+(i:Int)))=vN i:=by rw[OV]
   rw[e0];refine ⟨Bb _,fun G hG=>?_⟩;have nFG:F≠G:=Af hF' hG;refine ⟨_,rfl,F,rfl,⟨_,Bq.of (by rw[A2 nFG];exact hF')⟩,?_⟩;refine G4 (K:=K) (a:=F) (xs:=fs.map V.ref) (fun j σ H2=>Aw H H2/\Aw H' H2/\(∃v4 v5,σ=[some (.ref wa),some (.ref F),some (vN i),some (.ref G),v4,v5])/\Nh H2 G (((Gr w i).take j).flatMap (HY w)))
    ⟨s'.upd hG,As hG,⟨_,_,rfl⟩,[],AK,.nil⟩ (fun j σ H2 _ q=>Bq.of (q.2.1 _ _ hF')) ?_ ?_
   ·rintro j x σ H2 hj ⟨s3,s4,⟨v4',v5',rfl⟩,gs,hG',rG⟩;rw[BH]at hj;obtain ⟨b,hb,rfl⟩:=CN.mp hj;obtain ⟨pre,hp,hTN⟩:=Dg rF hb;obtain ⟨pl,plt⟩:=cP i pre (Ar hp);have hw3:=hw.same s3;obtain ⟨dx3,la3,ra3,ta3,h13,_⟩:=id hw3;have hb2:TN H2 b pre:=hTN.same s4;refine ⟨_,rfl,.inl ⟨rfl,_,Bq.of hG'⟩,_,rfl,wa,_,_,_,_,rfl,h13,T.BP,T.Bh,Co _ _ _ _,_,rfl,by omega,by omega,fun D hD=>?_⟩;rw[A8];refine Fs (HJ w pre) (fun x y H'=>∃c,y=V.ref c/\c≠D/\TN H' c (pre++[x])) (fun q y H1 H2 ⟨c,e1,e2,e3⟩ sx=>⟨c,e1,e2,sx c _ e2 e3⟩) (by omega) hD (fun _=>rfl) ?_ ?_ ?_
    ·intro x H3 Q' hx s5 _ kk;exact ⟨_,rfl,_,rfl,_,rfl,wa,b,w,pre,x,rfl,hw3.same s5,hb2.same s5,by omega,plt,hx,_,rfl,kk H3 (Aw.refl H3)⟩
    ·intro x H3 Q' hx hf s5 hIL kk;refine ⟨_,rfl,_,rfl,by show 1<=sizeLine;decide,fun u hu=>?_⟩;refine ⟨b,u,_,_,rfl,rfl,(hb2.same s5).same (As hu),AK,?_,fun c H4 s6 hc=>?_⟩
     ·rw[Bf];exact small (by show _+1<=_;omega)
     ·have hc':TN H4 c (pre++[x]):=by
       unfold TN;rw[hc];exact congrArg (fun z=>some (HO.tup z)) (Qi pre x)
      exact kk _ H4 ((As hu).trans s6) ⟨c,rfl,(hIL.same ((As hu).trans s6)).Gz hc',hc'⟩
    ·intro H3 ys s5 hy r;obtain ⟨cs,ec,rc⟩:=EC (Ad r fun y q ⟨c,e1,_,e3⟩=>⟨c,e1,e3⟩);rw[ec]at hy;rw[take_snoc hp,Dl,Br];have rc:Paired (TN H3) cs (HY w pre):=by
      unfold HY;have go:∀(as:List Addr) (m:List Nat),Paired (fun a x=>TN H3 a (pre++[x])) as m->Paired (TN H3) as (m.map fun x=>pre++[x]):=by
       intro as m hp
       induction hp with
       |nil=>exact .nil
       |cons r _ ih=>exact .cons r ih
      exact go _ _ rc
     have hlen:gs.length+cs.length<=6 ^ (i+1):=by
      rw[AX rG,AX rc];have z1:(((Gr w i).take j).flatMap (HY w)).length+(HY w pre).length<=((Gr w i).flatMap (HY w)).length:=by
       have:=JU (HY w) (Gr w i) (j+1)
       rw[take_snoc hp,Dl,Br,Ab]at this;exact this
      exact AY z1 (cO W (i+1))
     have hpow:6 ^ (i+1)<=6 ^ 6:=Gv (by omega) (by omega);have hG3:=s5 _ _ hG';refine ⟨G,D,_,_,rfl,rfl,hG3,hy,by rw[AB,AB];exact AY (AY hlen hpow) (by decide),?_⟩;have hL3:IsL H3 G:=⟨_,hG3⟩;refine ⟨(s3.trans s5).put (s'.free hG),(s4.trans s5).put hG,⟨_,_,rfl⟩,gs++cs,by rw[AK,BS],?_⟩;exact FE (Ad rG fun _ _ z=>(z.same s5).put hL3) (Ad rc fun _ _ z=>z.put hL3)
   ·rintro σ H2 ⟨s3,s4,⟨v4',v5',rfl⟩,hL⟩;rw[AB,AX rF,B9]at hL;exact ⟨_,rfl,s3,G,_,_,_,_,rfl,s'.free hG,hL⟩
  ·rintro σ H' ⟨s',F,v2,v3,v4,v5,rfl,hF0,hL⟩;exact ⟨_,rfl,k F H' s' hF0 hL⟩
def Vq:Sp:=fun vs H Q _=>∃(na:Addr) (n:Nat) (q:List Nat),vs=[.ref na]/\TN H na q/\Pm n q/\n<=6/\NW (Uk q) H Q
theorem Vr(T:Txt K mg t):Bv P w K mg base EE 1 t.JQ t.JR Nr Vq:=by
 refine T.N1.ok Gp (fun vs H Q E h=>?_) (fun cdv A outer s H vs Q E hr h=>?_)
 ·obtain ⟨na,n,q,rfl,_⟩:=h;rfl
 ·obtain ⟨na,n,q,rfl,hn,pm,h6,k⟩:=h;have hl:=pm.len;refine ⟨_,(AH (BF (i:=1) Gp.nd rfl (Ai rfl) (DZ Jj (by rfl) T.Z9 eg (AA (pv 0) AD))) (AH (FY Bg rfl (jD rfl T.QI (AA (pv 0) AD)) (YS rfl (G3 (Bj (i:=2) Gp.nd rfl (Ai rfl)) (G3 (Bj (i:=3) Gp.nd rfl (Ai rfl)) TY))) (AM (Oi (pv 2) (Oh (pv 1) (pv 3) set_list)))) (AM (Am (pv 1))))),?_⟩;refine ⟨_,rfl,na,_,rfl,.inr (DR.of hn),fun D hD=>?_⟩;refine ⟨_,rfl,na,_,rfl,DR.of (hn.same (As hD)),?_⟩;refine cn (K:=K) (a:=na) (xs:=nums q) (fun i σ H'=>Aw H H'/\(∃v2 v3,σ=[some (.ref na),some (.ref D),v2,v3])/\LN H' D (ik q i))
   ⟨As hD,⟨_,_,rfl⟩,AK⟩ (fun i σ H' _ p=>DR.of (p.1 _ _ hn)) ?_ ?_
  ·rintro i x σ H' U hi ⟨s',⟨v2,v3,rfl⟩,hD'⟩ hU;obtain ⟨y,hy,rfl⟩:=MF hi;have hil:i<n:=by rw[<-hl];exact (Ap.mp hy).1
   have ey:A6 q i=y:=by
    have:=Cj (p:=q) (a:=i) (by omega)
    rw[hy]at this;exact (Al this).symm
   have hyl:=pm.Cj hil;rw[ey]at hyl;have nDU:D≠U:=Af hD' hU;refine ⟨U,_,rfl,DR.of AK,rfl,_,_,rfl,_,_,rfl,rfl,?_⟩;refine ⟨_,rfl,_,rfl,_,rfl,D,_,_,y,rfl,rfl,by rw[A2 nDU];exact hD',Ow (by rw[Bf,Of];omega),?_⟩;refine ⟨(s'.upd hU).put hD,⟨_,_,rfl⟩,?_⟩;show upd _ D _ D=_;rw[AK];show some (HO.lst ((nums (ik q i)).set y (vN i)))=_;rw[KA,<-ey];rfl
  ·rintro σ H' ⟨s',⟨v2,v3,rfl⟩,hD'⟩;rw[Bf,hl,pL pm]at hD';exact ⟨_,rfl,k D H' s' hD hD'⟩
def bc(C:Addr):Sp:=fun vs H Q _=>∃(wa:Addr) (w:List (List Nat)),vs=[.ref wa]/\B4 C H wa w/\Eg w/\∀(q:List Nat) (L:List (List Nat)),LS w=q::L->QK q H Q
theorem bf(T:Txt K mg t):Bv P w K mg base EE 5 t.NJ t.NK Tz (bc t.A7):=by
 refine T.UH.ok LZ (fun vs H Q E h=>?_) (fun cdv A outer s H vs Q E hr h=>?_)
 ·obtain ⟨wa,w,rfl,_⟩:=h;rfl
 ·obtain ⟨wa,w,rfl,hw,W,k⟩:=h;have h6:=W.len;refine ⟨_,(AH (Hb (i:=1) rfl LZ.nd rfl rfl (Jk rfl rfl rfl rfl) (DO (Aj (aL T) (hr.mono (by decide)) rfl T.bR T.RY.kp T.bQ .nil Ay (AA (pv 0) AD))) (show EH gE (AO NC) _ [("nexts",2)] from CL (by decide +kernel)) (fun _ _ _ _ _=>(Bj (i:=2) LZ.nd rfl (Ai rfl))) (fun _ _ _ _ _=>(FZ (Ck (Aj (QM T) (hr.mono (by decide)) rfl T.SV T.NU.kp T.SU .nil Ay (AA (pv 0) (AA (Aj (Vr T) (hr.mono (by decide)) rfl T.XI T.N1.kp T.XH .nil Ay (AA (pv 2) AD)) AD)))))) (fun _ _ _ _ _=>(pv 2))) (AM (Am (BU Be (pv 1) BG (fun _ _=>rfl))))),?_⟩;refine ⟨_,rfl,wa,w,rfl,hw,W,fun F H1 s1 hF ⟨fs,hF',rF⟩=>⟨F,rfl,⟨_,Bq.of hF'⟩,fun D hD=>?_⟩⟩;refine E1 (zs:=Gr w w.length) (fun x p=>∃b,x=V.ref b/\TN H1 b p) (fun q=>L8 w (Uk q) == []) (fun p y H'=>∃b,y=V.ref b/\b≠D/\TN H' b p) (Di rF)
   (fun q y H1 H2 ⟨b,e1,e2,e3⟩ sx=>⟨b,e1,e2,sx b _ e2 e3⟩) (pK W) hD (Bq.of hF') (fun _=>rfl) ?_ ?_ ?_
  ·rintro x q H' Q' hq ⟨b,rfl,hb⟩ s' _ kk;have pm:=YC hq;refine ⟨_,rfl,_,rfl,b,w.length,q,rfl,hb.same s',pm,h6,fun e H2 s2 he hL=>?_⟩;exact ⟨wa,e,w,Uk q,rfl,hw.same ((s1.trans s').trans s2),.inl hL,W,⟨by unfold Uk;rw[AB,BW,pm.len],fun a ha=>by rw[TC pm ha];exact (pm.Xh ha).2⟩,_,rfl,kk H2 s2⟩
  ·rintro x q H' Q' hq ⟨b,rfl,hb⟩ hf s' hL kk;exact ⟨_,rfl,kk _ H' (Aw.refl H') ⟨b,rfl,hL.Gz (hb.same s'),hb.same s'⟩⟩
  ·intro H' ys s' hy r;obtain ⟨as,e,r2⟩:=EC (Ad r fun y q ⟨b,e1,_,e3⟩=>⟨b,e1,e3⟩);rw[e]at hy;have r2:Paired (TN H') as (LS w):=r2;cases hR:LS w with
   |nil=>exact absurd hR (o9 W)
   |cons q L =>
    rw[hR]at r2;obtain ⟨qa,eq,hq⟩:=CJ (i:=0) r2 rfl;exact ⟨_,rfl,D,_,_,_,rfl,rfl,Bq.of hy,DF (i:=0) eq,k q L hR qa H' (s1.trans s') hq⟩
end
open PySem PySem.Spec PyProof.Rows L2
theorem aM:∀m:Nat,(Ac m [V.int 0]).flatten=nums (Ac m 0)
 |0=>rfl
 |m+1=>by rw[Cv,EM,aM m];rfl
section
variable {P:Program} {w:World} {K:AE} {mg:Str->Option Value} {base:Heap} {t:HU}
def gk:Sp:=fun vs H Q _=>∃(na:Addr) (n:Nat) (q:List Nat) (s:Nat),vs=[.ref na,vN s]/\TN H na q/\Pm n q/\n<=6/\s<n/\NW (DK q s) H Q
theorem gm(T:Txt K mg t):Bv P w K mg base EE 1 t.Ph t.Pj WU gk:=by
 refine T.Wn.ok Jn (fun vs H Q E h=>?_) (fun cdv A outer s H vs Q E hr h=>?_)
 ·obtain ⟨na,n,q,s,rfl,_⟩:=h;rfl
 ·obtain ⟨na,n,q,s,rfl,hn,pm,h6,hs,k⟩:=h;have hl:=pm.len;refine ⟨_,(AH (BF (i:=2) Jn.nd rfl (Ai rfl) (BM (AA (pv 1) AD))) (AH (BF (i:=3) Jn.nd rfl (Ai rfl) (BU CU (pv 0) (pv 1) (fun _ _=>rfl))) (AH (YT Bg (Cy tP (pv 3) (pv 1) (C6 _)) (AH (Cw (JZ BQ CO CP Gk (pv 2) (AA (pv 3) AD))) (AM (BF (i:=3) Jn.nd rfl (Ai rfl) (BU CU (pv 0) (pv 3) (fun _ _=>rfl)))))) (AM (Am (pv 2)))))),?_⟩;refine ⟨_,rfl,by show 1<=sizeLine;decide,fun D hD=>?_⟩;have s1:Aw H (upd H D (.lst [vN s])):=As hD;refine ⟨_,rfl,_,rfl,na,_,_,_,rfl,rfl,DR.of (hn.same s1),CQ (Cj (by omega)),?_⟩;refine ⟨fun m σ H'=>∃j,m=n-j/\Open q s j/\σ=[some (.ref na),some (vN s),some (.ref D),some (vN (aX q s (j+1)))]/\Aw H H'/\LN H' D (IJ q s j),⟨_,0,rfl,fun j h1 h2=>by omega,rfl,s1,AK⟩,?_⟩;rintro m σ H' ⟨j,rfl,ho,rfl,s',hD'⟩;have hj:=ho.room pm hs;refine ⟨_,rfl,_,rfl,rfl,_,rfl,?_⟩;rw[Gy]
  by_cases c:aX q s (j+1)=s
  ·rw[decide_eq_true c];refine Cz ⟨_,rfl,k D H' s' hD ?_⟩;rw[nV pm hs ho c];exact hD'
  ·rw[decide_eq_false c];have ho2:Open q s (j+1):=fun i h1 h2=>by
    by_cases e:i=j+1
    ·rw[e];exact c
    ·exact ho i h1 (by omega)
   have hj2:=ho2.room pm hs;have hlt:=YD pm hs (j+1);refine Ca ⟨fun σ' H2=>σ'=[some (.ref na),some (vN s),some (.ref D),some (vN (aX q s (j+1+1)))]/\Aw H H2/\LN H2 D (IJ q s (j+1)),?_,?_⟩
   ·rintro σ' H2 ⟨rfl,s2,hD2⟩;exact ⟨_,by omega,j+1,rfl,ho2,rfl,s2,hD2⟩
   ·refine ⟨_,rfl,.inl ⟨rfl,_,Bq.of hD'⟩,_,rfl,D,_,_,rfl,rfl,hD',?_,?_⟩
    ·rw[Bf];unfold IJ;rw[AB,BW];exact Ci (show j+1<=6 by omega) (by decide)
    ·have s2:Aw H (upd H' D (.lst (nums (IJ q s j)++[vN (aX q s (j+1))]))):=s'.put hD;refine ⟨_,rfl,_,rfl,na,_,_,_,rfl,rfl,DR.of (hn.same s2),CQ (Cj (by omega)),rfl,s2,?_⟩;show upd _ D _ D=_;rw[AK,iY,Qi]
def gn:Sp:=fun vs H Q _=>∃(na:Addr) (n:Nat) (q:List Nat),vs=[.ref na]/\TN H na q/\Pm n q/\n<=6/\Ks (vN ((AF q.length).filter (k8 q)).length) H Q
theorem gp(T:Txt K mg t):Bv P w K mg base EE 2 t.Pl t.Pn WW gn:=by
 refine T.Wo.ok Hg (fun vs H Q E h=>?_) (fun cdv A outer s H vs Q E hr h=>?_)
 ·obtain ⟨na,n,q,rfl,_⟩:=h;rfl
 ·obtain ⟨na,n,q,rfl,hn,pm,h6,k⟩:=h;have hl:=pm.len;refine ⟨_,(AH (Hb (i:=1) rfl Hg.nd rfl rfl (Jk rfl rfl rfl rfl) (EG rfl T.E4 (AA (Ba A4 (by rfl) T.C7 An (AA (pv 0) AD)) AD)) (show EH WV (AO LG) _ [("student",2)] from CL (by decide +kernel)) (fun _ _ _ _ _=>(Bj (i:=2) Hg.nd rfl (Ai rfl))) (fun _ _ _ _ _=>F4) (fun _ _ _ _ _=>(Aj (gm T) (hr.mono (by decide)) rfl T.jr T.Wn.kp T.jq .nil Ay (AA (pv 0) (AA (pv 2) AD))))) (AM (Am (Ba A4 (by rfl) T.C7 An (AA (HK rfl Hg.nd (DO (pv 1)) (show EH WV (AO LG) _ [("ring",3)] from CL (by decide +kernel)) (fun _ _ _ _ _=>(Bj (i:=3) Hg.nd rfl (Ai rfl))) (fun _ _ _ _ _=>(FZ (PW.pt (YO (Cy K8 (BU (Hc K rfl) (pv 3) BG (fun _ _=>rfl)) (Ba (xB K rfl rfl) (by rfl) T.yM boot_min (AA (pv 3) AD)) (C6 _)) (TV (Cy (lX K rfl) (Ba (bG K rfl) (by rfl) T.C7 An (AA (pv 3) AD)) (IK (AA BG (AA BG AD))) (by with_unfolding_all rfl))))))) (fun _ _ _ _ _=>(pv 3))) AD))))),?_⟩;refine ⟨_,rfl,na,_,rfl,.inr (DR.of hn),_,rfl,by omega,by rw[Bf];omega,fun D hD=>?_⟩;rw[A8,Bf];refine Fs (fun _=>true) (fun i y H'=>∃b,y=V.ref b/\b≠D/\LN H' b (DK q i)) (fun q y H1 H2 ⟨b,e1,e2,e3⟩ sx=>⟨b,e1,e2,sx b _ e2 e3⟩) (by omega) hD (fun _=>rfl) ?_ ?_ ?_
  ·intro i H' Q' hi s' _ kk;exact kk H' (Aw.refl H')
  ·intro i H' Q' hi _ s' hIL kk;refine ⟨_,rfl,_,rfl,na,n,q,i,rfl,hn.same s',pm,h6,by omega,fun b H3 s3 hb hL=>?_⟩;obtain ⟨zs,hz⟩:=hIL;exact kk _ H3 s3 ⟨b,rfl,fun e=>(by rw[e,hz]at hb;cases hb),hL⟩
  ·intro H1 ys s1 hy r;rw[BZ.mpr (fun _ _=>rfl)]at r;have rZ:Paired (fun y i=>∃b,y=V.ref b/\LN H1 b (DK q i)) ys (AF q.length):=Ad r fun y q ⟨b,e1,_,e3⟩=>⟨b,e1,e3⟩
   refine ⟨_,rfl,D,rfl,⟨_,Bq.of hy⟩,fun D2 hD2=>?_⟩;refine E1 (zs:=AF q.length) (fun y i=>∃b,y=V.ref b/\LN H1 b (DK q i)) (k8 q) (fun _ _ _=>True) rZ (fun _ _ _ _ h _=>h) (by rw[BW];omega) hD2 (Bq.of hy) (fun _=>rfl) ?_ ?_ ?_
   ·rintro x i H' Q' hi ⟨b,rfl,hb⟩ s' _ kk;have hi:=Ah.mp hi;rw[hl]at hi;have hb':=hb.same s';have e0:(DK q i)[0]?=some i:=rfl;refine ⟨_,rfl,b,_,_,_,rfl,rfl,Bq.of hb',at_of (j:=0) (v:=vN i) rfl (Yu e0),_,rfl,b,_,rfl,Bq.of (by rw[<-Qv];exact hb'),by rw[AB];exact Nat.succ_pos _,fun m hm hle=>⟨rfl,_,rfl,?_⟩⟩;obtain ⟨m',hm',rfl⟩:=BE.mp hm;have em:(DK q i).foldl min i=m':=by
     have:=se (l:=Ud q i q.length (oh q i)) (a:=i) (m:=m') hm' fun x hx=>by
      have:=hle (x:Int) (BE.mpr ⟨x,hx,rfl⟩)
      omega
     exact this
    have ed:decide (vN i=V.int (m':Int))=((DK q i).foldl min i==i):=by
     rw[oV,em]
     by_cases c:i=m'
     ·rw[decide_eq_true c,c];simp
     ·rw[decide_eq_false c];exact (beq_eq_false_iff_ne.mpr (Cr c)).symm
    rw[ed];unfold k8 at kk;cases c1:((DK q i).foldl min i==i) with
    |false =>
     rw[c1]at kk;exact Cz (kk H' (Aw.refl H'))
    |true =>
     rw[c1]at kk;refine Ca ⟨_,rfl,b,_,rfl,.inl (Bq.of hb'),by show 2<=sizeLine;decide,fun u hu=>⟨u,_,rfl,.inr (DR.of AK),rfl,rfl,_,rfl,?_⟩⟩;rw[Bf];have ei:rS (V.int ((DK q i).length:Int)) [V.int 3,V.int 5]=((DK q i).length == 3||(DK q i).length == 5):=by
      have:=Im (DK q i).length [3,5]
      show rS (vN _) (nums [3,5])=_;rw[this,Ub,Ub,rX,Bool.or_false]
     have kk2:=kk (upd H' u (.tup [V.int 3,V.int 5])) (As hu);rw[F8,<-ei]at kk2;exact kk2
   ·rintro x i H' Q' hi ⟨b,rfl,hb⟩ hf s' _ kk;exact ⟨_,rfl,kk _ H' (Aw.refl H') Em⟩
   ·intro H2 ys2 s2 hy2 r2;refine ⟨D2,_,rfl,.inl (Bq.of hy2),?_⟩;rw[AX r2];exact k H2 (s1.trans s2)
def bh:Sp:=fun vs H Q _=>∃(na:Addr) (q:List Nat),vs=[.ref na]/\TN H na q/\q.length<=6/\NW ((q.map fun x=>x+1)++Ac (6-q.length) 0) H Q
theorem bj(T:Txt K mg t):Bv P w K mg base EE 1 t.NL t.NM T3 bh:=by
 refine T.UI.ok Lb (fun vs H Q E h=>?_) (fun cdv A outer s H vs Q E hr h=>?_)
 ·obtain ⟨na,q,rfl,_⟩:=h;rfl
 ·obtain ⟨na,q,rfl,hn,h6,k⟩:=h;refine ⟨_,(AM (Am (CZ IL (HK rfl Lb.nd (YV (pv 0)) (show EH gF (AO ND) _ [("other",1)] from CL (by decide +kernel)) (fun _ _ _ _ _=>(Bj (i:=1) Lb.nd rfl (Ai rfl))) (fun _ _ _ _ _=>F4) (fun _ _ _ _ _=>(CZ JH (pv 1) BG))) (CZ Yf (BM (AA BG AD)) (CZ J6 (Bw rfl T.C1.1 T.C1.2) (Ba A4 (by rfl) T.C7 An (AA (pv 0) AD))))))),?_⟩;refine ⟨_,rfl,na,rfl,⟨_,DR.of hn⟩,fun D hD=>?_⟩;refine Tq (zs:=q) (fun x z=>x=vN z) (fun _=>true) (fun z y _=>y=vN (z+1)) (HP q) (fun _ _ _ _ h _=>h) (by omega) hD hn (fun _=>rfl) ?_ ?_ ?_
  ·intro x z H' Q' _ _ s' _ kk;exact kk H' (Aw.refl H')
  ·rintro x z H' Q' hz rfl _ s' _ kk;exact ⟨_,rfl,_,_,rfl,rfl,kk _ H' (Aw.refl H') rfl⟩
  ·intro H' ys s' hy r;rw[BZ.mpr (fun _ _=>rfl)]at r;have e:=EI r;refine ⟨by show 1<=sizeLine;decide,fun z hz=>?_⟩;have hy2:(upd H' z (.lst [.int 0])) D=some (.lst ys):=by rw[A2 (Af hy hz)];exact hy
   refine ⟨_,rfl,na,_,rfl,.inr (DR.of ((hn.same s').same (As hz))),_,_,rfl,rfl,z,_,_,rfl,rfl,AK,?_⟩;rw[Bf];refine ⟨by omega,by omega,?_,fun z2 hz2=>?_⟩
   ·show 1*_<=_;exact small (by omega)
   have hy3:(upd (upd H' z (.lst [.int 0])) z2 (.lst (Ac ((6:Int)-(q.length:Int)).toNat [V.int 0]).flatten)) D=some (.lst ys):=by rw[A2 (Af hy2 hz2)];exact hy2
   refine ⟨D,z2,_,_,rfl,rfl,hy3,AK,?_,fun b hb=>?_⟩
   ·rw[e,Bf,len_rep];exact small (by simp;omega)
   ·refine k b _ (((s'.upd hz).upd hz2).upd hb) (((s'.upd hz).upd hz2).free hb) ?_;show upd _ b _ b=_;rw[AK,e];have e2:((6:Int)-(q.length:Int)).toNat=6-q.length:=by omega
    rw[e2,aM,Il]
end
open PySem PySem.Spec PyProof.Rows L2
def sF(wa ha pa ua:Addr):List (Str×V):=[("wishes",.ref wa),("has",.ref ha),("past",.ref pa),("undone",.ref ua)]
section
variable (wa ha pa ua:Addr)
theorem Ml:(sF wa ha pa ua).lookup ("wishes" : Str)=some (.ref wa):=by
 unfold sF;rw[BX,show (("wishes" : Str)==("wishes" : Str))=true by decide +kernel]
theorem gq:(sF wa ha pa ua).lookup ("has" : Str)=some (.ref ha):=by
 unfold sF;rw[BX,show (("has" : Str)==("wishes" : Str))=false by decide +kernel];show Cc _ _=_;rw[BX,show (("has" : Str)==("has" : Str))=true by decide +kernel]
theorem Qw:(sF wa ha pa ua).lookup ("past" : Str)=some (.ref pa):=by
 unfold sF;rw[BX,show (("past" : Str)==("wishes" : Str))=false by decide +kernel];show Cc _ _=_;rw[BX,show (("past" : Str)==("has" : Str))=false by decide +kernel];show Cc _ _=_;rw[BX,show (("past" : Str)==("past" : Str))=true by decide +kernel]
theorem Mm:(sF wa ha pa ua).lookup ("undone" : Str)=some (.ref ua):=by
 unfold sF;rw[BX,show (("undone" : Str)==("wishes" : Str))=false by decide +kernel];show Cc _ _=_;rw[BX,show (("undone" : Str)==("has" : Str))=false by decide +kernel];show Cc _ _=_;rw[BX,show (("undone" : Str)==("past" : Str))=false by decide +kernel];show Cc _ _=_;rw[BX,show (("undone" : Str)==("undone" : Str))=true by decide +kernel]
theorem Wx{m:Str}(h:((m==("wishes" : Str))||(m==("has" : Str))||(m==("past" : Str))||(m==("undone" : Str)))=false):(sF wa ha pa ua).lookup m=none:=by
 simp only[Bool.or_eq_false_iff]at h;obtain ⟨⟨⟨h1,h2⟩,h3⟩,h4⟩:=h;unfold sF;rw[BX,h1];show Cc _ _=_;rw[BX,h2];show Cc _ _=_;rw[BX,h3];show Cc _ _=_;rw[BX,h4];rfl
theorem Xp{f:Str}{v v':V}{fs:List (Str×V)}:B3 f v ((f,v')::fs)=(f,v)::fs:=by
 show (if f=f then _ else _)=_;rw[if_pos rfl]
theorem Fm{f g:Str}{v v':V}{fs:List (Str×V)}(h:¬g=f):B3 f v ((g,v')::fs)=(g,v')::B3 f v fs:=by
 show (if g=f then _ else _)=_;rw[if_neg h]
theorem gr(b:Addr):B3 "wishes" (.ref b) (sF wa ha pa ua)=sF b ha pa ua:=Xp
theorem gu(b:Addr):B3 "has" (.ref b) (sF wa ha pa ua)=sF wa b pa ua:=by
 unfold sF;rw[Fm (by decide +kernel),Xp]
theorem oW(b:Addr):B3 "past" (.ref b) (sF wa ha pa ua)=sF wa ha b ua:=by
 unfold sF;rw[Fm (by decide +kernel),Fm (by decide +kernel),Xp]
theorem oX(b:Addr):B3 "undone" (.ref b) (sF wa ha pa ua)=sF wa ha pa b:=by
 unfold sF;rw[Fm (by decide +kernel),Fm (by decide +kernel),Fm (by decide +kernel),Xp]
theorem z6:B3 "undone" (.ref ua) (B3 "past" (.ref pa) (B3 "has" (.ref ha) (B3 "wishes" (.ref wa) [])))=sF wa ha pa ua:=by
 have e1:B3 "wishes" (.ref wa) []=[(("wishes" : Str),V.ref wa)]:=rfl;have e2:B3 "has" (.ref ha) [(("wishes" : Str),V.ref wa)]=[(("wishes" : Str),V.ref wa),(("has" : Str),V.ref ha)]:=by
  rw[Fm (by decide +kernel)];rfl
 have e3:B3 "past" (.ref pa) [(("wishes" : Str),V.ref wa),(("has" : Str),V.ref ha)]=[(("wishes" : Str),V.ref wa),(("has" : Str),V.ref ha),(("past" : Str),V.ref pa)]:=by
  rw[Fm (by decide +kernel),Fm (by decide +kernel)];rfl
 rw[e1,e2,e3];unfold sF;rw[Fm (by decide +kernel),Fm (by decide +kernel),Fm (by decide +kernel)];rfl
end
theorem Apart.same{D a:Addr}{H H':Hp}(h:Apart D H a)(s:Aw H H'):Apart D H' a:=let ⟨C,dx,la,n,ra,ta,rs,h1,h2,h3,h4,h5⟩:=h;⟨C,dx,la,n,ra,ta,rs,s _ _ h1,h2,h3,s _ _ h4,h5⟩
theorem B4.apart{C D a:Addr}{H:Hp}{w:List (List Nat)}(h:B4 C H a w)(hD:H D=none):Apart D H a:=by
 obtain ⟨dx,la,ra,ta,h1,_,⟨rs,h3,h3'⟩,⟨_,h4,_⟩⟩:=h;exact ⟨C,dx,la,_,ra,ta,rs,h1,Af h3 hD,Af h4 hD,h3,Ww h3' fun _ _ z=>Af z hD⟩
theorem B4.ne{C CW x dx a:Addr}{fs:List (Str×V)}{H:Hp}{w:List (List Nat)}(h:B4 CW H a w)(hx:H x=some (.ins C dx fs))(hl:fs.lookup ("number" : Str)=none):a≠x:=by
 obtain ⟨dx',la,ra,ta,h1,h2,h3,h4⟩:=h;exact CI h1 hx (fun z=>by
  injection z with _ _ z3
  rw[<-z3,Co]at hl;cases hl)
theorem B4.sx{C CW x dx a:Addr}{fs:List (Str×V)}{H H':Hp}{w:List (List Nat)}(h:B4 CW H a w)(hx:H x=some (.ins C dx fs))(hl:fs.lookup ("number" : Str)=none)(s:CC x H H'):B4 CW H' a w:=by
 have ne:=h.ne hx hl;obtain ⟨dx',la,ra,ta,h1,h2,h3,h4⟩:=h;exact ⟨dx',la,ra,ta,s _ _ ne h1,h2.sx hx s,h3.sx hx s,h4.sx hx s⟩
theorem Apart.sx{D a x C dx:Addr}{fs:List (Str×V)}{H H':Hp}(h:Apart D H a)(hx:H x=some (.ins C dx fs))(hl:fs.lookup ("number" : Str)=none)(s:CC x H H'):Apart D H' a:=by
 obtain ⟨C',dx',la,n,ra,ta,rs,h1,h2,h3,h4,h5⟩:=h;refine ⟨C',dx',la,n,ra,ta,rs,s _ _ (CI h1 hx fun z=>?_) h1,h2,h3,s _ _ (CI h4 hx (fun z=>nomatch z)) h4,h5⟩;injection z with _ _ z3
 rw[<-z3,Co]at hl;cases hl
theorem uv{la la2 ra ra2 ta ta2:Addr}{n n2:Nat}(g1:wF la n ra ta=wF la2 n2 ra2 ta2):ra=ra2/\ta=ta2:=by
 constructor
 ·have:=congrArg (fun fs=>Cc ("ranks" : Str) fs) g1
  simp only[MH]at this;injection this with this
  injection this
 ·have:=congrArg (fun fs=>Cc ("twos" : Str) fs) g1
  simp only[To]at this;injection this with this
  injection this
theorem Apart.lx{D D' a:Addr}{H H':Hp}{vs:List V}(h:Apart D' H a)(g:Apart D H a)(hD:H D=some (.lst vs))(s:CC D H H'):Apart D' H' a:=by
 obtain ⟨C,dx,la,n,ra,ta,rs,h1,h2,h3,h4,h5⟩:=h;obtain ⟨_,_,_,_,ra2,ta2,rs2,g1,g2,g3,g4,g5⟩:=g;rw[h1]at g1;have g1:=Al g1;injection g1 with _ _ g1
 obtain ⟨er,et⟩:=uv g1;exact ⟨C,dx,la,n,ra,ta,rs,s _ _ (CI h1 hD (fun z=>nomatch z)) h1,h2,h3,s _ _ (er ▸ g2) h4,h5⟩
theorem TN.lx{D a:Addr}{H H':Hp}{l:List Nat}{vs:List V}(h:TN H a l)(hD:H D=some (.lst vs))(s:CC D H H'):TN H' a l:=s _ _ (CI h hD (fun z=>nomatch z)) h
theorem kH:∀{as bs:List Addr},as.map V.ref=bs.map V.ref->as=bs
 |[],[],_=>rfl
 |[],_::_,h=>by cases h
 |_::_,[],h=>by cases h
 |a::as,b::bs,h=>by
  rw[Az,Az]at h;injection h with h1 h2
  injection h1 with h1
  rw[h1,kH h2]
theorem q5{D:Addr}{H H':Hp}{as:List Addr}{m:List (List Nat)}(h:Paired (LN H) as m)(g:∀r∈as,r≠D)(s:CC D H H'):Paired (LN H') as m:=by
 induction h with
 |nil=>exact .nil
 |cons r _ ih=>exact .cons (s _ _ (g _ AI) r) (ih fun r hr=>g r (AG _ hr))
theorem B4.lx{CW D a:Addr}{H H':Hp}{w:List (List Nat)}{vs:List V}(h:B4 CW H a w)(hD:H D=some (.lst vs))(ap:Apart D H a)(s:CC D H H'):B4 CW H' a w:=by
 obtain ⟨dx',la,ra,ta,h1,⟨as,h2,h2'⟩,⟨rs,h3,h3'⟩,⟨ts,h4,h4'⟩⟩:=h;obtain ⟨C,dx2,la2,n2,ra2,ta2,rs2,g1,g2,g3,g4,g5⟩:=ap;rw[h1]at g1;have g1:=Al g1;injection g1 with _ _ g1
 obtain ⟨er,et⟩:=uv g1;subst er et;rw[h3]at g4;have g4:=Al g4;injection g4 with g4
 have g4:=kH g4;subst g4;refine ⟨dx',la,ra,ta,s _ _ (CI h1 hD (fun z=>nomatch z)) h1,⟨as,s _ _ (CI h2 hD (fun z=>nomatch z)) h2,Ad h2' fun _ _ r=>r.lx hD s⟩,⟨rs,s _ _ g2 h3,?_⟩,⟨ts,s _ _ g3 h4,Ad h4' fun b q r=>s _ _ (CI r hD (fun z=>nomatch z)) r⟩⟩;exact q5 h3' g5 s
def Ent(N:Addr->Prop)(C:Addr)(H:Hp)(e:Addr)(x:S):Prop:=∃wa ha:Addr,H e=some (.tup [.ref wa,.ref ha])/\B4 C H wa x.1/\TN H ha x.2/\∀D,N D->Apart D H wa
theorem Ent.same{N:Addr->Prop}{C e:Addr}{H H':Hp}{x:S}(h:Ent N C H e x)(s:Aw H H'):Ent N C H' e x:=let ⟨wa,ha,h1,h2,h3,h4⟩:=h;⟨wa,ha,s _ _ h1,h2.same s,h3.same s,fun D hD=>(h4 D hD).same s⟩
theorem Ent.sx{N:Addr->Prop}{C CS e y dx:Addr}{fs:List (Str×V)}{H H':Hp}{x:S}(h:Ent N C H e x)(hx:H y=some (.ins CS dx fs))(hl:fs.lookup ("number" : Str)=none)(s:CC y H H'):Ent N C H' e x :=
 let ⟨wa,ha,h1,h2,h3,h4⟩:=h;⟨wa,ha,s _ _ (CI h1 hx (fun z=>nomatch z)) h1,h2.sx hx hl s,h3.sx hx s,fun D hD=>(h4 D hD).sx hx hl s⟩
theorem Ent.lx{N:Addr->Prop}{C e D:Addr}{H H':Hp}{x:S}{vs:List V}(h:Ent N C H e x)(hD:H D=some (.lst vs))(hd:N D)(s:CC D H H'):Ent N C H' e x:=by
 obtain ⟨wa,ha,h1,h2,h3,h4⟩:=h;exact ⟨wa,ha,s _ _ (CI h1 hD (fun z=>nomatch z)) h1,h2.lx hD (h4 D hd) s,h3.lx hD s,fun D' hD'=>(h4 D' hD').lx (h4 D hd) hD s⟩
theorem Ent.re{N M:Addr->Prop}{C e:Addr}{H:Hp}{x:S}(h:Ent N C H e x)(k:∀D,M D->N D\/H D=none):Ent M C H e x:=let ⟨wa,ha,g1,g2,g3,g4⟩:=h;⟨wa,ha,g1,g2,g3,fun D hD=>(k D hD).elim (g4 D) g2.apart⟩
def Sb(t:HU)(H:Hp):Prop:=HM H t.B8 Fw Fx/\HM H t.HN ll lr
theorem Sb.same{t:HU}{H H':Hp}(h:Sb t H)(s:Aw H H'):Sb t H':=⟨h.1.same s,h.2.same s⟩
theorem _root_.L2.HM.nx{T x:Addr}{H H':Hp}{pos:Pos}{qual:Str}{o:HO}(h:HM H T pos qual)(hx:H x=some o)(ho:(∀q,o≠.Jt q)/\∀φ,o≠.ext φ)(s:CC x H H'):HM H' T pos qual:=by
 rcases h with h|⟨c',h1,h2⟩
 ·exact .inl (s _ _ (CI h hx (fun z=>ho.1 _ z.symm)) h)
 ·exact .inr ⟨c',s _ _ (CI h1 hx (fun z=>ho.1 _ z.symm)) h1,s _ _ (CI h2 hx (fun z=>ho.2 _ z.symm)) h2⟩
theorem Sb.nx{t:HU}{x:Addr}{H H':Hp}{o:HO}(h:Sb t H)(hx:H x=some o)(ho:(∀q,o≠.Jt q)/\∀φ,o≠.ext φ)(s:CC x H H'):Sb t H':=⟨h.1.nx hx ho s,h.2.nx hx ho s⟩
theorem Vs{C dx:Addr}{fs:List (Str×V)}:(∀q,HO.ins C dx fs≠.Jt q)/\∀φ,HO.ins C dx fs≠.ext φ:=⟨(fun _ z=>nomatch z),(fun _ z=>nomatch z)⟩
theorem mW{xs:List V}:(∀q,HO.lst xs≠.Jt q)/\∀φ,HO.lst xs≠.ext φ:=⟨(fun _ z=>nomatch z),(fun _ z=>nomatch z)⟩
def Nb(G:Addr->Prop)(pa ua:Addr)(D:Addr):Prop:=D=pa\/D=ua\/G D
structure StB(t:HU)(G:Addr->Prop)(H:Hp)(sa:Addr)(d:Dk)(dx wa ha pa ua:Addr)(es fs:List Addr):Prop where
 at_:H sa=some (.ins t.BV dx (sF wa ha pa ua))
 w:B4 t.A7 H wa d.now.1
 h:TN H ha d.now.2
 ap:∀D,Nb G pa ua D->Apart D H wa
 p:H pa=some (.lst (es.map V.ref))
 u:H ua=some (.lst (fs.map V.ref))
 ne:pa≠ua
 ep:Paired (Ent (Nb G pa ua) t.A7 H) es d.past.reverse
 eu:Paired (Ent (Nb G pa ua) t.A7 H) fs d.X7.reverse
 tb:Sb t H
 g:∀D,G D->D≠sa/\D≠pa/\D≠ua/\∃o,H D=some o
def FQ(t:HU)(G:Addr->Prop)(H:Hp)(sa:Addr)(d:Dk):Prop:=∃(dx wa ha pa ua:Addr) (es fs:List Addr),StB t G H sa d dx wa ha pa ua es fs
theorem FQ.same{t:HU}{G:Addr->Prop}{sa:Addr}{H H':Hp}{d:Dk}(h:FQ t G H sa d)(s:Aw H H'):FQ t G H' sa d:=by
 obtain ⟨dx,wa,ha,pa,ua,es,fs,b⟩:=h;exact ⟨dx,wa,ha,pa,ua,es,fs,s _ _ b.at_,b.w.same s,b.h.same s,fun D hD=>(b.ap D hD).same s,s _ _ b.p,s _ _ b.u,b.ne,Ad b.ep fun _ _ z=>z.same s,Ad b.eu fun _ _ z=>z.same s,b.tb.same s,
  fun D hD=>let ⟨g1,g2,g3,o,g4⟩:=b.g D hD;⟨g1,g2,g3,o,s _ _ g4⟩⟩
theorem FQ.grow{t:HU}{G:Addr->Prop}{sa D:Addr}{H:Hp}{d:Dk}{o:HO}(h:FQ t G H sa d)(hD:H D=none):FQ t (fun x=>G x\/x=D) (upd H D o) sa d:=by
 have s:Aw H (upd H D o):=As hD;obtain ⟨dx,wa,ha,pa,ua,es,fs,b⟩:=h;have k:∀x,Nb (fun x=>G x\/x=D) pa ua x->Nb G pa ua x\/H x=none:=by
  rintro x (h|h|h|rfl)
  ·exact .inl (.inl h)
  ·exact .inl (.inr (.inl h))
  ·exact .inl (.inr (.inr h))
  ·exact .inr hD
 refine ⟨dx,wa,ha,pa,ua,es,fs,s _ _ b.at_,b.w.same s,b.h.same s,fun x hx=>((k x hx).elim (b.ap x) b.w.apart).same s,s _ _ b.p,s _ _ b.u,b.ne,Ad b.ep fun _ _ z=>(z.re k).same s,Ad b.eu fun _ _ z=>(z.re k).same s,b.tb.same s,?_⟩;rintro x (hx|rfl)
 ·obtain ⟨g1,g2,g3,o,g4⟩:=b.g x hx;exact ⟨g1,g2,g3,o,s _ _ g4⟩
 ·exact ⟨(fun e=>by rw[e,b.at_]at hD;cases hD),(fun e=>by rw[e,b.p]at hD;cases hD),(fun e=>by rw[e,b.u]at hD;cases hD),o,AK⟩
theorem FQ.put{t:HU}{G:Addr->Prop}{sa D:Addr}{H:Hp}{d:Dk}{vs:List V}{o:HO}(h:FQ t G H sa d)(hG:G D)(hD:H D=some (.lst vs)):FQ t G (upd H D o) sa d:=by
 obtain ⟨dx,wa,ha,pa,ua,es,fs,b⟩:=h;have s:CC D H (upd H D o):=CT;obtain ⟨g1,g2,g3,_⟩:=b.g D hG;have nd:Nb G pa ua D:=.inr (.inr hG);refine ⟨dx,wa,ha,pa,ua,es,fs,s _ _ (Cr g1) b.at_,b.w.lx hD (b.ap D nd) s,b.h.lx hD s,fun x hx=>(b.ap x hx).lx (b.ap D nd) hD s,s _ _ (Cr g2) b.p,s _ _ (Cr g3) b.u,b.ne,Ad b.ep fun _ _ z=>z.lx hD nd s,Ad b.eu fun _ _ z=>z.lx hD nd s,b.tb.nx hD mW s,?_⟩;intro x hx;obtain ⟨g1,g2,g3,o',g4⟩:=b.g x hx
 by_cases e:x=D
 ·exact ⟨g1,g2,g3,o,by rw[e];exact AK⟩
 ·exact ⟨g1,g2,g3,o',s _ _ e g4⟩
theorem FQ.get{t:HU}{G:Addr->Prop}{sa:Addr}{H:Hp}{d:Dk}(h:FQ t G H sa d):∃(dx wa ha:Addr) (fs:List (Str×V)),H sa=some (.ins t.BV dx fs)/\fs.lookup ("wishes" : Str)=some (.ref wa)/\fs.lookup ("has" : Str)=some (.ref ha)/\B4 t.A7 H wa d.now.1/\TN H ha d.now.2 /\
  fs.lookup ("lacks" : Str)=none/\fs.lookup ("change" : Str)=none/\(fs.lookup ("begin" : Str)=none/\(∃wa ha pa ua,fs=sF wa ha pa ua))/\∀D,G D->Apart D H wa:=by
 obtain ⟨dx,wa,ha,pa,ua,es,fs,b⟩:=h;exact ⟨dx,wa,ha,_,b.at_,Ml _ _ _ _,gq _ _ _ _,b.w,b.h,Wx _ _ _ _ (by decide +kernel),Wx _ _ _ _ (by decide +kernel),⟨Wx _ _ _ _ (by decide +kernel),_,_,_,_,rfl⟩,fun D hD=>b.ap D (.inr (.inr hD))⟩
theorem FQ.tabs{t:HU}{G:Addr->Prop}{sa:Addr}{H:Hp}{d:Dk}(h:FQ t G H sa d):Sb t H:=let ⟨_,_,_,_,_,_,_,b⟩:=h;b.tb
theorem FQ.ge{t:HU}{G:Addr->Prop}{sa:Addr}{H:Hp}{d:Dk}(h:FQ t G H sa d):∀D,G D->D≠sa/\∃o,H D=some o:=let ⟨_,_,_,_,_,_,_,b⟩:=h;fun D hD=>let ⟨g1,_,_,g⟩:=b.g D hD;⟨g1,g⟩
theorem z7(wa ha pa ua:Addr):(sF wa ha pa ua).lookup ("number" : Str)=none:=Wx _ _ _ _ (by decide +kernel)
section
variable {P:Program} {w:World} {K:AE} {mg:Str->Option Value} {base:Heap} {t:HU}
def uw(t:HU):Sp:=fun vs H Q _=>∃(sa dx:Addr) (n:Nat) (fs:List (Str×V)),vs=[.ref sa,vN n]/\H sa=some (.ins t.BV dx fs)/\(fs=[]\/∃wa ha pa ua,fs=sF wa ha pa ua)/\n<=6/\Sb t H/\∀H':Hp,CC sa H H'->(∀G:Addr->Prop,(∀D,G D->D≠sa/\∃o,H D=some o)->FQ t G H' sa (opened n))->Q .Ft H'
theorem QO(T:Txt K mg t):Bv P w K mg base EE 6 t.Lq t.Lr RQ (uw t):=by
 refine T.bT.ok ZW (fun vs H Q E h=>?_) (fun cdv A outer s H vs Q E hr h=>?_)
 ·obtain ⟨sa,dx,n,fs,rfl,_⟩:=h;rfl
 ·obtain ⟨sa,dx,n,fs,rfl,hx,hfs,hn,hT,k⟩:=h;have hlen:fs.length<=4:=by
   rcases hfs with rfl|⟨wa,ha,pa,ua,rfl⟩
   ·exact Bb _
   ·exact AV _
  have h0:fs.lookup ("number" : Str)=none:=by
   rcases hfs with rfl|⟨wa,ha,pa,ua,rfl⟩
   ·rfl
   ·exact z7 _ _ _ _
  have hput:∀wb hb pb ub:Addr,B3 "undone" (.ref ub) (B3 "past" (.ref pb) (B3 "has" (.ref hb) (B3 "wishes" (.ref wb) fs)))=sF wb hb pb ub:=by
   intro wb hb pb ub;rcases hfs with rfl|⟨wa,ha,pa,ua,rfl⟩
   ·exact z6 _ _ _ _
   ·rw[gr,gu,oW,oX]
  refine ⟨_,(AH (Ha (pv 0) (Aj (gc T) (hr.mono (by decide)) rfl T.ji T.Wf.kp T.jh .nil Ay (AA (pv 1) AD)) rfl) (AH (Ha (pv 0) (Aj (UN T) (hr.mono (by decide)) rfl T.Wh T.P7.kp T.Wg .nil Ay (AA (pv 1) AD)) rfl) (AH (Ha (pv 0) (BM AD) rfl) (AM (Ha (pv 0) (BM AD) rfl))))),?_⟩;refine ⟨_,rfl,n,rfl,hn,fun wb H1 s1 hap1 hw1=>⟨_,rfl,sa,t.BV,dx,_,rfl,s1 _ _ hx,T.AR,T.Ae,by omega,?_⟩⟩;have hx1:=s1 _ _ hx;have l1:=D9 "wishes" (.ref wb) fs;have n1:(B3 "wishes" (.ref wb) fs).lookup ("number" : Str)=none:=by rw[CK,if_neg (by decide +kernel)];exact h0
  have sx2:CC sa H1 (upd H1 sa (.ins t.BV dx (B3 "wishes" (.ref wb) fs))):=CT;have hx2:(upd H1 sa (.ins t.BV dx (B3 "wishes" (.ref wb) fs))) sa=some (.ins t.BV dx (B3 "wishes" (.ref wb) fs)):=AK;have hw2:=hw1.sx hx1 h0 sx2;have hT2:=(hT.same s1).nx hx1 Vs sx2;have hap2:∀D o,H D=some o->Apart D (upd H1 sa (.ins t.BV dx (B3 "wishes" (.ref wb) fs))) wb:=fun D o e=>(hap1 D o e).sx hx1 h0 sx2
  have S2:CC sa H (upd H1 sa (.ins t.BV dx (B3 "wishes" (.ref wb) fs))):=s1.x.trans sx2;revert hx2 hw2 hT2 S2 hap2;generalize upd H1 sa (.ins t.BV dx (B3 "wishes" (.ref wb) fs))=H2;intro hx2 hw2 hT2 hap2 S2;refine ⟨_,rfl,n,rfl,hn,fun hb H3 s3 hh3=>⟨_,rfl,sa,t.BV,dx,_,rfl,s3 _ _ hx2,T.AR,T.BJ,by omega,?_⟩⟩;have hx3:=s3 _ _ hx2;have l2:=D9 "has" (.ref hb) (B3 "wishes" (.ref wb) fs);have n2:(B3 "has" (.ref hb) (B3 "wishes" (.ref wb) fs)).lookup ("number" : Str)=none:=by rw[CK,if_neg (by decide +kernel)];exact n1
  have sx4:CC sa H3 (upd H3 sa (.ins t.BV dx (B3 "has" (.ref hb) (B3 "wishes" (.ref wb) fs)))):=CT;have hx4:(upd H3 sa (.ins t.BV dx (B3 "has" (.ref hb) (B3 "wishes" (.ref wb) fs)))) sa=some (.ins t.BV dx (B3 "has" (.ref hb) (B3 "wishes" (.ref wb) fs))):=AK;have hw4:=(hw2.same s3).sx hx3 n1 sx4;have hh4:=hh3.sx hx3 sx4;have hT4:=(hT2.same s3).nx hx3 Vs sx4;have hap4:∀D o,H D=some o->Apart D (upd H3 sa (.ins t.BV dx (B3 "has" (.ref hb) (B3 "wishes" (.ref wb) fs)))) wb:=fun D o e=>((hap2 D o e).same s3).sx hx3 n1 sx4
  have S4:=(S2.trans s3.x).trans sx4;revert hx4 hw4 hh4 hT4 S4 hap4;generalize upd H3 sa (.ins t.BV dx (B3 "has" (.ref hb) (B3 "wishes" (.ref wb) fs)))=H4;intro hx4 hw4 hh4 hT4 hap4 S4;refine ⟨Bb _,fun pb hpb=>⟨_,rfl,sa,t.BV,dx,_,rfl,(As hpb) _ _ hx4,T.AR,T.E3,by omega,?_⟩⟩;have s5:Aw H4 (upd H4 pb (.lst [])):=As hpb;have hx5:=s5 _ _ hx4;have l3:=D9 "past" (.ref pb) (B3 "has" (.ref hb) (B3 "wishes" (.ref wb) fs));have n3:(B3 "past" (.ref pb) (B3 "has" (.ref hb) (B3 "wishes" (.ref wb) fs))).lookup ("number" : Str)=none:=by rw[CK,if_neg (by decide +kernel)];exact n2
  have ap4:=hw4.apart hpb;have fr4:H pb=none:=S4.free hx4 hpb;have p5:(upd H4 pb (.lst [])) pb=some (.lst (([]:List Addr).map V.ref)):=AK;have sx6:CC sa (upd H4 pb (.lst [])) (upd (upd H4 pb (.lst [])) sa (.ins t.BV dx (B3 "past" (.ref pb) (B3 "has" (.ref hb) (B3 "wishes" (.ref wb) fs))))):=CT;have hx6:(upd (upd H4 pb (.lst [])) sa (.ins t.BV dx (B3 "past" (.ref pb) (B3 "has" (.ref hb) (B3 "wishes" (.ref wb) fs))))) sa=some (.ins t.BV dx (B3 "past" (.ref pb) (B3 "has" (.ref hb) (B3 "wishes" (.ref wb) fs)))):=AK;have hw6:=(hw4.same s5).sx hx5 n2 sx6;have ap6:=(ap4.same s5).sx hx5 n2 sx6;have hap6:∀D o,H D=some o->Apart D (upd (upd H4 pb (.lst [])) sa (.ins t.BV dx (B3 "past" (.ref pb) (B3 "has" (.ref hb) (B3 "wishes" (.ref wb) fs))))) wb:=fun D o e=>((hap4 D o e).same s5).sx hx5 n2 sx6
  have hh6:=(hh4.same s5).sx hx5 sx6;have hT6:=(hT4.same s5).nx hx5 Vs sx6;have p6:=sx6 _ _ (CI p5 hx5 (fun z=>nomatch z)) p5;have S6:=(S4.trans s5.x).trans sx6;revert hx6 hw6 ap6 hh6 hT6 p6 S6 hap6;generalize upd (upd H4 pb (.lst [])) sa (.ins t.BV dx (B3 "past" (.ref pb) (B3 "has" (.ref hb) (B3 "wishes" (.ref wb) fs))))=H6;intro hx6 hw6 ap6 hap6 hh6 hT6 p6 S6;refine ⟨Bb _,fun ub hub=>⟨_,rfl,sa,t.BV,dx,_,rfl,(As hub) _ _ hx6,T.AR,T.Ed,by omega,?_⟩⟩;rw[hput];have s7:Aw H6 (upd H6 ub (.lst [])):=As hub;have hx7:=s7 _ _ hx6;have au6:=hw6.apart hub;have fr6:H ub=none:=S6.free hx6 hub;have u7:(upd H6 ub (.lst [])) ub=some (.lst (([]:List Addr).map V.ref)):=AK;have sx8:CC sa (upd H6 ub (.lst [])) (upd (upd H6 ub (.lst [])) sa (.ins t.BV dx (sF wb hb pb ub))):=CT;have S8:=(S6.trans s7.x).trans sx8;refine k _ S8 fun G hG=>⟨dx,wb,hb,pb,ub,[],[],AK,(hw6.same s7).sx hx7 n3 sx8,(hh6.same s7).sx hx7 sx8,?_,sx8 _ _ (CI (s7 _ _ p6) hx7 (fun z=>nomatch z)) (s7 _ _ p6),sx8 _ _ (CI u7 hx7 (fun z=>nomatch z)) u7,Af p6 hub,.nil,.nil,(hT6.same s7).nx hx7 Vs sx8,fun D hD=>?_⟩
  ·rintro D (rfl|rfl|hD)
   ·exact (ap6.same s7).sx hx7 n3 sx8
   ·exact (au6.same s7).sx hx7 n3 sx8
   ·obtain ⟨_,o,ho⟩:=hG D hD;exact ((hap6 D o ho).same s7).sx hx7 n3 sx8
  ·obtain ⟨g1,o,ho⟩:=hG D hD;exact ⟨g1,Af ho fr4,Af ho fr6,o,S8 _ _ g1 ho⟩
def ux(t:HU):Sp:=fun vs H Q _=>∃(x dx:Addr),vs=[.ref x]/\H x=some (.ins t.BV dx [])/\Sb t H/\∀H':Hp,(∀G:Addr->Prop,(∀D,G D->D≠x/\∃o,H D=some o)->FQ t G H' x (opened 0))->CC x H H'->Q .Ft H'
theorem bo(T:Txt K mg t):Bv P w K mg base EE 7 t.NN t.NO T5 (ux t):=by
 refine T.gR.ok bM (fun vs H Q E h=>?_) (fun cdv A outer s H vs Q E hr h=>?_)
 ·obtain ⟨x,dx,rfl,_⟩:=h;rfl
 ·obtain ⟨x,dx,rfl,hx,hT,k⟩:=h;refine ⟨_,(AM (Cw (CV (pv 0) T.AR T.Rb (QO T) (hr.mono (by decide)) T.Ra .nil Ay (AA BG AD)))),?_⟩;exact ⟨_,rfl,x,_,_,rfl,hx,rfl,x,dx,0,[],rfl,hx,.inl rfl,by omega,hT,fun H' sx hs=>k H' hs sx⟩
theorem Wy{α β:Type}{R:α->β->Prop}:∀{as:List α} {xs:List β} (n:Nat),Paired R as xs->Paired R (as.drop n) (xs.drop n)
 |_,_,0,h=>h
 |_,_,_+1,.nil=>.nil
 |_,_,n+1,.cons _ t=>Wy n t
theorem mX(xs:List V):N8 xs (some (-19)) none=xs.drop (xs.length-19):=by
 unfold N8;rw[HT.i3];have e:HT.HS xs.length 0 (some (-19))=xs.length-19:=by
  show (if (-19:Int)<0 then ((-19:Int)+(xs.length:Int)).toNat else min (-19:Int).toNat xs.length)=_;rw[if_pos (by decide)];omega
 rw[e];exact Fn (by rw[Ef];omega)
theorem uz{α:Type}(l:List α)(n:Nat):(l.take n).reverse=l.reverse.drop (l.length-n):=by
 rw[List.reverse_take]
def u0(t:HU)(N:Addr->Prop)(H:Hp)(wb hb:Addr)(x:S)(es:List Addr)(xs:List S):Prop:=B4 t.A7 H wb x.1/\TN H hb x.2/\(∀D,N D->Apart D H wb)/\Paired (Ent N t.A7 H) es xs/\Sb t H
section
variable {N:Addr->Prop} {H H':Hp} {wb hb:Addr} {x:S} {es:List Addr} {xs:List S}
theorem u0.same(h:u0 t N H wb hb x es xs)(s:Aw H H'):u0 t N H' wb hb x es xs:=⟨h.1.same s,h.2.1.same s,fun D hD=>(h.2.2.1 D hD).same s,Ad h.2.2.2.1 fun _ _ z=>z.same s,h.2.2.2.2.same s⟩
theorem u0.sx{C y dx:Addr}{fs:List (Str×V)}(h:u0 t N H wb hb x es xs)(hx:H y=some (.ins C dx fs))(hl:fs.lookup ("number" : Str)=none)(s:CC y H H'):u0 t N H' wb hb x es xs :=
 ⟨h.1.sx hx hl s,h.2.1.sx hx s,fun D hD=>(h.2.2.1 D hD).sx hx hl s,Ad h.2.2.2.1 fun _ _ z=>z.sx hx hl s,h.2.2.2.2.nx hx Vs s⟩
theorem u0.re{M:Addr->Prop}(h:u0 t N H wb hb x es xs)(k:∀D,M D->N D\/H D=none):u0 t M H wb hb x es xs:=⟨h.1,h.2.1,fun D hD=>(k D hD).elim (h.2.2.1 D) h.1.apart,Ad h.2.2.2.1 fun _ _ z=>z.re k,h.2.2.2.2⟩
end
def eK(t:HU):Sp:=fun vs H Q _=>∃(sa wb hb:Addr) (d:Dk) (x:S) (G:Addr->Prop),vs=[.ref sa,.ref wb,.ref hb]/\FQ t G H sa d/\B4 t.A7 H wb x.1/\TN H hb x.2/\(∀D,G D->Apart D H wb)/\∀H':Hp,CC sa H H'->FQ t G H' sa (d.become x)->Q .Ft H'
theorem DG(T:Txt K mg t):Bv P w K mg base EE 1 t.Kp t.Kq PR (eK t):=by
 refine T.Z7.ok XF (fun vs H Q E h=>?_) (fun cdv A outer s H vs Q E hr h=>?_)
 ·obtain ⟨sa,wb,hb,d,x,G,rfl,_⟩:=h;rfl
 ·obtain ⟨sa,wb,hb,d,x,G,rfl,⟨dx,wa,ha,pa,ua,es,fs,b⟩,hwb,hhb,hap,k⟩:=h;refine ⟨_,(AH (Ha (pv 0) (CZ IL (J7 Te (Ao (pv 0) rfl) (Ji (CZ J6 BG (Bw rfl T.Wt.1 T.Wt.2))) Td) (BM (AA (IK (AA (Ao (pv 0) rfl) (AA (Ao (pv 0) rfl) AD))) AD))) rfl) (AH (Ha (pv 0) (BM AD) rfl) (AH (Ha (pv 0) (pv 1) rfl) (AM (Ha (pv 0) (pv 2) rfl))))),?_⟩;refine ⟨_,rfl,sa,_,_,_,_,rfl,b.at_,T.AR,T.E3,Qw _ _ _ _,?_⟩;refine ⟨_,_,rfl,rfl,_,rfl,pa,_,rfl,Bq.of b.p,fun c hc=>?_⟩;have el:es.length=d.past.length:=by rw[AX b.ep,Dm]
  have ec:N8 (es.map V.ref) (some (1-20)) none=(es.drop (es.length-19)).map V.ref:=by
   rw[show ((1:Int)-20) = -19 from rfl,mX,AB,h8]
  rw[ec];have s1:Aw H (upd H c (.lst ((es.drop (es.length-19)).map V.ref))):=As hc;have c1:(upd H c (.lst ((es.drop (es.length-19)).map V.ref))) c=some (.lst ((es.drop (es.length-19)).map V.ref)):=AK;revert s1 c1;generalize upd H c (.lst ((es.drop (es.length-19)).map V.ref))=H1;intro s1 c1;refine ⟨_,rfl,sa,_,_,_,_,rfl,s1 _ _ b.at_,T.AR,T.Ae,Ml _ _ _ _,_,rfl,sa,_,_,_,_,rfl,s1 _ _ b.at_,T.AR,T.BJ,gq _ _ _ _,by show 2<=sizeLine;decide,fun e he=>?_⟩;have s2:Aw H (upd H1 e (.tup [.ref wa,.ref ha])):=s1.upd he;have e2:(upd H1 e (.tup [.ref wa,.ref ha])) e=some (.tup [.ref wa,.ref ha]):=AK;have c2:=(As (o:=.tup [.ref wa,.ref ha]) he) _ _ c1;revert s2 e2 c2;generalize upd H1 e (.tup [.ref wa,.ref ha])=H2;intro s2 e2 c2;refine ⟨by show 1<=sizeLine;decide,fun f hf=>⟨c,f,_,_,rfl,rfl,(As hf) _ _ c2,AK,small (by rw[AB,Ef];show _+1<=_;omega),fun p hp=>?_⟩⟩;have s3:Aw H (upd H2 f (.lst [V.ref e])):=s2.upd hf;have e3:=(As (o:=.lst [V.ref e]) hf) _ _ e2;revert s3 e3 hp;generalize upd H2 f (.lst [V.ref e])=H3;intro hp s3 e3;have fp:H p=none:=s3.free hp;have cu3:u0 t (fun D=>D=p\/G D) H3 wb hb x (es.drop (es.length-19)++[e]) (d.past.reverse.drop (d.past.length-19)++[d.now]):=by
   refine ⟨hwb.same s3,hhb.same s3,?_,EU ?_ ⟨wa,ha,e3,b.w.same s3,b.h.same s3,?_⟩,b.tb.same s3⟩
   ·rintro D (rfl|hD)
    ·exact (hwb.same s3).apart hp
    ·exact (hap D hD).same s3
   ·rw[<-el];refine Ad (Wy _ b.ep) fun _ _ z=>(z.same s3).re ?_
    rintro D (rfl|hD)
    ·exact .inr hp
    ·exact .inl (.inr (.inr hD))
   ·rintro D (rfl|hD)
    ·exact (b.w.same s3).apart hp
    ·exact (b.ap D (.inr (.inr hD))).same s3
  have ex:(es.drop (es.length-19)).map V.ref++[V.ref e]=(es.drop (es.length-19)++[e]).map V.ref:=by rw[BS];rfl
  rw[ex];have eb:(d.become x).past.reverse=d.past.reverse.drop (d.past.length-19)++[d.now]:=by
   show ((d.now::d.past).take 20).reverse=_;rw[List.take_succ_cons,IB,uz]
  rw[<-eb]at cu3;revert cu3;generalize es.drop (es.length-19)++[e]=gs;intro cu3;have s4:Aw H (upd H3 p (.lst (gs.map V.ref))):=s3.upd hp;have cu4:=cu3.same (As (o:=.lst (gs.map V.ref)) hp);have p4:(upd H3 p (.lst (gs.map V.ref))) p=some (.lst (gs.map V.ref)):=AK;have x4:=s4 _ _ b.at_;revert s4 cu4 p4 x4;generalize upd H3 p (.lst (gs.map V.ref))=H4;intro s4 cu4 p4 x4;refine ⟨_,rfl,sa,t.BV,dx,_,rfl,x4,T.AR,T.E3,by show 4<1000;decide,?_⟩;rw[oW];have sx5:CC sa H4 (upd H4 sa (.ins t.BV dx (sF wa ha p ua))):=CT;have x5:(upd H4 sa (.ins t.BV dx (sF wa ha p ua))) sa=_:=AK;have cu5:=cu4.sx x4 (z7 _ _ _ _) sx5;have p5:=sx5 _ _ (CI p4 x4 (fun z=>nomatch z)) p4;have S5:=s4.x.trans sx5;revert x5 cu5 p5 S5;generalize upd H4 sa (.ins t.BV dx (sF wa ha p ua))=H5;intro x5 cu5 p5 S5;refine ⟨Bb _,fun q hq=>⟨_,rfl,sa,t.BV,dx,_,rfl,(As hq) _ _ x5,T.AR,T.Ed,by show 4<1000;decide,?_⟩⟩;rw[oX];have fq:H q=none:=S5.free x5 hq;have npq:p≠q:=Af p5 hq;have cu6:u0 t (Nb G p q) (upd H5 q (.lst [])) wb hb x gs (d.become x).past.reverse:=by
   refine (cu5.re ?_).same (As hq);rintro D (hD|rfl|hD)
   ·exact .inl (.inl hD)
   ·exact .inr hq
   ·exact .inl (.inr hD)
  have s6:Aw H5 (upd H5 q (.lst [])):=As hq;have q6:(upd H5 q (.lst [])) q=some (.lst (([]:List Addr).map V.ref)):=AK;revert s6 cu6 q6;generalize upd H5 q (.lst [])=H6;intro cu6 s6 q6;have x6:=s6 _ _ x5;have sx7:CC sa H6 (upd H6 sa (.ins t.BV dx (sF wa ha p q))):=CT;have x7:(upd H6 sa (.ins t.BV dx (sF wa ha p q))) sa=_:=AK;have cu7:=cu6.sx x6 (z7 _ _ _ _) sx7;have p7:=sx7 _ _ (CI (s6 _ _ p5) x6 (fun z=>nomatch z)) (s6 _ _ p5);have q7:=sx7 _ _ (CI q6 x6 (fun z=>nomatch z)) q6;have S7:=(S5.trans s6.x).trans sx7;revert x7 cu7 p7 q7 S7;generalize upd H6 sa (.ins t.BV dx (sF wa ha p q))=H7;intro x7 cu7 p7 q7 S7;refine ⟨_,rfl,_,rfl,sa,t.BV,dx,_,rfl,x7,T.AR,T.Ae,by show 4<1000;decide,?_⟩;rw[gr];have sx8:CC sa H7 (upd H7 sa (.ins t.BV dx (sF wb ha p q))):=CT;have x8:(upd H7 sa (.ins t.BV dx (sF wb ha p q))) sa=_:=AK;have cu8:=cu7.sx x7 (z7 _ _ _ _) sx8;have p8:=sx8 _ _ (CI p7 x7 (fun z=>nomatch z)) p7;have q8:=sx8 _ _ (CI q7 x7 (fun z=>nomatch z)) q7;have S8:=S7.trans sx8;revert x8 cu8 p8 q8 S8;generalize upd H7 sa (.ins t.BV dx (sF wb ha p q))=H8;intro x8 cu8 p8 q8 S8;refine ⟨_,rfl,_,rfl,sa,t.BV,dx,_,rfl,x8,T.AR,T.BJ,by show 4<1000;decide,?_⟩;rw[gu];have sx9:CC sa H8 (upd H8 sa (.ins t.BV dx (sF wb hb p q))):=CT;have cu9:=cu8.sx x8 (z7 _ _ _ _) sx9;have S9:=S8.trans sx9;refine k _ S9 ⟨dx,wb,hb,p,q,gs,[],AK,cu9.1,cu9.2.1,cu9.2.2.1,sx9 _ _ (CI p8 x8 (fun z=>nomatch z)) p8,sx9 _ _ (CI q8 x8 (fun z=>nomatch z)) q8,npq,cu9.2.2.2.1,.nil,cu9.2.2.2.2,fun D hD=>?_⟩;obtain ⟨g1,_,_,o,ho⟩:=b.g D hD;exact ⟨g1,Af ho fp,Af ho fq,o,S9 _ _ g1 ho⟩
structure Core(t:HU)(N:Addr->Prop)(H:Hp)(wa ha p u:Addr)(es fs:List Addr)(now:S)(P U:List S):Prop where
 w:B4 t.A7 H wa now.1
 h:TN H ha now.2
 ap:∀D,N D->Apart D H wa
 p_:H p=some (.lst (es.map V.ref))
 u_:H u=some (.lst (fs.map V.ref))
 ne:p≠u
 np:N p
 nu:N u
 ep:Paired (Ent N t.A7 H) es P.reverse
 eu:Paired (Ent N t.A7 H) fs U.reverse
 tb:Sb t H
theorem kJ{α β:Type}{R:α->β->Prop}{as:List α}{xs:List β}{x:β}(h:Paired R as (xs++[x])):∃bs a,as=bs++[a]/\Paired R bs xs/\R a x:=by
 induction xs generalizing as with
 |nil =>
  cases h with
  |cons r t=>cases t;exact ⟨[],_,rfl,.nil,r⟩
 |cons y xs ih =>
  cases h with
  |cons r t =>
   obtain ⟨bs,a,rfl,h2,h3⟩:=ih t;exact ⟨_::bs,a,rfl,.cons r h2,h3⟩
section
variable {N:Addr->Prop} {H H':Hp} {wa ha p u e:Addr} {es fs:List Addr} {now x:S} {B U r:List S}
theorem Core.swap(c:Core t N H wa ha p u es fs now B U):Core t N H wa ha u p fs es now U B:=⟨c.w,c.h,c.ap,c.u_,c.p_,Cr c.ne,c.nu,c.np,c.eu,c.ep,c.tb⟩
theorem Core.same(c:Core t N H wa ha p u es fs now B U)(s:Aw H H'):Core t N H' wa ha p u es fs now B U:=⟨c.w.same s,c.h.same s,fun D hD=>(c.ap D hD).same s,s _ _ c.p_,s _ _ c.u_,c.ne,c.np,c.nu,Ad c.ep fun _ _ z=>z.same s,Ad c.eu fun _ _ z=>z.same s,c.tb.same s⟩
theorem Core.sx{C y dx:Addr}{gs:List (Str×V)}(c:Core t N H wa ha p u es fs now B U)(hx:H y=some (.ins C dx gs))(hl:gs.lookup ("number" : Str)=none)(s:CC y H H'):Core t N H' wa ha p u es fs now B U :=
 ⟨c.w.sx hx hl s,c.h.sx hx s,fun D hD=>(c.ap D hD).sx hx hl s,s _ _ (CI c.p_ hx (fun z=>nomatch z)) c.p_,s _ _ (CI c.u_ hx (fun z=>nomatch z)) c.u_,c.ne,c.np,c.nu,Ad c.ep fun _ _ z=>z.sx hx hl s,Ad c.eu fun _ _ z=>z.sx hx hl s,c.tb.nx hx Vs s⟩
theorem Core.push(c:Core t N H wa ha p u es fs now B U)(he:H e=some (.tup [.ref wa,.ref ha])):Core t N (upd H u (.lst ((fs++[e]).map V.ref))) wa ha p u es (fs++[e]) now B (now::U):=by
 have s:CC u H (upd H u (.lst ((fs++[e]).map V.ref))):=CT;refine ⟨c.w.lx c.u_ (c.ap u c.nu) s,c.h.lx c.u_ s,fun D hD=>(c.ap D hD).lx (c.ap u c.nu) c.u_ s,s _ _ c.ne c.p_,AK,c.ne,c.np,c.nu,Ad c.ep fun _ _ z=>z.lx c.u_ c.nu s,?_,c.tb.nx c.u_ mW s⟩;rw[IB];refine EU (Ad c.eu fun _ _ z=>z.lx c.u_ c.nu s) (Ent.lx ⟨wa,ha,he,c.w,c.h,c.ap⟩ c.u_ c.nu s)
theorem Core.pop(c:Core t N H wa ha p u es fs now (x::r) U):∃(bs:List Addr) (e wb hb:Addr),es=bs++[e]/\(upd H p (.lst (bs.map V.ref))) e=some (.tup [.ref wb,.ref hb])/\Core t N (upd H p (.lst (bs.map V.ref))) wb hb p u bs fs x r U:=by
 have ep:=c.ep;rw[IB]at ep;obtain ⟨bs,e,rfl,h1,h2⟩:=kJ ep;have s:CC p H (upd H p (.lst (bs.map V.ref))):=CT;obtain ⟨wb,hb,g1,g2,g3,g4⟩:=h2.lx c.p_ c.np s;exact ⟨bs,e,wb,hb,rfl,g1,g2,g3,g4,AK,s _ _ (Cr c.ne) c.u_,c.ne,c.np,c.nu,Ad h1 fun _ _ z=>z.lx c.p_ c.np s,Ad c.eu fun _ _ z=>z.lx c.p_ c.np s,c.tb.nx c.p_ mW s⟩
end
theorem StB.core{G:Addr->Prop}{H:Hp}{sa dx wa ha pa ua:Addr}{es fs:List Addr}{d:Dk}(b:StB t G H sa d dx wa ha pa ua es fs):Core t (Nb G pa ua) H wa ha pa ua es fs d.now d.past d.X7 :=
 ⟨b.w,b.h,b.ap,b.p,b.u,b.ne,.inl rfl,.inr (.inl rfl),b.ep,b.eu,b.tb⟩
def Wz(G:Addr->Prop)(H H':Hp):Prop:=∀D o,G D->(∀q,o≠.Jt q)->H D=some o->H' D=some o
theorem xP{t:HU}{G:Addr->Prop}{sa:Addr}{H H':Hp}{d:Dk}(hs:FQ t G H sa d)(s:CC sa H H'):Wz G H H':=fun D o hG _ e=>s _ _ (hs.ge D hG).1 e
def z8(t:HU):Sp:=fun vs H Q _=>∃(sa e dx wa ha wb hb pa ua:Addr),vs=[.ref sa,.ref e]/\H sa=some (.ins t.BV dx (sF wa ha pa ua))/\H e=some (.tup [.ref wb,.ref hb])/\∀H':Hp,CC sa H H'->(∀b,H' b=none->H b=none)->H' sa=some (.ins t.BV dx (sF wb hb pa ua))->Q .Ft H'
theorem US(T:Txt K mg t):Bv P w K mg base EE 1 t.P0 t.P2 Wc (z8 t):=by
 refine T.j0.ok gG (fun vs H Q E h=>?_) (fun cdv A outer s H vs Q E hr h=>?_)
 ·obtain ⟨sa,e,dx,wa,ha,wb,hb,pa,ua,rfl,_⟩:=h;rfl
 ·obtain ⟨sa,e,dx,wa,ha,wb,hb,pa,ua,rfl,hx,he,k⟩:=h;refine ⟨_,(AH (Ha (pv 0) (BU CU (pv 1) BG (fun _ _=>rfl)) rfl) (AM (Ha (pv 0) (BU CU (pv 1) BG (fun _ _=>rfl)) rfl))),?_⟩;refine ⟨_,rfl,e,_,_,_,rfl,rfl,DR.of he,at_of (j:=0) rfl rfl,_,rfl,sa,t.BV,dx,_,rfl,hx,T.AR,T.Ae,by show 4<1000;decide,?_⟩;rw[gr];have sx1:CC sa H (upd H sa (.ins t.BV dx (sF wb ha pa ua))):=CT;have he1:=sx1 _ _ (CI he hx (fun z=>nomatch z)) he;refine ⟨_,rfl,e,_,_,_,rfl,rfl,DR.of he1,at_of (j:=1) rfl rfl,_,rfl,sa,t.BV,dx,_,rfl,AK,T.AR,T.BJ,by show 4<1000;decide,?_⟩;rw[gu];refine k _ (sx1.trans CT) (fun b hb=>?_) AK
  by_cases e:b=sa
  ·rw[e,AK]at hb;cases hb
  ·rw[A2 e,A2 e]at hb;exact hb
theorem eM(bs:List Addr)(e:Addr):((bs++[e]).map V.ref)[((bs++[e]).map V.ref).length-1]?=some (V.ref e):=by simp
theorem eN(bs:List Addr)(e:Addr):((bs++[e]).map V.ref).dropLast=bs.map V.ref:=by simp
theorem Mn{H:Hp}{a b:Addr}{o:HO}(h:upd H a o b=none):H b=none:=by
 by_cases e:b=a
 ·rw[e,AK]at h;cases h
 ·rwa [A2 e]at h
def gv(t:HU):Sp:=fun vs H Q _=>∃(sa:Addr) (d:Dk) (x:S) (r:List S) (G:Addr->Prop),vs=[.ref sa]/\FQ t G H sa d/\E7 d/\d.past=x::r/\∀H':Hp,Wz G H H'->FQ t G H' sa ⟨x,r,d.now::d.X7⟩->(∀b,H' b=none->H b=none)->Q .Ft H'
theorem Sd(T:Txt K mg t):Bv P w K mg base EE 2 t.Hl t.Hm LJ (gv t):=by
 refine T.UJ.ok R1 (fun vs H Q E h=>?_) (fun cdv A outer s H vs Q E hr h=>?_)
 ·obtain ⟨sa,d,x,r,G,rfl,_⟩:=h;rfl
 ·obtain ⟨sa,d,x,r,G,rfl,⟨dx,wa,ha,pa,ua,es,fs,b⟩,D,hd,k⟩:=h;have hro:=D.room;have lu:fs.length=d.X7.length:=by rw[AX b.eu,Dm]
  have c0:=b.core;rw[hd]at c0;refine ⟨_,(AH (Cw (JZ BQ CO CP Gk (Ao (pv 0) rfl) (AA (IK (AA (Ao (pv 0) rfl) (AA (Ao (pv 0) rfl) AD))) AD))) (AM (Cw (CV (pv 0) T.AR T.Ws (US T) (hr.mono (by decide)) T.Wr .nil Ay (AA (tV BQ h9 iA tW (Ao (pv 0) rfl)) AD))))),?_⟩;refine ⟨_,rfl,sa,_,_,_,_,rfl,b.at_,T.AR,T.Ed,Mm _ _ _ _,?_⟩;refine ⟨.inl ⟨rfl,_,Bq.of b.u⟩,_,rfl,sa,_,_,_,_,rfl,b.at_,T.AR,T.Ae,Ml _ _ _ _,_,rfl,sa,_,_,_,_,rfl,b.at_,T.AR,T.BJ,gq _ _ _ _,by show 2<=sizeLine;decide,fun e he=>?_⟩;have s1:Aw H (upd H e (.tup [.ref wa,.ref ha])):=As he;refine ⟨ua,_,_,rfl,rfl,s1 _ _ b.u,by rw[AB];exact A9 (by omega) (small (AV 1000)),?_⟩;have ex:fs.map V.ref++[V.ref e]=(fs++[e]).map V.ref:=by rw[BS];rfl
  rw[ex];have c2:=(c0.same s1).push (e:=e) AK;have x2:(upd (upd H e (.tup [.ref wa,.ref ha])) ua (.lst ((fs++[e]).map V.ref))) sa=some (.ins t.BV dx (sF wa ha pa ua)):=by
   rw[A2 (CI b.at_ b.u (fun z=>nomatch z))];exact s1 _ _ b.at_
  obtain ⟨bs,e',wb,hb,ee,he',c3⟩:=c2.pop;refine ⟨_,rfl,sa,_,_,rfl,x2,Wx _ _ _ _ (by decide +kernel),_,rfl,sa,_,_,_,_,rfl,x2,T.AR,T.E3,Qw _ _ _ _,.inl ⟨rfl,_,Bq.of c2.p_⟩,pa,_,V.ref e',rfl,rfl,c2.p_,by rw[ee];exact eM _ _,?_⟩;rw[ee,eN];have x3:(upd (upd (upd H e (.tup [.ref wa,.ref ha])) ua (.lst ((fs++[e]).map V.ref))) pa (.lst (bs.map V.ref))) sa=some (.ins t.BV dx (sF wa ha pa ua)):=by
   rw[A2 (CI b.at_ b.p (fun z=>nomatch z))];exact x2
  refine ⟨sa,e',dx,wa,ha,wb,hb,pa,ua,rfl,x3,he',fun H' sx nn hx=>?_⟩;have c4:=c3.sx x3 (z7 _ _ _ _) sx;have go:∀D o,G D->H D=some o->H' D=some o:=by
   intro D o hG e1;obtain ⟨g1,g2,g3,_⟩:=b.g D hG;refine sx _ _ g1 ?_;rw[A2 g2,A2 g3];exact s1 _ _ e1
  refine k H' (fun D o hG _ e1=>go D o hG e1) ⟨dx,wb,hb,pa,ua,_,_,hx,c4.w,c4.h,c4.ap,c4.p_,c4.u_,c4.ne,c4.ep,c4.eu,c4.tb,fun D hG=>?_⟩ (fun y hy=>Mn (Mn (Mn (nn y hy))));obtain ⟨g1,g2,g3,o,g4⟩:=b.g D hG;exact ⟨g1,g2,g3,o,go D o hG g4⟩
def kK(t:HU):Sp:=fun vs H Q _=>∃(sa:Addr) (d:Dk) (x:S) (r:List S) (G:Addr->Prop),vs=[.ref sa]/\FQ t G H sa d/\E7 d/\d.X7=x::r/\∀H':Hp,Wz G H H'->FQ t G H' sa ⟨x,d.now::d.past,r⟩->(∀b,H' b=none->H b=none)->Q .Ft H'
theorem UT(T:Txt K mg t):Bv P w K mg base EE 2 t.IU t.IV ML (kK t):=by
 refine T.Vh.ok T6 (fun vs H Q E h=>?_) (fun cdv A outer s H vs Q E hr h=>?_)
 ·obtain ⟨sa,d,x,r,G,rfl,_⟩:=h;rfl
 ·obtain ⟨sa,d,x,r,G,rfl,⟨dx,wa,ha,pa,ua,es,fs,b⟩,D,hd,k⟩:=h;have hro:=D.room;have lu:es.length=d.past.length:=by rw[AX b.ep,Dm]
  have c0:=b.core.swap;rw[hd]at c0;refine ⟨_,(AH (Cw (JZ BQ CO CP Gk (Ao (pv 0) rfl) (AA (IK (AA (Ao (pv 0) rfl) (AA (Ao (pv 0) rfl) AD))) AD))) (AM (Cw (CV (pv 0) T.AR T.Ws (US T) (hr.mono (by decide)) T.Wr .nil Ay (AA (tV BQ h9 iA tW (Ao (pv 0) rfl)) AD))))),?_⟩;refine ⟨_,rfl,sa,_,_,_,_,rfl,b.at_,T.AR,T.E3,Qw _ _ _ _,?_⟩;refine ⟨.inl ⟨rfl,_,Bq.of b.p⟩,_,rfl,sa,_,_,_,_,rfl,b.at_,T.AR,T.Ae,Ml _ _ _ _,_,rfl,sa,_,_,_,_,rfl,b.at_,T.AR,T.BJ,gq _ _ _ _,by show 2<=sizeLine;decide,fun e he=>?_⟩;have s1:Aw H (upd H e (.tup [.ref wa,.ref ha])):=As he;refine ⟨pa,_,_,rfl,rfl,s1 _ _ b.p,by rw[AB];exact A9 (by omega) (small (AV 1000)),?_⟩;have ex:es.map V.ref++[V.ref e]=(es++[e]).map V.ref:=by rw[BS];rfl
  rw[ex];have c2:=(c0.same s1).push (e:=e) AK;have x2:(upd (upd H e (.tup [.ref wa,.ref ha])) pa (.lst ((es++[e]).map V.ref))) sa=some (.ins t.BV dx (sF wa ha pa ua)):=by
   rw[A2 (CI b.at_ b.p (fun z=>nomatch z))];exact s1 _ _ b.at_
  obtain ⟨bs,e',wb,hb,ee,he',c3⟩:=c2.pop;refine ⟨_,rfl,sa,_,_,rfl,x2,Wx _ _ _ _ (by decide +kernel),_,rfl,sa,_,_,_,_,rfl,x2,T.AR,T.Ed,Mm _ _ _ _,.inl ⟨rfl,_,Bq.of c2.p_⟩,ua,_,V.ref e',rfl,rfl,c2.p_,by rw[ee];exact eM _ _,?_⟩;rw[ee,eN];have x3:(upd (upd (upd H e (.tup [.ref wa,.ref ha])) pa (.lst ((es++[e]).map V.ref))) ua (.lst (bs.map V.ref))) sa=some (.ins t.BV dx (sF wa ha pa ua)):=by
   rw[A2 (CI b.at_ b.u (fun z=>nomatch z))];exact x2
  refine ⟨sa,e',dx,wa,ha,wb,hb,pa,ua,rfl,x3,he',fun H' sx nn hx=>?_⟩;have c4:=(c3.sx x3 (z7 _ _ _ _) sx).swap;have go:∀D o,G D->H D=some o->H' D=some o:=by
   intro D o hG e1;obtain ⟨g1,g2,g3,_⟩:=b.g D hG;refine sx _ _ g1 ?_;rw[A2 g3,A2 g2];exact s1 _ _ e1
  refine k H' (fun D o hG _ e1=>go D o hG e1) ⟨dx,wb,hb,pa,ua,_,_,hx,c4.w,c4.h,c4.ap,c4.p_,c4.u_,c4.ne,c4.ep,c4.eu,c4.tb,fun D hG=>?_⟩ (fun y hy=>Mn (Mn (Mn (nn y hy))));obtain ⟨g1,g2,g3,o,g4⟩:=b.g D hG;exact ⟨g1,g2,g3,o,go D o hG g4⟩
def u4(t:HU):Sp:=fun vs H Q _=>∃(sa:Addr) (a:Nat) (d:Dk) (G:Addr->Prop),vs=[.ref sa,vN a]/\FQ t G H sa d/\Q (.bl (decide (d.now.1.length<=a))) H
theorem DY(T:Txt K mg t):Bv P w K mg base EE 2 t.Ls t.Lu RS (u4 t):=by
 refine T.bU.ok ZX (fun vs H Q E h=>?_) (fun cdv A outer s H vs Q E hr h=>?_)
 ·obtain ⟨sa,a,d,G,rfl,_⟩:=h;rfl
 ·obtain ⟨sa,a,d,G,rfl,hst,k⟩:=h;obtain ⟨dx,wa,ha,fs,h1,h2,h3,hw,hh,_⟩:=hst.get;obtain ⟨dx',l1,l2,l3,g1,_⟩:=id hw;refine ⟨_,(AM (Am (tL (CV (Ao (pv 0) rfl) T.BP T.P6 (N3 T) (hr.mono (by decide)) T.P5 .nil Ay (AA (pv 1) AD))))),?_⟩;refine ⟨_,rfl,sa,_,_,_,_,rfl,h1,T.AR,T.Ae,h2,wa,_,_,rfl,g1,Tp _ _ _ _ (by decide +kernel) (by decide +kernel) (by decide +kernel) (by decide +kernel),_,rfl,wa,_,a,rfl,hw,_,rfl,?_⟩;have e:(!decide (a<d.now.1.length))=decide (d.now.1.length<=a):=by
   by_cases c:a<d.now.1.length
   ·rw[decide_eq_true c,decide_eq_false (by omega)];rfl
   ·rw[decide_eq_false c,decide_eq_true (by omega)];rfl
  rw[e];exact k
def z9(H:Hp):El->List V->Prop
 |.start n,vs=>vs=[vN n]
 |.wish a n l,vs=>∃ra:Addr,vs=[vN a,vN n,.ref ra]/\LN H ra l/\l.length=5
 |.moveIn n l,vs=>∃ra:Addr,vs=[vN n,.ref ra]/\LN H ra l/\l.length=5
 |.pair a b,vs=>vs=[vN a,vN b]
 |.part a,vs=>vs=[vN a]
 |.break_ a b,vs=>vs=[vN a,vN b]
 |.take k,vs=>vs=[vN k]
 |.nth k,vs=>vs=[vN k]
 |.votes l,vs=>∃ra:Addr,vs=[.ref ra]/\LN H ra l/\l.length=6
 |.best a,vs=>vs=[vN a]
 |.rather k,vs=>vs=[vN k]
 |.with_ a,vs=>vs=[vN a]
 |.look a,vs=>vs=[vN a]
 |_,vs=>vs=[]
def KC(t:HU)(G:Addr->Prop)(H:Hp)(sa:Addr)(d:Dk)(c:El)(Q:VK):Prop:=∀(b:Addr) (H':Hp) (d':Dk),Wz G H H'->FQ t G H' sa d'->E7 d'->(Ag d.AU c).1=d'.AU->H b=none ->
 H' b=some (.lst ((JW (Ag d.AU c).2).map V.int))->Q (.ref b) H'
def QP(t:HU)(mk:El->Prop):Sp:=fun vs H Q _=>∃(sa ga:Addr) (d:Dk) (c:El) (gs:List V) (G:Addr->Prop),mk c/\vs=[.ref sa,.ref ga]/\FQ t G H sa d/\E7 d/\H ga=some (.lst gs)/\z9 H c gs/\KC t G H sa d c Q
theorem Hv(v:Int)(out:List Nat):(JW ⟨v,out⟩).map V.int=V.int v::nums out:=by
 show V.int v::(out.map fun (x:Nat)=>(x:Int)).map V.int=_;rw[Dd];rfl
theorem KC.keep{G:Addr->Prop}{sa p:Addr}{H H1:Hp}{d:Dk}{c:El}{Q:VK}{a:EZ}{vs:List V}(k:KC t G H sa d c Q)(D:E7 d)(hst:FQ t G H sa d)(s:Aw H H1)(e:Ag d.AU c=(d.AU,a))(hp:H1 p=none)(hv:vs=(JW a).map V.int):Q (.ref p) (upd H1 p (.lst vs)):=by
 subst hv;exact k p _ d (fun _ _ _ _ e=>(s.upd hp) _ _ e) (hst.same (s.upd hp)) D (by rw[e]) (s.free hp) (by rw[e];exact AK)
theorem KC.turn{G:Addr->Prop}{sa p:Addr}{H H1:Hp}{d d':Dk}{c:El}{Q:VK}{a:EZ}{vs:List V}(k:KC t G H sa d c Q)(D:E7 d')(hst:FQ t G H1 sa d')(hs0:FQ t G H sa d)(s:CC sa H H1)(e:Ag d.AU c=(d'.AU,a))(hp:H1 p=none)(hv:vs=(JW a).map V.int):Q (.ref p) (upd H1 p (.lst vs)):=by
 subst hv;obtain ⟨dx,wa,ha,fs,h1,_⟩:=hst.get;exact k p _ d' (xP hs0 (s.trans (As hp).x)) (hst.same (As hp)) D (by rw[e]) (s.free h1 hp) (by rw[e];exact AK)
theorem KC.oY{G:Addr->Prop}{sa p:Addr}{H H1:Hp}{d d':Dk}{c:El}{Q:VK}{a:EZ}{vs:List V}(k:KC t G H sa d c Q)(D:E7 d')(hst:FQ t G H1 sa d')(s:Wz G H H1)(hn:H p=none)(e:Ag d.AU c=(d'.AU,a))(hp:H1 p=none)(hv:vs=(JW a).map V.int):Q (.ref p) (upd H1 p (.lst vs)):=by
 subst hv;exact k p _ d' (fun D o hG ho e=>(As hp) _ _ (s D o hG ho e)) (hst.same (As hp)) D (by rw[e]) hn (by rw[e];exact AK)
theorem kL(T:Txt K mg t):Bv P w K mg base EE 7 t.Kg t.SD Y8 (QP t fun c=>∃n,c=.start n):=by
 refine T.Zy.ok WN (fun vs H Q E h=>?_) (fun cdv A outer s H vs Q E hr h=>?_)
 ·obtain ⟨sa,ga,d,c,gs,G,_,rfl,_⟩:=h;rfl
 ·obtain ⟨sa,ga,d,_,gs,G,⟨n,rfl⟩,rfl,hst,D,hg,rfl,k⟩:=h;obtain ⟨dx,wa,ha,fs,h1,h2,h3,hw,hh,m1,m2,⟨m3,m4⟩,m5⟩:=hst.get;refine ⟨_,(AH (BF (i:=2) WN.nd rfl (Ai rfl) (BU Be (pv 1) BG (fun _ _=>rfl))) (AH (Cm (Cy iu (pv 2) (Bw rfl T.C1.1 T.C1.2) (C6 _)) (AM (Am (BM (AA (Bw rfl T.LO.1 T.LO.2) AD)))) Bk) (AH (Cw (CV (pv 0) T.AR T.Rb (QO T) (hr.mono (by decide)) T.Ra .nil Ay (AA (pv 2) AD))) (AM (Am (BM (AA BG AD))))))),?_⟩;refine ⟨_,rfl,ga,_,_,_,rfl,rfl,Bq.of hg,at_of (j:=0) rfl rfl,?_⟩;refine ⟨_,rfl,_,_,rfl,rfl,_,rfl,?_⟩;show if decide ((6:Int)<(n:Int))=true then _ else _
  by_cases c6:6<n
  ·rw[decide_eq_true (by omega)];exact Ca ⟨by show 1<=sizeLine;decide,fun p hp=>k.keep D hst (Aw.refl H) (Sz d c6) hp rfl⟩
  ·rw[decide_eq_false (by omega)];refine Cz ⟨_,rfl,sa,_,_,rfl,h1,m3,_,rfl,sa,dx,n,fs,rfl,h1,.inr m4,by omega,hst.tabs,fun H1 sx1 hs1=>?_⟩;exact ⟨by show 1<=sizeLine;decide,fun p hp=>k.turn (b9 (by omega)) (hs1 G hst.ge) hst sx1 (b8 d c6) hp rfl⟩
end
open PySem PySem.Spec PyProof.Rows L2
theorem aN(l:List Nat)(n:Nat):N8 (nums l) none (some (n:Int))=nums (l.take n):=by rw[ug,qr]
theorem rA{w:List (List Nat)}{p:List Nat}{a:Nat}:(G2 w p a).length=p.length:=by
 unfold G2
 split
 ·rfl
 ·exact Cb p a
section
variable {P:Program} {w:World} {K:AE} {mg:Str->Option Value} {base:Heap} {t:HU}
theorem mY(T:Txt K mg t):Bv P w K mg base EE 6 t.MO t.VJ dA (QP t fun c=>∃a n l,c=.wish a n l):=by
 refine T.dn.ok GR (fun vs H Q E h=>?_) (fun cdv A outer s H vs Q E hr h=>?_)
 ·obtain ⟨sa,ga,d,c,gs,G,_,rfl,_⟩:=h;rfl
 ·obtain ⟨sa,ga,d,_,gs,G,⟨a,n,l,rfl⟩,rfl,hst,D,hg,⟨rw,rfl,hl,hl5⟩,k⟩:=h;obtain ⟨dx,wa,ha,fs,h1,h2,h3,hw,hh,m1,m2,m3⟩:=hst.get;have h6:=D.now.w.len;have hpl:=D.now.p.len;refine ⟨_,(AH (BF (i:=2) GR.nd rfl (Ai rfl) (BU Be (pv 1) BG (fun _ _=>rfl))) (AH (Cm (Ck (CV (pv 0) T.AR T.D3 (DY T) (hr.mono (by decide)) T.D1 .nil Ay (AA (pv 2) AD))) (AM (Am (BM (AA (Bw rfl T.Bx.1 T.Bx.2) AD)))) Bk) (AH (BF (i:=3) GR.nd rfl (Ai rfl) (BU Be (pv 1) BG (fun _ _=>rfl))) (AH (BF (i:=4) GR.nd rfl (Ai rfl) (J7 Te (BU Be (pv 1) BG (fun _ _=>rfl)) Td (Ji (pv 3)))) (AH (Cm (PW.pt (cS (Cy iu (pv 3) (Bw rfl T.FO.1 T.FO.2) (C6 _)) (Us (FK (Ck (Aj (aG T) (hr.mono (by decide)) rfl T.dj T.Vd.kp T.di .nil Ay (AA (pv 4) (AA (Ao (Ao (pv 0) rfl) rfl) (AA (pv 2) AD))))))))) (AM (Am (BM (AA (Bw rfl T.LO.1 T.LO.2) AD)))) Bk) (AH (BF (i:=5) GR.nd rfl (Ai rfl) (Ba A4 (by rfl) T.C7 An (AA (BU CU (Ao (Ao (pv 0) rfl) rfl) (pv 2) (fun _ _=>rfl)) AD))) (AH (BF (i:=6) GR.nd rfl (Ai rfl) (CV (Ao (pv 0) rfl) T.BP T.SR (Q5 T) (hr.mono (by decide)) T.SQ .nil Ay (AA (pv 2) (AA (pv 4) AD)))) (AH (BF (i:=7) GR.nd rfl (Ai rfl) (Ao (pv 0) rfl)) (AH (Cm (FK (Ck (CV (pv 6) T.BP T.Ho (HB T) (hr.mono (by decide)) T.Hn .nil Ay (AA (pv 2) (AA (BU CU (pv 7) (pv 2) (fun _ _=>rfl)) AD))))) (AM (BF (i:=7) GR.nd rfl (Ai rfl) (Aj (Mh T) (hr.mono (by decide)) rfl T.QA T.Me.kp T.P9 .nil Ay (AA (pv 7) (AA (pv 2) AD))))) Bk) (AH (Cw (CV (pv 0) T.AR T.DX (DG T) (hr.mono (by decide)) T.DW .nil Ay (AA (pv 6) (AA (pv 7) AD)))) (AM (Am (BM (AA (pv 5) (AA (Aj (DD T) (hr.mono (by decide)) rfl T.DT T.DC.kp T.DS .nil Ay (AA (pv 7) AD)) AD))))))))))))))),?_⟩;refine ⟨_,rfl,ga,_,_,_,rfl,rfl,Bq.of hg,at_of (j:=0) rfl rfl,?_⟩;refine ⟨_,rfl,sa,_,_,rfl,h1,m1,_,rfl,sa,a,d,G,rfl,hst,_,rfl,?_⟩
  by_cases c1:d.now.1.length<=a
  ·rw[decide_eq_true c1];exact Ca ⟨by show 1<=sizeLine;decide,fun p hp=>k.keep D hst (Aw.refl H) (ak d c1) hp rfl⟩
  rw[decide_eq_false c1];refine Cz ⟨_,rfl,ga,_,_,_,rfl,rfl,Bq.of hg,at_of (j:=1) rfl rfl,?_⟩;refine ⟨_,rfl,ga,_,_,_,rfl,rfl,Bq.of hg,at_of (j:=2) rfl rfl,_,rfl,_,rfl,rw,_,rfl,Bq.of hl,fun u hu=>?_⟩;rw[aN];have s1:Aw H (upd H u (.lst (nums (l.take n)))):=As hu;have hu1:LN (upd H u (.lst (nums (l.take n)))) u (l.take n):=AK;revert s1 hu1;generalize upd H u (.lst (nums (l.take n)))=H1;intro s1 hu1;obtain ⟨dx1,wa1,ha1,fs1,h11,h21,h31,hw1,hh1,m11,m21,m31⟩:=(hst.same s1).get;obtain ⟨dw,la,ra,ta,g1,g2,g3,g4⟩:=id hw1;refine ⟨_,rfl,_,_,rfl,rfl,_,rfl,?_⟩;show if decide ((5:Int)<(n:Int))=true then _ else _
  by_cases c2:5<n
  ·rw[decide_eq_true (by omega)];exact Ca (Ca ⟨by show 1<=sizeLine;decide,fun p hp=>k.keep D hst s1 (V5 d c1 (.inl c2)) hp rfl⟩)
  rw[decide_eq_false (by omega)];refine Cz ⟨_,rfl,_,rfl,sa,_,_,_,_,rfl,h11,T.AR,T.Ae,h21,wa1,_,_,_,_,rfl,g1,T.BP,T.Bh,Co _ _ _ _,_,rfl,?_⟩;refine ⟨u,l.take n,d.now.1.length,a,rfl,hu1,by rw[B0];omega,fun H2 s2=>⟨_,rfl,?_⟩⟩
  by_cases c3:Dq d.now.1.length a (l.take n)
  case neg =>
   rw[decide_eq_false c3];exact Ca ⟨by show 1<=sizeLine;decide,fun p hp=>k.keep D hst (s1.trans s2) (V5 d c1 (.inr c3)) hp rfl⟩
  rw[decide_eq_true c3];have la':a<d.now.1.length:=by omega
  obtain ⟨dx2,wa2,ha2,fs2,h12,h22,h32,hw2,hh2,m12,m22,m32⟩:=(hst.same (s1.trans s2)).get;obtain ⟨dw2,lb,rb,tb,g12,⟨as,g22,g2p⟩,g32,g42⟩:=id hw2;obtain ⟨aa,ea,raa⟩:=CJ g2p (w_get la');refine Cz ⟨_,rfl,sa,_,_,_,_,rfl,h12,T.AR,T.Ae,h22,wa2,_,_,_,_,rfl,g12,T.BP,T.Ec,MG _ _ _ _,_,rfl,lb,_,_,_,rfl,rfl,DR.of g22,DF ea,aa,_,rfl,.inr (DR.of raa),?_⟩;refine ⟨_,rfl,sa,_,_,_,_,rfl,h12,T.AR,T.Ae,h22,wa2,_,_,rfl,g12,Tp _ _ _ _ (by decide +kernel) (by decide +kernel) (by decide +kernel) (by decide +kernel),_,rfl,_,rfl,?_⟩;refine ⟨wa2,u,d.now.1,a,l.take n,rfl,hw2,D.now.w,la',hu1.same s2,c3,fun wb H3 s3 apb hwb=>?_⟩;have W':=X5 D.now.w la' c3;have S3:=(s1.trans s2).trans s3;obtain ⟨dx3,wa3,ha3,fs3,h13,h23,h33,hw3,hh3,m13,m23,m33⟩:=(hst.same S3).get;obtain ⟨db,lc,rc,tc,gb,_⟩:=id hwb;refine ⟨_,rfl,sa,_,_,_,_,rfl,h13,T.AR,T.BJ,h33,?_⟩;refine ⟨_,rfl,wb,_,_,rfl,gb,Tp _ _ _ _ (by decide +kernel) (by decide +kernel) (by decide +kernel) (by decide +kernel),_,rfl,_,rfl,_,rfl,ha3,_,_,_,rfl,rfl,DR.of hh3,CQ (Cj (by omega)),?_⟩;refine ⟨wb,d.now.1.set a (l.take n),a,A6 d.now.2 a,rfl,hwb,by rw[B7];exact la',by rw[B7];exact D.now.p.lt a la',_,rfl,?_⟩;have fin:∀(H4:Hp) (hb:Addr),Aw H3 H4->TN H4 hb (G2 (d.now.1.set a (l.take n)) d.now.2 a)->∀bl:V,bl=V.int ((nums (wl d.now.1 a)).length:Int) ->
    AA7 (xx (nr t.BV "change" (eK t) [] E0 (TU 0) (RE (TU 6) (RE (TU 7) iw)))) (yz (ABI (RE (TU 5) (RE (yA QL [] E0 (RE (TU 7) iw)) iw)))) { nx:=fun _ H'=>Q .Ft H',rt:=Q }
     [some (V.ref sa),some (V.ref ga),some (vN a),some (vN n),some (V.ref u),some bl,some (V.ref wb),some (V.ref hb)] H4:=by
   intro H4 hb s4 hhb bl ebl;subst ebl;obtain ⟨dx4,wa4,ha4,fs4,h14,h24,h34,hw4,hh4,m14,m24,m34⟩:=(hst.same (S3.trans s4)).get;refine ⟨_,rfl,sa,_,_,rfl,h14,m24,_,rfl,_,rfl,sa,wb,hb,d,(d.now.1.set a (l.take n),G2 (d.now.1.set a (l.take n)) d.now.2 a),G,rfl,hst.same (S3.trans s4),hwb.same s4,hhb,(fun D hD=>let ⟨_,o,ho⟩:=(hst.same (s1.trans s2)).ge D hD;(apb D o ho).same s4),fun H5 sx5 hs5=>?_⟩;have hhb5:TN H5 hb (G2 (d.now.1.set a (l.take n)) d.now.2 a):=hhb.sx h14 sx5;refine ⟨_,rfl,_,rfl,hb,_,rfl,hhb5,by rw[rA];omega,fun H6 s6=>⟨by show 2<=sizeLine;decide,fun p hp=>?_⟩⟩;refine k.turn (vj D la' c3) (hs5.same s6) hst (((S3.trans s4).x.trans sx5).trans s6.x) (sM D la' (by omega) c3) hp ?_;rw[Bf];rfl
  cases c4:wd (d.now.1.set a (l.take n)) a (A6 d.now.2 a) with
  |true =>
   refine Cz (fin H3 ha3 (Aw.refl H3) ?_ _ rfl);have e:G2 (d.now.1.set a (l.take n)) d.now.2 a=d.now.2:=if_pos c4;rw[e];exact hh3
  |false =>
   refine Ca ⟨_,rfl,_,rfl,ha3,d.now.2,a,rfl,hh3,by omega,by omega,by rw[hpl];exact D.now.p.lt a la',fun hb H4 s4 hhb=>?_⟩;refine fin H4 hb s4 ?_ _ rfl;have e:G2 (d.now.1.set a (l.take n)) d.now.2 a=parted d.now.2 a:=if_neg (by rw[c4];exact AZ);rw[e];exact hhb
theorem u5(T:Txt K mg t):Bv P w K mg base EE 6 t.T7 t.gH oJ (QP t fun c=>∃n l,c=.moveIn n l):=by
 refine T.oO.ok Tt (fun vs H Q E h=>?_) (fun cdv A outer s H vs Q E hr h=>?_)
 ·obtain ⟨sa,ga,d,c,gs,G,_,rfl,_⟩:=h;rfl
 ·obtain ⟨sa,ga,d,_,gs,G,⟨n,l,rfl⟩,rfl,hst,D,hg,⟨rw,rfl,hl,hl5⟩,k⟩:=h;obtain ⟨dx,wa,ha,fs,h1,h2,h3,hw,hh,m1,m2,m3⟩:=hst.get;obtain ⟨dw,la,ra,ta,g1,g2,g3,g4⟩:=id hw;have h6:=D.now.w.len;have hpl:=D.now.p.len;refine ⟨_,(AH (BF (i:=2) Tt.nd rfl (Ai rfl) (Ao (Ao (pv 0) rfl) rfl)) (AH (Cm (Cy K8 (pv 2) (Bw rfl T.C1.1 T.C1.2) (C6 _)) (AM (Am (BM (AA (Bw rfl T.uV.1 T.uV.2) AD)))) Bk) (AH (BF (i:=3) Tt.nd rfl (Ai rfl) (BU Be (pv 1) BG (fun _ _=>rfl))) (AH (BF (i:=4) Tt.nd rfl (Ai rfl) (J7 Te (BU Be (pv 1) BG (fun _ _=>rfl)) Td (Ji (pv 3)))) (AH (Cm (PW.pt (cS (Cy iu (pv 3) (Bw rfl T.FO.1 T.FO.2) (C6 _)) (Us (FK (Ck (Aj (aG T) (hr.mono (by decide)) rfl T.dj T.Vd.kp T.di .nil Ay (AA (pv 4) (AA (pv 2) (AA (pv 2) AD))))))))) (AM (Am (BM (AA (Bw rfl T.LO.1 T.LO.2) AD)))) Bk) (AH (Cw (CV (pv 0) T.AR T.DX (DG T) (hr.mono (by decide)) T.DW .nil Ay (AA (CV (Ao (pv 0) rfl) T.BP T.NR (Mi T) (hr.mono (by decide)) T.NQ .nil Ay (AA (pv 4) AD)) (AA (CZ Yr (Ao (pv 0) rfl) (IK (AA (pv 2) AD))) AD)))) (AM (Am (BM (AA (pv 2) AD)))))))))),?_⟩;refine ⟨_,rfl,sa,_,_,_,_,rfl,h1,T.AR,T.Ae,h2,wa,_,_,_,_,rfl,g1,T.BP,T.Bh,Co _ _ _ _,?_⟩;refine ⟨_,rfl,rfl,_,rfl,?_⟩;have e6:decide (vN d.now.1.length=V.int 6)=decide (d.now.1.length=6):=Gy _ 6;rw[e6]
  by_cases c1:d.now.1.length=6
  ·rw[decide_eq_true c1];exact Ca ⟨by show 1<=sizeLine;decide,fun p hp=>k.keep D hst (Aw.refl H) (iQ d (by omega)) hp rfl⟩
  rw[decide_eq_false c1];have c1':¬6<=d.now.1.length:=by omega
  refine Cz ⟨_,rfl,ga,_,_,_,rfl,rfl,Bq.of hg,at_of (j:=0) rfl rfl,?_⟩;refine ⟨_,rfl,ga,_,_,_,rfl,rfl,Bq.of hg,at_of (j:=1) rfl rfl,_,rfl,_,rfl,rw,_,rfl,Bq.of hl,fun u hu=>?_⟩;rw[aN];have s1:Aw H (upd H u (.lst (nums (l.take n)))):=As hu;have hu1:LN (upd H u (.lst (nums (l.take n)))) u (l.take n):=AK;revert s1 hu1;generalize upd H u (.lst (nums (l.take n)))=H1;intro s1 hu1;refine ⟨_,rfl,_,_,rfl,rfl,_,rfl,?_⟩;show if decide ((5:Int)<(n:Int))=true then _ else _
  by_cases c2:5<n
  ·rw[decide_eq_true (by omega)];exact Ca (Ca ⟨by show 1<=sizeLine;decide,fun p hp=>k.keep D hst s1 (cA d c1' (.inl c2)) hp rfl⟩)
  rw[decide_eq_false (by omega)];refine Cz ⟨_,rfl,_,rfl,_,rfl,u,l.take n,d.now.1.length,d.now.1.length,rfl,hu1,by rw[B0];omega,fun H2 s2=>⟨_,rfl,?_⟩⟩
  by_cases c3:Dq d.now.1.length d.now.1.length (l.take n)
  case neg =>
   rw[decide_eq_false c3];exact Ca ⟨by show 1<=sizeLine;decide,fun p hp=>k.keep D hst (s1.trans s2) (cA d c1' (.inr c3)) hp rfl⟩
  rw[decide_eq_true c3];obtain ⟨dx2,wa2,ha2,fs2,h12,h22,h32,hw2,hh2,m12,m22,m32⟩:=(hst.same (s1.trans s2)).get;obtain ⟨dw2,lb,rb,tb,g12,_⟩:=id hw2;refine Cz ⟨_,rfl,sa,_,_,rfl,h12,m22,_,rfl,sa,_,_,_,_,rfl,h12,T.AR,T.Ae,h22,wa2,_,_,rfl,g12,Tp _ _ _ _ (by decide +kernel) (by decide +kernel) (by decide +kernel) (by decide +kernel),_,rfl,?_⟩;refine ⟨wa2,u,d.now.1,l.take n,rfl,hw2,D.now.w,by omega,hu1.same s2,c3,fun wb H3 s3 apb hwb=>?_⟩;have S3:=(s1.trans s2).trans s3;obtain ⟨dx3,wa3,ha3,fs3,h13,h23,h33,hw3,hh3,m13,m23,m33⟩:=(hst.same S3).get;refine ⟨_,rfl,sa,_,_,_,_,rfl,h13,T.AR,T.BJ,h33,_,rfl,by show 1<=sizeLine;decide,fun v hv=>?_⟩;refine ⟨ha3,v,_,_,rfl,rfl,hh3.same (As hv),AK,by rw[Bf];exact small (by show _+1<=_;omega),fun hb H4 s4 hb4=>?_⟩;have S4:Aw H3 H4:=(As hv).trans s4;have hhb:TN H4 hb (d.now.2++[d.now.1.length]):=by
   unfold TN;rw[hb4];exact congrArg (fun z=>some (HO.tup z)) (Qi _ _)
  refine ⟨sa,wb,hb,d,(nP d.now.1 (l.take n),d.now.2++[d.now.1.length]),G,rfl,hst.same (S3.trans S4),hwb.same S4,hhb,(fun D hD=>let ⟨_,o,ho⟩:=(hst.same (s1.trans s2)).ge D hD;(apb D o ho).same S4),fun H5 sx5 hs5=>?_⟩;refine ⟨_,rfl,by show 1<=sizeLine;decide,fun p hp=>?_⟩;exact k.turn (AA0 D (by omega) c3) hs5 hst ((S3.trans S4).x.trans sx5) (yi D c1' (by omega) c3) hp rfl
end
open PySem PySem.Spec PyProof.Rows L2
theorem rB{p:List Nat}{i:Nat}(h:i<p.length):(aC p)[i]?=some (if A6 p i=i then 0 else A6 p i+1):=by
 unfold aC;rw[eX (by simpa using h),BH,FT h];rfl
theorem QQ{d:Dk}(D:E7 d){p:List Nat}(hl:p.length=d.now.1.length):Ga d.AU.now p=aC p:=vo rfl hl D.now.w.len
theorem rC{p:List Nat}(h:p.length<=6):(aC p).length=6:=by
 unfold aC;simp;omega
theorem UU:decide ((V.Ft:V)=V.Ft)=true:=decide_eq_true rfl
theorem UW(b:Addr):decide (V.ref b=V.Ft)=false:=decide_eq_false (by intro h;cases h)
theorem FQ.isI{t:HU}{G:Addr->Prop}{sa:Addr}{H:Hp}{d:Dk}(h:FQ t G H sa d):∃dx fs,H sa=some (.ins t.BV dx fs):=let ⟨dx,wa,ha,fs,h1,_⟩:=h.get;⟨dx,_,h1⟩
section
variable {P:Program} {w:World} {K:AE} {mg:Str->Option Value} {base:Heap} {t:HU}
theorem mZ(T:Txt K mg t):Bv P w K mg base EE 6 t.MP t.VL dC (QP t fun c=>c=.moveOut):=by
 refine T.dq.ok Rv (fun vs H Q E h=>?_) (fun cdv A outer s H vs Q E hr h=>?_)
 ·obtain ⟨sa,ga,d,c,gs,G,_,rfl,_⟩:=h;rfl
 ·obtain ⟨sa,ga,d,_,gs,G,rfl,rfl,hst,D,hg,_,k⟩:=h;obtain ⟨dx,wa,ha,fs,h1,h2,h3,hw,hh,m1,m2,m3⟩:=hst.get;obtain ⟨dw,la,ra,ta,g1,g2,g3,g4⟩:=id hw;have h6:=D.now.w.len;have hpl:=D.now.p.len;refine ⟨_,(AH (Cm (Cy K8 (Ao (Ao (pv 0) rfl) rfl) BG (C6 _)) (AM (Am (BM (AA (Bw rfl T.Mf.1 T.Mf.2) AD)))) Bk) (AH (BF (i:=2) Rv.nd rfl (Ai rfl) (CZ J6 (Ao (Ao (pv 0) rfl) rfl) BG)) (AH (BF (i:=3) Rv.nd rfl (Ai rfl) (BU Be (Aj (Qt T) (hr.mono (by decide)) rfl T.Vf T.SS.kp T.Ve .nil Ay (AA (Ao (pv 0) rfl) AD)) (pv 2) (fun _ _=>rfl))) (AH (Cw (CV (pv 0) T.AR T.DX (DG T) (hr.mono (by decide)) T.DW .nil Ay (AA (Yc (Ao (pv 0) rfl) T.BP T.OE (NZ T) (hr.mono (by decide)) T.OD .nil Ay) (AA (J7 oC (Aj (Mh T) (hr.mono (by decide)) rfl T.QA T.Me.kp T.P9 .nil Ay (AA (Ao (pv 0) rfl) (AA (pv 2) AD))) Td (Ji (pv 2))) AD)))) (AM (Am (BM (AA (pv 2) (AA (pv 3) AD))))))))),?_⟩;refine ⟨_,rfl,sa,_,_,_,_,rfl,h1,T.AR,T.Ae,h2,wa,_,_,_,_,rfl,g1,T.BP,T.Bh,Co _ _ _ _,rfl,_,rfl,?_⟩;have e0:decide (vN d.now.1.length=V.int 0)=decide (d.now.1.length=0):=Gy _ 0;rw[e0]
  by_cases c1:d.now.1.length=0
  ·rw[decide_eq_true c1];exact Ca ⟨by show 1<=sizeLine;decide,fun p hp=>k.keep D hst (Aw.refl H) (ao d c1) hp rfl⟩
  rw[decide_eq_false c1];have h0:0<d.now.1.length:=by omega
  refine Cz ⟨_,rfl,sa,_,_,_,_,rfl,h1,T.AR,T.Ae,h2,wa,_,_,_,_,rfl,g1,T.BP,T.Bh,Co _ _ _ _,_,_,rfl,rfl,?_⟩;have e1:(V.int ((d.now.1.length:Int)-1))=vN (d.now.1.length-1):=by
   show V.int _=V.int _
   congr 1
   omega
  dsimp only;rw[e1];refine ⟨_,rfl,sa,_,_,_,_,rfl,h1,T.AR,T.BJ,h3,ha,d.now.2,rfl,hh,by omega,fun tb H1 s1 htb hT=>?_⟩;refine ⟨_,rfl,tb,_,_,_,rfl,rfl,Bq.of hT,CQ (rB (by omega)),?_⟩;obtain ⟨dx1,wa1,ha1,fs1,h11,h21,h31,hw1,hh1,m11,m21,m31⟩:=(hst.same s1).get;obtain ⟨dw1,la1,ra1,ta1,g11,_⟩:=id hw1;refine ⟨_,rfl,sa,_,_,rfl,h11,m21,_,rfl,sa,_,_,_,_,rfl,h11,T.AR,T.Ae,h21,wa1,_,_,rfl,g11,Tp _ _ _ _ (by decide +kernel) (by decide +kernel) (by decide +kernel) (by decide +kernel),?_⟩;refine ⟨wa1,d.now.1,rfl,hw1,D.now.w,h0,fun wb H2 s2 apb hwb=>?_⟩;obtain ⟨dx2,wa2,ha2,fs2,h12,h22,h32,hw2,hh2,m12,m22,m32⟩:=(hst.same (s1.trans s2)).get;refine ⟨_,rfl,sa,_,_,_,_,rfl,h12,T.AR,T.BJ,h32,_,rfl,ha2,d.now.2,d.now.1.length-1,rfl,hh2,by omega,by omega,by rw[hpl];exact D.now.p.lt _ (by omega),fun pb H3 s3 hpb=>?_⟩;refine ⟨_,rfl,_,rfl,pb,_,rfl,hpb,fun hb H4 s4 hb4=>?_⟩;rw[aN]at hb4;have S4:=(s1.trans s2).trans (s3.trans s4);refine ⟨sa,wb,hb,d,(Sx d.now.1,Rl d.now.1 d.now.2),G,rfl,hst.same S4,hwb.same (s3.trans s4),hb4,(fun D hD=>let ⟨_,o,ho⟩:=(hst.same s1).ge D hD;(apb D o ho).same (s3.trans s4)),fun H5 sx5 hs5=>?_⟩;refine ⟨_,rfl,_,rfl,by show 2<=sizeLine;decide,fun p hp=>?_⟩;refine k.turn (vk D h0) hs5 hst (S4.x.trans sx5) (sN D h0) hp ?_;rw[Hv];rfl
theorem md(T:Txt K mg t):Bv P w K mg base EE 3 t.MQ t.VM dE (QP t fun c=>∃a b,c=.pair a b):=by
 refine T.dr.ok Rw (fun vs H Q E h=>?_) (fun cdv A outer s H vs Q E hr h=>?_)
 ·obtain ⟨sa,ga,d,c,gs,G,_,rfl,_⟩:=h;rfl
 ·obtain ⟨sa,ga,d,_,gs,G,⟨a,b,rfl⟩,rfl,hst,D,hg,rfl,k⟩:=h;obtain ⟨dx,wa,ha,fs,h1,h2,h3,hw,hh,m1,m2,m3⟩:=hst.get;obtain ⟨dw,la,ra,ta,g1,g2,g3,g4⟩:=id hw;have h6:=D.now.w.len;have hpl:=D.now.p.len;refine ⟨_,(AH (BF (i:=2) Rw.nd rfl (Ai rfl) (BU Be (pv 1) BG (fun _ _=>rfl))) (AH (BF (i:=3) Rw.nd rfl (Ai rfl) (BU Be (pv 1) BG (fun _ _=>rfl))) (AH (Cm (PW.pt (cS (Ck (CV (pv 0) T.AR T.D3 (DY T) (hr.mono (by decide)) T.D1 .nil Ay (AA (pv 2) AD))) (Us (Ck (CV (pv 0) T.AR T.D3 (DY T) (hr.mono (by decide)) T.D1 .nil Ay (AA (pv 3) AD)))))) (AM (Am (BM (AA (Bw rfl T.Bx.1 T.Bx.2) AD)))) Bk) (AH (Cm (FK (Ck (CV (Ao (pv 0) rfl) T.BP T.Ho (HB T) (hr.mono (by decide)) T.Hn .nil Ay (AA (pv 2) (AA (pv 3) AD))))) (AM (Am (BM (AA (Bw rfl T.Dr.1 T.Dr.2) AD)))) Bk) (AH (Cm (PW.pt (cS (FK (Ck (Aj (E5 T) (hr.mono (by decide)) rfl T.Fg T.FF.kp T.Ff .nil Ay (AA (Ao (pv 0) rfl) (AA (pv 2) AD))))) (Us (FK (Ck (Aj (E5 T) (hr.mono (by decide)) rfl T.Fg T.FF.kp T.Ff .nil Ay (AA (Ao (pv 0) rfl) (AA (pv 3) AD)))))))) (AM (Am (BM (AA (Bw rfl T.j1.1 T.j1.2) AD)))) Bk) (AH (Cw (CV (pv 0) T.AR T.DX (DG T) (hr.mono (by decide)) T.DW .nil Ay (AA (Ao (pv 0) rfl) (AA (Aj (Vk T) (hr.mono (by decide)) rfl T.Zr T.T8.kp T.Zq .nil Ay (AA (Ao (pv 0) rfl) (AA (pv 2) (AA (pv 3) AD)))) AD)))) (AM (Am (BM (AA (Aj (DD T) (hr.mono (by decide)) rfl T.DT T.DC.kp T.DS .nil Ay (AA (Ao (pv 0) rfl) AD)) AD)))))))))),?_⟩;refine ⟨_,rfl,ga,_,_,_,rfl,rfl,Bq.of hg,at_of (j:=0) rfl rfl,?_⟩;refine ⟨_,rfl,ga,_,_,_,rfl,rfl,Bq.of hg,at_of (j:=1) rfl rfl,?_⟩;refine ⟨_,rfl,sa,_,_,rfl,h1,m1,_,rfl,sa,a,d,G,rfl,hst,_,rfl,?_⟩
  by_cases c1:d.now.1.length<=a
  ·rw[decide_eq_true c1];exact Ca (Ca ⟨by show 1<=sizeLine;decide,fun p hp=>k.keep D hst (Aw.refl H) (RC d (.inl c1)) hp rfl⟩)
  rw[decide_eq_false c1];refine Cz ⟨_,rfl,sa,_,_,rfl,h1,m1,_,rfl,sa,b,d,G,rfl,hst,_,rfl,?_⟩
  by_cases c2:d.now.1.length<=b
  ·rw[decide_eq_true c2];exact Ca ⟨by show 1<=sizeLine;decide,fun p hp=>k.keep D hst (Aw.refl H) (RC d (.inr c2)) hp rfl⟩
  rw[decide_eq_false c2];have c12:¬(d.now.1.length<=a\/d.now.1.length<=b):=by omega
  refine Cz ⟨_,rfl,sa,_,_,_,_,rfl,h1,T.AR,T.Ae,h2,wa,_,_,rfl,g1,Tp _ _ _ _ (by decide +kernel) (by decide +kernel) (by decide +kernel) (by decide +kernel),_,rfl,_,rfl,?_⟩;refine ⟨wa,d.now.1,a,b,rfl,hw,by omega,by omega,_,rfl,?_⟩;cases c3:wd d.now.1 a b with
  |false=>exact Ca ⟨by show 1<=sizeLine;decide,fun p hp=>k.keep D hst (Aw.refl H) (iR d c12 c3) hp rfl⟩
  |true =>
   refine Cz ⟨_,rfl,sa,_,_,_,_,rfl,h1,T.AR,T.BJ,h3,_,rfl,ha,d.now.2,a,rfl,hh,by omega,_,rfl,?_⟩
   by_cases c4:A6 d.now.2 a=a
   case neg =>
    rw[decide_eq_false c4];exact Ca (Ca ⟨by show 1<=sizeLine;decide,fun p hp=>k.keep D hst (Aw.refl H) (Ob D c12 c3 (.inl c4)) hp rfl⟩)
   rw[decide_eq_true c4];refine Cz ⟨_,rfl,sa,_,_,_,_,rfl,h1,T.AR,T.BJ,h3,_,rfl,ha,d.now.2,b,rfl,hh,by omega,_,rfl,?_⟩
   by_cases c5:A6 d.now.2 b=b
   case neg =>
    rw[decide_eq_false c5];exact Ca ⟨by show 1<=sizeLine;decide,fun p hp=>k.keep D hst (Aw.refl H) (Ob D c12 c3 (.inr c5)) hp rfl⟩
   rw[decide_eq_true c5];refine Cz ⟨_,rfl,sa,_,_,rfl,h1,m2,_,rfl,sa,_,_,_,_,rfl,h1,T.AR,T.Ae,h2,_,rfl,sa,_,_,_,_,rfl,h1,T.AR,T.BJ,h3,_,rfl,_,rfl,?_⟩;refine ⟨ha,d.now.2,a,b,rfl,hh,by omega,by omega,by omega,fun hb H1 s1 hhb=>?_⟩;refine ⟨sa,wa,hb,d,(d.now.1,joined d.now.2 a b),G,rfl,hst.same s1,hw.same s1,hhb,(fun D hD=>(m3.2 D hD).same s1),fun H2 sx2 hs2=>?_⟩;obtain ⟨dx2,wa2,ha2,fs2,h12,h22,h32,hw2,hh2,m12,m22,m32⟩:=hs2.get;refine ⟨_,rfl,sa,_,_,_,_,rfl,h12,T.AR,T.BJ,h32,ha2,_,rfl,hh2,by show (joined d.now.2 a b).length<=6;rw[FD];omega,fun H3 s3=>⟨by show 1<=sizeLine;decide,fun p hp=>?_⟩⟩;exact k.turn (vm D c3 c4 c5) (hs2.same s3) hst ((s1.x.trans sx2).trans s3.x) (sO D c3 c4 c5) hp rfl
theorem me(T:Txt K mg t):Bv P w K mg base EE 3 t.MR t.VN dG (QP t fun c=>∃a,c=.part a):=by
 refine T.du.ok Rx (fun vs H Q E h=>?_) (fun cdv A outer s H vs Q E hr h=>?_)
 ·obtain ⟨sa,ga,d,c,gs,G,_,rfl,_⟩:=h;rfl
 ·obtain ⟨sa,ga,d,_,gs,G,⟨a,rfl⟩,rfl,hst,D,hg,rfl,k⟩:=h;obtain ⟨dx,wa,ha,fs,h1,h2,h3,hw,hh,m1,m2,m3⟩:=hst.get;have h6:=D.now.w.len;have hpl:=D.now.p.len;refine ⟨_,(AH (BF (i:=2) Rx.nd rfl (Ai rfl) (BU Be (pv 1) BG (fun _ _=>rfl))) (AH (Cm (Ck (CV (pv 0) T.AR T.D3 (DY T) (hr.mono (by decide)) T.D1 .nil Ay (AA (pv 2) AD))) (AM (Am (BM (AA (Bw rfl T.Bx.1 T.Bx.2) AD)))) Bk) (AH (Cm (Ck (Aj (E5 T) (hr.mono (by decide)) rfl T.Fg T.FF.kp T.Ff .nil Ay (AA (Ao (pv 0) rfl) (AA (pv 2) AD)))) (AM (Am (BM (AA (Bw rfl T.Mf.1 T.Mf.2) AD)))) Bk) (AH (BF (i:=3) Rx.nd rfl (Ai rfl) (BU CU (Ao (pv 0) rfl) (pv 2) (fun _ _=>rfl))) (AH (Cw (CV (pv 0) T.AR T.DX (DG T) (hr.mono (by decide)) T.DW .nil Ay (AA (Ao (pv 0) rfl) (AA (Aj (Mh T) (hr.mono (by decide)) rfl T.QA T.Me.kp T.P9 .nil Ay (AA (Ao (pv 0) rfl) (AA (pv 2) AD))) AD)))) (AM (Am (BM (AA (pv 3) AD))))))))),?_⟩;refine ⟨_,rfl,ga,_,_,_,rfl,rfl,Bq.of hg,at_of (j:=0) rfl rfl,?_⟩;refine ⟨_,rfl,sa,_,_,rfl,h1,m1,_,rfl,sa,a,d,G,rfl,hst,_,rfl,?_⟩
  by_cases c1:d.now.1.length<=a
  ·rw[decide_eq_true c1];exact Ca ⟨by show 1<=sizeLine;decide,fun p hp=>k.keep D hst (Aw.refl H) (aq d c1) hp rfl⟩
  rw[decide_eq_false c1];refine Cz ⟨_,rfl,sa,_,_,_,_,rfl,h1,T.AR,T.BJ,h3,_,rfl,ha,d.now.2,a,rfl,hh,by omega,_,rfl,?_⟩
  by_cases c2:A6 d.now.2 a=a
  ·rw[decide_eq_true c2];exact Ca ⟨by show 1<=sizeLine;decide,fun p hp=>k.keep D hst (Aw.refl H) (iS D c1 c2) hp rfl⟩
  rw[decide_eq_false c2];refine Cz ⟨_,rfl,sa,_,_,_,_,rfl,h1,T.AR,T.BJ,h3,_,rfl,ha,_,_,_,rfl,rfl,DR.of hh,CQ (Cj (by omega)),?_⟩;refine ⟨_,rfl,sa,_,_,rfl,h1,m2,_,rfl,sa,_,_,_,_,rfl,h1,T.AR,T.Ae,h2,_,rfl,sa,_,_,_,_,rfl,h1,T.AR,T.BJ,h3,_,rfl,?_⟩;refine ⟨ha,d.now.2,a,rfl,hh,by omega,by omega,by rw[hpl];exact D.now.p.lt a (by omega),fun hb H1 s1 hhb=>?_⟩;refine ⟨sa,wa,hb,d,(d.now.1,parted d.now.2 a),G,rfl,hst.same s1,hw.same s1,hhb,(fun D hD=>(m3.2 D hD).same s1),fun H2 sx2 hs2=>?_⟩;refine ⟨_,rfl,by show 1<=sizeLine;decide,fun p hp=>?_⟩;exact k.turn (vn D (by omega)) hs2 hst (s1.x.trans sx2) (sP D c1 c2) hp rfl
theorem kM(T:Txt K mg t):Bv P w K mg base EE 3 t.Kh t.SE ZA (QP t fun c=>∃a b,c=.break_ a b):=by
 refine T.Zz.ok PJ (fun vs H Q E h=>?_) (fun cdv A outer s H vs Q E hr h=>?_)
 ·obtain ⟨sa,ga,d,c,gs,G,_,rfl,_⟩:=h;rfl
 ·obtain ⟨sa,ga,d,_,gs,G,⟨a,b,rfl⟩,rfl,hst,D,hg,rfl,k⟩:=h;obtain ⟨dx,wa,ha,fs,h1,h2,h3,hw,hh,m1,m2,m3⟩:=hst.get;have h6:=D.now.w.len;have hpl:=D.now.p.len;refine ⟨_,(AH (BF (i:=2) PJ.nd rfl (Ai rfl) (BU Be (pv 1) BG (fun _ _=>rfl))) (AH (BF (i:=3) PJ.nd rfl (Ai rfl) (BU Be (pv 1) BG (fun _ _=>rfl))) (AH (Cm (PW.pt (cS (Ck (CV (pv 0) T.AR T.D3 (DY T) (hr.mono (by decide)) T.D1 .nil Ay (AA (pv 2) AD))) (Us (Ck (CV (pv 0) T.AR T.D3 (DY T) (hr.mono (by decide)) T.D1 .nil Ay (AA (pv 3) AD)))))) (AM (Am (BM (AA (Bw rfl T.Bx.1 T.Bx.2) AD)))) Bk) (AH (Cm (FK (Ck (Aj (Kt T) (hr.mono (by decide)) rfl T.L0 T.Ig.kp T.Lz .nil Ay (AA (Ao (pv 0) rfl) (AA (Ao (pv 0) rfl) (AA (pv 2) (AA (pv 3) AD))))))) (AM (Am (BM (AA (Bw rfl T.Dr.1 T.Dr.2) AD)))) Bk) (AH (Cw (CV (pv 0) T.AR T.DX (DG T) (hr.mono (by decide)) T.DW .nil Ay (AA (Ao (pv 0) rfl) (AA (Aj (Qs T) (hr.mono (by decide)) rfl T.UA T.QB.kp T.T9 .nil Ay (AA (Ao (pv 0) rfl) (AA (pv 2) (AA (pv 3) AD)))) AD)))) (AM (Am (BM (AA (Aj (DD T) (hr.mono (by decide)) rfl T.DT T.DC.kp T.DS .nil Ay (AA (Ao (pv 0) rfl) AD)) (AA (Ba A4 (by rfl) T.C7 An (AA (Aj (LP T) (hr.mono (by decide)) rfl T.NT T.Kr.kp T.NS .nil Ay (AA (Ao (pv 0) rfl) (AA (Ao (pv 0) rfl) AD))) AD)) AD)))))))))),?_⟩;refine ⟨_,rfl,ga,_,_,_,rfl,rfl,Bq.of hg,at_of (j:=0) rfl rfl,?_⟩;refine ⟨_,rfl,ga,_,_,_,rfl,rfl,Bq.of hg,at_of (j:=1) rfl rfl,?_⟩;refine ⟨_,rfl,sa,_,_,rfl,h1,m1,_,rfl,sa,a,d,G,rfl,hst,_,rfl,?_⟩
  by_cases c1:d.now.1.length<=a
  ·rw[decide_eq_true c1];exact Ca (Ca ⟨by show 1<=sizeLine;decide,fun p hp=>k.keep D hst (Aw.refl H) (Oc d (.inl c1)) hp rfl⟩)
  rw[decide_eq_false c1];refine Cz ⟨_,rfl,sa,_,_,rfl,h1,m1,_,rfl,sa,b,d,G,rfl,hst,_,rfl,?_⟩
  by_cases c2:d.now.1.length<=b
  ·rw[decide_eq_true c2];exact Ca ⟨by show 1<=sizeLine;decide,fun p hp=>k.keep D hst (Aw.refl H) (Oc d (.inr c2)) hp rfl⟩
  rw[decide_eq_false c2];refine Cz ⟨_,rfl,sa,_,_,_,_,rfl,h1,T.AR,T.Ae,h2,_,rfl,sa,_,_,_,_,rfl,h1,T.AR,T.BJ,h3,_,rfl,_,rfl,?_⟩;refine ⟨wa,ha,d.now.1,d.now.2,a,b,rfl,hw,.inr hh,D.now.p.q,by omega,by omega,_,rfl,?_⟩;cases c3:wb d.now.1 d.now.2 a b with
  |false=>exact Ca ⟨by show 1<=sizeLine;decide,fun p hp=>k.keep D hst (Aw.refl H) (fJ D (by omega) c3) hp rfl⟩
  |true =>
   have c4:=xq D.now.w D.now.p c3;have D':=iT D c4;refine Cz ⟨_,rfl,sa,_,_,rfl,h1,m2,_,rfl,sa,_,_,_,_,rfl,h1,T.AR,T.Ae,h2,_,rfl,sa,_,_,_,_,rfl,h1,T.AR,T.BJ,h3,_,rfl,_,rfl,?_⟩;refine ⟨ha,d.now.1,d.now.2,a,b,rfl,hh,D.now.w,D.now.p,c4,fun hb H1 s1 hhb=>?_⟩;refine ⟨sa,wa,hb,d,(d.now.1,brk d.now.2 a b),G,rfl,hst.same s1,hw.same s1,hhb,(fun D hD=>(m3.2 D hD).same s1),fun H2 sx2 hs2=>?_⟩;obtain ⟨dx2,wa2,ha2,fs2,h12,h22,h32,hw2,hh2,m12,m22,m32⟩:=hs2.get;refine ⟨_,rfl,sa,_,_,_,_,rfl,h12,T.AR,T.BJ,h32,ha2,_,rfl,hh2,by rw[D'.now.p.len];exact h6,fun H3 s3=>?_⟩;obtain ⟨dx3,wa3,ha3,fs3,h13,h23,h33,hw3,hh3,m13,m23,m33⟩:=(hs2.same s3).get;refine ⟨_,rfl,sa,_,_,_,_,rfl,h13,T.AR,T.Ae,h23,_,rfl,sa,_,_,_,_,rfl,h13,T.AR,T.BJ,h33,?_⟩;refine ⟨wa3,ha3,d.now.1,brk d.now.2 a b,rfl,hw3,hh3,D.now.w,D'.now.p,fun bb H4 s4 _ ⟨bs,hb1,hb2⟩=>?_⟩;refine ⟨bb,_,rfl,.inl (Bq.of hb1),by show 2<=sizeLine;decide,fun p hp=>?_⟩;refine k.turn D' ((hs2.same s3).same s4) hst (((s1.x.trans sx2).trans s3.x).trans s4.x) (o4 D c3) hp ?_;rw[AB,AX hb2];rfl
end
open PySem PySem.Spec PyProof.Rows L2
theorem gw{d:Dk}{l:List Nat}(h:yN d.now.1 (Vp d.now.1 l)=false):Ag d.AU (.votes l)=(d.AU,BK (-22)):=by
 show (d.AU,if Xt d.AU.now (iI d.AU.now l)=false then _ else _)=_;rw[<-uj d.AU.now (w:=d.now.1) rfl,<-um d.AU.now (w:=d.now.1) rfl (UR _ _),if_pos h]
theorem rE{d:Dk}(D:E7 d){l:List Nat}(h:yN d.now.1 (Vp d.now.1 l)=true):Ag d.AU (.votes l)=(d.AU,⟨(glad d.now.1 (Vp d.now.1 l) d.now.2:Int),[glad d.now.1 d.now.2 (Vp d.now.1 l),(L8 d.now.1 (Vp d.now.1 l)).length]⟩):=by
 have Pq:=uo (UR d.now.1 l) h;show (d.AU,if Xt d.AU.now (iI d.AU.now l)=false then _ else _)=_;rw[<-uj d.AU.now (w:=d.now.1) rfl,<-um d.AU.now (w:=d.now.1) rfl (UR _ _),if_neg (by rw[h];exact Bn),Ey D,<-QY d.AU.now (w:=d.now.1) D.now.w rfl Pq D.now.p,<-QY d.AU.now (w:=d.now.1) D.now.w rfl D.now.p Pq,<-My D.now.w Pq d.AU.now rfl]
theorem Mo{p:List Nat}(h:p.length<=6){x:V}:[x].length+(nums (aC p)).length<=sizeLine:=by
 rw[Bf,rC h];exact small (by show 1+6<=_;omega)
section
variable {P:Program} {w:World} {K:AE} {mg:Str->Option Value} {base:Heap} {t:HU}
theorem mh(T:Txt K mg t):Bv P w K mg base EE 5 t.MS t.VO dI (QP t fun c=>c=.step):=by
 refine T.dv.ok Ry (fun vs H Q E h=>?_) (fun cdv A outer s H vs Q E hr h=>?_)
 ·obtain ⟨sa,ga,d,c,gs,G,_,rfl,_⟩:=h;rfl
 ·obtain ⟨sa,ga,d,_,gs,G,rfl,rfl,hst,D,hg,_,k⟩:=h;obtain ⟨dx,wa,ha,fs,h1,h2,h3,hw,hh,m1,m2,m3⟩:=hst.get;refine ⟨_,(AH (BF (i:=2) Ry.nd rfl (Ai rfl) (Aj (HC T) (hr.mono (by decide)) rfl T.Ht T.GX.kp T.Hs .nil Ay (AA (Ao (pv 0) rfl) (AA (Ao (pv 0) rfl) AD)))) (AH (Cm (Ur (YN (pv 2))) (AM (Am (BM (AA (Bw rfl T.Dr.1 T.Dr.2) AD)))) Bk) (AH (Cm (FK (GP (pv 2) (fun _=>rfl))) (AM (Am (BM (AA (Bw rfl T.HA.1 T.HA.2) AD)))) Bk) (AH (BF (i:=3) Ry.nd rfl (Ai rfl) (BU Be (pv 2) BG (fun _ _=>rfl))) (AH (Cw (CV (pv 0) T.AR T.DX (DG T) (hr.mono (by decide)) T.DW .nil Ay (AA (Ao (pv 0) rfl) (AA (Aj (Qs T) (hr.mono (by decide)) rfl T.UA T.QB.kp T.T9 .nil Ay (AA (Ao (pv 0) rfl) (AA (BU CU (pv 3) BG (fun _ _=>rfl)) (AA (BU CU (pv 3) BG (fun _ _=>rfl)) AD)))) AD)))) (AM (Am (BM (AA (CZ J6 (Ba A4 (by rfl) T.C7 An (AA (pv 2) AD)) BG) (AA (BU CU (pv 3) BG (fun _ _=>rfl)) (AA (BU CU (pv 3) BG (fun _ _=>rfl)) AD))))))))))),?_⟩;refine ⟨_,rfl,sa,_,_,_,_,rfl,h1,T.AR,T.Ae,h2,_,rfl,sa,_,_,_,_,rfl,h1,T.AR,T.BJ,h3,wa,ha,d.now.1,d.now.2,BY d.now.2,rfl,hw,hh,D.now.w,D.now.p,?_⟩;show QN (K0 d) H _;cases hway:K0 d with
  |none =>
   intro H1 s1;refine ⟨_,rfl,_,rfl,?_⟩;rw[UU];exact Ca ⟨by show 1<=sizeLine;decide,fun p hp=>k.keep D hst s1 (iU D hway) hp rfl⟩
  |some v =>
   intro vb H1 s1 hv;obtain ⟨vas,hv1,hv2⟩:=id hv;refine ⟨_,rfl,_,rfl,?_⟩;rw[UW];refine Cz ⟨_,rfl,_,.inl ⟨_,Bq.of hv1,rfl⟩,?_⟩;rw[ES hv2];cases v with
   |nil=>exact Ca ⟨by show 1<=sizeLine;decide,fun p hp=>k.keep D hst s1 (au D hway) hp rfl⟩
   |cons q l =>
    have hq:=S1 D hway q AI;obtain ⟨qa,eq,h2q⟩:=CJ (i:=0) hv2 rfl;have D':=iT D hq;obtain ⟨dx1,wa1,ha1,fs1,h11,h21,h31,hw1,hh1,m11,m21,m31⟩:=(hst.same s1).get;refine Cz ⟨_,rfl,vb,_,_,_,rfl,rfl,Bq.of hv1,DF (i:=0) eq,?_⟩;refine ⟨_,rfl,sa,_,_,rfl,h11,m21,_,rfl,sa,_,_,_,_,rfl,h11,T.AR,T.Ae,h21,_,rfl,sa,_,_,_,_,rfl,h11,T.AR,T.BJ,h31,_,rfl,qa,_,_,_,rfl,rfl,h2q.fst,at_of (j:=0) rfl rfl,_,rfl,qa,_,_,_,rfl,rfl,h2q.fst,at_of (j:=1) rfl rfl,?_⟩;refine ⟨ha1,d.now.1,d.now.2,q.1,q.2,rfl,hh1,D.now.w,D.now.p,hq,fun hb H2 s2 hhb=>?_⟩;refine ⟨sa,wa1,hb,d,(d.now.1,brk d.now.2 q.1 q.2),G,rfl,(hst.same s1).same s2,hw1.same s2,hhb,(fun D hD=>(m31.2 D hD).same s2),fun H3 sx3 hs3=>?_⟩;obtain ⟨dx2,fs2,hi2⟩:=((hst.same s1).same s2).isI;have h2q3:U2 H3 qa q:=(h2q.same s2).sx hi2 sx3;obtain ⟨vas3,hv13,hv23⟩:=(hv.same s2).sx hi2 sx3;refine ⟨_,rfl,vb,_,rfl,.inl (Bq.of hv13),_,_,rfl,rfl,_,rfl,qa,_,_,_,rfl,rfl,h2q3.fst,at_of (j:=0) rfl rfl,_,rfl,qa,_,_,_,rfl,rfl,h2q3.fst,at_of (j:=1) rfl rfl,by show 3<=sizeLine;decide,fun p hp=>?_⟩;refine k.turn D' hs3 hst ((s1.trans s2).x.trans sx3) (sQ D hway) hp ?_;rw[AB,AX hv23,Hv];have e:(((q::l).length:Int)-1)=(l.length:Int):=by rw[BC];omega
    dsimp only;rw[e];rfl
theorem gx(T:Txt K mg t):Bv P w K mg base EE 5 t.Iv t.Pe WQ (QP t fun c=>c=.settle):=by
 refine T.Wl.ok Tu (fun vs H Q E h=>?_) (fun cdv A outer s H vs Q E hr h=>?_)
 ·obtain ⟨sa,ga,d,c,gs,G,_,rfl,_⟩:=h;rfl
 ·obtain ⟨sa,ga,d,_,gs,G,rfl,rfl,hst,D,hg,_,k⟩:=h;obtain ⟨dx,wa,ha,fs,h1,h2,h3,hw,hh,m1,m2,m3⟩:=hst.get;have h6:=D.now.w.len;refine ⟨_,(AH (BF (i:=2) Tu.nd rfl (Ai rfl) (Aj (HC T) (hr.mono (by decide)) rfl T.Ht T.GX.kp T.Hs .nil Ay (AA (Ao (pv 0) rfl) (AA (Ao (pv 0) rfl) AD)))) (AH (Cm (Ur (YN (pv 2))) (AM (Am (BM (AA (Bw rfl T.Dr.1 T.Dr.2) AD)))) Bk) (AH (Cm (FK (GP (pv 2) (fun _=>rfl))) (AM (Am (BM (AA (Bw rfl T.HA.1 T.HA.2) AD)))) Bk) (AH (Cw (CV (pv 0) T.AR T.DX (DG T) (hr.mono (by decide)) T.DW .nil Ay (AA (Ao (pv 0) rfl) (AA (Aj (qy T) (hr.mono (by decide)) rfl T.uO T.jl.kp T.uN .nil Ay (AA (Ao (pv 0) rfl) (AA (pv 2) AD))) AD)))) (AM (Am (CZ IL (BM (AA (Ba A4 (by rfl) T.C7 An (AA (pv 2) AD)) AD)) (Aj (Qt T) (hr.mono (by decide)) rfl T.Vf T.SS.kp T.Ve .nil Ay (AA (Ao (pv 0) rfl) AD))))))))),?_⟩;refine ⟨_,rfl,sa,_,_,_,_,rfl,h1,T.AR,T.Ae,h2,_,rfl,sa,_,_,_,_,rfl,h1,T.AR,T.BJ,h3,wa,ha,d.now.1,d.now.2,BY d.now.2,rfl,hw,hh,D.now.w,D.now.p,?_⟩;show QN (K0 d) H _;cases hway:K0 d with
  |none =>
   intro H1 s1;refine ⟨_,rfl,_,rfl,?_⟩;rw[UU];exact Ca ⟨by show 1<=sizeLine;decide,fun p hp=>k.keep D hst s1 (aw D hway) hp rfl⟩
  |some v =>
   intro vb H1 s1 hv;obtain ⟨vas,hv1,hv2⟩:=id hv;refine ⟨_,rfl,_,rfl,?_⟩;rw[UW];refine Cz ⟨_,rfl,_,.inl ⟨_,Bq.of hv1,rfl⟩,?_⟩;rw[ES hv2];cases v with
   |nil=>exact Ca ⟨by show 1<=sizeLine;decide,fun p hp=>k.keep D hst s1 (W9 D hway) hp rfl⟩
   |cons q l =>
    have hq:=S1 D hway;have D':=yj D hway;obtain ⟨dx1,wa1,ha1,fs1,h11,h21,h31,hw1,hh1,m11,m21,m31⟩:=(hst.same s1).get;refine Cz ⟨_,rfl,sa,_,_,rfl,h11,m21,_,rfl,sa,_,_,_,_,rfl,h11,T.AR,T.Ae,h21,_,rfl,sa,_,_,_,_,rfl,h11,T.AR,T.BJ,h31,_,rfl,?_⟩;refine ⟨ha1,vb,d.now.1,d.now.2,q::l,rfl,hh1,hv,D.now.w,D.now.p,hq,fun hb H2 s2 hhb=>?_⟩;refine ⟨sa,wa1,hb,d,(d.now.1,endOf d.now.2 (q::l)),G,rfl,(hst.same s1).same s2,hw1.same s2,hhb,(fun D hD=>(m31.2 D hD).same s2),fun H3 sx3 hs3=>?_⟩;obtain ⟨dx2,fs2,hi2⟩:=((hst.same s1).same s2).isI;obtain ⟨vas3,hv13,hv23⟩:=(hv.same s2).sx hi2 sx3;refine ⟨_,rfl,vb,_,rfl,.inl (Bq.of hv13),by show 1<=sizeLine;decide,fun u hu=>?_⟩;obtain ⟨dx4,wa4,ha4,fs4,h14,h24,h34,hw4,hh4,m14,m24,m34⟩:=(hs3.same (As (o:=.lst [V.int ((vas3.map V.ref).length:Int)]) hu)).get;have lE:(endOf d.now.2 (q::l)).length<=6:=by rw[show (endOf d.now.2 (q::l)).length=d.now.1.length from D'.now.p.len];exact h6
    refine ⟨_,rfl,sa,_,_,_,_,rfl,h14,T.AR,T.BJ,h34,ha4,_,rfl,hh4,lE,fun tb H5 s5 htb hT=>?_⟩;refine ⟨u,tb,_,_,rfl,rfl,s5 _ _ AK,hT,Mo lE,fun p hp=>?_⟩;have s35:=(As (o:=.lst [V.int ((vas3.map V.ref).length:Int)]) hu).trans s5;refine k.turn D' (hs3.same s35) hst (((s1.trans s2).x.trans sx3).trans s35.x) (k6 D hway) hp ?_;rw[AB,AX hv23,Hv,QQ (p:=endOf d.now.2 (q::l)) D D'.now.p.len];rfl
theorem mi(T:Txt K mg t):Bv P w K mg base EE 5 t.MT t.VP dM (QP t fun c=>∃k,c=.take k):=by
 refine T.dy.ok ZC (fun vs H Q E h=>?_) (fun cdv A outer s H vs Q E hr h=>?_)
 ·obtain ⟨sa,ga,d,c,gs,G,_,rfl,_⟩:=h;rfl
 ·obtain ⟨sa,ga,d,_,gs,G,⟨i,rfl⟩,rfl,hst,D,hg,rfl,k⟩:=h;obtain ⟨dx,wa,ha,fs,h1,h2,h3,hw,hh,m1,m2,m3⟩:=hst.get;have h6:=D.now.w.len;refine ⟨_,(AH (BF (i:=2) ZC.nd rfl (Ai rfl) (Aj (C9 T) (hr.mono (by decide)) rfl T.DM T.C0.kp T.DL .nil Ay (AA (Ao (pv 0) rfl) AD))) (AH (Cm (Cy nq (BU Be (pv 1) BG (fun _ _=>rfl)) (Ba A4 (by rfl) T.C7 An (AA (pv 2) AD)) (C6 _)) (AM (Am (BM (AA (Bw rfl T.Bx.1 T.Bx.2) AD)))) Bk) (AH (Cw (CV (pv 0) T.AR T.DX (DG T) (hr.mono (by decide)) T.DW .nil Ay (AA (Ao (pv 0) rfl) (AA (BU Be (pv 2) (BU Be (pv 1) BG (fun _ _=>rfl)) (fun _ _=>rfl)) AD)))) (AM (Am (CZ IL (BM (AA (Aj (DD T) (hr.mono (by decide)) rfl T.DT T.DC.kp T.DS .nil Ay (AA (Ao (pv 0) rfl) AD)) AD)) (Aj (Qt T) (hr.mono (by decide)) rfl T.Vf T.SS.kp T.Ve .nil Ay (AA (Ao (pv 0) rfl) AD)))))))),?_⟩;refine ⟨_,rfl,sa,_,_,_,_,rfl,h1,T.AR,T.Ae,h2,wa,d.now.1,rfl,hw,D.now.w,fun F H1 s1 _ ⟨fs',hF1,hF2⟩=>?_⟩;have hg1:=s1 _ _ hg;refine ⟨_,rfl,ga,_,_,_,rfl,rfl,Bq.of hg1,at_of (j:=0) rfl rfl,_,rfl,F,_,rfl,.inl (Bq.of hF1),_,_,rfl,rfl,_,rfl,?_⟩;rw[AB,AX hF2,f6]
  by_cases c1:(holding d.now.1).length<=i
  ·rw[decide_eq_true c1];exact Ca ⟨by show 1<=sizeLine;decide,fun p hp=>k.keep D hst s1 (iV D (Bo c1)) hp rfl⟩
  rw[decide_eq_false c1];have hlt:i<(holding d.now.1).length:=by omega
  have hget:(holding d.now.1)[i]?=some (holding d.now.1)[i]:=A5 hlt;revert hget;generalize (holding d.now.1)[i]=p0;intro hget;have hm:=Ar hget;have D':=vp D hm;obtain ⟨pa,epa,hpa⟩:=CJ hF2 hget;obtain ⟨dx1,wa1,ha1,fs1,h11,h21,h31,hw1,hh1,m11,m21,m31⟩:=(hst.same s1).get;refine Cz ⟨_,rfl,sa,_,_,rfl,h11,m21,_,rfl,sa,_,_,_,_,rfl,h11,T.AR,T.Ae,h21,_,rfl,_,rfl,ga,_,_,_,rfl,rfl,Bq.of hg1,at_of (j:=0) rfl rfl,F,_,_,_,rfl,rfl,Bq.of hF1,DF epa,?_⟩;refine ⟨sa,wa1,pa,d,(d.now.1,p0),G,rfl,hst.same s1,hw1,hpa,(fun D hD=>m31.2 D hD),fun H3 sx3 hs3=>?_⟩;obtain ⟨dx3,wa3,ha3,fs3,h13,h23,h33,hw3,hh3,m13,m23,m33⟩:=hs3.get;have lE:p0.length<=6:=by rw[show p0.length=d.now.1.length from D'.now.p.len];exact h6
  refine ⟨_,rfl,sa,_,_,_,_,rfl,h13,T.AR,T.BJ,h33,ha3,_,rfl,hh3,lE,fun H4 s4=>⟨by show 1<=sizeLine;decide,fun u hu=>?_⟩⟩;have s4u:Aw H3 (upd H4 u (.lst [vN (cnt p0)])):=s4.upd hu;obtain ⟨dx4,wa4,ha4,fs4,h14,h24,h34,hw4,hh4,m14,m24,m34⟩:=(hs3.same s4u).get;refine ⟨_,rfl,sa,_,_,_,_,rfl,h14,T.AR,T.BJ,h34,ha4,_,rfl,hh4,lE,fun tb H5 s5 htb hT=>?_⟩;refine ⟨u,tb,_,_,rfl,rfl,s5 _ _ AK,hT,Mo lE,fun p hp=>?_⟩;refine k.turn D' (hs3.same (s4u.trans s5)) hst ((s1.x.trans sx3).trans (s4u.trans s5).x) (sR D hget) hp ?_;rw[Hv,QQ (p:=p0) D D'.now.p.len];rfl
theorem kN(T:Txt K mg t):Bv P w K mg base EE 3 t.Kk t.SI ZI (QP t fun c=>c=.holds):=by
 refine T.Z2.ok jU (fun vs H Q E h=>?_) (fun cdv A outer s H vs Q E hr h=>?_)
 ·obtain ⟨sa,ga,d,c,gs,G,_,rfl,_⟩:=h;rfl
 ·obtain ⟨sa,ga,d,_,gs,G,rfl,rfl,hst,D,hg,_,k⟩:=h;obtain ⟨dx,wa,ha,fs,h1,h2,h3,hw,hh,m1,m2,m3⟩:=hst.get;refine ⟨_,(AM (Am (BM (AA (TX (Ck (Aj (QM T) (hr.mono (by decide)) rfl T.SV T.NU.kp T.SU .nil Ay (AA (Ao (pv 0) rfl) (AA (Ao (pv 0) rfl) AD)))) BG BG) AD)))),?_⟩;refine ⟨_,rfl,sa,_,_,_,_,rfl,h1,T.AR,T.Ae,h2,_,rfl,sa,_,_,_,_,rfl,h1,T.AR,T.BJ,h3,wa,ha,d.now.1,d.now.2,rfl,hw,.inr hh,D.now.w,D.now.p.q,_,rfl,?_⟩;have e:=o5 D;cases hc:(L8 d.now.1 d.now.2 == []) with
  |true =>
   rw[hc]at e;exact Ca ⟨by show 1<=sizeLine;decide,fun p hp=>k.keep D hst (Aw.refl H) e hp rfl⟩
  |false =>
   rw[hc]at e;exact Cz ⟨by show 1<=sizeLine;decide,fun p hp=>k.keep D hst (Aw.refl H) e hp rfl⟩
theorem kO(T:Txt K mg t):Bv P w K mg base EE 5 t.Kl t.SJ ZK (QP t fun c=>c=.steps):=by
 refine T.Z3.ok WX (fun vs H Q E h=>?_) (fun cdv A outer s H vs Q E hr h=>?_)
 ·obtain ⟨sa,ga,d,c,gs,G,_,rfl,_⟩:=h;rfl
 ·obtain ⟨sa,ga,d,_,gs,G,rfl,rfl,hst,D,hg,_,k⟩:=h;obtain ⟨dx,wa,ha,fs,h1,h2,h3,hw,hh,m1,m2,m3⟩:=hst.get;refine ⟨_,(AH (BF (i:=2) WX.nd rfl (Ai rfl) (Aj (HC T) (hr.mono (by decide)) rfl T.Ht T.GX.kp T.Hs .nil Ay (AA (Ao (pv 0) rfl) (AA (Ao (pv 0) rfl) AD)))) (AH (Cm (Ur (YN (pv 2))) (AM (Am (BM (AA (Bw rfl T.Dr.1 T.Dr.2) AD)))) Bk) (AM (Am (BM (AA (Ba A4 (by rfl) T.C7 An (AA (pv 2) AD)) AD)))))),?_⟩;refine ⟨_,rfl,sa,_,_,_,_,rfl,h1,T.AR,T.Ae,h2,_,rfl,sa,_,_,_,_,rfl,h1,T.AR,T.BJ,h3,wa,ha,d.now.1,d.now.2,BY d.now.2,rfl,hw,hh,D.now.w,D.now.p,?_⟩;show QN (K0 d) H _;cases hway:K0 d with
  |none =>
   intro H1 s1;refine ⟨_,rfl,_,rfl,?_⟩;rw[UU];exact Ca ⟨by show 1<=sizeLine;decide,fun p hp=>k.keep D hst s1 (fK D hway) hp rfl⟩
  |some v =>
   intro vb H1 s1 hv;obtain ⟨vas,hv1,hv2⟩:=id hv;refine ⟨_,rfl,_,rfl,?_⟩;rw[UW];refine Cz ⟨_,rfl,vb,_,rfl,.inl (Bq.of hv1),by show 1<=sizeLine;decide,fun p hp=>k.keep D hst s1 (o6 D hway) hp ?_⟩;rw[AB,AX hv2];rfl
theorem rH(T:Txt K mg t):Bv P w K mg base EE 5 t.Po t.Zg jW (QP t fun c=>∃k,c=.nth k):=by
 refine T.ju.ok U9 (fun vs H Q E h=>?_) (fun cdv A outer s H vs Q E hr h=>?_)
 ·obtain ⟨sa,ga,d,c,gs,G,_,rfl,_⟩:=h;rfl
 ·obtain ⟨sa,ga,d,_,gs,G,⟨i,rfl⟩,rfl,hst,D,hg,rfl,k⟩:=h;obtain ⟨dx,wa,ha,fs,h1,h2,h3,hw,hh,m1,m2,m3⟩:=hst.get;refine ⟨_,(AH (BF (i:=2) U9.nd rfl (Ai rfl) (Aj (HC T) (hr.mono (by decide)) rfl T.Ht T.GX.kp T.Hs .nil Ay (AA (Ao (pv 0) rfl) (AA (Ao (pv 0) rfl) AD)))) (AH (Cm (Ur (YN (pv 2))) (AM (Am (BM (AA (Bw rfl T.Dr.1 T.Dr.2) AD)))) Bk) (AH (Cm (Cy nq (BU Be (pv 1) BG (fun _ _=>rfl)) (Ba A4 (by rfl) T.C7 An (AA (pv 2) AD)) (C6 _)) (AM (Am (BM (AA (Bw rfl T.Bx.1 T.Bx.2) AD)))) Bk) (AH (BF (i:=3) U9.nd rfl (Ai rfl) (BU Be (pv 2) (BU Be (pv 1) BG (fun _ _=>rfl)) (fun _ _=>rfl))) (AM (Am (BM (AA (BU CU (pv 3) BG (fun _ _=>rfl)) (AA (BU CU (pv 3) BG (fun _ _=>rfl)) AD))))))))),?_⟩;refine ⟨_,rfl,sa,_,_,_,_,rfl,h1,T.AR,T.Ae,h2,_,rfl,sa,_,_,_,_,rfl,h1,T.AR,T.BJ,h3,wa,ha,d.now.1,d.now.2,BY d.now.2,rfl,hw,hh,D.now.w,D.now.p,?_⟩;show QN (K0 d) H _;cases hway:K0 d with
  |none =>
   intro H1 s1;refine ⟨_,rfl,_,rfl,?_⟩;rw[UU];exact Ca ⟨by show 1<=sizeLine;decide,fun p hp=>k.keep D hst s1 (k7 D hway) hp rfl⟩
  |some v =>
   intro vb H1 s1 hv;obtain ⟨vas,hv1,hv2⟩:=id hv;have hg1:=s1 _ _ hg;refine ⟨_,rfl,_,rfl,?_⟩;rw[UW];refine Cz ⟨_,rfl,ga,_,_,_,rfl,rfl,Bq.of hg1,at_of (j:=0) rfl rfl,_,rfl,vb,_,rfl,.inl (Bq.of hv1),_,_,rfl,rfl,_,rfl,?_⟩;rw[AB,AX hv2,f6]
   by_cases c1:v.length<=i
   ·rw[decide_eq_true c1];exact Ca ⟨by show 1<=sizeLine;decide,fun p hp=>k.keep D hst s1 (fL D hway (Bo c1)) hp rfl⟩
   rw[decide_eq_false c1];have hlt:i<v.length:=by omega
   have hget:v[i]?=some v[i]:=A5 hlt;revert hget;generalize v[i]=q;intro hget;obtain ⟨qa,eq,h2q⟩:=CJ hv2 hget;refine Cz ⟨_,rfl,_,rfl,ga,_,_,_,rfl,rfl,Bq.of hg1,at_of (j:=0) rfl rfl,vb,_,_,_,rfl,rfl,Bq.of hv1,DF eq,?_⟩;refine ⟨_,rfl,qa,_,_,_,rfl,rfl,h2q.fst,at_of (j:=0) rfl rfl,_,rfl,qa,_,_,_,rfl,rfl,h2q.fst,at_of (j:=1) rfl rfl,by show 2<=sizeLine;decide,fun p hp=>k.keep D hst s1 (vq D hway hget) hp rfl⟩
theorem kP(T:Txt K mg t):Bv P w K mg base EE 5 t.Km t.SK ZM (QP t fun c=>∃l,c=.votes l):=by
 refine T.Z4.ok LH (fun vs H Q E h=>?_) (fun cdv A outer s H vs Q E hr h=>?_)
 ·obtain ⟨sa,ga,d,c,gs,G,_,rfl,_⟩:=h;rfl
 ·obtain ⟨sa,ga,d,_,gs,G,⟨l,rfl⟩,rfl,hst,D,hg,⟨rw,rfl,hl,hl6⟩,k⟩:=h;obtain ⟨dx,wa,ha,fs,h1,h2,h3,hw,hh,m1,m2,m3⟩:=hst.get;refine ⟨_,(AH (BF (i:=2) LH.nd rfl (Ai rfl) (Ao (pv 0) rfl)) (AH (BF (i:=3) LH.nd rfl (Ai rfl) (Aj (gh T) (hr.mono (by decide)) rfl T.jk T.Wi.kp T.jj .nil Ay (AA (pv 2) (AA (BU Be (pv 1) BG (fun _ _=>rfl)) AD)))) (AH (Cm (Ur (YN (pv 3))) (AM (Am (BM (AA (Bw rfl T.LO.1 T.LO.2) AD)))) Bk) (AH (BF (i:=4) LH.nd rfl (Ai rfl) (Aj (EX T) (hr.mono (by decide)) rfl T.Eu T.EJ.kp T.Et .nil Ay (AA (pv 2) (AA (Ao (pv 0) rfl) (AA (pv 3) AD))))) (AM (Am (BM (AA (Aj (EX T) (hr.mono (by decide)) rfl T.Eu T.EJ.kp T.Et .nil Ay (AA (pv 2) (AA (pv 3) (AA (Ao (pv 0) rfl) AD)))) (AA (pv 4) (AA (Ba A4 (by rfl) T.C7 An (AA (Aj (LP T) (hr.mono (by decide)) rfl T.NT T.Kr.kp T.NS .nil Ay (AA (pv 2) (AA (pv 3) AD))) AD)) AD)))))))))),?_⟩;refine ⟨_,rfl,sa,_,_,_,_,rfl,h1,T.AR,T.Ae,h2,?_⟩;refine ⟨_,rfl,_,rfl,ga,_,_,_,rfl,rfl,Bq.of hg,at_of (j:=0) rfl rfl,wa,rw,d.now.1,l,rfl,hw,D.now.w,hl,hl6,fun hp qb H1 s1 hq=>?_,fun hp H1 s1=>?_⟩
  ·refine ⟨_,rfl,_,rfl,?_⟩;rw[UW];have Pq:=uo (UR d.now.1 l) hp;obtain ⟨dx1,wa1,ha1,fs1,h11,h21,h31,hw1,hh1,m11,m21,m31⟩:=(hst.same s1).get;refine Cz ⟨_,rfl,_,rfl,sa,_,_,_,_,rfl,h11,T.AR,T.BJ,h31,_,rfl,wa,ha1,qb,d.now.1,d.now.2,Vp d.now.1 l,rfl,hw.same s1,hh1,hq,D.now.w,D.now.p,Pq,fun H2 s2=>?_⟩;obtain ⟨dx2,wa2,ha2,fs2,h12,h22,h32,hw2,hh2,m12,m22,m32⟩:=(hst.same (s1.trans s2)).get;refine ⟨_,rfl,_,rfl,_,rfl,sa,_,_,_,_,rfl,h12,T.AR,T.BJ,h32,wa,qb,ha2,d.now.1,Vp d.now.1 l,d.now.2,rfl,hw.same (s1.trans s2),hq.same s2,hh2,D.now.w,Pq,D.now.p,fun H3 s3=>?_⟩;have S3:=(s1.trans s2).trans s3;refine ⟨_,rfl,_,rfl,_,rfl,wa,qb,d.now.1,Vp d.now.1 l,rfl,hw.same S3,(hq.same s2).same s3,D.now.w,Pq,fun bb H4 s4 _ ⟨bs,hb1,hb2⟩=>?_⟩;refine ⟨bb,_,rfl,.inl (Bq.of hb1),by show 3<=sizeLine;decide,fun p hp'=>k.keep D hst (S3.trans s4) (rE D hp) hp' ?_⟩;rw[AB,AX hb2];rfl
  ·refine ⟨_,rfl,_,rfl,?_⟩;rw[UU];exact Ca ⟨by show 1<=sizeLine;decide,fun p hp'=>k.keep D hst s1 (gw hp) hp' rfl⟩
theorem rJ(T:Txt K mg t):Bv P w K mg base EE 4 t.Pt t.Zh jX (QP t fun c=>c=.out):=by
 refine T.jv.ok Qk (fun vs H Q E h=>?_) (fun cdv A outer s H vs Q E hr h=>?_)
 ·obtain ⟨sa,ga,d,c,gs,G,_,rfl,_⟩:=h;rfl
 ·obtain ⟨sa,ga,d,_,gs,G,rfl,rfl,hst,D,hg,_,k⟩:=h;obtain ⟨dx,wa,ha,fs,h1,h2,h3,hw,hh,m1,m2,m3⟩:=hst.get;have h6:=D.now.w.len;refine ⟨_,(AH (BF (i:=2) Qk.nd rfl (HI rfl) (Ao (pv 0) rfl)) (AH (Hb (i:=3) rfl Qk.nd rfl rfl (Jk rfl rfl rfl rfl) (DO (Aj (FP T) (hr.mono (by decide)) rfl T.Fl T.Es.kp T.Fj .nil Ay (AA (pv 2) AD))) (show EH uL (AO ZN) _ [("has",4)] from CL (by decide +kernel)) (fun _ _ _ _ _=>(Bj (i:=4) Qk.nd rfl (Ai rfl))) (fun _ _ _ _ _=>(FZ (Ck (Aj (UO T) (hr.mono (by decide)) rfl T.Wk T.QC.kp T.Wj .nil Ay (AA (pv 2) (AA (pv 4) (AA (oE K rfl (pv 0) rfl) AD))))))) (fun _ _ _ _ _=>(pv 4))) (AH (Cm (FK (GP (pv 3) (fun _=>rfl))) (AM (Am (CZ IL (BM (AA BG AD)) (CZ Yf (BM (AA BG AD)) (Bw rfl T.C1.1 T.C1.2))))) Bk) (AM (Am (CZ IL (BM (AA (Ba A4 (by rfl) T.C7 An (AA (pv 3) AD)) AD)) (Aj (Qt T) (hr.mono (by decide)) rfl T.Vf T.SS.kp T.Ve .nil Ay (AA (BU Be (pv 3) BG (fun _ _=>rfl)) AD)))))))),?_⟩;refine ⟨_,rfl,sa,_,_,_,_,rfl,h1,T.AR,T.Ae,h2,?_⟩;refine ⟨_,rfl,wa,d.now.1,rfl,hw,D.now.w,fun F H1 s1 hF ⟨fs',hF',rF⟩=>⟨F,rfl,⟨_,Bq.of hF'⟩,fun B hB=>?_⟩⟩;refine E1 (zs:=ET d.now.1) (fun x p=>∃b,x=V.ref b/\TN H1 b p) (fun q=>decide (glad d.now.1 d.now.2 q<glad d.now.1 q d.now.2)) (fun p y H'=>∃b,y=V.ref b/\b≠B/\TN H' b p) (Di rF)
   (fun q y H1 H2 ⟨b,e1,e2,e3⟩ sx=>⟨b,e1,e2,sx b _ e2 e3⟩) (AY (Gg D.now.w) (by omega)) hB (Bq.of hF') (fun _=>rfl) ?_ ?_ ?_
  ·rintro x p H' Q' hp ⟨b,rfl,hb⟩ s' _ kk;obtain ⟨dx1,wa1,ha1,fs1,h11,h21,h31,hw1,hh1,m11,m21,m31⟩:=(hst.same (s1.trans s')).get;exact ⟨_,rfl,_,rfl,_,rfl,sa,_,_,_,_,rfl,h11,T.AR,T.BJ,h31,wa,b,ha1,d.now.1,p,d.now.2,rfl,hw.same (s1.trans s'),hb.same s',hh1,D.now.w,FJ D.now.w hp,D.now.p,fun H2 s2=>⟨_,rfl,kk H2 s2⟩⟩
  ·rintro x p H' Q' hp ⟨b,rfl,hb⟩ hf s' hL kk;exact ⟨_,rfl,kk _ H' (Aw.refl H') ⟨b,rfl,hL.Gz (hb.same s'),hb.same s'⟩⟩
  ·intro H2 ys s2 hy r;obtain ⟨as,e,r2⟩:=EC (Ad r fun y q ⟨b,e1,_,e3⟩=>⟨b,e1,e3⟩);rw[e]at hy;have S2:=s1.trans s2;have r2:Paired (TN H2) as (iN d.now.1 d.now.2):=r2;refine ⟨_,rfl,_,.inl ⟨_,Bq.of hy,rfl⟩,?_⟩;rw[ES r2];cases hv:iN d.now.1 d.now.2 with
   |nil =>
    refine Ca ⟨by show 1<=sizeLine;decide,fun u hu=>⟨by show 1<=sizeLine;decide,fun v hv'=>?_⟩⟩;have s3:=(As (o:=.lst [V.int 0]) hu);refine ⟨v,_,_,rfl,rfl,AK,by omega,by omega,by show 1*_<=_;exact small (by show 1*6<=1000;omega),fun z hz=>?_⟩;have s4:=s3.upd (o:=.lst [V.int 0]) hv';have eu:(upd (upd (upd H2 u (.lst [V.int 0])) v (.lst [V.int 0])) z (.lst (Ac (Hx 6) [V.int 0]).flatten)) u=some (.lst [V.int 0]):=by
     have e1:(upd (upd H2 u (.lst [V.int 0])) v (.lst [V.int 0])) u=some (.lst [V.int 0]):=by
      rw[A2 (Af (AK (H:=H2)) hv')];exact AK
     rw[A2 (Af e1 hz)];exact e1
    refine ⟨u,z,_,_,rfl,rfl,eu,AK,small (by show 1+6<=_;omega),fun p hp=>?_⟩;exact k.keep D hst (S2.trans (s4.upd hz)) (fM D hv) hp rfl
   |cons q l =>
    rw[hv]at r2;obtain ⟨qa,eq,hq⟩:=CJ (i:=0) r2 rfl;have hqm:q∈ET d.now.1:=by
     have:q∈iN d.now.1 d.now.2:=by rw[hv];exact AI
     exact (AJ.mp this).1
    have Pq:=FJ D.now.w hqm;have lE:q.length<=6:=by rw[Pq.len];exact h6
    refine Cz ⟨_,rfl,B,_,rfl,.inl (Bq.of hy),by show 1<=sizeLine;decide,fun u hu=>?_⟩;have s3:=As (o:=.lst [V.int ((as.map V.ref).length:Int)]) hu;refine ⟨_,rfl,B,_,_,_,rfl,rfl,Bq.of (s3 _ _ hy),DF (i:=0) eq,qa,q,rfl,hq.same s3,lE,fun tb H5 s5 htb hT=>?_⟩;refine ⟨u,tb,_,_,rfl,rfl,s5 _ _ AK,hT,Mo lE,fun p hp=>?_⟩;refine k.keep D hst ((S2.trans s3).trans s5) (vt D hv) hp ?_;rw[AB,AX r2,Hv,QQ D Pq.len];rfl
theorem _root_.SH.Nh.head{H:Hp}{b:Addr}{x:List Nat}{L:List (List Nat)}(h:Nh H b (x::L)):∃(a:Addr) (as:List Addr),H b=some (.lst ((a::as).map V.ref))/\TN H a x/\Paired (TN H) as L:=by
 obtain ⟨as,h1,h2⟩:=h;cases h2 with
 |cons r t=>exact ⟨_,_,h1,r,t⟩
theorem mj(T:Txt K mg t):Bv P w K mg base EE 5 t.MV t.VT dR (QP t fun c=>c=.most):=by
 refine T.d5.ok ZO (fun vs H Q E h=>?_) (fun cdv A outer s H vs Q E hr h=>?_)
 ·obtain ⟨sa,ga,d,c,gs,G,_,rfl,_⟩:=h;rfl
 ·obtain ⟨sa,ga,d,_,gs,G,rfl,rfl,hst,D,hg,_,k⟩:=h;obtain ⟨dx,wa,ha,fs,h1,h2,h3,hw,hh,m1,m2,m3⟩:=hst.get;have Pb:=nQ D.now.w;have lE:(best d.now.1).length<=6:=by rw[Pb.len];exact D.now.w.len
  refine ⟨_,(AH (BF (i:=2) ZO.nd rfl (Ai rfl) (BU Be (Aj (HH T) (hr.mono (by decide)) rfl T.Hr T.F7.kp T.Hq .nil Ay (AA (Ao (pv 0) rfl) AD)) BG (fun _ _=>rfl))) (AM (Am (CZ IL (BM (AA (Aj (DD T) (hr.mono (by decide)) rfl T.DT T.DC.kp T.DS .nil Ay (AA (pv 2) AD)) AD)) (Aj (Qt T) (hr.mono (by decide)) rfl T.Vf T.SS.kp T.Ve .nil Ay (AA (pv 2) AD)))))),?_⟩;refine ⟨_,rfl,sa,_,_,_,_,rfl,h1,T.AR,T.Ae,h2,wa,d.now.1,rfl,hw,D.now.w,fun lb H1 s1 _ hlb=>?_⟩;obtain ⟨L,eL⟩:=Ro (w:=d.now.1);rw[eL]at hlb;obtain ⟨b,as,hl1,hb,_⟩:=hlb.head;refine ⟨lb,_,_,_,rfl,rfl,Bq.of hl1,at_of (j:=0) rfl rfl,?_⟩;refine ⟨_,rfl,b,_,rfl,hb,lE,fun H2 s2=>⟨by show 1<=sizeLine;decide,fun u hu=>?_⟩⟩;have s3:=s2.upd (o:=.lst [vN (cnt (best d.now.1))]) hu;refine ⟨_,rfl,b,_,rfl,hb.same s3,lE,fun tb H5 s5 htb hT=>?_⟩;refine ⟨u,tb,_,_,rfl,rfl,s5 _ _ AK,hT,Mo lE,fun p hp=>?_⟩;refine k.keep D hst ((s1.trans s3).trans s5) (sS D) hp ?_;rw[Hv,QQ D Pb.len];rfl
end
open PySem PySem.Spec PyProof.Rows L2
section
variable {P:Program} {w:World} {K:AE} {mg:Str->Option Value} {base:Heap} {t:HU}
theorem ml(T:Txt K mg t):Bv P w K mg base EE 5 t.MW t.VU dU (QP t fun c=>c=.lost):=by
 refine T.d6.ok R0 (fun vs H Q E h=>?_) (fun cdv A outer s H vs Q E hr h=>?_)
 ·obtain ⟨sa,ga,d,c,gs,G,_,rfl,_⟩:=h;rfl
 ·obtain ⟨sa,ga,d,_,gs,G,rfl,rfl,hst,D,hg,_,k⟩:=h;obtain ⟨dx,wa,ha,fs,h1,h2,h3,hw,hh,m1,m2,m3⟩:=hst.get;have h6:=D.now.w.len;refine ⟨_,(AH (BF (i:=2) R0.nd rfl (Ai rfl) (Aj (C9 T) (hr.mono (by decide)) rfl T.DM T.C0.kp T.DL .nil Ay (AA (Ao (pv 0) rfl) AD))) (AH (Cm (FK (GP (pv 2) (fun _=>rfl))) (AM (Am (BM (AA (Bw rfl T.Dr.1 T.Dr.2) AD)))) Bk) (AH (BF (i:=3) R0.nd rfl (Ai rfl) (Aj (DD T) (hr.mono (by decide)) rfl T.DT T.DC.kp T.DS .nil Ay (AA (BU Be (pv 2) BG (fun _ _=>rfl)) AD))) (AM (Am (BM (AA (CZ J6 (Aj (DD T) (hr.mono (by decide)) rfl T.DT T.DC.kp T.DS .nil Ay (AA (BU Be (Aj (HH T) (hr.mono (by decide)) rfl T.Hr T.F7.kp T.Hq .nil Ay (AA (Ao (pv 0) rfl) AD)) BG (fun _ _=>rfl)) AD)) (pv 3)) (AA (pv 3) AD)))))))),?_⟩;refine ⟨_,rfl,sa,_,_,_,_,rfl,h1,T.AR,T.Ae,h2,wa,d.now.1,rfl,hw,D.now.w,fun F H1 s1 _ ⟨fs',hF1,hF2⟩=>?_⟩;refine ⟨_,rfl,_,.inl ⟨_,Bq.of hF1,rfl⟩,?_⟩;rw[ES hF2];cases hv:holding d.now.1 with
  |nil=>exact Ca ⟨by show 1<=sizeLine;decide,fun p hp=>k.keep D hst s1 (ia D hv) hp rfl⟩
  |cons q l =>
   rw[hv]at hF2;obtain ⟨qa,eq,hq⟩:=CJ (i:=0) hF2 rfl;have Pq:=FX D.now.w (show q∈holding d.now.1 by rw[hv];exact AI);have Pb:=nQ D.now.w;have lE:q.length<=6:=by rw[Pq.len];exact h6
   have lB:(best d.now.1).length<=6:=by rw[Pb.len];exact h6
   refine Cz ⟨_,rfl,F,_,_,_,rfl,rfl,Bq.of hF1,DF (i:=0) eq,qa,q,rfl,hq,lE,fun H2 s2=>?_⟩;obtain ⟨dx2,wa2,ha2,fs2,h12,h22,h32,hw2,hh2,m12,m22,m32⟩:=(hst.same (s1.trans s2)).get;refine ⟨_,rfl,sa,_,_,_,_,rfl,h12,T.AR,T.Ae,h22,wa2,d.now.1,rfl,hw2,D.now.w,fun lb H3 s3 _ hlb=>?_⟩;obtain ⟨L,eL⟩:=Ro (w:=d.now.1);rw[eL]at hlb;obtain ⟨b,as,hl1,hb,_⟩:=hlb.head;refine ⟨lb,_,_,_,rfl,rfl,Bq.of hl1,at_of (j:=0) rfl rfl,b,_,rfl,hb,lB,fun H4 s4=>?_⟩;refine ⟨_,rfl,_,_,rfl,rfl,_,rfl,by show 2<=sizeLine;decide,fun p hp=>?_⟩;exact k.keep D hst (((s1.trans s2).trans s3).trans s4) (sk D hv) hp rfl
theorem mq(T:Txt K mg t):Bv P w K mg base EE 5 t.MX t.VW dY (QP t fun c=>c=.good):=by
 refine T.d7.ok ZQ (fun vs H Q E h=>?_) (fun cdv A outer s H vs Q E hr h=>?_)
 ·obtain ⟨sa,ga,d,c,gs,G,_,rfl,_⟩:=h;rfl
 ·obtain ⟨sa,ga,d,_,gs,G,rfl,rfl,hst,D,hg,_,k⟩:=h;obtain ⟨dx,wa,ha,fs,h1,h2,h3,hw,hh,m1,m2,m3⟩:=hst.get;refine ⟨_,(AH (BF (i:=2) ZQ.nd rfl (Ai rfl) (Ao (pv 0) rfl)) (AM (Am (BM (AA (Ba A4 (by rfl) T.C7 An (AA (Aj (C9 T) (hr.mono (by decide)) rfl T.DM T.C0.kp T.DL .nil Ay (AA (pv 2) AD)) AD)) (AA (Ba A4 (by rfl) T.C7 An (AA (Aj (SY T) (hr.mono (by decide)) rfl T.UC T.LM.kp T.UB .nil Ay (AA (pv 2) AD)) AD)) (AA (Ba A4 (by rfl) T.C7 An (AA (Aj (FP T) (hr.mono (by decide)) rfl T.Fl T.Es.kp T.Fj .nil Ay (AA (pv 2) AD)) AD)) AD))))))),?_⟩;refine ⟨_,rfl,sa,_,_,_,_,rfl,h1,T.AR,T.Ae,h2,?_⟩;refine ⟨_,rfl,wa,d.now.1,rfl,hw,D.now.w,fun F H1 s1 _ ⟨fs',hF1,hF2⟩=>⟨F,_,rfl,.inl (Bq.of hF1),?_⟩⟩;refine ⟨_,rfl,wa,d.now.1,rfl,hw.same s1,D.now.w,fun F2 H2 s2 _ ⟨fs2,hG1,hG2⟩=>⟨F2,_,rfl,.inl (Bq.of hG1),?_⟩⟩;refine ⟨_,rfl,wa,d.now.1,rfl,hw.same (s1.trans s2),D.now.w,fun F3 H3 s3 _ ⟨fs3,hE1,hE2⟩=>⟨F3,_,rfl,.inl (Bq.of hE1),by show 3<=sizeLine;decide,fun p hp=>?_⟩⟩;refine k.keep D hst ((s1.trans s2).trans s3) (so D) hp ?_;rw[AB,AB,AB,AX hF2,AX hG2,AX hE2];rfl
theorem kQ(T:Txt K mg t):Bv P w K mg base EE 5 t.Ko t.SN ZU (QP t fun c=>c=.alone):=by
 refine T.Z6.ok PM (fun vs H Q E h=>?_) (fun cdv A outer s H vs Q E hr h=>?_)
 ·obtain ⟨sa,ga,d,c,gs,G,_,rfl,_⟩:=h;rfl
 ·obtain ⟨sa,ga,d,_,gs,G,rfl,rfl,hst,D,hg,_,k⟩:=h;obtain ⟨dx,wa,ha,fs,h1,h2,h3,hw,hh,m1,m2,m3⟩:=hst.get;have h6:=D.now.w.len;refine ⟨_,(AH (BF (i:=2) PM.nd rfl (Ai rfl) (Aj (C9 T) (hr.mono (by decide)) rfl T.DM T.C0.kp T.DL .nil Ay (AA (Ao (pv 0) rfl) AD))) (AH (Cm (FK (GP (pv 2) (fun _=>rfl))) (AM (Am (BM (AA (Bw rfl T.Dr.1 T.Dr.2) AD)))) Bk) (AH (BF (i:=3) PM.nd rfl (Ai rfl) (Aj (XR T) (hr.mono (by decide)) rfl T.Zv T.QE.kp T.Zu .nil Ay (AA (BU Be (pv 2) BG (fun _ _=>rfl)) AD))) (AM (Am (BM (AA (Ba A4 (by rfl) T.C7 An (AA (pv 3) AD)) (AA (Aj (aH T) (hr.mono (by decide)) rfl T.d4 T.Vg.kp T.d3 .nil Ay (AA (pv 3) AD)) AD)))))))),?_⟩;refine ⟨_,rfl,sa,_,_,_,_,rfl,h1,T.AR,T.Ae,h2,wa,d.now.1,rfl,hw,D.now.w,fun F H1 s1 _ ⟨fs',hF1,hF2⟩=>?_⟩;refine ⟨_,rfl,_,.inl ⟨_,Bq.of hF1,rfl⟩,?_⟩;rw[ES hF2];cases hv:holding d.now.1 with
  |nil=>exact Ca ⟨by show 1<=sizeLine;decide,fun p hp=>k.keep D hst s1 (fP D hv) hp rfl⟩
  |cons q l =>
   rw[hv]at hF2;obtain ⟨qa,eq,hq⟩:=CJ (i:=0) hF2 rfl;have Pq:=FX D.now.w (show q∈holding d.now.1 by rw[hv];exact AI);have lE:q.length<=6:=by rw[Pq.len];exact h6
   refine Cz ⟨_,rfl,F,_,_,_,rfl,rfl,Bq.of hF1,DF (i:=0) eq,qa,q,rfl,hq,lE,fun b H2 s2 _ hb=>?_⟩;have la:(Up q).length<=6:=AY (Ax _ _) (by rw[BW];exact lE);refine ⟨_,rfl,b,_,rfl,.inl (Bq.of hb),_,rfl,b,_,rfl,hb,la,?_,fun H3 s3=>⟨by show 2<=sizeLine;decide,fun p hp=>?_⟩⟩
   ·intro s hs
    have:=Ah.mp (AJ.mp hs).1
    omega
   ·refine k.keep D hst ((s1.trans s2).trans s3) (pG D hv) hp ?_;rw[Bf];rfl
theorem gy(T:Txt K mg t):Bv P w K mg base EE 5 t.Iw t.Py Wa (QP t fun c=>∃k,c=.rather k):=by
 refine T.Wq.ok Jo (fun vs H Q E h=>?_) (fun cdv A outer s H vs Q E hr h=>?_)
 ·obtain ⟨sa,ga,d,c,gs,G,_,rfl,_⟩:=h;rfl
 ·obtain ⟨sa,ga,d,_,gs,G,⟨i,rfl⟩,rfl,hst,D,hg,rfl,k⟩:=h;obtain ⟨dx,wa,ha,fs,h1,h2,h3,hw,hh,m1,m2,m3⟩:=hst.get;refine ⟨_,(AH (BF (i:=2) Jo.nd rfl (Ai rfl) (Ao (pv 0) rfl)) (AH (BF (i:=3) Jo.nd rfl (Ai rfl) (Aj (C9 T) (hr.mono (by decide)) rfl T.DM T.C0.kp T.DL .nil Ay (AA (pv 2) AD))) (AH (Cm (Cy nq (BU Be (pv 1) BG (fun _ _=>rfl)) (Ba A4 (by rfl) T.C7 An (AA (pv 3) AD)) (C6 _)) (AM (Am (BM (AA (Bw rfl T.Bx.1 T.Bx.2) AD)))) Bk) (AH (BF (i:=4) Jo.nd rfl (Ai rfl) (BU Be (pv 3) (BU Be (pv 1) BG (fun _ _=>rfl)) (fun _ _=>rfl))) (AM (Am (BM (AA (Aj (EX T) (hr.mono (by decide)) rfl T.Eu T.EJ.kp T.Et .nil Ay (AA (pv 2) (AA (pv 4) (AA (Ao (pv 0) rfl) AD)))) (AA (Aj (EX T) (hr.mono (by decide)) rfl T.Eu T.EJ.kp T.Et .nil Ay (AA (pv 2) (AA (Ao (pv 0) rfl) (AA (pv 4) AD)))) AD))))))))),?_⟩;refine ⟨_,rfl,sa,_,_,_,_,rfl,h1,T.AR,T.Ae,h2,?_⟩;refine ⟨_,rfl,wa,d.now.1,rfl,hw,D.now.w,fun F H1 s1 _ ⟨fs',hF1,hF2⟩=>?_⟩;have hg1:=s1 _ _ hg;refine ⟨_,rfl,ga,_,_,_,rfl,rfl,Bq.of hg1,at_of (j:=0) rfl rfl,_,rfl,F,_,rfl,.inl (Bq.of hF1),_,_,rfl,rfl,_,rfl,?_⟩;rw[AB,AX hF2,f6]
  by_cases c1:(holding d.now.1).length<=i
  ·rw[decide_eq_true c1];exact Ca ⟨by show 1<=sizeLine;decide,fun p hp=>k.keep D hst s1 (a6 D (Bo c1)) hp rfl⟩
  rw[decide_eq_false c1];have hlt:i<(holding d.now.1).length:=by omega
  have hget:(holding d.now.1)[i]?=some (holding d.now.1)[i]:=A5 hlt;revert hget;generalize (holding d.now.1)[i]=p0;intro hget;have Pp:=FX D.now.w (Ar hget);obtain ⟨pa,epa,hpa⟩:=CJ hF2 hget;obtain ⟨dx1,wa1,ha1,fs1,h11,h21,h31,hw1,hh1,m11,m21,m31⟩:=(hst.same s1).get;refine Cz ⟨_,rfl,_,rfl,ga,_,_,_,rfl,rfl,Bq.of hg1,at_of (j:=0) rfl rfl,F,_,_,_,rfl,rfl,Bq.of hF1,DF epa,?_⟩;refine ⟨_,rfl,_,rfl,_,rfl,sa,_,_,_,_,rfl,h11,T.AR,T.BJ,h31,wa,pa,ha1,d.now.1,p0,d.now.2,rfl,hw.same s1,hpa,hh1,D.now.w,Pp,D.now.p,fun H2 s2=>?_⟩;obtain ⟨dx2,wa2,ha2,fs2,h12,h22,h32,hw2,hh2,m12,m22,m32⟩:=(hst.same (s1.trans s2)).get;refine ⟨_,rfl,_,rfl,sa,_,_,_,_,rfl,h12,T.AR,T.BJ,h32,_,rfl,wa,ha2,pa,d.now.1,d.now.2,p0,rfl,hw.same (s1.trans s2),hh2,hpa.same s2,D.now.w,D.now.p,Pp,fun H3 s3=>⟨by show 2<=sizeLine;decide,fun p hp=>?_⟩⟩;exact k.keep D hst ((s1.trans s2).trans s3) (lC D hget) hp rfl
theorem aO(T:Txt K mg t):Bv P w K mg base EE 3 t.G6 t.Lo RO (QP t fun c=>c=.breakers):=by
 refine T.RZ.ok PN (fun vs H Q E h=>?_) (fun cdv A outer s H vs Q E hr h=>?_)
 ·obtain ⟨sa,ga,d,c,gs,G,_,rfl,_⟩:=h;rfl
 ·obtain ⟨sa,ga,d,_,gs,G,rfl,rfl,hst,D,hg,_,k⟩:=h;obtain ⟨dx,wa,ha,fs,h1,h2,h3,hw,hh,m1,m2,m3⟩:=hst.get;refine ⟨_,(AH (BF (i:=2) PN.nd rfl (Ai rfl) (Aj (LP T) (hr.mono (by decide)) rfl T.NT T.Kr.kp T.NS .nil Ay (AA (Ao (pv 0) rfl) (AA (Ao (pv 0) rfl) AD)))) (AH (Cm (FK (GP (pv 2) (fun _=>rfl))) (AM (Am (BM (AA BG (AA BG (AA BG AD)))))) Bk) (AM (Am (BM (AA (Ba A4 (by rfl) T.C7 An (AA (pv 2) AD)) (AA (BU CU (BU Be (pv 2) BG (fun _ _=>rfl)) BG (fun _ _=>rfl)) (AA (BU CU (BU Be (pv 2) BG (fun _ _=>rfl)) BG (fun _ _=>rfl)) AD)))))))),?_⟩;refine ⟨_,rfl,sa,_,_,_,_,rfl,h1,T.AR,T.Ae,h2,_,rfl,sa,_,_,_,_,rfl,h1,T.AR,T.BJ,h3,wa,ha,d.now.1,d.now.2,rfl,hw,hh,D.now.w,D.now.p,fun F H1 s1 _ ⟨fs',hF1,hF2⟩=>?_⟩;refine ⟨_,rfl,_,.inl ⟨_,Bq.of hF1,rfl⟩,?_⟩;rw[ES hF2];cases hv:L8 d.now.1 d.now.2 with
  |nil=>exact Ca ⟨by show 3<=sizeLine;decide,fun p hp=>k.keep D hst s1 (TK D hv) hp rfl⟩
  |cons q l =>
   rw[hv]at hF2;obtain ⟨qa,eq,hq⟩:=CJ (i:=0) hF2 rfl;refine Cz ⟨_,rfl,F,_,rfl,.inl (Bq.of hF1),_,rfl,F,_,_,_,rfl,rfl,Bq.of hF1,DF (i:=0) eq,qa,_,_,_,rfl,rfl,DR.of hq,at_of (j:=0) rfl rfl,_,rfl,F,_,_,_,rfl,rfl,Bq.of hF1,DF (i:=0) eq,qa,_,_,_,rfl,rfl,DR.of hq,at_of (j:=1) rfl rfl,by show 3<=sizeLine;decide,fun p hp=>?_⟩;refine k.keep D hst s1 (fQ D hv) hp ?_;rw[AB,AX hF2];rfl
theorem mr(T:Txt K mg t):Bv P w K mg base EE 3 t.MZ t.VX dc (QP t fun c=>∃a,c=.with_ a):=by
 refine T.d9.ok ZV (fun vs H Q E h=>?_) (fun cdv A outer s H vs Q E hr h=>?_)
 ·obtain ⟨sa,ga,d,c,gs,G,_,rfl,_⟩:=h;rfl
 ·obtain ⟨sa,ga,d,_,gs,G,⟨a,rfl⟩,rfl,hst,D,hg,rfl,k⟩:=h;obtain ⟨dx,wa,ha,fs,h1,h2,h3,hw,hh,m1,m2,m3⟩:=hst.get;have hpl:=D.now.p.len;refine ⟨_,(AH (BF (i:=2) ZV.nd rfl (Ai rfl) (BU Be (pv 1) BG (fun _ _=>rfl))) (AH (Cm (Ck (CV (pv 0) T.AR T.D3 (DY T) (hr.mono (by decide)) T.D1 .nil Ay (AA (pv 2) AD))) (AM (Am (BM (AA (Bw rfl T.Bx.1 T.Bx.2) AD)))) Bk) (AH (Cm (Ck (Aj (E5 T) (hr.mono (by decide)) rfl T.Fg T.FF.kp T.Ff .nil Ay (AA (Ao (pv 0) rfl) (AA (pv 2) AD)))) (AM (Am (BM (AA (Bw rfl T.Mf.1 T.Mf.2) AD)))) Bk) (AM (Am (BM (AA (BU CU (Ao (pv 0) rfl) (pv 2) (fun _ _=>rfl)) AD))))))),?_⟩;refine ⟨_,rfl,ga,_,_,_,rfl,rfl,Bq.of hg,at_of (j:=0) rfl rfl,?_⟩;refine ⟨_,rfl,sa,_,_,rfl,h1,m1,_,rfl,sa,a,d,G,rfl,hst,_,rfl,?_⟩
  by_cases c1:d.now.1.length<=a
  ·rw[decide_eq_true c1];exact Ca ⟨by show 1<=sizeLine;decide,fun p hp=>k.keep D hst (Aw.refl H) (a7 d c1) hp rfl⟩
  rw[decide_eq_false c1];refine Cz ⟨_,rfl,sa,_,_,_,_,rfl,h1,T.AR,T.BJ,h3,_,rfl,ha,d.now.2,a,rfl,hh,by omega,_,rfl,?_⟩
  by_cases c2:A6 d.now.2 a=a
  ·rw[decide_eq_true c2];exact Ca ⟨by show 1<=sizeLine;decide,fun p hp=>k.keep D hst (Aw.refl H) (ie D c1 c2) hp rfl⟩
  rw[decide_eq_false c2];refine Cz ⟨_,rfl,sa,_,_,_,_,rfl,h1,T.AR,T.BJ,h3,_,rfl,ha,_,_,_,rfl,rfl,DR.of hh,CQ (Cj (by omega)),by show 1<=sizeLine;decide,fun p hp=>?_⟩;exact k.keep D hst (Aw.refl H) (sr D c1 c2) hp rfl
theorem rK(T:Txt K mg t):Bv P w K mg base EE 3 t.Pz t.Zk jd (QP t fun c=>c=.all_):=by
 refine T.jz.ok qI (fun vs H Q E h=>?_) (fun cdv A outer s H vs Q E hr h=>?_)
 ·obtain ⟨sa,ga,d,c,gs,G,_,rfl,_⟩:=h;rfl
 ·obtain ⟨sa,ga,d,_,gs,G,rfl,rfl,hst,D,hg,_,k⟩:=h;obtain ⟨dx,wa,ha,fs,h1,h2,h3,hw,hh,m1,m2,m3⟩:=hst.get;have lE:d.now.2.length<=6:=by rw[D.now.p.len];exact D.now.w.len
  refine ⟨_,(AM (Am (CZ IL (BM (AA (Aj (DD T) (hr.mono (by decide)) rfl T.DT T.DC.kp T.DS .nil Ay (AA (Ao (pv 0) rfl) AD)) AD)) (Aj (Qt T) (hr.mono (by decide)) rfl T.Vf T.SS.kp T.Ve .nil Ay (AA (Ao (pv 0) rfl) AD))))),?_⟩;refine ⟨_,rfl,sa,_,_,_,_,rfl,h1,T.AR,T.BJ,h3,ha,_,rfl,hh,lE,fun H2 s2=>⟨by show 1<=sizeLine;decide,fun u hu=>?_⟩⟩;have s3:=s2.upd (o:=.lst [vN (cnt d.now.2)]) hu;obtain ⟨dx1,wa1,ha1,fs1,h11,h21,h31,hw1,hh1,m11,m21,m31⟩:=(hst.same s3).get;refine ⟨_,rfl,sa,_,_,_,_,rfl,h11,T.AR,T.BJ,h31,ha1,_,rfl,hh1,lE,fun tb H5 s5 htb hT=>?_⟩;refine ⟨u,tb,_,_,rfl,rfl,s5 _ _ AK,hT,Mo lE,fun p hp=>?_⟩;refine k.keep D hst (s3.trans s5) (wC D) hp ?_;rw[Hv,QQ D D.now.p.len];rfl
theorem kR(T:Txt K mg t):Bv P w K mg base EE 1 t.Kj t.SG ZG (QP t fun c=>c=.state):=by
 refine T.Z1.ok jS (fun vs H Q E h=>?_) (fun cdv A outer s H vs Q E hr h=>?_)
 ·obtain ⟨sa,ga,d,c,gs,G,_,rfl,_⟩:=h;rfl
 ·obtain ⟨sa,ga,d,_,gs,G,rfl,rfl,hst,D,hg,_,k⟩:=h;obtain ⟨dx,wa,ha,pa,ua,es,fs,b⟩:=id hst;obtain ⟨dw,la,ra,ta,g1,_⟩:=id b.w;refine ⟨_,(AM (Am (BM (AA (Ao (Ao (pv 0) rfl) rfl) (AA (Ba A4 (by rfl) T.C7 An (AA (Ao (pv 0) rfl) AD)) (AA (Ba A4 (by rfl) T.C7 An (AA (Ao (pv 0) rfl) AD)) AD)))))),?_⟩;refine ⟨_,rfl,sa,_,_,_,_,rfl,b.at_,T.AR,T.Ae,Ml _ _ _ _,wa,_,_,_,_,rfl,g1,T.BP,T.Bh,Co _ _ _ _,?_⟩;refine ⟨_,rfl,sa,_,_,_,_,rfl,b.at_,T.AR,T.E3,Qw _ _ _ _,pa,_,rfl,.inl (Bq.of b.p),?_⟩;refine ⟨_,rfl,sa,_,_,_,_,rfl,b.at_,T.AR,T.Ed,Mm _ _ _ _,ua,_,rfl,.inl (Bq.of b.u),by show 3<=sizeLine;decide,fun p hp=>?_⟩;refine k.keep D hst (Aw.refl H) (pJ d) hp ?_;rw[AB,AB,AX b.ep,AX b.eu,Dm,Dm];rfl
theorem aP{R:Addr->S->Prop}{as:List Addr}{l:List S}(h:Paired R as l.reverse):(as.map V.ref).isEmpty=l.isEmpty:=by
 have e:=AX h;rw[Dm]at e;cases as with
 |nil=>cases l with
  |nil=>rfl
  |cons=>simp at e
 |cons=>cases l with
  |nil=>simp at e
  |cons=>rfl
theorem mv(T:Txt K mg t):Bv P w K mg base EE 3 t.MU t.VQ dO (QP t fun c=>c=.back):=by
 refine T.dz.ok lg (fun vs H Q E h=>?_) (fun cdv A outer s H vs Q E hr h=>?_)
 ·obtain ⟨sa,ga,d,c,gs,G,_,rfl,_⟩:=h;rfl
 ·obtain ⟨sa,ga,d,_,gs,G,rfl,rfl,hst,D,hg,_,k⟩:=h;obtain ⟨dx,wa,ha,pa,ua,es,fs,b⟩:=id hst;refine ⟨_,(AH (Cm (FK (GP (Ao (pv 0) rfl) (fun _=>rfl))) (AM (Am (BM (AA (Bw rfl T.Bx.1 T.Bx.2) AD)))) Bk) (AH (Cw (Yc (pv 0) T.AR T.UL (Sd T) (hr.mono (by decide)) T.UK .nil Ay)) (AM (Am (BM (AA (Ba A4 (by rfl) T.C7 An (AA (Ao (pv 0) rfl) AD)) AD)))))),?_⟩;refine ⟨_,rfl,sa,_,_,_,_,rfl,b.at_,T.AR,T.E3,Qw _ _ _ _,_,.inl ⟨_,Bq.of b.p,rfl⟩,?_⟩;rw[aP b.ep];cases hv:d.past with
  |nil=>exact Ca ⟨by show 1<=sizeLine;decide,fun p hp=>k.keep D hst (Aw.refl H) (ig d hv) hp rfl⟩
  |cons x r =>
   refine Cz ⟨_,rfl,sa,_,_,rfl,b.at_,Wx _ _ _ _ (by decide +kernel),sa,d,x,r,G,rfl,hst,D,hv,fun H1 s1 hs1 nn=>?_⟩;obtain ⟨dx1,wa1,ha1,pa1,ua1,es1,fs1,b1⟩:=id hs1;refine ⟨_,rfl,sa,_,_,_,_,rfl,b1.at_,T.AR,T.E3,Qw _ _ _ _,pa1,_,rfl,.inl (Bq.of b1.p),by show 1<=sizeLine;decide,fun p hp=>?_⟩;refine k.oY (wD D hv) hs1 s1 (nn p hp) (sv d hv) hp ?_;rw[AB,AX b1.ep,Dm];rfl
theorem kU(T:Txt K mg t):Bv P w K mg base EE 3 t.Ki t.SF ZE (QP t fun c=>c=.again):=by
 refine T.Z0.ok jR (fun vs H Q E h=>?_) (fun cdv A outer s H vs Q E hr h=>?_)
 ·obtain ⟨sa,ga,d,c,gs,G,_,rfl,_⟩:=h;rfl
 ·obtain ⟨sa,ga,d,_,gs,G,rfl,rfl,hst,D,hg,_,k⟩:=h;obtain ⟨dx,wa,ha,pa,ua,es,fs,b⟩:=id hst;refine ⟨_,(AH (Cm (FK (GP (Ao (pv 0) rfl) (fun _=>rfl))) (AM (Am (BM (AA (Bw rfl T.Bx.1 T.Bx.2) AD)))) Bk) (AH (Cw (Yc (pv 0) T.AR T.Vj (UT T) (hr.mono (by decide)) T.Vi .nil Ay)) (AM (Am (BM (AA (Ba A4 (by rfl) T.C7 An (AA (Ao (pv 0) rfl) AD)) AD)))))),?_⟩;refine ⟨_,rfl,sa,_,_,_,_,rfl,b.at_,T.AR,T.Ed,Mm _ _ _ _,_,.inl ⟨_,Bq.of b.u,rfl⟩,?_⟩;rw[aP b.eu];cases hv:d.X7 with
  |nil=>exact Ca ⟨by show 1<=sizeLine;decide,fun p hp=>k.keep D hst (Aw.refl H) (fR d hv) hp rfl⟩
  |cons x r =>
   refine Cz ⟨_,rfl,sa,_,_,rfl,b.at_,Wx _ _ _ _ (by decide +kernel),sa,d,x,r,G,rfl,hst,D,hv,fun H1 s1 hs1 nn=>?_⟩;obtain ⟨dx1,wa1,ha1,pa1,ua1,es1,fs1,b1⟩:=id hs1;refine ⟨_,rfl,sa,_,_,_,_,rfl,b1.at_,T.AR,T.Ed,Mm _ _ _ _,ua1,_,rfl,.inl (Bq.of b1.u),by show 1<=sizeLine;decide,fun p hp=>?_⟩;refine k.oY (sy D hv) hs1 s1 (nn p hp) (pH D hv) hp ?_;rw[AB,AX b1.eu,Dm];rfl
end
open PySem PySem.Spec PyProof.Rows L2
theorem Apart.tx{T D a:Addr}{H H':Hp}{q:Array Value}(h:Apart D H a)(hT:H T=some (.Jt q))(s:q0 T H H'):Apart D H' a:=by
 obtain ⟨C,dx,la,n,ra,ta,rs,h1,h2,h3,h4,h5⟩:=h;exact ⟨C,dx,la,n,ra,ta,rs,s _ _ (CI h1 hT (fun z=>nomatch z)) h1,h2,h3,s _ _ (CI h4 hT (fun z=>nomatch z)) h4,h5⟩
theorem Ent.tx{N:Addr->Prop}{C e T:Addr}{H H':Hp}{x:S}{q:Array Value}(h:Ent N C H e x)(hT:H T=some (.Jt q))(s:q0 T H H'):Ent N C H' e x:=by
 obtain ⟨wa,ha,h1,h2,h3,h4⟩:=h;exact ⟨wa,ha,s _ _ (CI h1 hT (fun z=>nomatch z)) h1,h2.tx hT s,h3.tx hT s,fun D hD=>(h4 D hD).tx hT s⟩
theorem FQ.tx{t:HU}{G:Addr->Prop}{sa T:Addr}{H H':Hp}{d:Dk}{q:Array Value}(h:FQ t G H sa d)(hT:H T=some (.Jt q))(s:q0 T H H')(hT':∃o,H' T=some o)(tb:Sb t H'):FQ t G H' sa d:=by
 obtain ⟨dx,wa,ha,pa,ua,es,fs,b⟩:=h;refine ⟨dx,wa,ha,pa,ua,es,fs,s _ _ (CI b.at_ hT (fun z=>nomatch z)) b.at_,b.w.tx hT s,b.h.tx hT s,fun D hD=>(b.ap D hD).tx hT s,s _ _ (CI b.p hT (fun z=>nomatch z)) b.p,s _ _ (CI b.u hT (fun z=>nomatch z)) b.u,b.ne,Ad b.ep fun _ _ z=>z.tx hT s,Ad b.eu fun _ _ z=>z.tx hT s,tb,fun D hD=>?_⟩;obtain ⟨g1,g2,g3,o,g4⟩:=b.g D hD;refine ⟨g1,g2,g3,?_⟩
 by_cases e:D=T
 ·rw[e];exact hT'
 ·exact ⟨o,s _ _ e g4⟩
theorem _root_.L2.HM.tx{T T2:Addr}{H H':Hp}{pos:Pos}{qual:Str}{q:Array Value}(h:HM H T2 pos qual)(hT:H T=some (.Jt q))(hn:T2≠T)(s:q0 T H H'):HM H' T2 pos qual:=by
 rcases h with h|⟨c',h1,h2⟩
 ·exact .inl (s _ _ hn h)
 ·exact .inr ⟨c',s _ _ hn h1,s _ _ (CI h2 hT (fun z=>nomatch z)) h2⟩
theorem oZ{G:Addr->Prop}{T:Addr}{H H':Hp}{q:Array Value}(hT:H T=some (.Jt q))(s:q0 T H H'):Wz G H H':=fun D o _ ho e=>s _ _ (fun z=>by rw[z,hT]at e;cases e;exact ho _ rfl) e
theorem q0.none{T b:Addr}{H H':Hp}(s:q0 T H H')(hT:∃o,H' T=some o)(h:H' b=none):H b=none:=by
 cases e:H b with
 |none=>rfl
 |some o =>
  obtain ⟨o',h'⟩:=hT
  have:=s b o (fun z=>by rw[z,h']at h;cases h) e
  rw[h]at this;cases this
section
variable {P:Program} {w:World} {K:AE} {mg:Str->Option Value} {base:Heap} {t:HU}
theorem rM(T:Txt K mg t)(B:U4 mg base):Bv P w K mg base EE 6 t.Pu t.Zi jZ (QP t fun c=>c=.why):=by
 refine T.jw.ok dW (fun vs H Q E h=>?_) (fun cdv A outer s H vs Q E hr h=>?_)
 ·obtain ⟨sa,ga,d,c,gs,G,_,rfl,_⟩:=h;rfl
 ·obtain ⟨sa,ga,d,_,gs,G,rfl,rfl,hst,D,hg,_,k⟩:=h;obtain ⟨dx,wa,ha,fs,h1,h2,h3,hw,hh,m1,m2,m3⟩:=hst.get;refine ⟨_,(AH (BF (i:=2) dW.nd rfl (Ai rfl) (Aj (OI T B) (hr.mono (by decide)) rfl T.QH T.Iy.kp T.QG .nil Ay (AA (Ao (pv 0) rfl) AD))) (AM (Am (BM (AA (Aj (Rg T) (hr.mono (by decide)) rfl T.UG T.NV.kp T.UE .nil Ay (AA (Ao (pv 0) rfl) (AA (pv 2) AD))) (AA (pv 2) AD)))))),?_⟩;refine ⟨_,rfl,sa,_,_,_,_,rfl,h1,T.AR,T.Ae,h2,wa,d.now.1,rfl,hw,D.now.w,hst.tabs.1,fun H1 s1 hT1=>?_⟩;obtain ⟨q,hq⟩:=hst.tabs.1.at;obtain ⟨q1,hq1⟩:=hT1.at;have hs1:FQ t G H1 sa d:=hst.tx hq s1 ⟨_,hq1⟩ ⟨hT1,hst.tabs.2.tx hq (Cr T.uW) s1⟩;obtain ⟨dx1,wa1,ha1,fs1,h11,h21,h31,hw1,hh1,m11,m21,m31⟩:=hs1.get;refine ⟨_,rfl,sa,_,_,_,_,rfl,h11,T.AR,T.Ae,h21,_,rfl,wa1,d.now.1,_,rfl,hw1,D.now.w,fun H2 s2=>⟨_,rfl,by show 2<=sizeLine;decide,fun p hp=>?_⟩⟩;exact k.oY D (hs1.same s2) (fun D o hG ho e=>s2 _ _ (oZ hq s1 D o hG ho e)) (q0.none s1 ⟨_,hq1⟩ (s2.free hp)) (wA D) hp rfl
theorem kW(T:Txt K mg t):Bv P w K mg base EE 6 t.Kn t.SM ZS (QP t fun c=>c=.rings):=by
 refine T.Z5.ok WY (fun vs H Q E h=>?_) (fun cdv A outer s H vs Q E hr h=>?_)
 ·obtain ⟨sa,ga,d,c,gs,G,_,rfl,_⟩:=h;rfl
 ·obtain ⟨sa,ga,d,_,gs,G,rfl,rfl,hst,D,hg,_,k⟩:=h;obtain ⟨dx,wa,ha,fs,h1,h2,h3,hw,hh,m1,m2,m3⟩:=hst.get;have h6:=D.now.w.len;refine ⟨_,(AH (BF (i:=2) WY.nd rfl (Ai rfl) (Aj (bf T) (hr.mono (by decide)) rfl T.gO T.UH.kp T.gN .nil Ay (AA (Ao (pv 0) rfl) AD))) (AM (Am (CZ IL (BM (AA (Aj (gp T) (hr.mono (by decide)) rfl T.jt T.Wo.kp T.js .nil Ay (AA (pv 2) AD)) AD)) (Aj (bj T) (hr.mono (by decide)) rfl T.gQ T.UI.kp T.gP .nil Ay (AA (pv 2) AD)))))),?_⟩;refine ⟨_,rfl,sa,_,_,_,_,rfl,h1,T.AR,T.Ae,h2,wa,d.now.1,rfl,hw,D.now.w,fun q L hq b H1 s1 hb=>?_⟩;have hm:q∈Gr d.now.1 d.now.1.length:=(AJ.mp (show q∈LS d.now.1 by rw[hq];exact AI)).1;have pm:=YC hm;have lq:q.length<=6:=by rw[pm.len];exact h6
  refine ⟨_,rfl,b,d.now.1.length,q,rfl,hb,pm,h6,fun H2 s2=>⟨by show 1<=sizeLine;decide,fun u hu=>?_⟩⟩;have s3:=s2.upd (o:=.lst [vN ((AF q.length).filter (k8 q)).length]) hu;refine ⟨_,rfl,b,q,rfl,hb.same s3,lq,fun tb H5 s5 htb hT=>?_⟩;refine ⟨u,tb,_,_,rfl,rfl,s5 _ _ AK,hT,?_,fun p hp=>?_⟩
  ·rw[Bf,Ab,AB,QR];exact small (by show 1+_<=_;omega)
  ·refine k.keep D hst ((s1.trans s3).trans s5) (pF D hq) hp ?_;rw[Hv];rfl
theorem mw(T:Txt K mg t):Bv P w K mg base EE 3 t.Ma t.VY de (QP t fun c=>∃a,c=.look a):=by
 refine T.eA.ok KN (fun vs H Q E h=>?_) (fun cdv A outer s H vs Q E hr h=>?_)
 ·obtain ⟨sa,ga,d,c,gs,G,_,rfl,_⟩:=h;rfl
 ·obtain ⟨sa,ga,d,_,gs,G,⟨a,rfl⟩,rfl,hst,D,hg,rfl,k⟩:=h;obtain ⟨dx,wa,ha,fs,h1,h2,h3,hw,hh,m1,m2,m3⟩:=hst.get;obtain ⟨dw,lb,rb,tb,g12,⟨as,g22,g2p⟩,g32,g42⟩:=id hw;have h6:=D.now.w.len;refine ⟨_,(AH (BF (i:=2) KN.nd rfl (Ai rfl) (BU Be (pv 1) BG (fun _ _=>rfl))) (AH (Cm (Ck (CV (pv 0) T.AR T.D3 (DY T) (hr.mono (by decide)) T.D1 .nil Ay (AA (pv 2) AD))) (AM (Am (BM (AA (Bw rfl T.Bx.1 T.Bx.2) AD)))) Bk) (AH (BF (i:=3) KN.nd rfl (Ai rfl) (BU CU (Ao (Ao (pv 0) rfl) rfl) (pv 2) (fun _ _=>rfl))) (AM (Am (CZ IL (CZ IL (BM (AA (Ba A4 (by rfl) T.C7 An (AA (pv 3) AD)) AD)) (HK rfl KN.nd (YV (pv 3)) (show EH qH (AO VB) _ [("other",4)] from CL (by decide +kernel)) (fun _ _ _ _ _=>(Bj (i:=4) KN.nd rfl (Ai rfl))) (fun _ _ _ _ _=>F4) (fun _ _ _ _ _=>(CZ JH (pv 4) BG)))) (CZ Yf (BM (AA BG AD)) (CZ J6 (Bw rfl T.FO.1 T.FO.2) (Ba A4 (by rfl) T.C7 An (AA (pv 3) AD)))))))))),?_⟩;refine ⟨_,rfl,ga,_,_,_,rfl,rfl,Bq.of hg,at_of (j:=0) rfl rfl,?_⟩;refine ⟨_,rfl,sa,_,_,rfl,h1,m1,_,rfl,sa,a,d,G,rfl,hst,_,rfl,?_⟩
  by_cases c1:d.now.1.length<=a
  ·rw[decide_eq_true c1];exact Ca ⟨by show 1<=sizeLine;decide,fun p hp=>k.keep D hst (Aw.refl H) (a8 d c1) hp rfl⟩
  rw[decide_eq_false c1];have la':a<d.now.1.length:=by omega
  obtain ⟨aa,ea,raa⟩:=CJ g2p (w_get la');have l5:=nH D.now.w la';refine Cz ⟨_,rfl,sa,_,_,_,_,rfl,h1,T.AR,T.Ae,h2,wa,_,_,_,_,rfl,g12,T.BP,T.Ec,MG _ _ _ _,_,rfl,lb,_,_,_,rfl,rfl,DR.of g22,DF ea,?_⟩;refine ⟨_,rfl,aa,_,rfl,.inr (DR.of raa),by show 1<=sizeLine;decide,fun u hu=>?_⟩;rw[Bf];have s1:=As (o:=.lst [vN (wl d.now.1 a).length]) hu;have u1:(upd H u (.lst [vN (wl d.now.1 a).length])) u=some (.lst [vN (wl d.now.1 a).length]):=AK;revert s1 u1;generalize upd H u (.lst [vN (wl d.now.1 a).length])=H1;intro s1 u1;refine ⟨_,rfl,aa,rfl,⟨_,DR.of (raa.same s1)⟩,fun D' hD=>?_⟩;refine Tq (zs:=wl d.now.1 a) (fun x z=>x=vN z) (fun _=>true) (fun z y _=>y=vN (z+1)) (HP _) (fun _ _ _ _ h _=>h) (by omega) hD (raa.same s1) (fun _=>rfl) ?_ ?_ ?_
  ·intro x z H' Q' _ _ s' _ kk;exact kk H' (Aw.refl H')
  ·rintro x z H' Q' hz rfl _ s' _ kk;exact ⟨_,rfl,_,_,rfl,rfl,kk _ H' (Aw.refl H') rfl⟩
  ·intro H2 ys s2 hy r;rw[BZ.mpr (fun _ _=>rfl)]at r;have e:=EI r;have ly:ys.length=(wl d.now.1 a).length:=AX r;refine ⟨u,D',_,_,rfl,rfl,s2 _ _ u1,hy,small (by show 1+_<=_;omega),fun v hv=>?_⟩;have s3:=s2.upd (o:=.lst ([vN (wl d.now.1 a).length]++ys)) hv;have v3:(upd H2 v (.lst ([vN (wl d.now.1 a).length]++ys))) v=some (.lst ([vN (wl d.now.1 a).length]++ys)):=AK;revert s3 v3;generalize upd H2 v (.lst ([vN (wl d.now.1 a).length]++ys))=H3;intro s3 v3;refine ⟨by show 1<=sizeLine;decide,fun z hz=>?_⟩;have s4:=s3.upd (o:=.lst [.int 0]) hz;have v4:(upd H3 z (.lst [.int 0])) v=some (.lst ([vN (wl d.now.1 a).length]++ys)):=by rw[A2 (Af v3 hz)];exact v3
   refine ⟨_,rfl,aa,_,rfl,.inr (DR.of ((raa.same s1).same s4)),_,_,rfl,rfl,z,_,_,rfl,rfl,AK,?_⟩;rw[Bf];refine ⟨by omega,by omega,?_,fun z2 hz2=>?_⟩
   ·show 1*_<=_;exact small (by omega)
   have s5:=s4.upd (o:=.lst (Ac ((5:Int)-((wl d.now.1 a).length:Int)).toNat [V.int 0]).flatten) hz2;refine ⟨v,z2,_,_,rfl,rfl,(As hz2) _ _ v4,AK,?_,fun b hb=>?_⟩
   ·rw[len_rep,Ab,ly,show [V.int 0].length=1 from rfl];exact small (by show 1+_+_<=_;omega)
   ·refine k.keep D hst (s1.trans s5) (su D c1) hb ?_;have e2:((5:Int)-((wl d.now.1 a).length:Int)).toNat=5-(wl d.now.1 a).length:=by omega
    rw[e2,aM,e,Hv,<-Il];rfl
theorem u6{N:List Str}{sc scope:Scope}{own:List (Str×Nat)}(ns:List (Str×NameKind))(e:sc.names=ns)(h:zY N { scope with names:=ns } scope own=true):EH N sc scope own:=by
 have b:=CL h;exact ⟨b.kind,b.uniq,b.ix,fun y hy z=>by rw[e];exact b.free y hy z,b.own⟩
theorem eO{α:Type}{f:α->Bool}:∀{ys:List V} {l:List α},Paired (fun y i=>y=V.bl (f i)) ys l->ys=(l.map f).map V.bl
 |_,_,.nil=>rfl
 |_,_,.cons r t=>by rw[r,eO t];rfl
theorem rN(T:Txt K mg t):Bv P w K mg base EE 5 t.Pw t.Zj jb (QP t fun c=>c=.may):=by
 refine T.jx.ok Jv (fun vs H Q E h=>?_) (fun cdv A outer s H vs Q E hr h=>?_)
 ·obtain ⟨sa,ga,d,c,gs,G,_,rfl,_⟩:=h;rfl
 ·obtain ⟨sa,ga,d,_,gs,G,rfl,rfl,hst,D,hg,_,k⟩:=h;obtain ⟨dx,wa,ha,fs,h1,h2,h3,hw,hh,m1,m2,m3⟩:=hst.get;have h6:=D.now.w.len;refine ⟨_,(AH (BF (i:=2) Jv.nd rfl (HI rfl) (Aj (HH T) (hr.mono (by decide)) rfl T.Hr T.F7.kp T.Hq .nil Ay (AA (Ao (pv 0) rfl) AD))) (AH (Hb (i:=3) rfl Jv.nd rfl rfl (Jk rfl rfl rfl rfl) (EG rfl T.E4 (AA (Ao (Ao (pv 0) rfl) rfl) AD)) (show EH ja (AO ZP) _ [("one",4)] from CL (by decide +kernel)) (fun _ _ _ _ _=>(Bj (i:=4) Jv.nd rfl (HI rfl))) (fun _ _ _ _ _=>(FZ (Ck (Ba (xC K rfl rfl) (by rfl) T.ABd boot_any (AA (HK rfl Jv.nd (uJ K rfl (pv 2)) (u6 (N:=ja) (own:=[("has",5)]) [(".0",.local),("one",.cell),("any",.globalImplicit),("best",.cell)] rfl (by decide +kernel)) (fun _ _ _ _ _=>(Bj (i:=5) Jv.nd rfl (Ai rfl))) (fun _ _ _ _ _=>F4) (fun _ _ _ _ _=>(Aj (E5 T) (hr.mono (by decide)) rfl T.Fg T.FF.kp T.Ff .nil Ay (AA (pv 5) (AA (pv 4) AD))))) AD))))) (fun _ _ _ _ _=>(pv 4))) (AM (Am (BM (AA (Ba A4 (by rfl) T.C7 An (AA (pv 3) AD)) (AA (Aj (aH T) (hr.mono (by decide)) rfl T.d4 T.Vg.kp T.d3 .nil Ay (AA (pv 3) AD)) AD))))))),?_⟩;refine ⟨_,rfl,sa,_,_,_,_,rfl,h1,T.AR,T.Ae,h2,wa,d.now.1,rfl,hw,D.now.w,fun B H1 s1 _ hB=>?_⟩;obtain ⟨fs',hB1,hB2⟩:=id hB;obtain ⟨dx1,wa1,ha1,fs1,h11,h21,h31,hw1,hh1,m11,m21,m31⟩:=(hst.same s1).get;obtain ⟨dw1,la1,ra1,ta1,g11,_⟩:=id hw1;refine ⟨_,rfl,sa,_,_,_,_,rfl,h11,T.AR,T.Ae,h21,wa1,_,_,_,_,rfl,g11,T.BP,T.Bh,Co _ _ _ _,_,rfl,by omega,by omega,fun M hM=>?_⟩;rw[A8];refine Fs (fun i=>(Oe d.now.1).any fun p=>decide (A6 p i=i)) (fun i y _=>y=vN i) (fun _ _ _ _ h _=>h) (by omega) hM (fun _=>rfl) ?_ ?_ ?_
  ·intro i H2 Q' hi s2 hIL kk;refine ⟨_,rfl,B,rfl,⟨_,Bq.of (s2 _ _ hB1)⟩,fun D2 hD2=>?_⟩;refine E1 (zs:=Oe d.now.1) (fun x p=>∃b,x=V.ref b/\TN H2 b p) (fun _=>true) (fun p y _=>y=V.bl (decide (A6 p i=i))) (Di (Ad hB2 fun _ _ z=>z.same s2)) (fun _ _ _ _ h _=>h)
    (AY (Ax _ _) (AY (Gg D.now.w) (by omega))) hD2 (Bq.of (s2 _ _ hB1)) (fun _=>rfl) ?_ ?_ ?_
   ·intro x z H' Q2 _ _ s' _ kk2;exact kk2 H' (Aw.refl H')
   ·rintro x p H' Q2 hp ⟨b,rfl,hb⟩ _ s' _ kk2;have Pp:=FJ D.now.w (AJ.mp hp).1;exact ⟨_,rfl,_,rfl,b,p,i,rfl,hb.same s',by rw[Pp.len];exact hi,kk2 _ H' (Aw.refl H') rfl⟩
   ·intro H3 ys s3 hy r;rw[BZ.mpr (fun _ _=>rfl)]at r;have e:=eO r;rw[e]at hy;refine ⟨D2,_,rfl,Bq.of hy,_,rfl,?_⟩;have ea:((Oe d.now.1).map fun p=>decide (A6 p i=i)).any id=(Oe d.now.1).any fun p=>decide (A6 p i=i):=by
     rw[kj];rfl
    rw[ea];exact kk H3 s3
  ·intro i H2 Q' hi _ s2 _ kk;exact ⟨_,rfl,kk _ H2 (Aw.refl H2) rfl⟩
  ·intro H2 ys s2 hy r;have e:=EI (f:=fun i=>i) r;rw[EY]at e;have hy:LN H2 M (pE d.now.1):=by
    unfold LN;rw[hy,e];rfl
   have la:(pE d.now.1).length<=6:=AY (Ax _ _) (by rw[BW];exact h6);refine ⟨_,rfl,M,_,rfl,.inl (Bq.of hy),_,rfl,M,_,rfl,hy,la,?_,fun H3 s3=>⟨by show 2<=sizeLine;decide,fun p hp=>?_⟩⟩
   ·intro s hs
    have:=Ah.mp (AJ.mp hs).1
    omega
   ·refine k.keep D hst ((s1.trans s2).trans s3) (wB D) hp ?_;rw[Bf];rfl
theorem Se(k:Nat->Int)(kf:Int->Int)(h:∀n:Nat,kf (n:Int)=k n):∀(l:List Nat) (a:Nat),(l.map fun (n:Nat)=>(n:Int)).foldl (fun r t=>if kf t<kf r then t else r) (a:Int)=((l.foldl (fun r t=>if k t<k r then t else r) a:Nat):Int)
 |[],a=>rfl
 |x::l,a=>by
  rw[Az,BI,BI,h,h]
  by_cases c:k x<k a
  ·rw[if_pos c,if_pos c];exact Se k kf h l x
  ·rw[if_neg c,if_neg c];exact Se k kf h l a
theorem u9(k:Nat->Int)(kf:Int->Int)(h:∀n:Nat,kf (n:Int)=k n):∀(l:List Nat),mnI kf (l.map fun (n:Nat)=>(n:Int))=((ic k l:Nat):Int)
 |[]=>rfl
 |x::l=>Se k kf h l x
theorem mx(T:Txt K mg t)(B:U4 mg base):Bv P w K mg base EE 5 t.MY t.Ql dZ (QP t fun c=>∃a,c=.best a):=by
 refine T.d8.okC IP (fun vs H Q E h=>?_) (fun cdv A outer s H vs Q E hcd hr h=>?_)
 ·obtain ⟨sa,ga,d,c,gs,G,_,rfl,_⟩:=h;rfl
 ·obtain ⟨sa,ga,d,_,gs,G,⟨a,rfl⟩,rfl,hst,D,hg,rfl,k⟩:=h;have ec:cdv=.ref t.Mc:=hcd.symm.trans T.Z8;subst ec;obtain ⟨dx,wa,ha,fs,h1,h2,h3,hw,hh,m1,m2,m3⟩:=hst.get;have h6:=D.now.w.len;refine ⟨_,(AH (BF (i:=2) IP.nd rfl (HI rfl) (BU Be (pv 1) BG (fun _ _=>rfl))) (AH (Cm (Ck (CV (pv 0) T.AR T.D3 (DY T) (hr.mono (by decide)) T.D1 .nil Ay (AA (pv 2) AD))) (AM (Am (BM (AA (Bw rfl T.Bx.1 T.Bx.2) AD)))) Bk) (AH (BF (i:=3) IP.nd rfl (Ai rfl) (Aj (C9 T) (hr.mono (by decide)) rfl T.DM T.C0.kp T.DL .nil Ay (AA (Ao (pv 0) rfl) AD))) (AH (Cm (FK (GP (pv 3) (fun _=>rfl))) (AM (Am (BM (AA (Bw rfl T.Dr.1 T.Dr.2) AD)))) Bk) (AH (BF (i:=4) IP.nd rfl (HI rfl) (BU Be (Ao (Ao (pv 0) rfl) rfl) (pv 2) (fun _ _=>rfl))) (AM (Am (BM (AA
   (jG zj (k:=0) (i:=4) (x := "mate") (y := "ranks") (T:=t.HN) (c:=t.Mc) rfl rfl T.yM B rfl T.mI ⟨rfl,rfl,rfl,by decide +kernel,rfl,rfl,by decide +kernel,by decide +kernel⟩ (hr.mono (by decide)) rfl rfl rfl rfl rfl rfl (fun _ _ _ _=>rfl)
    (AA (HK rfl IP.nd (DO (pv 3)) (show EH qG (AO VA) _ [("has",5)] from CL (by decide +kernel)) (fun _ _ _ _ _=>(Bj (i:=5) IP.nd rfl (Ai rfl))) (fun _ _ _ _ _=>F4) (fun _ _ _ _ _=>(BU (M7 K rfl) (pv 5) (pv 2) (fun _ _=>rfl)))) AD)
    (fun A s H f cd r=>BU (Hc K rfl) (pv 1) (pv 0) (fun _ _=>rfl))) AD))))))))),?_⟩
  refine ⟨_,rfl,ga,_,_,_,rfl,rfl,Bq.of hg,at_of (j:=0) rfl rfl,?_⟩;refine ⟨_,rfl,sa,_,_,rfl,h1,m1,_,rfl,sa,a,d,G,rfl,hst,_,rfl,?_⟩
  by_cases c1:d.now.1.length<=a
  ·rw[decide_eq_true c1];exact Ca ⟨by show 1<=sizeLine;decide,fun p hp=>k.keep D hst (Aw.refl H) (a5 d c1) hp rfl⟩
  rw[decide_eq_false c1];have la':a<d.now.1.length:=by omega
  refine Cz ⟨_,rfl,sa,_,_,_,_,rfl,h1,T.AR,T.Ae,h2,wa,d.now.1,rfl,hw,D.now.w,fun F H1 s1 _ ⟨fs',hF1,hF2⟩=>?_⟩;refine ⟨_,rfl,_,.inl ⟨_,Bq.of hF1,rfl⟩,?_⟩;rw[ES hF2];cases hv:holding d.now.1 with
  |nil=>exact Ca ⟨by show 1<=sizeLine;decide,fun p hp=>k.keep D hst s1 (ib D c1 hv) hp rfl⟩
  |cons q l =>
   obtain ⟨dx1,wa1,ha1,fs1,h11,h21,h31,hw1,hh1,m11,m21,m31⟩:=(hst.same s1).get;obtain ⟨dw1,lb,rb,tb,g12,g22,⟨rs,g32,g3p⟩,g42⟩:=id hw1;obtain ⟨ro,ero,hro⟩:=CJ g3p (Tn d.now.1 la');refine Cz ⟨_,rfl,sa,_,_,_,_,rfl,h11,T.AR,T.Ae,h21,wa1,_,_,_,_,rfl,g12,T.BP,T.FN,MH _ _ _ _,_,rfl,rb,_,_,_,rfl,rfl,Bq.of g32,DF ero,?_⟩;refine ⟨_,rfl,F,rfl,⟨_,Bq.of hF1⟩,fun D' hD=>?_⟩;refine E1 (zs:=holding d.now.1) (fun x p=>∃b,x=V.ref b/\TN H1 b p) (fun _=>true) (fun p y _=>y=vN (A6 p a)) (Di hF2) (fun _ _ _ _ h _=>h) (AY (Ax _ _) (AY (Gg D.now.w) (by omega))) hD (Bq.of hF1) (fun _=>rfl) ?_ ?_ ?_
   ·intro x z H' Q' _ _ s' _ kk;exact kk H' (Aw.refl H')
   ·rintro x p H' Q' hp ⟨b,rfl,hb⟩ _ s' _ kk;have Pp:=FX D.now.w hp;exact ⟨_,rfl,_,rfl,b,_,_,_,rfl,rfl,DR.of (hb.same s'),CQ (Cj (by rw[Pp.len];exact la')),kk _ H' (Aw.refl H') rfl⟩
   ·intro H2 ys s2 hy r;rw[BZ.mpr (fun _ _=>rfl)]at r;have e:=NX r;have S2:=s1.trans s2;have hT2:=(hst.same S2).tabs.2;obtain ⟨qt,hqt⟩:=hT2.at;have e2:ys=(((holding d.now.1).map fun p=>A6 p a).map fun (n:Nat)=>(n:Int)).map V.int:=by rw[e,Qv]
    refine ⟨D',((holding d.now.1).map fun p=>A6 p a).map (fun (n:Nat)=>(n:Int)),.ref ro,fun z=>(rk d.now.1 a z.toNat:Int),rfl,by rw[hy,e2],by rw[hv];exact (fun z=>nomatch z),rfl,hT2,fun H3 g1 g2=>⟨fun n hn H4 s4=>?_,fun H' s'=>?_⟩⟩
    ·obtain ⟨m,hm,rfl⟩:=BE.mp hn;obtain ⟨p,hp,rfl⟩:=BE.mp hm;have Pp:=FX D.now.w hp;have hr3:LN H3 ro ((AF d.now.1.length).map (rk d.now.1 a)):=(hro.same s2).tx hqt g1;exact ⟨_,rfl,_,rfl,ro,_,_,_,rfl,rfl,Bq.of (hr3.same s4),CQ (M8 _ _ (Pp.lt a la')),by dsimp only;rw[A8],Aw.refl H4⟩
    ·have hs3:FQ t G H3 sa d:=by
      obtain ⟨q3,hq3⟩:=g2.at;exact (hst.same S2).tx hqt g1 ⟨_,hq3⟩ ⟨(hst.same S2).tabs.1.tx hqt T.uW g1,g2⟩
     have em:=u9 (fun x=>(rk d.now.1 a x:Int)) (fun z=>(rk d.now.1 a z.toNat:Int)) (fun n=>by rw[A8]) ((holding d.now.1).map fun p=>A6 p a);rw[em];refine ⟨by show 1<=sizeLine;decide,fun p hp=>?_⟩;obtain ⟨q3,hq3⟩:=g2.at;refine k.oY D (hs3.same s') (fun D o hG ho e=>s' _ _ (oZ hqt g1 D o hG ho (S2 _ _ e))) (S2.free (q0.none g1 ⟨_,hq3⟩ (s'.free hp))) (sq D c1 hv) hp ?_;rfl
end
open PySem PySem.Spec PyProof.Rows L2
def yO(t:HU):List Addr:=t.Qo++t.LL++t.Qq
def kX(t:HU):List (List V):=[[.ref t.Kg,.int 1,.bl false],[.ref t.MO,.int 2,.bl true],[.ref t.T7,.int 1,.bl true],[.ref t.MP,.int 0,.bl false],[.ref t.MQ,.int 2,.bl false],[.ref t.MR,.int 1,.bl false],[.ref t.Kh,.int 2,.bl false],[.ref t.MS,.int 0,.bl false],[.ref t.Iv,.int 0,.bl false],[.ref t.MT,.int 1,.bl false],
 [.ref t.Kk,.int 0,.bl false],[.ref t.Kl,.int 0,.bl false],[.ref t.Po,.int 1,.bl false],[.ref t.Km,.int 0,.bl true],[.ref t.Pt,.int 0,.bl false],[.ref t.MV,.int 0,.bl false],[.ref t.MW,.int 0,.bl false],[.ref t.Pu,.int 0,.bl false],[.ref t.Pw,.int 0,.bl false],[.ref t.MX,.int 0,.bl false],[.ref t.Kn,.int 0,.bl false],[.ref t.Ko,.int 0,.bl false],[.ref t.MY,.int 1,.bl false],[.ref t.Iw,.int 1,.bl false],[.ref t.G6,.int 0,.bl false],[.ref t.MZ,.int 1,.bl false],[.ref t.Ma,.int 1,.bl false],[.ref t.Pz,.int 0,.bl false],
 [.ref t.MU,.int 0,.bl false],[.ref t.Ki,.int 0,.bl false],[.ref t.Kj,.int 0,.bl false]]
section
variable {P:Program} {w:World} {K:AE} {mg:Str->Option Value} {base:Heap} {t:HU}
theorem xQ(T:Txt K mg t):Paired (fun a (r:List V)=>∀H,DR K H a r) (yO t) (kX t):=FE (FE T.eD T.Wv) T.eF
def my(t:HU):Sp:=fun vs H Q _=>∃(j:Nat) (a:Addr),vs=[vN j]/\(yO t)[j]?=some a/\Ks (.ref a) H Q
theorem mz(T:Txt K mg t):Bv P w K mg base EE 1 t.VZ t.Va dg (my t):=by
 refine T.eB.ok lh (fun vs H Q E h=>?_) (fun cdv A outer s H vs Q E hr h=>?_)
 ·obtain ⟨j,a,rfl,_⟩:=h;rfl
 ·obtain ⟨j,a,rfl,hj,k⟩:=h;have l1:t.Qo.length=10:=AX T.eD;have l2:t.LL.length=18:=AX T.Wv;have l3:t.Qq.length=3:=AX T.eF;refine ⟨_,(AM (Am (BU CU (CZ fZ (CZ fZ (Bw rfl T.eC.1 T.eC.2) (Bw rfl T.Wu.1 T.Wu.2)) (Bw rfl T.eE.1 T.eE.2)) (pv 0) (fun _ _=>rfl)))),?_⟩;refine ⟨_,_,_,_,rfl,rfl,T.qh _,T.j2 _,?_,?_,fun e=>?_,fun _ p hp=>?_⟩
  ·intro e;rw[Jy]at e;rw[e]at l1;cases l1
  ·rw[AB,AB,l1,l2];exact small (by omega)
  ·rw[Jy]at e;rw[e]at l2;cases l2
  refine ⟨_,_,_,_,rfl,rfl,DR.of AK,T.qi _,?_,?_,fun e=>?_,fun _ q hq=>?_⟩
  ·intro e
   have:=congrArg HW e
   rw[Ab,AB,l1,DJ]at this;omega
  ·rw[Ab,AB,AB,AB,l1,l2,l3];exact small (by omega)
  ·rw[Jy]at e;rw[e]at l3;cases l3
  refine ⟨_,rfl,q,_,_,_,rfl,rfl,DR.of AK,?_,k _ ((As hp).upd hq)⟩;rw[<-BS,<-BS];exact DF hj
def Form(K:AE)(fa:Addr)(fn:V)(n:Nat)(b:Bool):Prop:=∀H,DR K H fa [fn,.int (n:Int),.bl b]
def aQ(K:AE):Sp:=fun vs H Q _=>∃(ca fa:Addr) (i n:Nat) (fn:V) (b:Bool) (l:List Nat),vs=[.ref ca,vN i,.ref fa]/\Bq K H ca (nums l)/\Form K fa fn n b/\(b=false->Q (vN (i+1+n)) H)/\(b=true->∃m:Nat,l[i+1+n]?=some m/\Q (vN (i+1+n+(1+m))) H)
theorem aR(T:Txt K mg t):Bv P w K mg base EE 1 t.Lw t.Lx RU (aQ K):=by
 refine T.Rc.ok KO (fun vs H Q E h=>?_) (fun cdv A outer s H vs Q E hr h=>?_)
 ·obtain ⟨ca,fa,i,n,fn,b,l,rfl,_⟩:=h;rfl
 ·obtain ⟨ca,fa,i,n,fn,b,l,rfl,hl,hf,k1,k2⟩:=h;refine ⟨_,(AH (BF (i:=3) KO.nd rfl (Ai rfl) (CZ JH (CZ JH (pv 1) BG) (BU CU (pv 2) BG (fun _ _=>rfl)))) (AH (Cm (Ck (BU CU (pv 2) BG (fun _ _=>rfl))) (AM (y9 (i:=3) KO.nd rfl (Ai rfl) (CZ JH BG (BU Be (pv 0) (pv 3) (fun _ _=>rfl))) zA)) Bk) (AM (Am (pv 3))))),?_⟩;refine ⟨_,rfl,_,_,rfl,rfl,_,rfl,fa,_,_,_,rfl,rfl,hf _,at_of (j:=1) rfl rfl,_,_,rfl,rfl,?_⟩;have e1:V.int ((i:Int)+1+(n:Int))=vN (i+1+n):=by
   show V.int _=V.int _
   congr 1
  dsimp only;rw[e1];refine ⟨_,rfl,fa,_,_,_,rfl,rfl,hf _,at_of (j:=2) rfl rfl,_,rfl,?_⟩;cases b with
  |false=>exact Cz ⟨_,rfl,k1 rfl⟩
  |true =>
   obtain ⟨m,hm,kk⟩:=k2 rfl;refine Ca ⟨_,rfl,_,rfl,_,rfl,ca,_,_,_,rfl,rfl,hl,CQ hm,_,_,rfl,rfl,?_⟩;refine ⟨_,_,rfl,rfl,_,rfl,?_⟩;exact kk
def Vt(K:AE):Sp:=fun vs H Q _=>∃(ca fa:Addr) (i e n:Nat) (fn:V) (b:Bool) (l:List Nat),vs=[.ref ca,vN i,vN e,.ref fa]/\Bq K H ca (nums l)/\Form K fa fn n b/\n<=2 /\
 (b=false->∀(ga:Addr) (H':Hp),Aw H H'->H' ga=some (.lst (nums ((l.drop (i+1)).take n)))->Q (.ref ga) H') /\
 (b=true->∀(ga ra:Addr) (H':Hp),Aw H H'->LN H' ra ((l.drop (i+1+n+1)).take (e-(i+1+n+1)))->H' ga=some (.lst (nums ((l.drop (i+1)).take n)++[.ref ra]))->Q (.ref ga) H')
theorem oa{xs:List V}{a b:Nat}:N8 xs (some (a:Int)) (some (b:Int))=(xs.drop a).take (b-a):=by
 unfold N8;rw[HT.fY,HT.fY]
 by_cases h:a<=xs.length
 ·rw[QS h,kx,Ef];omega
 ·rw[vS (show xs.length<=a by omega),ON (AV _),ON (show xs.length<=a by omega),yY,yY]
theorem kY(l:List Nat)(a n:Nat):((nums l).drop a).take n=nums ((l.drop a).take n):=by
 unfold nums;rw[JB,h8]
theorem Vu(T:Txt K mg t):Bv P w K mg base EE 1 t.JS t.JT Nu (Vt K):=by
 refine T.N2.ok IQ (fun vs H Q E h=>?_) (fun cdv A outer s H vs Q E hr h=>?_)
 ·obtain ⟨ca,fa,i,e,n,fn,b,l,rfl,_⟩:=h;rfl
 ·obtain ⟨ca,fa,i,e,n,fn,b,l,rfl,hl,hf,hn,k1,k2⟩:=h;refine ⟨_,(AH (BF (i:=4) IQ.nd rfl (Ai rfl) (CZ JH (CZ JH (pv 1) BG) (BU CU (pv 3) BG (fun _ _=>rfl)))) (AH (BF (i:=5) IQ.nd rfl (Ai rfl) (J7 Te (pv 0) (Ji (CZ JH (pv 1) BG)) (Ji (pv 4)))) (AH (Cm (Ck (BU CU (pv 3) BG (fun _ _=>rfl))) (AM (Cw (JZ BQ CO CP Gk (pv 5) (AA (J7 Te (pv 0) (Ji (CZ JH (pv 4) BG)) (Ji (pv 2))) AD)))) Bk) (AM (Am (pv 5)))))),?_⟩;refine ⟨_,rfl,_,_,rfl,rfl,_,rfl,fa,_,_,_,rfl,rfl,hf _,at_of (j:=1) rfl rfl,_,_,rfl,rfl,?_⟩;have e1:V.int ((i:Int)+1+(n:Int))=vN (i+1+n):=by
   show V.int _=V.int _
   congr 1
  dsimp only;rw[e1];refine ⟨_,rfl,_,rfl,_,_,rfl,rfl,_,rfl,_,rfl,_,rfl,ca,_,rfl,hl,fun ga hga=>?_⟩;have ec:N8 (nums l) (some ((i:Int)+1)) (some ((i+1+n:Nat):Int))=nums ((l.drop (i+1)).take n):=by
   rw[show ((i:Int)+1)=((i+1:Nat):Int) from rfl,oa,kY]
   congr 2
   omega
  rw[ec];have s1:=As (o:=.lst (nums ((l.drop (i+1)).take n))) hga;have g1:(upd H ga (.lst (nums ((l.drop (i+1)).take n)))) ga=some (.lst (nums ((l.drop (i+1)).take n))):=AK;revert s1 g1;generalize upd H ga (.lst (nums ((l.drop (i+1)).take n)))=H1;intro s1 g1;refine ⟨_,rfl,fa,_,_,_,rfl,rfl,hf _,at_of (j:=2) rfl rfl,_,rfl,?_⟩;cases b with
  |false=>exact Cz ⟨_,rfl,k1 rfl ga H1 s1 g1⟩
  |true =>
   refine Ca ⟨_,rfl,.inl ⟨rfl,_,Bq.of g1⟩,_,rfl,_,rfl,_,_,rfl,rfl,_,rfl,_,rfl,_,rfl,ca,_,rfl,s1.seq hl,fun ra hra=>?_⟩;have ec2:N8 (nums l) (some (((i+1+n:Nat):Int)+1)) (some (e:Int))=nums ((l.drop (i+1+n+1)).take (e-(i+1+n+1))):=by
    rw[show (((i+1+n:Nat):Int)+1)=((i+1+n+1:Nat):Int) from rfl,oa,kY]
   rw[ec2];have s2:=As (o:=.lst (nums ((l.drop (i+1+n+1)).take (e-(i+1+n+1))))) hra;have g2:=s2 _ _ g1;refine ⟨ga,_,_,rfl,rfl,g2,?_,?_⟩
   ·rw[Bf,B0];exact A9 (by omega) (small (AV 1000))
   ·refine ⟨_,rfl,k2 rfl ga ra _ ((s1.trans s2).put hga) ?_ AK⟩;show upd _ ga _ ra=_;rw[A2 (Cr (Af g1 hra)),AK]
end
open PySem PySem.Spec PyProof.Rows L2
theorem eP{z:Int}(h:0<=z):V.int z=vN z.toNat:=by
 show V.int z=V.int _;rw[Sq h]
theorem Vv{z:Int}(h:Fo z 32=true):0<=z:=by
 unfold Fo at h;rw[BB]at h;exact of_decide_eq_true h.1
def Callee(P:Program)(w:World)(K:AE)(mg:Str->Option Value)(base:Heap)(t:HU)(p:Int)(r tl:List Int)(c:List (List Int)):Prop :=
 ∃(j n k:Nat) (b:Bool) (f:Addr) (fd:FuncData) (ps:List Str) (mk:El->Prop) (x:El),p=(j:Int)/\(kX t)[j]?=some [.ref f,.int (n:Int),.bl b]/\n<=2/\Parsed p r tl c n b/\CF c=c/\GC c=some x /\
  D7 K (.ref f)=true/\k<=8/\Bv P w K mg base EE k f fd ps (QP t mk)/\mk x/\Binds K fd ps [] /\
  (∀as H,b=false->c=[p::as]->z9 H x (as.map V.int))/\(∀as row H ra,b=true->c=[p::as,row]->LN H ra (row.map Hx)->z9 H x (as.map V.int++[.ref ra]))
theorem as0{as:List Int}(h:as.length=0):as=[]:=List.eq_nil_of_length_eq_zero h
theorem as1{as:List Int}(h:as.length=1):∃x,as=[x]:=match as,h with | [x],_=>⟨x,rfl⟩
theorem as2{as:List Int}(h:as.length=2):∃x y,as=[x,y]:=match as,h with | [x,y],_=>⟨x,y,rfl⟩
theorem ba{a b:Bool}(h:(a&&b)=true):a=true/\b=true:=by rwa [BB]at h
section
variable {P:Program} {w:World} {K:AE} {mg:Str->Option Value} {base:Heap} {t:HU} {r tl:List Int} {c:List (List Int)}
variable {j k:Nat} {f:Addr} {fd:FuncData} {ps:List Str}
theorem OJ{x:El}(hs:Bp (j:Int)=some (0,0))(hrow:(kX t)[j]?=some [.ref f,.int 0,.bl false])(hw:CF [[(j:Int)]]=[[(j:Int)]])(hc:GC [[(j:Int)]]=some x)(hkp:D7 K (.ref f)=true)(hk:k<=8)(hF:Bv P w K mg base EE k f fd ps (QP t fun c=>c=x))(hb:Binds K fd ps [])(hg:∀H,z9 H x [])
  (h:EV Bp ((j:Int)::r)=some (c,tl)):Callee P w K mg base t (j:Int) r tl c:=by
 have Q:=Js (n:=0) (b:=false) hs h;obtain ⟨as,r',er,el,hq⟩:=id Q;have ea:=as0 el;subst ea;rcases hq with ⟨_,_,ec⟩|⟨hb,_⟩
 case inr=>cases hb
 subst ec;refine ⟨j,0,k,false,_,_,_,_,x,rfl,hrow,by decide,Q,hw,hc,hkp,hk,hF,rfl,hb,fun as H _ e=>?_,fun _ _ _ _ hb=>nomatch hb⟩;injection e with e
 injection e with _ e
 subst e;exact hg H
theorem kZ{x:Nat->El}(hs:Bp (j:Int)=some (1,0))(hrow:(kX t)[j]?=some [.ref f,.int 1,.bl false])(hw:∀b:Int,CF [[(j:Int),b]]=[[(j:Int),b]])(hc:∀b:Int,GC [[(j:Int),b]]=some (x b.toNat))(hn:∀b:Int,Ce [[(j:Int),b]]=Fo b 32)(hkp:D7 K (.ref f)=true)(hk:k<=8)(hF:Bv P w K mg base EE k f fd ps (QP t fun c=>∃n,c=x n))(hb:Binds K fd ps [])(hg:∀H n,z9 H (x n) [vN n])
  (h:EV Bp ((j:Int)::r)=some (c,tl)) (ha:Ce (CF c)=true):Callee P w K mg base t (j:Int) r tl c:=by
 have Q:=Js (n:=1) (b:=false) hs h;obtain ⟨as,r',er,el,hq⟩:=id Q;obtain ⟨b0,ea⟩:=as1 el;subst ea;rcases hq with ⟨_,_,ec⟩|⟨hb,_⟩
 case inr=>cases hb
 subst ec;rw[hw,hn]at ha;refine ⟨j,1,k,false,_,_,_,_,x b0.toNat,rfl,hrow,by decide,Q,hw b0,hc b0,hkp,hk,hF,⟨_,rfl⟩,hb,fun as H _ e=>?_,fun _ _ _ _ hb=>nomatch hb⟩;injection e with e
 injection e with _ e
 subst e;rw[Az,eP (Vv ha)];exact hg H _
theorem ABh{x:Nat->Nat->El}(hs:Bp (j:Int)=some (2,0))(hrow:(kX t)[j]?=some [.ref f,.int 2,.bl false])(hw:∀b d:Int,CF [[(j:Int),b,d]]=[[(j:Int),b,d]])(hc:∀b d:Int,GC [[(j:Int),b,d]]=some (x b.toNat d.toNat))(hn:∀b d:Int,Ce [[(j:Int),b,d]]=(Fo b 32&&Fo d 32))(hkp:D7 K (.ref f)=true)(hk:k<=8)(hF:Bv P w K mg base EE k f fd ps (QP t fun c=>∃n m,c=x n m))(hb:Binds K fd ps [])(hg:∀H n m,z9 H (x n m) [vN n,vN m])
  (h:EV Bp ((j:Int)::r)=some (c,tl)) (ha:Ce (CF c)=true):Callee P w K mg base t (j:Int) r tl c:=by
 have Q:=Js (n:=2) (b:=false) hs h;obtain ⟨as,r',er,el,hq⟩:=id Q;obtain ⟨b0,b1,ea⟩:=as2 el;subst ea;rcases hq with ⟨_,_,ec⟩|⟨hb,_⟩
 case inr=>cases hb
 subst ec;rw[hw,hn]at ha;refine ⟨j,2,k,false,_,_,_,_,x b0.toNat b1.toNat,rfl,hrow,by decide,Q,hw b0 b1,hc b0 b1,hkp,hk,hF,⟨_,_,rfl⟩,hb,fun as H _ e=>?_,fun _ _ _ _ hb=>nomatch hb⟩;injection e with e
 injection e with _ e
 subst e;rw[Az,Az,eP (Vv (ba ha).1),eP (Vv (ba ha).2)];exact hg H _ _
theorem vA(T:Txt K mg t)(B:U4 mg base)(h:EV Bp ((1:Int)::r)=some (c,tl))(ha:Ce (CF c)=true):Callee P w K mg base t (1:Int) r tl c:=by
 have Q:=Js (n:=2) (b:=true) (by decide) h;obtain ⟨as,r',er,el,hq⟩:=id Q;obtain ⟨b0,b1,ea⟩:=as2 el;subst ea;rcases hq with ⟨hb,_⟩|⟨_,m,r2,e2,hm,hm2,etl,ec⟩
 case inl=>cases hb
 subst ec;have n0:0<=b0:=Vv (ba (ba ha).1).1;have n1:0<=b1:=Vv (ba (ba ha).1).2;have hl:(r2.take m.toNat).length=5:=of_decide_eq_true (ba (ba ha).2).1;refine ⟨1,2,_,true,_,_,_,_,(.wish b0.toNat b1.toNat (QV (r2.take m.toNat))),rfl,rfl,by decide,Q,rfl,rfl,T.dn.kp,?_,mY T,⟨_,_,_,rfl⟩,T.qN,(fun _ _ hb=>nomatch hb),fun as row H ra _ e hL=>?_⟩
 ·decide
 ·injection e with e e'
  injection e with _ e
  injection e' with e' _
  subst e e';refine ⟨ra,?_,hL,by show ((r2.take m.toNat).map Hx).length=_;rw[AB];exact hl⟩;rw[Az,Az,eP n0,eP n1];rfl
theorem vB(T:Txt K mg t)(B:U4 mg base)(h:EV Bp ((2:Int)::r)=some (c,tl))(ha:Ce (CF c)=true):Callee P w K mg base t (2:Int) r tl c:=by
 have Q:=Js (n:=1) (b:=true) (by decide) h;obtain ⟨as,r',er,el,hq⟩:=id Q;obtain ⟨b0,ea⟩:=as1 el;subst ea;rcases hq with ⟨hb,_⟩|⟨_,m,r2,e2,hm,hm2,etl,ec⟩
 case inl=>cases hb
 subst ec;have n0:0<=b0:=Vv (ba ha).1;have hl:(r2.take m.toNat).length=5:=of_decide_eq_true (ba (ba ha).2).1;refine ⟨2,1,_,true,_,_,_,_,(.moveIn b0.toNat (QV (r2.take m.toNat))),rfl,rfl,by decide,Q,rfl,rfl,T.oO.kp,?_,u5 T,⟨_,_,rfl⟩,T.xE,(fun _ _ hb=>nomatch hb),fun as row H ra _ e hL=>?_⟩
 ·decide
 ·injection e with e e'
  injection e with _ e
  injection e' with e' _
  subst e e';refine ⟨ra,?_,hL,by show ((r2.take m.toNat).map Hx).length=_;rw[AB];exact hl⟩;rw[Az,eP n0];rfl
theorem rO(T:Txt K mg t)(B:U4 mg base)(h:EV Bp ((13:Int)::r)=some (c,tl))(ha:Ce (CF c)=true):Callee P w K mg base t (13:Int) r tl c:=by
 have Q:=Js (n:=0) (b:=true) (by decide) h;obtain ⟨as,r',er,el,hq⟩:=id Q;have ea:=as0 el;subst ea;rcases hq with ⟨hb,_⟩|⟨_,m,r2,e2,hm,hm2,etl,ec⟩
 case inl=>cases hb
 subst ec;have hl:(r2.take m.toNat).length=6:=of_decide_eq_true (ba ha).1;refine ⟨13,0,_,true,_,_,_,_,(.votes  (QV (r2.take m.toNat))),rfl,rfl,by decide,Q,rfl,rfl,T.Z4.kp,?_,kP T,⟨_,rfl⟩,T.mF,(fun _ _ hb=>nomatch hb),fun as row H ra _ e hL=>?_⟩
 ·decide
 ·injection e with e e'
  injection e with _ e
  injection e' with e' _
  subst e e';refine ⟨ra,?_,hL,by show ((r2.take m.toNat).map Hx).length=_;rw[AB];exact hl⟩;rfl
theorem callee(T:Txt K mg t)(B:U4 mg base){p:Int}(h:EV Bp (p::r)=some (c,tl))(ha:Ce (CF c)=true):Callee P w K mg base t p r tl c:=by
 by_cases e0:p=0
 ·subst e0;exact kZ (j:=0) (by decide) rfl (fun _=>rfl) (fun _=>rfl) (fun _=>rfl) T.Zy.kp (by decide) (kL T) T.l8 (fun _ _=>rfl) h ha
 by_cases e1:p=1
 ·subst e1;exact vA T B h ha
 by_cases e2:p=2
 ·subst e2;exact vB T B h ha
 by_cases e3:p=3
 ·subst e3;exact OJ (j:=3) (by decide) rfl rfl rfl T.dq.kp (by decide) (mZ T) T.qO (fun _=>rfl) h
 by_cases e4:p=4
 ·subst e4;exact ABh (j:=4) (by decide) rfl (fun _ _=>rfl) (fun _ _=>rfl) (fun _ _=>rfl) T.dr.kp (by decide) (md T) T.qP (fun _ _ _=>rfl) h ha
 by_cases e5:p=5
 ·subst e5;exact kZ (j:=5) (by decide) rfl (fun _=>rfl) (fun _=>rfl) (fun _=>rfl) T.du.kp (by decide) (me T) T.qQ (fun _ _=>rfl) h ha
 by_cases e6:p=6
 ·subst e6;exact ABh (j:=6) (by decide) rfl (fun _ _=>rfl) (fun _ _=>rfl) (fun _ _=>rfl) T.Zz.kp (by decide) (kM T) T.l9 (fun _ _ _=>rfl) h ha
 by_cases e7:p=7
 ·subst e7;exact OJ (j:=7) (by decide) rfl rfl rfl T.dv.kp (by decide) (mh T) T.qR (fun _=>rfl) h
 by_cases e8:p=8
 ·subst e8;exact OJ (j:=8) (by decide) rfl rfl rfl T.Wl.kp (by decide) (gx T) T.jm (fun _=>rfl) h
 by_cases e9:p=9
 ·subst e9;exact kZ (j:=9) (by decide) rfl (fun _=>rfl) (fun _=>rfl) (fun _=>rfl) T.dy.kp (by decide) (mi T) T.qS (fun _ _=>rfl) h ha
 by_cases e10:p=10
 ·subst e10;exact OJ (j:=10) (by decide) rfl rfl rfl T.Z2.kp (by decide) (kN T) T.mD (fun _=>rfl) h
 by_cases e11:p=11
 ·subst e11;exact OJ (j:=11) (by decide) rfl rfl rfl T.Z3.kp (by decide) (kO T) T.mE (fun _=>rfl) h
 by_cases e12:p=12
 ·subst e12;exact kZ (j:=12) (by decide) rfl (fun _=>rfl) (fun _=>rfl) (fun _=>rfl) T.ju.kp (by decide) (rH T) T.uP (fun _ _=>rfl) h ha
 by_cases e13:p=13
 ·subst e13;exact rO T B h ha
 by_cases e14:p=14
 ·subst e14;exact OJ (j:=14) (by decide) rfl rfl rfl T.jv.kp (by decide) (rJ T) T.uQ (fun _=>rfl) h
 by_cases e15:p=15
 ·subst e15;exact OJ (j:=15) (by decide) rfl rfl rfl T.d5.kp (by decide) (mj T) T.qU (fun _=>rfl) h
 by_cases e16:p=16
 ·subst e16;exact OJ (j:=16) (by decide) rfl rfl rfl T.d6.kp (by decide) (ml T) T.qV (fun _=>rfl) h
 by_cases e17:p=17
 ·subst e17;exact OJ (j:=17) (by decide) rfl rfl rfl T.jw.kp (by decide) (rM T B) T.uR (fun _=>rfl) h
 by_cases e18:p=18
 ·subst e18;exact OJ (j:=18) (by decide) rfl rfl rfl T.jx.kp (by decide) (rN T) T.uS (fun _=>rfl) h
 by_cases e19:p=19
 ·subst e19;exact OJ (j:=19) (by decide) rfl rfl rfl T.d7.kp (by decide) (mq T) T.qW (fun _=>rfl) h
 by_cases e20:p=20
 ·subst e20;exact OJ (j:=20) (by decide) rfl rfl rfl T.Z5.kp (by decide) (kW T) T.mG (fun _=>rfl) h
 by_cases e21:p=21
 ·subst e21;exact OJ (j:=21) (by decide) rfl rfl rfl T.Z6.kp (by decide) (kQ T) T.mH (fun _=>rfl) h
 by_cases e22:p=22
 ·subst e22;exact kZ (j:=22) (by decide) rfl (fun _=>rfl) (fun _=>rfl) (fun _=>rfl) T.d8.kp (by decide) (mx T B) T.qX (fun _ _=>rfl) h ha
 by_cases e23:p=23
 ·subst e23;exact kZ (j:=23) (by decide) rfl (fun _=>rfl) (fun _=>rfl) (fun _=>rfl) T.Wq.kp (by decide) (gy T) T.jy (fun _ _=>rfl) h ha
 by_cases e24:p=24
 ·subst e24;exact OJ (j:=24) (by decide) rfl rfl rfl T.RZ.kp (by decide) (aO T) T.bS (fun _=>rfl) h
 by_cases e25:p=25
 ·subst e25;exact kZ (j:=25) (by decide) rfl (fun _=>rfl) (fun _=>rfl) (fun _=>rfl) T.d9.kp (by decide) (mr T) T.qY (fun _ _=>rfl) h ha
 by_cases e26:p=26
 ·subst e26;exact kZ (j:=26) (by decide) rfl (fun _=>rfl) (fun _=>rfl) (fun _=>rfl) T.eA.kp (by decide) (mw T) T.qZ (fun _ _=>rfl) h ha
 by_cases e27:p=27
 ·subst e27;exact OJ (j:=27) (by decide) rfl rfl rfl T.jz.kp (by decide) (rK T) T.uT (fun _=>rfl) h
 by_cases e28:p=28
 ·subst e28;exact OJ (j:=28) (by decide) rfl rfl rfl T.dz.kp (by decide) (mv T) T.qT (fun _=>rfl) h
 by_cases e29:p=29
 ·subst e29;exact OJ (j:=29) (by decide) rfl rfl rfl T.Z0.kp (by decide) (kU T) T.mB (fun _=>rfl) h
 by_cases e30:p=30
 ·subst e30;exact OJ (j:=30) (by decide) rfl rfl rfl T.Z1.kp (by decide) (kR T) T.mC (fun _=>rfl) h
 exfalso
 have hs:Bp p=none:=by
  unfold Bp;rw[if_neg e0,if_neg e1,if_neg e2,if_neg e3,if_neg e4,if_neg e5,if_neg e6,if_neg e7,if_neg e8,if_neg e9,if_neg e10,if_neg e11,if_neg e12,if_neg e13,if_neg e14,if_neg e15,if_neg e16,if_neg e17,if_neg e18,if_neg e19,if_neg e20,if_neg e21,if_neg e22,if_neg e23,if_neg e24,if_neg e25,if_neg e26,if_neg e27,if_neg e28,if_neg e29,if_neg e30]
 simp only[EV]at h;rw[hs]at h;cases h
end
open PySem PySem.Spec PyProof.Rows L2
def IW(l:List Nat):List Int:=l.map fun (n:Nat)=>(n:Int)
theorem eQ(l:List Nat)(i:Nat):(IW l).drop i=IW (l.drop i):=by unfold IW;rw[h8]
theorem xR(l:List Nat):(IW l).map Hx=l:=by
 unfold IW;rw[Dd]
 have:(Hx ∘ fun (n:Nat)=>(n:Int))=id:=funext fun n=>A8 n
 rw[this,List.map_id]
theorem Vw(l:List Nat):(IW l).map V.int=nums l:=by unfold IW nums;rw[Dd];rfl
theorem big{n:Nat}(h:n<=10000000):n<=sizeLine:=AY h (by decide)
theorem AAA{K:AE}{H H':Hp}{a:Addr}{xs:List V}(h:Bq K H a xs)(f:∀D o,(∀q,o≠.Jt q)->H D=some o->H' D=some o):Bq K H' a xs:=by
 rcases h with (h|⟨o,h⟩)|h
 ·exact .inl (.inl (f _ _ (fun q z=>nomatch z) h))
 ·exact .inl (.inr ⟨o,f _ _ (fun q z=>nomatch z) h⟩)
 ·exact .inr h
section
variable {P:Program} {w:World} {K:AE} {mg:Str->Option Value} {base:Heap} {t:HU}
def Na(K:AE)(t:HU):Sp:=fun vs H Q _=>∃(ca:Addr) (ln:List Nat),vs=[.ref ca]/\Bq K H ca (nums ln)/\ln.length<=9000/\Sb t H/\Hz (IW ln)=true /\
 ∀(H':Hp) (p:Addr),H' p=some (.lst ((Fi (IW ln)).map V.int))->(∀D o,(∀q,o≠.Jt q)->H D=some o->H' D=some o)->Sb t H'->Q (.ref p) H'
def Lp(t:HU)(G:Addr->Prop)(H H':Hp)(ca sa gb:Addr)(ln:List Nat)(i:Nat):Prop:=∃(d:Dk) (s:Mq) (cs:List (List (List Int))) (f:Nat) (out:List Int),
 i<=ln.length/\E6 Bp f (IW (ln.drop i))=some cs/\(cs.map CF).all Ce=true/\HV s (cs.map CF)=true/\Rs s d/\E7 d/\FQ t G H' sa d/\H' gb=some (.lst (out.map V.int)) /\
  out++QU (Rh B2 s (cs.map CF))=Fi (IW ln)/\(∀D o,(∀q,o≠.Jt q)->H D=some o->H' D=some o)
theorem m6(T:Txt K mg t)(B:U4 mg base):Bv P w K mg base EE 9 t.Mb t.Qm MN (Na K t):=by
 refine T.qd.ok GS (fun vs H Q E h=>?_) (fun cdv A outer s H vs Q E hr h=>?_)
 ·obtain ⟨ca,ln,rfl,_⟩:=h;rfl
 ·obtain ⟨ca,ln,rfl,hca,hln,hT,hask,k⟩:=h;obtain ⟨cs0,hc0,ha0,hm0,he0,hz0⟩:=tE hask;refine ⟨_,(AH (BF (i:=1) GS.nd rfl (Ai rfl) (tS T.uU (bo T) (hr.mono (by decide)) rfl T.xH T.gT .nil Ay)) (AH (BF (i:=2) GS.nd rfl (Ai rfl) (BM AD)) (AH (BF (i:=3) GS.nd rfl (Ai rfl) BG) (AH (YT Bg (Cy YX (pv 3) (Ba A4 (by rfl) T.C7 An (AA (pv 0) AD)) (C6 _)) (AH (BF (i:=4) GS.nd rfl (Ai rfl) (Aj (mz T) (hr.mono (by decide)) rfl T.qg T.eB.kp T.qf .nil Ay (AA (BU Be (pv 0) (pv 3) (fun _ _=>rfl)) AD))) (AH (BF (i:=5) GS.nd rfl (Ai rfl) (Aj (aR T) (hr.mono (by decide)) rfl T.bW T.Rc.kp T.bV .nil Ay (AA (pv 0) (AA (pv 3) (AA (pv 4) AD))))) (AH (BF (i:=6) GS.nd rfl (Ai rfl) (uC (BU CU (pv 4) BG (fun _ _=>rfl)) (AA (pv 1) (AA (Aj (Vu T) (hr.mono (by decide)) rfl T.XM T.N2.kp T.XJ .nil Ay (AA (pv 0) (AA (pv 3) (AA (pv 5) (AA (pv 4) AD))))) AD)))) (AH (Cw (JZ BQ CO CP Gk (pv 2) (AA (Ba A4 (by rfl) T.C7 An (AA (pv 6) AD)) AD))) (AH (Cw (JZ BQ E9 FA MC (pv 2) (AA (pv 6) AD))) (AM (BF (i:=3) GS.nd rfl (Ai rfl) (pv 5))))))))) (AM (Am (pv 2))))))),?_⟩;refine fun sa dx nsa ndx ne=>?_
  have s0:Aw H (upd (upd H dx (.own sa)) sa (.ins t.BV dx [])):=fun b o e=>by
   rw[A2 (Af e nsa),A2 (Af e ndx)];exact e
  refine ⟨sa,dx,rfl,AK,hT.same s0,fun H1 hs1 sx1=>⟨rfl,?_⟩⟩;have hG0:∀D,(∃o,H D=some o)->D≠sa/\∃o,(upd (upd H dx (.own sa)) sa (.ins t.BV dx [])) D=some o:=fun D ⟨o,e⟩=>⟨Af e nsa,o,s0 _ _ e⟩
  have st1:=hs1 (fun D=>∃o,H D=some o) hG0;have f1:∀D o,H D=some o->H1 D=some o:=fun D o e=>sx1 _ _ (Af e nsa) (s0 _ _ e)
  clear hs1 sx1;refine ⟨Bb _,fun gb hgb=>?_⟩;have st2:=st1.grow (o:=.lst []) hgb;have f2:∀D o,H D=some o->(upd H1 gb (.lst [])) D=some o:=fun D o e=>(As hgb) _ _ (f1 D o e)
  have g2:(upd H1 gb (.lst [])) gb=some (.lst (([]:List Int).map V.int)):=AK;revert st2 f2 g2;generalize upd H1 gb (.lst [])=H2;intro st2 f2 g2;refine ⟨fun m σ H'=>∃(i:Nat) (v4 v5 v6:Option V),m=ln.length-i/\σ=[some (.ref ca),some (.ref sa),some (.ref gb),some (vN i),v4,v5,v6]/\Lp t (fun x=>(∃o,H x=some o)\/x=gb) H H' ca sa gb ln i,⟨_,0,none,none,none,rfl,rfl,opened 0,_,cs0,_,[],Bb _,hc0,ha0,hm0,ACG,b9 (by omega),st2,g2,he0.symm,fun D o _ e=>f2 D o e⟩,?_⟩;rintro m σ H' ⟨i,v4,v5,v6,rfl,rfl,d,sp,cs,f,out,hi,hc,ha,hm,R,D,hst,hgb',he,hfr⟩;have hca':Bq K H' ca (nums ln):=AAA hca hfr;refine ⟨_,rfl,_,rfl,ca,_,rfl,.inl hca',_,_,rfl,rfl,_,rfl,?_⟩;rw[Bf,dec_lt]
  by_cases c0:i<ln.length
  case neg =>
   rw[decide_eq_false c0];refine Cz ⟨_,rfl,k H' gb ?_ hfr hst.tabs⟩;have ed:ln.drop i=[]:=ON (by omega);rw[ed]at hc;have ec:=pM hc;subst ec;have ez:out=Fi (IW ln):=by rw[<-he];exact (B1 _).symm
   rw[<-ez];exact hgb'
  rw[decide_eq_true c0];refine Ca ⟨fun σ' H''=>∃m',m'<ln.length-i/\∃(i:Nat) (v4 v5 v6:Option V),m'=ln.length-i/\σ'=[some (.ref ca),some (.ref sa),some (.ref gb),some (vN i),v4,v5,v6]/\Lp t (fun x=>(∃o,H x=some o)\/x=gb) H H'' ca sa gb ln i,fun _ _ h=>h,?_⟩;have ed:ln.drop i=ln[i]::ln.drop (i+1):=L1 c0;have hget:ln[i]?=some ln[i]:=A5 c0;rw[ed]at hc;revert hget hc;generalize ln[i]=pj;intro hc hget;obtain ⟨c,tl,cs',f',hc1,hc2,rfl⟩:=lD (p:=(pj:Int)) (r:=IW (ln.drop (i+1))) hc;rw[Az,JC,BB]at ha;rw[Az]at hm he;obtain ⟨j,n,kk,b,fa',fd,ps,mk,x,ej,hrow,hn2,hpar,hwh,hco,hkp,hk8,hF,hmk,hbi,hgv1,hgv2⟩:=callee (P:=P) (w:=w) (base:=base) T B hc1 ha.1;have ej:pj=j:=by omega
  subst ej;rw[hwh]at hm he;obtain ⟨hm1,hm2⟩:=tD hm;obtain ⟨hst1,hst2⟩:=wG R hco hm1;obtain ⟨fa,hfa,hform⟩:=CJ (xQ T) hrow;have hform:Form K fa (.ref fa') n b:=hform;refine ⟨_,rfl,_,rfl,ca,_,_,_,rfl,rfl,hca',CQ hget,pj,fa,rfl,hfa,fun H3 s3=>?_⟩;have call:∀(e:Nat) (tln:List Nat) (H4:Hp) (ga:Addr) (gs:List V) (Qa:VK),Aw H' H4->tl=IW (ln.drop e)->i<e->e<=ln.length->H4 ga=some (.lst gs)->z9 H4 x gs ->
    (∀(an:Addr) (H5:Hp) (d':Dk),Wz (fun x=>(∃o,H x=some o)\/x=gb) H4 H5->FQ t (fun x=>(∃o,H x=some o)\/x=gb) H5 sa d'->E7 d'->(Ag d.AU x).1=d'.AU->H4 an=none->H5 an=some (.lst ((JW (Ag d.AU x).2).map V.int))->Qa (.ref an) H5) ->
    ∃(k:Nat) (fd:FuncData) (ps:List Str) (sp:Sp),Bv P w K mg base EE k fa' fd ps sp/\GB k (A.deeper (envOfC "answers" (AO VC) s.heap.objs.size t.Mb cdv))/\Binds K fd ps []/\sp [.ref sa,.ref ga] H4 Qa E0:=by
   intro e tln H4 ga gs Qa s4 _ _ _ hga hgv kq;exact ⟨kk,fd,ps,_,hF,hr.mono hk8,hbi,sa,ga,d,x,gs,_,hmk,rfl,hst.same s4,D,hga,hgv,kq⟩
  have fin:∀(e:Nat) (H4:Hp),Aw H' H4->tl=IW (ln.drop e)->i<e->e<=ln.length->∀(an:Addr) (H5:Hp) (d':Dk),Wz (fun x=>(∃o,H x=some o)\/x=gb) H4 H5->FQ t (fun x=>(∃o,H x=some o)\/x=gb) H5 sa d'->E7 d'->(Ag d.AU x).1=d'.AU->H4 an=none->H5 an=some (.lst ((JW (Ag d.AU x).2).map V.int)) ->
    Lp t (fun x=>(∃o,H x=some o)\/x=gb) H (upd (upd H5 gb (.lst (out.map V.int++[V.int (((JW (Ag d.AU x).2).map V.int).length:Int)]))) gb (.lst (out.map V.int++[V.int (((JW (Ag d.AU x).2).map V.int).length:Int)]++(JW (Ag d.AU x).2).map V.int))) ca sa gb ln e /\
     H5 gb=some (.lst (out.map V.int))/\an≠gb/\out.length+(1+(JW (Ag d.AU x).2).length)<=10000000:=by
   intro e H4 s4 etl hie hel an H5 d' sg hs5 D5 e5 han hans;have hgb4:=s4 _ _ hgb';have hgb5:H5 gb=some (.lst (out.map V.int)):=sg gb _ (.inr rfl) (fun q z=>nomatch z) hgb4;have hne:an≠gb:=fun z=>by rw[z,hgb4]at han;cases han
   have ep:Rh B2 sp (c::cs'.map CF)=JW (Ag d.AU x).2::Rh B2 (B2 sp c).1 (cs'.map CF):=by
    show (B2 sp c).2::_=_;rw[hst1]
   rw[ep,pN]at he;have hlen:out.length+(1+(JW (Ag d.AU x).2).length)<=10000000:=by
    have:=congrArg HW he
    rw[Ab,Ab,BC]at this;omega
   refine ⟨⟨d',(B2 sp c).1,cs',f',out++((JW (Ag d.AU x).2).length:Int)::JW (Ag d.AU x).2,hel,by rw[<-etl];exact hc2,ha.2,hm2,hst2 d' e5,D5,?_,?_,?_,?_⟩,hgb5,hne,hlen⟩
   ·exact (hs5.put (.inr rfl) hgb5).put (.inr rfl) AK
   ·rw[AK,AB,BS,CY];rfl
   ·rw[CY];exact he
   ·intro Dx o ho eo;have ne1:Dx≠gb:=fun z=>by
     have:=hst
     rw[z]at eo
     have:=f1 _ _ eo
     rw[hgb]at this;cases this
    rw[A2 ne1,A2 ne1];exact sg Dx o (.inl ⟨o,eo⟩) ho (s4 _ _ (hfr Dx o ho eo))
  have hca3:=s3.seq hca';obtain ⟨as,r',er,el,hq⟩:=hpar;have eas:as=IW ((ln.drop (i+1)).take n):=by
   have:=congrArg (iD n) er
   rw[List.take_left' el]at this;rw[<-this];unfold IW;rw[JB]
  have er':r'=IW (ln.drop (i+1+n)):=by
   have:=congrArg (List.drop n) er
   rw[List.drop_left' el]at this;rw[<-this,eQ,xo]
  have hlen1:i+1+n<=ln.length:=by
   have:=congrArg HW er
   rw[Ab,el]at this;unfold IW at this;rw[AB,Ef]at this;omega
  refine ⟨_,rfl,_,rfl,_,rfl,ca,fa,i,n,.ref fa',b,ln,rfl,hca3,hform,fun hb=>?_,fun hb=>?_⟩
  ·subst hb;rcases hq with ⟨_,etl,ec⟩|⟨hb,_⟩
   case inr=>cases hb
   rw[er']at etl;have hie:i<i+1+n:=by omega
   have hel:=hlen1;refine ⟨_,rfl,fa,_,_,_,rfl,rfl,hform _,at_of (j:=0) rfl rfl,fa',rfl,hkp,_,rfl,_,rfl,_,rfl,_,rfl,_,rfl,ca,fa,i,i+1+n,n,.ref fa',false,ln,rfl,hca3,hform,hn2,(fun _ ga H4 s4 hga=>?_),(fun hb=>nomatch hb)⟩;have hgiv:=hgv1 as H4 rfl ec;rw[eas,Vw]at hgiv;refine call (i+1+n) [] H4 ga _ _ (s3.trans s4) etl hie hel hga hgiv fun an H5 d' sg hs5 D5 e5 han hans=>?_
   obtain ⟨lp,hgb5,hne,hlen⟩:=fin (i+1+n) H4 (s3.trans s4) etl hie hel an H5 d' sg hs5 D5 e5 han hans;refine ⟨_,rfl,.inl ⟨rfl,_,Bq.of hgb5⟩,_,rfl,an,_,rfl,.inl (Bq.of hans),gb,_,_,rfl,rfl,hgb5,?_,?_⟩
   ·rw[AB];exact A9 (show out.length<10000000 by omega) (big (AV _))
   refine ⟨_,rfl,.inl ⟨rfl,_,Bq.of AK⟩,_,rfl,gb,an,_,_,rfl,rfl,AK,(by rw[A2 hne];exact hans),?_,?_⟩
   ·rw[Ab,AB,AB];exact big (by show out.length+1+_<=_;omega)
   exact ⟨_,rfl,_,by omega,i+1+n,_,_,_,rfl,rfl,lp⟩
  ·subst hb;rcases hq with ⟨hb,_⟩|⟨_,m,r2,e2,hm0,hm1,etl,ec⟩
   case inl=>cases hb
   have hlt:i+1+n<ln.length:=by
    rw[er']at e2
    have:=congrArg HW e2
    unfold IW at this;rw[AB,Ef,BC]at this;omega
   have ed2:ln.drop (i+1+n)=ln[i+1+n]::ln.drop (i+1+n+1):=L1 hlt;have hg2:ln[i+1+n]?=some ln[i+1+n]:=A5 hlt;rw[er',ed2]at e2;revert hg2 e2;generalize ln[i+1+n]=mm;intro e2 hg2;have e2:(mm:Int)::IW (ln.drop (i+1+n+1))=m::r2:=e2;injection e2 with em er2
   subst em er2;rw[A8]at hm1 etl ec;have hl2:(IW (ln.drop (i+1+n+1))).length=ln.length-(i+1+n+1):=by unfold IW;rw[AB,Ef]
   rw[hl2]at hm1;have etl:tl=IW (ln.drop (i+1+n+(1+mm))):=by rw[etl,eQ,xo];congr 2;omega
   have hie:i<i+1+n+(1+mm):=by omega
   have hel:i+1+n+(1+mm)<=ln.length:=by omega
   refine ⟨mm,hg2,?_⟩;refine ⟨_,rfl,fa,_,_,_,rfl,rfl,hform _,at_of (j:=0) rfl rfl,fa',rfl,hkp,_,rfl,_,rfl,_,rfl,_,rfl,_,rfl,ca,fa,i,i+1+n+(1+mm),n,.ref fa',true,ln,rfl,hca3,hform,hn2,(fun hb=>nomatch hb),(fun _ ga ra H4 s4 hra hga=>?_)⟩;have hgiv:=hgv2 as _ H4 ra rfl ec (by
    have e3:i+1+n+(1+mm)-(i+1+n+1)=mm:=by omega
    rw[e3]at hra;have e4:(iD mm (IW (ln.drop (i+1+n+1)))).map Hx=(ln.drop (i+1+n+1)).take mm:=by
     rw[JB,xR]
    rw[e4];exact hra)
   rw[eas,Vw]at hgiv;refine call (i+1+n+(1+mm)) [] H4 ga _ _ (s3.trans s4) etl hie hel hga hgiv fun an H5 d' sg hs5 D5 e5 han hans=>?_
   obtain ⟨lp,hgb5,hne,hlen⟩:=fin (i+1+n+(1+mm)) H4 (s3.trans s4) etl hie hel an H5 d' sg hs5 D5 e5 han hans;refine ⟨_,rfl,.inl ⟨rfl,_,Bq.of hgb5⟩,_,rfl,an,_,rfl,.inl (Bq.of hans),gb,_,_,rfl,rfl,hgb5,?_,?_⟩
   ·rw[AB];exact A9 (show out.length<10000000 by omega) (big (AV _))
   refine ⟨_,rfl,.inl ⟨rfl,_,Bq.of AK⟩,_,rfl,gb,an,_,_,rfl,rfl,AK,(by rw[A2 hne];exact hans),?_,?_⟩
   ·rw[Ab,AB,AB];exact big (by show out.length+1+_<=_;omega)
   exact ⟨_,rfl,_,by omega,i+1+n+(1+mm),_,_,_,rfl,rfl,lp⟩
end
open PySem PySem.Spec PyProof.Rows L2
def Hw(H:Hp)(T1 T2:Addr):Hp:=fun b=>if b=T1\/b=T2 then some (.Jt #[]) else H b
section
variable {H:Hp} {T1 T2:Addr}
theorem xS:Hw H T1 T2 T1=some (.Jt #[]):=if_pos (.inl rfl)
theorem xT:Hw H T1 T2 T2=some (.Jt #[]):=if_pos (.inr rfl)
theorem eR{b:Addr}{o:HO}(h1:H T1=none)(h2:H T2=none)(e:H b=some o):Hw H T1 T2 b=some o:=by
 unfold Hw;rw[if_neg]
 ·exact e
 ·rintro (z|z)
  ·rw[z,h1]at e;cases e
  ·rw[z,h2]at e;cases e
theorem UX{b:Addr}{o:HO}(e:Hw H T1 T2 b=some o):((b=T1\/b=T2)/\o=.Jt #[])\/H b=some o:=by
 unfold Hw at e
 by_cases h:b=T1\/b=T2
 ·rw[if_pos h]at e;exact .inl ⟨h,(Al e).symm⟩
 ·rw[if_neg h]at e;exact .inr e
end
theorem vC{K:AE}{H H':Hp}{a:Addr}{xs:List V}(s:Aw H H')(h:DR K H a xs):DR K H' a xs:=by
 rcases h with (h|⟨o,h⟩)|h
 ·exact .inl (.inl (s _ _ h))
 ·exact .inl (.inr ⟨o,s _ _ h⟩)
 ·exact .inr h
mutual
theorem xU{K:AE}{H H':Hp}(s:Aw H H'):∀{v:V} {d:vJ},Dw K H v d->Dw K H' v d
 |_,_,.Ft=>.Ft
 |_,_,.bl b=>.bl b
 |_,_,.int i=>.int i
 |_,_,.str z=>.str z
 |_,_,.a9 b=>.a9 b
 |_,_,.lst h hs=>.lst (s.seq h) (Nc s hs)
 |_,_,.tup h hs=>.tup (vC s h) (Nc s hs)
theorem Nc{K:AE}{H H':Hp}(s:Aw H H'):∀{vs:List V} {ds:List vJ},LA K H vs ds->LA K H' vs ds
 |_,_,.nil=>.nil
 |_,_,.cons a b=>.cons (xU s a) (Nc s b)
end
open PySem.W in
theorem m7{P:Program}{w:World}{K:AE}{mg mb:Str->Option Value}{k:Nat}{fa:Addr}{fd:FuncData}{ps:List Str}{sp:Sp}{s₁:Shared}{vals:List Value}{ds:List WData}{R:ou}{cl:Str->Option Addr}{d0:WData}{c1 c2 T1 T2:Addr}
  (KX:K.In s₁.heap) (hns:s₁.heap.Ns mainGlobals mg) (hb:s₁.heap.Ns builtinsNs mb) (hbb:∀x:Str,x ≠ "__name__" -> mb x=bootBuiltins x) (hlim:s₁.heap.NoLimit) (hg:s₁.gens=#[])
  (t1:J1 s₁.heap c1 T1/\s₁.heap.get? T1=some (OW #[])) (t2:J1 s₁.heap c2 T2/\s₁.heap.get? T2=some (OW #[])) (hnt:PySem.W.noTabs K=true) (bm:U4 mg s₁.heap)
  (hwl:WellAll w.params s₁.heap vals ds) (hpl:XA ds=true) (hwt:∀d∈ds,d.weight<=1048576) (hr:GB k callerA)
  (F:∀base:Heap,K.In base->base.Ns mainGlobals mg->U4 mg base->Bv P w K mg base EE k fa fd ps sp) (hbind:BindsTo s₁ fd ⟨vals,[]⟩ (ps.zip vals))
  (hsp:∀(H:Hp) (xs:List V),(∀b,H b=none\/(∃o u,H b=some (.YK o u))\/H b=some (.Jt #[]))->H T1=some (.Jt #[])->H T2=some (.Jt #[])->LA K H xs ds->sp xs H (fun v H'=>Dw K H' v d0) fun _ _ _=>False)
  (hCX:∀H e s',EE [] H s₁ (fun _ _ _=>False) e s'->False) :
  codeAny (model P w) callerA (.call (.ref fa) ⟨vals,[]⟩) (fun r s'=>∃u as,r=.ok (.ret u)/\ReadsW R cl s'.heap u d0 as/\OldK s₁.heap s'.heap/\s'.os=s₁.os/\AllBare s'.gens) s₁:=by
 obtain ⟨A,ho,ar⟩:=Ti ds vals hwl hpl hwt;have hV:=ME ho;have hS0:=fw KX ar ds vals hwl hpl ho;have kT:∀{T:Addr},s₁.heap.get? T=some (tabObj #[])->K.lookup T=none:=by
  intro T e;cases q:K.lookup T with
  |none=>rfl
  |some o =>
   have e2:=KX T o q;rw[e]at e2;have h2:=Bc.mp hnt (T,o) (mem_of_lookupK q);cases e2;exact absurd (show false=true from h2) AZ
 have aT:∀{T:Addr},s₁.heap.get? T=some (tabObj #[])->IM K s₁.heap A T=none:=by
  intro T e;cases q:IM K s₁.heap A T with
  |none=>rfl
  |some u =>
   obtain ⟨_,vs,_,_,⟨e2,_⟩|⟨e2,_⟩⟩:=Qh ar q
   ·rw[e2]at e;cases e
   ·rw[e2]at e;cases e
 have a1:=aT t1.2;have a2:=aT t2.2;have sW:Aw (IM K s₁.heap A) (Hw (IM K s₁.heap A) T1 T2):=fun b o e=>eR a1 a2 e
 have hO:∀b,Hw (IM K s₁.heap A) T1 T2 b=none\/(∃o u,Hw (IM K s₁.heap A) T1 T2 b=some (.YK o u))\/Hw (IM K s₁.heap A) T1 T2 b=some (.Jt #[]):=by
  intro b
  by_cases h:b=T1\/b=T2
  ·exact .inr (.inr (if_pos h))
  ·rcases px ar b with z|⟨o,u,z⟩
   ·exact .inl (by unfold Hw;rw[if_neg h];exact z)
   ·exact .inr (.inl ⟨o,u,eR a1 a2 z⟩)
 have C2:L3 P w (Hw (IM K s₁.heap A) T1 T2) s₁.heap:=by
  intro b o e;rcases UX e with ⟨rfl|rfl,rfl⟩|e0
  ·exact t1.2
  ·exact t2.2
  ·obtain ⟨_,vs,h1,h2,⟨e1,rfl⟩|⟨e1,rfl⟩⟩:=Qh ar e0
   ·exact ⟨e1,by rw[AB];exact h1,vs,_,ME h2,e1⟩
   ·exact ⟨e1,by rw[AB];exact h1,vs,ME h2,_,e1,rfl,⟨_,rfl⟩,rfl⟩
 have hS:=Nc sW hS0;have hK:∀b u,Hw (IM K s₁.heap A) T1 T2 b=some u->K.lookup b=none:=fun b u q=>by
  rcases UX q with ⟨rfl|rfl,_⟩|q
  ·exact kT t1.2
  ·exact kT t2.2
  ·exact (Qh ar q).1
 have noA:∀{b:Addr} {o:Obj},s₁.heap.get? b=some o->(∀vs n,o.data≠.seq vs n)->(∀vs,o.data≠.fields vs)->Hw (IM K s₁.heap A) T1 T2 b=none:=fun {b o} e d1 d2=>by
  cases q:Hw (IM K s₁.heap A) T1 T2 b with
  |none=>rfl
  |some u =>
   rcases UX q with ⟨rfl|rfl,_⟩|q
   ·rw[t1.2]at e;cases e;exact absurd rfl (d2 _)
   ·rw[t2.2]at e;cases e;exact absurd rfl (d2 _)
   ·obtain ⟨_,vs,_,_,⟨e2,_⟩|⟨e2,_⟩⟩:=Qh ar q
    ·rw[e2]at e;cases e;exact absurd rfl (d1 _ _)
    ·rw[e2]at e;cases e;exact absurd rfl (d1 _ _)
 have w1:Hw (IM K s₁.heap A) T1 T2 T1=some (.Jt #[]):=xS;have w2:Hw (IM K s₁.heap A) T1 T2 T2=some (.Jt #[]):=xT;have hT:∀b,Hw (IM K s₁.heap A) T1 T2 b=some (.Jt #[])->b=T1\/b=T2:=fun b q=>by
  rcases UX q with ⟨h,_⟩|q
  ·exact h
  ·obtain ⟨_,vs,_,_,⟨_,e2⟩|⟨_,e2⟩⟩:=Qh ar q<;>cases e2
 generalize Hw (IM K s₁.heap A) T1 T2=H at hO C2 hS hK noA w1 w2 hT;have base_of:∀{b:Addr} {o:Obj},s₁.heap.get? b=some o->H b=none->(bA s₁.heap H).get? b=some o:=fun e n=>tF e n
 have nsK:∀{b:Addr} {m:Str->Option Value},s₁.heap.Ns b m->(bA s₁.heap H).Ns b m:=fun {b m} ⟨o,es,ep,e,d,r⟩=>⟨o,es,ep,base_of e (noA e (fun _ _ z=>by rw[d]at z;cases z) (fun _ z=>by rw[d]at z;cases z)),d,r⟩
 have nK:∀b o,K.lookup b=some o->H b=none:=fun b o e=>by
  cases q:H b with
  |none=>rfl
  |some u =>
   rw[hK b u q]at e;cases e
 have hKb:K.In (bA s₁.heap H):=fun b o e=>base_of (KX b o e) (nK b o e)
 have hM:Mod K mg (bA s₁.heap H):=⟨hKb,nsK hns,⟨mb,nsK hb,hbb⟩,let ⟨mc,h1,h2⟩:=hlim;⟨mc,nsK h1,h2⟩⟩;have hB:U4 mg (bA s₁.heap H):=by
  obtain ⟨b,o,h1,h2,h3,h4,h5,h6⟩:=bm;exact ⟨b,o,h1,h2,base_of h3 (noA h3 (fun _ _ z=>by rw[h6]at z;cases z) (fun _ z=>by rw[h6]at z;cases z)),h4,h5,h6⟩
 have e0:MA P w K mg (bA s₁.heap H) callerA [] s₁ H:=⟨rfl,hM,fun b o e=>wI e,W5 (pQ _ _),trivial,fun b hb=>absurd (show b∈([]:List Addr) from hb) (by simp),C2,.of_eq hg⟩;refine L6 ((F _ hKb (nsK hns) hB).run callerA [] s₁ H ⟨vals,[]⟩ vals (vals.map toV) _ _ hr e0 hbind hV (hsp H _ hO w1 w2 hS)) fun r s' x=>?_
 cases r with
 |error e=>exact (hCX H e s' x).elim
 |ok fl =>
  cases fl with
  |next=>exact C8 x
  |brk=>exact C8 x
  |cont=>exact C8 x
  |ret u =>
   obtain ⟨v,H',os,bare,un,hok',r',q⟩:=x;have kept:∀b o,s₁.heap.get? b=some o->¬(b=T1\/b=T2)->s'.heap.get? b=some o:=fun b o e hb=>by
    rcases hO b with q2|⟨ob,u3,z⟩|z
    ·exact un.keep b o e q2 (by intro z;exact absurd (show b∈([]:List Addr) from z) (by simp)) (by simp)
    ·have z2:=un.TM b ob _ z;obtain ⟨e1,_⟩:=C2 b _ z;obtain ⟨e2,_⟩:=hok' b _ z2;rw[e]at e1;cases e1;exact e2
    ·exact absurd (hT b z) hb
   have grown:∀b o,(b=T1\/b=T2)->s₁.heap.get? b=some o->isCodeTable s₁.heap b/\o=tabObj #[]/\∃ps,s'.heap.get? b=some (tabObj ps):=by
    intro b o hb e;have hw:H b=some (.Jt #[]):=by rcases hb with rfl|rfl<;>assumption
    obtain ⟨more,e2⟩:=un.TQ b _ hw;have e3:s'.heap.get? b=some { cls:=.none,data:=.fields (#[]++more) }:=hok' b _ e2;rcases hb with rfl|rfl
    ·exact ⟨(t1.1.tab t1.2).isCodeTable,Al (e.symm.trans t1.2),_,e3⟩
    ·exact ⟨(t2.1.tab t2.2).isCodeTable,Al (e.symm.trans t2.2),_,e3⟩
   have KX':K.In s'.heap:=fun b o e=>kept b o (KX b o e) (by
    rintro (rfl|rfl)
    ·rw[kT t1.2]at e;cases e
    ·rw[kT t2.2]at e;cases e)
   obtain ⟨as,hrd⟩:=Dw.reads (R:=R) (cl:=cl) hok' KX' d0 v u q r';refine ⟨u,as,rfl,hrd,⟨fun b o e=>?_,fun b o e=>?_⟩,os,bare⟩
   ·by_cases hb:b=T1\/b=T2
    ·obtain ⟨ht,rfl,ps,hP⟩:=grown b o hb e;exact .inr (.inl ⟨ht,rfl,#[],ps,rfl,by rw[Array.empty_append];exact hP⟩)
    ·exact .inl (kept b o e hb)
   ·by_cases hb:b=T1\/b=T2
    ·obtain ⟨_,_,ps,hP⟩:=grown b o hb e;exact ⟨_,hP⟩
    ·exact ⟨o,kept b o e hb⟩
open PySem.W in
theorem AAB{r:OpenSpec}{q:Program}{loose:List Str}{XP:(Str->Option Value)->Heap->Prop}{YP:World->Heap->Prop}{d d1 d2:DefRec}{K:Params->AE}
  (hwell:r.wellSaid=true) (hdf:d.params.defaults=[]) (hlen:r.args.length=MN.length) (hr:GB 9 callerA)
  (hY:∀(w:World) (h:Heap),YP w h->(K w.params).In h)
  (r1:(recsOf q).find? (fun e=>e.name==("set_that_tells_why" : Str))=some d1) (r2:(recsOf q).find? (fun e=>e.name==("hs_best" : Str))=some d2)
  (F:∀(w:World) (mg:Str->Option Value) (fa:Addr) (h:Heap),YP w h->(K w.params).In h->h.Ns mainGlobals mg->mg d.name=some (.ref fa) ->
   ∃t:HU,Txt (K w.params) mg t/\fa=t.Mb/\noTabs (K w.params)=true/\tabIn (K w.params) "set_that_tells_why" = some (t.EB,t.B8)/\tabIn (K w.params) "hs_best" = some (t.Mc,t.HN))
  (hsp:∀(K:AE) (t:HU) (H:Hp) (xs:List V) (a:Codec.denoteAll r.args),H t.B8=some (.Jt #[])->H t.HN=some (.Jt #[])->Codec.withinAll r.args a=true->Codec.app r.args r.asked a=true->LA K H xs (Codec.encAll r.args a) ->
   Na K t xs H (fun v H'=>Dw K H' v (r.ret.enc (Codec.app r.args r.f a))) fun _ _ _=>False) :
  PySem.W.WalkOS q loose XP YP r d [] (fun f vs=>PySem.call f vs):=by
 intro w bB s₁ mg mb G Y fa o pm cd doc dV kV ho hd hcd hD hmg hg args vals as hpre hlay hrd hwl hlo;obtain ⟨a,e1,e2⟩:=PySem.W.os_pre_some hpre;obtain ⟨e3,hwi⟩:=Codec.encAll_of_decAll r.args args a e1;subst e3;have KX:=hY w _ Y;obtain ⟨t,T,rfl,hnt,ht1,ht2⟩:=F w mg fa _ Y KX G.T.g hmg;have hl:vals.length=MN.length:=by rw[LB hwl,Yl];exact hlen
 have hbi:BindsTo s₁ t.Qm ⟨vals,[]⟩ (MN.zip vals):=by
  have:=T.qe s₁ vals KX (by rw[B1];exact hl)
  rwa [B1]at this
 refine PySem.W.enter_call (L6 (m7 (R:=[]) (cl:=classAt bB.heap) (d0:=r.ret.enc (Codec.app r.args r.f a)) KX G.T.g G.T.b G.T.builtins G.T.nolimit hg (tab_of G.T KX r1 ht1) (tab_of G.T KX r2 ht2) hnt G.T.bmain hwl (cf _ _) (Yk hlay) hr (fun base _ _ B=>m6 T B) hbi
  (fun H xs _ w1 w2 hS=>hsp _ t H xs a w1 w2 hwi e2 hS) fun H e s' z=>z) fun r' s' hq=>?_)
 obtain ⟨u,as',rfl,h1,h2,h3,h4⟩:=hq;exact ⟨.inl ⟨u,_,as',rfl,fun _=>rfl,h1,(OpenSpec.post_iff hwell hwi _ _).mpr rfl,fun z=>Bn (show false=true from z)⟩,h2,h3,h4⟩
open PySem PySem.Spec PyProof.Rows L2
abbrev im{α:Type}{a:α}:α:=a
section
variable {K:AE} {fd:FuncData} {x0 x1 x2 x3 x4:Str}
theorem b1(h:∀a0,bindArgs fd ⟨[a0],[]⟩=pure [(x0,a0)]):Binds K fd [x0] []:=.all fun us hl=>match us,hl with | [a0],_=>h a0
theorem b2(h:∀a0 a1,bindArgs fd ⟨[a0,a1],[]⟩=pure [(x0,a0),(x1,a1)]):Binds K fd [x0,x1] []:=.all fun us hl=>match us,hl with | [a0,a1],_=>h a0 a1
theorem b3(h:∀a0 a1 a2,bindArgs fd ⟨[a0,a1,a2],[]⟩=pure [(x0,a0),(x1,a1),(x2,a2)]):Binds K fd [x0,x1,x2] []:=.all fun us hl=>match us,hl with | [a0,a1,a2],_=>h a0 a1 a2
theorem b4(h:∀a0 a1 a2 a3,bindArgs fd ⟨[a0,a1,a2,a3],[]⟩=pure [(x0,a0),(x1,a1),(x2,a2),(x3,a3)]):Binds K fd [x0,x1,x2,x3] []:=.all fun us hl=>match us,hl with | [a0,a1,a2,a3],_=>h a0 a1 a2 a3
theorem b5(h:∀a0 a1 a2 a3 a4,bindArgs fd ⟨[a0,a1,a2,a3,a4],[]⟩=pure [(x0,a0),(x1,a1),(x2,a2),(x3,a3),(x4,a4)]):Binds K fd [x0,x1,x2,x3,x4] []:=.all fun us hl=>match us,hl with | [a0,a1,a2,a3,a4],_=>h a0 a1 a2 a3 a4
variable {a:Addr} {od:Option Addr} {n:Nat} {sl:Array (Option Value)}
theorem tq3{r0 r1 r2:Addr}(l:K.lookup a=some ⟨.type "tuple",od,.seq #[.ref r0,.ref r1,.ref r2] n,sl⟩):∀H,DR K H a ([r0,r1,r2].map V.ref):=fun H=>.inr ⟨_,_,_,l,rfl,rfl,by show 3<=sizeLine;decide,(.cons rfl (.cons rfl (.cons rfl .nil)))⟩
theorem ACq{r0 r1 r2 r3 r4 r5 r6 r7 r8 r9:Addr}(l:K.lookup a=some ⟨.type "tuple",od,.seq #[.ref r0,.ref r1,.ref r2,.ref r3,.ref r4,.ref r5,.ref r6,.ref r7,.ref r8,.ref r9] n,sl⟩):∀H,DR K H a ([r0,r1,r2,r3,r4,r5,r6,r7,r8,r9].map V.ref):=fun H=>.inr ⟨_,_,_,l,rfl,rfl,by show 10<=sizeLine;decide,(.cons rfl (.cons rfl (.cons rfl (.cons rfl (.cons rfl (.cons rfl (.cons rfl (.cons rfl (.cons rfl (.cons rfl .nil))))))))))⟩
theorem ACr{r0 r1 r2 r3 r4 r5 r6 r7 r8 r9 r10 r11 r12 r13 r14 r15 r16 r17:Addr}(l:K.lookup a=some ⟨.type "tuple",od,.seq #[.ref r0,.ref r1,.ref r2,.ref r3,.ref r4,.ref r5,.ref r6,.ref r7,.ref r8,.ref r9,.ref r10,.ref r11,.ref r12,.ref r13,.ref r14,.ref r15,.ref r16,.ref r17] n,sl⟩):∀H,DR K H a ([r0,r1,r2,r3,r4,r5,r6,r7,r8,r9,r10,r11,r12,r13,r14,r15,r16,r17].map V.ref):=fun H=>.inr ⟨_,_,_,l,rfl,rfl,by show 18<=sizeLine;decide,(.cons rfl (.cons rfl (.cons rfl (.cons rfl (.cons rfl (.cons rfl (.cons rfl (.cons rfl (.cons rfl (.cons rfl (.cons rfl (.cons rfl (.cons rfl (.cons rfl (.cons rfl (.cons rfl (.cons rfl (.cons rfl .nil))))))))))))))))))⟩
theorem tr{f:Addr}{m:Int}{tg:Nat}{b:Bool}(l:K.lookup a=some ⟨.type "tuple",od,.seq #[.ref f,.int m tg,.bool b] n,sl⟩):∀H,DR K H a [.ref f,.int m,.bl b]:=fun H=>.inr ⟨_,_,_,l,rfl,rfl,by show 3<=sizeLine;decide,.cons rfl (.cons ⟨_,rfl⟩ (.cons rfl .nil))⟩
theorem hdk{c p:Addr}{v0 v1 v2 v3 v4 v5 v6 v7 v8 v9 v10 v12 v13 v14 v15 v16 v17 v18:Value}(l:K.lookup c=some ⟨.type "code",od,.fields #[v0,v1,v2,v3,v4,v5,v6,v7,v8,v9,v10,.ref p,v12,v13,v14,v15,v16,v17,v18],sl⟩)(h:IH K c p=true):IH K c p=true:=h
theorem ABi{mg:Str->Option Value}{x:Str}{fa a:Addr}(h:mg x=some (.ref fa))(h2:mg x=some (.ref a)):fa=a:=by
 rw[h]at h2;injection h2 with h2
 injection h2
end
theorem ABj{K:AE}{t:HU}{H:Hp}{L:List Int}{ca:Addr}{Q:VK}{E:XK}(h1:H t.B8=some (.Jt #[]))(h2:H t.HN=some (.Jt #[]))(hs:Bq K H ca (L.map V.int))(hl:L.length<=9000)(hb:L.all (fun z=>decide (0<=z))=true)(ha:Hz L=true)
  (k:∀(H':Hp) (p:Addr),H' p=some (.lst ((Fi L).map V.int))->Q (.ref p) H'):Na K t [.ref ca] H Q E:=by
 have e:IW (L.map Hx)=L:=by
  clear hs hl ha k;unfold IW
  induction L with
  |nil=>rfl
  |cons z L ih =>
   rw[JC,BB]at hb;rw[Az,Az,ih hb.2,Sq (of_decide_eq_true hb.1)]
 refine ⟨ca,L.map Hx,rfl,by rw[<-Vw,e];exact hs,by rw[AB];exact hl,⟨.inl h1,.inl h2⟩,by rw[e];exact ha,fun H' p hp _ _=>k H' p ?_⟩;rw[e]at hp;exact hp
section
open PySem.W
theorem req{K:AE}{t:HU}{H:Hp}{xs:List V}{a:Codec.denoteAll BR.args}(h1:H t.B8=some (.Jt #[]))(h2:H t.HN=some (.Jt #[]))(hwi:Codec.withinAll BR.args a=true)(hask:AB8 BR.args BR.asked a=true)(hx:LA K H xs (Codec.encAll BR.args a)) :
  Na K t xs H (fun v H'=>Dw K H' v (BR.ret.enc (AB8 BR.args BR.f a))) fun _ _ _=>False:=by
 cases hx with
 |cons hx1 hx2 =>
  cases hx2;cases hx1 with
  |lst hs ha =>
   have e:=L2.n9 a.1 _ ha;subst e;have q:((Codec.inLen 0 9000 a.1&&a.1.all (AAN 0 4294967295))&&true)=true:=hwi;rw[BB,BB]at q;refine ABj (L:=a.1) h1 h2 hs (Codec.inNat_iff.mp q.1.1).2 ?_ hask fun H' p hp=>.lst (L2.Bq.of hp) (L2.n8 _)
   refine Bc.mpr fun z hz=>?_
   have:=Bc.mp q.1.2 z hz
   unfold AAN at this;rw[BB]at this;exact this.1
end
end SH
def PySem.W.Fast.tw90343872475197607:Type:=yZ
theorem PySem.W.Fast.te90343872475197607:yZ=PySem.W.Fast.tw90343872475197607:=rfl
def PySem.W.Fast.tw13955064107076116093:Type:=AAv
theorem PySem.W.Fast.te13955064107076116093:AAv=PySem.W.Fast.tw13955064107076116093:=rfl
open PySem PySem.W PyProof.Rows L2 SH
set_option maxRecDepth 100000 in
set_option maxHeartbeats 0 in
theorem PySem.Challenge.cw_studenthouse_s01_answers_holds : PySem.Challenge.rw_studenthouse_s01_answers.Holds := by
 w_on; k_headS; (case hw => exact ⟨[.list [.int 0,.int 0]],by decide +kernel,by decide +kernel⟩)
 k_fillS
 refine AAB (r := BR) (by decide +kernel) rfl rfl ⟨rfl,by decide,by decide⟩ (fun w h Y => kIn_of Y) rfl rfl ?F (fun K t H xs a h1 h2 hwi hask hx => req h1 h2 hwi hask hx)
 intro w mg fa h Y KX G hmg
 refine' ⟨⟨im,im,im,im,im,im,im,im,im,im,im,im,im,im,im,im,im,im,im,im,im,im,im,im,im,im,im,im,im,im,im,im,im,im,im,im,im,im,im,im,im,im,im,im,im,im,im,im,im,im,im,im,im,im,im,im,im,im,im,im,im,im,im,im,im,im,im,im,im,im,im,im,im,im,im,im,im,im,im,im,im,im,im,im,im,im,im,im,im,im,im,im,im,im,im,im,im,im,im,im,im,im,im,im,im,im,im,im,im,im,im,im,im,im,im,im,im,im,im,im,im,im,im,im,im,im,im,im,im,im,im,im,im,im,im,im,im,im,im,im,im,im,im,im,im,im,im,im,im,im,im,im,im,im,im,im,im,im,im,im,im,im,im,im,im,im,im,im,im,im,im,im,im,im,im,im,im,im,im,im,im,im,im,im,im,im,im,im,im,im,im,im,im,im,im,im,im,im,im,im,im,im,im,im,im,im⟩,⟨BL ?_ ?_ ?_,b2 fun _ _ => rfl,BL ?_ ?_ ?_,b2 fun _ _ => rfl,⟨?_,?_,?_⟩,BL ?_ ?_ ?_,b3 fun _ _ _ => rfl,⟨?_,?_,?_⟩,BL ?_ ?_ ?_,b4 fun _ _ _ _ => rfl,⟨?_,?_,?_⟩,BL ?_ ?_ ?_,b3 fun _ _ _ => rfl,⟨?_,?_,?_⟩,BL ?_ ?_ ?_,b2 fun _ _ => rfl,⟨?_,?_,?_⟩,BL ?_ ?_ ?_,b1 fun _ => rfl,⟨?_,?_,?_⟩,BL ?_ ?_ ?_,b1 fun _ => rfl,mg_of KX G ?_,BL ?_ ?_ ?_,b2 fun _ _ => rfl,mg_of KX G ?_,BL ?_ ?_ ?_,b3 fun _ _ _ => rfl,mg_of KX G ?_,BL ?_ ?_ ?_,b1 fun _ => rfl,mg_of KX G ?_,BL ?_ ?_ ?_,b2 fun _ _ => rfl,mg_of KX G ?_,BL ?_ ?_ ?_,b3 fun _ _ _ => rfl,mg_of KX G ?_,BL ?_ ?_ ?_,b1 fun _ => rfl,mg_of KX G ?_,BL ?_ ?_ ?_,b2 fun _ _ => rfl,mg_of KX G ?_,BL ?_ ?_ ?_,b1 fun _ => rfl,mg_of KX G ?_,BL ?_ ?_ ?_,b1 fun _ => rfl,mg_of KX G ?_,BL ?_ ?_ ?_,b2 fun _ _ => rfl,mg_of KX G ?_,BL ?_ ?_ ?_,b4 fun _ _ _ _ => rfl,mg_of KX G ?_,BL ?_ ?_ ?_,b2 fun _ _ => rfl,mg_of KX G ?_,BL ?_ ?_ ?_,b3 fun _ _ _ => rfl,mg_of KX G ?_,BL ?_ ?_ ?_,b3 fun _ _ _ => rfl,mg_of KX G ?_,BL ?_ ?_ ?_,b4 fun _ _ _ _ => rfl,mg_of KX G ?_,BL ?_ ?_ ?_,b2 fun _ _ => rfl,mg_of KX G ?_,BL ?_ ?_ ?_,b2 fun _ _ => rfl,mg_of KX G ?_,BL ?_ ?_ ?_,b1 fun _ => rfl,mg_of KX G ?_,BL ?_ ?_ ?_,b3 fun _ _ _ => rfl,mg_of KX G ?_,BL ?_ ?_ ?_,b1 fun _ => rfl,mg_of KX G ?_,BL ?_ ?_ ?_,b3 fun _ _ _ => rfl,mg_of KX G ?_,BL ?_ ?_ ?_,b3 fun _ _ _ => rfl,mg_of KX G ?_,BL ?_ ?_ ?_,b3 fun _ _ _ => rfl,mg_of KX G ?_,BL ?_ ?_ ?_,b1 fun _ => rfl,mg_of KX G ?_,BL ?_ ?_ ?_,b1 fun _ => rfl,mg_of KX G ?_,BL ?_ ?_ ?_,b1 fun _ => rfl,mg_of KX G ?_,BL ?_ ?_ ?_,b2 fun _ _ => rfl,mg_of KX G ?_,BL ?_ ?_ ?_,b4 fun _ _ _ _ => rfl,mg_of KX G ?_,BL ?_ ?_ ?_,b2 fun _ _ => rfl,mg_of KX G ?_,BL ?_ ?_ ?_,b2 fun _ _ => rfl,mg_of KX G ?_,BL ?_ ?_ ?_,b2 fun _ _ => rfl,mg_of KX G ?_,BL ?_ ?_ ?_,b2 fun _ _ => rfl,mg_of KX G ?_,BL ?_ ?_ ?_,b2 fun _ _ => rfl,mg_of KX G ?_,BL ?_ ?_ ?_,b2 fun _ _ => rfl,mg_of KX G ?_,BL ?_ ?_ ?_,b2 fun _ _ => rfl,mg_of KX G ?_,BL ?_ ?_ ?_,b2 fun _ _ => rfl,mg_of KX G ?_,BL ?_ ?_ ?_,b2 fun _ _ => rfl,mg_of KX G ?_,BL ?_ ?_ ?_,b2 fun _ _ => rfl,mg_of KX G ?_,BL ?_ ?_ ?_,b2 fun _ _ => rfl,mg_of KX G ?_,BL ?_ ?_ ?_,b2 fun _ _ => rfl,mg_of KX G ?_,BL ?_ ?_ ?_,b2 fun _ _ => rfl,mg_of KX G ?_,BL ?_ ?_ ?_,b2 fun _ _ => rfl,mg_of KX G ?_,BL ?_ ?_ ?_,b1 fun _ => rfl,mg_of KX G ?_,BL ?_ ?_ ?_,b1 fun _ => rfl,mg_of KX G ?_,BL ?_ ?_ ?_,b2 fun _ _ => rfl,mg_of KX G ?_,BL ?_ ?_ ?_,b2 fun _ _ => rfl,mg_of KX G ?_,BL ?_ ?_ ?_,b2 fun _ _ => rfl,mg_of KX G ?_,BL ?_ ?_ ?_,b1 fun _ => rfl,mg_of KX G ?_,BL ?_ ?_ ?_,b1 fun _ => rfl,mg_of KX G ?_,BL ?_ ?_ ?_,b1 fun _ => rfl,mg_of KX G ?_,BL ?_ ?_ ?_,b3 fun _ _ _ => rfl,mg_of KX G ?_,BL ?_ ?_ ?_,b1 fun _ => rfl,mg_of KX G ?_,BL ?_ ?_ ?_,b2 fun _ _ => rfl,mg_of KX G ?_,BL ?_ ?_ ?_,b1 fun _ => rfl,mg_of KX G ?_,BL ?_ ?_ ?_,b1 fun _ => rfl,mg_of KX G ?_,BL ?_ ?_ ?_,b2 fun _ _ => rfl,mg_of KX G ?_,BL ?_ ?_ ?_,b2 fun _ _ => rfl,mg_of KX G ?_,BL ?_ ?_ ?_,b2 fun _ _ => rfl,mg_of KX G ?_,BL ?_ ?_ ?_,b2 fun _ _ => rfl,mg_of KX G ?_,BL ?_ ?_ ?_,b2 fun _ _ => rfl,mg_of KX G ?_,BL ?_ ?_ ?_,b2 fun _ _ => rfl,mg_of KX G ?_,BL ?_ ?_ ?_,b2 fun _ _ => rfl,mg_of KX G ?_,BL ?_ ?_ ?_,b2 fun _ _ => rfl,mg_of KX G ?_,BL ?_ ?_ ?_,b2 fun _ _ => rfl,mg_of KX G ?_,BL ?_ ?_ ?_,b2 fun _ _ => rfl,mg_of KX G ?_,BL ?_ ?_ ?_,b2 fun _ _ => rfl,mg_of KX G ?_,BL ?_ ?_ ?_,b2 fun _ _ => rfl,mg_of KX G ?_,BL ?_ ?_ ?_,b2 fun _ _ => rfl,mg_of KX G ?_,BL ?_ ?_ ?_,b2 fun _ _ => rfl,mg_of KX G ?_,BL ?_ ?_ ?_,b2 fun _ _ => rfl,mg_of KX G ?_,BL ?_ ?_ ?_,b2 fun _ _ => rfl,mg_of KX G ?_,BL ?_ ?_ ?_,b2 fun _ _ => rfl,mg_of KX G ?_,BL ?_ ?_ ?_,b2 fun _ _ => rfl,mg_of KX G ?_,BL ?_ ?_ ?_,b1 fun _ => rfl,BL ?_ ?_ ?_,b2 fun _ _ => rfl,⟨?_,?_,?_⟩,BL ?_ ?_ ?_,b3 fun _ _ _ => rfl,⟨?_,?_,?_⟩,BL ?_ ?_ ?_,b1 fun _ => rfl,⟨?_,?_,?_⟩,BL ?_ ?_ ?_,b1 fun _ => rfl,⟨?_,?_,?_⟩,BL ?_ ?_ ?_,b2 fun _ _ => rfl,⟨?_,?_,?_⟩,BL ?_ ?_ ?_,b2 fun _ _ => rfl,⟨?_,?_,?_⟩,BL ?_ ?_ ?_,b1 fun _ => rfl,mg_of KX G ?_,BL ?_ ?_ ?_,b1 fun _ => rfl,mg_of KX G ?_,BL ?_ ?_ ?_,b3 fun _ _ _ => rfl,mg_of KX G ?_,BL ?_ ?_ ?_,b4 fun _ _ _ _ => rfl,mg_of KX G ?_,⟨?_,?_,?_,?_⟩,⟨?_,?_,?_,?_⟩,mg_of KX G ?_,⟨?_,?_,?_,?_⟩,⟨?_,?_,?_,?_⟩,mg_of KX G ?_,?_,?_,?_,?_,?_,?_,?_,?_,⟨mg_of KX G ?_,⟨im,rfl⟩⟩,⟨mg_of KX G ?_,⟨im,rfl⟩⟩,⟨mg_of KX G ?_,⟨im,rfl⟩⟩,⟨mg_of KX G ?_,⟨im,rfl⟩⟩,⟨mg_of KX G ?_,⟨im,rfl⟩⟩,⟨mg_of KX G ?_,⟨im,rfl⟩⟩,⟨mg_of KX G ?_,⟨im,rfl⟩⟩,⟨mg_of KX G ?_,⟨im,rfl⟩⟩,⟨mg_of KX G ?_,⟨im,rfl⟩⟩,⟨mg_of KX G ?_,⟨im,rfl⟩⟩,⟨mg_of KX G ?_,rfl⟩,ACq ?_,(.cons (tr ?_) (.cons (tr ?_) (.cons (tr ?_) (.cons (tr ?_) (.cons (tr ?_) (.cons (tr ?_) (.cons (tr ?_) (.cons (tr ?_) (.cons (tr ?_) (.cons (tr ?_) .nil)))))))))),⟨mg_of KX G ?_,rfl⟩,tq3 ?_,(.cons (tr ?_) (.cons (tr ?_) (.cons (tr ?_) .nil))),⟨mg_of KX G ?_,rfl⟩,ACr ?_,(.cons (tr ?_) (.cons (tr ?_) (.cons (tr ?_) (.cons (tr ?_) (.cons (tr ?_) (.cons (tr ?_) (.cons (tr ?_) (.cons (tr ?_) (.cons (tr ?_) (.cons (tr ?_) (.cons (tr ?_) (.cons (tr ?_) (.cons (tr ?_) (.cons (tr ?_) (.cons (tr ?_) (.cons (tr ?_) (.cons (tr ?_) (.cons (tr ?_) .nil)))))))))))))))))),?IE,hdk ?_ ?_,?Z8,hdk ?_ ?_,GH KX G ?_,GH KX G ?_,GH KX G ?_,GH KX G ?_,GH KX G ?_,GH KX G ?_,GH KX G ?_,GH KX G ?_,GH KX G ?_,GH KX G ?_,GH KX G ?_,?_⟩,ABi hmg (mg_of KX G ?_),?_,?_,?_⟩
 any_goals dsimp only [im]
 any_goals k_is
 any_goals k_is
 try any_goals k_is
 all_goals first | kernel_rfl | decide | (unfold HE; k_is)
