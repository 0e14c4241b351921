import PyProof.Rows.All
import Wide.All
import OpenK.AllK
import Wide.FinOn
import Lean
import PyProof.EqAt
import PyProof.EqKinds
import PyProof.TupleCall
import PyProof.Rows.SortRunsK
import PyProof.Rows.Walk
import KE.KSortTup
import PyProof.ListRange
import PyProof.Rows.SetFrom
import KE.KDictList
import KE.KRevIter
import PySem.Challenge.RW_restdraw_k76_ways_of_woods
set_option Elab.async false
set_option linter.all false
set_option maxRecDepth 100000
local macro_rules | `(tactic| omega)=>`(tactic| lia)
noncomputable section
open List renaming getElem?_eq_getElem->aa,getD_eq_getElem?_getD->ae,length_map->af,getElem?_eq_some_iff->ag,getElem?_map->ay,nodup_append->az,length_append->bg,getElem?_append_left->bh,mem_append->bp,getElem?_append_right->bu,mem_append_left->cf,mem_append_right->cm,mem_cons->cn,mem_of_getElem?->cu,mem_cons_of_mem->dc,append_assoc->de,range->df,mem_singleton->dg,replicate->dh,pairwise_append->di,nodup_cons->dr,map_append->dw,getElem?_set_ne->eB,length_take->eO,length_cons->eQ,getLast?_append->eU,length_range->eV,mem_cons_self->eW,size_toArray->eX,mem_iff_getElem->eY,map_cons->eo,getElem_mem->fe,not_mem_nil->fh,idxOf_lt_length_of_mem->fj,getElem?_concat_length->fq,mem_map->ft,mem_range->fz,take_append_drop->gh,cons_append->gi,dropLast_concat_getLast->gj,mem_filter->gn,getElem?_set_self->gy,length->iB,getLastD_eq_getLast?->iD,length_singleton->iG,length_drop->iJ,getLast?_eq_some_getLast->iK,append_nil->iM,getLast?_eq_getElem?->iN,take_length->iP,length_replicate->iV,pairwise_iff_getElem->iX,pairwise_map->iY,length_filter_le->ie,perm_append_comm->ig,getElem?_eq_none->ip,length_eq_zero_iff->iu,getLast?_concat->iw,take_of_length_le->jd,drop_eq_nil_of_le->je,take_succ->jg,pairwise_singleton->jr,extract_eq_take_drop->kg,getElem?_take_of_lt->ko,filter_cons->lh,nodup_range->me,nil_append->mo,all_eq_true->ni,mem_reverse->nj,replicate_succ->om,foldl_cons->ou,length_nil->ow,perm_ext_iff_of_nodup->ph,eq_nil_or_concat->qg,drop_eq_getElem_cons->qj,replicate_succ'->qv,idxOf_cons_self->si,length_pos_iff->ub,getElem_of_mem->ue,concat_eq_append->uh,getElem_inj->uk,append_of_mem->uv,getElem_take->uy,flatMap_singleton->va,mem_replicate->vc,find?_cons->vg,mem_of_mem_tail->vj,filter_append->wa,mem_iff_getElem?->wc,flatten_cons->wg,reverse_cons->wm,mem_of_mem_take->wu,reverse_append->wx,mem_of_getLast?->xa,nodup_nil->xb,range'_succ->xf,cons_ne_nil->xh,any_eq_true->xj,getElem?_zip_eq_some->xm,length_reverse->xp,flatMap_append->xr,take_left'->yg,map_map->yj,length_zip->yk,pairwise_cons->yo,getElem?_take->yp,getLast?_cons_cons->yu,filter_cons_of_neg->yv,filter_cons_of_pos->yw,eraseIdx_append_of_length_le->yx,getElem?_inj->ze,drop_drop->zg,reverse_perm->zh,filter_eq_nil_iff->zi,pairwise_reverse->zr,lookup_cons->AA,mem_flatMap->AD,getElem_map->AE,drop_append->AF,any_cons->AH,sum_cons->AI,range'->AJ,take_append_of_le_length->AK,drop_left'->AR,filter_nil->AZ,filterMap_cons->Aa,mergeSort_perm->Ab,getElem?_range->Ac,map_congr_left->Ae,map_eq_nil_iff->Af,of_mem_zip->Ao,length_set->As,range_succ->Au,tail_cons->Ax,nodup_iff_pairwise_ne->Ay,getElem_idxOf->Az,zip_cons_cons->BB,Nodup->BD,map_take->BE,getLast?_eq_none_iff->BG,getElem_drop->BQ,foldl_append->BR,ext_getElem->Bh,pairwise_mergeSort->Bi,map_snd_zip->Bj,map_drop->Bl,map_fst_zip->Bm,pairwise_flatMap->CL,getElem?_reverse->CM,reverse_reverse->CW,take_zero->CY,length_flatMap->Ci,filter_eq_self->Cm,all_cons->Cp,mem_filterMap->Cv,ne_nil_of_mem->DG,map_nil->DT,getLast_cons->DX,ext_getElem?->Dc,perm_middle->Dv,getElem_zip->Dx,flatMap_def->Dy,sum_append->EG,idxOf_cons->EI,all_append->EJ,foldl->EZ,drop_take->Ei,take_take->Ej,drop_zero->Ek,map_set->Fg,drop->GR
open PySem renaming wpAny_bind->ah,Value->ai,Shared->ao,Addr->ar,wpAny_pure->cc,wpAny->eK,Program->eN,mainGlobals->eR,Around->ed,boot_len->eh,World->fu,Expr->iA,Heap->iC,wpAny_holding->iL,wpAny_newObj_type->iW,Stmt->ja,mem_of_lookup->jb,wpAny_truthy_bool->jc,wpAny_comprehension_free->kq,wpAny_dictEntries->mh,wpAny_pyIter_tuple->oe,FuncData->og,NameKind->oh,wpAny_passesOwn->qq,wpAny_typeOf->rj,wpAny_newFunctionEnv->rm,wpAny_callSpecial?_slot->uc,wpAny_call_entry->ud,Scope->uj,wpAny_mono->uo,codeAny_mono->ur,tupleKind_room_in1->uu,codeAny_builtin->vk,Fin->vw,Model->xu,wpAny_standAt->xw,wpAny_loadPart'->yf,wpAny_field->yr,Builtin->zd,call_meets->zv,wpAny_rule->AB,wpAny_forIn_list->AC,codeAny_call_builtin->AL,wpAny_execs_nil->AN,wpAny_dictEpoch->AX,sizeLine->Ai,wpAny_Call_Name_kw->An,wpAny_pyIter_list->BJ,sizeLine_eq->BK,wpAny_of_eq->BN,wpAny_attempt->BV,noFill_tuple_add->Be,DictEntry->Bf,wpAny_isInstance->Bk,wpAny_pyNext_list_item->Bn,IsPart->Bp,PyData->Bs,wpAny_specialOf->CB,codeAny_of_tree->CC,size_of_entries->CF,wpAny_isTrue_Compare1->CI,wpAny_pyNext_list_end->CJ,wpAny_notOrdered_dict->CN,weight_type_call_type->CO,wpAny_seqItems->CV,isSubtype_type->Ca,Keyword->Ce,wpAny_dictSet_pairs->Ck,seq_tuple_add->Co,Comprehension->Cr,wpAny_newList->Cs,wpAny_call->Cy,wpAny_assign_Name->DJ,BindsTo->DN,concat_meets->DO,wpAny_sequenceKey->DP,seqIndex_neg->DQ,slot_list_getitem->DR,call_meetsIn->DU,wpAny_pyIter_enum->DV,arm_eval_DictComp->DW,atKey_none_of_get->Dg,wpAny_eqBool_int->Dm,wpAny_execs_cons->Do,wpAny_Dict_empty->Du,seqIndex_of->Dz,intItems_at->EA,wpAny_tests_nil->EF,Paired->EL,wpAny_Name->EN,wpAny_Compare1->EO,Result->EU,typeIs_int->EY,fitsIndex_both->Ea,call->Eb,wpAny_setField->Ed,numAt_eq->Ee,wpAny_runValue->El,CmpOp->FV,PassesOwn->FW,Within->FZ,Params->GH,Code->GQ
open PySem.Heap renaming get?_push_of_some->aj,lt_size->cq,get?_push_size->cx,SameBut->km,size_push->lj,get?_update_self->qf,get?_update_ne->xt,get?_update_other->Br
open PySem.W renaming Frag->au,nsIn->gk,kia_one->iz,fnOf->rh,keepIn->yy,codeIn->Ap,methodObj->BH,cellsFrom_some->Bo,instObj->Bz,OpenLaw->CA,lookIn->CT,mg_of->Cq,kitx_list->DK,kitx_dict->DL,plainGet->Dp,findIn->ES,kitOne->ET,WalkO->FQ
open Nat renaming le_refl->av,lt_of_lt_of_le->cz,ne_of_lt->dj,zero_le->fv,lt_or_ge->fw,lt_of_le_of_lt->gw,le_trans->gx,ne_of_gt->jo,min_eq_left->jq,lt_irrefl->jx,le_of_lt->ka,lt_succ_of_lt->ke,add_assoc->vy,lt_trichotomy->wj,lt_succ_self->xg,le_succ->yt,not_lt_zero->AY,le_mul_of_pos_left->Bv,strongRecOn->CG,sub_add_cancel->DC,add_sub_cancel->DD,zero_add->DY,add_zero->Da,sub_self->Dd,mul_mod_right->De,sub_zero->Di,succ_le_succ->Ds,add_comm->Fd,le_of_eq->Fe,log2_lt->Fy,div_one->GD
open PyProof.Rows renaming Keyed->bb,wpS_bind->cg,pendingOf->cv,arrOf->cw,wpS_pure->cy,SortSt->eJ,boot_tuple->fc,slot_tuple_getitem->iS,wpS_forRange->iU,boot_all->iq,SortKind->jh,wpS_modify->jt,boot_isinstance->mv,callWith_type1->mz,wpS_mono->sd,failedOf->se,boot_min->we,boot_sorted->ye,wpS_get->yh,reverseSlice'_eq->AG,get?_update_seq->AV,AllBare->BI,listUpdate_at->BW,subscriptTail_builtinR->Bq,boot_dict->Bx,boot_repr->By,boot_max->CP,IntsAre->Cf,entry_tuple_getitem->Cg,args_tuple_getitem->Cz,firstMet_length_le->DE,listItems_at->Df,callWith_builtin1->Dq,seqEpoch_at->EB,IsTup->EM,slicePart_none->EV,Subscript_->EW,boot_divmod->FT,boot_bool->Fh,boot_abs->Fk,boot_int->Fm,boot_set->Fn,wpS_lift->GC,lt_int->GF
open Option.some renaming inj->bj,injEq->GN
open Option renaming map_eq_some_iff->ck,toList_some->vf,map_some->vh,isSome_iff_exists->xx,isSome_map->BM,getD_none->Dr,none->Fw,map->GK
open Bool renaming false_ne_true->dq,false_eq_true->eA,and_eq_true->iF,eq_iff_iff->iH,not_true->yb,or_eq_true->AU,not_eq_true'->DZ,false_and->ER,not_false->Eh,and_true->FU
open List.Nodup renaming length_le_of_subset->eI
open Array renaming length_toList->eZ,toList_append->fk,size_push->iI,size_extract->iZ,getElem?_toList->jf,mem_toList_iff->qz,toList_extract->sf,toList_push->sg,size_append->wk,toList_reverse->wq,toList_setIfInBounds->BA,getElem_mem->BP,size_setIfInBounds->BU,toList_modify->Cj,size_reverse->DB,isEmpty_iff->Dh,toList->Fb,getD->GJ
open Int renaming toNat_natCast->fg,eq_ofNat_of_zero_le->jw,zero_add->ve,fdiv_eq_ediv_of_nonneg->Al,fmod_eq_emod_of_nonneg->Am,emod_lt_of_pos->BF,emod_nonneg->CH,natAbs_natCast->DI
open Classical renaming byContradiction->gm,choose_spec->kh,choose->uf
open PySem.Value renaming ref->iE,int->qk,none->ym,type->yn,bool->Aj,str->Cd,isStrOf->FC,isInt->Fo,float->Fv
open ForInStep renaming yield->iO,done->wo
open PySem.F renaming slot_list_append->iQ,type_list_append->iR,plainAttrs_tuple->ji,slot_tuple_index->jl,type_tuple_index->jm,kt_called_dict->jv,slot_list_index->mj,type_list_index->mm,slot_tuple_iterator_next->pd,slot_list_getattribute->ua,called_set->vb,args_tuple_add_2->xy,slot_list_insert->yc,type_list_insert->yd,entry_tuple_add->yq,slot_tuple_add->yz,slot_dict_itemiterator_iter->AM,args_tuple_iterator_next_1->AQ,entry_tuple_iterator_next->Ag,slot_dict_update->BZ,slot_list_remove->Bb,type_list_remove->Bc,plainAttrs_dict->Bg,slot_dict_pop->CK,entry_type_call->Dj,slot_dict_items->Dk,slot_int_rmul->ED
open PySem.Heap.SameBut renaming update->ik,refl->BO
open PySem.PyData renaming int->ju,eqvAll->jz,eqv->kl,shownAll->mw,canLayAll0->sj,canLay0->ui,depth->vd,depthAll->vt,showableAll->DH,hasDictAll->Dl,showable->EK,shown->Fi
open True renaming intro->kb
open Prod renaming ext->kr,fst->Av,snd->Aw
open Std.Legacy.Range renaming forIn_eq_forIn_range'->md,size->zq
open PySem.Str renaming ofString->ng
open PySem.SeqAt renaming shaped->nh,EqAt->EX
open Ne renaming symm->qe
open PySem.Builtin.Slice renaming slicePlaces->qh,sliceAdjust->xk,sliceApplied->Aq,slicePartIndex->EC,sliceFields->Ez
open PySem.Builtin.SmallTypes renaming nextOf->qi
open List.Perm renaming trans->qr,append_right->uz,append_left->wb,refl->zf
open Sum renaming inl->qw,inr->Cc
open PySem.Paired renaming length->sk,snoc->Fz
open PySem.Builtin.Tuple renaming tupleExact->tf,tupleItemsOf->Ar,tupleIsExact->Eg,tupleHashOf->FA
open PySem.Obj renaming mapSeq->tz,data_mapDictKeys->wz,isFreed_of_dict->Ad,data_mapFields->DA,data_mapDict->Dw
open PySem.Builtin.Dict renaming updateFrom->ug,entriesForEmpty->AW,selfAndRest->BX,addKeywords->BY,mergeDict->Bw,quietEq->CZ,readDirectly->FB,pairItems->Ff,showsAll->Fj,merge->GM
open False renaming elim->uq
open PySem.Builtin.List renaming listTooLong->ya,listExtendWith->Ah
open PySem.Calls renaming callWith_builtin->zc,Name_function_global->Ak,evalArgs_plain->CU,spliced_cons->Cw,spliced_nil->DM
open Or renaming inl->AO,inr->Ec
open PySem.Code renaming quiet_builtin->BC
open List.Pairwise renaming nil->BL,imp_of_mem->FR,map->GO
open PySem.NameKind renaming free->BS
open PySem.Shared renaming TypeIs->Ba
open PySem.Challenge renaming rw_restdraw_k76_ways_of_woods->Bd
open Iff renaming rfl->Bt
open PyProof.Rows.SortSt renaming mk'->Bu
open PySem.PassesOwn renaming never->CD
open Sum.inl renaming inj->CQ
open PySem.Around renaming under_plainId->Cb,under_plain->DF
open PySem.SeqAt.EqAt renaming int_str->Ct,str_int->Cu
open PySem.Heap.DictOf renaming new->EE
open PySem.Builtin.Frozenset renaming updateFrom->EH
open PUnit renaming unit->Ef
open PySem.EqNone renaming eq_none_none->Em,eq_none_bool->Eo,eq_bool_none->Ep,ne_none_none->Et,ne_none_bool->Eu,ne_bool_none->Ew,eq_none_int->FD,eq_none_str->FE,eq_int_none->FF,eq_str_none->FH,ne_none_int->FK,ne_none_str->FL,ne_int_none->FM,ne_str_none->FO
open PySem.EqMixed renaming eq_bool_str->Er,eq_str_bool->Es,ne_bool_str->Ex,ne_str_bool->Ey,eq_int_str->FG,eq_str_int->FJ,ne_int_str->FN,ne_str_int->FP
open PySem.W.Looks renaming of_pure->FS
open PySem.Builtin.Range renaming rangeSize->FX
open And renaming intro->FY
open PySem.MeetsSeq.EqGives renaming int->GA
open PySem.Walks renaming tuple->GB
open PySem.Builtin.Int renaming intBits->GE
open PySem.Heap.IsSliceOf renaming new->GG
open PySem.W.WShape renaming has->GI
open PySem.W.WData renaming int->GP
def yS0:0<=Ai:=by decide
def yS1:1<=Ai:=by decide
def yS2:2<=Ai:=by decide
def yS3:3<=Ai:=by decide
namespace L2
open PySem PySem.Spec PyProof.Rows
abbrev Key:=Sum Int Str
def gM:Key->ai->Bool
 | .inl k,v=>Fo k v
 | .inr x,v=>FC x v
def kTW(w:fu):Key->Int
 | .inl k=>hashInt k
 | .inr x=>hashStr w x
def qS:∀{k:Key}{v:ai},gM k v=true->(∃ i t,k=qw i/\v=qk i t)\/(∃ x t,k=Cc x/\v=Cd x t)
 | .inl i,v,h=>by
  obtain⟨t,e⟩:=Value.isInt_shape (k:=i) (v:=v) h;exact .inl ⟨i,t,rfl,e⟩
 | .inr x,v,h=>by
  obtain⟨t,e⟩:=Value.isStrOf_shape (x:=x) (v:=v) h;exact .inr ⟨x,t,rfl,e⟩
def kHN(i:Int)(t:Tok):gM (.inl i) (.int i t)=true:=by simp[gM,Fo]
def kHM(x:Str)(t:Tok):gM (.inr x) (.str x t)=true:=by simp[gM,FC]
def kQR(a b:Int):decide ((qw a:Key)=qw b)=(a == b):=by
 by_cases e:a=b
 ·subst e;simp
 ·have h:¬ (qw a:Key)=qw b:=λ q=>e (CQ q)
  rw[decide_eq_false h];exact(beq_eq_false_iff_ne.mpr e).symm
def kQO(a b:Str):decide ((Cc a:Key)=Cc b)=decide (a=b):=by
 by_cases e:a=b
 ·subst e;simp
 ·have h:¬ (Cc a:Key)=Cc b:=λ q=>e (Sum.inr.inj q)
  rw[decide_eq_false h,decide_eq_false e]
def kQQ(a:Int)(b:Str):decide ((qw a:Key)=Cc b)=false:=decide_eq_false (λ q=>nomatch q)
def kQP(a:Str)(b:Int):decide ((Cc a:Key)=qw b)=false:=decide_eq_false (λ q=>nomatch q)
def qC(prog:eN)(w:fu):PySem.KeyKind prog w Key where
 is:=gM
 hash:=kTW w
 inj:=λ v a b g d=>by
  rcases qS g with⟨i,t,rfl,rfl⟩ | ⟨x,t,rfl,rfl⟩
  ·rcases qS d with⟨j,u,rfl,e⟩ | ⟨y,u,rfl,e⟩
   ·injection e with e1 _;rw[e1]
   ·exact nomatch e
  ·rcases qS d with⟨j,u,rfl,e⟩ | ⟨y,u,rfl,e⟩
   ·exact nomatch e
   ·injection e with e1 _;rw[e1]
 byValue:=λ k v h=>by
  rcases qS h with⟨i,t,rfl,rfl⟩ | ⟨x,t,rfl,rfl⟩<;>rfl
 pyHash:=λ c h=>by
  rcases qS c with⟨i,t,rfl,rfl⟩ | ⟨x,t,rfl,rfl⟩
  ·exact wpAny_pyHash_int h
  ·exact wpAny_pyHash_str h
 eqBool:=λ f c h=>by
  rcases qS f with⟨i,t,rfl,rfl⟩ | ⟨x,t,rfl,rfl⟩
  ·rcases qS c with⟨j,u,rfl,rfl⟩ | ⟨y,u,rfl,rfl⟩
   ·rw[kQR]at h;exact Dm h
   ·rw[kQQ]at h;exact Ct i t y u _ _ _ _ h
  ·rcases qS c with⟨j,u,rfl,rfl⟩ | ⟨y,u,rfl,rfl⟩
   ·rw[kQP]at h;exact Cu x t j u _ _ _ _ h
   ·rw[kQO]at h;exact wpAny_eqBool_str h
 «strs»:=λ k x t v h=>by
  rcases qS h with⟨i,u,rfl,e⟩ | ⟨y,u,rfl,e⟩
  ·exact nomatch e
  ·injection e with e1 _
   subst e1;cases v<;>rfl
def kCV(prog:eN)(w:fu)(k:Key)(v:ai):(qC prog w).is k v=gM k v:=rfl
def kAD(prog:eN)(w:fu)(i:Int)(t:Tok):(qC prog w).is (.inl i) (.int i t)=true:=kHN i t
def kAC(prog:eN)(w:fu)(x:Str)(t:Tok):(qC prog w).is (.inr x) (.str x t)=true:=kHM x t
inductive V where
 | non | bl (b:Bool) | int (i:Int) | str (x:Str) | byt (b:Array UInt8) | flt (b:UInt64) | ref (a:ar) | ty (n:String)
 deriving DecidableEq
def RelV:V->ai->Prop
 | .non,u=>u=ym
 | .bl b,u=>u=Aj b
 | .int i,u=>∃ t,u=qk i t
 | .str x,u=>∃ t,u=Cd x t
 | .byt b,u=>∃ t,u=Value.bytes b t
 | .flt b,u=>∃ t,u=Fv b t
 | .ref a,u=>u=iE a
 | .ty n,u=>u=yn n
abbrev Vals:List V->List ai->Prop:=EL RelV
theorem Vals.length{xs:List V}{a:List ai}(r:Vals xs a):xs.length=a.length:=sk r
theorem Vals.get:∀{xs:List V}{a:List ai}{i:Nat}{x:V},Vals xs a->xs[i]?=some x->∃ u,a[i]?=some u/\RelV x u
 | _,_,_,_,.nil,e=>by simp at e
 | _,_,0,_,.cons r _,e=>by simp at e;subst e;exact⟨_,rfl,r⟩
 | _,_,i+1,x,.cons _ t,e=>by
  obtain⟨u,h1,b⟩:=Vals.get (i:=i) (x:=x) t (by simpa using e);exact⟨u,by simpa using h1,b⟩
theorem Vals.set{x:V}{u:ai}(r:RelV x u):∀{xs:List V}{a:List ai}(i:Nat),Vals xs a->Vals (xs.set i x) (a.set i u)
 | _,_,_,.nil=>.nil
 | _,_,0,.cons _ t=>.cons r t
 | _,_,i+1,.cons q t=>.cons q (Vals.set r i t)
theorem Vals.append:∀{xs b:List V}{c a:List ai},Vals xs c->Vals b a->Vals (xs++b) (c++a)
 | _,_,_,_,.nil,s=>s
 | _,_,_,_,.cons r t,s=>.cons r (Vals.append t s)
theorem Vals.take:∀{xs:List V}{a:List ai}(n:Nat),Vals xs a->Vals (xs.take n) (a.take n)
 | _,_,0,_=>.nil
 | _,_,_+1,.nil=>.nil
 | _,_,n+1,.cons r t=>.cons r (Vals.take n t)
theorem Vals.drop:∀{xs:List V}{a:List ai}(n:Nat),Vals xs a->Vals (xs.drop n) (a.drop n)
 | _,_,0,r=>r
 | _,_,_+1,.nil=>.nil
 | _,_,n+1,.cons _ t=>Vals.drop n t
def RelO:Option V->Option ai->Prop
 | some v,some u=>RelV v u
 | none,none=>True
 | _,_=>False
def KV{a:Type}:List (a×V)->List (a×ai)->Prop:=EL λ(p:a×V) (q:a×ai)=>p.1=q.1/\RelV p.2 q.2
def kV:Key->V
 | .inl i=>.int i
 | .inr x=>.str x
inductive HO where
 | lst (xs:List V)
 | tup (xs:List V)
 | dK (kvs:List (Key×V)) | dT (kvs:List (List Key×V))
 | set (S:Int->Bool) (n:Nat)
 | ins (C dx:ar) (fs:List (Str×V))
 | own (x:ar)
 | xd (fs:List (Str×V))
 | met (f x:ar)
 | rng (lo hi:Int)
 | frz (o:Obj) (u:HO)
 | tbl (ps:Array ai)
 | ext (φ:iC->Prop)
abbrev Hp:=ar->Option HO
def upd(H:Hp)(a:ar)(o:HO):Hp:=λ b=>if b=a then some o else H b
def kB{H:Hp}{a:ar}{o:HO}:upd H a o a=some o:=by unfold upd;rw[if_pos rfl]
def kL{H:Hp}{a b:ar}{o:HO}(h:b≠a):upd H a o b=H b:=by unfold upd;rw[if_neg h]
def yB{H:Hp}{a b:ar}{o u:HO}(h:H a=some o)(h':H b=some u)(d:o≠u):a≠b:=by
 intro e;subst e;rw[h]at h';exact d (bj h')
def kJ{H:Hp}{a b:ar}{o:HO}(h:H a=some o)(h':H b=none):a≠b:=by
 intro e;subst e;rw[h]at h';cases h'
section
def IsTupN(h:iC)(a:ar)(b:Array ai):Prop:=∃ o,h.get? a=some o/\o.cls=.type "tuple"/\∃ n,o.data=.seq b n/\o.dict=none
def IsTupN.isTup{h:iC}{a:ar}{b:Array ai}:IsTupN h a b->EM h a b:=λ⟨o,e,c,n,d,_⟩=>⟨o,e,c,n,d⟩
theorem IsTupN.lt{h:iC}{a:ar}{b:Array ai}(x:IsTupN h a b):a<h.objs.size:=x.isTup.lt
def IsTupN.new(h:iC)(a:Array ai):IsTupN (h.push {cls:=.type "tuple",data:=.seq a}) h.objs.size a:=⟨_,cx _ rfl,rfl,_,rfl,rfl⟩
variable (P:eN) (w:fu)
def ObjOk(H:Hp)(h:iC)(a:ar):HO->Prop
 | .lst c=>c.length<=sizeLine/\∃(b:List ai)(n:Nat),Vals c b/\h.get? a=some {cls:=.type "list",data:=.seq b.toArray n}
 | .tup c=>c.length<=sizeLine/\∃ b:List ai,Vals c b/\IsTupN h a b.toArray
 | .dK kvs=>kvs.length<=sizeLine/\(a == sysModules)=false/\∃ g,KV kvs g/\h.DictOf (qC P w) a g
 | .dT kvs=>kvs.length<=sizeLine/\(a == sysModules)=false/\∃ c:List (List Key×ar×ai),
   EL (λ(p:List Key×V) (q:List Key×ar×ai)=>p.1=q.1/\H q.2.1=some (.tup (p.1.map kV))/\RelV p.2 q.2.2) kvs c /\
   ∃ o l m,h.get? a=some o/\o.ExactDict/\o.data=.dict l m/\l.toList=c.map (entryOfKey (tupleKind (qC P w)))/\(c.map (·.1)).Nodup
 | .set S n=>h.SetOf (intKind P w) a S n
 | .ins C dx fs=>H dx=some (.own a)/\fs.length<=1000/\dx≠a/\h.get? a=some (Bz C dx) /\
   ∃ d,h.Ns1 dx d/\(∀ f,RelO (fs.lookup f) (d f))/\FZ d (fs.map (·.1))
 | .own _=>∃ o,h.get? a=some o
 | .xd fs=>∃ d,h.Ns1 a d/\∀ f,RelO (fs.lookup f) (d f)
 | .rng lo hi=>∃ t u v,h.get? a=some {cls:=.type "range",data:=.fields #[.int lo t,.int hi u,.int 1 v]}
 | .frz o u=>h.get? a=some o/\ObjOk H h a u
 | .tbl ps=>h.get? a=some {cls:=.none,data:=.fields ps}
 | .met f x=>h.get? a=some (BH (.ref f) (.ref x))
 | .ext φ=>φ h/\(∃ o,h.get? a=some o)/\∀ h1 i:iC,φ h1->(∀ o,h1.get? a=some o->i.get? a=some o)->φ i
def HOk(H:Hp)(h:iC):Prop:=∀ a o,H a=some o->ObjOk P w H h a o
end
section
variable {P:eN} {w:fu} {H H':Hp} {h h':iC} {a:ar} {o:HO}
theorem ObjOk.lt(x:ObjOk P w H h a o):a<h.objs.size:=by
 cases o with
 | lst xs=>obtain⟨_,_,_,_,e⟩:=x;exact cq e
 | tup xs=>obtain⟨_,_,_,p⟩:=x;exact p.lt
 | dK kvs=>obtain⟨_,_,_,_,o,_,_,e,_⟩:=x;exact cq e
 | dT kvs=>obtain⟨_,_,_,_,o,_,_,e,_⟩:=x;exact cq e
 | set S n=>obtain⟨o,_,_,_,e,_⟩:=x;exact cq e
 | ins C dx fs=>obtain⟨_,_,_,e,_⟩:=x;exact cq e
 | own y=>obtain⟨_,e⟩:=x;exact cq e
 | xd fs=>obtain⟨_,⟨_,_,_,e,_⟩,_⟩:=x;exact cq e
 | rng lo hi=>obtain⟨_,_,_,e⟩:=x;exact cq e
 | frz ob u=>obtain⟨e,_⟩:=x;exact cq e
 | tbl ps=>exact cq (show h.get? a=some _ from x)
 | met f y=>exact cq (show h.get? a=some _ from x)
 | ext φ=>obtain⟨_,⟨_,e⟩,_⟩:=x;exact cq e
theorem Paired.mapP{α c:Type}{F G:α->c->Prop}:∀{l₁:List α}{l₂:List c},EL F l₁ l₂->(∀ a b,F a b->G a b)->EL G l₁ l₂
 | _,_,.nil,_=>.nil
 | _,_,.cons r t,f=>.cons (f _ _ r) (Paired.mapP t f)
def ObjOk.stay(x:ObjOk P w H h a o)(k:∀ b u,(b=a\/H b=some (.own a))->h.get? b=some u->h'.get? b=some u)
  (J:∀ b,H b=some (.own a)->H' b=some (.own a)) (D:∀ b xs,H b=some (.tup xs)->H' b=some (.tup xs)):ObjOk P w H' h' a o:=by
 induction o with
 | lst xs=>obtain⟨z,m,n,r,e⟩:=x;exact⟨z,m,n,r,k _ _ (.inl rfl) e⟩
 | tup xs=>obtain⟨z,m,r,g,e,c⟩:=x;exact⟨z,m,r,g,k _ _ (.inl rfl) e,c⟩
 | dK kvs=>obtain⟨z,y,B,r,g,l,i,e,c⟩:=x;exact⟨z,y,B,r,g,l,i,k _ _ (.inl rfl) e,c⟩
 | dT kvs =>
  obtain⟨z,y,xs,r,g,l,i,e,c⟩:=x;exact⟨z,y,xs,Paired.mapP r λ p q z=>⟨z.1,D _ _ z.2.1,z.2.2⟩,g,l,i,k _ _ (.inl rfl) e,c⟩
 | set S n=>obtain⟨g,l,i,t,e,c⟩:=x;exact⟨g,l,i,t,k _ _ (.inl rfl) e,c⟩
 | ins C dx fs =>
  obtain⟨d,z,I,e,s,⟨A,l,i,G,c⟩,r⟩:=x;exact⟨J _ d,z,I,k _ _ (.inl rfl) e,s,⟨A,l,i,k _ _ (.inr d) G,c⟩,r⟩
 | own y=>obtain⟨g,e⟩:=x;exact⟨g,k _ _ (.inl rfl) e⟩
 | xd fs=>obtain⟨s,⟨A,l,i,e,c⟩,r⟩:=x;exact⟨s,⟨A,l,i,k _ _ (.inl rfl) e,c⟩,r⟩
 | rng lo hi=>obtain⟨t,u,v,e⟩:=x;exact⟨t,u,v,k _ _ (.inl rfl) e⟩
 | frz g u ih=>obtain⟨e,q⟩:=x;exact⟨k _ _ (.inl rfl) e,ih q⟩
 | tbl ps =>
  have e:h.get? a=some {cls:=.none,data:=.fields ps}:=x;show h'.get? a=some {cls:=.none,data:=.fields ps};exact k a _ (.inl rfl) e
 | met f y =>
  have e:h.get? a=some (BH (.ref f) (.ref y)):=x;show h'.get? a=some (BH (.ref f) (.ref y));exact k a _ (.inl rfl) e
 | ext φ=>obtain⟨p,⟨o,e⟩,st⟩:=x;exact⟨st _ _ p λ o q=>k _ _ (.inl rfl) q,⟨o,k _ _ (.inl rfl) e⟩,st⟩
theorem HOk.lt(x:HOk P w H h)(e:H a=some o):a<h.objs.size:=(x a o e).lt
def HOk.fresh(x:HOk P w H h)(e:h.objs.size<=a):H a=none:=by
 cases q:H a with
 | none=>rfl
 | some u=>exact absurd (cz (x.lt q) e) (jx _)
def HOk.kept(x:HOk P w H h)(k:∀ b u,h.get? b=some u->h'.get? b=some u):HOk P w H h':=λ a o e =>
 (x a o e).stay (λ b u _ q=>k b u q) (λ _ q=>q) λ _ _ q=>q
def HOk.laid(x:HOk P w H h)(k:∀ b u,h.get? b=some u->h'.get? b=some u)(hp:h.objs.size<=a)(new:ObjOk P w (upd H a o) h' a o):HOk P w (upd H a o) h':=λ b u e=>by
 have f:=x.fresh hp;by_cases d:b=a
 ·subst d;rw[kB]at e;cases e;exact new
 ·rw[kL d]at e
  exact(x b u e).stay (λ c v _ q=>k c v q) (λ c q=>by rw[kL (kJ q f)];exact q) λ c g q=>by rw[kL (kJ q f)];exact q
end
def Rd(H:Hp)(a:ar)(u:HO):Prop:=H a=some u\/∃ o,H a=some (.frz o u)
def Rd.ok{P:eN}{w:fu}{H:Hp}{h:iC}{a:ar}{u:HO}(r:Rd H a u)(x:HOk P w H h):ObjOk P w H h a u:=by
 rcases r with r | ⟨o,r⟩
 ·exact x a u r
 ·obtain⟨_,q⟩:=x a _ r
  exact q
def Mut:Option HO->Prop
 | some (.lst _)=>True
 | some (.dK _)=>True
 | some (.dT _)=>True
 | some (.set _ _)=>True
 | some (.ins _ _ _)=>True
 | some (.ext _)=>True
 | _=>False
section
variable {P:eN} {w:fu} {H:Hp} {h h':iC} {x e:ar} {o':HO}
def HOk.write(ok:HOk P w H h)(g:Mut (H x))(p:e=x\/H e=some (.own x))(k:∀ b u,b≠e->h.get? b=some u->h'.get? b=some u)(n:∃ u,h'.get? e=some u)
  (new:ObjOk P w (upd H x o') h' x o'):HOk P w (upd H x o') h':=λ b u q=>by
 have d:∀ c y,H c=some (.own y)->c≠x:=λ c y r z=>by subst z;rw[r]at g;exact g
 have f:∀ c l,H c=some (.tup l)->c≠x:=λ c l r z=>by subst z;rw[r]at g;exact g
 by_cases i:b=x
 ·subst i;rw[kB]at q;cases q;exact new
 ·rw[kL i]at q
  by_cases a:b=e
  ·have o:H b=some (.own x):=by
    rcases p with z | z
    ·exact absurd (a.trans z) i
    ·rw[a];exact z
   rw[q]at o;cases o;obtain⟨v,s⟩:=n;exact⟨v,by rw[a];exact s⟩
  ·refine(ok b u q).stay (λ c v m r=>k c v ?_ r) (λ c r=>by rw[kL (d c b r)];exact r) λ c l r=>by rw[kL (f c l r)];exact r
   rcases m with rfl | m
   ·exact a
   ·rintro rfl
    rcases p with z | z
    ·exact d c b m z
    ·rw[m]at z;cases z;exact i rfl
end
structure Un(fs ex:List ar)(H H':Hp)(h h':iC):Prop where
 keep:∀ b o,h.get? b=some o->H b=none->b∉fs->b∉ex->h'.get? b=some o
 slot:∀ b o,h.get? b=some o->H b=none->b∈fs->b∉ex->∃ sl,h'.get? b=some {o with slots:=sl}
 free:∀ b o,h.get? b=some o->H b=none->b∉ex->H' b=none
 there:∀ b o,h.get? b=some o->b∉ex->∃ o',h'.get? b=some o'
 tups:∀ b xs,H b=some (.tup xs)->H' b=some (.tup xs)
 frzs:∀ b o u,H b=some (.frz o u)->H' b=some (.frz o u)
 tbls:∀ b ps,H b=some (.tbl ps)->∃ more,H' b=some (.tbl (ps++more))
section
variable {fs fs' ex ex':List ar} {H H1 H2:Hp} {h h1 h2 h':iC} {a x e:ar} {o:HO}
def Un.any(u:Un fs ex H H1 h h1){b:ar}{ob:Obj}(q:h.get? b=some ob)(n:H b=none)(c:b∉ex):∃ sl,h1.get? b=some {ob with slots:=sl}:=by
 by_cases a:b∈fs
 ·exact u.slot b ob q n a c
 ·exact⟨ob.slots,u.keep b ob q n a c⟩
def Un.kept(k:∀ b u,h.get? b=some u->h'.get? b=some u):Un fs ex H H h h' :=
 ⟨λ b a q _ _ _=>k b a q,λ b a q _ _ _=>⟨a.slots,k b a q⟩,λ _ _ _ n _=>n,λ b a q _=>⟨a,k b a q⟩,λ _ _ q=>q,λ _ _ _ q=>q,λ _ c q=>⟨#[],by rw[q];simp⟩⟩
def Un.refl:Un fs ex H H h h:=Un.kept λ _ _ q=>q
def Un.laid(k:∀ b u,h.get? b=some u->h'.get? b=some u)(hp:h.objs.size<=a)(c:H a=none):Un fs ex H (upd H a o) h h' where
 keep:=λ b u q _ _ _=>k b u q
 slot:=λ b u q _ _ _=>⟨u.slots,k b u q⟩
 free:=λ b u q n _=>by rw[kL (dj (cz (cq q) hp))];exact n
 there:=λ b u q _=>⟨u,k b u q⟩
 tups:=λ b d q=>by rw[kL (kJ q c)];exact q
 frzs:=λ b u d q=>by rw[kL (kJ q c)];exact q
 tbls:=λ b f q=>⟨#[],by rw[kL (kJ q c),q];simp⟩
def Un.write(c:Mut (H x))(p:e=x\/H e=some (.own x))(k:∀ b u,b≠e->h.get? b=some u->h'.get? b=some u)(d:∃ u,h'.get? e=some u):Un fs ex H (upd H x o) h h':=by
 have i:∀ b,H b=none->b≠x:=λ b n z=>by subst z;rw[n]at c;exact c
 have g:∀ b,H b=none->b≠e:=λ b n z=>by
  subst z;rcases p with r | r
  ·exact i b n r
  ·rw[n]at r;cases r
 have f:∀ b u,H b=some u->¬ Mut (some u)->b≠x:=λ b u q l z=>by subst z;rw[q]at c;exact l c
 refine⟨λ b u q n _ _=>k b u (g b n) q,λ b u q n _ _=>⟨u.slots,k b u (g b n) q⟩,λ b u q n _=>by rw[kL (i b n)];exact n,λ b u q _=>?_,
  λ b m q=>by rw[kL (f b _ q λ z=>z)];exact q,λ b u m q=>by rw[kL (f b _ q λ z=>z)];exact q,λ b s q=>⟨#[],by rw[kL (f b _ q λ z=>z),q];simp⟩⟩
 by_cases a:b=e
 ·subst a;exact d
 ·exact⟨u,k b u a q⟩
end
def trk(h:iC)(H:Hp):List ar:=(df h.objs.size).filter λ a=>(H a).isSome
def rC(h:iC)(H:Hp):iC:=PySem.W.hideAll h (trk h H)
def kHT(h:iC)(H:Hp):(rC h H).objs.size=h.objs.size:=PySem.W.hideAll_size _ _
def kLH{h:iC}{H:Hp}{b:ar}{o:Obj}(e:h.get? b=some o)(n:H b=none):(rC h H).get? b=some o :=
 PySem.W.hideAll_get _ e λ a=>by
  have q:(H b).isSome=true:=(gn.mp a).2;rw[n]at q;simp at q
def kNG{h:iC}{H:Hp}{b:ar}{o:Obj}(e:(rC h H).get? b=some o):h.get? b=some o/\H b=none:=by
 have a:h.get? b=some o:=PySem.W.of_hideAll (trk h H) e;refine⟨a,?_⟩
 cases q:H b with
 | none=>rfl
 | some x =>
  have c:b∈trk h H:=gn.mpr ⟨fz.mpr (cq a),by simp[q]⟩;have z:(rC h H).get? b=none:=PySem.W.hideAll_none (trk h H) c;rw[z]at e;cases e
structure Mod(K:au)(mg:Str->Option ai)(base:iC):Prop where
 kin:K.In base
 glob:base.Ns eR mg
 blt:∃ mb,base.Ns builtinsNs mb/\∀ x:Str,x≠"__name__"->mb x=bootBuiltins x
 nolimit:base.NoLimit
structure Cx where
 prog:eN
 w:fu
 K:au
 mg:Str->Option ai
 base:iC
 A:ed
 N:List Str
 s₀:ao
 H₀:Hp
 env:Env
 outer:List Env
 stack:List Env
 ex:List ar
 fn:Str->Bool
 calm:Bool
 pn:List (ar×Obj)
 xe:ai->ao->Prop
def frs(l:List Env):List ar:=l.filterMap (·.frame)
abbrev Cx.fs(X:Cx):List ar:=frs X.outer
def Vis(a:uj)(x:Str):Prop:=a.names.lookup x=some .local\/a.names.lookup x=some .cell\/a.names.lookup x=some .free
def Loc(a:uj)(x:Str):Prop:=a.names.lookup x=some .local\/a.names.lookup x=some .cell
def kUC(env:Env)(h:iC)(m:Str->Option ai)(x:Str)(u:ai):Prop :=
 (env.kindOf x=some .local/\m x=some u)\/((env.kindOf x=some .cell\/env.kindOf x=some .free)/\∃ c,env.cells.lookup x=some c/\h.IsCell c (some u))
structure Cx.Ok(X:Cx):Prop where
 mod:Mod X.K X.mg X.base
 kind:X.env.scope.kind=.function
 glob:X.env.globals=eR
 blt:X.env.builtins=builtinsNs
 above:X.s₀.heap.objs.size<=X.env.locals
 inj:∀ x y c,X.env.cells.lookup x=some c->X.env.cells.lookup y=some c->x=y
 has:∀ x,(X.env.kindOf x=some .cell\/X.env.kindOf x=some .free)->∃ c,X.env.cells.lookup x=some c
 cab:∀ x c,X.fn x=true->X.env.cells.lookup x=some c->X.s₀.heap.objs.size<=c
 hd:X.calm=true->X.A.handled=none
 frames:X.A.frames=some X.stack
 stk:X.stack=X.outer\/(X.stack=X.env::X.outer/\X.env.frame=some X.env.locals)
 exf:∀ b∈X.ex,b≠X.env.locals/\∀ x c,X.env.cells.lookup x=some c->c≠b
 bs:∀ b o,X.base.get? b=some o->X.s₀.heap.get? b=some o/\X.H₀ b=none
 bsz:X.base.objs.size<=X.s₀.heap.objs.size
 noex:∀ b o,X.base.get? b=some o->b∉X.ex
 exfs:∀ b∈X.ex,b∉X.fs
 funs:X.s₀.heap.FunFrames X.base X.outer
 frf:∀ b∈X.fs,X.H₀ b=none
structure Inv(X:Cx)(pins:List (ar×Obj))(σ:List (Option V))(H:Hp)(s:ao):Prop where
 ok:X.Ok
 os:s.os=X.s₀.os
 bare:BI s.gens
 base:Un X.fs X.ex X.H₀ H X.s₀.heap s.heap
 loc:∃ m,s.heap.Ns X.env.locals m/\∀(i:Nat)(x:Str)(v:V),X.N[i]?=some x->σ[i]?=some (some v)->Vis X.env.scope x->∃ u,RelV v u/\kUC X.env s.heap m x u
 cell:∀ x c,X.env.cells.lookup x=some c->∃ v,s.heap.IsCell c v
 free:H X.env.locals=none
 freeC:∀ x c,X.env.cells.lookup x=some c->H c=none
 pin:∀ p∈X.pn++pins,s.heap.get? p.1=some p.2/\H p.1=none/\p.1≠X.env.locals/\p.1∉X.fs/\∀ v,p.2.data≠.cell v
 hok:HOk X.prog X.w H s.heap
 len:σ.length=X.N.length
section
variable {X:Cx} {pins:List (ar×Obj)} {σ:List (Option V)} {H H':Hp} {s:ao} {h':iC}
def Cx.Ok.nofr(ok:X.Ok){b:ar}{o:Obj}(e:X.base.get? b=some o):b∉X.fs:=λ a=>by
 have:=(ok.funs.mem a).1;rw[e]at this;cases this
theorem Inv.bs(I:Inv X pins σ H s):∀ b o,X.base.get? b=some o->s.heap.get? b=some o/\H b=none:=λ b o e =>
 ⟨I.base.keep b o (I.ok.bs b o e).1 (I.ok.bs b o e).2 (I.ok.nofr e) (I.ok.noex b o e),I.base.free b o (I.ok.bs b o e).1 (I.ok.bs b o e).2 (I.ok.noex b o e)⟩
def Inv.bk(I:Inv X pins σ H s):∀ b o,X.base.get? b=some o->s.heap.get? b=some o:=λ b o e=>(I.bs b o e).1
theorem Inv.mod(I:Inv X pins σ H s):Mod X.K X.mg X.base:=I.ok.mod
def Inv.kIn(I:Inv X pins σ H s):X.K.In s.heap:=I.ok.mod.kin.keeps I.bk
theorem Inv.lt(I:Inv X pins σ H s):X.env.locals<s.heap.objs.size:=let ⟨_,hn,_⟩:=I.loc;hn.lt
def Inv.sz(I:Inv X pins σ H s):X.s₀.heap.objs.size<=s.heap.objs.size:=gx I.ok.above (ka I.lt)
def Inv.nofs(I:Inv X pins σ H s){a:ar}(h:s.heap.objs.size<=a):a∉X.fs:=λ c=>by
 obtain⟨_,o,b,_⟩:=I.ok.funs.mem c;exact absurd (cz (cq b) (gx I.sz h)) (jx _)
def Inv.cne(I:Inv X pins σ H s):∀ x c,X.env.cells.lookup x=some c->c≠X.env.locals:=λ x c e z=>by
 obtain⟨v,o,d,f⟩:=I.cell x c e;obtain⟨m,⟨h,i,g,b,a,_⟩,_⟩:=I.loc;rw[z,b]at d;cases d;rw[a]at f;cases f
theorem Inv.funs(I:Inv X pins σ H s):s.heap.FunFrames X.base X.outer:=by
 have all:∀(l:List Env),(∀ b∈frs l,b∈X.fs)->X.s₀.heap.FunFrames X.base l->s.heap.FunFrames X.base l:=by
  intro l
  induction l with
  | nil=>intro _ _;trivial
  | cons env r ih =>
   intro f i;obtain⟨g,⟨L,o,d,n,m,p⟩,h⟩:=i;have a:L∈X.fs:=f L (by unfold frs;rw[Aa,d];exact eW);obtain⟨q,e⟩:=I.base.slot L o m (I.ok.frf L a) a λ z=>I.ok.exfs L z a;exact⟨g,⟨L,_,d,n,e,p⟩,ih (λ b c=>f b (by unfold frs;rw[Aa,d];exact dc _ c)) h⟩
 exact all X.outer (λ _ c=>c) I.ok.funs
theorem Inv.stack(I:Inv X pins σ H s):s.heap.FunFrames X.base X.stack:=by
 rcases I.ok.stk with e | ⟨e,a⟩
 ·rw[e];exact I.funs
 ·rw[e]
  obtain⟨m,b,_⟩:=I.loc;refine .cons (by rw[I.ok.kind];decide) a b ?_ I.funs;exact Heap.get?_none_of_le (gx I.ok.bsz I.ok.above)
def Inv.stkSub(I:Inv X pins σ H s):∀ b∈frs X.stack,b∈X.env.locals::X.fs:=λ b a=>by
 rcases I.ok.stk with e | ⟨e,c⟩
 ·rw[e]at a;exact dc _ a
 ·rw[e]at a
  unfold frs at a;rw[Aa,c]at a;exact a
def Inv.stkFree(I:Inv X pins σ H s):∀ b∈frs X.stack,H b=none:=λ b a=>by
 rcases cn.mp (I.stkSub b a) with e | a
 ·rw[e];exact I.free
 ·obtain⟨_,o,c,_⟩:=I.ok.funs.mem a
  exact I.base.free b o c (I.ok.frf b a) λ z=>I.ok.exfs b z a
def Inv.step{g':Array GenState}{t':Nat}{d':Drawn}{ch:List ar}(I:Inv X pins σ H s)
  (y:∀ b∈ch,(b∈X.ex\/X.s₀.heap.objs.size<=b)/\b≠X.env.locals/\(∀ x c,X.env.cells.lookup x=some c->c≠b)/\∀ p∈X.pn++pins,p.1≠b)
  (keep:∀ b o,b≠X.env.locals->b∉X.fs->b∉ch->s.heap.get? b=some o->H b=none->h'.get? b=some o)
  (A:∀ b o,b≠X.env.locals->b∈X.fs->b∉ch->s.heap.get? b=some o->H b=none->∃ sl,h'.get? b=some {o with slots:=sl}) (free:∀ b o,b∉ch->s.heap.get? b=some o->H b=none->H' b=none)
  (f:∀ b o,b∉ch->s.heap.get? b=some o->∃ o',h'.get? b=some o')
  (J:∀ b xs,H b=some (.tup xs)->H' b=some (.tup xs)) (G:∀ b o u,H b=some (.frz o u)->H' b=some (.frz o u)) (D:∀ b ps,H b=some (.tbl ps)->∃ more,H' b=some (.tbl (ps++more)))
  (ns:∀ m,s.heap.Ns X.env.locals m->h'.Ns X.env.locals m) (T:HOk X.prog X.w H' h') (Z:BI g') :
  Inv X pins σ H' {s with heap:=h',gens:=g',drawn:=d',toks:=t'}:=by
 have O:∀ b o,X.s₀.heap.get? b=some o->b≠X.env.locals:=λ b o e=>dj (cz (cq e) I.ok.above)
 have C:∀ b o,X.s₀.heap.get? b=some o->b∉X.ex->b∉ch:=λ b o e a L=>by
  rcases(y b L).1 with z | z
  ·exact a z
  ·exact absurd (cz (cq e) z) (jx _)
 have g:∀ x c,X.env.cells.lookup x=some c->∀ v,s.heap.IsCell c v->h'.IsCell c v:=λ x c e v ⟨o,M,S⟩=>by
  have h:c∉ch:=λ z=>(y c z).2.2.1 x c e rfl;by_cases U:c∈X.fs
  ·obtain⟨sl,q⟩:=A c o (I.cne x c e) U h M (I.freeC x c e)
   exact⟨_,q,S⟩
  ·exact⟨o,keep c o (I.cne x c e) U h M (I.freeC x c e),S⟩
 refine⟨I.ok,I.os,Z,⟨λ b o e n L a=>?_,λ b o e n L a=>?_,λ b o e n a=>?_,λ b o e a=>?_,λ b xs e=>J b xs (I.base.tups b xs e),λ b o xs e=>G b o xs (I.base.frzs b o xs e),λ b ps e=>?_⟩,?_,λ x c e=>?_,?_,λ x c e=>?_,λ p hp=>?_,T,I.len⟩
 ·exact keep b o (O b o e) L (C b o e a) (I.base.keep b o e n L a) (I.base.free b o e n a)
 ·obtain⟨sl,B⟩:=I.base.slot b o e n L a
  obtain⟨Q,N⟩:=A b _ (O b o e) L (C b o e a) B (I.base.free b o e n a);exact⟨Q,N⟩
 ·obtain⟨o',B⟩:=I.base.there b o e a
  exact free b o' (C b o e a) B (I.base.free b o e n a)
 ·obtain⟨o',B⟩:=I.base.there b o e a
  exact f b o' (C b o e a) B
 ·obtain⟨m1,B⟩:=I.base.tbls b ps e
  obtain⟨m2,N⟩:=D b _ B;exact⟨m1++m2,by rw[N,Array.append_assoc]⟩
 ·obtain⟨m,hn,hl⟩:=I.loc
  refine⟨m,ns m hn,λ i x v B N e3=>?_⟩;obtain⟨u,r,l⟩:=hl i x v B N e3;refine⟨u,r,?_⟩;rcases l with l | ⟨k,c,e,z⟩
  ·exact .inl l
  ·exact .inr ⟨k,c,e,g x c e _ z⟩
 ·obtain⟨v,z⟩:=I.cell x c e
  exact⟨v,g x c e v z⟩
 ·obtain⟨m,⟨o,_,_,M,_⟩,_⟩:=I.loc
  exact free _ o (λ z=>(y _ z).2.1 rfl) M I.free
 ·obtain⟨v,o,M,S⟩:=I.cell x c e
  exact free c o (λ z=>(y c z).2.2.1 x c e rfl) M (I.freeC x c e)
 ·obtain⟨e,n,Y,nf,d⟩:=I.pin p hp
  have h:p.1∉ch:=λ z=>(y p.1 z).2.2.2 p hp rfl;exact⟨keep p.1 p.2 Y nf h e n,free p.1 p.2 h e n,Y,nf,d⟩
def Inv.un{t':Nat}(I:Inv X pins σ H s)(u:Un X.fs [] H H' s.heap h')(g:HOk X.prog X.w H' h'):Inv X pins σ H' {s with heap:=h',toks:=t'}:=by
 obtain⟨m,⟨o,x,v,h,r⟩,_⟩:=id I.loc;obtain⟨y,i⟩:=u.any h I.free (by simp)
 exact I.step (g':=s.gens) (d':=s.drawn) (ch:=[]) (λ _ z=>nomatch z) (λ b o _ c _ e n=>u.keep b o e n c (by simp)) (λ b o _ c _ e n=>u.slot b o e n c (by simp)) (λ b o _ e n=>u.free b o e n (by simp)) (λ b o _ e=>u.there b o e (by simp)) u.tups u.frzs u.tbls (λ q l=>by
  obtain⟨A,f,d,a,p⟩:=l;rw[h]at a;cases a;exact⟨_,f,d,i,p⟩) g I.bare
def Inv.call{g':Array GenState}{t':Nat}{d':Drawn}{ch:List ar}(I:Inv X pins σ H s)(u:Un (frs X.stack) ch H H' s.heap h')(l:HOk X.prog X.w H' h')(y:BI g')
  (f:∀ b∈ch,(b∈X.ex\/X.s₀.heap.objs.size<=b)/\b≠X.env.locals/\(∀ x c,X.env.cells.lookup x=some c->c≠b)/\∀ p∈X.pn++pins,p.1≠b) :
  Inv X pins σ H' {s with heap:=h',gens:=g',drawn:=d',toks:=t'}:=by
 obtain⟨m,⟨o,G,D,q,r⟩,_⟩:=id I.loc;obtain⟨J,h⟩:=u.any q I.free λ z=>(f _ z).2.1 rfl
 exact I.step (ch:=ch) f (λ b o h v a e n=>u.keep b o e n (λ z=>(cn.mp (I.stkSub b z)).elim h v) a) (λ b o _ _ a e n=>u.any e n a) (λ b o a e n=>u.free b o e n a) (λ b o a e=>u.there b o e a) u.tups u.frzs u.tbls (λ C A=>by
  obtain⟨L,i,g,d,B⟩:=A;rw[q]at d;cases d;exact⟨_,i,g,h,B⟩) l y
def Inv.turned{t':Nat}{it:ar}(I:Inv X pins σ H s)(k:∀ b o,b≠it->s.heap.get? b=some o->h'.get? b=some o)(B:H it=none)(f:it≠X.env.locals)
  (h1:it∈X.ex\/X.s₀.heap.objs.size<=it) (i:∀ x c,X.env.cells.lookup x=some c->c≠it) (A:∀ p∈X.pn++pins,p.1≠it):Inv X pins σ H {s with heap:=h',toks:=t'}:=by
 have d:∀ b u,H b=some u->b≠it:=λ b u e z=>by rw[z,B]at e;cases e
 refine I.step (g':=s.gens) (d':=s.drawn) (ch:=[it]) (λ b g=>?_) (λ b o _ _ a e _=>k b o (λ z=>a (by simp[z])) e) (λ b o _ _ a e _=>⟨o.slots,k b o (λ z=>a (by simp[z])) e⟩) (λ _ _ _ _ n=>n)
  (λ b o a e=>⟨o,k b o (λ z=>a (by simp[z])) e⟩) (λ _ _ e=>e) (λ _ _ _ e=>e) (λ b D e=>⟨#[],by rw[e];simp⟩) (λ m l=>?_) (λ b u e=>?_) I.bare
 ·have e:b=it:=by simpa using g
  subst e;exact⟨h1,f,i,A⟩
 ·obtain⟨o,C,h,y,r⟩:=l
  exact⟨o,C,h,k _ o (qe f) y,r⟩
 ·refine(I.hok b u e).stay (λ c v a q=>k c v ?_ q) (λ _ q=>q) λ _ _ q=>q
  rcases a with z | z
  ·rw[z];exact d b u e
  ·exact d c _ z
def Inv.tok(I:Inv X pins σ H s)(t:Nat):Inv X pins σ H {s with toks:=t}:=I.un (h':=s.heap) (t':=t) Un.refl I.hok
theorem Inv.kept{t':Nat}(I:Inv X pins σ H s)(k:∀ b u,s.heap.get? b=some u->h'.get? b=some u):Inv X pins σ H {s with heap:=h',toks:=t'}:=I.un (Un.kept k) (I.hok.kept k)
theorem Inv.laid{a:ar}{o:HO}{t':Nat}(I:Inv X pins σ H s)(k:∀ b u,s.heap.get? b=some u->h'.get? b=some u)(hp:s.heap.objs.size<=a)(new:ObjOk X.prog X.w (upd H a o) h' a o) :
  Inv X pins σ (upd H a o) {s with heap:=h',toks:=t'}:=I.un (Un.laid k hp (I.hok.fresh hp)) (I.hok.laid k hp new)
theorem Inv.write{x e:ar}{o:HO}{t':Nat}(I:Inv X pins σ H s)(c:Mut (H x))(d:e=x\/H e=some (.own x))(k:∀ b u,b≠e->s.heap.get? b=some u->h'.get? b=some u)(a:∃ u,h'.get? e=some u)
  (new:ObjOk X.prog X.w (upd H x o) h' x o):Inv X pins σ (upd H x o) {s with heap:=h',toks:=t'}:=I.un (Un.write c d k a) (I.hok.write c d k a new)
def Inv.pins_of{a:List (ar×Obj)}(I:Inv X pins σ H s)(h:∀ p∈a,s.heap.get? p.1=some p.2/\H p.1=none/\p.1≠X.env.locals/\p.1∉X.fs/\∀ v,p.2.data≠.cell v):Inv X a σ H s :=
 ⟨I.ok,I.os,I.bare,I.base,I.loc,I.cell,I.free,I.freeC,λ p hp=>(bp.mp hp).elim (λ z=>I.pin p (cf _ z)) (h p),I.hok,I.len⟩
def kAA{N:List Str}(c:N.Nodup){i j:Nat}{x:Str}(a:N[i]?=some x)(b:N[j]?=some x):i=j:=by
 obtain⟨h1,d⟩:=ag.mp a;obtain⟨g,f⟩:=ag.mp b;exact(uk c).mp (d.trans f.symm)
def mR{M:xu}{A:ed}{E:ai->ao->Prop}{i:Nat}{x:Str}{v:V}{u:ai}{Q:Unit->ao->Prop}(I:Inv X pins σ H s)(hN:X.N.Nodup)(hi:X.N[i]?=some x)(C:Loc X.env.scope x)(r:RelV v u)
  (h:∀ s',Inv X pins (σ.set i (some v)) H s'->(∃ a,km a s.heap s'.heap/\(a=X.env.locals\/X.env.cells.lookup x=some a))->Q () s') (hf:X.fn x=true\/X.env.scope.names.lookup x=some .local:=by first | exact .inl rfl | exact .inr rfl | assumption):eK M A (storeName X.env x u) Q E s:=by
 obtain⟨m,hn,hl⟩:=id I.loc;have a2:(X.env.scope.kind == .class || (X.env.scope.kind == .module && X.env.locals != X.env.globals))=false:=by rw[I.ok.kind];rfl
 have L:i<σ.length:=by rw[I.len];exact(ag.mp hi).1
 have cne:=I.cne
 have l:∀{a:ar}{U:iC},(∃ o,s.heap.get? a=some o/\H a=none)->km a s.heap U->HOk X.prog X.w H U:=λ{a U} ha f b ob e=>by
  obtain⟨_,_,D⟩:=ha;refine(I.hok b ob e).stay (λ c w' B q=>(f.2 c ?_).trans q) (λ _ q=>q) λ _ _ q=>q;rintro rfl;rcases B with rfl | B
  ·rw[D]at e;cases e
  ·rw[D]at B;cases B
 rcases C with J | J
 ·refine wpAny_storeName_local J hn (λ U a4 f=>?_) a2
  obtain⟨oL,_,_,a3,_⟩:=id hn;refine h _ ⟨I.ok,I.os,I.bare,⟨λ b o e n O C=>?_,λ b o e n O C=>?_,I.base.free,λ b o e C=>?_,I.base.tups,I.base.frzs,I.base.tbls⟩,⟨_,a4,λ j y v' g G e3=>?_⟩,λ y c e=>?_,I.free,I.freeC,λ p hp=>?_,l ⟨oL,a3,I.free⟩ f,by simpa using I.len⟩ ⟨_,f,.inl rfl⟩
  ·exact(f.2 b (dj (cz (cq e) I.ok.above))).trans (I.base.keep b o e n O C)
  ·obtain⟨sl,g⟩:=I.base.slot b o e n O C
   exact⟨sl,(f.2 b (dj (cz (cq e) I.ok.above))).trans g⟩
  ·obtain⟨o',g⟩:=I.base.there b o e C
   exact⟨o',(f.2 b (dj (cz (cq e) I.ok.above))).trans g⟩
  ·by_cases S:j=i
   ·subst S
    rw[hi]at g;cases g;rw[gy L]at G;cases G
    exact⟨u,r,.inl ⟨J,by simp⟩⟩
   ·rw[eB (qe S)]at G
    obtain⟨u',r',q⟩:=hl j y v' g G e3;refine⟨u',r',?_⟩;rcases q with⟨k,e⟩ | ⟨k,c,e,z⟩
    ·refine .inl ⟨k,?_⟩
     have:y≠x:=λ e=>S (kAA hN g (e ▸ hi));simp[this,e]
    ·exact .inr ⟨k,c,e,z.sameBut f (cne y c e)⟩
  ·obtain⟨w',z⟩:=I.cell y c e
   exact⟨w',z.sameBut f (cne y c e)⟩
  ·obtain⟨e,n,ne,nf,d⟩:=I.pin p hp
   exact⟨(f.2 p.1 ne).trans e,n,ne,nf,d⟩
 ·have T:X.fn x=true:=by
   rcases hf with z | z
   ·exact z
   ·rw[z]at J;cases J
  obtain⟨c,B⟩:=I.ok.has x (.inl J);obtain⟨w',z⟩:=I.cell x c B;refine wpAny_storeName_cell I.ok.kind J B z (λ U a0 f=>?_);obtain⟨oc,Z,a1⟩:=id z;refine h {s with heap:=U} ⟨I.ok,I.os,I.bare,⟨λ b o e n O C=>?_,λ b o e n O C=>?_,I.base.free,λ b o e C=>?_,I.base.tups,I.base.frzs,I.base.tbls⟩,⟨m,hn.sameBut f (qe (cne x c B)),λ j y v' g G e3=>?_⟩,λ y c' e=>?_,I.free,I.freeC,λ p hp=>?_,l ⟨oc,Z,I.freeC x c B⟩ f,by simpa using I.len⟩ ⟨c,f,.inr B⟩
  ·exact(f.2 b (dj (cz (cq e) (I.ok.cab x c T B)))).trans (I.base.keep b o e n O C)
  ·obtain⟨sl,g⟩:=I.base.slot b o e n O C
   exact⟨sl,(f.2 b (dj (cz (cq e) (I.ok.cab x c T B)))).trans g⟩
  ·obtain⟨o',g⟩:=I.base.there b o e C
   exact⟨o',(f.2 b (dj (cz (cq e) (I.ok.cab x c T B)))).trans g⟩
  ·by_cases S:j=i
   ·subst S
    rw[hi]at g;cases g;rw[gy L]at G;cases G
    exact⟨u,r,.inr ⟨.inl J,c,B,a0⟩⟩
   ·rw[eB (qe S)]at G
    obtain⟨u',r',q⟩:=hl j y v' g G e3;refine⟨u',r',?_⟩;rcases q with q | ⟨k,c',e,z'⟩
    ·exact .inl q
    ·refine .inr ⟨k,c',e,z'.sameBut f ?_⟩
     rintro rfl;exact S (kAA hN g (I.ok.inj _ _ _ e B ▸ hi))
  ·by_cases Y:c'=c
   ·subst Y;exact⟨_,a0⟩
   ·obtain⟨w2,z2⟩:=I.cell y c' e
    exact⟨w2,z2.sameBut f Y⟩
  ·obtain⟨e,n,ne,nf,d⟩:=I.pin p hp
   refine⟨(f.2 p.1 ?_).trans e,n,ne,nf,d⟩;intro q;rw[q,Z]at e;have q':oc=p.2:=bj e;exact d w' (by rw[<-q'];exact a1)
def sH{M:xu}{A:ed}{E:ai->ao->Prop}{i:Nat}{x:Str}{v:V}{u:ai}{Q:Unit->ao->Prop}(I:Inv X pins σ H s)(d:X.N.Nodup)(hi:X.N[i]?=some x)(c:Loc X.env.scope x)(r:RelV v u)
  (h:∀ s',Inv X pins (σ.set i (some v)) H s'->Q () s') (a:X.fn x=true\/X.env.scope.names.lookup x=some .local:=by first | exact .inl rfl | exact .inr rfl | assumption):eK M A (storeName X.env x u) Q E s :=
 mR I d hi c r (λ s' b _=>h s' b) a
def Inv.call'{a:ao}{ch:List ar}(I:Inv X pins σ H s)(l:a.os=s.os)(u:Un (frs X.stack) ch H H' s.heap a.heap)(f:HOk X.prog X.w H' a.heap)(n:BI a.gens)
  (d:∀ b∈ch,(b∈X.ex\/X.s₀.heap.objs.size<=b)/\b≠X.env.locals/\(∀ x c,X.env.cells.lookup x=some c->c≠b)/\∀ p∈X.pn++pins,p.1≠b):Inv X pins σ H' a:=by
 obtain⟨o,g,h,i,m⟩:=a;have e:m=s.os:=l;subst e;exact I.call (g':=g) (t':=i) (d':=h) u f n d
end
abbrev XK:=ai->Option ar->Hp->Prop
abbrev St:=List (Option V)
abbrev VK:=V->Hp->Prop
abbrev TE:=St->Hp->VK->Prop
abbrev TT:=St->Hp->(Bool->Hp->Prop)->Prop
abbrev TA:=St->Hp->(List V->Hp->Prop)->Prop
structure Ends where
 nx:St->Hp->Prop
 rt:VK
 bk:St->Hp->Prop:=λ _ _=>False
 ct:St->Hp->Prop:=λ _ _=>False
abbrev TS:=Ends->St->Hp->Prop
def EP(X:Cx)(a:List (ar×Obj))(d:St)(Q:VK)(u:ai)(c:ao):Prop:=∃ v b,Inv X a d b c/\RelV v u/\Q v b
def TP(X:Cx)(a:List (ar×Obj))(d:St)(Q:Bool->Hp->Prop)(b:Bool)(f:ao):Prop:=∃ c,Inv X a d c f/\Q b c
def AP(X:Cx)(a:List (ar×Obj))(f:St)(Q:List V->Hp->Prop)(g:List ai)(d:ao):Prop:=∃ b c,Inv X a f c d/\Vals b g/\Q b c
def SP(X:Cx)(b:List (ar×Obj))(D:Ends)(f:Flow)(d:ao):Prop :=
 match f with
 | .next=>∃ a c,Inv X b a c d/\D.nx a c
 | .brk=>∃ a c,Inv X b a c d/\D.bk a c
 | .cont=>∃ a c,Inv X b a c d/\D.ct a c
 | .ret u=>∃ v a c,Inv X b a c d/\RelV v u/\D.rt v c
def PE(X:Cx)(e:iA)(t:TE):Prop :=
 ∀(pins:List (ar×Obj))(s:ao)(σ:St)(H:Hp)(Q:VK),Inv X pins σ H s->t σ H Q->eK (model X.prog X.w) X.A (eval e X.env) (EP X pins σ Q) X.xe s
def PT(X:Cx)(e:iA)(t:TT):Prop :=
 ∀(pins:List (ar×Obj))(s:ao)(σ:St)(H:Hp)(Q:Bool->Hp->Prop),Inv X pins σ H s->t σ H Q->eK (model X.prog X.w) X.A (isTrue e X.env (eval e X.env)) (TP X pins σ Q) X.xe s
def PW(X:Cx)(e:iA)(t:TT):Prop :=
 ∀(wU:Sem ai)(pins:List (ar×Obj))(s:ao)(σ:St)(H:Hp)(Q:Bool->Hp->Prop),Inv X pins σ H s->t σ H Q->eK (model X.prog X.w) X.A (isTrue e X.env wU) (TP X pins σ Q) X.xe s
def PW.pt{X:Cx}{e:iA}{t:TT}(h:PW X e t):PT X e t:=h _
def PA(X:Cx)(b:List iA)(t:TA):Prop :=
 ∀(a:Pos)(pins:List (ar×Obj))(s:ao)(σ:St)(H:Hp)(Q:List V->Hp->Prop),Inv X pins σ H s->t σ H Q->eK (model X.prog X.w) X.A (spliced (backTo a (starEach b X.env))) (AP X pins σ Q) X.xe s
def PS(X:Cx)(st:ja)(t:TS):Prop :=
 ∀(pins:List (ar×Obj))(s:ao)(σ:St)(H:Hp)(D:Ends),Inv X pins σ H s->t D σ H->eK (model X.prog X.w) X.A (exec st X.env) (SP X pins D) X.xe s
def PSs(X:Cx)(st:List ja)(t:TS):Prop :=
 ∀(pins:List (ar×Obj))(s:ao)(σ:St)(H:Hp)(D:Ends),Inv X pins σ H s->t D σ H->eK (model X.prog X.w) X.A (execs st X.env) (SP X pins D) X.xe s
def thn{α:Type}{t:Sem α}{Q b:α->ao->Prop}{M:xu}{A:ed}{E:ai->ao->Prop}{s:ao}(h:eK M A t Q E s)(c:∀ a s,Q a s->b a s):eK M A t b E s:=uo h c λ _ _ x=>x
section
variable {X:Cx}
inductive vC(i:Nat)(σ:St)(H:Hp)(Q:VK):Prop
 | mk:∀ v,(σ[i]?=some (some v))->(Q v H)->vC i σ H Q
def tC(v:V):TE:=λ _ H Q=>Q v H
def kPY{i:Nat}{x:Str}{g:Pos}(q:X.N[i]?=some x)(y:Vis X.env.scope x)(o:(x == ("__debug__" : Str))=false:=by decide)(n:(x == ("__classdict__" : Str))=false:=by decide):PE X (.Name x g) (vC i):=by
 intro f s A H Q I h;obtain⟨v,e,h⟩:=h;obtain⟨m,B,D⟩:=I.loc;obtain⟨u,r,l⟩:=D i x v q e y;have d:EP X f A Q u s:=⟨v,H,I,r,h⟩;rcases l with⟨b,C⟩ | ⟨b,c,p,a⟩
 ·exact EN (wpAny_loadName_local I.ok.kind b B C d) o
 ·rcases b with b | b
  ·exact EN (wpAny_loadName_cell I.ok.kind b p a d) o
  ·exact EN (wpAny_loadName_free I.ok.kind b p a d n) o
def kO {i j pos}:PE X (.Constant (.int i) j pos) (tC (.int i)):=λ _ _ _ H _ I h=>wpAny_Constant_int ⟨.int i,H,I.tok _,⟨_,rfl⟩,h⟩
def vI {b j pos}:PE X (.Constant (.bool b) j pos) (tC (.bl b)):=λ _ _ _ H _ I h=>Constant_bool ⟨.bl b,H,I,rfl,h⟩
def kKI {j pos}:PE X (.Constant .none j pos) (tC .non):=λ _ _ _ H _ I h=>Constant_none ⟨.non,H,I,rfl,h⟩
def Gl(X:Cx)(x:Str):Prop:=X.env.kindOf x=some .globalImplicit
def kFD{E:ai->ao->Prop}{a:List (ar×Obj)}{s:ao}{d:St}{H:Hp}{x:Str}{u:ai}{b:Pos}{Q:ai->ao->Prop}(I:Inv X a d H s)(f:Gl X x)(c:X.mg x=some u)(h:Q u s)
  (g:(x == ("__debug__" : Str))=false:=by decide):eK (model X.prog X.w) X.A (eval (.Name x b) X.env) Q E s :=
 Ak I.ok.kind f (Calls.loadGlobal_global (by rw[I.ok.glob];exact I.mod.glob.keeps I.bk) c h) g
def cA{E:ai->ao->Prop}{a:List (ar×Obj)}{s:ao}{f:St}{H:Hp}{x:Str}{u:ai}{b:Pos}{Q:ai->ao->Prop}(I:Inv X a f H s)(g:Gl X x)(d:X.mg x=none)(l:bootBuiltins x=some u)(h:Q u s)
  (i:x≠"__name__":=by decide) (m:(x == ("__debug__" : Str))=false:=by decide):eK (model X.prog X.w) X.A (eval (.Name x b) X.env) Q E s:=by
 obtain⟨n,h1,c⟩:=I.mod.blt;exact Ak I.ok.kind g (Calls.loadGlobal_builtin (by rw[I.ok.glob];exact I.mod.glob.keeps I.bk) d (by rw[I.ok.blt];exact h1.keeps I.bk) ((c x i).trans l) h) m
def kEU{x:Str}{v:V}{u:ai}{a:Pos}(c:Gl X x)(b:X.mg x=some u)(r:RelV v u)(d:(x == ("__debug__" : Str))=false:=by decide):PE X (.Name x a) (tC v) :=
 λ _ _ _ H _ I h=>kFD I c b ⟨v,H,I,r,h⟩ d
def dZ{x:Str}{v:V}{u:ai}{a:Pos}(c:Gl X x)(b:X.mg x=none)(f:bootBuiltins x=some u)(r:RelV v u)(d:x≠"__name__":=by decide)(g:(x == ("__debug__" : Str))=false:=by decide):PE X (.Name x a) (tC v) :=
 λ _ _ _ H _ I h=>cA I c b f ⟨v,H,I,r,h⟩ d g
variable {a b:iA} {ta tb:TE} {pos:Pos}
def PC(X:Cx)(f:FV)(a b:iA)(t:TE):Prop :=
 ∀(pins:List (ar×Obj))(s:ao)(σ:St)(H:Hp)(Q:VK),Inv X pins σ H s->t σ H Q ->
  eK (model X.prog X.w) X.A (eval a X.env) (λ v d=>eK (model X.prog X.w) X.A (eval b X.env) (λ u c=>eK (model X.prog X.w) X.A (compareOp f v u) (EP X pins σ Q) X.xe c) X.xe d) X.xe s
inductive tBY(Q:Bool->Hp->Prop)(x:V)(H1:Hp):Prop
 | mk:∀ c,(x=.bl c)->(Q c H1)->tBY Q x H1
def tB(t:TE):TT:=λ b H Q=>t b H λ x a=>tBY Q x a
def kQA{d:FV}{t:TE}(h:PC X d a b t)(h1:behindInMarks d b=false:=by first | exact nobehind _ (by decide) (by decide) | rfl):PE X (.Compare a [d] [b] pos) t:=λ c s g H Q I f=>EO (h c s g H Q I f) h1
def kCE{g:FV}{t:TE}(h:PC X g a b t)(h1:behindInMarks g b=false:=by first | exact nobehind _ (by decide) (by decide) | rfl):PT X (.Compare a [g] [b] pos) (tB t):=by
 intro f s m H Q I l;refine CI (thn (h f s m H _ I l) λ v A h1=>thn h1 λ u y p=>thn p λ c B ⟨x,o,n,i,r⟩=>?_) h1;obtain⟨d,rfl,q⟩:=r;cases i
 exact jc ⟨o,n,q⟩
def wE{e:iA}{t:TE}(h:PE X e t)(m:∀ wU,isTrue e X.env wU=(do let v <-wU;standAt e.pos;holding [v] (truthy v)):=by intro _;rfl):PT X e (tB t):=by
 intro a s l H Q I g;refine isTrue_plain (thn (h a s l H _ I g) λ v n ⟨x,b,f,c,i⟩=>?_) (m _);obtain⟨d,rfl,q⟩:=i;cases c
 exact jc ⟨b,f,q⟩
variable {tA tB':TT} {rest:List iA}
def kTQ(t u:TT):TT:=λ b H Q=>t b H λ c a=>if c=true then u b a Q else Q false a
def tOr(t u:TT):TT:=λ b H Q=>t b H λ c a=>if c=true then Q true a else u b a Q
def kTL(t:TT):TT:=λ b H Q=>t b H λ c a=>Q (!c) a
def kMW(f:PT X a tA):PW X (.BoolOp .And [a] pos) tA:=by
 intro i b s d H Q I h;refine isTrue_and (thn (f b s d H Q I h) λ c g e=>?_)
 cases c with
 | true=>exact isTrue_and_nil e
 | false=>exact e
def kPS(f:PT X a tA):PW X (.BoolOp .Or [a] pos) tA:=by
 intro i b s d H Q I h;refine isTrue_or (thn (f b s d H Q I h) λ c g e=>?_)
 cases c with
 | false=>exact isTrue_or_nil e
 | true=>exact e
def kPT(o:PT X a tA)(m:PW X (.BoolOp .And (b::rest) pos) tB'):PW X (.BoolOp .And (a::b::rest) pos) (kTQ tA tB'):=by
 intro p d s l H Q I h;refine isTrue_and (thn (o d s l H _ I h) λ c n ⟨f,g,i⟩=>?_)
 cases c with
 | true=>exact m p d n l f Q g i
 | false=>exact⟨f,g,i⟩
def kSD(o:PT X a tA)(m:PW X (.BoolOp .Or (b::rest) pos) tB'):PW X (.BoolOp .Or (a::b::rest) pos) (tOr tA tB'):=by
 intro p d s l H Q I h;refine isTrue_or (thn (o d s l H _ I h) λ c n ⟨f,g,i⟩=>?_)
 cases c with
 | true=>exact⟨f,g,i⟩
 | false=>exact m p d n l f Q g i
def vG(g:PT X a tA):PT X (.UnaryOp .Not a pos) (kTL tA):=by
 intro b s f H Q I h;exact isTrue_not (g b s f H (λ c d=>Q (!c) d) I h)
inductive kJC(tb:TE)(σ:St)(Q:VK)(x:V)(H1:Hp):Prop
 | mk:∀ c,(x=.bl c)->(if c=true then tb σ H1 Q else Q (.bl false) H1)->kJC tb σ Q x H1
def kJD(c d:TE):TE:=λ a H Q=>c a H λ x b=>kJC d a Q x b
inductive kIZ(tb:TE)(σ:St)(Q:VK)(x:V)(H1:Hp):Prop
 | mk:∀ c,(x=.bl c)->(if c=true then Q (.bl true) H1 else tb σ H1 Q)->kIZ tb σ Q x H1
def kTK(c d:TE):TE:=λ a H Q=>c a H λ x b=>kIZ d a Q x b
inductive kJA(Q:VK)(x:V)(H1:Hp):Prop
 | mk:∀ c,(x=.bl c)->(Q (.bl (!c)) H1)->kJA Q x H1
def kRP(b:TE):TE:=λ c H Q=>b c H λ x a=>kJA Q x a
def uP {op} {t:TE} (h:PE X a t):PE X (.BoolOp op [a] pos) t:=λ b s d H Q I c=>BoolOp_one (h b s d H Q I c)
def vJ(p:PE X a ta)(m:PE X (.BoolOp .And (b::rest) pos) tb):PE X (.BoolOp .And (a::b::rest) pos) (kJD ta tb):=by
 intro d s l H Q I h;refine BoolOp_and (thn (p d s l H _ I h) λ v o ⟨x,g,i,n,f⟩=>?_);obtain⟨c,rfl,f⟩:=f;cases n
 refine jc ?_
 cases c with
 | true=>exact m d o l g Q i f
 | false=>exact⟨.bl false,g,i,rfl,f⟩
def kOQ(p:PE X a ta)(m:PE X (.BoolOp .Or (b::rest) pos) tb):PE X (.BoolOp .Or (a::b::rest) pos) (kTK ta tb):=by
 intro d s l H Q I h;refine BoolOp_or (thn (p d s l H _ I h) λ v o ⟨x,g,i,n,f⟩=>?_);obtain⟨c,rfl,f⟩:=f;cases n
 refine jc ?_
 cases c with
 | false=>exact m d o l g Q i f
 | true=>exact⟨.bl true,g,i,rfl,f⟩
def kPZ(m:PE X a ta):PE X (.UnaryOp .Not a pos) (kRP ta):=by
 intro b s l H Q I h;refine UnaryOp_ (thn (m b s l H _ I h) λ v n ⟨x,f,i,g,d⟩=>?_);obtain⟨c,rfl,d⟩:=d;cases g
 exact not_of (jc ⟨.bl (!c),f,i,rfl,d⟩)
def tIf(t:TT)(d f:TE):TE:=λ a H Q=>t a H λ c b=>if c=true then d a b Q else f a b Q
def gB{c:iA}(p:PT X c tA)(q:PE X a ta)(o:PE X b tb):PE X (.IfExp c a b pos) (tIf tA ta tb):=by
 intro f s g H Q I h;refine wpAny_IfExp (thn (p f s g H _ I h) λ d m ⟨i,l,n⟩=>?_)
 cases d with
 | true=>exact q f m g i Q l n
 | false=>exact o f m g i Q l n
end
def SqL(K:au)(H:Hp)(a:ar)(xs:List V):Prop :=
 Rd H a (.lst xs) \/
  ∃(o:Obj)(b:Array ai)(n:Nat),K.lookup a=some o/\o.cls=.type "list"/\o.dict=none/\o.data=.seq b n/\b.size<=sizeLine/\Vals xs b.toList
def SqT(K:au)(H:Hp)(a:ar)(xs:List V):Prop :=
 Rd H a (.tup xs) \/
  ∃(o:Obj)(b:Array ai)(n:Nat),K.lookup a=some o/\o.cls=.type "tuple"/\o.data=.seq b n/\b.size<=sizeLine/\Vals xs b.toList
def kMC:ai->Option V
 | .none=>some .non
 | .bool b=>some (.bl b)
 | .int i _=>some (.int i)
 | .str x _=>some (.str x)
 | .bytes b _=>some (.byt b)
 | .float b _=>some (.flt b)
 | .ref a=>some (.ref a)
 | .type n=>some (.ty n)
 | _=>none
def RelV.abs{x:V}{u:ai}(r:RelV x u):kMC u=some x:=by
 cases x with
 | non=>cases r;rfl
 | bl _=>cases r;rfl
 | int _=>obtain⟨t,rfl⟩:=r;rfl
 | str _=>obtain⟨t,rfl⟩:=r;rfl
 | byt _=>obtain⟨t,rfl⟩:=r;rfl
 | flt _=>obtain⟨t,rfl⟩:=r;rfl
 | ref _=>cases r;rfl
 | ty _=>cases r;rfl
def RelV.inj{x y:V}{u:ai}(r:RelV x u)(q:RelV y u):x=y:=bj (r.abs.symm.trans q.abs)
theorem Vals.inj:∀{xs a:List V}{b:List ai},Vals xs b->Vals a b->xs=a
 | _,_,_,.nil,.nil=>rfl
 | _,_,_,.cons r t,.cons r' t'=>by rw[r.inj r',Vals.inj t t']
section
variable {X:Cx} {pins:List (ar×Obj)} {σ:St} {H:Hp} {s:ao} {a:ar} {xs ys:List V}
def SqL.of{K:au}(h:H a=some (.lst xs)):SqL K H a xs:=.inl (.inl h)
def SqT.of{K:au}(h:H a=some (.tup xs)):SqT K H a xs:=.inl (.inl h)
def Inv.list(I:Inv X pins σ H s)(h:SqL X.K H a xs):∃ its:List ai,Vals xs its/\PlainL s.heap a its.toArray/\xs.length<=sizeLine:=by
 rcases h with h | ⟨o,its,n,c,d,f,b,g,r⟩
 ·obtain⟨z,its,n,r,e⟩:=h.ok I.hok
  exact⟨its,r,⟨_,n,e,rfl,rfl,rfl⟩,z⟩
 ·refine⟨its.toList,r,⟨o,n,I.kIn a o c,d,f,by simpa using b⟩,?_⟩
  have e:=r.length;simp only[eZ]at e;omega
def Inv.tuple(I:Inv X pins σ H s)(h:SqT X.K H a xs):∃ its:List ai,Vals xs its/\EM s.heap a its.toArray/\xs.length<=sizeLine:=by
 rcases h with h | ⟨o,its,n,c,d,b,f,r⟩
 ·obtain⟨z,its,r,p⟩:=h.ok I.hok
  exact⟨its,r,p.isTup,z⟩
 ·refine⟨its.toList,r,⟨o,I.kIn a o c,d,n,by simpa using b⟩,?_⟩
  have e:=r.length;simp only[eZ]at e;omega
def Inv.list_inj(I:Inv X pins σ H s)(h:SqL X.K H a xs)(h':SqL X.K H a ys):xs=ys:=by
 obtain⟨c,r,⟨o,n,e,_,_,d⟩,_⟩:=I.list h;obtain⟨b,i,⟨m,l,g,_,_,f⟩,_⟩:=I.list h';rw[e]at g;cases g;rw[d]at f;injection f with d1 _
 have:c=b:=by simpa using congrArg Fb d1
 subst this;exact r.inj i
def Inv.tuple_inj(I:Inv X pins σ H s)(h:SqT X.K H a xs)(h':SqT X.K H a ys):xs=ys:=by
 obtain⟨c,r,⟨o,e,_,n,d⟩,_⟩:=I.tuple h;obtain⟨b,i,⟨m,g,_,l,f⟩,_⟩:=I.tuple h';rw[e]at g;cases g;rw[d]at f;injection f with d1 _
 have:c=b:=by simpa using congrArg Fb d1
 subst this;exact r.inj i
end
abbrev Cx.wish(X:Cx)(E:ai->ao->Prop):Cx:={X with xe:=E}
abbrev Cx.nox(X:Cx):Cx:=X.wish λ _ _=>False
theorem Cx.Ok.wish{X:Cx}(ok:X.Ok)(E:ai->ao->Prop):(X.wish E).Ok :=
 ⟨ok.mod,ok.kind,ok.glob,ok.blt,ok.above,ok.inj,ok.has,ok.cab,ok.hd,ok.frames,ok.stk,ok.exf,ok.bs,ok.bsz,ok.noex,ok.exfs,ok.funs,ok.frf⟩
def Cx.Ok.unwish{X:Cx}{E:ai->ao->Prop}(ok:(X.wish E).Ok):X.Ok :=
 ⟨ok.mod,ok.kind,ok.glob,ok.blt,ok.above,ok.inj,ok.has,ok.cab,ok.hd,ok.frames,ok.stk,ok.exf,ok.bs,ok.bsz,ok.noex,ok.exfs,ok.funs,ok.frf⟩
section
variable {X:Cx} {pins:List (ar×Obj)} {σ:St} {H:Hp} {s:ao} {E:ai->ao->Prop}
theorem Inv.wish(I:Inv X pins σ H s)(E:ai->ao->Prop):Inv (X.wish E) pins σ H s:=⟨I.ok.wish E,I.os,I.bare,I.base,I.loc,I.cell,I.free,I.freeC,I.pin,I.hok,I.len⟩
theorem Inv.unwish(I:Inv (X.wish E) pins σ H s):Inv X pins σ H s:=⟨I.ok.unwish,I.os,I.bare,I.base,I.loc,I.cell,I.free,I.freeC,I.pin,I.hok,I.len⟩
theorem SP.unwish{D:Ends}{f:Flow}{c:ao}(h:SP (X.wish E) pins D f c):SP X pins D f c:=by
 cases f with
 | next=>obtain⟨a,b,I,q⟩:=h;exact⟨a,b,I.unwish,q⟩
 | brk=>obtain⟨a,b,I,q⟩:=h;exact⟨a,b,I.unwish,q⟩
 | cont=>obtain⟨a,b,I,q⟩:=h;exact⟨a,b,I.unwish,q⟩
 | ret u=>obtain⟨v,a,b,I,r,q⟩:=h;exact⟨v,a,b,I.unwish,r,q⟩
theorem PSs.nox{st:List ja}{t:TS}(h:PSs X.nox st t):PSs X st t:=λ a s c H D I b =>
 uo (h a s c H D (I.wish _) b) (λ _ _ q=>q.unwish) λ _ _ z=>uq z
end
section
variable {X:Cx} {st:ja} {rest:List ja} {t u:TS} {e:iA} {te:TE} {pos:Pos}
def kRQ:TS:=λ D a H=>D.nx a H
def kTJ(t u:TS):TS:=λ D a H=>t {D with nx:=u D} a H
def jA:PSs X [] kRQ:=λ _ _ a H _ I h=>AN ⟨a,H,I,h⟩
def kE(h1:PS X st t)(g:PSs X rest u):PSs X (st::rest) (kTJ t u):=by
 intro a s i H D I h;refine Do (thn (h1 a s i H {D with nx:=u D} I h) λ f d q=>?_)
 cases f with
 | next =>
  obtain⟨b,l,c,q⟩:=q;exact g a d b l D c q
 | ret v=>exact q
 | brk=>exact q
 | cont=>exact q
def kF(h1:PS X st t):PSs X [st] t:=by
 intro a s b H D I h;refine Do (thn (h1 a s b H D I h) λ f c q=>?_)
 cases f with
 | next=>exact AN q
 | ret v=>exact q
 | brk=>exact q
 | cont=>exact q
def Inv.quiet{a:List (ar×Obj)}{b:St}{H:Hp}{s:ao}(I:Inv X a b H s):interactive X.env=false:=by simp[interactive,I.ok.kind]
def kRS(c:TE):TS:=λ D a H=>c a H λ _ b=>D.nx a b
def qE(i:PE X e te)(f:swapsWith e none pos.line X.env=pure false:=by rfl):PS X (.Expr e pos) (kRS te):=by
 intro a s b H D I h;exact wpAny_Expr_any (thn (i a s b H _ I h) λ v m ⟨x,c,d,l,g⟩=>⟨b,c,d,g⟩) I.quiet f
def kRN(a:TE):TS:=λ D b H=>a b H D.rt
def kS(i:PE X e te):PS X (.Return (some e) pos) (kRN te):=by
 intro a s b H D I h;exact wpAny_Return_some (thn (i a s b H _ I h) λ v l ⟨x,c,d,f,g⟩=>⟨x,b,c,d,f,g⟩)
def kTN(c:TT)(t u:TS):TS:=λ D a H=>c a H λ b d=>if b=true then t D a d else u D a d
def xS{c:iA}{a b:List ja}{m:TT}(q:PT X c m)(r:PSs X a t)(p:PSs X b u):PS X (.If c a b pos) (kTN m t u):=by
 intro f s g H D I h;refine wpAny_If (thn (q f s g H _ I h) λ d n ⟨i,l,o⟩=>?_)
 cases d with
 | true=>exact r f n g i D l o
 | false=>exact p f n g i D l o
end
abbrev TG:=V->St->Hp->(St->Hp->Prop)->Prop
abbrev TGs:=List V->St->Hp->(St->Hp->Prop)->Prop
def PG(X:Cx)(a:iA)(t:TG):Prop :=
 ∀(pins:List (ar×Obj))(s:ao)(σ:St)(H:Hp)(v:V)(u:ai)(Q:St->Hp->Prop),Inv X pins σ H s->RelV v u->t v σ H Q ->
  eK (model X.prog X.w) X.A (assign a X.env u) (λ _ d=>∃ b c,Inv X pins b c d/\Q b c) X.xe s
def PGs(X:Cx)(c:List iA)(t:TGs):Prop :=
 ∀(pins:List (ar×Obj))(s:ao)(σ:St)(H:Hp)(vs:List V)(us:List ai)(Q:St->Hp->Prop),Inv X pins σ H s->Vals vs us->t vs σ H Q ->
  eK (model X.prog X.w) X.A (assignInOrder ((assignEach c X.env).map (·.2)) us) (λ _ d=>∃ a b,Inv X pins a b d/\Q a b) X.xe s
abbrev kRI:=V->V->V->Hp->(Hp->Prop)->Prop
def kTF(X:Cx)(t:kRI):Prop :=
 ∀(pins:List (ar×Obj))(s:ao)(σ:St)(H:Hp)(o i v:V)(ov iv u:ai)(Q:Hp->Prop),Inv X pins σ H s->RelV o ov->RelV i iv->RelV v u->t o i v H Q ->
  eK (model X.prog X.w) X.A (setItem ov iv u) (λ _ b=>∃ a,Inv X pins σ a b/\Q a) X.xe s
section
variable {X:Cx} {pos:Pos}
def gR(i:Nat):TG:=λ v a H Q=>Q (a.set i (some v)) H
def wI{i:Nat}{x:Str}(f:X.N.Nodup)(hi:X.N[i]?=some x)(d:Loc X.env.scope x)(b:X.fn x=true\/X.env.scope.names.lookup x=some .local:=by first | exact .inl rfl | exact .inr rfl | assumption):PG X (.Name x pos) (gR i):=by
 intro a s l H v u Q I r h;exact DJ (sH I f hi d r (λ g c=>⟨_,H,c,h⟩) b)
inductive kSU(vs:List V)(σ:St)(H:Hp)(Q:St->Hp->Prop):Prop
 | mk:(vs=[])->(Q σ H)->kSU vs σ H Q
inductive kOV(t:TG)(u:TGs)(vs:List V)(σ:St)(H:Hp)(Q:St->Hp->Prop):Prop
 | mk:∀ v r,(vs=v::r)->(t v σ H λ σ' H'=>u r σ' H' Q)->kOV t u vs σ H Q
def jD:PGs X [] kSU:=by
 intro a s b H c d Q I r h;obtain⟨e,h⟩:=h;subst e;cases r
 exact assignInOrder_nil ⟨b,H,I,h⟩
def kR{e:iA}{b:List iA}{t:TG}{u:TGs}(h1:PG X e t)(n:PGs X b u)
  (g:(assignEach (e::b) X.env).map (·.2)=assign e X.env::(assignEach b X.env).map (·.2):=by rfl):PGs X (e::b) (kOV t u):=by
 intro a s f H p q Q I r h;obtain⟨v,x,d,h⟩:=h;subst d
 cases r with
 | cons r rr =>
  rw[g];refine assignInOrder_cons (thn (h1 a s f H _ _ _ I r h) λ _ l ⟨c,m,i,o⟩=>?_);exact n a l c m _ _ Q i rr o
inductive kDA(K:au)(n:Nat)(t:TGs)(v:V)(σ:St)(H:Hp)(Q:St->Hp->Prop):Prop
 | mk:∀ a xs,(v=.ref a)->(SqT K H a xs)->(xs.length=n)->(t xs σ H Q)->kDA K n t v σ H Q
def jZ{d:List iA}{k:Nat}{t:TGs}{n:Nat}(y:X.calm=true)(h:PGs X d t)
  (A:(assignEach d X.env).length=n:=by rfl) (g:(assignEach d X.env).findIdx? (·.1)=none:=by rfl):PG X (.Tuple d k pos) (kDA X.K n t):=by
 intro c s i H v u Q I r f;obtain⟨a,G,m,x,D,f⟩:=f;subst m;cases r
 obtain⟨p,l,q,L⟩:=I.tuple x;refine assign_Tuple_tuple (I.ok.hd y) q (by simp[A,<-D,l.length]) g λ C J=>?_;have B:Inv X c i H {s with heap:=C}:=I.kept (t':=s.toks) λ b o e=>J b o (dj (cq e)) e
 exact h c _ i H G _ Q B (by simpa using l) f
def kTX(to c:TE)(t:kRI):TG:=λ v a H Q=>to a H λ o b=>c a b λ i f=>t o i v f λ d=>Q a d
def pP{o i:iA}{to c:TE}{t:kRI}(J:PE X o to)(hi:PE X i c)(m:kTF X t)
  (L:∀ v,assign (.Subscript o i pos) X.env v=(do
   let ov <-holding [v] (eval o X.env)
   let iv <-holding [v,ov] (eval i X.env)
   standAt pos
   holding [v,ov,iv] (setItem ov iv v)
   release [v,ov,iv] []):=by intro _;rfl):PG X (.Subscript o i pos) (kTX to c t):=by
 intro a s b H v u Q I r h;rw[L];refine ah (iL (thn (J a s b H _ I h) λ ov p ⟨x,B,n,d,G⟩=>?_));refine ah (iL (thn (hi a p b B _ n G) λ iv f ⟨y,M,g,C,D⟩=>?_));refine ah (xw (ah (iL (thn (m a f b M x y v ov iv u _ g d C r D) λ _ N ⟨q,A,l⟩=>?_))));exact wpAny_release ⟨b,q,A,l⟩
def kMM(c:TE)(g:TG):TS:=λ D a H=>c a H λ x b=>g x a b D.nx
def yU{b e:iA}{c:TE}{g:TG}(m:PE X e c)(l:PG X b g)(n:swapsWithSole [b] e pos.line X.env=pure false:=by rfl)(i:swappedStores [b] e X.env=pure none:=by rfl)
  (h1:(assignEach [b] X.env).map (·.2)=[assign b X.env]:=by rfl):PS X (.Assign [b] e pos) (kMM c g):=by
 intro a s d H D I h;refine wpAny_Assign_stores (thn (m a s d H _ I h) λ v p ⟨x,r,o,f,u⟩=>?_) n i;rw[h1];exact thn (l a p d r x v _ o f u) λ _ y q=>q
def kPU{i:Nat}{x:Str}{e:iA}{c:TE}{a:Pos}(g:X.N.Nodup)(hi:X.N[i]?=some x)(u:Loc X.env.scope x)(m:PE X e c)(n:swapsWith e (some (.Name x a)) pos.line X.env=pure false:=by rfl)(q:X.fn x=true\/X.env.scope.names.lookup x=some .local:=by first | exact .inl rfl | exact .inr rfl | assumption) :
  PS X (.Assign [.Name x a] e pos) (kMM c (gR i)):=by
 intro b s l H D I h;refine wpAny_Assign_Name (thn (m b s l H _ I h) λ v B ⟨y,p,o,d,r⟩=>?_) n;exact sH o g hi u d (λ A f=>⟨_,p,f,r⟩) q
def kIW(c:TT)(i:TS):TS:=λ D a H=>∃ W:Nat->St->Hp->Prop,(∃ m,W m a H)/\∀ m a H,W m a H ->
 c a H λ b f=>if b=true then ∃ N:St->Hp->Prop,(∀ d h,N d h->∃ g,g<m/\W g d h)/\i {D with nx:=N,ct:=N,bk:=D.nx} a f else D.nx a f
def tQ{c:iA}{body:List ja}{J:TT}{B:TS}(hp:FW (model X.prog X.w) X.A X.env X.xe)(Y:PT X c J)(O:PSs X body B):PS X (.While c body [] pos) (kIW J B):=by
 intro d s U H D I h;obtain⟨W,⟨m0,T⟩,turn⟩:=h;refine wpAny_While (codeAny_whileLoop (λ n Q=>∃ l C,Inv X d l C Q/\W n l C) ?_ m0 ⟨U,H,I,T⟩);rintro n s1 ⟨g,L,I1,Z⟩;refine qq hp (thn (Y d s1 g L _ I1 (turn n g L Z)) λ b S ⟨M,y,o⟩=>?_)
 cases b with
 | true =>
  obtain⟨N,G,o⟩:=o;rw[if_pos rfl];refine qq hp (thn (O d S g M _ y o) λ f s3 m=>?_)
  cases f with
  | next =>
   obtain⟨a,i,x,q⟩:=m;obtain⟨p,u,r⟩:=G a i q;exact⟨p,u,a,i,x,r⟩
  | cont =>
   obtain⟨a,i,x,q⟩:=m;obtain⟨p,u,r⟩:=G a i q;exact⟨p,u,a,i,x,r⟩
  | brk=>exact m
  | ret v=>exact m
 | false =>
  rw[if_neg dq];exact AN ⟨g,M,y,o⟩
end
structure It where
 go:Nat->Hp->Prop
 yld:Nat->Hp->V->Hp->Prop
 stop:Nat->Hp->Prop
def yZ(X:Cx)(a:List (ar×Obj))(H:Hp)(b:ar):Prop :=
 H b=none/\b≠X.env.locals/\b∉X.fs/\(b∈X.ex\/X.s₀.heap.objs.size<=b)/\(∀ x c,X.env.cells.lookup x=some c->c≠b)/\∀ p∈X.pn++a,p.1≠b
def Inv.fpOk{X:Cx}{a:List (ar×Obj)}{f:St}{H H':Hp}{s:ao}{b:ar}(I:Inv X a f H s)(d:s.heap.objs.size<=b)(g:H' b=none):yZ X a H' b:=by
 refine⟨g,jo (cz I.lt d),I.nofs d,.inr (gx I.sz d),λ x c e z=>?_,λ p hp z=>?_⟩
 ·obtain⟨v,q⟩:=I.cell x c e
  exact absurd (cz q.lt (by rw[z];exact d)) (jx _)
 ·exact absurd (cz (cq (I.pin p hp).1) (by rw[z];exact d)) (jx _)
structure Turn(P:eN)(w:fu)(K:au)(tg:iA)(J:It)(fp:List ar)(it:ar)(tn:Nat->iC->Prop):Prop where
 mem:it∈fp
 obj:∀ i h,tn i h->∀ b∈fp,∃ o,h.get? b=some o/\∀ v,o.data≠.cell v
 keep:∀ i h h',tn i h->(∀ b∈fp,∀ o,h.get? b=some o->h'.get? b=some o)->tn i h'
 item:∀(X:Cx),X.prog=P->X.w=w->X.K=K->X.calm=true->∀(i:Nat)(pins:List (ar×Obj))(s:ao)(σ:St)(H:Hp)(E:ai->ao->Prop),Inv X pins σ H s->(∀ b∈fp,yZ X pins H b)->tn i s.heap->J.go i H ->
  eK (model P w) X.A (pyNext (.ref it)) (λ r s1=>∃ u,r=some u /\
   eK (model P w) X.A (letOwnedTupleGo tg (.ref it) u) (λ _ s2=>∃ x H',Inv X pins σ H' s2/\RelV x u/\J.yld i H x H'/\tn (i+1) s2.heap/\∀ b∈fp,H' b=none) E s1) E s
 done:∀(X:Cx),X.prog=P->X.w=w->X.K=K->X.calm=true->∀(i:Nat)(pins:List (ar×Obj))(s:ao)(σ:St)(H:Hp)(E:ai->ao->Prop),Inv X pins σ H s->(∀ b∈fp,yZ X pins H b)->tn i s.heap->J.stop i H ->
  eK (model P w) X.A (pyNext (.ref it)) (λ r s1=>r=none/\Inv X pins σ H s1) E s
 self:∀(A:ed)(i:Nat)(s:ao)(Q:ai->ao->Prop)(E:ai->ao->Prop),tn i s.heap->Q (.ref it) s->eK (model P w) A (pyIter (.ref it)) Q E s
abbrev TI:=St->Hp->(It->Hp->Prop)->Prop
def PIE(X:Cx)(a:List (ar×Obj))(i:St)(l:iA)(R:It->Hp->Prop)(c:ai)(g:ao):Prop :=
 ∃(it:ar)(h:List ar)(f:Nat->iC->Prop)(J:It)(d:Hp),c=.ref it/\Inv X a i d g/\Turn X.prog X.w X.K l J h it f/\f 0 g.heap/\(∀ b∈h,yZ X a d b)/\R J d
def PI(X:Cx)(a iter:iA)(b:TI):Prop :=
 ∀(pins:List (ar×Obj))(s:ao)(σ:St)(H:Hp)(R:It->Hp->Prop),Inv X pins σ H s->b σ H R ->
  eK (model X.prog X.w) X.A (eval iter X.env) (λ v c=>eK (model X.prog X.w) X.A (pyIter v) (PIE X pins σ a R) X.xe c) X.xe s
def kLJ{M : xu}{A : ed}{E : ai -> ao -> Prop}{s : ao}{c : iA}{it : ar}{u : ai}{o : Obj}{n : String}{b : Array ai}{Q : Unit -> ao -> Prop}(d : s.heap.get? it = some o)(f : o.cls = .type n)(i : o.data = .fields b)
    (g : ["enumerate", "zip", "dict_itemiterator", "dict_reverseitemiterator", "odict_iterator", "itertools.zip_longest", "itertools.pairwise"].contains n = false) (a : Q () s) : eK M A (letOwnedTupleGo c (.ref it) u) Q E s := by
  unfold letOwnedTupleGo
  cases c <;> first
    | exact cc a
    | (cases u <;> first
        | exact cc a
        | (refine ah (wpAny_load d ?_)
           rw[f, i];show eK M A (if(["enumerate", "zip", "dict_itemiterator", "dict_reverseitemiterator", "odict_iterator", "itertools.zip_longest", "itertools.pairwise"].contains n && b[0]? == some (rawInt _)) = true then _ else _) Q E s;rw[if_neg (by intro h; rw[g, ER]at h; cases h)];exact cc a))
def Itl(K:au)(a:ar):It :=
 ⟨λ i H=>∃ b x,SqL K H a b/\b[i]?=some x,λ i H x c=>c=H/\∀ b,SqL K H a b->b[i]?=some x,λ i H=>∃ b,SqL K H a b/\b.length<=i⟩
def Itt(K:au)(a:ar):It :=
 ⟨λ i H=>∃ b x,SqT K H a b/\b[i]?=some x,λ i H x c=>c=H/\∀ b,SqT K H a b->b[i]?=some x,λ i H=>∃ b,SqT K H a b/\b.length<=i⟩
def Itr(lo:Int)(n:Nat):It:=⟨λ i _=>i<n,λ i H x a=>a=H/\x=.int (lo+i),λ i _=>n<=i⟩
def kGI{P:eN}{w:fu}{K:au}{tg:iA}(a it:ar):Turn P w K tg (Itl K a) [it] it (λ i h=>h.IsListIter it a i) where
 mem:=by simp
 obj:=λ i h st b g=>by
  have e:b=it:=by simpa using g
  subst e;obtain⟨o,e,c,d⟩:=st;exact⟨o,e,λ v z=>by rw[d]at z;cases z⟩
 keep:=λ i h q st k=>st.at λ o e=>k it (by simp) o e
 item:=by
  intro X D r G S i f s Q H E I n st A;subst D r G;obtain⟨xs,x,m,N⟩:=A;obtain⟨y,J,p,U⟩:=I.list m;obtain⟨u,hu,ru⟩:=J.get N;obtain⟨B,O,f2,L,M,C⟩:=n it (by simp);refine Bn st p.isList (x:=u) (by simpa using hu) λ q l T=>?_;have Z:Inv X f Q H {s with heap:=q}:=I.turned (t':=s.toks) (λ b o g e=>(T.2 b g).trans e) B O L M C
  obtain⟨o,e,c,d⟩:=id l;exact⟨u,rfl,kLJ (s:={s with heap:=q}) e c d (by decide) ⟨x,H,Z,ru,⟨rfl,λ ys Y=>by rw[I.list_inj Y m];exact N⟩,l,λ b g=>(n b g).1⟩⟩
 done:=by
  intro X D r G S i f s Q H E I n st A;subst D r G;obtain⟨xs,m,N⟩:=A;obtain⟨y,J,p,U⟩:=I.list m;obtain⟨B,O,f2,L,M,C⟩:=n it (by simp);have hl:=J.length;exact CJ (I.ok.hd S) st p.isList (by simp;omega) λ q eb=>⟨rfl,I.turned (t':=s.toks) (λ b o g e=>eb b o g e) B O L M C⟩
 self:=λ _ _ _ _ _ st h=>wpAny_pyIter_listiter st h
def kBI{P:eN}{w:fu}{K:au}{tg:iA}(a it:ar):Turn P w K tg (Itt K a) [it] it (λ i h=>h.IsTupleIter it a i) where
 mem:=by simp
 obj:=λ i h st b g=>by
  have e:b=it:=by simpa using g
  subst e;obtain⟨o,e,c,d⟩:=st;exact⟨o,e,λ v z=>by rw[d]at z;cases z⟩
 keep:=λ i h r st k=>st.at λ o e=>k it (by simp) o e
 item:=by
  intro X D y G S i f s Q H E I q st A;subst D y G;obtain⟨xs,x,n,N⟩:=A;obtain⟨l,J,p,U⟩:=I.tuple n;obtain⟨u,hu,ru⟩:=J.get N;obtain⟨B,O,f2,L,M,C⟩:=q it (by simp);refine wpAny_pyNext_tuple_item st (show s.heap.IsTuple a l.toArray from p) (x:=u) (by simpa using hu) λ r m T=>?_;have Z:Inv X f Q H {s with heap:=r}:=I.turned (t':=s.toks) (λ b o g e=>(T.2 b g).trans e) B O L M C
  obtain⟨o,e,c,d⟩:=id m;exact⟨u,rfl,kLJ (s:={s with heap:=r}) e c d (by decide) ⟨x,H,Z,ru,⟨rfl,λ ys Y=>by rw[I.tuple_inj Y n];exact N⟩,m,λ b g=>(q b g).1⟩⟩
 done:=by
  intro X D y G S i f s Q H E I q st A;subst D y G;obtain⟨xs,n,N⟩:=A;obtain⟨l,J,p,U⟩:=I.tuple n;obtain⟨B,O,f2,L,M,C⟩:=q it (by simp);have hl:=J.length;exact wpAny_pyNext_tuple_end (I.ok.hd S) st (show s.heap.IsTuple a l.toArray from p) (by simp;omega) λ r eb=>⟨rfl,I.turned (t':=s.toks) (λ b o g e=>eb b o g e) B O L M C⟩
 self:=λ _ _ _ _ _ st h=>wpAny_pyIter_tupleiter st h
def kBJ{P:eN}{w:fu}{K:au}{O:iA}(it:ar)(lo:Int)(n:Nat):Turn P w K O (Itr lo n) [it] it (λ i h=>IsRangeIter h it (lo+(i:Nat)*1) ((n:Int)-(i:Nat)) 1) where
 mem:=by simp
 obj:=λ i h st b c=>by
  have e:b=it:=by simpa using c
  subst e
  exact⟨_,st,λ v z=>by
   have N:Data.fields _=Data.cell v:=z
   cases N⟩
 keep:=λ i h g st k=>k it (by simp) _ st
 item:=by
  intro X r l u x i a s D H E I f st m;subst r l u;obtain⟨p,B,L,y,A,q⟩:=f it (by simp);have W:=Walks.range (prog:=X.prog) (w:=X.w) (I.ok.hd x) it lo 1 n;refine W.item i s _ _ m st λ v g C G d kk=>?_;obtain⟨t,rfl⟩:=G;have J:Inv X a D H {s with heap:=g,toks:=C}:=I.turned (λ b o c e=>kk b o (by simpa using c) e) p B y A q
  refine⟨_,rfl,kLJ (s:={s with heap:=g,toks:=C}) (n:="range_iterator") d rfl rfl (by decide) ⟨.int (lo+i),H,J,⟨t,?_⟩,⟨rfl,rfl⟩,d,λ b c=>(f b c).1⟩⟩
  rw[Int.mul_one]
 done:=by
  intro X r l u x i a s D H E I f st m;subst r l u;obtain⟨p,B,L,y,A,q⟩:=f it (by simp);exact wpAny_pyNext_range_end (I.ok.hd x) st (by have:n<=i:=m;omega) λ g M=>⟨rfl,I.turned (t':=s.toks) (λ b o c e=>M b o c e) p B y A q⟩
 self:=λ _ _ _ _ _ st h=>wpAny_pyIter_rangeiter st h
section
variable {X:Cx} {tg:iA}
inductive kLF(K:au)(R:It->Hp->Prop)(x:V)(H1:Hp):Prop
 | mk:∀ a,(x=.ref a)->((∃ xs,SqL K H1 a xs))->(R (Itl K a) H1)->kLF K R x H1
def kSS(K:au)(c:TE):TI:=λ b H R=>c b H λ x a=>kLF K R x a
inductive kOT(K:au)(R:It->Hp->Prop)(x:V)(H1:Hp):Prop
 | mk:∀ a,(x=.ref a)->((∃ xs,SqT K H1 a xs))->(R (Itt K a) H1)->kOT K R x H1
def kNS(K:au)(c:TE):TI:=λ b H R=>c b H λ x a=>kOT K R x a
def xM{l:iA}{g:TE}(A:PE X l g):PI X tg l (kSS X.K g):=by
 intro c s u H R I h;refine thn (A c s u H _ I h) λ v f ⟨x,y,d,m,B⟩=>?_;obtain⟨a,e,⟨G,r⟩,q⟩:=B;subst e;cases m
 obtain⟨n,D,p,C⟩:=d.list r;refine BJ p.isList ?_;refine⟨f.heap.objs.size,[f.heap.objs.size],_,_,y,rfl,d.kept (t':=f.toks) λ b o e=>aj _ e,kGI a _,⟨_,cx _ rfl,rfl,rfl⟩,λ b i=>?_,q⟩;have e:b=f.heap.objs.size:=by simpa using i
 subst e;exact d.fpOk (av _) (d.hok.fresh (av _))
def wH{l:iA}{i:TE}(A:PE X l i):PI X tg l (kNS X.K i):=by
 intro d s u H R I h;refine thn (A d s u H _ I h) λ v c ⟨x,y,f,n,B⟩=>?_;obtain⟨a,e,⟨G,r⟩,q⟩:=B;subst e;cases n
 obtain⟨g,D,p,C⟩:=f.tuple r;refine oe (show c.heap.IsTuple a g.toArray from p) ?_;refine⟨c.heap.objs.size,[c.heap.objs.size],_,_,y,rfl,f.kept (t':=c.toks) λ b o e=>aj _ e,kBI a _,⟨_,cx _ rfl,rfl,rfl⟩,λ b m=>?_,q⟩;have e:b=c.heap.objs.size:=by simpa using m
 subst e;exact f.fpOk (av _) (f.hok.fresh (av _))
def tO{a:List (ar×Obj)}{d:St}{H:Hp}{s:ao}{R:It->Hp->Prop}{E:ai->ao->Prop}{lo hi:Int}{t u v:Tok}{tk:Nat}(I:Inv X a d H s)(h1 : -(2 ^ 62)<=lo)(i:lo<2 ^ 62)(l : -(2 ^ 62)<=hi)(m:hi<2 ^ 62)
  (q:R (Itr lo (hi-lo).toNat) H):eK (model X.prog X.w) X.A (pyIter (.ref s.heap.objs.size)) (PIE X a d tg R) E {s with heap:=s.heap.push {cls:=.type "range",data:=.fields #[.int lo t,.int hi u,.int 1 v]},toks:=tk}:=by
 refine wpAny_pyIter_range (IsRange.new ..) (small_one h1 i l m) ?_;have c:Inv X a d H {s with heap:=s.heap.push {cls:=.type "range",data:=.fields #[.int lo t,.int hi u,.int 1 v]},toks:=tk}:=I.kept λ b o e=>aj _ e
 refine⟨(s.heap.push {cls:=.type "range",data:=.fields #[.int lo t,.int hi u,.int 1 v]}).objs.size,[(s.heap.push {cls:=.type "range",data:=.fields #[.int lo t,.int hi u,.int 1 v]}).objs.size],_,_,H,rfl,
  c.kept (t':=tk) λ b o e=>aj _ e,kBJ _ lo (hi-lo).toNat,?_,λ b f=>?_,q⟩
 ·have h:lo+((0:Nat):Int)*1=lo:=by simp
  have g:(((hi-lo).toNat:Nat):Int)-((0:Nat):Int)=FX lo hi 1:=by rw[rangeSize_one];split<;>omega
  show IsRangeIter _ _ (lo+((0:Nat):Int)*1) ((((hi-lo).toNat:Nat):Int)-((0:Nat):Int)) 1;rw[h,g];exact cx _ rfl
 ·have e:b=(s.heap.push {cls:=.type "range",data:=.fields #[.int lo t,.int hi u,.int 1 v]}).objs.size:=by simpa using f
  subst e;exact c.fpOk (av _) (c.hok.fresh (av _))
inductive kLE(R:It->Hp->Prop)(vs:List V)(H1:Hp):Prop
 | mk:∀(j:Int),(vs=[.int j])->(-(2 ^ 62)<=j)->(j<2 ^ 62)->(R (Itr 0 j.toNat) H1)->kLE R vs H1
def kSR(b:TA):TI:=λ d H R=>b d H λ c a=>kLE R c a
inductive kLD(R:It->Hp->Prop)(vs:List V)(H1:Hp):Prop
 | mk:∀(i j:Int),(vs=[.int i,.int j])->((-(2 ^ 62)<=i/\i<2 ^ 62/\-(2 ^ 62)<=j/\j<2 ^ 62))->(R (Itr i (j-i).toNat) H1)->kLD R vs H1
def kSQ(b:TA):TI:=λ d H R=>b d H λ c a=>kLD R c a
def qN{a:iA}{f:TA}{p b:Pos}(i:Gl X "range")(o:X.mg "range" = none)(v:PA X [a] f)(m:starEach [a] X.env=[(false,eval a X.env)]:=by rfl):PI X tg (.Call (.Name "range" p) [a] [] b) (kSR f):=by
 intro c s l H R I h;refine Call_ (cA I i o boot_range (mz (thn (v b c s l H _ I h) λ y A ⟨x,B,n,g,d⟩=>?_) m rfl));obtain⟨j,e,d,u,q⟩:=d;subst e
 cases g with
 | cons r rr =>
  cases rr
  obtain⟨t,rfl⟩:=r;exact call_range_1 (tO n (by omega) (by omega) d u (by simpa using q))
def kGZ{a b:iA}{l:TA}{p d:Pos}(n:Gl X "range")(y:X.mg "range" = none)(C:PA X [a,b] l)(v:starEach [a,b] X.env=[(false,eval a X.env),(false,eval b X.env)]:=by rfl)(c:starEach [b] X.env=[(false,eval b X.env)]:=by rfl) :
  PI X tg (.Call (.Name "range" p) [a,b] [] d) (kSQ l):=by
 intro f s u H R I h;refine Call_ (cA I n y boot_range (mz (thn (C d f s u H _ I h) λ J L ⟨D,M,x,m,g⟩=>?_) (by rw[v,c]) (by rw[c];rfl)));obtain⟨i,j,e,⟨g,B,o,A⟩,q⟩:=g;subst e
 cases m with
 | cons r rr =>
  cases rr with
  | cons r' rr =>
   cases rr
   obtain⟨t,rfl⟩:=r;obtain⟨G,rfl⟩:=r';exact call_range_2 (tO x g B o A q)
def kRR(l:TI)(g:TG)(n:TS):TS:=λ D a H=>l a H λ J h=>∃ W:Nat->Nat->St->Hp->Prop,(∃ m,W 0 m a h)/\∀ i m a H,W i m a H ->
 (J.stop i H/\D.nx a H)\/(J.go i H/\∃ N:St->Hp->Prop,(∀ b c,N b c->∃ f,f<m/\W (i+1) f b c)/\∀ x c,J.yld i H x c->g x a c λ d o=>n {D with nx:=N,ct:=N,bk:=D.nx} d o)
def pO(a:List ar)(h:iC):List (ar×Obj):=a.filterMap λ b=>(h.get? b).map λ o=>(b,o)
def wL{a:List ar}{h:iC}{b:ar}{o:Obj}(c:b∈a)(e:h.get? b=some o):(b,o)∈pO a h:=Cv.mpr ⟨b,c,by rw[e];rfl⟩
def kHC{a:List ar}{h:iC}{p:ar×Obj}(hp:p∈pO a h):p.1∈a/\h.get? p.1=some p.2:=by
 obtain⟨b,c,e⟩:=Cv.mp hp
 cases q:h.get? b with
 | none=>rw[q]at e;cases e
 | some o =>
  rw[q]at e;have d:(b,o)=p:=bj e;subst d;exact⟨c,q⟩
def Inv.pinned{a:List (ar×Obj)}{g:St}{H:Hp}{s:ao}{c:List ar}(I:Inv X a g H s)(i:∀ b∈c,yZ X a H b)(m:∀ b∈c,∃ o,s.heap.get? b=some o/\∀ v,o.data≠.cell v):Inv X (a++pO c s.heap) g H s :=
 I.pins_of λ p hp=>(bp.mp hp).elim (λ z=>I.pin p (cm _ z)) λ z=>by
  obtain⟨f,e⟩:=kHC z;obtain⟨n,q,l,_⟩:=i p.1 f;obtain⟨o,h,d⟩:=m p.1 f;rw[e]at h;cases h;exact⟨e,n,q,l,d⟩
def Inv.unpinned{a c:List (ar×Obj)}{b:St}{H:Hp}{s:ao}(I:Inv X (a++c) b H s):Inv X a b H s:=I.pins_of λ p hp=>I.pin p (cm _ (cf _ hp))
def kPV{iter:iA}{body:List ja}{wi:TI}{g:TG}{tb:TS}{Z:Pos}(hp:FW (model X.prog X.w) X.A X.env X.xe)(hc:X.calm=true)(hi:PI X tg iter wi)(hg:PG X tg g)(B:PSs X body tb)
  (hs:∀ x,foldedSetIterable iter X.env x=pure x:=by intro _;rfl):PS X (.For tg iter body [] Z) (kRR wi g tb):=by
 intro c s σ H D I h;refine wpAny_For (thn (hi c s σ H _ I h) λ v s1 h1=>thn h1 λ a4 s2 h2=>?_) hs;obtain⟨it,O,tn,J,H2,e,I2,T,a1,f2,W,⟨m0,w0⟩,turn⟩:=h2
 subst e
 have y:∀{G:Hp},(∀ b∈O,G b=none)->∀ b∈O,yZ X c G b:=λ hn b B=>⟨hn b B,(f2 b B).2⟩;refine codeAny_forLoop_any (λ n s'=>∃ i q G,Inv X c q G s'/\tn i s'.heap/\(∀ b∈O,G b=none)/\W i n q G) ?_ m0 ⟨0,σ,H2,I2,a1,λ b B=>(f2 b B).1,w0⟩;rintro n s3 ⟨i,C,Y,I3,U,Q,w3⟩;rcases turn i n C Y w3 with⟨stop,qn⟩ | ⟨go,N,hN,step⟩
 ·refine qq hp (thn (T.done X rfl rfl rfl hc i c s3 C Y X.xe I3 (y Q) U stop) λ r s4 ⟨hr,I4⟩=>?_)
  subst hr;exact AN ⟨C,Y,I4,qn⟩
 ·refine qq hp (thn (T.item X rfl rfl rfl hc i c s3 C Y X.xe I3 (y Q) U go) λ r s4 ⟨u,hr,h4⟩=>?_)
  subst hr;refine qq hp (thn h4 λ _ s5 ⟨x,H5,I5,r5,y5,M,a0⟩=>?_);have a2:=I5.pinned (y a0) (T.obj _ _ M);refine qq hp (thn (hg _ s5 C H5 x u _ a2 r5 (step x H5 y5)) λ _ s6 ⟨a3,H6,I6,q6⟩=>?_);refine qq hp (thn (B _ s6 a3 H6 _ I6 q6) λ f s7 L=>?_)
  have again:∀{a:St}{l:Hp},Inv X (c++pO O s5.heap) a l s7->N a l->∃ m,m<n/\∃ i q G,Inv X c q G s7/\tn i s7.heap/\(∀ b∈O,G b=none)/\W i m q G:=λ{a l} p S=>by
   obtain⟨m',hm,w7⟩:=hN a l S;refine⟨m',hm,i+1,a,l,p.unpinned,T.keep _ _ _ M λ b B o e=>(p.pin (b,o) (cm _ (cm _ (wL B e)))).1,λ b B=>?_,w7⟩;obtain⟨o,e,d⟩:=T.obj _ _ M b B;exact(p.pin (b,o) (cm _ (cm _ (wL B e)))).2.1
  cases f with
  | next=>obtain⟨a,l,p,S⟩:=L;exact again p S
  | cont=>obtain⟨a,l,p,S⟩:=L;exact again p S
  | brk=>obtain⟨a,l,p,L⟩:=L;exact⟨a,l,p.unpinned,L⟩
  | ret v=>obtain⟨x7,a,l,p,r7,L⟩:=L;exact⟨x7,a,l,p.unpinned,r7,L⟩
end
def gU{K:au}{a:ar}{xs:List V}{g:TG}{d:TS}{D:Ends}{b:St}{H:Hp}(Pv:Nat->St->Hp->Prop)(h0:Pv 0 b H)(l:∀ i b H,i<=xs.length->Pv i b H->SqL K H a xs)
  (h:∀ i x b H,xs[i]?=some x->Pv i b H->g x b H λ σ2 H2=>d {D with nx:=Pv (i+1),ct:=Pv (i+1),bk:=D.nx} σ2 H2) (o:∀ b H,Pv xs.length b H->D.nx b H) :
  ∃ W:Nat->Nat->St->Hp->Prop,(∃ m,W 0 m b H)/\∀ i m b H,W i m b H ->
   ((Itl K a).stop i H/\D.nx b H)\/((Itl K a).go i H/\∃ N:St->Hp->Prop,(∀ σ' H',N σ' H'->∃ m',m'<m/\W (i+1) m' σ' H')/\∀ x H',(Itl K a).yld i H x H'->g x b H' λ σ2 H2=>d {D with nx:=N,ct:=N,bk:=D.nx} σ2 H2):=by
 refine⟨λ i m b H=>m=xs.length-i/\i<=xs.length/\Pv i b H,⟨xs.length,by simp,fv _,h0⟩,?_⟩;rintro i m b H ⟨rfl,f,p⟩;have q:=l i b H f p;by_cases c:i<xs.length
 ·refine .inr ⟨⟨xs,xs[i],q,by simp[c]⟩,Pv (i+1),λ σ' H' n=>⟨xs.length-(i+1),by omega,rfl,c,n⟩,λ x H' y=>?_⟩
  obtain⟨e,y⟩:=y;subst e;exact h i x b _ (y xs q) p
 ·have e:i=xs.length:=by omega
  subst e;exact .inl ⟨⟨xs,q,av _⟩,o b H p⟩
def jN{lo:Int}{n:Nat}{g:TG}{c:TS}{D:Ends}{a:St}{H:Hp}(Pv:Nat->St->Hp->Prop)(h0:Pv 0 a H)
  (d:∀ i a H,i<n->Pv i a H->g (.int (lo+i)) a H λ σ2 H2=>c {D with nx:=Pv (i+1),ct:=Pv (i+1),bk:=D.nx} σ2 H2) (h:∀ a H,Pv n a H->D.nx a H) :
  ∃ W:Nat->Nat->St->Hp->Prop,(∃ m,W 0 m a H)/\∀ i m a H,W i m a H ->
   ((Itr lo n).stop i H/\D.nx a H)\/((Itr lo n).go i H/\∃ N:St->Hp->Prop,(∀ σ' H',N σ' H'->∃ m',m'<m/\W (i+1) m' σ' H')/\∀ x H',(Itr lo n).yld i H x H'->g x a H' λ σ2 H2=>c {D with nx:=N,ct:=N,bk:=D.nx} σ2 H2):=by
 refine⟨λ i m a H=>m=n-i/\i<=n/\Pv i a H,⟨n,by simp,fv _,h0⟩,?_⟩;rintro i m a H ⟨rfl,l,p⟩;by_cases b:i<n
 ·refine .inr ⟨b,Pv (i+1),λ σ' H' f=>⟨n-(i+1),by omega,rfl,b,f⟩,λ x H' y=>?_⟩
  obtain⟨e,y⟩:=y;subst e y;exact d i a _ b p
 ·have e:i=n:=by omega
  subst e;exact .inl ⟨av _,h a H p⟩
def rY{c:TT}{f:TS}{D:Ends}{a:St}{H:Hp}(Pv:St->Hp->Prop)(d:St->Hp->Nat)(h0:Pv a H)
  (g:∀ a H,Pv a H->c a H λ b H1=>if b=true then f {D with nx:=λ σ' H'=>Pv σ' H'/\d σ' H'<d a H,ct:=λ σ' H'=>Pv σ' H'/\d σ' H'<d a H,bk:=D.nx} a H1 else D.nx a H1)
  (mono:∀ a H Q Q',(∀ b H1,Q b H1->Q' b H1)->c a H Q->c a H Q'):kIW c f D a H:=by
 refine⟨λ m a H=>m=d a H/\Pv a H,⟨_,rfl,h0⟩,?_⟩;rintro m a H ⟨rfl,p⟩;refine mono a H _ _ (λ b H1 q=>?_) (g a H p)
 cases b with
 | true=>exact⟨_,λ σ' H' ⟨h,l⟩=>⟨_,l,rfl,h⟩,q⟩
 | false=>exact q
abbrev R2:=V->V->Hp->VK->Prop
def OpR(X:Cx)(f:ai->ai->Sem ai)(r:R2):Prop :=
 ∀(pins:List (ar×Obj))(s:ao)(σ:St)(H:Hp)(x y:V)(v u:ai)(Q:VK),Inv X pins σ H s->RelV x v->RelV y u->r x y H Q ->
  eK (model X.prog X.w) X.A (f v u) (EP X pins σ Q) X.xe s
def UnR(X:Cx)(f:ai->Sem ai)(r:V->Hp->VK->Prop):Prop :=
 ∀(pins:List (ar×Obj))(s:ao)(σ:St)(H:Hp)(x:V)(v:ai)(Q:VK),Inv X pins σ H s->RelV x v->r x H Q ->
  eK (model X.prog X.w) X.A (f v) (EP X pins σ Q) X.xe s
def xR(X:Cx)(f:ai)(r:List V->Hp->VK->Prop):Prop :=
 ∀(pins:List (ar×Obj))(s:ao)(σ:St)(H:Hp)(xs:List V)(us:List ai)(Q:VK),Inv X pins σ H s->Vals xs us->r xs H Q ->
  eK (model X.prog X.w) X.A (call f us) (EP X pins σ Q) X.xe s
def kUB(X:Cx)(r:V->Hp->(Bool->Hp->Prop)->Prop):Prop :=
 ∀(pins:List (ar×Obj))(s:ao)(σ:St)(H:Hp)(x:V)(v:ai)(Q:Bool->Hp->Prop),Inv X pins σ H s->RelV x v->r x H Q ->
  eK (model X.prog X.w) X.A (truthy v) (TP X pins σ Q) X.xe s
def tOp(r:R2)(c d:TE):TE:=λ a H Q=>c a H λ x b=>d a b λ y f=>r x y f Q
def tUn(r:V->Hp->VK->Prop)(b:TE):TE:=λ c H Q=>b c H λ x a=>r x a Q
inductive rI(C:Int->Int->Prop)(g:Int->Int->V)(x:V)(y:V)(H:Hp)(Q:VK):Prop
 | mk:∀ i j,(x=.int i)->(y=.int j)->(C i j)->(Q (g i j) H)->rI C g x y H Q
inductive rI0(g:Int->Int->V)(x:V)(y:V)(H:Hp)(Q:VK):Prop
 | mk:∀ i j,(x=.int i)->(y=.int j)->(Q (g i j) H)->rI0 g x y H Q
inductive rU(g:Int->V)(x:V)(H:Hp)(Q:VK):Prop
 | mk:∀ i,(x=.int i)->(Q (g i) H)->rU g x H Q
section
variable {X:Cx} {a b c:iA} {ta tb tc:TE} {pos:Pos}
def kRG(B:PE X a ta)(g:PE X b tb){c:List (ar×Obj)}{s:ao}{d:St}{H:Hp}{R:V->V->Hp->Prop}(I:Inv X c d H s)
  (h:ta d H λ x H1=>tb d H1 λ y H2=>R x y H2) {Q:ai->ao->Prop} {f:ai->ai->Sem ai}
  (l:∀ v u s2 x y H2,Inv X c d H2 s2->RelV x v->RelV y u->R x y H2->eK (model X.prog X.w) X.A (f v u) Q X.xe s2) :
  eK (model X.prog X.w) X.A (eval a X.env) (λ v s₁=>eK (model X.prog X.w) X.A (eval b X.env) (λ u s₂=>eK (model X.prog X.w) X.A (f v u) Q X.xe s₂) X.xe s₁) X.xe s:=by
 refine thn (B c s d H _ I h) λ v o ⟨x,H1,m,i,q⟩=>?_;refine thn (g c o d H1 _ m q) λ u s2 ⟨y,H2,r,n,p⟩=>?_;exact l v u s2 x y H2 r i n p
def qG{d:Operator}{r:R2}(n:OpR X (binaryOp d) r)(o:PE X a ta)(f:PE X b tb):PE X (.BinOp a d b pos) (tOp r ta tb):=by
 intro c s l H Q I h;exact wpAny_BinOp (kRG o f I h λ v u g x y p i m A q=>n c g l p x y v u Q i m A q)
def nK{d:UnaryOp}{r:V->Hp->VK->Prop}(n:UnR X (unaryOp d) r)(o:PE X a ta):PE X (.UnaryOp d a pos) (tUn r ta):=by
 intro b s c H Q I h;exact UnaryOp_ (thn (o b s c H _ I h) λ v l ⟨x,f,i,g,m⟩=>n b l c f x v Q i g m)
def opI{f:ai->ai->Sem ai}{C:Int->Int->Prop}{g:Int->Int->Int}
  (rule:∀(i j:Int)(t u:Tok)(s:ao)(Q:ai->ao->Prop)(E:ai->ao->Prop),C i j->Q (.int (g i j) s.toks) {s with toks:=s.toks+1}->eK (model X.prog X.w) X.A (f (.int i t) (.int j u)) Q E s) :
  OpR X f (rI C λ i j=>.int (g i j)):=by
 intro a s m H x y v u Q I b l h;obtain⟨i,j,rfl,rfl,c,q⟩:=h;obtain⟨t,rfl⟩:=b;obtain⟨d,rfl⟩:=l;exact rule i j t d s _ _ c ⟨.int (g i j),H,I.tok _,⟨_,rfl⟩,q⟩
def kSH{f:ai->ai->Sem ai}{g:Int->Int->Int}
  (rule:∀(i j:Int)(t u:Tok)(s:ao)(Q:ai->ao->Prop)(E:ai->ao->Prop),Q (.int (g i j) s.toks) {s with toks:=s.toks+1}->eK (model X.prog X.w) X.A (f (.int i t) (.int j u)) Q E s) :
  OpR X f (rI0 λ i j=>.int (g i j)):=by
 intro a s l H x y v u Q I b d h;obtain⟨i,j,rfl,rfl,q⟩:=h;obtain⟨t,rfl⟩:=b;obtain⟨c,rfl⟩:=d;exact rule i j t c s _ _ ⟨.int (g i j),H,I.tok _,⟨_,rfl⟩,q⟩
def kQD{f:ai->ai->Sem ai}{g:Int->Int->Bool}
  (rule:∀(i j:Int)(t u:Tok)(s:ao)(Q:ai->ao->Prop)(E:ai->ao->Prop),Q (.bool (g i j)) s->eK (model X.prog X.w) X.A (f (.int i t) (.int j u)) Q E s) :
  OpR X f (rI0 λ i j=>.bl (g i j)):=by
 intro a s l H x y v u Q I b d h;obtain⟨i,j,rfl,rfl,q⟩:=h;obtain⟨t,rfl⟩:=b;obtain⟨c,rfl⟩:=d;exact rule i j t c s _ _ ⟨.bl (g i j),H,I,rfl,q⟩
def kUE(i j:Int):Prop:=0<j/\j<1073741824
def kUD(i j:Int):Prop:=0<=j/\j<=1000000/\i.natAbs<2 ^ 64
def CMul(i j:Int):Prop:=(-(2 ^ 64)<i/\i<2 ^ 64)\/(-(2 ^ 64)<j/\j<2 ^ 64)
def CMul.ok{i j:Int}(h:CMul i j):IntMulOk i j:=by
 rcases h with⟨h1,a⟩ | ⟨h1,a⟩
 ·exact .of_left (intBits_le_64 h1 a)
 ·exact .of_right (intBits_le_64 h1 a)
def xV:OpR X (binaryOp .Add) (rI0 λ i j=>.int (i+j)):=kSH λ _ _ _ _ _ _ _ q=>add_int q
def zQ:OpR X (binaryOp .Sub) (rI0 λ i j=>.int (i-j)):=kSH λ _ _ _ _ _ _ _ q=>sub_int q
def kCK:OpR X (binaryOp .Mult) (rI CMul λ i j=>.int (i*j)):=opI λ _ _ _ _ _ _ _ a q=>mul_int q a.ok
def kND:OpR X (binaryOp .FloorDiv) (rI kUE λ i j=>.int (i / j)):=opI λ i j _ _ _ _ _ a q=>by
 have h1:(0:Int)<j:=a.1;have b:j<1073741824:=a.2;exact floordiv_int (by omega) (by rw[Al i (by omega)];exact q) (.inl (PyProof.noPylong_small (by omega)))
def pR:OpR X (binaryOp .Mod) (rI (λ _ j=>0<j) λ i j=>.int (i % j)):=opI λ i j _ _ _ _ _ a q=>by
 have h1:(0:Int)<j:=a;exact mod_int' (by omega) (by rw[Am i (by omega)];exact q)
def kQC:OpR X (binaryOp .Pow) (rI kUD λ i j=>.int (i ^ j.toNat)):=opI λ _ _ _ _ _ _ _ a q=>pow_int_small a.1 a.2.1 a.2.2 q
def unI{f:ai->Sem ai}{g:Int->Int}
  (rule:∀(i:Int)(t:Tok)(s:ao)(Q:ai->ao->Prop)(E:ai->ao->Prop),Q (.int (g i) s.toks) {s with toks:=s.toks+1}->eK (model X.prog X.w) X.A (f (.int i t)) Q E s) :
  UnR X f (rU λ i=>.int (g i)):=by
 intro a s c H x v Q I b h;obtain⟨i,rfl,q⟩:=h;obtain⟨t,rfl⟩:=b;exact rule i t s _ _ ⟨.int (g i),H,I.tok _,⟨_,rfl⟩,q⟩
def bO:UnR X (unaryOp .USub) (rU λ i=>.int (-i)):=unI λ _ _ _ _ _ q=>neg_int q
end
def kRV:V->V->Bool
 | .non,.non=>true | .non,.int _=>true | .int _,.non=>true | .non,.bl _=>true | .bl _,.non=>true | .non,.str _=>true | .str _,.non=>true
 | .int _,.int _=>true | .bl _,.bl _=>true | .str _,.str _=>true | .byt _,.byt _=>true
 | .int _,.str _=>true | .str _,.int _=>true | .bl _,.str _=>true | .str _,.bl _=>true
 | _,_=>false
inductive rEq(x:V)(y:V)(H:Hp)(Q:VK):Prop
 | mk:(kRV x y=true)->(Q (.bl (decide (x=y))) H)->rEq x y H Q
inductive rNe(x:V)(y:V)(H:Hp)(Q:VK):Prop
 | mk:(kRV x y=true)->(Q (.bl (!decide (x=y))) H)->rNe x y H Q
def kFS{i j:Int}:decide (V.int i=V.int j)=(i == j):=by
 rw[iH];simp
def kLU{i j:Bool}:decide (V.bl i=V.bl j)=(i == j):=by
 rw[iH];simp
def kFR{i j:Str}:decide (V.str i=V.str j)=(i == j):=by
 rw[iH];simp
def kFT{i j:Array UInt8}:decide (V.byt i=V.byt j)=(i.toList == j.toList):=by
 rw[iH];cases i
 cases j
 simp
section
variable {X:Cx} {a b c:iA} {ta tb tc:TE} {pos:Pos}
def qH{a:List (ar×Obj)}{b:St}{H:Hp}{s:ao}{Q:VK}{k c:Bool}(I:Inv X a b H s)(q:Q (.bl k) H)(e:k=c):EP X a b Q (.bool c) s:=by
 subst e;exact⟨.bl k,H,I,rfl,q⟩
def kEW:OpR X (compareOp .Eq) rEq:=by
 intro f s g H x y v u Q I d a h;obtain⟨c,q⟩:=h
 cases x with
 | non =>
  cases d
  cases y with
  | non=>cases a;exact Em (qH I q (by simp))
  | bl j=>cases a;exact Eo (qH I q (by simp))
  | int j=>obtain⟨b,rfl⟩:=a;exact FD (qH I q (by simp))
  | str j=>obtain⟨b,rfl⟩:=a;exact FE (qH I q (by simp))
  | _=>exact absurd (show false=true from c) dq
 | bl i =>
  cases d
  cases y with
  | non=>cases a;exact Ep (qH I q (by simp))
  | bl j=>cases a;exact eq_bool (qH I q kLU)
  | str j=>obtain⟨b,rfl⟩:=a;exact Er (qH I q (by simp))
  | _=>exact absurd (show false=true from c) dq
 | int i =>
  obtain⟨t,rfl⟩:=d
  cases y with
  | non=>cases a;exact FF (qH I q (by simp))
  | int j=>obtain⟨b,rfl⟩:=a;exact eq_int (qH I q kFS)
  | str j=>obtain⟨b,rfl⟩:=a;exact FG (qH I q (by simp))
  | _=>exact absurd (show false=true from c) dq
 | str i =>
  obtain⟨t,rfl⟩:=d
  cases y with
  | non=>cases a;exact FH (qH I q (by simp))
  | bl j=>cases a;exact Es (qH I q (by simp))
  | int j=>obtain⟨b,rfl⟩:=a;exact FJ (qH I q (by simp))
  | str j=>obtain⟨b,rfl⟩:=a;exact eq_str (qH I q kFR)
  | _=>exact absurd (show false=true from c) dq
 | byt i =>
  obtain⟨t,rfl⟩:=d
  cases y with
  | byt j=>obtain⟨b,rfl⟩:=a;exact PySem.W.eq_bytes (qH I q kFT)
  | _=>exact absurd (show false=true from c) dq
 | _=>cases y<;>exact absurd (show false=true from c) dq
def nP:OpR X (compareOp .NotEq) rNe:=by
 intro f s g H x y v u Q I d a h;obtain⟨c,q⟩:=h
 cases x with
 | non =>
  cases d
  cases y with
  | non=>cases a;exact Et (qH I q (by simp))
  | bl j=>cases a;exact Eu (qH I q (by simp))
  | int j=>obtain⟨b,rfl⟩:=a;exact FK (qH I q (by simp))
  | str j=>obtain⟨b,rfl⟩:=a;exact FL (qH I q (by simp))
  | _=>exact absurd (show false=true from c) dq
 | bl i =>
  cases d
  cases y with
  | non=>cases a;exact Ew (qH I q (by simp))
  | bl j=>cases a;exact ne_bool (qH I q (congrArg not kLU))
  | str j=>obtain⟨b,rfl⟩:=a;exact Ex (qH I q (by simp))
  | _=>exact absurd (show false=true from c) dq
 | int i =>
  obtain⟨t,rfl⟩:=d
  cases y with
  | non=>cases a;exact FM (qH I q (by simp))
  | int j=>obtain⟨b,rfl⟩:=a;exact ne_int (qH I q (congrArg not kFS))
  | str j=>obtain⟨b,rfl⟩:=a;exact FN (qH I q (by simp))
  | _=>exact absurd (show false=true from c) dq
 | str i =>
  obtain⟨t,rfl⟩:=d
  cases y with
  | non=>cases a;exact FO (qH I q (by simp))
  | bl j=>cases a;exact Ey (qH I q (by simp))
  | int j=>obtain⟨b,rfl⟩:=a;exact FP (qH I q (by simp))
  | str j=>obtain⟨b,rfl⟩:=a;exact ne_str (qH I q (congrArg not kFR))
  | _=>exact absurd (show false=true from c) dq
 | byt i =>
  obtain⟨t,rfl⟩:=d
  cases y with
  | byt j=>obtain⟨b,rfl⟩:=a;exact PySem.W.ne_bytes (qH I q (congrArg not kFT))
  | _=>exact absurd (show false=true from c) dq
 | _=>cases y<;>exact absurd (show false=true from c) dq
def kOR:OpR X (compareOp .Lt) (rI0 λ i j=>.bl (decide (i<j))):=kQD λ _ _ _ _ _ _ _ q=>lt_int q
def kSG:OpR X (compareOp .LtE) (rI0 λ i j=>.bl (decide (i<=j))):=kQD λ _ _ _ _ _ _ _ q=>le_int q
def kOS:OpR X (compareOp .Gt) (rI0 λ i j=>.bl (decide (j<i))):=kQD λ _ _ _ _ _ _ _ q=>gt_int q
inductive tU(x:V)(y:V)(H:Hp)(Q:VK):Prop
 | mk:(y=.non)->(Q (.bl (!decide (x=.non))) H)->tU x y H Q
def kNC:OpR X (compareOp .IsNot) tU:=by
 intro b s d H x y v u Q I a c h;obtain⟨rfl,q⟩:=h;cases c
 refine isnot_none_gen (qH I q ?_)
 cases x<;>first
  | (cases a;rfl)
  | (obtain⟨t,rfl⟩:=a;rfl)
def jJ(b:iA){a:FV}(h:a≠.In:=by decide)(f:a≠.NotIn:=by decide):behindInMarks a b=false:=by
 have d:(a == CmpOp.In)=false:=by cases a<;>first | rfl | exact absurd rfl h
 have c:(a == CmpOp.NotIn)=false:=by cases a<;>first | rfl | exact absurd rfl f
 cases b<;>simp[behindInMarks,d,c]
def jQ{d:FV}{r:R2}(o:OpR X (compareOp d) r)(p:PE X a ta)(f:PE X b tb)(n:behindInMarks d b=false):PE X (.Compare a [d] [b] pos) (tOp r ta tb):=by
 intro c s l H Q I h;exact EO (kRG p f I h λ v u g x y A i m B q=>o c g l A x y v u Q i m B q) n
inductive kIX(Q:Bool->Hp->Prop)(x:V)(H':Hp):Prop
 | mk:∀ k,(x=.bl k)->(Q k H')->kIX Q x H'
def kRM(t:TE):TT:=λ a H Q=>t a H λ x b=>kIX Q x b
def qO{f:FV}{r:R2}(N:OpR X (compareOp f) r)(O:PE X a ta)(i:PE X b tb)(B:behindInMarks f b=false):PT X (.Compare a [f] [b] pos) (kRM (tOp r ta tb)):=by
 intro d s g H Q I h
 refine CI (thn (O d s g H _ I h) λ v A ⟨x,G,q,l,M⟩=>thn (i d A g G _ q M) λ u m ⟨y,o,n,J,L⟩ =>
  thn (N d m g o x y v u _ n l J L) λ c T ⟨z,C,D,S,k,e,p⟩=>?_) B
 subst e;cases S
 exact jc ⟨C,D,p⟩
inductive kDS(r':R2)(tc:TE)(σ:St)(Q:VK)(y:V)(z:V)(H3:Hp):Prop
 | mk:∀ k,(z=.bl k)->((if k=true then tc σ H3 λ w' H4=>r' y w' H4 Q else Q (.bl false) H3))->kDS r' tc σ Q y z H3
def kPJ(r i:R2)(c f d:TE):TE:=λ a H Q=>c a H λ x b=>f a b λ y h=>r x y h λ z g=>kDS i d a Q y z g
def kKL{l g:FV}{r A:R2}(ho:OpR X (compareOp l) r)(m:OpR X (compareOp g) A)(ha:PE X a ta)(B:PE X b tb)(N:PE X c tc)
  (Y:lastMarks [l,g] [b,c]=false:=by with_unfolding_all rfl):PE X (.Compare a [l,g] [b,c] pos) (kPJ r A ta tb tc):=by
 intro f s i H Q I h
 refine Compare_chain (thn (ha f s i H _ I h) λ v U ⟨x,H1,S,C,q1⟩=>chain_link (thn (B f U i H1 _ S q1) λ u D ⟨y,H2,G,q,q2⟩ =>
  thn (ho f D i H2 x y v u _ G C q q2) λ d s3 ⟨z,o,p,r3,k,e,n⟩=>?_)) Y
 subst e;cases r3
 refine jc ?_
 cases k with
 | false=>exact ite_ff ⟨.bl false,o,p,rfl,n⟩
 | true=>exact ite_tt (chain_last (thn (N f s3 i o _ p n) λ M T ⟨Z,J,O,L,q4⟩=>m f T i J y Z u M Q O q L q4))
def kTE(K:au)(x:V)(H:Hp)(k:Bool):Prop :=
 match x with
 | .non=>k=false
 | .bl b=>k=b
 | .int i=>k=(i != 0)
 | .str y=>y.length<=sizeLine/\k=((y.length:Int) != 0)
 | .byt y=>y.size<=sizeLine/\k=((y.size:Int) != 0)
 | .ref p=>(∃ c,SqL K H p c/\k = !c.isEmpty)\/(∃ c,SqT K H p c/\k = !c.isEmpty)\/∃ a,H p=some (.dK a)/\k = !a.isEmpty
 | _=>False
def kCZ{a:Type}{kvs:List (a×V)}{b:List (a×ai)}(r:KV kvs b):(!b.isEmpty) = !kvs.isEmpty:=by
 cases r<;>rfl
def gN{xs:List V}{a:List ai}(r:Vals xs a):(!a.toArray.isEmpty) = !xs.isEmpty:=by
 cases r<;>simp
def bZ:(sizeLine:Nat)<2 ^ 63:=by rw[BK];decide
def kPF:kUB X (λ x H Q=>∃ k,kTE X.K x H k/\Q k H):=by
 intro B s J H x v Q I g h;obtain⟨k,e,q⟩:=h;have M:=bZ;have L:sizeLine=16777216:=BK
 cases x with
 | non =>
  cases g
  have a:k=false:=e;subst a;exact truthy_none ⟨H,I,q⟩
 | bl b =>
  cases g
  have a:k=b:=e;subst a;exact jc ⟨H,I,q⟩
 | int i =>
  obtain⟨t,rfl⟩:=g;have a:k=(i != 0):=e;subst a;exact PySem.P.truthy_int ⟨H,I,q⟩
 | str y =>
  obtain⟨t,rfl⟩:=g;obtain⟨D,a⟩ : y.length<=sizeLine/\k=((y.length:Int) != 0):=e;subst a;exact PySem.P.truthy_str (by omega) ⟨H,I.tok _,q⟩
 | byt y =>
  obtain⟨t,rfl⟩:=g;obtain⟨D,a⟩ : y.size<=sizeLine/\k=((y.size:Int) != 0):=e;subst a;exact PySem.W.truthy_bytes (by omega) ⟨H,I.tok _,q⟩
 | ref p =>
  cases g
  have a:(∃ f,SqL X.K H p f/\k = !f.isEmpty)\/(∃ f,SqT X.K H p f/\k = !f.isEmpty)\/∃ c,H p=some (.dK c)/\k = !c.isEmpty:=e;rcases a with⟨f,l,a⟩ | ⟨f,l,a⟩ | ⟨c,l,a⟩
  ·subst a
   obtain⟨o,r,u,A⟩:=I.list l;have d:=r.length;exact wpAny_truthy_list u.isList (by simp only[eX];omega) ⟨H,I.tok _,by rw[gN r];exact q⟩
  ·subst a
   obtain⟨o,r,u,A⟩:=I.tuple l;have d:=r.length;exact truthy_tuple u (by simp only[eX];omega) ⟨H,I.tok _,by rw[gN r];exact q⟩
  ·subst a
   obtain⟨A,G,n,r,m⟩ : c.length<=sizeLine/\(p == sysModules)=false/\∃ n,KV c n/\s.heap.DictOf (qC X.prog X.w) p n:=I.hok p _ l;have d:c.length=n.length:=sk r;exact wpAny_truthy_dict G m (by omega) ⟨H,I.tok _,by rw[kCZ r];exact q⟩
 | _=>exact(show False from e).elim
def kKD(m:PE X a ta)(l:∀ wU,isTrue a X.env wU=(do let v <-wU;standAt a.pos;holding [v] (truthy v))) :
  PT X a (λ σ H Q=>ta σ H λ x H'=>∃ k,kTE X.K x H' k/\Q k H'):=by
 intro b s σ H Q I h;exact isTrue_plain (thn (m b s σ H _ I h) λ v g ⟨x,c,f,d,i⟩=>kPF b g σ c x v Q f d i) (l _)
def wV{x:V}{a:List ai}(r:Vals [x] a):∃ u,a=[u]/\RelV x u:=by
 cases r with
 | cons r1 r2=>cases r2;exact⟨_,rfl,r1⟩
def kDO{x y:V}{a:List ai}(r:Vals [x,y] a):∃ u w',a=[u,w']/\RelV x u/\RelV y w':=by
 cases r with
 | cons r1 r2 =>
  cases r2 with
  | cons r3 r4=>cases r4;exact⟨_,_,rfl,r1,r3⟩
inductive oJ(xs:List V)(H:Hp)(Q:VK):Prop
 | mk:∀ i,(xs=[.int i])->(Q (.int (if i<0 then -i else i)) H)->oJ xs H Q
def kLY:xR X (.builtin "abs") oJ:=by
 intro a s c H d f Q I r h;obtain⟨i,rfl,q⟩:=h;obtain⟨u,rfl,t,rfl⟩:=wV r;exact call_abs_int λ u b=>⟨.int (if i<0 then -i else i),H,I.tok _,⟨_,rfl⟩,q⟩
inductive lS(xs:List V)(H:Hp)(Q:VK):Prop
 | mk:∀ i j,(xs=[.int i,.int j])->(Q (.int (if j>i then j else i)) H)->lS xs H Q
def oH(c:X.calm=true):xR X (.builtin "max") lS:=by
 intro b s g H o m Q I r h;obtain⟨i,j,rfl,q⟩:=h;obtain⟨u,l,rfl,⟨t,rfl⟩,⟨d,rfl⟩⟩:=kDO r;refine max_two_ints (I.ok.hd c) λ n f k=>⟨_,H,I.kept k,?_,q⟩;by_cases a:j>i
 ·rw[if_pos a,if_pos a];exact⟨_,rfl⟩
 ·rw[if_neg a,if_neg a];exact⟨_,rfl⟩
inductive lQ(xs:List V)(H:Hp)(Q:VK):Prop
 | mk:∀ i j,(xs=[.int i,.int j])->(Q (.int (if j<i then j else i)) H)->lQ xs H Q
def kII(c:X.calm=true):xR X (.builtin "min") lQ:=by
 intro b s g H o m Q I r h;obtain⟨i,j,rfl,q⟩:=h;obtain⟨u,l,rfl,⟨t,rfl⟩,⟨d,rfl⟩⟩:=kDO r;refine min_two_ints (I.ok.hd c) λ n f k=>⟨_,H,I.kept k,?_,q⟩;by_cases a:j<i
 ·rw[if_pos a,if_pos a];exact⟨_,rfl⟩
 ·rw[if_neg a,if_neg a];exact⟨_,rfl⟩
end
structure ObjM(h:iC)(x dx C:ar)(mA:Str->Option ai):Prop where
 obj:h.get? x=some (Bz C dx)
 ns:h.Ns1 dx mA
 ne:dx≠x
def kHJ{h:iC}{c:ar}{d:Str->Option ai}(n:h.Ns1 c d):∃ od,h.get? c=some od/\∀ name,CT name od=some (d name):=by
 obtain⟨o,f,s,l,r,g,_,i⟩:=n;refine⟨o,l,λ name=>?_⟩;have e:=i name;unfold nsFind findBy at e;rw[<-Array.find?_toList]at e;unfold CT;rw[r];dsimp only
 split
 ·rename_i y q
  rw[q]at e;exact congrArg some e
 ·rename_i q
  rw[q]at e
  have a:f.toList.any (·.refKey)=false:=by
   rw[List.any_eq_false];intro y p;obtain⟨z,t,b⟩:=g y (qz.mp p);simp[DictEntry.refKey,b]
  have m:¬ f.toList.any (·.refKey)=true:=by rw[a];exact dq
  rw[if_neg m];exact congrArg some e
def ObjM.look{h:iC}{x b C:ar}{a:Str->Option ai}(I:ObjM h x b C a):∃ od,PySem.W.InstAt h x (Bz C b) C (some od)/\∀ name,CT name od=some (a name) :=
 let ⟨od,ho,hl⟩:=kHJ I.ns
 ⟨od,⟨I.obj,rfl,rfl,ho⟩,hl⟩
section
variable {prog:eN} {w:fu} {A:ed} {E:ai->ao->Prop} {s:ao} {K:au} {x dx C f:ar} {mA:Str->Option ai} {name:Str} {v:ai}
end
def RelO.some_of{v:V}{o:Option ai}(r:RelO (some v) o):∃ u,o=some u/\RelV v u:=by
 cases o with
 | none=>exact(show False from r).elim
 | some u=>exact⟨u,rfl,r⟩
section
variable {P:eN} {w:fu} {H H':Hp} {h h':iC} {a C dx:ar} {fs fs':List (Str×V)}
def kNR(b:HOk P w H h)(e:H a=some (.ins C dx fs)):∃ mA,ObjM h a dx C mA/\(∀ f,RelO (fs.lookup f) (mA f))/\FZ mA (fs.map (·.1))/\fs.length<=1000/\H dx=some (.own a):=by
 obtain⟨d,z,c,g,mA,n,r,q⟩:=(show ObjOk P w H h a (.ins C dx fs) from b a _ e);exact⟨mA,⟨g,n,c⟩,r,q,z,d⟩
end
structure Cls(K:au)(C:ar):Prop where
 pg:Dp K C Str.empty=true
 hd:PySem.W.hasDictIn K C=true
 po:PySem.W.plainOver K C=true
 sa:ES K (.ref C) "__setattr__" = some (some (.builtin "object.__setattr__"))
def Cls.get{K:au}{C:ar}(c:Cls K C)(f:Str):Dp K C f=true:=c.pg
section
variable {X:Cx} {pins:List (ar×Obj)} {σ:St} {H:Hp} {s:ao} {a C dx:ar} {fs:List (Str×V)} {f:Str} {v:V} {A:ed} {E:ai->ao->Prop}
end
section
variable {X:Cx} {o e value:iA} {f:Str} {pos pos' tpos:Pos} {ta tv:TE}
end
section
variable {X:Cx} {pins:List (ar×Obj)} {σ:St} {H:Hp} {s:ao} {A:ed} {E:ai->ao->Prop} {Q:ai->ao->Prop} {c:ai} {b:Bool}
inductive cL(K:au)(H:Hp):V->ai->Prop where
 | non:cL K H .non (.type "NoneType")
 | bl (x:Bool):cL K H (.bl x) (.type "bool")
 | int (i:Int):cL K H (.int i) (.type "int")
 | str (x:Str):cL K H (.str x) (.type "str")
 | flt (x:UInt64):cL K H (.flt x) (.type "float")
 | lst {a:ar} {xs:List V} (e:H a=some (.lst xs)):cL K H (.ref a) (.type "list")
 | frz {a:ar} {o:Obj} {xs:List V} (e:H a=some (.frz o (.lst xs))):cL K H (.ref a) (.type "list")
 | tup {a:ar} {xs:List V} (e:H a=some (.tup xs)):cL K H (.ref a) (.type "tuple")
 | dK {a:ar} {kvs:List (Key×V)} (e:H a=some (.dK kvs)):cL K H (.ref a) (.type "dict")
 | dT {a:ar} {kvs:List (List Key×V)} (e:H a=some (.dT kvs)):cL K H (.ref a) (.type "dict")
 | ins {a C dx:ar} {fs:List (Str×V)} (e:H a=some (.ins C dx fs)) (cl:Cls K C) (ha:ES K (.ref C) "__class__" = some (some (.builtin "object.__class__")))
   (hn:PySem.W.specialIn K (.builtin "object.__class__") "__get__" = some (some (.builtin "getset_descriptor.__get__"))) (htk:PySem.W.takesIn K (.builtin "object.__class__")=some true)
   (hm:PySem.W.mroIn K C (.type "object")=some true):cL K H (.ref a) (.ref C)
def kHP{x:V}{u t:ai}(I:Inv X pins σ H s)(d:RelV x u)(l:cL X.K H x t)(e:ET X.K t c=some b)(h:∀ tk,Q (.bool b) {s with toks:=tk}) :
  eK (model X.prog X.w) A (call (.builtin "isinstance") [u,c]) Q E s:=by
 cases l with
 | non=>cases(show u=ym from d);exact iz PySem.W.kitx_none I.kIn kb e (λ z=>nomatch z) h
 | bl y=>cases(show u=Aj y from d);exact iz PySem.W.kitx_bool I.kIn kb e (λ z=>nomatch z) h
 | int i=>obtain⟨t,q⟩:=(show ∃ t,u=qk i t from d);cases q;exact iz PySem.W.kitx_int I.kIn kb e (λ z=>nomatch z) h
 | str y=>obtain⟨t,q⟩:=(show ∃ t,u=Cd y t from d);cases q;exact iz PySem.W.kitx_str I.kIn kb e (λ z=>nomatch z) h
 | flt y=>obtain⟨t,q⟩:=(show ∃ t,u=Fv y t from d);cases q;exact iz PySem.W.kitx_float I.kIn kb e (λ z=>nomatch z) h
 | @lst a f ea =>
  cases(show u=iE a from d)
  obtain⟨_,_,n,_,h1⟩:=(show ObjOk X.prog X.w H s.heap a (.lst f) from I.hok a _ ea);exact iz DK I.kIn ⟨_,h1,rfl⟩ e (λ z=>nomatch z) h
 | @frz a ob f ea =>
  cases(show u=iE a from d)
  obtain⟨_,_,_,n,_,h1⟩:=(show ObjOk X.prog X.w H s.heap a (.frz ob (.lst f)) from I.hok a _ ea);exact iz DK I.kIn ⟨_,h1,rfl⟩ e (λ z=>nomatch z) h
 | @tup a f ea =>
  cases(show u=iE a from d)
  obtain⟨_,_,_,p⟩:=(show ObjOk X.prog X.w H s.heap a (.tup f) from I.hok a _ ea);obtain⟨o,h1,g,_⟩:=p;exact iz PySem.W.kitx_tuple I.kIn ⟨o,h1,g⟩ e (λ z=>nomatch z) h
 | @dK a kvs ea =>
  cases(show u=iE a from d)
  obtain⟨_,_,v,_,p⟩:=(show ObjOk X.prog X.w H s.heap a (.dK kvs) from I.hok a _ ea);obtain⟨o,r,m,h1,g,_⟩:=p;exact iz DL I.kIn ⟨o,h1,g.1⟩ e (λ z=>nomatch z) h
 | @dT a kvs ea =>
  cases(show u=iE a from d)
  obtain⟨_,_,f,_,o,r,m,h1,g,_⟩:=(show ObjOk X.prog X.w H s.heap a (.dT kvs) from I.hok a _ ea);exact iz DL I.kIn ⟨o,h1,g.1⟩ e (λ z=>nomatch z) h
 | @ins a C dx fs ea cl ha hn htk hm =>
  cases(show u=iE a from d)
  obtain⟨D,O,_⟩:=kNR I.hok ea;obtain⟨B,J,_⟩:=O.look;exact iz (PySem.W.kitx_own (cl.get _) cl.hd ha hn htk hm) I.kIn J e (λ z=>nomatch z) h
end
structure Room(k:Nat)(A:ed):Prop where
 hd:A.handled=none
 dp:A.depth+3*k+5<recursionLimit
 un:A.units+16*k+200<cLine
 gd:A.guards=some []
def Room.mono{j k:Nat}{A:ed}(r:Room k A)(h:j<=k):Room j A:=⟨r.hd,by have:=r.dp;omega,by have:=r.un;omega,r.gd⟩
theorem Room.deeper{k:Nat}{A:ed}(r:Room (k+1) A)(env:Env):Room k (A.deeper env) :=
 ⟨r.hd,by have:=r.dp;show A.depth+1+3*k+5<_;omega,by have:=r.un;show A.units+3+16*k+200<_;omega,r.gd⟩
theorem Room.depth{k:Nat}{A:ed}(r:Room k A):A.depth<recursionLimit:=by have:=r.dp;omega
theorem Room.units{k:Nat}{A:ed}(r:Room k A):A.units+64<cLine:=by have:=r.un;omega
def kBM:TA:=λ _ H Q=>Q [] H
def aF(c:TE)(g:TA):TA:=λ a H Q=>c a H λ x b=>g a b λ d f=>Q (x::d) f
section
variable {X:Cx} {e:iA} {es:List iA} {te:TE} {t:TA} {pos:Pos}
def kU:PA X [] kBM:=λ _ _ _ _ H Q I h=>DM ⟨[],H,I,.nil,h⟩
def kD(v:PE X e te)(f:PA X es t)(i:starEach (e::es) X.env=(false,eval e X.env)::starEach es X.env:=by rfl):PA X (e::es) (aF te t):=by
 intro b a s c H Q I h;rw[i];show eK _ _ (spliced ((false,eval e X.env)::backTo b (starEach es X.env))) _ _ s;refine Cw (thn (v a s c H _ I h) λ u m ⟨x,n,l,d,q⟩=>?_);exact thn (f b a m c n _ l q) λ B A ⟨r,y,g,o,p⟩=>⟨x::r,y,g,.cons d o,p⟩
inductive kOB(Q:VK)(xs:List V)(H1:Hp):Prop
 | mk:(xs.length<=sizeLine)->(∀ p,H1 p=none->Q (.ref p) (upd H1 p (.tup xs)))->kOB Q xs H1
def kTI(t:TA):TE:=λ b H Q=>t b H λ c a=>kOB Q c a
inductive kOC(Q:VK)(xs:List V)(H1:Hp):Prop
 | mk:(xs.length<=sizeLine)->(∀ p,H1 p=none->Q (.ref p) (upd H1 p (.lst xs)))->kOC Q xs H1
def kTM(t:TA):TE:=λ b H Q=>t b H λ c a=>kOC Q c a
def jI {x1} (h:PA X es t):PE X (.Tuple es x1 pos) (kTI t):=by
 intro a s l H Q I g;refine wpAny_Tuple_spliced (thn (h pos a s l H _ I g) λ n c ⟨m,d,f,r,z,q⟩=>⟨by rw[<-r.length];exact z,?_⟩);have i:d c.heap.objs.size=none:=f.hok.fresh (av _);refine⟨.ref c.heap.objs.size,upd d c.heap.objs.size (.tup m),f.laid (t':=c.toks) (λ b u e=>aj _ e) (av _) ?_,rfl,q _ i⟩;exact⟨z,n,r,⟨_,cx _ rfl,rfl,_,rfl,rfl⟩⟩
def jF(h:PA X es t):PE X (.List es pos) (kTM t):=by
 intro a s l H Q I g;refine wpAny_List_spliced (thn (h pos a s l H _ I g) λ n c ⟨m,d,f,r,z,q⟩=>⟨by rw[<-r.length];exact z,?_⟩);have i:d c.heap.objs.size=none:=f.hok.fresh (av _);refine⟨.ref c.heap.objs.size,upd d c.heap.objs.size (.lst m),f.laid (t':=c.toks) (λ b u e=>aj _ e) (av _) ?_,rfl,q _ i⟩;exact⟨z,n,0,r,cx _ rfl⟩
end
abbrev Sp:=List V->Hp->VK->XK->Prop
abbrev CXT:=List Env->Hp->ao->XK->ai->ao->Prop
structure Env0(P:eN)(w:fu)(K:au)(mg:Str->Option ai)(base:iC)(A:ed)(outer:List Env)(s:ao)(H:Hp):Prop where
 frames:A.frames=some outer
 mod:Mod K mg base
 bs:∀ b o,base.get? b=some o->s.heap.get? b=some o/\H b=none
 bsz:base.objs.size<=s.heap.objs.size
 funs:s.heap.FunFrames base outer
 frf:∀ b∈frs outer,H b=none
 hok:HOk P w H s.heap
 bare:BI s.gens
def CE(outer:List Env)(P:eN)(w:fu)(H:Hp)(s:ao)(Q:VK)(u:ai)(a:ao):Prop :=
 ∃ v b,a.os=s.os/\BI a.gens/\Un (frs outer) [] H b s.heap a.heap/\HOk P w b a.heap/\RelV v u/\Q v b
def CR(CX:CXT)(outer:List Env)(P:eN)(w:fu)(H:Hp)(s:ao)(Q:VK)(E:XK)(r:EU)(a:ao):Prop :=
 match r with
 | .ok (.ret u)=>CE outer P w H s Q u a
 | .ok _=>False
 | .error e=>CX outer H s E e a
structure FnOk(P:eN)(w:fu)(K:au)(mg:Str->Option ai)(base:iC)(CX:CXT)(k:Nat)(f:ar)(fd:og)(ps:List Str)(sp:Sp):Prop where
 len:∀ vs H Q E,sp vs H Q E->vs.length=ps.length
 run:∀(A:ed)(outer:List Env)(s:ao)(H:Hp)(args:Args)(us:List ai)(vs:List V)(Q:VK)(E:XK),Room k A->Env0 P w K mg base A outer s H->DN s fd args (ps.zip us)->Vals vs us->sp vs H Q E ->
  codeAny (model P w) A (.call (.ref f) args) (CR CX outer P w H s Q E) s
section
variable {X:Cx} {pins:List (ar×Obj)} {σ:St} {H:Hp} {s s':ao}
def Inv.env0(I:Inv X pins σ H s):Env0 X.prog X.w X.K X.mg X.base X.A X.stack s H :=
 ⟨I.ok.frames,I.ok.mod,I.bs,gx I.ok.bsz I.sz,I.stack,I.stkFree,I.hok,I.bare⟩
def Inv.after{Q:VK}{u:ai}(I:Inv X pins σ H s)(h:CE X.stack X.prog X.w H s Q u s'):EP X pins σ Q u s':=by
 obtain⟨v,i,os,a,un,f,r,q⟩:=h;obtain⟨l,g,d,t,c⟩:=s';obtain rfl:c=s.os:=os;exact⟨v,i,I.call (h':=l) (g':=g) (d':=d) (t':=t) (ch:=[]) un f a (λ b z=>absurd z (by simp)),r,q⟩
end
def kDT(sp:Sp)(a:List V)(E:XK)(t:TA):TE:=λ d H Q=>t d H λ c b=>sp (c++a) b Q E
def Binds(K:au)(d:og)(c:List Str)(b:List ai):Prop :=
 ∀(s:ao)(a:List ai),K.In s.heap->(a++b).length=c.length->DN s d ⟨a,[]⟩ (c.zip (a++b))
def Binds.all{K:au}{b:og}{a:List Str}(h:∀ us:List ai,us.length=a.length->bindArgs b ⟨us,[]⟩=pure (a.zip us)):Binds K b a []:=λ s us _ c=>by
 rw[iM]at c ⊢;exact .of_eq (h us c)
def kDL(CX:CXT)(X:Cx)(E:XK):Prop:=∀(pins:List (ar×Obj))(σ:St)(H:Hp)(s:ao)(e:ai)(s':ao),Inv X pins σ H s->CX X.stack H s E e s'->X.xe e s'
section
variable {X:Cx} {CX:CXT} {k:Nat} {f C:ar} {fd:og} {ps:List Str} {sp:Sp} {dvs:List V} {ds:List ai} {E:XK} {x m:Str} {p pos apos:Pos} {e o:iA} {es:List iA} {ta:TE} {t:TA}
def kPN{a:List (ar×Obj)}{g:St}{H:Hp}{s:ao}{Q:VK}{b:List ai}{d:List V}(F:FnOk X.prog X.w X.K X.mg X.base CX k f fd ps sp)(n:Room k X.A)(l:Binds X.K fd ps ds)(q:Vals dvs ds)(p:kDL CX X E)
  (I:Inv X a g H s) (r:Vals d b) (h:sp (d++dvs) H Q E):eK (model X.prog X.w) X.A (call (.ref f) b) (EP X a g Q) X.xe s:=by
 have i:Vals (d++dvs) (b++ds):=r.append q;have o:(b++ds).length=ps.length:=by rw[<-i.length];exact F.len _ _ _ _ h
 refine Cy (ur (F.run X.A X.stack s H ⟨b,[]⟩ (b++ds) (d++dvs) Q E n I.env0 (l s b I.kIn o) i h) λ r m c=>?_)
 cases r with
 | error e=>exact p a g H s e m I c
 | ok fl =>
  cases fl with
  | ret u=>exact I.after c
  | next=>exact uq c
  | brk=>exact uq c
  | cont=>exact uq c
def kNB(F:FnOk X.prog X.w X.K X.mg X.base CX k f fd ps sp)(i:Room k X.A)(l:Gl X x)(u:X.mg x=some (.ref f))(m:yy X.K (.ref f)=true)(g:Binds X.K fd ps ds)(v:Vals dvs ds)(y:kDL CX X E)
  (B:PA X (e::es) t) (c:(x == ("__debug__" : Str))=false:=by decide) (o:starEach (e::es) X.env=(false,eval e X.env)::starEach es X.env:=by rfl) (b:(backTo pos (starEach es X.env)).any (·.1)=false:=by rfl) :
  PE X (.Call (.Name x p) (e::es) [] pos) (kDT sp dvs E t):=by
 intro a s n H Q I h;refine An (kFD I l u ?_ c);refine PySem.W.callWith_K (h₀:=X.base) I.ok.mod.kin m (thn (B pos a s n H _ I h) λ D G ⟨C,J,d,r,q⟩=>⟨d.kIn,?_⟩) o b;exact kPN F i g v y d r q
end
section
variable {X:Cx} {CX:CXT} {k:Nat} {f C:ar} {fd:og} {ps ks:List Str} {sp:Sp} {E:XK} {x m:Str} {p pos apos kpos:Pos} {e o:iA} {es:List iA} {kws:List Ce} {te ta:TE} {t tk:TA} {nm:Option Str}
variable {g:List ai->List ai->List ai} {gV:List V->List V->List V}
end
structure FnScope(N P:List Str)(sc:uj):Prop where
 kind:sc.kind=.function
 co:sc.isCoroutine=false
 gen:sc.isGenerator=false
 nd:N.Nodup
 pre:N.take P.length=P
 par:∀ x∈P,sc.names.lookup x=some .local\/sc.names.lookup x=some .cell
 nofree:∀ y∈sc.names,y.2≠.free
theorem oK{kindOf:Str->Option oh}{x:Str}:∀{binds:List (Str×ai)}{m:Str->Option ai},(∀ v,(x,v)∉binds)->bindL kindOf binds m x=m x
 | [],_,_=>rfl
 | (n,v)::r,m,h=>by
  unfold bindL;rw[oK λ w a=>h w (dc _ a)]
  split
  ·have:x≠n:=by rintro rfl;exact h v eW
   simp[this]
  ·rfl
theorem oN{kindOf:Str->Option oh}{x:Str}:∀{binds:List (Str×ai)}{m:Str->Option ai},(∀ v,(x,v)∉binds)->bindC kindOf binds m x=m x
 | [],_,_=>rfl
 | (n,v)::r,m,h=>by
  unfold bindC;rw[oN λ w a=>h w (dc _ a)]
  split
  ·rfl
  ·have:x≠n:=by rintro rfl;exact h v eW
   simp[this]
theorem oM{kindOf:Str->Option oh}{x:Str}{v:ai}:∀{P:List Str}{a:List ai}{i:Nat}{m:Str->Option ai},P.Nodup->P[i]?=some x->a[i]?=some v->kindOf x=some .local ->
  bindL kindOf (P.zip a) m x=some v
 | [],_,_,_,_,h,_,_=>by simp at h
 | _::_,[],_,_,_,_,h,_=>by simp at h
 | p::P,w::a,0,m,nd,h1,h2,hk=>by
  simp at h1 h2;subst h1;subst h2;show bindL kindOf ((p,w)::P.zip a) m p=_;unfold bindL;rw[oK λ v b=>(dr.mp nd).1 (Ao b).1,if_pos hk];simp
 | p::P,w::a,i+1,m,nd,h1,h2,hk=>by
  show bindL kindOf ((p,w)::P.zip a) m x=_;unfold bindL;exact oM (i:=i) (dr.mp nd).2 (by simpa using h1) (by simpa using h2) hk
theorem oO{kindOf:Str->Option oh}{x:Str}{v:ai}:∀{P:List Str}{a:List ai}{i:Nat}{m:Str->Option ai},P.Nodup->P[i]?=some x->a[i]?=some v->kindOf x≠some .local ->
  bindC kindOf (P.zip a) m x=some v
 | [],_,_,_,_,h,_,_=>by simp at h
 | _::_,[],_,_,_,_,h,_=>by simp at h
 | p::P,w::a,0,m,nd,h1,h2,hk=>by
  simp at h1 h2;subst h1;subst h2;show bindC kindOf ((p,w)::P.zip a) m p=_;unfold bindC;rw[oN λ v b=>(dr.mp nd).1 (Ao b).1,if_neg hk];simp
 | p::P,w::a,i+1,m,nd,h1,h2,hk=>by
  show bindC kindOf ((p,w)::P.zip a) m x=_;unfold bindC;exact oO (i:=i) (dr.mp nd).2 (by simpa using h1) (by simpa using h2) hk
def start(N:List Str)(a:List V):St:=a.map some++dh (N.length-a.length) none
def qK(CX:CXT)(P:eN)(w:fu)(K:au)(mg:Str->Option ai)(base:iC)(N:List Str)(b:Str)(a:uj)(f:ar)(d:ai)(A:ed)(outer:List Env)(s:ao)(H:Hp)(E:XK):Cx where
 prog:=P
 w:=w
 K:=K
 mg:=mg
 base:=base
 A:=A.deeper (envOfC b a s.heap.objs.size f d)
 N:=N
 s₀:=s
 H₀:=H
 env:=envOfC b a s.heap.objs.size f d
 outer:=outer
 stack:=envOfC b a s.heap.objs.size f d::outer
 ex:=[]
 calm:=true
 fn:=λ _=>true
 pn:=[]
 xe:=λ e g=>eK (model P w) (A.deeper (envOfC b a s.heap.objs.size f d)) (leaving (envOfC b a s.heap.objs.size f d) e) (λ _ c=>CX outer H s E e c) (λ h c=>CX outer H s E h c) g
def kBC{a:uj}{n:Nat}{x:Str}(h:a.names.lookup x=some .cell):∃ c,(cellsFrom n a.names []).lookup x=some c:=by
 have q:=Bo a.names n [] (.inl h);exact xx.mp q
def kHQ{CX:CXT}{P:eN}{w:fu}{K:au}{mg:Str->Option ai}{base:iC}{N D:List Str}{g:Str}{d:uj}{f:ar}{I:ai}{A:ed}{outer:List Env}{s O:ao}{H:Hp}{E:XK}{L:List ai}{o:List V}
  (S:FnScope N D d) (X:A.handled=none) (m:Env0 P w K mg base A outer s H) (hl:o.length=D.length) (r:Vals o L)
  (x:InCallC s s.heap.objs.size (bindL (envOfC g d s.heap.objs.size f I).kindOf (D.zip L) λ _=>none) (cellsFrom (s.heap.objs.size+1) d.names []) (bindC (envOfC g d s.heap.objs.size f I).kindOf (D.zip L) λ _=>none) O) :
  Inv (qK CX P w K mg base N g d f I A outer s H E) [] (start N o) H O:=by
 have U:D.length<=N.length:=by have:=congrArg iB S.pre;rw[eO]at this;omega
 obtain⟨h1,Z,rfl,M⟩:=x.done;have B:∀ b:ar,b∉(qK CX P w K mg base N g d f I A outer s H E).ex:=λ b z=>absurd (show b∈([]:List ar) from z) (by simp)
 refine⟨⟨m.mod,S.kind,rfl,rfl,av _,λ y z c h1 l=>?_,λ y C=>?_,λ y c _ h=>?_,λ _=>X,Around.frames_deeper m.frames,.inr ⟨rfl,rfl⟩,λ b z=>absurd z (B b),m.bs,m.bsz,λ b _ _=>B b,λ b z=>absurd z (B b),m.funs,m.frf⟩,
  rfl,m.bare,Un.kept M,⟨_,x.toInCall.ns,λ i y v h1 l h3=>?_⟩,λ y c h=>⟨_,x.cell y c h⟩,m.hok.fresh (av _),λ y c h=>?_,λ p hp=>absurd (show p∈([]:List (ar×Obj)) from hp) (by simp),m.hok.kept M,?_⟩
 ·exact name_of_addr x.apart (jb h1) (jb l)
 ·have C:d.names.lookup y=some .cell\/d.names.lookup y=some .free:=C
  rcases C with C | C
  ·exact kBC C
  ·exact absurd rfl (S.nofree _ (jb C))
 ·exact ka (x.above y c (jb h))
 ·have J:i<o.length:=by
   unfold start at l;by_cases J:i<o.length
   ·exact J
   ·rw[bu (by simpa using J)]at l
    rw[List.getElem?_replicate]at l
    split at l<;>cases l
  have Y:o[i]?=some v:=by
   unfold start at l;rw[bh (by simpa using J),ay]at l
   cases e:o[i]? with
   | none=>rw[e]at l;cases l
   | some a=>rw[e]at l;cases l;rfl
  obtain⟨u,Q,T⟩:=r.get Y
  have hp:D[i]?=some y:=by
   rw[<-S.pre,ko (by omega)];exact h1
  have G:D.Nodup:=by rw[<-S.pre];exact S.nd.sublist (List.take_sublist _ _)
  refine⟨u,T,?_⟩;rcases S.par y (cu hp) with k | k
  ·exact .inl ⟨k,oM G hp Q k⟩
  ·obtain⟨c,e⟩:=kBC (n:=s.heap.objs.size+1) k
   refine .inr ⟨.inl k,c,e,?_⟩;have q:=x.cell y c e;rw[oO G hp Q (by show d.names.lookup y≠_;rw[k];decide)]at q;exact q
 ·exact m.hok.fresh (ka (x.above y c (jb h)))
 ·unfold start
  show _=N.length;rw[bg,af,iV];omega
def kSV{CX:CXT}{P:eN}{w:fu}{K:au}{mg:Str->Option ai}{base:iC}{k:Nat}{f:ar}{name c:Str}{g:Arguments}{body:List ja}{a:uj}{dV kV G pm d ct oc:ai}{an od:Option ar}
  {Y:Array (Option ai)} {N L:List Str} {sp:Sp} (lk:K.lookup f=some ⟨oc,od,.func (rh name c g body a dV kV G pm an d ct),Y⟩) (X:Ap K d c=true) (S:FnScope N L a)
  (len:∀ h H Q E,sp h H Q E->h.length=L.length)
  (m:∀(A:ed)(outer:List Env)(s:ao)(H:Hp)(h:List V)(Q:VK)(E:XK),Room k (A.deeper (envOfC c a s.heap.objs.size f d))->sp h H Q E ->
   ∃ t,PSs (qK CX P w K mg base N c a f d A outer s H E) body t/\t {nx:=λ _ H'=>Q .non H',rt:=Q} (start N h) H) :
  FnOk P w K mg base CX (k+1) f (rh name c g body a dV kV G pm an d ct) L sp:=by
 refine⟨len,λ A outer s H a0 us h Q E T B hb r D=>?_⟩;have hl:=len _ _ _ _ D;have Z:K.In s.heap:=B.mod.kin.keeps λ b o e=>(B.bs b o e).1;have M:s.heap.NoLimit:=B.mod.nolimit.keeps λ b o e=>(B.bs b o e).1
 have l:∀ y∈L.zip us,a.names.lookup y.1=some .local\/(a.names.lookup y.1=some .cell/\((cellsFrom (s.heap.objs.size+1) a.names []).lookup y.1).isSome=true):=λ⟨n,v⟩ hy=>by
  rcases S.par n (Ao hy).1 with q | q
  ·exact .inl q
  ·exact .inr ⟨q,Bo _ _ _ (.inl q)⟩
 refine codeAny_call_function T.depth (Z _ _ lk) rfl S.co S.gen rfl (PySem.W.codeRec_of Z X) (hb _ _ _ _ ?_);refine wpAny_newFunctionEnv_cells S.kind l λ a1 he s1 x=>?_;subst he;refine⟨M.keeps x.toInCall.keep,codeAny_func ?_⟩;obtain⟨t,ht,hq⟩:=m A outer s H h Q E (T.deeper _) D;have I:Inv (qK CX P w K mg base N c a f d A outer s H E) [] (start N h) H s1:=kHQ S T.hd B hl r x;refine uo (ht [] s1 (start N h) H _ I hq) (λ fl O p=>?_) λ e O p=>p
 have C:∀{i:St}{H':Hp}{v:V}{u:ai},Inv (qK CX P w K mg base N c a f d A outer s H E) [] i H' O->RelV v u->Q v H'->CE outer P w H s Q u O :=
  λ{i H' v u} J U q=>⟨v,H',J.os,J.bare,J.base,J.hok,U,q⟩
 cases fl with
 | ret u =>
  obtain⟨v,i,H',J,U,q⟩:=p;exact C J U q
 | next =>
  obtain⟨i,H',J,q⟩:=p;exact C (v:=V.non) (u:=ym) J rfl q
 | brk =>
  obtain⟨_,_,_,q⟩:=p;exact uq q
 | cont =>
  obtain⟨_,_,_,q⟩:=p;exact uq q
section
variable {X:Cx} {x:Str} {p pos:Pos} {e:iA} {es:List iA} {t:TA} {id T:String} {r:List V->Hp->VK->Prop}
def tCB(r:List V->Hp->VK->Prop)(t:TA):TE:=λ c H Q=>t c H λ b a=>r b a Q
def kM(m:xR X (.builtin id) r)(i:Gl X x)(y:X.mg x=none)(l:bootBuiltins x=some (.builtin id))(C:PA X (e::es) t)(q:x≠"__name__":=by decide)(c:(x == ("__debug__" : Str))=false:=by decide)
  (n:starEach (e::es) X.env=(false,eval e X.env)::starEach es X.env:=by rfl) (b:(backTo pos (starEach es X.env)).any (·.1)=false:=by rfl):PE X (.Call (.Name x p) (e::es) [] pos) (tCB r t):=by
 intro a s d H Q I h;refine An (cA I i y l ?_ q c);exact Dq (thn (C pos a s d H _ I h) λ o v ⟨g,A,u,f,B⟩=>m a v d A g o Q u f B) n b
def qJ(m:xR X (.type T) r)(i:Gl X x)(y:X.mg x=none)(l:bootBuiltins x=some (.type T))(C:PA X (e::es) t)(q:x≠"__name__":=by decide)(c:(x == ("__debug__" : Str))=false:=by decide)
  (n:starEach (e::es) X.env=(false,eval e X.env)::starEach es X.env:=by rfl) (b:(backTo pos (starEach es X.env)).any (·.1)=false:=by rfl):PE X (.Call (.Name x p) (e::es) [] pos) (tCB r t):=by
 intro a s d H Q I h;refine An (cA I i y l ?_ q c);exact mz (thn (C pos a s d H _ I h) λ o v ⟨g,A,u,f,B⟩=>m a v d A g o Q u f B) n b
end
end L2
namespace HT
open PySem PyProof.Rows
section
open PySem.SeqAt
open PySem.AutoSeq1 (wpAny_loadPart')
open PySem.MeetsSeq PySem.MeetsSeq2 PySem.MeetsSeq3
end
section
variable {prog:eN} {w:fu} {A:ed} {E:ai->ao->Prop} {s:ao}
def cat_tup{t b:ar}{d a:List ai}{Q:ai->ao->Prop}(B:EM s.heap t d.toArray)(y:EM s.heap b a.toArray)(p:d≠[])
  (h1:a=[]->Q (.ref t) s) (C:a≠[]->Q (.ref s.heap.objs.size) {s with heap:=s.heap.push {cls:=.type "tuple",data:=.seq (d++a).toArray}})
  (hsz:d.length+a.length<=sizeLine):eK (model prog w) A (binaryOp .Add (.ref t) (.ref b)) Q E s:=by
 obtain⟨⟨cls,r,data,x⟩,m,q,n,u⟩:=id B;obtain⟨⟨o,g,data2,f⟩,c,i,v,h⟩:=id y;simp only at q u i h;subst q u i h;have e:d.toArray++a.toArray=(d++a).toArray:=by simp
 by_cases l:a=[]
 ·exact DO ⟨_,m,rfl⟩ ⟨_,c,rfl⟩ Be Co yz yq (xy _ _)
   (tuple_addW1 t b d.toArray a.toArray n v r g x f (by simpa using p) (by simp[l])) ⟨m,c,h1 l⟩
 ·refine DO ⟨_,m,rfl⟩ ⟨_,c,rfl⟩ Be Co yz yq (xy _ _)
   (tuple_addW2 t b d.toArray a.toArray n v r g x f (by simpa using p) (by simpa using l) (by rw[eX,eX];exact hsz)) ⟨m,c,?_⟩
  rw[e];exact C l
def sIx(n d:Nat):Option Int->Nat
 | none=>d
 | some v=>if v<0 then(v+(n:Int)).toNat else min v.toNat n
def sIx_none(n d:Nat):sIx n d none=d:=rfl
def sIx_nat(n d k:Nat):sIx n d (some (k:Int))=min k n:=by
 show(if(k:Int)<0 then((k:Int)+(n:Int)).toNat else min (k:Int).toNat n)=min k n;rw[if_neg (by omega),fg]
def kPM(n d:Nat)(b:d<=n)(o:Option Int):sIx n d o<=n:=by
 cases o with
 | none=>exact b
 | some v =>
  show(if v<0 then(v+(n:Int)).toNat else min v.toNat n)<=n;by_cases a:v<0
  ·rw[if_pos a];omega
  ·rw[if_neg a];exact Nat.min_le_right _ _
def kFU(v:Int)(n d:Nat):(if v<0 then max (v+(n:Int)) 0 else min v (n:Int))=((sIx n d (some v):Nat):Int):=by
 show(if v<0 then max (v+(n:Int)) 0 else min v (n:Int))=(((if v<0 then(v+(n:Int)).toNat else min v.toNat n):Nat):Int);by_cases a:v<0
 ·simp only[if_pos a];omega
 ·simp only[if_neg a];omega
def kDK(lo hi:Option Int)(n:Nat):xk lo hi 1 (n:Int)=(((sIx n 0 lo:Nat):Int),((sIx n n hi:Nat):Int)):=by
 have h1:¬ ((1:Int)<0):=by omega
 unfold xk;simp only[h1,if_false];refine kr ?_ ?_
 ·cases lo with
  | none=>rfl
  | some v=>exact kFU v n 0
 ·cases hi with
  | none=>rfl
  | some v=>exact kFU v n n
def kCG(i j:Nat):qh (i:Int) (j:Int) 1=j-i:=by
 unfold qh;have h1:(1:Int)>0:=by omega
 simp only[h1,if_true,Int.ediv_one]
 split<;>omega
def fN{v:ai}{o:Option Int}{Q:Option Int->ao->Prop}(p:Bp v o)(h:Q o s):eK (model prog w) A (EC v) Q E s:=by
 cases p with
 | none=>exact EV h
 | int i t=>exact slicePart_int h
def sliceApplied_gen{f:ar}{d c:ai}{lo hi:Option Int}{n:Nat}{Q:Int×Int×Nat->ao->Prop}(g:s.heap.IsSliceOf f d c .none)(m:Bp d lo)(i:Bp c hi)
  (h:Q (((sIx n 0 lo:Nat):Int),1,sIx n n hi-sIx n 0 lo) s):eK (model prog w) A (Aq (.ref f) (pure (n:Int))) Q E s:=by
 obtain⟨os,a,l,b⟩:=id g;unfold Aq Ez;refine ah (ah (yr a b (x:=d) rfl (ah (yr a b (x:=c) rfl (ah (yr a b (x:=.none) rfl (cc ?_)))))));refine ah (EV ?_);show eK _ _ (if((1:Int) == 0)=true then _ else _) _ _ s;rw[if_neg (by decide)];refine ah (fN m (ah (fN i (ah (cc ?_)))));show eK _ _ (match xk lo hi 1 (n:Int) with | (lo,hi)=>pure (lo,(1:Int),qh lo hi 1)) _ _ s
 rw[kDK lo hi n];show eK _ _ (pure (((sIx n 0 lo:Nat):Int),(1:Int),qh ((sIx n 0 lo:Nat):Int) ((sIx n n hi:Nat):Int) 1)) _ _ s;rw[kCG];exact cc h
def kKF(xs:Array ai)(i k:Nat):((df k).filterMap λ(m:Nat)=>xs[((i:Int)+(m:Int)*1).toNat]?).toArray=((xs.toList.drop i).take k).toArray:=by
 have e:(λ(m:Nat)=>xs[((i:Int)+(m:Int)*1).toNat]?)=λ m=>xs[i+m]?:=by
  funext m
  have:((i:Int)+(m:Int)*1).toNat=i+m:=by omega
  rw[this]
 rw[e];have:=pick_run xs i k;rw[List.filterMap_map]at this;have a:((λ x=>xs[x]?)∘λ x=>i+x)=λ m=>xs[i+m]?:=rfl;rw[a]at this;rw[this]
def getItem_tuple_cut{t l:ar}{a:Array ai}{n p:ai}{lo hi:Option Int}{Q:ai->ao->Prop}(c:EM s.heap t a)(o:s.heap.IsSliceOf l n p .none)(v:Bp n lo)(x:Bp p hi)
  (r:¬ (sIx a.size 0 lo=0/\sIx a.size a.size hi=a.size))
  (h:Q (.ref s.heap.objs.size) {s with heap:=s.heap.push {cls:=.type "tuple",data:=.seq ((a.toList.drop (sIx a.size 0 lo)).take (sIx a.size a.size hi-sIx a.size 0 lo)).toArray}})
  (hsz:a.size<=sizeLine):eK (model prog w) A (getItem (.ref t) (.ref l)) Q E s:=by
 have b:sizeOk (.seq ((a.toList.drop (sIx a.size 0 lo)).take (sIx a.size a.size hi-sIx a.size 0 lo)).toArray):=by
  show((a.toList.drop (sIx a.size 0 lo)).take (sIx a.size a.size hi-sIx a.size 0 lo)).toArray.size<=sizeLine;rw[eX,eO,iJ,eZ];omega
 have y:sIx a.size a.size hi<=a.size:=kPM _ _ (av _) hi;obtain⟨os,f,i,u⟩:=id o;have g:s.TypeIs (.ref l) "slice":=⟨os,f,i⟩;unfold getItem
 try with_reducible refine iL ?_
 first | refine ah (cc ?_) | skip
 refine ah (DP c.typeIs (by decide) ?_)
 refine ah (uc (name:=ng "__getitem__") c.typeIs iS
  (ud iS c.typeIs Cg ?_ (Cz _ _)))
 show eK _ _ (Ar (.ref t) >>= _) _ _ s;refine ah (tupleItemsOf_ c ?_);refine ah (rj g ?_);rw[if_pos (by decide)];refine ah (sliceApplied_gen o v x ?_)
 have d:¬ ((((sIx a.size 0 lo:Nat):Int) == 0 && (1:Int) == 1 && (sIx a.size a.size hi-sIx a.size 0 lo) == a.size)=true):=by
  intro q;rw[iF,iF]at q;have B:((sIx a.size 0 lo:Nat):Int)=0:=eq_of_beq q.1.1;have C:sIx a.size a.size hi-sIx a.size 0 lo=a.size:=eq_of_beq q.2;exact r ⟨by omega,by omega⟩
 show eK _ _ (if(((sIx a.size 0 lo:Nat):Int) == 0 && (1:Int) == 1 && (sIx a.size a.size hi-sIx a.size 0 lo) == a.size)=true then _ else _) _ _ s;rw[if_neg d,kKF]
 first
  | exact ah (m:=tf _) (iW (cc ⟨_,rfl,cc h⟩) b)
  | exact ah (m:=tf _) (iW (ah (cc (cc ⟨_,rfl,cc h⟩))) b)
  | exact ah (ah (m:=tf _) (iW (cc (cc ⟨_,rfl,cc h⟩)) b))
  | exact ah (ah (m:=tf _) (iW (cc ⟨_,rfl,cc h⟩) b))
end
end HT
namespace L2
open PySem PySem.Spec PyProof.Rows
abbrev TO:=St->Hp->(Option Int->Hp->Prop)->Prop
def PO(X:Cx)(e:Option iA)(t:TO):Prop :=
 ∀(pins:List (ar×Obj))(s:ao)(σ:St)(H:Hp)(Q:Option Int->Hp->Prop),Inv X pins σ H s->t σ H Q ->
  eK (model X.prog X.w) X.A (evalPart e X.env) (λ u b=>∃ o a,Inv X pins σ a b/\Bp u o/\Q o a) X.xe s
def kMK:TO:=λ _ H Q=>Q none H
inductive kIY(Q:Option Int->Hp->Prop)(x:V)(H1:Hp):Prop
 | mk:∀ i,(x=.int i)->(Q (some i) H1)->kIY Q x H1
def kRO(t:TE):TO:=λ b H Q=>t b H λ x a=>kIY Q x a
section
variable {X:Cx} {e:iA} {te:TE} {lo hi:Option iA} {tl th:TO} {pos p2:Pos}
def xZ:PO X none kMK:=by
 intro a s b H Q I h;rw[evalPart_none];exact cc ⟨none,H,I,.none,h⟩
def jP(h:PE X e te):PO X (some e) (kRO te):=by
 intro a s l H Q I f;rw[evalPart_some];refine thn (h a s l H _ I f) λ u m ⟨x,b,d,c,g⟩=>?_;obtain⟨i,rfl,q⟩:=g;obtain⟨t,rfl⟩:=c;exact⟨some i,b,d,.int i t,q⟩
def SlR(X:Cx)(r:V->Option Int->Option Int->Hp->VK->Prop):Prop :=
 ∀(pins:List (ar×Obj))(s:ao)(σ:St)(H:Hp)(x:V)(v vl vu:ai)(lo hi:Option Int)(sl:ar)(Q:VK),Inv X pins σ H s->RelV x v->s.heap.IsSliceOf sl vl vu .none->Bp vl lo->Bp vu hi->r x lo hi H Q ->
  ∃ T id,typeLookup (.type T) "__getitem__" = pure (some (.builtin id))/\s.TypeIs v T/\eK (model X.prog X.w) X.A (getItem v (.ref sl)) (EP X pins σ Q) X.xe s
def SlR.or{r l:V->Option Int->Option Int->Hp->VK->Prop}(h:SlR X r)(h':SlR X l):SlR X (λ x lo hi H Q=>r x lo hi H Q\/l x lo hi H Q):=by
 intro a s g H x v i f lo hi m Q I d b n c q;rcases q with q | q
 ·exact h a s g H x v i f lo hi m Q I d b n c q
 ·exact h' a s g H x v i f lo hi m Q I d b n c q
def tSl(r:V->Option Int->Option Int->Hp->VK->Prop)(c:TE)(h d:TO):TE:=λ a H Q=>c a H λ x b=>h a b λ l g=>d a g λ u f=>r x l u f Q
def jK{r:V->Option Int->Option Int->Hp->VK->Prop}(o:SlR X r)(G:PE X e te)(Y:PO X lo tl)(hu:PO X hi th):PE X (.Subscript e (.Slice lo hi none p2) pos) (tSl r te tl th):=by
 intro a s d H Q I h;refine EW (thn (G a s d H _ I h) λ v M ⟨x,S,L,m,q1⟩=>?_);refine wpAny_Slice (thn (Y a M d S _ L q1) λ f n ⟨l,H2,p,O,Z⟩=>thn (hu a n d H2 _ p Z) λ g c ⟨u,i,N,U,D⟩=>?_);rw[evalPart_none];refine cc ?_;have J:Inv X a d i {c with heap:=c.heap.push {cls:=.type "slice",data:=.fields #[f,g,.none]}}:=N.kept (t':=c.toks) λ b ob q=>aj _ q
 obtain⟨T,id,C,B,y⟩:=o a {c with heap:=c.heap.push {cls:=.type "slice",data:=.fields #[f,g,.none]}} d i x v f g l u c.heap.objs.size Q J m (GG ..) O U D
 show eK (model X.prog X.w) X.A (subscriptTail e (.Slice lo hi none p2) v (.ref c.heap.objs.size)) (EP X a d Q) X.xe {c with heap:=c.heap.push {cls:=.type "slice",data:=.fields #[f,g,.none]}}
 exact tail_any (ops:=[.ref c.heap.objs.size,v]) B C y (by with_unfolding_all rfl)
def wZ(xs:List V)(lo hi:Option Int):List V:=(xs.drop (HT.sIx xs.length 0 lo)).take (HT.sIx xs.length xs.length hi-HT.sIx xs.length 0 lo)
def dD(xs:List V)(lo hi:Option Int):(wZ xs lo hi).length<=xs.length:=by
 unfold wZ;rw[eO,iJ];omega
inductive kPP(K:au)(x:V)(lo:Option Int)(hi:Option Int)(H:Hp)(Q:VK):Prop
 | mk:∀ a xs,(x=.ref a)->(SqT K H a xs)->(¬ (HT.sIx xs.length 0 lo=0/\HT.sIx xs.length xs.length hi=xs.length))->(∀ p,H p=none->Q (.ref p) (upd H p (.tup (wZ xs lo hi))))->kPP K x lo hi H Q
def sl_tup:SlR X (kPP X.K):=by
 intro m s C H x v D J lo g L Q I u p y A h;obtain⟨a,d,rfl,B,n,q⟩:=h;cases u
 obtain⟨f,r,i,l⟩:=I.tuple B;have c:f.toArray.size=d.length:=by rw[eX];exact r.length.symm
 refine⟨"tuple",_,iS.lookup,i.typeIs,?_⟩;refine HT.getItem_tuple_cut i p y A (by rw[c];exact n) ?_ (by rw[c];exact l);rw[c];refine⟨.ref s.heap.objs.size,_,I.laid (t':=s.toks) (o:=.tup (wZ d lo g)) (λ b G q=>aj _ q) (av _) ?_,rfl,q _ (I.hok.fresh (av _))⟩;exact⟨gx (dD d lo g) l,_,(r.drop (HT.sIx d.length 0 lo)).take (HT.sIx d.length d.length g-HT.sIx d.length 0 lo),IsTupN.new _ _⟩
inductive kOP(K:au)(x:V)(y:V)(H:Hp)(Q:VK):Prop
 | mk:∀ a b xs ys,(x=.ref a)->(y=.ref b)->(SqT K H a xs)->(SqT K H b ys)->(xs≠[])->(xs.length+ys.length<=sizeLine)->((ys=[]->Q (.ref a) H))->((ys≠[]->∀ p,H p=none->Q (.ref p) (upd H p (.tup (xs++ys)))))->kOP K x y H Q
def Vals.nil_iff{xs:List V}{a:List ai}(r:Vals xs a):a=[]↔xs=[]:=by
 cases r with
 | nil=>simp
 | cons _ _=>simp
def kEX:OpR X (binaryOp .Add) (kOP X.K):=by
 intro i s J H x y v u Q I p G h;obtain⟨a,b,B,n,rfl,rfl,C,l,D,g,A,r⟩:=h;cases p
 cases G
 obtain⟨m,d,p1,_⟩:=I.tuple C;obtain⟨f,c,p2,_⟩:=I.tuple l;refine HT.cat_tup p1 p2 (λ z=>D (d.nil_iff.mp z)) (λ z=>⟨.ref a,H,I,rfl,A (c.nil_iff.mp z)⟩) (λ z=>?_) (by rw[<-d.length,<-c.length];exact g);refine⟨.ref s.heap.objs.size,_,I.laid (t':=s.toks) (o:=.tup (B++n)) (λ b L q=>aj _ q) (av _) ?_,rfl,r (λ w=>z (c.nil_iff.mpr w)) _ (I.hok.fresh (av _))⟩;exact⟨by rw[bg];exact g,_,d.append c,IsTupN.new _ _⟩
end
def ixN(n:Nat)(i:Int):Option Nat:=if 0<=i then(if i<n then some i.toNat else none) else if -(n:Int)<=i then some (i+n).toNat else none
def atI{α:Type}(xs:List α)(i:Int):Option α:=(ixN xs.length i).bind λ j=>xs[j]?
def kFG{n:Nat}{i:Int}{j:Nat}(h:ixN n i=some j):seqIndex? i n=some j/\j<n/\-(n:Int)<=i/\i<n:=by
 unfold ixN at h;by_cases h0:0<=i
 ·rw[if_pos h0]at h
  by_cases h1:i<n
  ·rw[if_pos h1]at h
   have e:i.toNat=j:=bj h;exact⟨by rw[Dz h0 h1,e],by omega,by omega,h1⟩
  ·rw[if_neg h1]at h;cases h
 ·rw[if_neg h0]at h
  by_cases h1 : -(n:Int)<=i
  ·rw[if_pos h1]at h
   have e:(i+n).toNat=j:=bj h;exact⟨by rw[DQ (by omega) h1,e],by omega,h1,by omega⟩
  ·rw[if_neg h1]at h;cases h
def kFZ{α:Type}{xs:List α}{i:Int}{v:α}(h:atI xs i=some v):∃ j,seqIndex? i xs.length=some j/\xs[j]?=some v/\j<xs.length/\-(xs.length:Int)<=i/\i<xs.length:=by
 unfold atI at h
 cases e:ixN xs.length i with
 | none=>rw[e]at h;cases h
 | some j =>
  rw[e]at h;obtain⟨h1,c,a,b⟩:=kFG e;exact⟨j,h1,h,c,a,b⟩
def jW{α:Type}{xs:List α}{j:Nat}{v:α}(h:xs[j]?=some v):atI xs (j:Int)=some v:=by
 have a:j<xs.length:=(ag.mp h).1
 have e:ixN xs.length (j:Int)=some j:=by
  unfold ixN;rw[if_pos (by omega),if_pos (by omega)];simp
 unfold atI;rw[e];exact h
def bK{α:Type}(xs:List α)(v:α):atI (xs++[v]) (-1)=some v:=by
 have a:(xs++[v]).length=xs.length+1:=by simp
 have e:ixN (xs++[v]).length (-1)=some xs.length:=by
  unfold ixN;rw[a,if_neg (by decide),if_pos (by omega)]
  congr 1
  omega
 unfold atI;rw[e];show(xs++[v])[xs.length]?=some v;simp
def kGE(b:iA):Prop:=∀ o i,subscripted b false o i=operate [o,i] (getItem o i)
def IxR(X:Cx)(r:R2):Prop :=
 ∀(value a:iA)(pins:List (ar×Obj))(s:ao)(σ:St)(H:Hp)(x y:V)(v u:ai)(Q:VK),Inv X pins σ H s->RelV x v->RelV y u->r x y H Q ->
  subscripted a false v u=operate [v,u] (getItem v u)->eK (model X.prog X.w) X.A (subscriptTail value a v u) (EP X pins σ Q) X.xe s
def MtR(X:Cx)(id:String)(r:V->List V->Hp->VK->Prop):Prop :=
 ∀(pins:List (ar×Obj))(s:ao)(σ:St)(H:Hp)(x:V)(xs:List V)(v:ai)(us:List ai)(Q:VK),Inv X pins σ H s->RelV x v->Vals xs us->r x xs H Q ->
  eK (model X.prog X.w) X.A (call (.builtin id) (v::us)) (EP X pins σ Q) X.xe s
section
variable {X:Cx} {a b:iA} {ta tb:TE} {pos:Pos}
def kSE{r:R2}(g:IxR X r)(o:PE X a ta)(d:PE X b tb)(m:kGE b):PE X (.Subscript a b pos) (tOp r ta tb):=by
 intro c s l H Q I h;exact EW (kRG o d I h λ v u f x y p i n A q=>g a b c f l p x y v u Q i n A q (m _ _))
inductive kMV(K:au)(x:V)(y:V)(H:Hp)(Q:VK):Prop
 | mk:∀ p xs i v,(x=.ref p)->(y=.int i)->(SqL K H p xs)->(atI xs i=some v)->(Q v H)->kMV K x y H Q
inductive mE(K:au)(x:V)(y:V)(H:Hp)(Q:VK):Prop
 | mk:∀ p xs i v,(x=.ref p)->(y=.int i)->(SqT K H p xs)->(atI xs i=some v)->(Q v H)->mE K x y H Q
def kW:IxR X (kMV X.K):=by
 intro value d a s n H x y v u Q I D N h o;obtain⟨p,U,i,z,rfl,rfl,B,C,q⟩:=h;cases D
 obtain⟨t,rfl⟩:=N;obtain⟨c,r,g,O⟩:=I.list B;obtain⟨j,h1,J,S,M,L⟩:=kFZ C;obtain⟨w,m,l⟩:=r.get J;have G:=r.length;have T:=bZ;have b:EP X a n Q w s:=⟨z,H,I,l,q⟩;by_cases h0:0<=i
 ·have f:i.toNat=j:=by
   rw[Dz h0 L]at h1;exact bj h1
  exact item_listR g.isList h0 (by omega) (by rw[f];simpa using m) b o
 ·have f:(i+(c.toArray.size:Int)).toNat=j:=by
   rw[DQ (by omega) M]at h1;rw[eX,<-G];exact bj h1
  exact Bq (x:=w) g.isList.typeIs DR.lookup
   (wpAny_getItem_list_neg (Q:=λ r A=>r=w/\EP X a n Q r A) g.isList (by omega) (by rw[eX]<;>omega) (by omega) (by rw[f];simpa using m) ⟨rfl,b⟩) o
def kX:IxR X (mE X.K):=by
 intro value b a s f H x y v u Q I C J h B;obtain⟨p,O,i,z,rfl,rfl,o,A,q⟩:=h;cases C
 obtain⟨t,rfl⟩:=J;obtain⟨n,r,g,L⟩:=I.tuple o;obtain⟨j,h1,G,M,T,S⟩:=kFZ A;obtain⟨w,m,d⟩:=r.get G;have D:=r.length;have N:=bZ;have c:EP X a f Q w s:=⟨z,H,I,d,q⟩
 exact Bq (x:=w) g.typeIs slot_tuple_getitem.lookup
  (getItem_tuple (j:=j) (Q:=λ r l=>r=w/\EP X a f Q r l) g (by omega) (by omega) (by rw[eX,<-D];exact h1) (by simpa using m) ⟨rfl,c⟩) B
def kCW(a:List ai)(n j:Nat)(u:ai):tz (·.setIfInBounds j u) {cls:=.type "list",data:=.seq a.toArray n}={cls:=.type "list",data:=.seq (a.set j u).toArray n}:=by
 simp[tz]
theorem Inv.lst{b:List (ar×Obj)}{c:St}{H:Hp}{s:ao}{p:ar}{xs:List V}(I:Inv X b c H s)(h:H p=some (.lst xs)) :
  ∃(a:List ai)(n:Nat),Vals xs a/\s.heap.get? p=some {cls:=.type "list",data:=.seq a.toArray n}/\xs.length<=sizeLine:=by
 obtain⟨z,a,n,r,e⟩:=I.hok p _ h;exact⟨a,n,r,e,z⟩
def Inv.lstUpd{a:List (ar×Obj)}{l:St}{H:Hp}{s:ao}{p:ar}{xs d:List V}{c its':List ai}{n g:Nat}{f:Obj->Obj}(I:Inv X a l H s)(h:H p=some (.lst xs))
  (o:s.heap.get? p=some {cls:=.type "list",data:=.seq c.toArray n}) (i:f {cls:=.type "list",data:=.seq c.toArray n}={cls:=.type "list",data:=.seq its'.toArray g}) (r:Vals d its') (hz:d.length<=sizeLine) (t:Nat) :
  Inv X a l (upd H p (.lst d)) {s with heap:=s.heap.update p f,toks:=t}:=by
 have e:(s.heap.update p f).get? p=some {cls:=.type "list",data:=.seq its'.toArray g}:=by
  rw[qf f o (by rw[i]<;>rfl),i]
 refine I.write (x:=p) (e:=p) (by rw[h];trivial) (.inl rfl) (λ b u m q=>(Br _ _ (qe m)).trans q) ⟨_,e⟩ ?_;exact⟨hz,its',g,r,e⟩
inductive kON(o:V)(i:V)(v:V)(H:Hp)(Q:Hp->Prop):Prop
 | mk:∀ p xs k j,(o=.ref p)->(i=.int k)->(H p=some (.lst xs))->(ixN xs.length k=some j)->(Q (upd H p (.lst (xs.set j v))))->kON o i v H Q
def aH:kTF X kON:=by
 intro b s y H o i v ov M u Q I C D A h;obtain⟨p,G,k,j,rfl,rfl,hp,B,q⟩:=h;cases C
 obtain⟨t,rfl⟩:=D;obtain⟨a,n,r,f,x⟩:=I.lst hp;obtain⟨h1,L,g,m⟩:=kFG B;have d:=r.length;have J:=bZ
 have l:Inv X b y (upd H p (.lst (G.set j v))) {s with heap:=s.heap.update p (tz (·.setIfInBounds j u))} :=
  I.lstUpd hp f (kCW a n j u) (r.set A j) (by rw[As];exact x) s.toks
 by_cases h0:0<=k
 ·have c:k.toNat=j:=by
   rw[Dz h0 m]at h1;exact bj h1
  exact PySem.W.ki_setAt f h0 (by omega) (by rw[eX,<-d];exact m) (by rw[c];exact⟨_,l,q⟩)
 ·have c:(k+(a.toArray.size:Int)).toNat=j:=by
   rw[DQ (by omega) g]at h1;rw[eX,<-d];exact bj h1
  exact PySem.W.ki_setBack f (by omega) (by rw[eX,<-d];exact g) (by omega) (by rw[c];exact⟨_,l,q⟩)
def oT(lo hi:Option Int)(n:Nat):(sliceBounds lo hi none n).1=((HT.sIx n 0 lo:Nat):Int)/\(sliceBounds lo hi none n).2.1=((HT.sIx n n hi:Nat):Int)/\(sliceBounds lo hi none n).2.2=1:=by
 refine⟨?_,?_,rfl⟩
 ·cases lo with
  | none=>simp[sliceBounds,HT.sIx]
  | some i =>
   simp only[sliceBounds,HT.sIx,Dr,show(1:Int)>0 by decide,if_true];by_cases h:i<0
   ·simp only[h,if_true]<;>omega
   ·simp only[h,if_false]<;>omega
 ·cases hi with
  | none=>simp[sliceBounds,HT.sIx]
  | some i =>
   simp only[sliceBounds,HT.sIx,Dr,show(1:Int)>0 by decide,if_true];by_cases h:i<0
   ·simp only[h,if_true]<;>omega
   ·simp only[h,if_false]<;>omega
def lY(a:List ai)(lo hi:Option Int):slicePick a.toArray lo hi none=((a.drop (HT.sIx a.length 0 lo)).take (HT.sIx a.length a.length hi-HT.sIx a.length 0 lo)).toArray:=by
 obtain⟨h1,c,b⟩:=oT lo hi a.toArray.size;unfold slicePick;rw[h1,c,b];simp only[sliceRange_one,pick_run,eX]<;>rfl
inductive kSA(K:au)(x:V)(lo:Option Int)(hi:Option Int)(H:Hp)(Q:VK):Prop
 | mk:∀ a xs,(x=.ref a)->(SqL K H a xs)->(∀ p,H p=none->Q (.ref p) (upd H p (.lst (wZ xs lo hi))))->kSA K x lo hi H Q
def zA:SlR X (kSA X.K):=by
 intro i s B H x v C G lo f J Q I p n u y h;obtain⟨a,c,rfl,A,q⟩:=h;cases p
 obtain⟨l,r,g,m⟩:=I.list A;have d:=r.length;refine⟨"list",_,DR.lookup,g.isList.typeIs,?_⟩;refine wpAny_getItem_list_slice g.isList n u y .none (by simp) ?_ (by rw[eX]<;>omega);rw[lY,<-d];refine⟨.ref s.heap.objs.size,_,I.laid (t':=s.toks) (o:=.lst (wZ c lo f)) (λ b D q=>aj _ q) (av _) ?_,rfl,q _ (I.hok.fresh (av _))⟩;exact⟨gx (dD c lo f) m,_,0,(r.drop (HT.sIx c.length 0 lo)).take (HT.sIx c.length c.length f-HT.sIx c.length 0 lo),cx _ rfl⟩
def vS:V->Bool
 | .non=>true
 | .bl _=>true
 | .int _=>true
 | .str _=>true
 | _=>false
def eqV:V->V->Bool
 | .non,.non=>true
 | .bl a,.bl b=>a == b
 | .bl a,.int b=>(if a then 1 else 0) == b
 | .int a,.bl b=>a == (if b then 1 else 0)
 | .int a,.int b=>a == b
 | .str a,.str b=>a == b
 | _,_=>false
def kRD{A:ed}{s:ao}{y x:V}{u v:ai}(g:RelV y u)(c:RelV x v)(h:vS y=true)(f:vS x=true):EX A s u v (eqV y x):=by
 cases y with
 | non =>
  cases g
  cases x with
  | non=>cases c;exact SeqAt.EqAt.same _
  | bl b=>cases c;exact SeqAt.EqAt.none_bool b
  | int b=>obtain⟨t,rfl⟩:=c;exact SeqAt.EqAt.none_int b t
  | str b=>obtain⟨t,rfl⟩:=c;exact SeqAt.EqAt.none_str b t
  | _=>exact absurd (show false=true from f) dq
 | bl a =>
  cases g
  cases x with
  | non=>cases c;exact SeqAt.EqAt.bool_none a
  | bl b=>cases c;exact SeqAt.EqAt.bool_bool a b
  | int b=>obtain⟨t,rfl⟩:=c;exact SeqAt.EqAt.bool_int a b t
  | str b=>obtain⟨t,rfl⟩:=c;exact SeqAt.EqAt.bool_str a b t
  | _=>exact absurd (show false=true from f) dq
 | int a =>
  obtain⟨d,rfl⟩:=g
  cases x with
  | non=>cases c;exact SeqAt.EqAt.int_none a d
  | bl b=>cases c;exact SeqAt.EqAt.int_bool a d b
  | int b=>obtain⟨t,rfl⟩:=c;exact SeqAt.EqAt.int_int a d b t
  | str b=>obtain⟨t,rfl⟩:=c;exact Ct a d b t
  | _=>exact absurd (show false=true from f) dq
 | str a =>
  obtain⟨d,rfl⟩:=g
  cases x with
  | non=>cases c;exact SeqAt.EqAt.str_none a d
  | bl b=>cases c;exact SeqAt.EqAt.str_bool a d b
  | int b=>obtain⟨t,rfl⟩:=c;exact Cu a d b t
  | str b=>obtain⟨t,rfl⟩:=c;exact SeqAt.EqAt.str_str a d b t
  | _=>exact absurd (show false=true from f) dq
 | _=>exact absurd (show false=true from h) dq
def eqU(x:V)(u:ai):Bool:=match u with
 | .none=>eqV .non x
 | .bool b=>eqV (.bl b) x
 | .int i _=>eqV (.int i) x
 | .str z _=>eqV (.str z) x
 | _=>false
def kLQ{x y:V}{u:ai}(r:RelV y u)(f:vS y=true):eqU x u=eqV y x:=by
 cases y with
 | non=>cases r;rfl
 | bl b=>cases r;rfl
 | int i=>obtain⟨t,rfl⟩:=r;rfl
 | str z=>obtain⟨t,rfl⟩:=r;rfl
 | _=>exact absurd (show false=true from f) dq
theorem bL{x:V}:∀{xs:List V}{a:List ai},Vals xs a->xs.all vS=true->a.any (eqU x)=xs.any λ y=>eqV y x
 | _,_,.nil,_=>rfl
 | y::xs,u::a,.cons r t,f=>by
  rw[Cp,iF]at f;rw[AH,AH,kLQ r f.1,bL t f.2]
theorem vN{A:ed}{s:ao}{x:V}{v:ai}(c:RelV x v)(d:vS x=true):∀{xs:List V}{b:List ai},Vals xs b->xs.all vS=true->∀ u∈b,EX A s u v (eqU x u)
 | _,_,.nil,_=>λ u a=>by cases a
 | y::xs,u::b,.cons r t,f=>λ g a=>by
  rw[Cp,iF]at f;rcases cn.mp a with rfl | a
  ·rw[kLQ r f.1];exact kRD r c f.1 d
  ·exact vN c d t f.2 g a
def inV(x:V)(xs:List V):Bool:=xs.any λ y=>eqV y x
inductive rIn(K:au)(neg:Bool)(x:V)(y:V)(H:Hp)(Q:VK):Prop
 | mk:∀ p xs,(y=.ref p)->((SqL K H p xs\/SqT K H p xs))->(vS x=true)->(xs.all vS=true)->(Q (.bl (if neg then !inV x xs else inV x xs)) H)->rIn K neg x y H Q
def jM:OpR X (compareOp .In) (rIn X.K false):=by
 intro g s n H x y v u Q I f m h;obtain⟨p,o,rfl,b,i,fs,q⟩:=h;cases m
 rcases b with b | b
 ·obtain⟨a,r,d,l⟩:=I.list b
  refine SeqAt.in_listAt (eqU x) d.isList (λ w c=>vN f i r fs w (by simpa using c)) ⟨.bl _,H,I,rfl,?_⟩;rw[show a.toArray.any (eqU x)=a.any (eqU x) by simp,bL r fs];exact q
 ·obtain⟨a,r,d,l⟩:=I.tuple b
  refine SeqAt.in_tupleAt (eqU x) d (λ w c=>vN f i r fs w (by simpa using c)) ⟨.bl _,H,I,rfl,?_⟩;rw[show a.toArray.any (eqU x)=a.any (eqU x) by simp,bL r fs];exact q
def yH:OpR X (compareOp .NotIn) (rIn X.K true):=by
 intro g s n H x y v u Q I f m h;obtain⟨p,o,rfl,b,i,fs,q⟩:=h;cases m
 rcases b with b | b
 ·obtain⟨a,r,d,l⟩:=I.list b
  refine SeqAt.notIn_listAt (eqU x) d.isList (λ w c=>vN f i r fs w (by simpa using c)) ⟨.bl _,H,I,rfl,?_⟩;rw[show a.toArray.any (eqU x)=a.any (eqU x) by simp,bL r fs];exact q
 ·obtain⟨a,r,d,l⟩:=I.tuple b
  refine SeqAt.notIn_tupleAt (eqU x) d (λ w c=>vN f i r fs w (by simpa using c)) ⟨.bl _,H,I,rfl,?_⟩;rw[show a.toArray.any (eqU x)=a.any (eqU x) by simp,bL r fs];exact q
inductive zR(K:au)(xs:List V)(H:Hp)(Q:VK):Prop
 | mk:∀ p ys,(xs=[.ref p])->((SqL K H p ys\/SqT K H p ys))->(Q (.int ys.length) H)->zR K xs H Q
def kP:xR X (.builtin "len") (zR X.K):=by
 intro i s n H x o Q I r h;obtain⟨p,g,rfl,b,q⟩:=h;obtain⟨u,rfl,m⟩:=wV r;cases m
 have v:=bZ;rcases b with b | b
 ·obtain⟨c,f,d,l⟩:=I.list b
  have a:=f.length;exact Calls.call_len_list d.isList (by simp only[eX]<;>omega) ⟨.int g.length,H,I.tok _,⟨s.toks+1,by rw[eX,a]⟩,q⟩
 ·obtain⟨c,f,d,l⟩:=I.tuple b
  have a:=f.length;exact len_tuple d (by simp only[eX]<;>omega) ⟨.int g.length,H,I.tok _,⟨s.toks+1,by rw[eX,a]⟩,q⟩
inductive vV(K:au)(xs:List V)(H:Hp)(Q:VK):Prop
 | mk:∀ p ys,(xs=[.ref p])->(((SqL K H p ys/\∀ l,H l=none->Q (.ref l) (upd H l (.tup ys)))\/(SqT K H p ys/\Q (.ref p) H)))->vV K xs H Q
def qA:xR X (.type "tuple") (vV X.K):=by
 intro a s n H D C Q I r h;obtain⟨p,l,rfl,h⟩:=h;obtain⟨u,rfl,B⟩:=wV r;cases B
 rcases h with⟨f,q⟩ | ⟨f,q⟩
 ·obtain⟨c,i,g,m⟩:=I.list f
  have x:=i.length;refine call_tuple_list g.isList (λ d y=>?_) (by simp only[eX]<;>omega);have v:Inv X a n H {s with heap:=d}:=I.kept (t':=s.toks) y
  have A:Inv X a n (upd H d.objs.size (.tup l)) {s with heap:=d.push {cls:=.type "tuple",data:=.seq c.toArray}} :=
   v.laid (t':=s.toks) (λ b o e=>aj _ e) (av _) (show ObjOk X.prog X.w _ _ _ (.tup l) from⟨m,c,i,IsTupN.new _ _⟩)
  exact⟨.ref d.objs.size,_,A,rfl,q _ (v.hok.fresh (av _))⟩
 ·obtain⟨c,i,g,m⟩:=I.tuple f
  exact call_tuple_same g ⟨.ref p,H,I,rfl,q⟩
def tyV(K:au)(T:String)(x:V)(H:Hp):Prop:=match x with
 | .str _=>T = "str"
 | .int _=>T = "int"
 | .ref p=>(T = "list"/\∃ b,SqL K H p b)\/(T = "tuple"/\((∃ o,K.lookup p=some o/\o.cls=.type "tuple"/\o.dict=none)\/∃ b,H p=some (.tup b))) \/
   (T = "dict"/\((∃ a,H p=some (.dK a))\/∃ a,H p=some (.dT a)))\/(T = "set"/\∃ S n,H p=some (.set S n))
 | _=>False
def kPE{g:List (ar×Obj)}{B:St}{H:Hp}{s:ao}{T:String}{x:V}{v:ai}(I:Inv X g B H s)(r:RelV x v)(l:tyV X.K T x H) :
  s.TypeIs v T/\∀ a,v=.ref a->∃ ob,s.heap.get? a=some ob/\ob.dict=none:=by
 cases x with
 | str z =>
  obtain⟨t,rfl⟩:=r
  cases(show T = "str" from l)
  exact⟨typeIs_str s z t,λ _ e=>nomatch e⟩
 | int i =>
  obtain⟨t,rfl⟩:=r
  cases(show T = "int" from l)
  exact⟨EY s i t,λ _ e=>nomatch e⟩
 | ref p =>
  cases r
  rcases l with⟨rfl,y,q⟩ | ⟨rfl,⟨o,b,C,h⟩ | ⟨y,q⟩⟩ | ⟨rfl,b⟩ | ⟨rfl,S,n,b⟩
  ·obtain⟨u,_,A,_⟩:=I.list q
   refine⟨A.isList.typeIs,λ a e=>?_⟩;cases e
   obtain⟨o,n,e,c,h,_⟩:=A;exact⟨o,e,h⟩
  ·refine⟨⟨o,I.kIn p o b,C⟩,λ a e=>?_⟩
   cases e
   exact⟨o,I.kIn _ o b,h⟩
  ·obtain⟨_,u,_,o,e,c,n,_,h⟩:=(show ObjOk X.prog X.w H s.heap p (.tup y) from I.hok p _ q)
   refine⟨⟨o,e,c⟩,λ a f=>?_⟩;cases f
   exact⟨o,e,h⟩
  ·have z:∃ o,s.heap.get? p=some o/\o.ExactDict:=by
    rcases b with⟨m,b⟩ | ⟨m,b⟩
    ·obtain⟨_,_,_,_,o,_,_,e,d,_⟩:=I.hok p _ b
     exact⟨o,e,d⟩
    ·obtain⟨_,_,_,_,o,_,_,e,d,_⟩:=I.hok p _ b
     exact⟨o,e,d⟩
   obtain⟨o,e,d⟩:=z;refine⟨⟨o,e,d.1⟩,λ a f=>?_⟩;cases f
   exact⟨o,e,d.2.1⟩
  ·obtain⟨o,_,_,_,e,d,_⟩:=I.hok p _ b
   refine⟨⟨o,e,d.1⟩,λ a f=>?_⟩;cases f
   exact⟨o,e,d.2.1⟩
 | _=>exact uq l
inductive kRU(K:au)(T:String)(r:V->List V->Hp->VK->Prop)(t:TA)(σ:St)(Q:VK)(x:V)(H1:Hp):Prop
 | mk:(tyV K T x H1)->(t σ H1 λ xs H2=>r x xs H2 Q)->kRU K T r t σ Q x H1
def tBM(K:au)(T:String)(r:V->List V->Hp->VK->Prop)(to:TE)(t:TA):TE:=λ a H Q=>to a H λ x b=>kRU K T r t a Q x b
variable {o e:iA} {es:List iA} {to:TE} {t:TA} {name:Str} {apos cpos:Pos} {T id:String} {r:V->List V->Hp->VK->Prop}
def cY(A:PlainAttrs T)(g:Slot T name id)(i:typeOf (.builtin id)=pure (.type "method_descriptor"))(D:MtR X id r)(S:PE X o to)(U:PA X (e::es) t)
  (c:attributeBase o name X.env (eval o X.env)=eval o X.env:=by rfl)
  (f:((backTo cpos (starEach (e::es) X.env)).all (λ x=>!x.1) && (backToKw cpos (keywordEach [] X.env)).all (λ x=>x.1.isSome)
   && decide ((e::es).length+([]:List Ce).length+(if([]:List Ce).isEmpty then 0 else 1)<30))=true:=by rfl)
  (d:(apos.endLine == cpos.line)=true:=by rfl) (B:starEach (e::es) X.env=(false,eval e X.env)::starEach es X.env:=by rfl) (b:(backTo cpos (starEach es X.env)).any (·.1)=false:=by rfl) :
  PE X (.Call (.Attribute o name apos) (e::es) [] cpos) (tBM X.K T r to t):=by
 intro a s l H Q I h;refine wpAny_Call_method_late c f d rfl (thn (S a s l H _ I h) λ v C ⟨x,G,n,m,L,N⟩=>?_);obtain⟨h1,M⟩:=kPE n m L;refine⟨T,id,A,g,i,h1,M,?_⟩;have hA:=U cpos a C l G _ n N;rw[B]at hA ⊢;refine zc (by show(false || (backTo cpos (starEach es X.env)).any (·.1))=false;rw[b]<;>rfl) (CU ?_);exact thn hA λ y q ⟨p,Y,u,J,O⟩=>D a q l Y x p v y Q u m J O
end
def MtM(X:Cx)(id:String)(r:V->List V->Hp->VK->Prop):Prop :=
 ∀(pins:List (ar×Obj))(s:ao)(σ:St)(H:Hp)(x:V)(xs:List V)(v:ai)(us:List ai)(Q:VK),Inv X pins σ H s->RelV x v->Vals xs us->r x xs H Q ->
  eK (model X.prog X.w) X.A (call (.builtin id) (v::us)) (EP X pins σ Q) X.xe s
def Vals.one:∀{x:V}{a:List ai},Vals [x] a->∃ u,a=[u]/\RelV x u
 | _,_,.cons r .nil=>⟨_,rfl,r⟩
def Vals.two:∀{x y:V}{a:List ai},Vals [x,y] a->∃ u v,a=[u,v]/\RelV x u/\RelV y v
 | _,_,_,.cons r (.cons q .nil)=>⟨_,_,rfl,r,q⟩
theorem Vals.eraseIdx:∀{xs:List V}{a:List ai}(i:Nat),Vals xs a->Vals (xs.eraseIdx i) (a.eraseIdx i)
 | _,_,_,.nil=>.nil
 | _,_,0,.cons _ t=>t
 | _,_,i+1,.cons r t=>.cons r (Vals.eraseIdx i t)
theorem Vals.rep{xs:List V}{a:List ai}(h:Vals xs a):∀ k:Nat,Vals (dh k xs).flatten (dh k a).flatten
 | 0=>.nil
 | k+1=>by
  rw[om,om,wg,wg];exact Vals.append h (Vals.rep h k)
theorem nV{α:Type}:∀(l:List α)(i:Nat),(l.eraseIdx i).length<=l.length
 | [],_=>av _
 | _::_,0=>yt _
 | _::r,i+1=>Ds (nV r i)
theorem nY(a:List ai):∀(k:Nat)(b:List ai),
  EZ (λ x1 x2=>x1++x2) b.toArray (dh k a.toArray)=(b++(dh k a).flatten).toArray
 | 0,b=>by simp
 | k+1,b=>by
  have e:b.toArray++a.toArray=(b++a).toArray:=by simp
  have c:(b++a)++(dh k a).flatten=b++(dh (k+1) a).flatten:=by
   rw[om,wg,de]
  rw[<-c,<-nY a k (b++a),<-e,om,ou]
section
variable {X:Cx} {pins:List (ar×Obj)} {σ:St} {H:Hp} {s:ao} {l b:ar} {xs ys zs:List V}
def Inv.lset{a its':List ai}{n:Nat}{f:Array ai->Array ai}{t':Nat}(I:Inv X pins σ H s)(d:H l=some (.lst xs))
  (e:s.heap.get? l=some {cls:=.type "list",data:=.seq a.toArray n}) (c:f a.toArray=its'.toArray) (h:Vals ys its') (hz:ys.length<=sizeLine) :
  Inv X pins σ (upd H l (.lst ys)) {s with heap:=s.heap.update l (tz f),toks:=t'}:=by
 have q:=PySem.IsL.update e f;rw[c]at q;refine I.write (x:=l) (e:=l) (by rw[d];exact trivial) (.inl rfl) (λ i u b g=>(Br s.heap (tz f) (qe b)).trans g) ⟨_,q⟩ ?_;exact⟨hz,its',_,h,q⟩
def Inv.lnew{a:List ai}{t':Nat}(I:Inv X pins σ H s)(b:Vals ys a)(hz:ys.length<=sizeLine) :
  Inv X pins σ (upd H s.heap.objs.size (.lst ys)) {s with heap:=s.heap.push {cls:=.type "list",data:=.seq a.toArray},toks:=t'} :=
 I.laid (λ _ _ q=>aj _ q) (av _) ⟨hz,a,0,b,cx _ rfl⟩
theorem Inv.fresh(I:Inv X pins σ H s):H s.heap.objs.size=none:=I.hok.fresh (av _)
def Inv.lstM(I:Inv X pins σ H s)(b:H l=some (.lst xs)):xs.length<=sizeLine/\∃(a:List ai)(n:Nat),Vals xs a/\xs.length=a.length/\s.heap.get? l=some {cls:=.type "list",data:=.seq a.toArray n}:=by
 obtain⟨z,a,n,r,e⟩:=I.hok l _ b;exact⟨z,a,n,r,r.length,e⟩
def kKU{n:Nat}(h:n<=sizeLine):ya n=false:=by
 unfold ya;exact decide_eq_false (by omega)
end
section
variable {X:Cx}
inductive kEQ(x:V)(vs:List V)(H:Hp)(Q:VK):Prop
 | mk:∀ l xs y,(x=.ref l)->(vs=[y])->(H l=some (.lst xs))->(xs.length<sizeLine)->(Q .non (upd H l (.lst (xs++[y]))))->kEQ x vs H Q
def jU:MtM X "list.append" kEQ:=by
 intro b s o H x i v p Q I f d h;obtain⟨l,B,y,rfl,rfl,c,m,q⟩:=h;cases f
 obtain⟨u,rfl,g⟩:=d.one;obtain⟨z,a,n,r,A,e⟩:=I.lstM c;refine zv F.slot_list_append ⟨_,e,rfl⟩ F.entry_list_append (F.args_list_append_2 _ _) (PySem.list_append l a.toArray n u (by rw[eX];omega)) ⟨e,?_⟩;refine⟨.non,_,I.lset (its':=a++[u]) c e (by simp) (r.append (.cons g .nil)) ?_,rfl,q⟩;rw[bg,iG];omega
inductive kSC(x:V)(y:V)(H:Hp)(Q:VK):Prop
 | mk:∀ l b xs zs,(x=.ref l)->(y=.ref b)->(H l=some (.lst xs))->(H b=some (.lst zs))->(xs.length+zs.length<=sizeLine)->(∀ p,H p=none->Q (.ref p) (upd H p (.lst (xs++zs))))->kSC x y H Q
def gC:OpR X (binaryOp .Add) kSC:=by
 intro d s C H x y v u Q I g A h;obtain⟨l,b,M,D,rfl,rfl,p,hB,B,q⟩:=h;cases g
 cases A
 obtain⟨z,c,n,r,L,e⟩:=I.lstM p;obtain⟨G,a,J,m,o,f⟩:=I.lstM hB;refine PySem.P.add_list e f ?_ (by rw[eX,eX];omega);have i:c.toArray++a.toArray=(c++a).toArray:=by simp
 rw[i];exact⟨.ref _,_,I.lnew (t':=s.toks) (r.append m) (by rw[bg];omega),rfl,q _ I.fresh⟩
inductive kSB(x:V)(y:V)(H:Hp)(Q:VK):Prop
 | mk:∀ l k xs,(x=.ref l)->(y=.int k)->(H l=some (.lst xs))->(-(2 ^ 63)<=k)->(k<2 ^ 63)->(xs.length*k.toNat<=sizeLine)->(∀ p,H p=none->Q (.ref p) (upd H p (.lst (dh k.toNat xs).flatten)))->kSB x y H Q
def kNL{α:Type}(xs:List α)(k:Nat):(dh k xs).flatten.length=k*xs.length:=by
 induction k with
 | zero=>simp
 | succ k ih=>rw[om,wg,bg,ih,Nat.succ_mul,Fd]
def kKO:OpR X (binaryOp .Mult) kSB:=by
 intro B s O H x y v u Q I G N h;obtain⟨l,k,S,rfl,rfl,M,h1,L,A,q⟩:=h;cases G
 obtain⟨t,rfl⟩:=N;obtain⟨z,b,n,r,J,e⟩:=I.lstM M;have i:b.toArray.size*k.toNat<=sizeLine:=by rw[eX,<-J];exact A
 have f:¬ b.toArray.size*k.toNat>(2 ^ 63-1) / 8:=by
  have:(sizeLine:Nat)<=(2 ^ 63-1) / 8:=by decide
  omega
 have g:¬ (!Builtin.List.listFitsIndex k)=true:=by
  rw[Ea h1 L];exact dq
 have c:¬ ya (b.toArray.size*k.toNat)=true:=by
  rw[kKU i];exact dq
 have d:EZ (λ p o=>p++o) #[] (dh (if b.toArray.isEmpty=true then 0 else k.toNat) b.toArray)=(dh k.toNat b).flatten.toArray:=by
  have D:∀ m:Nat,EZ (λ p o=>p++o) #[] (dh m b.toArray)=(dh m b).flatten.toArray:=λ m=>by
   have:=nY b m [];rw[mo]at this;exact this
  rw[D]
  cases b with
  | nil=>simp
  | cons a r'=>rw[if_neg (by simp)]
 refine wpAny_binaryOp_repeat_ref (T:="list") (U:="int") (by decide) ⟨_,e,rfl⟩ (λ C=>EY C k t) noFill_list_mul F.fills_int_mul ED repeat_list F.slot_int_index.lookup
  (zv ED (EY s k t) F.entry_int_rmul (F.args_int_rmul_2 _ _) (int___rmul___int_list k t l b.toArray n)
   ⟨e,rfl,⟨_,e,rfl⟩,zv F.slot_list_mul ⟨_,e,rfl⟩ F.entry_list_mul (F.args_list_mul_2 _ _) (AutoListH.list___mul___list_int_3 l b.toArray n k t g f c) ⟨e,?_⟩⟩)
 rw[d];exact⟨.ref _,_,I.lnew (t':=s.toks) (r.rep k.toNat) (by rw[kNL,Nat.mul_comm];exact A),rfl,q _ I.fresh⟩
end
section
variable {prog:eN} {w:fu} {A:ed} {E:ai->ao->Prop} {s:ao}
end
section
variable {X:Cx}
end
end L2
namespace Att
open PySem PySem.W PySem.Calls PyProof.Rows
def dW{P:GH}{h:iC}:∀(c:List Int)(d:List ai),WellAll P h d (c.map GP)->Cf d c:=by
 intro c
 induction c with
 | nil =>
  intro d w;rw[DT]at w;cases w
  exact .nil
 | cons n c ih =>
  intro d w;rw[eo]at w
  cases w with
  | cons a b =>
   cases a
   exact .cons _ _ (ih _ b)
def kGS{l:OpenLaw}{n:Nat}(x:l.most=some n){P:GH}{h:iC}{args:List WData}{b:List ai}
  (c:l.row.toRowW.claim.pre args=true) (o:WellAll P h b args) :
  ∃ a vs ns,b=[iE a]/\args=[WData.list (ns.map GP)]/\h.get? a=some {cls:=.type "list",data:=.seq vs.toArray}/\Cf vs ns/\ns.length<=n:=by
 have m:WShape.hasAll [] args [.list .int]=true:=(pre_splitW c).1;have p:l.pre.holds [] {args:=args}=true:=(pre_splitW c).2;obtain⟨d,r,rfl,h1,u⟩:=hasAllW_cons m;obtain rfl:=hasAllW_nil u;obtain⟨y,rfl,v⟩:=hasW_list h1;obtain⟨ns,rfl⟩:=items_int v
 have f:ns.length<=n:=by
  unfold OpenLaw.pre at p
  have i:(WTm.not (.lt (.lit (.int (n:Int))) (.len (.arg 0)))).holds [] {args:=[.list (ns.map .int)]}=true:=by
   have i:=(holds_andW p).1;rw[x]at i;exact i
  have g:=condW_of i (w_not (w_lt w_lit (w_len_list (w_arg rfl))));rw[af]at g;refine Nat.le_of_not_lt λ q=>?_;have s:(n:Int)<((ns.length:Nat):Int):=by omega
  first
   | (rw[decide_eq_true s]at g;exact absurd g (by decide))
   | (simp at g;omega)
 cases o with
 | cons w1 w2 =>
  cases w2
  cases w1 with
  | list ho hall=>exact⟨_,_,ns,rfl,rfl,ho,dW ns _ hall,f⟩
def kGY(l:OpenLaw)(args:List WData):l.row.toRowW.claim.post args (.bool true) args=true :=
 postW_of (r:=l.row.toRowW) (X:=(true == true))
  (show GI [] (.bool true) .bool=true by first | rfl | decide | simp[GI,WShape.arms,WShape.armsAll])
  (show(WTm.eq .res (.lit (.bool true))).value [] {args:=args,res:=some (.bool true),after:=args}=some (.bool (true == true)) from w_eq_bool (w_res rfl) w_lit) rfl
def attach_call{l:OpenLaw}{n:Nat}{q:eN}{loose:List Str}{H:(Str->Option ai)->iC->Prop}{I:fu->iC->Prop}{d:DefRec}
  (U:l.most=some n) (y:d.params.defaults=[])
  (call:∀(w:fu)(s₀ b:ao)(mg D:Str->Option ai)(i:ar)(o:Obj)(x v g:ai)(a:ar)(h:List ai)(u:List Int),
   Ground q loose [] H w s₀ mg D b.heap->I w b.heap ->
   b.heap.get? i=some o->o.data=.func (docDef d.name d.params d.body d.scope x v g)->b.heap.CodeRec v d.name->mg d.name=some (.ref i) ->
   b.heap.get? a=some {cls:=.type "list",data:=.seq h.toArray}->Cf h u->u.length<=n->b.gens = #[] ->
   codeAny (model l.prog w) callerA (.call (.ref i) ⟨[.ref a],[]⟩) (λ r s'=>r=.ok (.ret (.bool true))/\OldK b.heap s'.heap/\s'.os=b.os/\BI s'.gens) b) :
  WalkO q loose H I l.row.toRowW d [] (λ f h=>Eb f h):=by
 intro w s₀ b mg D G Y i o x v g dV kV ho hd C N A O J M as s L Z B Q;obtain rfl:dV=.none:=Dflts.none N y;obtain rfl:kV=.none:=Dflts.noKw N;obtain⟨a,h,u,rfl,rfl,m,c,p⟩:=kGS U s B;refine enter_call (ur (call w s₀ b mg D i o x v g a h u G Y ho (fd_plain hd) C A m c p O) λ r s' S=>?_);obtain⟨rfl,h2,T,h4⟩:=S;exact⟨.inl ⟨.bool true,.bool true,[],rfl,λ _=>rfl,.bool true,kGY l _,λ _=>⟨BL,λ _ X=>(nomatch X)⟩⟩,h2,T,h4⟩
section
variable {prog:eN} {w:fu} {A:ed} {E:ai->ao->Prop} {s:ao} {K:Frag}
end
end Att
namespace L2
open PySem PySem.Spec PyProof.Rows
theorem mN:∀{b:List ai}{a:List Int},Cf b a->Vals (a.map V.int) b
 | _,_,.nil=>.nil
 | _,_,.cons n t h=>.cons ⟨t,rfl⟩ (mN h)
def kRK(H:Hp):Prop:=∀ b,H b=none\/∃ o a,H b=some (.frz o (.lst a))
def kKY{P:eN}{w:fu}{K:au}{mg mb:Str->Option ai}{CX:CXT}{k:Nat}{X a:ar}{fd:og}{x:Str}{sp:Sp}{c:ao}{p:List ai}{G:List Int}
  (KX:K.In c.heap) (I:c.heap.Ns eR mg) (g:c.heap.Ns builtinsNs mb) (T:∀ x:Str,x≠"__name__"->mb x=bootBuiltins x) (N:c.heap.NoLimit) (hg:c.gens = #[])
  (Q:c.heap.get? a=some {cls:=.type "list",data:=.seq p.toArray}) (hi:Cf p G) (hl:G.length<=sizeLine) (hr:Room k callerA)
  (F:∀ base:iC,K.In base->base.Ns eR mg->FnOk P w K mg base CX k X fd [x] sp) (y:∀(s:ao)(u:ai),DN s fd ⟨[u],[]⟩ [(x,u)])
  (Z:∀ H:Hp,kRK H->SqL K H a (G.map V.int)->sp [.ref a] H (λ v _=>v=.bl true) λ _ _ _=>False)
  (Y:∀ H e s',CX [] H c (λ _ _ _=>False) e s'->False) :
  codeAny (model P w) callerA (.call (.ref X) ⟨[.ref a],[]⟩) (λ r s'=>r=.ok (.ret (.bool true))/\OldK c.heap s'.heap/\s'.os=c.os/\BI s'.gens) c:=by
 have rv:=mN hi
 have A:=hi.length
 have l:∀ H:Hp,kRK H->SqL K H a (G.map V.int)->HOk P w H c.heap->(∀ b,H b≠none->b=a)->(H a≠none->K.lookup a=none) ->
   codeAny (model P w) callerA (.call (.ref X) ⟨[.ref a],[]⟩) (λ r s'=>r=.ok (.ret (.bool true))/\OldK c.heap s'.heap/\s'.os=c.os/\BI s'.gens) c:=by
  intro H hO hS O hA hK;have f:∀{b:ar}{o:Obj},c.heap.get? b=some o->H b=none->(rC c.heap H).get? b=some o:=λ e n=>kLH e n
  have S:∀{b:ar}{o:Obj}{D:Array Bf}{C:Nat},c.heap.get? b=some o->o.data=.dict D C->H b=none:=λ{b o D C} e d=>by
   cases q:H b with
   | none=>rfl
   | some u =>
    have U:b=a:=hA b (by rw[q];simp);subst U;rw[Q]at e;cases e;have d':Data.seq p.toArray _=Data.dict D C:=d
    cases d'
  have i:∀{b:ar}{m:Str->Option ai},c.heap.Ns b m->(rC c.heap H).Ns b m:=λ{b m} ⟨o,D,C,e,d,r⟩=>⟨o,D,C,f e (S e d),d,r⟩
  have B:K.In (rC c.heap H):=λ b o e=>f (KX b o e) (by
   cases q:H b with
   | none=>rfl
   | some u =>
    have U:b=a:=hA b (by rw[q];simp);subst U;rw[hK (by rw[q];simp)]at e;cases e)
  have hM:Mod K mg (rC c.heap H):=⟨B,i I,⟨mb,i g,T⟩,let ⟨mc,h1,h2⟩:=N;⟨mc,i h1,h2⟩⟩;have e0:Env0 P w K mg (rC c.heap H) callerA [] c H:=⟨rfl,hM,λ b o e=>kNG e,Fe (kHT _ _),trivial,λ b g=>absurd (show b∈([]:List ar) from g) (by simp),O,.of_eq hg⟩;refine ur ((F _ B (i I)).run callerA [] c H ⟨[.ref a],[]⟩ [.ref a] [.ref a] _ _ hr e0 (y c (.ref a)) (.cons rfl .nil) (Z H hO hS)) λ r s' h=>?_
  cases r with
  | error e=>exact(Y H e s' h).elim
  | ok fl =>
   cases fl with
   | next=>exact uq h
   | brk=>exact uq h
   | cont=>exact uq h
   | ret u =>
    obtain⟨v,H',os,J,un,M,r',q⟩:=h;have q':v=.bl true:=q;subst q';obtain rfl:u=Aj true:=r';refine⟨rfl,OldK.of_keep λ b o e=>?_,os,J⟩
    cases q:H b with
    | none=>exact un.keep b o e q (by intro z;exact absurd (show b∈([]:List ar) from z) (by simp)) (by simp)
    | some u =>
     rcases hO b with z | ⟨ob,xs,z⟩
     ·rw[q]at z;cases z
     ·have z2:=un.frzs b ob _ z
      obtain⟨e1,_⟩:=O b _ z;obtain⟨e2,_⟩:=M b _ z2;rw[e]at e1;cases e1;exact e2
 cases hk:K.lookup a with
 | some o =>
  have e:=KX a o hk;rw[Q]at e;cases e
  refine l (λ _=>none) (λ _=>.inl rfl) (.inr ⟨_,p.toArray,_,hk,rfl,rfl,rfl,by rw[eX,A];exact hl,by simpa using rv⟩) (λ b u z=>by have L:(none:Option HO)=some u:=z;cases L) (λ b z=>absurd rfl z) λ z=>absurd rfl z
 | none =>
  refine l (λ b=>if b=a then some (.frz {cls:=.type "list",data:=.seq p.toArray} (.lst (G.map V.int))) else none) (λ b=>?_) (.inl (.inr ⟨{cls:=.type "list",data:=.seq p.toArray},if_pos rfl⟩)) (λ b u z=>?_) (λ b z=>?_) λ _=>hk
  ·by_cases g:b=a
   ·exact .inr ⟨_,_,if_pos g⟩
   ·exact .inl (if_neg g)
  ·by_cases g:b=a
   ·have L:=(if_pos g).symm.trans z
    cases L
    subst g;exact⟨Q,by rw[af];exact hl,p,_,rv,Q⟩
   ·have L:=(if_neg g).symm.trans z
    cases L
  ·by_cases g:b=a
   ·exact g
   ·exact absurd (if_neg g) z
def walk_of{l:CA}{n k:Nat}{q:eN}{loose:List Str}{U:(Str->Option ai)->iC->Prop}{M:fu->iC->Prop}{d:DefRec}{K:GH->au}{CX:fu->CXT}{sp:fu->Sp}{x:Str}
  (Z:l.most=some n) (I:n<=sizeLine) (B:d.params.defaults=[]) (Q:Room k callerA)
  (hY:∀(w:fu)(h:iC),M w h->(K w.params).In h)
  (F:∀(w:fu)(mg:Str->Option ai)(y:ar)(h:iC),(K w.params).In h->h.Ns eR mg->mg d.name=some (.ref y) ->
   ∃ fd:og,(∀(s:ao)(u:ai),DN s fd ⟨[u],[]⟩ [(x,u)]) /\
    ∀ base:iC,(K w.params).In base->base.Ns eR mg->FnOk l.prog w (K w.params) mg base (CX w) k y fd [x] (sp w))
  (J:∀(w:fu)(H:Hp)(a:ar)(r:List Int),r.length<=n->kRK H->SqL (K w.params) H a (r.map V.int)->sp w [.ref a] H (λ v _=>v=.bl true) λ _ _ _=>False)
  (D:∀(w:fu)(H:Hp)(s:ao)(e:ai)(A:ao),CX w [] H s (λ _ _ _=>False) e A->False) :
  FQ q loose U M l.row.toRowW d [] (λ f vs=>Eb f vs):=by
 refine Att.attach_call Z B λ w N p mg mb y o pm cd a1 a vs r G Y ho hd a0 C m i c S=>?_;have L:=hY w _ Y;obtain⟨fd,O,X⟩:=F w mg y _ L G.T.g C;exact kKY L G.T.g G.T.b G.T.builtins G.T.nolimit S m i (gx c I) Q X O (λ H hO hS=>J w H a r c hO hS) λ H e A=>D w H p e A
def wS(s:ja):Arguments:=match s with
 | .FunctionDef _ a _ _ _ _ _ _ _ _=>a
 | _=>{posonlyargs:=[],args:=[],vararg:=none,kwonlyargs:=[],kw_defaults:=[],kwarg:=none,defaults:=[]}
def yJ(s:ja):List ja:=match s with
 | .FunctionDef _ _ b _ _ _ _ _ _ _=>b
 | _=>[]
def kK(s:ja):uj:=match s with
 | .FunctionDef _ _ _ _ _ _ sc _ _ _=>sc
 | _=>{kind:=.function,names:=[],isGenerator:=false,isCoroutine:=false}
abbrev CX0:CXT:=λ _ _ _ _ _ _=>False
abbrev E0:XK:=λ _ _ _=>False
def kSF{X:Cx}:kDL CX0 X E0:=λ _ _ _ _ _ _ _ h=>h.elim
structure Fun(K:au)(x qual:Str)(st:ja)(f:ar)(fd:og):Prop where
 ex:∃(oc:ai)(od:Option ar)(kV doc pm:ai)(an:Option ar)(cdv ct:ai)(osl:Array (Option ai)),
  fd=rh x qual (wS st) (yJ st) (kK st) .none kV doc pm an cdv ct/\K.lookup f=some ⟨oc,od,.func fd,osl⟩/\Ap K cdv qual=true
 kp:yy K (.ref f)=true
section
variable {P:eN} {w:fu} {K:au} {mg:Str->Option ai} {base:iC}
def Fun.ok{x a:Str}{st:ja}{f:ar}{m:og}{N l:List Str}{k:Nat}{sp:Sp}(F:Fun K x a st f m)(S:FnScope N l (kK st))(len:∀ c H Q E,sp c H Q E->c.length=l.length)
  (d:∀(b:ai)(A:ed)(outer:List Env)(s:ao)(H:Hp)(c:List V)(Q:VK)(E:XK),Room k (A.deeper (envOfC a (kK st) s.heap.objs.size f b))->sp c H Q E ->
   ∃ t,PSs (qK CX0 P w K mg base N a (kK st) f b A outer s H E).nox (yJ st) t/\t {nx:=λ _ H'=>Q .non H',rt:=Q} (start N c) H):FnOk P w K mg base CX0 (k+1) f m l sp:=by
 obtain⟨B,C,kV,r,u,y,b,v,p,rfl,o,g⟩:=F.ex;refine kSV o g S len λ A outer s H c Q E n i=>?_;obtain⟨t,h,q⟩:=d b A outer s H c Q E n i;exact⟨t,h.nox,q⟩
def Fun.binds{x a:Str}{st:ja}{f:ar}{m:og}{i:List Str}(F:Fun K x a st f m)
  (h:∀(kV c d:ai)(g:Option ar)(b ct:ai)(l:List ai),l.length=i.length->bindArgs (rh x a (wS st) (yJ st) (kK st) .none kV c d g b ct) ⟨l,[]⟩=pure (i.zip l)):Binds K m i []:=by
 obtain⟨q,r,kV,c,d,g,b,ct,o,rfl,p,n⟩:=F.ex;exact .all (h kV c d g b ct)
def kRA{x a:Str}{st:ja}{f:ar}{m:ai}{n i:Option ar}{g:Array (Option ai)}{kV d h b ct:ai}(l:K.lookup f=some ⟨m,n,.func (rh x a (wS st) (yJ st) (kK st) .none kV d h i b ct),g⟩)
  (c:Ap K b a=true) (k:yy K (.ref f)=true):Fun K x a st f (rh x a (wS st) (yJ st) (kK st) .none kV d h i b ct):=⟨⟨m,n,kV,d,h,i,b,ct,g,rfl,l,c⟩,k⟩
end
def zJ{A:ed}{k:Nat}(a:Room k A):A.units+1<cLine:=gw (Nat.add_le_add_left (by decide:1<=64) _) a.units
def kQ{n:Nat}(h:n<=1000):n<sizeLine:=gw h (by decide)
section
variable {X:Cx}
def pv(i:Nat){x:Str}{a:Pos}(c:X.N[i]?=some x:=by rfl)(d:Vis X.env.scope x:=by first | exact AO rfl | exact Ec (AO rfl) | exact Ec (Ec rfl))(f:(x == ("__debug__" : Str))=false:=by decide)
  (b:(x == ("__classdict__" : Str))=false:=by decide):PE X (.Name x a) (vC i):=kPY c d f b
end
def xN{A B:Prop}(h:B):if false=true then A else B:=by
 rw[if_neg dq];exact h
def yV{A B:Prop}(h:A):if true=true then A else B:=by
 rw[if_pos rfl];exact h
def kLB{c A B:Prop}[Decidable c](h1:c->A)(a:¬ c->B):if c then A else B:=by
 by_cases h:c
 ·rw[if_pos h]
  exact h1 h
 ·rw[if_neg h]
  exact a h
def Same(H H':Hp):Prop:=∀ b o,H b=some o->H' b=some o
def Same.refl(H:Hp):Same H H:=λ _ _ h=>h
def Same.trans{H d f:Hp}(a:Same H d)(b:Same d f):Same H f:=λ c o h=>b c o (a c o h)
def Same.free{H H':Hp}(e:Same H H'){l:ar}(h:H' l=Fw):H l=Fw:=by
 cases q:H l with
 | none=>rfl
 | some o =>
  rw[e l o q]at h;cases h
def Same.seq{K:au}{H H':Hp}{a:ar}{xs:List V}(e:Same H H')(h:SqL K H a xs):SqL K H' a xs:=by
 rcases h with(h | ⟨o,h⟩) | h
 ·exact .inl (.inl (e _ _ h))
 ·exact .inl (.inr ⟨o,e _ _ h⟩)
 ·exact .inr h
end L2
namespace Own
open PySem PySem.Spec PyProof.Rows L2
def Has(P:eN)(w:fu)(K:au)(mg:Str->Option ai)(base:iC)(x:Str)(a:List Str)(k:Nat)(sp:Sp):Prop :=
 ∃(f:ar)(b:og),FnOk P w K mg base CX0 k f b a sp/\Binds K b a []/\yy K (.ref f)=true/\mg x=some (.ref f)
section
variable {X:Cx} {k:Nat} {ps:List Str} {sp:Sp} {x:Str} {p pos:Pos} {e:iA} {es:List iA} {t:TA}
def pe_has(h:Has X.prog X.w X.K X.mg X.base x ps k sp)(g:Room k X.A)(l:Gl X x)
  (n:PA X (e::es) t) (c:(x == ("__debug__" : Str))=false:=by decide) (i:starEach (e::es) X.env=(false,eval e X.env)::starEach es X.env:=by rfl) (a:(backTo pos (starEach es X.env)).any (·.1)=false:=by rfl) :
  PE X (.Call (.Name x p) (e::es) [] pos) (kDT sp [] E0 t):=by
 obtain⟨f,o,F,b,d,m⟩:=h;exact kNB F g l m d b .nil kSF n c i a
end
def kTH(i j:Int):Prop:=i.natAbs<2 ^ 9000/\j.natAbs<2 ^ 9000
def kFX{i:Int}(h:i.natAbs<2 ^ 9000):GE i<=2 ^ 20 :=
 gx (intBits_le h) (by decide)
section
variable {X:Cx}
def op_mulW:OpR X (binaryOp .Mult) (rI kTH λ i j=>.int (i*j)):=opI λ _ _ _ _ _ _ _ a q=>mul_int q (IntMulOk.of_bits (kFX a.1) (kFX a.2))
def log2_lt{n:Nat}(h:n<2 ^ 9000):n.log2<9000:=by
 by_cases h0:n=0
 ·subst h0;decide
 ·exact(Fy h0).mpr h
inductive oI(K:au)(xs:List V)(H:Hp)(Q:VK):Prop
 | mk:∀ x t T b,(xs=[x,.ty T])->(cL K H x t)->(ET K t (.type T)=some b)->(Q (.bl b) H)->oI K xs H Q
def call_isi:xR X (.builtin "isinstance") (oI X.K):=by
 intro a s i H n m Q I r h;obtain⟨x,t,T,b,rfl,f,e,q⟩:=h;obtain⟨u,l,rfl,c,d⟩:=kDO r;cases d
 exact kHP I c f e λ g=>⟨.bl b,H,I.tok _,rfl,q⟩
end
end Own
namespace L2
open PySem
def qW(K:au)(n:Str)(st:ja):Prop:=∃(f:ar)(a:og),gk K eR n=some (some (.ref f))/\Fun K n n st f a
def df_mk{K:au}{n:Str}{st:ja}{f:ar}{m:ai}{o i:Option ar}{g:Array (Option ai)}{kV d h b ct:ai}(a:gk K eR n=some (some (.ref f)))(l:K.lookup f=some ⟨m,o,.func (rh n n (wS st) (yJ st) (kK st) .none kV d h i b ct),g⟩)(c:Ap K b n=true)(k:yy K (.ref f)=true):qW K n st:=⟨f,_,a,kRA l c k⟩
def kQZ{P:eN}{w:fu}{K:au}{mg:Str->Option ai}{h base:iC}(X:K.In h)(G:h.Ns eR mg){n:Str}{st:ja}{g:List Str}{o:Nat}{sp:Sp}(d:qW K n st)
  (ok:∀(f:ar)(c:og),Fun K n n st f c->FnOk P w K mg base CX0 o f c g sp) (b:∀(kV m p:ai)(q:Option ar)(i ct:ai)(l:List ai),l.length=g.length->bindArgs (rh n n (wS st) (yJ st) (kK st) .none kV m p q i ct) ⟨l,[]⟩=pure (g.zip l)):Own.Has P w K mg base n g o sp:=by
 obtain⟨f,c,a,F⟩:=d;exact⟨f,c,ok f c F,F.binds b,F.kp,Cq X G a⟩
open PySem PySem.Spec PyProof.Rows
section
variable {κ:Type} [DecidableEq κ]
def qU(kvs:List (κ×V))(k:κ):Option V:=(kvs.find? λ a=>decide (a.1=k)).map (·.2)
def jY(kvs:List (κ×V))(k:κ)(v:V):List (κ×V) :=
 if(kvs.any λ a=>decide (a.1=k))=true then kvs.map (λ a=>if a.1=k then(a.1,v) else a) else kvs++[(k,v)]
def xQ(kvs:List (κ×V))(k:κ):List (κ×V):=kvs.filter λ a=>decide (a.1≠k)
def qT{p:κ×V}{r:List (κ×V)}{k:κ}(e:p.1=k):qU (p::r) k=some p.2:=by simp[qU,vg,e]
def qL{p:κ×V}{r:List (κ×V)}{k:κ}(e:¬ p.1=k):qU (p::r) k=qU r k:=by simp[qU,vg,e]
theorem vB(k:κ):∀ kvs:List (κ×V),(kvs.any λ kv=>decide (kv.1=k))=(qU kvs k).isSome
 | []=>rfl
 | p::r=>by
  rw[AH];by_cases e:p.1=k
  ·simp only[qT e,decide_eq_true e,Bool.true_or,Option.isSome_some]
  ·rw[qL e,decide_eq_false e,Bool.false_or];exact vB k r
theorem sB(k j:κ)(y:V):∀ kvs:List (κ×V),qU (kvs.map λ kv=>if kv.1=k then(kv.1,y) else kv) j=(qU kvs j).map λ x=>if j=k then y else x
 | []=>rfl
 | p::r=>by
  have a:=sB k j y r;rw[eo];by_cases h:p.1=k
  ·rw[if_pos h]
   by_cases e:p.1=j
   ·rw[qT (p:=(p.1,y)) e,qT e,vh,if_pos (e.symm.trans h)]
   ·rw[qL (p:=(p.1,y)) e,qL e,a]
  ·rw[if_neg h]
   by_cases e:p.1=j
   ·rw[qT (p:=p) e,qT e,vh,if_neg (λ z=>h (e.trans z))]
   ·rw[qL (p:=p) e,qL e,a]
theorem mO(k j:κ)(y:V):∀ kvs:List (κ×V),qU kvs k=none->qU (kvs++[(k,y)]) j=if j=k then some y else qU kvs j
 | [],_=>by
  by_cases e:k=j
  ·rw[if_pos e.symm];exact qT (p:=(k,y)) e
  ·rw[if_neg (λ z=>e z.symm)];exact qL (p:=(k,y)) e
 | p::r,hn=>by
  rw[gi];have a:¬ p.1=k:=λ z=>by rw[qT z]at hn;cases hn
  rw[qL a]at hn;have b:=mO k j y r hn;by_cases e:p.1=j
  ·rw[qT e,qT e,if_neg (λ z=>a (e.trans z))]
  ·rw[qL e,qL e,b]
def zV(kvs:List (κ×V))(k j:κ)(y:V):qU (jY kvs k y) j=if j=k then some y else qU kvs j:=by
 unfold jY;by_cases a:(kvs.any λ c=>decide (c.1=k))=true
 ·rw[if_pos a,sB]
  rw[vB]at a;by_cases e:j=k
  ·obtain⟨x,b⟩:=xx.mp a
   rw[if_pos e,e,b,vh,if_pos rfl]
  ·rw[if_neg e]
   cases qU kvs j with
   | none=>rfl
   | some x=>rw[vh,if_neg e]
 ·rw[if_neg a]
  refine mO k j y kvs ?_;rw[vB]at a
  cases q:qU kvs k with
  | none=>rfl
  | some x=>rw[q]at a;exact(a rfl).elim
def qR(kvs:List (κ×V))(k:κ)(v:V):(jY kvs k v).length<=kvs.length+1:=by
 unfold jY
 split
 ·rw[af];omega
 ·rw[bg,eQ,ow];omega
def tP{kvs:List (κ×V)}{k:κ}(v:V)(h:qU kvs k=none):jY kvs k v=kvs++[(k,v)]:=by
 unfold jY;rw[vB,h];exact if_neg (by decide)
def RelO.isSome_eq{o:Option V}{u:Option ai}(r:RelO o u):o.isSome=u.isSome:=by
 cases o with
 | none=>cases u with
  | none=>rfl
  | some _=>exact(show False from r).elim
 | some _=>cases u with
  | none=>exact(show False from r).elim
  | some _=>rfl
def KV.val{kvs:List (κ×V)}{c:List (κ×ai)}(r:KV kvs c)(k:κ):RelO (qU kvs k) (valueAt c k):=by
 unfold KV at r
 induction r with
 | nil=>exact kb
 | @cons p q ps qs h t ih =>
  obtain⟨h1,d⟩:=h;by_cases e:p.1=k
  ·have a:q.1=k:=h1.symm.trans e
   have b:valueAt (q::qs) k=some q.2:=by simp[valueAt,vg,a]
   rw[qT e,b];exact d
  ·have a:¬ q.1=k:=λ z=>e (h1.trans z)
   have b:valueAt (q::qs) k=valueAt qs k:=by simp[valueAt,vg,a]
   rw[qL e,b];exact ih
theorem KV.any{kvs:List (κ×V)}{a:List (κ×ai)}(r:KV kvs a)(k:κ):(kvs.any λ kv=>decide (kv.1=k))=a.any λ kv=>decide (kv.1=k):=by
 unfold KV at r
 induction r with
 | nil=>rfl
 | cons h t ih=>rw[AH,AH,ih,h.1]
def KV.repl{kvs:List (κ×V)}{a:List (κ×ai)}(r:KV kvs a)(k:κ){y:V}{u:ai}(b:RelV y u) :
  KV (kvs.map λ kv=>if kv.1=k then(kv.1,y) else kv) (a.map λ kv=>if kv.1=k then(kv.1,u) else kv):=by
 unfold KV at r ⊢
 induction r with
 | nil=>exact .nil
 | @cons p q ps qs h t ih =>
  rw[eo,eo];refine .cons ?_ ih;obtain⟨h1,c⟩:=h;by_cases e:p.1=k
  ·rw[if_pos e,if_pos (h1.symm.trans e)];exact⟨h1,b⟩
  ·rw[if_neg e,if_neg (λ z=>e (h1.trans z))];exact⟨h1,c⟩
def KV.put{kvs:List (κ×V)}{a:List (κ×ai)}(r:KV kvs a)(k:κ){y:V}{u:ai}(b:RelV y u):KV (jY kvs k y) (stored a k u):=by
 unfold jY stored;rw[r.any k];by_cases e:(a.any λ c=>decide (c.1=k))=true
 ·rw[if_pos e,if_pos e];exact r.repl k b
 ·rw[if_neg e,if_neg e];exact Fz r ⟨rfl,b⟩
def KV.drop{kvs:List (κ×V)}{c:List (κ×ai)}(r:KV kvs c)(k:κ):KV (xQ kvs k) (without c k):=by
 unfold KV at r ⊢;unfold xQ without
 induction r with
 | nil=>exact .nil
 | @cons p q ps qs h t ih =>
  obtain⟨h1,d⟩:=h;rw[lh,lh];by_cases e:p.1=k
  ·have a:¬ decide (p.1≠k)=true:=by simp[e]
   have b:¬ decide (q.1≠k)=true:=by simp[h1.symm.trans e]
   rw[if_neg a,if_neg b];exact ih
  ·have f:¬ q.1=k:=λ z=>e (h1.trans z)
   have a:decide (p.1≠k)=true:=by simp[e]
   have b:decide (q.1≠k)=true:=by simp[f]
   rw[if_pos a,if_pos b];exact .cons ⟨h1,d⟩ ih
theorem KV.length{kvs:List (κ×V)}{a:List (κ×ai)}(r:KV kvs a):kvs.length=a.length:=sk r
def kLT(kvs:List (κ×V))(k:κ):(xQ kvs k).length<=kvs.length:=ie _ _
end
def dB{P:eN}{w:fu}{k:Key}{u:ai}(r:RelV (kV k) u):(qC P w).is k u=true:=by
 cases k with
 | inl i=>obtain⟨t,e⟩:=(show ∃ t,u=qk i t from r);subst e;exact kAD P w i t
 | inr x=>obtain⟨t,e⟩:=(show ∃ t,u=Cd x t from r);subst e;exact kAC P w x t
theorem nW{P:eN}{w:fu}:∀{a:List Key}{b:List ai},Vals (a.map kV) b->ItemsAre (qC P w) a b
 | [],_,r=>by rw[DT]at r;cases r;exact .nil
 | k::a,_,r=>by
  rw[eo]at r
  cases r with
  | cons h t=>exact .cons (dB h) (nW t)
abbrev KT(H:Hp):List (List Key×V)->List (List Key×ar×ai)->Prop:=EL λ p q=>p.1=q.1/\H q.2.1=some (.tup (p.1.map kV))/\RelV p.2 q.2.2
def KT.val{H:Hp}{kvs:List (List Key×V)}{xs:List (List Key×ar×ai)}(r:KT H kvs xs)(k:List Key):RelO (qU kvs k) ((atKey xs k).map (·.2)):=by
 induction r with
 | nil=>exact kb
 | @cons p q ps qs h t ih =>
  obtain⟨h1,_,c⟩:=h;by_cases e:p.1=k
  ·have a:q.1=k:=h1.symm.trans e
   have b:atKey (q::qs) k=some q.2:=by simp[atKey,vg,a]
   rw[qT e,b];exact c
  ·have a:¬ q.1=k:=λ z=>e (h1.trans z)
   have b:atKey (q::qs) k=atKey qs k:=by simp[atKey,vg,a]
   rw[qL e,b];exact ih
def KT.repl{H:Hp}{kvs:List (List Key×V)}{xs:List (List Key×ar×ai)}(r:KT H kvs xs)(k:List Key){y:V}{u:ai}(c:RelV y u) :
  KT H (kvs.map λ kv=>if kv.1=k then(kv.1,y) else kv) (xs.map (putAt k u)):=by
 induction r with
 | nil=>exact .nil
 | @cons p q ps qs h t ih =>
  rw[eo,eo];refine .cons ?_ ih;obtain⟨h1,a,b⟩:=h;unfold putAt;by_cases e:p.1=k
  ·rw[if_pos e,if_pos (h1.symm.trans e)];exact⟨h1,a,c⟩
  ·rw[if_neg e,if_neg (λ z=>e (h1.trans z))];exact⟨h1,a,b⟩
def KT.put{H:Hp}{kvs:List (List Key×V)}{xs:List (List Key×ar×ai)}(r:KT H kvs xs)(k:List Key){b:ar}{y:V}{u:ai}(c:H b=some (.tup (k.map kV)))(a:RelV y u) :
  KT H (jY kvs k y) (storedH xs k b u):=by
 have e:(kvs.any λ d=>decide (d.1=k))=(atKey xs k).isSome:=by
  rw[vB,(r.val k).isSome_eq,BM]
 unfold jY storedH;rw[e];by_cases q:(atKey xs k).isSome=true
 ·rw[if_pos q,if_pos q];exact r.repl k a
 ·rw[if_neg q,if_neg q];exact Fz r ⟨rfl,c,a⟩
def KT.keeps{H H':Hp}{kvs:List (List Key×V)}{xs:List (List Key×ar×ai)}(r:KT H kvs xs)(a:∀ b ys,H b=some (.tup ys)->H' b=some (.tup ys)):KT H' kvs xs :=
 Paired.mapP r λ _ _ z=>⟨z.1,a _ _ z.2.1,z.2.2⟩
section
variable {P:eN} {w:fu} {H:Hp} {h:iC} {a:ar}
def kOL{u:HO}(ok:HOk P w H h)(e:Rd H a u):ObjOk P w H h a u:=e.ok ok
def oD{kvs:List (Key×V)}(ok:HOk P w H h)(e:Rd H a (.dK kvs)):kvs.length<=sizeLine/\(a == sysModules)=false/\∃ vs,KV kvs vs/\h.DictOf (qC P w) a vs :=
 show ObjOk P w H h a (.dK kvs) from kOL ok e
def oE{kvs:List (Key×V)}(ok:HOk P w H h)(e:H a=some (.dK kvs)):kvs.length<=sizeLine/\(a == sysModules)=false/\∃ vs,KV kvs vs/\h.DictOf (qC P w) a vs:=oD ok (.inl e)
def cC{c:List Key}(ok:HOk P w H h)(e:H a=some (.tup (c.map kV))):(tupleKind (qC P w)).is h c a:=by
 obtain⟨_,b,r,o,h1,d,n,f,_⟩:=(show ObjOk P w H h a (.tup (c.map kV)) from ok a _ e);exact⟨o,b.toArray,n,h1,d,f,by simpa using nW r⟩
def oC{kvs:List (List Key×V)}(ok:HOk P w H h)(e:Rd H a (.dT kvs)):kvs.length<=sizeLine/\(a == sysModules)=false /\
  ∃ xs,KT H kvs xs/\h.DictOfH (tupleKind (qC P w)) a xs:=by
 obtain⟨z,y,xs,r,o,i,c,h1,d,f,n,g⟩:=(show ObjOk P w H h a (.dT kvs) from kOL ok e);refine⟨z,y,xs,r,o,i,c,h1,d,f,n,λ x b=>?_,g⟩
 have all:∀{l:List (List Key×V)}{m:List (List Key×ar×ai)},KT H l m->∀ x∈m,(tupleKind (qC P w)).is h x.1 x.2.1:=by
  intro l m q
  induction q with
  | nil=>intro x b;exact nomatch b
  | @cons p q ps qs hq t ih =>
   intro x b;rcases cn.mp b with e | b
   ·subst e
    exact cC ok (by rw[<-hq.1];exact hq.2.1)
   ·exact ih x b
 exact all r x b
def kFO{kvs:List (List Key×V)}(ok:HOk P w H h)(e:H a=some (.dT kvs)):kvs.length<=sizeLine/\(a == sysModules)=false /\
  ∃ xs,KT H kvs xs/\h.DictOfH (tupleKind (qC P w)) a xs:=oC ok (.inl e)
end
def DGet(H:Hp)(a:ar)(y:V)(r:Option V):Prop :=
 (∃ c k,Rd H a (.dK c)/\y=kV k/\r=qU c k)\/∃ c k b,Rd H a (.dT c)/\y=.ref b/\H b=some (.tup (k.map kV))/\r=qU c k
def DPut(H:Hp)(a:ar)(y v:V)(H':Hp):Prop :=
 (∃ c k,H a=some (.dK c)/\y=kV k/\c.length<sizeLine/\H'=upd H a (.dK (jY c k v))) \/
 ∃ c k b,H a=some (.dT c)/\y=.ref b/\H b=some (.tup (k.map kV))/\c.length<sizeLine/\H'=upd H a (.dT (jY c k v))
theorem DGet.k{H:Hp}{a:ar}{kvs:List (Key×V)}{k:Key}(e:H a=some (.dK kvs)):DGet H a (kV k) (qU kvs k):=.inl ⟨kvs,k,.inl e,rfl,rfl⟩
def DGet.t{H:Hp}{a b:ar}{kvs:List (List Key×V)}{k:List Key}(e:H a=some (.dT kvs))(c:H b=some (.tup (k.map kV))):DGet H a (.ref b) (qU kvs k):=.inr ⟨kvs,k,b,.inl e,rfl,c,rfl⟩
theorem DPut.k{H:Hp}{a:ar}{kvs:List (Key×V)}{k:Key}{v:V}(e:H a=some (.dK kvs))(b:kvs.length<sizeLine):DPut H a (kV k) v (upd H a (.dK (jY kvs k v))):=.inl ⟨kvs,k,e,rfl,b,rfl⟩
def DPut.t{H:Hp}{a b:ar}{kvs:List (List Key×V)}{k:List Key}{v:V}(e:H a=some (.dT kvs))(c:H b=some (.tup (k.map kV)))(d:kvs.length<sizeLine) :
  DPut H a (.ref b) v (upd H a (.dT (jY kvs k v))):=.inr ⟨kvs,k,b,e,rfl,c,d,rfl⟩
section
variable {X:Cx} {pins:List (ar×Obj)} {σ:St} {H:Hp} {s:ao} {a:ar} {y v:V} {u r:ai} {o:Option V} {A:ed} {E:ai->ao->Prop}
def Inv.big(I:Inv X pins σ H s):sysModules<s.heap.objs.size:=by
 have h:eR<s.heap.objs.size:=(I.mod.glob.keeps I.bk).lt;exact Nat.lt_trans (by decide) h
def kIC{Q:ai->ao->Prop}(D:A.units+1<cLine)(I:Inv X pins σ H s)(g:DGet H a y (some v))(r:RelV y u)(h:∀ w' s',Inv X pins σ H s'->RelV v w'->Q w' s') :
  eK (model X.prog X.w) A (getItem (.ref a) u) Q E s:=by
 rcases g with⟨f,k,e,m,l⟩ | ⟨f,k,b,e,m,B,l⟩
 ·subst m
  obtain⟨z,G,x,c,n⟩:=oD I.hok e;obtain⟨w',i,d⟩:=RelO.some_of (v:=v) (o:=valueAt x k) (by rw[l];exact c.val k);exact wpAny_getItem_of (dB r) n.mapOf i (h w' _ (I.tok _) d)
 ·subst m
  cases(show u=iE b from r)
  obtain⟨z,G,C,c,n⟩:=oC I.hok e;obtain⟨w',i,d⟩:=RelO.some_of (v:=v) (o:=(atKey C k).map (·.2)) (by rw[l];exact c.val k);obtain⟨p,hp,q⟩:=ck.mp i;refine wpAny_getItem_heap (uu D) (cC I.hok B) n hp ?_;rw[q];exact h w' _ (I.tok _) d
def kTY{Q:ai->ao->Prop}(r:A.units+1<cLine)(I:Inv X pins σ H s)(g:DGet H a y o)(n:RelV y u)(h:∀ s',Inv X pins σ H s'->Q (.bool o.isSome) s') :
  eK (model X.prog X.w) A (compareOp .In u (.ref a)) Q E s:=by
 rcases g with⟨d,k,e,f,l⟩ | ⟨d,k,b,e,f,p,l⟩
 ·subst f
  obtain⟨z,i,v,c,m⟩:=oD I.hok e;refine wpAny_in_of (dB n) i m.mapOf ?_;rw[<-(c.val k).isSome_eq,<-l];exact h _ (I.tok _)
 ·subst f
  cases(show u=iE b from n)
  obtain⟨z,i,x,c,m⟩:=oC I.hok e;refine wpAny_in_heap (uu r) (cC I.hok p) i m ?_;have q:=(c.val k).isSome_eq;rw[BM]at q;rw[<-q,<-l];exact h _ (I.tok _)
def kNX{Q:ai->ao->Prop}(r:A.units+1<cLine)(I:Inv X pins σ H s)(g:DGet H a y o)(n:RelV y u)(h:∀ s',Inv X pins σ H s'->Q (.bool (!o.isSome)) s') :
  eK (model X.prog X.w) A (compareOp .NotIn u (.ref a)) Q E s:=by
 rcases g with⟨d,k,e,f,l⟩ | ⟨d,k,b,e,f,p,l⟩
 ·subst f
  obtain⟨z,i,v,c,m⟩:=oD I.hok e;refine wpAny_notIn_of (dB n) i m.mapOf ?_;rw[<-(c.val k).isSome_eq,<-l];exact h _ (I.tok _)
 ·subst f
  cases(show u=iE b from n)
  obtain⟨z,i,x,c,m⟩:=oC I.hok e;refine wpAny_notIn_heap (uu r) (cC I.hok p) i m ?_;have q:=(c.val k).isSome_eq;rw[BM]at q;rw[<-q,<-l];exact h _ (I.tok _)
def zK{h':iC}{t':Nat}{ob:HO}(I:Inv X pins σ H s)(c:Mut (H a))(f:km a s.heap h')(g:∃ q,h'.get? a=some q)(new:ObjOk X.prog X.w (upd H a ob) h' a ob) :
  Inv X pins σ (upd H a ob) {s with heap:=h',toks:=t'} :=
 I.write (x:=a) (e:=a) c (.inl rfl) (λ b q d z=>(f.2 b d).trans z) g new
def rK{P:eN}{w:fu}{H':Hp}{h':iC}{kvs:List (Key×V)}{c:List (Key×ai)}(z:kvs.length<=sizeLine)(f:(a == sysModules)=false)(b:KV kvs c)(d:h'.DictOf (qC P w) a c) :
  ObjOk P w H' h' a (.dK kvs):=⟨z,f,c,b,d⟩
def kIB{H':Hp}{Q:Unit->ao->Prop}(hu:A.units+1<cLine)(I:Inv X pins σ H s)(g:DPut H a y v H')(N:RelV y u)(J:RelV v r)(h:∀ s',Inv X pins σ H' s'->Q () s') :
  eK (model X.prog X.w) A (setItem (.ref a) u r) Q E s:=by
 rcases g with⟨d,k,e,x,l,B⟩ | ⟨d,k,b,e,x,L,l,B⟩
 ·subst x B
  obtain⟨z,C,O,f,o⟩:=oE I.hok e;have n:O.length<=sizeLine:=by rw[<-f.length];exact z
  have D:(jY d k v).length<=sizeLine:=by have:=qR d k v;omega
  refine wpAny_setItem_pairs (hsz:=n) (dB N) o λ M i p=>h _ ?_;have Y:∃ q,M.get? a=some q:=let ⟨q,_,_,m,_⟩:=i;⟨q,m⟩;exact zK I (by rw[e];exact kb) p Y (rK D C (f.put k J) i)
 ·subst x B
  cases(show u=iE b from N)
  obtain⟨z,C,xs,f,o⟩:=kFO I.hok e;have n:xs.length<=sizeLine:=by rw[<-sk f];exact z
  have D:(jY d k v).length<=sizeLine:=by have:=qR d k v;omega
  refine wpAny_setItem_heap (hsz:=n) (uu hu) (cC I.hok L) o λ M i p=>h _ ?_;obtain⟨q,T,S,m,Z,U,h4,_,h5⟩:=i;refine zK I (by rw[e];exact kb) p ⟨q,m⟩ ⟨D,C,_,(f.put k L J).keeps λ c ys G=>?_,q,T,S,m,Z,U,h4,h5⟩;rw[kL (yB G e (λ z=>nomatch z))];exact G
end
section
variable {X:Cx} {pins:List (ar×Obj)} {σ:St} {H:Hp} {s:ao} {a:ar} {kvs:List (Key×V)} {k:Key} {u:ai} {A:ed} {E:ai->ao->Prop}
def kSX{v:V}{more:List ai}{Q:ai->ao->Prop}(I:Inv X pins σ H s)(e:H a=some (.dK kvs))(d:RelV (kV k) u)(l:qU kvs k=some v)(m:more=[]\/∃ x,more=[x])
  (h:∀ w' s',Inv X pins σ (upd H a (.dK (xQ kvs k))) s'->RelV v w'->Q w' s'):eK (model X.prog X.w) A (call (.builtin "dict.pop") (.ref a::u::more)) Q E s:=by
 obtain⟨z,D,g,b,n⟩:=oE I.hok e;obtain⟨w',y,f⟩:=RelO.some_of (v:=v) (o:=valueAt g k) (by rw[<-l];exact b.val k)
 have hp:(keyPart u).isSome=true:=by
  cases k with
  | inl i=>obtain⟨t,q⟩:=(show ∃ t,u=qk i t from d);subst q;rfl
  | inr x=>obtain⟨t,q⟩:=(show ∃ t,u=Cd x t from d);subst q;rfl
 have C:argsOk "dict.pop" ⟨.ref a::u::more,[]⟩:=by
  rcases m with q | ⟨x,q⟩
  ·subst q;exact PySem.F.args_dict_pop_2 _ _
  ·subst q;exact PySem.F.args_dict_pop_3 _ _ _
 refine DU CK n.typeIs PySem.F.entry_dict_pop C (meets_dict_pop_there (qC X.prog X.w) a (dB d) more m hp)
  ⟨g,w',n,by rw[<-b.length];exact z,y,λ r c p=>h w' _ ?_ f⟩
 have B:∃ q,r.get? a=some q:=let ⟨q,_,_,hq,_⟩:=c;⟨q,hq⟩;exact zK I (by rw[e];exact kb) p B (rK (gx (kLT kvs k) z) D (b.drop k) c)
end
def kTG(i:iA):Prop:=∀ ov a,subscripted i false ov a=operate [ov,a] (getItem ov a)
def kMN{prog:eN}{w:fu}{A:ed}{E:ai->ao->Prop}{s:ao}{env:Env}{value a:iA}{l:Pos}{T id:String}{Q:ai->ao->Prop}
  (p:typeLookup (.type T) "__getitem__" = pure (some (.builtin id))) (n:kTG a)
  (h:eK (model prog w) A (eval value env) (λ o s₁=>eK (model prog w) A (eval a env) (λ i s₂=>s₂.TypeIs o T/\eK (model prog w) A (getItem o i) Q E s₂) E s₁) E s) :
  eK (model prog w) A (eval (.Subscript value a l) env) Q E s:=by
 refine EW (uo h (λ o s₁ f=>uo f (λ i s₂ b=>?_) λ _ _ x=>x) λ _ _ x=>x);obtain⟨m,b⟩:=b;unfold subscriptTail;refine ah ?_;rw[getitemInPython_of_ne m.not_modules];refine ah (CB m p ?_)
 have d:eK (model prog w) A (subscripted a false o i) (λ r c=>eK (model prog w) A (letTemporaryGo value o r >>= λ _=>pure r) Q E c) E s₂:=by
  rw[n o i];exact wpAny_operating (uo b (λ r c g=>ah (wpAny_letTemporaryGo (cc g))) λ _ _ x=>x)
 first
  | exact cc (ah d)
  | exact ah (cc (ah d))
  | exact ah d
def kAZ{X:Cx}{c:List (ar×Obj)}{h:St}{H:Hp}{s:ao}{a:ar}{y:V}{o:Option V}(I:Inv X c h H s)(g:DGet H a y o):s.TypeIs (.ref a) "dict":=by
 rcases g with⟨d,k,e,_,_⟩ | ⟨d,k,b,e,_,_,_⟩
 ·obtain⟨_,_,i,_,f⟩:=oD I.hok e
  exact f.typeIs
 ·obtain⟨_,_,l,_,f⟩:=oC I.hok e
  exact f.typeIs
inductive kJB(Q:VK)(x:V)(y:V)(H2:Hp):Prop
 | mk:∀ a v,(x=.ref a)->(DGet H2 a y (some v))->(Q v H2)->kJB Q x y H2
def kRT(f c:TE):TE:=λ a H Q=>f a H λ x b=>c a b λ y d=>kJB Q x y d
inductive kOD(Q:VK)(y:V)(x:V)(H2:Hp):Prop
 | mk:∀ a o,(x=.ref a)->(DGet H2 a y o)->(Q (.bl o.isSome) H2)->kOD Q y x H2
def kTO(c f:TE):TE:=λ a H Q=>c a H λ y b=>f a b λ x d=>kOD Q y x d
inductive sF(Q:VK)(y:V)(x:V)(H2:Hp):Prop
 | mk:∀ a o,(x=.ref a)->(DGet H2 a y o)->(Q (.bl (!o.isSome)) H2)->sF Q y x H2
def kML(c f:TE):TE:=λ a H Q=>c a H λ y b=>f a b λ x d=>sF Q y x d
inductive kJY(D:Ends)(σ:St)(v:V)(x:V)(y:V)(H3:Hp):Prop
 | mk:∀ a H4,(x=.ref a)->(DPut H3 a y v H4)->(D.nx σ H4)->kJY D σ v x y H3
def kRW(g c h:TE):TS:=λ D a H=>h a H λ v b=>g a b λ x f=>c a f λ y d=>kJY D a v x y d
section
variable {X:Cx} {o i e value:iA} {pos pos' tpos:Pos} {td ty tv:TE}
def aP(G:X.A.units+1<cLine)(D:PE X o td)(hi:PE X i ty)(l:kTG i):PE X (.Subscript o i pos) (kRT td ty):=by
 intro b s f H Q I h;refine kMN PySem.F.slot_dict_getitem.lookup l (thn (D b s f H _ I h) λ u p ⟨x,r,m,n,C⟩=>thn (hi b p f r _ m C) λ T N ⟨y,J,d,M,a,v,L,g,B⟩=>?_);subst L;obtain rfl:u=iE a:=n;exact⟨kAZ d g,kIC G d g M λ O S q c=>⟨v,J,q,c,B⟩⟩
def kKM(B:X.A.units+1<cLine)(hi:PE X i ty)(v:PE X o td):PC X .In i o (kTO ty td):=by
 intro b s c H Q I h;refine thn (hi b s c H _ I h) λ M m ⟨y,p,f,G,r⟩=>thn (v b m c p _ f r) λ u J ⟨x,C,d,l,a,ov,D,g,q⟩=>?_;subst D;obtain rfl:u=iE a:=l;exact kTY B d g G λ L n=>⟨.bl ov.isSome,C,n,rfl,q⟩
def nM(B:X.A.units+1<cLine)(hi:PE X i ty)(v:PE X o td):PC X .NotIn i o (kML ty td):=by
 intro b s c H Q I h;refine thn (hi b s c H _ I h) λ M m ⟨y,p,f,G,r⟩=>thn (v b m c p _ f r) λ u J ⟨x,C,d,l,a,ov,D,g,q⟩=>?_;subst D;obtain rfl:u=iE a:=l;exact kNX B d g G λ L n=>⟨.bl (!ov.isSome),C,n,rfl,q⟩
def kER(S:X.A.units+1<cLine)(Q:PE X o td)(hi:PE X i ty)(m:PE X value tv)(G:swapsWith value (some (.Subscript o i pos')) pos.line X.env=pure false) :
  PS X (.Assign [.Subscript o i pos'] value pos) (kRW td ty tv):=by
 intro b s c H D I h;refine wpAny_Assign_Subscript (thn (m b s c H _ I h) λ r J ⟨v,M,B,q,O⟩=>thn (Q b J c M _ B O) λ u d ⟨x,T,f,C,N⟩=>thn (hi b d c T _ f N) λ iv s3 ⟨y,H3,L,Y,a,l,U,g,n⟩=>?_) G;subst U;obtain rfl:u=iE a:=C;exact kIB S L g Y q λ Z p=>⟨c,l,p,n⟩
end
def kAY{P:eN}{w:fu}{H:Hp}(h:iC)(a:sysModules<h.objs.size):ObjOk P w H (h.push {cls:=.type "dict",data:=.dict #[]}) h.objs.size (.dK []) :=
 ⟨fv _,beq_eq_false_iff_ne.mpr (qe (dj a)),[],.nil,EE h⟩
def kLS{P:eN}{w:fu}{H:Hp}(h:iC)(a:sysModules<h.objs.size):ObjOk P w H (h.push {cls:=.type "dict",data:=.dict #[]}) h.objs.size (.dT []) :=
 ⟨fv _,beq_eq_false_iff_ne.mpr (qe (dj a)),[],.nil,_,#[],0,cx _ rfl,⟨rfl,rfl,rfl⟩,rfl,rfl,xb⟩
def kPI:TE:=λ _ H Q=>∀ p,H p=none->Q (.ref p) (upd H p (.dK []))
def kPH:TE:=λ _ H Q=>∀ p,H p=none->Q (.ref p) (upd H p (.dT []))
section
variable {X:Cx} {pos:Pos}
def tT:PE X (.Dict [] [] pos) kPI:=λ b s c H Q I h =>
 Du ⟨.ref s.heap.objs.size,_,I.laid (a:=s.heap.objs.size) (o:=.dK []) (t':=s.toks) (λ _ _ q=>aj _ q) (av _) (kAY s.heap I.big),rfl,h _ (I.hok.fresh (av _))⟩
def kKK:PE X (.Dict [] [] pos) kPH:=λ b s c H Q I h =>
 Du ⟨.ref s.heap.objs.size,_,I.laid (a:=s.heap.objs.size) (o:=.dT []) (t':=s.toks) (λ _ _ q=>aj _ q) (av _) (kLS s.heap I.big),rfl,h _ (I.hok.fresh (av _))⟩
end
structure M1(X:Cx)(o:iA)(m:Str)(apos:Pos)(e:iA)(cpos:Pos):Prop where
 base:attributeBase o m X.env (eval o X.env)=eval o X.env
 few:((backTo cpos (starEach [e] X.env)).all (λ x=>!x.1) && (backToKw cpos (keywordEach [] X.env)).all (λ x=>x.1.isSome)
  && decide (([e]:List iA).length+([]:List Ce).length+(if([]:List Ce).isEmpty then 0 else 1)<30))=true
 line:(apos.endLine == cpos.line)=true
 trees:backTo cpos (starEach [e] X.env)=[(false,eval e X.env)]
def IsD(H:Hp)(a:ar):Prop:=(∃ b,Rd H a (.dK b))\/∃ b,Rd H a (.dT b)
def kQW{X:Cx}{c:List (ar×Obj)}{l:St}{H:Hp}{s:ao}{a:ar}(I:Inv X c l H s)(d:IsD H a) :
  s.TypeIs (.ref a) "dict"/\(∀ b,iE a=.ref b->∃ ob,s.heap.get? b=some ob/\ob.dict=none)/\(a == sysModules)=false:=by
 rcases d with⟨g,e⟩ | ⟨g,e⟩
 ·obtain⟨_,i,m,_,f⟩:=oD I.hok e
  refine⟨f.typeIs,λ b q=>?_,i⟩;cases q
  obtain⟨ob,_,_,h1,h,_⟩:=f;exact⟨ob,h1,h.2.1⟩
 ·obtain⟨_,i,n,_,f⟩:=oC I.hok e
  refine⟨f.typeIs,λ b q=>?_,i⟩;cases q
  obtain⟨ob,_,_,h1,h,_⟩:=f;exact⟨ob,h1,h.2.1⟩
section
variable {X:Cx} {pins:List (ar×Obj)} {σ:St} {H:Hp} {s:ao} {a:ar} {y d:V} {u r:ai} {o:Option V} {A:ed} {E:ai->ao->Prop}
end
inductive kDR(ty:TE)(σ:St)(Q:VK)(x:V)(H1:Hp):Prop
 | mk:∀ a,(x=.ref a)->(IsD H1 a)->(ty σ H1 λ y H2=>∃ kvs k v,H2 a=some (.dK kvs)/\y=kV k/\qU kvs k=some v/\Q v (upd H2 a (.dK (xQ kvs k))))->kDR ty σ Q x H1
def kPG(d c:TE):TE:=λ a H Q=>d a H λ x b=>kDR c a Q x b
section
variable {X:Cx} {o e f:iA} {apos cpos:Pos} {td ty tx:TE}
def kKJ(M:PE X o td)(p:PE X e ty)(m:M1 X o "pop" apos e cpos):PE X (.Call (.Attribute o "pop" apos) [e] [] cpos) (kPG td ty):=by
 intro b s f H Q I h;refine wpAny_Call_method m.base m.few m.line Bg CK PySem.F.type_dict_pop (thn (M b s f H _ I h) λ u C ⟨x,G,g,r,a,N,d,L⟩=>?_);subst N;obtain rfl:u=iE a:=r;obtain⟨n,S,_⟩:=kQW g d;refine⟨n,S,?_⟩;rw[m.trees];refine zc rfl (CU (Cw (thn (p b C f G _ g L) λ iv T ⟨y,Z,i,O,q,k,v,A,B,l,J⟩=>DM ?_)));subst B;exact kSX i A O l (.inl rfl) λ U Y D c=>⟨v,_,D,c,J⟩
end
section
variable {X:Cx} {pins:List (ar×Obj)} {σ:St} {H:Hp} {s:ao} {a:ar} {kvs:List (Key×V)} {A:ed} {E:ai->ao->Prop}
end
section
variable {X:Cx} {pins:List (ar×Obj)} {σ:St} {H:Hp} {s:ao} {a:ar} {y:V} {u:ai} {A:ed} {E:ai->ao->Prop}
end
section
variable {κ:Type} [DecidableEq κ]
end
end L2
set_option maxHeartbeats 4000000
namespace L2
open PySem PySem.Spec PyProof.Rows
abbrev TB:=(St->Hp->Prop)->St->Hp->Prop
def PBd(X:Cx)(code:Sem Unit)(b:TB):Prop :=
 ∀(pins:List (ar×Obj))(s:ao)(σ:St)(H:Hp)(N:St->Hp->Prop),Inv X pins σ H s->b N σ H ->
  eK (model X.prog X.w) X.A code (λ _ d=>∃ a c,Inv X pins a c d/\N a c) X.xe s
def PTl(X:Cx)(tail:Sem vw)(L:GQ)(b:TB):Prop :=
 ∀(pins:List (ar×Obj))(s:ao)(σ:St)(H:Hp)(N:St->Hp->Prop),Inv X pins σ H s->b N σ H ->
  eK (model X.prog X.w) X.A tail (λ c f=>c=.again L/\∃ a d,Inv X pins a d f/\N a d) X.xe s
def xU(a:List iA)(env:Env)(body:Sem Unit)(L:GQ):Sem vw :=
 (forIn a true λ c r=>if r=true then do let ok <-isTrue c env (eval c env);pure (iO ok) else pure (iO r)) >>= λ ok=>if ok=true then body >>= λ _=>again L else again L
def aE(J:It)(g:TG)(b:TB)(n:St->Hp->Prop)(c:St)(H:Hp):Prop :=
 ∃ W:Nat->Nat->St->Hp->Prop,(∃ m,W 0 m c H)/\∀ i m c H,W i m c H ->
  (J.stop i H/\n c H)\/(J.go i H/\∃ N:St->Hp->Prop,(∀ a d,N a d->∃ h,h<m/\W (i+1) h a d)/\∀ x d,J.yld i H x d->g x c d λ f l=>b N f l)
section
variable {X:Cx} {e tg:iA} {gens:List Cr} {sc:uj} {cpos:Pos} {d:Nat} {it:ar} {acc:ai} {tail:Sem vw} {p:Pos} {g:TG} {b:TB} {J:It} {fp:List ar} {tn:Nat->iC->Prop} {N0:St->Hp->Prop} {R:EU->ao->Prop}
def yM(he:(∃ el,e=.ListComp el gens sc cpos)\/∃ k v,e=.DictComp k v gens sc cpos)(hx:X.xe=λ _ _=>False)(hc:X.calm=true)
  (ht:compTurn e d (.ref it) acc X.env=(standAt p >>= λ _=>pyNext (.ref it) >>= λ r=>match r with
   | none=>pure (.done .next)
   | some v=>letOwnedTupleGo tg (.ref it) v >>= λ _=>assign tg X.env v >>= λ _=>tail))
  (T:Turn X.prog X.w X.K tg J fp it tn) (hg:PG X tg g) (c:PTl X tail (.compLoop e d (.ref it) acc X.env) b) {a:List (ar×Obj)} {O:St} {H:Hp} {s:ao}
  (I:Inv X a O H s) (st:tn 0 s.heap) (f2:∀ b∈fp,yZ X a H b) (hw:aE J g b N0 O H)
  (hR:∀ σ' H' s',Inv X a σ' H' s'->N0 σ' H'->R (.ok .next) s') :
  codeAny (model X.prog X.w) X.A (.compLoop e d (.ref it) acc X.env) R s:=by
 obtain⟨W,⟨m0,w0⟩,turn⟩:=hw;have f:∀{H':Hp},(∀ b∈fp,H' b=none)->∀ b∈fp,yZ X a H' b:=λ hn b c=>⟨hn b c,(f2 b c).2⟩;refine codeAny_loop rfl (λ n s'=>∃ i σ' H',Inv X a σ' H' s'/\tn i s'.heap/\(∀ b∈fp,H' b=none)/\W i n σ' H') ?_ m0 ⟨0,O,H,I,st,λ b c=>(f2 b c).1,w0⟩;rintro n Z ⟨i,l,U,I3,B,G,w3⟩
 have m:(model X.prog X.w).den (.compLoop e d (.ref it) acc X.env)=((compTurn e d (.ref it) acc X.env).onRaise (λ x=>do noteFrame x X.env;theTreesLotGoes x))/\X.A.under (.compLoop e d (.ref it) acc X.env)=X.A:=by
  rcases he with⟨el,rfl⟩ | ⟨k,v,rfl⟩<;>exact⟨rfl,rfl⟩
 rw[m.1,m.2];show eK _ _ ((compTurn e d (.ref it) acc X.env).onRaise (λ x=>do noteFrame x X.env;theTreesLotGoes x)) _ _ Z;refine wpAny_noted ?_;rw[ht]
 have D:∀{α:Type}{t:Sem α}{Q:α->ao->Prop}{E:ai->ao->Prop}{s:ao},eK (model X.prog X.w) X.A t Q X.xe s->eK (model X.prog X.w) X.A t Q E s :=
  λ h=>uo h (λ _ _ q=>q) λ _ _ q=>by rw[hx]at q;exact q.elim
 refine ah (xw (ah ?_));rcases turn i n l U w3 with⟨stop,qn⟩ | ⟨go,N,hN,step⟩
 ·refine D (thn (T.done X rfl rfl rfl hc i a Z l U X.xe I3 (f G) B stop) λ r s4 ⟨L,I4⟩=>?_)
  subst L;exact cc (hR _ _ _ I4 qn)
 ·refine D (thn (T.item X rfl rfl rfl hc i a Z l U X.xe I3 (f G) B go) λ r s4 ⟨u,L,h4⟩=>?_)
  subst L;refine ah (D (thn h4 λ _ s5 ⟨x,H5,I5,r5,y5,y,a0⟩=>?_));have M:=I5.pinned (f a0) (T.obj _ _ y);refine ah (D (thn (hg _ s5 l H5 x u _ M r5 (step x H5 y5)) λ _ s6 ⟨Y,H6,I6,q6⟩=>?_));refine D (thn (c _ s6 Y H6 _ I6 q6) λ a1 s7 ⟨hf,C,H7,S,n7⟩=>?_);subst hf;obtain⟨m',hm,w7⟩:=hN C H7 n7;refine⟨rfl,m',hm,i+1,C,H7,S.unpinned,T.keep _ _ _ y λ b c o e=>(S.pin (b,o) (cm _ (cm _ (wL c e)))).1,λ b c=>?_,w7⟩;obtain⟨o,e,d⟩:=T.obj _ _ y b c;exact(S.pin (b,o) (cm _ (cm _ (wL c e)))).2.1
end
def bIf(t:TT)(b:TB):TB:=λ N a H=>t a H λ c d=>if c=true then b N a d else N a d
def qM{X:Cx}{body:Sem Unit}{L:GQ}{b:TB}(c:PBd X body b):PTl X (xU [] X.env body L) L b:=by
 intro a s d H N I h;unfold xU;refine ah (EF ?_);show eK _ _ (body >>= λ _=>again L) _ _ s;exact ah (thn (c a s d H N I h) λ _ f q=>cc ⟨rfl,q⟩)
def yS{X:Cx}{c:iA}{t:TT}{body:Sem Unit}{L:GQ}{b:TB}(m:PT X c t)(i:PBd X body b):PTl X (xU [c] X.env body L) L (bIf t b):=by
 intro a s d H N I h;unfold xU;refine ah (wpAny_tests_one (thn (m a s d H _ I h) λ ok l ⟨f,g,q⟩=>?_))
 cases ok with
 | true=>exact ah (thn (i a l d f N g (by simpa using q)) λ _ n q=>cc ⟨rfl,q⟩)
 | false=>exact cc ⟨rfl,d,f,g,by simpa using q⟩
def kTC(D:ar)(d:TE):TB:=λ N c H=>d c H λ x b=>∃ a,b D=some (.lst a)/\a.length<sizeLine/\N c (upd b D (.lst (a++[x])))
def qZ{X:Cx}{f:iA}{d:TE}{D:ar}(l:PE X f d):PBd X (do let _ <-call (.builtin "list.append") [.ref D,<-eval f X.env]) (kTC D d):=by
 intro a s b H N I h;refine ah (thn (l a s b H _ I h) λ u n ⟨x,o,m,r,v,y,i,q⟩=>?_);refine ah (thn (jU a n b o (.ref D) [x] (.ref D) [u] (λ _ c=>N b c) m rfl (.cons r .nil) ⟨D,v,x,rfl,rfl,y,i,q⟩) λ _ A ⟨_,c,g,_,p⟩=>?_);exact cc ⟨b,c,g,p⟩
def kDP(f d iter:iA)(a:List iA)(g:uj)(b:Pos)(it c:ai)(env:Env) :
  compTurn (.ListComp f [⟨d,iter,a,0⟩] g b) 0 it c env=(standAt iter.pos >>= λ _=>pyNext it >>= λ r=>match r with
   | none=>pure (.done .next)
   | some v=>letOwnedTupleGo d it v >>= λ _=>assign d env v >>= λ _=>xU a env (do let _ <-call (.builtin "list.append") [c,<-eval f env]) (.compLoop (.ListComp f [⟨d,iter,a,0⟩] g b) 0 it c env)):=by rfl
def kIV(b:List iA)(env:Env)(a:iA)(next:ai->GQ)(L:GQ):Sem vw :=
 (forIn b true λ c r=>if r=true then do let ok <-isTrue c env (eval c env);pure (iO ok) else pure (iO r)) >>= λ ok=>if ok=true then
  (eval a env >>= λ x=>standAt a.pos >>= λ _=>foldedSetIterable a env x >>= λ x=>holding [x] (pyIter x) >>= λ i=>runOwn (next i) env >>= λ _=>again L) else again L
def kIQ(l h iter f a:iA)(c b:List iA)(m:uj)(d:Pos)(it g:ai)(env:Env) :
  compTurn (.ListComp l [⟨h,iter,c,0⟩,⟨f,a,b,0⟩] m d) 0 it g env=(standAt iter.pos >>= λ _=>pyNext it >>= λ r=>match r with
   | none=>pure (.done .next)
   | some v=>letOwnedTupleGo h it v >>= λ _=>assign h env v >>= λ _=>kIV c env a (λ i=>.compStart (.ListComp l [⟨h,iter,c,0⟩,⟨f,a,b,0⟩] m d) 1 i g env) (.compLoop (.ListComp l [⟨h,iter,c,0⟩,⟨f,a,b,0⟩] m d) 0 it g env)):=by rfl
def kIP(h i iter c a:iA)(g b:List iA)(l:uj)(d:Pos)(it f:ai)(env:Env) :
  compTurn (.ListComp h [⟨i,iter,g,0⟩,⟨c,a,b,0⟩] l d) 1 it f env=(standAt a.pos >>= λ _=>pyNext it >>= λ r=>match r with
   | none=>pure (.done .next)
   | some v=>letOwnedTupleGo c it v >>= λ _=>assign c env v >>= λ _=>xU b env (do let _ <-call (.builtin "list.append") [f,<-eval h env]) (.compLoop (.ListComp h [⟨i,iter,g,0⟩,⟨c,a,b,0⟩] l d) 1 it f env)):=by rfl
def wT(env:Env)(a:List (Str×ar))(y:Str×oh):List (Str×ar) :=
 if(y.2 == .free)=true then(match env.cells.lookup y.1 with | some c=>(y.1,c)::a | none=>a) else a
def bH(a:uj)(env:Env):List (Str×ar):=a.names.foldl (wT env) []
def rL(env:Env)(x:Str×oh)(r:List (Str×ar)):Sem (ForInStep (List (Str×ar))) :=
 match x with | (name,kind)=>if(kind == .free)=true then(do let a <-cellOf env name;pure (iO ((name,a)::r))) else pure (iO r)
def kIF{env:Env}{y:Str×oh}{b:List (Str×ar)}(h:y.2=.free->∃ c,env.cells.lookup y.1=some c):rL env y b=pure (iO (wT env b y)):=by
 obtain⟨n,k⟩:=y;unfold rL wT
 cases hk:k == BS with
 | false=>simp[hk]
 | true =>
  obtain⟨c,d⟩:=h (by simpa using hk);have a:List.lookup n env.cells=some c:=d;simp only[hk,if_true,cellOf,a,pure_bind]
theorem lG{env:Env}:∀(l:List (Str×oh))(a:List (Str×ar)),(∀ y∈l,y.2=.free->∃ c,env.cells.lookup y.1=some c) ->
  (forIn l a (rL env):Sem (List (Str×ar)))=pure (l.foldl (wT env) a)
 | [],a,_=>rfl
 | y::r,a,h=>by
  rw[List.forIn_cons,kIF (h y eW),pure_bind,ou];exact lG r _ λ y b=>h y (dc _ b)
def yY{a:uj}{env:Env}(h:∀ y∈a.names,y.2=.free->∃ c,env.cells.lookup y.1=some c):closureFor a env=pure (bH a env):=by
 have q:=lG (env:=env) a.names [] h;have z:closureFor a env=(forIn a.names [] (rL env) >>= λ r=>pure r):=rfl;rw[z,q]
 rfl
theorem dE{env:Env}{x:Str}{c:ar}:∀(l:List (Str×oh))(a:List (Str×ar)),(a.lookup x=some c->env.cells.lookup x=some c)->(l.foldl (wT env) a).lookup x=some c->env.cells.lookup x=some c
 | [],a,h,e=>h e
 | (n,k)::r,a,h,e=>by
  rw[ou]at e;refine dE r _ (λ z=>?_) e;unfold wT at z
  split at z
  ·split at z
   ·rename_i c' hc
    rw[AA]at z
    split at z
    ·rename_i hx
     have:x=n:=by simpa using hx
     subst this;cases z
     exact hc
    ·exact h z
   ·exact h z
  ·exact h z
theorem kDG{env:Env}{x:Str}:∀(l:List (Str×oh))(a:List (Str×ar)),(∃ c,env.cells.lookup x=some c)->((∃ c,a.lookup x=some c)\/(x,BS)∈l)->∃ c,(l.foldl (wT env) a).lookup x=some c
 | [],a,_,h=>h.elim id (λ z=>nomatch z)
 | (n,k)::r,a,he,h=>by
  rw[ou];refine kDG r _ he ?_;rcases h with⟨c,h⟩ | h
  ·left
   unfold wT
   split
   ·split
    ·rename_i c' b
     rw[AA]
     split
     ·exact⟨_,rfl⟩
     ·exact⟨c,h⟩
    ·exact⟨c,h⟩
   ·exact⟨c,h⟩
  ·rcases cn.mp h with z | z
   ·cases z
    obtain⟨c,b⟩:=he
    left
    refine⟨c,?_⟩;unfold wT;simp[b]
   ·exact .inr z
structure CS(sc S0:uj):Prop where
 kind:sc.kind=.function
 names:∀ y∈sc.names,y.2=.local->sc.names.lookup y.1=some .local
 nocell:∀ y∈sc.names,y.2≠.cell
 free:∀ y∈sc.names,y.2=.free->S0.names.lookup y.1=some .cell
def yR(env:Env)(y:Str×oh):Str×oh:=if(y.2 == .free && env.scope.kind == .function && env.kindOf y.1 == some .cell)=true then(y.1,.cell) else(y.1,y.2)
def kCD(env:Env)(y:Str×oh):(yR env y).1=y.1:=by
 unfold yR
 split<;>rfl
theorem fV{env:Env}{x:Str}:∀(l:List (Str×oh)),(l.map (yR env)).lookup x=(l.lookup x).map λ k=>(yR env (x,k)).2
 | []=>rfl
 | (n,k)::r=>by
  rw[eo];have e:yR env (n,k)=(n,(yR env (n,k)).2):=kr (kCD env (n,k)) rfl;rw[e,AA,AA]
  cases hx:x == n with
  | true =>
   have:x=n:=by simpa using hx
   subst this
   rfl
  | false=>exact fV r
def cxC(X:Cx)(Nc:List Str)(d:uj)(C:ar)(b:ao)(a:Hp)(f:List ar)(c:List (ar×Obj)):Cx :=
 {X with N:=Nc,s₀:=b,H₀:=a,env:=compEnvC d (bH d X.env) C X.env,outer:=X.stack,ex:=f,fn:=λ _=>false,pn:=X.pn++c}
def cK(js:List (Option Nat))(a:St):St:=js.map λ o=>o.bind λ j=>(a[j]?).join
def dF(js:List (Option Nat))(Nc N:List Str)(names:List (Str×oh)):Bool :=
 decide (js.length=Nc.length) && (js.zip Nc).all λ(o,x)=>match o with | none=>true | some j=>decide (N[j]?=some x) && decide (names.lookup x=some .free)
def kRF{js:List (Option Nat)}{Nc N:List Str}{names:List (Str×oh)}(h:dF js Nc N names=true):js.length=Nc.length/\∀(i j:Nat)(x:Str),js[i]?=some (some j)->Nc[i]?=some x->N[j]?=some x/\names.lookup x=some .free:=by
 unfold dF at h;rw[iF]at h;refine⟨of_decide_eq_true h.1,λ i j x b a=>?_⟩
 have z:(js.zip Nc)[i]?=some (some j,x):=by
  rw[xm];exact⟨b,a⟩
 have q:=ni.mp h.2 _ (cu z);dsimp only at q;rw[iF]at q;exact⟨of_decide_eq_true q.1,of_decide_eq_true q.2⟩
section
variable {X:Cx} {pins:List (ar×Obj)} {σ:St} {H:Hp} {s:ao} {sc:uj} {Nc:List Str} {js:List (Option Nat)} {fp:List ar}
def kNF(I:Inv X pins σ H s)(S:CS sc X.env.scope)(f:∀ b∈fp,yZ X pins H b)(l:∀ b∈fp,b<s.heap.objs.size){C:ar}(hC:s.heap.objs.size<=C):(cxC X Nc sc C s H fp pins).Ok:=by
 have d:∀ x c,(bH sc X.env).lookup x=some c->X.env.cells.lookup x=some c:=λ x c e=>dE sc.names [] (λ z=>nomatch z) e;refine⟨I.ok.mod,S.kind,I.ok.glob,I.ok.blt,hC,λ x y c r A=>I.ok.inj x y c (d x c r) (d y c A),λ x L=>?_,λ x c z=>(nomatch z),I.ok.hd,I.ok.frames,.inl rfl,λ b g=>⟨?_,λ x c e=>(f b g).2.2.2.2.1 x c (d x c e)⟩,I.bs,gx I.ok.bsz I.sz,λ b o e g=>?_,λ b g D=>?_,I.stack,I.stkFree⟩
 ·have a:(sc.names.map (yR X.env)).lookup x=some .cell\/(sc.names.map (yR X.env)).lookup x=some .free:=L
  rw[fV]at a
  cases e:sc.names.lookup x with
  | none=>rw[e]at a;rcases a with z | z<;>cases z
  | some k =>
   rw[e]at a;have m:(x,k)∈sc.names:=jb e
   have u:k=.free:=by
    have v:=S.nocell _ m;unfold yR at a;by_cases n:(k == BS)=true
    ·simpa using n
    ·have h:(k == BS)=false:=by simpa using n
     simp only[h,ER,vh]at a;rcases a with z | z
     ·exact absurd (by simpa using z) v
     ·simpa using z
   subst u;have i:=S.free _ m rfl;obtain⟨c,B⟩:=I.ok.has x (.inl i);exact kDG sc.names [] ⟨c,B⟩ (.inr m)
 ·exact dj (cz (l b g) hC)
 ·obtain⟨h0,h1,q,p,G,J⟩:=f b g
  rcases p with z | z
  ·exact I.ok.noex b o e z
  ·exact absurd (cz (cq (I.ok.bs b o e).1) z) (jx _)
 ·obtain⟨h0,h1,q,p,G,J⟩:=f b g
  rcases cn.mp (I.stkSub b D) with z | z
  ·exact h1 z
  ·exact q z
def vP(I:Inv X pins σ H s)(S:CS sc X.env.scope)(f:∀ b∈fp,yZ X pins H b)(Q:∀ b∈fp,b<s.heap.objs.size)(G:dF js Nc X.N sc.names=true){C D:ar}{o:HO}{h₁:iC}{m:Str->Option ai}{tk:Nat}
  (hC:s.heap.objs.size<=C) (A:s.heap.objs.size<=D) (B:D≠C) (n:∀ b ob,s.heap.get? b=some ob->h₁.get? b=some ob) (O:h₁.Ns C m) (new:ObjOk X.prog X.w (upd H D o) h₁ D o) :
  Inv (cxC X Nc sc C s H fp pins) [] (cK js σ) (upd H D o) {s with heap:=h₁,toks:=tk}:=by
 have h:∀ x c,(bH sc X.env).lookup x=some c->X.env.cells.lookup x=some c:=λ x c e=>dE sc.names [] (λ z=>nomatch z) e;have fresh:∀ a,s.heap.objs.size<=a->H a=none:=λ a ha=>I.hok.fresh ha;obtain⟨cl,cp⟩:=kRF G;refine⟨kNF I S f Q hC,rfl,I.bare,Un.laid n A (fresh D A),⟨m,O,λ i x v Y g e3=>?_⟩,λ x c e=>?_,?_,λ x c e=>?_,λ p hp=>?_,I.hok.laid n A new,?_⟩
 ·-- a name of the frame's
  unfold cK at g;rw[ay]at g
  cases ej:js[i]? with
  | none=>rw[ej]at g;cases g
  | some oj =>
   rw[ej]at g
   cases oj with
   | none=>cases g
   | some j =>
    obtain⟨hN,d⟩:=cp i j x ej Y
    have hv:σ[j]?=some (some v):=by
     simp only[vh,Option.bind_some,GN]at g
     cases e:σ[j]? with
     | none=>rw[e]at g;cases g
     | some w=>rw[e]at g;exact congrArg some g
    have L:X.env.kindOf x=some .cell:=S.free _ (jb d) rfl;obtain⟨m',a0,hl⟩:=I.loc;obtain⟨u,r,lk⟩:=hl j x v hN hv (.inr (.inl L));refine⟨u,r,.inr ⟨.inl ?_,?_⟩⟩
    ·show(sc.names.map (yR X.env)).lookup x=some .cell
     rw[fV,d];unfold yR;simp[I.ok.kind,L]
    ·rcases lk with⟨z,_⟩ | ⟨_,c,T,l⟩
     ·rw[L]at z;cases z
     ·obtain⟨J,y⟩:=kDG sc.names [] ⟨c,T⟩ (.inr (jb d))
      have:J=c:=bj ((h x J y).symm.trans T);subst this;exact⟨J,y,l.keeps n⟩
 ·obtain⟨v,l⟩:=I.cell x c (h x c e)
  exact⟨v,l.keeps n⟩
 ·show upd H D o C=none
  rw[kL B.symm];exact fresh C hC
 ·have q:=h x c e
  obtain⟨v,l⟩:=I.cell x c q;show upd H D o c=none;rw[kL (dj (cz l.lt A))];exact I.freeC x c q
 ·have M:p∈X.pn++pins:=by
   rcases bp.mp hp with z | z
   ·exact z
   ·exact absurd z (by simp)
  obtain⟨U,a2,Z,a4,a5⟩:=I.pin p M;have lt:=cq U;refine⟨n _ _ U,?_,dj (cz lt hC),λ z=>?_,a5⟩
  ·rw[kL (dj (cz lt A))]
   exact a2
  ·rcases cn.mp (I.stkSub _ z) with z | z
   ·exact Z z
   ·exact a4 z
 ·unfold cK
  rw[af];exact cl
def vQ{C:ar}{l:St}{H':Hp}{i:ao}{h':iC}(I:Inv X pins σ H s)(f:∀ b∈fp,yZ X pins H b)(hC:s.heap.objs.size<=C)(J:Inv (cxC X Nc sc C s H fp pins) [] l H' i)(p:km C i.heap h') :
  Inv X pins σ H' {i with heap:=h'}:=by
 have u:=J.base;have o:H' C=none:=J.free;have stay:∀ b a,b≠C->i.heap.get? b=some a->h'.get? b=some a:=λ b a g e=>p.extBut b a g e;have d:∀ b a,s.heap.get? b=some a->b≠C:=λ b a e=>dj (cz (cq e) hC);refine I.call' (ch:=fp) J.os ?_ (λ b v e=>?_) J.bare λ b g=>⟨(f b g).2.2.2.1,(f b g).2.1,(f b g).2.2.2.2.1,(f b g).2.2.2.2.2⟩
 ·refine⟨λ b a e n h1 h=>stay b a (d b a e) (u.keep b a e n h1 h),λ b a e n h1 h=>?_,u.free,λ b a e h=>?_,u.tups,u.frzs,u.tbls⟩
  ·obtain⟨r,q⟩:=u.slot b a e n h1 h
   exact⟨r,stay b _ (d b a e) q⟩
  ·obtain⟨y,q⟩:=u.there b a e h
   exact⟨y,stay b _ (d b a e) q⟩
 ·have m:∀ c w,H' c=some w->c≠C:=λ c w e z=>by rw[z,o]at e;cases e
  refine(J.hok b v e).stay (λ c w x q=>stay c w ?_ q) (λ _ q=>q) λ _ _ q=>q;rcases x with z | z
  ·rw[z];exact m b v e
  ·exact m c _ z
end
section
variable {X:Cx} {e tg iter el:iA} {ifs:List iA} {gens rest:List Cr} {sc:uj} {pos:Pos} {Nc:List Str} {js:List (Option Nat)} {wi:TI}
def xX{prog:eN}{w:fu}{A:ed}{env:Env}{R:EU->ao->Prop}{s:ao}{d:Nat}{it a:ai}{g:Cr}(i:(∃ el,e=.ListComp el gens sc pos)\/∃ k v,e=.DictComp k v gens sc pos)
  (l:(clausesOf e)[d]?=some g) (m:g.is_async=0)
  (h0:codeAny (model prog w) A (.compLoop e d it a env) R s)
  (h:eK (model prog w) A (pyIter it) (λ it' s'=>codeAny (model prog w) A (.compLoop e d it' a env) R s') (λ _ _=>False) s) :
  codeAny (model prog w) A (.compStart e d it a env) R s:=by
 refine CC ?_
 have b:(model prog w).den (.compStart e d it a env)=((compStart e d it a env).onRaise (λ x=>do noteFrame x env;standAt theWindowsPlace))/\A.under (.compStart e d it a env)=A:=by
  rcases i with⟨el,rfl⟩ | ⟨k,v,rfl⟩<;>exact⟨rfl,rfl⟩
 have n:∀ d it a,(Code.compLoop e d it a env).quiet=true:=λ _ _ _=>rfl;rw[b.1,b.2];refine wpAny_notedAt ?_;unfold compStart;rw[l];have f:((some g).elim false λ x=>x.is_async != 0)=false:=by show(g.is_async != 0)=false;rw[m];rfl
 rw[f];show eK _ _ (ask >>= _) _ _ s;refine ah (wpAny_askSetting (wpAny_ite ?_))
 split
 ·first
   | exact ah (cc (cc (FY rfl h0)))
   | exact cc (FY rfl h0)
 ·refine ah (AB ?_)
  show eK _ _ (standAt g.iter.pos >>= _) _ _ s;exact ah (xw (ah (uo h (λ it' s' c=>cc (FY rfl c)) λ _ _ x=>x.elim)))
def tLC(js:List (Option Nat))(c:TI)(g:TG)(f:ar->TB):TE:=λ b H Q=>c b H λ J a=>∀ D,a D=none->aE J g (f D) (λ _ d=>Q (.ref D) d) (cK js b) (upd a D (.lst []))
def qX{g:TG}{bd:ar->TB}(hx:X.xe=λ _ _=>False)(hc:X.calm=true)(hi:PI X tg iter wi)(S:CS sc X.env.scope)(a2:dF js Nc X.N sc.names=true)
  (hg:∀ C s₂ H₂ fp pins,PG (cxC X Nc sc C s₂ H₂ fp pins) tg g)
  (m:∀ C s₂ H₂ fp pins D L,PTl (cxC X Nc sc C s₂ H₂ fp pins) (xU ifs (cxC X Nc sc C s₂ H₂ fp pins).env (do let _ <-call (.builtin "list.append") [.ref D,<-eval el (cxC X Nc sc C s₂ H₂ fp pins).env]) L) L (bd D))
  (hs:∀ x,foldedSetIterable iter X.env x=pure x:=by intro _;rfl) :
  PE X (.ListComp el [⟨tg,iter,ifs,0⟩] sc pos) (tLC js wi g bd):=by
 intro pins s σ H Q I h;rw[eval_ListComp];have a3:closureFor sc X.env=pure (bH sc X.env):=yY λ y hy hf=>I.ok.has y.1 (.inl (S.free y hy hf));refine kq (use:=none) rfl hs a3 S.kind S.names (thn (hi pins s σ H _ I h) λ v s1 h1=>thn h1 λ a4 d h2=>?_);obtain⟨it,fp,tn,J,Z,e,I2,T,U,f2,hw⟩:=h2;subst e;have u:∀ b∈fp,b<d.heap.objs.size:=λ b m=>let ⟨o,ho,_⟩:=T.obj _ _ U b m;cq ho;refine iW (rm S.nocell (by intro y hy;simp at hy) (λ i f a=>?_) S.kind);dsimp only at f a ⊢;generalize r:d.heap.push {cls:=.type "list",dict:=none,data:=.seq ([]:List ai).toArray}=G at f a ⊢;have a5:G.objs.size=d.heap.objs.size+1:=by rw[<-r,lj]
 have B:d.heap.objs.size≠G.objs.size:=by omega
 have l:d.heap.objs.size<=G.objs.size:=by omega
 have Y:∀ b o,d.heap.get? b=some o->i.get? b=some o:=λ b o e=>a.extBut b o (dj (cz (cq e) l)) (aj _ (r ▸ aj _ e));have O:i.get? d.heap.objs.size=some {cls:=.type "list",dict:=none,data:=.seq ([]:List ai).toArray}:=a.extBut _ _ B (aj _ (r ▸ cx _ rfl));have new:ObjOk X.prog X.w (upd Z d.heap.objs.size (.lst [])) i d.heap.objs.size (.lst []):=⟨fv _,[],_,.nil,O⟩;have I4:=vP (js:=js) (Nc:=Nc) (tk:=d.toks+([]:List (Str×ai)).length) I2 S f2 u a2 l (av _) B Y f new;have hn:Z d.heap.objs.size=none:=I2.fresh
 have f4:∀ b∈fp,yZ (cxC X Nc sc G.objs.size d Z fp pins) [] (upd Z d.heap.objs.size (.lst [])) b:=λ b m=>by
  obtain⟨h0,h1,h2,h3,h4,h5⟩:=f2 b m;refine⟨?_,dj (cz (u b m) l),λ z=>?_,.inl m,λ x c z=>?_,λ p hp=>?_⟩
  ·rw[kL (dj (u b m))];exact h0
  ·rcases cn.mp (I2.stkSub b z) with q | q
   ·exact h1 q
   ·exact h2 q
  ·exact h4 x c (dE sc.names [] (λ z=>nomatch z) z)
  ·rcases bp.mp hp with z | z
   ·exact h5 p z
   ·exact absurd z (by simp)
 have M:tn 0 i:=T.keep _ _ _ U λ b m o e=>Y b o e
 have n:codeAny (model X.prog X.w) X.A (.compLoop (.ListComp el [⟨tg,iter,ifs,0⟩] sc pos) 0 (.ref it) (.ref d.heap.objs.size) (compEnvC sc (bH sc X.env) G.objs.size X.env))
   (compPost (model X.prog X.w) X.A X.xe none (EP X pins σ Q) (.ref d.heap.objs.size) G.objs.size) {d with heap:=i,toks:=d.toks+([]:List (Str×ai)).length}:=by
  refine yM (X:=cxC X Nc sc G.objs.size d Z fp pins) (.inl ⟨el,rfl⟩) hx hc (kDP _ _ _ _ _ _ _ _ _) T (hg _ _ _ _ _) (m _ _ _ _ _ _ _) I4 M f4 (hw _ hn) λ a6 H' s' I' q=>?_;obtain⟨m',a0,_⟩:=I'.loc;exact⟨m',a0,λ h' a1=>⟨.ref d.heap.objs.size,H',vQ I2 f2 l I' a1,rfl,q⟩⟩
 exact xX (.inl ⟨el,rfl⟩) rfl rfl n (T.self _ _ _ _ _ M n)
end
section
variable {X:Cx}
inductive kEO(x:V)(vs:List V)(H:Hp)(Q:VK):Prop
 | mk:∀ l xs i y,(x=.ref l)->(vs=[.int i,y])->(H l=some (.lst xs))->(0<=i)->(i<2 ^ 62)->(xs.length<sizeLine)->(Q .non (upd H l (.lst (xs.take i.toNat++y::xs.drop i.toNat))))->kEO x vs H Q
def bW:MtM X "list.insert" kEO:=by
 intro d s C H x A v D Q I o m h;obtain⟨l,L,i,y,rfl,rfl,f,h1,J,B,q⟩:=h;cases o
 obtain⟨u,w,rfl,⟨t,rfl⟩,c⟩:=m.two;obtain⟨z,a,n,r,G,e⟩:=I.lstM f
 refine zv F.slot_list_insert ⟨_,e,rfl⟩ F.entry_list_insert (F.args_list_insert_3 _ _ _)
  (AutoSeq1.list_insert_list_int_val_1 l a.toArray n i t w (by rw[Ea (by omega) (by omega)];decide) (by rw[eX];omega)) ⟨e,?_⟩
 refine⟨.non,_,I.lset (its':=a.take i.toNat++w::a.drop i.toNat) f e ?_ ((r.take i.toNat).append (.cons c (r.drop i.toNat))) ?_,rfl,q⟩
 ·have p:¬ i<0:=by omega
  simp only[p,if_false,eX];apply Array.toList_inj.mp;simp;by_cases g:i.toNat<=a.length
  ·rw[jq g,jd (l:=GR i.toNat a) (by rw[iJ];omega)]
  ·have b:a.length<=i.toNat:=by omega
   rw[Nat.min_eq_right b,jd (av _),jd b,je (av _),je b,List.take_nil]
 ·simp only[bg,eO,eQ,iJ]
  omega
def uD(a:List Int)(n:Int)(j:Nat):Prop:=a[j]?=some n/\∀ m:Nat,m<j->a[m]?≠some n
def zM{b:List Int}{a:List ai}(r:Vals (b.map V.int) a){m:Nat}(g:m<a.length):∃ k t,b[m]?=some k/\a[m]=qk k t:=by
 have f:=r.length;rw[af]at f;have c:m<b.length:=by omega
 obtain⟨u,d,q⟩:=r.get (i:=m) (x:=.int b[m]) (by rw[ay,aa c];rfl);obtain⟨t,rfl⟩:=q;refine⟨b[m],t,aa c,?_⟩;rw[aa g]at d;exact bj d
def dC(n:Int)(v:ai):Bool:=match v with | .int k _=>k == n | _=>false
def wD{c:List Int}{a:List ai}(r:Vals (c.map V.int) a)(n:Int)(t:Tok):∀ y,y∈a.toArray->MeetsSeq.EqGives y (.int n t) (dC n y):=λ y d=>by
 obtain⟨m,b,rfl⟩:=eY.mp (List.mem_toArray.mp d);obtain⟨k,f,_,e⟩:=zM r b;rw[e];exact GA _ _ _ _
def cH{g:List Int}{a:List ai}(r:Vals (g.map V.int) a){n:Int}{j:Nat}(h:uD g n j):∃ hj:j<a.toArray.size,dC n a.toArray[j]=true/\∀ m (f:m<a.toArray.size),m<j->dC n a.toArray[m]=false:=by
 have l:=r.length;rw[af]at l;have hj:j<g.length:=(ag.mp h.1).1;have b:j<a.length:=by omega
 refine⟨by rw[eX];exact b,?_,λ m f i=>?_⟩
 ·obtain⟨k,t,c,d⟩:=zM r b
  rw[h.1]at c;cases c
  simp[d,dC]
 ·rw[eX]at f
  obtain⟨k,t,c,d⟩:=zM r f;have:k≠n:=λ z=>h.2 m i (by rw[c,z]);simp[d,dC,this]
inductive kKC(x:V)(vs:List V)(H:Hp)(Q:VK):Prop
 | mk:∀(l:ar)(ns:List Int)(n:Int)(j:Nat),(x=.ref l)->(vs=[.int n])->(H l=some (.lst (ns.map V.int)))->(uD ns n j)->(Q (.int j) H)->kKC x vs H Q
def vM:MtM X "list.index" kKC:=by
 intro b s A H x y v C Q I i d h;obtain⟨l,B,n,j,rfl,rfl,p,g,q⟩:=h;cases i
 obtain⟨u,rfl,t,rfl⟩:=d.one;obtain⟨z,a,m,r,D,e⟩:=I.lstM p;obtain⟨h1,o,c⟩:=cH r g
 have f:(j:Int)<2 ^ 63-1:=by
  have:=bZ;rw[eX]at h1;omega
 refine zv F.slot_list_index ⟨_,e,rfl⟩ F.entry_list_index (F.args_list_index_2 _ _) (MeetsSeq.list_index l a.toArray m (.int n t) (dC n) (wD r n t) j h1 f o c) ⟨e,?_⟩;exact⟨.int j,H,I.tok _,⟨_,rfl⟩,q⟩
inductive kEN(x:V)(vs:List V)(H:Hp)(Q:VK):Prop
 | mk:∀(l:ar)(ns:List Int)(n:Int)(j:Nat),(x=.ref l)->(vs=[.int n])->(H l=some (.lst (ns.map V.int)))->(uD ns n j)->(Q .non (upd H l (.lst ((ns.eraseIdx j).map V.int))))->kEN x vs H Q
theorem wM{α a:Type}(f:α->a):∀(l:List α)(j:Nat),(l.eraseIdx j).map f=(l.map f).eraseIdx j
 | [],j=>by simp
 | x::r,0=>by simp
 | x::r,j+1=>by simp[wM f r j]
def nR:MtM X "list.remove" kEN:=by
 intro b s A H x y v B Q I o g h;obtain⟨l,f,n,j,rfl,rfl,c,i,q⟩:=h;cases o
 obtain⟨u,rfl,t,rfl⟩:=g.one;obtain⟨z,a,m,r,C,e⟩:=I.lstM c;obtain⟨h1,p,d⟩:=cH r i;refine zv F.slot_list_remove ⟨_,e,rfl⟩ F.entry_list_remove (F.args_list_remove_2 _ _) (MeetsSeq.list_remove l a.toArray m (.int n t) (dC n) (wD r n t) j h1 p d (by rw[eX];omega)) ⟨e,?_⟩;refine⟨.non,_,I.lset (its':=a.eraseIdx j) c e ?_ (by rw[wM];exact r.eraseIdx j) ?_,rfl,q⟩
 ·show a.toArray.eraseIdxIfInBounds j=(a.eraseIdx j).toArray
  rw[List.eraseIdxIfInBounds_toArray]
 ·rw[af]
  have:=nV f j;rw[af]at z;omega
end
def yN{lo:Int}{n:Nat}{g:TG}{b:TB}{d:St->Hp->Prop}{a:St}{H:Hp}(Pv:Nat->St->Hp->Prop)(h0:Pv 0 a H)
  (f:∀ i a H,i<n->Pv i a H->g (.int (lo+i)) a H λ σ2 H2=>b (Pv (i+1)) σ2 H2) (s:∀ a H,Pv n a H->d a H):aE (Itr lo n) g b d a H:=by
 refine⟨λ i m a H=>m=n-i/\i<=n/\Pv i a H,⟨n,by simp,fv _,h0⟩,?_⟩;rintro i m a H ⟨rfl,l,p⟩;by_cases c:i<n
 ·refine .inr ⟨c,Pv (i+1),λ h o q=>⟨n-(i+1),by omega,rfl,by omega,q⟩,λ x o r=>?_⟩
  obtain⟨rfl,rfl⟩:=r;exact f i a _ c p
 ·have:i=n:=by omega
  subst this;exact .inl ⟨av _,s a H p⟩
def xH{K:au}{a:ar}{xs:List V}{g:TG}{b:TB}{l:St->Hp->Prop}{c:St}{H:Hp}(Pv:Nat->St->Hp->Prop)(h0:Pv 0 c H)(f:∀ i c H,i<=xs.length->Pv i c H->SqL K H a xs)
  (o:∀ i x c H,xs[i]?=some x->Pv i c H->g x c H λ σ2 H2=>b (Pv (i+1)) σ2 H2) (u:∀ c H,Pv xs.length c H->l c H):aE (Itl K a) g b l c H:=by
 refine⟨λ i m c H=>m=xs.length-i/\i<=xs.length/\Pv i c H,⟨xs.length,by simp,fv _,h0⟩,?_⟩;rintro i m c H ⟨rfl,d,p⟩;by_cases n:i<xs.length
 ·refine .inr ⟨⟨xs,xs[i],f i c H d p,by simp[n]⟩,Pv (i+1),λ r s q=>⟨xs.length-(i+1),by omega,rfl,by omega,q⟩,λ x s h=>?_⟩
  obtain⟨rfl,h⟩:=h;exact o i x c _ (h xs (f i c _ d p)) p
 ·have:i=xs.length:=by omega
  subst this;exact .inl ⟨⟨xs,f _ c H d p,av _⟩,u c H p⟩
def xJ{K:au}{a:ar}{xs:List V}{g:TG}{b:TB}{l:St->Hp->Prop}{c:St}{H:Hp}(Pv:Nat->St->Hp->Prop)(h0:Pv 0 c H)(f:∀ i c H,i<=xs.length->Pv i c H->SqT K H a xs)
  (o:∀ i x c H,xs[i]?=some x->Pv i c H->g x c H λ σ2 H2=>b (Pv (i+1)) σ2 H2) (u:∀ c H,Pv xs.length c H->l c H):aE (Itt K a) g b l c H:=by
 refine⟨λ i m c H=>m=xs.length-i/\i<=xs.length/\Pv i c H,⟨xs.length,by simp,fv _,h0⟩,?_⟩;rintro i m c H ⟨rfl,d,p⟩;by_cases n:i<xs.length
 ·refine .inr ⟨⟨xs,xs[i],f i c H d p,by simp[n]⟩,Pv (i+1),λ r s q=>⟨xs.length-(i+1),by omega,rfl,by omega,q⟩,λ x s h=>?_⟩
  obtain⟨rfl,h⟩:=h;exact o i x c _ (h xs (f i c _ d p)) p
 ·have:i=xs.length:=by omega
  subst this;exact .inl ⟨⟨xs,f _ c H d p,av _⟩,u c H p⟩
section
variable {prog:eN} {w:fu} {A:ed} {E:ai->ao->Prop}
end
section
variable {X:Cx} {pos:Pos}
inductive uG(xs:List V)(H:Hp)(Q:VK):Prop
 | mk:∀(i j:Int),(xs=[.int i,.int j])->((0<j/\j.natAbs<2 ^ 9000))->(∀ p,H p=none->Q (.ref p) (upd H p (.tup [.int (i / j),.int (i % j)])))->uG xs H Q
def rP:xR X (.builtin "divmod") uG:=by
 intro a s g H n m Q I r h;obtain⟨i,j,rfl,⟨h1,d⟩,q⟩:=h;obtain⟨u,l,rfl,⟨t,rfl⟩,⟨f,rfl⟩⟩:=kDO r;refine divmod_int (by omega) ?_ (.inl (PyProof.noPylong_of_log2 (Own.log2_lt d)));rw[Al i (by omega),Am i (by omega)];have c:H s.heap.objs.size=none:=I.hok.fresh (av _);refine⟨.ref s.heap.objs.size,_,?_,rfl,q _ c⟩;refine I.laid (λ b o e=>aj _ e) (av _) ⟨by simp only[eQ,ow];rw[BK];decide,[.int (i / j) s.toks,.int (i % j) (s.toks+1)],.cons ⟨_,rfl⟩ (.cons ⟨_,rfl⟩ .nil),?_⟩;exact⟨_,cx s.heap rfl,rfl,0,rfl,rfl⟩
theorem wO:∀{b:List Int}{a:List ai},Vals (b.map V.int) a->Cf a b
 | [],_,r=>by cases r;exact .nil
 | n::b,_,r=>by
  cases r with
  | cons r1 r2 =>
   obtain⟨t,rfl⟩:=r1;exact .cons n t (wO r2)
end
mutual
def Dt(K:au)(H:Hp):Bs->V->Prop
 | .none,v=>v=.non
 | .bool b,v=>v=.bl b
 | .int i,v=>v=.int i
 | .str x,v=>v=.str x
 | .tuple xs,v=>∃ a c,v=.ref a/\SqT K H a c/\DtAll K H xs c
 | .list xs,v=>∃ a c,v=.ref a/\SqL K H a c/\DtAll K H xs c
 | .dict _,_=>False
def DtAll(K:au)(H:Hp):List Bs->List V->Prop
 | [],vs=>vs=[]
 | d::ds,vs=>∃ v a,vs=v::a/\Dt K H d v/\DtAll K H ds a
end
section
variable {X:Cx} {pins:List (ar×Obj)} {σ:St} {H:Hp} {s:ao}
mutual
theorem Dt.reads(I:Inv X pins σ H s):∀(d:Bs)(v:V)(u:ai),RelV v u->Dt X.K H d v->∃ as,Reads s.heap u d as
 | .none,v,u,r,h=>by unfold Dt at h;subst h;cases r;exact⟨_,.none⟩
 | .bool b,v,u,r,h=>by unfold Dt at h;subst h;cases r;exact⟨_,.bool b⟩
 | .int i,v,u,r,h=>by unfold Dt at h;subst h;obtain⟨t,rfl⟩:=r;exact⟨_,.int i t⟩
 | .str x,v,u,r,h=>by unfold Dt at h;subst h;obtain⟨t,rfl⟩:=r;exact⟨_,.str x t⟩
 | .tuple xs,v,u,r,h=>by
  unfold Dt at h;obtain⟨a,l,rfl,g,y⟩:=h;cases r
  obtain⟨c,f,⟨o,p,m,n,q⟩,B⟩:=I.tuple g;obtain⟨as,A⟩:=DtAll.reads I xs l c f y;exact⟨_,.tuple p m q (by simpa using A)⟩
 | .list xs,v,u,r,h=>by
  unfold Dt at h;obtain⟨a,l,rfl,g,y⟩:=h;cases r
  obtain⟨c,f,C,B⟩:=I.list g;obtain⟨as,A⟩:=DtAll.reads I xs l c f y;obtain⟨o,p,m,n,q⟩:=C.isList;exact⟨_,.list p m q (by simpa using A)⟩
 | .dict _,v,u,r,h=>by unfold Dt at h;exact h.elim
theorem DtAll.reads(I:Inv X pins σ H s):∀(b:List Bs)(a:List V)(c:List ai),Vals a c->DtAll X.K H b a->∃ as,ReadsAll s.heap c b as
 | [],a,c,r,h=>by unfold DtAll at h;subst h;cases r;exact⟨_,.nil⟩
 | d::b,a,c,r,h=>by
  unfold DtAll at h;obtain⟨v,l,rfl,h1,i⟩:=h
  cases r with
  | cons r1 r2 =>
   obtain⟨as,g⟩:=Dt.reads I d v _ r1 h1;obtain⟨bs,f⟩:=DtAll.reads I b l _ r2 i;exact⟨_,.cons g f⟩
end
end
section
variable {X:Cx}
inductive kPR(K:au)(neg:Bool)(x:V)(y:V)(H:Hp)(Q:VK):Prop
 | mk:∀ d e,(Dt K H d x)->(Dt K H e y)->(nh d=true)->(nh e=true)->(Q (.bl (if neg then !PyData.eqv d e else kl d e)) H)->kPR K neg x y H Q
def kKP(i:X.A.units+64<cLine):OpR X (compareOp .Eq) (kPR X.K false):=by
 intro a s n H x y v u Q I c l h;obtain⟨d,e,h1,g,f,b,q⟩:=h;obtain⟨m,p1⟩:=Dt.reads I d x v c h1;obtain⟨bs,p2⟩:=Dt.reads I e y u l g;exact SeqAt.compareEq_shaped p1 p2 f b i ⟨.bl _,H,I,rfl,q⟩
def kCJ(i:X.A.units+64<cLine):OpR X (compareOp .NotEq) (kPR X.K true):=by
 intro a s n H x y v u Q I c l h;obtain⟨d,e,h1,g,f,b,q⟩:=h;obtain⟨m,p1⟩:=Dt.reads I d x v c h1;obtain⟨bs,p2⟩:=Dt.reads I e y u l g;exact SeqAt.compareNe_shaped p1 p2 f b i ⟨.bl _,H,I,rfl,q⟩
end
def kUA(a b:uj):Bool:=(a.names.all λ y=>(y.2 != .local || a.names.lookup y.1 == some .local) && y.2 != .cell && (y.2 != .free || b.names.lookup y.1 == some .cell))
def CS.of{a c:uj}(k:a.kind=.function)(h:kUA a c=true):CS a c:=by
 have q:∀ y∈a.names,_:=ni.mp h;refine⟨k,λ y b e=>?_,λ y b e=>?_,λ y b e=>?_⟩<;>have z:=q y b<;>rw[iF,iF]at z<;>obtain⟨⟨d,f⟩,g⟩:=z
 ·rw[e]at d;simpa using d
 ·rw[e]at f;simp at f
 ·rw[e]at g;simpa using g
section
variable {prog:eN} {w:fu} {A:ed} {E:ai->ao->Prop} {s:ao}
def kCU{it t:ar}{i:Nat}{a:Array ai}{x:ai}{Q:ai->ao->Prop}(b:s.heap.IsTupleIter it t i)(n:s.heap.IsTuple t a)(m:a[i]?=some x)
  (h:∀ h',h'.IsTupleIter it t (i+1)->km it s.heap h'->Q x {s with heap:=h'}):eK (model prog w) A (qi (.ref it)) Q E s:=by
 obtain⟨o,d,l,c⟩:=id b;obtain⟨p,g,_,q,f⟩:=n;unfold qi;refine ah (uc (name:=ng "__next__") b.typeIs pd (ud pd b.typeIs Ag ?_ (AQ _)));show eK _ _ (field (.ref it) 0 >>= _) _ _ s;refine ah (yr d c (x:=.ref t) rfl ?_);show eK _ _ (if(iE t == ym)=true then _ else _) _ _ s;rw[if_neg (show ¬ ((iE t == ym)=true) from dq)];show eK _ _ (field (.ref it) 1 >>= _) _ _ s;refine ah (yr d c (x:=.int i 0) rfl ?_);show eK _ _ (seqItems? (.ref t) >>= _) _ _ s;refine ah (CV g f ?_);simp only[fg,m];refine ah (Ed d c (by simp) (cc ⟨x,rfl,cc (h _ ?_ (ik ..))⟩));refine⟨_,qf _ d (Obj.isFreed_of_fields (DA c _)),(Obj.cls_mapFields ..).trans l,?_⟩;rw[DA c];simp[rawInt]
def gG{it t:ar}{i:Nat}{b:Array ai}{Q:ai->ao->Prop}(l:A.handled=none)(c:s.heap.IsTupleIter it t i)(p:s.heap.IsTuple t b)(n:b[i]?=none)
  (q:∀ h' e,Heap.ExtBut it s.heap h'->(∃ o,h'.get? e=some o/\o.cls=.type "StopIteration")->E (.ref e) {s with heap:=h'}):eK (model prog w) A (qi (.ref it)) Q E s:=by
 obtain⟨o,f,u,h⟩:=id c;obtain⟨r,g,_,v,d⟩:=p;unfold qi;refine ah (uc (name:=ng "__next__") c.typeIs pd (ud pd c.typeIs Ag ?_ (AQ _)));show eK _ _ (field (.ref it) 0 >>= _) _ _ s;refine ah (yr f h (x:=.ref t) rfl ?_);show eK _ _ (if(iE t == ym)=true then _ else _) _ _ s;rw[if_neg (show ¬ ((iE t == ym)=true) from dq)];show eK _ _ (field (.ref it) 1 >>= _) _ _ s;refine ah (yr f h (x:=.int i 0) rfl ?_);show eK _ _ (seqItems? (.ref t) >>= _) _ _ s;refine ah (CV g d ?_);simp only[fg,n];refine ah (AB (ah (Ed f h (by simp) ?_)));show eK _ _ (newExc (.type "StopIteration") [] >>= _) _ _ _;refine ah ?_;simp only[newExc,newTuple];refine ah (iW ?_ (by size_fits));refine ah (m:=firstArgMember _ _) (BN (a:=ym) (by first | rfl | (simp only[firstArgMember];rfl)) ?_);refine iW ?_ (by size_fits);simp only[raiseNew];refine ah (wpAny_handled ?_)
 first | rw[show A.in1.handled=none from l] | rw[l]
 refine ah (cc (wpAny_throw ?_));exact q _ _ (((ik ..).extBut.push _).push _) ⟨_,cx _ rfl,rfl⟩
end
def ItOf(k:Bool)(h:iC)(it a:ar)(i:Nat):Prop:=match k with | true=>h.IsListIter it a i | false=>h.IsTupleIter it a i
def SqOf(k:Bool)(h:iC)(a:ar)(b:Array ai):Prop:=match k with | true=>h.IsList a b | false=>h.IsTuple a b
def kQV(k:Bool):String:=match k with | true=>"list_iterator" | false=>"tuple_iterator"
def SqX(K:au)(k:Bool)(H:Hp)(a:ar)(xs:List V):Prop:=match k with | true=>SqL K H a xs | false=>SqT K H a xs
def ItOf.at{k:Bool}{h h':iC}{it a:ar}{i:Nat}(x:ItOf k h it a i)(g:∀ o,h.get? it=some o->h'.get? it=some o):ItOf k h' it a i:=by
 cases k
 ·obtain⟨o,e,r⟩:=x;exact⟨o,g o e,r⟩
 ·obtain⟨o,e,r⟩:=x;exact⟨o,g o e,r⟩
def ItOf.live{k:Bool}{h:iC}{it a:ar}{i:Nat}(x:ItOf k h it a i):∃ o,h.get? it=some o/\∀ v,o.data≠.cell v:=by
 cases k
 ·obtain⟨o,e,c,d⟩:=x;exact⟨o,e,λ v z=>by rw[d]at z;cases z⟩
 ·obtain⟨o,e,c,d⟩:=x;exact⟨o,e,λ v z=>by rw[d]at z;cases z⟩
def SqOf.at{k:Bool}{h h':iC}{a:ar}{b:Array ai}(x:SqOf k h a b)(g:∀ o,h.get? a=some o->h'.get? a=some o):SqOf k h' a b:=by
 cases k
 ·obtain⟨o,e,r⟩:=x;exact⟨o,g o e,r⟩
 ·obtain⟨o,e,r⟩:=x;exact⟨o,g o e,r⟩
def Inv.sq{X:Cx}{b:List (ar×Obj)}{c:St}{H:Hp}{s:ao}{k:Bool}{a:ar}{xs:List V}(I:Inv X b c H s)(h:SqX X.K k H a xs):∃ its:List ai,Vals xs its/\SqOf k s.heap a its.toArray:=by
 cases k
 ·obtain⟨its,r,p,_⟩:=I.tuple h
  exact⟨its,r,p⟩
 ·obtain⟨its,r,p,_⟩:=I.list h
  exact⟨its,r,p.isList⟩
def Inv.sq_inj{X:Cx}{b:List (ar×Obj)}{d:St}{H:Hp}{s:ao}{k:Bool}{a:ar}{xs c:List V}(I:Inv X b d H s)(h:SqX X.K k H a xs)(h':SqX X.K k H a c):xs=c:=by
 cases k
 ·exact I.tuple_inj h h'
 ·exact I.list_inj h h'
section
variable {prog:eN} {w:fu} {A:ed} {E:ai->ao->Prop} {s:ao}
def kAX(q:A.handled=none)(k:Bool)(it a:ar)(f:a≠it)(b:Array ai):Draws prog w A it [it,a] b.size (λ i v=>b[i]?=some v) (λ i h=>ItOf k h it a i/\SqOf k h a b) where
 live:=λ _ _ st=>let ⟨o,ho,_⟩:=st.1.live;⟨o,ho⟩
 frame:=λ _ _ _ st m=>⟨st.1.at λ o e=>m it (by simp) o e,st.2.at λ o e=>m a (by simp) o e⟩
 item:=λ i s Q E r st n=>by
  have g:b[i]?=some b[i]:=by simp[r]
  cases k
  ·exact kCU st.1 st.2 g λ l c d=>n _ l s.toks g ⟨c,st.2.at λ o e=>d.extBut a o f e⟩ d
  ·exact wpAny_nextOf_list_item st.1 st.2 g λ l c d=>n _ l s.toks g ⟨c,st.2.at λ o e=>d.extBut a o f e⟩ d
 done:=λ s Q E st p=>by
  cases k
  ·exact gG q st.1 st.2 (by simp) p
  ·exact wpAny_nextOf_list_end q st.1 st.2 (by simp) p
end
def Inv.turnedL{X:Cx}{a:List (ar×Obj)}{h:St}{H:Hp}{s:ao}{h':iC}{t':Nat}{ch:List ar}(I:Inv X a h H s)(k:∀ b o,b∉ch->s.heap.get? b=some o->h'.get? b=some o)(g:∀ b∈ch,yZ X a H b) :
  Inv X a h H {s with heap:=h',toks:=t'}:=by
 have f:∀ b u,H b=some u->b∉ch:=λ b u e z=>by rw[(g b z).1]at e;cases e
 refine I.step (g':=s.gens) (d':=s.drawn) (ch:=ch) (λ b i=>?_) (λ b o _ _ d e _=>k b o d e) (λ b o _ _ d e _=>⟨o.slots,k b o d e⟩) (λ _ _ _ _ n=>n)
  (λ b o d e=>⟨o,k b o d e⟩) (λ _ _ e=>e) (λ _ _ _ e=>e) (λ b L e=>⟨#[],by rw[e];simp⟩) (λ m y=>?_) (λ b u e=>?_) I.bare
 ·obtain⟨G,D,J,A,B,x⟩:=g b i
  exact⟨A,D,B,x⟩
 ·obtain⟨o,p,l,C,r⟩:=y
  exact⟨o,p,l,k _ o (λ z=>(g _ z).2.1 rfl) C,r⟩
 ·refine(I.hok b u e).stay (λ c v d q=>k c v ?_ q) (λ _ q=>q) λ _ _ q=>q
  rcases d with z | z
  ·rw[z];exact f b u e
  ·exact f c _ z
open AutoSeq1 (wpAny_loadPart')
def rJ(l:ar)(a:Array ai)(n:Nat)(i:Option ar)(q:Array (Option ai)) :
  Meets (zd.«enumerate.__new__» ⟨[.type "enumerate",.ref l],[]⟩) (λ _ R s=>s.heap.get? l=some {cls:=.type "tuple",dict:=i,data:=.seq a n,slots:=q} /\
   R (.ok (.ret (.ref (s.heap.push {cls:=.type "tuple_iterator",data:=.fields #[.ref l,.int 0 0]}).objs.size)))
    {s with heap:=(s.heap.push {cls:=.type "tuple_iterator",data:=.fields #[.ref l,.int 0 0]}).push {cls:=.type "enumerate",data:=.fields #[.none,.bool false,.ref s.heap.objs.size,rawInt 0,.none,.none]}}) :=
 .of_wp λ m w A R s h=>by
  obtain⟨hp,g,d,p,os⟩:=s;obtain⟨b,h⟩:=h;have o:=sub_enumerate;have f:Heap.IsTuple (Shared.heap ⟨hp,g,d,p,os⟩) l a:=⟨_,b,rfl,n,rfl⟩
  wp_walk using yf b
  refine wpAny_stack_any λ st=>cc ?_
  split
  ·rename_i c _ _ _ _ _
   cases(c == yn "enumerate")
   ·wp_walk using yf b,oe f
    exact⟨_,rfl,h⟩
   ·wp_walk using yf b,oe f
    exact⟨_,rfl,h⟩
  ·wp_walk using yf b,oe f
   exact⟨_,rfl,h⟩
section
variable {prog:eN} {w:fu} {A:ed} {E:ai->ao->Prop} {s:ao}
def rO{k:Bool}{l:ar}{a:Array ai}{Q:ai->ao->Prop}(m:SqOf k s.heap l a)
  (h:∀ h',IsEnum h' (s.heap.objs.size+1) s.heap.objs.size 0 .none->ItOf k h' s.heap.objs.size l 0->(∀ b o,s.heap.get? b=some o->h'.get? b=some o)->Q (.ref (s.heap.objs.size+1)) {s with heap:=h'}) :
  eK (model prog w) A (call (.type "enumerate") [.ref l]) Q E s:=by
 cases k
 ·obtain⟨⟨c,g,dt,v⟩,u,i,n,f⟩:=m
  replace i:c=.type "tuple":=i
  replace f:dt=.seq a n:=f
  subst i f;refine callType_new F.called_enumerate (by decide) (F.typeCall_enumerate_1 _) (F.newCall_enumerate_1 _) (λ obj=>F.args_object_init_2 obj _) F.entry_enumerate_new (rJ l a n g v) ⟨u,?_⟩;have p:(s.heap.push {cls:=.type "tuple_iterator",data:=.fields #[.ref l,.int 0 0]}).objs.size=s.heap.objs.size+1:=lj ..;show _/\_;rw[p];have d:=cx (s.heap.push {cls:=.type "tuple_iterator",data:=.fields #[.ref l,.int 0 0]}) (o:={cls:=.type "enumerate",data:=.fields #[.none,.bool false,.ref s.heap.objs.size,rawInt 0,.none,.none]}) rfl;rw[p]at d;exact⟨⟨_,d,rfl⟩,h _ d ⟨_,aj _ (cx _ rfl),rfl,rfl⟩ λ b o x=>aj _ (aj _ x)⟩
 ·exact call_enumerate_list m λ h' d q _ r=>h h' d q r
end
def kOF{k l:Bool}{h:iC}{a it b:ar}{i:Nat}{d:Array ai}(x:SqOf k h a d)(y:ItOf l h it b i):a≠it:=by
 intro z;subst z
 cases k<;>cases l<;>obtain⟨o,e,c,_⟩:=x<;>obtain⟨m,g,f,_⟩:=y<;>rw[e]at g<;>cases g<;>rw[c]at f<;>revert f<;>decide
def kLX{h:iC}{a b:ar}{o u:Obj}{m n:String}(h1:h.get? a=some o)(c:h.get? b=some u)(g:o.cls=.type m)(f:u.cls=.type n)(d:m≠n):a≠b:=by
 intro z;subst z;rw[h1]at c;cases c
 rw[g]at f;injection f with e
 exact d e
theorem ItOf.cls{k:Bool}{h:iC}{it a:ar}{i:Nat}(x:ItOf k h it a i):∃ o,h.get? it=some o/\o.cls=.type (kQV k):=by
 cases k<;>obtain⟨o,e,c,_⟩:=x<;>exact⟨o,e,c⟩
def kPK(k:Bool):String:=match k with | true=>"list" | false=>"tuple"
theorem SqOf.cls{k:Bool}{h:iC}{a:ar}{b:Array ai}(x:SqOf k h a b):∃ o,h.get? a=some o/\o.cls=.type (kPK k):=by
 cases k<;>obtain⟨o,e,c,_⟩:=x<;>exact⟨o,e,c⟩
def Inv.handed{X:Cx}{a:List (ar×Obj)}{d:St}{H:Hp}{s:ao}{h':iC}{t':Nat}{ch:List ar}{x y:V}{u v:ai}(I:Inv X a d H s)(n:RelV x u)(B:RelV y v)
  (p:h'.get? s.heap.objs.size=some {cls:=.type "tuple",data:=.seq #[u,v]}) (k:∀ b o,b∉ch->s.heap.get? b=some o->h'.get? b=some o) (g:∀ b∈ch,yZ X a H b) (f:∀ b∈ch,b<s.heap.objs.size) :
  Inv X a d (upd H s.heap.objs.size (.tup [x,y])) {s with heap:=h',toks:=t'}/\(∀ b∈ch,upd H s.heap.objs.size (.tup [x,y]) b=none):=by
 have h:∀ b∈ch,upd H s.heap.objs.size (.tup [x,y]) b=none:=λ b c=>by rw[kL (dj (f b c))];exact(g b c).1
 have l:Inv X a d (upd H s.heap.objs.size (.tup [x,y])) {s with heap:=s.heap.push {cls:=.type "tuple",data:=.seq #[u,v]},toks:=s.toks} :=
  I.laid (λ b o e=>aj _ e) (av _) ⟨by simp only[eQ,ow];rw[BK];decide,[u,v],.cons n (.cons B .nil),⟨_,cx _ rfl,rfl,0,rfl,rfl⟩⟩
 have r:=Inv.turnedL (h':=h') (t':=t') (ch:=ch) l (λ b o c e=>by
  rcases Heap.get?_push_cases e with⟨rfl,rfl⟩ | e
  ·exact p
  ·exact k b o c e) (λ b c=>by
  obtain⟨D,C,m,i,q,A⟩:=g b c;exact⟨h b c,C,m,i,q,A⟩)
 exact⟨r,h⟩
def Ite(k:Bool)(K:au)(a:ar):It :=
 ⟨λ i H=>∃ b x,SqX K k H a b/\b[i]?=some x,λ i H v c=>∃ T x,H T=none/\v=.ref T/\(∀ b,SqX K k H a b->b[i]?=some x)/\c=upd H T (.tup [.int i,x]),λ i H=>∃ b,SqX K k H a b/\b.length=i⟩
def kGJ{P:eN}{w:fu}{K:au}{C:List iA} {x1} {T:Pos} (k:Bool) (a e it:ar):Turn P w K (.Tuple C x1 T) (Ite k K a) [e,it] e (λ i h=>(∃ old,IsEnum h e it i old)/\ItOf k h it a i) where
 mem:=by simp
 obj:=λ i h st b c=>by
  obtain⟨⟨old,f⟩,g⟩:=st;rcases cn.mp c with rfl | c
  ·exact⟨_,f,λ v z=>by cases z⟩
  ·have:b=it:=by simpa using c
   subst this;exact g.live
 keep:=λ i h h' st kk=>by
  obtain⟨⟨old,f⟩,g⟩:=st;exact⟨⟨old,kk e (by simp) _ f⟩,g.at λ o q=>kk it (by simp) o q⟩
 item:=by
  intro X S N U Y i B s σ H E I hf st Q;subst S N U;obtain⟨⟨old,f⟩,g⟩:=st;obtain⟨xs,x,J,M⟩:=Q;obtain⟨d,rv,p⟩:=I.sq J;obtain⟨u,hu,ru⟩:=rv.get M;have n:=kOF p g;obtain⟨oi,ei,ci⟩:=g.cls;obtain⟨oa,ea,ca⟩:=p.cls;have m:e≠it:=kLX f ei rfl ci (by cases k<;>decide);have a3:e≠a:=kLX f ea rfl ca (by cases k<;>decide);have D:=kAX (prog:=X.prog) (w:=X.w) (A:=X.A.in1) (I.ok.hd Y) k it a n d.toArray
  have a4:i<d.toArray.size:=by
   have:=(ag.mp hu).1;simpa using this
  refine wpAny_pyNext_enum_itemD D f ⟨g,p⟩ a4 m (by simp[m,a3]) λ y h' L hy ho O hT hz hk=>?_
  have ey:y=u:=by
   have r:d[i]?=some y:=by simpa using hy
   rw[hu]at r;exact(bj r).symm
  subst ey;refine⟨_,rfl,wpAny_letOwnedTupleGo_enum ho λ h2 a0 l=>?_⟩;have G:e<s.heap.objs.size:=cq f;have a1:it<s.heap.objs.size:=cq ei;have Z:h2.get? s.heap.objs.size=some {cls:=.type "tuple",data:=.seq #[.int i L,y]}:=l.extBut _ _ (jo G) hT
  obtain⟨I2,n2⟩:=I.handed (x:=.int i) (u:=.int i L) (t':=L+1) (ch:=[e,it]) ⟨L,rfl⟩ ru Z (λ b o c q=>l.extBut b o (λ z=>c (by simp[z])) (hk b o (λ z=>c (by simp[z])) (λ z=>c (by simp[z])) q)) hf
   (λ b c=>by rcases cn.mp c with rfl | c;exact G;rw[dg.mp c];exact a1)
  refine⟨.ref s.heap.objs.size,_,I2,rfl,⟨_,x,I.hok.fresh (av _),rfl,λ ys a2=>by rw[I.sq_inj a2 J];exact M,rfl⟩,⟨⟨_,by simpa using a0⟩,O.1.at λ o q=>l.extBut it o m.symm q⟩,n2⟩
 done:=by
  intro X S N U Y i B s σ H E I hf st Q;subst S N U;obtain⟨⟨old,f⟩,g⟩:=st;obtain⟨xs,J,M⟩:=Q;obtain⟨d,rv,p⟩:=I.sq J;have n:=kOF p g;have D:=kAX (prog:=X.prog) (w:=X.w) (A:=X.A.in1) (I.ok.hd Y) k it a n d.toArray;have hl:d.toArray.size=i:=by rw[<-M,rv.length];simp
  refine wpAny_pyNext_enum_endD D f ⟨hl ▸ g,p⟩ λ h' eb=>⟨rfl,I.turnedL (t':=s.toks) (ch:=[it]) (λ b o c q=>eb b o (λ z=>c (by simp[z])) q) λ b c=>hf b (by simp at c ⊢;exact .inr c)⟩
 self:=λ _ _ _ _ _ st h=>by
  obtain⟨⟨old,f⟩,_⟩:=st;exact DV f h
section
variable {X:Cx}
inductive kLG(k:Bool)(K:au)(R:It->Hp->Prop)(vs:List V)(H1:Hp):Prop
 | mk:∀ a,(vs=[.ref a])->((∃ xs,SqX K k H1 a xs))->(R (Ite k K a) H1)->kLG k K R vs H1
def kST(k:Bool)(K:au)(b:TA):TI:=λ d H R=>b d H λ c a=>kLG k K R c a
def aO(k:Bool){a:iA}{x:TA}{p i g:Pos}{n:List iA} {x1} (C:Gl X "enumerate") (N:X.mg "enumerate" = none) (T:PA X [a] x) (M:starEach [a] X.env=[(false,eval a X.env)]:=by rfl) :
  PI X (.Tuple n x1 g) (.Call (.Name "enumerate" p) [a] [] i) (kST k X.K x):=by
 intro c s J H R I h;refine Call_ (cA I C N boot_enumerate (mz (thn (T i c s J H _ I h) λ Y m ⟨U,y,o,A,S⟩=>?_) M rfl));obtain⟨l,rfl,⟨xs,D⟩,q⟩:=S;obtain⟨u,rfl,r⟩:=wV A;cases r
 obtain⟨B,Z,L⟩:=o.sq D;refine rO L λ Q v O G=>?_;refine DV (s:={m with heap:=Q}) v ?_
 have f:∀ b,m.heap.objs.size<=b->yZ X c y b:=λ b d=>o.fpOk d (o.hok.fresh d);refine⟨_,[m.heap.objs.size+1,m.heap.objs.size],_,_,y,rfl,o.kept (t':=m.toks) G,kGJ k l _ _,⟨⟨_,v⟩,O⟩,λ b d=>?_,q⟩;rcases cn.mp d with rfl | d
 ·exact f _ (by omega)
 ·rw[dg.mp d];exact f _ (av _)
end
end L2
namespace L2
open PySem PySem.Spec PyProof.Rows
section
variable {prog:eN} {w:fu} {A:ed} {E:ai->ao->Prop} {s:ao} {z TI TO i1 i2:ar} {fp1 fp2:List ar} {n1 n2 j:Nat} {P1 P2:Nat->ai->Prop} {S1 S2:Nat->iC->Prop} {a b:ai}
end
section
variable {prog:eN} {w:fu} {A:ed} {E:ai->ao->Prop} {s:ao}
end
section
variable {X:Cx}
end
section
variable {X:Cx} {tg iter el:iA} {ifs:List iA} {sc:uj} {pos py spos:Pos} {Nc:List Str} {js:List (Option Nat)} {wi:TI} {i:Nat} {y:Str}
def pL{g:TG}{bd:ar->TB}(hx:X.xe=λ _ _=>False)(hc:X.calm=true)(hN:X.N.Nodup)(a5:X.N[i]?=some y)(hy:Loc X.env.scope y)(hi:PI X tg iter wi)(S:CS sc X.env.scope)(ac:dF js Nc X.N sc.names=true)
  (hg:∀ C s₂ H₂ fp pins,PG (cxC X Nc sc C s₂ H₂ fp pins) tg g)
  (r:∀ C s₂ H₂ fp pins D L,PTl (cxC X Nc sc C s₂ H₂ fp pins) (xU ifs (cxC X Nc sc C s₂ H₂ fp pins).env (do let _ <-call (.builtin "list.append") [.ref D,<-eval el (cxC X Nc sc C s₂ H₂ fp pins).env]) L) L (bd D))
  (hs:∀ x,foldedSetIterable iter X.env x=pure x:=by intro _;rfl)
  (a9:swapsWith (.ListComp el [⟨tg,iter,ifs,0⟩] sc pos) (some (.Name y py)) spos.line X.env=pure true:=by rfl)
  (hf:X.fn y=true\/X.env.scope.names.lookup y=some .local:=by first | exact .inl rfl | exact .inr rfl | assumption) :
  PS X (.Assign [.Name y py] (.ListComp el [⟨tg,iter,ifs,0⟩] sc pos) spos) (kMM (tLC js wi g bd) (gR i)):=by
 intro pins s σ H D0 I h;have a8:closureFor sc X.env=pure (bH sc X.env):=yY λ y hy hf=>I.ok.has y.1 (.inl (S.free y hy hf));rw[exec_Assign_Name_used _ _ _ _ a9];refine ah (xw (ah ?_));show eK _ X.A (do let _ <-comprehension (.ListComp el [⟨tg,iter,ifs,0⟩] sc pos) sc X.env _ (newList []) false (eval iter X.env) (some (assign (.Name y py) X.env))) _ _ s
 refine ah (uo (kq (use:=some (assign (.Name y py) X.env)) (Q:=λ _ u=>SP X pins D0 .next u) rfl hs a8 S.kind S.names
  (thn (hi pins s σ H _ I h) λ v s1 h1=>thn h1 λ ak f h2=>?_)) (λ _ u hq=>cc (cc hq)) λ _ _ e=>e)
 obtain⟨it,fp,tn,J,H2,e,Y,T,a1,f2,hw⟩:=h2;subst e;have U:∀ b∈fp,b<f.heap.objs.size:=λ b r=>let ⟨o,ho,_⟩:=T.obj _ _ a1 b r;cq ho;refine iW (rm S.nocell (by intro y hy;simp at hy) (λ m l d=>?_) S.kind);dsimp only at l d ⊢;generalize O:f.heap.push {cls:=.type "list",dict:=none,data:=.seq ([]:List ai).toArray}=G at l d ⊢;have am:G.objs.size=f.heap.objs.size+1:=by rw[<-O,lj]
 have Z:f.heap.objs.size≠G.objs.size:=by omega
 have n:f.heap.objs.size<=G.objs.size:=by omega
 have a2:∀ b o,f.heap.get? b=some o->m.get? b=some o:=λ b o e=>d.extBut b o (dj (cz (cq e) n)) (aj _ (O ▸ aj _ e));have a3:m.get? f.heap.objs.size=some {cls:=.type "list",dict:=none,data:=.seq ([]:List ai).toArray}:=d.extBut _ _ Z (aj _ (O ▸ cx _ rfl));have new:ObjOk X.prog X.w (upd H2 f.heap.objs.size (.lst [])) m f.heap.objs.size (.lst []):=⟨fv _,[],_,.nil,a3⟩;have I4:=vP (js:=js) (Nc:=Nc) (tk:=f.toks+([]:List (Str×ai)).length) Y S f2 U ac n (av _) Z a2 l new;have hn:H2 f.heap.objs.size=none:=Y.fresh
 have f4:∀ b∈fp,yZ (cxC X Nc sc G.objs.size f H2 fp pins) [] (upd H2 f.heap.objs.size (.lst [])) b:=λ b r=>by
  obtain⟨h0,h1,h2,h3,h4,h5⟩:=f2 b r;refine⟨?_,dj (cz (U b r) n),λ z=>?_,.inl r,λ x c z=>?_,λ p hp=>?_⟩
  ·rw[kL (dj (U b r))];exact h0
  ·rcases cn.mp (Y.stkSub b z) with q | q
   ·exact h1 q
   ·exact h2 q
  ·exact h4 x c (dE sc.names [] (λ z=>nomatch z) z)
  ·rcases bp.mp hp with z | z
   ·exact h5 p z
   ·exact absurd z (by simp)
 have a0:tn 0 m:=T.keep _ _ _ a1 λ b r o e=>a2 b o e
 have B:codeAny (model X.prog X.w) X.A (.compLoop (.ListComp el [⟨tg,iter,ifs,0⟩] sc pos) 0 (.ref it) (.ref f.heap.objs.size) (compEnvC sc (bH sc X.env) G.objs.size X.env))
   (compPost (model X.prog X.w) X.A X.xe (some (assign (.Name y py) X.env)) (λ _ u=>SP X pins D0 .next u) (.ref f.heap.objs.size) G.objs.size) {f with heap:=m,toks:=f.toks+([]:List (Str×ai)).length}:=by
  refine yM (X:=cxC X Nc sc G.objs.size f H2 fp pins) (.inl ⟨el,rfl⟩) hx hc (kDP _ _ _ _ _ _ _ _ _) T (hg _ _ _ _ _) (r _ _ _ _ _ _ _) I4 a0 f4 (hw _ hn) λ al H' u I' q=>?_;obtain⟨m',a4,_⟩:=I'.loc;have IB:Inv X pins σ H' {u with heap:=u.heap}:=vQ Y f2 n I' (BO ..)
  have nC:H' G.objs.size=none:=I'.free;have fC:yZ X pins H' G.objs.size:=Y.fpOk n nC;show eK _ X.A (assign (.Name y py) X.env (.ref f.heap.objs.size)) _ _ u;refine DJ (mR (v:=.ref f.heap.objs.size) IB hN a5 hy rfl (λ ab IC a6=>?_) hf);obtain⟨a,sb,ha⟩:=a6
  have aC:G.objs.size≠a:=by
   rcases ha with rfl | ha
   ·exact fC.2.1
   ·exact λ z=>fC.2.2.2.2.1 y a ha z.symm
  refine⟨m',a4.sameBut sb aC,λ h' a7=>?_⟩;exact⟨_,H',IC.turnedL (t':=ab.toks) (ch:=[G.objs.size]) (λ b o M e=>a7.extBut b o (λ z=>M (by simp[z])) e) (λ b M=>by rw[dg.mp M];exact fC),q⟩
 exact xX (.inl ⟨el,rfl⟩) rfl rfl B (T.self _ _ _ _ _ a0 B)
end
def kAR{k:Bool}{K:au}{a:ar}{xs:List V}{g:TG}{f:TS}{D:Ends}{b:St}{H:Hp}(Pv:Nat->St->Hp->Prop)(h0:Pv 0 b H)(o:∀ i b H,i<=xs.length->Pv i b H->SqX K k H a xs)
  (l:∀ i x T b H,xs[i]?=some x->H T=none->Pv i b H->g (.ref T) b (upd H T (.tup [.int i,x])) λ σ2 H2=>f {D with nx:=Pv (i+1),ct:=Pv (i+1),bk:=D.nx} σ2 H2) (v:∀ b H,Pv xs.length b H->D.nx b H) :
  ∃ W:Nat->Nat->St->Hp->Prop,(∃ m,W 0 m b H)/\∀ i m b H,W i m b H ->
   ((Ite k K a).stop i H/\D.nx b H)\/((Ite k K a).go i H/\∃ N:St->Hp->Prop,(∀ σ' H',N σ' H'->∃ m',m'<m/\W (i+1) m' σ' H')/\∀ x H',(Ite k K a).yld i H x H'->g x b H' λ σ2 H2=>f {D with nx:=N,ct:=N,bk:=D.nx} σ2 H2):=by
 refine⟨λ i m b H=>m=xs.length-i/\i<=xs.length/\Pv i b H,⟨xs.length,by simp,fv _,h0⟩,?_⟩;rintro i m b H ⟨rfl,d,p⟩;have c:=o i b H d p;by_cases h:i<xs.length
 ·refine .inr ⟨⟨xs,xs[i],c,by simp[h]⟩,Pv (i+1),λ σ' H' q=>⟨xs.length-(i+1),by omega,rfl,by omega,q⟩,λ x H' s=>?_⟩
  obtain⟨T,u,r,rfl,n,rfl⟩:=s;exact l i u T b H (n xs c) r p
 ·have:i=xs.length:=by omega
  subst this;exact .inl ⟨⟨xs,c,rfl⟩,v b H p⟩
def kGW(bs:List Bool):(df bs.length).all (λ i=>bs.getD i false)=bs.all id:=by
 rw[iH,ni,ni];constructor
 ·intro h b d
  obtain⟨i,a,rfl⟩:=eY.mp d;have:=h i (fz.mpr a);simpa[ae,a] using this
 ·intro h i a
  have c:i<bs.length:=fz.mp a;have:=h bs[i] (fe c);simpa[ae,c] using this
theorem kDN:∀{bs:List Bool}{a:List ai},Vals (bs.map V.bl) a->a=bs.map Aj
 | [],_,r=>by cases r;rfl
 | b::bs,_,r=>by
  cases r with
  | cons r1 r2 =>
   cases r1
   rw[kDN r2]
   rfl
section
variable {X:Cx}
def kIS{prog:eN}{w:fu}{A:ed}{bs:List Bool}{a:Array ai}(e:a=(bs.map Aj).toArray):TruthOf prog w A (λ i v=>a[i]?=some v) (λ i=>bs.getD i false):=by
 intro i v s Q E h q;rw[e]at h;have c:(bs.map Aj)[i]?=some v:=by simpa using h
 rw[ay]at c
 cases z:bs[i]? with
 | none=>rw[z]at c;cases c
 | some b =>
  rw[z]at c
  cases c
  refine jc ?_;simpa[ae,z] using q
inductive uZ(K:au)(xs:List V)(H:Hp)(Q:VK):Prop
 | mk:∀(a:ar)(bs:List Bool),(xs=[.ref a])->(SqL K H a (bs.map V.bl))->(Q (.bl (bs.all id)) H)->uZ K xs H Q
def xI(v:X.calm=true):xR X (.builtin "all") (uZ X.K):=by
 intro l s D H L G Q I r h;obtain⟨a,bs,rfl,y,q⟩:=h;obtain⟨u,rfl,m⟩:=wV r;cases m
 obtain⟨d,x,n,B⟩:=I.list y;have i:=n.isList;have f:a≠s.heap.objs.size:=by obtain⟨o,e,_⟩:=i;exact dj (cq e)
 have c:=kDN x;refine call_all_walk (BJ i ⟨_,_,_,_,_,_,_,rfl,Walks.list (A:=X.A.in1) (I.ok.hd v) _ a f d.toArray,⟨⟨_,cx _ rfl,rfl,rfl⟩,i.push _⟩,kIS (bs:=bs) (by rw[c]),λ J C p=>?_⟩);have e:d.toArray.size=bs.length:=by rw[c];simp
 rw[e,kGW];refine⟨.bl _,H,I.kept λ b o g=>p b o (λ z=>?_) (aj _ g),rfl,q⟩;rw[dg.mp z]at g;exact absurd (cq g) (jx _)
inductive dJ(K:au)(xs:List V)(H:Hp)(Q:VK):Prop
 | mk:∀(a:ar)(d:Bs),(xs=[.ref a])->(Dt K H d (.ref a))->(d.showable=true)->(d.hasDict=false)->(d.depth<=60)->(d.shown.length<=sizeLine)->(Q (.str d.shown) H)->dJ K xs H Q
def lJ(g:X.A.guards=some [])(J:X.A.units+64<cLine):xR X (.builtin "repr") (dJ X.K):=by
 intro c s B H G C Q I r h;obtain⟨a,d,rfl,m,h1,n,y,p,q⟩:=h;obtain⟨u,rfl,f⟩:=wV r;cases f
 obtain⟨v,l⟩:=Dt.reads I d (.ref a) _ rfl m;exact repr_of_reads' l h1 (λ z=>by rw[n]at z;cases z) g (by omega) (λ b o e=>e) (λ D u x i=>⟨.str d.shown,H,I.kept i,⟨_,rfl⟩,q⟩) p
inductive lN(K:au)(xs:List V)(H:Hp)(Q:VK):Prop
 | mk:∀(a:ar)(ns:List Int),(xs=[.ref a])->(SqL K H a (ns.map V.int))->(0<ns.length)->(∀ M,M∈ns->(∀ i∈ns,M<=i)->Q (.int M) H)->lN K xs H Q
def oG(C:X.calm=true):xR X (.builtin "min") (lN X.K):=by
 intro i s O H c S Q I r h;obtain⟨a,B,rfl,J,d,q⟩:=h;obtain⟨u,rfl,o⟩:=wV r;cases o
 obtain⟨p,D,y,M⟩:=I.list J;have l:=wO D;obtain⟨c,e⟩:=l.allInts.items;have b:B=c.toList.map (·.1):=by rw[<-l.numsOf,<-nums_intItems,<-e]
 have f:0<c.size:=by
  have g:=d;rw[b,af,eZ]at g;exact g
 have m:=y.isList;rw[e]at m;refine min_intList (I.ok.hd C) m f λ v T N x A=>?_;obtain⟨t,rfl⟩:=EA x;obtain⟨h1,L⟩:=argBest_lt (numAt c) (c.size-1);refine⟨.int _,H,I.kept A,⟨_,rfl⟩,q _ ?_ λ a n=>?_⟩
 ·rw[b,Ee];exact getD_mem (by rw[af,eZ];omega)
 ·rw[b]at n
  obtain⟨j,G,rfl⟩:=mem_getD n;rw[af,eZ]at G;rw[<-Ee];exact L j (by omega)
end
section
variable {X:Cx} {tg iter el tg2 iter2:iA} {ifs ifs2:List iA} {sc:uj} {pos:Pos} {Nc:List Str} {js:List (Option Nat)} {wi wi2:TI} {g g2:TG}
def kOX(a:TI)(f:TG)(d:TB):TB:=λ N b H=>a b H λ J c=>aE J f d N b c
def kKE{D:ar}{m:TB}{L:GQ}{e:iA}(C:e=.ListComp el [⟨tg,iter,[],0⟩,⟨tg2,iter2,ifs2,0⟩] sc pos)(Y:X.xe=λ _ _=>False)(M:X.calm=true)(hi:PI X tg2 iter2 wi2)(B:PG X tg2 g2)
  (n:∀ L,PTl X (xU ifs2 X.env (do let _ <-call (.builtin "list.append") [.ref D,<-eval el X.env]) L) L m) (O:∀ x,foldedSetIterable iter2 X.env x=pure x) :
  PTl X (kIV [] X.env iter2 (λ i=>.compStart e 1 i (.ref D) X.env) L) L (kOX wi2 g2 m):=by
 subst C;intro c s G H N I h;unfold kIV;refine ah (EF ?_);show eK _ _ (eval iter2 X.env >>= _) _ _ s;refine ah (thn (hi c s G H _ I h) λ v s1 h1=>?_);refine ah (xw (ah (BN (O v) (ah (iL (thn h1 λ u p U=>?_))))));obtain⟨it,Z,tn,J,H2,e,y,T,f,Q,o⟩:=U;subst e;refine ah (wpAny_runOwn ?_)
 have b:codeAny (model X.prog X.w) X.A (.compLoop (.ListComp el [⟨tg,iter,[],0⟩,⟨tg2,iter2,ifs2,0⟩] sc pos) 1 (.ref it) (.ref D) X.env)
   (λ r d=>match r with | .ok _=>eK (model X.prog X.w) X.A (again L) (λ l d=>l=.again L/\∃ a g,Inv X c a g d/\N a g) X.xe d | .error e=>cameBackBy (model X.prog X.w) X.A X.env X.xe e d) p :=
  yM (.inl ⟨el,rfl⟩) Y M (kIP _ _ _ _ _ _ _ _ _ _ _ _) T B (n _) y f Q o λ a g d S q=>cc ⟨rfl,a,g,S,q⟩
 exact xX (.inl ⟨el,rfl⟩) rfl rfl b (T.self _ _ _ _ _ f b)
def kMY{bd:ar->TB}(hx:X.xe=λ _ _=>False)(hc:X.calm=true)(hi:PI X tg iter wi)(S:CS sc X.env.scope)(a2:dF js Nc X.N sc.names=true)
  (hg:∀ C s₂ H₂ fp pins,PG (cxC X Nc sc C s₂ H₂ fp pins) tg g) (a4:∀ C s₂ H₂ fp pins,PI (cxC X Nc sc C s₂ H₂ fp pins) tg2 iter2 wi2) (a6:∀ C s₂ H₂ fp pins,PG (cxC X Nc sc C s₂ H₂ fp pins) tg2 g2)
  (m:∀ C s₂ H₂ fp pins D L,PTl (cxC X Nc sc C s₂ H₂ fp pins) (xU ifs2 (cxC X Nc sc C s₂ H₂ fp pins).env (do let _ <-call (.builtin "list.append") [.ref D,<-eval el (cxC X Nc sc C s₂ H₂ fp pins).env]) L) L (bd D))
  (hs:∀ x,foldedSetIterable iter X.env x=pure x:=by intro _;rfl) (a3:∀ C s₂ H₂ fp pins x,foldedSetIterable iter2 (cxC X Nc sc C s₂ H₂ fp pins).env x=pure x:=by intro _ _ _ _ _ _;rfl) :
  PE X (.ListComp el [⟨tg,iter,[],0⟩,⟨tg2,iter2,ifs2,0⟩] sc pos) (tLC js wi g λ D=>kOX wi2 g2 (bd D)):=by
 intro pins s σ H Q I h;rw[eval_ListComp];have a5:closureFor sc X.env=pure (bH sc X.env):=yY λ y hy hf=>I.ok.has y.1 (.inl (S.free y hy hf));refine kq (use:=none) rfl hs a5 S.kind S.names (thn (hi pins s σ H _ I h) λ v s1 h1=>thn h1 λ a7 d h2=>?_);obtain⟨it,fp,tn,J,B,e,I2,T,Z,f2,hw⟩:=h2;subst e;have u:∀ b∈fp,b<d.heap.objs.size:=λ b m=>let ⟨o,ho,_⟩:=T.obj _ _ Z b m;cq ho;refine iW (rm S.nocell (by intro y hy;simp at hy) (λ i f a=>?_) S.kind);dsimp only at f a ⊢;generalize r:d.heap.push {cls:=.type "list",dict:=none,data:=.seq ([]:List ai).toArray}=G at f a ⊢;have a8:G.objs.size=d.heap.objs.size+1:=by rw[<-r,lj]
 have M:d.heap.objs.size≠G.objs.size:=by omega
 have l:d.heap.objs.size<=G.objs.size:=by omega
 have U:∀ b o,d.heap.get? b=some o->i.get? b=some o:=λ b o e=>a.extBut b o (dj (cz (cq e) l)) (aj _ (r ▸ aj _ e));have Y:i.get? d.heap.objs.size=some {cls:=.type "list",dict:=none,data:=.seq ([]:List ai).toArray}:=a.extBut _ _ M (aj _ (r ▸ cx _ rfl));have new:ObjOk X.prog X.w (upd B d.heap.objs.size (.lst [])) i d.heap.objs.size (.lst []):=⟨fv _,[],_,.nil,Y⟩;have I4:=vP (js:=js) (Nc:=Nc) (tk:=d.toks+([]:List (Str×ai)).length) I2 S f2 u a2 l (av _) M U f new;have hn:B d.heap.objs.size=none:=I2.fresh
 have f4:∀ b∈fp,yZ (cxC X Nc sc G.objs.size d B fp pins) [] (upd B d.heap.objs.size (.lst [])) b:=λ b m=>by
  obtain⟨h0,h1,h2,h3,h4,h5⟩:=f2 b m;refine⟨?_,dj (cz (u b m) l),λ z=>?_,.inl m,λ x c z=>?_,λ p hp=>?_⟩
  ·rw[kL (dj (u b m))];exact h0
  ·rcases cn.mp (I2.stkSub b z) with q | q
   ·exact h1 q
   ·exact h2 q
  ·exact h4 x c (dE sc.names [] (λ z=>nomatch z) z)
  ·rcases bp.mp hp with z | z
   ·exact h5 p z
   ·exact absurd z (by simp)
 have O:tn 0 i:=T.keep _ _ _ Z λ b m o e=>U b o e
 have n:codeAny (model X.prog X.w) X.A (.compLoop (.ListComp el [⟨tg,iter,[],0⟩,⟨tg2,iter2,ifs2,0⟩] sc pos) 0 (.ref it) (.ref d.heap.objs.size) (compEnvC sc (bH sc X.env) G.objs.size X.env))
   (compPost (model X.prog X.w) X.A X.xe none (EP X pins σ Q) (.ref d.heap.objs.size) G.objs.size) {d with heap:=i,toks:=d.toks+([]:List (Str×ai)).length}:=by
  refine yM (X:=cxC X Nc sc G.objs.size d B fp pins) (.inl ⟨el,rfl⟩) hx hc (kIQ _ _ _ _ _ _ _ _ _ _ _ _) T (hg _ _ _ _ _)
   (kKE (X:=cxC X Nc sc G.objs.size d B fp pins) rfl hx hc (a4 _ _ _ _ _) (a6 _ _ _ _ _) (λ L=>m _ _ _ _ _ _ L) (a3 _ _ _ _ _)) I4 O f4 (hw _ hn) λ a9 H' s' I' q=>?_
  obtain⟨m',a0,_⟩:=I'.loc;exact⟨m',a0,λ h' a1=>⟨.ref d.heap.objs.size,H',vQ I2 f2 l I' a1,rfl,q⟩⟩
 exact xX (.inl ⟨el,rfl⟩) rfl rfl n (T.self _ _ _ _ _ O n)
end
open AutoSeq1 (wpAny_loadPart')
def kGK(l:ar)(a:Array ai)(n:Nat)(I:Option ar)(M:Array (Option ai))(x:ai)(e:ai->Bool)(j:Nat)(S:j<a.size)(B:e a[j]=true)(u:∀ m (T:m<a.size),m<j->e a[m]=false) :
  Meets (zd.«tuple.index» ⟨[.ref l,x],[]⟩) (λ A R s=>s.heap.get? l=some {cls:=.type "tuple",dict:=I,data:=.seq a n,slots:=M}/\(∀ y,y∈a->EX A.in1 s y x (e y))/\R (.ok (.ret (.int j s.toks))) {s with toks:=s.toks+1}) :=
 .of_wp λ o w A R s h=>by
  obtain⟨hp,g,d,H,os⟩:=s;obtain⟨O,J,h⟩:=h
  wp_walk using yf O
  have L:∀(f:Nat->Option vw×PUnit->Sem (ForInStep (Option vw×PUnit)))(Q:Option vw×PUnit->ao->Prop)(E:ai->ao->Prop)(C:ao),
    eK (model o w) A.in1 (forIn (AJ 0 a.size) ((none:Option vw),Ef) f) Q E C->eK (model o w) A.in1 (forIn [:min a.size a.size] ((none:Option vw),Ef) f) Q E C:=λ f Q E C z=>by
   rw[md];simpa[zq] using z
  refine L (λ i __s=>match a[i]? with
      | some y=>do
       if <-eqBool y x then do
         let r <-retInt (i:Nat)
         pure (wo (some r,()))
        else pure (iO (none,()))
      | _=>pure (iO (none,()))) _ _ _ ?_
  refine AC _ (λ rest b v=>b.1=none/\v=⟨hp,g,d,H,os⟩/\∃ i,i<=j/\rest=AJ i (a.size-i)) _ ?_ ?_ _ _ ⟨rfl,rfl,0,fv _,by simp⟩
  ·rintro y rest b v ⟨D,rfl,i,N,q⟩
   have p:i<a.size:=by omega
   rw[show a.size-i=(a.size-(i+1))+1 by omega,xf]at q;injection q with e1 e2
   subst e1;have G:a[y]?=some a[y]:=by simp[p]
   simp only[G];refine ah (J _ (BP p) o w _ _ ?_);by_cases c:y=j
   ·subst c
    rw[B]
    wp_walk
    exact⟨_,rfl,h⟩
   ·rw[u y p (by omega)]
    wp_walk
    exact⟨rfl,rfl,y+1,by omega,e2⟩
  ·rintro b v ⟨D,rfl,i,N,q⟩
   have:iB ([]:List Nat)=a.size-i:=by rw[q,List.length_range']
   simp at this;omega
section
variable {X:Cx}
inductive kEP(K:au)(x:V)(vs:List V)(H:Hp)(Q:VK):Prop
 | mk:∀(l:ar)(ns:List Int)(n:Int)(j:Nat),(x=.ref l)->(vs=[.int n])->(SqT K H l (ns.map V.int))->(uD ns n j)->(Q (.int j) H)->kEP K x vs H Q
def yK:MtM X "tuple.index" (kEP X.K):=by
 intro c s M H x J v O Q I B p h;obtain⟨l,N,n,j,rfl,rfl,G,A,q⟩:=h;cases B
 obtain⟨u,rfl,t,rfl⟩:=p.one;obtain⟨a,r,⟨⟨cls,i,dt,C⟩,f,b,m,d⟩,L⟩:=I.tuple G;simp only at b d;subst b d;obtain⟨h1,D,g⟩:=cH r A;refine zv F.slot_tuple_index ⟨_,f,rfl⟩ F.entry_tuple_index (F.args_tuple_index_2 _ _) (kGK l a.toArray m i C (.int n t) (dC n) j h1 D g) ⟨f,λ y o=>(wD r n t y o).at _ _,?_⟩;exact⟨.int j,H,I.tok _,⟨_,rfl⟩,q⟩
end
def qB{N P:List Str}{f:uj}(a:f.kind=.function:=by rfl)(b:f.isCoroutine=false:=by rfl)(c:f.isGenerator=false:=by rfl)(d:N.Nodup:=by decide +kernel)(e:N.take P.length=P:=by rfl)
  (g:∀ x∈P,f.names.lookup x=some .local\/f.names.lookup x=some .cell:=by decide +kernel) (h:∀ y∈f.names,y.2≠.free:=by decide +kernel):FnScope N P f:=⟨a,b,c,d,e,g,h⟩
def kSP{α:Type}{a:List α}(h:a.length=0):a=[]:=iu.mp h
def kKW{α:Type}{b:List α}{n:Nat}(h:b.length=n+1):∃ a r,b=a::r/\r.length=n:=by
 cases b with
 | nil=>exact nomatch h
 | cons a r=>exact⟨a,r,rfl,Nat.succ.inj h⟩
def kSO{α:Type}{b:List α}(h:b.length=1):∃ a,b=[a]:=by
 obtain⟨a,r,rfl,g⟩:=kKW h;exact⟨a,by rw[kSP g]⟩
def kSN{α:Type}{c:List α}(h:c.length=2):∃ a b,c=[a,b]:=by
 obtain⟨a,r,rfl,g⟩:=kKW h;obtain⟨b,rfl⟩:=kSO g;exact⟨a,b,rfl⟩
def kSM{α:Type}{d:List α}(h:d.length=3):∃ a b c,d=[a,b,c]:=by
 obtain⟨a,r,rfl,g⟩:=kKW h;obtain⟨b,c,rfl⟩:=kSN g;exact⟨a,b,c,rfl⟩
def kSL{α:Type}{f:List α}(h:f.length=4):∃ a b c d,f=[a,b,c,d]:=by
 obtain⟨a,r,rfl,g⟩:=kKW h;obtain⟨b,c,d,rfl⟩:=kSM g;exact⟨a,b,c,d,rfl⟩
def kTV{α:Type}{f:List α}(h:f.length=5):∃ a b c d e,f=[a,b,c,d,e]:=by
 obtain⟨a,r,rfl,g⟩:=kKW h;obtain⟨b,c,d,e,rfl⟩:=kSL g;exact⟨a,b,c,d,e,rfl⟩
section
variable {P:eN} {w:fu} {K:au} {mg:Str->Option ai} {base:iC}
def qD{n:Str}{st:ja}{N l:List Str}{k:Nat}{sp:Sp}(X:∃ h:iC,K.In h/\h.Ns eR mg)(d:qW K n st)(S:FnScope N l (kK st))
  (i:∀(f:ar)(a:ai)(A:ed)(outer:List Env)(s:ao)(H:Hp)(c:List V)(Q:VK)(E:XK),N.Nodup->Room k (A.deeper (envOfC n (kK st) s.heap.objs.size f a))->sp c H Q E ->
   ∃ t,PSs (qK CX0 P w K mg base N n (kK st) f a A outer s H E).nox (yJ st) t/\t {nx:=λ _ H'=>Q .non H',rt:=Q} (start N c) H)
  (len:∀ c H Q E,sp c H Q E->c.length=l.length:=by intro _ _ _ _ h;first | (cases h;subst_vars;rfl) | (rcases h with h | h<;>cases h<;>subst_vars<;>rfl))
  (b:∀(kV o p:ai)(q:Option ar)(a ct:ai)(m:List ai),m.length=l.length->bindArgs (rh n n (wS st) (yJ st) (kK st) .none kV o p q a ct) ⟨m,[]⟩=pure (l.zip m):=by
   intro _ _ _ _ _ _ m hl;first | (obtain⟨_,rfl⟩:=kSO hl;rfl) | (obtain⟨_,_,rfl⟩:=kSN hl;rfl) | (obtain⟨_,_,_,rfl⟩:=kSM hl;rfl) | (obtain⟨_,_,_,_,rfl⟩:=kSL hl;rfl) | (obtain⟨_,_,_,_,_,rfl⟩:=kTV hl;rfl) | (obtain rfl:=kSP hl;rfl)):Own.Has P w K mg base n l (k+1) sp:=by
 obtain⟨h,x,g⟩:=X;exact kQZ x g d (λ f r F=>F.ok S len λ a A outer s H c Q E=>i f a A outer s H c Q E S.nd) b
end
inductive mS(K:au)(vs:List V)(H:Hp)(Q:VK)(E:XK):Prop
 | mk (a:ar) (ns:List Int):vs=[.ref a]->SqL K H a (ns.map V.int)->ns.length<=63->(∀ H',Q (.bl true) H')->mS K vs H Q E
structure Cn where
 P:eN
 w:fu
 K:au
 mg:Str->Option ai
 base:iC
instance:Nonempty Cn:=⟨⟨default,⟨λ _ _=>0,{strHash:=λ _=>0,shareClass:=id,mergeTok:=id,idOf:=λ _=>0,idOfShared:=λ _ _=>0,followText:=λ _=>true,idOfImm:=λ _=>0}⟩,default,λ _=>none,default⟩⟩
section
variable {X:Cx} {e:iA} {es:List iA} {te:TE} {t:TA} {p pos pos':Pos} {x:Str}
def pf{j k:Nat}{f:List Str}{sp:Sp}(h:Own.Has X.prog X.w X.K X.mg X.base x f j sp)(d:Room k X.A)(i:PA X (e::es) t)(c:j<=k:=by decide)(l:Gl X x:=by rfl)
  (b:(x == ("__debug__" : Str))=false:=by decide) (g:starEach (e::es) X.env=(false,eval e X.env)::starEach es X.env:=by rfl) (a:(backTo pos (starEach es X.env)).any (·.1)=false:=by rfl) :
  PE X (.Call (.Name x p) (e::es) [] pos) (kDT sp [] E0 t):=Own.pe_has h (d.mono c) l i b g a
def pst(i:Nat)(f:X.N.Nodup)(c:PE X e te)(hi:X.N[i]?=some x:=by rfl)(d:Loc X.env.scope x:=by first | exact AO rfl | exact Ec rfl)(b:swapsWith e (some (.Name x pos')) pos.line X.env=pure false:=by rfl)
  (a:X.fn x=true\/X.env.scope.names.lookup x=some .local:=by first | exact .inl rfl | exact .inr rfl):PS X (.Assign [.Name x pos'] e pos) (kMM te (gR i)):=kPU f hi d c b a
def pgn(i:Nat)(b:X.N.Nodup)(hi:X.N[i]?=some x:=by rfl)(c:Loc X.env.scope x:=by first | exact AO rfl | exact Ec rfl)(a:X.fn x=true\/X.env.scope.names.lookup x=some .local:=by first | exact .inl rfl | exact .inr rfl):PG X (.Name x pos) (gR i):=wI b hi c a
def uE{a iter:iA}{body:List ja}{b:TI}{g:TG}{c:TS}(hi:PI X a iter b)(i:PG X a g)(d:PSs X body c)(hp:FW (model X.prog X.w) X.A X.env X.xe:=by exact CD)(h:X.calm=true:=by rfl)
  (f:∀ x,foldedSetIterable iter X.env x=pure x:=by intro _;rfl):PS X (.For a iter body [] pos) (kRR b g c):=kPV hp h hi i d f
variable {a b c d:iA} {ta tb tc td:TE}
def pix{r:R2}(f:IxR X r)(g:PE X a ta)(c:PE X b tb)(d:kGE b:=by exact λ _ _=>rfl):PE X (.Subscript a b pos) (tOp r ta tb):=kSE f g c d
def p1(b:PE X a ta)(h1:starEach [a] X.env=(false,eval a X.env)::starEach [] X.env:=by rfl):PA X [a] (aF ta kBM):=kD b kU h1
def p2(d:PE X a ta)(c:PE X b tb)(h1:starEach [a,b] X.env=(false,eval a X.env)::starEach [b] X.env:=by rfl)(f:starEach [b] X.env=(false,eval b X.env)::starEach [] X.env:=by rfl):PA X [a,b] (aF ta (aF tb kBM)):=kD d (kD c kU f) h1
def nd1{a:Str}:[a].Nodup:=dr.mpr ⟨fh,xb⟩
def nd2{a b:Str}(h:a≠b):[a,b].Nodup:=dr.mpr ⟨λ m=>h (dg.mp m),nd1⟩
def nd3{a b c:Str}(h:a≠b)(h':a≠c)(d:b≠c):[a,b,c].Nodup:=dr.mpr ⟨λ m=>(cn.mp m).elim h λ m=>h' (dg.mp m),nd2 d⟩
def pgc(i:Nat)(b:X.N.Nodup:=by first | exact nd1 | exact nd2 (by decide) | exact nd3 (by decide) (by decide) (by decide))(hi:X.N[i]?=some x:=by rfl)(c:Loc X.env.scope x:=by first | exact AO rfl | exact Ec rfl)(a:X.fn x=true\/X.env.scope.names.lookup x=some .local:=by first | exact .inl rfl | exact .inr rfl):PG X (.Name x pos) (gR i):=wI b hi c a
section
variable {o:iA} {to:TE} {r:V->List V->Hp->VK->Prop} {apos cpos:Pos}
def jO{n:Str}{id:String}(f:Slot "list" n id)(g:typeOf (.builtin id)=pure (.type "method_descriptor"))(i:MtR X id r)(l:PE X o to)(m:PA X (e::es) t)
  (c:attributeBase o n X.env (eval o X.env)=eval o X.env:=by rfl)
  (d:((backTo cpos (starEach (e::es) X.env)).all (λ x=>!x.1) && (backToKw cpos (keywordEach [] X.env)).all (λ x=>x.1.isSome)
   && decide ((e::es).length+([]:List Ce).length+(if([]:List Ce).isEmpty then 0 else 1)<30))=true:=by rfl)
  (b:(apos.endLine == cpos.line)=true:=by rfl) (h:starEach (e::es) X.env=(false,eval e X.env)::starEach es X.env:=by rfl) (a:(backTo cpos (starEach es X.env)).any (·.1)=false:=by rfl) :
  PE X (.Call (.Attribute o n apos) (e::es) [] cpos) (tBM X.K "list" r to t):=cY PySem.F.plainAttrs_list f g i l m c d b h a
end
end
def snoc{α:Type}{xs:List α}{x y:α}{i:Nat}(h:(xs++[x])[i]?=some y):(i<xs.length/\xs[i]?=some y)\/(i=xs.length/\some x=some y):=by
 rcases fw i xs.length with c | c
 ·rw[bh c]at h
  exact .inl ⟨c,h⟩
 ·have e:i=xs.length:=by
   have:=(ag.mp h).1;rw[bg,iG]at this;omega
  rw[e,fq]at h;exact .inr ⟨e,h⟩
def dY{X:Cx}{st:ja}:PS X st (λ _ _ _=>False):=λ _ _ _ _ _ _ h=>h.elim
section
variable {X:Cx} {tg iter kx vx:iA} {ifs:List iA} {sc:uj} {pos:Pos} {Nc:List Str} {js:List (Option Nat)} {wi:TI}
def kAV(c b:iA)(env:Env)(a:ai):Sem Unit:=do
 let kv <-eval c env
 let vv <-holding [kv] (eval b env)
 match a with
 | .ref d=>do
  standAt (have __src:=c.pos;{line:=__src.line,col:=__src.col,endLine:=b.pos.endLine,endCol:=b.pos.endCol})
  holding [kv,vv] (dictSet d kv vv)
 | _=>unsupported "internal:dictcomp"
def kDQ(f g d iter:iA)(a:List iA)(h:uj)(b:Pos)(it c:ai)(env:Env) :
  compTurn (.DictComp f g [⟨d,iter,a,0⟩] h b) 0 it c env=(standAt iter.pos >>= λ _=>pyNext it >>= λ r=>match r with
   | none=>pure (.done .next)
   | some v=>letOwnedTupleGo d it v >>= λ _=>assign d env v >>= λ _=>xU a env (kAV f g env c) (.compLoop (.DictComp f g [⟨d,iter,a,0⟩] h b) 0 it c env)):=by rfl
def tDC(js:List (Option Nat))(c:TI)(g:TG)(f:ar->TB):TE:=λ b H Q=>c b H λ J a=>∀ D,a D=none->aE J g (f D) (λ _ d=>Q (.ref D) d) (cK js b) (upd a D (.dK []))
def kMZ{g:TG}{bd:ar->TB}(hx:X.xe=λ _ _=>False)(hc:X.calm=true)(hi:PI X tg iter wi)(S:CS sc X.env.scope)(a4:dF js Nc X.N sc.names=true)
  (hg:∀ C s₂ H₂ fp pins,PG (cxC X Nc sc C s₂ H₂ fp pins) tg g)
  (m:∀ C s₂ H₂ fp pins D L,PTl (cxC X Nc sc C s₂ H₂ fp pins) (xU ifs (cxC X Nc sc C s₂ H₂ fp pins).env (kAV kx vx (cxC X Nc sc C s₂ H₂ fp pins).env (.ref D)) L) L (bd D))
  (hs:∀ x,foldedSetIterable iter X.env x=pure x:=by intro _;rfl) :
  PE X (.DictComp kx vx [⟨tg,iter,ifs,0⟩] sc pos) (tDC js wi g bd):=by
 intro pins s σ H Q I h;rw[DW];have a5:closureFor sc X.env=pure (bH sc X.env):=yY λ y hy hf=>I.ok.has y.1 (.inl (S.free y hy hf));refine kq (use:=none) rfl hs a5 S.kind S.names (thn (hi pins s σ H _ I h) λ v s1 h1=>thn h1 λ a6 d Z=>?_);obtain⟨it,fp,tn,J,O,e,M,T,a1,f2,hw⟩:=Z;subst e;have u:∀ b∈fp,b<d.heap.objs.size:=λ b m=>let ⟨o,ho,_⟩:=T.obj _ _ a1 b m;cq ho;refine iW (rm S.nocell (by intro y hy;simp at hy) (λ i f a=>?_) S.kind);dsimp only at f a ⊢;generalize r:d.heap.push {cls:=.type "dict",dict:=none,data:=.dict #[]}=G at f a ⊢;have a7:G.objs.size=d.heap.objs.size+1:=by rw[<-r,lj]
 have B:d.heap.objs.size≠G.objs.size:=by omega
 have l:d.heap.objs.size<=G.objs.size:=by omega
 have a0:∀ b o,d.heap.get? b=some o->i.get? b=some o:=λ b o e=>a.extBut b o (dj (cz (cq e) l)) (aj _ (r ▸ aj _ e));have Y:i.get? d.heap.objs.size=some {cls:=.type "dict",dict:=none,data:=.dict #[]}:=a.extBut _ _ B (aj _ (r ▸ cx _ rfl))
 have new:ObjOk X.prog X.w (upd O d.heap.objs.size (.dK [])) i d.heap.objs.size (.dK []):=by
  refine⟨fv _,beq_eq_false_iff_ne.mpr (qe (dj M.big)),[],.nil,?_⟩;obtain⟨o,es,ep,h1,rest⟩:=EE (knd:=qC X.prog X.w) d.heap;have Z:(d.heap.push {cls:=.type "dict",dict:=none,data:=.dict #[]}).get? d.heap.objs.size=some {cls:=.type "dict",dict:=none,data:=.dict #[]}:=cx _ rfl;have h3:=h1.symm.trans Z;exact⟨o,es,ep,Y.trans h3.symm,rest⟩
 have I4:=vP (js:=js) (Nc:=Nc) (tk:=d.toks+([]:List (Str×ai)).length) M S f2 u a4 l (av _) B a0 f new;have hn:O d.heap.objs.size=none:=M.fresh
 have f4:∀ b∈fp,yZ (cxC X Nc sc G.objs.size d O fp pins) [] (upd O d.heap.objs.size (.dK [])) b:=λ b m=>by
  obtain⟨h0,h1,Z,h3,h4,h5⟩:=f2 b m;refine⟨?_,dj (cz (u b m) l),λ z=>?_,.inl m,λ x c z=>?_,λ p hp=>?_⟩
  ·rw[kL (dj (u b m))];exact h0
  ·rcases cn.mp (M.stkSub b z) with q | q
   ·exact h1 q
   ·exact Z q
  ·exact h4 x c (dE sc.names [] (λ z=>nomatch z) z)
  ·rcases bp.mp hp with z | z
   ·exact h5 p z
   ·exact absurd z (by simp)
 have U:tn 0 i:=T.keep _ _ _ a1 λ b m o e=>a0 b o e
 have n:codeAny (model X.prog X.w) X.A (.compLoop (.DictComp kx vx [⟨tg,iter,ifs,0⟩] sc pos) 0 (.ref it) (.ref d.heap.objs.size) (compEnvC sc (bH sc X.env) G.objs.size X.env))
   (compPost (model X.prog X.w) X.A X.xe none (EP X pins σ Q) (.ref d.heap.objs.size) G.objs.size) {d with heap:=i,toks:=d.toks+([]:List (Str×ai)).length}:=by
  refine yM (X:=cxC X Nc sc G.objs.size d O fp pins) (.inr ⟨kx,vx,rfl⟩) hx hc (kDQ _ _ _ _ _ _ _ _ _ _) T (hg _ _ _ _ _) (m _ _ _ _ _ _ _) I4 U f4 (hw _ hn) λ a8 H' s' I' q=>?_;obtain⟨m',a2,_⟩:=I'.loc;exact⟨m',a2,λ h' a3=>⟨.ref d.heap.objs.size,H',vQ M f2 l I' a3,rfl,q⟩⟩
 exact xX (.inr ⟨kx,vx,rfl⟩) rfl rfl n (T.self _ _ _ _ _ U n)
def bC{prog:eN}{w:fu}{A:ed}{E:ai->ao->Prop}{s:ao}{t g:ar}{a:Array ai}{n m:ai}{lo hi:Option Int}{Q:ai->ao->Prop}(b:EM s.heap t a)(i:s.heap.IsSliceOf g n m .none)(q:Bp n lo)(o:Bp m hi)
  (l:HT.sIx a.size 0 lo=0/\HT.sIx a.size a.size hi=a.size) (h:Q (.ref t) s):eK (model prog w) A (getItem (.ref t) (.ref g)) Q E s:=by
 obtain⟨os,c,d,p⟩:=id i;have f:s.TypeIs (.ref g) "slice":=⟨os,c,d⟩;unfold getItem
 try with_reducible refine iL ?_
 first | refine ah (cc ?_) | skip
 refine ah (DP b.typeIs (by decide) ?_)
 refine ah (uc (name:=ng "__getitem__") b.typeIs iS
  (ud iS b.typeIs Cg ?_ (Cz _ _)))
 show eK _ _ (Ar (.ref t) >>= _) _ _ s;refine ah (tupleItemsOf_ b ?_);refine ah (rj f ?_);rw[if_pos (by decide)];refine ah (HT.sliceApplied_gen i q o ?_);show eK _ _ (if(((HT.sIx a.size 0 lo:Nat):Int) == 0 && (1:Int) == 1 && (HT.sIx a.size a.size hi-HT.sIx a.size 0 lo) == a.size)=true then _ else _) _ _ s;rw[if_pos (by rw[l.1,l.2];simp)];unfold Eg
 first
  | refine ah (ah (rj b.typeIs (cc ?_)))
  | refine ah (rj b.typeIs (cc ?_))
 rw[if_pos (by decide)];exact ah (AB (cc ⟨_,rfl,cc h⟩))
inductive kPQ(K:au)(x:V)(lo:Option Int)(hi:Option Int)(H:Hp)(Q:VK):Prop
 | mk:∀ a xs,(x=.ref a)->(SqT K H a xs)->((HT.sIx xs.length 0 lo=0/\HT.sIx xs.length xs.length hi=xs.length))->(Q (.ref a) H)->kPQ K x lo hi H Q
def kMQ:SlR X (kPQ X.K):=by
 intro f s y H x v A B lo D C Q I l i m n h;obtain⟨a,o,rfl,p,g,q⟩:=h;cases l
 obtain⟨c,r,d,u⟩:=I.tuple p;have b:c.toArray.size=o.length:=by rw[eX];exact r.length.symm
 refine⟨"tuple",_,iS.lookup,d.typeIs,?_⟩;exact bC d i m n (by rw[b];exact g) ⟨.ref a,H,I,rfl,q⟩
def kTS(K:au):V->Option Int->Option Int->Hp->VK->Prop:=λ x lo a H Q=>kPP K x lo a H Q\/kPQ K x lo a H Q
def oU:SlR X (kTS X.K):=sl_tup.or kMQ
inductive lK(K:au)(xs:List V)(H:Hp)(Q:VK):Prop
 | mk:∀(a:ar)(ns:List Int),(xs=[.ref a])->(SqT K H a (ns.map V.int))->(0<ns.length)->(∀ M,M∈ns->(∀ i∈ns,M<=i)->Q (.int M) H)->lK K xs H Q
def kIH(T:X.calm=true):xR X (.builtin "min") (lK X.K):=by
 intro D s σ H c us Q I r h;obtain⟨a,S,rfl,Z,n,q⟩:=h;obtain⟨u,rfl,L⟩:=wV r;cases L
 obtain⟨N,U,g,hz⟩:=I.tuple Z;have G:=wO U;obtain⟨c,e⟩:=G.allInts.items;have d:S=c.toList.map (·.1):=by rw[<-G.numsOf,<-nums_intItems,<-e]
 have p:0<c.size:=by
  have B:=n;rw[d,af,eZ]at B;exact B
 rw[e]at g;have g:s.heap.IsTuple a (intItems c):=g;have l:(intItems c).size=c.size:=by simp[intItems]
 have C:a<s.heap.objs.size:=by obtain⟨o,f,_⟩:=g;exact cq f
 have x:X.A.in1.handled=none:=I.ok.hd T
 refine call_min_walk (oe g ⟨s.heap.objs.size,[s.heap.objs.size,a],[s.heap.objs.size],(intItems c).size,(λ i v=>(intItems c)[i]?=some v),_,_,rfl,
  GB x _ a (dj C) (intItems c),⟨?_,?_⟩,?_,(by rw[l];exact p),CmpOf.ints_lt (numAt c) (λ i v m=>EA m),λ v h' tk m O=>?_⟩)
 ·exact⟨_,cx _ rfl,rfl,rfl⟩
 ·obtain⟨o,f,M⟩:=g
  exact⟨o,aj _ f,M⟩
 ·intro b y
  show b<(s.heap.push _).objs.size;rw[lj];simp only[cn,fh,or_false]at y;rcases y with rfl | rfl
  ·exact xg _
  ·exact ke C
 ·rw[l]at m
  obtain⟨t,rfl⟩:=EA m;obtain⟨h1,h2⟩:=argBest_lt (numAt c) (c.size-1);refine⟨.int _,H,I.kept (λ b o f=>O b o ?_ (aj _ f)),⟨_,rfl⟩,q _ ?_ λ a J=>?_⟩
  ·intro z
   rw[dg.mp z]at f;exact absurd (cq f) (jx _)
  ·rw[d,Ee];exact getD_mem (by rw[af,eZ];omega)
  ·rw[d]at J
   obtain⟨j,Y,rfl⟩:=mem_getD J;rw[af,eZ]at Y;rw[<-Ee];exact h2 j (by omega)
end
end L2
namespace Cyc
def Adj:List Nat->Nat->Nat->Prop
 | x::y::r,a,b=>(a=x/\b=y)\/Adj (y::r) a b
 | _,_,_=>False
def Nx(row:List Nat)(a b:Nat):Prop:=Adj (row++row.head?.toList) a b
def kGC(x a b:Nat):¬ Adj [x] a b:=id
def zL(x y:Nat)(r:List Nat)(a b:Nat):Adj (x::y::r) a b↔(a=x/\b=y)\/Adj (y::r) a b:=Bt
theorem qQ:∀(l:List Nat)(x:Nat)(r:List Nat)(a b:Nat),Adj (l++x::r) a b↔Adj (l++[x]) a b\/Adj (x::r) a b
 | [],x,r,a,b=>⟨.inr,λ h=>h.elim (λ z=>(kGC x a b z).elim) id⟩
 | [y],x,r,a,b=>by
  show(a=y/\b=x)\/Adj (x::r) a b↔((a=y/\b=x)\/Adj [x] a b)\/Adj (x::r) a b;have:=kGC x a b;exact⟨λ h=>h.elim (λ z=>.inl (.inl z)) .inr,λ h=>h.elim (λ z=>z.elim .inl λ q=>(this q).elim) .inr⟩
 | y::z::l,x,r,a,b=>by
  have c:=qQ (z::l) x r a b;show(a=y/\b=z)\/Adj (z::l++x::r) a b↔((a=y/\b=z)\/Adj (z::l++[x]) a b)\/Adj (x::r) a b;rw[c];exact⟨λ h=>h.elim (λ q=>.inl (.inl q)) λ q=>q.elim (λ q=>.inl (.inr q)) .inr,λ h=>h.elim (λ q=>q.elim .inl λ q=>.inr (.inl q)) λ q=>.inr (.inr q)⟩
theorem jC:∀{l:List Nat}{a b:Nat},Adj l a b->a∈l/\b∈l.tail
 | [],_,_,h=>h.elim
 | [_],_,_,h=>h.elim
 | x::y::r,a,b,h=>by
  rcases h with⟨rfl,rfl⟩ | h
  ·exact⟨eW,eW⟩
  ·have:=jC h
   exact⟨dc _ this.1,dc _ this.2⟩
def pZ(x:Nat)(r:List Nat)(a b:Nat):Nx (x::r) a b↔Adj (x::r++[x]) a b:=Bt
def jT(A C:List Nat)(a b:Nat):Nx (A++C) a b↔Nx (C++A) a b:=by
 cases A with
 | nil=>rw[mo,iM]
 | cons a0 A' =>
  cases C with
  | nil=>rw[mo,iM]
  | cons c0 C' =>
   have d:Nx (a0::A'++c0::C') a b↔Adj ((a0::A')++c0::(C'++[a0])) a b:=by
    show Adj ((a0::A'++c0::C')++[a0]) a b↔_;rw[de];exact Bt
   have c:Nx (c0::C'++a0::A') a b↔Adj ((c0::C')++a0::(A'++[c0])) a b:=by
    show Adj ((c0::C'++a0::A')++[c0]) a b↔_;rw[de];exact Bt
   rw[d,c,qQ (a0::A') c0,qQ (c0::C') a0];exact Or.comm
def zE(v:Nat)(R:List Nat)(a b:Nat):Nx (v::R) a b↔(a=v/\b=(R++[v]).headD 0)\/Adj (R++[v]) a b:=by
 rw[pZ]
 cases R with
 | nil=>exact Bt
 | cons y r=>exact Bt
theorem jH:∀{R:List Nat}{v a b:Nat},v∉R->Adj (R++[v]) a b->a≠v
 | [],_,_,_,_,h=>h.elim
 | x::r,v,a,b,hv,h=>by
  have c:v∉r:=λ z=>hv (dc _ z);have d:x≠v:=λ z=>hv (by rw[z];exact eW)
  cases r with
  | nil =>
   rcases h with⟨rfl,_⟩ | h
   ·exact d
   ·exact h.elim
  | cons y r' =>
   rcases h with⟨rfl,_⟩ | h
   ·exact d
   ·exact jH c h
def kQG{A B:List Nat}{v w:Nat}(nd:(A++v::B).Nodup)(f:w∉A++v::B)(a b:Nat) :
  Nx (A++v::w::B) a b↔(a=v/\b=w)\/(a=w/\Nx (A++v::B) v b)\/(a≠v/\Nx (A++v::B) a b):=by
 rw[jT A (v::w::B),jT A (v::B),jT A (v::B)];simp only[gi]
 have d:v∉B++A:=λ z=>by
  rw[az]at nd;rcases bp.mp z with z | z
  ·exact(dr.mp nd.2.1).1 z
  ·exact nd.2.2 v z v eW rfl
 have l:w≠v:=λ z=>f (by rw[z];simp);generalize m:B++A=R at d;rw[zE,zE,zE];have i:(w::R++[v]).headD 0=w:=rfl
 have g:Adj (w::R++[v]) a b↔(a=w/\b=(R++[v]).headD 0)\/Adj (R++[v]) a b:=by
  cases R with
  | nil=>exact Bt
  | cons y r=>exact Bt
 rw[i,g];constructor
 ·rintro(h | h | h)
  ·exact .inl h
  ·exact .inr (.inl ⟨h.1,.inl ⟨rfl,h.2⟩⟩)
  ·exact .inr (.inr ⟨jH d h,.inr h⟩)
 ·rintro(h | ⟨h,c⟩ | ⟨h,c⟩)
  ·exact .inl h
  ·rcases c with⟨_,z⟩ | z
   ·exact .inr (.inl ⟨h,z⟩)
   ·exact(jH d z rfl).elim
  ·rcases c with⟨z,_⟩ | z
   ·exact(h z).elim
   ·exact .inr (.inr z)
theorem dN:∀{l:List Nat}{a f b:Nat},l.tail.Nodup->Adj l a b->Adj l f b->a=f
 | [],_,_,_,_,h,_=>h.elim
 | [_],_,_,_,_,h,_=>h.elim
 | x::y::r,a,f,b,nd,h,d=>by
  have c:(y::r).Nodup:=nd;rcases h with⟨rfl,rfl⟩ | h
  ·rcases d with⟨rfl,_⟩ | d
   ·rfl
   ·exact((dr.mp c).1 (jC d).2).elim
  ·rcases d with⟨rfl,rfl⟩ | d
   ·exact((dr.mp c).1 (jC h).2).elim
   ·exact dN (l:=y::r) (dr.mp c).2 h d
def zX{row:List Nat}{v:Nat}(h:v∈row):∃ A B,row=A++v::B:=uv h
def vX{A B:List Nat}{v:Nat}(nd:(A++v::B).Nodup):v∉B++A/\(B++A).Nodup:=by
 rw[az]at nd;obtain⟨f,l,c⟩:=nd;obtain⟨g,h⟩:=dr.mp l;refine⟨λ z=>?_,?_⟩
 ·rcases bp.mp z with z | z
  ·exact g z
  ·exact c v z v eW rfl
 ·rw[az]
  exact⟨h,f,λ a i b d e=>c b d a (dc _ i) e.symm⟩
def kT{row:List Nat}{a b:Nat}(h:Nx row a b):a∈row/\b∈row:=by
 cases row with
 | nil=>exact h.elim
 | cons x r =>
  have q:=jC h;constructor
  ·rcases bp.mp q.1 with z | z
   ·exact z
   ·exact cn.mpr (.inl (by simpa using z))
  ·rcases bp.mp q.2 with z | z
   ·exact dc _ z
   ·exact cn.mpr (.inl (by simpa using z))
def jG{row:List Nat}{a b d:Nat}(nd:row.Nodup)(h:Nx row a b)(h':Nx row a d):b=d:=by
 obtain⟨A,B,rfl⟩:=zX (kT h).1;rw[jT]at h h';simp only[gi]at h h';obtain⟨c,f⟩:=vX nd;rw[zE]at h h';rcases h with⟨_,rfl⟩ | h
 ·rcases h' with⟨_,rfl⟩ | h'
  ·rfl
  ·exact(jH c h' rfl).elim
 ·exact(jH c h rfl).elim
def yA{row:List Nat}{a d b:Nat}(nd:row.Nodup)(h:Nx row a b)(h':Nx row d b):a=d:=by
 obtain⟨A,B,rfl⟩:=zX (kT h).2;rw[jT]at h h';simp only[gi]at h h';obtain⟨f,i⟩:=vX nd;rw[pZ]at h h';refine dN ?_ h h';show(B++A++[b]).Nodup;rw[az];exact⟨i,by simp,λ x g y c e=>f (by simp at c;rw[<-c,<-e];exact g)⟩
def kQH{A B:List Nat}{q:Nat}(nd:(A++q::B).Nodup)(a b:Nat) :
  Nx (A++B) a b↔(a≠q/\b≠q/\Nx (A++q::B) a b)\/(a≠q/\b≠q/\Nx (A++q::B) a q/\Nx (A++q::B) q b):=by
 rw[jT A B,jT A (q::B),jT A (q::B),jT A (q::B)];simp only[gi];obtain⟨i,u⟩:=vX nd;generalize B++A=R at i u;clear nd
 cases R with
 | nil =>
  constructor
  ·intro h;exact h.elim
  ·rintro(⟨h1,f,g⟩ | ⟨h1,f,g,_⟩)
   ·rcases g with⟨z,_⟩ | z
    ·exact(h1 z).elim
    ·exact z.elim
   ·rcases g with⟨z,_⟩ | z
    ·exact(h1 z).elim
    ·exact z.elim
 | cons x T =>
  rw[zE q (x::T) a b,zE q (x::T) a q,zE q (x::T) q b,pZ x T];have s:(x::T++[q]).headD 0=x:=rfl;rw[s]
  have p:x≠q:=λ z=>i (by rw[z];exact eW)
  have key:∀(T:List Nat)(x z a b:Nat),Adj (x::T++[z]) a b↔Adj (x::T) a b\/(a=(x::T).getLast (by simp)/\b=z):=by
   intro T
   induction T with
   | nil=>intro x z a b;exact⟨λ h=>h.elim .inr λ q=>q.elim,λ h=>h.elim (λ q=>q.elim) .inl⟩
   | cons y r ih =>
    intro x z a b;show(a=x/\b=y)\/Adj (y::r++[z]) a b↔((a=x/\b=y)\/Adj (y::r) a b)\/_;rw[ih y z a b,DX (xh y r)];exact or_assoc.symm
  rw[key T x x,key T x q,key T x q,key T x q]
  have mem:∀{c d},Adj (x::T) c d->c≠q/\d≠q:=λ{c d} h=>by
   have:=jC h;exact⟨λ z=>i (z ▸ this.1),λ z=>i (z ▸ dc _ this.2)⟩
  have l:(x::T).getLast (by simp)≠q:=λ z=>i (z ▸ List.getLast_mem _);constructor
  ·rintro(h | ⟨h1,f⟩)
   ·exact .inl ⟨(mem h).1,(mem h).2,.inr (.inl h)⟩
   ·refine .inr ⟨by rw[h1];exact l,by rw[f];exact p,.inr (.inr ⟨h1,rfl⟩),.inl ⟨rfl,f⟩⟩
  ·rintro(⟨h1,f,g⟩ | ⟨h1,f,g,m⟩)
   ·rcases g with⟨z,_⟩ | z | ⟨_,z⟩
    ·exact(h1 z).elim
    ·exact .inl z
    ·exact(f z).elim
   ·have o:a=(x::T).getLast (by simp):=by
     rcases g with⟨z,_⟩ | z | ⟨z,_⟩
     ·exact(h1 z).elim
     ·exact((mem z).2 rfl).elim
     ·exact z
    have n:b=x:=by
     rcases m with⟨_,z⟩ | z | ⟨z,_⟩
     ·exact z
     ·exact((mem z).1 rfl).elim
     ·exact(l z.symm).elim
    exact .inr ⟨o,n⟩
end Cyc
namespace Tri
open Cyc
abbrev Rows:=List (List Nat)
def R(L:Rows)(q a b:Nat):Prop:=∃ row,L[q]?=some row/\Nx row a b
def E(L:Rows)(a b:Nat):Prop:=∃ row,L[a]?=some row/\b∈row
inductive Reach(L:Rows):Nat->Nat->Prop
 | here (a:Nat):Reach L a a
 | more {a b c:Nat}:Reach L a b->E L b c->Reach L a c
def Reach.trans{L:Rows}{a b c:Nat}(h:Reach L a b)(h':Reach L b c):Reach L a c:=by
 induction h' with
 | here=>exact h
 | more _ e ih=>exact .more ih e
theorem Reach.by{L c:Rows}(h:∀ a b,E L a b->Reach c a b){a b:Nat}(r:Reach L a b):Reach c a b:=by
 induction r with
 | here=>exact .here _
 | more _ e ih=>exact ih.trans (h _ _ e)
structure Good(L:Rows):Prop where
 three:3<=L.length
 ne:∀(p:Nat)(row:List Nat),L[p]?=some row->row≠[]
 nd:∀(p:Nat)(row:List Nat),L[p]?=some row->row.Nodup
 rng:∀(p:Nat)(row:List Nat)(a:Nat),L[p]?=some row->a∈row->a<L.length/\a≠p
 tri:∀ q a b,R L q a b->R L a b q
 con:∀ p,p<L.length->Reach L 0 p
 tot:(L.map iB).sum+12=6*L.length
def fW{L:Rows}{p:Nat}{row:List Nat}(hp:p<L.length)(x a b:Nat):R (L.set p row) x a b↔(x=p/\Nx row a b)\/(x≠p/\R L x a b):=by
 unfold R;by_cases h:x=p
 ·subst h
  simp[gy hp]
 ·simp[eB (qe h),h]
def kRY{L:Rows}{row:List Nat}(x a b:Nat):R (L++[row]) x a b↔R L x a b\/(x=L.length/\Nx row a b):=by
 unfold R;rcases wj x L.length with h | h | h
 ·rw[bh h]
  constructor
  ·exact .inl
  ·rintro(z | ⟨z,_⟩)
   ·exact z
   ·omega
 ·subst h
  rw[bu (av _),ip (av _)];simp
 ·rw[ip (by simp;omega),ip (by omega)]
  constructor
  ·rintro⟨_,z,_⟩;cases z
  ·rintro(⟨_,z,_⟩ | ⟨z,_⟩)
   ·cases z
   ·omega
def yD{L:Rows}{q a b:Nat}(h:R L q a b):E L q a/\E L q b:=by
 obtain⟨row,e,n⟩:=h;exact⟨⟨row,e,(kT n).1⟩,⟨row,e,(kT n).2⟩⟩
def xL{L:Rows}(G:Good L){q a b c:Nat}(h:R L q a b)(h':R L q a c):b=c:=by
 obtain⟨row,e,n⟩:=h;obtain⟨f,d,g⟩:=h';rw[e]at d
 cases d
 exact jG (G.nd q row e) n g
def kKB{L:Rows}(G:Good L){q a c b:Nat}(h:R L q a b)(h':R L q c b):a=c:=by
 obtain⟨row,e,n⟩:=h;obtain⟨f,d,g⟩:=h';rw[e]at d
 cases d
 exact yA (G.nd q row e) n g
def yE{L:Rows}(G:Good L){q a b:Nat}(h:R L q a b):q<L.length/\a<L.length/\b<L.length/\a≠q/\b≠q:=by
 obtain⟨row,e,n⟩:=h;have m:=kT n;have:=G.rng q row a e m.1;have:=G.rng q row b e m.2;have:q<L.length:=(ag.mp e).1;omega
def kSI{row:List Nat}{b:Nat}(h:b∈row):∃ a,Nx row a b:=by
 obtain⟨A,B,rfl⟩:=zX h
 have key:∀(R:List Nat),∃ a,Nx (b::R) a b:=by
  intro R
  cases R with
  | nil=>exact⟨b,.inl ⟨rfl,rfl⟩⟩
  | cons y r =>
   have:∀(r:List Nat)(y:Nat),∃ a,Adj (y::r++[b]) a b:=by
    intro r
    induction r with
    | nil=>intro y;exact⟨y,.inl ⟨rfl,rfl⟩⟩
    | cons z r ih=>intro y;obtain⟨a,q⟩:=ih z;exact⟨a,.inr q⟩
   obtain⟨a,q⟩:=this r y;exact⟨a,.inr q⟩
 obtain⟨a,q⟩:=key (B++A);exact⟨a,(jT A (b::B) a b).mpr q⟩
def bV{row:List Nat}{a:Nat}(h:a∈row):∃ b,Nx row a b:=by
 obtain⟨A,B,rfl⟩:=zX h;refine⟨(B++A++[a]).headD 0,(jT A (a::B) _ _).mpr ?_⟩;exact(zE a (B++A) a _).mpr (.inl ⟨rfl,rfl⟩)
def Good.sym{L:Rows}(G:Good L){a b:Nat}(h:E L a b):E L b a:=by
 obtain⟨row,e,m⟩:=h;obtain⟨c,n⟩:=bV m;have:=G.tri a b c ⟨row,e,n⟩;exact(yD this).2
def jB(row:List Nat)(v w:Nat):List Nat:=row.take (row.idxOf v+1)++w::row.drop (row.idxOf v+1)
def jL(row:List Nat)(q:Nat):List Nat:=row.eraseIdx (row.idxOf q)
def cE{A B:List Nat}{v:Nat}(h:v∉A):(A++v::B).idxOf v=A.length:=by
 rw[List.idxOf_append,if_neg h];simp
def jS{row:List Nat}{v:Nat}(h:v∈row)(nd:row.Nodup):∃ A B,row=A++v::B/\v∉A/\v∉B:=by
 obtain⟨A,B,rfl⟩:=zX h;have q:=vX nd;exact⟨A,B,rfl,λ z=>q.1 (cm _ z),λ z=>q.1 (cf _ z)⟩
def rB{A B:List Nat}{v w:Nat}(h:v∉A):jB (A++v::B) v w=A++v::w::B:=by
 unfold jB;rw[cE h];have e:A++v::B=(A++[v])++B:=by simp
 rw[e,yg (by simp),AR (by simp)];simp
def rH{A B:List Nat}{q:Nat}(h:q∉A):jL (A++q::B) q=A++B:=by
 unfold jL;rw[cE h,yx (av _)];simp
def xE{row:List Nat}{v w:Nat}(h:v∈row):(jB row v w).length=row.length+1:=by
 unfold jB;simp only[bg,eO,eQ,iJ];have:=fj h;omega
def kAT{row:List Nat}{q:Nat}(h:q∈row):(jL row q).length+1=row.length:=by
 unfold jL;have:=fj h;rw[List.length_eraseIdx_of_lt this];omega
def xD{row:List Nat}{v w x:Nat}(h:v∈row)(nd:row.Nodup):x∈jB row v w↔x∈row\/x=w:=by
 obtain⟨A,B,rfl,hA,hB⟩:=jS h nd;rw[rB hA];simp only[bp,cn]
 grind
def wC{row:List Nat}{q x:Nat}(h:q∈row)(nd:row.Nodup):x∈jL row q↔x∈row/\x≠q:=by
 obtain⟨A,B,rfl,hA,hB⟩:=jS h nd;rw[rH hA];simp only[bp,cn]
 grind
def aZ{row:List Nat}{v w:Nat}(h:v∈row)(nd:row.Nodup)(a:w∉row):(jB row v w).Nodup:=by
 obtain⟨A,B,rfl,hA,hB⟩:=jS h nd;rw[rB hA];simp only[az,dr,cn,bp]at nd a ⊢
 grind
def kFM{row:List Nat}{q:Nat}(h:q∈row)(nd:row.Nodup):(jL row q).Nodup:=by
 obtain⟨A,B,rfl,hA,hB⟩:=jS h nd;rw[rH hA];simp only[az,dr,cn]at nd ⊢
 grind
def aS{row:List Nat}{v w:Nat}(h:v∈row)(nd:row.Nodup)(c:w∉row)(a b:Nat):Nx (jB row v w) a b↔(a=v/\b=w)\/(a=w/\Nx row v b)\/(a≠v/\Nx row a b):=by
 obtain⟨A,B,rfl,hA,hB⟩:=jS h nd;rw[rB hA];exact kQG nd c a b
def kEZ{row:List Nat}{q:Nat}(h:q∈row)(nd:row.Nodup)(a b:Nat):Nx (jL row q) a b↔(a≠q/\b≠q/\Nx row a b)\/(a≠q/\b≠q/\Nx row a q/\Nx row q b):=by
 obtain⟨A,B,rfl,hA,hB⟩:=jS h nd;rw[rH hA];exact kQH nd a b
theorem yF:∀(L:Rows)(p:Nat)(row new:List Nat),L[p]?=some row->((L.set p new).map iB).sum+row.length=(L.map iB).sum+new.length
 | [],p,row,new,h=>by simp at h
 | x::r,0,row,new,h=>by
  simp at h;subst h;simp;omega
 | x::r,p+1,row,new,h=>by
  simp at h;have q:=yF r p row new h;simp only[List.set_cons_succ,eo,AI];omega
def aA(L:Rows)(p q r:Nat)(a b c:List Nat):Rows :=
 ((L.set p (jB a q L.length)).set q (jB b r L.length)).set r (jB c p L.length)++[[p,q,r]]
def nx3(p q r a b:Nat):Nx [p,q,r] a b↔(a=p/\b=q)\/(a=q/\b=r)\/(a=r/\b=p):=by
 show((a=p/\b=q)\/(a=q/\b=r)\/(a=r/\b=p)\/False)↔_;simp
def zH{L:Rows}{p:Nat}{new:List Nat}(hp:p<L.length){x:Nat}{row:List Nat}(h:(L.set p new)[x]?=some row):(x=p/\row=new)\/(x≠p/\L[x]?=some row):=by
 by_cases e:x=p
 ·subst e
  rw[gy hp]at h;exact .inl ⟨rfl,(bj h).symm⟩
 ·rw[eB (qe e)]at h
  exact .inr ⟨e,h⟩
def hZ{L:Rows}{p:Nat}{new:List Nat}(hp:p<L.length)(x b:Nat):E (L.set p new) x b↔(x=p/\b∈new)\/(x≠p/\E L x b):=by
 unfold E;by_cases h:x=p
 ·subst h
  simp[gy hp]
 ·simp[eB (qe h),h]
def kRE{L:Rows}{row:List Nat}{x b:Nat}(h:E L x b):E (L++[row]) x b:=by
 obtain⟨r,e,m⟩:=h;exact⟨r,by rw[bh (ag.mp e).1];exact e,m⟩
section
variable {L:Rows} {p q r:Nat} {rp rq rr:List Nat}
def kMB(G:Good L)(hp:L[p]?=some rp)(B:L[q]?=some rq)(A:L[r]?=some rr)(f:Nx rq r p):Good (aA L p q r rp rq rr):=by
 have Fq:R L q r p:=⟨rq,B,f⟩;have Fr:R L r p q:=G.tri _ _ _ Fq;have Fp:R L p q r:=G.tri _ _ _ Fr;have Q:Nx rr p q:=by obtain⟨x,e,n⟩:=Fr;rw[A]at e;cases e;exact n
 have O:Nx rp q r:=by obtain⟨x,e,n⟩:=Fp;rw[hp]at e;cases e;exact n
 obtain⟨lq,X,lp,o,s⟩:=yE G Fq;obtain⟨-,-,-,l,-⟩:=yE G Fr;have N:=G.nd p rp hp;have M:=G.nd q rq B;have I:=G.nd r rr A;have Z:L.length∉rp:=λ z=>jx _ (G.rng p rp _ hp z).1;have Y:L.length∉rq:=λ z=>jx _ (G.rng q rq _ B z).1;have vr:L.length∉rr:=λ z=>jx _ (G.rng r rr _ A z).1;have mp:=(kT O).1;have D:=(kT f).1;have H:=(kT Q).1;have U:p<L.length:=lp;have T:q<(L.set p (jB rp q L.length)).length:=by simpa using lq
 have S:r<((L.set p (jB rp q L.length)).set q (jB rq r L.length)).length:=by simpa using X
 have len:(aA L p q r rp rq rr).length=L.length+1:=by simp[aA]
 have g:(((L.set p (jB rp q L.length)).set q (jB rq r L.length)).set r (jB rr p L.length)).length=L.length:=by simp
 have look:∀(x:Nat)(row:List Nat),(aA L p q r rp rq rr)[x]?=some row->(x=L.length/\row=[p,q,r])\/(x=r/\row=jB rr p L.length)\/(x=q/\row=jB rq r L.length)\/(x=p/\row=jB rp q L.length)\/(x≠p/\x≠q/\x≠r/\L[x]?=some row):=by
  intro x row h;unfold aA at h;by_cases hx:x<L.length
  ·rw[bh (by rw[g];exact hx)]at h
   rcases zH S h with z | ⟨n3,h⟩
   ·exact .inr (.inl z)
   ·rcases zH T h with z | ⟨n2,h⟩
    ·exact .inr (.inr (.inl z))
    ·rcases zH U h with z | ⟨n1,h⟩
     ·exact .inr (.inr (.inr (.inl z)))
     ·exact .inr (.inr (.inr (.inr ⟨n1,n2,n3,h⟩)))
  ·rw[bu (by rw[g];omega),g]at h
   have:x-L.length=0:=by
    rcases Nat.eq_zero_or_pos (x-L.length) with z | z
    ·exact z
    ·rw[ip (by simp;omega)]at h;cases h
   rw[this]at h;exact .inl ⟨by omega,(bj h).symm⟩
 have u:∀ x a b,R (aA L p q r rp rq rr) x a b↔(x=L.length/\((a=p/\b=q)\/(a=q/\b=r)\/(a=r/\b=p)))\/(x=r/\((a=p/\b=L.length)\/(a=L.length/\b=q)\/(a≠p/\R L r a b)))\/(x=q/\((a=r/\b=L.length)\/(a=L.length/\b=p)\/(a≠r/\R L q a b)))\/(x=p/\((a=q/\b=L.length)\/(a=L.length/\b=r)\/(a≠q/\R L p a b)))\/(x≠p/\x≠q/\x≠r/\R L x a b):=by
  intro x a b;have e1:Nx rp q b↔b=r:=⟨λ z=>jG N z O,λ z=>z ▸ O⟩;have e2:Nx rq r b↔b=p:=⟨λ z=>jG M z f,λ z=>z ▸ f⟩;have e3:Nx rr p b↔b=q:=⟨λ z=>jG I z Q,λ z=>z ▸ Q⟩;have g1:R L p a b↔Nx rp a b:=⟨λ⟨z,e,n⟩=>by rw[hp]at e;cases e;exact n,λ n=>⟨rp,hp,n⟩⟩;have g2:R L q a b↔Nx rq a b:=⟨λ⟨z,e,n⟩=>by rw[B]at e;cases e;exact n,λ n=>⟨rq,B,n⟩⟩;have g3:R L r a b↔Nx rr a b:=⟨λ⟨z,e,n⟩=>by rw[A]at e;cases e;exact n,λ n=>⟨rr,A,n⟩⟩;unfold aA;rw[kRY,fW S,fW T,fW U,aS mp N Z,aS D M Y,aS H I vr,nx3,g,e1,e2,e3,g1,g2,g3];have no:¬ R L L.length a b:=λ z=>by have:=yE G z;omega
  clear Fq Fr Fp Q O N M I Z Y vr mp D H U T S len g look hp B A f e1 e2 e3 g1 g2 g3 G;by_cases x0:x=L.length
  ·subst x0
   have n1:¬ L.length=p:=jo lp;have n2:¬ L.length=q:=jo lq;have n3:¬ L.length=r:=jo X;simp only[n1,n2,n3,no,ne_eq,not_false_eq_true,false_and,true_and,and_false,or_false,false_or,not_true_eq_false]
  ·by_cases C:x=r
   ·subst C
    have n1:¬ x=q:=o;have n2:¬ x=p:=λ z=>l z.symm;simp only[x0,n1,n2,ne_eq,not_false_eq_true,false_and,true_and,and_false,or_false,false_or,not_true_eq_false]
   ·by_cases J:x=q
    ·subst J
     have n2:¬ x=p:=λ z=>s z.symm;simp only[x0,C,n2,ne_eq,not_false_eq_true,false_and,true_and,and_false,or_false,false_or,not_true_eq_false]
    ·by_cases x1:x=p
     ·subst x1
      simp only[x0,C,J,ne_eq,not_false_eq_true,false_and,true_and,and_false,or_false,false_or,not_true_eq_false]
     ·simp only[x0,C,J,x1,ne_eq,not_false_eq_true,false_and,true_and,and_false,or_false,false_or,not_true_eq_false]
 have v1:L.length≠p:=jo lp;have v2:L.length≠q:=jo lq
 have v3:L.length≠r:=jo X
 have y:∀ x a b,R L x a b->¬ (x=p/\a=q)->¬ (x=q/\a=r)->¬ (x=r/\a=p)->R (aA L p q r rp rq rr) x a b:=by
  intro x a b h h1 h2 h3;rw[u];clear Fq Fr Fp Q O lq X lp o s l N M I Z Y vr mp D H U T S len g look hp B A f u G v1 v2 v3;by_cases C:x=r
  ·subst C;exact .inr (.inl ⟨rfl,.inr (.inr ⟨λ z=>h3 ⟨rfl,z⟩,h⟩)⟩)
  ·by_cases J:x=q
   ·subst J;exact .inr (.inr (.inl ⟨rfl,.inr (.inr ⟨λ z=>h2 ⟨rfl,z⟩,h⟩)⟩))
   ·by_cases x1:x=p
    ·subst x1;exact .inr (.inr (.inr (.inl ⟨rfl,.inr (.inr ⟨λ z=>h1 ⟨rfl,z⟩,h⟩)⟩)))
    ·exact .inr (.inr (.inr (.inr ⟨x1,J,C,h⟩)))
 have d:∀ x a b,R L x a b->¬ (x=p/\a=q)->¬ (x=q/\a=r)->¬ (x=r/\a=p)->R (aA L p q r rp rq rr) a b x:=by
  intro x a b h h1 h2 h3;have i:=G.tri _ _ _ h;clear Q O lq X lp o s l N M I Z Y vr mp D H U T S len g look hp B A f u v1 v2 v3;refine y _ _ _ i (λ z=>?_) (λ z=>?_) (λ z=>?_)
  ·obtain⟨rfl,rfl⟩:=z
   exact h3 ⟨xL G i Fp,rfl⟩
  ·obtain⟨rfl,rfl⟩:=z
   exact h1 ⟨xL G i Fq,rfl⟩
  ·obtain⟨rfl,rfl⟩:=z
   exact h2 ⟨xL G i Fr,rfl⟩
 have c:∀ x a b,((x=L.length/\((a=p/\b=q)\/(a=q/\b=r)\/(a=r/\b=p)))\/(x=r/\((a=p/\b=L.length)\/(a=L.length/\b=q)))\/(x=q/\((a=r/\b=L.length)\/(a=L.length/\b=p)))\/(x=p/\((a=q/\b=L.length)\/(a=L.length/\b=r))))->R (aA L p q r rp rq rr) x a b:=by
  intro x a b h;rw[u];rcases h with h | ⟨h,i | i⟩ | ⟨h,i | i⟩ | ⟨h,i | i⟩
  ·exact .inl h
  ·exact .inr (.inl ⟨h,.inl i⟩)
  ·exact .inr (.inl ⟨h,.inr (.inl i)⟩)
  ·exact .inr (.inr (.inl ⟨h,.inl i⟩))
  ·exact .inr (.inr (.inl ⟨h,.inr (.inl i)⟩))
  ·exact .inr (.inr (.inr (.inl ⟨h,.inl i⟩)))
  ·exact .inr (.inr (.inr (.inl ⟨h,.inr (.inl i)⟩)))
 have v:∀ a b,E L a b->E (aA L p q r rp rq rr) a b:=by
  intro a b h;unfold aA;refine kRE ?_;rw[hZ S,hZ T,hZ U,xD mp N,xD D M,xD H I];obtain⟨row,e,m⟩:=h;clear Fq Fr Fp Q O lq X lp o s l N M I Z Y vr mp D H U T S len g look f u y d c G v1 v2 v3;by_cases C:a=r
  ·subst C;rw[A]at e;cases e;exact .inl ⟨rfl,.inl m⟩
  ·by_cases J:a=q
   ·subst J;rw[B]at e;cases e;exact .inr ⟨C,.inl ⟨rfl,.inl m⟩⟩
   ·by_cases x1:a=p
    ·subst x1;rw[hp]at e;cases e;exact .inr ⟨C,.inr ⟨J,.inl ⟨rfl,.inl m⟩⟩⟩
    ·exact .inr ⟨C,.inr ⟨J,.inr ⟨x1,row,e,m⟩⟩⟩
 refine⟨by rw[len];have:=G.three;omega,?_,?_,?_,?_,?_,?_⟩
 ·intro x row h
  rcases look x row h with⟨_,rfl⟩ | ⟨_,rfl⟩ | ⟨_,rfl⟩ | ⟨_,rfl⟩ | ⟨_,_,_,h⟩
  ·simp
  ·intro z;have:=xE (w:=L.length) H;rw[z]at this;simp at this
  ·intro z;have:=xE (w:=L.length) D;rw[z]at this;simp at this
  ·intro z;have:=xE (w:=L.length) mp;rw[z]at this;simp at this
  ·exact G.ne _ _ h
 ·intro x row h
  rcases look x row h with⟨_,rfl⟩ | ⟨_,rfl⟩ | ⟨_,rfl⟩ | ⟨_,rfl⟩ | ⟨_,_,_,h⟩
  ·simp only[dr,cn,fh,or_false,xb,and_true,not_false_eq_true]
   exact⟨λ z=>z.elim s l,λ z=>o z.symm⟩
  ·exact aZ H I vr
  ·exact aZ D M Y
  ·exact aZ mp N Z
  ·exact G.nd _ _ h
 ·intro x row a h m
  rw[len]
  replace h:=look x row h
  clear Fq Fr Fp Q O Z Y vr U T S len g look f u y d c v;rcases h with⟨rfl,rfl⟩ | ⟨rfl,rfl⟩ | ⟨rfl,rfl⟩ | ⟨rfl,rfl⟩ | ⟨_,_,_,h⟩
  ·simp only[cn,fh,or_false]at m
   clear o s l v1 v2 v3;omega
  ·rcases(xD H I).mp m with z | z
   ·have:=G.rng _ _ _ A z
    exact⟨ke this.1,this.2⟩
   ·subst z
    exact⟨xg _,jo X⟩
  ·rcases(xD D M).mp m with z | z
   ·have:=G.rng _ _ _ B z
    exact⟨ke this.1,this.2⟩
   ·subst z
    exact⟨xg _,jo lq⟩
  ·rcases(xD mp N).mp m with z | z
   ·have:=G.rng _ _ _ hp z
    exact⟨ke this.1,this.2⟩
   ·subst z
    exact⟨xg _,jo lp⟩
  ·have:=G.rng _ _ _ h m
   exact⟨ke this.1,this.2⟩
 ·intro x a b h
  rw[u]at h;clear Fq Fr Fp Q O lq X lp N M I Z Y vr mp D H U T S len g look hp B A f u y v G v1 v2 v3;rcases h with⟨rfl,⟨rfl,rfl⟩ | ⟨rfl,rfl⟩ | ⟨rfl,rfl⟩⟩ | ⟨rfl,⟨rfl,rfl⟩ | ⟨rfl,rfl⟩ | ⟨h,i⟩⟩ | ⟨rfl,⟨rfl,rfl⟩ | ⟨rfl,rfl⟩ | ⟨h,i⟩⟩ | ⟨rfl,⟨rfl,rfl⟩ | ⟨rfl,rfl⟩ | ⟨h,i⟩⟩ | ⟨h1,h2,h3,i⟩
  ·exact c _ _ _ (.inr (.inr (.inr ⟨rfl,.inl ⟨rfl,rfl⟩⟩)))
  ·exact c _ _ _ (.inr (.inr (.inl ⟨rfl,.inl ⟨rfl,rfl⟩⟩)))
  ·exact c _ _ _ (.inr (.inl ⟨rfl,.inl ⟨rfl,rfl⟩⟩))
  ·exact c _ _ _ (.inr (.inr (.inr ⟨rfl,.inr ⟨rfl,rfl⟩⟩)))
  ·exact c _ _ _ (.inl ⟨rfl,.inr (.inl ⟨rfl,rfl⟩)⟩)
  ·exact d _ _ _ i (λ z=>l z.1.symm) (λ z=>o z.1) λ z=>h z.2
  ·exact c _ _ _ (.inr (.inl ⟨rfl,.inr ⟨rfl,rfl⟩⟩))
  ·exact c _ _ _ (.inl ⟨rfl,.inl ⟨rfl,rfl⟩⟩)
  ·exact d _ _ _ i (λ z=>s z.1.symm) (λ z=>h z.2) λ z=>o z.1.symm
  ·exact c _ _ _ (.inr (.inr (.inl ⟨rfl,.inr ⟨rfl,rfl⟩⟩)))
  ·exact c _ _ _ (.inl ⟨rfl,.inr (.inr ⟨rfl,rfl⟩)⟩)
  ·exact d _ _ _ i (λ z=>h z.2) (λ z=>s z.1) λ z=>l z.1
  ·exact d _ _ _ i (λ z=>h1 z.1) (λ z=>h2 z.1) λ z=>h3 z.1
 ·intro x hx
  rw[len]at hx;by_cases h:x=L.length
  ·subst h
   refine .more ((G.con p lp).by λ a b e=>.more (.here _) (v a b e)) ?_;exact(yD (c p q L.length (.inr (.inr (.inr ⟨rfl,.inl ⟨rfl,rfl⟩⟩))))).2
  ·exact(G.con x (by omega)).by λ a b e=>.more (.here _) (v a b e)
 ·rw[len]
  unfold aA;have t:=G.tot;have s1:=yF L p rp (jB rp q L.length) hp;have a0:(L.set p (jB rp q L.length))[q]?=some rq:=by rw[eB s];exact B
  have s2:=yF _ q rq (jB rq r L.length) a0;have a1:((L.set p (jB rp q L.length)).set q (jB rq r L.length))[r]?=some rr:=by rw[eB (λ z=>o z.symm),eB l];exact A
  have s3:=yF _ r rr (jB rr p L.length) a1;rw[xE mp]at s1;rw[xE D]at s2;rw[xE H]at s3;rw[dw,EG];simp only[eo,DT,AI,List.sum_nil,eQ,ow];omega
end
def yX(L:Rows)(p q r s:Nat)(a b d c:List Nat):Rows :=
 (((L.set p (jL a q)).set q (jL b p)).set r (jB d p s)).set s (jB c q r)
section
variable {L:Rows} {p q r s:Nat} {rp rq rr rs:List Nat}
def kHW(G:Good L)(hp:L[p]?=some rp)(U:L[q]?=some rq)(T:L[r]?=some rr)(S:L[s]?=some rs)(f:Nx rq r p)(g:Nx rp s q)(I:r≠s)(sr:s∉rr):Good (yX L p q r s rp rq rr rs):=by
 have D:R L q r p:=⟨rq,U,f⟩;have v:R L r p q:=G.tri _ _ _ D;have H:R L p q r:=G.tri _ _ _ v;have C:R L p s q:=⟨rp,hp,g⟩;have y:R L s q p:=G.tri _ _ _ C;have J:R L q p s:=G.tri _ _ _ y;have un:∀{x row a b},L[x]?=some row->R L x a b->Nx row a b:=λ{x row a b} e ⟨z,e',n⟩=>by rw[e]at e';cases e';exact n
 obtain⟨lq,lr,lp,l,B⟩:=yE G D;obtain⟨-,-,-,u,-⟩:=yE G v;obtain⟨-,ls,-,o,-⟩:=yE G C;obtain⟨-,-,-,A,-⟩:=yE G y;have np:=G.nd p rp hp;have nq:=G.nd q rq U;have nr:=G.nd r rr T;have ns:=G.nd s rs S;have mp:q∈rp:=(kT (un hp H)).1;have X:p∈rq:=(kT f).2;have mr:p∈rr:=(kT (un T v)).1;have Z:q∈rs:=(kT (un S y)).1
 have M:r∉rs:=λ z=>by
  obtain⟨row,e,m⟩:=G.sym (a:=s) (b:=r) ⟨rs,S,z⟩;rw[T]at e;cases e;exact sr m
 have l1:p<L.length:=lp;have l2:q<(L.set p (jL rp q)).length:=by simpa using lq
 have l3:r<((L.set p (jL rp q)).set q (jL rq p)).length:=by simpa using lr
 have l4:s<(((L.set p (jL rp q)).set q (jL rq p)).set r (jB rr p s)).length:=by simpa using ls
 have len:(yX L p q r s rp rq rr rs).length=L.length:=by simp[yX]
 have look:∀(x:Nat)(row:List Nat),(yX L p q r s rp rq rr rs)[x]?=some row->(x=s/\row=jB rs q r)\/(x=r/\row=jB rr p s)\/(x=q/\row=jL rq p)\/(x=p/\row=jL rp q)\/(x≠p/\x≠q/\x≠r/\x≠s/\L[x]?=some row):=by
  intro x row h;unfold yX at h;rcases zH l4 h with z | ⟨n4,h⟩
  ·exact .inl z
  ·rcases zH l3 h with z | ⟨n3,h⟩
   ·exact .inr (.inl z)
   ·rcases zH l2 h with z | ⟨n2,h⟩
    ·exact .inr (.inr (.inl z))
    ·rcases zH l1 h with z | ⟨n1,h⟩
     ·exact .inr (.inr (.inr (.inl z)))
     ·exact .inr (.inr (.inr (.inr ⟨n1,n2,n3,n4,h⟩)))
 have N:∀ x a b,R (yX L p q r s rp rq rr rs) x a b↔(x=s/\((a=q/\b=r)\/(a=r/\b=p)\/(a≠q/\R L s a b)))\/(x=r/\((a=p/\b=s)\/(a=s/\b=q)\/(a≠p/\R L r a b)))\/(x=q/\((a≠p/\b≠p/\R L q a b)\/(a=r/\b=s)))\/(x=p/\((a≠q/\b≠q/\R L p a b)\/(a=s/\b=r)))\/(x≠p/\x≠q/\x≠r/\x≠s/\R L x a b):=by
  intro x a b;have g1:∀ a b,Nx rp a b↔R L p a b:=λ a b=>⟨λ n=>⟨rp,hp,n⟩,un hp⟩;have g2:∀ a b,Nx rq a b↔R L q a b:=λ a b=>⟨λ n=>⟨rq,U,n⟩,un U⟩;have g3:∀ a b,Nx rr a b↔R L r a b:=λ a b=>⟨λ n=>⟨rr,T,n⟩,un T⟩;have g4:∀ a b,Nx rs a b↔R L s a b:=λ a b=>⟨λ n=>⟨rs,S,n⟩,un S⟩;have e1:R L p a q↔a=s:=⟨λ z=>kKB G z C,λ z=>z ▸ C⟩;have e2:R L p q b↔b=r:=⟨λ z=>xL G z H,λ z=>z ▸ H⟩;have e3:R L q a p↔a=r:=⟨λ z=>kKB G z D,λ z=>z ▸ D⟩;have e4:R L q p b↔b=s:=⟨λ z=>xL G z J,λ z=>z ▸ J⟩;have e5:R L r p b↔b=q:=⟨λ z=>xL G z v,λ z=>z ▸ v⟩;have e6:R L s q b↔b=p:=⟨λ z=>xL G z y,λ z=>z ▸ y⟩;unfold yX;rw[fW l4,fW l3,fW l2,fW l1,kEZ mp np,kEZ X nq,aS mr nr sr,aS Z ns M];simp only[g1,g2,g3,g4,e1,e2,e3,e4,e5,e6];have c1:(a≠q/\b≠q/\a=s/\b=r)↔(a=s/\b=r):=⟨λ z=>z.2.2,λ z=>⟨λ h=>A (h.symm.trans z.1),λ h=>l (z.2.symm.trans h),z⟩⟩;have c2:(a≠p/\b≠p/\a=r/\b=s)↔(a=r/\b=s):=⟨λ z=>z.2.2,λ z=>⟨λ h=>u (h.symm.trans z.1),λ h=>o (z.2.symm.trans h),z⟩⟩;rw[c1,c2];clear look g1 g2 g3 g4 e1 e2 e3 e4 e5 e6 c1 c2 D v H C y J un np nq nr ns mp X mr Z M l1 l2 l3 l4 len hp U T S f g sr lq lr lp ls;by_cases Q:x=s
  ·subst Q
   have n1:¬ x=r:=λ z=>I z.symm;have n2:¬ x=q:=λ z=>A z.symm;have n3:¬ x=p:=o;simp only[n1,n2,n3,ne_eq,not_false_eq_true,false_and,true_and,and_false,or_false,false_or,not_true_eq_false]
  ·by_cases Y:x=r
   ·subst Y
    have n1:¬ x=q:=l;have n2:¬ x=p:=λ z=>u z.symm;simp only[Q,n1,n2,ne_eq,not_false_eq_true,false_and,true_and,and_false,or_false,false_or,not_true_eq_false]
   ·by_cases x2:x=q
    ·subst x2
     have n2:¬ x=p:=λ z=>B z.symm;simp only[Q,Y,n2,ne_eq,not_false_eq_true,false_and,true_and,and_false,or_false,false_or,not_true_eq_false]
    ·by_cases x1:x=p
     ·subst x1
      simp only[Q,Y,x2,ne_eq,not_false_eq_true,false_and,true_and,and_false,or_false,false_or,not_true_eq_false]
     ·simp only[Q,Y,x2,x1,ne_eq,not_false_eq_true,false_and,true_and,and_false,or_false,false_or,not_true_eq_false]
 have O:∀ x a b,R L x a b->¬ (x=p/\a=q)->¬ (x=p/\b=q)->¬ (x=q/\a=p)->¬ (x=q/\b=p)->¬ (x=r/\a=p)->¬ (x=s/\a=q)->R (yX L p q r s rp rq rr rs) x a b:=by
  intro x a b h h1 h2 h3 h4 h5 h6;rw[N];clear D v H C y J un np nq nr ns mp X mr Z M l1 l2 l3 l4 len hp U T S f g sr lq lr lp ls I l B u o A look N G;by_cases Q:x=s
  ·subst Q;exact .inl ⟨rfl,.inr (.inr ⟨λ z=>h6 ⟨rfl,z⟩,h⟩)⟩
  ·by_cases Y:x=r
   ·subst Y;exact .inr (.inl ⟨rfl,.inr (.inr ⟨λ z=>h5 ⟨rfl,z⟩,h⟩)⟩)
   ·by_cases x2:x=q
    ·subst x2;exact .inr (.inr (.inl ⟨rfl,.inl ⟨λ z=>h3 ⟨rfl,z⟩,λ z=>h4 ⟨rfl,z⟩,h⟩⟩))
    ·by_cases x1:x=p
     ·subst x1;exact .inr (.inr (.inr (.inl ⟨rfl,.inl ⟨λ z=>h1 ⟨rfl,z⟩,λ z=>h2 ⟨rfl,z⟩,h⟩⟩)))
     ·exact .inr (.inr (.inr (.inr ⟨x1,x2,Y,Q,h⟩)))
 have c:∀ x a b,R L x a b->¬ (x=p/\a=q)->¬ (x=p/\b=q)->¬ (x=q/\a=p)->¬ (x=q/\b=p)->¬ (x=r/\a=p)->¬ (x=s/\a=q)->R (yX L p q r s rp rq rr rs) a b x:=by
  intro x a b h h1 h2 h3 h4 h5 h6;have i:=G.tri _ _ _ h;clear D C un np nq nr ns mp X mr Z M l1 l2 l3 l4 len hp U T S f g sr lq lr lp ls I l B u o A look N;refine O _ _ _ i (λ z=>?_) (λ z=>?_) (λ z=>?_) (λ z=>?_) (λ z=>?_) (λ z=>?_)
  ·obtain⟨rfl,rfl⟩:=z
   exact h5 ⟨xL G i H,rfl⟩
  ·obtain⟨rfl,rfl⟩:=z
   exact h3 ⟨rfl,rfl⟩
  ·obtain⟨rfl,rfl⟩:=z
   exact h6 ⟨xL G i J,rfl⟩
  ·obtain⟨rfl,rfl⟩:=z
   exact h1 ⟨rfl,rfl⟩
  ·obtain⟨rfl,rfl⟩:=z
   exact h4 ⟨xL G i v,rfl⟩
  ·obtain⟨rfl,rfl⟩:=z
   exact h2 ⟨xL G i y,rfl⟩
 have d:∀ x a b,((x=s/\((a=q/\b=r)\/(a=r/\b=p)))\/(x=r/\((a=p/\b=s)\/(a=s/\b=q)))\/(x=q/\(a=r/\b=s))\/(x=p/\(a=s/\b=r)))->R (yX L p q r s rp rq rr rs) x a b:=by
  intro x a b h;rw[N];rcases h with⟨h,i | i⟩ | ⟨h,i | i⟩ | ⟨h,i⟩ | ⟨h,i⟩
  ·exact .inl ⟨h,.inl i⟩
  ·exact .inl ⟨h,.inr (.inl i)⟩
  ·exact .inr (.inl ⟨h,.inl i⟩)
  ·exact .inr (.inl ⟨h,.inr (.inl i)⟩)
  ·exact .inr (.inr (.inl ⟨h,.inr i⟩))
  ·exact .inr (.inr (.inr (.inl ⟨h,.inr i⟩)))
 have a0:∀ a b,E L a b->¬ (a=p/\b=q)->¬ (a=q/\b=p)->E (yX L p q r s rp rq rr rs) a b:=by
  intro a b h h1 h2;unfold yX;rw[hZ l4,hZ l3,hZ l2,hZ l1,wC mp np,wC X nq,xD mr nr,xD Z ns];obtain⟨row,e,m⟩:=h;clear D v H C y J un np nq nr ns mp X mr Z M l1 l2 l3 l4 len f g sr lq lr lp ls I l B u o A look N O c d G;by_cases Q:a=s
  ·subst Q;rw[S]at e;cases e;exact .inl ⟨rfl,.inl m⟩
  ·by_cases Y:a=r
   ·subst Y;rw[T]at e;cases e;exact .inr ⟨Q,.inl ⟨rfl,.inl m⟩⟩
   ·by_cases x2:a=q
    ·subst x2;rw[U]at e;cases e;exact .inr ⟨Q,.inr ⟨Y,.inl ⟨rfl,m,λ z=>h2 ⟨rfl,z⟩⟩⟩⟩
    ·by_cases x1:a=p
     ·subst x1;rw[hp]at e;cases e;exact .inr ⟨Q,.inr ⟨Y,.inr ⟨x2,.inl ⟨rfl,m,λ z=>h1 ⟨rfl,z⟩⟩⟩⟩⟩
     ·exact .inr ⟨Q,.inr ⟨Y,.inr ⟨x2,.inr ⟨x1,row,e,m⟩⟩⟩⟩
 have path:∀ a b,E L a b->Reach (yX L p q r s rp rq rr rs) a b:=by
  intro a b h;clear D v H C y J un np nq nr ns mp X mr Z M l1 l2 l3 l4 len hp U T S f g sr lq lr lp ls I l B u o A look N O c G;by_cases h1:a=p/\b=q
  ·obtain⟨rfl,rfl⟩:=h1
   refine Reach.more (b:=r) (Reach.more (Reach.here _) ?_) ?_
   ·exact(yD (d a s r (.inr (.inr (.inr ⟨rfl,rfl,rfl⟩))))).2
   ·exact(yD (d r s b (.inr (.inl ⟨rfl,.inr ⟨rfl,rfl⟩⟩)))).2
  ·by_cases h2:a=q/\b=p
   ·obtain⟨rfl,rfl⟩:=h2
    refine Reach.more (b:=r) (Reach.more (Reach.here _) ?_) ?_
    ·exact(yD (d a r s (.inr (.inr (.inl ⟨rfl,rfl,rfl⟩))))).1
    ·exact(yD (d r b s (.inr (.inl ⟨rfl,.inl ⟨rfl,rfl⟩⟩)))).1
   ·exact .more (.here _) (a0 a b h h1 h2)
 refine⟨by rw[len];exact G.three,?_,?_,?_,?_,?_,?_⟩
 ·intro x row h
  rcases look x row h with⟨_,rfl⟩ | ⟨_,rfl⟩ | ⟨_,rfl⟩ | ⟨_,rfl⟩ | ⟨_,_,_,_,h⟩
  ·intro z;have:=xE (w:=r) Z;rw[z]at this;simp at this
  ·intro z;have:=xE (w:=s) mr;rw[z]at this;simp at this
  ·intro z
   have:s∈jL rq p:=(wC X nq).mpr ⟨(kT (un U J)).2,o⟩;rw[z]at this;cases this
  ·intro z
   have:r∈jL rp q:=(wC mp np).mpr ⟨(kT (un hp H)).2,l⟩;rw[z]at this;cases this
  ·exact G.ne _ _ h
 ·intro x row h
  rcases look x row h with⟨_,rfl⟩ | ⟨_,rfl⟩ | ⟨_,rfl⟩ | ⟨_,rfl⟩ | ⟨_,_,_,_,h⟩
  ·exact aZ Z ns M
  ·exact aZ mr nr sr
  ·exact kFM X nq
  ·exact kFM mp np
  ·exact G.nd _ _ h
 ·intro x row a h m
  rw[len]
  replace h:=look x row h
  clear D v H C y J un M l1 l2 l3 l4 len f g sr lq lp l B u o A look N O c d a0 path;rcases h with⟨rfl,rfl⟩ | ⟨rfl,rfl⟩ | ⟨rfl,rfl⟩ | ⟨rfl,rfl⟩ | ⟨_,_,_,_,h⟩
  ·rcases(xD Z ns).mp m with z | z
   ·exact G.rng _ _ _ S z
   ·subst z
    exact⟨lr,I⟩
  ·rcases(xD mr nr).mp m with z | z
   ·exact G.rng _ _ _ T z
   ·subst z
    exact⟨ls,λ h=>I h.symm⟩
  ·exact G.rng _ _ _ U ((wC X nq).mp m).1
  ·exact G.rng _ _ _ hp ((wC mp np).mp m).1
  ·exact G.rng _ _ _ h m
 ·intro x a b h
  rw[N]at h;clear D v H C y J un np nq nr ns mp X mr Z M l1 l2 l3 l4 len hp U T S f g sr lq lr lp ls look N O a0 path G;rcases h with⟨rfl,⟨rfl,rfl⟩ | ⟨rfl,rfl⟩ | ⟨h,i⟩⟩ | ⟨rfl,⟨rfl,rfl⟩ | ⟨rfl,rfl⟩ | ⟨h,i⟩⟩ | ⟨rfl,⟨h,k,i⟩ | ⟨rfl,rfl⟩⟩ | ⟨rfl,⟨h,k,i⟩ | ⟨rfl,rfl⟩⟩ | ⟨h1,h2,h3,h4,i⟩
  ·exact d _ _ _ (.inr (.inr (.inl ⟨rfl,rfl,rfl⟩)))
  ·exact d _ _ _ (.inr (.inl ⟨rfl,.inl ⟨rfl,rfl⟩⟩))
  ·exact c _ _ _ i (λ z=>o z.1) (λ z=>o z.1) (λ z=>A z.1.symm) (λ z=>A z.1.symm) (λ z=>I z.1.symm) λ z=>h z.2
  ·exact d _ _ _ (.inr (.inr (.inr ⟨rfl,rfl,rfl⟩)))
  ·exact d _ _ _ (.inl ⟨rfl,.inl ⟨rfl,rfl⟩⟩)
  ·exact c _ _ _ i (λ z=>u z.1.symm) (λ z=>u z.1.symm) (λ z=>l z.1) (λ z=>l z.1) (λ z=>h z.2) λ z=>I z.1
  ·exact c _ _ _ i (λ z=>B z.1.symm) (λ z=>B z.1.symm) (λ z=>h z.2) (λ z=>k z.2) (λ z=>l z.1.symm) λ z=>A z.1
  ·exact d _ _ _ (.inr (.inl ⟨rfl,.inr ⟨rfl,rfl⟩⟩))
  ·exact c _ _ _ i (λ z=>h z.2) (λ z=>k z.2) (λ z=>B z.1) (λ z=>B z.1) (λ z=>u z.1) λ z=>o z.1.symm
  ·exact d _ _ _ (.inl ⟨rfl,.inr ⟨rfl,rfl⟩⟩)
  ·exact c _ _ _ i (λ z=>h1 z.1) (λ z=>h1 z.1) (λ z=>h2 z.1) (λ z=>h2 z.1) (λ z=>h3 z.1) λ z=>h4 z.1
 ·intro x hx
  rw[len]at hx;exact(G.con x hx).by path
 ·rw[len]
  unfold yX;have t:=G.tot;have s1:=yF L p rp (jL rp q) hp;have a3:(L.set p (jL rp q))[q]?=some rq:=by rw[eB B];exact U
  have s2:=yF _ q rq (jL rq p) a3;have a2:((L.set p (jL rp q)).set q (jL rq p))[r]?=some rr:=by rw[eB (λ z=>l z.symm),eB u];exact T
  have s3:=yF _ r rr (jB rr p s) a2;have a1:(((L.set p (jL rp q)).set q (jL rq p)).set r (jB rr p s))[s]?=some rs:=by rw[eB I,eB A,eB (λ z=>o z.symm)];exact S
  have s4:=yF _ s rs (jB rs q r) a1;have k1:=kAT mp;have k2:=kAT X;rw[xE mr]at s3;rw[xE Z]at s4;clear I l B u o A l1 l2 l3 l4 lp lq lr ls;omega
def kDD:Good [[1,2],[2,0],[0,1]]:=by
 have look:∀(x:Nat)(row:List Nat),([[1,2],[2,0],[0,1]]:Rows)[x]?=some row->(x=0/\row=[1,2])\/(x=1/\row=[2,0])\/(x=2/\row=[0,1]):=by
  intro x row h
  match x,h with
  | 0,h=>exact .inl ⟨rfl,(bj h).symm⟩
  | 1,h=>exact .inr (.inl ⟨rfl,(bj h).symm⟩)
  | 2,h=>exact .inr (.inr ⟨rfl,(bj h).symm⟩)
  | n+3,h=>simp at h
 have c:∀ x y a b:Nat,Nx [x,y] a b↔(a=x/\b=y)\/(a=y/\b=x):=by
  intro x y a b;show((a=x/\b=y)\/(a=y/\b=x)\/False)↔_;simp
 refine⟨by decide,?_,?_,?_,?_,?_,by decide⟩
 ·intro x row h
  rcases look x row h with⟨_,rfl⟩ | ⟨_,rfl⟩ | ⟨_,rfl⟩<;>simp
 ·intro x row h
  rcases look x row h with⟨_,rfl⟩ | ⟨_,rfl⟩ | ⟨_,rfl⟩<;>decide
 ·intro x row a h m
  rcases look x row h with⟨rfl,rfl⟩ | ⟨rfl,rfl⟩ | ⟨rfl,rfl⟩<;>simp at m ⊢<;>omega
 ·rintro x a b ⟨row,h,n⟩
  rcases look x row h with⟨rfl,rfl⟩ | ⟨rfl,rfl⟩ | ⟨rfl,rfl⟩<;>rw[c]at n<;>rcases n with⟨rfl,rfl⟩ | ⟨rfl,rfl⟩
  ·exact⟨[2,0],rfl,(c _ _ _ _).mpr (.inl ⟨rfl,rfl⟩)⟩
  ·exact⟨[0,1],rfl,(c _ _ _ _).mpr (.inr ⟨rfl,rfl⟩)⟩
  ·exact⟨[0,1],rfl,(c _ _ _ _).mpr (.inl ⟨rfl,rfl⟩)⟩
  ·exact⟨[1,2],rfl,(c _ _ _ _).mpr (.inr ⟨rfl,rfl⟩)⟩
  ·exact⟨[1,2],rfl,(c _ _ _ _).mpr (.inl ⟨rfl,rfl⟩)⟩
  ·exact⟨[2,0],rfl,(c _ _ _ _).mpr (.inr ⟨rfl,rfl⟩)⟩
 ·intro x d
  match x,d with
  | 0,_=>exact .here _
  | 1,_=>exact .more (.here _) ⟨[1,2],rfl,by decide⟩
  | 2,_=>exact .more (.here _) ⟨[1,2],rfl,by decide⟩
end
def jX(row:List Nat)(p:Nat):Option Nat:=if row.idxOf p=0 then row.getLast? else row[row.idxOf p-1]?
def yG{row:List Nat}{p v:Nat}(nd:row.Nodup)(hp:p∈row)(h:jX row p=some v):Nx row v p:=by
 obtain⟨A,B,rfl,hA,hB⟩:=jS hp nd;unfold jX at h;rw[cE hA]at h;by_cases h0:A.length=0
 ·have:A=[]:=iu.mp h0
  subst this;rw[if_pos h0,mo]at h;show Adj (p::B++[p]) v p
  have e:p::B=(p::B).dropLast++[v]:=by
   rw[iK (xh p B)]at h;rw[<-bj h];exact(gj (xh p B)).symm
  rw[e,de];exact(qQ _ v [p] v p).mpr (.inr (.inl ⟨rfl,rfl⟩))
 ·rw[if_neg h0]at h
  rw[bh (by omega)]at h;have a:A≠[]:=λ z=>h0 (by rw[z];rfl)
  have e:A=A.dropLast++[v]:=by
   have z:A.getLast?=some v:=by rw[iN];exact h
   rw[iK a]at z;rw[<-bj z];exact(gj a).symm
  rw[e,de];rw[jT];show Nx (v::(p::B)++A.dropLast) v p;exact .inl ⟨rfl,rfl⟩
def wF{row:List Nat}{p:Nat}(hp:p∈row):∃ v,jX row p=some v:=by
 have b:=fj hp;unfold jX
 split
 ·have a:row≠[]:=λ z=>by rw[z]at hp;cases hp
  exact⟨_,iK a⟩
 ·exact⟨_,aa (show row.idxOf p-1<row.length by omega)⟩
end Tri
namespace Rnd
open Cyc Tri
section
variable {α:Type} [DecidableEq α]
def it(f:α->α):Nat->α->α
 | 0,x=>x
 | n+1,x=>f (it f n x)
def vO(f:α->α)(m n:Nat)(x:α):it f (m+n) x=it f m (it f n x):=by
 induction m with
 | zero=>rw[DY];rfl
 | succ m ih=>rw[Nat.succ_add];show f _=f _;rw[ih]
structure Perm(f:α->α)(S:List α):Prop where
 to:∀ x,x∈S->f x∈S
 one:∀ x y,x∈S->y∈S->f x=f y->x=y
theorem Perm.it{f:α->α}{S:List α}(h:Perm f S)(n:Nat){x:α}(a:x∈S):it f n x∈S:=by
 induction n with
 | zero=>exact a
 | succ n ih=>exact h.to _ ih
def Perm.back{f:α->α}{S:List α}(h:Perm f S)(n:Nat){x y:α}(a:x∈S)(b:y∈S)(e:Rnd.it f n x=Rnd.it f n y):x=y:=by
 induction n with
 | zero=>exact e
 | succ n ih=>exact ih (h.one _ _ (h.it n a) (h.it n b) e)
theorem bX{f:Nat->α}:∀(n:Nat),(∀ i j,i<j->j<n->f i≠f j)->((df n).map f).Nodup
 | 0,_=>by simp
 | n+1,h=>by
  rw[Au,dw,az];refine⟨bX n λ i j a b=>h i j a (by omega),by simp,λ a g b c=>?_⟩;obtain⟨i,d,rfl⟩:=ft.mp g;have:b=f n:=by simpa using c
  subst this;exact h i n (fz.mp d) (by omega)
def Perm.comes{f:α->α}{S:List α}(h:Perm f S){x:α}(d:x∈S):∃ k,0<k/\k<=S.length/\Rnd.it f k x=x/\∀ j,0<j->j<k->Rnd.it f j x≠x:=by
 have some:∃ k,0<k/\k<=S.length/\Rnd.it f k x=x:=by
  refine gm λ s=>?_
  have nd:((df (S.length+1)).map λ i=>Rnd.it f i x).Nodup:=bX _ λ i j v B e=>by
   refine s ⟨j-i,by omega,by omega,?_⟩
   have q:Rnd.it f i (Rnd.it f (j-i) x)=Rnd.it f i x:=by
    rw[<-vO,show i+(j-i)=j by omega];exact e.symm
   exact h.back i (h.it _ d) d q
  have le:=eI nd (l₂:=S) λ y r=>by
   obtain⟨i,_,rfl⟩:=ft.mp r;exact h.it i d
  rw[af,eV]at le;omega
 obtain⟨o,p0,A,g⟩:=some
 have kFC:∀ n,(∃ k,0<k/\k<=n/\Rnd.it f k x=x)->∃ k,0<k/\k<=n/\Rnd.it f k x=x/\∀ j,0<j->j<k->Rnd.it f j x≠x:=λ n=>by
  induction n with
  | zero=>rintro⟨k,a,b,_⟩;omega
  | succ n ih =>
   intro p;by_cases c:∃ k,0<k/\k<=n/\Rnd.it f k x=x
   ·obtain⟨k,a,b,e,m⟩:=ih c
    exact⟨k,a,by omega,e,m⟩
   ·obtain⟨k,a,b,e⟩:=p
    refine⟨k,a,b,e,λ j l C u=>c ⟨j,l,by omega,u⟩⟩
 exact kFC S.length ⟨o,p0,A,g⟩
def Perm.round_nodup{f:α->α}{S:List α}(h:Perm f S){x:α}(a:x∈S){k:Nat}(m:∀ j,0<j->j<k->Rnd.it f j x≠x):((df k).map λ i=>Rnd.it f i x).Nodup:=bX _ λ i j c d e=>by
 refine m (j-i) (by omega) (by omega) ?_
 have b:Rnd.it f i (Rnd.it f (j-i) x)=Rnd.it f i x:=by
  rw[<-vO,show i+(j-i)=j by omega];exact e.symm
 exact h.back i (h.it _ a) a b
end
def kN(W:Rows):List (Nat×Nat):=(df W.length).flatMap λ p=>(W.getD p []).map λ q=>(p,q)
def mem_steps{W:Rows}{p q:Nat}:(p,q)∈kN W↔E W p q:=by
 unfold kN E;rw[AD];constructor
 ·rintro⟨d,hp,h⟩
  obtain⟨c,b,e⟩:=ft.mp h;cases e
  have a:=fz.mp hp;refine⟨W[p],aa a,?_⟩;simpa[ae,a] using b
 ·rintro⟨row,e,h⟩
  have a:=(ag.mp e).1;refine⟨p,fz.mpr a,ft.mpr ⟨q,?_,rfl⟩⟩;rw[ae,e];exact h
def nxt(W:Rows)(s:Nat×Nat):Nat×Nat:=(s.2,(jX (W.getD s.2 []) s.1).getD 0)
def gD{W:Rows}(nd:∀(p:Nat)(row:List Nat),W[p]?=some row->row.Nodup)(sym:∀ a b,E W a b->E W b a):Perm (nxt W) (kN W):=by
 have look:∀ p q,(p,q)∈kN W->∃ row v,W[q]?=some row/\p∈row/\jX row p=some v/\nxt W (p,q)=(q,v)/\Nx row v p:=λ p q h=>by
  obtain⟨row,e,m⟩:=sym p q (mem_steps.mp h);obtain⟨v,f⟩:=wF m;refine⟨row,v,e,m,f,?_,yG (nd q row e) m f⟩;unfold nxt;rw[ae,e];show(q,(jX row p).getD 0)=(q,v);rw[f]
  rfl
 refine⟨λ s h=>?_,λ s t y r e=>?_⟩
 ·obtain⟨p,q⟩:=s
  obtain⟨row,v,c,x,G,g,d⟩:=look p q h;rw[g];exact mem_steps.mpr ⟨row,c,(kT d).1⟩
 ·obtain⟨p,q⟩:=s
  obtain⟨C,l⟩:=t;obtain⟨row,v,c,x,G,g,d⟩:=look p q y;obtain⟨i,A,n,H,I,D,o⟩:=look C l r;rw[g,D]at e;have u:q=l:=congrArg Av e;have B:v=A:=congrArg Aw e;subst u B;rw[c]at n;cases n
  rw[jG (nd q row c) d o]
end Rnd
namespace Tri
section
variable {R R':Nat->Nat->Nat->Prop} {N N' K:Nat->Nat->Prop} {inP:Nat->Prop} {f l w:Nat}
end
open Cyc
section
variable {A M C:List Nat} {f l w:Nat}
def nxP(M:List Nat)(f l a b:Nat):Nx (f::M++[l]) a b↔Adj (f::M++[l]) a b\/(a=l/\b=f):=by
 show Adj (f::M++[l]++[f]) a b↔_;rw[show f::M++[l]++[f]=(f::M)++l::[f] by simp,qQ];simp only[Adj,or_false]
def nxO(a b:Nat):Nx (A++(f::M++[l])++C) a b↔Adj (f::M++[l]) a b\/Adj (l::(C++A)++[f]) a b:=by
 rw[show A++(f::M++[l])++C=A++(f::M++l::C) by simp,jT];show Adj (f::M++l::C++A++[f]) a b↔_;rw[show f::M++l::C++A++[f]=(f::M)++l::(C++A++[f]) by simp,qQ];rw[show l::(C++A)++[f]=l::(C++A++[f]) by simp]
def kTT(a b:Nat):Nx (A++[f,w,l]++C) a b↔(a=f/\b=w)\/(a=w/\b=l)\/Adj (l::(C++A)++[f]) a b:=by
 rw[show A++[f,w,l]++C=A++(f::w::l::C) by simp,jT];show Adj (f::w::l::C++A++[f]) a b↔_;rw[show f::w::l::C++A++[f]=f::w::l::(C++A++[f]) by simp,zL,zL];rw[show l::(C++A)++[f]=l::(C++A++[f]) by simp]
structure Str(A M C:List Nat)(f l w:Nat):Prop where
 nd:(A++(f::M++[l])++C).Nodup
 fr:w∉A++(f::M++[l])++C
def Str.facts(h:Str A M C f l w):f≠l/\f∉M/\l∉M/\(∀ x,x∈C++A->x≠f/\x≠l/\x∉M)/\f≠w/\l≠w/\w∉M/\w∉C++A:=by
 have m:=(az.mp h.nd).1;have B:=(az.mp h.nd).2.2;have u:=(az.mp m).2.1;have v:=(az.mp m).2.2;have D:=(az.mp u).1;have n:=(az.mp u).2.2;have i:=h.fr;have r:f∈f::M++[l]:=cf _ eW;have s:l∈f::M++[l]:=cm _ (dg.mpr rfl);have o:∀{x},x∈M->x∈f::M++[l]:=λ z=>cf _ (dc _ z);have p:∀{x},x∈f::M++[l]->x∈A++(f::M++[l]):=λ z=>cm _ z;have g:∀{x},x∈f::M++[l]->x≠w:=λ z e=>i (e ▸ cf _ (p z));have d:∀{x y},x∈C++A->y∈f::M++[l]->x≠y:=λ b q e=>(bp.mp b).elim (λ c=>B _ (p q) _ c e.symm) λ a=>v _ a _ q e
 exact⟨n _ eW _ (dg.mpr rfl),(dr.mp D).1,λ z=>n _ (dc _ z) _ (dg.mpr rfl) rfl,
  λ x b=>⟨d b r,d b s,λ z=>d b (o z) rfl⟩,g r,g s,λ z=>g (o z) rfl,
  λ z=>i ((bp.mp z).elim (λ c=>cm _ c) λ a=>cf _ (cf _ a))⟩
theorem Str.j(h:Str A M C f l w){a b:Nat}(j:Adj (l::(C++A)++[f]) a b):(a=l\/a∈C++A)/\(b=f\/b∈C++A):=by
 obtain⟨h1,n,o,c,q,p,g,i⟩:=h.facts;have m:=jC j;have d:=jH (R:=l::(C++A)) (v:=f) (by simp only[cn,not_or];exact⟨h1,λ z=>(c _ z).1 rfl⟩) j;simp only[gi,cn,bp,dg,Ax,fh,or_false]at m ⊢
 grind
def Str.kk(h:Str A M C f l w){a b:Nat}(k:Adj (f::M++[l]) a b):a∈f::M++[l]/\b∈f::M++[l]/\a≠l/\b≠f:=by
 obtain⟨h1,n,d,q,p,o,g,i⟩:=h.facts;have m:=jC k;have c:=jH (R:=f::M) (v:=l) (by simp only[cn,not_or];exact⟨λ e=>h1 e.symm,d⟩) k;refine⟨m.1,vj m.2,c,λ e=>?_⟩;have:=m.2;simp only[gi,Ax,bp,dg]at this
 grind
end
section
variable {L L2:Rows} {A M C:List Nat} {f l:Nat}
end
section
variable {L:Rows} {A M C:List Nat} {f l u:Nat}
end
open Cyc Rnd
section
variable {W:Rows}
def pN{row:List Nat}{p v:Nat}(nd:row.Nodup)(h:Nx row v p):jX row p=some v:=by
 obtain⟨u,a⟩:=wF (kT h).2;rw[a,yA nd h (yG nd (kT h).2 a)]
def pY(nd:∀(p:Nat)(row:List Nat),W[p]?=some row->row.Nodup){p q v:Nat}(h:R W q v p):nxt W (p,q)=(q,v):=by
 obtain⟨row,e,n⟩:=h;unfold nxt;rw[ae,e];show(q,(jX row p).getD 0)=(q,v);rw[pN (nd q row e) n]
 rfl
def cN(nd:∀(p:Nat)(row:List Nat),W[p]?=some row->row.Nodup):(kN W).Nodup:=by
 unfold kN;rw[Ay,CL];refine⟨λ p hp=>?_,?_⟩
 ·have b:=fz.mp hp
  have e:W[p]?=some (W.getD p []):=by rw[ae,aa b];rfl
  have n:=nd p _ e;refine GO _ (λ x y (z:x≠y) e=>z (congrArg Aw e)) n
 ·refine me.imp λ{p q} a=>?_
  intro x d y c e;obtain⟨_,_,rfl⟩:=ft.mp d;obtain⟨_,_,rfl⟩:=ft.mp c;exact a (congrArg Av e)
def xY:∀(W:Rows) ,(kN W).length=(W.map iB).sum:=by
 intro W;unfold kN;rw[Ci]
 congr 1
 refine Bh (by simp) λ i h1 a=>?_;simp at h1 a;simp[ae,h1]
end
theorem kGD(f:Nat->Nat):∀(l:List Nat)(a b:Nat),Adj (l.map f) a b↔∃ x y,Adj l x y/\a=f x/\b=f y
 | [],a,b=>⟨λ h=>h.elim,λ⟨_,_,h,_⟩=>h.elim⟩
 | [z],a,b=>⟨λ h=>h.elim,λ⟨_,_,h,_⟩=>h.elim⟩
 | z::z'::r,a,b=>by
  have c:=kGD f (z'::r) a b;constructor
  ·rintro(⟨rfl,rfl⟩ | h)
   ·exact⟨z,z',.inl ⟨rfl,rfl⟩,rfl,rfl⟩
   ·obtain⟨x,y,h,e⟩:=c.mp h
    exact⟨x,y,.inr h,e⟩
  ·rintro⟨x,y,⟨rfl,rfl⟩ | h,rfl,rfl⟩
   ·exact .inl ⟨rfl,rfl⟩
   ·exact .inr (c.mpr ⟨x,y,h,rfl,rfl⟩)
def kKS(f:Nat->Nat)(l:List Nat)(a b:Nat):Nx (l.map f) a b↔∃ x y,Nx l x y/\a=f x/\b=f y:=by
 unfold Nx;rw[show l.map f++(l.map f).head?.toList=(l++l.head?.toList).map f by cases l<;>simp];exact kGD f _ a b
def Reach.symm{W:Rows}(sym:∀ a b,E W a b->E W b a){a b:Nat}(h:Reach W a b):Reach W b a:=by
 induction h with
 | here=>exact .here _
 | more _ e ih=>exact(Reach.more (.here _) (sym _ _ e)).trans ih
structure Ren(L W:Rows)(ns:List Nat):Prop where
 perm:ns.Perm (df L.length)
 len:W.length=L.length
 at':∀(p:Nat)(row:List Nat),L[p]?=some row->∃ n A B,ns[p]?=some n/\row.map (λ q=>ns.getD q 0)=A++B/\W[n]?=some (B++A)
section
variable {L W:Rows} {ns:List Nat}
def Ren.nlen(h:Ren L W ns):ns.length=L.length:=by rw[h.perm.length_eq,eV]
def Ren.get(h:Ren L W ns){p:Nat}(hp:p<L.length):ns[p]?=some (ns.getD p 0):=by
 rw[ae,aa (by rw[h.nlen];exact hp)]
 rfl
def Ren.lt(h:Ren L W ns){p:Nat}(hp:p<L.length):ns.getD p 0<L.length:=fz.mp (h.perm.mem_iff.mp (cu (h.get hp)))
def Ren.inj(h:Ren L W ns){p q:Nat}(hp:p<L.length)(a:q<L.length)(e:ns.getD p 0=ns.getD q 0):p=q:=by
 have nd:ns.Nodup:=h.perm.nodup_iff.mpr me;have h1:=h.get hp;have b:=h.get a;rw[e,<-b]at h1;exact(ze (by rw[h.nlen];exact hp) nd).mp h1
def Ren.sur(h:Ren L W ns){x:Nat}(a:x<L.length):∃ p,p<L.length/\ns.getD p 0=x:=by
 obtain⟨p,hp,e⟩:=ue (h.perm.mem_iff.mpr (fz.mpr a));rw[h.nlen]at hp;refine⟨p,hp,?_⟩;rw[ae,aa (by rw[h.nlen];exact hp),e]
 rfl
theorem Ren.row(h:Ren L W ns){x:Nat}{c:List Nat}(e:W[x]?=some c):∃ p row,p<L.length/\L[p]?=some row/\x=ns.getD p 0/\c.Perm (row.map λ q=>ns.getD q 0)/\∀ a b,Nx c a b↔Nx (row.map λ q=>ns.getD q 0) a b:=by
 have i:x<L.length:=by rw[<-h.len];exact(ag.mp e).1
 obtain⟨p,hp,rfl⟩:=h.sur i;obtain⟨n,A,B,f,d,g⟩:=h.at' p _ (aa hp);rw[h.get hp]at f;cases f
 rw[e]at g;cases g
 refine⟨p,_,hp,aa hp,rfl,?_,λ a b=>?_⟩
 ·rw[d];exact ig
 ·rw[d];exact jT B A a b
def Ren.to(h:Ren L W ns){p:Nat}{row:List Nat}(e:L[p]?=some row):∃ row',W[ns.getD p 0]?=some row'/\row'.Perm (row.map λ q=>ns.getD q 0)/\∀ a b,Nx row' a b↔Nx (row.map λ q=>ns.getD q 0) a b:=by
 have hp:=(ag.mp e).1;obtain⟨n,A,B,d,c,f⟩:=h.at' p _ e;rw[h.get hp]at d;cases d
 exact⟨_,f,by rw[c];exact ig,λ a b=>by rw[c];exact jT B A a b⟩
def Ren.r_to(h:Ren L W ns){q a b:Nat}(r:R L q a b):R W (ns.getD q 0) (ns.getD a 0) (ns.getD b 0):=by
 obtain⟨row,e,n⟩:=r;obtain⟨c,f,_,d⟩:=h.to e;exact⟨c,f,(d _ _).mpr ((kKS _ _ _ _).mpr ⟨a,b,n,rfl,rfl⟩)⟩
def Ren.r_of(h:Ren L W ns){q a b:Nat}(r:R W q a b):∃ q' a' b',R L q' a' b'/\q=ns.getD q' 0/\a=ns.getD a' 0/\b=ns.getD b' 0:=by
 obtain⟨c,g,n⟩:=r;obtain⟨p,row,hp,e,rfl,_,f⟩:=h.row g;obtain⟨x,y,d,rfl,rfl⟩:=(kKS _ _ _ _).mp ((f _ _).mp n);exact⟨p,x,y,⟨row,e,d⟩,rfl,rfl,rfl⟩
def Ren.e_to(h:Ren L W ns){a b:Nat}(r:E L a b):E W (ns.getD a 0) (ns.getD b 0):=by
 obtain⟨row,e,m⟩:=r;obtain⟨c,f,d,_⟩:=h.to e;exact⟨c,f,d.mem_iff.mpr (ft.mpr ⟨b,m,rfl⟩)⟩
def Ren.e_of(h:Ren L W ns){a b:Nat}(r:E W a b):∃ x y,E L x y/\a=ns.getD x 0/\b=ns.getD y 0:=by
 obtain⟨c,g,m⟩:=r;obtain⟨p,row,hp,e,rfl,d,_⟩:=h.row g;obtain⟨y,f,rfl⟩:=ft.mp (d.mem_iff.mp m);exact⟨p,y,⟨row,e,f⟩,rfl,rfl⟩
def tN(G:Good L)(h:Ren L W ns):Good W:=by
 have sym:∀ a b,E W a b->E W b a:=λ a b r=>by
  obtain⟨x,y,s,rfl,rfl⟩:=h.e_of r;exact h.e_to (G.sym s)
 have reach:∀{x y:Nat},Reach L x y->Reach W (ns.getD x 0) (ns.getD y 0):=λ r=>by
  induction r with
  | here=>exact .here _
  | more _ e ih=>exact .more ih (h.e_to e)
 have d:∀ x,x<L.length->Reach W (ns.getD 0 0) x:=λ x n=>by
  obtain⟨p,hp,rfl⟩:=h.sur n;exact reach (G.con p hp)
 refine⟨by rw[h.len];exact G.three,λ p c e=>?_,λ p c e=>?_,λ p c a e m=>?_,λ q a b r=>?_,λ p hp=>?_,?_⟩
 ·obtain⟨x,row,n,f,rfl,l,_⟩:=h.row e
  intro z;subst z;have:=l.length_eq;rw[af]at this;exact G.ne _ _ f (iu.mp this.symm)
 ·obtain⟨x,row,n,f,rfl,l,_⟩:=h.row e
  refine l.nodup_iff.mpr ?_;rw[Ay,iY];exact FR (λ{u v} M B z e=>z (h.inj (G.rng _ _ _ f M).1 (G.rng _ _ _ f B).1 e)) (G.nd _ _ f)
 ·obtain⟨x,row,n,f,rfl,l,_⟩:=h.row e
  obtain⟨y,D,rfl⟩:=ft.mp (l.mem_iff.mp m);obtain⟨A,J⟩:=G.rng _ _ _ f D;exact⟨by rw[h.len];exact h.lt A,λ e=>J (h.inj A n e)⟩
 ·obtain⟨Q,N,O,s,rfl,rfl,rfl⟩:=h.r_of r
  exact h.r_to (G.tri _ _ _ s)
 ·rw[h.len]at hp
  have three:=G.three;exact(d 0 (by omega)).symm sym |>.trans (d p hp)
 ·have g:∀(V:Rows),V.map iB=(df V.length).map λ x=>(V.getD x []).length:=λ V=>by
   refine Bh (by simp) λ i h1 o=>?_;simp at h1 o;simp[ae,h1]
  have f:(W.map iB).sum=(ns.map λ x=>(W.getD x []).length).sum:=by
   rw[g W,h.len];exact(h.perm.symm.map _).sum_nat
  have C:(ns.map λ x=>(W.getD x []).length)=L.map iB:=by
   refine Bh (by simp[h.nlen]) λ i h1 o=>?_;simp at h1 o;obtain⟨c,H,l,_⟩:=h.to (aa o);have I:ns[i]=ns.getD i 0:=by simp[ae,h1]
   have:=l.length_eq;rw[af]at this;simp only[AE];rw[I,ae,H];exact this
  rw[f,C,h.len];exact G.tot
end
def Ro(r a:List Nat):Prop:=∃ A B,r=A++B/\a=B++A
def Ro.symm{r a:List Nat}:Ro r a->Ro a r:=λ⟨A,B,h1,b⟩=>⟨B,A,b,h1⟩
def Ro.trans{r d b:List Nat}:Ro r d->Ro d b->Ro r b:=by
 rintro⟨A,B,rfl,rfl⟩ ⟨C,D,h1,rfl⟩;rcases List.append_eq_append_iff.mp h1 with⟨a,rfl,rfl⟩ | ⟨c,rfl,rfl⟩
 ·exact⟨a,D++B,by simp,by simp⟩
 ·exact⟨A++C,c,by simp,by simp⟩
def Ro.perm{r a:List Nat}:Ro r a->r.Perm a:=by
 rintro⟨A,B,rfl,rfl⟩;exact ig
def Ro.mem{r a:List Nat}(h:Ro r a)(x:Nat):x∈r↔x∈a:=h.perm.mem_iff
def Ro.nd{r a:List Nat}(h:Ro r a):r.Nodup↔a.Nodup:=h.perm.nodup_iff
def Ro.nx{r c:List Nat}(h:Ro r c)(a b:Nat):Nx r a b↔Nx c a b:=by
 obtain⟨A,B,rfl,rfl⟩:=h;exact jT A B a b
def Can(r:List Nat):Prop:=∀ x∈r,r.headD 0<=x
def rot(row:List Nat)(M:Nat):List Nat:=row.drop (row.idxOf M)++row.take (row.idxOf M)
def bS(row:List Nat)(M:Nat):Ro row (rot row M):=⟨row.take (row.idxOf M),row.drop (row.idxOf M),(gh _ _).symm,rfl⟩
def kEL{row:List Nat}{M:Nat}(h:M∈row)(c:∀ i∈row,M<=i):Can (rot row M):=by
 intro x d;have a:=c x (((bS row M).mem x).mpr d);have b:=fj h;unfold rot;rw[qj b,Az b];exact a
structure Nb(L:Rows):Prop where
 nd:∀(p:Nat)(row:List Nat),L[p]?=some row->row.Nodup
 rng:∀(p:Nat)(row:List Nat)(a:Nat),L[p]?=some row->a∈row->a<L.length/\a≠p
 sym:∀ a b,E L a b->E L b a
structure Wb(L:Rows):Prop extends Nb L where
 three:3<=L.length
 con:∀ p,p<L.length->Reach L 0 p
theorem Nb.e{L:Rows}(S:Nb L){p q:Nat}(h:E L p q):p<L.length/\q<L.length/\q≠p:=by
 obtain⟨row,e,m⟩:=h;exact⟨(ag.mp e).1,(S.rng p row q e m).1,(S.rng p row q e m).2⟩
def Nb.len{L:Rows}(S:Nb L){p:Nat}{row:List Nat}(h:L[p]?=some row):row.length<=L.length:=by
 have:=eI (S.nd p row h) (l₂:=df L.length) λ x a=>fz.mpr (S.rng p row x h a).1;rwa[eV]at this
def Wb.of{L:Rows}(G:Good L):Wb L:=⟨⟨G.nd,G.rng,λ a b h=>G.sym h⟩,G.three,G.con⟩
def xK{W:Rows}(S:Nb W){x y:Nat}(h:E W x y):∃ z,R W y z x/\nxt W (x,y)=(y,z)/\E W y z:=by
 obtain⟨row,e,m⟩:=S.sym _ _ h;obtain⟨z,n⟩:=kSI m;exact⟨z,⟨row,e,n⟩,pY S.nd ⟨row,e,n⟩,⟨row,e,(kT n).1⟩⟩
def kFI{W:Rows}(S:Nb W){x y:Nat}(h:E W x y)(n:Nat):E W (it (nxt W) n (x,y)).1 (it (nxt W) n (x,y)).2:=by
 have:=(gD S.nd S.sym).it n (mem_steps.mpr h);exact mem_steps.mp this
def kQU{α:Type}[DecidableEq α](f:α->α)(x:α){k:Nat}(h:it f k x=x)(n:Nat):it f (k*n) x=x:=by
 induction n with
 | zero=>rfl
 | succ n ih=>rw[Nat.mul_succ,vO,h,ih]
def kCY{α:Type}[DecidableEq α](f:α->α)(x:α){k:Nat}(h:it f k x=x)(n:Nat):it f n x=it f (n % k) x:=by
 conv=>lhs;rw[<-Nat.mod_add_div n k]
 rw[vO,kQU f x h]
end Tri
local macro_rules | `(tactic| walk_at "sort_open gallop")=>`(tactic| delta $(Lean.mkIdent (Lean.mkPrivateNameCore `PySem.Builtin.List.W1All `PySem.Builtin.gallop)):ident)
namespace Srt
set_option autoImplicit false
open PySem PyProof.Rows
def wR:Bool->bb->Array bb->Nat->Nat->Nat->StateT eJ Sem (Option Nat):=sortPriv% PySem.Builtin.gallop
def bI(left:Bool)(key:bb)(arr:Array bb)(base:Nat)(i:Nat):StateT eJ Sem (Option Bool):=do
 let x <-elem' arr (base+i)
 if left then lt' x key else return (<-lt' key x).map (!·)
section
variable {M:xu} {A:ed} {E:ai->ao->Prop} {s:ao}
def kOU(left:Bool)(key:bb)(arr:Array bb)(base n a b:Nat):StateT eJ Sem (Option Nat):=do
 let mut lo:=a
 let mut hi:=b
 for _ in [0:n] do
  if lo >= hi then break
  let m:=lo+(hi-lo) / 2
  let some more <-bI left key arr base m | return none
  if more then lo:=m+1 else hi:=m
 return some hi
variable {left:Bool} {key:bb} {arr:Array bb} {base n hint:Nat} {Q:Option Nat->eJ->Prop} {st:eJ}
def mL(b:Nat->Bool){lo hi:Nat}
  (u:∀ i,i<n->∀ Q:Option Bool->eJ->Prop,Q (some (b i)) st->wpS M A E s (bI left key arr base i) Q st)
  (mono:∀ i j,i<=j->j<n->b j=true->b i=true) (p:lo<=hi) (B:hi<=n) (h1:∀ i,i<lo->b i=true) (D:∀ i,hi<=i->i<n->b i=false)
  (h:∀ k,k<=n->(∀ i,i<k->b i=true)->(∀ i,k<=i->i<n->b i=false)->Q (some k) st):wpS M A E s (kOU left key arr base n lo hi) Q st:=by
 unfold kOU
 refine cg (sd (iU (I:=λ x c a=>a=st/\∃ l r,c=(none,l,r)/\l<=r/\r<=n/\r-l<=n-x/\(∀ i,i<l->b i=true)/\∀ i,r<=i->i<n->b i=false)
  (Q:=λ c a=>a=st/\∃ l,c=(none,l,l)/\l<=n/\(∀ i,i<l->b i=true)/\∀ i,l<=i->i<n->b i=false) ?step ?fin ⟨rfl,lo,hi,rfl,p,B,by omega,h1,D⟩) ?post)
 case post =>
  rintro c a ⟨rfl,l,rfl,q,f,g⟩;exact cy (h l q f g)
 case fin =>
  rintro c a ⟨rfl,l,r,rfl,y,o,d,f,g⟩;have:l=r:=by omega
  subst this;exact⟨rfl,l,rfl,o,f,g⟩
 case step =>
  rintro x c a _ G ⟨rfl,l,r,rfl,y,o,d,f,g⟩;dsimp only;by_cases m:l >= r
  ·rw[if_pos m]
   have:l=r:=by omega
   subst this;exact cy ⟨rfl,l,rfl,o,f,g⟩
  ·rw[if_neg m]
   refine cg (u _ (by omega) _ ?_)
   cases e:b (l+(r-l) / 2)
   case true =>
    simp only[if_true];exact cy ⟨rfl,_,r,rfl,by omega,o,by omega,λ i hi=>mono i _ (by omega) (by omega) e,g⟩
   case false =>
    simp only[eA,if_false];refine cy ⟨rfl,l,_,rfl,by omega,by omega,by omega,f,λ i C v=>?_⟩
    cases z:b i with
    | false=>rfl
    | true=>rw[mono _ i C v z]at e;cases e
def kBF(b:Nat->Bool)
  (m:∀ i,i<n->∀ Q:Option Bool->eJ->Prop,Q (some (b i)) st->wpS M A E s (bI left key arr base i) Q st)
  (mono:∀ i j,i<=j->j<n->b j=true->b i=true) (B:hint<n)
  (h:∀ k,k<=n->(∀ i,i<k->b i=true)->(∀ i,k<=i->i<n->b i=false)->Q (some k) st):wpS M A E s (wR left key arr base n hint) Q st:=by
 unfold wR
 walk_at "sort_open gallop"
 dsimp only
 have nf:∀{i j:Nat},i<=j->j<n->b i=false->b j=false:=λ{i j} h1 D e=>by
  cases z:b j with
  | false=>rfl
  | true=>rw[mono i j h1 D z]at e;cases e
 refine cg (m hint B _ ?_)
 cases e:b hint
 case true =>
  simp only[if_true]
  refine cg (sd (iU (I:=λ x c a=>a=st/\∃ l o,c=(none,l,o)/\l<o/\x+1<=o/\hint+l<n/\b (hint+l)=true)
   (Q:=λ c a=>a=st/\∃ l o,c=(none,l,o)/\l<o/\hint+l<n/\b (hint+l)=true/\(n-hint<=o\/(hint+o<n/\b (hint+o)=false))) ?step ?fin ⟨rfl,0,1,rfl,by omega,by omega,by omega,e⟩) ?post)
  case fin =>
   rintro c a ⟨rfl,l,o,rfl,lo,r,g,f⟩;exact⟨rfl,l,o,rfl,lo,g,f,.inl (by omega)⟩
  case step =>
   rintro x c a _ G ⟨rfl,l,o,rfl,lo,r,g,f⟩;dsimp only;by_cases d:o >= n-hint
   ·rw[if_pos d]
    exact cy ⟨rfl,l,o,rfl,lo,g,f,.inl d⟩
   ·rw[if_neg d]
    refine cg (m _ (by omega) _ ?_)
    cases z:b (hint+o)
    case true =>
     simp only[yb,eA,if_false];exact cy ⟨rfl,o,_,rfl,by omega,by omega,by omega,z⟩
    case false =>
     simp only[Eh,if_true];exact cy ⟨rfl,l,o,rfl,lo,g,f,.inr ⟨by omega,z⟩⟩
  case post =>
   rintro c a ⟨rfl,l,o,rfl,lo,g,f,q⟩;refine mL (lo:=hint+l+1) (hi:=hint+min o (n-hint)) b m mono (by omega) (by omega) (λ i v=>mono i (hint+l) (by omega) g f) (λ i y p=>?_) h;rcases q with z | ⟨C,u⟩
   ·omega
   ·exact nf (i:=hint+o) (by omega) p u
 case false =>
  simp only[eA,if_false]
  refine cg (sd (iU (I:=λ x c a=>a=st/\∃ l o,c=(none,l,o)/\l<o/\x+1<=o/\l<=hint/\b (hint-l)=false)
   (Q:=λ c a=>a=st/\∃ l o,c=(none,l,o)/\l<o/\l<=hint/\b (hint-l)=false/\(hint+1<=o\/(o<=hint/\b (hint-o)=true))) ?step ?fin ⟨rfl,0,1,rfl,by omega,by omega,by omega,e⟩) ?post)
  case fin =>
   rintro c a ⟨rfl,l,o,rfl,lo,r,g,f⟩;exact⟨rfl,l,o,rfl,lo,g,f,.inl (by omega)⟩
  case step =>
   rintro x c a _ G ⟨rfl,l,o,rfl,lo,r,g,f⟩;dsimp only;by_cases d:o >= hint+1
   ·rw[if_pos d]
    exact cy ⟨rfl,l,o,rfl,lo,g,f,.inl d⟩
   ·rw[if_neg d]
    refine cg (m _ (by omega) _ ?_)
    cases z:b (hint-o)
    case false =>
     simp only[eA,if_false];exact cy ⟨rfl,o,_,rfl,by omega,by omega,by omega,z⟩
    case true =>
     simp only[if_true];exact cy ⟨rfl,l,o,rfl,lo,g,f,.inr ⟨by omega,z⟩⟩
  case post =>
   rintro c a ⟨rfl,l,o,rfl,lo,g,f,q⟩;refine mL (lo:=hint+1-min o (hint+1)) (hi:=hint-l) b m mono (by omega) (by omega) (λ i v=>?_) (λ i y p=>nf (i:=hint-l) y p f) h;rcases q with z | ⟨C,u⟩
   ·omega
   ·exact mono i (hint-o) (by omega) (by omega) u
end
section
variable {α:Type}
structure Wk(lb:α->α->Bool):Prop where
 irr:∀ a,lb a a=false
 neg:∀ a b c,lb a c=true->lb a b=true\/lb b c=true
 tr:∀ a b c,lb a b=true->lb b c=true->lb a c=true
variable {lb:α->α->Bool}
def le(lb:α->α->Bool)(a b:α):Prop:=lb b a=false
def Wk.refl(W:Wk lb)(a:α):le lb a a:=W.irr a
def Wk.of_lt(W:Wk lb){a b:α}(h:lb a b=true):le lb a b:=by
 unfold le
 cases e:lb b a with
 | false=>rfl
 | true=>have:=W.tr _ _ _ h e;rw[W.irr]at this;cases this
def Wk.trans(W:Wk lb){a b c:α}(h:le lb a b)(k:le lb b c):le lb a c:=by
 unfold le at *
 cases e:lb c a with
 | false=>rfl
 | true =>
  rcases W.neg c b a e with z | z
  ·rw[k]at z;cases z
  ·rw[h]at z;cases z
def qY(lb:α->α->Bool)(l:List α):Prop:=l.Pairwise (le lb)
structure Mg(lb:α->α->Bool)(A B:List α)(out ra rb:List α):Prop where
 sa:qY lb (out++ra)
 sb:qY lb (out++rb)
 pm:(out++(ra++rb)).Perm (A++B)
def Mg.moveA{A B a c g b:List α}(h:Mg lb A B a (c++g) b)(l:∀ x∈c,∀ y∈b,le lb x y):Mg lb A B (a++c) g b:=by
 refine⟨by rw[de];exact h.sa,?_,?_⟩
 ·have h1:=di.mp h.sa
  have d:=di.mp h.sb;have i:=di.mp h1.2.1;rw[qY,de];refine di.mpr ⟨h1.1,di.mpr ⟨i.1,d.2.1,l⟩,λ x f y m=>?_⟩;rcases bp.mp m with z | z
  ·exact h1.2.2 x f y (cf _ z)
  ·exact d.2.2 x f y z
 ·refine qr ?_ h.pm
  simp only[de];exact zf _
def Mg.swap{A B a c b:List α}(h:Mg lb A B a c b):Mg lb B A a b c :=
 ⟨h.sb,h.sa,((ig).append_left a).trans (h.pm.trans ig)⟩
def Mg.moveB{A B a c b d:List α}(h:Mg lb A B a b (c++d))(f:∀ x∈c,∀ y∈b,le lb x y):Mg lb A B (a++c) b d:=(h.swap.moveA f).swap
def Res(lb:α->α->Bool)(A B r:List α):Prop:=qY lb r/\r.Perm (A++B)
def Mg.endA{A B a b:List α}(h:Mg lb A B a b []):Res lb A B (a++b++[]):=⟨by simpa using h.sa,by simpa using h.pm⟩
def Mg.endB{A B a b:List α}(h:Mg lb A B a [] b):Res lb A B (a++[]++b):=⟨by simpa using h.sb,by simpa using h.pm⟩
def Mg.last{A B a b:List α}{z:α}(h:Mg lb A B a [z] b)(hz:∀ y∈b,le lb y z):Res lb A B (a++b++[z]):=by
 refine⟨?_,?_⟩
 ·have h1:=di.mp h.sa
  have f:=di.mp h.sb;refine di.mpr ⟨h.sb,jr _ _,λ x d y c=>?_⟩;have:y=z:=by simpa using c
  subst this;rcases bp.mp d with w | w
  ·exact h1.2.2 x w y (by simp)
  ·exact hz x w
 ·refine qr ?_ h.pm
  rw[de];exact ig.append_left a
end
def gH:Array bb->Array bb->StateT eJ Sem (Array bb):=sortPriv% PySem.Builtin.mergeLo
def xB:Nat->StateT eJ Sem Unit:=sortPriv% PySem.Builtin.setMinGallop
abbrev zP(st:eJ)(g:Nat):eJ:=Bu (kindOf st) (cw st) (cv st) g (se st)
def setMinGallop'_eq(g:Nat):xB g=modify λ s=>zP s g:=rfl
end Srt
local macro_rules | `(tactic| walk_at "sort_open mergeLo")=>`(tactic| delta $(Lean.mkIdent (Lean.mkPrivateNameCore `PySem.Builtin.List.W1All `PySem.Builtin.mergeLo)):ident)
namespace Srt
set_option autoImplicit false
open PySem PyProof.Rows
section
variable {M:xu} {A:ed} {E:ai->ao->Prop} {s:ao} {lb:bb->bb->Bool} {D:bb->Prop} {kd:jh}
def vA(M:xu)(A:ed)(E:ai->ao->Prop)(s:ao)(lb:bb->bb->Bool)(D:bb->Prop)(kd:jh):Prop :=
 ∀ x y,D x->D y->∀(st:eJ)(Q:Option Bool->eJ->Prop),kindOf st=kd->Q (some (lb x y)) st->wpS M A E s (lt' x y) Q st
def kZ{arr:Array bb}{i:Nat}{p:bb}{Q:bb->eJ->Prop}{st:eJ}(h:arr[i]?=some p)(q:Q p st):wpS M A E s (elem' arr i) Q st:=by
 rw[elem'_eq,h];exact cy q
def Sm(st a:eJ):Prop:=kindOf a=kindOf st/\cw a=cw st/\cv a=cv st/\se a=se st
def Sm.refl(st:eJ):Sm st st:=⟨rfl,rfl,rfl,rfl⟩
def Sm.gal{st a:eJ}(h:Sm st a)(g:Nat):Sm st (zP a g):=h
def zU{x:String}{Q:Unit->eJ->Prop}{st:eJ}(q:Q () st):wpS M A E s (liftM (rule x):StateT eJ Sem Unit) Q st:=GC (AB ⟨rfl,q⟩)
def kBH(a:vA M A E s lb D kd){left:Bool}{key x:bb}{arr:Array bb}{base i:Nat}{Q:Option Bool->eJ->Prop}{st:eJ}(c:kindOf st=kd)(f:arr[base+i]?=some x)(b:D key)(d:D x)
  (q:Q (some (if left then lb x key else !lb key x)) st):wpS M A E s (bI left key arr base i) Q st:=by
 unfold bI;refine cg (kZ f ?_)
 cases left with
 | true =>
  simp only[if_true]at q ⊢;exact a _ _ d b st _ c q
 | false =>
  simp only[eA,if_false]at q ⊢;exact cg (a _ _ b d st _ c (cy q))
def vW(W:Wk lb)(f:vA M A E s lb D kd){left:Bool}{key:bb}{arr:Array bb}{base n b:Nat}{Q:Option Nat->eJ->Prop}{st:eJ}(o:kindOf st=kd)(l:D key)(u:∀ x∈arr.toList,D x)
  (v:base+n<=arr.size) (m:∀ i j (hi:i<=j) (d:j<n),le lb (arr[base+i]'(by omega)) (arr[base+j]'(by omega))) (r:b<n)
  (h:∀ k,k<=n->(∀ i (hi:i<k) (a:i<n),if left then lb (arr[base+i]'(by omega)) key=true else le lb (arr[base+i]'(by omega)) key) ->
   (∀ i (hi:k<=i) (a:i<n),if left then le lb key (arr[base+i]'(by omega)) else lb key (arr[base+i]'(by omega))=true)->Q (some k) st):wpS M A E s (wR left key arr base n b) Q st:=by
 have g:∀ i,i<n->arr[base+i]?=some (arr.getD (base+i) key):=λ i hi=>by
  rw[getElem?_pos arr (base+i) (by omega)]
  congr 1
  simp[GJ,show base+i<arr.size by omega]
 have c:∀ i (hi:i<n),arr.getD (base+i) key=arr[base+i]'(by omega):=λ i hi=>by simp[GJ,show base+i<arr.size by omega]
 refine kBF (λ i=>if left then lb (arr.getD (base+i) key) key else !lb key (arr.getD (base+i) key)) (λ i hi Q q=>kBH f o (g i hi) l (by rw[c i hi];exact u _ (by simp)) q) (λ i j hi d e=>?_) r (λ k kn h1 p=>h k kn (λ i hi a=>?_) (λ i hi a=>?_))
 ·have:=m i j hi d
  rw[c i (by omega)];rw[c j d]at e
  cases left with
  | true =>
   simp only[if_true]at e ⊢;rcases W.neg _ (arr[base+i]'(by omega)) _ e with z | z
   ·rw[show lb _ _=false from this]at z;cases z
   ·exact z
  | false =>
   simp only[eA,if_false,DZ]at e ⊢;exact W.trans (lb:=lb) this (show le lb _ _ from e)
 ·have:=h1 i hi
  rw[c i a]at this
  cases left with
  | true=>simpa using this
  | false=>simp only[eA,if_false,DZ]at this ⊢;exact this
 ·have:=p i hi a
  rw[c i a]at this
  cases left with
  | true=>simp only[if_true]at this ⊢;exact this
  | false=>simp only[eA,if_false,Bool.not_eq_false']at this ⊢;exact this
abbrev LS:=Option (Array bb)×Array bb×Nat×Nat×Nat×Nat×Nat
section
variable (a b:Array bb)
def pC(c:Array bb)(d f g k h:Nat):StateT eJ Sem (ForInStep LS):=do
 let x <-elem' a d
 if(d+1+1 == a.size)=true then pure (.done (some (c.push x++b.extract f++a.extract (d+1)),c.push x,d+1,f,g,k,h))
 else if(decide (k<7) && decide (h<7))=true then pure (.done (none,c.push x,d+1,f,g,k,h)) else pure (.yield (none,c.push x,d+1,f,g,k,h))
def pB(d:Array bb)(f c g k ob:Nat):StateT eJ Sem (ForInStep LS):=do
 let y <-elem' b c
 if(c+1 == b.size)=true then pure (.done (some (d.push y++a.extract f++b.extract (c+1)),d.push y,f,c+1,g,k,ob))
 else do
  let x <-elem' a f
  let r <-wR true x b (c+1) (b.size-(c+1)) 0
  match r with
  | some k1 =>
   if k1>0 then
    if(c+1+k1 == b.size)=true then pure (.done (some (d.push y++b.extract (c+1) (c+1+k1)++a.extract f++b.extract (c+1+k1)),d.push y++b.extract (c+1) (c+1+k1),f,c+1+k1,g,k,k1))
    else pC a b (d.push y++b.extract (c+1) (c+1+k1)) f (c+1+k1) g k k1
   else pC a b (d.push y) f (c+1) g k k1
  | x=>pure (.done (some (d.push y++a.extract f++b.extract (c+1)),d.push y,f,c+1,g,k,ob))
def pA(d:Array bb)(c f g h ob:Nat):StateT eJ Sem (ForInStep LS):=do
 xB g
 let y <-elem' b f
 let r <-wR false y a c (a.size-c) 0
 match r with
 | some k =>
  if k>0 then
   if(c+k+1 == a.size)=true then pure (.done (some (d++a.extract c (c+k)++b.extract f++a.extract (c+k)),d++a.extract c (c+k),c+k,f,g,k,ob))
   else if(c+k == a.size)=true then pure (.done (some (d++a.extract c (c+k)++a.extract (c+k)++b.extract f),d++a.extract c (c+k),c+k,f,g,k,ob))
   else pB a b (d++a.extract c (c+k)) (c+k) f g k ob
  else pB a b d c f g k ob
 | x=>pure (.done (some (d++a.extract c++b.extract f),d,c,f,g,h,ob))
abbrev LS1:=Option (Array bb)×Array bb×Nat×Nat×Nat×Nat
def p1(mg:Nat)(c:LS1):StateT eJ Sem (ForInStep LS1):=do
 let y <-elem' b c.2.2.2.1
 let x <-elem' a c.2.2.1
 let r <-lt' y x
 match r with
 | some bw =>
  if bw=true then do
   let y <-elem' b c.2.2.2.1
   if(c.2.2.2.1+1 == b.size)=true then pure (.done (some (c.2.1.push y++a.extract c.2.2.1++b.extract (c.2.2.2.1+1)),c.2.1.push y,c.2.2.1,c.2.2.2.1+1,0,c.2.2.2.2.2+1))
   else if c.2.2.2.2.2+1 >= mg then pure (.done (none,c.2.1.push y,c.2.2.1,c.2.2.2.1+1,0,c.2.2.2.2.2+1))
   else pure (.yield (none,c.2.1.push y,c.2.2.1,c.2.2.2.1+1,0,c.2.2.2.2.2+1))
  else do
   let x <-elem' a c.2.2.1
   if(c.2.2.1+1+1 == a.size)=true then pure (.done (some (c.2.1.push x++b.extract c.2.2.2.1++a.extract (c.2.2.1+1)),c.2.1.push x,c.2.2.1+1,c.2.2.2.1,c.2.2.2.2.1+1,0))
   else if c.2.2.2.2.1+1 >= mg then pure (.done (none,c.2.1.push x,c.2.2.1+1,c.2.2.2.1,c.2.2.2.2.1+1,0))
   else pure (.yield (none,c.2.1.push x,c.2.2.1+1,c.2.2.2.1,c.2.2.2.2.1+1,0))
 | x=>pure (.done (some (c.2.1++a.extract c.2.2.1++b.extract c.2.2.2.1),c.2.1,c.2.2.1,c.2.2.2.1,c.2.2.2.2.1,c.2.2.2.2.2))
abbrev LS0:=Option (Array bb)×Array bb×Nat×Nat×Nat
def p0(c:LS0):StateT eJ Sem (ForInStep LS0):=do
 let d <-forIn [:a.size+b.size] ((none,c.2.1,c.2.2.1,c.2.2.2.1,0,0):LS1) λ x d=>p1 a b c.2.2.2.2 d
 match d.1 with
 | some r=>pure (.done (some r,d.2.1,d.2.2.1,d.2.2.2.1,c.2.2.2.2))
 | none=>do
  liftM (rule "list.sort.gallop")
  let f <-forIn [:a.size+b.size] ((none,d.2.1,d.2.2.1,d.2.2.2.1,c.2.2.2.2+1,d.2.2.2.2.1,d.2.2.2.2.2):LS) λ x f =>
   if f.2.2.2.2.1>1 then pA a b f.2.1 f.2.2.1 f.2.2.2.1 (f.2.2.2.2.1-1) f.2.2.2.2.2.1 f.2.2.2.2.2.2 else pA a b f.2.1 f.2.2.1 f.2.2.2.1 f.2.2.2.2.1 f.2.2.2.2.2.1 f.2.2.2.2.2.2
  match f.1 with
  | some r=>pure (.done (some r,f.2.1,f.2.2.1,f.2.2.2.1,f.2.2.2.2.1))
  | none=>do
   xB (f.2.2.2.2.1+1)
   pure (.yield (none,f.2.1,f.2.2.1,f.2.2.2.1,f.2.2.2.2.1+1))
def mergeLo'_parts:gH a b=(do
  liftM (rule "list.sort.merge-lo")
  let y <-elem' b 0
  if(1 == b.size)=true then pure (#[y]++a.extract 0++b.extract 1)
  else if(0+1 == a.size)=true then pure (#[y]++b.extract 1++a.extract 0)
  else do
   let st <-get
   let c <-forIn [:a.size+b.size] ((none,#[y],0,1,gallopOf st):LS0) λ x c=>p0 a b c
   match c.1 with
   | some r=>pure r
   | none=>unsupported "internal:list.sort.merge-bound"):=by
 unfold gH
 walk_at "sort_open mergeLo"
 dsimp only;refine congrArg _ (funext λ _=>?_);refine congrArg _ (funext λ y=>?_);refine congrArg _ ?_;refine congrArg _ ?_;refine congrArg _ (funext λ st=>?_);refine congr (congrArg _ (congrArg _ (funext λ x=>funext λ c=>?_))) (funext λ c=>by cases c.1<;>rfl);unfold p0;refine congr (congrArg _ (congrArg _ (funext λ x=>funext λ d=>?_))) (funext λ d=>?_)
 ·unfold p1
  refine congrArg _ (funext λ _=>?_);refine congrArg _ (funext λ _=>?_);refine congrArg _ (funext λ r=>?_);cases r<;>rfl
 ·cases d.1 with
  | some r=>rfl
  | none =>
   dsimp only;refine congrArg _ (funext λ _=>?_);refine congr (congrArg _ (congrArg _ (funext λ x=>funext λ f=>?_))) (funext λ f=>by cases f.1<;>rfl);have tail:∀(h:Array bb)(m l g k i:Nat),True:=λ _ _ _ _ _ _=>trivial;refine ite_congr rfl (λ _=>?_) (λ _=>?_)
   all_goals
    unfold pA;refine congrArg _ (funext λ _=>?_);refine congrArg _ (funext λ y=>?_);refine congrArg _ (funext λ r=>?_)
    cases r with
    | none=>rfl
    | some k =>
     dsimp only;refine ite_congr rfl (λ _=>ite_congr rfl (λ _=>rfl) (λ _=>ite_congr rfl (λ _=>rfl) (λ _=>?_))) (λ _=>?_)
     all_goals
      unfold pB;refine congrArg _ (funext λ y=>?_);refine ite_congr rfl (λ _=>rfl) (λ _=>?_);refine congrArg _ (funext λ x=>?_);refine congrArg _ (funext λ r=>?_);cases r<;>rfl
end
end
section
variable {α:Type}
def wB(a:Array α)(i:Nat):(a.extract i).toList=a.toList.drop i:=by
 rw[sf,kg];exact jd (by simp)
def jV(a:Array α)(i k:Nat):(a.extract i (i+k)).toList=(a.toList.drop i).take k:=by
 rw[sf,kg]
 congr 1
 omega
def xF{a:Array α}{i:Nat}(h:i<a.size):a.toList.drop i=[a[i]]++a.toList.drop (i+1):=by
 rw[qj (by simpa using h)]
 rfl
def kDE(l:List α)(i k:Nat):l.drop i=(l.drop i).take k++l.drop (i+k):=by
 conv=>lhs;rw[<-gh k (l.drop i)]
 rw[zg]
end
section
variable {M:xu} {A:ed} {E:ai->ao->Prop} {s:ao} {lb:bb->bb->Bool} {D:bb->Prop} {kd:jh} {a b:Array bb}
structure Hy(M:xu)(A:ed)(E:ai->ao->Prop)(s:ao)(lb:bb->bb->Bool)(D:bb->Prop)(kd:jh)(a b:Array bb):Prop where
 W:Wk lb
 L:vA M A E s lb D kd
 da:∀ x∈a.toList,D x
 db:∀ x∈b.toList,D x
 sa:qY lb a.toList
 sb:qY lb b.toList
 last:∀(h:0<a.size),∀ y∈b.toList,le lb y a[a.size-1]
def MI(lb:bb->bb->Bool)(a b:Array bb)(c:Array bb)(d f:Nat):Prop :=
 Mg lb a.toList b.toList c.toList (a.toList.drop d) (b.toList.drop f)/\d+1<a.size/\f<b.size/\c.size=d+f
def Yd(lb:bb->bb->Bool)(a b:Array bb)(n:Nat){d:Type}(c:Option (Array bb)×Array bb×Nat×Nat×d):Prop:=c.1=none/\MI lb a b c.2.1 c.2.2.1 c.2.2.2.1/\n<=c.2.1.size
def Dn(lb:bb->bb->Bool)(a b:Array bb)(n:Nat){d:Type}(c:Option (Array bb)×Array bb×Nat×Nat×d):Prop:=(∃ r,c.1=some r/\Res lb a.toList b.toList r.toList)\/Yd lb a b n c
def RR(lb:bb->bb->Bool)(a b:Array bb)(n:Nat){d:Type}:ForInStep (Option (Array bb)×Array bb×Nat×Nat×d)->Prop
 | .done c=>Dn lb a b n c
 | .yield c=>Yd lb a b n c
def zN(W:Wk lb){a:Array bb}(h:qY lb a.toList){i j:Nat}(b:i<=j)(c:j<a.size):le lb (a[i]'(by omega)) a[j]:=by
 by_cases e:i=j
 ·subst e;exact W.refl _
 ·have:=iX.mp h i j (by simp;omega) (by simp;omega) (by omega)
  simpa using this
def yC{a:Array bb}{i:Nat}{x:bb}(h:x∈a.toList.drop i):∃ j,∃ hj:j<a.size,i<=j/\x=a[j]:=by
 obtain⟨k,b,e⟩:=eY.mp h;rw[iJ]at b;refine⟨i+k,by simp at b;omega,by omega,?_⟩;rw[<-e,BQ];simp
def kFN{c:Array bb}{f d:Nat}(h:Mg lb a.toList b.toList c.toList (a.toList.drop f) (b.toList.drop d))(e:d=b.size):Res lb a.toList b.toList (c++a.extract f++b.extract d).toList:=by
 rw[fk,fk,wB,wB];have z:b.toList.drop d=[]:=je (by simp;omega);rw[z]at h ⊢;exact h.endA
def kSW{c:Array bb}{d f:Nat}(h:Mg lb a.toList b.toList c.toList (a.toList.drop d) (b.toList.drop f))(e:d=a.size):Res lb a.toList b.toList (c++a.extract d++b.extract f).toList:=by
 rw[fk,fk,wB,wB];have z:a.toList.drop d=[]:=je (by simp;omega);rw[z]at h ⊢;exact h.endB
def bG(H:Hy M A E s lb D kd a b){c:Array bb}{d f:Nat}(h:Mg lb a.toList b.toList c.toList (a.toList.drop d) (b.toList.drop f))(e:d+1=a.size):Res lb a.toList b.toList (c++b.extract f++a.extract d).toList:=by
 rw[fk,fk,wB,wB]
 have z:a.toList.drop d=[a[a.size-1]'(by omega)]:=by
  rw[xF (show d<a.size by omega),je (by simp;omega)];simp only[iM]
  congr 2
  omega
 rw[z]at h ⊢;exact h.last λ y g=>H.last (by omega) y (List.mem_of_mem_drop g)
def kBO(H:Hy M A E s lb D kd a b){f:Array bb}{g d:Nat}(p:g<a.size)(m:d<b.size)(h:Mg lb a.toList b.toList f.toList (a.toList.drop g) (b.toList.drop d))(c:le lb b[d] a[g]):Mg lb a.toList b.toList (f.push b[d]).toList (a.toList.drop g) (b.toList.drop (d+1)):=by
 rw[xF m]at h;rw[sg];refine h.moveB λ x o y n=>?_;have:x=b[d]:=by simpa using o
 subst this;obtain⟨j,l,i,rfl⟩:=yC n;exact H.W.trans c (zN H.W H.sa i l)
def kJG(H:Hy M A E s lb D kd a b){f:Array bb}{d g:Nat}(m:d<a.size)(h:Mg lb a.toList b.toList f.toList (a.toList.drop d) (b.toList.drop g))(c:∀ y∈b.toList.drop g,le lb a[d] y):Mg lb a.toList b.toList (f.push a[d]).toList (a.toList.drop (d+1)) (b.toList.drop g):=by
 rw[xF m]at h;rw[sg];refine h.moveA λ x l y i=>?_;have:x=a[d]:=by simpa using l
 subst this;exact c y i
def kTD(H:Hy M A E s lb D kd a b){d:Nat}{x:bb}(i:d<b.size)(c:le lb x b[d]):∀ y∈b.toList.drop d,le lb x y:=λ y h=>by
 obtain⟨j,g,f,rfl⟩:=yC h;exact H.W.trans c (zN H.W H.sb f g)
def kOZ(H:Hy M A E s lb D kd a b){st:eJ}(o:kindOf st=kd){d:Array bb}{f g u v mg:Nat}(h:MI lb a b d f g){Q:ForInStep LS1->eJ->Prop}
  (q:∀ r,RR lb a b (d.size+1) r->Q r st):wpS M A E s (p1 a b mg (none,d,f,g,u,v)) Q st:=by
 obtain⟨m,h1,l,p⟩:=h;have n:f<a.size:=by omega
 unfold p1;dsimp only;refine cg (kZ (getElem?_pos b g l) ?_);refine cg (kZ (getElem?_pos a f n) ?_);refine cg (H.L _ _ (H.db _ (by simp)) (H.da _ (by simp)) st _ o ?_)
 cases e:lb b[g] a[f]
 case true =>
  simp only[if_true];refine cg (kZ (getElem?_pos b g l) ?_);have i:=kBO H n l m (H.W.of_lt e);by_cases c:g+1=b.size
  ·rw[if_pos (by simpa using c)]
   exact cy (q _ (.inl ⟨_,rfl,kFN i c⟩))
  ·rw[if_neg (by simpa using c)]
   have y:Yd lb a b (d.size+1) (none,d.push b[g],f,g+1,(0,v+1)):=⟨rfl,⟨i,h1,by show g+1<b.size;omega,by show(d.push b[g]).size=f+(g+1);rw[iI];omega⟩,by show d.size+1<=(d.push b[g]).size;rw[iI];omega⟩
   split
   ·exact cy (q _ (.inr y))
   ·exact cy (q _ y)
 case false =>
  simp only[eA,if_false];refine cg (kZ (getElem?_pos a f n) ?_);have i:=kJG H n m (kTD H l e);by_cases c:f+1+1=a.size
  ·rw[if_pos (by simpa using c)]
   exact cy (q _ (.inl ⟨_,rfl,bG H i c⟩))
  ·rw[if_neg (by simpa using c)]
   have y:Yd lb a b (d.size+1) (none,d.push a[f],f+1,g,(u+1,0)):=⟨rfl,⟨i,by show f+1+1<a.size;omega,l,by show(d.push a[f]).size=f+1+g;rw[iI];omega⟩,by show d.size+1<=(d.push a[f]).size;rw[iI];omega⟩
   split
   ·exact cy (q _ (.inr y))
   ·exact cy (q _ y)
def zG{a:Array bb}{i k:Nat}{x:bb}(h:x∈(a.toList.drop i).take k):∃ j,∃ hj:i+j<a.size,j<k/\x=a[i+j]:=by
 obtain⟨j,hj,e⟩:=eY.mp h;rw[eO,iJ]at hj;refine⟨j,by simp at hj;omega,by omega,?_⟩;rw[<-e,uy,BQ];simp
def kNY{f:Array bb}{g d k:Nat}(h:Mg lb a.toList b.toList f.toList (a.toList.drop g) (b.toList.drop d))(c:∀ x∈(b.toList.drop d).take k,∀ y∈a.toList.drop g,le lb x y):Mg lb a.toList b.toList (f++b.extract d (d+k)).toList (a.toList.drop g) (b.toList.drop (d+k)):=by
 rw[fk,jV];rw[kDE b.toList d k]at h;exact h.moveB c
def kNZ{f:Array bb}{d g k:Nat}(h:Mg lb a.toList b.toList f.toList (a.toList.drop d) (b.toList.drop g))(c:∀ x∈(a.toList.drop d).take k,∀ y∈b.toList.drop g,le lb x y):Mg lb a.toList b.toList (f++a.extract d (d+k)).toList (a.toList.drop (d+k)) (b.toList.drop g):=by
 rw[fk,jV];rw[kDE a.toList d k]at h;exact h.moveA c
def kIK(H:Hy M A E s lb D kd a b){st:eJ}{d:Array bb}{f i g k p n:Nat}(h:MI lb a b d f i)(B:n<=d.size+1)(c:∀(x:f<a.size),∀ y∈b.toList.drop i,le lb a[f] y){Q:ForInStep LS->eJ->Prop}
  (q:∀ r,RR lb a b n r->Q r st):wpS M A E s (pC a b d f i g k p) Q st:=by
 obtain⟨m,h1,u,v⟩:=h;have l:f<a.size:=by omega
 unfold pC;refine cg (kZ (getElem?_pos a f l) ?_);have o:=kJG H l m (c l);by_cases e:f+1+1=a.size
 ·rw[if_pos (by simpa using e)]
  exact cy (q _ (.inl ⟨_,rfl,bG H o e⟩))
 ·rw[if_neg (by simpa using e)]
  have y:Yd lb a b n (none,d.push a[f],f+1,i,(g,k,p)):=⟨rfl,⟨o,by show f+1+1<a.size;omega,u,by show(d.push a[f]).size=f+1+i;rw[iI];omega⟩,by show n<=(d.push a[f]).size;rw[iI];omega⟩
  split
  ·exact cy (q _ (.inr y))
  ·exact cy (q _ y)
def kIL(H:Hy M A E s lb D kd a b){st:eJ}(U:kindOf st=kd){f:Array bb}{l d g k ob n:Nat}(h:MI lb a b f l d)(hn:n<=f.size+1)(c:∀(p:l<a.size)(hb:d<b.size),le lb b[d] a[l]){Q:ForInStep LS->eJ->Prop}
  (q:∀ r,RR lb a b n r->Q r st):wpS M A E s (pB a b f l d g k ob) Q st:=by
 obtain⟨m,h1,G,h3⟩:=h;have p:l<a.size:=by omega
 unfold pB;refine cg (kZ (getElem?_pos b d G) ?_);have u:=kBO H p G m (c p G);have sz:(f.push b[d]).size=l+(d+1):=by rw[iI];omega
 by_cases e:d+1=b.size
 ·rw[if_pos (by simpa using e)]
  exact cy (q _ (.inl ⟨_,rfl,kFN u e⟩))
 ·rw[if_neg (by simpa using e)]
  refine cg (kZ (getElem?_pos a l p) ?_);refine cg (vW H.W H.L U (H.da _ (by simp)) H.db (by omega) (λ i j O N=>zN H.W H.sb (by omega) (by omega)) (by omega) λ o kn J T=>?_);simp only[if_true]at J T
  have rest:∀ y∈b.toList.drop (d+1+o),le lb a[l] y:=λ y B=>by
   obtain⟨j,N,ij,rfl⟩:=yC B;have:=T (j-(d+1)) (by omega) (by omega);simp only[show d+1+(j-(d+1))=j by omega]at this;exact this
  dsimp only;by_cases I:o>0
  ·rw[if_pos I]
   have S:=kNY (k:=o) u λ x Z y B=>by
    obtain⟨j,N,X,rfl⟩:=zG Z;obtain⟨i,O,Y,rfl⟩:=yC B;exact H.W.trans (H.W.of_lt (J j X (by omega))) (zN H.W H.sa Y O)
   have C:(f.push b[d]++b.extract (d+1) (d+1+o)).size=l+(d+1+o):=by
    rw[wk,sz,iZ];omega
   by_cases v:d+1+o=b.size
   ·rw[if_pos (by simpa using v)]
    exact cy (q _ (.inl ⟨_,rfl,kFN S v⟩))
   ·rw[if_neg (by simpa using v)]
    exact kIK H ⟨S,h1,by omega,C⟩ (by omega) (λ _=>rest) q
  ·rw[if_neg I]
   have:o=0:=by omega
   subst this;exact kIK H ⟨u,h1,by omega,sz⟩ (by omega) (λ _=>rest) q
def kOY(H:Hy M A E s lb D kd a b){st:eJ}(o:kindOf st=kd){c:Array bb}{d f g Y ob n:Nat}(h:MI lb a b c d f)(O:n<=c.size+1){Q:ForInStep LS->eJ->Prop}
  (q:∀ r,RR lb a b n r->Q r (zP st g)):wpS M A E s (pA a b c d f g Y ob) Q st:=by
 obtain⟨m,h1,J,Z⟩:=id h;have ha:d<a.size:=by omega
 unfold pA;rw[setMinGallop'_eq];refine cg (jt ?_);refine cg (kZ (getElem?_pos b f J) ?_);refine cg (vW (st:=zP st g) H.W H.L o (H.db _ (by simp)) H.da (by omega) (λ i j I S=>zN H.W H.sa (by omega) (by omega)) (by omega) λ k kn G B=>?_);simp only[eA,if_false]at G B;dsimp only;by_cases C:k>0
 ·rw[if_pos C]
  have v:=kNZ (k:=k) m λ x X y N=>by
   obtain⟨j,S,T,rfl⟩:=zG X;obtain⟨i,I,U,rfl⟩:=yC N;exact H.W.trans (G j T (by omega)) (zN H.W H.sb U I)
  have u:(c++a.extract d (d+k)).size=d+k+f:=by
   rw[wk,iZ];omega
  by_cases l:d+k+1=a.size
  ·rw[if_pos (by simpa using l)]
   exact cy (q _ (.inl ⟨_,rfl,bG H v l⟩))
  ·rw[if_neg (by simpa using l)]
   by_cases p:d+k=a.size
   ·rw[if_pos (by simpa using p)]
    exact cy (q _ (.inl ⟨_,rfl,kSW v p⟩))
   ·rw[if_neg (by simpa using p)]
    exact kIL (st:=zP st g) H o ⟨v,by omega,J,u⟩ (by omega) (λ _ _=>H.W.of_lt (B k (by omega) (by omega))) q
 ·rw[if_neg C]
  have:k=0:=by omega
  subst this;exact kIL (st:=zP st g) H o h O (λ _ _=>H.W.of_lt (B 0 (by omega) (by omega))) q
def Yd.mono{n d:Nat}{f:Type}{c:Option (Array bb)×Array bb×Nat×Nat×f}(h:Yd lb a b n c)(k:d<=n):Yd lb a b d c:=⟨h.1,h.2.1,gx k h.2.2⟩
theorem Dn.mono{n d:Nat}{f:Type}{c:Option (Array bb)×Array bb×Nat×Nat×f}(h:Dn lb a b n c)(k:d<=n):Dn lb a b d c:=h.imp id λ z=>z.mono k
def kPA(H:Hy M A E s lb D kd a b){st:eJ}(N:kindOf st=kd){l:Array bb}{O L g:Nat}(h:MI lb a b l O L){Q:ForInStep LS0->eJ->Prop}
  (S:∀ r c st',Sm st st'->Res lb a.toList b.toList r.toList->Q (.done (some r,c)) st') (T:∀ c st',Sm st st'->Yd lb a b (l.size+1) c->Q (.yield c) st'):wpS M A E s (p0 a b (none,l,O,L,g)) Q st:=by
 unfold p0;dsimp only;have U:0<a.size+b.size:=by have:=h.2.2.1;omega
 refine cg (sd (iU (I:=λ x d st'=>st'=st/\Yd lb a b (l.size+x) d) (Q:=λ d st'=>st'=st/\Dn lb a b (l.size+1) d) ?step ?fin ⟨rfl,rfl,h,av _⟩) ?post)
 case fin =>
  rintro d st' ⟨rfl,y⟩;exact⟨rfl,.inr (y.mono (by omega))⟩
 case step =>
  rintro x ⟨r,o,i,j,u,v⟩ st' _ _ ⟨rfl,e,G,le⟩
  cases(show r=none from e)
  have le:l.size+x<=o.size:=le;refine kOZ H N G λ r B=>?_
  cases r with
  | done c=>exact⟨rfl,Dn.mono B (by omega)⟩
  | yield c=>exact⟨rfl,Yd.mono B (by omega)⟩
 case post =>
  rintro⟨r,o,i,j,u,v⟩ st' ⟨rfl,C⟩
  cases r with
  | some r =>
   dsimp only;rcases C with⟨J,e,p⟩ | ⟨e,_⟩
   ·cases e
    exact cy (S _ _ _ (Sm.refl _) p)
   ·cases e
  | none =>
   dsimp only
   have y:Yd lb a b (l.size+1) (none,o,i,j,(u,v)):=by
    rcases C with⟨J,e,p⟩ | y
    ·cases e
    ·exact y
   refine cg (zU ?_);refine cg (sd (iU (I:=λ x f m=>Sm st' m/\Yd lb a b (l.size+1) f) (Q:=λ f m=>Sm st' m/\Dn lb a b (l.size+1) f) ?step2 ?fin2 ⟨Sm.refl _,y⟩) ?post2)
   case fin2 =>
    rintro f m ⟨q,y⟩;exact⟨q,.inr y⟩
   case step2 =>
    rintro x ⟨r,o,i,j,X,u,v⟩ m _ _ ⟨q,e,G,le⟩
    cases(show r=none from e)
    have le:l.size+1<=o.size:=le;dsimp only
    split
    all_goals
     refine kOY (n:=l.size+1) H (q.1.trans N) G (by omega) λ r B=>?_
     cases r with
     | done c=>exact⟨q.gal _,B⟩
     | yield c=>exact⟨q.gal _,B⟩
   case post2 =>
    rintro⟨r,o,i,j,X,u,v⟩ m ⟨q,C⟩
    cases r with
    | some r =>
     dsimp only;rcases C with⟨J,e,p⟩ | ⟨e,_⟩
     ·cases e
      exact cy (S _ _ _ q p)
     ·cases e
    | none =>
     dsimp only;rcases C with⟨J,e,p⟩ | y
     ·cases e
     ·rw[setMinGallop'_eq]
      exact cg (jt (cy (T _ _ (q.gal _) y)))
def rT(H:Hy M A E s lb D kd a b){st:eJ}(C:kindOf st=kd)(L:0<a.size)(B:0<b.size)(first:le lb b[0] a[0]){Q:Array bb->eJ->Prop}
  (q:∀ r st',Sm st st'->Res lb a.toList b.toList r.toList->Q r st'):wpS M A E s (gH a b) Q st:=by
 rw[mergeLo'_parts];refine cg (zU ?_);refine cg (kZ (getElem?_pos b 0 B) ?_);have J:Mg lb a.toList b.toList (#[]:Array bb).toList (a.toList.drop 0) (b.toList.drop 0):=⟨H.sa,H.sb,zf _⟩;have n:Mg lb a.toList b.toList (#[b[0]]:Array bb).toList (a.toList.drop 0) (b.toList.drop 1):=kBO H L B J first;by_cases l:1=b.size
 ·rw[if_pos (by simpa using l)]
  exact cy (q _ _ (Sm.refl _) (kFN n l))
 rw[if_neg (by simpa using l)];by_cases m:0+1=a.size
 ·rw[if_pos (by simpa using m)]
  exact cy (q _ _ (Sm.refl _) (bG H n m))
 rw[if_neg (by simpa using m)];refine cg (yh ?_);refine cg (sd (iU (I:=λ x c st'=>Sm st st'/\Yd lb a b (1+x) c) (Q:=λ c st'=>Sm st st'/\∃ r,c.1=some r/\Res lb a.toList b.toList r.toList) ?step ?fin ⟨Sm.refl _,rfl,⟨n,by show 0+1<a.size;omega,by show 1<b.size;omega,rfl⟩,av _⟩) ?post)
 case post =>
  rintro⟨r,c⟩ st' ⟨f,N,e,h⟩;cases e
  exact cy (q _ _ f h)
 case fin =>
  rintro⟨r,o,i,j,g⟩ st' ⟨f,e,⟨_,h1,v,u⟩,le⟩;have u:o.size=i+j:=u;have le:1+max 0 (a.size+b.size)<=o.size:=le;have h1:i+1<a.size:=h1;have v:j<b.size:=v;omega
 case step =>
  rintro x ⟨r,o,i,j,g⟩ st' _ _ ⟨f,e,G,le⟩
  cases(show r=none from e)
  have le:1+x<=o.size:=le;exact kPA H (f.1.trans C) G (λ r c p d h=>⟨⟨d.1.trans f.1,d.2.1.trans f.2.1,d.2.2.1.trans f.2.2.1,d.2.2.2.trans f.2.2.2⟩,r,rfl,h⟩) λ c p d y=>⟨⟨d.1.trans f.1,d.2.1.trans f.2.1,d.2.2.1.trans f.2.2.1,d.2.2.2.trans f.2.2.2⟩,y.mono (by omega)⟩
end
end Srt
local macro_rules | `(tactic| walk_at "sort_open mergeHi")=>`(tactic| delta $(Lean.mkIdent (Lean.mkPrivateNameCore `PySem.Builtin.List.W1All `PySem.Builtin.mergeHi)):ident)
namespace Srt
set_option autoImplicit false
open PySem PyProof.Rows
def gI:Array bb->Array bb->StateT eJ Sem (Array bb):=sortPriv% PySem.Builtin.mergeHi
abbrev KS:=Option (Array bb)×Nat×Nat×Array bb×Nat×Nat×Nat
abbrev KS1:=Option (Array bb)×Nat×Nat×Array bb×Nat×Nat
abbrev KS0:=Option (Array bb)×Nat×Nat×Array bb×Nat
section
variable (a b:Array bb)
def hDn(f d:Nat)(c:Array bb):Array bb:=a.extract 0 f++b.extract 0 d++c.reverse
def hFb(f d:Nat)(c:Array bb):Array bb:=b.extract 0 d++a.extract 0 f++c.reverse
def hC(d f:Nat)(c:Array bb)(g k h:Nat):StateT eJ Sem (ForInStep KS):=do
 let x <-elem' a (d-1)
 if(d-1 == 0)=true then pure (.done (some (hDn a b (d-1) f (c.push x)),d-1,f,c.push x,g,k,h))
 else if(decide (k<7) && decide (h<7))=true then pure (.done (none,d-1,f,c.push x,g,k,h)) else pure (.yield (none,d-1,f,c.push x,g,k,h))
def hB(f d:Nat)(c:Array bb)(g k ob:Nat):StateT eJ Sem (ForInStep KS):=do
 let y <-elem' b (d-1)
 if(d-1 == 1)=true then pure (.done (some (hFb a b f (d-1) (c.push y)),f,d-1,c.push y,g,k,ob))
 else do
  let x <-elem' a (f-1)
  let r <-wR true x b 0 (d-1) (d-1-1)
  match r with
  | some p =>
   if d-1-p>0 then
    if(p == 1)=true then pure (.done (some (hFb a b f p (c.push y++(b.extract p (d-1)).reverse)),f,p,c.push y++(b.extract p (d-1)).reverse,g,k,d-1-p))
    else if(p == 0)=true then pure (.done (some (hDn a b f p (c.push y++(b.extract p (d-1)).reverse)),f,p,c.push y++(b.extract p (d-1)).reverse,g,k,d-1-p))
    else hC a b f p (c.push y++(b.extract p (d-1)).reverse) g k (d-1-p)
   else hC a b f (d-1) (c.push y) g k (d-1-p)
  | x=>pure (.done (some (hDn a b f (d-1) (c.push y)),f,d-1,c.push y,g,k,ob))
def hA(d f:Nat)(c:Array bb)(g h ob:Nat):StateT eJ Sem (ForInStep KS):=do
 xB g
 let y <-elem' b (f-1)
 let r <-wR false y a 0 d (d-1)
 match r with
 | some p =>
  if d-p>0 then
   if(p == 0)=true then pure (.done (some (hDn a b p f (c++(a.extract p d).reverse)),p,f,c++(a.extract p d).reverse,g,d-p,ob))
   else hB a b p f (c++(a.extract p d).reverse) g (d-p) ob
  else hB a b d f c g (d-p) ob
 | x=>pure (.done (some (hDn a b d f c),d,f,c,g,h,ob))
def h1(mg:Nat)(c:KS1):StateT eJ Sem (ForInStep KS1):=do
 let y <-elem' b (c.2.2.1-1)
 let x <-elem' a (c.2.1-1)
 let r <-lt' y x
 match r with
 | some aw =>
  if aw=true then do
   let x <-elem' a (c.2.1-1)
   if(c.2.1-1 == 0)=true then pure (.done (some (hDn a b (c.2.1-1) c.2.2.1 (c.2.2.2.1.push x)),c.2.1-1,c.2.2.1,c.2.2.2.1.push x,c.2.2.2.2.1+1,0))
   else if c.2.2.2.2.1+1 >= mg then pure (.done (none,c.2.1-1,c.2.2.1,c.2.2.2.1.push x,c.2.2.2.2.1+1,0))
   else pure (.yield (none,c.2.1-1,c.2.2.1,c.2.2.2.1.push x,c.2.2.2.2.1+1,0))
  else do
   let y <-elem' b (c.2.2.1-1)
   if(c.2.2.1-1 == 1)=true then pure (.done (some (hFb a b c.2.1 (c.2.2.1-1) (c.2.2.2.1.push y)),c.2.1,c.2.2.1-1,c.2.2.2.1.push y,0,c.2.2.2.2.2+1))
   else if c.2.2.2.2.2+1 >= mg then pure (.done (none,c.2.1,c.2.2.1-1,c.2.2.2.1.push y,0,c.2.2.2.2.2+1))
   else pure (.yield (none,c.2.1,c.2.2.1-1,c.2.2.2.1.push y,0,c.2.2.2.2.2+1))
 | x=>pure (.done (some (hDn a b c.2.1 c.2.2.1 c.2.2.2.1),c.2.1,c.2.2.1,c.2.2.2.1,c.2.2.2.2.1,c.2.2.2.2.2))
def h0(c:KS0):StateT eJ Sem (ForInStep KS0):=do
 let d <-forIn [:a.size+b.size] ((none,c.2.1,c.2.2.1,c.2.2.2.1,0,0):KS1) λ x d=>h1 a b c.2.2.2.2 d
 match d.1 with
 | some r=>pure (.done (some r,d.2.1,d.2.2.1,d.2.2.2.1,c.2.2.2.2))
 | none=>do
  liftM (rule "list.sort.gallop")
  let f <-forIn [:a.size+b.size] ((none,d.2.1,d.2.2.1,d.2.2.2.1,c.2.2.2.2+1,d.2.2.2.2.1,d.2.2.2.2.2):KS) λ x f =>
   if f.2.2.2.2.1>1 then hA a b f.2.1 f.2.2.1 f.2.2.2.1 (f.2.2.2.2.1-1) f.2.2.2.2.2.1 f.2.2.2.2.2.2 else hA a b f.2.1 f.2.2.1 f.2.2.2.1 f.2.2.2.2.1 f.2.2.2.2.2.1 f.2.2.2.2.2.2
  match f.1 with
  | some r=>pure (.done (some r,f.2.1,f.2.2.1,f.2.2.2.1,f.2.2.2.2.1))
  | none=>do
   xB (f.2.2.2.2.1+1)
   pure (.yield (none,f.2.1,f.2.2.1,f.2.2.2.1,f.2.2.2.2.1+1))
def mergeHi'_parts:gI a b=(do
  liftM (rule "list.sort.merge-hi")
  let y <-elem' a (a.size-1)
  if(a.size-1 == 0)=true then pure (hDn a b (a.size-1) b.size #[y])
  else if(b.size == 1)=true then pure (hFb a b (a.size-1) b.size #[y])
  else do
   let st <-get
   let c <-forIn [:a.size+b.size] ((none,a.size-1,b.size,#[y],gallopOf st):KS0) λ x c=>h0 a b c
   match c.1 with
   | some r=>pure r
   | none=>unsupported "internal:list.sort.merge-bound"):=by
 unfold gI
 walk_at "sort_open mergeHi"
 dsimp only;refine congrArg _ (funext λ _=>?_);refine congrArg _ (funext λ y=>?_);refine ite_congr rfl (λ _=>rfl) (λ _=>ite_congr rfl (λ _=>rfl) (λ _=>?_));refine congrArg _ (funext λ st=>?_);refine congr (congrArg _ (congrArg _ (funext λ x=>funext λ c=>?_))) (funext λ c=>by cases c.1<;>rfl);unfold h0;refine congr (congrArg _ (congrArg _ (funext λ x=>funext λ d=>?_))) (funext λ d=>?_)
 ·unfold h1
  refine congrArg _ (funext λ _=>?_);refine congrArg _ (funext λ _=>?_);refine congrArg _ (funext λ r=>?_);cases r<;>rfl
 ·cases d.1 with
  | some r=>rfl
  | none =>
   dsimp only;refine congrArg _ (funext λ _=>?_);refine congr (congrArg _ (congrArg _ (funext λ x=>funext λ f=>?_))) (funext λ f=>by cases f.1<;>rfl);refine ite_congr rfl (λ _=>?_) (λ _=>?_)
   all_goals
    unfold hA;refine congrArg _ (funext λ _=>?_);refine congrArg _ (funext λ y=>?_);refine congrArg _ (funext λ r=>?_)
    cases r with
    | none=>rfl
    | some k =>
     dsimp only;refine ite_congr rfl (λ _=>ite_congr rfl (λ _=>rfl) (λ _=>?_)) (λ _=>?_)
     all_goals
      unfold hB;refine congrArg _ (funext λ y=>?_);refine ite_congr rfl (λ _=>rfl) (λ _=>?_);refine congrArg _ (funext λ x=>?_);refine congrArg _ (funext λ r=>?_);cases r<;>rfl
end
section
variable {α:Type} {lb:α->α->Bool}
structure Mh(lb:α->α->Bool)(A B:List α)(w ra rb:List α):Prop where
 sa:qY lb (ra++w)
 sb:qY lb (rb++w)
 pm:(ra++(rb++w)).Perm (A++B)
def Mh.moveA{A B w c f b:List α}(h:Mh lb A B w (f++c) b)(l:∀ x∈b,∀ y∈c,le lb x y):Mh lb A B (c++w) f b:=by
 refine⟨by rw[<-de];exact h.sa,?_,?_⟩
 ·have h1:=di.mp h.sa
  have g:=di.mp h.sb;have i:=di.mp h1.1;refine di.mpr ⟨g.1,di.mpr ⟨i.2.1,h1.2.1,λ x a y d=>h1.2.2 x (cm _ a) y d⟩,λ x a y d=>?_⟩;rcases bp.mp d with z | z
  ·exact l x a y z
  ·exact g.2.2 x a y z
 ·refine qr ?_ h.pm
  rw[de];refine wb f ?_;rw[<-de,<-de];exact uz w ig
def Mh.swap{A B w b a:List α}(h:Mh lb A B w b a):Mh lb B A w a b:=by
 refine⟨h.sb,h.sa,?_⟩;refine qr ?_ (h.pm.trans ig);rw[<-de,<-de];exact uz w ig
def Mh.moveB{A B w c a b:List α}(h:Mh lb A B w a (b++c))(d:∀ x∈a,∀ y∈c,le lb x y):Mh lb A B (c++w) a b:=(h.swap.moveA d).swap
def fG{a:Array α}{n:Nat}(h0:0<n)(h:n<=a.size):a.toList.take n=a.toList.take (n-1)++[a[n-1]'(by omega)]:=by
 obtain⟨m,rfl⟩ : ∃ m,n=m+1:=⟨n-1,by omega⟩;rw[List.take_succ_eq_append_getElem (by simp;omega)];simp
def bF(a:Array α)(n:Nat):(a.extract 0 n).toList=a.toList.take n:=by
 rw[sf,kg];simp
def kBL(a:Array α){p n:Nat}(h:p<=n):a.toList.take n=a.toList.take p++(a.extract p n).toList:=by
 rw[sf,kg,<-Ei]
 conv=>lhs;rw[<-gh p (a.toList.take n)]
 rw[Ej,jq h]
end
section
variable {M:xu} {A:ed} {E:ai->ao->Prop} {s:ao} {lb:bb->bb->Bool} {D:bb->Prop} {kd:jh} {a b:Array bb}
structure Hz(M:xu)(A:ed)(E:ai->ao->Prop)(s:ao)(lb:bb->bb->Bool)(D:bb->Prop)(kd:jh)(a b:Array bb):Prop where
 W:Wk lb
 L:vA M A E s lb D kd
 da:∀ x∈a.toList,D x
 db:∀ x∈b.toList,D x
 sa:qY lb a.toList
 sb:qY lb b.toList
 first:∀(h:0<b.size),∀ y∈a.toList,le lb b[0] y
abbrev MM(lb:bb->bb->Bool)(a b:Array bb)(f d:Nat)(c:Array bb):Prop:=Mh lb a.toList b.toList c.toList.reverse (a.toList.take f) (b.toList.take d)
def MH(lb:bb->bb->Bool)(a b:Array bb)(f d:Nat)(c:Array bb):Prop:=MM lb a b f d c/\0<f/\f<=a.size/\1<d/\d<=b.size/\c.size+f+d=a.size+b.size
def Zd(lb:bb->bb->Bool)(a b:Array bb)(n:Nat){d:Type}(c:Option (Array bb)×Nat×Nat×Array bb×d):Prop:=c.1=none/\MH lb a b c.2.1 c.2.2.1 c.2.2.2.1/\n<=c.2.2.2.1.size
def En(lb:bb->bb->Bool)(a b:Array bb)(n:Nat){d:Type}(c:Option (Array bb)×Nat×Nat×Array bb×d):Prop:=(∃ r,c.1=some r/\Res lb a.toList b.toList r.toList)\/Zd lb a b n c
def TT(lb:bb->bb->Bool)(a b:Array bb)(n:Nat){d:Type}:ForInStep (Option (Array bb)×Nat×Nat×Array bb×d)->Prop
 | .done c=>En lb a b n c
 | .yield c=>Zd lb a b n c
def Zd.mono{n d:Nat}{f:Type}{c:Option (Array bb)×Nat×Nat×Array bb×f}(h:Zd lb a b n c)(k:d<=n):Zd lb a b d c:=⟨h.1,h.2.1,gx k h.2.2⟩
theorem En.mono{n d:Nat}{f:Type}{c:Option (Array bb)×Nat×Nat×Array bb×f}(h:En lb a b n c)(k:d<=n):En lb a b d c:=h.imp id λ z=>z.mono k
def aT{a:Array bb}{n:Nat}{x:bb}(h:x∈a.toList.take n):∃ j,∃ hj:j<a.size,j<n/\x=a[j]:=by
 have:=zG (a:=a) (i:=0) (k:=n) (x:=x) (by simpa using h);obtain⟨j,hj,b,e⟩:=this;exact⟨j,by omega,b,by simpa using e⟩
def qV{a:Array bb}{p n:Nat}{x:bb}(h:x∈(a.extract p n).toList):∃ j,∃ hj:j<a.size,p<=j/\j<n/\x=a[j]:=by
 rw[sf,kg]at h;obtain⟨j,hj,b,e⟩:=zG h;exact⟨p+j,hj,by omega,by omega,e⟩
def kAM(f d:Nat)(c:Array bb):(hDn a b f d c).toList=a.toList.take f++(b.toList.take d++c.toList.reverse):=by
 unfold hDn;rw[fk,fk,bF,bF,wq,de]
def kLI(f d:Nat)(c:Array bb):(hFb a b f d c).toList=b.toList.take d++(a.toList.take f++c.toList.reverse):=by
 unfold hFb;rw[fk,fk,bF,bF,wq,de]
def rG{d f:Nat}{c:Array bb}(m:MM lb a b d f c)(e:d=0):Res lb a.toList b.toList (hDn a b d f c).toList:=by
 subst e;rw[kAM];exact⟨by simpa using m.sb,m.pm⟩
def kRB{f d:Nat}{c:Array bb}(m:MM lb a b f d c)(e:d=0):Res lb a.toList b.toList (hDn a b f d c).toList:=by
 subst e;rw[kAM];exact⟨by simpa using m.sa,m.pm⟩
def rF(H:Hz M A E s lb D kd a b){i f:Nat}{c:Array bb}(m:MM lb a b i f c)(e:f=1)(h:0<b.size):Res lb a.toList b.toList (hFb a b i f c).toList:=by
 subst e;rw[kLI];have t:b.toList.take 1=[b[0]]:=by rw[fG (by decide) h];simp
 have g:=m.sb;rw[t]at g ⊢;refine⟨?_,?_⟩
 ·refine di.mpr ⟨jr _ _,m.sa,λ x n y l=>?_⟩
  have:x=b[0]:=by simpa using n
  subst this;rcases bp.mp l with z | z
  ·exact H.first h y (wu z)
  ·exact(di.mp g).2.2 _ (by simp) y z
 ·have d:=m.pm
  rw[t]at d;refine qr ?_ d;rw[<-de,<-de];exact uz _ ig
def kJF(H:Hz M A E s lb D kd a b){f g:Nat}{d:Array bb}(m:MM lb a b f g d)(n:0<f)(h:f<=a.size)(c:∀ x∈b.toList.take g,le lb x (a[f-1]'(by omega))):MM lb a b (f-1) g (d.push (a[f-1]'(by omega))):=by
 have m:Mh lb a.toList b.toList d.toList.reverse (a.toList.take f) (b.toList.take g):=m;rw[fG n h]at m;show Mh lb _ _ (d.push _).toList.reverse _ _;rw[sg,wx];refine m.moveA λ x l y i=>?_;have:y=a[f-1]'(by omega):=by simpa using i
 rw[this];exact c x l
def kOE(H:Hz M A E s lb D kd a b){g f:Nat}{d:Array bb}(m:MM lb a b g f d)(n:0<f)(h:f<=b.size)(c:∀ x∈a.toList.take g,le lb x (b[f-1]'(by omega))):MM lb a b g (f-1) (d.push (b[f-1]'(by omega))):=by
 have m:Mh lb a.toList b.toList d.toList.reverse (a.toList.take g) (b.toList.take f):=m;rw[fG n h]at m;show Mh lb _ _ (d.push _).toList.reverse _ _;rw[sg,wx];refine m.moveB λ x l y i=>?_;have:y=b[f-1]'(by omega):=by simpa using i
 rw[this];exact c x l
def kTA{f g p:Nat}{d:Array bb}(m:MM lb a b f g d)(hp:p<=f)(c:∀ x∈b.toList.take g,∀ y∈(a.extract p f).toList,le lb x y):MM lb a b p g (d++(a.extract p f).reverse):=by
 have m:Mh lb a.toList b.toList d.toList.reverse (a.toList.take f) (b.toList.take g):=m;rw[kBL a hp]at m;show Mh lb _ _ (d++_).toList.reverse _ _;rw[fk,wq,wx,CW];exact m.moveA c
def kSZ{g f p:Nat}{d:Array bb}(m:MM lb a b g f d)(hp:p<=f)(c:∀ x∈a.toList.take g,∀ y∈(b.extract p f).toList,le lb x y):MM lb a b g p (d++(b.extract p f).reverse):=by
 have m:Mh lb a.toList b.toList d.toList.reverse (a.toList.take g) (b.toList.take f):=m;rw[kBL b hp]at m;show Mh lb _ _ (d++_).toList.reverse _ _;rw[fk,wq,wx,CW];exact m.moveB c
def kGG(W:Wk lb){a:Array bb}(b:qY lb a.toList){n:Nat}{y:bb}(i:0<n)(h:n<=a.size)(c:le lb (a[n-1]'(by omega)) y):∀ x∈a.toList.take n,le lb x y:=λ x d=>by
 obtain⟨j,f,g,rfl⟩:=aT d;exact W.trans (zN W b (show j<=n-1 by omega) (by omega)) c
def kPC(H:Hz M A E s lb D kd a b){st:eJ}(p:kindOf st=kd){d:Array bb}{g f u v mg:Nat}(h:MH lb a b g f d){Q:ForInStep KS1->eJ->Prop}
  (q:∀ r,TT lb a b (d.size+1) r->Q r st):wpS M A E s (h1 a b mg (none,g,f,d,u,v)) Q st:=by
 obtain⟨m,o,n,x,l,sz⟩:=h;unfold h1;dsimp only;refine cg (kZ (getElem?_pos b (f-1) (by omega)) ?_);refine cg (kZ (getElem?_pos a (g-1) (by omega)) ?_);refine cg (H.L _ _ (H.db _ (by simp)) (H.da _ (by simp)) st _ p ?_)
 cases e:lb (b[f-1]'(by omega)) (a[g-1]'(by omega))
 case true =>
  simp only[if_true];refine cg (kZ (getElem?_pos a (g-1) (by omega)) ?_);have i:=kJF H m o n (kGG H.W H.sb (by omega) l (H.W.of_lt e));by_cases c:g-1=0
  ·rw[if_pos (by simpa using c)]
   exact cy (q _ (.inl ⟨_,rfl,rG i c⟩))
  ·rw[if_neg (by simpa using c)]
   have z:Zd lb a b (d.size+1) (none,g-1,f,d.push (a[g-1]'(by omega)),(u+1,0)):=⟨rfl,⟨i,by show 0<g-1;omega,by show g-1<=a.size;omega,x,l,by show(d.push _).size+(g-1)+f=_;rw[iI];omega⟩,by show d.size+1<=(d.push _).size;rw[iI];omega⟩
   split
   ·exact cy (q _ (.inr z))
   ·exact cy (q _ z)
 case false =>
  simp only[eA,if_false];refine cg (kZ (getElem?_pos b (f-1) (by omega)) ?_);have i:=kOE H m (by omega) l (kGG H.W H.sa o n e);by_cases c:f-1=1
  ·rw[if_pos (by simpa using c)]
   exact cy (q _ (.inl ⟨_,rfl,rF H i c (by omega)⟩))
  ·rw[if_neg (by simpa using c)]
   have z:Zd lb a b (d.size+1) (none,g,f-1,d.push (b[f-1]'(by omega)),(0,v+1)):=⟨rfl,⟨i,o,n,by show 1<f-1;omega,by show f-1<=b.size;omega,by show(d.push _).size+g+(f-1)=_;rw[iI];omega⟩,by show d.size+1<=(d.push _).size;rw[iI];omega⟩
   split
   ·exact cy (q _ (.inr z))
   ·exact cy (q _ z)
def kIM(H:Hz M A E s lb D kd a b){st:eJ}{d:Array bb}{f h g k l n:Nat}(m:MM lb a b f h d)(v:0<f)(p:f<=a.size)(u:1<h)(o:h<=b.size)(sz:d.size+f+h=a.size+b.size)(y:n<=d.size+1)
  (c:∀ x∈b.toList.take h,le lb x (a[f-1]'(by omega))) {Q:ForInStep KS->eJ->Prop} (q:∀ r,TT lb a b n r->Q r st):wpS M A E s (hC a b f h d g k l) Q st:=by
 unfold hC;refine cg (kZ (getElem?_pos a (f-1) (by omega)) ?_);have i:=kJF H m v p c;by_cases e:f-1=0
 ·rw[if_pos (by simpa using e)]
  exact cy (q _ (.inl ⟨_,rfl,rG i e⟩))
 ·rw[if_neg (by simpa using e)]
  have z:Zd lb a b n (none,f-1,h,d.push (a[f-1]'(by omega)),(g,k,l)):=⟨rfl,⟨i,by show 0<f-1;omega,by show f-1<=a.size;omega,u,o,by show(d.push _).size+(f-1)+h=_;rw[iI];omega⟩,by show n<=(d.push _).size;rw[iI];omega⟩
  split
  ·exact cy (q _ (.inr z))
  ·exact cy (q _ z)
def kIN(H:Hz M A E s lb D kd a b){st:eJ}(X:kindOf st=kd){d:Array bb}{l f g k ob n:Nat}(h:MH lb a b l f d)(hn:n<=d.size+1)
  (c:∀(ha:l-1<a.size)(hb:f-1<b.size),le lb a[l-1] b[f-1]) {Q:ForInStep KS->eJ->Prop} (q:∀ r,TT lb a b n r->Q r st):wpS M A E s (hB a b l f d g k ob) Q st:=by
 obtain⟨m,o,u,b1,b2,sz⟩:=h;unfold hB;refine cg (kZ (getElem?_pos b (f-1) (by omega)) ?_);have v:=kOE H m (by omega) b2 (kGG H.W H.sa o u (c (by omega) (by omega)));have G:(d.push (b[f-1]'(by omega))).size+l+(f-1)=a.size+b.size:=by rw[iI];omega
 have gr:d.size+1=(d.push (b[f-1]'(by omega))).size:=by rw[iI]
 by_cases e:f-1=1
 ·rw[if_pos (by simpa using e)]
  exact cy (q _ (.inl ⟨_,rfl,rF H v e (by omega)⟩))
 ·rw[if_neg (by simpa using e)]
  refine cg (kZ (getElem?_pos a (l-1) (by omega)) ?_);refine cg (vW H.W H.L X (H.da _ (by simp)) H.db (by omega) (λ i j hi T=>zN H.W H.sb (by omega) (by omega)) (by omega) λ p kn S U=>?_);simp only[if_true,DY]at S U
  have rest:∀ x∈b.toList.take p,le lb x (a[l-1]'(by omega)):=λ x N=>by
   obtain⟨j,T,jp,rfl⟩:=aT N;exact H.W.of_lt (S j jp (by omega))
  dsimp only;by_cases O:f-1-p>0
  ·rw[if_pos O]
   have J:=kSZ (p:=p) v (by omega) λ x N y Y=>by
    obtain⟨j,T,Z,jn,rfl⟩:=qV Y;exact kGG H.W H.sa o u (U j Z jn) x N
   have I:(d.push (b[f-1]'(by omega))++(b.extract p (f-1)).reverse).size+l+p=a.size+b.size:=by
    rw[wk,DB,iZ];omega
   by_cases B:p=1
   ·rw[if_pos (by simpa using B)]
    exact cy (q _ (.inl ⟨_,rfl,rF H J B (by omega)⟩))
   ·rw[if_neg (by simpa using B)]
    by_cases C:p=0
    ·rw[if_pos (by simpa using C)]
     exact cy (q _ (.inl ⟨_,rfl,kRB J C⟩))
    ·rw[if_neg (by simpa using C)]
     exact kIM H J o u (by omega) (by omega) I (by omega) rest q
  ·rw[if_neg O]
   have e3:p=f-1:=by omega
   rw[e3]at rest;exact kIM H v o u (by omega) (by omega) G (by omega) rest q
def kPB(H:Hz M A E s lb D kd a b){st:eJ}(u:kindOf st=kd){c:Array bb}{d f g Y ob n:Nat}(h:MH lb a b d f c)(N:n<=c.size+1){Q:ForInStep KS->eJ->Prop}
  (q:∀ r,TT lb a b n r->Q r (zP st g)):wpS M A E s (hA a b d f c g Y ob) Q st:=by
 obtain⟨m,Z,a2,T,C,sz⟩:=id h;unfold hA;rw[setMinGallop'_eq];refine cg (jt ?_);refine cg (kZ (getElem?_pos b (f-1) (by omega)) ?_);refine cg (vW (st:=zP st g) H.W H.L u (H.db _ (by simp)) H.da (by omega) (λ i j hi O=>zN H.W H.sa (by omega) (by omega)) (by omega) λ p kn o I=>?_);simp only[eA,if_false,DY]at o I;dsimp only;by_cases B:d-p>0
 ·rw[if_pos B]
  have G:=kTA (p:=p) m (by omega) λ x U y J=>by
   obtain⟨j,O,S,X,rfl⟩:=qV J;exact kGG H.W H.sb (by omega) C (H.W.of_lt (I j S X)) x U
  have v:(c++(a.extract p d).reverse).size+p+f=a.size+b.size:=by
   rw[wk,DB,iZ];omega
  by_cases l:p=0
  ·rw[if_pos (by simpa using l)]
   exact cy (q _ (.inl ⟨_,rfl,rG G l⟩))
  ·rw[if_neg (by simpa using l)]
   exact kIN (st:=zP st g) H u ⟨G,by omega,by omega,T,C,v⟩ (by omega) (λ _ _=>o (p-1) (by omega) (by omega)) q
 ·rw[if_neg B]
  have e3:p=d:=by omega
  exact kIN (st:=zP st g) H u h N (λ _ _=>o (d-1) (by omega) (by omega)) q
def kPD(H:Hz M A E s lb D kd a b){st:eJ}(N:kindOf st=kd){l:Array bb}{L O g:Nat}(h:MH lb a b L O l){Q:ForInStep KS0->eJ->Prop}
  (S:∀ r c st',Sm st st'->Res lb a.toList b.toList r.toList->Q (.done (some r,c)) st') (T:∀ c st',Sm st st'->Zd lb a b (l.size+1) c->Q (.yield c) st'):wpS M A E s (h0 a b (none,L,O,l,g)) Q st:=by
 unfold h0;dsimp only;have U:0<a.size+b.size:=by have:=h.2.2.1;have:=h.2.1;omega
 refine cg (sd (iU (I:=λ x d st'=>st'=st/\Zd lb a b (l.size+x) d) (Q:=λ d st'=>st'=st/\En lb a b (l.size+1) d) ?step ?fin ⟨rfl,rfl,h,av _⟩) ?post)
 case fin =>
  rintro d st' ⟨rfl,y⟩;exact⟨rfl,.inr (y.mono (by omega))⟩
 case step =>
  rintro x ⟨r,i,j,o,u,v⟩ st' _ _ ⟨rfl,e,G,le⟩
  cases(show r=none from e)
  have le:l.size+x<=o.size:=le;refine kPC H N G λ r B=>?_
  cases r with
  | done c=>exact⟨rfl,En.mono B (by omega)⟩
  | yield c=>exact⟨rfl,Zd.mono B (by omega)⟩
 case post =>
  rintro⟨r,i,j,o,u,v⟩ st' ⟨rfl,C⟩
  cases r with
  | some r =>
   dsimp only;rcases C with⟨J,e,p⟩ | ⟨e,_⟩
   ·cases e
    exact cy (S _ _ _ (Sm.refl _) p)
   ·cases e
  | none =>
   dsimp only
   have y:Zd lb a b (l.size+1) (none,i,j,o,(u,v)):=by
    rcases C with⟨J,e,p⟩ | y
    ·cases e
    ·exact y
   refine cg (zU ?_);refine cg (sd (iU (I:=λ x f m=>Sm st' m/\Zd lb a b (l.size+1) f) (Q:=λ f m=>Sm st' m/\En lb a b (l.size+1) f) ?step2 ?fin2 ⟨Sm.refl _,y⟩) ?post2)
   case fin2 =>
    rintro f m ⟨q,y⟩;exact⟨q,.inr y⟩
   case step2 =>
    rintro x ⟨r,i,j,o,X,u,v⟩ m _ _ ⟨q,e,G,le⟩
    cases(show r=none from e)
    have le:l.size+1<=o.size:=le;dsimp only
    split
    all_goals
     refine kPB (n:=l.size+1) H (q.1.trans N) G (by omega) λ r B=>?_
     cases r with
     | done c=>exact⟨q.gal _,B⟩
     | yield c=>exact⟨q.gal _,B⟩
   case post2 =>
    rintro⟨r,i,j,o,X,u,v⟩ m ⟨q,C⟩
    cases r with
    | some r =>
     dsimp only;rcases C with⟨J,e,p⟩ | ⟨e,_⟩
     ·cases e
      exact cy (S _ _ _ q p)
     ·cases e
    | none =>
     dsimp only;rcases C with⟨J,e,p⟩ | y
     ·cases e
     ·rw[setMinGallop'_eq]
      exact cg (jt (cy (T _ _ (q.gal _) y)))
def rV(H:Hz M A E s lb D kd a b){st:eJ}(C:kindOf st=kd)(N:0<a.size)(v:0<b.size)(last:le lb (b[b.size-1]'(by omega)) (a[a.size-1]'(by omega))){Q:Array bb->eJ->Prop}
  (q:∀ r st',Sm st st'->Res lb a.toList b.toList r.toList->Q r st'):wpS M A E s (gI a b) Q st:=by
 rw[mergeHi'_parts];refine cg (zU ?_);refine cg (kZ (getElem?_pos a (a.size-1) (by omega)) ?_);have G:a.toList.take a.size=a.toList:=jd (by simp);have B:b.toList.take b.size=b.toList:=jd (by simp)
 have L:MM lb a b a.size b.size #[]:=by
  show Mh lb _ _ (#[]:Array bb).toList.reverse _ _;rw[G,B];exact⟨by simpa using H.sa,by simpa using H.sb,by simp⟩
 have n:MM lb a b (a.size-1) b.size #[a[a.size-1]'(by omega)]:=kJF H L N (av _) (kGG H.W H.sb v (av _) last);by_cases l:a.size-1=0
 ·rw[if_pos (by simpa using l)]
  exact cy (q _ _ (Sm.refl _) (rG n l))
 rw[if_neg (by simpa using l)];by_cases m:b.size=1
 ·rw[if_pos (by simpa using m)]
  exact cy (q _ _ (Sm.refl _) (rF H n m v))
 rw[if_neg (by simpa using m)];refine cg (yh ?_);refine cg (sd (iU (I:=λ x c st'=>Sm st st'/\Zd lb a b (1+x) c) (Q:=λ c st'=>Sm st st'/\∃ r,c.1=some r/\Res lb a.toList b.toList r.toList) ?step ?fin ⟨Sm.refl _,rfl,⟨n,by show 0<a.size-1;omega,by show a.size-1<=a.size;omega,by show 1<b.size;omega,av _,by show 1+(a.size-1)+b.size=_;omega⟩,av _⟩) ?post)
 case post =>
  rintro⟨r,c⟩ st' ⟨f,U,e,h⟩;cases e
  exact cy (q _ _ f h)
 case fin =>
  rintro⟨r,i,j,o,g⟩ st' ⟨f,e,⟨_,h1,T,O,S,u⟩,le⟩;have u:o.size+i+j=a.size+b.size:=u;have le:1+max 0 (a.size+b.size)<=o.size:=le;omega
 case step =>
  rintro x ⟨r,i,j,o,g⟩ st' _ _ ⟨f,e,J,le⟩
  cases(show r=none from e)
  have le:1+x<=o.size:=le;exact kPD H (f.1.trans C) J (λ r c p d h=>⟨⟨d.1.trans f.1,d.2.1.trans f.2.1,d.2.2.1.trans f.2.2.1,d.2.2.2.trans f.2.2.2⟩,r,rfl,h⟩) λ c p d y=>⟨⟨d.1.trans f.1,d.2.1.trans f.2.1,d.2.2.1.trans f.2.2.1,d.2.2.2.trans f.2.2.2⟩,y.mono (by omega)⟩
end
section
variable {α:Type} {lb:α->α->Bool}
def kGP(l:List α)(i:Nat)(x:α)(h:i<l.length):l.set i x=l.take i++x::l.drop (i+1):=by
 rw[List.set_eq_take_append_cons_drop,if_pos h]
theorem wr:∀(xs:List α)(k:Nat)(arr:Array α)(lo:Nat),lo+k+xs.length<=arr.size->((xs.zipIdx k).foldl (λ a (p:α×Nat)=>a.setIfInBounds (lo+p.2) p.1) arr).toList=arr.toList.take (lo+k)++(xs++arr.toList.drop (lo+k+xs.length))
 | [],k,arr,lo,h=>by simp
 | x::xs,k,arr,lo,h=>by
  rw[eQ]at h;rw[List.zipIdx_cons,ou];have b:=wr xs (k+1) (arr.setIfInBounds (lo+k) x) lo (by rw[BU];omega);rw[b,BA,kGP _ _ _ (by simp;omega)];have e:(arr.toList.take (lo+k)).length=lo+k:=by simp;omega
  have d:(arr.toList.take (lo+k)++x::arr.toList.drop (lo+k+1)).take (lo+(k+1))=arr.toList.take (lo+k)++[x]:=by
   rw[List.take_append,e,show lo+(k+1)-(lo+k)=1 by omega,jd (by rw[e];omega)]
   rfl
  have c:(arr.toList.take (lo+k)++x::arr.toList.drop (lo+k+1)).drop (lo+(k+1)+xs.length)=arr.toList.drop (lo+k+(x::xs).length):=by
   rw[AF,e,je (by rw[e];omega),mo,show lo+(k+1)+xs.length-(lo+k)=xs.length+1 by omega,List.drop_succ_cons,zg,eQ]
   congr 1
   omega
  rw[d,c];simp
def kHO(W:Wk lb){b c f a h:List α}(p:qY lb (b++c))(m:qY lb (f++a))(h1:∀ x∈b,∀ y∈f++a,le lb x y)(o:∀ x∈c,∀ y∈a,le lb x y)(r:Res lb c f h) :
  qY lb (b++(h++a))/\(b++(h++a)).Perm ((b++c)++(f++a)):=by
 have l:=di.mp p;have i:=di.mp m;have mem:∀ z∈h,z∈c\/z∈f:=λ z n=>bp.mp ((r.2.mem_iff).mp n);refine⟨di.mpr ⟨l.1,di.mpr ⟨r.1,i.2.1,λ x d y g=>?_⟩,λ x d y g=>?_⟩,?_⟩
 ·rcases mem x d with z | z
  ·exact o x z y g
  ·exact i.2.2 x z y g
 ·rcases bp.mp g with z | z
  ·rcases mem y z with w | w
   ·exact l.2.2 x d y w
   ·exact h1 x d y (cf _ w)
  ·exact h1 x d y (cm _ z)
 ·rw[de]
  refine wb b ?_;rw[<-de];exact r.2.append_right a
end
end Srt
local macro_rules | `(tactic| walk_at "sort_open mergeAt")=>`(tactic| delta $(Lean.mkIdent (Lean.mkPrivateNameCore `PySem.Builtin.List.W1All `PySem.Builtin.mergeAt)):ident)
namespace Srt
set_option autoImplicit false
open PySem PyProof.Rows
section
variable {M:xu} {A:ed} {E:ai->ao->Prop} {s:ao} {lb:bb->bb->Bool} {D:bb->Prop} {kd:jh} {arr:Array bb}
def kMG{st a:eJ}{Q:PUnit->eJ->Prop}(h:Q ⟨⟩ a):wpS M A E s (set a:StateT eJ Sem PUnit) Q st:=by
 unfold wpS;rw[StateT.run_set];exact cc ⟨rfl,h⟩
def wA{i m j:Nat}(h1:i<=m)(a:m<=j):(arr.extract i j).toList=(arr.extract i m).toList++(arr.extract m j).toList:=by
 rw[<-fk,Array.extract_append_extract,jq h1,Nat.max_eq_right a]
def kBR(W:Wk lb){lo n:Nat}(h:qY lb (arr.extract lo (lo+n)).toList)(a:lo+n<=arr.size)(i j:Nat)(hi:i<=j)(b:j<n):le lb (arr[lo+i]'(by omega)) (arr[lo+j]'(by omega)):=by
 have:=zN W h hi (show j<(arr.extract lo (lo+n)).size by rw[iZ];omega);simpa using this
def Joined(lb:bb->bb->Bool)(arr a:Array bb)(lo n:Nat):Prop:=∃ m:List bb,a.toList=arr.toList.take lo++(m++arr.toList.drop (lo+n))/\qY lb m/\m.Perm (arr.extract lo (lo+n)).toList
def wU{lo n:Nat}(h:lo+n<=arr.size):arr.toList=arr.toList.take lo++((arr.extract lo (lo+n)).toList++arr.toList.drop (lo+n)):=by
 rw[jV,<-zg,gh,gh]
def rW(W:Wk lb)(hL:vA M A E s lb D kd){st:eJ}(J:kindOf st=kd)(hf:se st=none)(dd:∀ x∈(cw st).toList,D x){i b d f pa pb:Nat}(hi:(cv st)[i]?=some (b,d,pa))(H:(cv st)[i+1]?=some (b+d,f,pb))
  (a2:0<d) (a5:0<f) (hn:b+d+f<=(cw st).size) (T:qY lb ((cw st).extract b (b+d)).toList) (sy:qY lb ((cw st).extract (b+d) (b+d+f)).toList) {Q:Bool->eJ->Prop}
  (q:∀ st',kindOf st'=kd->se st'=none->cv st'=((cv st).setIfInBounds i (b,d+f,pa)).eraseIdxIfInBounds (i+1)->Joined lb (cw st) (cw st') b (d+f)->Q true st'):wpS M A E s (mergeAt' i) Q st:=by
 unfold mergeAt'
 walk_at "sort_open mergeAt"
 dsimp only;refine cg (yh ?_);rw[hi,H];dsimp only;refine cg (kMG ?_);generalize hP:((cv st).setIfInBounds i (b,d+f,pa)).eraseIdxIfInBounds (i+1)=U at *;have dx:∀{j:Nat}(h:j<(cw st).size),D (cw st)[j]:=λ h=>dd _ (by simp);have z1:b+d<(cw st).size:=by omega
 have z2:b+d-1<(cw st).size:=by omega
 have z3:b+d<=(cw st).size:=by omega
 refine cg (kZ (arr:=cw st) (getElem?_pos (cw st) (b+d) z1) ?_);refine cg (vW (arr:=cw st) (st:=setPending st U) W hL J (dx z1) dd z3 (kBR (arr:=cw st) W T z3) a2 λ k kn g1 g2=>?_);simp only[eA,if_false]at g1 g2;dsimp only;have I:=wA (arr:=cw st) (i:=b) (m:=b+k) (j:=b+d) (by omega) (by omega);have O:=wA (arr:=cw st) (i:=b) (m:=b+d) (j:=b+d+f) (by omega) (by omega);have iy:=kBR W sy (by omega);have ix:=kBR W T (by omega);have same:∀{X:List bb},X=((cw st).extract b (b+(d+f))).toList->qY lb X->Joined lb (cw st) (cw st) b (d+f):=λ{X} e h=>⟨X,by rw[e];exact wU (by omega),h,by rw[e]⟩
 have low:∀ x∈((cw st).extract b (b+k)).toList,∀ y∈((cw st).extract (b+d) (b+d+f)).toList,le lb x y:=λ x G y g=>by
  obtain⟨j,H,S,N,rfl⟩:=qV G;obtain⟨j',a8,a7,a6,rfl⟩:=qV g;have l:=g1 (j-b) (by omega) (by omega);have e2:=iy 0 (j'-(b+d)) (by omega) (by omega);simp only[show b+(j-b)=j by omega,show b+d+(j'-(b+d))=j' by omega,Da]at l e2;exact W.trans l e2
 by_cases e:d-k=0
 ·rw[if_pos (by simpa using e)]
  have ek:b+k=b+d:=by omega
  rw[ek]at low;exact cy (q _ J hf rfl (same (by rw[<-vy];exact O.symm) (di.mpr ⟨T,sy,low⟩)))
 rw[if_neg (by simpa using e)];have eL:b+k+(d-k)-1=b+d-1:=by omega
 rw[eL];refine cg (kZ (arr:=cw st) (getElem?_pos (cw st) (b+d-1) z2) ?_);refine cg (vW (arr:=cw st) (st:=setPending st U) W hL J (dx z2) dd hn iy (by omega) λ p pn f1 f2=>?_);simp only[if_true]at f1 f2;dsimp only
 have n:∀ x∈((cw st).extract b (b+d)).toList,le lb x ((cw st)[b+d-1]'(by omega)):=λ x G=>by
  obtain⟨j,H,S,N,rfl⟩:=qV G;have l:=ix (j-b) (d-1) (by omega) (by omega);simp only[show b+(j-b)=j by omega,show b+(d-1)=b+d-1 by omega]at l;exact l
 have high:∀ y∈((cw st).extract (b+d+p) (b+d+f)).toList,le lb ((cw st)[b+d-1]'(by omega)) y:=λ y g=>by
  obtain⟨j,H,S,N,rfl⟩:=qV g;have l:=f2 (j-(b+d)) (by omega) (by omega);simp only[show b+d+(j-(b+d))=j by omega]at l;exact l
 by_cases e0:p=0
 ·rw[if_pos (by simpa using e0)]
  rw[e0,Da]at high;exact cy (q _ J hf rfl (same (by rw[<-vy];exact O.symm) (di.mpr ⟨T,sy,λ x G y g=>W.trans (n x G) (high y g)⟩)))
 rw[if_neg (by simpa using e0)];have L:=wA (arr:=cw st) (i:=b+d) (m:=b+d+p) (j:=b+d+f) (by omega) (by omega);have C:=T;rw[I]at C;have B:=sy;rw[L]at B
 have mx:∀{u v:Nat},∀ x∈((cw st).extract u v).toList,D x:=λ x G=>by
  obtain⟨j,H,_,_,rfl⟩:=qV G;exact dx H
 have a0:((cw st).extract (b+k) (b+d)).size=d-k:=by rw[iZ];omega
 have a4:((cw st).extract (b+d) (b+d+p)).size=p:=by rw[iZ];omega
 have x0:∀(h:0<((cw st).extract (b+k) (b+d)).size),((cw st).extract (b+k) (b+d))[0]=(cw st)[b+k]'(by omega):=λ h=>by simp
 have xl:∀(h:0<((cw st).extract (b+k) (b+d)).size),((cw st).extract (b+k) (b+d))[((cw st).extract (b+k) (b+d)).size-1]'(by omega)=(cw st)[b+d-1]'(by omega):=λ h=>by
  rw[Array.getElem_extract]
  congr 1
  omega
 have y0:∀(h:0<((cw st).extract (b+d) (b+d+p)).size),((cw st).extract (b+d) (b+d+p))[0]=(cw st)[b+d]'(by omega):=λ h=>by simp
 have below:∀ y∈((cw st).extract (b+d) (b+d+p)).toList,le lb y ((cw st)[b+d-1]'(by omega)):=λ y g=>by
  obtain⟨j,H,S,N,rfl⟩:=qV g;have l:=f1 (j-(b+d)) (by omega) (by omega);simp only[show b+d+(j-(b+d))=j by omega]at l;exact W.of_lt l
 have o:∀ y∈((cw st).extract (b+k) (b+d)).toList,le lb ((cw st)[b+d]'(by omega)) y:=λ y g=>by
  obtain⟨j,H,S,N,rfl⟩:=qV g;have l:=g2 (j-b) (by omega) (by omega);simp only[show b+(j-b)=j by omega]at l;exact W.of_lt l
 have Y:∀(r:Array bb)(st':eJ),Sm (setPending st U) st'->Res lb ((cw st).extract (b+k) (b+d)).toList ((cw st).extract (b+d) (b+d+p)).toList r.toList ->
   wpS M A E s (do modify λ s=>setArr s (r.toList.zipIdx.foldl (λ a (p,j)=>a.setIfInBounds (b+k+j) p) (cw s));let __do_lift <-get;pure (se __do_lift).isNone) Q st':=λ r st' sm Z=>by
  refine cg (jt (cg (yh ?_)));have ef:se st'=none:=sm.2.2.2.trans hf;have ea:cw st'=cw st:=sm.2.1;refine cy ?_;show Q (se st').isNone _;rw[ef];refine q _ (sm.1.trans J) ef sm.2.2.1 ?_;show Joined lb (cw st) (r.toList.zipIdx.foldl (λ a (p:bb×Nat)=>a.setIfInBounds (b+k+p.2) p.1) (cw st')) b (d+f);rw[ea];obtain⟨S,N⟩:=kHO W C B (by rw[<-L];exact low) (λ x G y g=>W.trans (n x (by rw[I];exact cm _ G)) (high y g)) Z;rw[<-I,<-L,<-O]at N;refine⟨_,?_,S,by rw[<-vy];exact N⟩
  have len:r.toList.length=d-k+p:=by
   have:=Z.2.length_eq;rw[bg]at this;simp only[eZ,a0,a4]at this;simpa using this
  rw[wr r.toList 0 (cw st) (b+k) (by rw[len];omega),len];have t1:(cw st).toList.take (b+k+0)=(cw st).toList.take b++((cw st).extract b (b+k)).toList:=kBL (cw st) (by omega)
  have t2:(cw st).toList.drop (b+k+0+(d-k+p))=((cw st).extract (b+d+p) (b+d+f)).toList++(cw st).toList.drop (b+(d+f)):=by
   rw[show b+k+0+(d-k+p)=b+d+p by omega,show b+d+f=b+d+p+(f-p) by omega,jV,show b+(d+f)=b+d+p+(f-p) by omega];exact kDE _ _ _
  rw[t1,t2];simp only[de]
 have a3:(cw st)[b+k]'(by omega)∈((cw st).extract (b+k) (b+d)).toList:=by
  rw[<-x0 (by omega),qz];exact BP _
 have a1:((cw st).extract (b+d) (b+d+p))[((cw st).extract (b+d) (b+d+p)).size-1]'(by omega)∈((cw st).extract (b+d) (b+d+p)).toList:=by
  rw[qz];exact BP _
 by_cases c:d-k<=p
 ·rw[if_pos c]
  refine cg ?_;exact rT (st:=setPending st U) ⟨W,hL,mx,mx,(di.mp C).2.1,(di.mp B).1,λ h y g=>by rw[xl h];exact below y g⟩ J (by omega) (by omega) (by rw[x0 (by omega),y0 (by omega)];exact o _ a3) Y
 ·rw[if_neg c]
  refine cg ?_;exact rV (st:=setPending st U) ⟨W,hL,mx,mx,(di.mp C).2.1,(di.mp B).1,λ h y g=>by rw[y0 h];exact o y g⟩ J (by omega) (by omega) (by rw[xl (by omega)];exact below _ a1) Y
end
def pK{α:Type}{R:α->α->Prop}:∀{l:List α},l.length<=1->l.Pairwise R
 | [],_=>BL
 | [_],_=>jr _ _
set_option autoImplicit false
open PySem PyProof.Rows
section
variable {α:Type}
def kJE(arr:Array α){Q R:List α}{y x:α}(h:arr.toList=Q++y::x::R):(arr.swapIfInBounds (Q.length+1) Q.length).toList=Q++x::y::R:=by
 have sz:arr.size=Q.length+(R.length+2):=by
  have:=congrArg iB h;simpa using this
 have g:∀ k,arr[k]?=(Q++y::x::R)[k]?:=λ k=>by rw[<-h,jf]
 refine Dc λ k=>?_;have e:=getElem?_swapIB (xs:=arr) (i:=Q.length+1) (j:=Q.length) (by omega) (by omega) k;rw[show(arr.swapIfInBounds (Q.length+1) Q.length).toList[k]?=(arr.swapIfInBounds (Q.length+1) Q.length)[k]? by simp,e,g,g,g];rcases fw k Q.length with c | c
 ·rw[if_neg (by omega),if_neg (by omega),bh c,bh c]
 ·obtain⟨j,rfl⟩ : ∃ j,k=Q.length+j:=⟨k-Q.length,by omega⟩
  rw[bu (by omega),bu (by omega),bu (by omega),bu (by omega)];rw[show Q.length+j-Q.length=j by omega,show Q.length+1-Q.length=1 by omega,Dd]
  match j with
  | 0=>simp
  | 1=>simp
  | j+2 =>
   rw[if_neg (by omega),if_neg (by omega)];simp
theorem dM:∀(b a T:List α)(x:α)(arr:Array α),arr.toList=a++(b++x::T)->(bubble arr (a.length+b.length) b.length).toList=a++(x::(b++T))
 | [],a,T,x,arr,h=>h
 | y::b,a,T,x,arr,h=>by
  have c:=dM b (a++[y]) T x arr (by rw[h];simp);rw[eQ,bubble_succ];rw[bg,iG,show a.length+1+b.length=a.length+(b.length+1) by omega]at c;have e:=kJE (bubble arr (a.length+(b.length+1)) b.length) (Q:=a) (y:=y) (x:=x) (R:=b++T) (by rw[c];simp);rw[show a.length+(b.length+1)-b.length=a.length+1 by omega,show a.length+1-1=a.length by omega];rw[e];simp
end
section
variable {M:xu} {A:ed} {E:ai->ao->Prop} {s:ao} {lb:bb->bb->Bool} {D:bb->Prop} {kd:jh}
def aD(a:vA M A E s lb D kd){st:eJ}(c:kindOf st=kd){i j:Nat}{x y:bb}(f:(cw st)[i]?=some x)(d:(cw st)[j]?=some y)(g:D x)(b:D y){Q:Option Bool->eJ->Prop}(q:Q (some (lb x y)) st):wpS M A E s (ltAt' i j) Q st:=by
 rw[ltAt'_eq];refine cg (yh ?_);exact cg (kZ f (cg (kZ d (a _ _ g b st _ c q))))
def Sa(st a:eJ):Prop:=kindOf a=kindOf st/\cv a=cv st/\se a=se st
def kNQ(W:Wk lb){c b:List bb}{x:bb}(h:qY lb (c++b))(h1:∀ y∈c,le lb y x)(g:∀ y∈b,le lb x y):qY lb (c++x::b):=by
 have a:=di.mp h;refine di.mpr ⟨a.1,yo.mpr ⟨g,a.2.1⟩,λ y d z f=>?_⟩;rcases cn.mp f with rfl | w
 ·exact h1 y d
 ·exact a.2.2 y d z w
def kBG(W:Wk lb)(X:vA M A E s lb D kd){st:eJ}(Y:kindOf st=kd)(L:∀ x∈(cw st).toList,D x){lo n ok:Nat}(a3:ok<=n)(hn:lo+n<=(cw st).size)(hs:qY lb ((cw st).extract lo (lo+ok)).toList){Q:Bool->eJ->Prop}
  (q:∀ st',Sa st st'->Joined lb (cw st) (cw st') lo n->Q true st'):wpS M A E s (binarySort' lo n ok) Q st:=by
 rw[binarySort'_eq];refine cg (sd (iU (I:=λ k c st'=>c=(none,())/\Sa st st'/\Joined lb (cw st) (cw st') lo (min k n)) (Q:=λ c st'=>c=(none,())/\Sa st st'/\Joined lb (cw st) (cw st') lo n) ?step ?fin ?init) ?post)
 case post =>
  rintro c st' ⟨rfl,p,j⟩;exact cy (q st' p j)
 case fin =>
  rintro c st' ⟨rfl,p,j⟩;refine⟨rfl,p,?_⟩;rwa[show min (max (max ok 1) n) n=n by omega]at j
 case init =>
  refine⟨rfl,⟨rfl,rfl,rfl⟩,_,wU (by omega),?_,zf _⟩;by_cases o:ok=0
  ·have:((cw st).extract lo (lo+min (max ok 1) n)).toList.length<=1:=by
    rw[eZ,iZ];omega
   generalize((cw st).extract lo (lo+min (max ok 1) n)).toList=l at *;exact pK this
  ·rwa[show min (max ok 1) n=ok by omega]
 case step =>
  rintro k c st' _ a0 ⟨rfl,p,m,e,O,B⟩;rw[show min k n=k by omega]at e B;have lm:m.length=k:=by rw[B.length_eq,eZ,iZ];omega
  have lp:((cw st).toList.take lo).length=lo:=by simp;omega
  have J:lo+k<(cw st).size:=by omega
  rw[xF J]at e
  have S:(cw st')[lo+k]?=some ((cw st)[lo+k]):=by
   rw[<-jf,e,bu (by omega),lp,bu (by omega),lm,show lo+k-lo-k=0 by omega]
   rfl
  have T:∀ j (h:j<m.length),(cw st')[lo+j]?=some m[j]:=λ j h=>by
   rw[<-jf,e,bu (by omega),lp,bh (by omega),show lo+j-lo=j by omega];exact aa h
  have Z:D (cw st)[lo+k]:=L _ (by simp)
  have dm:∀ j (h:j<m.length),D m[j]:=λ j h=>by
   obtain⟨i,f,_,_,ei⟩:=qV (B.mem_iff.mp (fe h));rw[ei];exact L _ (by simp)
  have mono:∀ i j (h:i<=j) (N:j<m.length),le lb (m[i]'(by omega)) m[j]:=λ i j h N=>by
   by_cases z:i=j
   ·subst z;exact W.refl _
   ·exact iX.mp O i j (by omega) N (by omega)
  refine cg (sd (iU (I:=λ x c a=>a=st'/\∃ l r,c=(none,l,r)/\l<=r/\r<=k/\r-l<=k-x/\(∀ i (h:i<m.length),i<l->le lb m[i] (cw st)[lo+k])/\(∀ i (h:i<m.length),r<=i->le lb (cw st)[lo+k] m[i]))
   (Q:=λ c a=>a=st'/\∃ l r,c=(none,l,r)/\l<=k/\(∀ i (h:i<m.length),i<l->le lb m[i] (cw st)[lo+k])/\(∀ i (h:i<m.length),l<=i->le lb (cw st)[lo+k] m[i])) ?istep ?ifin ?iinit) ?ipost)
  case iinit=>exact⟨rfl,0,k,rfl,by omega,by omega,by omega,λ i _ f=>by omega,λ i h1 h2=>by omega⟩
  case ifin =>
   rintro c a ⟨rfl,l,r,rfl,U,C,d,g,u⟩;have:l=r:=by omega
   subst this;exact⟨rfl,l,l,rfl,C,g,u⟩
  case istep =>
   rintro x c a _ _ ⟨rfl,l,r,rfl,U,C,d,g,u⟩;dsimp only;by_cases v:l >= r
   ·rw[if_pos v]
    have:l=r:=by omega
    subst this;exact cy ⟨rfl,l,l,rfl,C,g,u⟩
   ·rw[if_neg v]
    have H:(l+r) / 2<m.length:=by omega
    refine cg (aD X (p.1.trans Y) S (T _ H) Z (dm _ H) ?_)
    cases z:lb (cw st)[lo+k] m[(l+r) / 2]
    case true =>
     simp only[if_true];exact cy ⟨rfl,l,_,rfl,by omega,by omega,by omega,g,λ i h f=>W.trans (W.of_lt z) (mono _ i f h)⟩
    case false =>
     simp only[eA,if_false];exact cy ⟨rfl,_,r,rfl,by omega,by omega,by omega,λ i h f=>W.trans (mono i _ (by omega) H) z,u⟩
  case ipost =>
   rintro c a ⟨rfl,l,r,rfl,lk,g,u⟩;show wpS _ _ _ _ (do moveDown' (lo+k) (lo+l);pure (iO (none,()))) _ _;rw[moveDown'_eq];refine cg (jt (cy ⟨rfl,p,?_⟩));rw[show min (k+1) n=k+1 by omega];show Joined lb (cw st) (bubble (cw a) (lo+k) (lo+k-(lo+l))) lo (k+1)
   have b:=dM (m.drop l) ((cw st).toList.take lo++m.take l) ((cw st).toList.drop (lo+k+1)) ((cw st)[lo+k]) (cw a) (by
    rw[e]
    conv=>lhs;rw[<-gh l m]
    simp only[de,List.singleton_append])
   have l1:((cw st).toList.take lo++m.take l).length+(m.drop l).length=lo+k:=by
    rw[bg,lp,eO,iJ];omega
   have l2:(m.drop l).length=lo+k-(lo+l):=by rw[iJ];omega
   rw[l1,l2]at b;refine⟨m.take l++(cw st)[lo+k]::m.drop l,?_,kNQ W (by rw[gh];exact O) (λ y G=>?_) (λ y G=>?_),?_⟩
   ·rw[b,<-vy]
    simp only[de,gi]
   ·obtain⟨i,f,rfl⟩:=eY.mp G
    rw[eO]at f;rw[uy];exact g i (by omega) (by omega)
   ·obtain⟨i,f,rfl⟩:=eY.mp G
    rw[iJ]at f;rw[BQ];exact u _ (by omega) (by omega)
   ·refine qr Dv ?_
    rw[gh,wA (i:=lo) (m:=lo+k) (j:=lo+(k+1)) (by omega) (by omega)]
    have:((cw st).extract (lo+k) (lo+(k+1))).toList=[(cw st)[lo+k]]:=by
     rw[<-vy,jV,xF J]
     rfl
    rw[this];exact(ig (l₁:=[(cw st)[lo+k]]) (l₂:=m)).trans (B.append_right _)
end
section
variable {α:Type}
def kAE(arr:Array α){P m T:List α}{i j:Nat}(h:arr.toList=P++(m++T))(hi:i=P.length)(b:j=P.length+m.length):(mirror arr i j ((j-i) / 2)).toList=P++(m.reverse++T):=by
 subst hi b
 have sz:arr.size=P.length+(m.length+T.length):=by
  have:=congrArg iB h;simpa using this
 have g:∀ k,arr[k]?=(P++(m++T))[k]?:=λ k=>by rw[<-h,jf]
 refine Dc λ k=>?_;rw[jf,getElem?_mirror_all (by omega),g,g];rcases fw k P.length with c | c
 ·rw[if_neg (by omega),bh c,bh c]
 ·rcases fw k (P.length+m.length) with a | a
  ·rw[if_pos ⟨c,a⟩,bu (by omega),bu c,bh (by omega),bh (by rw[xp];omega),CM (by omega)]
   congr 1
   omega
  ·rw[if_neg (by omega),bu c,bu c,bu (by omega),bu (by rw[xp];omega),xp]
end
section
variable {α:Type} {lb:α->α->Bool}
def Fal(lb:α->α->Bool)(l:List α):Prop:=l.Pairwise λ a b=>le lb b a
def Fal.rev{l:List α}(h:Fal lb l):qY lb l.reverse:=zr.mpr h
def Fal.tail{u t:List α}(h:Fal lb (u++t))(e:qY lb t):Fal lb (u++t.reverse):=by
 have a:=di.mp h;refine di.mpr ⟨a.1,zr.mpr e,λ x c y b=>a.2.2 x c y (nj.mp b)⟩
end
section
variable {M:xu} {A:ed} {E:ai->ao->Prop} {s:ao} {lb:bb->bb->Bool} {D:bb->Prop} {kd:jh}
structure Rn(arr0 arr:Array bb)(lo n:Nat)(m:List bb):Prop where
 eq:arr.toList=arr0.toList.take lo++(m++arr0.toList.drop (lo+n))
 pm:m.Perm (arr0.extract lo (lo+n)).toList
 hn:lo+n<=arr0.size
variable {arr0 arr:Array bb} {lo n:Nat} {m:List bb}
def Rn.len(h:Rn arr0 arr lo n m):m.length=n:=by
 have:=h.hn;rw[h.pm.length_eq,eZ,iZ];omega
def Rn.joined(h:Rn arr0 arr lo n m)(a:qY lb m):Joined lb arr0 arr lo n:=⟨m,h.eq,a,h.pm⟩
def Rn.start(h:lo+n<=arr0.size):Rn arr0 arr0 lo n (arr0.extract lo (lo+n)).toList:=⟨wU h,zf _,h⟩
def Rn.lp(h:Rn arr0 arr lo n m):(arr0.toList.take lo).length=lo:=by have:=h.hn;simp;omega
def Rn.at(h:Rn arr0 arr lo n m){j:Nat}(a:j<m.length):arr[lo+j]?=some m[j]:=by
 rw[<-jf,h.eq,bu (by rw[h.lp];omega),h.lp,bh (by omega),show lo+j-lo=j by omega];exact aa a
def Rn.next(h:Rn arr0 arr lo n m)(a:lo+n<arr0.size):arr[lo+n]?=some arr0[lo+n]:=by
 rw[<-jf,h.eq,bu (by rw[h.lp];omega),h.lp,bu (by rw[h.len];omega),h.len,xF a,show lo+n-lo-n=0 by omega]
 rfl
def Rn.more(h:Rn arr0 arr lo n m)(a:lo+n<arr0.size):Rn arr0 arr lo (n+1) (m++[arr0[lo+n]]):=by
 refine⟨?_,?_,by omega⟩
 ·rw[h.eq,xF a,de]
  rfl
 ·rw[wA (i:=lo) (m:=lo+n) (j:=lo+(n+1)) (by omega) (by omega)]
  have:(arr0.extract (lo+n) (lo+(n+1))).toList=[arr0[lo+n]]:=by
   rw[<-vy,jV,xF a]
   rfl
  rw[this];exact h.pm.append_right _
def Rn.dom(h:Rn arr0 arr lo n m)(a:∀ x∈arr0.toList,D x):∀ x∈m,D x:=λ x c=>by
 obtain⟨i,d,_,_,b⟩:=qV (h.pm.mem_iff.mp c);rw[b];exact a _ (by simp)
def Rn.turn{u v t:List bb}(h:Rn arr0 arr lo n (u++(v++t))){i j:Nat}(hi:i=lo+u.length)(a:j=lo+u.length+v.length):Rn arr0 (mirror arr i j ((j-i) / 2)) lo n (u++(v.reverse++t)):=by
 have lp:=h.lp;refine⟨?_,qr (wb u (uz t (zh v))) h.pm,h.hn⟩;have e:=kAE arr (P:=arr0.toList.take lo++u) (m:=v) (T:=t++arr0.toList.drop (lo+n)) (i:=i) (j:=j) (by rw[h.eq];simp only[de]) (by rw[bg,lp];exact hi) (by rw[bg,lp];exact a);rw[e];simp only[de]
def kFE(W:Wk lb){m:List bb}{x:bb}(a:qY lb m)(h:m.length-1<m.length)(c:le lb m[m.length-1] x):qY lb (m++[x]):=by
 refine di.mpr ⟨a,jr _ _,λ y f z d=>?_⟩;have:z=x:=by simpa using d
 subst this;obtain⟨i,b,rfl⟩:=eY.mp f;by_cases e:i=m.length-1
 ·subst e;exact c
 ·exact W.trans (iX.mp a i (m.length-1) b h (by omega)) c
abbrev AS:=Option (Option Nat)×Nat
def kDJ(lo a b:Nat):StateT eJ Sem AS :=
 forIn [a:b] ((none,a):AS) λ _ c=>do
  let r <-ltAt' (lo+c.2) (lo+c.2-1)
  match r with
  | some smaller=>if smaller=true then pure (wo (none,c.2)) else pure (iO (none,c.2+1))
  | _=>pure (wo (some none,c.2))
def rX(W:Wk lb)(v:vA M A E s lb D kd){st:eJ}(y:kindOf st=kd)(p:∀ x∈arr0.toList,D x){a:Nat}(C:lo+a<=arr0.size)(H:1<=n)(r:n<=a)(h:Rn arr0 (cw st) lo n m)(B:qY lb m){Q:AS->eJ->Prop}
  (q:∀ k m',n<=k->k<=a->Rn arr0 (cw st) lo k m'->qY lb m'->(k=a\/∃(h1:lo+k<arr0.size)(J:m'.length-1<m'.length),lb arr0[lo+k] m'[m'.length-1]=true)->Q (none,k) st):wpS M A E s (kDJ lo n a) Q st:=by
 unfold kDJ;refine iU (I:=λ x c f=>f=st/\c=(none,x)/\∃ m',Rn arr0 (cw st) lo x m'/\qY lb m') ?step ?fin ⟨rfl,rfl,m,h,B⟩
 case fin =>
  rintro c f ⟨rfl,rfl,m',d,b⟩;rw[show max n a=a by omega]at d ⊢;exact q a m' r (av _) d b (.inl rfl)
 case step =>
  rintro x c f l u ⟨rfl,rfl,m',d,b⟩;dsimp only;have G:=d.len;have i:lo+x<arr0.size:=by omega
  have g:m'.length-1<m'.length:=by omega
  have o:=d.at g;rw[show lo+(m'.length-1)=lo+x-1 by omega]at o;refine cg (aD v y (d.next i) o (p _ (by simp)) (d.dom p _ (fe g)) ?_)
  cases e:lb arr0[lo+x] m'[m'.length-1]
  case true =>
   simp only[if_true];exact cy (q x m' l (by omega) d b (.inr ⟨i,g,e⟩))
  case false =>
   simp only[eA,if_false];exact cy ⟨rfl,rfl,_,d.more i,kFE W b g e⟩
end
section
variable {M:xu} {A:ed} {E:ai->ao->Prop} {s:ao} {lb:bb->bb->Bool} {D:bb->Prop} {kd:jh}
variable {arr0 arr:Array bb} {lo n:Nat} {m:List bb}
abbrev DS:=Option (Option Nat)×Nat×Nat
def kBA(lo n a:Nat):StateT eJ Sem DS :=
 forIn [n:a] ((none,n,0):DS) λ _ c=>do
  let r <-ltAt' (lo+c.2.1) (lo+c.2.1-1)
  match r with
  | some smaller =>
   if smaller=true then
    if c.2.2>0 then do
     reverseSlice' (lo+c.2.1-(c.2.2+1)) (lo+c.2.1)
     pure (iO (none,c.2.1+1,0))
    else pure (iO (none,c.2.1+1,0))
   else do
    let r <-ltAt' (lo+c.2.1-1) (lo+c.2.1)
    match r with
    | some larger=>if larger=true then pure (wo (none,c.2.1,c.2.2)) else pure (iO (none,c.2.1+1,c.2.2+1))
    | _=>pure (wo (some none,c.2.1,c.2.2))
  | _=>pure (wo (some none,c.2.1,c.2.2))
structure Fl(lb:bb->bb->Bool)(arr0 arr:Array bb)(lo n neq:Nat)(u t:List bb)(z:bb):Prop where
 rn:Rn arr0 arr lo n (u++(t++[z]))
 fal:Fal lb (u++(t++[z]))
 srt:qY lb (t++[z])
 len:t.length=neq
def Fl.last{a:Nat}{u t:List bb}{z:bb}(h:Fl lb arr0 arr lo n a u t z)(b:0<n):arr[lo+n-1]?=some z:=by
 have l:=h.rn.len;rw[bg,bg,iG]at l;have:=h.rn.at (j:=n-1) (by rw[bg,bg,iG];omega);rw[show lo+(n-1)=lo+n-1 by omega]at this;rw[this,<-aa,bu (by omega),bu (by omega),show n-1-u.length-t.length=0 by omega]
 rfl
def Fl.low(W:Wk lb){a:Nat}{u t:List bb}{z x:bb}(h:Fl lb arr0 arr lo n a u t z)(c:le lb x z):∀ y∈u++(t++[z]),le lb x y:=λ y b=>by
 have f:=h.fal;rw[Fal,<-de]at f;rw[<-de]at b;rcases bp.mp b with w | w
 ·exact W.trans c ((di.mp f).2.2 y w z (by simp))
 ·have:y=z:=by simpa using w
  rw[this];exact c
def bE{l:List bb}{x:bb}(h:Fal lb l)(c:∀ y∈l,le lb x y):Fal lb (l++[x]):=by
 refine di.mpr ⟨h,jr _ _,λ y a w b=>?_⟩;have:w=x:=by simpa using b
 rw[this];exact c y a
def Fl.turned{a:Nat}{u t:List bb}{z:bb}(h:Fl lb arr0 arr lo n a u t z):Rn arr0 (mirror arr (lo+n-(a+1)) (lo+n) ((lo+n-(lo+n-(a+1))) / 2)) lo n (u++(t++[z]).reverse)/\Fal lb (u++(t++[z]).reverse):=by
 have l:=h.rn.len;have b:=h.len;rw[bg,bg,iG]at l;refine⟨?_,h.fal.tail h.srt⟩;have:=Rn.turn (u:=u) (v:=t++[z]) (t:=[]) (by simpa using h.rn) (i:=lo+n-(a+1)) (j:=lo+n) (by omega) (by rw[bg,iG];omega);simpa using this
def kGF(W:Wk lb)(l:vA M A E s lb D kd){st:eJ}(m:kindOf st=kd)(o:∀ x∈arr0.toList,D x){a:Nat}(L:lo+a<=arr0.size)(N:1<=n)(C:n<=a){u:List bb}{z:bb}(h:Fl lb arr0 (cw st) lo n 0 u [] z){Q:DS->eJ->Prop}
  (q:∀ k neq st' u t z,Sa st st'->n<=k->k<=a->Fl lb arr0 (cw st') lo k neq u t z->Q (none,k,neq) st'):wpS M A E s (kBA lo n a) Q st:=by
 unfold kBA;refine iU (I:=λ x c st'=>Sa st st'/\∃ neq u t z,c=(none,x,neq)/\Fl lb arr0 (cw st') lo x neq u t z) ?step ?fin ⟨⟨rfl,rfl,rfl⟩,0,u,[],z,rfl,h⟩
 case fin =>
  rintro c st' ⟨b,neq,u,t,z,rfl,f⟩;rw[show max n a=a by omega]at f ⊢;exact q _ _ _ _ _ _ b C (av _) f
 case step =>
  rintro x c st' g G ⟨b,neq,u,t,z,rfl,f⟩;dsimp only;have d:lo+x<arr0.size:=by omega
  have v:D z:=f.rn.dom o z (by simp);have p:D arr0[lo+x]:=o _ (by simp);refine cg (aD l (b.1.trans m) (f.rn.next d) (f.last (by omega)) p v ?_)
  cases e:lb arr0[lo+x] z
  case true =>
   simp only[if_true];have r:=f.low W (W.of_lt e);by_cases i:neq>0
   ·rw[if_pos i,AG]
    obtain⟨B,J⟩:=f.turned;refine cg (jt (cy ⟨b,0,_,[],_,rfl,⟨B.more d,bE J λ y H=>r y ?_,jr _ _,rfl⟩⟩));rcases bp.mp H with w | w
    ·exact cf _ w
    ·exact cm _ (nj.mp w)
   ·rw[if_neg i]
    exact cy ⟨b,0,_,[],_,rfl,⟨f.rn.more d,bE f.fal r,jr _ _,rfl⟩⟩
  case false =>
   simp only[eA,if_false];refine cg (aD l (b.1.trans m) (f.last (by omega)) (f.rn.next d) v p ?_)
   cases e2:lb z arr0[lo+x]
   case true =>
    simp only[if_true];exact cy (q _ _ _ _ _ _ b g (by omega) f)
   case false =>
    simp only[eA,if_false];refine cy ⟨b,neq+1,u,t++[z],arr0[lo+x],rfl,⟨by have:=f.rn.more d;simpa using this,by have:=bE f.fal (f.low W e2);simpa using this,?_,by rw[bg,f.len];rfl⟩⟩;refine kFE W f.srt (by rw[bg,iG];omega) ?_;have:(t++[z])[(t++[z]).length-1]'(by rw[bg,iG];omega)=z:=by simp
    rw[this];exact e
end
def mQ(lo n a:Nat):StateT eJ Sem (Option Nat):=do
 reverseSlice' lo (lo+n)
 let c <-kDJ lo n a
 match c.1 with
 | some r=>pure r
 | none=>pure (some c.2)
def cZ(lo n a:Nat):StateT eJ Sem (Option Nat):=do
 liftM (rule "list.sort.descending-run")
 let c <-kBA lo (n+1) a
 match c.1 with
 | some r=>pure r
 | none =>
  if c.2.2>0 then do
   reverseSlice' (lo+c.2.1-(c.2.2+1)) (lo+c.2.1)
   mQ lo c.2.1 a
  else mQ lo c.2.1 a
def lE(lo a:Nat):countRun' lo a=(do
  let c <-kDJ lo 1 a
  match c.1 with
  | some r=>pure r
  | none =>
   if(c.2 == a)=true then pure (some c.2)
   else if c.2>1 then do
    let r <-ltAt' lo (lo+c.2-1)
    match r with
    | some rose =>
     if rose=true then pure (some c.2)
     else do
      reverseSlice' lo (lo+c.2)
      cZ lo c.2 a
    | _=>pure none
   else cZ lo c.2 a):=by
 rw[countRun'_eq];dsimp only;unfold kDJ;refine congr (congrArg _ (congrArg _ (funext λ x=>funext λ c=>congrArg _ (funext λ r=>by cases r<;>rfl)))) (funext λ c=>?_);have part:∀ n:Nat,cZ lo n a=cZ lo n a:=λ _=>rfl
 cases c.1 with
 | some r=>rfl
 | none =>
  dsimp only;refine ite_congr rfl (λ _=>rfl) (λ _=>ite_congr rfl (λ _=>congrArg _ (funext λ r=>?_)) (λ _=>?_))
  ·cases r with
   | none=>rfl
   | some rose =>
    dsimp only;refine ite_congr rfl (λ _=>rfl) (λ _=>congrArg _ (funext λ _=>?_));unfold cZ kBA;refine congrArg _ (funext λ _=>congr (congrArg _ (congrArg _ (funext λ x=>funext λ d=>congrArg _ (funext λ r=>?_)))) (funext λ d=>?_))
    ·cases r with
     | none=>rfl
     | some b=>exact ite_congr rfl (λ _=>rfl) (λ _=>congrArg _ (funext λ r=>by cases r<;>rfl))
    ·cases d.1 with
     | some r=>rfl
     | none =>
      unfold mQ kDJ;refine ite_congr rfl (λ _=>congrArg _ (funext λ _=>?_)) (λ _=>?_)
      all_goals exact congrArg _ (funext λ _=>congr (congrArg _ (congrArg _ (funext λ x=>funext λ c=>congrArg _ (funext λ r=>by cases r<;>rfl)))) (funext λ c=>by cases c.1<;>rfl))
  ·unfold cZ kBA
   refine congrArg _ (funext λ _=>congr (congrArg _ (congrArg _ (funext λ x=>funext λ d=>congrArg _ (funext λ r=>?_)))) (funext λ d=>?_))
   ·cases r with
    | none=>rfl
    | some b=>exact ite_congr rfl (λ _=>rfl) (λ _=>congrArg _ (funext λ r=>by cases r<;>rfl))
   ·cases d.1 with
    | some r=>rfl
    | none =>
     unfold mQ kDJ;refine ite_congr rfl (λ _=>congrArg _ (funext λ _=>?_)) (λ _=>?_)
     all_goals exact congrArg _ (funext λ _=>congr (congrArg _ (congrArg _ (funext λ x=>funext λ c=>congrArg _ (funext λ r=>by cases r<;>rfl)))) (funext λ c=>by cases c.1<;>rfl))
section
variable {M:xu} {A:ed} {E:ai->ao->Prop} {s:ao} {lb:bb->bb->Bool} {D:bb->Prop} {kd:jh}
variable {arr0 arr:Array bb} {lo n:Nat} {m:List bb}
def mJ(W:Wk lb)(c:vA M A E s lb D kd){st:eJ}(g:kindOf st=kd)(l:∀ x∈arr0.toList,D x){a:Nat}(p:lo+a<=arr0.size)(d:1<=n)(o:n<=a)(h:Rn arr0 (cw st) lo n m)(r:Fal lb m){Q:Option Nat->eJ->Prop}
  (q:∀ k st',Sa st st'->1<=k->k<=a->Joined lb arr0 (cw st') lo k->Q (some k) st'):wpS M A E s (mQ lo n a) Q st:=by
 unfold mQ;rw[AG];refine cg (jt ?_);have t:=Rn.turn (u:=[]) (v:=m) (t:=[]) (by simpa using h) (i:=lo) (j:=lo+n) (by simp) (by rw[h.len];simp);simp only[mo,iM]at t;refine cg (rX (st:=setArr st (mirror (cw st) lo (lo+n) ((lo+n-lo) / 2))) W c g l p d o t r.rev λ k B C f y b _=>?_);exact cy (q k _ ⟨rfl,rfl,rfl⟩ (by omega) f (y.joined b))
def mK(W:Wk lb)(i:vA M A E s lb D kd){st:eJ}(l:kindOf st=kd)(o:∀ x∈arr0.toList,D x){a:Nat}(p:lo+a<=arr0.size)(N:1<=n)(J:n<a)(h:Rn arr0 (cw st) lo n m)(G:Fal lb m)(hz:lo+n<arr0.size)(I:∀ y∈m,le lb arr0[lo+n] y){Q:Option Nat->eJ->Prop}
  (q:∀ k st',Sa st st'->1<=k->k<=a->Joined lb arr0 (cw st') lo k->Q (some k) st'):wpS M A E s (cZ lo n a) Q st:=by
 unfold cZ;refine cg (zU ?_);refine cg (kGF W i l o p (by omega) (by omega) (u:=m) (z:=arr0[lo+n]) ⟨h.more hz,bE G I,jr _ _,rfl⟩ λ k c st' u t z d L r f=>?_);dsimp only;have B:∀ k b,Sa st' b->1<=k->k<=a->Joined lb arr0 (cw b) lo k->Q (some k) b:=λ k b g=>q k b ⟨g.1.trans d.1,g.2.1.trans d.2.1,g.2.2.trans d.2.2⟩;by_cases v:c>0
 ·rw[if_pos v,AG]
  obtain⟨C,H⟩:=f.turned;refine cg (jt ?_);exact mJ (st:=setArr st' (mirror (cw st') (lo+k-(c+1)) (lo+k) ((lo+k-(lo+k-(c+1))) / 2))) W i (d.1.trans l) o p (by omega) r C H B
 ·rw[if_neg v]
  exact mJ W i (d.1.trans l) o p (by omega) r f.rn f.fal B
def oQ(W:Wk lb)(d:vA M A E s lb D kd){st:eJ}(f:kindOf st=kd)(b:∀ x∈(cw st).toList,D x){a:Nat}(C:lo+a<=(cw st).size)(X:1<=a){Q:Option Nat->eJ->Prop}
  (q:∀ k st',Sa st st'->1<=k->k<=a->Joined lb (cw st) (cw st') lo k->Q (some k) st'):wpS M A E s (countRun' lo a) Q st:=by
 rw[lE];have L:=Rn.start (arr0:=cw st) (lo:=lo) (n:=1) (by omega)
 have Y:qY lb ((cw st).extract lo (lo+1)).toList:=by
  have:=L.len;generalize((cw st).extract lo (lo+1)).toList=l at *;exact pK (Fe this)
 refine cg (rX W d f b C (by omega) X L Y λ k m p J r h c=>?_);dsimp only;have U:=r.len;by_cases e:k=a
 ·rw[if_pos (by simpa using e)]
  exact cy (q k st ⟨rfl,rfl,rfl⟩ p J (r.joined h))
 ·rw[if_neg (by simpa using e)]
  obtain⟨N,Z,lt⟩ : ∃(h1:lo+k<(cw st).size)(h2:m.length-1<m.length),lb (cw st)[lo+k] m[m.length-1]=true:=by
   rcases c with c | c
   ·exact absurd c e
   ·exact c
  by_cases g:k>1
  ·rw[if_pos g]
   have S:=r.at (j:=0) (by omega);have I:=r.at Z;rw[Da]at S;rw[show lo+(m.length-1)=lo+k-1 by omega]at I;refine cg (aD d f S I (r.dom b _ (fe _)) (r.dom b _ (fe _)) ?_)
   cases e2:lb (m[0]'(by omega)) m[m.length-1]
   case true =>
    simp only[if_true];exact cy (q k st ⟨rfl,rfl,rfl⟩ p J (r.joined h))
   case false =>
    simp only[eA,if_false];rw[AG];refine cg (jt ?_);have t:=Rn.turn (u:=[]) (v:=m) (t:=[]) (by simpa using r) (i:=lo) (j:=lo+k) (by simp) (by rw[U];simp);simp only[mo,iM]at t;refine mK (st:=setArr st (mirror (cw st) lo (lo+k) ((lo+k-lo) / 2))) W d f b C p (by omega) t (show List.Pairwise _ _ from zr.mpr h) N (λ y B=>?_) λ H st' G=>q H st' G;obtain⟨i,O,rfl⟩:=eY.mp (nj.mp B)
    have T:le lb (m[0]'(by omega)) m[i]:=by
     by_cases z:0=i
     ·subst z;exact W.refl _
     ·exact iX.mp h 0 i (by omega) O (by omega)
    exact W.trans (W.of_lt lt) (W.trans e2 T)
  ·rw[if_neg g]
   have o:k=1:=by omega
   subst o
   exact mK W d f b C (by omega) (by omega) r (pK (by omega)) N (λ y B=>by
    obtain⟨i,O,rfl⟩:=eY.mp B;have e3:i=m.length-1:=by omega
    simp only[e3];exact W.of_lt lt) λ H st' G=>q H st' G
end
abbrev Pn:=Nat×Nat×Nat
def Tiles:List Pn->Nat->Nat->Prop
 | [],a,b=>a=b
 | x::r,a,b=>x.1=a/\0<x.2.1/\Tiles r (a+x.2.1) b
theorem Tiles.le:∀{l:List Pn}{a b:Nat},Tiles l a b->a<=b
 | [],a,b,h=>by rw[show a=b from h];exact av _
 | x::r,a,b,h=>by have:=Tiles.le h.2.2;omega
theorem Tiles.app:∀{l r:List Pn}{a b:Nat},Tiles (l++r) a b↔∃ c,Tiles l a c/\Tiles r c b
 | [],r,a,b=>⟨λ h=>⟨a,rfl,h⟩,λ⟨c,h1,d⟩=>by rw[show a=c from h1];exact d⟩
 | x::l,r,a,b=>by
  constructor
  ·rintro⟨h1,d,f⟩
   obtain⟨c,g,i⟩:=Tiles.app.mp f;exact⟨c,⟨h1,d,g⟩,i⟩
  ·rintro⟨c,⟨h1,d,f⟩,g⟩
   exact⟨h1,d,Tiles.app.mpr ⟨c,f,g⟩⟩
def Tiles.join{l r:List Pn}{a b s n g d p u:Nat}(h:Tiles (l++(s,n,p)::(g,d,u)::r) a b):g=s+n/\0<n/\0<d/\s+n+d<=b/\Tiles l a s/\Tiles r (s+n+d) b/\Tiles (l++(s,n+d,p)::r) a b:=by
 obtain⟨c,h1,i,m,q,o,f⟩:=Tiles.app.mp h;have i:s=c:=i;have q:g=c+n:=q;have m:0<n:=m;have o:0<d:=o;have f:Tiles r (c+n+d) b:=f;subst i;refine⟨q,m,o,f.le,h1,f,Tiles.app.mpr ⟨s,h1,rfl,by show 0<n+d;omega,?_⟩⟩;show Tiles r (s+(n+d)) b;rw[<-vy];exact f
def kCH{P:Array Pn}{l r:List Pn}{x y z:Pn}(h:P.toList=l++x::y::r):((P.setIfInBounds l.length z).eraseIdxIfInBounds (l.length+1)).toList=l++z::r:=by
 have sz:P.size=l.length+(r.length+2):=by
  have:=congrArg iB h;simpa using this
 unfold Array.eraseIdxIfInBounds;rw[dif_pos (by rw[BU];omega),Array.toList_eraseIdx,BA,h];rw[List.set_append_right _ _ (av _),Dd,yx (by omega),show l.length+1-l.length=1 by omega]
 rfl
section
variable {lb:bb->bb->Bool} {arr arr':Array bb} {lo n:Nat}
def Joined.low(h:Joined lb arr arr' lo n)(d:lo+n<=arr.size){a k:Nat}(c:a+k<=lo):(arr'.extract a (a+k)).toList=(arr.extract a (a+k)).toList:=by
 obtain⟨m,e,_,b⟩:=h;have lp:(arr.toList.take lo).length=lo:=by simp;omega
 rw[jV,jV,e,List.drop_append_of_le_length (by omega),AK (by rw[iJ];omega),Ei,Ej,jq (by omega)]
def Joined.high(h:Joined lb arr arr' lo n)(d:lo+n<=arr.size){a k:Nat}(c:lo+n<=a):(arr'.extract a (a+k)).toList=(arr.extract a (a+k)).toList:=by
 obtain⟨m,e,_,b⟩:=h
 have l:m.length=n:=by
  rw[b.length_eq,jV,eO,iJ,eZ];omega
 have lp:(arr.toList.take lo).length=lo:=by simp;omega
 rw[jV,jV,e,AF,lp,je (by omega),mo,AF,je (by omega),mo,zg]
 congr 2
 omega
def Joined.here(h:Joined lb arr arr' lo n)(c:lo+n<=arr.size):qY lb (arr'.extract lo (lo+n)).toList:=by
 obtain⟨m,e,b,a⟩:=h
 have l:m.length=n:=by
  rw[a.length_eq,jV,eO,iJ,eZ];omega
 have lp:(arr.toList.take lo).length=lo:=by simp;omega
 rw[jV,e,AF,lp,je (by omega),mo,Dd,Ek,AK (by omega),jd (by omega)];exact b
def Joined.perm(h:Joined lb arr arr' lo n)(b:lo+n<=arr.size):arr'.toList.Perm arr.toList:=by
 obtain⟨m,e,c,a⟩:=h;rw[e];exact(wb _ (a.append_right _)).trans (List.Perm.of_eq (wU b).symm)
end
section
variable {M:xu} {A:ed} {E:ai->ao->Prop} {s:ao} {lb:bb->bb->Bool} {D:bb->Prop} {kd:jh}
structure SI(lb:bb->bb->Bool)(kd:jh)(a0:Array bb)(st:eJ)(lo:Nat):Prop where
 kind:kindOf st=kd
 failed:se st=none
 perm:(cw st).toList.Perm a0.toList
 tiles:Tiles (cv st).toList 0 lo
 top:lo<=a0.size
 runs:∀ x∈(cv st).toList,qY lb ((cw st).extract x.1 (x.1+x.2.1)).toList
theorem SI.size{a:Array bb}{st:eJ}{lo:Nat}(h:SI lb kd a st lo):(cw st).size=a.size:=by simpa using h.perm.length_eq
theorem Tiles.in:∀{l:List Pn}{a b:Nat},Tiles l a b->∀ x∈l,a<=x.1/\x.1+x.2.1<=b
 | y::l,a,b,h,x,hx=>by
  rcases cn.mp hx with rfl | z
  ·have:=h.2.2.le
   have:=h.1;omega
  ·have:=Tiles.in h.2.2 x z
   omega
def uH(W:Wk lb)(I:vA M A E s lb D kd){r:Array bb}(L:∀ x∈r.toList,D x){st:eJ}{lo:Nat}(h:SI lb kd r st lo){i:Nat}(hi:i+1<(cv st).size){Q:Bool->eJ->Prop}
  (q:∀ st',SI lb kd r st' lo->(cv st').size+1=(cv st).size->(∀ a k,lo<=a->((cw st').extract a (a+k)).toList=((cw st).extract a (a+k)).toList)->Q true st'):wpS M A E s (mergeAt' i) Q st:=by
 have m:(cv st).toList=(cv st).toList.take i++(cv st)[i]::(cv st)[i+1]::(cv st).toList.drop (i+2):=by
  conv=>lhs;rw[<-gh i (cv st).toList]
  rw[xF (show i<(cv st).size by omega),xF hi]
  rfl
 have li:((cv st).toList.take i).length=i:=by simp;omega
 have H:=getElem?_pos (cv st) i (by omega);have J:=getElem?_pos (cv st) (i+1) hi;have G:=h.runs _ (by simp:(cv st)[i]∈(cv st).toList);have Z:=h.runs _ (by simp:(cv st)[i+1]∈(cv st).toList);have B:=h.tiles;have o:=h.runs;rw[m]at B o;generalize C:(cv st)[i]=x at *;generalize hy:(cv st)[i+1]=y at *;obtain⟨p,f,v⟩:=x;obtain⟨sb,g,pb⟩:=y;obtain⟨T,l,d,le,O,U,tj⟩:=B.join;subst T;have top:=h.top;have sz:=h.size;refine rW W I h.kind h.failed (λ x C=>L x (h.perm.mem_iff.mp C)) H J l d (by omega) G Z λ st' k' S X c=>?_;have b:p+(f+g)<=(cw st).size:=by omega
 have n:(cv st').toList=(cv st).toList.take i++(p,f+g,v)::(cv st).toList.drop (i+2):=by
  have:=kCH (z:=(p,f+g,v)) m;rw[li]at this;rw[X,this]
 refine q st' ⟨k',S,(c.perm b).trans h.perm,by rw[n];exact tj,top,λ z u=>?_⟩ ?_ (λ a k N=>c.high b (by omega))
 ·rw[n]at u
  rcases bp.mp u with w | w
  ·have:=O.in z w
   rw[c.low b (by omega)];exact o z (cf _ w)
  ·rcases cn.mp w with rfl | w
   ·exact c.here b
   ·have:=U.in z w
    rw[c.high b (by omega)];exact o z (cm _ (dc _ (dc _ w)))
 ·have l1:=congrArg iB n
  have Y:=congrArg iB m;simp only[eZ,bg,eQ]at l1 Y;omega
end
def Tiles.snoc{l:List Pn}{a b:Nat}{x:Pn}(h:Tiles l a b)(e:x.1=b)(n:0<x.2.1):Tiles (l++[x]) a (b+x.2.1) :=
 Tiles.app.mpr ⟨b,h,e,n,rfl⟩
theorem Tiles.repl:∀{l:List Pn}{a b:Nat}(k:Nat)(f:Pn->Pn),(∀ x,(f x).1=x.1/\(f x).2.1=x.2.1)->Tiles l a b->Tiles (l.modify k f) a b
 | [],a,b,k,f,hf,h=>by simpa using h
 | x::r,a,b,0,f,hf,h=>by
  obtain⟨h1,d,c⟩:=h;have:=hf x;rw[List.modify_zero_cons];exact⟨this.1.trans h1,by rw[this.2];exact d,by rw[this.2];exact c⟩
 | x::r,a,b,k+1,f,hf,h=>by
  obtain⟨h1,d,c⟩:=h;rw[List.modify_succ_cons];exact⟨h1,d,Tiles.repl k f hf c⟩
def kNK{l:List Pn}{k:Nat}{f:Pn->Pn}{x:Pn}(h:x∈l.modify k f):∃ y∈l,x=y\/x=f y:=by
 obtain⟨i,a,rfl⟩:=eY.mp h;rw[List.getElem_modify];have b:i<l.length:=by simpa using a
 split
 ·exact⟨l[i],fe _,.inr rfl⟩
 ·exact⟨l[i],fe _,.inl rfl⟩
def Tiles.one:∀{l:List Pn}{a b:Nat},Tiles l a b->a<b->l.length<=1->∃ p,l=[(a,b-a,p)]
 | [],a,b,h,c,_=>by have:a=b:=h;omega
 | [(s,n,p)],a,b,h,c,_=>by
  obtain⟨h1,f,d⟩:=h;have h1:s=a:=h1;have d:a+n=b:=d;refine⟨p,?_⟩;rw[h1,show n=b-a by omega]
 | _::_::_,a,b,h,c,z=>by simp at z
section
variable {M:xu} {A:ed} {E:ai->ao->Prop} {s:ao} {lb:bb->bb->Bool} {D:bb->Prop} {kd:jh}
def SI.len{c:Array bb}{st:eJ}{lo:Nat}(h:SI lb kd c st lo):(cv st).size<=lo:=by
 have:∀(l:List Pn)(a b:Nat),Tiles l a b->a+l.length<=b:=by
  intro l
  induction l with
  | nil=>intro a b h;rw[show a=b from h];simp
  | cons x r ih =>
   intro a b h;have:=ih _ _ h.2.2;have:=h.2.1;rw[eQ];omega
 have:=this _ _ _ h.tiles;simpa using this
theorem SI.push{b:Array bb}{st:eJ}{lo n:Nat}(h:SI lb kd b st lo)(f:0<n)(d:lo+n<=b.size)(c:qY lb ((cw st).extract lo (lo+n)).toList) :
  SI lb kd b (setPending st ((cv st).push (lo,n,0))) (lo+n):=by
 refine⟨h.kind,h.failed,h.perm,?_,d,?_⟩
 ·show Tiles ((cv st).push (lo,n,0)).toList 0 (lo+n)
  rw[sg];exact h.tiles.snoc rfl f
 ·intro x a
  have a:x∈((cv st).push (lo,n,0)).toList:=a;rw[sg]at a;rcases bp.mp a with z | z
  ·exact h.runs x z
  ·have:x=(lo,n,0):=by simpa using z
   rw[this];exact c
def SI.mod{b:Array bb}{st:eJ}{lo:Nat}(h:SI lb kd b st lo)(k c:Nat):SI lb kd b (setPending st ((cv st).modify k λ(x:Pn)=>(x.1,x.2.1,c))) lo:=by
 refine⟨h.kind,h.failed,h.perm,?_,h.top,?_⟩
 ·show Tiles ((cv st).modify k _).toList 0 lo
  rw[Cj];exact Tiles.repl k _ (λ x=>⟨rfl,rfl⟩) h.tiles
 ·intro x a
  have a:x∈((cv st).modify k λ(x:Pn)=>(x.1,x.2.1,c)).toList:=a;rw[Cj]at a;obtain⟨y,d,e⟩:=kNK a;have r:=h.runs y d;rcases e with rfl | rfl
  ·exact r
  ·exact r
def SI.tail{c:Array bb}{st a:eJ}{lo n:Nat}(h:SI lb kd c st lo)(b:Sa st a)(f:lo+n<=c.size)(j:Joined lb (cw st) (cw a) lo n):SI lb kd c a lo:=by
 have sz:=h.size;refine⟨b.1.trans h.kind,b.2.2.trans h.failed,(j.perm (by omega)).trans h.perm,by rw[b.2.1];exact h.tiles,h.top,λ x d=>?_⟩;rw[b.2.1]at d;have:=h.tiles.in x d;rw[j.low (by omega) (by omega)];exact h.runs x d
def rR(W:Wk lb)(S:vA M A E s lb D kd){st:eJ}(hk:kindOf st=kd)(hf:se st=none)(hp:cv st = #[])(dd:∀ x∈(cw st).toList,D x){Q:Unit->eJ->Prop}
  (h:∀ st',(cw st').toList.Perm (cw st).toList->se st'=none->qY lb (cw st').toList->Q () st'):wpS M A E s sortRuns' Q st:=by
 rw[sortRuns'_eq];refine cg (yh ?_);dsimp only;generalize a6:(cw st).size=size;generalize a5:minRun' size size 0=mr
 refine cg (sd (iU
  (I:=λ x c st'=>∃ lo,c=(none,lo)/\SI lb kd (cw st) st' lo/\(x<=lo\/lo=size))
  (Q:=λ c st'=>c=(none,size)/\SI lb kd (cw st) st' size) ?step ?fin ⟨0,rfl,⟨hk,hf,zf _,by rw[hp];rfl,fv _,by rw[hp];simp⟩,.inl (av _)⟩) ?post)
 case fin =>
  rintro c st' ⟨lo,rfl,d,B⟩
  have:lo=size:=by
   rcases B with B | B
   ·have:=d.top;omega
   ·exact B
  subst this;exact⟨rfl,d⟩
 case step =>
  rintro x c st' _ B ⟨lo,rfl,d,a7⟩;dsimp only;have top:=d.top;have a4:=d.size;by_cases U:lo >= size
  ·rw[if_pos U]
   have:lo=size:=by omega
   subst this;exact cy ⟨rfl,d⟩
  rw[if_neg U];have T:∀{q:eJ},SI lb kd (cw st) q lo->∀ x∈(cw q).toList,D x:=λ h x B=>dd x (h.perm.mem_iff.mp B);refine cg (oQ W S d.kind (T d) (by omega) (by omega) λ m q C m1 m2 j2=>?_);dsimp only;have l:=d.tail C (by omega) j2;have v:=j2.here (by omega);have Z:=l.size;have bin:∀ n,n=min (size-lo) mr->m<mr->m<=n/\0<n/\lo+n<=size:=λ n e h=>by omega
  by_cases u:m<mr
  ·rw[if_pos u]
   refine cg (zU ?_);generalize hn:min (size-lo) mr=n;obtain⟨mn,n0,a1⟩:=bin n hn.symm u;refine cg (kBG W S l.kind (T l) mn (by omega) v λ a2 N j3=>?_);simp only[yb,eA,if_false];have a0:=l.tail N (by omega) j3;have X:=j3.here (by omega);clear v l j2 C j3 N Z m1 m2 mn u hn bin;clear m q;refine cg (yh ?_)
   cases L:(cv a2).back? with
   | none =>
    dsimp only;exact cg (jt (cy ⟨lo+n,rfl,a0.push n0 (by omega) X,by omega⟩))
   | some z =>
    obtain⟨Y,G,z1⟩:=z;dsimp only;generalize power' size (2*Y+G) (2*Y+G+G+n) size=O
    refine cg (sd (iU (I:=λ _ c st'=>c=(none,())/\SI lb kd (cw st) st' lo/\qY lb ((cw st').extract lo (lo+n)).toList)
     (Q:=λ c st'=>c=(none,())/\SI lb kd (cw st) st' lo/\qY lb ((cw st').extract lo (lo+n)).toList) ?_ (λ _ _ hh=>hh) ⟨rfl,a0,X⟩) ?_)
    ·rintro y c a _ hy ⟨rfl,g,f⟩
     refine cg (yh ?_);by_cases h1:(cv a).size>1
     ·rw[if_pos h1,getElem?_pos (cv a) ((cv a).size-2) (by omega)]
      generalize(cv a)[(cv a).size-2]'(by omega)=zz;obtain⟨y1,y2,y3⟩:=zz;dsimp only;by_cases J:y3<=O
      ·rw[if_pos J]
       exact cy ⟨rfl,g,f⟩
      ·rw[if_neg J]
       refine cg (uH W S dd g (by omega) λ a3 o h5 e5=>?_);simp only[yb,eA,if_false];exact cy ⟨rfl,o,by rw[e5 _ _ (av _)];exact f⟩
     ·rw[if_neg h1]
      exact cy ⟨rfl,g,f⟩
    ·rintro c a ⟨rfl,g,f⟩
     dsimp only;refine cg (jt ?_);have o:=g.mod ((cv a).size-1) O;exact cg (jt (cy ⟨lo+n,rfl,o.push n0 (by omega) f,by omega⟩))
  ·rw[if_neg u]
   have a1:lo+m<=size:=by omega
   have n0:0<m:=by omega
   clear bin u m2 m1 j2 Z C;refine cg (yh ?_)
   cases L:(cv q).back? with
   | none =>
    dsimp only;exact cg (jt (cy ⟨lo+m,rfl,l.push n0 (by omega) v,by omega⟩))
   | some z =>
    obtain⟨Y,G,z1⟩:=z;dsimp only;generalize power' size (2*Y+G) (2*Y+G+G+m) size=O
    refine cg (sd (iU (I:=λ _ c st'=>c=(none,())/\SI lb kd (cw st) st' lo/\qY lb ((cw st').extract lo (lo+m)).toList)
     (Q:=λ c st'=>c=(none,())/\SI lb kd (cw st) st' lo/\qY lb ((cw st').extract lo (lo+m)).toList) ?_ (λ _ _ hh=>hh) ⟨rfl,l,v⟩) ?_)
    ·rintro y c a _ hy ⟨rfl,g,f⟩
     refine cg (yh ?_);by_cases h1:(cv a).size>1
     ·rw[if_pos h1,getElem?_pos (cv a) ((cv a).size-2) (by omega)]
      generalize(cv a)[(cv a).size-2]'(by omega)=zz;obtain⟨y1,y2,y3⟩:=zz;dsimp only;by_cases J:y3<=O
      ·rw[if_pos J]
       exact cy ⟨rfl,g,f⟩
      ·rw[if_neg J]
       refine cg (uH W S dd g (by omega) λ a3 o h5 e5=>?_);simp only[yb,eA,if_false];exact cy ⟨rfl,o,by rw[e5 _ _ (av _)];exact f⟩
     ·rw[if_neg h1]
      exact cy ⟨rfl,g,f⟩
    ·rintro c a ⟨rfl,g,f⟩
     dsimp only;refine cg (jt ?_);have o:=g.mod ((cv a).size-1) O;exact cg (jt (cy ⟨lo+m,rfl,o.push n0 (by omega) f,by omega⟩))
 case post =>
  rintro c st' ⟨rfl,d⟩;dsimp only
  have H:∀ st',SI lb kd (cw st) st' size->(cv st').size<=1->Q () st':=λ st' d hl=>by
   refine h st' d.perm d.failed ?_;by_cases z:0<size
   ·obtain⟨p,e⟩:=d.tiles.one z (by simpa using hl)
    have r:=d.runs (0,size-0,p) (by rw[e];simp);have r:qY lb ((cw st').extract 0 (0+(size-0))).toList:=r;have e1:=d.size;rw[show 0+(size-0)=(cw st').size by omega,Array.extract_size]at r;exact r
   ·have:(cw st').toList=[]:=iu.mp (by rw[eZ];have:=d.size;omega)
    rw[this];exact BL
  refine cg (sd (iU (I:=λ x c st'=>c=(none,())/\SI lb kd (cw st) st' size/\(cv st').size+x<=max (size+1) (1+x))
   (Q:=λ c st'=>c=(none,())/\SI lb kd (cw st) st' size/\(cv st').size<=1) ?_ ?_ ⟨rfl,d,by have:=d.len;omega⟩) ?_)
  ·rintro x c st' _ B ⟨rfl,d,L⟩
   refine cg (yh ?_);by_cases h1:(cv st').size<=1
   ·rw[if_pos h1]
    exact cy ⟨rfl,d,h1⟩
   rw[if_neg h1];have hg:∀ b:Bool,(if b=true then(cv st').size-2-1 else(cv st').size-2)+1<(cv st').size:=λ b=>by split<;>omega
   replace hg:=hg (Option.any (λ x=>decide (x<((cv st')[(cv st').size-2+1]?.elim 0 λ x=>x.snd.fst))) (if(cv st').size-2>0 then GK (λ x=>x.snd.fst) (cv st')[(cv st').size-2-1]? else none))
   generalize(if(if(cv st').size-2>0 then GK (λ x=>x.snd.fst) (cv st')[(cv st').size-2-1]? else none).any _=true then(cv st').size-2-1 else(cv st').size-2)=i at hg ⊢;refine cg (uH W S dd d hg λ q l J _=>?_);simp only[yb,eA,if_false];exact cy ⟨rfl,l,by omega⟩
  ·rintro c st' ⟨rfl,d,L⟩
   exact⟨rfl,d,by omega⟩
  ·rintro c st' ⟨rfl,d,L⟩
   exact cy (H _ d L)
end
open PySem PySem.W PyProof.Rows
def lexLt:List Int->List Int->Bool
 | [],[]=>false
 | [],_::_=>true
 | _::_,[]=>false
 | a::x,b::y=>if a=b then lexLt x y else decide (a<b)
theorem lex_irr:∀ x,lexLt x x=false
 | []=>rfl
 | a::x=>by rw[lexLt,if_pos rfl];exact lex_irr x
theorem lex_tr:∀ x y z,lexLt x y=true->lexLt y z=true->lexLt x z=true
 | [],[],_,h,_=>nomatch h
 | [],_::_,[],_,h=>nomatch h
 | [],_::_,_::_,_,_=>rfl
 | _::_,[],_,h,_=>nomatch h
 | _::_,_::_,[],_,h=>nomatch h
 | a::x,b::y,c::z,h,k=>by
  rw[lexLt]at *;by_cases e:a=b
  ·subst e
   rw[if_pos rfl]at h;by_cases d:a=c
   ·subst d
    rw[if_pos rfl]at k ⊢;exact lex_tr x y z h k
   ·rw[if_neg d]at k ⊢
    exact k
  ·rw[if_neg e]at h
   by_cases d:b=c
   ·subst d
    rw[if_neg e];exact h
   ·rw[if_neg d]at k
    have h:=of_decide_eq_true h;have k:=of_decide_eq_true k;rw[if_neg (by omega)];exact decide_eq_true (by omega)
theorem lex_neg:∀ x y z,lexLt x z=true->lexLt x y=true\/lexLt y z=true
 | [],[],z,h=>.inr h
 | [],_::_,z,h=>.inl rfl
 | _::_,_,[],h=>nomatch h
 | _::_,[],_::_,h=>.inr rfl
 | a::x,b::y,c::z,h=>by
  rw[lexLt]at *;by_cases e:a=c
  ·subst e
   rw[if_pos rfl]at h;by_cases d:a=b
   ·subst d
    rw[if_pos rfl,lexLt,if_pos rfl];exact lex_neg x y z h
   ·rw[if_neg d,lexLt,if_neg (λ q=>d q.symm)]
    by_cases l:a<b
    ·exact .inl (decide_eq_true l)
    ·exact .inr (decide_eq_true (by omega))
  ·rw[if_neg e]at h
   have h:=of_decide_eq_true h;by_cases d:a=b
   ·subst d
    rw[lexLt,if_neg e];exact .inr (decide_eq_true h)
   ·rw[if_neg d]
    by_cases l:a<b
    ·exact .inl (decide_eq_true l)
    ·rw[lexLt,if_neg (by omega)]
     exact .inr (decide_eq_true (by omega))
theorem lex_tot:∀ x y,lexLt x y=false->lexLt y x=false->x=y
 | [],[],_,_=>rfl
 | [],_::_,h,_=>nomatch h
 | _::_,[],_,h=>nomatch h
 | a::x,b::y,h,k=>by
  rw[lexLt]at *;by_cases e:a=b
  ·subst e
   rw[if_pos rfl]at h k;rw[lex_tot x y h k]
  ·rw[if_neg e]at h
   rw[if_neg (λ q=>e q.symm)]at k;have h:=of_decide_eq_false h;have k:=of_decide_eq_false k;omega
def keyOf(h:iC):ai->List Int
 | .ref a=>match h.get? a with
  | some o=>match o.data with
   | .seq xs _=>xs.toList.map numOf
   | _=>[]
  | none=>[]
 | _=>[]
def lbT(h:iC)(x y:bb):Bool:=lexLt (keyOf h x.1) (keyOf h y.1)
def kQM(h:iC):Wk (lbT h):=⟨λ a=>lex_irr _,λ a b c=>lex_neg _ _ _,λ a b c=>lex_tr _ _ _⟩
def lbI(x y:bb):Bool:=decide (numOf x.1<numOf y.1)
def kQN:Wk lbI:=⟨λ a=>by unfold lbI;simp,λ a b c h=>by
  unfold lbI at *;have:=of_decide_eq_true h;by_cases l:numOf a.1<numOf b.1
  ·exact .inl (decide_eq_true l)
  ·exact .inr (decide_eq_true (by omega)),λ a b c h k=>by
  unfold lbI at *;have:=of_decide_eq_true h;have:=of_decide_eq_true k;exact decide_eq_true (by omega)⟩
def TupI(h:iC)(v:ai):Prop:=∃ a o b n,v=.ref a/\h.get? a=some o/\o.cls=.type "tuple"/\o.data=.seq b n/\(∀ u∈b.toList,∃ k t,u=.int k t)/\0<b.size
def TupI.kept{h h':iC}{v:ai}(x:TupI h v)(k:∀ a o,o.cls=.type "tuple"->h.get? a=some o->h'.get? a=some o):TupI h' v/\keyOf h' v=keyOf h v:=by
 obtain⟨a,o,g,n,rfl,b,c,i,d,f⟩:=x;refine⟨⟨a,o,g,n,rfl,k _ _ c b,c,i,d,f⟩,?_⟩;unfold keyOf;simp only[b,k _ _ c b]
def TupI.key{h:iC}{a:ar}{o:Obj}{xs:Array ai}{n:Nat}(b:h.get? a=some o)(c:o.data=.seq xs n):keyOf h (.ref a)=xs.toList.map numOf:=by
 unfold keyOf;simp only[b,c]
section
variable {prog:eN} {w:fu} {A:ed} {E:ai->ao->Prop} {s:ao}
theorem kAK{Q:Bool->ao->Prop}:∀(xs c:List ai)(i:Nat),(∀ u∈xs,∃ k t,u=qk k t)->(∀ u∈c,∃ k t,u=qk k t)->Q (lexLt (xs.map numOf) (c.map numOf)) s->KatLex prog w A true (decide (xs.length<c.length)) Q (xs.zip c) i s
 | [],[],i,_,_,h=>by exact h
 | [],_::_,i,_,_,h=>by exact h
 | _::_,[],i,_,_,h=>by exact h
 | x::xs,y::c,i,hx,hy,h=>by
  obtain⟨a,t,rfl⟩:=hx x (eW ..);obtain⟨b,u,rfl⟩:=hy y (eW ..);rw[BB,show decide ((qk a t::xs).length<(qk b u::c).length)=decide (xs.length<c.length) by simp];refine kat_cons (Dm ?_);have h:Q (if a=b then lexLt (xs.map numOf) (c.map numOf) else decide (a<b)) s:=h;by_cases e:a=b
  ·rw[if_pos e]at h
   rw[beq_iff_eq.mpr e];exact kat_yes (kAK xs c (i+1) (λ u d=>hx u (dc _ d)) (λ u d=>hy u (dc _ d)) h)
  ·rw[if_neg e]at h
   rw[beq_eq_false_iff_ne.mpr e];refine kat_no ?_;rw[Bool.true_and]
   cases i == 0 with
   | true=>exact oneLt_int h
   | false=>exact kat_one _ _ (GF h)
def kHH:vA (model prog w) A E s (lbT s.heap) (λ x=>TupI s.heap x.1) (tuples' true):=by
 intro x y C B st Q u q;obtain⟨a,L,d,n,h,o,H,g,v,D⟩:=C;obtain⟨b,J,c,m,i,f,G,l,r,I⟩:=B;rw[lt'_eq];refine cg (yh ?_);rw[u]
 have q:Q (some (lexLt (d.toList.map numOf) (c.toList.map numOf))) st:=by
  have:lbT s.heap x y=lexLt (d.toList.map numOf) (c.toList.map numOf):=by
   unfold lbT;rw[h,i,TupI.key o g,TupI.key f l]
  rw[<-this];exact q
 rw[h,i];refine cg (GC (BV (kat_lt o g f l ?_)))
 have:=kAK (prog:=prog) (w:=w) (A:=A) (s:=s) (Q:=λ b p=>p=s/\wpS (model prog w) A E s (match(Except.ok b:Except ai Bool) with
  | .ok b=>pure (some b)
  | .error e=>do
   modify (λ s=>Bu (kindOf s) (cw s) (cv s) (gallopOf s) (some e))
   pure none) Q st) d.toList c.toList 0 v r ⟨rfl,cy q⟩
 simpa using this
def kHI:vA (model prog w) A E s lbI (λ x=>∃ k t,x.1=.int k t) oneType':=by
 intro x y h g st Q f q;obtain⟨a,t,c⟩:=h;obtain⟨b,u,d⟩:=g;rw[lt'_eq];refine cg (yh ?_);rw[f,c,d];unfold lbI at q;rw[c,d]at q;exact cg (GC (BV (kat_lt_int ⟨rfl,cy q⟩)))
end
end Srt
namespace Fc
open Cyc Tri Rnd
section
variable {α:Type} {le:α->α->Bool}
theorem vH(c:∀ a b,le a b=true->le b a=true->a=b):∀{l m:List α},l.Perm m->l.Pairwise (λ a b=>le a b=true)->m.Pairwise (λ a b=>le a b=true)->l=m
 | [],m,p,_,_=>(List.nil_perm.mp p).symm
 | a::l,m,p,hl,hm=>by
  match m,p,hm with
  | [],p,_=>exact absurd p.length_eq (by simp)
  | b::m,p,hm =>
   have f:=yo.mp hl;have d:=yo.mp hm
   have e:a=b:=by
    rcases cn.mp (p.mem_iff.mp (eW ..)) with z | z
    ·exact z
    ·rcases cn.mp (p.mem_iff.mpr (eW ..)) with y | y
     ·exact y.symm
     ·exact c a b (f.1 b y) (d.1 a z)
   subst e;rw[vH c (List.Perm.cons_inv p) f.2 d.2]
def kEH(g:∀ a b c,le a b=true->le b c=true->le a c=true)(f:∀ a b,(le a b || le b a)=true)(d:∀ a b,le a b=true->le b a=true->a=b){l m:List α}(p:l.Perm m)(h:l.Pairwise (λ a b=>le a b=true)):l=m.mergeSort le :=
 vH d (p.trans (Ab m le).symm) h (Bi g f m)
end
def leP(a b:Nat×Nat):Bool:=decide (a.1<b.1\/a.1=b.1/\a.2<=b.2)
def leP_iff{a b:Nat×Nat}:leP a b=true↔a.1<b.1\/a.1=b.1/\a.2<=b.2:=decide_eq_true_iff
def sortP(T:List (Nat×Nat)):List (Nat×Nat):=T.mergeSort leP
def sortP_is{l m:List (Nat×Nat)}(p:l.Perm m)(h:l.Pairwise (λ a b=>leP a b=true)):l=sortP m :=
 kEH (λ a b c h k=>by rw[leP_iff]at *;omega) (λ a b=>by
  rw[AU,leP_iff,leP_iff];omega) (λ a b h k=>by
  rw[leP_iff]at h k;exact kr (by omega) (by omega)) p h
def sortP_perm(T:List (Nat×Nat)):(sortP T).Perm T:=Ab T leP
def oS(T:List (Nat×Nat)):(sortP T).Pairwise (λ a b=>leP a b=true):=Bi (λ a b c h k=>by rw[leP_iff]at *;omega) (λ a b=>by
  rw[AU,leP_iff,leP_iff];omega) T
def zl(l:List Nat):List Int:=l.map λ n:Nat=>(n:Int)
theorem zl_inj:∀{a b:List Nat},zl a=zl b->a=b
 | [],[],_=>rfl
 | [],_::_,h=>nomatch h
 | _::_,[],h=>nomatch h
 | a::l,b::m,h=>by
  unfold zl at h;rw[eo,eo]at h;injection h with h1 h2
  rw[zl_inj (a:=l) (b:=m) h2,show a=b by omega]
def leL(a b:List Nat):Bool:=!Srt.lexLt (zl b) (zl a)
def leL_iff{a b:List Nat}:leL a b=true↔Srt.lexLt (zl b) (zl a)=false:=by
 unfold leL
 cases Srt.lexLt (zl b) (zl a)<;>simp
def sortL(T:List (List Nat)):List (List Nat):=T.mergeSort leL
def kQL(a b c:List Nat)(h:leL a b=true)(k:leL b c=true):leL a c=true:=by
 rw[leL_iff]at *
 cases e:Srt.lexLt (zl c) (zl a) with
 | false=>rfl
 | true =>
  rcases Srt.lex_neg _ (zl b) _ e with z | z
  ·rw[k]at z;cases z
  ·rw[h]at z;cases z
def kNM(a b:List Nat):(leL a b || leL b a)=true:=by
 rw[AU,leL_iff,leL_iff]
 cases e:Srt.lexLt (zl b) (zl a) with
 | false=>exact .inl rfl
 | true =>
  right
  cases f:Srt.lexLt (zl a) (zl b) with
  | false=>rfl
  | true =>
   have:=Srt.lex_tr _ _ _ e f;rw[Srt.lex_irr]at this;cases this
def kKX(a b:List Nat)(h:leL a b=true)(k:leL b a=true):a=b:=by
 rw[leL_iff]at h k;exact zl_inj (Srt.lex_tot _ _ k h)
def sortL_is{l m:List (List Nat)}(p:l.Perm m)(h:l.Pairwise (λ a b=>leL a b=true)):l=sortL m:=kEH kQL kNM kKX p h
def yP(T:List (List Nat)):(sortL T).Perm T:=Ab T leL
def leP_leL(a b:Nat×Nat):leL [a.1,a.2] [b.1,b.2]=leP a b:=by
 rw[iH,leL_iff,leP_iff];show Srt.lexLt [(b.1:Int),(b.2:Int)] [(a.1:Int),(a.2:Int)]=false↔_;unfold Srt.lexLt;by_cases e:(b.1:Int)=a.1
 ·rw[if_pos e]
  unfold Srt.lexLt;by_cases f:(b.2:Int)=a.2
  ·rw[if_pos f]
   exact⟨λ _=>by omega,λ _=>rfl⟩
  ·rw[if_neg f]
   rw[decide_eq_false_iff_not];omega
 ·rw[if_neg e]
  rw[decide_eq_false_iff_not];omega
open Classical in
noncomputable def per(W:Rows)(t:Nat×Nat):Nat:=if h:∃ k,0<k/\it (nxt W) k t=t/\∀ j,0<j->j<k->it (nxt W) j t≠t then uf h else 0
def per_is{W:Rows}{t:Nat×Nat}{k:Nat}(h0:0<k)(h1:it (nxt W) k t=t)(f:∀ j,0<j->j<k->it (nxt W) j t≠t):per W t=k:=by
 have d:∃ k,0<k/\it (nxt W) k t=t/\∀ j,0<j->j<k->it (nxt W) j t≠t:=⟨k,h0,h1,f⟩;unfold per;rw[dif_pos d];obtain⟨a,b,c⟩:=kh d;generalize uf d=m at *;rcases wj m k with l | l | l
 ·exact absurd b (f m a l)
 ·exact l
 ·exact absurd h1 (c k h0 l)
noncomputable def rnd(W:Rows)(t:Nat×Nat):List (Nat×Nat):=(df (per W t)).map λ i=>it (nxt W) i t
noncomputable def fstep(W:Rows)(st:List (List Nat)×List (Nat×Nat))(t:Nat×Nat):List (List Nat)×List (Nat×Nat) :=
 if t∈st.2 then st else(st.1++[(rnd W t).map (·.1)],st.2++rnd W t)
noncomputable def fgo(W:Rows)(S:List (Nat×Nat)):List (List Nat)×List (Nat×Nat):=S.foldl (fstep W) ([],[])
def fgo_snoc(W:Rows)(S:List (Nat×Nat))(t:Nat×Nat):fgo W (S++[t])=fstep W (fgo W S) t:=by
 unfold fgo;rw[BR]
 rfl
def stepsS(W:Rows):List (Nat×Nat):=sortP (kN W)
def tiesS(W:Rows):List (Nat×Nat):=(stepsS W).filter λ t=>decide (t.1<t.2)
noncomputable def xP(W:Rows):List (List Nat):=(fgo W (stepsS W)).1
noncomputable def facesS(W:Rows):List (List Nat):=sortL (xP W)
def mem_stepsS{W:Rows}{t:Nat×Nat}:t∈stepsS W↔E W t.1 t.2:=by
 unfold stepsS;rw[(sortP_perm _).mem_iff];exact mem_steps
section
variable {W:Rows} (S:Nb W)
def pX(S:Nb W):Rnd.Perm (nxt W) (kN W):=gD S.nd S.sym
def fZ(S:Nb W){t:Nat×Nat}(h:t∈kN W):0<per W t/\per W t<=(kN W).length/\it (nxt W) (per W t) t=t/\∀ j,0<j->j<per W t->it (nxt W) j t≠t:=by
 obtain⟨k,h1,c,a,b⟩:=(pX S).comes h;have e:=per_is h1 a b;rw[e];exact⟨h1,c,a,b⟩
def kGV(S:Nb W){t:Nat×Nat}(h:t∈kN W):(rnd W t).Nodup:=(pX S).round_nodup h (fZ S h).2.2.2
def rnd_len(W:Rows)(t:Nat×Nat):(rnd W t).length=per W t:=by unfold rnd;simp
def rnd_sub(S:Nb W){t u:Nat×Nat}(h:t∈kN W)(a:u∈rnd W t):u∈kN W:=by
 unfold rnd at a;obtain⟨i,_,rfl⟩:=ft.mp a;exact(pX S).it i h
def uA(S:Nb W){t u:Nat×Nat}(h:t∈kN W):u∈rnd W t↔∃ j,it (nxt W) j t=u:=by
 obtain⟨p0,_,back,_⟩:=fZ S h;unfold rnd;rw[ft];constructor
 ·rintro⟨i,_,e⟩
  exact⟨i,e⟩
 ·rintro⟨j,e⟩
  refine⟨j % per W t,fz.mpr (Nat.mod_lt _ p0),?_⟩;rw[<-kCY _ _ back];exact e
def rnd_self(S:Nb W){t:Nat×Nat}(h:t∈kN W):t∈rnd W t:=(uA S h).mpr ⟨0,rfl⟩
def tK(S:Nb W){t u:Nat×Nat}(h:t∈kN W)(a:u∈rnd W t):nxt W u∈rnd W t:=by
 obtain⟨j,rfl⟩:=(uA S h).mp a;exact(uA S h).mpr ⟨j+1,rfl⟩
structure FI(W:Rows)(T:List (Nat×Nat))(st:List (List Nat)×List (Nat×Nat)):Prop where
 reps:∃ R:List (Nat×Nat),(∀ r∈R,r∈T)/\st.1=R.map (λ r=>(rnd W r).map (·.1))/\st.2=R.flatMap (rnd W)
 nd:st.2.Nodup
 sub:∀ t∈st.2,t∈kN W
 cl:∀ t∈st.2,nxt W t∈st.2
 cov:∀ t∈T,t∈st.2
def FI.start(W:Rows):FI W [] ([],[]):=⟨⟨[],by simp,rfl,rfl⟩,xb,by simp,by simp,by simp⟩
theorem FI.it{T:List (Nat×Nat)}{st:List (List Nat)×List (Nat×Nat)}(h:FI W T st){t:Nat×Nat}(a:t∈st.2)(j:Nat):it (nxt W) j t∈st.2:=by
 induction j with
 | zero=>exact a
 | succ j ih=>exact h.cl _ ih
def FI.step(S:Nb W){T:List (Nat×Nat)}{st:List (List Nat)×List (Nat×Nat)}(h:FI W T st){t:Nat×Nat}(f:t∈kN W):FI W (T++[t]) (fstep W st t):=by
 unfold fstep;obtain⟨R,l,m,n⟩:=h.reps
 split
 ·rename_i c
  refine⟨⟨R,λ r g=>cf _ (l r g),m,n⟩,h.nd,h.sub,h.cl,λ u d=>?_⟩;rcases bp.mp d with z | z
  ·exact h.cov u z
  ·rw[dg.mp z]
   exact c
 ·rename_i c
  have i:∀ a∈st.2,∀ b∈rnd W t,a≠b:=λ a p b o e=>by
   subst e;obtain⟨j,rfl⟩:=(uA S f).mp o;obtain⟨p0,_,back,_⟩:=fZ S f
   have:Rnd.it (nxt W) (per W t*(j+1)-j) (Rnd.it (nxt W) j t)=t:=by
    have le:j<=per W t*(j+1):=gx (yt j) (Bv _ p0);rw[<-vO,DC le,kCY _ _ back,De]
    rfl
   rw[<-this]at c;exact c (h.it p _)
  refine⟨⟨R++[t],λ r g=>?_,by rw[dw,m];rfl,by rw[xr,n,va]⟩,?_,λ u d=>?_,λ u d=>?_,λ u d=>?_⟩
  ·rcases bp.mp g with z | z
   ·exact cf _ (l r z)
   ·exact cm _ z
  ·exact az.mpr ⟨h.nd,kGV S f,i⟩
  ·rcases bp.mp d with z | z
   ·exact h.sub u z
   ·exact rnd_sub S f z
  ·rcases bp.mp d with z | z
   ·exact cf _ (h.cl u z)
   ·exact cm _ (tK S f z)
  ·rcases bp.mp d with z | z
   ·exact cf _ (h.cov u z)
   ·rw[dg.mp z]
    exact cm _ (rnd_self S f)
def fgo_ok(S:Nb W):∀(T:List (Nat×Nat)),(∀ t∈T,t∈kN W)->FI W T (fgo W T):=by
 intro T
 have:∀(n:Nat),n<=T.length->(∀ t∈T,t∈kN W)->FI W (T.take n) (fgo W (T.take n)):=λ n=>by
  induction n with
  | zero=>intro _ _;rw[CY];exact FI.start W
  | succ n ih =>
   intro b a;have h:=ih (by omega) a;have e:T.take (n+1)=T.take n++[T[n]]:=by rw[jg,aa (by omega)];rfl
   rw[e,fgo_snoc];exact h.step S (a _ (fe _))
 intro a;have:=this T.length (av _) a;rwa[iP]at this
def FI.len{T:List (Nat×Nat)}{st:List (List Nat)×List (Nat×Nat)}(h:FI W T st):st.2.length<=(kN W).length:=eI h.nd h.sub
end
end Fc
namespace Srt
set_option autoImplicit false
open PySem PySem.W PyProof.Rows
def kME(lb:bb->bb->Bool)(l:List ai):Prop:=l.Pairwise λ u v=>le lb (u,u) (v,v)
def kQB{lb:bb->bb->Bool}{c:List ai}{l:List bb}(p:l.Perm (c.zip c))(f:qY lb l):(l.map (·.2)).Perm c/\kME lb (l.map (·.2)):=by
 have same:∀ x∈l,x=(x.2,x.2):=λ x d=>by
  have:=(mem_zip_self (p.mem_iff.mp d)).1;obtain⟨a,b⟩:=x;have:a=b:=this;rw[this]
 refine⟨?_,?_⟩
 ·have:=p.map (λ x:bb=>x.2)
  rwa[show(c.zip c).map (λ x:bb=>x.2)=c from Bj (av _)]at this
 ·refine iY.mpr (f.imp_of_mem λ{x y} d g h=>?_)
  rw[<-same x d,<-same y g];exact h
section
variable {prog:eN} {w:fu} {A:ed} {E:ai->ao->Prop} {s:ao}
def kJT{lb:bb->bb->Bool}{D:bb->Prop}{kd:jh}(W:Wk lb){a:ar}{c:List ai}{n:Nat}{P:vw->ao->Prop}(r:s.heap.get? a=some (seqObj "list" c.toArray n))(hz:c.length<=sizeLine)
  (I:2<=c.length->∀(i:iC),(∀ b o,o.cls≠.type "list"->s.heap.get? b=some o->i.get? b=some o)->∀ Q:jh->ao->Prop,Q kd {s with heap:=i}->eK (model prog w) A (keyKind' c.toArray) Q E {s with heap:=i})
  (T:∀(i:iC),(∀ b o,o.cls≠.type "list"->s.heap.get? b=some o->i.get? b=some o)->vA (model prog w) A E {s with heap:=i} lb D kd) (Z:∀ v∈c,D (v,v))
  (h:∀ out:List ai,out.Perm c->kME lb out->P (.done (.ret .none)) {s with heap:=sortedHeap s.heap a c out.toArray}) :
  eK (model prog w) A (zd.«list.sort» ⟨[.ref a],[]⟩) P E s:=by
 rw[list_sort_plain];have ha:a<s.heap.objs.size:=cq r;refine ah (Df r rfl (ah (BW r rfl ?_ (by simpa using hz) (fv _))));obtain⟨C,m⟩ : ∃ C,(s.heap.update a (tz λ _=>#[])).get? a=some (seqObj "list" #[] C):=⟨_,AV r (λ _=>#[])⟩;refine ah (EB m rfl (ah (wpAny_newTuple (ah (Cs (iL ?_) (fv _))) (by simpa using hz))));generalize H:((s.heap.update a (tz λ _=>#[])).push (seqObj "tuple" c.toArray 0)).push (seqObj "list" #[] 0)=G
 have g:G.get? a=some (seqObj "list" #[] C):=by
  rw[<-H];exact aj _ (aj _ m)
 have M:∀ b o,o.cls≠.type "list"->s.heap.get? b=some o->G.get? b=some o:=λ b o U e=>by
  have O:b≠a:=λ q=>by
   subst q;rw[r]at e;exact U (by cases e;rfl)
  rw[<-H];refine aj _ (aj _ ?_);rw[xt _ _ _ _ O];exact e
 have heap:∀ out:List ai,sortedHeap s.heap a c out.toArray=G.update a (tz λ _=>out.toArray):=λ out=>by rw[<-H];rfl
 have eS:∀ X Y:Sem vw,X=Y->eK (model prog w) A X P E {s with heap:=G}->eK (model prog w) A Y P E {s with heap:=G}:=λ X Y e h=>e ▸ h
 have p:∀ d:eJ,se d=none->(cw d).toList.Perm (c.zip c)->qY lb (cw d).toList ->
   P (.done (.ret .none)) {s with heap:=G.update a (tz λ _=>(cw d).map (·.2))}:=λ d _ f J=>by
  have:=kQB f J;have q:=h _ this.1 this.2;rw[heap]at q;rw[show(cw d).map (·.2)=((cw d).toList.map (·.2)).toArray by rw[<-Array.toList_map]];exact q
 have y:∀{d:eJ},(cw d).toList.Perm (c.zip c)->((cw d).map (·.2)).size<=sizeLine+1:=λ{d} f=>by
  have:=f.length_eq;rw[Array.size_map];simp at this;omega
 dsimp only;by_cases l:c.toArray.size<2
 ·rw[if_pos l,if_pos l]
  refine ah (cc ?_);rw[StateT.run_pure];refine ah (cc ?_)
  have f:(cw (Bu general' (c.toArray.zip c.toArray) #[] 7 none)).toList.Perm (c.zip c):=by
   show(c.toArray.zip c.toArray).toList.Perm _;simp
  refine ah (EB g rfl (ah (BW g rfl ?_ (fv _) (y f))));dsimp only;simp only[bne_self_eq_false,eA,if_false];refine cc (p (Bu general' (c.toArray.zip c.toArray) #[] 7 none) rfl f ?_)
  have:(c.zip c).length<=1:=by
   simp at l ⊢;omega
  show qY lb (c.toArray.zip c.toArray).toList;rw[show(c.toArray.zip c.toArray).toList=c.zip c by simp];exact pK this
 ·rw[if_neg l,if_neg l]
  refine ah (I (by simp at l;omega) G M _ ?_)
  refine ah (uo (rR (s:={s with heap:=G}) W (T G M) (st:=Bu kd (c.toArray.zip c.toArray) #[] 7 none) rfl rfl rfl (λ x B=>?_)
   (Q:=λ _ d=>(cw d).toList.Perm (c.zip c)/\se d=none/\qY lb (cw d).toList) λ d a1 a2 S=>⟨?_,a2,S⟩) ?_ λ _ _ e=>e)
  ·have B:x∈(c.toArray.zip c.toArray).toList:=B
   rw[show(c.toArray.zip c.toArray).toList=c.zip c by simp]at B;obtain⟨L,z2⟩:=mem_zip_self B;obtain⟨u,v⟩:=x;have L:u=v:=L;subst L;exact Z u z2
  ·refine a1.trans ?_
   show(c.toArray.zip c.toArray).toList.Perm _;simp
  ·rintro⟨⟨⟩,d⟩ s' ⟨rfl,f,N,J⟩
   refine ah (EB g rfl (ah (BW g rfl ?_ (fv _) (y f))));dsimp only;rw[N];simp only[bne_self_eq_false,eA,if_false];exact cc (p d N f J)
def kDF{l:ar}{o:Obj}{a:List ai}{n:Nat}{Q:List ai->ao->Prop}(m:s.heap.get? l=some o)(y:o.cls=.type "list"\/o.cls=.type "tuple")(B:o.data=.seq a.toArray n)(hz:a.length<=sizeLine)
  (h:∀ h1:iC,h1.objs.size=s.heap.objs.size+1->(∀ b u,s.heap.get? b=some u->h1.get? b=some u)->Q a {s with heap:=h1}):eK (model prog w) A (collect (.ref l)) Q E s:=by
 unfold collect;refine ah (El (vk entry_proto_collect' ?_));show eK _ _ (newList [] >>= λ x=>again (.builtin "list.__iadd__" ⟨[x,.ref l],[]⟩)) _ _ s;refine ah (Cs (cc ⟨BC _ (by decide +kernel),vk entry_list_iadd' ?_⟩) (fv _));generalize i:s.heap.push (seqObj "list" #[] 0)=G;have r:G.objs.size=s.heap.objs.size+1:=by rw[<-i,size_push']
 have g:∀ b u,s.heap.get? b=some u->G.get? b=some u:=λ b u e=>by rw[<-i];exact aj _ e
 have d:G.get? s.heap.objs.size=some (seqObj "list" #[] 0):=by rw[<-i];exact cx _ rfl
 show eK _ _ (Ah (.ref s.heap.objs.size) (.ref l) (.ref s.heap.objs.size)) _ _ {s with heap:=G}
 unfold Ah
 have c:eK (model prog w) A (load s.heap.objs.size >>= λ o=>match o.data with
   | .seq xs _=>pure xs.toList
   | _=>unsupported "internal:collect") Q E {s with heap:=G.update s.heap.objs.size (tz (·++a.toArray))}:=by
  refine ah (wpAny_load (AV d _) ?_);show eK _ _ (pure ((#[]:Array ai)++a.toArray).toList) Q E _;rw[show((#[]:Array ai)++a.toArray).toList=a by simp];refine cc (h _ (by rw[Heap.size_update,r]) λ b u e=>?_);rw[xt _ _ _ _ (dj (cq e))];exact g b u e
 have v:∃ T:String,o.cls=.type T/\(T = "list"\/T = "tuple"):=by
  rcases y with e | e
  ·exact⟨_,e,.inl rfl⟩
  ·exact⟨_,e,.inr rfl⟩
 obtain⟨T,q,f⟩:=v;refine ah (rj (T:=T) ⟨o,g l o m,q⟩ ?_)
 have p:(yn T == yn "list" || yn T == yn "tuple")=true:=by
  rcases f with rfl | rfl<;>rfl
 rw[if_pos (by rw[Bool.or_assoc,p,Bool.or_true])];refine ah (Df (g l o m) B (ah (Df (xs:=#[]) (n:=0) d rfl ?_)));rw[if_neg (by simp)];refine ah (BW (xs:=#[]) (n:=0) d rfl ?_ (fv _) (by show(#[]++a.toArray).size<=sizeLine+1;rw[wk];simp;omega));exact cc c
def fL{lb:bb->bb->Bool}{D:bb->Prop}{kd:jh}(W:Wk lb){l:ar}{o:Obj}{f:List ai}{n:Nat}{Q:ai->ao->Prop}(U:s.heap.get? l=some o)(N:o.cls=.type "list"\/o.cls=.type "tuple")(S:o.data=.seq f.toArray n)(hz:f.length<=sizeLine)
  (y:2<=f.length->∀(x:ed)(r:ai->ao->Prop)(d:iC),(∀ b o,o.cls≠.type "list"->s.heap.get? b=some o->d.get? b=some o)->∀ Q:jh->ao->Prop,Q kd {s with heap:=d}->eK (model prog w) x (keyKind' f.toArray) Q r {s with heap:=d})
  (L:∀(x:ed)(r:ai->ao->Prop)(d:iC),(∀ b o,o.cls≠.type "list"->s.heap.get? b=some o->d.get? b=some o)->vA (model prog w) x r {s with heap:=d} lb D kd) (O:∀ v∈f,D (v,v))
  (h:∀(a:List ai)(k:Nat)(h':iC),a.Perm f->kME lb a->(∀ b u,s.heap.get? b=some u->h'.get? b=some u)->h'.get? (s.heap.objs.size+1)=some (seqObj "list" a.toArray k)->Q (.ref (s.heap.objs.size+1)) {s with heap:=h'}) :
  eK (model prog w) A (call (.builtin "sorted") [.ref l]) Q E s:=by
 refine Calls.call_function_entry kind_sorted plain_sorted entry_sorted (args_sorted1 _) ?_;unfold zd.«sorted»;refine ah (m:=checkCount "sorted" 1 1 _) (cc (ah (kDF U N S hz λ h1 g M=>?_)));refine ah (Cs ?_ (by simpa using hz));generalize H:h1.push (seqObj "list" f.toArray 0)=G
 have i:G.get? (s.heap.objs.size+1)=some (seqObj "list" f.toArray 0):=by
  rw[<-H,<-g];exact cx _ rfl
 have B:∀ b u,s.heap.get? b=some u->G.get? b=some u:=λ b u e=>by
  rw[<-H];exact aj _ (M b u e)
 show eK _ _ _ _ _ {s with heap:=G}
 rw[g];refine ah (iL (ud slot_list_sort ⟨_,i,rfl⟩ entry_list_sort (kJT (s:={s with heap:=G}) W i hz (λ T d p Q q=>y T _ _ d (λ b o c e=>p b o c (B b o e)) Q q) (λ d p=>L _ _ d λ b o c e=>p b o c (B b o e)) O λ a I X=>⟨_,rfl,?_⟩) (args_list_sort _)))
 have Y:s.heap.objs.size+1<G.objs.size:=cq i;have J:(G.update (s.heap.objs.size+1) (tz λ _=>#[])).get? (s.heap.objs.size+1)=some (seqObj "list" #[] (if(#[]:Array ai).size == f.toArray.size then 0 else 1)):=AV i (λ _=>#[]);refine cc ⟨_,rfl,h a _ _ I X (λ b u e=>?_) (AV (aj _ (aj _ J)) (λ _=>a.toArray))⟩;have C:b≠s.heap.objs.size+1:=dj (ke (cq e));unfold sortedHeap;rw[xt _ _ _ _ C];refine aj _ (aj _ ?_);rw[xt _ _ _ _ C];exact B b u e
def sorted_tups{l:ar}{o:Obj}{i:List ai}{n:Nat}{Q:ai->ao->Prop}(ho:s.heap.get? l=some o)(X:o.cls=.type "list"\/o.cls=.type "tuple")(hd:o.data=.seq i.toArray n)(hz:i.length<=sizeLine)
  (H:∀ v∈i,TupI s.heap v)
  (h:∀(g:List ai)(k:Nat)(h':iC),g.Perm i->kME (lbT s.heap) g->(∀ b u,s.heap.get? b=some u->h'.get? b=some u)->h'.get? (s.heap.objs.size+1)=some (seqObj "list" g.toArray k)->Q (.ref (s.heap.objs.size+1)) {s with heap:=h'}) :
  eK (model prog w) A (call (.builtin "sorted") [.ref l]) Q E s:=by
 have G:∀{d:iC},(∀ b o,o.cls≠.type "list"->s.heap.get? b=some o->d.get? b=some o)->∀ b o,o.cls=.type "tuple"->s.heap.get? b=some o->d.get? b=some o:=λ p b o c e=>p b o (by rw[c];intro q;injection q with q;exact absurd q (by decide)) e
 refine fL (D:=λ x=>TupI s.heap x.1) (kd:=tuples' true) (kQM s.heap) ho X hd hz (λ h2 Z O d p Q q=>?_) (λ Z O d p=>?_) (λ v f=>H v f) h
 ·have t6:∀ v∈i,TupI d v:=λ v f=>((H v f).kept (G p)).1
  have:∀ r:List ai,(∀ v∈r,TupI d v)->∃ fs,KatTups d r fs/\fs.length=r.length/\∀ v∈fs,∃ k t,v=qk k t:=λ r=>by
   induction r with
   | nil=>intro _;exact⟨[],.nil,rfl,by simp⟩
   | cons u r ih =>
    intro J;obtain⟨fs,C,I,B⟩:=ih λ v f=>J v (dc _ f);obtain⟨a,o,L,m,rfl,N,U,e3,e4,M⟩:=J u (eW ..);refine⟨L[0]::fs,.cons N U e3 (getElem?_pos L 0 M) C,by simp[I],λ v f=>?_⟩;rcases cn.mp f with rfl | z
    ·exact e4 _ (by simp)
    ·exact B v z
  obtain⟨fs,C,I,B⟩:=this i t6;refine kat_kind (T:=.type "int") C (by omega) (λ v f=>?_) rfl q;obtain⟨k,t,rfl⟩:=B v f;exact FS rfl
 ·intro x y hx Y st Q S q
  have a:=hx.kept (G p);have b:=Y.kept (G p);refine kHH (s:={s with heap:=d}) x y a.1 b.1 st Q S ?_
  show Q (some (lexLt (keyOf d x.1) (keyOf d y.1))) st;rw[a.2,b.2];exact q
def sorted_nums{l:ar}{o:Obj}{c:List ai}{n:Nat}{Q:ai->ao->Prop}(p:s.heap.get? l=some o)(y:o.cls=.type "list"\/o.cls=.type "tuple")(C:o.data=.seq c.toArray n)(hz:c.length<=sizeLine)
  (f:∀ v∈c,∃ k t,v=qk k t)
  (h:∀(a:List ai)(k:Nat)(h':iC),a.Perm c->kME lbI a->(∀ b u,s.heap.get? b=some u->h'.get? b=some u)->h'.get? (s.heap.objs.size+1)=some (seqObj "list" a.toArray k)->Q (.ref (s.heap.objs.size+1)) {s with heap:=h'}) :
  eK (model prog w) A (call (.builtin "sorted") [.ref l]) Q E s:=by
 refine fL (D:=λ x=>∃ k t,x.1=.int k t) (kd:=oneType') kQN p y C hz (λ m i g r B Q q=>?_) (λ i g r B=>kHI) (λ v d=>f v d) h;refine kas_kind (T:=.type "int") m (λ v d=>?_) rfl rfl q;obtain⟨k,t,rfl⟩:=f v d;exact FS rfl
end
def perm_back{α g:Type}{f:α->g}:∀{d c:List g},d.Perm c->∀{l:List α},c=l.map f->∃ m:List α,m.Perm l/\d=m.map f:=by
 intro d c h
 induction h with
 | nil =>
  intro l e
  match l,e with
  | [],_=>exact⟨[],.refl _,rfl⟩
 | cons x _ ih =>
  intro l e
  match l,e with
  | y::l,e =>
   rw[eo]at e;injection e with e1 e2
   obtain⟨m,a,b⟩:=ih e2;exact⟨y::m,a.cons y,by rw[eo,b,e1]⟩
 | swap x y l0 =>
  intro l e
  match l,e with
  | a::b::l,e =>
   rw[eo,eo]at e;injection e with e1 e2
   injection e2 with e2 e3
   exact⟨b::a::l,.swap _ _ _,by rw[eo,eo,e1,e2,e3]⟩
 | trans _ _ ih1 ih2 =>
  intro l e;obtain⟨m,a,b⟩:=ih2 e;obtain⟨i,o,n⟩:=ih1 b;exact⟨i,o.trans a,n⟩
end Srt
namespace L2
open PySem PySem.Spec PyProof.Rows
section
variable {X:Cx}
theorem bN:∀{b:List (ar×List Int)}{a:List ai},Vals (b.map λ q=>V.ref q.1) a->a=b.map λ q=>iE q.1
 | [],_,.nil=>rfl
 | p::b,_,.cons r t=>by
  rw[bN t,show _=iE p.1 from r]
  rfl
theorem nJ:∀(a:List (ar×List Int)),Vals (a.map λ q=>V.ref q.1) (a.map λ q=>iE q.1)
 | []=>.nil
 | p::a=>.cons rfl (nJ a)
def kRH(H:Hp)(a:List (ar×List Int)):Prop:=∀ q∈a,H q.1=some (.tup (q.2.map V.int))/\q.2≠[]
def oR{b:List (ar×Obj)}{p:St}{H:Hp}{s:ao}(I:Inv X b p H s){a:ar}{c:List Int}(h:H a=some (.tup (c.map V.int)))(h0:c≠[]):Srt.TupI s.heap (.ref a)/\Srt.keyOf s.heap (.ref a)=c:=by
 obtain⟨m,d,⟨o,g,q,n,i⟩,v⟩:=I.tuple (SqT.of (K:=X.K) h);have f:=wO d;have l:=d.length;refine⟨⟨a,o,_,n,rfl,g,q,i,λ u r=>f.all u (by simpa using r),?_⟩,?_⟩
 ·rw[af]at l
  have:0<c.length:=ub.mpr h0;simp;omega
 ·rw[Srt.TupI.key g i]
  exact f.nums
inductive dG(K:au)(xs:List V)(H:Hp)(Q:VK):Prop
 | mk:∀(p:ar)(ps:List (ar×List Int)),(xs=[.ref p])->((SqL K H p (ps.map λ q=>V.ref q.1)\/SqT K H p (ps.map λ q=>V.ref q.1)))->(kRH H ps)->(∀(l:ar)(ps':List (ar×List Int)),H l=none->ps'.Perm ps->ps'.Pairwise (λ a b=>Srt.lexLt b.2 a.2=false)->Q (.ref l) (upd H l (.lst (ps'.map λ q=>V.ref q.1))))->dG K xs H Q
def lH:xR X (.builtin "sorted") (dG X.K):=by
 intro J s σ H xs us Q I r h;obtain⟨p,L,rfl,i,g,q⟩:=h;obtain⟨u,rfl,Z⟩:=wV r;cases Z
 have obj:∃(o:Obj)(n:Nat),s.heap.get? p=some o/\(o.cls=.type "list"\/o.cls=.type "tuple")/\o.data=.seq (L.map λ q=>iE q.1).toArray n/\L.length<=sizeLine:=by
  rcases i with i | i
  ·obtain⟨C,D,y,f⟩:=I.list i
   rw[bN D]at y;obtain⟨o,A,l,n,m⟩:=y.isList;exact⟨o,n,A,.inl l,m,by simpa using f⟩
  ·obtain⟨C,D,y,f⟩:=I.tuple i
   rw[bN D]at y;obtain⟨o,A,l,n,m⟩:=y;exact⟨o,n,A,.inr l,m,by simpa using f⟩
 obtain⟨o,n,A,l,m,f⟩:=obj;refine Srt.sorted_tups A l m (by simpa using f) (λ v U=>?_) λ a0 k h' O od S e=>?_
 ·obtain⟨x,M,rfl⟩:=ft.mp U
  exact(oR I (g x M).1 (g x M).2).1
 ·obtain⟨d,c,rfl⟩:=Srt.perm_back O rfl
  refine⟨.ref (s.heap.objs.size+1),_,I.laid (t':=s.toks) S (yt _) (show ObjOk X.prog X.w _ h' _ (.lst (d.map λ q=>V.ref q.1)) from⟨by simpa[c.length_eq] using f,_,k,nJ d,e⟩),rfl,q _ d (I.hok.fresh (yt _)) c ?_⟩;refine(iY.mp od).imp_of_mem λ{a b} N G B=>?_;have T:=(oR I (g a (c.mem_iff.mp N)).1 (g a (c.mem_iff.mp N)).2).2;have Y:=(oR I (g b (c.mem_iff.mp G)).1 (g b (c.mem_iff.mp G)).2).2;have B:Srt.lexLt (Srt.keyOf s.heap (.ref b.1)) (Srt.keyOf s.heap (.ref a.1))=false:=B;rw[T,Y]at B;exact B
inductive dH(K:au)(xs:List V)(H:Hp)(Q:VK):Prop
 | mk:∀(p:ar)(ns:List Int),(xs=[.ref p])->((SqL K H p (ns.map V.int)\/SqT K H p (ns.map V.int)))->(∀(l:ar)(ns':List Int),H l=none->ns'.Perm ns->ns'.Pairwise (·<=·)->Q (.ref l) (upd H l (.lst (ns'.map V.int))))->dH K xs H Q
def kDH:xR X (.builtin "sorted") (dH X.K):=by
 intro J s Z H xs O Q I r h;obtain⟨p,G,rfl,i,q⟩:=h;obtain⟨u,rfl,T⟩:=wV r;cases T
 have obj:∃(o:Obj)(n:Nat)(c:List ai),s.heap.get? p=some o/\(o.cls=.type "list"\/o.cls=.type "tuple")/\o.data=.seq c.toArray n/\c.length<=sizeLine/\Vals (G.map V.int) c:=by
  rcases i with i | i
  ·obtain⟨c,y,C,f⟩:=I.list i
   obtain⟨o,x,l,n,m⟩:=C.isList;exact⟨o,n,c,x,.inl l,m,by rw[<-y.length];exact f,y⟩
  ·obtain⟨c,y,C,f⟩:=I.tuple i
   obtain⟨o,x,l,n,m⟩:=C;exact⟨o,n,c,x,.inr l,m,by rw[<-y.length];exact f,y⟩
 obtain⟨o,n,c,x,l,m,f,S⟩:=obj;have D:=wO S;refine Srt.sorted_nums x l m f (λ v g=>D.all v g) λ d k Y A L M e=>?_;have all:∀ v∈d,∃ k t,v=qk k t:=λ v g=>D.all v (A.mem_iff.mp g)
 have N:Vals ((d.map numOf).map V.int) d:=by
  clear e L A
  induction d with
  | nil=>exact .nil
  | cons u O ih =>
   obtain⟨k,t,rfl⟩:=all u (eW ..);exact .cons ⟨t,rfl⟩ (ih λ v g=>all v (dc _ g))
 have U:(d.map numOf).Perm G:=by
  have:=A.map numOf;rwa[D.nums]at this
 refine⟨.ref (s.heap.objs.size+1),_,I.laid (t':=s.toks) M (yt _) (show ObjOk X.prog X.w _ Y _ (.lst ((d.map numOf).map V.int)) from⟨?_,_,k,N,e⟩),rfl,q _ _ (I.hok.fresh (yt _)) U ?_⟩
 ·rw[af,af,A.length_eq]
  exact f
 ·refine iY.mpr (L.imp λ{a b} B=>?_)
  have B:decide (numOf b<numOf a)=false:=B;have:=of_decide_eq_false B;omega
end
end L2
namespace Hsh
set_option autoImplicit false
open PySem PySem.Spec PyProof.Rows
def kHZ:Nat->List Nat->Bool
 | 0,l=>l.length<=1
 | k+1,l=>match l with
  | []=>true
  | [_]=>true
  | l=>kHZ k (l.filter λ n=>(n / 2 ^ k) % 2 == 0) && kHZ k (l.filter λ n=>!((n / 2 ^ k) % 2 == 0))
def kNW:∀(k:Nat)(l:List Nat),kHZ k l=true->l.Nodup:=by
 intro k
 induction k with
 | zero =>
  intro l h
  match l,h with
  | [],_=>exact xb
  | [x],_=>exact dr.mpr ⟨by simp,xb⟩
  | _::_::_,h=>simp[kHZ]at h
 | succ k ih =>
  intro l h
  match l,h with
  | [],_=>exact xb
  | [x],_=>exact dr.mpr ⟨by simp,xb⟩
  | a::b::l,h =>
   unfold kHZ at h;rw[iF]at h;have h1:=ih _ h.1;have g:=ih _ h.2;generalize a::b::l=m at *
   have:∀ m:List Nat,(m.filter λ n=>(n / 2 ^ k) % 2 == 0).Nodup->(m.filter λ n=>!((n / 2 ^ k) % 2 == 0)).Nodup->m.Nodup:=λ m=>by
    induction m with
    | nil=>intro _ _;exact xb
    | cons x m ih =>
     intro d c
     have mem:x∉m:=λ f=>by
      cases e:(x / 2 ^ k) % 2 == 0 with
      | true =>
       rw[lh,if_pos e]at d;exact(dr.mp d).1 (gn.mpr ⟨f,e⟩)
      | false =>
       rw[lh,if_pos (by rw[e];rfl)]at c;exact(dr.mp c).1 (gn.mpr ⟨f,by rw[e];rfl⟩)
     refine dr.mpr ⟨mem,ih ?_ ?_⟩
     ·rw[lh]at d
      split at d
      ·exact(dr.mp d).2
      ·exact d
     ·rw[lh]at c
      split at c
      ·exact(dr.mp c).2
      ·exact c
   exact this m h1 g
def hp(p q:Nat):Nat:=(reduceHash (FA [hashInt (p:Int),hashInt (q:Int)])+2 ^ 63).toNat
def all:List Nat:=(df 1764).map λ i=>hp (i / 42) (i % 42)
def kLZ:kHZ 64 all=true:=by decide +kernel
def hp_inj{p q d c:Nat}(h1:p<42)(f:q<42)(g:d<42)(h:c<42)(e:hp p q=hp d c):p=d/\q=c:=by
 have nd:=kNW 64 all kLZ
 have at':∀ p q:Nat,p<42->q<42->all[42*p+q]?=some (hp p q):=λ p q a b=>by
  unfold all;rw[ay,Ac (by omega)];show some (hp ((42*p+q) / 42) ((42*p+q) % 42))=_;rw[show(42*p+q) / 42=p by omega,show(42*p+q) % 42=q by omega]
 have a:=at' p q h1 f;have b:=at' d c g h;rw[<-e]at b;have:=(ze (ag.mp a).1 nd).mp (a.trans b.symm);omega
end Hsh
namespace Dct
set_option autoImplicit false
open PySem PySem.Spec PyProof.Rows
section
variable {prog:eN} {w:fu} {A:ed} {E:ai->ao->Prop} {s:ao} {κ:Type} [DecidableEq κ] {kd:KeyKind prog w κ}
def fold(xs b:List (List κ×ar×ai)):List (List κ×ar×ai):=b.foldl (λ a y=>storedH a y.1 y.2.1 y.2.2) xs
def fold_len(xs a:List (List κ×ar×ai)):(fold xs a).length<=xs.length+a.length:=by
 induction a generalizing xs with
 | nil=>exact av _
 | cons y a ih =>
  have:=ih (storedH xs y.1 y.2.1 y.2.2)
  have l:(storedH xs y.1 y.2.1 y.2.2).length<=xs.length+1:=by
   unfold storedH
   split<;>simp
  rw[eQ];unfold fold at *;rw[ou];omega
theorem kAS:∀(xs a:List (List κ×ar×ai)),((xs++a).map (·.1)).Nodup->fold xs a=xs++a
 | xs,[],_=>by rw[iM];rfl
 | xs,y::a,h=>by
  have b:atKey xs y.1=none:=by
   refine Dg λ j p e=>?_;rw[dw,eo,az]at h;exact h.2.2 y.1 (ft.mpr ⟨_,cu e,rfl⟩) y.1 (eW ..) rfl
  unfold fold;rw[ou,storedH_new b];have:=kAS (xs++[y]) a (by simpa using h);unfold fold at this;rw[show(y.1,y.2.1,y.2.2)=y from rfl,this];simp
def nZ(xs a:List (List κ×ar×ai))(i:Nat)(y:List κ×ar×ai)(h:a[i]?=some y):fold xs (a.take (i+1))=storedH (fold xs (a.take i)) y.1 y.2.1 y.2.2:=by
 unfold fold;rw[List.take_add_one,h,BR]
 rfl
def fX{d a:ar}{xs:List (List κ×ar×ai)}{k:List κ}{v:ai}{Q:Unit->ao->Prop}(J:A.units<cLine)(u:(tupleKind kd).is s.heap k a)(I:s.heap.DictOfH (tupleKind kd) d xs)(hz:xs.length<=sizeLine)
  (q:∀ h',h'.DictOfH (tupleKind kd) d (storedH xs k a v)->km d s.heap h'->Q () {s with heap:=h'}):eK (model prog w) A (dictSetHashed d (.ref a) ((tupleKind kd).hash k) v) Q E s:=by
 obtain⟨o,G,r,c,B,b,i,f,g⟩:=I;have sz:=CF i;unfold dictSetHashed
 try with_reducible refine iL ?_
 refine ah (wpAny_dictFind_heap (knd:=tupleKind kd) J u c b i f g (λ D=>?_) λ j p C=>?_)
 ·have H:=not_mem_keys_of_get D
  have e:=storedH_new (Dg D) a v;refine ah (AB (wpAny_updateDictKeys (hz:=by omega) c b (q _ ⟨_,_,r+1,qf _ c (Ad (wz b _)),B.mapDictKeys _,wz b _,?_,?_,?_⟩ (ik ..))))
  ·rw[e]
   simp[i,entryOfKey]
  ·rw[e]
   intro x h;rcases bp.mp h with z | z
   ·exact(tupleKind kd).keeps (f x z) c b (ik ..)
   ·rw[dg.mp z]
    exact(tupleKind kd).keeps u c b (ik ..)
  ·rw[e,dw,az]
   refine⟨g,by simp,λ x h y n z=>H ?_⟩;have:y=k:=by simpa using n
   rw[<-this,<-z];exact h
 ·have e:=storedH_old (atKey_of_get g C) a v
  refine ah (AB (ah (wpAny_updateDict c b (wpAny_point (q _ ⟨_,_,r,qf _ c (Ad (Dw b _)),B.mapDict _,Dw b _,?_,?_,?_⟩ (ik ..))))))
  ·rw[e]
   have m:=modify_map_putAt (entryOfKey (tupleKind kd)) (λ z:Bf=>{z with val:=v}) k v (λ _ _=>rfl) g C
   rw[<-i]at m;obtain⟨l⟩:=G;simpa using m
  ·rw[e]
   intro x h;obtain⟨y,n,rfl⟩:=ft.mp h;unfold putAt
   split<;>exact(tupleKind kd).keeps (f y n) c b (ik ..)
  ·rw[e,keys_map_putAt]
   exact g
def kGX{k:List κ}{a:ar}{Q:Bool->ao->Prop}(b:(tupleKind kd).is s.heap k a)(q:Q false s):eK (model prog w) A (CZ (.ref a)) Q E s:=by
 unfold CZ;have b:IsTupleKey kd s.heap k a:=b;refine ah (CB b.typeIs F.slot_tuple_eq.lookup (cc ?_));exact q
def kAU{id:String}{d:ar}{o:Obj}{a:Array Bf}{ep:Nat}{xs:List (List κ×ar×ai)}{Q:Array Bf->ao->Prop}(B:s.heap.get? d=some o)(C:o.data=.dict a ep)(v:a.toList=xs.map (entryOfKey (tupleKind kd)))(m:∀ x∈xs,(tupleKind kd).is s.heap x.1 x.2.1)
  (u:(xs.map λ x=>(tupleKind kd).hash x.1).Nodup) (q:Q a s):eK (model prog w) A (AW id d) Q E s:=by
 have p:∀ e∈a,¬ (a.filter λ z=>z.hash == e.hash).size>1:=λ e f g=>by
  have:(a.toList.map λ z=>z.hash)=xs.map λ x=>(tupleKind kd).hash x.1:=by
   rw[v,yj]
   rfl
  rw[<-this]at u
  have l:(a.filter λ z=>z.hash == e.hash).size=((a.toList.map λ z=>z.hash).filter λ z=>z == e.hash).length:=by
   rw[<-eZ,Array.toList_filter,List.filter_map,af]
   rfl
  have c:=List.nodup_iff_count.mp u e.hash;rw[List.count_eq_length_filter]at c;omega
 unfold AW;refine ah (mh B C (ah ?_));rw[<-Array.forIn_toList];refine AC _ (λ rest _ i=>i=s/\∀ e∈rest,e∈a) _ ?_ ?_ _ _ ⟨rfl,λ e h=>qz.mp h⟩
 ·rintro e rest b i ⟨rfl,r⟩
  have f:=r e (eW ..)
  obtain⟨x,n,rfl⟩ : ∃ x∈xs,e=entryOfKey (tupleKind kd) x:=by
   have:e∈xs.map (entryOfKey (tupleKind kd)):=v ▸ qz.mpr f;obtain⟨x,n,z⟩:=ft.mp this;exact⟨x,n,z.symm⟩
  refine ah (kGX (m x n) ?_);simp only[Eh,if_true];rw[if_neg (p _ f)];exact cc ⟨rfl,λ z y=>r z (dc _ y)⟩
 ·rintro b i ⟨rfl,_⟩
  exact cc q
def kHG{nm:String}{d o:ar}{xs f:List (List κ×ar×ai)}{Q:Unit->ao->Prop}(hu:A.units<cLine)(N:d≠o)(Y:(o == sysModules)=false)(hd:s.heap.DictOfH (tupleKind kd) d xs)(ho:s.heap.DictOfH (tupleKind kd) o f)
  (hz:xs.length+f.length<=sizeLine) (hh:xs=[]->(f.map λ y=>(tupleKind kd).hash y.1).Nodup)
  (q:∀ h',h'.DictOfH (tupleKind kd) d (fold xs f)->km d s.heap h'->Q () {s with heap:=h'}):eK (model prog w) A (Bw nm d o) Q E s:=by
 obtain⟨od,X,a2,B,a1,u,a0,a3,a5⟩:=id hd;obtain⟨T,a,a6,r,a4,c,C,v,S⟩:=id ho;have J:=CF C;have U:=CF a0;unfold Bw;rw[if_neg (by simpa using N)];unfold Fj;rw[if_neg (by rw[Y];exact dq)]
 refine ah (cc (ah (mh r c ?_)))
 have L:∃ h' i,s={s with heap:=h'}/\AJ 0 a.size=AJ i (a.size-i)/\i<=a.size/\h'.DictOfH (tupleKind kd) d (fold xs (f.take i))/\h'.get? o=some T/\km d s.heap h' :=
  ⟨s.heap,0,rfl,rfl,fv _,by rw[CY];exact hd,r,BO _ _⟩
 dsimp only
 split
 ·refine ah (mh B u ?_)
  split
  ·rename_i hemp
   have z:xs=[]:=by
    have h0:X = #[]:=Dh.mp hemp;rw[h0]at U;exact iu.mp U.symm
   subst z;have ff:fold [] f=f:=kAS [] f S;rw[ff]at q;refine ah (kAU r c C v (hh rfl) ?_)
   split
   ·refine ah (wpAny_updateDictKeysTo B u (cc (q _ ⟨_,_,a2+1,qf _ B (Ad (wz u _)),a1.mapDictKeys _,wz u _,C,λ x hx=>(tupleKind kd).keeps (v x hx) B u (ik ..),S⟩ (ik ..))) ?_)
    simp only[ow]at hz;omega
   ·rename_i hne
    have h0:a = #[]:=Dh.mp (by simpa using hne)
    have z:f=[]:=by
     rw[h0]at J;exact iu.mp J.symm
    subst z;exact cc (q _ hd (BO _ _))
  ·refine ah (AX r c (ah (mh r c (ah ?_))))
   rw[md];simp only[zq,Di,DD,GD];refine AC _ (λ rest _ M=>∃ h' i,M={s with heap:=h'}/\rest=AJ i (a.size-i)/\i<=a.size/\h'.DictOfH (tupleKind kd) d (fold xs (f.take i))/\h'.get? o=some T/\km d s.heap h') _ ?_ ?_ _ _ L
   ·rintro x rest b M ⟨h',i,rfl,p,hi,m,h,l⟩
    by_cases H:i<a.size
    ·rw[show a.size-i=(a.size-(i+1))+1 by omega,xf]at p
     injection p with h1 h2
     subst h1;refine ah (mh h c ?_);have I:f[x]?=some (f[x]'(by omega)):=aa _;rw[entry_at C x,I];generalize f[x]'(by omega)=y at I;have Z:(tupleKind kd).is h' y.1 y.2.1:=(tupleKind kd).keeps (v y (cu I)) B u l;have lz:=fold_len xs (f.take x);have lt:(f.take x).length<=f.length:=by rw[eO];omega
     refine ah (iL (fX (s:={s with heap:=h'}) hu Z m (by omega) λ G D n=>?_))
     have g:G.get? o=some T:=(n.2 o (qe N)).trans h;refine ah (AX g c ?_);rw[if_neg (by simp)];exact cc ⟨G,x+1,rfl,h2,H,by rw[nZ xs f x y I];exact D,g,l.trans n⟩
    ·rw[show a.size-i=0 by omega]at p
     exact nomatch p
   ·rintro b M ⟨h',i,rfl,p,hi,m,h,l⟩
    have O:i=a.size:=by
     by_cases H:i<a.size
     ·rw[show a.size-i=(a.size-(i+1))+1 by omega,xf]at p
      exact nomatch p
     ·omega
    refine cc (q h' ?_ l);rw[O,J,iP]at m;exact m
 ·refine ah (AX r c (ah (mh r c (ah ?_))))
  rw[md];simp only[zq,Di,DD,GD];refine AC _ (λ rest _ M=>∃ h' i,M={s with heap:=h'}/\rest=AJ i (a.size-i)/\i<=a.size/\h'.DictOfH (tupleKind kd) d (fold xs (f.take i))/\h'.get? o=some T/\km d s.heap h') _ ?_ ?_ _ _ L
  ·rintro x rest b M ⟨h',i,rfl,p,hi,m,h,l⟩
   by_cases H:i<a.size
   ·rw[show a.size-i=(a.size-(i+1))+1 by omega,xf]at p
    injection p with h1 h2
    subst h1;refine ah (mh h c ?_);have I:f[x]?=some (f[x]'(by omega)):=aa _;rw[entry_at C x,I];generalize f[x]'(by omega)=y at I;have Z:(tupleKind kd).is h' y.1 y.2.1:=(tupleKind kd).keeps (v y (cu I)) B u l;have lz:=fold_len xs (f.take x);have lt:(f.take x).length<=f.length:=by rw[eO];omega
    refine ah (iL (fX (s:={s with heap:=h'}) hu Z m (by omega) λ G D n=>?_))
    have g:G.get? o=some T:=(n.2 o (qe N)).trans h;refine ah (AX g c ?_);rw[if_neg (by simp)];exact cc ⟨G,x+1,rfl,h2,H,by rw[nZ xs f x y I];exact D,g,l.trans n⟩
   ·rw[show a.size-i=0 by omega]at p
    exact nomatch p
  ·rintro b M ⟨h',i,rfl,p,hi,m,h,l⟩
   have O:i=a.size:=by
    by_cases H:i<a.size
    ·rw[show a.size-i=(a.size-(i+1))+1 by omega,xf]at p
     exact nomatch p
    ·omega
   refine cc (q h' ?_ l);rw[O,J,iP]at m;exact m
end
def meets_upd{prog:eN}{w:fu}{i:Type}[DecidableEq i](kd:KeyKind prog w i)(d o:ar)(g:d≠o)(f:(o == sysModules)=false) :
  MeetsIn prog w (zd.«dict.update» ⟨[.ref d,.ref o],[]⟩) (λ A R s=>A.in1.units<cLine/\∃ xs ys,s.heap.DictOfH (tupleKind kd) d xs/\s.heap.DictOfH (tupleKind kd) o ys/\xs.length+ys.length<=sizeLine/\(xs=[]->(ys.map λ y=>(tupleKind kd).hash y.1).Nodup) /\
   ∀ h',h'.DictOfH (tupleKind kd) d (fold xs ys)->km d s.heap h'->R (.ok (.ret .none)) {s with heap:=h'}) :=
 .of_wp λ A R s ⟨n,xs,ys,l,a,m,p,h⟩=>by
  unfold zd.«dict.update»;refine ah ?_;unfold BX;refine ah (CN l.typeIs ?_);refine cc (show eK _ _ (ug "dict.update" d (.ref o) [] .none) _ _ s from ?_);unfold ug;refine ah (rj a.typeIs ?_);rw[if_neg (by decide)];refine ah ?_;unfold GM;refine ah ?_;unfold FB;refine ah (Bk a.typeIs isSubtype_dict_dict ?_);simp only[yb,eA,if_false];refine ah (CB a.typeIs F.slot_dict_iter.lookup (cc ?_));simp only[beq_self_eq_true,if_true];refine ah (cc (kHG n g f l a m p λ h' b c=>?_));refine show eK _ _ (BY d [] >>= _) _ _ _ from ?_;exact ah (cc (cc ⟨.none,rfl,h h' b c⟩))
end Dct
namespace L2
open PySem PySem.Spec PyProof.Rows
section
variable {X:Cx} {pins:List (ar×Obj)} {σ:St} {H:Hp} {s:ao} {a:ar} {y v:V} {u r:ai} {o:Option V} {A:ed} {E:ai->ao->Prop}
def kID{H':Hp}{Q:Unit->ao->Prop}(T:A.units<cLine)(I:Inv X pins σ H s)(g:DPut H a y v H')(J:RelV y u)(D:RelV v r)(h:∀ s',Inv X pins σ H' s'->Q () s') :
  eK (model X.prog X.w) A (dictSet a u r) Q E s:=by
 rcases g with⟨i,k,e,p,l,x⟩ | ⟨i,k,b,e,p,G,l,x⟩
 ·subst p x
  obtain⟨z,B,Z,d,n⟩:=oE I.hok e;refine Ck (hsz:=by rw[<-d.length];exact z) (dB J) n λ O f o=>h _ ?_;exact zK I (by rw[e];exact kb) o (let ⟨q,_,_,m,_⟩:=f;⟨q,m⟩) (rK (by have:=qR i k v;omega) B (d.put k D) f)
 ·subst p x
  cases(show u=iE b from J)
  obtain⟨z,B,xs,d,n⟩:=kFO I.hok e;refine wpAny_dictSet_heap (hsz:=by rw[<-sk d];exact z) T (cC I.hok G) n λ O f o=>h _ ?_;obtain⟨q,M,L,m,S,N,Y,_,U⟩:=f;refine zK I (by rw[e];exact kb) o ⟨q,m⟩ ⟨by have:=qR i k v;omega,B,_,(d.put k G D).keeps λ c ys C=>?_,q,M,L,m,S,N,Y,U⟩;rw[kL (yB C e (λ z=>nomatch z))];exact C
end
def kTB(D:ar)(tk f:TE):TB:=λ N a H=>tk a H λ y c=>f a c λ v d=>∃ b,DPut d D y v b/\N a b
def kEV{X:Cx}{c d:iA}{tk f:TE}{D:ar}(O:X.A.units+1<cLine)(n:PE X c tk)(m:PE X d f):PBd X (kAV c d X.env (.ref D)) (kTB D tk f):=by
 intro a s b H N I h;unfold kAV;refine ah (thn (n a s b H _ I h) λ M p ⟨y,u,o,i,C⟩=>?_);refine ah (iL (thn (m a p b u _ o C) λ J G ⟨x,Q,l,v,q,g,B⟩=>?_));exact ah (xw (iL (kID (by omega) l g i v λ L r=>⟨b,q,r,B⟩)))
section
variable {X:Cx} {tg iter kx vx:iA} {ifs:List iA} {sc:uj} {pos:Pos} {Nc:List Str} {js:List (Option Nat)} {wi:TI}
def kTP(js:List (Option Nat))(c:TI)(g:TG)(f:ar->TB):TE:=λ b H Q=>c b H λ J a=>∀ D,a D=none->aE J g (f D) (λ _ d=>Q (.ref D) d) (cK js b) (upd a D (.dT []))
def kNA{g:TG}{bd:ar->TB}(hx:X.xe=λ _ _=>False)(hc:X.calm=true)(hi:PI X tg iter wi)(S:CS sc X.env.scope)(a2:dF js Nc X.N sc.names=true)
  (hg:∀ C s₂ H₂ fp pins,PG (cxC X Nc sc C s₂ H₂ fp pins) tg g)
  (m:∀ C s₂ H₂ fp pins D L,PTl (cxC X Nc sc C s₂ H₂ fp pins) (xU ifs (cxC X Nc sc C s₂ H₂ fp pins).env (kAV kx vx (cxC X Nc sc C s₂ H₂ fp pins).env (.ref D)) L) L (bd D))
  (hs:∀ x,foldedSetIterable iter X.env x=pure x:=by intro _;rfl) :
  PE X (.DictComp kx vx [⟨tg,iter,ifs,0⟩] sc pos) (kTP js wi g bd):=by
 intro pins s σ H Q I h;rw[DW];have a3:closureFor sc X.env=pure (bH sc X.env):=yY λ y hy hf=>I.ok.has y.1 (.inl (S.free y hy hf));refine kq (use:=none) rfl hs a3 S.kind S.names (thn (hi pins s σ H _ I h) λ v s1 h1=>thn h1 λ a4 d h2=>?_);obtain⟨it,fp,tn,J,H2,e,M,T,Y,f2,hw⟩:=h2;subst e;have u:∀ b∈fp,b<d.heap.objs.size:=λ b m=>let ⟨o,ho,_⟩:=T.obj _ _ Y b m;cq ho;refine iW (rm S.nocell (by intro y hy;simp at hy) (λ i f a=>?_) S.kind);dsimp only at f a ⊢;generalize r:d.heap.push {cls:=.type "dict",dict:=none,data:=.dict #[]}=G at f a ⊢;have a5:G.objs.size=d.heap.objs.size+1:=by rw[<-r,lj]
 have B:d.heap.objs.size≠G.objs.size:=by omega
 have l:d.heap.objs.size<=G.objs.size:=by omega
 have Z:∀ b o,d.heap.get? b=some o->i.get? b=some o:=λ b o e=>a.extBut b o (dj (cz (cq e) l)) (aj _ (r ▸ aj _ e));have U:i.get? d.heap.objs.size=some {cls:=.type "dict",dict:=none,data:=.dict #[]}:=a.extBut _ _ B (aj _ (r ▸ cx _ rfl))
 have new:ObjOk X.prog X.w (upd H2 d.heap.objs.size (.dT [])) i d.heap.objs.size (.dT []):=by
  exact⟨fv _,beq_eq_false_iff_ne.mpr (qe (dj M.big)),[],.nil,_,_,_,U,⟨rfl,rfl,rfl⟩,rfl,rfl,xb⟩
 have I4:=vP (js:=js) (Nc:=Nc) (tk:=d.toks+([]:List (Str×ai)).length) M S f2 u a2 l (av _) B Z f new;have hn:H2 d.heap.objs.size=none:=M.fresh
 have f4:∀ b∈fp,yZ (cxC X Nc sc G.objs.size d H2 fp pins) [] (upd H2 d.heap.objs.size (.dT [])) b:=λ b m=>by
  obtain⟨h0,h1,h2,h3,h4,h5⟩:=f2 b m;refine⟨?_,dj (cz (u b m) l),λ z=>?_,.inl m,λ x c z=>?_,λ p hp=>?_⟩
  ·rw[kL (dj (u b m))];exact h0
  ·rcases cn.mp (M.stkSub b z) with q | q
   ·exact h1 q
   ·exact h2 q
  ·exact h4 x c (dE sc.names [] (λ z=>nomatch z) z)
  ·rcases bp.mp hp with z | z
   ·exact h5 p z
   ·exact absurd z (by simp)
 have O:tn 0 i:=T.keep _ _ _ Y λ b m o e=>Z b o e
 have n:codeAny (model X.prog X.w) X.A (.compLoop (.DictComp kx vx [⟨tg,iter,ifs,0⟩] sc pos) 0 (.ref it) (.ref d.heap.objs.size) (compEnvC sc (bH sc X.env) G.objs.size X.env))
   (compPost (model X.prog X.w) X.A X.xe none (EP X pins σ Q) (.ref d.heap.objs.size) G.objs.size) {d with heap:=i,toks:=d.toks+([]:List (Str×ai)).length}:=by
  refine yM (X:=cxC X Nc sc G.objs.size d H2 fp pins) (.inr ⟨kx,vx,rfl⟩) hx hc (kDQ _ _ _ _ _ _ _ _ _ _) T (hg _ _ _ _ _) (m _ _ _ _ _ _ _) I4 O f4 (hw _ hn) λ a6 H' s' I' q=>?_;obtain⟨m',a0,_⟩:=I'.loc;exact⟨m',a0,λ h' a1=>⟨.ref d.heap.objs.size,H',vQ M f2 l I' a1,rfl,q⟩⟩
 exact xX (.inr ⟨kx,vx,rfl⟩) rfl rfl n (T.self _ _ _ _ _ O n)
def xO(kvs more:List (List Key×V)):List (List Key×V):=more.foldl (λ a y=>jY a y.1 y.2) kvs
theorem KT.fold{H:Hp}:∀{more:List (List Key×V)}{a:List (List Key×ar×ai)}{kvs:List (List Key×V)}{xs:List (List Key×ar×ai)},KT H kvs xs->KT H more a->KT H (xO kvs more) (Dct.fold xs a)
 | [],_,_,_,r,.nil=>r
 | p::more,_,kvs,xs,r,.cons (b:=q) z t=>by
  have:=KT.fold (KT.put r q.1 (b:=q.2.1) (y:=p.2) (u:=q.2.2) (by rw[<-z.1];exact z.2.1) z.2.2) t;rw[<-z.1]at this;unfold xO at *;unfold Dct.fold at *;rw[ou,ou,<-z.1];exact this
def kMD(k:List Key):Prop:=∃ p q:Nat,k=[qw (p:Int),qw (q:Int)]/\p<42/\q<42
def kNT{prog:eN}{w:fu}:∀{c:List (List Key×ar×ai)},(∀ y∈c,kMD y.1)->(c.map (·.1)).Nodup->(c.map λ y=>(tupleKind (qC prog w)).hash y.1).Nodup:=by
 intro c hp nd;have:c.map (λ y=>(tupleKind (qC prog w)).hash y.1)=(c.map (·.1)).map (tupleKind (qC prog w)).hash:=by rw[yj];rfl
 rw[this];refine iY.mpr (nd.imp_of_mem λ{a b} r d g e=>g ?_);obtain⟨x,o,rfl⟩:=ft.mp r;obtain⟨y,n,rfl⟩:=ft.mp d;obtain⟨p,q,i,p1,m⟩:=hp x o;obtain⟨s,f,h,p2,l⟩:=hp y n;rw[i,h]at e ⊢
 have:Hsh.hp p q=Hsh.hp s f:=by
  unfold Hsh.hp;exact congrArg (λ z:Int=>(z+2 ^ 63).toNat) e
 obtain⟨rfl,rfl⟩:=Hsh.hp_inj p1 m p2 l this
 rfl
inductive kOM(x:V)(vs:List V)(H:Hp)(Q:VK):Prop
 | mk:∀(a b:ar)(kvs more:List (List Key×V)),(x=.ref a)->(vs=[.ref b])->(a≠b)->(H a=some (.dT kvs))->(H b=some (.dT more))->((∀ y∈more,kMD y.1))->(kvs.length+more.length<=sizeLine)->(Q .non (upd H a (.dT (xO kvs more))))->kOM x vs H Q
def kNJ(hu:X.A.units+1<cLine):MtM X "dict.update" kOM:=by
 intro N s σ H x vs v us Q I rx rv h;obtain⟨a,b,p,more,rfl,rfl,ab,D,Y,hp,hz,q⟩:=h;cases rx
 obtain⟨u,rfl,ru⟩:=rv.one;cases ru
 obtain⟨za,B,U,C,M⟩:=kFO I.hok D;obtain⟨zb,G,g,f,S⟩:=kFO I.hok Y
 have i:∀ y∈g,kMD y.1:=by
  have:∀{l:List (List Key×V)}{m:List (List Key×ar×ai)},KT H l m->(∀ y∈l,kMD y.1)->∀ y∈m,kMD y.1:=by
   intro l m r
   induction r with
   | nil=>intro _ y d;exact nomatch d
   | @cons p1 q1 ps qs z t ih =>
    intro T y d;rcases cn.mp d with rfl | d
    ·rw[<-z.1]
     exact T _ (eW ..)
    ·exact ih (λ y h=>T y (dc _ h)) y d
  exact this f hp
 have nd:(g.map (·.1)).Nodup:=let ⟨_,_,_,_,_,_,_,_,n⟩:=S;n;have lx:=sk C;have ly:=sk f;refine DU BZ M.typeIs PySem.F.entry_dict_update (PySem.F.args_dict_update_2 _ _) (Dct.meets_upd (qC X.prog X.w) a b ab G) ⟨uu (knd:=qC X.prog X.w) hu,U,g,M,S,by omega,λ _=>kNT i nd,λ h' o hs=>?_⟩;obtain⟨O,es,Z,L,h2,h3,h4,_,h5⟩:=o;have lf:=sk (KT.fold C f);have lz:=Dct.fold_len U g;refine⟨.non,upd H a (.dT (xO p more)),zK (t':=s.toks) I (by rw[D];exact kb) hs ⟨O,L⟩ ⟨by omega,B,_,(KT.fold C f).keeps λ c zs J=>?_,O,es,Z,L,h2,h3,h4,h5⟩,rfl,q⟩;rw[kL (yB J D (λ z=>nomatch z))];exact J
end
section
variable {X:Cx}
end
section
variable {prog:eN} {w:fu} {A:ed} {E:ai->ao->Prop} {s:ao} {z TI TO i1 i2:ar} {fp1 fp2:List ar} {n1 n2 j:Nat} {P1 P2:Nat->ai->Prop} {S1 S2:Nat->iC->Prop} {a b:ai}
end
section
variable {X:Cx}
end
end L2
namespace HT
open PySem PySem.Spec PyProof.Rows
section
variable {prog:eN} {w:fu} {A:ed} {E:ai->ao->Prop} {s:ao}
def cat_tup0{t b:ar}{o:List ai}{Q:ai->ao->Prop}(v:EM s.heap t ([]:List ai).toArray)(q:EM s.heap b o.toArray)(h:Q (.ref b) s):eK (model prog w) A (binaryOp .Add (.ref t) (.ref b)) Q E s:=by
 obtain⟨⟨cls,u,data,x⟩,m,p,n,l⟩:=id v;obtain⟨⟨i,g,data2,f⟩,d,c,r,a⟩:=id q;simp only at p l c a;subst p l c a
 exact DO ⟨_,m,rfl⟩ ⟨_,d,rfl⟩ Be Co yz yq (xy _ _)
   (tuple_addW0 t b _ o.toArray n r u g x f (by simp)) ⟨m,d,h⟩
end
end HT
namespace L2
open PySem PySem.Spec PyProof.Rows
def kRL(H H':Hp):Prop:=∀ b o,H b=some o->H' b=some o
section
variable {X:Cx}
def kAN{H:Hp}{p:ar}(h:H p=none)(o:HO):kRL H (upd H p o):=λ b u q=>by rw[kL (kJ q h)];exact q
inductive kRZ(K:au)(x:V)(lo:Option Int)(hi:Option Int)(H:Hp)(Q:VK):Prop
 | mk:∀ a xs,(x=.ref a)->(H a=some (.tup xs))->(∀ p H',kRL H H'->H' p=some (.tup (wZ xs lo hi))->Q (.ref p) H')->kRZ K x lo hi H Q
def kEI:SlR X (kRZ X.K):=by
 intro d s i H x v l r lo g u Q I o m y A h;obtain⟨a,b,rfl,f,q⟩:=h;refine oU d s i H _ v l r lo g u Q I o m y A ?_;by_cases c:HT.sIx b.length 0 lo=0/\HT.sIx b.length b.length g=b.length
 ·refine .inr ⟨a,b,rfl,SqT.of f,c,q a H (λ _ _ e=>e) ?_⟩
  rw[f];unfold wZ;rw[c.1,c.2];simp
 ·exact .inl ⟨a,b,rfl,SqT.of f,c,λ p n=>q p _ (kAN n _) kB⟩
inductive kOO(K:au)(x:V)(y:V)(H:Hp)(Q:VK):Prop
 | mk:∀ a b xs ys,(x=.ref a)->(y=.ref b)->(H a=some (.tup xs))->(H b=some (.tup ys))->(xs.length+ys.length<=sizeLine)->(∀ p H',kRL H H'->H' p=some (.tup (xs++ys))->Q (.ref p) H')->kOO K x y H Q
def kNE:OpR X (binaryOp .Add) (kOO X.K):=by
 intro d s C H x y v u Q I l n h;obtain⟨a,b,m,A,rfl,rfl,g,f,B,q⟩:=h;by_cases c:m=[]
 ·subst c
  cases l
  cases n
  obtain⟨r,o,p1,_⟩:=I.tuple (SqT.of (K:=X.K) g);obtain⟨i,G,p2,_⟩:=I.tuple (SqT.of (K:=X.K) f);cases o
  exact HT.cat_tup0 p1 p2 ⟨.ref b,H,I,rfl,q b H (λ _ _ e=>e) (by simpa using f)⟩
 ·refine kEX d s C H _ _ v u Q I l n ⟨a,b,m,A,rfl,rfl,SqT.of g,SqT.of f,c,B,λ e=>q a H (λ _ _ z=>z) (by rw[e,iM];exact g),λ _ p D=>q p _ (kAN D _) kB⟩
end
def bM{k:Bool}{K:au}{a:ar}{xs:List V}{g:TG}{b:TB}{l:St->Hp->Prop}{c:St}{H:Hp}(Pv:Nat->St->Hp->Prop)(h0:Pv 0 c H)(u:∀ i c H,i<=xs.length->Pv i c H->SqX K k H a xs)
  (n:∀ i x T c H,xs[i]?=some x->H T=none->Pv i c H->g (.ref T) c (upd H T (.tup [.int i,x])) λ σ2 H2=>b (Pv (i+1)) σ2 H2) (s:∀ c H,Pv xs.length c H->l c H):aE (Ite k K a) g b l c H:=by
 refine⟨λ i m c H=>m=xs.length-i/\i<=xs.length/\Pv i c H,⟨xs.length,by simp,fv _,h0⟩,?_⟩;rintro i m c H ⟨rfl,f,p⟩;have d:=u i c H f p;rcases fw i xs.length with h | h
 ·refine .inr ⟨⟨xs,xs[i],d,by simp[h]⟩,Pv (i+1),λ r y q=>⟨xs.length-(i+1),by omega,rfl,by omega,q⟩,λ x y A=>?_⟩
  obtain⟨T,B,v,rfl,o,rfl⟩:=A;exact n i B T c H (o xs d) v p
 ·obtain rfl:i=xs.length:=by omega
  exact .inl ⟨⟨xs,d,rfl⟩,s c H p⟩
section
variable {X:Cx}
end
end L2
namespace SetI
open PySem L2 PyProof.Rows PySem.Spec
def kQJ:isSubtype (.type "tuple") (.type "set")=pure false:=by rw[Ca];kernel_rfl
def kHD:isSubtype (.type "tuple") (.type "frozenset")=pure false:=by rw[Ca];kernel_rfl
abbrev uW(a:Bool):Obj:={cls:=.type "set",dict:=none,data:=.set #[] 0 (.fresh 0 0 a)}
theorem rA(val:Nat->Int):∀(n:Nat)(x:Int),x∈firstMet val n↔∃ i,i<n/\val i=x
 | 0,x=>⟨(λ h=>nomatch h),λ⟨i,h,_⟩=>absurd h (AY _)⟩
 | n+1,x=>by
  rw[firstMet_succ];unfold step_dedup;have c:=rA val n
  split
  ·rename_i h
   rw[c x];constructor
   ·rintro⟨i,a,b⟩;exact⟨i,by omega,b⟩
   ·rintro⟨i,a,b⟩
    rcases fw i n with z | z
    ·exact⟨i,z,b⟩
    ·obtain rfl:i=n:=by omega
     obtain⟨y,d,e⟩:=xj.mp h;rw[beq_iff_eq]at e;rw[<-b,<-e];exact(c y).mp d
  ·rw[bp,c x,dg]
   constructor
   ·rintro(⟨i,a,b⟩ | rfl)
    ·exact⟨i,by omega,b⟩
    ·exact⟨n,by omega,rfl⟩
   ·rintro⟨i,a,b⟩
    rcases fw i n with z | z
    ·exact .inl ⟨i,z,b⟩
    ·obtain rfl:i=n:=by omega
     exact .inr b.symm
theorem kFA(val:Nat->Int):∀(n:Nat),(firstMet val n).length=n↔∀ i j,i<j->j<n->val i≠val j
 | 0=>⟨λ _ i j _ h=>absurd h (AY _),λ _=>rfl⟩
 | n+1=>by
  have d:=kFA val n;have le:=DE val n;rw[firstMet_succ,step_length]
  split
  ·rename_i h
   obtain⟨y,g,e⟩:=xj.mp h;rw[beq_iff_eq]at e;obtain⟨i,f,m⟩:=(rA val n y).mp g;exact⟨λ z=>by omega,λ z=>absurd (m.trans e) (z i n f (by omega))⟩
  ·rename_i h
   constructor
   ·intro z i j c o
    rcases fw j n with l | l
    ·exact d.mp (by omega) i j c l
    ·obtain rfl:j=n:=by omega
     intro e;exact h (xj.mpr ⟨val j,(rA val j _).mpr ⟨i,c,e⟩,by simp⟩)
   ·intro z
    rw[d.mpr λ i j a b=>z i j a (by omega)]
def met_nodup(c:List Int):(firstMet (λ i=>c.getD i 0) c.length).length=c.length↔c.Nodup:=by
 rw[kFA];unfold BD;rw[iX];constructor
 ·intro h i j d b a
  have:=h i j a b;simpa[d,b] using this
 ·intro h i j a b
  have:=h i j (by omega) b a;have d:i<c.length:=by omega
  simpa[d,b] using this
section
variable {prog:eN} {w:fu} {A:ed} {E:ai->ao->Prop} {s:ao}
def call_setT{t:ar}{d:List ai}{m:List Int}{Q:ai->ao->Prop}(hh:A.handled=none)(S:s.heap.IsTuple t d.toArray)(hi:Cf d m)(h4:d.toArray.size+1<scanBound)
  (q:∀(h':iC)(tk:Nat),h'.SetOf (intKind prog w) s.heap.objs.size (λ k=>(firstMet (λ i=>m.getD i 0) d.toArray.size).any (· == k)) (firstMet (λ i=>m.getD i 0) d.toArray.size).length->(∀ b o,s.heap.get? b=some o->h'.get? b=some o)->Q (.ref s.heap.objs.size) {s with heap:=h',toks:=tk}) :
  eK (model prog w) A (call (.type "set") [.ref t]) Q E s:=by
 obtain⟨_,_,T⟩:=vb.mro;have f1:=vb.made;have f2:=vb.sub;refine Cy (CC ?_);refine cc ⟨BC _ (by decide +kernel),vk Dj ?_⟩;rw[DF (CO "set" [.ref t] []) rfl];have f3:=vb.notType;have f4:=vb.canCreate;have f5:=F.typeCall_set_1 (.ref t)
 repeat (any_goals (first | assumption | wp_step))
 refine ur (code_set_new_1 (.ref t) (E:=E) (Q₁:=λ v g=>∃ c:Bool,v=.ref s.heap.objs.size/\g={s with heap:=s.heap.push (uW c)}) λ c=>⟨c,rfl,rfl⟩) λ r g n=>?_
 cases r with
 | error e=>exact n
 | ok fl =>
  cases fl with
  | next=>exact n.elim
  | brk=>exact n.elim
  | cont=>exact n.elim
  | ret v =>
   obtain⟨c,rfl,rfl⟩:=n;have X:(s.heap.push (uW c)).get? s.heap.objs.size=some (uW c):=cx _ rfl;have hT:Ba {s with heap:=s.heap.push (uW c)} (.ref s.heap.objs.size) "set":=⟨_,X,rfl⟩
   have g1:=vb.init.lookup;have g2:=vb.init.bind (.ref s.heap.objs.size)
   repeat (any_goals (first | assumption | wp_step))
   refine ur (AL (R:=wants (λ r f=>r=.none/\∃ h' tk,f={s with heap:=h',toks:=tk}/\h'.SetOf (intKind prog w) s.heap.objs.size (λ k=>(firstMet (λ i=>m.getD i 0) d.toArray.size).any (· == k)) (firstMet (λ i=>m.getD i 0) d.toArray.size).length/\(∀ b o,s.heap.get? b=some o->h'.get? b=some o)) E)
    vb.init.plain F.entry_set_init (check_set_init_1 hT ?_)) λ p f a=>?_
   ·have h:(s.heap.push (uW c)).IsTuple t d.toArray:=S.at λ o e=>aj _ e
    obtain⟨ol,a0,u,nl,y⟩:=id h;obtain⟨Z,G,L,C⟩:=ol;simp only at u y;subst u;subst y;have U:=kQJ;have k2:=kHD;have O:(yn "tuple" == yn "dict")=false:=by decide
    have Y:t<s.heap.objs.size:=by obtain⟨o,e,_⟩:=S;exact cq e
    unfold zd.«set.__init__» noKeywords EH;generalize H:pyIter=PI
    wp_walk
    subst H;refine oe h ?_;refine ah (El ?_);have l:∀(b:ar)(o:Obj)(x:Obj),s.heap.get? b=some o->((s.heap.push (uW c)).push x).get? b=some o:=λ b o x e=>aj _ (aj _ e);have M:A.in1.in1.in1.handled=none:=by simp[hh]
    have D:(s.heap.push (uW c)).objs.size=s.heap.objs.size+1:=lj ..;refine codeAny_set_update_loopS ((GB M _ t (by rw[D];exact dj (ke Y)) d.toArray).toS) s.heap.objs.size ?ne (λ i=>m.getD i 0) (λ i v e=>IntsAre.int_at hi i v (by rw[<-List.getElem?_toArray];exact e)) h4 (d.toArray.size-0) 0 _ (by omega) (fv _) ⟨⟨_,cx _ rfl,rfl,rfl⟩,h.at λ o e=>aj _ e⟩ ?set0 ?fin
    case ne =>
     rw[D];simp only[cn,fh,or_false,not_or];exact⟨dj (xg _),jo Y⟩
    case set0=>exact SetOf_congr ((setObjOf_fresh (knd:=intKind prog w) c).setOf (aj _ X) (by unfold scanBound;omega)) (λ _=>rfl) rfl
    case fin =>
     intro s' B I;obtain⟨h',g',d',N,J⟩:=s';obtain rfl:g'=s.gens:=B.gens;obtain rfl:d'=s.drawn:=B.drawn;obtain rfl:J=s.os:=B.os;refine cc (cc ⟨rfl,h',N,rfl,I,λ b o e=>?_⟩);refine B.heap b o ?_ (l b o _ e);have:=cq e;simp only[cn,fh,or_false,not_or];exact⟨dj this,by rw[D];exact dj (ke this)⟩
   ·cases p with
    | error e=>exact a
    | ok fl₂ =>
     cases fl₂ with
     | next=>exact a.elim
     | brk=>exact a.elim
     | cont=>exact a.elim
     | ret r =>
      obtain⟨rfl,h',tk,rfl,U,O⟩:=a
      repeat (any_goals (first | assumption | wp_step))
      exact q _ _ U O
end
end SetI
namespace L2
open PySem PySem.Spec PyProof.Rows
section
variable {X:Cx}
inductive uX(K:au)(xs:List V)(H:Hp)(Q:VK):Prop
 | mk:∀(p:ar)(ns:List Int),(xs=[.ref p])->((SqL K H p (ns.map V.int)\/SqT K H p (ns.map V.int)))->(ns.length<=4000)->(∀(S:ar)(f:Int->Bool)(n:Nat),H S=none->(n=ns.length↔ns.Nodup)->n<=ns.length->Q (.ref S) (upd H S (.set f n)))->uX K xs H Q
def kIG(x:X.calm=true):xR X (.type "set") (uX X.K):=by
 intro y s J H N L Q I r h;obtain⟨p,d,rfl,c,M,q⟩:=h;obtain⟨u,rfl,C⟩:=wV r;cases C
 have A:H s.heap.objs.size=none:=I.hok.fresh (av _);have le:=λ n=>DE (λ i=>d.getD i 0) n;rcases c with c | c
 ·obtain⟨a,f,G,B⟩:=I.list c
  have m:=wO f;have sz:a.toArray.size=d.length:=by rw[eX,<-f.length,af]
  refine call_set_list (I.ok.hd x) G.isList (by simpa using m) (by rw[sz];unfold scanBound;omega) λ v l g k=>?_;rw[sz]at g;exact⟨.ref s.heap.objs.size,_,I.laid (t':=l) (λ b o e=>k b o (cq e) e) (av _) (show ObjOk X.prog X.w _ v _ (.set _ _) from g),rfl,q _ _ _ A (SetI.met_nodup d) (le _)⟩
 ·obtain⟨a,f,D,B⟩:=I.tuple c
  have m:=wO f;have sz:a.toArray.size=d.length:=by rw[eX,<-f.length,af]
  refine SetI.call_setT (I.ok.hd x) D m (by rw[sz];unfold scanBound;omega) λ v l g k=>?_;rw[sz]at g;exact⟨.ref s.heap.objs.size,_,I.laid (t':=l) k (av _) (show ObjOk X.prog X.w _ v _ (.set _ _) from g),rfl,q _ _ _ A (SetI.met_nodup d) (le _)⟩
inductive uY(xs:List V)(H:Hp)(Q:VK):Prop
 | mk:∀(S:ar)(f:Int->Bool)(n:Nat),(xs=[.ref S])->(H S=some (.set f n))->(Q (.int n) H)->uY xs H Q
def kIJ:xR X (.builtin "len") uY:=by
 intro b s v H y x Q I r h;obtain⟨S,f,n,rfl,l,q⟩:=h;obtain⟨u,rfl,g⟩:=wV r;cases g
 obtain⟨o,d,p,t,m,hex,i,_,_,c,a,rfl⟩:=I.hok S _ l;exact call_len_set m hex i a (by unfold scanBound at c;omega) ⟨.int d.size,H,I.tok _,⟨_,rfl⟩,q⟩
end
end L2
namespace HT
open PySem PySem.Spec PyProof.Rows
section
variable {prog:eN} {w:fu} {A:ed} {E:ai->ao->Prop} {s:ao}
end
end HT
namespace L2
open PySem PySem.Spec PyProof.Rows
section
variable {X:Cx}
end
end L2
namespace Tri
open Cyc Rnd
def Ro.mp{r a:List Nat}(f:Nat->Nat):Ro r a->Ro (r.map f) (a.map f):=λ⟨A,B,h1,b⟩=>⟨A.map f,B.map f,by rw[h1,dw],by rw[b,dw]⟩
def Rnm(W:Rows)(b:List Nat)(V:Rows):Prop:=V.length=W.length/\∀(p:Nat)(r:List Nat),W[p]?=some r->∃ a,V[b.getD p 0]?=some a/\Ro (r.map λ q=>b.getD q 0) a/\Can a
def kEM{W V:Rows}{a:List Nat}(hp:a.Perm (df W.length))(h:Rnm W a V):Ren W V a :=
 ⟨hp,h.1,λ p row e=>by
  have f:=(ag.mp e).1;have d:a.length=W.length:=by rw[hp.length_eq,eV]
  obtain⟨g,c,⟨A,B,h1,b⟩,_⟩:=h.2 p row e;refine⟨a.getD p 0,A,B,?_,h1,by rw[<-b];exact c⟩;rw[ae,aa (by omega)]
  rfl⟩
end Tri
namespace HT
open PySem PySem.Spec PyProof.Rows
section
variable {prog:eN} {w:fu} {A:ed} {E:ai->ao->Prop} {s:ao}
end
end HT
namespace L2
open PySem PySem.Spec PyProof.Rows
section
variable {X:Cx}
end
end L2
namespace Tri
open Cyc
end Tri
namespace Fc
open Cyc Tri Rnd
def kLN{α:Type}(l:List α)(p:α->Bool):(l.filter p).length+(l.filter λ x=>!p x).length=l.length:=by
 induction l with
 | nil=>rfl
 | cons x l ih =>
  rw[lh,lh,eQ]
  cases p x<;>simp<;>omega
section
variable {W:Rows}
def kKR(S:Nb W){t:Nat×Nat}(h:t∈kN W):nxt W t≠t:=λ e=>by
 have a:=S.e (mem_steps.mp (show(t.1,t.2)∈kN W from h));have:(nxt W t).1=t.2:=rfl;rw[e]at this;exact a.2.2 this.symm
def kQI(S:Nb W):(stepsS W).Nodup:=(sortP_perm _).nodup_iff.mpr (cN S.nd)
def sC(S:Nb W):2*(tiesS W).length=(kN W).length:=by
 have nd:=kQI S;have l:(stepsS W).length=(kN W).length:=(sortP_perm _).length_eq;have c:=kLN (stepsS W) λ t=>decide (t.1<t.2)
 have perm:(((stepsS W).filter λ t=>!decide (t.1<t.2)).map λ t=>(t.2,t.1)).Perm ((stepsS W).filter λ t=>decide (t.1<t.2)):=by
  refine(ph ?_ (nd.filter _)).mpr λ t=>?_
  ·exact iY.mpr ((nd.filter _).imp λ{a b} h e=>h (by
    injection e with e1 e2
    exact kr e2 e1))
  ·constructor
   ·intro h
    obtain⟨u,d,rfl⟩:=ft.mp h;obtain⟨a,b⟩:=gn.mp d;have e:=mem_stepsS.mp a;have f:=(S.e e).2.2;refine gn.mpr ⟨mem_stepsS.mpr (S.sym _ _ e),?_⟩;have b:¬ u.1<u.2:=by simpa using b
    exact decide_eq_true (show u.2<u.1 by omega)
   ·intro h
    obtain⟨a,b⟩:=gn.mp h;have b:=of_decide_eq_true b;refine ft.mpr ⟨(t.2,t.1),gn.mpr ⟨mem_stepsS.mpr (S.sym _ _ (mem_stepsS.mp a)),?_⟩,rfl⟩;have:¬ t.2<t.1:=by omega
    simpa using this
 have e:=perm.length_eq;rw[af]at e;unfold tiesS;omega
def lU(S:Nb W):(fgo W (stepsS W)).2.Perm (kN W):=by
 have a:=fgo_ok S (stepsS W) λ t h=>(sortP_perm _).mem_iff.mp h;exact(ph a.nd (cN S.nd)).mpr λ t=>⟨a.sub t,λ h=>a.cov t ((sortP_perm _).mem_iff.mpr h)⟩
def kHY(S:Nb W):((xP W).map iB).sum=(kN W).length:=by
 have a:=fgo_ok S (stepsS W) λ t h=>(sortP_perm _).mem_iff.mp h;obtain⟨R,_,b,c⟩:=a.reps;have e:=(lU S).length_eq;unfold xP;rw[b,<-e,c,Ci,yj]
 congr 1
 refine Ae λ r _=>?_;show((rnd W r).map _).length=_;rw[af]
def kRC(S:Nb W):(∀ f∈facesS W,f.length=3)↔∀ t∈kN W,(nxt W (nxt W t)).2=t.1:=by
 have u:=fgo_ok S (stepsS W) λ t h=>(sortP_perm _).mem_iff.mp h;obtain⟨R,p,x,y⟩:=u.reps
 have c:∀ f,f∈facesS W↔∃ r∈R,f=(rnd W r).map (·.1):=λ f=>by
  unfold facesS;rw[(yP _).mem_iff];unfold xP;rw[x,ft];exact⟨λ⟨r,a,b⟩=>⟨r,a,b.symm⟩,λ⟨r,a,b⟩=>⟨r,a,b.symm⟩⟩
 have l:∀ r∈R,r∈kN W:=λ r d=>(sortP_perm _).mem_iff.mp (p r d);constructor
 ·intro h t q
  have n:=(lU S).mem_iff.mpr q;rw[y,AD]at n;obtain⟨r,d,m⟩:=n;have o:=h _ ((c _).mpr ⟨r,d,rfl⟩);rw[af,rnd_len]at o;obtain⟨j,rfl⟩:=(uA S (l r d)).mp m;have back:=(fZ S (l r d)).2.2.1;rw[o]at back
  have e:nxt W (nxt W (nxt W (it (nxt W) j r)))=it (nxt W) j r:=by
   show it (nxt W) 3 (it (nxt W) j r)=_;rw[<-vO,Fd,vO,back]
  have g:(nxt W (nxt W (nxt W (it (nxt W) j r)))).1=(nxt W (nxt W (it (nxt W) j r))).2:=rfl;rw[e]at g;exact g.symm
 ·intro h f v
  obtain⟨r,d,rfl⟩:=(c f).mp v;have i:=l r d;rw[af,rnd_len];have to:=(pX S).to
  have three:it (nxt W) 3 r=r:=by
   show nxt W (nxt W (nxt W r))=r;have a:=h r i;have b:=h _ (to r i);have g:(nxt W (nxt W (nxt W r))).1=r.1:=a;have s:(nxt W (nxt W (nxt W r))).2=r.2:=b;exact kr g s
  refine per_is (by decide) three λ j A B=>?_;have:j=1\/j=2:=by omega
  rcases this with rfl | rfl
  ·exact kKR S i
  ·intro e
   have e:nxt W (nxt W r)=r:=e;have three:nxt W (nxt W (nxt W r))=r:=three;rw[e]at three;exact kKR S i three
def three_cornered(S:Nb W):(W.length+(facesS W).length=(tiesS W).length+2/\∀ f∈facesS W,f.length=3)↔((∀ t∈kN W,(nxt W (nxt W t)).2=t.1)/\(kN W).length+12=6*W.length):=by
 rw[<-kRC S];have m:=sC S;have fs:=kHY S;have d:(facesS W).length=(xP W).length:=(yP _).length_eq
 have key:(∀ f∈facesS W,f.length=3)->3*(facesS W).length=(kN W).length:=λ h=>by
  have c:∀ f∈xP W,f.length=3:=λ f i=>h f ((yP _).mem_iff.mpr i);rw[d,<-fs];generalize xP W=F at c;clear h fs d
  induction F with
  | nil=>rfl
  | cons f F ih =>
   rw[eo,AI,eQ,<-ih λ g l=>c g (dc _ l),c f (eW ..)];omega
 constructor
 ·rintro⟨a,b⟩
  have:=key b;exact⟨b,by omega⟩
 ·rintro⟨b,a⟩
  have:=key b;exact⟨by omega,b⟩
end
end Fc
namespace Tri
open Cyc Rnd
section
variable {L L2:Rows} {Os Ps:List (List Nat)} {A M C:List Nat} {f l:Nat}
end
def stF(W:Rows)(top ahead:List Nat)(place:Nat):Option (List Nat) :=
 let below:=ahead.filter λ q=>decide (q∈W.getD place [])
 let st:=top.filter λ q=>decide (q∈below)
 if st.length<2\/st.length≠below.length then none
 else if(top.drop (top.idxOf (st.headD 0))).take st.length≠st then none
 else if(st.zip st.tail).all (λ t=>decide ((nxt W t).2=place))=true then some st else none
def poF(top st:List Nat)(place:Nat):List Nat:=top.take (top.idxOf (st.headD 0)+1)++place::top.drop (top.idxOf (st.getLastD 0))
def goF(W:Rows)(a:List Nat):Nat->Option (List (List Nat)×List (List Nat))
 | 0=>some ([],[a.take 2])
 | i+1=>match goF W a i with
  | none=>none
  | some (found,tops)=>match stF W (tops.getLastD []) (a.take (i+2)) (a.getD (i+2) 0) with
   | none=>none
   | some st=>some (found++[st],tops++[poF (tops.getLastD []) st (a.getD (i+2) 0)])
theorem oP:∀{l:List Nat}{a b:Nat},(a,b)∈l.zip l.tail->Adj l a b
 | [],_,_,h=>by simp at h
 | [x],_,_,h=>by simp at h
 | x::y::l,a,b,h=>by
  rw[Ax,BB]at h;rcases cn.mp h with e | e
  ·injection e with e1 e2
   exact(zL x y l a b).mpr (.inl ⟨e1,e2⟩)
  ·exact(zL x y l a b).mpr (.inr (oP (l:=y::l) e))
theorem kFJ{m:Nat->Nat}:∀{B:List Nat}{x:Nat}{C:List Nat},(∀ b∈B,m b≠m x)->((B++x::C).map m).idxOf (m x)=B.length
 | [],x,C,_=>by simp
 | b::B,x,C,h=>by
  have:=kFJ (B:=B) (x:=x) (C:=C) λ b a=>h b (dc _ a);rw[gi,eo,EI,this,eQ];have:(m b == m x)=false:=beq_eq_false_iff_ne.mpr (h b (eW ..));rw[this]
  rfl
def gE{W:Rows}(nd:∀(p:Nat)(row:List Nat),W[p]?=some row->row.Nodup){x y v:Nat}(h:R W y v x):(nxt W (x,y)).2=v:=by
 obtain⟨row,e,n⟩:=h;unfold nxt;show(jX (W.getD y []) x).getD 0=v;rw[ae,e];show(jX row x).getD 0=v;rw[pN (nd y row e) n]
 rfl
section
variable {W:Rows} {ms:List Nat} {n:Nat}
end
def xG{W:Rows}(G:Good W):(∀ t∈kN W,(nxt W (nxt W t)).2=t.1)/\(kN W).length+12=6*W.length:=by
 have S:=(Wb.of G).toNb;refine⟨λ t b=>?_,by rw[xY];exact G.tot⟩;obtain⟨x,y⟩:=t;obtain⟨z,r,a,_⟩:=xK S (mem_steps.mp b);rw[a];exact gE G.nd (G.tri _ _ _ r)
def kDU{W:Rows}{top ahead st:List Nat}{b:Nat}(h:stF W top ahead b=some st) :
  ∃ B f M l C,st=f::M++[l]/\top=B++(f::M++[l])++C/\(∀ q∈st,q∈ahead/\q∈W.getD b [])/\∀ t∈st.zip st.tail,(nxt W t).2=b:=by
 unfold stF at h;dsimp only at h;by_cases d:(top.filter λ q=>decide (q∈ahead.filter λ q=>decide (q∈W.getD b []))).length<2\/(top.filter λ q=>decide (q∈ahead.filter λ q=>decide (q∈W.getD b []))).length≠(ahead.filter λ q=>decide (q∈W.getD b [])).length
 ·rw[if_pos d]at h
  cases h
 rw[if_neg d]at h
 split at h
 ·cases h
 rename_i c
 split at h
 ·rename_i c3
  have h:=bj h;have c:=Decidable.not_not.mp c;rw[h]at d c c3
  have mem:∀ q∈st,q∈ahead/\q∈W.getD b []:=λ q m=>by
   rw[<-h]at m;have:=of_decide_eq_true (gn.mp m).2;exact⟨(gn.mp this).1,of_decide_eq_true (gn.mp this).2⟩
  have len:2<=st.length:=by omega
  obtain⟨f,r,g⟩ : ∃ a r,st=a::r:=by
   match st,len with
   | a::r,_=>exact⟨a,r,rfl⟩
  have i:r≠[]:=λ z=>by rw[g,z]at len;simp at len
  refine⟨top.take (top.idxOf (st.headD 0)),f,r.dropLast,r.getLast i,(top.drop (top.idxOf (st.headD 0))).drop st.length,?_,?_,mem,λ t o=>of_decide_eq_true (ni.mp c3 t o)⟩
  ·rw[g,gi,gj i]
  ·rw[gi,gj i,<-g]
   have n:top.drop (top.idxOf (st.headD 0))=st++(top.drop (top.idxOf (st.headD 0))).drop st.length:=by
    conv=>lhs;rw[<-gh st.length (top.drop (top.idxOf (st.headD 0))),c]
   rw[de,<-n,gh]
 ·cases h
def gO{B:List Nat}{x:Nat}{C:List Nat}(h:x∉B):(B++x::C).idxOf x=B.length:=by
 have:=kFJ (m:=id) (B:=B) (x:=x) (C:=C) λ b a e=>h (by rw[<-(show b=x from e)];exact a);simpa using this
def vY{top B M C:List Nat}{f l d:Nat}(e:top=B++(f::M++[l])++C)(nd:top.Nodup):poF top (f::M++[l]) d=B++[f,d,l]++C:=by
 subst e;have o:=az.mp nd;have a:=az.mp o.1;have i:=az.mp a.2.1;have p:f∉B:=λ h=>a.2.2 f h f (by simp) rfl
 have n:l∉B++(f::M):=λ h=>by
  rcases bp.mp h with z | z
  ·exact a.2.2 l z l (by simp) rfl
  ·exact i.2.2 l z l (by simp) rfl
 have c:B++(f::M++[l])++C=B++f::(M++[l]++C):=by simp
 have b:B++(f::M++[l])++C=(B++f::M)++l::C:=by simp
 have s:(B++(f::M++[l])++C).idxOf f=B.length:=by rw[c];exact gO p
 have m:(B++(f::M++[l])++C).idxOf l=(B++f::M).length:=by rw[b];exact gO n
 unfold poF;have g:(f::M++[l]).getLastD 0=l:=by rw[iD,eU];rfl
 rw[show(f::M++[l]).headD 0=f from rfl,g,s,m]
 have r:(B++(f::M++[l])++C).take (B.length+1)=B++[f]:=by
  rw[c,show B++f::(M++[l]++C)=(B++[f])++(M++[l]++C) by simp,yg (by simp)]
 have q:(B++(f::M++[l])++C).drop (B++f::M).length=l::C:=by rw[b,AR rfl]
 rw[r,q];simp
structure Top(W:Rows)(some top:List Nat):Prop where
 nd:top.Nodup
 sub:∀ x∈top,x∈some
 path:∀ x y,Adj top x y->E W x y
def Top.step{W:Rows}{ahead top st:List Nat}{d:Nat}(T:Top W ahead top)(sym:∀ a b,E W a b->E W b a)(A:d∉ahead)(h:stF W top ahead d=some st) :
  Top W (ahead++[d]) (poF top st d)/\(∀ x∈st,x∈top)/\st≠[]/\∀ t∈st.zip st.tail,E W t.1 t.2:=by
 obtain⟨B,f,M,l,C,rfl,n,mem,nx⟩:=kDU h;have nd:=T.nd;rw[vY n nd];have path:=T.path;have sub:=T.sub;rw[n]at nd path sub
 have o:∀ q,q∈f::M++[l]->E W d q:=λ q s=>by
  have:=(mem q s).2;rw[ae]at this
  cases e:W[d]? with
  | none=>rw[e]at this;cases this
  | some row=>rw[e]at this;exact⟨row,e,this⟩
 have i:=az.mp nd;have m:=az.mp i.1;have u:=az.mp m.2.1;have all:∀ x∈B++(f::M++[l])++C,x≠d:=λ x c e=>A (by rw[<-e];exact sub x c);refine⟨⟨?_,λ x c=>?_,λ x y ad=>?_⟩,λ x c=>by rw[n];exact cf _ (cm _ c),by simp,λ t r=>?_⟩
 ·have v:f≠l:=u.2.2 f (by simp) l (by simp)
  have h1:B.Nodup:=m.1;have D:C.Nodup:=i.2.1;refine az.mpr ⟨az.mpr ⟨h1,?_,λ x c y g=>?_⟩,D,λ x c y g=>?_⟩
  ·have a:=all f (by simp)
   have b:=all l (by simp);simp[a,v,b.symm]
  ·simp only[cn,fh,or_false]at g
   rcases g with rfl | rfl | rfl
   ·exact m.2.2 x c _ (by simp)
   ·exact all x (by simp[c])
   ·exact m.2.2 x c _ (by simp)
  ·rcases bp.mp c with z | z
   ·exact i.2.2 x (cf _ z) y g
   ·simp only[cn,fh,or_false]at z
    rcases z with rfl | rfl | rfl
    ·exact i.2.2 _ (by simp) y g
    ·exact λ e=>all y (by simp[g]) e.symm
    ·exact i.2.2 _ (by simp) y g
 ·rcases bp.mp c with z | z
  ·rcases bp.mp z with z | z
   ·exact cf _ (sub x (by simp[z]))
   ·simp only[cn,fh,or_false]at z
    rcases z with rfl | rfl | rfl
    ·exact cf _ (sub _ (by simp))
    ·simp
    ·exact cf _ (sub _ (by simp))
  ·exact cf _ (sub x (by simp[z]))
 ·have p:B++[f,d,l]++C=B++f::(d::(l::C)):=by simp
  have p1:B++(f::M++[l])++C=B++f::(M++l::C):=by simp
  have p2:B++(f::M++[l])++C=(B++f::M)++l::C:=by simp
  rw[p,qQ]at ad;rcases ad with z | z
  ·exact path x y (by rw[p1,qQ];exact .inl z)
  ·rw[zL]at z
   rcases z with⟨rfl,rfl⟩ | z
   ·exact sym _ _ (o _ (by simp))
   ·rw[zL]at z
    rcases z with⟨rfl,rfl⟩ | z
    ·exact o _ (by simp)
    ·exact path x y (by rw[p2,qQ];exact .inr z)
 ·obtain⟨a,b⟩:=t
  have ad:=oP r;have e:f::M++[l]++C=(f::M)++l::C:=by simp
  have this:Adj (f::(M++l::C)) a b:=by
   have:Adj ((f::M)++l::C) a b:=by
    rw[qQ];exact .inl ad
   exact this
  refine path a b ?_;rw[show B++(f::M++[l])++C=B++f::(M++l::C) by simp,qQ];exact .inr this
theorem gP{W:Rows}{a:List Nat}{i:Nat}(h:goF W a i=none):∀ j,goF W a (i+j)=none
 | 0=>h
 | j+1=>by
  have:=gP h j;show goF W a (i+j+1)=none;unfold goF;rw[this]
def aW(W:Rows)(a b c:Nat)(d:List Nat):Option (List (List Nat)×List (List Nat)) :=
 if d[0]?=some a/\d[1]?=some b/\d.getLast?=some c then goF W d (d.length-2) else none
def kAQ{W:Rows}{a:List Nat}{i:Nat}{fs b:List (List Nat)}(h:goF W a i=some (fs,b))(z:stF W (b.getLastD []) (a.take (i+2)) (a.getD (i+2) 0)=none):goF W a (i+1)=none:=by
 unfold goF;rw[h];dsimp only;rw[z]
def rD{W:Rows}{a:List Nat}{i:Nat}{fs b:List (List Nat)}{st:List Nat}(h:goF W a i=some (fs,b))(z:stF W (b.getLastD []) (a.take (i+2)) (a.getD (i+2) 0)=some st):goF W a (i+1)=some (fs++[st],b++[poF (b.getLastD []) st (a.getD (i+2) 0)]):=by
 unfold goF;rw[h];dsimp only;rw[z]
def gK{α:Type}(l:List (List α))(x:List α):(l++[x]).getLastD []=x:=by
 rw[iD,eU]
 rfl
def zW{W:Rows}{top ahead st:List Nat}{a:Nat}(nd:top.Nodup)(h:stF W top ahead a=some st) :
  ∃ B f M l C,st=f::M++[l]/\top=B++(f::M++[l])++C/\(∀ q,q∈st↔q∈ahead/\q∈W.getD a [])/\∀ t∈st.zip st.tail,(nxt W t).2=a:=by
 obtain⟨B,f,M,l,C,i,g,mem,nx⟩:=kDU h;refine⟨B,f,M,l,C,i,g,λ q=>⟨mem q,λ d=>?_⟩,nx⟩
 have snd:st.Nodup:=by
  rw[g]at nd;rw[i];exact(az.mp (az.mp nd).1).2.1
 have len:st.length=(ahead.filter λ q=>decide (q∈W.getD a [])).length:=by
  unfold stF at h;dsimp only at h;by_cases b:(top.filter λ q=>decide (q∈ahead.filter λ q=>decide (q∈W.getD a []))).length<2\/(top.filter λ q=>decide (q∈ahead.filter λ q=>decide (q∈W.getD a []))).length≠(ahead.filter λ q=>decide (q∈W.getD a [])).length
  ·rw[if_pos b]at h
   cases h
  rw[if_neg b]at h
  split at h
  ·cases h
  split at h
  ·have h:=bj h
   rw[h]at b;omega
  ·cases h
 by_cases c:q∈st
 ·exact c
 ·exfalso
  have:=eI (dr.mpr ⟨c,snd⟩) (l₂:=ahead.filter λ q=>decide (q∈W.getD a [])) λ x m=>by
   rcases cn.mp m with rfl | z
   ·exact gn.mpr ⟨d.1,decide_eq_true d.2⟩
   ·exact gn.mpr ⟨(mem x z).1,decide_eq_true (mem x z).2⟩
  rw[eQ]at this;omega
def kJH{W:Rows}{top ahead B M C:List Nat}{f l a:Nat}(nd:top.Nodup)(b:ahead.Nodup)(e:top=B++(f::M++[l])++C)(sub:∀ q∈top,q∈ahead)(mem:∀ q,q∈f::M++[l]↔q∈ahead/\q∈W.getD a [])(nx:∀ t∈(f::M++[l]).zip (f::M++[l]).tail,(nxt W t).2=a) :
  stF W top ahead a=some (f::M++[l]):=by
 have g:=nd;rw[e]at g;have n:=az.mp g;have i:=az.mp n.1
 have d:∀ q,q∈(ahead.filter λ q=>decide (q∈W.getD a []))↔q∈f::M++[l]:=λ q=>by
  rw[gn,decide_eq_true_iff,mem]
 have p:(ahead.filter λ q=>decide (q∈W.getD a [])).Perm (f::M++[l]):=(ph (b.filter _) i.2.1).mpr d
 have x:(top.filter λ q=>decide (q∈ahead.filter λ q=>decide (q∈W.getD a [])))=f::M++[l]:=by
  have o:(λ q=>decide (q∈ahead.filter λ q=>decide (q∈W.getD a [])))=λ q=>decide (q∈f::M++[l]):=by
   funext q
   rw[iH,decide_eq_true_iff,decide_eq_true_iff,d]
  rw[o,e,wa,wa];have m:B.filter (λ q=>decide (q∈f::M++[l]))=[]:=zi.mpr λ q c h=>i.2.2 q c q (of_decide_eq_true h) rfl;have r:C.filter (λ q=>decide (q∈f::M++[l]))=[]:=zi.mpr λ q c h=>n.2.2 q (cm _ (of_decide_eq_true h)) q c rfl;rw[m,r,Cm.mpr λ q c=>decide_eq_true c];simp
 have s:(f::M++[l]).length=M.length+2:=by simp
 have m:f∉B:=λ h=>i.2.2 f h f (by simp) rfl
 have u:top.idxOf f=B.length:=by
  rw[e,show B++(f::M++[l])++C=B++f::(M++[l]++C) by simp];exact gO m
 unfold stF;dsimp only;rw[x,p.length_eq,if_neg (by rw[s];omega),if_neg,if_pos]
 ·exact ni.mpr λ t v=>decide_eq_true (nx t v)
 ·intro h
  refine h ?_;rw[show(f::M++[l]).headD 0=f from rfl,u,e,de,AR rfl,yg rfl]
def uB{A B:List Nat}{x y:Nat}(h:A++[x]=B++[y]):A=B/\x=y:=by
 have:=List.append_inj' h rfl;exact⟨this.1,by simpa using this.2⟩
theorem kGA:∀{l:List Nat}{a b:Nat},Adj l a b->(a,b)∈l.zip l.tail
 | [],_,_,h=>absurd h id
 | [x],_,_,h=>absurd h id
 | x::y::l,a,b,h=>by
  rw[Ax,BB];rcases(zL x y l a b).mp h with⟨rfl,rfl⟩ | z
  ·exact eW ..
  ·exact dc _ (kGA (l:=y::l) z)
section
variable {W:Rows} {T ahead su sv:List Nat} {u v:Nat}
end
theorem fD{W:Rows}{c:List Nat}(d:c.Nodup)(sym:∀ a b,E W a b->E W b a)(h0:Top W (c.take 2) (c.take 2)):∀{i:Nat}{fs g:List (List Nat)},i+2<=c.length->goF W c i=some (fs,g)->Top W (c.take (i+2)) (g.getLastD [])
 | 0,fs,g,_,h=>by
  unfold goF at h;have h:=bj h;injection h with h1 h2
  rw[<-h2];exact h0
 | i+1,fs,g,hl,h=>by
  cases e:goF W c i with
  | none =>
   have:=gP e 1;rw[show i+1=i+1 from rfl,this]at h;cases h
  | some x =>
   obtain⟨f,t⟩:=x;have n:=fD d sym h0 (by omega) e
   cases s:stF W (t.getLastD []) (c.take (i+2)) (c.getD (i+2) 0) with
   | none=>rw[kAQ e s]at h;cases h
   | some st =>
    rw[rD e s]at h;have h:=bj h;injection h with h1 h2
    have m:c.getD (i+2) 0∉c.take (i+2):=by
     rw[ae,aa (by omega)];intro z;obtain⟨j,l,e⟩:=eY.mp z;rw[eO]at l;rw[uy]at e;have:=(uk d).mp e;omega
    have o:c.take (i+1+2)=c.take (i+2)++[c.getD (i+2) 0]:=by
     rw[show i+1+2=i+2+1 by omega,jg,ae,aa (show i+2<c.length by omega)]
     rfl
    rw[<-h2,gK,o];exact(n.step sym m s).1
def bB{W:Rows}{a:List Nat}{i j:Nat}{c b:List (List Nat)}(h:goF W a (i+j)=some (c,b)):∃ fs ts,goF W a i=some (fs,ts):=by
 cases e:goF W a i with
 | none=>rw[gP e j]at h;cases h
 | some x=>exact⟨x.1,x.2,rfl⟩
def vR{W:Rows}{a:List Nat}{i:Nat}{fs b c d:List (List Nat)}(h:goF W a i=some (fs,b))(h':goF W a (i+1)=some (c,d)):∃ st,stF W (b.getLastD []) (a.take (i+2)) (a.getD (i+2) 0)=some st/\c=fs++[st]/\d=b++[poF (b.getLastD []) st (a.getD (i+2) 0)]:=by
 cases s:stF W (b.getLastD []) (a.take (i+2)) (a.getD (i+2) 0) with
 | none=>rw[kAQ h s]at h';cases h'
 | some st =>
  rw[rD h s]at h';have h':=bj h';injection h' with h1 h2
  exact⟨st,rfl,h1.symm,h2.symm⟩
def gQ{W:Rows}{d:List Nat}:∀{i:Nat}{fs a:List (List Nat)},goF W d i=some (fs,a)->fs.length=i/\a.length=i+1:=by
 intro i
 induction i with
 | zero =>
  intro fs a h;unfold goF at h;have h:=bj h;injection h with h1 h2
  rw[<-h1,<-h2];exact⟨rfl,rfl⟩
 | succ i ih =>
  intro fs a h;obtain⟨f,t,e⟩:=bB (i:=i) (j:=1) h;obtain⟨st,_,c,b⟩:=vR e h;obtain⟨p,q⟩:=ih e;rw[c,b,bg,bg,p,q];exact⟨rfl,rfl⟩
def vZ{a:List Nat}(b:a.Nodup){k j:Nat}(h:k<=j)(c:j<a.length):a.getD j 0∉a.take k:=by
 rw[ae,aa c];intro z;obtain⟨m,d,e⟩:=eY.mp z;rw[eO]at d;rw[uy]at e;have:=(uk b).mp e;omega
section
variable {ms:List Nat} {k:Nat}
variable {W:Rows} {a b c:Nat} {Fs Ts:List (List Nat)}
end
section
variable {W W':Rows} {g:Nat->Nat} {n:Nat}
end
end Tri
namespace Fc
open Cyc Rnd Tri
def mgN(a b x:Nat):Nat:=if x=b then a else x
def goL(m:List Nat)(a:List (Nat×Nat)):List Nat:=a.foldl (λ m l=>m.map (mgN (m.getD l.1 0) (m.getD l.2 0))) m
def bA(m:List Nat)(l:Nat×Nat)(a:List (Nat×Nat)):goL m (l::a)=goL (m.map (mgN (m.getD l.1 0) (m.getD l.2 0))) a:=rfl
theorem kFL:∀(a:List (Nat×Nat))(m:List Nat),(goL m a).length=m.length
 | [],_=>rfl
 | l::a,m=>by rw[bA,kFL a,af]
theorem nX:∀(a:List (Nat×Nat))(m:List Nat)(c:Nat),(∀ x∈goL m a,x=c)->∃ V:List Nat,V.length<=a.length+1/\∀ x∈m,x∈V
 | [],m,c,h=>⟨[c],by simp,λ x b=>by rw[h x b];simp⟩
 | l::a,m,c,h=>by
  rw[bA]at h;obtain⟨V,h1,d⟩:=nX a _ c h;refine⟨m.getD l.2 0::V,by simp;omega,λ x b=>?_⟩;have:=d _ (ft.mpr ⟨x,b,rfl⟩);unfold mgN at this
  split at this
  ·rename_i e
   rw[e];exact eW ..
  ·exact dc _ this
def aU{m:List Nat}{f:Nat->Nat}{i:Nat}(h:i<m.length):(m.map f).getD i 0=f (m.getD i 0):=by
 rw[ae,ae,ay,aa h]
 rfl
theorem kAO:∀(a:List (Nat×Nat))(m:List Nat)(i j:Nat),i<m.length->j<m.length->m.getD i 0=m.getD j 0->(goL m a).getD i 0=(goL m a).getD j 0
 | [],_,_,_,_,_,h=>h
 | l::a,m,i,j,hi,hj,h=>by
  rw[bA];refine kAO a _ i j (by rw[af];exact hi) (by rw[af];exact hj) ?_;rw[aU hi,aU hj,h]
theorem kAP:∀(a:List (Nat×Nat))(m:List Nat)(i j:Nat),i<m.length->j<m.length->(i,j)∈a->(goL m a).getD i 0=(goL m a).getD j 0
 | l::a,m,i,j,hi,hj,h=>by
  rw[bA];have c:i<(m.map (mgN (m.getD l.1 0) (m.getD l.2 0))).length:=by rw[af];exact hi
  have b:j<(m.map (mgN (m.getD l.1 0) (m.getD l.2 0))).length:=by rw[af];exact hj
  rcases cn.mp h with e | h
  ·refine kAO a _ i j c b ?_
   rw[<-e,aU hi,aU hj];unfold mgN;simp only
   split<;>simp
  ·exact kAP a _ i j c b h
def kCX{F:Nat}{b:List (Nat×Nat)}(rng:∀ l∈b,l.1<F/\l.2<F)(all:∀ m:List Nat,m.length=F->(∀ l∈b,m.getD l.1 0=m.getD l.2 0)->∀ i,i<F->m.getD i 0=m.getD 0 0):F<=b.length+1:=by
 have d:=kFL b (df F);rw[eV]at d;have a:=all (goL (df F) b) d λ l c=>kAP b _ l.1 l.2 (by rw[eV];exact(rng l c).1) (by rw[eV];exact(rng l c).2) c
 obtain⟨V,h1,g⟩:=nX b (df F) ((goL (df F) b).getD 0 0) λ x h=>by
  obtain⟨i,f,rfl⟩:=eY.mp h;rw[<-a i (by omega),ae,aa f]
  rfl
 have:=eI me g;rw[eV]at this;omega
def kFC{p:Nat->Prop}(h:∃ k,p k):∃ k,p k/\∀ j,j<k->¬ p j:=by
 obtain⟨k,b⟩:=h
 induction k using CG with
 | _ k ih =>
  by_cases c:∃ j,j<k/\p j
  ·obtain⟨j,a,hp⟩:=c
   exact ih j a hp
  ·exact⟨k,b,λ j a hp=>c ⟨j,a,hp⟩⟩
def uN{row:List Nat}(nd:row.Nodup){P:Nat->Prop}{y r:Nat}(s:y∈row)(h0:r∈row)(p0:P r)(st:∀ w v,w∈row->w≠y->jX row w=some v->P w->P v):P y:=by
 obtain⟨d,u,rfl⟩:=eY.mp s;obtain⟨l,x,rfl⟩:=eY.mp h0;have m:∀ i (h:i<row.length),row.idxOf row[i]=i:=λ i h=>(uk nd).mp (Az (fj (fe h)));have q:∀ i (h:i<row.length),i≠d->row[i]≠row[d]:=λ i h n z=>n ((uk nd).mp z)
 have step:∀ i (h:i+1<row.length),i+1≠d->P row[i+1]->P row[i]:=λ i h n p=>by
  refine st _ _ (fe h) (q _ h n) ?_ p;unfold jX;rw[m _ h,if_neg (by omega),show i+1-1=i by omega,aa (by omega)]
 have g:∀(h:0<row.length),0≠d->P row[0]->P (row[row.length-1]'(by omega)):=λ h n p=>by
  refine st _ _ (fe h) (q _ h n) ?_ p;unfold jX;rw[m _ h,if_pos rfl,iN,aa (by omega)]
 have f:∀ k i (h:i+k<row.length),(∀ t,i<t->t<=i+k->t≠d)->P row[i+k]->P (row[i]'(by omega)):=λ k=>by
  induction k with
  | zero=>exact λ i h _ p=>p
  | succ k ih =>
   intro i h n p;exact ih i (by omega) (λ t h1 o=>n t h1 (by omega)) (step (i+k) (by omega) (n _ (by omega) (by omega)) p)
 rcases fw l d with c | c
 ·have a:=f l 0 (by omega) (λ t h1 o=>by omega) (by simpa using p0)
  have b:=g (by omega) (by omega) a;have:=f (row.length-1-d) d (by omega) (λ t h1 o=>by omega) (by simpa[show d+(row.length-1-d)=row.length-1 by omega] using b);exact this
 ·have:=f (l-d) d (by omega) (λ t h1 o=>by omega) (by simpa[show d+(l-d)=l by omega] using p0)
  exact this
section
variable {W:Rows} {par dist:Nat->Nat}
theorem kFW(a:Nat->Nat):∀ n:Nat,∃ N,∀ v,v<n->a v<=N
 | 0=>⟨0,λ v h=>by omega⟩
 | n+1=>by
  obtain⟨N,h⟩:=kFW a n;refine⟨max N (a n),λ v b=>?_⟩;rcases fw v n with c | c
  ·have:=h v c
   omega
  ·rw[show v=n by omega]
   omega
def kMT(S:Nb W):∃ R:List (Nat×Nat),R.length=(facesS W).length/\(∀ r∈R,r∈kN W)/\(∀ t∈kN W,∃ i,∃(h:i<R.length),t∈rnd W R[i])/\∀ t i j (hi:i<R.length) (a:j<R.length),t∈rnd W R[i]->t∈rnd W R[j]->i=j:=by
 have sub:∀ t∈stepsS W,t∈kN W:=λ t d=>(sortP_perm _).mem_iff.mp d;have I:=fgo_ok S (stepsS W) sub;obtain⟨R,m,n,l⟩:=I.reps
 have o:(facesS W).length=R.length:=by
  rw[show(facesS W).length=(xP W).length from(yP _).length_eq];show(fgo W (stepsS W)).1.length=_;rw[n,af]
 have nd:=I.nd;rw[l]at nd;have f:=(CL.mp nd).2;refine⟨R,o.symm,λ r b=>sub r (m r b),λ t d=>?_,λ t i j hi a h1 g=>?_⟩
 ·have:=I.cov t ((sortP_perm _).mem_iff.mpr d)
  rw[l]at this;obtain⟨r,b,h⟩:=AD.mp this;obtain⟨i,hi,rfl⟩:=eY.mp b;exact⟨i,hi,h⟩
 ·rcases wj i j with c | c | c
  ·exact absurd rfl (iX.mp f i j hi a c t h1 t g)
  ·exact c
  ·exact absurd rfl (iX.mp f j i a hi c t g t h1)
end
section
variable {W W':Rows}
end
section
variable {W W' L:Rows}
end
section
variable {W W':Rows}
end
def RC(W:Rows)(C:List Nat):Nat->Nat->Prop
 | 0,v=>v∈C
 | k+1,v=>∃ u,RC W C k u/\E W u v
def kRX{W:Rows}{C:List Nat}{c v:Nat}(a:c∈C)(h:Reach W c v):∃ k,RC W C k v:=by
 induction h with
 | here=>exact⟨0,a⟩
 | more _ e ih =>
  obtain⟨k,b⟩:=ih;exact⟨k+1,_,b,e⟩
structure CTree(W:Rows)(C:List Nat)(par dist:Nat->Nat):Prop where
 e:∀ v,v<W.length->v∉C->E W (par v) v
 d:∀ v,v<W.length->v∉C->dist (par v)+1=dist v
def kLW{W:Rows}{C:List Nat}(f:∀ v,v<W.length->∃ c∈C,Reach W c v):∃ par dist,CTree W C par dist:=by
 have h1:∀ v,∃ k,v<W.length->RC W C k v/\∀ j,j<k->¬ RC W C j v:=λ v=>by
  by_cases c:v<W.length
  ·obtain⟨c0,i,r⟩:=f v c
   obtain⟨k,q⟩:=kFC (kRX i r);exact⟨k,λ _=>q⟩
  ·exact⟨0,λ z=>absurd z c⟩
 have d:=λ v=>kh (h1 v);generalize D:(λ v=>uf (h1 v))=dist at *
 have d:∀ v,v<W.length->RC W C (dist v) v/\∀ j,j<dist v->¬ RC W C j v:=λ v p=>by
  rw[<-D];exact d v p
 have l:∀ v,∃ u,v<W.length->v∉C->E W u v/\dist u+1=dist v:=λ v=>by
  by_cases c:v<W.length/\v∉C
  ·obtain⟨a,b⟩:=d v c.1
   cases e:dist v with
   | zero =>
    rw[e]at a;exact absurd a c.2
   | succ k =>
    rw[e]at a b;obtain⟨u,B,g⟩:=a
    have m:u<W.length:=by
     obtain⟨row,x,_⟩:=g;exact(ag.mp x).1
    obtain⟨o,s⟩:=d u m;refine⟨u,λ _ _=>⟨g,?_⟩⟩;have G:¬ k<dist u:=λ z=>s k z B;have H:¬ dist u+1<k+1:=λ z=>b _ z ⟨u,o,g⟩;omega
  ·exact⟨0,λ A y=>absurd ⟨A,y⟩ c⟩
 exact⟨λ v=>uf (l v),dist,λ v h n=>(kh (l v) h n).1,λ v h n=>(kh (l v) h n).2⟩
section
variable {W:Rows} {C:List Nat} {par dist:Nat->Nat} {lab:Nat->Nat->Nat}
def row_at(S:Nb W){z:Nat}(hz:z<W.length):∃ r,W[z]?=some r/\r.Nodup/\(∀ w,w∈r↔E W z w)/\∀ w v,jX r w=some v->nxt W (w,z)=(z,v):=by
 refine⟨W[z],aa hz,S.nd z _ (aa hz),λ w=>⟨λ m=>⟨_,aa hz,m⟩,λ⟨r,a,m⟩=>?_⟩,λ w v h=>?_⟩
 ·rw[aa hz]at a
  cases a
  exact m
 ·show(z,(jX (W.getD z []) w).getD 0)=(z,v)
  rw[ae,aa hz];show(z,(jX W[z] w).getD 0)=(z,v);rw[h]
  rfl
def Fit(W:Rows)(lab:Nat->Nat->Nat):Prop:=∀ x y v,E W x y->nxt W (x,y)=(y,v)->lab y v=lab x y
def kNO(S:Nb W)(T:CTree W C par dist)(m:Fit W lab)
  (o:∀ x y,E W x y->¬ ((y∉C/\par y=x)\/(x∉C/\par x=y)\/Nx C x y\/Nx C y x)->lab x y=lab y x):∀ x y,E W x y->¬ Nx C x y->¬ Nx C y x->lab x y=lab y x:=by
 obtain⟨N,A⟩:=kFW dist W.length
 have a:∀ k z,z<W.length->z∉C->N-dist z=k->lab (par z) z=lab z (par z):=λ k=>by
  induction k using CG with
  | _ k ih =>
   intro z n l O;obtain⟨r,U,nd,mem,nx⟩:=row_at S n;have g:=T.e z n l;obtain⟨v,Q,D,I⟩:=xK S g;refine(uN nd (P:=λ w=>lab z w=lab (par z) z) ((mem _).mpr (S.sym _ _ g)) ((mem v).mpr I) (m _ _ _ g D) λ w u s p M B=>?_).symm;have i:=(mem w).mp s
   have back:lab z w=lab w z:=by
    by_cases t:(w∉C/\par w=z)\/(z∉C/\par z=w)\/Nx C z w\/Nx C w z
    ·rcases t with⟨c,f⟩ | ⟨_,L⟩ | h | h
     ·have b:=(S.e i).2.1
      have G:=T.d w b c;rw[f]at G;have:=A w b;have q:=ih (N-dist w) (by omega) w b c rfl;rwa[f]at q
     ·exact absurd L.symm p
     ·exact absurd (kT h).1 l
     ·exact absurd (kT h).2 l
    ·exact o z w i t
   rw[m w z u (S.sym _ _ i) (nx w u M),<-back,B]
 intro x y e H J;by_cases t:(y∉C/\par y=x)\/(x∉C/\par x=y)\/Nx C x y\/Nx C y x
 ·rcases t with⟨h,rfl⟩ | ⟨h,rfl⟩ | h | h
  ·exact a _ y (S.e e).2.1 h rfl
  ·exact(a _ x (S.e e).1 h rfl).symm
  ·exact absurd h H
  ·exact absurd h J
 ·exact o x y e t
def kFF(S:Nb W)(d:Fit W lab)(c:∀ x y,E W x y->¬ Nx C x y->¬ Nx C y x->lab x y=lab y x){z w a:Nat}(hz:z∉C)(e:E W z w)(i:E W z a):lab z w=lab z a:=by
 obtain⟨r,l,nd,mem,nx⟩:=row_at S (S.e e).1;refine uN nd (P:=λ u=>lab z u=lab z a) ((mem w).mpr e) ((mem a).mpr i) rfl λ u v g _ f p=>?_;have b:=(mem u).mp g;rw[d u z v (S.sym _ _ b) (nx u v f),<-c z u b (λ h=>hz (kT h).1) (λ h=>hz (kT h).2)];exact p
def fA(S:Nb W)(nd:C.Nodup)(d:Fit W lab)(l:∀ p q,Nx C p q->E W p q)(o:∀ x y,E W x y->¬ Nx C x y->¬ Nx C y x->lab x y=lab y x){p c n:Nat}(h1:Nx C p c)(m:Nx C c n):lab c n=lab p c:=by
 have b:=l _ _ h1;have g:=l _ _ m;obtain⟨r,I,a,mem,nx⟩:=row_at S (S.e g).1;obtain⟨v,H,A,B⟩:=xK S b;refine uN a (P:=λ u=>lab c u=lab p c) ((mem n).mpr g) ((mem v).mpr B) (d _ _ _ b A) λ u v G D s q=>?_;have i:=(mem u).mp G;rw[d u c v (S.sym _ _ i) (nx u v s)];by_cases f:u=p
 ·rw[f]
 ·rw[<-o c u i (λ h=>D (jG nd h m)) (λ h=>f (yA nd h h1))]
  exact q
def kNN(S:Nb W)(nd:C.Nodup)(g:Fit W lab)(i:∀ p q,Nx C p q->E W p q)(d:∀ x y,E W x y->¬ Nx C x y->¬ Nx C y x->lab x y=lab y x){p c n w:Nat}(h1:Nx C p c)(b:Nx C c n)(e:E W c w):lab c w=lab p c\/lab c w=lab n c:=by
 have f:=i _ _ b;obtain⟨r,B,a,mem,nx⟩:=row_at S (S.e f).1;refine uN a (P:=λ u=>lab c u=lab p c\/lab c u=lab n c) ((mem w).mpr e) ((mem n).mpr f) (.inl (fA S nd g i d h1 b)) λ u v o A s q=>?_;have m:=(mem u).mp o;rw[g u c v (S.sym _ _ m) (nx u v s)];by_cases un:u=n
 ·exact .inr (by rw[un])
 ·by_cases l:u=p
  ·exact .inl (by rw[l])
  ·rw[<-d c u m (λ h=>un (jG nd h b)) (λ h=>l (yA nd h h1))]
   exact q
def kNP(S:Nb W)(T:CTree W C par dist)(nd:C.Nodup)(r:Fit W lab)(o:∀ p q,Nx C p q->E W p q)(l:∀ x y,E W x y->¬ Nx C x y->¬ Nx C y x->lab x y=lab y x){p q:Nat}(h:Nx C p q)(D:lab p q=lab q p) :
  ∀ x y,E W x y->lab x y=lab p q:=by
 have one:∀ c n,Nx C c n->lab c n=lab p q->lab n c=lab p q->∀ w,E W c w->lab c w=lab p q:=λ c n i a b w e=>by
  obtain⟨v,f⟩:=wF (kT i).1;have f:=yG nd (kT i).1 f;rcases kNN S nd r o l f i e with z | z
  ·rw[z,<-fA S nd r o l f i,a]
  ·rw[z,b]
 have u:∀ y∈C,∀ w,E W y w->lab y w=lab p q:=λ y B=>by
  refine uN nd (P:=λ c=>∀ w,E W c w->lab c w=lab p q) B (kT h).1 (one p q h rfl D.symm) λ c v g _ f z=>?_;have f:=yG nd g f;obtain⟨n,i⟩:=bV g;refine one v c f ?_ (z v (S.sym _ _ (o _ _ f)));rw[<-fA S nd r o l f i];exact z n (o _ _ i)
 have m:∀ k z,z<W.length->dist z=k->∀ w,E W z w->lab z w=lab p q:=λ k=>by
  induction k using CG with
  | _ k ih =>
   intro z A G w e;by_cases g:z∈C
   ·exact u z g w e
   ·have s:=T.e z A g
    have H:=T.d z A g;rw[kFF S r l g e (S.sym _ _ s),<-l _ _ s (λ h=>g (kT h).2) (λ h=>g (kT h).1)];exact ih _ (by omega) _ (S.e s).1 rfl _ s
 exact λ x y e=>m _ x (S.e e).1 rfl y e
def sE(v u:Nat):Nat×Nat:=if v<u then(v,u) else(u,v)
def kIU{v u w x:Nat}(h:sE v u=sE w x):(v=w/\u=x)\/(v=x/\u=w):=by
 unfold sE at h
 split at h<;>split at h<;>injection h with h1 h2<;>omega
def kQF{v w:Nat}(nd:C.Nodup)(h1:Nx C v w)(c:Nx C w v):C.length<=2:=by
 have all:∀ x∈C,x=v\/x=w:=λ x b=>by
  refine uN nd (P:=λ x=>x=v\/x=w) b (kT h1).1 (.inl rfl) λ y u d _ a p=>?_;have a:=yG nd d a;rcases p with rfl | rfl
  ·exact .inr (yA nd a c)
  ·exact .inl (yA nd a h1)
 have:=eI nd (l₂:=[v,w]) λ x b=>by
  rcases all x b with rfl | rfl<;>simp
 simpa using this
def CtP(C:List Nat)(a:Nat->Nat)(t:Nat×Nat):Prop:=(t.2∉C/\a t.2=t.1)\/(t.1∉C/\a t.1=t.2)\/Nx C t.1 t.2\/Nx C t.2 t.1
open Classical in
def kBB(S:Nb W)(T:CTree W C par dist)(nd:C.Nodup)(N:3<=C.length)(I:∀ p q,Nx C p q->E W p q):W.length<=((tiesS W).filter λ t=>decide (CtP C par t)).length:=by
 have B:∀ v,∃ u,v<W.length->(v∈C/\Nx C v u)\/(v∉C/\u=par v):=λ v=>by
  by_cases c:v∈C
  ·obtain⟨u,M⟩:=bV c
   exact⟨u,λ _=>.inl ⟨c,M⟩⟩
  ·exact⟨par v,λ _=>.inr ⟨c,rfl⟩⟩
 have g:=λ v=>kh (B v);generalize L:(λ v=>uf (B v))=f at *
 have g:∀ v,v<W.length->(v∈C/\Nx C v (f v))\/(v∉C/\f v=par v):=λ v i=>by
  rw[<-L];exact g v i
 have r:((df W.length).map λ v=>sE v (f v)).Nodup:=by
  refine iY.mpr (List.pairwise_lt_range.imp_of_mem λ{a b} o m D e=>?_);have o:=fz.mp o;have m:=fz.mp m;rcases kIU e with⟨z,_⟩ | ⟨A,y⟩
  ·omega
  ·rcases g a o with⟨x,h⟩ | ⟨x,h⟩<;>rcases g b m with⟨s,l⟩ | ⟨s,l⟩
   ·rw[y]at h
    rw[<-A]at l;have:=kQF nd h l;omega
   ·rw[y]at h
    exact s (kT h).2
   ·rw[<-A]at l
    exact x (kT l).2
   ·have H:=T.d a o x
    have J:=T.d b m s;rw[<-h,y]at H;rw[<-l,<-A]at J;omega
 have:=eI r (l₂:=(tiesS W).filter λ t=>decide (CtP C par t)) λ t G=>by
  obtain⟨v,i,rfl⟩:=ft.mp G;have i:=fz.mp i
  have two:E W v (f v)/\CtP C par (v,f v)/\CtP C par (f v,v):=by
   rcases g v i with⟨c,n⟩ | ⟨c,n⟩
   ·exact⟨I _ _ n,.inr (.inr (.inl n)),.inr (.inr (.inr n))⟩
   ·rw[n]
    exact⟨S.sym _ _ (T.e v i c),.inr (.inl ⟨c,rfl⟩),.inl ⟨c,rfl⟩⟩
  obtain⟨e,p1,p2⟩:=two;have O:=(S.e e).2.2;unfold sE tiesS;rw[gn,gn,mem_stepsS]
  split
  ·rename_i c
   exact⟨⟨e,decide_eq_true c⟩,decide_eq_true p1⟩
  ·rename_i c
   exact⟨⟨S.sym _ _ e,decide_eq_true (by show f v<v;omega)⟩,decide_eq_true p2⟩
 rw[af,eV]at this;exact this
open Classical in
def kQT(S:Nb W)(g:∀ v,v<W.length->Reach W 0 v)(fl:W.length+(facesS W).length=(tiesS W).length+2)(nd:C.Nodup)(l3:3<=C.length)(J:∀ p q,Nx C p q->E W p q) :
  ∃ lab:Nat->Nat->Nat,Fit W lab/\(∀ x y,E W x y->¬ Nx C x y->¬ Nx C y x->lab x y=lab y x)/\∀ p q,Nx C p q->lab p q≠lab q p:=by
 refine gm λ no=>?_
 obtain⟨c0,r⟩ : ∃ c,c∈C:=by
  cases C with
  | nil=>simp at l3
  | cons c C=>exact⟨c,eW⟩
 obtain⟨c1,I⟩:=bV r;have G:=J _ _ I;have lc:=(S.e G).1;obtain⟨b,Y,T⟩:=kLW (C:=C) λ v hv=>⟨c0,r,(Reach.symm S.sym (g c0 lc)).trans (g v hv)⟩;obtain⟨R,lR,u,L,o⟩:=kMT S
 have s:∀ t,∃ i,t∈kN W->∃(h:i<R.length),t∈rnd W R[i]:=λ t=>by
  by_cases c:t∈kN W
  ·obtain⟨i,h,m⟩:=L t c
   exact⟨i,λ _=>⟨h,m⟩⟩
  ·exact⟨0,λ z=>absurd z c⟩
 have d:=λ t=>kh (s t);generalize hF:(λ t=>uf (s t))=a at *
 have d:∀ t,t∈kN W->∃(h:a t<R.length),t∈rnd W R[a t]:=λ t f=>by
  subst hF;exact d t f
 have H:∀ t,t∈kN W->a (nxt W t)=a t:=λ t f=>by
  obtain⟨h1,m1⟩:=d t f;have Z:=tK S (u _ (fe h1)) m1;have hs:=rnd_sub S (u _ (fe h1)) Z;obtain⟨N,M⟩:=d _ hs;exact o _ _ _ N h1 M Z
 have O:∀ i (h:i<R.length),a R[i]=i:=λ i h=>by
  have X:=u _ (fe h);obtain⟨N,M⟩:=d _ X;exact o _ _ _ N h M (rnd_self S X)
 have st:∀ x y,E W x y->(x,y)∈kN W:=λ x y e=>mem_steps.mpr e
 have ls:R.length<=(((tiesS W).filter λ t=>!decide (CtP C b t)).map λ t=>(a t,a (t.2,t.1))).length+1:=by
  refine kCX (λ l B=>?_) λ m lm B i A=>?_
  ·obtain⟨t,f,rfl⟩:=ft.mp B
   have f:=(gn.mp f).1;unfold tiesS at f;have e:=mem_stepsS.mp (gn.mp f).1;exact⟨(d t (st _ _ e)).1,(d (t.2,t.1) (st _ _ (S.sym _ _ e))).1⟩
  ·have Q:Fit W (λ x y=>m.getD (a (x,y)) 0):=λ x y v e n=>by
    have:=H _ (st x y e);rw[n]at this;show m.getD (a (y,v)) 0=_;rw[this]
   have U:=kNO (lab:=λ x y=>m.getD (a (x,y)) 0) S T Q λ x y e nt=>by
    show m.getD (a (x,y)) 0=m.getD (a (y,x)) 0;have ne:=(S.e e).2.2;rcases fw x y with c | c
    ·exact B (a (x,y),a (y,x)) (ft.mpr ⟨(x,y),gn.mpr ⟨gn.mpr ⟨mem_stepsS.mpr e,decide_eq_true c⟩,by rw[decide_eq_false (show ¬ CtP C b (x,y) from nt)];rfl⟩,rfl⟩)
    ·have D:¬ CtP C b (y,x):=λ z=>nt (by
      rcases z with z | z | z | z
      ·exact .inr (.inl z)
      ·exact .inl z
      ·exact .inr (.inr (.inr z))
      ·exact .inr (.inr (.inl z)))
     exact(B (a (y,x),a (x,y)) (ft.mpr ⟨(y,x),gn.mpr ⟨gn.mpr ⟨mem_stepsS.mpr (S.sym _ _ e),decide_eq_true (by show y<x;omega)⟩,by rw[decide_eq_false D];rfl⟩,rfl⟩)).symm
   have ex:∃ p q,Nx C p q/\m.getD (a (p,q)) 0=m.getD (a (q,p)) 0:=gm λ z=>no ⟨_,Q,U,λ p q h e=>z ⟨p,q,h,e⟩⟩;obtain⟨p,q,h,e⟩:=ex;have all:=kNP S T nd Q J U h e
   have key:∀ i,i<R.length->m.getD i 0=m.getD (a (p,q)) 0:=λ i A=>by
    have e:E W R[i].1 R[i].2:=mem_steps.mp (u _ (fe A));have:=all _ _ e;rw[show(R[i].1,R[i].2)=R[i] from rfl,O i A]at this;exact this
   rw[key i A,key 0 (by omega)]
 have tc:=kBB S T nd l3 J
 have sum:((tiesS W).filter λ t=>decide (CtP C b t)).length+((tiesS W).filter λ t=>!decide (CtP C b t)).length=(tiesS W).length:=by
  have:∀ l:List (Nat×Nat),(l.filter λ t=>decide (CtP C b t)).length+(l.filter λ t=>!decide (CtP C b t)).length=l.length:=λ l=>by
   induction l with
   | nil=>rfl
   | cons t l ih =>
    rw[lh,lh]
    cases decide (CtP C b t)<;>simp<;>omega
  exact this _
 rw[af]at ls;omega
end
section
variable {W:Rows} {C:List Nat} {lab:Nat->Nat->Nat}
def wK(A:List Nat)(x y:Nat)(B:List Nat):Nx (A++x::y::B) x y:=by
 show Adj ((A++x::y::B)++(A++x::y::B).head?.toList) x y;rw[de];exact(qQ A x _ x y).mpr (.inr (.inl ⟨rfl,rfl⟩))
theorem kGB:∀{l:List Nat}{p q:Nat},Adj l.reverse p q->Adj l q p
 | [],_,_,h=>h.elim
 | [x],_,_,h=>h.elim
 | x::y::r,p,q,h=>by
  rw[wm,wm,de]at h;rcases(qQ _ y [x] p q).mp h with h | h
  ·refine .inr (kGB (l:=y::r) ?_)
   rw[wm];exact h
  ·rcases h with⟨rfl,rfl⟩ | h
   ·exact .inl ⟨rfl,rfl⟩
   ·exact h.elim
def kLA(S:Nb W)(o:Fit W lab){k t:Nat}{row A B:List Nat}(p:W[k]?=some row):∀(a:List Nat),Ro row (A++a++t::B)->(∀ z∈a.tail,lab k z=lab z k)->∀ z∈a,lab k z=lab t k:=by
 have one:∀(u v:Nat)(A B:List Nat),Ro row (A++u::v::B)->lab k u=lab v k:=λ u v A B d=>by
  have r:R W k u v:=⟨row,p,(d.nx u v).mpr (wK A u v B)⟩;exact o v k u (S.sym _ _ (yD r).2) (pY S.nd r)
 suffices H:∀(n:Nat)(a A B:List Nat)(t:Nat),a.length=n->Ro row (A++a++t::B)->(∀ z∈a.tail,lab k z=lab z k)->∀ z∈a,lab k z=lab t k from λ a=>H _ a A B t rfl
 intro n
 induction n with
 | zero =>
  intro a A B t c _ _ z b;rw[iu.mp c]at b;cases b
 | succ n ih =>
  intro a A B t c d f z b;have g:a≠[]:=λ e=>by rw[e]at c;cases c
  obtain⟨I,u,rfl⟩ : ∃ I u,a=I++[u]:=⟨a.dropLast,a.getLast g,(gj g).symm⟩;have h:lab k u=lab t k:=one u t (A++I) B (by simpa using d);rcases bp.mp b with m | m
  ·have l:I.length=n:=by simpa using c
   have q:=ih I A (t::B) u l (by simpa using d) (λ z b=>by
    cases I with
    | nil=>cases b
    | cons i I=>exact f z (by simp at b ⊢;exact .inl b)) z m
   rw[q,<-h]
   cases I with
   | nil=>cases m
   | cons i I=>exact(f u (by simp)).symm
  ·rw[dg.mp m]
   exact h
theorem kKZ(S:Nb W)(d:Fit W lab){k:Nat}{row:List Nat}(f:W[k]?=some row):∀(a A B:List Nat)(t:Nat),Ro row (A++t::(a++B))->(∀ z∈a,lab k z=lab z k)->∀ z∈a,lab k z=lab k t
 | [],_,_,_,_,_,z,c=>by cases c
 | u::a,A,B,t,ro,sy,z,c=>by
  have r:R W k t u:=⟨row,f,(ro.nx t u).mpr (wK A t u _)⟩;have g:lab k t=lab u k:=d u k t (S.sym _ _ (yD r).2) (pY S.nd r);have b:lab k u=lab k t:=by rw[sy u (by simp),g]
  rcases cn.mp c with rfl | m
  ·exact b
  ·rw[<-b]
   exact kKZ S d f a (A++[t]) B u (by simpa using ro) (λ z c=>sy z (dc _ c)) z m
theorem cB(S:Nb W)(r:Fit W lab)(i:∀ x y,E W x y->¬ Nx C x y->¬ Nx C y x->lab x y=lab y x){g:Nat}:∀(D:List Nat)(c:Nat),(∀ p q,Adj (c::D) p q->E W p q)->(∀ d∈D,d∉C)->(∀ d1,D.head?=some d1->lab c d1=g)->∀ d∈D,∀ w,E W d w->lab d w=g
 | [],_,_,_,_,d,f,_,_=>by cases f
 | d1::D,c,ad,nc,h1,d,f,w,e=>by
  have o:=ad c d1 (.inl ⟨rfl,rfl⟩);have l:=nc d1 (by simp);have a:=h1 d1 rfl;have b:lab d1 c=g:=by rw[<-i c d1 o (λ h=>l (kT h).2) (λ h=>l (kT h).1)];exact a
  have all:∀ w,E W d1 w->lab d1 w=g:=λ w e=>by rw[kFF S r i l e (S.sym _ _ o)];exact b
  rcases cn.mp f with rfl | m
  ·exact all w e
  ·exact cB S r i D d1 (λ p q h=>ad p q (.inr h)) (λ d f=>nc d (dc _ f)) (λ n s=>by
    cases D with
    | nil=>cases s
    | cons d3 D =>
     cases s
     exact all n (ad d1 n (.inr (.inl ⟨rfl,rfl⟩)))) d m w e
def kNU(S:Nb W)(nd:C.Nodup)(o:Fit W lab)(r:∀ p q,Nx C p q->E W p q)(l:∀ x y,E W x y->¬ Nx C x y->¬ Nx C y x->lab x y=lab y x){p q f b:Nat}(h:Nx C p q)(h':Nx C f b):lab p q=lab f b:=by
 have:=uN nd (P:=λ c=>∀ n,Nx C c n->lab c n=lab f b) (kT h).1 (kT h').1 (λ n d=>by rw[jG nd d h']) (λ c v i _ a z n d=>by
  have a:=yG nd i a;have:=jG nd d a;subst this;obtain⟨m,g⟩:=bV i;rw[<-fA S nd o r l a g];exact z m g)
 exact this q h
end
structure Pel(W:Rows)(a b:Nat)(T off:List Nat):Prop where
 nd:T.Nodup
 hd:T.head?=some a
 lt:T.getLast?=some b
 two:2<=T.length
 out:∀ x∈T,x∉off
 nof:off.Nodup
 inn:∀ x y,x∉off->x∉T->E W x y->y∉off
 row:∀ u v w,Nx T u v->Nx T v w->∃ row ins outs,W[v]?=some row/\Ro row (ins++outs)/\(∀ x∈ins,x∉off)/\(∀ x∈outs,x∈off)/\ins.head?=some u/\ins.getLast?=some w
section
variable {W:Rows} {T off:List Nat} {a b:Nat}
def Pel.path(h:Pel W a b T off){u v:Nat}(n:Nx T u v):E W v u:=by
 obtain⟨w,g⟩:=bV (kT n).2;obtain⟨row,c,outs,l,f,_,_,d,_⟩:=h.row u v w n g;refine⟨row,l,(f.mem u).mpr ?_⟩
 cases c with
 | nil=>cases d
 | cons i c =>
  cases d
  simp
def kHU{W:Rows}(G:Good W):W.length+(facesS W).length=(tiesS W).length+2:=((three_cornered (Wb.of G).toNb).mpr (xG G)).1
def wN{l:List Nat}{x:Nat}(h:l.getLast?=some x):∃ I,l=I++[x]:=by
 have a:l≠[]:=λ z=>by rw[z]at h;cases h
 rw[iK a]at h;exact⟨l.dropLast,by rw[<-bj h];exact(gj a).symm⟩
def uV{l:List Nat}{x:Nat}(h:l.head?=some x):∃ I,l=x::I:=by
 cases l with
 | nil=>cases h
 | cons y l=>cases h;exact⟨l,rfl⟩
def kSY(G:Good W)(h:Pel W a b T off){A D M:List Nat}{x y k l:Nat}(e:T=A++(x::(k::M)++[y])++D)(ch:E W x y)(hl:l∈A++D)(ek:E W k l):False:=by
 have S:=(Wb.of G).toNb;have a5:=h.nd;rw[e]at a5;have d1:=az.mp a5;have d2:=az.mp d1.1;have r:(x::(k::M)++[y]).Nodup:=d2.2.1
 have lC:l∉x::(k::M)++[y]:=λ z=>by
  rcases bp.mp hl with m | m
  ·exact d2.2.2 l m l z rfl
  ·exact d1.2.2 l (cm _ z) l m rfl
 have lT:l∈T:=by
  rw[e];rcases bp.mp hl with m | m
  ·exact cf _ (cf _ m)
  ·exact cm _ m
 have nT:∀ u v,Adj (x::(k::M)++[y]) u v->Nx T u v:=λ u v j=>by
  rw[e];exact(nxO u v).mpr (.inl j)
 have nC:∀ u v,Adj (x::(k::M)++[y]) u v->Nx (x::(k::M)++[y]) u v:=λ u v j=>(nxP (k::M) x y u v).mpr (.inl j);have a2:Nx (x::(k::M)++[y]) y x:=(nxP (k::M) x y y x).mpr (.inr ⟨rfl,rfl⟩)
 have ce:∀ p q,Nx (x::(k::M)++[y]) p q->E W p q:=λ p q hn=>by
  rcases(nxP (k::M) x y p q).mp hn with j | ⟨rfl,rfl⟩
  ·exact S.sym _ _ (h.path (nT p q j))
  ·exact S.sym _ _ ch
 obtain⟨c,c1,sy,a7⟩:=kQT S G.con (kHU G) r (by simp) ce
 have a1:∀{v p n z:Nat},Nx (x::(k::M)++[y]) p v->Nx (x::(k::M)++[y]) v n->E W v z->z≠p->z≠n->c v z=c z v:=λ hp hn ez n1 n2=>sy _ _ ez (λ L=>n2 (jG r L hn)) (λ L=>n1 (yA r L hp))
 have a3:Adj (x::(k::M)++[y]) x k:=.inl ⟨rfl,rfl⟩
 obtain⟨n,Y⟩ : ∃ n,Adj (x::(k::M)++[y]) k n:=by
  cases M with
  | nil=>exact⟨y,.inr (.inl ⟨rfl,rfl⟩)⟩
  | cons m M=>exact⟨m,.inr (.inl ⟨rfl,rfl⟩)⟩
 have kA:c k l=c n k:=by
  obtain⟨row,C,outs,O,N,a6,o,L,ht⟩:=h.row x k n (nT _ _ a3) (nT _ _ Y);obtain⟨a4,H,ml⟩:=id ek;rw[O]at H
  cases H
  have a0:(C++outs).Nodup:=N.nd.mp (S.nd _ _ O)
  have li:l∈C:=by
   rcases bp.mp ((N.mem l).mp ml) with z | z
   ·exact z
   ·exact absurd (o l z) (h.out l lT)
  obtain⟨I,rfl⟩:=wN ht;have f:=(az.mp a0).1
  have lI:l∈I:=by
   rcases bp.mp li with z | z
   ·exact z
   ·rw[dg.mp z]at lC
    exact absurd (kT (nC _ _ Y)).2 lC
  refine kLA S c1 (A:=[]) (B:=outs) (t:=n) O I (by simpa using N) (λ z hz=>?_) l lI;have zI:z∈I:=vj hz;refine a1 (nC _ _ a3) (nC _ _ Y) ⟨row,O,(N.mem z).mpr (by simp[zI])⟩ (λ zx=>?_) (λ zn=>?_)
  ·cases I with
   | nil=>cases hz
   | cons i I =>
    have:i=x:=bj L;rw[gi,dr]at f;exact f.1 (cf _ (by rw[this,<-zx];exact hz))
  ·exact(az.mp f).2.2 z zI n (by simp) zn
 have back:∃ p q,Nx (x::(k::M)++[y]) p q/\c l k=c p q:=by
  rcases bp.mp hl with m | m
  ·-- ahead of x
   have a9:A≠[]:=DG m;obtain⟨A',p0,rfl⟩ : ∃ I u,A=I++[u]:=⟨A.dropLast,A.getLast a9,(gj a9).symm⟩
   have ab:Nx T p0 x:=by
    rw[e,show A'++[p0]++(x::(k::M)++[y])++D=A'++p0::x::((k::M)++[y]++D) by simp];exact wK _ _ _ _
   have key:c x p0=c y x:=by
    obtain⟨row,C,outs,O,N,a6,o,L,ht⟩:=h.row p0 x k ab (nT _ _ a3);have a0:(C++outs).Nodup:=N.nd.mp (S.nd _ _ O);have f:=(az.mp a0).1;obtain⟨a4,H,my⟩:=id ch;rw[O]at H
    cases H
    have yT:y∈T:=by rw[e];simp
    have yi:y∈C:=by
     rcases bp.mp ((N.mem y).mp my) with z | z
     ·exact z
     ·exact absurd (o y z) (h.out y yT)
    obtain⟨U,X,rfl⟩:=uv yi;have am:p0≠y:=λ z=>d2.2.2 p0 (by simp) y (by simp) z
    have ky:k≠y:=λ z=>by
     rw[z]at r;simp at r
    have ak:p0∈U:=by
     cases U with
     | nil=>exact absurd (bj L).symm am
     | cons i U=>rw[show p0=i from(bj L).symm];simp
    refine kLA S c1 (A:=[]) (B:=X++outs) (t:=y) O U (by simpa using N) (λ z hz=>?_) p0 ak;have zI:z∈U:=vj hz;refine a1 a2 (nC _ _ a3) ⟨row,O,(N.mem z).mpr (by simp[zI])⟩ (λ zy=>?_) (λ zk=>?_)
    ·exact(az.mp f).2.2 z zI y (by simp) zy
    ·obtain⟨J,hJ⟩:=wN ht
     have kI:k∈y::X:=by
      have:(U++y::X).getLast?=(y::X).getLast?:=by rw[eU,iK (xh y X)];rfl
      rw[this]at ht;exact xa ht
     exact(az.mp f).2.2 z zI k kI zk
   refine⟨y,x,a2,?_⟩;refine cB S c1 sy (A'++[p0]).reverse x (λ p q j=>?_) (λ d hd hc=>?_) (λ d1 hd=>?_) l (nj.mpr m) k (S.sym _ _ ek)
   ·have j':Adj (A'++[p0]++[x]).reverse p q:=by
     rw[wx];exact j
    have j2:=kGB j';refine h.path (u:=q) (v:=p) ?_;rw[e];show Adj (A'++[p0]++(x::(k::M)++[y])++D++_) q p;rw[show A'++[p0]++(x::(k::M)++[y])++D=(A'++[p0])++x::((k::M)++[y]++D) by simp,de (A'++[p0])];exact(qQ _ x _ q p).mpr (.inl j2)
   ·exact d2.2.2 d (nj.mp hd) d hc rfl
   ·rw[wx]at hd
    cases hd
    exact key
  ·-- behind y
   have an:D≠[]:=DG m
   obtain⟨g,Z,rfl⟩ : ∃ g Z,D=g::Z:=by
    cases D with
    | nil=>exact absurd rfl an
    | cons g Z=>exact⟨g,Z,rfl⟩
   obtain⟨Q,p,hQ⟩ : ∃ Q p,k::M=Q++[p]:=⟨(k::M).dropLast,(k::M).getLast (by simp),(gj (by simp)).symm⟩
   have a8:Adj (x::(k::M)++[y]) p y:=by
    rw[hQ,show x::(Q++[p])++[y]=(x::Q)++p::[y] by simp];exact(qQ (x::Q) p [y] p y).mpr (.inr (.inl ⟨rfl,rfl⟩))
   have al:Nx T y g:=by
    rw[e,show A++(x::(k::M)++[y])++g::Z=(A++x::(k::M))++y::g::Z by simp];exact wK _ _ _ _
   have px:p≠x:=λ z=>by
    rw[hQ,z]at r;simp at r
   have key:c y g=c y x:=by
    obtain⟨row,C,outs,O,N,a6,o,L,ht⟩:=h.row p y g (nT _ _ a8) al;have a0:(C++outs).Nodup:=N.nd.mp (S.nd _ _ O);have f:=(az.mp a0).1;obtain⟨a4,H,mx⟩:=S.sym _ _ ch;rw[O]at H
    cases H
    have xT:x∈T:=by rw[e];simp
    have xi:x∈C:=by
     rcases bp.mp ((N.mem x).mp mx) with z | z
     ·exact z
     ·exact absurd (o x z) (h.out x xT)
    obtain⟨U,X,rfl⟩:=uv xi;have ap:g≠x:=λ z=>d1.2.2 x (by simp) g (by simp) z.symm
    have dI:g∈X:=by
     have e2:(U++x::X).getLast?=(x::X).getLast?:=by rw[eU,iK (xh x X)];rfl
     rw[e2]at ht;rcases cn.mp (xa ht) with z | z
     ·exact absurd z ap
     ·exact z
    have pI:p∈U:=by
     cases U with
     | nil=>exact absurd (bj L).symm px
     | cons i U=>rw[show p=i from(bj L).symm];simp
    refine kKZ S c1 O X U outs x (by simpa using N) (λ z hz=>?_) g dI;refine a1 (nC _ _ a8) a2 ⟨row,O,(N.mem z).mpr (by simp[hz])⟩ (λ zp=>?_) (λ zx=>?_)
    ·exact(az.mp f).2.2 p pI z (by simp[hz]) zp.symm
    ·have:=(az.mp f).2.1
     rw[dr]at this;exact this.1 (zx ▸ hz)
   refine⟨y,x,a2,?_⟩;refine cB S c1 sy (g::Z) y (λ p q j=>?_) (λ d hd hc=>?_) (λ d1 hd=>?_) l m k (S.sym _ _ ek)
   ·refine S.sym _ _ (h.path (u:=p) (v:=q) ?_)
    rw[e];show Adj (A++(x::(k::M)++[y])++g::Z++_) p q;rw[show A++(x::(k::M)++[y])++g::Z=(A++x::(k::M))++y::(g::Z) by simp,de (A++x::(k::M))];refine(qQ _ y _ p q).mpr (.inr ?_)
    have:∀(l s:List Nat),Adj l p q->Adj (l++s) p q:=λ l=>by
     induction l with
     | nil=>intro s h;exact h.elim
     | cons i l ih =>
      intro s h
      cases l with
      | nil=>exact h.elim
      | cons i2 l =>
       rcases h with h | h
       ·exact .inl h
       ·exact .inr (ih s h)
    exact this (y::g::Z) _ j
   ·exact d1.2.2 d (cm _ hc) d hd rfl
   ·cases hd
    exact key
 obtain⟨p,q,ac,aq⟩:=back;have s1:c k l=c l k:=sy k l ek (λ L=>lC (kT L).2) (λ L=>lC (kT L).1);refine a7 k n (nC _ _ Y) ?_;rw[kNU S r c1 ce sy (nC _ _ Y) ac,<-aq,<-s1,kA]
end
end Fc
namespace Tri
open Cyc Rnd
section
variable {W M:Rows}
end
section
variable {W V:Rows} {ns:List Nat}
end
section
variable {W W':Rows}
def kIT{a b:Nat}(S:Nb W)(e:E W a b):Top W [a,b] [a,b]:=by
 refine⟨?_,λ x c=>c,λ x y ad=>?_⟩
 ·have:=(S.e e).2.2
  simp[this.symm]
 ·rcases ad with⟨rfl,rfl⟩ | z
  ·exact e
  ·exact absurd z id
def kHL{a b c:Nat}{d:List Nat}{l m:List (List Nat)}(p:3<=d.length)(h:aW W a b c d=some (l,m)):∃ r,d=a::b::r/\r.getLast?=some c/\goF W d r.length=some (l,m):=by
 unfold aW at h
 split at h
 ·rename_i q
  obtain⟨i,g,f⟩:=q
  match d,p,i,g,f,h with
  | x::y::z::r,_,i,g,f,h =>
   have n:x=a:=bj i;have o:y=b:=bj g;subst n;subst o;refine⟨z::r,rfl,?_,h⟩;rw[yu,yu]at f;exact f
 ·cases h
end
end Tri
namespace Fc
open Tri Cyc Rnd
section
variable {W:Rows}
def kCC(S:Nb W):∃ R:List (Nat×Nat),xP W=R.map (λ r=>(rnd W r).map (·.1))/\(∀ r∈R,r∈kN W/\∀ u∈rnd W r,leP r u=true)/\∀ t∈kN W,∃ r∈R,t∈rnd W r:=by
 have q:∀ t∈stepsS W,t∈kN W:=λ t h=>(sortP_perm _).mem_iff.mp h;have p:(stepsS W).Pairwise (λ a b=>leP a b=true):=oS (kN W)
 have key:∀ n,n<=(stepsS W).length->∃ R:List (Nat×Nat),(fgo W ((stepsS W).take n)).1=R.map (λ r=>(rnd W r).map (·.1))/\(fgo W ((stepsS W).take n)).2=R.flatMap (rnd W)/\∀ r∈R,r∈kN W/\∀ u∈rnd W r,leP r u=true:=λ n=>by
  induction n with
  | zero=>intro _;exact⟨[],rfl,rfl,by simp⟩
  | succ n ih =>
   intro G;obtain⟨R,h1,f,i⟩:=ih (by omega);have s:=fgo_ok S ((stepsS W).take n) λ t h=>q t (wu h);have d:n<(stepsS W).length:=by omega
   have e:(stepsS W).take (n+1)=(stepsS W).take n++[(stepsS W)[n]]:=by rw[jg,aa d];rfl
   have o:=q _ (fe d);rw[e,fgo_snoc];unfold fstep
   split
   ·exact⟨R,h1,f,i⟩
   ·rename_i c
    refine⟨R++[(stepsS W)[n]],by rw[dw,h1];rfl,by rw[xr,f,va],λ r x=>?_⟩;rcases bp.mp x with z | z
    ·exact i r z
    ·rw[dg.mp z]
     refine⟨o,λ u v=>?_⟩;have B:=rnd_sub S o v;have A:u∈stepsS W:=(sortP_perm _).mem_iff.mpr B;obtain⟨m,D,rfl⟩:=eY.mp A;rcases fw m n with l | l
     ·exfalso
      have g:=s.cov _ (eY.mpr ⟨m,by rw[eO];omega,by rw[uy]⟩ : (stepsS W)[m]∈(stepsS W).take n);obtain⟨j,C⟩:=(uA S o).mp v;obtain⟨p0,_,back,_⟩:=fZ S o;rw[<-C]at g;generalize(stepsS W)[n]=t at *
      have:Rnd.it (nxt W) (per W t*(j+1)-j) (Rnd.it (nxt W) j t)=t:=by
       have le:j<=per W t*(j+1):=gx (yt j) (Bv _ p0);rw[<-vO,DC le,kCY _ _ back,De]
       rfl
      rw[<-this]at c;exact c (s.it g _)
     ·rcases Nat.eq_or_lt_of_le l with e | l
      ·subst e
       rw[leP_iff];omega
      ·exact(iX.mp p) n m d D l
 obtain⟨R,h1,f,i⟩:=key _ (av _);rw[iP]at h1 f;refine⟨R,h1,i,λ t y=>?_⟩;have:=(lU S).mem_iff.mpr y;rw[f]at this;exact AD.mp this
def kAF(x y v:Nat):Nat:=if y<x then(if v<y then v else y) else if v<x then v else x
def nf(x y v:Nat):List Nat:=if kAF x y v=x then[x,y,v] else if kAF x y v=y then[y,v,x] else[v,x,y]
def gF(x y v:Nat):nf x y v=[x,y,v]\/nf x y v=[y,v,x]\/nf x y v=[v,x,y]:=by
 unfold nf
 split
 ·exact .inl rfl
 ·split
  ·exact .inr (.inl rfl)
  ·exact .inr (.inr rfl)
def nf_mem{x y v z:Nat}:z∈nf x y v↔z=x\/z=y\/z=v:=by
 rcases gF x y v with e | e | e<;>rw[e]<;>simp<;>omega
def kKV{p q s:Nat}(h:p<q)(h':p<s):nf p q s=[p,q,s]/\nf q s p=[p,q,s]/\nf s p q=[p,q,s]:=by
 have b:kAF p q s=p:=by unfold kAF;rw[if_neg (by omega),if_neg (by omega)]
 have a:kAF q s p=p:=by
  unfold kAF;by_cases c:s<q
  ·rw[if_pos c,if_pos h']
  ·rw[if_neg c,if_pos h]
 have d:kAF s p q=p:=by unfold kAF;rw[if_pos h',if_neg (by omega)]
 refine⟨?_,?_,?_⟩
 ·unfold nf;rw[b,if_pos rfl]
 ·unfold nf;rw[a,if_neg (by omega),if_neg (by omega)]
 ·unfold nf;rw[d,if_neg (by omega),if_pos rfl]
def kQK{x y c d v:Nat}(h1:x≠v)(f:y≠v)(g:c≠v)(h:d≠v)(e:nf x y v=nf c d v):x=c/\y=d:=by
 rcases gF x y v with a | a | a<;>rcases gF c d v with b | b | b<;>rw[a,b]at e<;>simp at e<;>omega
def kTR(S:Nb W)(three:∀ t∈kN W,(nxt W (nxt W t)).2=t.1){p q:Nat}(h:E W p q):rnd W (p,q)=[(p,q),(q,(nxt W (p,q)).2),((nxt W (p,q)).2,p)]:=by
 have g:(p,q)∈kN W:=mem_steps.mpr h;have c:p≠q:=λ z=>(S.e h).2.2 z.symm;obtain⟨s,m,a,i⟩:=xK S h;have d:=three _ g;have f:=three (q,s) (mem_steps.mpr i);rw[a]at d;have b:nxt W (q,s)=(s,p):=kr rfl d;rw[b]at f;have l:nxt W (s,p)=(p,q):=kr rfl f
 have pk:per W (p,q)=3:=by
  refine per_is (by omega) ?_ λ j n o=>?_
  ·show nxt W (nxt W (nxt W (p,q)))=_
   rw[a,b,l]
  ·rcases(by omega:j=1\/j=2) with rfl | rfl
   ·show nxt W (p,q)≠_
    rw[a];exact λ z=>c (congrArg Av z).symm
   ·show nxt W (nxt W (p,q))≠_
    rw[a,b];exact λ z=>c (congrArg Aw z)
 unfold rnd;rw[pk,a];show[(p,q),nxt W (p,q),nxt W (nxt W (p,q))]=_;rw[a,b]
def nU(S:Nb W)(three:∀ t∈kN W,(nxt W (nxt W t)).2=t.1){x y:Nat}(h:E W x y):nf x y (nxt W (x,y)).2∈xP W:=by
 obtain⟨R,e,h1,J⟩:=kCC S;obtain⟨⟨p,q⟩,m,c⟩:=J (x,y) (mem_steps.mpr h);obtain⟨o,f⟩:=h1 _ m;have i:=mem_steps.mp o;have g:=kTR S three i;obtain⟨s,M,b,l⟩:=xK S i;have n:=three _ o;have u:=three (q,s) (mem_steps.mpr l);rw[b]at n;have d:nxt W (q,s)=(s,p):=kr rfl n;rw[d]at u;have v:nxt W (s,p)=(p,q):=kr rfl u;rw[b]at g
 have a:E W s p:=by
  obtain⟨N,_,r,B⟩:=xK S l;rw[d]at r;have:=congrArg Aw r;simp only at this;rw[this];exact B
 rw[g]at f c;have L:=leP_iff.mp (f (q,s) (by simp));have H:=leP_iff.mp (f (s,p) (by simp));have C:p≠q:=λ z=>(S.e i).2.2 z.symm;have G:s≠p:=λ z=>(S.e a).2.2 z.symm;simp only at L H;obtain⟨D,I,A⟩:=kKV (p:=p) (q:=q) (s:=s) (by omega) (by omega)
 have mem:[p,q,s]∈xP W:=by
  rw[e];exact ft.mpr ⟨(p,q),m,by rw[g];rfl⟩
 simp only[cn,fh,or_false,Prod.mk.injEq]at c;rcases c with⟨rfl,rfl⟩ | ⟨rfl,rfl⟩ | ⟨rfl,rfl⟩
 ·rw[b]
  exact D ▸ mem
 ·rw[d]
  exact I ▸ mem
 ·rw[v]
  exact A ▸ mem
theorem cX{α:Type}[DecidableEq α]:∀{L M:List α},L.Nodup->(∀ x∈L,x∈M)->M.length<=L.length->L.Perm M
 | [],M,_,_,h=>by
  rw[ow,Nat.le_zero]at h;rw[iu.mp h]
 | x::L,M,nd,sub,h=>by
  have c:=sub x (eW ..);have a:=dr.mp nd;refine .trans ?_ (List.perm_cons_erase c).symm;refine .cons x (cX a.2 (λ y b=>?_) ?_)
  ·exact(List.mem_erase_of_ne λ z:y=x=>a.1 (z ▸ b)).mpr (sub y (dc _ b))
  ·rw[List.length_erase_of_mem c]
   rw[eQ]at h;omega
def pf(F:List Nat)(v:Nat):List (List Nat):=(F.zip F.tail).map λ t=>nf t.1 t.2 v
def mkF(b:List Nat)(a:List (List Nat)):List (List Nat):=(df a.length).flatMap λ k=>pf (a.getD k []) (b.getD (k+2) 0)
def kAB(a:List Nat)(fs:List (List Nat))(st:List Nat):mkF a (fs++[st])=mkF a fs++pf st (a.getD (fs.length+2) 0):=by
 unfold mkF;rw[bg,iG,Au,xr,va]
 congr 1
 ·show((df fs.length).map _).flatten=((df fs.length).map _).flatten
  congr 1
  refine Ae λ k b=>?_;have:=fz.mp b;have q:(fs++[st]).getD k []=fs.getD k []:=by rw[ae,ae,bh this]
  rw[q]
 ·have q:(fs++[st]).getD fs.length []=st:=by rw[ae,fq];rfl
  rw[q]
structure LF(W:Rows)(ms:List Nat)(a b i:Nat)(fs ts:List (List Nat)):Prop where
 lf:fs.length=i
 lt:ts.length=i+1
 inF:∀ f∈mkF ms fs,f∈xP W/\∀ x∈f,x∈ms.take (i+2)
 nd:(mkF ms fs).Nodup
 cnt:(mkF ms fs).length+(ts.getLastD []).length=2+2*i
 top:∀(k:Nat)(T:List Nat),ts[k]?=some T->Top W (ms.take (k+2)) T/\T.head?=some a/\T.getLast?=some b/\ms.getD (k+1) 0∈T
 st:∀(k:Nat)(F T T':List Nat),fs[k]?=some F->ts[k]?=some T->ts[k+1]?=some T'->T'.length+F.length=T.length+3/\2<=F.length/\∀ x∈T',x∈T\/x=ms.getD (k+2) 0
def fE{F:List Nat}(h:F.Nodup):(F.zip F.tail).Nodup:=by
 refine iX.mpr λ i j a b c e=>?_;rw[yk]at a b;rw[Dx,Dx]at e;have:=(uk h).mp (congrArg Av e);omega
def aB{F:List Nat}{x y:Nat}(h:(x,y)∈F.zip F.tail):x∈F/\y∈F:=⟨(Ao h).1,vj (Ao h).2⟩
def kKH{F:List Nat}{v:Nat}(h:F.Nodup)(n:v∉F):(pf F v).Nodup:=by
 unfold pf;refine iY.mpr ((fE h).imp_of_mem λ{s t} c o b e=>b ?_);have a:∀{z},z∈F->z≠v:=λ i q=>n (q ▸ i);obtain⟨l,f⟩:=aB (show(s.1,s.2)∈_ from c);obtain⟨m,p⟩:=aB (show(t.1,t.2)∈_ from o);obtain⟨g,d⟩:=kQK (a l) (a f) (a m) (a p) e;exact kr g d
def kPX(F:List Nat)(v:Nat):(pf F v).length=F.length-1:=by
 unfold pf;rw[af,yk,List.length_tail];omega
def LF.of(S:Nb W)(three:∀ t∈kN W,(nxt W (nxt W t)).2=t.1){d:List Nat}{a b:Nat}(H:d.Nodup)(Y:d.take 2=[a,b])(a0:E W a b) :
  ∀{i:Nat}{fs Q:List (List Nat)},i+2<=d.length->goF W d i=some (fs,Q)->LF W d a b i fs Q:=by
 have h0:Top W (d.take 2) (d.take 2):=by rw[Y];exact kIT S a0
 intro i
 induction i with
 | zero =>
  intro fs Q hl h;unfold goF at h;have h:=bj h;injection h with h1 h2
  rw[<-h1,<-h2,Y]
  have U:d.getD 1 0=b:=by
   match d,Y with
   | x::y::r,e=>simp at e;exact e.2
  refine⟨rfl,rfl,(by intro f hf;simp[mkF]at hf),(by simp[mkF]),(by simp[mkF]),λ k T e=>?_,λ k F T T' e=>by simp at e⟩
  match k,e with
  | 0,e =>
   cases e
   refine⟨by rw[<-Y];exact h0,rfl,rfl,by rw[U];simp⟩
  | k+1,e=>simp at e
 | succ i ih =>
  intro fs Q hl h;obtain⟨f1,p,e⟩:=bB (i:=i) (j:=1) h;obtain⟨st,z,U,X⟩:=vR e h;have L:=ih (by omega) e;have TT:=fD H S.sym h0 (by omega) e;have T2:=fD H S.sym h0 (by omega) h;have np:d.getD (i+2) 0∉d.take (i+2):=vZ H (by omega) (by omega);obtain⟨_,_,_,ez⟩:=TT.step S.sym np z;obtain⟨B,f,M,l,C,s1,J,mem,nz⟩:=zW TT.nd z;have lf:=L.lf;have lt:=L.lt
  have tl:p[i]?=some (p.getLastD []):=by
   rw[iD,iN,show p.length-1=i by omega,aa (by omega)]
   rfl
  obtain⟨_,hd,o,_⟩:=L.top i _ tl
  have I:poF (p.getLastD []) st (d.getD (i+2) 0)=B++[f,d.getD (i+2) 0,l]++C:=by
   rw[s1];exact vY J TT.nd
  have g:Q.getLastD []=poF (p.getLastD []) st (d.getD (i+2) 0):=by
   rw[X];generalize poF (p.getLastD []) st (d.getD (i+2) 0)=Z;rw[iD,eU]
   rfl
  have snd:st.Nodup:=by
   have:=TT.nd;rw[J]at this;rw[s1];exact(az.mp (az.mp this).1).2.1
  have a1:d.getD (i+2) 0∉st:=λ q=>np ((mem _).mp q).1;have ga:d[i+2]?=some (d.getD (i+2) 0):=by rw[ae,aa (by omega)];rfl
  have tk:d.take (i+1+2)=d.take (i+2)++[d.getD (i+2) 0]:=by rw[jg,ga];rfl
  have lst:st.length=M.length+2:=by rw[s1];simp
  have lT:(p.getLastD []).length=B.length+(M.length+2)+C.length:=by rw[J];simp only[bg,eQ,ow]
  have lP:(B++[f,d.getD (i+2) 0,l]++C).length=B.length+3+C.length:=by simp only[bg,eQ,ow]
  have A:∀ F∈pf st (d.getD (i+2) 0),∃ x y,(x,y)∈st.zip st.tail/\F=nf x y (d.getD (i+2) 0):=λ F O=>by
   obtain⟨⟨x,y⟩,n,rfl⟩:=ft.mp O;exact⟨x,y,n,rfl⟩
  have mk:mkF d fs=mkF d f1++pf st (d.getD (i+2) 0):=by rw[U,kAB,lf]
  refine⟨by rw[U,bg,lf];rfl,by rw[X,bg,lt];rfl,?_,?_,?_,?_,?_⟩
  ·intro F O
   rw[mk]at O;rcases bp.mp O with m | m
   ·obtain⟨s,v⟩:=L.inF F m
    exact⟨s,λ x hx=>by rw[tk];exact cf _ (v x hx)⟩
   ·obtain⟨x,y,n,rfl⟩:=A F m
    have nv:(nxt W (x,y)).2=d.getD (i+2) 0:=nz _ n;refine⟨by rw[<-nv];exact nU S three (ez _ n),λ u hu=>?_⟩;rw[tk];rcases nf_mem.mp hu with rfl | rfl | rfl
    ·exact cf _ ((mem _).mp (aB n).1).1
    ·exact cf _ ((mem _).mp (aB n).2).1
    ·exact cm _ (dg.mpr rfl)
  ·rw[mk]
   refine az.mpr ⟨L.nd,kKH snd a1,λ F O G hG q=>?_⟩;subst q;obtain⟨x,y,n,rfl⟩:=A F hG;exact np ((L.inF _ O).2 _ (nf_mem.mpr (.inr (.inr rfl))))
  ·have:=L.cnt
   rw[mk,g,I,bg,kPX,lP];omega
  ·intro k T N
   rw[X]at N;rcases fw k p.length with c | c
   ·rw[bh c]at N
    exact L.top k T N
   ·have kk:k=i+1:=by
     have:=(ag.mp N).1;rw[bg,iG]at this;omega
    subst kk
    have:T=Q.getLastD []:=by
     rw[g];rw[bu c,show i+1-p.length=0 by omega]at N;exact(bj N).symm
    rw[this];refine⟨T2,?_,?_,?_⟩
    ·rw[g,I]
     rw[J]at hd
     cases B with
     | nil=>simpa using hd
     | cons x B=>simpa using hd
    ·rw[g,I]
     rw[J]at o;rw[eU]at o ⊢
     cases hC:C.getLast? with
     | none =>
      rw[hC,eU,eU]at o;rw[eU];simpa using o
     | some x =>
      rw[hC]at o;simpa using o
    ·rw[g,I]
     simp
  ·intro k F T T' s v D
   rw[U]at s;rw[X]at v D;rcases fw k i with c | c
   ·rw[bh (by omega)]at s v D
    exact L.st k F T T' s v D
   ·have kk:k=i:=by
     have:=(ag.mp s).1;rw[bg,iG]at this;omega
    subst kk;rw[bu (by omega),show k-f1.length=0 by omega]at s;rw[bh (by omega),tl]at v;rw[bu (by omega),show k+1-p.length=0 by omega]at D;have s:=bj s;have v:=bj v;have D:=bj D;rw[<-s,<-v,<-D];refine⟨by rw[I,lP,lst,lT];omega,by omega,λ x hx=>?_⟩;rw[I]at hx;rw[J];simp only[bp,cn,fh,or_false]at hx ⊢
    grind
def kFB{x y:Nat}(h:E W x y):y∈W.getD x []:=by
 obtain⟨row,e,m⟩:=h;rw[ae,e];exact m
def laid_made(S:Nb W)(three:∀ t∈kN W,(nxt W (nxt W t)).2=t.1)(cnt:(kN W).length+12=6*W.length){D:List Nat}{a b c:Nat}{Q s:List (List Nat)}(pm:D.Perm (df W.length))(l3:3<=W.length)(Z:E W a c)(hb:(nxt W (a,c)).2=b)(o:E W a b)(lf:aW W a b c D=some (Q,s)) :
  LF W D a b (W.length-2) Q s/\s.getLast?=some [a,c,b]/\s[0]?=some [a,b]/\(nf a c b::mkF D Q).Perm (xP W):=by
 have n:D.Nodup:=pm.nodup_iff.mpr me;have H:D.length=W.length:=by rw[pm.length_eq,eV]
 obtain⟨r,rfl,T,h⟩:=kHL (by omega) lf
 obtain⟨m,hm⟩ : ∃ m,r.length=m+1:=by
  cases r with
  | nil=>cases T
  | cons x r=>exact⟨r.length,rfl⟩
 have lW:W.length=m+3:=by rw[<-H,eQ,eQ,hm]
 rw[hm]at h;have X:=LF.of S three n rfl o (by rw[H];omega) h;obtain⟨f1,t1,e⟩:=bB (i:=m) (j:=1) h;obtain⟨st,z,e1,e3⟩:=vR e h;have L:=LF.of S three n rfl o (by rw[H];omega) e;have TT:=fD n S.sym (kIT S o) (by rw[H];omega) e
 have ec:(a::b::r).getD (m+2) 0=c:=by
  rw[iN,hm]at T;show r.getD m 0=c;rw[ae];rw[show m+1-1=m from rfl]at T;rw[T]
  rfl
 have U:(a::b::r).getD (m+2) 0∉(a::b::r).take (m+2):=vZ n (by omega) (by rw[H];omega);rw[ec]at U z e3;obtain⟨B,f,M,l,C,I,et,mem,nz⟩:=zW TT.nd z;obtain⟨A,r1,n1,J⟩:=xK S Z;rw[n1]at hb;have a0:A=b:=hb;subst a0;have ma:a∈st:=(mem a).mpr ⟨by simp,kFB (S.sym _ _ Z)⟩;have mb:A∈st:=(mem A).mpr ⟨by simp,kFB J⟩
 have tl:t1[m]?=some (t1.getLastD []):=by
  have:=L.lt;rw[iD,iN,show t1.length-1=m by omega,aa (by omega)]
  rfl
 obtain⟨_,hd,d,_⟩:=L.top m _ tl;have O:=TT.nd;rw[et]at hd d O;rw[I]at ma mb;have d1:=az.mp O;have d2:=az.mp d1.1
 have hB:B=[]:=by
  cases B with
  | nil=>rfl
  | cons x B =>
   have:x=a:=by simpa using hd
   exact absurd rfl (d2.2.2 x (eW ..) a ma |> λ q=>λ _=>q this)
 have hC:C=[]:=by
  cases hC:C.getLast? with
  | none=>exact BG.mp hC
  | some x =>
   rw[eU,hC]at d;have:x=A:=by simpa using d
   have hx:x∈C:=xa hC;exact absurd this.symm (d1.2.2 A (cm _ mb) x hx)
 subst hB;subst hC;have hf:f=a:=by simpa using hd
 have hl:l=A:=by
  rw[iM,mo,eU]at d;simpa using d
 subst hf;subst hl
 have g:s.getLast?=some [f,c,l]:=by
  rw[e3,eU,I,vY et TT.nd]
  rfl
 have p:s.getLastD []=[f,c,l]:=by rw[iD,g];rfl
 have t0:s[0]?=some [f,l]:=by
  have:∀{i:Nat}{fs Y:List (List Nat)},goF W (f::l::r) i=some (fs,Y)->Y[0]?=some [f,l]:=by
   intro i
   induction i with
   | zero =>
    intro fs Y q;unfold goF at q;have q:=bj q;injection q with q1 N
    rw[<-N]
    rfl
   | succ i ih =>
    intro fs Y q;obtain⟨f2,t2,N⟩:=bB (i:=i) (j:=1) q;obtain⟨a4,z2,q3,q4⟩:=vR N q;have:=(gQ N).2;rw[q4,bh (by omega)];exact ih N
  exact this h
 refine⟨by rw[show W.length-2=m+1 by omega];exact X,g,t0,?_⟩;have a2:f≠c:=λ q=>(S.e Z).2.2 q.symm;have a1:l≠c:=(S.e J).2.2;have mk:mkF (f::l::r) Q=mkF (f::l::r) f1++pf st c:=by rw[e1,kAB,L.lf,ec]
 have snd:st.Nodup:=by rw[I];exact d2.2.1
 have faces:W.length+(xP W).length=(tiesS W).length+2:=by
  have:=((three_cornered S).mpr ⟨three,cnt⟩).1;unfold facesS at this;rw[(yP _).length_eq]at this;exact this
 have a3:=sC S;refine cX (dr.mpr ⟨λ q=>?_,X.nd⟩) (λ F hF=>?_) ?_
 ·rw[mk]at q
  rcases bp.mp q with q | q
  ·exact U ((L.inF _ q).2 c (nf_mem.mpr (.inr (.inl rfl))))
  ·obtain⟨⟨x,y⟩,G,q⟩:=ft.mp q
   have q:nf x y c=nf f c l:=q;obtain⟨hx,hy⟩:=aB G;have nx:x≠c:=λ w=>U (w ▸ ((mem x).mp hx).1);have ny:y≠c:=λ w=>U (w ▸ ((mem y).mp hy).1)
   have:y=f:=by
    rcases gF x y c with u | u | u<;>rcases gF f c l with v | v | v<;>rw[u,v]at q<;>simp at q<;>omega
   have ht:=(Ao G).2;rw[I,this]at ht;rw[I]at snd;exact(dr.mp snd).1 ht
 ·rcases cn.mp hF with rfl | hF
  ·have:=nU S three Z
   rw[n1]at this;exact this
  ·exact(X.inF F hF).1
 ·have:=X.cnt
  rw[p]at this;simp only[eQ,ow]at this ⊢;omega
end
end Fc
namespace Tri
open Cyc Rnd
theorem kBD:∀{l:List Nat}{x:Nat},x∈l.tail->∃ y,Adj l y x
 | [],_,h=>by cases h
 | [_],_,h=>by cases h
 | a::b::r,x,h=>by
  rcases cn.mp h with rfl | h
  ·exact⟨a,.inl ⟨rfl,rfl⟩⟩
  ·obtain⟨y,c⟩:=kBD (l:=b::r) (x:=x) h
   exact⟨y,.inr c⟩
section
variable {W:Rows}
def kMJ(S:Nb W)(three:∀ t∈kN W,(nxt W (nxt W t)).2=t.1){x y:Nat}(h:E W x y):∃ z,nxt W (x,y)=(y,z)/\nxt W (y,z)=(z,x)/\nxt W (z,x)=(x,y)/\E W y z/\E W z x:=by
 obtain⟨z,l,c,a⟩:=xK S h;have f:=three _ (mem_steps.mpr h);have g:=three (y,z) (mem_steps.mpr a);rw[c]at f;have b:nxt W (y,z)=(z,x):=kr rfl f;rw[b]at g;obtain⟨q,_,d,i⟩:=xK S a;rw[b]at d;have:x=q:=congrArg Aw d;subst this;exact⟨z,c,b,kr rfl g,a,i⟩
end
end Tri
namespace Fc
open Cyc Rnd Tri
theorem kBE:∀{l:List Nat}{p q:Nat}(s:List Nat),Adj l p q->Adj (l++s) p q
 | [],_,_,_,h=>h.elim
 | [_],_,_,_,h=>h.elim
 | i::j::l,p,q,s,h=>by
  rcases h with h | h
  ·exact .inl h
  ·exact .inr (kBE (l:=j::l) s h)
def kMA{l:List Nat}{p q:Nat}(r:List Nat)(h:Adj l p q):Nx (l++r) p q:=by
 show Adj (l++r++_) p q;rw[de];exact kBE _ h
section
variable {W:Rows} {T off:List Nat} {a b:Nat}
def kTZ{T:List Nat}{i d:Nat}(b:2<=d)(h:i+d<T.length):∃ M,T=T.take i++(T.getD i 0::(T.getD (i+1) 0::M)++[T.getD (i+d) 0])++T.drop (i+d+1):=by
 refine⟨(T.drop (i+2)).take (d-2),?_⟩
 have g:∀ k,k<T.length->T.drop k=T.getD k 0::T.drop (k+1):=λ k a=>by
  rw[qj a,ae,aa a]
  rfl
 conv=>lhs;rw[<-gh i T,g i (by omega),g (i+1) (by omega),<-gh (d-2) (T.drop (i+1+1)),zg,show i+1+1+(d-2)=i+d by omega,g (i+d) h]
 simp
def Pel.loose(G:Good W)(h:Pel W a b T off)(H:3<=T.length):∃ i,0<i/\i+1<T.length/\∀ j,j<T.length->E W (T.getD i 0) (T.getD j 0)->j+1=i\/j=i+1:=by
 refine gm λ u=>?_;have S:=(Wb.of G).toNb;have f:∀ i,0<i->i+1<T.length->∃ j,j<T.length/\E W (T.getD i 0) (T.getD j 0)/\j+1≠i/\j≠i+1/\j≠i:=λ i h0 h1=>gm λ z=>u ⟨i,h0,h1,λ j g e=>gm λ y=>z ⟨j,g,e,λ q=>y (.inl q),λ q=>y (.inr q),λ q=>by subst q;exact(S.e e).2.2 rfl⟩⟩
 have B:∃ d,2<=d/\∃ i,i+d<T.length/\¬ (i=0/\i+d+1=T.length)/\E W (T.getD i 0) (T.getD (i+d) 0):=by
  obtain⟨j,g,e,r,x,p⟩:=f 1 (by omega) (by omega);exact⟨j-1,by omega,1,by omega,by omega,by rw[show 1+(j-1)=j by omega];exact e⟩
 obtain⟨d,⟨o,i,v,D,e⟩,s⟩:=kFC B;obtain⟨l,A,n,r,x,p⟩:=f (i+1) (by omega) (by omega);by_cases c:i<=l/\l<=i+d
 ·refine s (l-(i+1)) (by omega) ⟨by omega,i+1,by omega,by omega,?_⟩
  rw[show i+1+(l-(i+1))=l by omega];exact n
 ·obtain⟨M,C⟩:=kTZ o v
  refine kSY G h C e ?_ n;have m:T[l]?=some (T.getD l 0):=by rw[ae,aa A];rfl
  rcases fw l i with z | z
  ·refine cf _ (cu (i:=l) ?_)
   rw[ko z];exact m
  ·refine cm _ (cu (i:=l-(i+d+1)) ?_)
   rw[List.getElem?_drop,show i+d+1+(l-(i+d+1))=l by omega];exact m
def Pel.step(G:Good W)(h:Pel W a b T off){A D:List Nat}{u v w:Nat}(e:T=A++[u,v,w]++D)(lo:∀ z∈T,E W v z->z=u\/z=w) :
  ∃ mid row outs,W[v]?=some row/\Ro row ((u::mid++[w])++outs)/\(∀ x∈outs,x∈off)/\(∀ x∈u::mid++[w],x∉off)/\Pel W a b (A++(u::mid++[w])++D) (off++[v]):=by
 have S:=(Wb.of G).toNb;have a4:=h.nd;rw[e]at a4;have nT:∀ p q,Nx T p q↔(p=u/\q=v)\/(p=v/\q=w)\/Adj (w::(D++A)++[u]) p q:=λ p q=>by rw[e];exact kTT p q
 obtain⟨row,an,outs,er,ro,a5,a0,hh,ht⟩:=h.row u v w ((nT _ _).mpr (.inl ⟨rfl,rfl⟩)) ((nT _ _).mpr (.inr (.inl ⟨rfl,rfl⟩)))
 have uw:u≠w:=λ z=>by
  have:=(az.mp (az.mp a4).1).2.1;rw[z]at this;simp at this
 obtain⟨mid,rfl⟩ : ∃ mid,an=u::mid++[w]:=by
  obtain⟨I,rfl⟩:=uV hh;obtain⟨J,hJ⟩:=wN ht
  cases J with
  | nil =>
   injection hJ with h1 h2
   exact absurd h1 uw
  | cons j J =>
   injection hJ with h1 h2
   exact⟨J,by rw[h2];rfl⟩
 have al:((u::mid++[w])++outs).Nodup:=ro.nd.mp (S.nd _ _ er);have a6:=(az.mp al).1;have vT:v∈T:=by rw[e];simp
 have a8:∀ z∈u::mid++[w],E W v z:=λ z hz=>⟨row,er,(ro.mem z).mpr (cf _ hz)⟩
 have U:∀ z∈mid,z∉T:=λ z hz hT=>by
  have n1:=(az.mp a6).1;rcases lo z hT (a8 z (by simp[hz])) with rfl | rfl
  ·exact(dr.mp n1).1 hz
  ·exact(az.mp a6).2.2 z (by simp[hz]) z (by simp) rfl
 have vi:v∉u::mid++[w]:=λ z=>(S.e (a8 v z)).2.2 rfl;have q1:=az.mp a4;have q2:=az.mp q1.1
 have st:Str A mid D u w v:=by
  refine⟨?_,?_⟩
  ·rw[az]
   refine⟨?_,q1.2.1,λ x g y hy z=>?_⟩
   ·rw[az]
    refine⟨q2.1,a6,λ x g y hy z=>?_⟩;subst z;by_cases m:x∈mid
    ·exact U x m (by rw[e];simp[g])
    ·refine q2.2.2 x g x ?_ rfl
     simp at hy ⊢;rcases hy with rfl | z | rfl
     ·exact .inl rfl
     ·exact absurd z m
     ·exact .inr (.inr rfl)
   ·subst z
    rcases bp.mp g with m | m
    ·exact q1.2.2 x (cf _ m) x hy rfl
    ·by_cases c:x∈mid
     ·exact U x c (by rw[e];simp[hy])
     ·refine q1.2.2 x (cm _ ?_) x hy rfl
      simp at m ⊢;rcases m with rfl | z | rfl
      ·exact .inl rfl
      ·exact absurd z c
      ·exact .inr (.inr rfl)
  ·intro z
   rcases bp.mp z with z | z
   ·rcases bp.mp z with z | z
    ·exact q2.2.2 v z v (by simp) rfl
    ·exact vi z
   ·exact q1.2.2 v (by simp) v z rfl
 obtain⟨f1,f2,f3,f4,f5,f6,f7,f8⟩:=st.facts;have a9:=h.out v vT
 have r:∀{x:Nat},x∉off->x≠v->x∉off++[v]:=λ h1 h2 z=>by
  rcases bp.mp z with z | z
  ·exact h1 z
  ·exact h2 (dg.mp z)
 have rv:∀{p q:Nat},Adj (u::mid++[w]) p q->R W v p q:=λ{p q} j=>⟨row,er,(ro.nx p q).mpr (kMA outs j)⟩;refine⟨mid,row,outs,er,ro,a0,a5,st.nd,?_,?_,by simp;omega,λ x g=>?_,?_,λ x y g ab a7=>?_,λ p z n hp hn=>?_⟩
 ·have:=h.hd
  rw[e]at this
  cases A with
  | nil=>exact this
  | cons i A=>exact this
 ·have:=h.lt
  rw[e]at this;rcases qg D with rfl | ⟨D',d,rfl⟩
  ·rw[iM]at this ⊢
   rw[show A++[u,v,w]=(A++[u,v])++[w] by simp,iw]at this;rw[show A++(u::mid++[w])=(A++(u::mid))++[w] by simp,iw];exact this
  ·rw[uh,<-de,iw]at this ⊢
   exact this
 ·have xv:x≠v:=λ z=>st.fr (z ▸ g)
  refine r ?_ xv;by_cases m:x∈u::mid++[w]
  ·exact a5 x m
  ·refine h.out x ?_
   rw[e];simp at g m ⊢
   grind
 ·rw[az]
  exact⟨h.nof,by simp,λ x g y hy z=>a9 (by rw[<-dg.mp hy,<-z];exact g)⟩
 ·have xo:x∉off:=λ z=>g (cf _ z)
  have xv:x≠v:=λ z=>g (by rw[z];simp)
  have xT:x∉T:=λ z=>ab (by
   rw[e]at z;simp at z ⊢
   grind)
  refine r (h.inn x y xo xT a7) λ z=>ab ?_;subst z;obtain⟨r',ak,mr⟩:=S.sym _ _ a7;rw[er]at ak
  cases ak
  rcases bp.mp ((ro.mem x).mp mr) with m | m
  ·exact cf _ (cm _ m)
  ·exact absurd (a0 x m) xo
 ·rcases(nxO p z).mp hp with j1 | j1<;>rcases(nxO z n).mp hn with j2 | j2
  ·-- a place that comes to the row
   obtain⟨_,z2,_,z4⟩:=st.kk j1;obtain⟨_,_,z6,_⟩:=st.kk j2
   have zm:z∈mid:=by
    simp at z2;rcases z2 with q | q | q
    ·exact absurd q z4
    ·exact q
    ·exact absurd q z6
   have r1:=G.tri _ _ _ (G.tri _ _ _ (rv j1));have r2:=G.tri _ _ _ (rv j2);obtain⟨rz,N,x1⟩:=r1;obtain⟨ac,C,x2⟩:=r2;rw[N]at C
   cases C
   have s:=S.nd _ _ N;obtain⟨X,Y,rfl⟩:=uv (kT x1).1;have l:Ro (X++v::Y) ((Y++X)++[v]):=⟨X++[v],Y,by simp,by simp⟩;have O:Ro (X++v::Y) (v::(Y++X)):=⟨X,v::Y,by simp,by simp⟩;have Z:=l.nd.mp s;generalize Y++X=L at *;have pv:p≠v:=λ q=>vi (q ▸ (st.kk j1).1);refine⟨_,L,[v],N,l,λ x g=>?_,λ x g=>by rw[dg.mp g];simp,?_,?_⟩
   ·have zo:=h.inn z x (a5 z (by simp[zm])) (U z zm) ⟨_,N,(l.mem x).mpr (by simp[g])⟩
    refine r zo λ q=>?_;exact(az.mp Z).2.2 x g v (by simp) q
   ·cases L with
    | nil =>
     have:=kT ((O.nx v p).mp x1);simp at this;exact absurd this pv
    | cons p' L =>
     have:=jG s x1 ((O.nx v p').mpr (wK [] v p' L));rw[this]
     rfl
   ·rcases qg L with rfl | ⟨L',n',rfl⟩
    ·have:=kT ((O.nx v p).mp x1)
     simp at this;exact absurd this pv
    ·have:=yA s x2 ((l.nx n' v).mpr (by rw[uh,de];exact wK L' n' v []))
     rw[this,uh,iw]
  ·-- w
   have zw:z=w:=by
    obtain⟨_,z2,_,z4⟩:=st.kk j1;rcases(st.j j2).1 with q | q
    ·exact q
    ·obtain⟨a1,a2,a3⟩:=f4 z q
     simp at z2;rcases z2 with q | q | q
     ·exact absurd q a1
     ·exact absurd q a3
     ·exact q
   subst zw;obtain⟨rz,Q,f,N,l,B,o,H,M⟩:=h.row v z n ((nT _ _).mpr (.inr (.inl ⟨rfl,rfl⟩))) ((nT _ _).mpr (.inr (.inr j2)));have r1:=G.tri _ _ _ (G.tri _ _ _ (rv j1));obtain⟨ac,C,x1⟩:=r1;rw[N]at C
   cases C
   have s:=S.nd _ _ N;have Z:=l.nd.mp s
   have nv:n≠v:=λ q=>by
    rcases(st.j j2).2 with y | y
    ·exact f5 (by rw[<-y,q])
    ·exact f8 (q ▸ y)
   obtain⟨I,rfl⟩:=uV H
   cases I with
   | nil=>exact absurd (bj M).symm nv
   | cons p' I =>
    have pp:=jG s x1 ((l.nx v p').mpr (wK [] v p' (I++f)));refine⟨rz,p'::I,f++[v],N,?_,λ x g=>?_,λ x g=>?_,by rw[pp];rfl,?_⟩
    ·exact l.trans ⟨[v],p'::I++f,by simp,by simp⟩
    ·refine r (B x (dc _ g)) λ q=>?_
     have:=(az.mp Z).1;exact(dr.mp this).1 (q ▸ g)
    ·rcases bp.mp g with m | m
     ·exact cf _ (o x m)
     ·exact cm _ m
    ·rw[yu]at M
     exact M
  ·-- u
   have zu:z=u:=by
    obtain⟨z2,_,z4,_⟩:=st.kk j2;rcases(st.j j1).2 with q | q
    ·exact q
    ·obtain⟨a1,a2,a3⟩:=f4 z q
     simp at z2;rcases z2 with q | q | q
     ·exact q
     ·exact absurd q a3
     ·exact absurd q a2
   subst zu;obtain⟨rz,Q,f,N,l,B,o,H,M⟩:=h.row p z v ((nT _ _).mpr (.inr (.inr j1))) ((nT _ _).mpr (.inl ⟨rfl,rfl⟩));have r1:=G.tri _ _ _ (rv j2);obtain⟨ac,C,x1⟩:=r1;rw[N]at C
   cases C
   have s:=S.nd _ _ N;have Z:=l.nd.mp s
   have pv:p≠v:=λ q=>by
    rcases(st.j j1).1 with y | y
    ·exact f6 (by rw[<-y,q])
    ·exact f8 (q ▸ y)
   obtain⟨J,rfl⟩:=wN M;rcases qg J with rfl | ⟨J',n',rfl⟩
   ·exact absurd (bj H).symm pv
   ·rw[uh]at *
    have pp:=yA s x1 ((l.nx n' v).mpr (by rw[de,de];exact wK J' n' v f));refine⟨rz,J'++[n'],v::f,N,?_,λ x g=>?_,λ x g=>?_,?_,by rw[pp,iw]⟩
    ·have:J'++[n']++v::f=J'++[n']++[v]++f:=by simp
     rw[this];exact l
    ·refine r (B x (cf _ g)) λ q=>?_
     have:=(az.mp Z).1;exact(az.mp this).2.2 x g v (by simp) q
    ·rcases cn.mp g with m | m
     ·rw[m];simp
     ·exact cf _ (o x m)
    ·cases J' with
     | nil=>exact H
     | cons i J'=>exact H
  ·-- the others
   have zo:z∈D++A:=by
    rcases(st.j j1).2 with q | q
    ·rcases(st.j j2).1 with y | y
     ·exact absurd (q.symm.trans y) uw
     ·exact y
    ·exact q
   obtain⟨rz,Q,f,N,l,B,o,H,M⟩:=h.row p z n ((nT _ _).mpr (.inr (.inr j1))) ((nT _ _).mpr (.inr (.inr j2)));refine⟨rz,Q,f,N,l,λ x g=>r (B x g) λ q=>?_,λ x g=>cf _ (o x g),H,M⟩;subst q;have am:E W z x:=⟨rz,N,(l.mem x).mpr (cf _ g)⟩;obtain⟨a1,a2,a3⟩:=f4 z zo
   have zT:z∈T:=by
    rw[e];simp at zo ⊢
    grind
   rcases lo z zT (S.sym _ _ am) with y | y
   ·exact a1 y
   ·exact a2 y
end
section
variable {W:Rows} {a b c:Nat}
def kKA(S:Nb W){z n p:Nat}(h:R W z n p)(f:n≠p):∃ row ins,W[z]?=some row/\Ro row ins/\ins.head?=some p/\ins.getLast?=some n:=by
 obtain⟨row,d,x⟩:=h;have nd:=S.nd _ _ d;obtain⟨X,Y,rfl⟩:=uv (kT x).2;have b:Ro (X++p::Y) (p::(Y++X)):=⟨X,p::Y,rfl,by simp⟩;have a:Ro (X++p::Y) ((Y++X)++[p]):=⟨X++[p],Y,by simp,by simp⟩;refine⟨_,p::(Y++X),d,b,rfl,?_⟩;generalize Y++X=L at *;rcases qg L with rfl | ⟨g,c,rfl⟩
 ·have:=(kT ((b.nx n p).mp x)).1
  simp at this;exact absurd this f
 ·rw[uh]at *
  have:=yA nd x ((a.nx c p).mpr (by rw[de];exact wK g c p []));rw[this,<-gi,iw]
def base_ne(G:Good W)(h:R W c b a):a≠c/\b≠c/\a≠b:=by
 obtain⟨_,_,_,h1,f⟩:=yE G h;obtain⟨_,_,_,d,_⟩:=yE G (G.tri _ _ _ h);exact⟨f,h1,d⟩
def Pel.start(G:Good W)(h:R W c b a):Pel W a b [a,c,b] []:=by
 have S:=(Wb.of G).toNb;obtain⟨i,l,g⟩:=base_ne G h;have m:=G.tri _ _ _ h;have y:=G.tri _ _ _ m;refine⟨by simp;exact⟨⟨i,g⟩,l.symm⟩,rfl,rfl,by simp,by simp,by simp,λ _ _ _ _ _=>by simp,λ u v w o f=>?_⟩
 have key:∀{z n p:Nat},R W z n p->n≠p->∃ row d outs,W[z]?=some row/\Ro row (d++outs)/\(∀ x∈d,x∉([]:List Nat))/\(∀ x∈outs,x∈([]:List Nat))/\d.head?=some p/\d.getLast?=some n:=λ r B=>by
  obtain⟨row,d,q,s,C,A⟩:=kKA S r B;exact⟨row,d,[],q,by rw[iM];exact s,by simp,by simp,C,A⟩
 rw[nx3]at o f;rcases o with⟨rfl,rfl⟩ | ⟨rfl,rfl⟩ | ⟨rfl,rfl⟩
 ·rcases f with⟨z,_⟩ | ⟨_,rfl⟩ | ⟨z,_⟩
  ·exact absurd z.symm i
  ·exact key h g.symm
  ·exact absurd z.symm l
 ·rcases f with⟨z,_⟩ | ⟨z,_⟩ | ⟨_,rfl⟩
  ·exact absurd z.symm g
  ·exact absurd z l
  ·exact key m i
 ·rcases f with⟨_,rfl⟩ | ⟨z,_⟩ | ⟨z,_⟩
  ·exact key y l.symm
  ·exact absurd z i
  ·exact absurd z g
def Pel.stop(G:Good W){c:List Nat}(h:Pel W a b [a,b] c):∀ x,x<W.length->x∈c\/x=a\/x=b:=by
 have S:=(Wb.of G).toNb
 have nx:∀ p q,Nx [a,b] p q↔(p=a/\q=b)\/(p=b/\q=a):=λ p q=>by
  show Adj [a,b,a] p q↔_;simp only[Adj,or_false]
 have only:∀ y z,Nx [a,b] z y->Nx [a,b] y z->∀ x,E W y x->x∈c\/x=z:=λ y z h1 L x e=>by
  obtain⟨row,M,outs,A,v,J,f,H,o⟩:=h.row z y z h1 L;obtain⟨s,d,m⟩:=e;rw[A]at d
  cases d
  have nd:=(az.mp (v.nd.mp (S.nd _ _ A))).1;rcases bp.mp ((v.mem x).mp m) with q | q
  ·obtain⟨I,rfl⟩:=uV H
   rcases qg I with rfl | ⟨O,i,rfl⟩
   ·exact .inr (dg.mp q)
   ·rw[uh,<-gi,iw]at o
    rw[bj o]at nd;simp at nd
  ·exact .inl (f x q)
 have C:∀ x,E W a x->x∈c\/x=b:=only a b ((nx b a).mpr (.inr ⟨rfl,rfl⟩)) ((nx a b).mpr (.inl ⟨rfl,rfl⟩));have D:∀ x,E W b x->x∈c\/x=a:=only b a ((nx a b).mpr (.inl ⟨rfl,rfl⟩)) ((nx b a).mpr (.inr ⟨rfl,rfl⟩));intro x N;refine gm λ g=>?_;have B:a<W.length:=(S.e (h.path ((nx b a).mpr (.inr ⟨rfl,rfl⟩)))).1;have r:Reach W x a:=(Reach.symm S.sym (G.con x N)).trans (G.con a B)
 have key:∀ y,Reach W x y->y∉c/\y≠a/\y≠b:=λ y r=>by
  induction r with
  | here=>exact⟨λ z=>g (.inl z),λ z=>g (.inr (.inl z)),λ z=>g (.inr (.inr z))⟩
  | more _ e ih =>
   rename_i y z _
   obtain⟨l,n,u⟩:=ih;refine⟨h.inn y z l (by simp;exact⟨n,u⟩) e,λ q=>?_,λ q=>?_⟩
   ·subst q
    rcases C y (S.sym _ _ e) with q | q
    ·exact l q
    ·exact u q
   ·subst q
    rcases D y (S.sym _ _ e) with q | q
    ·exact l q
    ·exact n q
 exact(key a r).2.1 rfl
inductive Peels(W:Rows)(a b:Nat):List Nat->List Nat->List Nat->Prop
 | done {off:List Nat}:Pel W a b [a,b] off->Peels W a b [a,b] off []
 | step {A D mid off rest row outs:List Nat} {u v w:Nat}:Pel W a b (A++[u,v,w]++D) off->W[v]?=some row->Ro row ((u::mid++[w])++outs)->(∀ x∈outs,x∈off)->Peels W a b (A++(u::mid++[w])++D) (off++[v]) rest->Peels W a b (A++[u,v,w]++D) off (v::rest)
def Peels.pel{T c rest:List Nat}(h:Peels W a b T c rest):Pel W a b T c:=by
 cases h with
 | done h=>exact h
 | step h _ _ _ _=>exact h
def Peels.end_{T c rest:List Nat}(h:Peels W a b T c rest):Pel W a b [a,b] (c++rest):=by
 induction h with
 | done h=>rw[iM];exact h
 | step _ _ _ _ _ ih =>
  rw[de]at ih;exact ih
def Peels.sub{T c rest:List Nat}(h:Peels W a b T c rest):∀ x∈T,x=a\/x=b\/x∈rest:=by
 induction h with
 | done h =>
  intro x d;simp at d;rcases d with q | q
  ·exact .inl q
  ·exact .inr (.inl q)
 | step _ _ _ _ _ ih =>
  rename_i A D mid c rest row outs u v w _ _ _ _ _
  intro x d;by_cases q:x=v
  ·exact .inr (.inr (by rw[q];simp))
  ·rcases ih x (by simp at d ⊢;grind) with q | q | q
   ·exact .inl q
   ·exact .inr (.inl q)
   ·exact .inr (.inr (dc _ q))
def kET(G:Good W){A D c d rest row outs:List Nat}{u v w:Nat}(B:W[v]?=some row)(o:Ro row ((u::c++[w])++outs))(i:∀ x∈outs,x∈d)(m:Peels W a b (A++(u::c++[w])++D) (d++[v]) rest)(more:List Nat) :
  (a::b::(rest.reverse++v::more)).getD (rest.length+2) 0=v/\stF W (A++(u::c++[w])++D) ((a::b::(rest.reverse++v::more)).take (rest.length+2)) ((a::b::(rest.reverse++v::more)).getD (rest.length+2) 0)=some (u::c++[w]):=by
 have S:=(Wb.of G).toNb
 have L:(a::b::(rest.reverse++v::more)).take (rest.length+2)=a::b::rest.reverse:=by
  rw[show a::b::(rest.reverse++v::more)=(a::b::rest.reverse)++v::more by simp,yg (by simp)]
 have s:(a::b::(rest.reverse++v::more)).getD (rest.length+2) 0=v:=by
  rw[ae,show a::b::(rest.reverse++v::more)=(a::b::rest.reverse)++v::more by simp,bu (by simp)];simp
 have n:=m.end_;have O:=m.pel;have h:=n.out;have f:=n.nof;have C:a∉(d++[v])++rest:=h a (by simp);have H:b∉(d++[v])++rest:=h b (by simp)
 have I:a≠b:=by
  have:=n.nd;simpa using this
 have g:rest.Nodup:=(az.mp f).2.1;refine⟨s,?_⟩;rw[L,s];have M:W.getD v []=row:=by rw[ae,B];rfl
 refine kJH O.nd ?_ rfl (λ q l=>?_) (λ q=>?_) (λ t J=>?_)
 ·rw[dr,dr,cn,nj,nj]
  exact⟨λ z=>z.elim I λ q=>C (cm _ q),λ q=>H (cm _ q),(zh rest).nodup_iff.mpr g⟩
 ·rcases m.sub q l with y | y | y
  ·simp[y]
  ·simp[y]
  ·simp[y]
 ·rw[M]
  constructor
  ·intro l
   refine⟨?_,(o.mem q).mpr (cf _ l)⟩;rcases m.sub q (cf _ (cm _ l)) with y | y | y
   ·simp[y]
   ·simp[y]
   ·simp[y]
  ·rintro⟨h1,N⟩
   rcases bp.mp ((o.mem q).mp N) with y | y
   ·exact y
   ·have p:=i q y
    exfalso;simp only[cn,nj]at h1;rcases h1 with rfl | rfl | h1
    ·exact C (cf _ (cf _ p))
    ·exact H (cf _ (cf _ p))
    ·exact(az.mp f).2.2 q (cf _ p) q h1 rfl
 ·have j:=oP (show(t.1,t.2)∈_ from J)
  have r:R W v t.1 t.2:=⟨row,B,(o.nx _ _).mpr (kMA outs j)⟩;have:=pY S.nd (G.tri _ _ _ (G.tri _ _ _ r));rw[show t=(t.1,t.2) from rfl,this]
def Peels.go(G:Good W){T c rest:List Nat}(h:Peels W a b T c rest):∀ more,∃ fs ts,goF W (a::b::(rest.reverse++more)) rest.length=some (fs,ts)/\ts.getLastD []=T:=by
 have S:=(Wb.of G).toNb
 induction h with
 | done h=>exact λ more=>⟨[],[[a,b]],rfl,rfl⟩
 | step hp er ro hout hs ih =>
  rename_i A D mid c rest row outs u v w
  intro more;obtain⟨fs,ts,g,lt⟩:=ih (v::more);have d:(v::rest).reverse++more=rest.reverse++v::more:=by simp
  rw[d];obtain⟨f,z⟩:=kET G er ro hout hs more;rw[<-lt]at z;have i:=hs.pel;refine⟨_,_,rD g z,?_⟩;rw[gK,lt,f,vY rfl i.nd]
def Peels.laid(G:Good W){rest:List Nat}(h:Peels W a b [a,c,b] [] rest)(o:R W c b a) :
  (a::b::rest.reverse).Perm (df W.length)/\∃ Fs Ts,aW W a b c (a::b::rest.reverse)=some (Fs,Ts):=by
 have S:=(Wb.of G).toNb;have f:=h.end_;rw[mo]at f;have C:a∉rest:=f.out a (by simp);have J:b∉rest:=f.out b (by simp);obtain⟨L,M,r⟩:=base_ne G o;obtain⟨N,B,y,_,_⟩:=yE G o
 have d:∀{T n rest:List Nat},Peels W a b T n rest->∀ x∈rest,x<W.length:=λ h=>by
  induction h with
  | done=>intro x i;cases i
  | step _ er _ _ _ ih =>
   intro x i;rcases cn.mp i with rfl | q
   ·exact(ag.mp er).1
   ·exact ih x q
 have s:∃ p,rest=c::p:=by
  generalize l:[a,c,b]=T at h
  cases h with
  | done=>simp at l
  | step _ _ _ _ _ =>
   rename_i A D mid rest row outs u v w _ _ _ _ _
   have H:=congrArg iB l;simp at H;have hA:A=[]:=iu.mp (by omega);subst hA;simp at l;exact⟨rest,by rw[l.2.1]⟩
 obtain⟨p,m⟩:=s;refine⟨?_,?_⟩
 ·refine(ph ?_ me).mpr λ x=>?_
  ·rw[dr,dr,cn,nj,nj]
   exact⟨λ z=>z.elim r C,J,(zh rest).nodup_iff.mpr f.nof⟩
  ·rw[cn,cn,nj,fz]
   constructor
   ·rintro(rfl | rfl | q)
    ·exact y
    ·exact B
    ·exact d h x q
   ·intro i
    rcases f.stop G x i with q | q | q
    ·exact .inr (.inr q)
    ·exact .inl q
    ·exact .inr (.inl q)
 ·obtain⟨fs,I,g,_⟩:=h.go G []
  rw[iM]at g;refine⟨fs,I,?_⟩;unfold aW;rw[if_pos]
  ·rw[show(a::b::rest.reverse).length-2=rest.length by simp]
   exact g
  ·refine⟨rfl,rfl,?_⟩
   rw[m,wm,<-gi,<-gi,iw]
end
section
variable {W:Rows} {T off:List Nat} {a b:Nat}
def mem_getD{v z:Nat}:z∈W.getD v []↔E W v z:=by
 rw[ae];constructor
 ·intro h
  cases e:W[v]? with
  | none=>rw[e]at h;cases h
  | some row =>
   rw[e]at h;exact⟨row,e,h⟩
 ·rintro⟨row,e,m⟩
  rw[e];exact m
def cut3{i:Nat}(h0:0<i)(h1:i+1<T.length):T=T.take (i-1)++[T.getD (i-1) 0,T.getD i 0,T.getD (i+1) 0]++T.drop (i+2):=by
 have g:∀ k,k<T.length->T.drop k=T.getD k 0::T.drop (k+1):=λ k a=>by
  rw[qj a,ae,aa a]
  rfl
 conv=>lhs;rw[<-gh (i-1) T,g (i-1) (by omega),show i-1+1=i by omega,g i (by omega),g (i+1) (by omega)]
 simp
def getD_inj{T:List Nat}(nd:T.Nodup){i j:Nat}(hi:i<T.length)(a:j<T.length)(e:T.getD i 0=T.getD j 0):i=j:=by
 rw[ae,ae,aa hi,aa a]at e;exact(uk nd).mp e
def rot_of{row X:List Nat}{u:Nat}(nd:row.Nodup)(h:Ro row (u::X)):rot row u=u::X:=by
 obtain⟨A,B,rfl,e⟩:=h;unfold rot
 cases B with
 | nil =>
  rw[mo]at e;subst e;simp
 | cons b B =>
  injection e with e1 e2
  subst e1;have a:u∉A:=λ z=>(az.mp nd).2.2 u z u (by simp) rfl;rw[gO a,AR rfl,yg rfl,e2]
  rfl
def Pel.two_end(h:Pel W a b T off)(l:T.length=2):T=[a,b]:=by
 have h1:=h.hd;have c:=h.lt
 match T,l with
 | [x,y],_ =>
  cases h1
  cases c
  rfl
end
end Fc
namespace Tri
open Cyc Rnd
structure Hist(W:Rows)(ms:List Nat)(a b c:Nat)(Fs Ts:List (List Nat)):Prop where
 msn:ms.Nodup
 all:∀ p,p∈ms↔p<W.length
 lf:Fs.length+2=ms.length
 a0:ms.getD 0 0=a
 b1:ms.getD 1 0=b
 cl:ms.getD (Fs.length+1) 0=c
 pos:0<Fs.length
 first:Ts.getD 0 []=[a,b]
 last:Ts.getD Fs.length []=[a,c,b]
 ends:∀ k,k<=Fs.length->(Ts.getD k []).head?=some a/\(Ts.getD k []).getLast?=some b
 top:∀ k,k<=Fs.length->(Ts.getD k []).Nodup/\∀ x∈Ts.getD k [],x∈ms.take (k+2)
 cut:∀ k,k<Fs.length->∃ B f M l C,Fs.getD k []=f::M++[l]/\Ts.getD k []=B++(f::M++[l])++C/\Ts.getD (k+1) []=B++[f,ms.getD (k+2) 0,l]++C
 mem:∀ k,k<Fs.length->∀ q,q∈Fs.getD k []↔q∈ms.take (k+2)/\E W (ms.getD (k+2) 0) q
 adj:∀ k x y,k<Fs.length->Adj (Fs.getD k []) x y->R W y (ms.getD (k+2) 0) x
def rE{α:Type}{l r:List α}{k:Nat}{d:α}(h:k<l.length):(l++r).getD k d=l.getD k d:=by rw[ae,bh h,ae]
def kLL{α:Type}{l:List α}{x:α}{k:Nat}{d:α}(h:k=l.length):(l++[x]).getD k d=x:=by rw[ae,bu (by omega),h];simp
theorem kLK{W:Rows}{d:List Nat}:∀{i:Nat}{fs b:List (List Nat)},goF W d i=some (fs,b)->∀ k,k<i->stF W (b.getD k []) (d.take (k+2)) (d.getD (k+2) 0)=some (fs.getD k [])/\b.getD (k+1) []=poF (b.getD k []) (fs.getD k []) (d.getD (k+2) 0)
 | 0,_,_,_,k,hk=>absurd hk (AY k)
 | i+1,fs,b,h,k,hk=>by
  obtain⟨f,a,e⟩:=bB (i:=i) (j:=1) h;obtain⟨st,z,m,g⟩:=vR e h;obtain⟨p,o⟩:=gQ e;have l:a.getLastD []=a.getD i []:=by rw[iD,iN,ae,o];rfl
  rw[l]at z g;subst m;subst g;rcases fw k i with c | c
  ·have n:=kLK e k c
   rw[show(a++_).getD k []=a.getD k [] by rw[rE (by omega)],show(f++_).getD k []=f.getD k [] by rw[rE (by omega)],show(a++_).getD (k+1) []=a.getD (k+1) [] by rw[rE (by omega)]];exact n
  ·have:k=i:=by omega
   subst this;rw[show(a++_).getD k []=a.getD k [] by rw[rE (by omega)],show(f++[st]).getD k []=st by exact kLL (by omega)];refine⟨z,?_⟩;exact kLL (by omega)
def kSJ{W:Rows}{v z:Nat}:z∈W.getD v []↔E W v z:=Fc.mem_getD
theorem Hist.of{W:Rows}(G:Good W){m:List Nat}{a b c:Nat}{n s:List (List Nat)}(v:m.Perm (df W.length))(H:R W c b a)(o:aW W a b c m=some (n,s)):Hist W m a b c n s:=by
 have S:=(Wb.of G).toNb;obtain⟨three,cnt⟩:=xG G;obtain⟨n1,n2,n3⟩:=Fc.base_ne G H;have T:=G.tri _ _ _ H;have O:=G.tri _ _ _ T;have hE:E W a c:=(yD O).1;have I:E W a b:=(yD O).2;have J:(nxt W (a,c)).2=b:=gE S.nd H;have u:m.Nodup:=v.nodup_iff.mpr me;have lm:m.length=W.length:=by rw[v.length_eq,eV]
 have l3:=G.three;obtain⟨LL,last,first,_⟩:=Fc.laid_made S three cnt v l3 hE J I o;unfold aW at o
 split at o
 ·rename_i ee
  obtain⟨Q,U,N⟩:=ee;have go:=o;obtain⟨q1,q2⟩:=gQ go;have i:=kLK go;have Y:∀ k,k<=n.length->s[k]?=some (s.getD k []):=λ k d=>by rw[ae,aa (by omega)];rfl
  have h:=λ k d=>LL.top k _ (Y k d);refine⟨u,λ p=>by rw[v.mem_iff,fz],by omega,by rw[ae,Q];rfl,by rw[ae,U];rfl,?_,by omega,by rw[ae,first];rfl,?_,λ k d=>⟨(h k d).2.1,(h k d).2.2.1⟩,λ k d=>⟨(h k d).1.nd,(h k d).1.sub⟩,λ k d=>?_,λ k d q=>?_,λ k x y d ad=>?_⟩
  ·rw[iN]at N
   rw[show n.length+1=m.length-1 by omega,ae,N]
   rfl
  ·rw[iN]at last
   rw[show n.length=s.length-1 by omega,ae,last]
   rfl
  ·obtain⟨z,e⟩:=i k (by omega)
   obtain⟨B,f,M,l,C,D,g,_,_⟩:=zW (h k (by omega)).1.nd z;refine⟨B,f,M,l,C,D,g,?_⟩;rw[e,D];exact vY g (h k (by omega)).1.nd
  ·obtain⟨z,_⟩:=i k (by omega)
   obtain⟨B,f,M,l,C,D,g,mem,_⟩:=zW (h k (by omega)).1.nd z;rw[mem q,kSJ]
  ·obtain⟨z,_⟩:=i k (by omega)
   obtain⟨B,f,M,l,C,D,g,mem,nz⟩:=zW (h k (by omega)).1.nd z;obtain⟨_,_,_,ez⟩:=(h k (by omega)).1.step S.sym (vZ u (av _) (by omega)) z;have:=kGA ad;have A:=nz _ this;have L:=ez _ this;obtain⟨X,r,Z,_⟩:=xK S L;rw[Z]at A;have A:X=_:=A;rw[<-A];exact r
 ·cases o
def Ch(W:Rows)(p:Nat)(l:List Nat):Prop:=∀ x y,Adj l x y->R W p x y
def rN{W:Rows}{p x y:Nat}{A B:List Nat}(h1:Ch W p (A++[x]))(a:Ch W p (y::B))(r:R W p x y):Ch W p (A++[x]++y::B):=λ u v h=>by
 rw[de]at h;rcases(qQ A x (y::B) u v).mp h with h | h
 ·exact h1 u v h
 ·rcases(zL x y B u v).mp h with⟨rfl,rfl⟩ | h
  ·exact r
  ·exact a u v h
def rM{W:Rows}{p x:Nat}:Ch W p [x]:=λ _ _ h=>h.elim
def cut_adj{B M C:List Nat}{f l x y:Nat}:Adj (B++(f::M++[l])++C) x y↔Adj (B++[f]) x y\/Adj (f::M++[l]) x y\/Adj (l::C) x y:=by
 rw[show B++(f::M++[l])++C=B++f::(M++[l]++C) by simp,qQ B f (M++[l]++C),show f::(M++[l]++C)=(f::M)++l::C by simp,qQ (f::M) l C]
structure Side(W:Rows)(ms:List Nat)(Fs Ts:List (List Nat))(k i u w:Nat)(L Q:List Nat):Prop where
 l:Adj (Ts.getD i []) u (ms.getD (k+2) 0)
 r:Adj (Ts.getD i []) (ms.getD (k+2) 0) w
 cl:∃ X,Fs.getD k []++L=X++[w]
 cr:∃ X,Q++[(Fs.getD k []).headD 0]=u::X
 hl:Ch W (ms.getD (k+2) 0) (Fs.getD k []++L)
 hr:Ch W (ms.getD (k+2) 0) (Q++[(Fs.getD k []).headD 0])
 il:∀ z∈L,∃ j,k<j/\j<i/\z=ms.getD (j+2) 0/\(Fs.getD j []).headD 0=ms.getD (k+2) 0
 ir:∀ z∈Q,∃ j,k<j/\j<i/\z=ms.getD (j+2) 0/\(Fs.getD j []).getLastD 0=ms.getD (k+2) 0
section
variable {W:Rows} {ms:List Nat} {a b c:Nat} {Fs Ts:List (List Nat)}
def Hist.side0(G:Good W)(h:Hist W ms a b c Fs Ts){k:Nat}(g:k<Fs.length):∃ u w,Side W ms Fs Ts k (k+1) u w [] []:=by
 obtain⟨B,f,M,l,C,i,n,m⟩:=h.cut k g;refine⟨f,l,?_,?_,⟨f::M,by rw[i];simp⟩,⟨[],by rw[i];rfl⟩,λ x y ad=>?_,rM,λ z d=>(by cases d),λ z d=>(by cases d)⟩
 ·rw[m,show B++[f,ms.getD (k+2) 0,l]++C=B++(f::[ms.getD (k+2) 0]++[l])++C by simp]
  exact cut_adj.mpr (.inr (.inl (.inl ⟨rfl,rfl⟩)))
 ·rw[m,show B++[f,ms.getD (k+2) 0,l]++C=B++(f::[ms.getD (k+2) 0]++[l])++C by simp]
  exact cut_adj.mpr (.inr (.inl (.inr (.inl ⟨rfl,rfl⟩))))
 ·rw[iM]at ad
  exact G.tri _ _ _ (h.adj k x y g ad)
def kGO(G:Good W)(h:Hist W ms a b c Fs Ts){k i u w:Nat}{L Q:List Nat}(ki:k<i)(hi:i<Fs.length)(s:Side W ms Fs Ts k i u w L Q) :
  (∃ u w L Q,Side W ms Fs Ts k (i+1) u w L Q)\/(Adj (Fs.getD i []) u (ms.getD (k+2) 0)/\Adj (Fs.getD i []) (ms.getD (k+2) 0) w):=by
 obtain⟨B,f,M,l,C,J,e2,e3⟩:=h.cut i hi;obtain⟨nd,sub⟩:=h.top i (by omega);obtain⟨s1,s2,⟨X,U⟩,⟨Y,S⟩,s5,s6,s7,s8⟩:=s;have o:=h.adj i;generalize hp:ms.getD (k+2) 0=p at *;generalize hv:ms.getD (i+2) 0=v at *;generalize hT:Ts.getD i []=T at *;generalize d:Ts.getD (i+1) []=T' at *;generalize hF:Fs.getD i []=F at *;generalize g:Fs.getD k []=K at *;subst e2
 have new:∀{x y},(Adj (B++[f]) x y\/(x=f/\y=v)\/(x=v/\y=l)\/Adj (l::C) x y)->Adj T' x y:=λ{x y} q=>by
  rw[e3,show B++[f,v,l]++C=B++(f::[v]++[l])++C by simp];refine cut_adj.mpr ?_;rcases q with q | q | q | q
  ·exact .inl q
  ·exact .inr (.inl (.inl q))
  ·exact .inr (.inl (.inr (.inl q)))
  ·exact .inr (.inr q)
 have O:=az.mp nd;have d2:=az.mp O.1;have d3:=az.mp d2.2.1
 have bf:∀{z},z∈B++[f]->z∈f::M++[l]->z=f:=λ{z} Z N=>by
  rcases bp.mp Z with q | q
  ·exact absurd rfl (d2.2.2 z q z N)
  ·exact dg.mp q
 have lc:∀{z},z∈l::C->z∈f::M++[l]->z=l:=λ{z} Z N=>by
  rcases cn.mp Z with q | q
  ·exact q
  ·exact absurd rfl (O.2.2 z (cm _ N) z q)
 have bc:∀{z},z∈B++[f]->z∈l::C->False:=λ{z} Z N=>by
  rcases bp.mp Z with q | q
  ·rcases cn.mp N with r | r
   ·exact d2.2.2 z q z (by rw[r];simp) rfl
   ·exact O.2.2 z (cf _ q) z r rfl
  ·rcases cn.mp N with r | r
   ·exact d3.2.2 z (by rw[dg.mp q];simp) z (by rw[r];simp) rfl
   ·exact O.2.2 z (by rw[dg.mp q];simp) z r rfl
 have fM:f∉M++[l]:=by
  have:=d2.2.1;rw[gi,dr]at this;exact this.1
 have tl:∀{x y},Adj (B++[f]) x y->y∈B++[f]:=λ q=>vj (jC q).2;have I:∀{x y},Adj (l::C) x y->y∈C:=λ q=>(jC q).2;have D:∀{x y},Adj (f::M++[l]) x y->y∈M++[l]:=λ q=>(jC q).2;have n:∀ z∈L,∃ j,k<j/\j<i+1/\z=ms.getD (j+2) 0/\(Fs.getD j []).headD 0=p:=λ z H=>let ⟨j,a1,a2,a3⟩:=s7 z H;⟨j,a1,by omega,a3⟩;have m:∀ z∈Q,∃ j,k<j/\j<i+1/\z=ms.getD (j+2) 0/\(Fs.getD j []).getLastD 0=p:=λ z H=>let ⟨j,a1,a2,a3⟩:=s8 z H;⟨j,a1,by omega,a3⟩;rcases cut_adj.mp s1 with q | q | q
 ·rcases cut_adj.mp s2 with z | z | z
  ·exact .inl ⟨u,w,L,Q,by rw[d,hp];exact new (.inl q),by rw[d,hp];exact new (.inl z),by rw[g];exact⟨X,U⟩,by rw[g];exact⟨Y,S⟩,by rw[g,hp];exact s5,by rw[g,hp];exact s6,by rw[hp];exact n,by rw[hp];exact m⟩
  ·have pf:=bf (tl q) (jC z).1
   have rr:=G.tri _ _ _ (G.tri _ _ _ (o _ _ hi (by rw[J];exact z)));refine .inl ⟨u,v,L++[v],Q,by rw[d,hp];exact new (.inl q),by rw[d,hp];exact new (.inr (.inl ⟨pf,rfl⟩)),by rw[g];exact⟨K++L,by simp⟩,by rw[g];exact⟨Y,S⟩,?_,by rw[g,hp];exact s6,λ z H=>?_,by rw[hp];exact m⟩
   ·rw[g,hp,<-de,U]
    exact rN (by rw[<-U];exact s5) rM rr
   ·rcases bp.mp H with q | q
    ·rw[hp];exact n z q
    ·exact⟨i,ki,by omega,by rw[hv];exact dg.mp q,by rw[hF,J,hp,pf];rfl⟩
  ·exact(bc (tl q) (jC z).1).elim
 ·rcases cut_adj.mp s2 with z | z | z
  ·have:p=f:=bf (jC z).1 (dc _ (D q))
   exact(fM (this ▸ D q)).elim
  ·exact .inr ⟨by rw[J];exact q,by rw[J];exact z⟩
  ·have pl:p=l:=lc (jC z).1 (dc _ (D q))
   have rr:=o _ _ hi (by rw[J];exact q);refine .inl ⟨v,w,L,v::Q,by rw[d,hp];exact new (.inr (.inr (.inl ⟨rfl,pl⟩))),by rw[d,hp];exact new (.inr (.inr (.inr z))),by rw[g];exact⟨X,U⟩,by rw[g];exact⟨Q++[K.headD 0],rfl⟩,by rw[g,hp];exact s5,?_,by rw[hp];exact n,λ z H=>?_⟩
   ·rw[g,hp,gi,S]
    exact rN (A:=[]) rM (by rw[<-S];exact s6) rr
   ·rcases cn.mp H with q | q
    ·exact⟨i,ki,by omega,by rw[hv];exact q,by rw[hF,J,hp,pl,iD,eU];rfl⟩
    ·rw[hp];exact m z q
 ·rcases cut_adj.mp s2 with z | z | z
  ·exact(bc (jC z).1 (dc _ (I q))).elim
  ·have:p=l:=lc (dc _ (I q)) (jC z).1
   exact absurd rfl (O.2.2 l (by simp) l (this ▸ I q))
  ·exact .inl ⟨u,w,L,Q,by rw[d,hp];exact new (.inr (.inr (.inr q))),by rw[d,hp];exact new (.inr (.inr (.inr z))),by rw[g];exact⟨X,U⟩,by rw[g];exact⟨Y,S⟩,by rw[g,hp];exact s5,by rw[g,hp];exact s6,by rw[hp];exact n,by rw[hp];exact m⟩
theorem kJZ{Rl:Nat->Nat->Prop}(one:∀ x y z,Rl x y->Rl x z->y=z){f:Nat}:∀(X Y:List Nat)(g:Nat),(∀ x y,Adj (g::X++[f]) x y->Rl x y)->(∀ x y,Adj (g::Y++[f]) x y->Rl x y)->f∉X->f∉Y->X=Y
 | [],[],_,_,_,_,_=>rfl
 | [],y::Y,g,h1,h2,_,n2=>absurd (one g f y (h1 _ _ (.inl ⟨rfl,rfl⟩)) (h2 _ _ (.inl ⟨rfl,rfl⟩))) λ z=>n2 (by simp[z])
 | x::X,[],g,h1,h2,n1,_=>absurd (one g f x (h2 _ _ (.inl ⟨rfl,rfl⟩)) (h1 _ _ (.inl ⟨rfl,rfl⟩))) λ z=>n1 (by simp[z])
 | x::X,y::Y,g,h1,h2,n1,n2=>by
  have e:=one g x y (h1 _ _ (.inl ⟨rfl,rfl⟩)) (h2 _ _ (.inl ⟨rfl,rfl⟩));subst e;rw[kJZ one X Y x (λ a b q=>h1 a b (.inr q)) (λ a b q=>h2 a b (.inr q)) (λ z=>n1 (by simp[z])) λ z=>n2 (by simp[z])]
def kMS(G:Good W){p f:Nat}{Y:List Nat}(h:∀ x y,Adj (f::Y++[f]) x y->R W p x y)(n:f∉Y):∃ row,W[p]?=some row/\Ro row (f::Y):=by
 obtain⟨y,l⟩ : ∃ y,Adj (f::Y++[f]) f y:=by
  cases Y with
  | nil=>exact⟨f,.inl ⟨rfl,rfl⟩⟩
  | cons y Y=>exact⟨y,.inl ⟨rfl,rfl⟩⟩
 obtain⟨row,d,nx⟩:=h _ _ l;have nd:=G.nd _ _ d;obtain⟨A,B,e⟩:=zX (kT nx).1;have c:Ro row (f::(B++A)):=⟨A,f::B,e,by simp⟩
 have nf:f∉B++A:=by
  have:=c.nd.mp nd;exact(dr.mp this).1
 refine⟨row,d,?_⟩
 have:=kJZ (Rl:=λ x y=>Nx row x y) (λ x y z a b=>jG nd a b) (B++A) Y f (λ x y q=>(c.nx x y).mpr q) (λ x y q=>by
  obtain⟨m,g,i⟩:=h x y q;rw[d]at g
  cases g
  exact i) nf n
 rw[<-this];exact c
def Hist.ahead(h:Hist W ms a b c Fs Ts){k j z:Nat}(f:k<=j)(d:j<Fs.length)(m:z∈ms.take (k+2)):z≠ms.getD (j+2) 0:=λ e=>vZ h.msn (k:=k+2) (j:=j+2) (by omega) (by have:=h.lf;omega) (e ▸ m)
def Hist.inj(h:Hist W ms a b c Fs Ts){i j:Nat}(hi:i<ms.length)(d:j<ms.length)(e:ms.getD i 0=ms.getD j 0):i=j:=Fc.getD_inj h.msn hi d e
def kLC{F:List Nat}{u p w:Nat}(nd:F.Nodup)(h1:Adj F u p)(c:Adj F p w):p∈F.tail.dropLast:=by
 match F,h1,c with
 | x::y::r,h1,c =>
  have b:=(jC h1).2;show p∈(y::r).dropLast
  have d:p≠(y::r).getLast (by simp):=λ e=>by
   have g:(x::y::r).dropLast++[p]=x::y::r:=by
    rw[e];have:=gj (l:=x::y::r) (by simp);rw[DX (by simp)]at this;exact this
   have a:=nd;rw[<-g]at c a;have f:p∉(x::y::r).dropLast:=λ q=>(az.mp a).2.2 p q p (by simp) rfl;exact jH f c rfl
  have h:=gj (l:=y::r) (by simp);have b:p∈y::r:=b;rw[<-h]at b;rcases bp.mp b with q | q
  ·exact q
  ·exact absurd (dg.mp q) d
def Hist.cover(G:Good W)(h:Hist W ms a b c Fs Ts){k:Nat}(hk:k+1<Fs.length) :
  ∃ j row L Q,k<j/\j<Fs.length/\ms.getD (k+2) 0∈(Fs.getD j []).tail.dropLast/\W[ms.getD (k+2) 0]?=some row/\Ro row (Fs.getD k []++L++ms.getD (j+2) 0::Q) /\
   (∀ z∈L,∃ i,k<i/\i<Fs.length/\z=ms.getD (i+2) 0/\(Fs.getD i []).headD 0=ms.getD (k+2) 0)/\∀ z∈Q,∃ i,k<i/\i<Fs.length/\z=ms.getD (i+2) 0/\(Fs.getD i []).getLastD 0=ms.getD (k+2) 0:=by
 have lf:=h.lf
 have all:∀ d,k+1+d<=Fs.length->(∃ j u w L Q,k<j/\j<Fs.length/\Side W ms Fs Ts k j u w L Q/\Adj (Fs.getD j []) u (ms.getD (k+2) 0)/\Adj (Fs.getD j []) (ms.getD (k+2) 0) w)\/∃ u w L Q,Side W ms Fs Ts k (k+1+d) u w L Q:=by
  intro d
  induction d with
  | zero =>
   intro _;obtain⟨u,w,s⟩:=h.side0 G (k:=k) (by omega);exact .inr ⟨u,w,[],[],s⟩
  | succ d ih =>
   intro hd;rcases ih (by omega) with q | ⟨u,w,L,Q,s⟩
   ·exact .inl q
   ·rcases kGO G h (by omega) (by omega) s with q | ⟨I,H⟩
    ·exact .inr q
    ·exact .inl ⟨k+1+d,u,w,L,Q,by omega,by omega,s,I,H⟩
 rcases all (Fs.length-(k+1)) (by omega) with⟨j,u,w,L,Q,kj,o,s,I,H⟩ | ⟨u,w,L,Q,s⟩
 ·obtain⟨U,D,⟨X,hX⟩,⟨Y,T⟩,s5,s6,s7,s8⟩:=s
  obtain⟨B,f,M,l,C,m,e2,e3⟩:=h.cut k (by omega)
  have n:(Fs.getD k []).Nodup:=by
   have:=(h.top k (by omega)).1;rw[e2]at this;rw[m];exact(az.mp (az.mp this).1).2.1
  obtain⟨B',f',M',l',C',a1,a0,a2⟩:=h.cut j o
  have Z:(Fs.getD j []).Nodup:=by
   have:=(h.top j (by omega)).1;rw[a0]at this;rw[a1];exact(az.mp (az.mp this).1).2.1
  have r1:=h.adj j _ _ o I;have r2:=G.tri _ _ _ (G.tri _ _ _ (h.adj j _ _ o H));have S:f∈ms.take (k+2):=((h.mem k (by omega) f).mp (by rw[m];simp)).1;have hf:(Fs.getD k []).headD 0=f:=by rw[m];rfl
  rw[hf]at T s6
  have nf:f∉(M++[l])++(L++ms.getD (j+2) 0::Q):=λ z=>by
   rcases bp.mp z with z | z
   ·rw[m,gi,dr]at n
    exact n.1 z
   ·rcases bp.mp z with z | z
    ·obtain⟨i,v,J,e,_⟩:=s7 f z
     exact h.ahead (by omega) (by omega) S e
    ·rcases cn.mp z with e | z
     ·exact h.ahead (by omega) o S e
     ·obtain⟨i,v,J,e,_⟩:=s8 f z
      exact h.ahead (by omega) (by omega) S e
  have ch:Ch W (ms.getD (k+2) 0) (Fs.getD k []++L++(ms.getD (j+2) 0::(Q++[f]))):=by
   rw[hX];refine rN (by rw[<-hX];exact s5) ?_ r2;rw[T];exact rN (A:=[]) rM (by rw[<-T];exact s6) r1
  have eq:Fs.getD k []++L++ms.getD (j+2) 0::Q=f::((M++[l])++(L++ms.getD (j+2) 0::Q)):=by rw[m];simp
  obtain⟨row,er,ro⟩:=kMS G (p:=ms.getD (k+2) 0) (f:=f) (Y:=(M++[l])++(L++ms.getD (j+2) 0::Q)) (λ x y q=>ch x y (by
   rw[m];simpa using q)) nf
  refine⟨j,row,L,Q,kj,o,kLC Z I H,er,by rw[eq];exact ro,λ z N=>?_,λ z N=>?_⟩
  ·obtain⟨i,v,J,O⟩:=s7 z N
   exact⟨i,v,by omega,O⟩
  ·obtain⟨i,v,J,O⟩:=s8 z N
   exact⟨i,v,by omega,O⟩
 ·exfalso
  have U:=s.l;have D:=s.r;rw[show k+1+(Fs.length-(k+1))=Fs.length by omega,h.last]at U D;have g:=(h.top Fs.length (av _)).1;rw[h.last]at g;simp only[dr,cn,fh,not_or,or_false]at g
  have e:ms.getD (k+2) 0=c:=by
   rcases U with⟨_,q⟩ | ⟨_,q⟩ | q
   ·exact q
   ·rw[q]at D
    rcases D with⟨z,_⟩ | ⟨z,_⟩ | z
    ·exact absurd z.symm g.1.2
    ·exact absurd z.symm g.2.1
    ·exact z.elim
   ·exact q.elim
  rw[<-h.cl]at e;have:=h.inj (by omega) (by omega) e;omega
end
structure Wds(W:Rows)(a b c:Nat)(D:Rows):Prop where
 len:D.length=W.length
 base:∀ p,p=a\/p=b\/p=c->D.getD p []=[]
 row:∀ p,p<W.length->p≠a->p≠b->p≠c->∃ x y z A B C row,D.getD p []=[x,y,z]/\x≠y/\x≠z/\y≠z/\W[p]?=some row/\Ro row (x::A++y::B++z::C) /\
  (∀ q∈A,∃ u v,D.getD q []=[u,v,p])/\(∀ q∈B,∃ u v,D.getD q []=[p,u,v])/\∀ q∈C,∃ u v,D.getD q []=[u,p,v]
 tie:∀ p q,E W p q->((p=a\/p=b\/p=c)/\(q=a\/q=b\/q=c))\/(q∈D.getD p []↔p∉D.getD q [])
 lead:∀ q,q≠a->q≠b->q≠c->(E W a q->(D.getD q []).getD 0 0=a)/\(E W b q->(D.getD q []).getD 1 0=b)/\(E W c q->(D.getD q []).getD 2 0=c)
def unF(b:List Nat)(a:List (List Nat))(p:Nat):List Nat:=a.getD (b.idxOf p-2) []
def ovF(b:List Nat)(a:List (List Nat))(p:Nat):Nat:=b.getD ((a.findIdx λ F=>decide (p∈F.tail.dropLast))+2) 0
def wdF(n a b c:Nat)(f:List Nat)(d:List (List Nat)):Rows:=(df n).map λ p=>if p=a\/p=b\/p=c then[] else[(unF f d p).headD 0,(unF f d p).getLastD 0,ovF f d p]
section
variable {W:Rows} {ms:List Nat} {a b c:Nat} {Fs Ts:List (List Nat)}
def Hist.inF(h:Hist W ms a b c Fs Ts){k:Nat}(r:k<Fs.length):(Fs.getD k []).Nodup/\(∀ z∈Fs.getD k [],z∈Ts.getD k [])/\∃ f M l,Fs.getD k []=f::M++[l]/\(∀ z∈M,z∉Ts.getD (k+1) [])/\(∀ z∈Ts.getD (k+1) [],z∈Ts.getD k []\/z=ms.getD (k+2) 0)/\(a∈Fs.getD k []->f=a)/\(b∈Fs.getD k []->l=b):=by
 obtain⟨B,f,M,l,C,m,o,v⟩:=h.cut k r;obtain⟨nd,sub⟩:=h.top k (by omega);obtain⟨i,d⟩:=h.ends k (by omega);rw[o]at nd sub i d;have p:=az.mp nd;have n:=az.mp p.1;have u:=az.mp n.2.1;have s:=u.1;rw[dr]at s;refine⟨by rw[m];exact n.2.1,λ z g=>by rw[o];exact cf _ (cm _ (by rw[<-m];exact g)),f,M,l,m,λ z g q=>?_,λ z g=>?_,λ q=>?_,λ q=>?_⟩
 ·have y:z∈f::M++[l]:=by simp[g]
  rw[v]at q;rcases bp.mp q with q | q
  ·rcases bp.mp q with q | q
   ·exact n.2.2 z q z y rfl
   ·simp only[cn,fh,or_false]at q
    rcases q with q | q | q
    ·exact s.1 (q ▸ g)
    ·exact h.ahead (av k) r (sub z (by simp[g])) q
    ·exact u.2.2 z (dc _ g) l (by simp) q
  ·exact p.2.2 z (cm _ y) z q rfl
 ·rw[v]at g
  rw[o];simp only[bp,cn,fh,or_false]at g ⊢
  grind
 ·rw[m]at q
  cases B with
  | nil=>simpa using i
  | cons x B =>
   have:x=a:=by simpa using i
   exact absurd this.symm (λ z=>n.2.2 x (by simp) a q z.symm)
 ·rw[m]at q
  cases hC:C.getLast? with
  | none =>
   rw[BG.mp hC,iM,eU,eU]at d;simpa using d
  | some x =>
   rw[eU,hC]at d;have:x=b:=by simpa using d
   exact absurd this.symm (p.2.2 b (cm _ q) x (xa hC))
def yL{f l:Nat}{M:List Nat}:(f::M++[l]).tail.dropLast=M:=by simp
def Hist.gone(h:Hist W ms a b c Fs Ts){k:Nat}(i:k<Fs.length){z:Nat}(hz:z∈(Fs.getD k []).tail.dropLast):∀ d,k+1+d<=Fs.length->z∉Ts.getD (k+1+d) []:=by
 obtain⟨_,n,f,M,l,e,g,_⟩:=h.inF i;rw[e,yL]at hz;have m:z∈ms.take (k+2):=(h.top k (by omega)).2 z (n z (by rw[e];simp[hz]));intro d
 induction d with
 | zero=>exact λ _=>g z hz
 | succ d ih =>
  intro o q;obtain⟨_,_,_,_,_,_,_,sub,_⟩:=h.inF (k:=k+1+d) (by omega);rcases sub z q with q | q
  ·exact ih (by omega) q
  ·exact h.ahead (by omega) (by omega) m q
def Hist.once(h:Hist W ms a b c Fs Ts){j k:Nat}(d:j<Fs.length)(f:k<Fs.length){z:Nat}(i:z∈(Fs.getD j []).tail.dropLast)(g:z∈(Fs.getD k []).tail.dropLast):j=k:=by
 have lt:∀{j k:Nat},j<Fs.length->k<Fs.length->z∈(Fs.getD j []).tail.dropLast->z∈(Fs.getD k []).tail.dropLast->¬ j<k:=λ{j k} d f i g q=>by
  have:=h.gone d i (k-(j+1)) (by omega);rw[show j+1+(k-(j+1))=k by omega]at this;exact this ((h.inF f).2.1 z (vj (List.dropLast_subset _ g)))
 have h1:=lt d f i g;have l:=lt f d g i;omega
def Hist.un(h:Hist W ms a b c Fs Ts){k:Nat}(d:k<Fs.length):unF ms Fs (ms.getD (k+2) 0)=Fs.getD k []:=by
 have:=h.lf;unfold unF;have e:ms.getD (k+2) 0=ms[k+2]:=by rw[ae,aa (by omega)];rfl
 rw[e,h.msn.idxOf_getElem]
 rfl
def Hist.ov(h:Hist W ms a b c Fs Ts){j:Nat}(f:j<Fs.length){z:Nat}(hz:z∈(Fs.getD j []).tail.dropLast):ovF ms Fs z=ms.getD (j+2) 0:=by
 unfold ovF;have g:Fs.getD j []=Fs[j]:=by rw[ae,aa f];rfl
 have lt:(Fs.findIdx λ F=>decide (z∈F.tail.dropLast))<Fs.length:=List.findIdx_lt_length_of_exists ⟨Fs[j],fe f,by rw[<-g];simpa using hz⟩;have d:=List.findIdx_getElem (w:=lt)
 have:=h.once (z:=z) lt f (by
  rw[ae,aa lt];simpa using d) hz
 rw[this]
def Hist.place(h:Hist W ms a b c Fs Ts){p:Nat}(hp:p<W.length)(n:p≠a)(g:p≠b)(l:p≠c):∃ k,k+1<Fs.length/\p=ms.getD (k+2) 0:=by
 obtain⟨i,f,e⟩:=ue ((h.all p).mpr hp);have m:=h.lf;have d:ms.getD i 0=p:=by rw[ae,aa f];exact e
 have q:i≠0:=λ z=>n (by rw[<-d,z,h.a0]);have r:i≠1:=λ z=>g (by rw[<-d,z,h.b1]);have o:i≠Fs.length+1:=λ z=>l (by rw[<-d,z,h.cl]);exact⟨i-2,by omega,by rw[show i-2+2=i by omega,d]⟩
def Hist.inner(h:Hist W ms a b c Fs Ts){k:Nat}(f:k+1<Fs.length):ms.getD (k+2) 0<W.length/\ms.getD (k+2) 0≠a/\ms.getD (k+2) 0≠b/\ms.getD (k+2) 0≠c:=by
 have d:=h.lf;refine⟨(h.all _).mp ?_,λ e=>?_,λ e=>?_,λ e=>?_⟩
 ·rw[ae,aa (by omega)]
  exact fe _
 ·rw[<-h.a0]at e
  have:=h.inj (by omega) (by omega) e;omega
 ·rw[<-h.b1]at e
  have:=h.inj (by omega) (by omega) e;omega
 ·rw[<-h.cl]at e
  have:=h.inj (by omega) (by omega) e;omega
def fF{n p:Nat}(hp:p<n):(wdF n a b c ms Fs).getD p []=if p=a\/p=b\/p=c then[] else[(unF ms Fs p).headD 0,(unF ms Fs p).getLastD 0,ovF ms Fs p]:=by
 unfold wdF;rw[ae,ay,Ac hp]
 rfl
def Hist.outs(G:Good W)(h:Hist W ms a b c Fs Ts){k:Nat}(i:k+1<Fs.length):∃ j f M l,k<j/\j<Fs.length/\ms.getD (k+2) 0∈(Fs.getD j []).tail.dropLast/\Fs.getD k []=f::M++[l]/\(wdF W.length a b c ms Fs).getD (ms.getD (k+2) 0) []=[f,l,ms.getD (j+2) 0]:=by
 obtain⟨j,row,L,Q,m,g,d,_⟩:=h.cover G i;obtain⟨_,_,f,M,l,e,_⟩:=h.inF (k:=k) (by omega);obtain⟨q,n,p,o⟩:=h.inner i;refine⟨j,f,M,l,m,g,d,e,?_⟩;rw[fF q,if_neg (λ z=>z.elim n λ z=>z.elim p o),h.un (by omega),h.ov g d,e,iD,eU]
 rfl
def Hist.inM(h:Hist W ms a b c Fs Ts){k f l q:Nat}{M:List Nat}(y:k<Fs.length)(e:Fs.getD k []=f::M++[l])(m:q∈M):∃ i,i<k/\q=ms.getD (i+2) 0:=by
 obtain⟨nd,G,L,I,J,u,C,_,D,s⟩:=h.inF y;have n:q∈Fs.getD k []:=by rw[e];simp[m]
 have p:=u;rw[e]at p;obtain⟨g,A⟩:=uB p;injection g with g e5
 subst g A e5;have d:=nd;rw[e,gi,dr]at d;have v:q≠a:=λ z=>d.1 (by rw[D (z ▸ n),<-z];simp[m])
 have x:q≠b:=λ z=>by
  have:=s (z ▸ n);exact(az.mp d.2).2.2 q m l (by simp) (by rw[z,this])
 obtain⟨i,B,r⟩:=ue ((h.top k (by omega)).2 q (G q n));rw[eO]at B;rw[uy]at r;have o:ms.getD i 0=q:=by rw[ae,aa (by omega)];exact r
 have H:i≠0:=λ z=>v (by rw[<-o,z,h.a0]);have N:i≠1:=λ z=>x (by rw[<-o,z,h.b1]);exact⟨i-2,by omega,by rw[show i-2+2=i by omega,o]⟩
def Hist.lastF(G:Good W)(h:Hist W ms a b c Fs Ts)(n:R W c b a):∃ M,Fs.getD (Fs.length-1) []=a::M++[b]:=by
 have d:=h.pos;have q:=h.lf;obtain⟨nd,v,f,M,l,e,_,_,r,g⟩:=h.inF (k:=Fs.length-1) (by omega);have o:ms.getD (Fs.length-1+2) 0=c:=by rw[show Fs.length-1+2=Fs.length+1 by omega];exact h.cl
 have m:∀ i,i<2->ms.getD i 0∈ms.take (Fs.length-1+2):=λ i u=>wc.mpr ⟨i,by rw[yp,if_pos (by omega),ae,aa (by omega)];rfl⟩;have s:=r ((h.mem _ (by omega) a).mpr ⟨h.a0 ▸ m 0 (by omega),by rw[o];exact(yD n).2⟩);have p:=g ((h.mem _ (by omega) b).mpr ⟨h.b1 ▸ m 1 (by omega),by rw[o];exact(yD n).1⟩);exact⟨M,by rw[e,s,p]⟩
def Hist.tie1(G:Good W)(h:Hist W ms a b c Fs Ts)(Y:R W c b a){i j:Nat}(ij:i<j)(hj:j<ms.length)(eE:E W (ms.getD i 0) (ms.getD j 0)) :
  ((ms.getD i 0=a\/ms.getD i 0=b\/ms.getD i 0=c)/\(ms.getD j 0=a\/ms.getD j 0=b\/ms.getD j 0=c))\/(ms.getD j 0∈(wdF W.length a b c ms Fs).getD (ms.getD i 0) []↔ms.getD i 0∉(wdF W.length a b c ms Fs).getD (ms.getD j 0) []):=by
 have lf:=h.lf;have rng:∀ i,i<ms.length->ms.getD i 0<W.length:=λ i hi=>(h.all _).mp (by rw[ae,aa hi];exact fe _);by_cases j2:j<2
 ·exact .inl ⟨.inl (by rw[show i=0 by omega,h.a0]),.inr (.inl (by rw[show j=1 by omega,h.b1]))⟩
 obtain⟨k,rfl⟩ : ∃ k,j=k+2:=⟨j-2,by omega⟩;have v:k<Fs.length:=by omega
 obtain⟨nd,iT,f,M,l,e,_,_,ha,a1⟩:=h.inF v;have mt:ms.getD i 0∈ms.take (k+2):=wc.mpr ⟨i,by rw[yp,if_pos (by omega),ae,aa (by omega)];rfl⟩;have X:ms.getD i 0∈Fs.getD k []:=(h.mem k v _).mpr ⟨mt,(Wb.of G).sym _ _ eE⟩;have n:=nd;rw[e,gi,dr]at n;have nl:l∉M:=λ z=>(az.mp n.2).2.2 l z l (by simp) rfl;by_cases A:ms.getD i 0∈M
 ·obtain⟨m,y,O⟩:=h.inM v e A
  have Q:i=m+2:=h.inj (by omega) (by omega) O;subst Q;obtain⟨p,T,M2,U,Z,x,g,I,N⟩:=h.outs G (k:=m) (by omega);have jk:p=k:=h.once x v g (by rw[e,yL];exact A);subst jk;refine .inr ⟨λ _ q=>?_,λ _=>by rw[N];simp⟩;by_cases H:p+1<Fs.length
  ·obtain⟨j3,f3,M3,l3,L,J,r,C,o⟩:=h.outs G (k:=p) H
   rw[e]at C;obtain⟨d,s⟩:=uB C;injection d with d _
   rw[o]at q;simp only[cn,fh,or_false]at q;rcases q with q | q | q
   ·exact n.1 (by rw[d,<-q];exact cf _ A)
   ·exact nl (by rw[s,<-q];exact A)
   ·have:=h.inj (by omega) (by omega) q
    omega
  ·have ec:ms.getD (p+2) 0=c:=by rw[<-h.cl];congr 1;omega
   rw[fF (rng _ hj),if_pos (.inr (.inr ec))]at q;cases q
 ·have B:ms.getD i 0=f\/ms.getD i 0=l:=by
   rw[e]at X;simp only[gi,cn,bp,fh,or_false]at X
   grind
  by_cases H:k+1<Fs.length
  ·obtain⟨j3,f3,M3,l3,L,J,r,C,o⟩:=h.outs G (k:=k) H
   rw[e]at C;obtain⟨d,s⟩:=uB C;injection d with d _
   refine .inr ⟨λ q=>?_,λ q=>absurd (by rw[o,<-d,<-s];exact B.elim (λ z=>by rw[z];simp) λ z=>by rw[z];simp) q⟩;exfalso;by_cases D:ms.getD i 0=a\/ms.getD i 0=b\/ms.getD i 0=c
   ·rw[fF (rng _ (by omega)),if_pos D]at q
    cases q
   ·obtain⟨m,y,O⟩:=h.place (rng i (by omega)) (λ z=>D (.inl z)) (λ z=>D (.inr (.inl z))) (λ z=>D (.inr (.inr z)))
    have Q:i=m+2:=h.inj (by omega) (by omega) O;subst Q;obtain⟨p,T,M2,U,Z,x,g,I,N⟩:=h.outs G (k:=m) y;rw[N]at q;simp only[cn,fh,or_false]at q;have u:∀ z,z∈Fs.getD m []->ms.getD (k+2) 0≠z:=λ z hz q=>h.ahead (k:=m) (j:=k) (by omega) v ((h.mem m (by omega) z).mp hz).1 q.symm;rcases q with q | q | q
    ·exact u T (by rw[I];simp) q
    ·exact u U (by rw[I];simp) q
    ·have:k=p:=by have:=h.inj (by omega) (by omega) q;omega
     subst this;rw[e,yL]at g;exact A g
  ·obtain⟨M',S⟩:=h.lastF G Y
   have kk:k=Fs.length-1:=by omega
   subst kk;rw[e]at S;obtain⟨d,s⟩:=uB S;injection d with d _
   refine .inl ⟨?_,.inr (.inr (by rw[<-h.cl];congr 1;omega))⟩;rcases B with z | z
   ·exact .inl (z.trans d)
   ·exact .inr (.inl (z.trans s))
def Hist.woods(G:Good W)(h:Hist W ms a b c Fs Ts)(U:R W c b a):Wds W a b c (wdF W.length a b c ms Fs):=by
 have lf:=h.lf;have S:=(Wb.of G).toNb;have at0:∀ i,i<ms.length->ms.getD i 0∈ms:=λ i r=>by rw[ae,aa r];exact fe _
 have H:∀ p,p<W.length->∃ i,i<ms.length/\p=ms.getD i 0:=λ p hp=>by
  obtain⟨i,r,e⟩:=ue ((h.all p).mpr hp);exact⟨i,r,by rw[ae,aa r];exact e.symm⟩
 obtain⟨M0,N⟩:=h.lastF G U;refine⟨by simp[wdF],λ p hp=>?_,λ p hp pa pb pc=>?_,λ p q C=>?_,λ q qa qb qc=>?_⟩
 ·by_cases l:p<W.length
  ·rw[fF l,if_pos hp]
  ·rw[ae,ip (by simp[wdF];omega)]
   rfl
 ·obtain⟨k,I,rfl⟩:=h.place hp pa pb pc
  obtain⟨j,row,L,Q,kj,v,s,er,ro,hL,hQ⟩:=h.cover G I;obtain⟨j',f,M,l,a1,Y,A,e,eD⟩:=h.outs G I;have jj:=h.once v Y s A;subst jj;obtain⟨nd,_⟩:=h.inF (k:=k) (by omega);have B:∀ z,z∈Fs.getD k []->z≠ms.getD (j+2) 0:=λ z hz q=>h.ahead (k:=k) (j:=j) (by omega) v ((h.mem k (by omega) z).mp hz).1 q;rw[e]at nd;refine⟨f,l,_,M,L,Q,row,eD,?_,B f (by rw[e];simp),B l (by rw[e];simp),er,by rw[e]at ro;simpa using ro,λ q o=>?_,λ q o=>?_,λ q o=>?_⟩
  ·exact λ z=>by
    rw[gi,dr]at nd;exact nd.1 (by rw[z];simp)
  ·obtain⟨i,r,rfl⟩:=h.inM (by omega) e o
   obtain⟨j2,O,M2,T,D,u,n,J,d⟩:=h.outs G (k:=i) (by omega);have:j2=k:=h.once u (by omega) n (by rw[e,yL];exact o);subst this;exact⟨O,T,d⟩
  ·obtain⟨i,ki,r,rfl,g⟩:=hL q o
   by_cases X:i+1<Fs.length
   ·obtain⟨j2,O,M2,T,D,u,n,J,d⟩:=h.outs G (k:=i) X
    rw[J]at g;have g:O=_:=g;rw[g]at d;exact⟨_,_,d⟩
   ·rw[show i=Fs.length-1 by omega,N]at g
    exact absurd g.symm pa
  ·obtain⟨i,ki,r,rfl,g⟩:=hQ q o
   by_cases X:i+1<Fs.length
   ·obtain⟨j2,O,M2,T,D,u,n,J,d⟩:=h.outs G (k:=i) X
    rw[J,iD,eU]at g;have g:T=_:=g;rw[g]at d;exact⟨_,_,d⟩
   ·rw[show i=Fs.length-1 by omega,N,iD,eU]at g
    exact absurd (show b=_ from g).symm pb
 ·obtain⟨i,r,rfl⟩:=H p (S.e C).1
  obtain⟨j,v,rfl⟩:=H q (S.e C).2.1;rcases wj i j with z | z | z
  ·exact h.tie1 G U z v C
  ·exact absurd (by rw[z]) (S.e C).2.2
  ·rcases h.tie1 G U z r (S.sym _ _ C) with⟨q1,q2⟩ | q
   ·exact .inl ⟨q2,q1⟩
   ·exact .inr ⟨λ x y=>(q.mp y) x,λ x=>gm λ y=>x (q.mpr y)⟩
 ·by_cases o:q<W.length
  ·obtain⟨k,I,rfl⟩:=h.place o qa qb qc
   obtain⟨j,f,M,l,kj,v,s,e,eD⟩:=h.outs G I;obtain⟨nd,iT,f',M',l',e',_,_,ha,Z⟩:=h.inF (k:=k) (by omega);rw[e]at e';obtain⟨e4,e5⟩:=uB e';injection e4 with e4 _
   have m:∀ i,i<2->ms.getD i 0∈ms.take (k+2):=λ i r=>wc.mpr ⟨i,by rw[yp,if_pos (by omega),ae,aa (by omega)];rfl⟩;rw[eD];refine⟨λ z=>?_,λ z=>?_,λ z=>?_⟩
   ·exact e4.trans (ha ((h.mem k (by omega) a).mpr ⟨h.a0 ▸ m 0 (by omega),S.sym _ _ z⟩))
   ·exact e5.trans (Z ((h.mem k (by omega) b).mpr ⟨h.b1 ▸ m 1 (by omega),S.sym _ _ z⟩))
   ·have ec:ms.getD (Fs.length-1+2) 0=c:=by rw[show Fs.length-1+2=Fs.length+1 by omega];exact h.cl
    have mem:=(h.mem (Fs.length-1) (by omega) (ms.getD (k+2) 0)).mpr ⟨wc.mpr ⟨k+2,by rw[yp,if_pos (by omega),ae,aa (by omega)];rfl⟩,by rw[ec];exact z⟩;rw[N]at mem
    have mM:ms.getD (k+2) 0∈M0:=by
     simp only[gi,cn,bp,fh,or_false]at mem
     grind
    have:=h.once v (by omega) s (k:=Fs.length-1) (by rw[N,yL];exact mM);show ms.getD (j+2) 0=c;rw[this,ec]
  ·refine⟨λ z=>absurd (S.e z).2.1 o,λ z=>absurd (S.e z).2.1 o,λ z=>absurd (S.e z).2.1 o⟩
end
def wY(D:Rows)(p q:Nat):Nat:=if q∈D.getD p [] then[0,2,4].getD ((D.getD p []).idxOf q) 0 else[3,5,1].getD ((D.getD q []).idxOf p) 0
def cF{x y:Nat}{l:List Nat}(h:x≠y):(x::l).idxOf y=l.idxOf y+1:=by
 rw[EI,show(x == y)=false from beq_eq_false_iff_ne.mpr h]
 rfl
section
variable {W D:Rows} {a b c:Nat}
def Wds.three(h:Wds W a b c D){q:Nat}(f:q<W.length):(D.getD q []).Nodup/\(D.getD q []).length=if q=a\/q=b\/q=c then 0 else 3:=by
 by_cases d:q=a\/q=b\/q=c
 ·rw[h.base q d,if_pos d]
  exact⟨.nil,rfl⟩
 ·obtain⟨x,y,z,A,B,C,row,e,g,l,i,_⟩:=h.row q f (λ z=>d (.inl z)) (λ z=>d (.inr (.inl z))) (λ z=>d (.inr (.inr z)))
  rw[e,if_neg d];exact⟨by simp[g,l,i],rfl⟩
def Wds.le3(h:Wds W a b c D){q:Nat}(d:q<W.length):(D.getD q []).length<=3:=by
 rw[(h.three d).2]
 split<;>omega
def bY{f:Nat->Nat}{l:List Nat}{k:Nat}(h:∀ q∈l,f q=k):l.map f=dh l.length k:=by
 induction l with
 | nil=>rfl
 | cons x l ih=>rw[eo,eQ,om,h x (by simp),ih λ q a=>h q (by simp[a])]
def Wds.sorted(S:Nb W)(h:Wds W a b c D){p:Nat}(hp:p<W.length)(s:p≠a)(H:p≠b)(T:p≠c) :
  ∃ x y z row,D.getD p []=[x,y,z]/\W[p]?=some row/\x∈row/\y∈row/\z∈row/\((rot row x).map (wY D p)).Pairwise (·<=·)/\∀ q∈row,q∈D.getD p []\/p∈D.getD q []:=by
 obtain⟨x,y,z,A,B,C,row,e,G,M,o,n,I,hA,hB,hC⟩:=h.row p hp s H T;have nd:=S.nd _ _ n;have f:Ro row (x::(A++y::B++z::C)):=by simpa using I
 have nd2:=f.nd.mp nd;have N:=Fc.rot_of nd f;have inr:∀ q,q∈x::(A++y::B++z::C)->q<W.length:=λ q d=>(S.rng _ _ _ n ((f.mem q).mpr d)).1;have O:wY D p x=0:=by unfold wY;rw[e,if_pos (by simp)];simp
 have L:wY D p y=2:=by
  unfold wY;rw[e,if_pos (by simp),cF G,si]
  rfl
 have J:wY D p z=4:=by
  unfold wY;rw[e,if_pos (by simp),cF M,cF o,si]
  rfl
 have l:∀ q,q∈A\/q∈B\/q∈C->q∉D.getD p []:=λ q d m=>by
  rw[e]at m;simp only[cn,fh,or_false]at m;rw[dr,de,gi,az,dr,az,dr]at nd2;simp only[bp,cn]at nd2
  grind
 have U:∀ q∈A,wY D p q=1:=λ q d=>by
  obtain⟨u,v,g⟩:=hA q d;have i:=(h.three (inr q (by simp[d]))).1;unfold wY;rw[if_neg (l q (.inl d)),g];rw[g]at i;simp only[dr,cn,fh,or_false,not_or]at i;rw[cF i.1.2,cF i.2.1,si]
  rfl
 have Q:∀ q∈B,wY D p q=3:=λ q d=>by
  obtain⟨u,v,g⟩:=hB q d;unfold wY;rw[if_neg (l q (.inr (.inl d))),g,si]
  rfl
 have r:∀ q∈C,wY D p q=5:=λ q d=>by
  obtain⟨u,v,g⟩:=hC q d;have i:=(h.three (inr q (by simp[d]))).1;unfold wY;rw[if_neg (l q (.inr (.inr d))),g];rw[g]at i;simp only[dr,cn,fh,or_false,not_or]at i;rw[cF i.1.1,si]
  rfl
 refine⟨x,y,z,row,e,n,(f.mem x).mpr (by simp),(f.mem y).mpr (by simp),(f.mem z).mpr (by simp),?_,λ q d=>?_⟩
 ·rw[N,eo,dw,dw,eo,eo,bY U,bY Q,bY r,O,L,J]
  simp only[yo,di,List.pairwise_replicate,bp,cn,vc];refine⟨λ _ _=>fv _,⟨⟨.inr (av _),⟨?_,.inr (av _)⟩,?_⟩,⟨?_,.inr (av _)⟩,?_⟩⟩<;>grind
 ·have:=(f.mem q).mp d
  simp only[cn,bp]at this;rcases this with rfl | (m | rfl | m) | rfl | m
  ·left;rw[e];simp
  ·right;obtain⟨u,v,g⟩:=hA q m;rw[g];simp
  ·left;rw[e];simp
  ·right;obtain⟨u,v,g⟩:=hB q m;rw[g];simp
  ·left;rw[e];simp
  ·right;obtain⟨u,v,g⟩:=hC q m;rw[g];simp
end
end Tri
namespace L2
open PySem
def kOA(K:au)(n:Str)(xs:List Int):Prop:=∃(f:ar)(b:Option ar)(a:Array ai)(c:Nat)(osl:Array (Option ai)),gk K eR n=some (some (.ref f))/\K.lookup f=some ⟨.type "tuple",b,.seq a c,osl⟩/\a.toList.map kMC=xs.map λ x=>some (V.int x)
def cn_mk{K:au}{n:Str}{xs:List Int}{f:ar}{g:Option ar}{b:Array ai}{c:Nat}{d:Array (Option ai)}(a:gk K eR n=some (some (.ref f)))(l:K.lookup f=some ⟨.type "tuple",g,.seq b c,d⟩)(v:b.toList.map kMC=xs.map λ x=>some (V.int x)):kOA K n xs:=⟨f,g,b,c,d,a,l,v⟩
theorem sA:∀{l:List ai}{xs:List Int},l.map kMC=xs.map (λ x=>some (V.int x))->Vals (xs.map V.int) l
 | [],[],_=>.nil
 | u::l,x::xs,h=>by
  rw[eo,eo]at h;injection h with h1 h2
  refine .cons ?_ (sA h2)
  cases u<;>simp[kMC]at h1
  rename_i i t
  exact⟨t,by rw[h1]⟩
 | [],_::_,h=>by simp at h
 | _::_,[],h=>by simp at h
def kOW{K:au}{mg:Str->Option ai}{n:Str}{xs:List Int}(X:∃ h:iC,K.In h/\h.Ns eR mg)(h:kOA K n xs)(d:xs.length<=1000):∃ a,mg n=some (.ref a)/\∀ H,SqT K H a (xs.map V.int):=by
 obtain⟨hp,x,g⟩:=X;obtain⟨f,m,b,c,i,a,l,v⟩:=h;refine⟨f,Cq x g a,λ H=>.inr ⟨_,b,c,l,rfl,rfl,?_,sA v⟩⟩;have:=congrArg iB v;rw[af,af,eZ]at this;rw[this];exact gx d (by decide)
end L2
namespace Dcl
open PySem PySem.Spec PyProof.Rows L2
section
variable {prog:eN} {w:fu} {A:ed} {E:ai->ao->Prop} {s:ao}
def kNI:typeLookup (.type "list") (ng "keys")=pure none:=by rw[typeLookup_type,builtinLookup_eq_fast];kernel_rfl
def kNH{a:ar}{g:Array ai}{Q:Option ai->ao->Prop}(p:PlainL s.heap a g)(G:A.handled=none)(h:∀ h' tk,(∀ b o,s.heap.get? b=some o->h'.get? b=some o)->Q none {s with heap:=h',toks:=tk}) :
  eK (model prog w) A (getAttr? (.ref a) (ng "keys")) Q E s:=by
 obtain⟨o,n,e,c,B,C⟩:=p;have y:Ba {s with toks:=s.toks+1} (.ref a) "list":=⟨o,e,c⟩
 unfold getAttr? mkText;refine ah (ah (wpAny_fresh (cc ?_)));unfold getAttrBy?;refine ah (BV ?_);unfold getAttrBy;refine iL (ah (rj y ?_));refine ah (BN ua.lookup ?_);dsimp only;rw[if_neg (by decide)];unfold getAttrByItsOwn hookBefore;rw[if_neg (by decide)];refine ah (cc ?_);refine ah (BV (iL ?_));unfold callGetattribute;rw[if_neg (by decide)];unfold boundAndCalled;refine ah (BN (ua.bind _) ?_);show eK _ A (call (.builtin "list.__getattribute__") [.ref a,.str (ng "keys") s.toks]) _ _ _;obtain⟨I,J,H,m⟩:=o;simp only at c B C;subst c B C;obtain⟨i,f⟩ : ∃ i:EU->ao->Prop,i=λ r q=>∃ h' tk x,r=.error (.ref x)/\q={s with heap:=h',toks:=tk}/\s.heap.NewAttrErr h' x (.ref a) (ng "keys"):=⟨_,rfl⟩
 refine Cy (ur (AL (R:=i) ua.plain am_entry_list_getattribute (ua.check _ _ _ _ _ _ _ _ y (F.args_list_getattribute_2 _ _) ?_)) λ r q v=>?_)
 ·exact meets_getattribute_miss_list a g n m (ng "keys") s.toks kNI (by decide +kernel) (by decide +kernel) prog w A i {s with toks:=s.toks+1} ⟨e,G,λ h' tk x nx=>by rw[f];exact⟨h',tk,x,rfl,rfl,nx⟩⟩
 rw[f]at v;obtain⟨h',tk,x,rfl,rfl,nx⟩:=v;show eK _ A (getattributeRaised _ _ _ (.ref x) none false false) _ _ _;unfold getattributeRaised;obtain⟨keeps,new,t,u,d⟩:=nx;have D:Ba {s with heap:=h',toks:=tk} (.ref x) "AttributeError":=⟨_,d,rfl⟩
 have sub:isSubtype (.type "AttributeError") (.type "AttributeError")=pure true:=by rw[Ca];kernel_rfl
 refine ah (Bk D sub ?_);rw[if_pos rfl];unfold hookBehind;rw[if_neg (by decide)];refine ah (BN am_list_getattr_none ?_);unfold hookOrError attributeErrorLeaves;dsimp only;rw[if_pos (by decide)];refine ah (wpAny_throw ?_);refine ah (Bk D sub ?_);rw[if_pos rfl];exact cc (h h' tk keeps)
def gY:entryFor table "dict.update.loop" = some zd.«dict.update.loop»:=by first | kernel_rfl | rfl | decide +kernel
def wG:plainId "dict.update.loop" = true:=by decide +kernel
end
def jR(b:List (Key×V)):List (Key×V):=b.foldl (λ a p=>jY a p.1 p.2) []
def gW(a:List (Key×V))(p:Key×V):jR (a++[p])=jY (jR a) p.1 p.2:=by unfold jR;rw[BR];rfl
def kLM(b:List (Key×V)):(jR b).length<=b.length:=by
 have:∀(b a:List (Key×V)),(b.foldl (λ a p=>jY a p.1 p.2) a).length<=a.length+b.length:=by
  intro b
  induction b with
  | nil=>intro a;simp
  | cons p b ih =>
   intro a;have h1:=ih (jY a p.1 p.2);have c:=qR a p.1 p.2;simp only[ou,eQ];omega
 have:=this b [];simpa[jR] using this
section
variable {X:Cx} {pins:List (ar×Obj)} {σ:L2.St} {A:ed} {R:EU->ao->Prop}
def kIA(hh:A.handled=none){a D it:ar}{H:Hp}{y:List ar}{d:List (Key×V)}(hl:y.length=d.length)(J:H a=some (.lst (y.map V.ref)))(Q:∀(i:Nat)(q:ar)(p:Key×V),y[i]?=some q->d[i]?=some p->H q=some (.tup [kV p.1,p.2]))(T:H D=none)(a2:d.length<=1000)
  (fp:∀ kvs,yZ X pins (upd H D (.dK kvs)) it) :
  ∀(m i:Nat)(s:ao),i+m=d.length->L2.Inv X pins σ (upd H D (.dK (jR (d.take i)))) s->s.heap.IsListIter it a i->(∀ s',L2.Inv X pins σ (upd H D (.dK (jR d))) s'->R (.ok (.ret .none)) s') ->
   codeAny (model X.prog X.w) A (.builtin "dict.update.loop" ⟨[.ref D,.ref it,rawInt (i:Int),.none],[]⟩) R s:=by
 intro m
 induction m with
 | zero =>
  intro i s S I st k;have ei:i=d.length:=by omega
  subst ei;rw[iP]at I;refine vk gY ?_;rw[Cb wG];have h:a≠D:=kJ J T;obtain⟨M,Y,p,hz⟩:=I.list (SqL.of (by rw[kL h];exact J));have lr:=Y.length;rw[af]at lr;obtain⟨r,f1,f2,f3,f4,N⟩:=fp (jR d);unfold zd.«dict.update.loop» rawInt;dsimp only;refine ah (CJ (show A.in1.handled=none from hh) st p.isList (by simp;omega) λ h' eb=>?_);have B:L2.Inv X pins σ (upd H D (.dK (jR d))) {s with heap:=h'}:=I.turned (t':=s.toks) (λ b o L e=>eb b o L e) r f1 f3 f4 N
  dsimp only;unfold BY;refine ah (ah (m:=pure Ef) (cc (cc (cc ?_))));exact k _ B
 | succ m ih =>
  intro i s S I st k;refine vk gY ?_;rw[Cb wG];have h:a≠D:=kJ J T;obtain⟨M,Y,p,hz⟩:=I.list (SqL.of (by rw[kL h];exact J));have v:=aa (l:=y) (i:=i) (by omega);have ep:=aa (l:=d) (i:=i) (by omega);have g:=Q i _ _ v ep;generalize y[i]=q at *;generalize d[i]=f at *;obtain⟨u,hu,ru⟩:=Y.get (x:=V.ref q) (i:=i) (by rw[ay,v];rfl);cases ru
  obtain⟨r,f1,f2,f3,f4,N⟩:=fp (jR (d.take i));unfold zd.«dict.update.loop» rawInt;dsimp only;refine ah (Bn st p.isList (x:=.ref q) (by simpa using hu) λ h' a0 sb=>?_);have B:L2.Inv X pins σ (upd H D (.dK (jR (d.take i)))) {s with heap:=h'}:=I.turned (t':=s.toks) (λ b o L e=>(sb.2 b L).trans e) r f1 f3 f4 N
  dsimp only;have O:q≠D:=kJ g T;obtain⟨ts,rt,pt,a1⟩:=B.tuple (SqT.of (by rw[kL O];exact g));obtain⟨o,e,c,n,dd⟩:=pt;refine ah (iL (ah (wpAny_tryCatch ?_)));unfold Ff;refine ah (rj ⟨o,e,c⟩ ?_);rw[if_pos (by decide)];refine ah (CV e dd (cc ?_))
  cases rt with
  | cons r1 rr =>
  cases rr with
  | cons r2 r3 =>
  cases r3
  rename_i x1 x2
  show eK _ _ (holding [x1,x2] (dictSet D x1 x2)) _ _ _;refine iL ?_;obtain⟨z,hd,vs,G,dk⟩:=oE B.hok (kB (H:=H) (a:=D) (o:=.dK (jR (d.take i))));refine Ck (hsz:=by rw[<-G.length];exact z) (dB r1) dk λ h2 C hs=>?_
  have Z:(jY (jR (d.take i)) f.1 f.2).length<=sizeLine:=by
   have h1:=qR (jR (d.take i)) f.1 f.2;have h2:=kLM (d.take i);have h3:(d.take i).length<=1000:=by rw[eO];omega
   exact gx (show _<=1001 by omega) (by decide)
  have I2:=zK (t':=s.toks+1) B (by rw[kB];exact kb) hs (let ⟨q,_,_,Q,_⟩:=C;⟨q,Q⟩) (rK Z hd (G.put f.1 r2) C)
  have e2:upd (upd H D (.dK (jR (d.take i)))) D (.dK (jY (jR (d.take i)) f.1 f.2))=upd H D (.dK (jR (d.take (i+1)))):=by
   rw[jg,ep];show _=upd H D (.dK (jR (d.take i++[f])));rw[gW]
   funext b
   unfold upd
   split<;>rfl
  rw[e2]at I2;refine cc ⟨plainId_quiet wG _,?_⟩;have U:it≠D:=λ z=>by rw[z,kB]at r;cases r
  exact ih (i+1) _ (by omega) I2 (a0.at λ o e=>(hs.2 it U).trans e) k
def kHS(G:A.handled=none){E:ai->ao->Prop}{s:ao}{a D:ar}{H:Hp}{v:List ar}{g:List (Key×V)}(hl:v.length=g.length)(r:H a=some (.lst (v.map V.ref)))(T:∀(i:Nat)(q:ar)(p:Key×V),v[i]?=some q->g[i]?=some p->H q=some (.tup [kV p.1,p.2]))(C:H D=none)(x:g.length<=1000)
  (I:L2.Inv X pins σ (upd H D (.dK [])) s) (k:∀ s',L2.Inv X pins σ (upd H D (.dK (jR g))) s'->R (.ok (.ret .none)) s') :
  codeAny (model X.prog X.w) A (.call (.builtin "dict.__init__") ⟨[.ref D,.ref a],[]⟩) R s:=by
 have d:a≠D:=kJ r C;obtain⟨O,rv,p,hz⟩:=I.list (SqL.of (by rw[kL d];exact r));obtain⟨z,L,vs,a0,U⟩:=oE I.hok (kB (H:=H) (a:=D) (o:=.dK []));have y:s.TypeIs (.ref D) "dict":=U.typeIs;have S:s.TypeIs (.ref a) "list":=by obtain⟨o,n,e,c,_⟩:=p;exact⟨o,e,c⟩
 refine AL jv.init.plain F.entry_dict_init (jv.init.check _ _ _ _ _ _ _ _ y (F.args_dict_init_2 _ _) ?_);unfold zd.«dict.__init__»;refine ah ?_;unfold BX;refine ah (CN y ?_);refine cc (show eK _ _ (ug "dict.__init__" D (.ref a) [] .none) _ _ s from ?_);unfold ug;refine ah (rj S ?_);rw[if_pos (by decide)];refine ah (kNH p (show A.in1.handled=none from G) λ m B N=>?_);rw[if_pos (by decide)];refine ah (AB (ah ?_));have l:L2.Inv X pins σ (upd H D (.dK [])) {s with heap:=m,toks:=B}:=I.kept N
 obtain⟨J,M,Z,Y⟩:=l.list (SqL.of (by rw[kL d];exact r));refine BJ Z.isList ?_;have h:upd H D (.dK []) m.objs.size=none:=l.hok.fresh (av _);have u:m.objs.size≠D:=λ z=>by rw[z,kB]at h;cases h
 have Q:∀ f,yZ X pins (upd H D (.dK f)) m.objs.size:=λ f=>l.fpOk (av _) (by rw[kL u]at h ⊢;exact h);refine cc ⟨plainId_quiet wG _,?_⟩;exact kIA G hl r T C x Q g.length 0 _ (by omega) (l.kept (t':=B) λ b o e=>aj _ e) ⟨_,cx _ rfl,rfl,rfl⟩ k
inductive dL(xs:List V)(H:Hp)(Q:VK):Prop
 | mk:∀(a:ar)(qs:List ar)(ps:List (Key×V)),(xs=[.ref a])->(H a=some (.lst (qs.map V.ref)))->(qs.length=ps.length)->(∀(i:Nat)(q:ar)(p:Key×V),qs[i]?=some q->ps[i]?=some p->H q=some (.tup [kV p.1,p.2]))->(ps.length<=1000)->(∀ D,H D=none->Q (.ref D) (upd H D (.dK (jR ps))))->dL xs H Q
def kDI{s:ao}{H:Hp}{a:ar}{Hf:ar->Hp}{Q:VK}(I:L2.Inv X pins σ H s)
  (d:∀ s1,L2.Inv X pins σ (upd H s.heap.objs.size (.dK [])) s1->(∀ b o,s.heap.get? b=some o->s1.heap.get? b=some o)->codeAny (model X.prog X.w) X.A.in1 (.call (.builtin "dict.__init__") ⟨[.ref s.heap.objs.size,.ref a],[]⟩) (wants (λ r s₂=>r=.none/\L2.Inv X pins σ (Hf s.heap.objs.size) s₂) X.xe) s1)
  (q:∀ D,H D=none->Q (.ref D) (Hf D)):eK (model X.prog X.w) X.A (call (.type "dict") [.ref a]) (EP X pins σ Q) X.xe s:=by
 obtain⟨_,_,i⟩:=jv.mro;have L:=jv.made;have B:=jv.sub;refine Cy (CC ?_);refine cc ⟨BC _ (by decide +kernel),vk Dj ?_⟩;rw[DF (CO "dict" [.ref a] []) rfl];have C:=jv.notType;have G:=jv.canCreate;have u:=F.kt_typeCall_dict_1 (.ref a)
 repeat (any_goals (first | assumption | wp_step))
 refine ur (kt_code_dict_new (.ref a) (E:=X.xe) (Q₁:=λ v f=>v=.ref s.heap.objs.size/\f={s with heap:=s.heap.push {cls:=.type "dict",data:=.dict #[]}}) ⟨rfl,rfl⟩) λ r f g=>?_
 cases r with
 | error e=>exact g
 | ok fl =>
  cases fl with
  | next=>exact g.elim
  | brk=>exact g.elim
  | cont=>exact g.elim
  | ret v =>
   obtain⟨rfl,rfl⟩:=g;have p:(s.heap.push {cls:=.type "dict",data:=.dict #[]}).get? s.heap.objs.size=some {cls:=.type "dict",data:=.dict #[]}:=cx _ rfl;have y:Ba {s with heap:=s.heap.push {cls:=.type "dict",data:=.dict #[]}} (.ref s.heap.objs.size) "dict":=⟨_,p,rfl⟩
   have m:H s.heap.objs.size=none:=I.hok.fresh (av _);have n:L2.Inv X pins σ (upd H s.heap.objs.size (.dK [])) {s with heap:=s.heap.push {cls:=.type "dict",data:=.dict #[]}}:=I.laid (a:=s.heap.objs.size) (o:=.dK []) (t':=s.toks) (λ _ _ q=>aj _ q) (av _) (kAY s.heap I.big)
   have x:=jv.init.lookup;have J:=jv.init.bind (.ref s.heap.objs.size)
   repeat (any_goals (first | assumption | wp_step))
   refine ur (d _ n λ _ _ q=>aj _ q) λ h s₂ c=>?_
   cases h with
   | error e=>exact c
   | ok fl₂ =>
    cases fl₂ with
    | next=>exact c.elim
    | brk=>exact c.elim
    | cont=>exact c.elim
    | ret r =>
     obtain⟨rfl,l⟩:=c
     repeat (any_goals (first | assumption | wp_step))
     exact⟨.ref s.heap.objs.size,_,l,rfl,q _ m⟩
def call_dictL(f:X.calm=true):xR X (.type "dict") dL:=by
 intro c s v H B x Q I r h;obtain⟨a,u,n,rfl,o,m,d,b,q⟩:=h
 cases r with
 | cons r1 rr =>
 cases rr
 cases r1
 have l:X.A.handled=none:=I.ok.hd f;exact kDI (Hf:=λ D=>upd H D (.dK (jR n))) I (λ y g _=>kHS (E:=X.xe) (show X.A.in1.handled=none from l) m o d (I.hok.fresh (av _)) b g λ p i=>⟨rfl,i⟩) q
end
section
variable {prog:eN} {w:fu} {A:ed} {E:ai->ao->Prop} {s:ao}
end
section
variable {prog:eN} {w:fu} {A:ed} {E:ai->ao->Prop} {s:ao} {z TI TO i1 i2 T:ar} {fp1 fp2:List ar} {n1 n2 j:Nat} {P1 P2:Nat->ai->Prop} {S1 S2:Nat->iC->Prop} {f1:Bool}
end
section
variable {prog:eN} {w:fu} {A:ed} {E:ai->ao->Prop} {s:ao} {a b z TI TO i1 i2:ar} {j:Nat} {xs ys:Array ai}
end
section
variable {X:Cx} {pins:List (ar×Obj)} {σ:L2.St} {A:ed} {R:EU->ao->Prop}
end
section
variable {X:Cx}
end
end Dcl
namespace L2
open PySem PySem.Spec PyProof.Rows
section
variable {X:Cx} {tg:iA}
end
def gZ:entryFor table "dict_itemiterator.__iter__" = some zd.«dict_keyiterator.__iter__»:=by first | (rw[<-F.entry_dict_keyiterator_iter];rfl) | kernel_rfl | rfl | decide +kernel
section
variable {prog:eN} {w:fu} {A:ed} {E:ai->ao->Prop} {s:ao}
def mI{it d:ar}{i n ep:Nat}{ok ov:ai}{Q:ai->ao->Prop}(b:IsItemIter s.heap it d i n ep ok ov)(h:Q (.ref it) s):eK (model prog w) A (pyIter (.ref it)) Q E s:=by
 have a:s.TypeIs (.ref it) "dict_itemiterator":=⟨_,b,rfl⟩;refine wpAny_pyIter_slot a AM (ud AM a gZ ?_ (F.args_dict_itemiterator_iter_1 _));show eK _ _ (ret (.ref it)) _ _ s;exact cc ⟨_,rfl,"dict_itemiterator",_,a,F.slot_dict_itemiterator_next.lookup,h⟩
end
def kQS{P:eN}{w:fu}{k:Key}{u:ai}(h:(qC P w).is k u=true):RelV (kV k) u:=by
 rw[kCV]at h;rcases qS h with⟨i,t,rfl,rfl⟩ | ⟨x,t,rfl,rfl⟩
 ·exact⟨t,rfl⟩
 ·exact⟨t,rfl⟩
def Itm(d:ar)(o:Obj):It :=
 ⟨λ i H=>∃ a b,H d=some (.frz o (.dK a))/\a[i]?=some b,λ i H v c=>∃ T b,H T=none/\v=.ref T/\(∀ a,H d=some (.frz o (.dK a))->a[i]?=some b)/\c=upd H T (.tup [kV b.1,b.2]),λ i H=>∃ a,H d=some (.frz o (.dK a))/\a.length=i⟩
def kDB{P:eN}{w:fu}{H:Hp}{h:iC}{d:ar}{o:Obj}{c:Array Bf}{ep:Nat}{kvs:List (Key×V)}(ok:HOk P w H h)(e:H d=some (.frz o (.dK kvs)))(i:o.data=.dict c ep):∃ vs,KV kvs vs/\h.DictAt (qC P w) d vs ep/\vs.length=c.size:=by
 obtain⟨f,_,_,vs,b,n,m,l,g,x,a,k,p,nd⟩:=ok d _ e;rw[f]at g;cases g
 rw[i]at a;injection a with z1 z2
 subst z1;subst z2;exact⟨vs,b,⟨o,c,f,x,i,k,p,nd⟩,by rw[<-p.length];simp⟩
def KV.at'{kvs:List (Key×V)}{c:List (Key×ai)}(r:KV kvs c){i:Nat}{a:Key×V}{p:Key×ai}(h1:kvs[i]?=some a)(b:c[i]?=some p):a.1=p.1/\RelV a.2 p.2:=by
 induction r generalizing i with
 | nil=>simp at h1
 | cons h t ih =>
  cases i with
  | zero =>
   simp at h1 b;subst h1;subst b;exact h
  | succ i=>exact ih (by simpa using h1) (by simpa using b)
def kBK{P:eN}{w:fu}{K:au}{C:List iA} {x1} {Q:Pos} (d it:ar) (o:Obj) {es:Array Bf} {ep:Nat} (Z:o.data=.dict es ep):Turn P w K (.Tuple C x1 Q) (Itm d o) [it] it (λ i h=>∃ ok ov,IsItemIter h it d i es.size ep ok ov) where
 mem:=by simp
 obj:=λ i h st b c=>by
  obtain⟨ok,ov,a⟩:=st;rw[dg.mp c];exact⟨_,a,λ v z=>by cases z⟩
 keep:=λ i h h' st kk=>by
  obtain⟨ok,ov,a⟩:=st;exact⟨ok,ov,kk it (by simp) _ a⟩
 item:=by
  intro X O M S hc i B s σ H E I hf st N;subst O M S;obtain⟨ok,ov,a⟩:=st;obtain⟨n,L,D,hx⟩:=N;obtain⟨J,f,T,G⟩:=kDB I.hok D Z;have hi:i<n.length:=(ag.mp hx).1;obtain⟨⟨k',u⟩,hu⟩ : ∃ p,J[i]?=some p:=⟨J[i]'(by rw[<-f.length];exact hi),aa _⟩;have g:=f.at' hx hu;rw[<-G]at a;refine wpAny_pyNext_items_item a T hu λ key h' r ho hT hz hk=>?_;refine⟨_,rfl,wpAny_letOwnedTupleGo_items ho λ h2 Y m=>?_⟩;have A:it<s.heap.objs.size:=cq a;have U:h2.get? s.heap.objs.size=some {cls:=.type "tuple",data:=.seq #[key,u]}:=m.extBut _ _ (jo A) hT
  obtain⟨I2,n2⟩:=I.handed (x:=kV L.1) (y:=L.2) (u:=key) (v:=u) (t':=s.toks) (ch:=[it]) (by rw[g.1];exact kQS r) g.2 U (λ b o c q=>m.extBut b o (λ z=>c (by simp[z])) (hk b o (λ z=>c (by simp[z])) q)) hf
   (λ b c=>by rw[dg.mp c];exact A)
  refine⟨.ref s.heap.objs.size,_,I2,rfl,⟨_,L,I.hok.fresh (av _),rfl,λ ks l=>?_,rfl⟩,⟨_,_,by rw[<-G];exact Y⟩,n2⟩;rw[D]at l;cases l
  exact hx
 done:=by
  intro X O M S hc i B s σ H E I hf st N;subst O M S;obtain⟨ok,ov,a⟩:=st;obtain⟨n,D,hl⟩:=N;obtain⟨J,f,T,G⟩:=kDB I.hok D Z;rw[<-G]at a;refine wpAny_pyNext_items_end (I.ok.hd hc) a T (ip (by rw[<-f.length,hl];exact av _)) λ h' eb=>⟨rfl,I.turnedL (t':=s.toks) (ch:=[it]) (λ b o c q=>eb b o (λ z=>c (by simp[z])) q) λ b c=>hf b c⟩
 self:=λ _ _ _ _ _ st h=>by
  obtain⟨ok,ov,a⟩:=st;exact mI a h
section
variable {X:Cx}
inductive kFK(R:It->Hp->Prop)(x:V)(H1:Hp):Prop
 | mk:∀ d kvs,(x=.ref d)->(((H1 d=some (.dK kvs)/\∀ o,R (Itm d o) (upd H1 d (.frz o (.dK kvs))))\/∃ o,H1 d=some (.frz o (.dK kvs))/\R (Itm d o) H1))->kFK R x H1
def kQY(c:TE):TI:=λ b H R=>c b H λ x a=>kFK R x a
def kKG{o:iA}{T:TE}{f g B:Pos}{G:List iA} {x1} (ho:PE X o T)
  (m:attributeBase o "items" X.env (eval o X.env)=eval o X.env:=by rfl) (p:(f.endLine == g.line)=true:=by rfl):PI X (.Tuple G x1 B) (.Call (.Attribute o "items" f) [] [] g) (kQY T):=by
 intro l s Z H R I h;refine wpAny_Call_method0_late m p (thn (ho l s Z H _ I h) λ v c ⟨x,H1,N,r1,d,n,ex,q1⟩=>?_);subst ex;obtain rfl:v=iE d:=r1
 have fr:∃ a L,Inv X l Z L c/\L d=some (.frz a (.dK n))/\R (Itm d a) L:=by
  rcases q1 with⟨e,q⟩ | ⟨a,e,q⟩
  ·obtain⟨z,S,A,J,y⟩:=oE N.hok e
   obtain⟨a,es,M,h1,r⟩:=id y;exact⟨a,_,zK (t':=c.toks) (ob:=.frz a (.dK n)) N (by rw[e];exact kb) ⟨rfl,λ _ _=>rfl⟩ ⟨a,h1⟩ ⟨h1,z,S,A,J,y⟩,kB,q a⟩
  ·exact⟨a,H1,N,e,q⟩
 obtain⟨a,L,C,Y,hR⟩:=fr;obtain⟨h1,z,S,a2,a0,Q⟩:=C.hok d _ Y;obtain⟨a1,es,M,D,O,i,_⟩:=id Q;rw[h1]at D
 cases D
 obtain⟨A,J,y,lv⟩:=kDB C.hok Y i;have U:=y.dictOf.typeIs (s:=c);refine⟨"dict","dict.items",F.plainAttrs_dict,Dk,F.type_dict_items,U,λ b q=>?_,?_⟩
 ·cases q
  exact⟨a,h1,O.2.1⟩
 refine zc rfl (PySem.evalArgs_none (DU Dk U F.entry_dict_items (F.args_dict_items_1 _) (meets_dict_items (qC X.prog X.w) d S) ⟨⟨A,y.dictOf⟩,?_⟩));refine wpAny_pyIter_items (knd:=qC X.prog X.w) (v:=c.heap.objs.size) (d:=d) (kvs:=A) (ep:=M) ⟨_,cx _ rfl,rfl,rfl⟩ (y.push _) ?_;have hk:∀ b u,c.heap.get? b=some u->((c.heap.push {cls:=.type "dict_items",data:=.fields #[.ref d]}).push {cls:=.type "dict_itemiterator",data:=.fields #[.none,.bool false,.ref d,.int 0 0,.int A.length 0,.int M 0,.none,.none]}).get? b=some u:=λ b u e=>aj _ (aj _ e);have hz:(c.heap.push {cls:=.type "dict_items",data:=.fields #[.ref d]}).objs.size=c.heap.objs.size+1:=lj ..;refine⟨_,[(c.heap.push {cls:=.type "dict_items",data:=.fields #[.ref d]}).objs.size],_,_,L,rfl,C.kept (t':=c.toks) hk,kBK d _ a i,⟨.none,.none,?_⟩,λ b hb=>?_,hR⟩
 ·rw[<-lv]
  exact cx _ rfl
 ·rw[dg.mp hb,hz]
  exact C.fpOk (by omega) (C.hok.fresh (by omega))
end
def kHV{d:ar}{o:Obj}{kvs:List (Key×V)}{g:TG}{f:TS}{D:Ends}{a:St}{H:Hp}(Pv:Nat->St->Hp->Prop)(h0:Pv 0 a H)(r:∀ i a H,i<=kvs.length->Pv i a H->H d=some (.frz o (.dK kvs)))
  (l:∀ i kv T a H,kvs[i]?=some kv->H T=none->Pv i a H->g (.ref T) a (upd H T (.tup [kV kv.1,kv.2])) λ σ2 H2=>f {D with nx:=Pv (i+1),ct:=Pv (i+1),bk:=D.nx} σ2 H2) (v:∀ a H,Pv kvs.length a H->D.nx a H) :
  ∃ W:Nat->Nat->St->Hp->Prop,(∃ m,W 0 m a H)/\∀ i m a H,W i m a H ->
   ((Itm d o).stop i H/\D.nx a H)\/((Itm d o).go i H/\∃ N:St->Hp->Prop,(∀ σ' H',N σ' H'->∃ m',m'<m/\W (i+1) m' σ' H')/\∀ x H',(Itm d o).yld i H x H'->g x a H' λ σ2 H2=>f {D with nx:=N,ct:=N,bk:=D.nx} σ2 H2):=by
 refine⟨λ i m a H=>m=kvs.length-i/\i<=kvs.length/\Pv i a H,⟨kvs.length,by simp,fv _,h0⟩,?_⟩;rintro i m a H ⟨rfl,c,p⟩;have b:=r i a H c p;by_cases h:i<kvs.length
 ·refine .inr ⟨⟨kvs,kvs[i],b,by simp[h]⟩,Pv (i+1),λ σ' H' q=>⟨kvs.length-(i+1),by omega,rfl,by omega,q⟩,λ x H' u=>?_⟩
  obtain⟨T,kv,s,rfl,n,rfl⟩:=u;exact l i kv T a H (n kvs b) s p
 ·have:i=kvs.length:=by omega
  subst this;exact .inl ⟨⟨kvs,b,rfl⟩,v a H p⟩
end L2
namespace HT
open PySem PySem.Spec PyProof.Rows
open AutoSeq1 (wpAny_loadPart')
section
variable {prog:eN} {w:fu} {A:ed} {E:ai->ao->Prop} {s:ao}
end
end HT
namespace L2
open PySem PySem.Spec PyProof.Rows
section
variable {X:Cx}
end
section
variable {X:Cx} {tg iter kx vx tg2 iter2:iA} {ifs ifs2:List iA} {sc:uj} {pos:Pos} {Nc:List Str} {js:List (Option Nat)} {wi wi2:TI} {g g2:TG}
end
open PySem
section
variable {X:Cx}
def kMX{o:iA}{b:TE}(g:PE X o b):PE X o (λ σ H Q=>∃ P:V->Hp->Prop,b σ H P/\∀ x H1,P x H1->Q x H1):=λ a s σ H Q I ⟨P,h,m⟩=>thn (g a s σ H P I h) λ v i ⟨x,H1,d,c,f⟩=>⟨x,H1,d,c,m x H1 f⟩
end
end L2
namespace Fc
open Cyc Rnd Tri
section
variable {W:Rows} {a b c:Nat}
inductive PeelS(W:Rows)(a b:Nat):List Nat->List Nat->List Nat->List (List Nat)->Prop
 | done {off:List Nat}:Pel W a b [a,b] off->PeelS W a b [a,b] off [] []
 | step {A D mid off rest row outs:List Nat} {ss:List (List Nat)} {u v w:Nat}:Pel W a b (A++[u,v,w]++D) off->W[v]?=some row->Ro row ((u::mid++[w])++outs)->(∀ x∈outs,x∈off)->PeelS W a b (A++(u::mid++[w])++D) (off++[v]) rest ss->PeelS W a b (A++[u,v,w]++D) off (v::rest) ((u::mid++[w])::ss)
def PeelS.peels{T c rest:List Nat}{d:List (List Nat)}(h:PeelS W a b T c rest d):Peels W a b T c rest:=by
 induction h with
 | done h=>exact .done h
 | step h1 h2 h3 h4 _ ih=>exact .step h1 h2 h3 h4 ih
def PeelS.go(G:Good W){T c rest:List Nat}{d:List (List Nat)}(h:PeelS W a b T c rest d):∀ more,∃ ts,goF W (a::b::(rest.reverse++more)) rest.length=some (d.reverse,ts)/\ts.getLastD []=T:=by
 induction h with
 | done h=>exact λ more=>⟨[[a,b]],rfl,rfl⟩
 | step hp er ro hout hs ih =>
  rename_i A D mid c rest row outs d u v w
  intro more;obtain⟨ts,g,lt⟩:=ih (v::more);have f:(v::rest).reverse++more=rest.reverse++v::more:=by simp
  rw[f];obtain⟨i,z⟩:=kET G er ro hout hs.peels more;rw[<-lt]at z;rw[wm];refine⟨_,rD g z,?_⟩;rw[gK,lt,i,vY rfl hs.peels.pel.nd]
theorem PeelS.laid(G:Good W){rest:List Nat}{f:List (List Nat)}(h:PeelS W a b [a,c,b] [] rest f)(i:R W c b a) :
  (a::b::rest.reverse).Perm (df W.length)/\∃ Ts,aW W a b c (a::b::rest.reverse)=some (f.reverse,Ts):=by
 obtain⟨m,n,Ts,l⟩:=h.peels.laid G i;refine⟨m,Ts,?_⟩;obtain⟨o,g,_⟩:=h.go G [];rw[iM]at g;have d:=l;unfold aW at d
 split at d
 ·rw[show(a::b::rest.reverse).length-2=rest.length by simp,g]at d
  injection d with d
  injection d with l1 l2
  rw[l,l1]
 ·cases d
def PeelS.len{T c rest:List Nat}{d:List (List Nat)}(h:PeelS W a b T c rest d):d.length=rest.length:=by
 induction h with
 | done=>rfl
 | step _ _ _ _ _ ih=>rw[eQ,eQ,ih]
def okF(W:Rows)(T a:List Nat)(k:Nat):Bool:=(W.getD (T.getD (k+1) 0) []).all λ q=>decide (q∈a) || (decide (q∈[T.getD k 0,T.getD (k+2) 0]) || !decide (q∈T))
def okF_lo{T c:List Nat}(h:Pel W a b T c){k:Nat}(ok:okF W T c k=true):∀ z∈T,E W (T.getD (k+1) 0) z->z=T.getD k 0\/z=T.getD (k+2) 0:=λ z d e=>by
 have:=ni.mp ok z (mem_getD.mpr e);rw[decide_eq_false (h.out z d),decide_eq_true d]at this;simpa using this
def Pel.some_ok(G:Good W){T d:List Nat}(h:Pel W a b T d)(m:3<=T.length):∃ k,k+2<T.length/\okF W T d k=true:=by
 obtain⟨i,h0,h1,lo⟩:=h.loose G m;refine⟨i-1,by omega,ni.mpr λ q g=>?_⟩;rw[show i-1+1=i by omega]at g;rw[show i-1+2=i+1 by omega];by_cases c:q∈T
 ·obtain⟨j,l,e⟩:=ue c
  have f:T.getD j 0=q:=by rw[ae,aa l];exact e
  rcases lo j l (by rw[f];exact mem_getD.mp g) with z | z
  ·rw[<-f,show j=i-1 by omega]
   simp
  ·rw[<-f,z]
   simp
 ·simp[c]
def Pel.rng(S:Nb W){T c:List Nat}(h:Pel W a b T c):∀ x∈T,x<W.length:=λ x d=>by
 obtain⟨y,f⟩:=kBD (l:=T++T.head?.toList) (x:=x) (by
  cases T with
  | nil=>cases d
  | cons t r =>
   show x∈r++[t];rcases cn.mp d with rfl | q
   ·simp
   ·simp[q])
 exact(S.e (h.path f)).1
def Pel.more(G:Good W){T d:List Nat}(h:Pel W a b T d)(lo:d.length+2<W.length):3<=T.length:=by
 have two:=h.two;by_cases c:T.length=2
 ·have e:=h.two_end c
  rw[e]at h
  have:=eI (me (n:=W.length)) (l₂:=a::b::d) λ x f=>by
   rcases h.stop G x (fz.mp f) with q | q | q
   ·simp[q]
   ·simp[q]
   ·simp[q]
  rw[eV,eQ,eQ]at this;omega
 ·omega
def Pel.none_left(G:Good W){T d:List Nat}(h:Pel W a b T d)(lo:d.length+2=W.length)(sub:∀ x∈d,x<W.length):T=[a,b]:=by
 have two:=h.two;by_cases c:T.length=2
 ·exact h.two_end c
 ·exfalso
  have:=eI (l₁:=T++d) (az.mpr ⟨h.nd,h.nof,λ x f y g e=>h.out x f (e ▸ g)⟩) (l₂:=df W.length) λ x f=>fz.mpr (by
   rcases bp.mp f with q | q
   ·exact h.rng (Wb.of G).toNb x q
   ·exact sub x q)
  rw[bg,eV]at this;omega
def PeelS.turn(G:Good W){T c:List Nat}(h:Pel W a b T c){A D row:List Nat}{u v w:Nat}(e:T=A++[u,v,w]++D)(lo:∀ z∈T,E W v z->z=u\/z=w)(i:W[v]?=some row) :
  ∃ mid,(rot row u).filter (λ q=>decide (q∉c++[v]))=u::mid++[w]/\u∈row/\Pel W a b (A++(u::mid++[w])++D) (c++[v])/\∀ rest ss,PeelS W a b (A++(u::mid++[w])++D) (c++[v]) rest ss->PeelS W a b T c (v::rest) ((u::mid++[w])::ss):=by
 obtain⟨mid,n,outs,f,l,o,m,hp⟩:=h.step G e lo;rw[i]at f
 cases f
 have nd:=G.nd _ _ i;have g:Ro row (u::(mid++[w]++outs)):=by simpa using l
 have r:∀ x∈row,x≠v:=λ x d=>(G.rng _ _ _ i d).2;refine⟨mid,?_,(g.mem u).mpr (by simp),hp,λ rest ss q=>?_⟩
 ·rw[rot_of nd g,show u::(mid++[w]++outs)=(u::mid++[w])++outs by simp,wa]
  have y:(u::mid++[w]).filter (λ q=>decide (q∉c++[v]))=u::mid++[w]:=Cm.mpr λ x d=>by
   have:=m x d;have s:=r x ((l.mem x).mpr (cf _ d));simp[this,s]
  have p:outs.filter (λ q=>decide (q∉c++[v]))=[]:=zi.mpr λ x d=>by
   have:=o x d;simp[this]
  rw[y,p,iM]
 ·subst e
  exact .step h i l o q
end
end Fc
namespace Dcl
open PySem L2
def kn(n:Nat):Key:=.inl (n:Int)
def kn_inj{a b:Nat}(h:kn a=kn b):a=b:=by
 have h:(qw (a:Int):Key)=.inl (b:Int):=h;injection h with h
 omega
section
variable {ps:List (Key×V)}
def val_mem(nd:(ps.map (·.1)).Nodup){k:Key}{v:V}(m:(k,v)∈ps):qU ps k=some v:=by
 induction ps with
 | nil=>cases m
 | cons p r ih =>
  rw[eo,dr]at nd;by_cases e:p.1=k
  ·rw[qT e]
   rcases cn.mp m with z | z
   ·rw[<-z]
   ·exact absurd (ft.mpr ⟨_,z,rfl⟩) (e ▸ nd.1)
  ·rw[qL e]
   rcases cn.mp m with z | z
   ·exact absurd (by rw[<-z]) e
   ·exact ih nd.2 z
def val_none{k:Key}(h:k∉ps.map (·.1)):qU ps k=none:=by
 induction ps with
 | nil=>rfl
 | cons p r ih =>
  rw[eo,cn,not_or]at h;rw[qL (λ z=>h.1 z.symm)];exact ih h.2
def foldP_nd(nd:(ps.map (·.1)).Nodup):jR ps=ps:=by
 have:∀ n,n<=ps.length->jR (ps.take n)=ps.take n:=by
  intro n
  induction n with
  | zero=>intro _;rfl
  | succ n ih =>
   intro h;have e:=aa (l:=ps) (i:=n) (by omega);rw[jg,e];show jR (ps.take n++[ps[n]])=ps.take n++[ps[n]];rw[gW,ih (by omega)];refine tP _ (val_none λ m=>?_);rw[BE]at m;obtain⟨i,d,c⟩:=ue m;rw[eO,af]at d;rw[uy,AE]at c;have a:i<(ps.map (·.1)).length:=by rw[af];omega
   have b:n<(ps.map (·.1)).length:=by rw[af];omega
   have:=(uk (h₀:=a) (h₁:=b) nd).mp (by rw[AE,AE];exact c);omega
 have:=this ps.length (av _);rwa[iP]at this
def val_drop{k j:Key}:qU (xQ ps k) j=if j=k then none else qU ps j:=by
 by_cases e:j=k
 ·rw[if_pos e]
  refine val_none λ m=>?_;obtain⟨p,hp,rfl⟩:=ft.mp m;have:=(gn.mp hp).2;simp[e]at this
 ·rw[if_neg e]
  induction ps with
  | nil=>rfl
  | cons p r ih =>
   by_cases c:p.1=k
   ·have:xQ (p::r) k=xQ r k:=by unfold xQ;rw[yv (by simp[c])]
    rw[this,ih,qL (λ z=>e (z.symm.trans c))]
   ·have:xQ (p::r) k=p::xQ r k:=by unfold xQ;rw[yw (by simp[c])]
    rw[this];by_cases d:p.1=j
    ·rw[qT d,qT d]
    ·rw[qL d,qL d,ih]
def drop_len(k:Key):(xQ ps k).length<=ps.length:=ie _ _
end
end Dcl
namespace Tri
open Cyc Rnd
inductive Way(D:Rows)(k x:Nat):Nat->List Nat->Prop
 | stop:Way D k x x [x]
 | step {u v:Nat} {path:List Nat}:u≠x->(D.getD u [])[k]?=some v->Way D k x v path->Way D k x u (u::path)
section
variable {D:Rows} {k x:Nat}
end
section
variable {W:Rows} {ms:List Nat} {a b c:Nat} {Fs Ts:List (List Nat)}
def Hist.outs3(G:Good W)(h:Hist W ms a b c Fs Ts){i:Nat}(hi:i+1<Fs.length):∃ x y z,(wdF W.length a b c ms Fs).getD (ms.getD (i+2) 0) []=[x,y,z]/\(x=a\/∃ j,j<i/\x=ms.getD (j+2) 0)/\(y=b\/∃ j,j<i/\y=ms.getD (j+2) 0)/\(z=c\/∃ j,i<j/\j+1<Fs.length/\z=ms.getD (j+2) 0):=by
 obtain⟨j,f,M,l,A,O,v,e,H⟩:=h.outs G hi;obtain⟨nd,J,Q,L,N,o,_,_,I,u⟩:=h.inF (k:=i) (by omega);rw[e]at o;obtain⟨n,B⟩:=uB o;injection n with n _
 have r:f≠l:=λ q=>by
  rw[e,gi,dr]at nd;exact nd.1 (by rw[q];simp)
 have d:∀ z∈Fs.getD i [],∃ m,m<i+2/\z=ms.getD m 0:=λ z C=>by
  obtain⟨m,g,em⟩:=ue ((h.top i (by omega)).2 z (J z C));rw[eO]at g;rw[uy]at em;exact⟨m,by omega,by rw[ae,aa (by omega)];exact em.symm⟩
 refine⟨f,l,_,H,?_,?_,?_⟩
 ·obtain⟨m,g,em⟩:=d f (by rw[e];simp)
  match m,g,em with
  | 0,_,em=>exact .inl (em.trans h.a0)
  | 1,_,em =>
   have s:f=b:=em.trans h.b1;have:=u (by rw[e,<-s];simp);exact absurd (s.trans (this.symm.trans B.symm)) r
  | m+2,g,em=>exact .inr ⟨m,by omega,em⟩
 ·obtain⟨m,g,em⟩:=d l (by rw[e];simp)
  match m,g,em with
  | 0,_,em =>
   have p:l=a:=em.trans h.a0;have:=I (by rw[e,<-p];simp);exact absurd ((n.trans this).trans p.symm) r
  | 1,_,em=>exact .inl (em.trans h.b1)
  | m+2,g,em=>exact .inr ⟨m,by omega,em⟩
 ·by_cases D:j+1<Fs.length
  ·exact .inr ⟨j,A,D,rfl⟩
  ·refine .inl ?_
   rw[<-h.cl]
   congr 1
   omega
def Hist.ways(G:Good W)(h:Hist W ms a b c Fs Ts){k x:Nat}(f:[a,b,c][k]?=some x){i:Nat}(hi:i+1<Fs.length):∃ path,Way (wdF W.length a b c ms Fs) k x (ms.getD (i+2) 0) path/\path.length<=W.length:=by
 have q:=h.lf
 have C:ms.length<=W.length:=by
  have:=eI h.msn (l₂:=df W.length) λ x f=>fz.mpr ((h.all x).mp f);rwa[eV]at this
 have l:∀ i,i+1<Fs.length->ms.getD (i+2) 0≠x:=λ i hi=>by
  obtain⟨_,v,B,r⟩:=h.inner hi;have:=cu f;simp only[cn,fh,or_false]at this;rcases this with rfl | rfl | rfl
  ·exact v
  ·exact B
  ·exact r
 match k,f with
 | 0,f =>
  cases f
  have:∀ n i,i<n->i+1<Fs.length->∃ path,Way (wdF W.length a b c ms Fs) 0 a (ms.getD (i+2) 0) path/\path.length<=i+2:=by
   intro n
   induction n with
   | zero=>intro i h0;omega
   | succ n ih =>
    intro i h0 h1;obtain⟨x,y,z,g,A,-,-⟩:=h.outs3 G h1;rcases A with rfl | ⟨j,o,rfl⟩
    ·exact⟨_,.step (l i h1) (by rw[g];rfl) .stop,by simp⟩
    ·obtain⟨p,d,lp⟩:=ih j (by omega) (by omega)
     exact⟨_,.step (l i h1) (by rw[g];rfl) d,by rw[eQ];omega⟩
  obtain⟨p,d,lp⟩:=this (i+1) i (by omega) hi;exact⟨p,d,by omega⟩
 | 1,f =>
  cases f
  have:∀ n i,i<n->i+1<Fs.length->∃ path,Way (wdF W.length a b c ms Fs) 1 b (ms.getD (i+2) 0) path/\path.length<=i+2:=by
   intro n
   induction n with
   | zero=>intro i h0;omega
   | succ n ih =>
    intro i h0 h1;obtain⟨x,y,z,g,-,u,-⟩:=h.outs3 G h1;rcases u with rfl | ⟨j,o,rfl⟩
    ·exact⟨_,.step (l i h1) (by rw[g];rfl) .stop,by simp⟩
    ·obtain⟨p,d,lp⟩:=ih j (by omega) (by omega)
     exact⟨_,.step (l i h1) (by rw[g];rfl) d,by rw[eQ];omega⟩
  obtain⟨p,d,lp⟩:=this (i+1) i (by omega) hi;exact⟨p,d,by omega⟩
 | 2,f =>
  cases f
  have:∀ n i,Fs.length-i<=n->i+1<Fs.length->∃ path,Way (wdF W.length a b c ms Fs) 2 c (ms.getD (i+2) 0) path/\path.length+i<=Fs.length:=by
   intro n
   induction n with
   | zero=>intro i h0 h1;omega
   | succ n ih =>
    intro i h0 h1;obtain⟨x,y,z,g,-,-,s⟩:=h.outs3 G h1;rcases s with rfl | ⟨j,o,m,rfl⟩
    ·exact⟨_,.step (l i h1) (by rw[g];rfl) .stop,by simp;omega⟩
    ·obtain⟨p,d,lp⟩:=ih j (by omega) m
     exact⟨_,.step (l i h1) (by rw[g];rfl) d,by rw[eQ];omega⟩
  obtain⟨p,d,lp⟩:=this (Fs.length-i) i (av _) hi;exact⟨p,d,by omega⟩
end
def kRJ(D:Rows)(a:List Nat)(b:Rows):Prop:=b.length=D.length/\∀ p,p<D.length->b.getD (a.getD p 0) []=(D.getD p []).map λ q=>a.getD q 0
section
variable {W V D D':Rows} {ns:List Nat} {a b c:Nat}
def Way.ren{k x n:Nat}(ld:D.length=n)(h:kRJ D ns D')(inj:∀ p q,p<n->q<n->ns.getD p 0=ns.getD q 0->p=q)(rng:∀ p q,q∈D.getD p []->q<n)(c:x<n){u:Nat}(a:u<n){path:List Nat}(w:Way D k x u path):Way D' k (ns.getD x 0) (ns.getD u 0) (path.map λ q=>ns.getD q 0):=by
 induction w with
 | stop=>exact .stop
 | step ne e _ ih =>
  rename_i u v path _
  have b:=rng u v (cu e);refine .step (λ q=>ne (inj _ _ a c q)) ?_ (ih b);rw[h.2 u (by rw[ld];exact a),ay,e]
  rfl
def Wds.ren(S:Nb W)(h:Wds W a b c D)(O:Rnm W ns V)(hp:ns.Perm (df W.length))(hD:kRJ D ns D')(n:a<W.length/\b<W.length/\c<W.length):Wds V (ns.getD a 0) (ns.getD b 0) (ns.getD c 0) D':=by
 have s:=kEM hp O;have lD:=h.len;have inj:∀{p q},p<W.length->q<W.length->ns.getD p 0=ns.getD q 0->p=q:=λ h1 h2 e=>s.inj h1 h2 e;have f:∀{p},p<W.length->D'.getD (ns.getD p 0) []=(D.getD p []).map λ q=>ns.getD q 0:=λ{p} hp=>hD.2 p (by omega)
 have L:∀ p q,p<W.length->q∈D.getD p []->q<W.length:=λ p q o g=>by
  by_cases Q:p=a\/p=b\/p=c
  ·rw[h.base p Q]at g
   cases g
  ·obtain⟨x,y,z,row,e,G,Z,m2,m3,_⟩:=h.sorted S o (λ z=>Q (.inl z)) (λ z=>Q (.inr (.inl z))) (λ z=>Q (.inr (.inr z)))
   rw[e]at g;simp only[cn,fh,or_false]at g;rcases g with rfl | rfl | rfl
   ·exact(S.rng _ _ _ G Z).1
   ·exact(S.rng _ _ _ G m2).1
   ·exact(S.rng _ _ _ G m3).1
 have r:∀{p q},p<W.length->q<W.length->(ns.getD q 0∈D'.getD (ns.getD p 0) []↔q∈D.getD p []):=λ{p q} h1 h2=>by
  rw[f h1,ft];exact⟨λ⟨x,U,e⟩=>by rw[<-inj (L p x h1 U) h2 e];exact U,λ m=>⟨q,m,rfl⟩⟩
 refine⟨by rw[hD.1,lD,O.1],λ p hb=>?_,λ p a0 pa pb pc=>?_,λ p q eE=>?_,λ q qa qb qc=>?_⟩
 ·rcases hb with rfl | rfl | rfl
  ·rw[f n.1,h.base a (.inl rfl)];rfl
  ·rw[f n.2.1,h.base b (.inr (.inl rfl))];rfl
  ·rw[f n.2.2,h.base c (.inr (.inr rfl))];rfl
 ·obtain⟨T,o,rfl⟩:=s.sur (by rw[<-O.1];exact a0)
  obtain⟨x,y,z,A,B,C,row,e,n1,n2,n3,G,ro,hA,hB,hC⟩:=h.row T o (λ q=>pa (by rw[q])) (λ q=>pb (by rw[q])) (λ q=>pc (by rw[q]));obtain⟨r',e',Y,_⟩:=O.2 T row G;have rr:∀ q∈row,q<W.length:=λ q g=>(S.rng _ _ _ G g).1;have H:∀ q,q∈x::A++y::B++z::C->q<W.length:=λ q g=>rr q ((ro.mem q).mpr g);have xl:=H x (by simp);have yl:=H y (by simp);have zl:=H z (by simp);refine⟨ns.getD x 0,ns.getD y 0,ns.getD z 0,A.map (λ q=>ns.getD q 0),B.map (λ q=>ns.getD q 0),C.map (λ q=>ns.getD q 0),r',by rw[f o,e];rfl,λ q=>n1 (inj xl yl q),λ q=>n2 (inj xl zl q),λ q=>n3 (inj yl zl q),e',?_,λ q g=>?_,λ q g=>?_,λ q g=>?_⟩
  ·refine Y.symm.trans ?_
   have:=ro.mp λ q=>ns.getD q 0;simpa using this
  ·obtain⟨i,d,rfl⟩:=ft.mp g
   obtain⟨u,v,I⟩:=hA i d;exact⟨_,_,by rw[f (H i (by simp[d])),I];rfl⟩
  ·obtain⟨i,d,rfl⟩:=ft.mp g
   obtain⟨u,v,I⟩:=hB i d;exact⟨_,_,by rw[f (H i (by simp[d])),I];rfl⟩
  ·obtain⟨i,d,rfl⟩:=ft.mp g
   obtain⟨u,v,I⟩:=hC i d;exact⟨_,_,by rw[f (H i (by simp[d])),I];rfl⟩
 ·obtain⟨T,i,e,rfl,rfl⟩:=s.e_of eE
  obtain⟨M,J,_⟩:=S.e e;rcases h.tie T i e with⟨X,c2⟩ | X
  ·refine .inl ⟨?_,?_⟩
   ·rcases X with rfl | rfl | rfl
    ·exact .inl rfl
    ·exact .inr (.inl rfl)
    ·exact .inr (.inr rfl)
   ·rcases c2 with rfl | rfl | rfl
    ·exact .inl rfl
    ·exact .inr (.inl rfl)
    ·exact .inr (.inr rfl)
  ·exact .inr (by rw[r M J,r J M];exact X)
 ·have go:∀{x k:Nat},x<W.length->(E W x q->True)->True:=λ _ _=>trivial
  by_cases g:q<W.length
  ·obtain⟨i,d,rfl⟩:=s.sur g
   have na:i≠a:=λ z=>qa (by rw[z]);have nb:i≠b:=λ z=>qb (by rw[z]);have nc:i≠c:=λ z=>qc (by rw[z]);obtain⟨l0,M,J⟩:=h.lead i na nb nc;obtain⟨x,y,z,A,B,C,row,e,_⟩:=h.row i d na nb nc;rw[f d,e];rw[e]at l0 M J
   have back:∀{x:Nat},x<W.length->E V (ns.getD x 0) (ns.getD i 0)->E W x i:=λ{x} U l=>by
    obtain⟨u,v,N,e2,e3⟩:=s.e_of l;obtain⟨Z,m2,_⟩:=S.e N;rw[inj U Z e2,inj d m2 e3];exact N
   refine⟨λ l=>?_,λ l=>?_,λ l=>?_⟩
   ·have:x=a:=l0 (back n.1 l)
    rw[this];rfl
   ·have:y=b:=M (back n.2.1 l)
    rw[this];rfl
   ·have:z=c:=J (back n.2.2 l)
    rw[this];rfl
  ·have no:∀{x},¬ E V x q:=λ{x} l=>by
    obtain⟨u,v,N,e2,e3⟩:=s.e_of l;exact g (by rw[e3];exact s.lt (S.e N).2.1)
   exact⟨λ l=>(no l).elim,λ l=>(no l).elim,λ l=>(no l).elim⟩
end
end Tri
namespace Prf
open PySem L2 Own Tri Cyc Rnd
def top(i:Nat):ja:=PySem.Challenge.pw_restdraw_k76_ways_of_woods.main.body.getD i (.Pass ⟨0,0,0,0⟩)
abbrev fU:ja:=top 7
def tG:FnScope ["thing"] ["thing"] (kK fU):=qB
abbrev cV:ja:=top 8
def pG:FnScope ["thing","many"] ["thing","many"] (kK cV):=qB
abbrev nI:ja:=top 9
def kCB:FnScope ["row","first","start"] ["row","first"] (kK nI):=qB
abbrev aM:ja:=top 10
def mD:FnScope ["row"] ["row"] (kK aM):=qB
abbrev fP:ja:=top 11
def sX:FnScope ["web"] ["web"] (kK fP):=qB
abbrev kJW:ja:=top 12
def kMR:FnScope ["web"] ["web"] (kK kJW):=qB
abbrev tI:ja:=top 13
def kGU:FnScope ["web","step","p","q","row"] ["web","step"] (kK tI):=qB
abbrev uF:ja:=top 14
def fO:FnScope ["web","step","steps","further"] ["web","step"] (kK uF):=qB
abbrev kEK:ja:=top 15
def kJV:FnScope ["web","told","seen","step","steps"] ["web"] (kK kEK):=qB
abbrev nF:ja:=top 16
def kBZ:FnScope ["web"] ["web"] (kK nF):=qB
abbrev vD:ja:=top 17
def dO:FnScope ["web"] ["web"] (kK vD):=qB
abbrev mW:ja:=top 18
def kBT:FnScope ["web","names","rows"] ["web","names"] (kK mW):=qB
abbrev zB:ja:=top 20
def uK:FnScope ["web","some"] ["web"] (kK zB):=qB
abbrev cW:ja:=top 21
def pH:FnScope ["web","p","q","r"] ["web","p","q","r"] (kK cW):=qB
abbrev nH:ja:=top 22
def kCA:FnScope ["web","thing","a","b","c"] ["web","thing"] (kK nH):=qB
abbrev zY:ja:=top 23
def aI:FnScope ["web","base","face"] ["web","base"] (kK zY):=qB
abbrev vF:ja:=top 27
def dQ:FnScope ["web","base"] ["web","base"] (kK vF):=qB
abbrev aL:ja:=top 28
def mC:FnScope ["web","base","place","thing","many"] ["web","base","place","thing"] (kK aL):=qB
abbrev wX:ja:=top 29
def bQ:FnScope ["base","rows","tie","p","q"] ["base","rows","tie"] (kK wX):=qB
abbrev tH:ja:=top 30
def kGT:FnScope ["rows","place","q"] ["rows","place","q"] (kK tH):=qB
abbrev wW:ja:=top 31
def bP:FnScope ["web","rows","place","numbers"] ["web","rows","place"] (kK wW):=qB
abbrev mX:ja:=top 32
def kBU:FnScope ["web","base","rows","k","corner"] ["web","base","rows","k"] (kK mX):=qB
abbrev cU:ja:=top 33
def pE:FnScope ["web","base","thing"] ["web","base","thing"] (kK cU):=qB
abbrev fT:ja:=top 34
def tF:FnScope ["web","base","thing"] ["web","base","thing"] (kK fT):=qB
abbrev zC:ja:=top 35
def uL:FnScope ["web","base","woods"] ["web","base","woods"] (kK zC):=qB
abbrev mV:ja:=top 36
def kBS:FnScope ["base","woods","place","k","path"] ["base","woods","place","k"] (kK mV):=qB
abbrev kOK:ja:=top 37
def kPL:FnScope ["web","base","woods","place","k"] ["web","base","woods","place","k"] (kK kOK):=qB
abbrev nB:ja:=top 39
def kBX:FnScope ["_law_script","_law_k","_law_cell"] ["_law_script","_law_k"] (kK nB):=qB
abbrev cS:ja:=top 40
def oZ:FnScope ["_law_pot_here","_law_many","_law_digit_here"] ["_law_pot_here","_law_many"] (kK cS):=qB
abbrev cT:ja:=top 41
def pD:FnScope ["_law_rows","_law_p","_law_q","_law_row"] ["_law_rows","_law_p","_law_q"] (kK cT):=qB
abbrev aK:ja:=top 42
def mB:FnScope ["_law_rows","_law_p","_law_v","_law_new","_law_row"] ["_law_rows","_law_p","_law_v","_law_new"] (kK aK):=qB
abbrev nE:ja:=top 43
def kBY:FnScope ["_law_rows","_law_p","_law_q","_law_r","_law_new"] ["_law_rows","_law_p","_law_q"] (kK nE):=qB
abbrev fR:ja:=top 44
def sZ:FnScope ["_law_rows","_law_p","_law_q","_law_r","_law_s"] ["_law_rows","_law_p","_law_q"] (kK fR):=qB
abbrev fQ:ja:=top 45
def sY:FnScope ["_law_pot_here","_law_rows","_law_p"] ["_law_pot_here","_law_rows"] (kK fQ):=qB
abbrev vE:ja:=top 46
def dP:FnScope ["_law_pot_here","_law_n","_law_rows","_law_k","_law_p","_law_q"] ["_law_pot_here","_law_n"] (kK vE):=qB
abbrev mY:ja:=top 47
def kBV:FnScope ["_law_pot_here","_law_n","_law_rows","_law_names","_law_k","_law_found","_law_p","_law_row","_law_called"] ["_law_pot_here","_law_n"] (kK mY):=qB
abbrev fS:ja:=top 48
def tE:FnScope ["_law_pot_here","_law_web_here","_law_a","_law_c"] ["_law_pot_here","_law_web_here"] (kK fS):=qB
abbrev aJ:ja:=top 49
def lZ:FnScope ["_law_web_here","_law_here","_law_left","_law_there","_law_found","_law_k","_law_beside"] ["_law_web_here","_law_here","_law_left"] (kK aJ):=qB
abbrev cQ:ja:=top 50
def oX:FnScope ["_law_pot_here","_law_web_here","_law_base_here","_law_a","_law_b","_law_c","_law_here","_law_left","_law_spans","_law_k","_law_some","_law_v","_law_at","_law_turn"] ["_law_pot_here","_law_web_here","_law_base_here"] (kK cQ):=qB
abbrev cP:ja:=top 52
def oW:FnScope ["_law_web_here","_law_base_here","_law_spans","_law_above","_law_v","_law_stretch","_law_q","_law_found","_law_place"] ["_law_web_here","_law_base_here","_law_spans"] (kK cP):=qB
abbrev mZ:ja:=top 53
def kBW:FnScope ["_law_woods_here","_law_place","_law_k","_law_found","_law_turn"] ["_law_woods_here","_law_place","_law_k"] (kK mZ):=qB
abbrev cR:ja:=top 54
def oY:FnScope ["_law_names","_law_row"] ["_law_names","_law_row"] (kK cR):=qB
abbrev zD:ja:=top 55
def uM:FnScope ["_law_names","_law_woods_here","_law_found","_law_place","_law_row"] ["_law_names","_law_woods_here"] (kK zD):=qB
abbrev kEJ:ja:=top 56
def sc_law:FnScope ["_law_script","_law_k","_law_pot_here","_law_web_here","_law_base_here","_law_woods_here","_law_names","_law_place","_law_there","_law_j","_law_due"] ["_law_script"] (kK kEJ):=qB
structure FxG(K:au)(mg:Str->Option ai):Prop where
 X:∃ h:iC,K.In h/\h.Ns eR mg
 d0:qW K "is_whole" fU
 d1:qW K "are_whole" cV
 d2:qW K "from_on" nI
 d3:qW K "from_least" aM
 d4:qW K "steps_of" fP
 d5:qW K "ties" kJW
 d6:qW K "behind" tI
 d7:qW K "steps_round" uF
 d8:qW K "faces" kEK
 d9:qW K "is_flat" nF
 d10:qW K "must_be_flat" vD
 d11:qW K "renamed" mW
 d12:qW K "uncornered_face" zB
 d13:qW K "are_round" cW
 d14:qW K "is_base" nH
 d15:qW K "must_have_base" zY
 d16:qW K "inner_places" vF
 d17:qW K "is_out_row" aL
 d18:qW K "leads_one_way" wX
 d19:qW K "stands" tH
 d20:qW K "stand_in_turn" wW
 d21:qW K "lead_in" mX
 d22:qW K "are_woods" cU
 d23:qW K "is_woods" fT
 d24:qW K "must_have_woods" zC
 d25:qW K "way_out" mV
 d26:qW K "way" kOK
 d27:qW K "_law_pot" nB
 d28:qW K "_law_digit" cS
 d29:qW K "_law_ahead" cT
 d30:qW K "_law_behind" aK
 d31:qW K "_law_add" nE
 d32:qW K "_law_flip" fR
 d33:qW K "_law_step" fQ
 d34:qW K "_law_cornered" vE
 d35:qW K "_law_web" mY
 d36:qW K "_law_base" fS
 d37:qW K "_law_may_go" aJ
 d38:qW K "_law_taken" cQ
 d40:qW K "_law_woods" cP
 d41:qW K "_law_way" mZ
 d42:qW K "_law_named" cR
 d43:qW K "_law_woods_named" zD
 d44:qW K "law" kEJ
 y0:gk K eR "len" = some none
 y1:gk K eR "max" = some none
 y2:gk K eR "abs" = some none
 y3:gk K eR "divmod" = some none
 y4:gk K eR "range" = some none
 y5:gk K eR "tuple" = some none
 y6:gk K eR "min" = some none
 y7:gk K eR "enumerate" = some none
 y8:gk K eR "sorted" = some none
 y9:gk K eR "isinstance" = some none
 y10:gk K eR "bool" = some none
 y11:gk K eR "int" = some none
 y12:gk K eR "all" = some none
 y13:gk K eR "set" = some none
 y14:gk K eR "dict" = some none
 y15:gk K eR "repr" = some none
 y16:gk K eR "reversed" = some none
 y17:gk K eR "list" = some none
 cOUT:kOA K "OUT" [0,2,4]
 cINTO:kOA K "INTO" [3,5,1]
def FxG.z{K:au}{mg:Str->Option ai}(B:FxG K mg){n:Str}(y:gk K eR n=some none):mg n=none:=by
 obtain⟨h,x,g⟩:=B.X;exact PySem.W.mg_none_of x g y
def Bad(c:Cn):Prop:=FxG c.K c.mg/\∃ f a,Fun c.K "law" "law" kEJ f a/\¬ FnOk c.P c.w c.K c.mg c.base CX0 11 f a ["_law_script"] (mS c.K)
noncomputable def c0:Cn:=Classical.epsilon Bad
noncomputable def P:eN:=c0.P
noncomputable def w:fu:=c0.w
noncomputable def K:au:=c0.K
noncomputable def mg:Str->Option ai:=c0.mg
noncomputable def base:iC:=c0.base
abbrev Fx:=FxG K mg
abbrev Hs:=Own.Has P w K mg base
def kC{H:Hp}{p:ar}(h:H p=none)(o:HO):Same H (upd H p o):=λ b u q=>by rw[kL (kJ q h)];exact q
def SameBut(a:ar)(H H':Hp):Prop:=∀ b o,b≠a->H b=some o->H' b=some o
inductive kOI(K:au)(vs:List V)(H:Hp)(Q:VK)(Y:XK):Prop
 | mk:∀(a:ar)(ns:List Int)(k:Int),(vs=[.ref a,.int k])->(SqL K H a (ns.map V.int))->(ns.length<=63)->(0<=k)->(k<=63)->(∀(p:ar)(x y:Int)(H':Hp),0<=x->Same H H'->H p=none->H' p=some (.lst [.int x,.int y])->Q (.ref p) H')->kOI K vs H Q Y
def PotAt(H:Hp)(a:ar):Prop:=∃ x y:Int,H a=some (.lst [.int x,.int y])/\0<=x
inductive kEE(vs:List V)(H:Hp)(Q:VK)(Y:XK):Prop
 | mk:∀(a:ar)(m:Int),(vs=[.ref a,.int m])->(PotAt H a)->(0<m)->(m.natAbs<2 ^ 9000)->(∀(d:Int)(H':Hp),0<=d->d<m->SameBut a H H'->PotAt H' a->Q (.int d) H')->kEE vs H Q Y
def vn(n:Nat):V:=.int (n:Int)
def ci(n:Nat):Int:=n
structure RowsAt(H:Hp)(r:ar)(A:List ar)(L:Rows):Prop where
 top:H r=some (.lst (A.map V.ref))
 len:A.length=L.length
 nd:A.Nodup
 out:r∉A
 row:∀(i:Nat)(a:ar)(ns:List Nat),A[i]?=some a->L[i]?=some ns->H a=some (.lst (ns.map vn))
def jE(a:List Nat):a.map vn=(a.map ci).map V.int:=by
 rw[yj]
 rfl
def qI{a:List Nat}{n:Nat}(h:n∈a):uD (a.map ci) (n:Int) (a.idxOf n):=by
 have c:=fj h;refine⟨?_,λ m f e=>?_⟩
 ·rw[ay,aa c,Az c]
  rfl
 ·have b:m<a.length:=by omega
  rw[ay,aa b]at e
  have d:a[m]=n:=by
   have z:((a[m]:Nat):Int)=(n:Int):=bj e;omega
  have q:=List.not_of_lt_findIdx (p:=(· == n)) (xs:=a) f;rw[d]at q;simp at q
def RowsAt.at{H:Hp}{r:ar}{A:List ar}{L:Rows}(x:RowsAt H r A L){i:Nat}{c:List Nat}(h:L[i]?=some c):∃ a,A[i]?=some a/\H a=some (.lst (c.map vn))/\atI (A.map V.ref) (i:Int)=some (.ref a):=by
 have b:i<A.length:=by rw[x.len];exact(ag.mp h).1
 refine⟨A[i],aa b,x.row i _ c (aa b) h,jW ?_⟩;rw[ay,aa b]
 rfl
inductive kEG(vs:List V)(H:Hp)(Q:VK)(Y:XK):Prop
 | mk:∀(r b:ar)(xs:List V)(p q:Nat)(row:List Nat)(v:Nat),(vs=[.ref r,vn p,vn q])->((H r=some (.lst xs)/\H b=some (.lst (row.map vn))\/H r=some (.tup xs)/\H b=some (.tup (row.map vn))))->(atI xs (q:Int)=some (.ref b))->(p∈row)->(jX row p=some v)->(Q (vn v) H)->kEG vs H Q Y
def rQ{row:List Nat}{p v:Nat}(hp:p∈row)(h:jX row p=some v):atI (row.map vn) ((row.idxOf p:Int)-1)=some (vn v):=by
 have b:=fj hp;unfold jX at h;by_cases h0:row.idxOf p=0
 ·rw[if_pos h0]at h
  rw[h0]
  have e:row=row.dropLast++[v]:=by
   have a:row≠[]:=λ z=>by rw[z]at hp;cases hp
   rw[iK a]at h;rw[<-bj h];exact(gj a).symm
  rw[e,dw];exact bK _ _
 ·rw[if_neg h0]at h
  have e:((row.idxOf p:Int)-1)=((row.idxOf p-1:Nat):Int):=by omega
  rw[e];exact jW (by rw[ay,h];rfl)
section
def at0{x y:V}:atI [x,y] 0=some x:=rfl
def at1{x y:V}:atI [x,y] 1=some y:=rfl
def yI(B:Fx):Hs "_law_ahead" ["_law_rows","_law_p","_law_q"] 1 (kEG):=by
 refine qD B.X B.d29 pD λ f l A c s H m Q E g n h=>?_;obtain⟨r,b,o,p,q,row,v,rfl,⟨h1,a⟩ | ⟨h1,a⟩,i,hp,d,k⟩:=h
 ·refine⟨_,(kE (pst 3 g (pix kW (pv 0) (pv 2)))
   (kF (kS (pix kW (pv 3) (qG zQ (jO mj mm vM (pv 3) (p1 (pv 1))) kO))))),?_⟩
  try dsimp only[qK]
  refine⟨_,rfl,_,rfl,r,_,_,_,rfl,rfl,SqL.of h1,i,?_⟩;refine⟨_,rfl,_,rfl,.inl ⟨rfl,_,SqL.of a⟩,_,rfl,b,row.map ci,p,row.idxOf p,rfl,rfl,by rw[a,jE],qI hp,_,_,rfl,rfl,?_⟩;exact⟨b,_,_,_,rfl,rfl,SqL.of a,rQ hp d,k⟩
 ·refine⟨_,(kE (pst 3 g (pix kX (pv 0) (pv 2)))
   (kF (kS (pix kX (pv 3) (qG zQ (cY ji jl jm yK (pv 3) (p1 (pv 1))) kO))))),?_⟩
  try dsimp only[qK]
  refine⟨_,rfl,_,rfl,r,_,_,_,rfl,rfl,SqT.of h1,i,?_⟩;refine⟨_,rfl,_,rfl,.inr (.inl ⟨rfl,.inr ⟨_,a⟩⟩),_,rfl,b,row.map ci,p,row.idxOf p,rfl,rfl,SqT.of (by rw[a,jE]),qI hp,_,_,rfl,rfl,?_⟩;exact⟨b,_,_,_,rfl,rfl,SqT.of a,rQ hp d,k⟩
theorem RowsAt.set{H:Hp}{r:ar}{A:List ar}{L:Rows}(x:RowsAt H r A L){i:Nat}{a:ar}(h:A[i]?=some a)(f:List Nat):RowsAt (upd H a (.lst (f.map vn))) r A (L.set i f):=by
 have o:r≠a:=λ z=>x.out (z ▸ cu h);have g:i<L.length:=by rw[<-x.len];exact(ag.mp h).1
 refine⟨by rw[kL o];exact x.top,by rw[As];exact x.len,x.nd,x.out,λ j b m c d=>?_⟩;rcases zH g d with⟨rfl,rfl⟩ | ⟨l,d⟩
 ·rw[h]at c
  cases c
  exact kB
 ·have n:b≠a:=λ z=>by
   subst z;have:=(ze (ag.mp c).1 x.nd).mp (c.trans h.symm);exact l this
  rw[kL n];exact x.row j b m c d
def ButRows(r:ar)(A:List ar)(H H':Hp):Prop:=∀ b o,b≠r->b∉A->H b=some o->H' b=some o
inductive sU(vs:List V)(H:Hp)(Q:VK)(Y:XK):Prop
 | mk:∀(r:ar)(A:List ar)(L:Rows)(p v n:Nat)(row:List Nat),(vs=[.ref r,vn p,vn v,vn n])->(RowsAt H r A L)->(L[p]?=some row)->(v∈row)->(row.length<=1000)->(∀ H',ButRows r A H H'->RowsAt H' r A (L.set p (jB row v n))->Q .non H')->sU vs H Q Y
def xC(B:Fx):Hs "_law_behind" ["_law_rows","_law_p","_law_v","_law_new"] 1 (sU):=by
 refine qD B.X B.d30 mB λ f m A d s H D Q E u G h=>?_;obtain⟨r,I,L,p,v,n,row,rfl,X,hp,i,y,k⟩:=h
 refine⟨_,(kE (pst 4 u (pix kW (pv 0) (pv 1)))
   (kF (qE (jO yc yd bW (pv 4) (p2 (qG xV (jO mj mm vM (pv 4) (p1 (pv 2))) kO) (pv 3)))))),?_⟩
 try dsimp only[qK]
 obtain⟨a,g,c,C⟩:=X.at hp;have J:=fj i;refine⟨_,rfl,_,rfl,r,_,_,_,rfl,rfl,SqL.of X.top,C,?_⟩;refine⟨_,rfl,.inl ⟨rfl,_,SqL.of c⟩,_,rfl,.inl ⟨rfl,_,SqL.of c⟩,_,rfl,a,row.map ci,v,row.idxOf v,rfl,rfl,by rw[c,jE],qI i,_,_,rfl,rfl,_,rfl,a,_,_,_,rfl,rfl,c,by omega,by omega,by rw[af];exact kQ y,?_⟩
 have e:List.take ((row.idxOf v:Int)+1).toNat (row.map vn)++vn n::GR ((row.idxOf v:Int)+1).toNat (row.map vn)=(jB row v n).map vn:=by
  have z:((row.idxOf v:Int)+1).toNat=row.idxOf v+1:=by omega
  rw[z];unfold jB;rw[dw,BE,eo,Bl]
 have q:=k (upd H a (.lst ((jB row v n).map vn))) (λ b o _ l h=>by
  have x:b≠a:=λ z=>l (by rw[z];exact cu g);rw[kL x];exact h) (X.set g _)
 rw[<-e]at q;exact q
def ButRows.trans{r:ar}{A:List ar}{H a d:Hp}(x:ButRows r A H a)(y:ButRows r A a d):ButRows r A H d:=λ b o h1 c h=>y b o h1 c (x b o h1 c h)
def bR{L:Rows}(G:Good L){p:Nat}{row:List Nat}(h:L[p]?=some row):row.length<=6*L.length:=by
 have q:=yF L p row [] h;have t:=G.tot;simp only[ow]at q;omega
def RowsAt.app{H:Hp}{r:ar}{A:List ar}{L:Rows}(x:RowsAt H r A L){a:ar}(h:H a=none)(p:List Nat):RowsAt (upd (upd H a (.lst (p.map vn))) r (.lst (A.map V.ref++[V.ref a]))) r (A++[a]) (L++[p]):=by
 have q:r≠a:=kJ x.top h
 have l:∀ b,b∈A->b≠a:=λ b d=>by
  obtain⟨i,f,rfl⟩:=eY.mp d;have g:i<L.length:=by rw[<-x.len];exact f
  exact kJ (x.row i _ _ (aa f) (aa g)) h
 refine⟨by rw[kB,dw];rfl,by simp[x.len],?_,?_,λ i b s d f=>?_⟩
 ·rw[az]
  exact⟨x.nd,by simp,λ b d c o=>by simp at o;rw[o];exact l b d⟩
 ·intro z
  rcases bp.mp z with z | z
  ·exact x.out z
  ·exact q (by simpa using z)
 ·by_cases m:i<A.length
  ·rw[bh m]at d
   rw[bh (by rw[<-x.len];exact m)]at f;have n:=cu d;have u:b≠r:=λ z=>x.out (by rw[<-z];exact n);rw[kL u,kL (l b n)];exact x.row i b s d f
  ·have e:i=A.length:=by
    have:=(ag.mp d).1;simp at this;omega
   subst e;rw[bu (av _)]at d;rw[bu (by rw[x.len];exact av _)]at f;rw[x.len]at f;simp at d f;subst d f;rw[kL q.symm,kB]
inductive kOJ(vs:List V)(H:Hp)(Q:VK)(Y:XK):Prop
 | mk:∀(r:ar)(A:List ar)(L:Rows)(p q:Nat),(vs=[.ref r,vn p,vn q])->(RowsAt H r A L)->(Good L)->(L.length<=150)->(E L p q)->(∀(x:ar)(L':Rows)(H':Hp),H x=none->ButRows r A H H'->RowsAt H' r (A++[x]) L'->Good L'->L'.length=L.length+1->Q .non H')->kOJ vs H Q Y
def kCR(B:Fx):Hs "_law_add" ["_law_rows","_law_p","_law_q"] 2 (kOJ):=by
 refine qD B.X B.d31 kBY λ f a0 A S s H vs Q E Z y h=>?_;obtain⟨r,a,L,p,q,rfl,X,G,hL,hE,k⟩:=h
 refine⟨_,(kE (pst 3 Z (pf (yI B) y (kD (pv 0) (kD (pv 1) (kD (pv 2) kU)))))
   (kE (pst 4 Z (kM kP rfl (B.z B.y0) eh (p1 (pv 0))))
   (kE (qE (pf (xC B) y (kD (pv 0) (kD (pv 1) (kD (pv 2) (kD (pv 4) kU))))))
   (kE (qE (pf (xC B) y (kD (pv 0) (kD (pv 2) (kD (pv 3) (kD (pv 4) kU))))))
   (kE (qE (pf (xC B) y (kD (pv 0) (kD (pv 3) (kD (pv 1) (kD (pv 4) kU))))))
   (kF (qE (jO iQ iR jU (pv 0) (p1 (jF (kD (pv 1) (kD (pv 2) (kD (pv 3) kU))))))))))))),?_⟩
 try dsimp only[qK]
 obtain⟨c,n,I⟩:=G.sym hE;obtain⟨v,hp,mp⟩:=hE;obtain⟨t,T⟩:=wF I;have f:=yG (G.nd q c n) I T;have Fq:R L q t p:=⟨c,n,f⟩;have Fr:=G.tri _ _ _ Fq;obtain⟨C,l,nr⟩:=id Fr;have gd:=kMB G hp n l f;obtain⟨lq,lt,lp,tq,pq⟩:=yE G Fq;obtain⟨_,_,_,pt,_⟩:=yE G Fr;have mr:=(kT nr).1;have d:(a.map V.ref).length=L.length:=by rw[af];exact X.len
 obtain⟨aX,_,O,M⟩:=X.at n;refine⟨_,rfl,_,rfl,_,rfl,r,aX,_,p,q,c,t,rfl,.inl ⟨X.top,O⟩,M,I,T,?_⟩;refine⟨_,rfl,r,_,rfl,.inl (SqL.of X.top),?_⟩;refine⟨_,rfl,_,rfl,_,rfl,_,rfl,r,a,L,p,q,(a.map V.ref).length,v,rfl,X,hp,mp,(by have:=bR G hp;omega),λ H1 b1 X1=>?_⟩;have D:(L.set p (jB v q (a.map V.ref).length))[q]?=some c:=by rw[eB pq];exact n
 refine⟨_,rfl,_,rfl,_,rfl,_,rfl,r,a,_,q,t,(a.map V.ref).length,c,rfl,X1,D,(kT f).1,(by have:=bR G n;omega),λ H2 b2 X2=>?_⟩;have J:((L.set p (jB v q (a.map V.ref).length)).set q (jB c t (a.map V.ref).length))[t]?=some C:=by rw[eB (λ z=>tq z.symm),eB pt];exact l
 refine⟨_,rfl,_,rfl,_,rfl,_,rfl,r,a,_,t,p,(a.map V.ref).length,C,rfl,X2,J,mr,(by have:=bR G l;omega),λ H3 b3 m=>?_⟩;refine⟨_,rfl,.inl ⟨rfl,_,SqL.of m.top⟩,_,rfl,_,rfl,_,rfl,yS3,λ x u=>?_⟩;have rx:r≠x:=kJ m.top u;have g:=b1.trans (b2.trans b3)
 have U:H x=none:=by
  cases e:H x with
  | none=>rfl
  | some o =>
   have xA:x∉a:=λ z=>by
    obtain⟨i,hi,rfl⟩:=eY.mp z;have N:i<(((L.set p (jB v q (a.map V.ref).length)).set q (jB c t (a.map V.ref).length)).set t (jB C p (a.map V.ref).length)).length:=by rw[<-m.len];exact hi
    rw[m.row i _ _ (aa hi) (aa N)]at u;cases u
   rw[g x o (λ z=>rx z.symm) xA e]at u;cases u
 refine⟨r,_,_,rfl,rfl,(by rw[kL rx];exact m.top),(by rw[d];exact kQ (by omega)),?_⟩;have Y:=m.app u [p,q,t];rw[d]at Y;refine k x (aA L p q t v c C) _ U (λ b o h1 h2 h=>?_) Y gd (by simp[aA]);have bx:b≠x:=λ z=>by rw[z,U]at h;cases h
 rw[kL h1,kL bx];exact g b o h1 h2 h
def kLV(a:List Int)(lo hi:Option Int):∃ ms:List Int,wZ (a.map V.int) lo hi=ms.map V.int/\ms.length<=a.length:=by
 refine⟨(a.drop (HT.sIx (a.map V.int).length 0 lo)).take (HT.sIx (a.map V.int).length (a.map V.int).length hi-HT.sIx (a.map V.int).length 0 lo),?_,?_⟩
 ·unfold wZ
  rw[BE,Bl]
 ·rw[eO,iJ]
  omega
def kHX(a:List Int):∃ c:Int,atI (a.map V.int++[V.int 0]) 0=some (V.int c):=by
 cases a with
 | nil=>exact⟨0,rfl⟩
 | cons x r=>exact⟨x,jW (j:=0) rfl⟩
def yQ{n:Nat}(h:n<=20000):n<sizeLine:=gw h (by rw[BK];decide)
def kJU{n:Nat}(h:n<=1000):n<=sizeLine:=ka (kQ h)
def kCQ(B:Fx):Hs "_law_pot" ["_law_script","_law_k"] 1 (kOI K):=by
 refine qD B.X B.d27 kBX λ f o A i s H J Q E x M h=>?_;obtain⟨a,d,k,rfl,C,n,L,N,q⟩:=h
 refine⟨_,(kE (pst 2 x (pix kW (qG gC (jK zA (pv 0) (jP (pv 1)) (jP (qG xV (pv 1) kO))) (jF (p1 kO))) kO))
   (kF (kS (jF (p2 (kM (oH rfl) rfl (B.z B.y1) CP (p2 kO (qG zQ (pv 2) (qG kQC kO kO)))) (qG xV (qG pR (qG xV (qG xV (kM kLY rfl (B.z B.y2) Fk (p1 (pv 2))) (qG kCK kO (pv 1))) kO) kO) kO)))))),?_⟩
 try dsimp only[qK]
 obtain⟨G,em,O⟩:=kLV d (some k) (some (k+1));obtain⟨c,v⟩:=kHX G;refine⟨_,rfl,_,rfl,k,rfl,_,rfl,_,_,rfl,rfl,k+1,rfl,a,_,rfl,C,λ p1 h1=>?_⟩;refine⟨yS1,λ p2 l=>?_⟩;have b:p1≠p2:=kJ kB l;refine⟨p1,p2,_,_,rfl,rfl,(by rw[kL b];exact kB),kB,(by rw[em,af,iG];exact kJU (by omega)),λ p u=>?_⟩;refine⟨p,_,_,_,rfl,rfl,SqL.of kB,(by rw[em];exact v),?_⟩;have r:Same H (upd H p1 (.lst (wZ (d.map V.int) (some k) (some (k+1))))):=kC h1 _;have I:=kC l (.lst [V.int 0]);have D:=kC u (.lst (wZ (d.map V.int) (some k) (some (k+1))++[V.int 0]));have g:=r.trans (I.trans D);refine⟨_,rfl,_,_,rfl,rfl,⟨by decide,by decide,by decide⟩,_,_,rfl,rfl,_,_,rfl,_,rfl,c,rfl,_,rfl,_,_,rfl,rfl,.inl ⟨by decide,by decide⟩,_,_,rfl,rfl,_,_,rfl,rfl,_,_,rfl,rfl,(by show(0:Int)<2147483629;decide),_,_,rfl,rfl,yS2,λ y m=>?_⟩;refine q y _ _ _ ?_ (g.trans (kC m _)) (g.free m) kB
 split<;>omega
def SameBut.trans{a:ar}{H c d:Hp}(x:SameBut a H c)(y:SameBut a c d):SameBut a H d:=λ b o n h=>y b o n (x b o n h)
def SameBut.of{a:ar}{H H':Hp}(h:Same H H'):SameBut a H H':=λ b o _ e=>h b o e
def kFV{a:ar}{H:Hp}{o:HO}:SameBut a H (upd H a o):=λ b u n h=>by rw[kL n];exact h
def qP(B:Fx):Hs "_law_digit" ["_law_pot_here","_law_many"] 1 (kEE):=by
 refine qD B.X B.d28 oZ λ f o A i s H v Q E u C h=>?_;obtain⟨a,m,rfl,⟨x,y,b,l⟩,d,r,q⟩:=h
 refine⟨_,(kE (xS (qO kOS (pix kW (pv 0) kO) kO (jJ _)) (kE (yU (kM rP rfl (B.z B.y3) FT (p2 (pix kW (pv 0) kO) (pv 1))) (jZ (n:=2) rfl (kR (pP (pv 0) kO aH) (kR (pgn 2 u) jD))))
   (kF (kS (pv 2)))) jA)
   (kE (yU (qG pR (qG xV (qG kCK (pix kW (pv 0) kO) kO) kO) kO) (pP (pv 0) kO aH))
   (kF (kS (qG pR (qG kND (qG pR (qG kCK (pix kW (pv 0) kO) (pix kW (pv 0) kO)) kO) kO) (pv 1)))))),?_⟩
 try dsimp only[qK]
 refine⟨_,rfl,a,_,_,_,rfl,rfl,SqL.of b,at0,_,_,rfl,rfl,_,rfl,?_⟩;refine kLB (λ c=>?_) (λ c=>?_)
 ·refine⟨_,rfl,a,_,_,_,rfl,rfl,SqL.of b,at0,_,rfl,x,m,rfl,⟨d,r⟩,λ p hp=>?_⟩
  have g:a≠p:=kJ b hp;refine⟨p,_,rfl,SqT.of kB,rfl,_,_,rfl,_,rfl,a,_,_,0,rfl,rfl,(by rw[kL g];exact b),rfl,_,_,rfl,rfl,?_⟩;refine⟨_,rfl,?_⟩;refine q _ _ (CH _ (by omega)) (BF _ d) ((SameBut.of (kC hp _)).trans kFV) ⟨_,_,kB,?_⟩;exact Int.ediv_nonneg l (by omega)
 ·refine⟨_,rfl,a,_,_,_,rfl,rfl,SqL.of b,at1,_,_,rfl,rfl,.inr ⟨by decide,by decide⟩,_,_,rfl,rfl,_,_,rfl,rfl,(by show(0:Int)<2147483647;decide),?_⟩
  refine⟨_,rfl,a,_,_,1,rfl,rfl,b,rfl,?_⟩;have D:0<=(y*48271+39373) % 2147483647:=CH _ (by decide);have G:(y*48271+39373) % 2147483647<2147483647:=BF _ (by decide);refine⟨_,rfl,a,_,_,_,rfl,rfl,SqL.of kB,at1,_,rfl,a,_,_,_,rfl,rfl,SqL.of kB,at1,_,_,rfl,rfl,.inl ⟨?_,?_⟩,_,_,rfl,rfl,(by show(0:Int)<2147483629;decide),_,_,rfl,rfl,⟨by decide,by decide⟩,_,rfl,_,_,rfl,rfl,d,?_⟩
  ·show -(2 ^ 64)<(y*48271+39373) % 2147483647
   omega
  ·show(y*48271+39373) % 2147483647<2 ^ 64
   omega
  ·exact q _ _ (CH _ (by omega)) (BF _ d) kFV ⟨_,_,kB,l⟩
def PotAt.kept{H H':Hp}{p:ar}(h:PotAt H p)(g:Same H H'):PotAt H' p:=by
 obtain⟨x,y,e,z⟩:=h;exact⟨x,y,g _ _ e,z⟩
def gJ{i:Int}(h:i.natAbs<2 ^ 200):i.natAbs<2 ^ 9000:=cz h (Nat.pow_le_pow_right (by decide) (by decide))
def PotAt.other{H:Hp}{a l:ar}{o:HO}(h:PotAt H a)(n:a≠l):PotAt (upd H l o) a:=by
 obtain⟨x,y,e,z⟩:=h;exact⟨x,y,by rw[kL n];exact e,z⟩
def kQX(s:Nat)(row:List Nat):inV (vn s) (row.map vn)=decide (s∈row):=by
 unfold inV;rw[iH,xj,decide_eq_true_iff];constructor
 ·rintro⟨x,b,e⟩
  obtain⟨n,a,rfl⟩:=ft.mp b;have:((n:Int) == (s:Int))=true:=e
  have:n=s:=by
   have:=eq_of_beq this;omega
  subst this;exact a
 ·intro h
  exact⟨vn s,ft.mpr ⟨s,h,rfl⟩,(beq_self_eq_true (s:Int))⟩
def kNV(row:List Nat):(row.map vn).all vS=true:=by
 rw[List.all_map,ni];intro x _
 rfl
def kLP(row:List Nat)(q:Nat):((row.map ci).eraseIdx (row.idxOf q)).map V.int=(jL row q).map vn:=by
 unfold jL;rw[jE,wM ci]
def kGQ{L:Rows}{i j:Nat}{r:List Nat}{row:List Nat}(h:L[j]?=some row)(n:i≠j):(L.set i r)[j]?=some row:=by rw[eB n];exact h
inductive kJP(vs:List V)(H:Hp)(Q:VK)(Y:XK):Prop
 | mk:∀(r:ar)(A:List ar)(L:Rows)(p q:Nat),(vs=[.ref r,vn p,vn q])->(RowsAt H r A L)->(Good L)->(L.length<=150)->(E L p q)->(∀(L':Rows)(H':Hp),ButRows r A H H'->RowsAt H' r A L'->Good L'->L'.length=L.length->Q .non H')->kJP vs H Q Y
def tV(B:Fx):Hs "_law_flip" ["_law_rows","_law_p","_law_q"] 2 (kJP):=by
 refine qD B.X B.d32 sZ λ f a7 A O s H vs Q E nN D h=>?_;obtain⟨r,T,L,p,q,rfl,X,G,hL,hE,k⟩:=h
 refine⟨_,(kE (pst 3 nN (pf (yI B) D (kD (pv 0) (kD (pv 1) (kD (pv 2) kU)))))
   (kE (pst 4 nN (pf (yI B) D (kD (pv 0) (kD (pv 2) (kD (pv 1) kU)))))
   (kF (xS (PW.pt (kPT (qO nP (pv 3) (pv 4) (jJ _)) (kMW (qO yH (pv 4) (pix kW (pv 0) (pv 3)) rfl)))) (kE (qE (jO Bb Bc nR (pix kW (pv 0) (pv 1)) (p1 (pv 2))))
   (kE (qE (jO Bb Bc nR (pix kW (pv 0) (pv 2)) (p1 (pv 1))))
   (kE (qE (pf (xC B) D (kD (pv 0) (kD (pv 3) (kD (pv 1) (kD (pv 4) kU))))))
   (kF (qE (pf (xC B) D (kD (pv 0) (kD (pv 4) (kD (pv 2) (kD (pv 3) kU)))))))))) jA)))),?_⟩
 try dsimp only[qK]
 obtain⟨d,v,C⟩:=G.sym hE;obtain⟨a,hp,mp⟩:=hE;obtain⟨t,ht⟩:=wF C;obtain⟨u,hu⟩:=wF mp;have f:=yG (G.nd q d v) C ht;have f':=yG (G.nd p a hp) mp hu;have Fq:R L q t p:=⟨d,v,f⟩;have Fp:R L p u q:=⟨a,hp,f'⟩;have Ft:=G.tri _ _ _ Fq;have Fu:=G.tri _ _ _ Fp;obtain⟨Y,g,nt⟩:=id Ft;obtain⟨ru,l,nu⟩:=id Fu;obtain⟨lq,lt,lp,tq,pq⟩:=yE G Fq;obtain⟨_,lu,_,a9,qp⟩:=yE G Fp;obtain⟨_,_,_,pt,qt⟩:=yE G Ft;obtain⟨_,_,_,qu,pu⟩:=yE G Fu;obtain⟨aX,_,M,a5⟩:=X.at v;refine⟨_,rfl,_,rfl,_,rfl,r,aX,_,p,q,d,t,rfl,.inl ⟨X.top,M⟩,a5,C,ht,?_⟩;obtain⟨aY,_,a0,a2⟩:=X.at hp;refine⟨_,rfl,_,rfl,_,rfl,r,aY,_,q,p,a,u,rfl,.inl ⟨X.top,a0⟩,a2,mp,hu,?_⟩;have stay:=k L H (λ _ _ _ _ h=>h) X G rfl;refine⟨_,rfl,_,rfl,rfl,_,rfl,?_⟩;refine kLB (λ c=>?_) (λ c=>xN stay);have tu:t≠u:=λ z=>by subst z;simp[vn]at c
 obtain⟨at',a8,a6,a3⟩:=X.at g;refine⟨_,rfl,_,rfl,_,rfl,r,_,_,_,rfl,rfl,SqL.of X.top,a3,at',_,rfl,.inl (SqL.of a6),rfl,kNV _,_,rfl,?_⟩;rw[kQX];refine kLB (λ c2=>?_) (λ c2=>stay);have ut:u∉Y:=λ z=>by simp[z]at c2
 have gd:=kHW G hp v g l f f' tu ut
 obtain⟨J,m,y,N⟩:=X.at hp;refine⟨_,rfl,_,rfl,r,_,_,_,rfl,rfl,SqL.of X.top,N,.inl ⟨rfl,_,SqL.of y⟩,_,rfl,J,a.map ci,q,a.idxOf q,rfl,rfl,(by rw[y,jE]),qI mp,?_⟩;rw[kLP];have U:=X.set m (jL a q);have a4:=kGQ (i:=p) (r:=jL a q) v pq;obtain⟨S,x,n,I⟩:=U.at a4;refine⟨_,rfl,_,rfl,r,_,_,_,rfl,rfl,SqL.of U.top,I,.inl ⟨rfl,_,SqL.of n⟩,_,rfl,S,d.map ci,p,d.idxOf p,rfl,rfl,(by rw[n,jE]),qI C,?_⟩;rw[kLP];have X2:=U.set x (jL d p)
 have b2:ButRows r T H (upd (upd H J (.lst ((jL a q).map vn))) S (.lst ((jL d p).map vn))):=λ b o h1 h2 h=>by
  rw[kL (λ z=>h2 (by rw[z];exact cu x)),kL (λ z=>h2 (by rw[z];exact cu m))];exact h
 generalize upd (upd H J (.lst ((jL a q).map vn))) S (.lst ((jL d p).map vn))=H2 at *;have Z:=kGQ (i:=q) (r:=jL d p) (kGQ (i:=p) (r:=jL a q) g pt) qt;refine⟨_,rfl,_,rfl,_,rfl,_,rfl,r,T,_,t,p,u,Y,rfl,X2,Z,(kT nt).1,(by have:=bR G g;omega),λ H3 b3 X3=>?_⟩;have a1:=kGQ (i:=t) (r:=jB Y p u) (kGQ (i:=q) (r:=jL d p) (kGQ (i:=p) (r:=jL a q) l pu) qu) tu;refine⟨_,rfl,_,rfl,_,rfl,_,rfl,r,T,_,u,q,t,ru,rfl,X3,a1,(kT nu).1,(by have:=bR G l;omega),λ H4 b4 X4=>?_⟩;exact k _ H4 (b2.trans (b3.trans b4)) X4 gd (by simp[yX])
structure Some'(L:Rows):Prop where
 pos:0<L.length
 le:L.length<=150
 ne:∀(p:Nat)(row:List Nat),L[p]?=some row->row≠[]/\row.length<=1000
def RowsAt.but{H H':Hp}{r a:ar}{A:List ar}{L:Rows}(x:RowsAt H r A L)(h1:a≠r)(f:a∉A)(g:SameBut a H H'):RowsAt H' r A L :=
 ⟨g _ _ h1.symm x.top,x.len,x.nd,x.out,λ i b h c d=>g _ _ (λ z=>f (z ▸ cu c)) (x.row i b h c d)⟩
def rZ{row:List Nat}{j:Nat}(h:j<row.length):atI (row.map vn) (j:Int)=some (vn row[j]):=jW (by rw[ay,aa h];rfl)
inductive kJL(vs:List V)(H:Hp)(Q:VK)(Y:XK):Prop
 | mk:∀(a r:ar)(A:List ar)(L:Rows),(vs=[.ref a,.ref r])->(PotAt H a)->(RowsAt H r A L)->(a≠r)->(a∉A)->(Some' L)->(∀(t:ar)(p q:Nat)(H':Hp),SameBut a H H'->PotAt H' a->H t=none->H' t=some (.tup [vn p,vn q])->E L p q->Q (.ref t) H')->kJL vs H Q Y
def WebAt(H:Hp)(t:ar)(W:Rows):Prop:=∃ b:List ar,H t=some (.tup (b.map V.ref))/\b.length=W.length/\∀(j:Nat)(a:ar)(row:List Nat),b[j]?=some a->W[j]?=some row->H a=some (.tup (row.map vn))
def WebAt.at{H:Hp}{t:ar}{W:Rows}(h:WebAt H t W):∃ ts:List ar,H t=some (.tup (ts.map V.ref))/\ts.length=W.length/\∀(q:Nat)(row:List Nat),W[q]?=some row->∃ b,atI (ts.map V.ref) (q:Int)=some (.ref b)/\H b=some (.tup (row.map vn)):=by
 obtain⟨ts,h1,c,d⟩:=h;refine⟨ts,h1,c,λ q row e=>?_⟩;have a:q<ts.length:=by rw[c];exact(ag.mp e).1
 exact⟨ts[q],jW (by rw[ay,aa a];rfl),d q _ row (aa a) e⟩
def kCF{H:Hp}{a b:ar}{o:HO}(hp:PotAt H a)(e:H b=some o)(n:∀ xs,o≠.lst xs):b≠a:=λ z=>by
 obtain⟨x,y,h,_⟩:=hp;rw[z,h]at e;exact n _ (bj e).symm
def WebAt.pot{H H':Hp}{a t:ar}{W:Rows}(h:WebAt H t W)(g:SameBut a H H')(hp:PotAt H a):WebAt H' t W:=by
 obtain⟨l,h1,i,f⟩:=h;exact⟨l,g _ _ (kCF hp h1 (by simp)) h1,i,λ j b row d c=>g _ _ (kCF hp (f j b row d c) (by simp)) (f j b row d c)⟩
def WebAt.kept{H H':Hp}{t:ar}{W:Rows}(h:WebAt H t W)(g:Same H H'):WebAt H' t W:=by
 obtain⟨i,h1,d,f⟩:=h;exact⟨i,g _ _ h1,d,λ j a row c b=>g _ _ (f j a row c b)⟩
inductive kDX(vs:List V)(H:Hp)(Q:VK)(Y:XK):Prop
 | mk:∀(a r:ar)(W:Rows),(vs=[.ref a,.ref r])->(PotAt H a)->(WebAt H r W)->(0<W.length)->(W.length<=150)->((∀(p:Nat)(row:List Nat),W[p]?=some row->row≠[]/\row.length<=1000))->(∀(t:ar)(p q:Nat)(H':Hp),SameBut a H H'->PotAt H' a->H t=none->H' t=some (.tup [vn p,vn q])->E W p q->Q (.ref t) H')->kDX vs H Q Y
def kMO:Sp:=λ a H Q E=>kJL a H Q E\/kDX a H Q E
def vL(B:Fx):Hs "_law_step" ["_law_pot_here","_law_rows"] 2 (kMO):=by
 refine qD B.X B.d33 sY λ f a4 A a2 s H vs Q E nN M h=>?_;rcases h with h | h
 ·obtain⟨a,r,A1,L,rfl,O,X,G,n,S,k⟩:=h
  refine⟨_,(kE (pst 2 nN (pf (qP B) M (p2 (pv 0) (kM kP rfl (B.z B.y0) eh (p1 (pv 1))))))
   (kF (kS (jI (p2 (pv 2) (pix kW (pix kW (pv 1) (pv 2)) (pf (qP B) M (p2 (pv 0) (kM kP rfl (B.z B.y0) eh (p1 (pix kW (pv 1) (pv 2)))))))))))),?_⟩
  try dsimp only[qK]
  have lA:((A1.map V.ref).length:Int)=L.length:=by rw[af,X.len]
  have sp:=S.pos;have sl:=S.le;refine⟨_,rfl,_,rfl,r,_,rfl,.inl (SqL.of X.top),a,_,rfl,O,(by omega),gJ (by rw[lA];exact gw (m:=150) (by omega) (by decide)),λ d H1 d0 d1 q p1=>?_⟩;rw[lA]at d1;obtain⟨p,rfl⟩:=jw d0;have hp:p<L.length:=by omega
  have N:=X.but G n q;have b:=aa hp;obtain⟨ap,e1,e2,e3⟩:=N.at b;obtain⟨l,Z⟩:=S.ne p _ b;have D:0<L[p].length:=ub.mpr l;have C:((L[p].map vn).length:Int)=L[p].length:=by rw[af]
  refine⟨_,rfl,_,rfl,_,rfl,r,_,_,_,rfl,rfl,SqL.of N.top,e3,_,rfl,_,rfl,_,rfl,r,_,_,_,rfl,rfl,SqL.of N.top,e3,ap,_,rfl,.inl (SqL.of e2),a,_,rfl,p1,(by omega),gJ (by rw[C];exact gw (m:=1000) (by omega) (by decide)),λ d' H2 c0 U i p2=>?_⟩;rw[C]at U;obtain⟨j,rfl⟩:=jw c0;have I:j<L[p].length:=by omega
  have X2:=N.but G n i;have T:ap≠a:=λ z=>n (z ▸ cu e1);refine⟨ap,_,_,_,rfl,rfl,SqL.of (i _ _ T e2),rZ I,yS2,λ t g=>?_⟩;have v:=kC g (.tup [vn p,vn L[p][j]])
  have u:H t=none:=by
   cases e:H t with
   | none=>rfl
   | some o =>
    have ta:t≠a:=λ z=>by
     obtain⟨x,y,w,_⟩:=p2;rw[z,w]at g;cases g
    rw[(q.trans i) t o ta e]at g;cases g
  exact k t p L[p][j] _ (q.trans (i.trans (.of v))) (p2.kept v) u kB ⟨_,b,fe I⟩
 ·obtain⟨a,r,W,rfl,O,hW,w0,w1,wl,k⟩:=h
  refine⟨_,(kE (pst 2 nN (pf (qP B) M (p2 (pv 0) (kM kP rfl (B.z B.y0) eh (p1 (pv 1))))))
   (kF (kS (jI (p2 (pv 2) (pix kX (pix kX (pv 1) (pv 2)) (pf (qP B) M (p2 (pv 0) (kM kP rfl (B.z B.y0) eh (p1 (pix kX (pv 1) (pv 2)))))))))))),?_⟩
  try dsimp only[qK]
  obtain⟨ts,h1,a0,h3⟩:=hW.at;have eL:((ts.map V.ref).length:Int)=(W.length:Int):=by rw[af,a0]
  refine⟨_,rfl,_,rfl,r,_,rfl,.inr (SqT.of h1),a,_,rfl,O,(by omega),gJ (by rw[eL];exact gw (m:=150) (by omega) (by decide)),λ d H1 d0 d1 q p1=>?_⟩;rw[eL]at d1;obtain⟨p,rfl⟩:=jw d0;have hp:p<W.length:=by omega
  have W1:=hW.pot q O;obtain⟨a5,J,a3,Y⟩:=W1.at;have b:=aa hp;obtain⟨b1,f1,f2⟩:=Y p W[p] b;obtain⟨l,Z⟩:=wl p _ b;have D:0<W[p].length:=ub.mpr l;have C:((W[p].map vn).length:Int)=W[p].length:=by rw[af]
  refine⟨_,rfl,_,rfl,_,rfl,r,_,_,_,rfl,rfl,SqT.of J,f1,_,rfl,_,rfl,_,rfl,r,_,_,_,rfl,rfl,SqT.of J,f1,b1,_,rfl,.inr (SqT.of f2),a,_,rfl,p1,(by omega),gJ (by rw[C];exact gw (m:=1000) (by omega) (by decide)),λ c H2 c0 U i p2=>?_⟩;rw[C]at U;obtain⟨j,rfl⟩:=jw c0;have I:j<W[p].length:=by omega
  have a1:=i _ _ (kCF p1 f2 (by simp)) f2;refine⟨b1,_,_,_,rfl,rfl,SqT.of a1,rZ I,yS2,λ t g=>?_⟩;have v:=kC g (.tup [vn p,vn W[p][j]])
  have u:H t=none:=by
   cases e:H t with
   | none=>rfl
   | some o =>
    have ta:t≠a:=λ z=>by
     obtain⟨x,y,w,_⟩:=p2;rw[z,w]at g;cases g
    rw[(q.trans i) t o ta e]at g;cases g
  exact k t p W[p][j] _ (q.trans (i.trans (.of v))) (p2.kept v) u kB ⟨_,b,fe I⟩
def cG{L:Rows}(G:Good L)(h:L.length<=150):Some' L :=
 ⟨by have:=G.three;omega,h,λ p row e=>⟨G.ne p row e,by have:=bR G e;omega⟩⟩
structure New(H:Hp)(a r:ar)(A:List ar):Prop where
 top:H r=none
 all:∀ x∈A,H x=none
 pot:a≠r/\a∉A
def New.but{H d f:Hp}{a r:ar}{A:List ar}(n:New H a r A)(s:SameBut a H d)(b:ButRows r A d f):SameBut a H f:=λ c o g e =>
 b c o (kJ e n.top) (λ z=>by rw[n.all c z]at e;cases e) (s c o g e)
def PotAt.rows{H H':Hp}{a r:ar}{A:List ar}(h:PotAt H a)(h1:a≠r)(c:a∉A)(b:ButRows r A H H'):PotAt H' a:=by
 obtain⟨x,y,e,z⟩:=h;exact⟨x,y,b _ _ h1 c e,z⟩
inductive fJ(vs:List V)(H:Hp)(Q:VK)(Y:XK):Prop
 | mk:∀(a:ar)(n:Nat),(vs=[.ref a,vn n])->(PotAt H a)->(3<=n)->(n<=40)->(∀(r:ar)(A:List ar)(L:Rows)(H':Hp),SameBut a H H'->PotAt H' a->RowsAt H' r A L->Good L->L.length=n->New H a r A->Q (.ref r) H')->fJ vs H Q Y
def kDC{H:Hp}{c d f r:ar}(G:H c=none)(B:upd H c (.lst [vn 1,vn 2]) d=none)(q:upd (upd H c (.lst [vn 1,vn 2])) d (.lst [vn 2,vn 0]) f=none)
  (m:upd (upd (upd H c (.lst [vn 1,vn 2])) d (.lst [vn 2,vn 0])) f (.lst [vn 0,vn 1]) r=none) :
  RowsAt (upd (upd (upd (upd H c (.lst [vn 1,vn 2])) d (.lst [vn 2,vn 0])) f (.lst [vn 0,vn 1])) r (.lst [.ref c,.ref d,.ref f])) r [c,d,f] [[1,2],[2,0],[0,1]]/\Same H (upd (upd (upd (upd H c (.lst [vn 1,vn 2])) d (.lst [vn 2,vn 0])) f (.lst [vn 0,vn 1])) r (.lst [.ref c,.ref d,.ref f])):=by
 have C:=kC G (.lst [vn 1,vn 2]);have n:=kC B (.lst [vn 2,vn 0]);have g:=kC q (.lst [vn 0,vn 1]);have l:=kC m (.lst [.ref c,.ref d,.ref f]);have h1:=l _ _ (g _ _ (n _ _ (kB (H:=H) (a:=c) (o:=.lst [vn 1,vn 2]))));have I:=l _ _ (g _ _ (kB (H:=upd H c (.lst [vn 1,vn 2])) (a:=d) (o:=.lst [vn 2,vn 0])));have D:=l _ _ (kB (H:=upd (upd H c (.lst [vn 1,vn 2])) d (.lst [vn 2,vn 0])) (a:=f) (o:=.lst [vn 0,vn 1]));have A:c≠d:=kJ (kB (H:=H) (a:=c) (o:=.lst [vn 1,vn 2])) B;have x:c≠f:=kJ (n _ _ (kB (H:=H) (a:=c) (o:=.lst [vn 1,vn 2]))) q;have v:d≠f:=kJ (kB (H:=upd H c (.lst [vn 1,vn 2])) (a:=d) (o:=.lst [vn 2,vn 0])) q;have p:c≠r:=kJ (g _ _ (n _ _ (kB (H:=H) (a:=c) (o:=.lst [vn 1,vn 2])))) m;have s:d≠r:=kJ (g _ _ (kB (H:=upd H c (.lst [vn 1,vn 2])) (a:=d) (o:=.lst [vn 2,vn 0]))) m;have u:f≠r:=kJ (kB (H:=upd (upd H c (.lst [vn 1,vn 2])) d (.lst [vn 2,vn 0])) (a:=f) (o:=.lst [vn 0,vn 1])) m;refine⟨⟨kB,rfl,?_,?_,λ i b J h y=>?_⟩,C.trans (n.trans (g.trans l))⟩
 ·simp[A,x,v]
 ·simp[p.symm,s.symm,u.symm]
 ·match i with
  | 0=>cases h;cases y;exact h1
  | 1=>cases h;cases y;exact I
  | 2=>cases h;cases y;exact D
  | i+3=>simp at h
def dS(B:Fx):Hs "_law_cornered" ["_law_pot_here","_law_n"] 3 (fJ):=by
 refine qD B.X B.d34 dP λ f a6 A a1 s H vs Q E D Z h=>?_;obtain⟨a,n,rfl,ha,n3,a7,k⟩:=h
 refine⟨_,(kE (pst 2 D (jF (kD (jF (p2 kO kO)) (kD (jF (p2 kO kO)) (kD (jF (p2 kO kO)) kU)))))
   (kE (uE (qN rfl (B.z B.y4) (p1 (qG zQ (pv 1) kO))) (pgn 3 D) (kE (yU (pf (vL B) Z (p2 (pv 0) (pv 2))) (jZ (n:=2) rfl (kR (pgn 4 D) (kR (pgn 5 D) jD))))
   (kF (qE (pf (kCR B) Z (kD (pv 2) (kD (pv 4) (kD (pv 5) kU))))))))
   (kE (uE (qN rfl (B.z B.y4) (p1 (pf (qP B) Z (p2 (pv 0) (qG Own.op_mulW kO (pv 1)))))) (pgn 3 D) (kE (yU (pf (vL B) Z (p2 (pv 0) (pv 2))) (jZ (n:=2) rfl (kR (pgn 4 D) (kR (pgn 5 D) jD))))
   (kF (qE (pf (tV B) Z (kD (pv 2) (kD (pv 4) (kD (pv 5) kU))))))))
   (kF (kS (pv 2)))))),?_⟩
 try dsimp only[qK]
 refine⟨yS2,λ S m1=>⟨yS2,λ l2 m2=>⟨yS2,λ l3 m3=>⟨yS3,λ r m4=>?_⟩⟩⟩⟩;obtain⟨X0,g0⟩:=kDC m1 m2 m3 m4;have p0:=ha.kept g0
 have T:New H a r [S,l2,l3]:=by
  obtain⟨x,y,l,_⟩:=ha;have g1:=kC m1 (.lst [vn 1,vn 2]);have g2:=kC m2 (.lst [vn 2,vn 0]);have g3:=kC m3 (.lst [vn 0,vn 1]);have f2:=g1.free m2;have f3:=(g1.trans g2).free m3;have f4:=(g1.trans (g2.trans g3)).free m4;refine⟨f4,λ x u=>?_,kJ l f4,λ z=>?_⟩
  ·simp at u
   rcases u with rfl | rfl | rfl
   ·exact m1
   ·exact f2
   ·exact f3
  ·simp at z
   rcases z with rfl | rfl | rfl
   ·rw[m1]at l;cases l
   ·rw[f2]at l;cases l
   ·rw[f3]at l;cases l
 generalize a4:upd (upd (upd (upd H S (.lst [vn 1,vn 2])) l2 (.lst [vn 2,vn 0])) l3 (.lst [vn 0,vn 1])) r (.lst [.ref S,.ref l2,.ref l3])=H1 at *;have a0:upd (upd (upd (upd H S (.lst [.int 1,.int 2])) l2 (.lst [.int 2,.int 0])) l3 (.lst [.int 0,.int 1])) r (.lst [.ref S,.ref l2,.ref l3])=H1:=a4;rw[a0]
 refine⟨_,rfl,_,_,rfl,rfl,_,rfl,by omega,by omega,jN (lo:=0) (n:=((n:Int)-3).toNat) (λ i I Y=>∃(x y z:Option V)(A:List ar)(L:Rows),I=[some (.ref a),some (vn n),some (.ref r),x,y,z]/\RowsAt Y r A L/\Good L/\L.length=3+i/\SameBut a H Y/\PotAt Y a/\New H a r A)
  ⟨none,none,none,_,_,rfl,X0,kDD,rfl,.of g0,p0,T⟩ ?_ ?_⟩
 ·rintro i I Y hi ⟨x,y,z,C,L,rfl,X,G,hl,s2,p2,c⟩
  have g:L.length<=150:=by omega
  refine⟨_,rfl,_,rfl,.inl ⟨a,r,C,L,rfl,p2,X,c.pot.1,c.pot.2,cG G g,λ t p q H3 N p3 nt ht hE=>?_⟩⟩;have X3:=X.but c.pot.1 c.pot.2 N;refine⟨t,_,rfl,SqT.of ht,rfl,_,_,rfl,_,_,rfl,rfl,?_⟩;refine⟨_,rfl,_,rfl,_,rfl,r,C,L,p,q,rfl,X3,G,g,hE,λ nx L' J u b4 M G' a2=>?_⟩;have O:=c.but (s2.trans N) b4;have p4:=p3.rows c.pot.1 c.pot.2 b4
  have a3:H nx=none:=by
   cases e:H nx with
   | none=>rfl
   | some o =>
    have na:nx≠a:=λ z=>by
     obtain⟨v,w,l,_⟩:=p3;rw[z,l]at u;cases u
    rw[(s2.trans N) nx o na e]at u;cases u
  refine⟨_,_,_,C++[nx],L',rfl,M,G',by omega,O,p4,c.top,λ b hb=>?_,c.pot.1,λ z=>?_⟩
  ·rcases bp.mp hb with w | w
   ·exact c.all b w
   ·rw[dg.mp w];exact a3
  ·rcases bp.mp z with w | w
   ·exact c.pot.2 w
   ·have e:=dg.mp w
    obtain⟨v,w',l,_⟩:=p3;rw[<-e,l]at u;cases u
 ·rintro I Y ⟨x,y,z,C,L,rfl,X,G,hl,s2,p2,c⟩
  have hn:L.length=n:=by omega
  refine⟨_,rfl,_,rfl,_,_,rfl,rfl,⟨gJ (by decide),gJ (gw (m:=40) (by show((n:Int)).natAbs<=40;omega) (by decide))⟩,a,_,rfl,p2,(by show(0:Int)<2*(n:Int);omega),gJ (gw (m:=80) (by show(2*(n:Int)).natAbs<=80;omega) (by decide)),λ d H3 d0 d1 N p3=>?_⟩;have a5:d<2*(n:Int):=d1
  refine⟨d,rfl,by omega,by omega,jN (lo:=0) (n:=d.toNat) (λ i I J=>∃(x y z:Option V)(L:Rows),I=[some (.ref a),some (vn n),some (.ref r),x,y,z]/\RowsAt J r C L/\Good L/\L.length=n/\SameBut a H J/\PotAt J a)
   ⟨_,_,_,L,rfl,X.but c.pot.1 c.pot.2 N,G,hn,s2.trans N,p3⟩ ?_ ?_⟩
  ·rintro i I J hi ⟨x,y,z,L4,rfl,M,G4,U,O,p4⟩
   have g:L4.length<=150:=by omega
   refine⟨_,rfl,_,rfl,.inl ⟨a,r,C,L4,rfl,p4,M,c.pot.1,c.pot.2,cG G4 g,λ t p q H5 s5 p5 nt ht hE=>?_⟩⟩;have X5:=M.but c.pot.1 c.pot.2 s5;refine⟨t,_,rfl,SqT.of ht,rfl,_,_,rfl,_,_,rfl,rfl,?_⟩;refine⟨_,rfl,_,rfl,_,rfl,r,C,L4,p,q,rfl,X5,G4,g,hE,λ L' H6 b6 X6 G' a2=>?_⟩;exact⟨_,_,_,L',rfl,X6,G',by omega,c.but (O.trans s5) b6,p5.rows c.pot.1 c.pot.2 b6⟩
  ·rintro I J ⟨x,y,z,L4,rfl,M,G4,U,O,p4⟩
   exact⟨_,rfl,k r C L4 J O p4 M G4 U c⟩
def tR{b:List Nat}{i d:Nat}(h:b.Perm (df i)):(b.take d++i::b.drop d).Perm (df (i+1)):=by
 rw[Au]
 have e:(b.take d++i::b.drop d).Perm (i::b):=by
  have:=Dv (a:=i) (l₁:=b.take d) (l₂:=b.drop d);rw[gh]at this;exact this
 exact e.trans ((List.Perm.cons i h).trans (List.perm_append_singleton i _).symm)
def vU(xs:List V){k:Nat}(h:k<=xs.length):wZ xs (some (k:Int)) none=xs.drop k:=by
 unfold wZ;rw[HT.sIx_none,HT.sIx_nat,jq h,jd];rw[iJ];exact av _
def cJ(xs:List V){k:Nat}(h:k<=xs.length):wZ xs none (some (k:Int))=xs.take k:=by
 unfold wZ;rw[HT.sIx_none,HT.sIx_nat,jq h,Ek,Di]
def kMF(L:Rows)(a:List Nat)(W:Rows)(p:Nat):Prop:=∀ row,L[p]?=some row->∃ n M,a[p]?=some n/\M∈row.map (λ q=>a.getD q 0)/\(∀ i∈row.map (λ q=>a.getD q 0),M<=i)/\W[n]?=some (rot (row.map λ q=>a.getD q 0) M)
inductive kJI(vs:List V)(H:Hp)(Q:VK)(Y:XK):Prop
 | mk:∀(a:ar)(n:Nat),(vs=[.ref a,vn n])->(PotAt H a)->(3<=n)->(n<=40)->(∀(t:ar)(W:Rows)(H':Hp),SameBut a H H'->PotAt H' a->WebAt H' t W->W.length=n->Good W->(∀(p:Nat)(row:List Nat),W[p]?=some row->Can row)->Q (.ref t) H')->kJI vs H Q Y
def kFH{n j:Nat}(h:j<n):ixN n (j:Int)=some j:=by
 unfold ixN;rw[if_pos (by omega),if_pos (by omega),fg]
def kY{H a:Hp}{D:ar}{o:HO}(n:H D=none)(g:Same H a):Same H (upd a D o):=λ b u e=>by
 rw[kL (kJ e n)];exact g b u e
def tM(n:Nat)(e:ar):(dh n [V.ref e]).flatten=(dh n e).map V.ref:=by
 induction n with
 | zero=>rfl
 | succ n ih=>rw[om,om,wg,ih];rfl
end
section
def tJ{n k:Nat}(h:k<=n):HT.sIx n 0 (some (k:Int))=k:=by rw[HT.sIx_nat,jq h]
def kJX{n k:Nat}(h:k<=n):HT.sIx n n (some (k:Int))=k:=by rw[HT.sIx_nat,jq h]
def pJ(a:List Nat)(x:Nat):(a.map vn).drop (a.idxOf x)++(a.map vn).take (a.idxOf x)=(rot a x).map vn:=by unfold rot;rw[dw,Bl,BE]
inductive sT(vs:List V)(H:Hp)(Q:VK)(Y:XK):Prop
 | mk:∀(a:ar)(ns:List Nat)(x:Nat),(vs=[.ref a,vn x])->((H a=some (.lst (ns.map vn))\/H a=some (.tup (ns.map vn))))->(x∈ns)->(ns.length<=1000)->(∀(t:ar)(H':Hp),Same H H'->H' t=some (.tup ((rot ns x).map vn))->Q (.ref t) H')->sT vs H Q Y
def uU(B:Fx):Hs "from_on" ["row","first"] 1 (sT):=by
 refine qD B.X B.d2 kCB λ f x A u s H G Q E v I h=>?_;obtain⟨D,a,m,rfl,b,i,r,k⟩:=h;have J:=fj i;have d:(a.map vn).length=a.length:=af _;rcases b with b | b
 ·refine⟨_,(kE (pst 2 v (jO mj mm vM (pv 0) (p1 (pv 1))))
   (kF (kS (qJ qA rfl (B.z B.y5) fc (p1 (qG gC (jK zA (pv 0) (jP (pv 2)) xZ) (jK zA (pv 0) xZ (jP (pv 2))))))))),?_⟩
  try dsimp only[qK]
  refine⟨_,rfl,.inl ⟨rfl,_,SqL.of b⟩,_,rfl,D,a.map ci,m,a.idxOf m,rfl,rfl,(by rw[b,jE]),qI i,?_⟩;refine⟨_,rfl,_,rfl,_,rfl,D,_,rfl,SqL.of b,λ p1 p=>?_⟩;rw[vU _ (by rw[d];omega)];have h1:=kC p (.lst ((a.map vn).drop (a.idxOf m)));refine⟨_,rfl,_,rfl,_,rfl,D,_,rfl,SqL.of (h1 _ _ b),λ p2 l=>?_⟩;rw[cJ _ (by rw[d];omega)];have g:=kC l (.lst ((a.map vn).take (a.idxOf m)));refine⟨p1,p2,_,_,rfl,rfl,g _ _ kB,kB,(by rw[iJ,eO,d];exact ka (kQ (by omega))),λ n o=>?_⟩;have q:=kC o (.lst ((a.map vn).drop (a.idxOf m)++(a.map vn).take (a.idxOf m)));refine⟨n,_,rfl,.inl ⟨SqL.of kB,λ t y=>?_⟩⟩;exact k t _ (h1.trans (g.trans (q.trans (kC y _)))) (by rw[<-pJ];exact kB)
 ·refine⟨_,(kE (pst 2 v (cY ji jl jm yK (pv 0) (p1 (pv 1))))
   (kF (kS (qJ qA rfl (B.z B.y5) fc (p1 (qG kEX (jK oU (pv 0) (jP (pv 2)) xZ) (jK oU (pv 0) xZ (jP (pv 2))))))))),?_⟩
  try dsimp only[qK]
  refine⟨_,rfl,.inr (.inl ⟨rfl,.inr ⟨_,b⟩⟩),_,rfl,D,a.map ci,m,a.idxOf m,rfl,rfl,SqT.of (by rw[b,jE]),qI i,?_⟩;by_cases z:a.idxOf m=0
  ·have C:rot a m=a:=by unfold rot;rw[z];simp
   rw[C]at k;refine⟨_,rfl,_,rfl,_,rfl,.inr ⟨D,_,rfl,SqT.of b,⟨by rw[z,d];exact tJ (k:=0) (fv _),HT.sIx_none _ _⟩,?_⟩⟩;refine⟨_,rfl,_,rfl,_,rfl,.inl ⟨D,_,rfl,SqT.of b,(λ c=>by rw[d,kJX (by omega)]at c;omega),λ p2 l=>?_⟩⟩;rw[cJ _ (by rw[d];omega),z];have g:=kC l (.tup ((a.map vn).take 0));refine⟨D,p2,_,_,rfl,rfl,SqT.of (g _ _ b),SqT.of kB,(λ c=>by rw[Af]at c;rw[c]at i;cases i),(by rw[d];simp;exact kJU r),λ _=>?_,λ c=>absurd rfl c⟩;exact⟨D,_,rfl,.inr ⟨SqT.of (g _ _ b),k D _ g (g _ _ b)⟩⟩
  ·refine⟨_,rfl,_,rfl,_,rfl,.inl ⟨D,_,rfl,SqT.of b,(λ c=>by rw[d,tJ (by omega)]at c;exact z c.1),λ p1 p=>?_⟩⟩
   rw[vU _ (by rw[d];omega)];have h1:=kC p (.tup ((a.map vn).drop (a.idxOf m)));refine⟨_,rfl,_,rfl,_,rfl,.inl ⟨D,_,rfl,SqT.of (h1 _ _ b),(λ c=>by rw[d,kJX (by omega)]at c;omega),λ p2 l=>?_⟩⟩;rw[cJ _ (by rw[d];omega)];have g:=kC l (.tup ((a.map vn).take (a.idxOf m)));refine⟨p1,p2,_,_,rfl,rfl,SqT.of (g _ _ kB),SqT.of kB,(λ c=>by have:=congrArg iB c;rw[iJ,d,ow]at this;omega),(by rw[iJ,eO,d];exact kJU (by omega)),(λ c=>by have:=congrArg iB c;rw[eO,d,ow]at this;omega),λ _ n o=>?_⟩;have q:=kC o (.tup ((a.map vn).drop (a.idxOf m)++(a.map vn).take (a.idxOf m)));refine⟨n,_,rfl,.inr ⟨SqT.of kB,?_⟩⟩;exact k n _ (h1.trans (g.trans q)) (by rw[<-pJ];exact kB)
inductive sQ(vs:List V)(H:Hp)(Q:VK)(Y:XK):Prop
 | mk:∀(a:ar)(ns:List Nat),(vs=[.ref a])->((H a=some (.lst (ns.map vn))\/H a=some (.tup (ns.map vn))))->(ns≠[])->(ns.length<=1000)->(∀(M:Nat)(t:ar)(H':Hp),M∈ns->(∀ i∈ns,M<=i)->Same H H'->H' t=some (.tup ((rot ns M).map vn))->Q (.ref t) H')->sQ vs H Q Y
def kAH{a:List Nat}{M:Int}(d:M∈a.map ci)(b:∀ i∈a.map ci,M<=i):∃ m,M=ci m/\m∈a/\∀ j∈a,m<=j:=by
 obtain⟨m,f,rfl⟩:=ft.mp d
 exact⟨m,rfl,f,λ j c=>by
  have:=b (ci j) (ft.mpr ⟨j,c,rfl⟩);simp only[ci]at this;omega⟩
def mH(B:Fx):Hs "from_least" ["row"] 2 (sQ):=by
 refine qD B.X B.d3 mD λ f x A r s H y Q E C v h=>?_;obtain⟨D,i,rfl,u,cne,l,k⟩:=h;have a:0<i.length:=ub.mpr cne;rcases id u with c | c
 ·refine⟨_,(kF (kS (pf (uU B) v (p2 (pv 0) (kM (oG rfl) rfl (B.z B.y6) we (p1 (pv 0))))))),?_⟩
  try dsimp only[qK]
  refine⟨_,rfl,_,rfl,D,i.map ci,rfl,SqL.of (by rw[c,jE]),(by rw[af];exact a),λ M o d=>?_⟩;obtain⟨m,rfl,n,b⟩:=kAH o d;exact⟨D,i,m,rfl,u,n,l,λ t p g q=>k m t p n b g q⟩
 ·refine⟨_,(kF (kS (pf (uU B) v (p2 (pv 0) (kM (kIH rfl) rfl (B.z B.y6) we (p1 (pv 0))))))),?_⟩
  try dsimp only[qK]
  refine⟨_,rfl,_,rfl,D,i.map ci,rfl,SqT.of (by rw[c,jE]),(by rw[af];exact a),λ M o d=>?_⟩;obtain⟨m,rfl,n,b⟩:=kAH o d;exact⟨D,i,m,rfl,u,n,l,λ t p g q=>k m t p n b g q⟩
end
section
def wQ(s:Nat)(row:List Nat):inV (vn s) (row.map vn)=decide (s∈row):=by
 unfold inV;rw[iH,xj,decide_eq_true_iff];constructor
 ·rintro⟨y,a,e⟩
  obtain⟨n,b,rfl⟩:=ft.mp a;have:(n:Int)=s:=by simpa[eqV,vn] using e
  rw[show s=n by omega];exact b
 ·intro h
  exact⟨vn s,ft.mpr ⟨s,h,rfl⟩,by simp[eqV,vn]⟩
def zZ(row:List Nat):(row.map vn).all vS=true:=by
 rw[ni];intro y a;obtain⟨n,b,rfl⟩:=ft.mp a
 rfl
inductive mU(vs:List V)(H:Hp)(Q:VK)(Y:XK):Prop
 | mk:∀(t z:ar)(W:Rows)(p q:Nat),(vs=[.ref t,.ref z])->(WebAt H t W)->(H z=some (.tup [vn p,vn q]))->(Nb W)->(E W p q)->(∀(y:ar)(H':Hp),Same H H'->H y=none->H' y=some (.tup [vn (nxt W (p,q)).1,vn (nxt W (p,q)).2])->Q (.ref y) H')->mU vs H Q Y
def kMU{W:Rows}(S:Nb W){q v p:Nat}(h:R W q v p):∃ row,W[q]?=some row/\p∈row/\jX row p=some v:=by
 obtain⟨row,e,n⟩:=h;exact⟨row,e,(kT n).2,pN (S.nd _ _ e) n⟩
def nQ(B:Fx):Hs "behind" ["web","step"] 1 (mU):=by
 refine qD B.X B.d6 kGU λ f l A d s H I Q E c J h=>?_;obtain⟨t,z,W,p,q,rfl,x,r,S,G,k⟩:=h
 refine⟨_,(kE (yU (pv 1) (jZ (n:=2) rfl (kR (pgn 2 c) (kR (pgn 3 c) jD))))
   (kE (pst 4 c (pix kX (pv 0) (pv 3)))
   (kF (kS (jI (p2 (pv 3) (pix kX (pv 4) (qG zQ (cY ji jl jm yK (pv 4) (p1 (pv 2))) kO)))))))),?_⟩
 try dsimp only[qK]
 obtain⟨v,C,D,_⟩:=xK S G;obtain⟨row,o,hp,m⟩:=kMU S C;obtain⟨L,h1,_,u⟩:=x.at;obtain⟨b,i,a⟩:=u q row o;rw[D]at k;refine⟨_,rfl,z,_,rfl,SqT.of r,rfl,_,_,rfl,_,_,rfl,rfl,?_⟩;refine⟨_,rfl,_,rfl,t,_,_,_,rfl,rfl,SqT.of h1,i,?_⟩;refine⟨_,rfl,_,rfl,_,rfl,.inr (.inl ⟨rfl,.inr ⟨_,a⟩⟩),_,rfl,b,row.map ci,p,row.idxOf p,rfl,rfl,SqT.of (by rw[a,jE]),qI hp,_,_,rfl,rfl,b,_,_,_,rfl,rfl,SqT.of a,rQ hp m,yS2,λ y g=>?_⟩;exact k y _ (kC g _) g kB
def prD(x y:Nat):Bs:=.tuple [.int (x:Int),.int (y:Int)]
def fY(x y:Nat):nh (prD x y)=true:=by
 first | rfl | simp[prD,nh,ui,sj,vd,vt]
def kES(x y u v:Nat):kl (prD x y) (prD u v)=decide (x=u/\y=v):=by
 have e:∀ i j:Nat,((i:Int) == (j:Int))=decide (i=j):=λ i j=>by
  rw[iH,beq_iff_eq,decide_eq_true_iff];omega
 simp[prD,kl,jz,e]
def kLR{K:au}{H:Hp}{z:ar}{x y:Nat}(h:H z=some (.tup [vn x,vn y])):Dt K H (prD x y) (.ref z):=by
 unfold prD Dt;exact⟨z,_,rfl,SqT.of h,by simp only[DtAll,Dt];exact⟨_,_,rfl,rfl,_,_,rfl,rfl,rfl⟩⟩
def PairsAt(H:Hp)(s:ar)(T:List (Nat×Nat)):Prop:=∃ a:List ar,H s=some (.lst (a.map V.ref))/\a.length=T.length/\∀(i:Nat)(b:ar)(t:Nat×Nat),a[i]?=some b->T[i]?=some t->H b=some (.tup [vn t.1,vn t.2])
def PairsAt.kept{H H':Hp}{s:ar}{T:List (Nat×Nat)}(h:PairsAt H s T)(g:Same H H'):PairsAt H' s T:=by
 obtain⟨a,h1,f,l⟩:=h;exact⟨a,g _ _ h1,f,λ i b t d c=>g _ _ (l i b t d c)⟩
def PairsAt.app{H H':Hp}{s b:ar}{a:List ar}{T:List (Nat×Nat)}{t:Nat×Nat}(h1:H s=some (.lst (a.map V.ref)))(h:a.length=T.length)(n:∀(i:Nat)(b:ar)(t:Nat×Nat),a[i]?=some b->T[i]?=some t->H b=some (.tup [vn t.1,vn t.2]))(g:H b=some (.tup [vn t.1,vn t.2])) :
  PairsAt (upd H s (.lst (a.map V.ref++[.ref b]))) s (T++[t]):=by
 refine⟨a++[b],by rw[dw];exact kB,by simp[h],λ i c u d f=>?_⟩;have l:c≠s->upd H s (.lst (a.map V.ref++[.ref b])) c=H c:=λ z=>kL z;by_cases m:i<a.length
 ·rw[bh m]at d
  rw[bh (by omega)]at f;have:=n i c u d f;rw[l (yB this h1 (by simp))];exact this
 ·have:i=a.length:=by
   have:=(ag.mp d).1;simp at this;omega
  subst this;rw[fq]at d;rw[h,fq]at f;cases d
  cases f
  rw[l (yB g h1 (by simp))];exact g
def orb(W:Rows)(p q k:Nat):List (Nat×Nat):=(df k).map λ i=>it (nxt W) i (p,q)
def kKN(W:Rows)(p q k:Nat):orb W p q (k+1)=orb W p q k++[it (nxt W) k (p,q)]:=by
 unfold orb;rw[Au,dw]
 rfl
def pQ(W:Rows)(p q k:Nat):(orb W p q k).length=k:=by simp[orb]
structure Turns(W:Rows)(p q k:Nat):Prop where
 pos:0<k
 back:it (nxt W) k (p,q)=(p,q)
 first:∀ j,0<j->j<k->it (nxt W) j (p,q)≠(p,q)
 few:k<=(kN W).length
def kIO{W:Rows}(S:Nb W){p q:Nat}(h:E W p q):∃ k,Turns W p q k:=by
 obtain⟨k,h1,c,a,b⟩:=(gD S.nd S.sym).comes (mem_steps.mpr h);exact⟨k,h1,a,b,c⟩
def aG{W:Rows}(S:Nb W)(h:W.length<=42):(kN W).length<=1764:=by
 rw[xY]
 have:∀(L:List (List Nat))(n:Nat),(∀ r∈L,r.length<=n)->(L.map iB).sum<=L.length*n:=λ L n b=>by
  induction L with
  | nil=>simp
  | cons r L ih =>
   have h1:=b r (by simp);have d:=ih λ r a=>b r (by simp[a]);simp only[eo,AI,eQ,Nat.add_mul,Nat.one_mul];omega
 have h1:=this W W.length λ r a=>by
  obtain⟨i,c,rfl⟩:=eY.mp a;exact S.len (aa c)
 have d:W.length*W.length<=42*42:=Nat.mul_le_mul h h;omega
inductive sN(vs:List V)(H:Hp)(Q:VK)(Y:XK):Prop
 | mk:∀(w z:ar)(W:Rows)(p q:Nat),(vs=[.ref w,.ref z])->(WebAt H w W)->(Nb W)->(W.length<=42)->(H z=some (.tup [vn p,vn q]))->(E W p q)->(∀(s:ar)(k:Nat)(H':Hp),Same H H'->Turns W p q k->PairsAt H' s (orb W p q k)->Q (.ref s) H')->sN vs H Q Y
def lO:Option HO->Nat
 | some (.lst xs)=>xs.length
 | some (.dK kvs)=>kvs.length
 | _=>0
def kSK(b:Nat)(a:St)(H:Hp):Nat:=match a with
 | [_,_,some (.ref s),_]=>b-lO (H s)
 | _=>0
def vK(B:Fx):Hs "steps_round" ["web","step"] 2 (sN):=by
 refine qD B.X B.d7 fO λ f a4 A a1 s0 H vs Q E nN M h=>?_;obtain⟨w,z,W,p,q,rfl,hW,S,a2,O,hE,k⟩:=h
 refine⟨_,(kE (pst 2 nN (jF (p1 (pv 1))))
   (kE (pst 3 nN (pf (nQ B) M (p2 (pv 0) (pv 1))))
   (kE (tQ CD (qO (kCJ M.units) (pv 3) (pv 1) (jJ _)) (kE (qE (jO iQ iR jU (pv 2) (p1 (pv 3))))
   (kF (pst 3 nN (pf (nQ B) M (p2 (pv 0) (pv 3)))))))
   (kF (kS (pv 2)))))),?_⟩
 try dsimp only[qK]
 obtain⟨n,T⟩:=kIO S hE;have I:=aG S a2;have n9:=T.few;refine⟨_,rfl,yS1,λ s ns=>?_⟩;have Y:=kC ns (.lst [.ref z]);refine⟨_,rfl,_,rfl,w,z,W,p,q,rfl,hW.kept Y,Y _ _ O,S,hE,λ y H1 g1 ny x=>?_⟩;have Z:=g1 _ _ (kB (H:=H) (a:=s) (o:=.lst [.ref z]));have G:=Y.trans g1
 refine rY (λ U g=>∃(y:ar)(i:Nat)(r:List ar),U=[some (.ref w),some (.ref z),some (.ref s),some (.ref y)]/\Same H g/\0<i/\i<=n /\
   g s=some (.lst (r.map V.ref))/\r.length=i/\(∀(j:Nat)(b:ar)(t:Nat×Nat),r[j]?=some b->(orb W p q i)[j]?=some t->g b=some (.tup [vn t.1,vn t.2]))/\g y=some (.tup [vn (it (nxt W) i (p,q)).1,vn (it (nxt W) i (p,q)).2])) (kSK (n+1))
  ⟨y,1,[z],rfl,G,by omega,T.pos,Z,rfl,(λ j b t D L=>?_),x⟩ ?_ ?_
 ·match j,D with
  | 0,D =>
   cases D
   have:t=(p,q):=by
    have:(orb W p q 1)[0]?=some (p,q):=rfl;rw[this]at L;exact(bj L).symm
   rw[this];exact G _ _ O
 ·rintro U g ⟨y,i,r,rfl,g2,i0,i1,C,ls,u,x⟩
  have a3:=g2 _ _ O;refine⟨_,rfl,_,rfl,_,prD p q,kLR x,kLR a3,fY _ _,fY _ _,_,rfl,?_⟩;rw[kES];by_cases c:it (nxt W) i (p,q)=(p,q)
  ·rw[decide_eq_true (by rw[c];exact⟨rfl,rfl⟩)]
   have:i=n:=by
    rcases fw i n with l | l
    ·exact absurd c (T.first i i0 l)
    ·omega
   subst this;exact⟨_,rfl,k s i g g2 T ⟨r,C,by rw[pQ];exact ls,u⟩⟩
  ·rw[decide_eq_false (λ z=>c (kr z.1 z.2))]
   have lt:i<n:=by
    rcases fw i n with l | l
    ·exact l
    ·exact absurd (by rw[show i=n by omega];exact T.back) c
   refine⟨_,rfl,.inl ⟨rfl,_,SqL.of C⟩,_,rfl,s,_,_,rfl,rfl,C,(by rw[af];exact yQ (by omega)),?_⟩;have A1:=PairsAt.app (H':=g) C (by rw[pQ];exact ls) u (t:=it (nxt W) i (p,q)) x;rw[<-kKN]at A1;have gu:Same H (upd g s (.lst (r.map V.ref++[V.ref y]))):=kY ns g2;have sy:y≠s:=yB x C (by simp);have a0:upd g s (.lst (r.map V.ref++[V.ref y])) y=some (.tup [vn (it (nxt W) i (p,q)).1,vn (it (nxt W) i (p,q)).2]):=by rw[kL sy];exact x
   generalize upd g s (.lst (r.map V.ref++[V.ref y]))=H3 at *;refine⟨_,rfl,_,rfl,w,y,W,_,_,rfl,hW.kept gu,a0,S,kFI S hE i,λ y' H4 g4 a5 N=>?_⟩;obtain⟨J,b1,b2,b3⟩:=A1.kept g4;rw[pQ]at b2;refine⟨⟨y',i+1,J,rfl,gu.trans g4,by omega,lt,b1,b2,b3,N⟩,?_⟩;show n+1-lO (H4 s)<n+1-lO (g s);rw[b1,C];show n+1-(J.map V.ref).length<n+1-(r.map V.ref).length;rw[af,af,b2,ls];clear u b3 I;omega
 ·rintro U H1 Q1 Q2 m ⟨v,D,v2,L,d,e,h1,h2,h3,h4,kk,e5,q1⟩
  exact⟨v,D,v2,L,d,e,h1,h2,h3,h4,kk,e5,m _ _ q1⟩
end
section
def kTU(b:Nat)(a:St)(H:Hp):Nat:=match a with
 | [_,_,_,_,some (.ref s)]=>b-lO (H s)
 | _=>0
end
section
theorem kAW{H:Hp}:∀{a:List ar}{T:List (Nat×Nat)},a.length=T.length->(∀(i:Nat)(b:ar)(t:Nat×Nat),a[i]?=some b->T[i]?=some t->H b=some (.tup [vn t.1,vn t.2]))->DtAll K H (T.map λ t=>prD t.1 t.2) (a.map V.ref)
 | [],[],_,_=>by unfold DtAll;rfl
 | s::a,t::T,hl,h=>by
  rw[eo,eo];unfold DtAll;exact⟨_,_,rfl,kLR (h 0 s t rfl rfl),kAW (by simpa using hl) λ i b u d c=>h (i+1) b u (by simpa using d) (by simpa using c)⟩
 | [],_::_,hl,_=>by simp at hl
 | _::_,[],hl,_=>by simp at hl
end
section
end
section
end
section
def kAL(l:List Nat):jz (l.map λ n:Nat=>ju (n:Int)) (l.map λ n:Nat=>ju (n:Int))=true:=by
 induction l with
 | nil=>rfl
 | cons x l ih=>simp[jz,kl,ih]
def kFQ{H:Hp}(row:List Nat):DtAll K H (row.map λ n:Nat=>ju (n:Int)) (row.map vn):=by
 induction row with
 | nil=>unfold DtAll;rfl
 | cons x r ih =>
  rw[eo,eo];unfold DtAll;exact⟨_,_,rfl,(by unfold Dt;rfl),ih⟩
end
section
end
section
end
section
end
section
end
section
def kHE{L W:Rows}{a:List Nat}(hp:a.Perm (df L.length))(b:W.length=L.length)(h:∀ p,p<L.length->kMF L a W p):Ren L W a:=⟨hp,b,λ p row e=>by
 obtain⟨n,M,h1,_,_,c⟩:=h p (ag.mp e).1 row e;exact⟨n,(row.map λ q=>a.getD q 0).take ((row.map λ q=>a.getD q 0).idxOf M),(row.map λ q=>a.getD q 0).drop ((row.map λ q=>a.getD q 0).idxOf M),h1,(gh _ _).symm,c⟩⟩
def kHF{L W:Rows}{b:List Nat}(hp:b.Perm (df L.length))(q:W.length=L.length)(h:∀ p,p<L.length->kMF L b W p)(x:Nat)(row:List Nat)(e:W[x]?=some row):Can row:=by
 have r:=(ag.mp e).1;have d:x∈b:=hp.mem_iff.mpr (fz.mpr (by omega));obtain⟨p,c,i⟩:=eY.mp d;have o:b.length=L.length:=by rw[hp.length_eq,eV]
 have a:p<L.length:=by omega
 obtain⟨m,M,g,l,n,f⟩:=h p a _ (aa a);rw[aa c,i]at g;cases g
 rw[e]at f;cases f
 exact kEL l n
def kCO(B:Fx):Hs "_law_web" ["_law_pot_here","_law_n"] 4 (kJI):=by
 refine qD B.X B.d35 kBV λ f be A aw s H vs Q E U hr h=>?_;obtain⟨a0,n0,rfl,ha,h3,ap,k⟩:=h
 refine⟨_,(kE (pst 2 U (pf (dS B) hr (p2 (pv 0) (pv 1))))
   (kE (pst 3 U (jF kU))
   (kE (uE (qN rfl (B.z B.y4) (p1 (pv 1))) (pgn 4 U) (kF (qE (jO yc yd bW (pv 3) (p2 (pf (qP B) hr (p2 (pv 0) (qG xV (pv 4) kO))) (pv 4))))))
   (kE (pst 5 U (qG kKO (jF (p1 (jI kU))) (pv 1)))
   (kE (uE (aO true rfl (B.z B.y7) (p1 (pv 2))) (jZ (n:=2) rfl (kR (pgn 6 U) (kR (pgn 7 U) jD))) (kE (pL (i:=8) (Nc:=["_law_q","_law_names"]) (js:=[none,some 3]) rfl rfl U rfl (AO rfl) (xM (pv 7)) (CS.of rfl rfl) rfl (λ C a6 a5 fp a8=>(pgc 0)) (λ C a6 a5 fp a8 D L=>(qM (qZ (pix (show IxR _ (kMV K) from kW) (pv 1) (pv 0))))))
   (kE (pst 4 U (jO mj mm vM (pv 8) (p1 (kM (oG rfl) rfl (B.z B.y6) we (p1 (pv 8))))))
   (kF (yU (qJ qA rfl (B.z B.y5) fc (p1 (qG gC (jK zA (pv 8) (jP (pv 4)) xZ) (jK zA (pv 8) xZ (jP (pv 4)))))) (pP (pv 5) (pix kW (pv 3) (pv 6)) aH))))))
   (kF (kS (qJ qA rfl (B.z B.y5) fc (p1 (pv 5)))))))))),?_⟩
 try dsimp only[qK]
 refine⟨_,rfl,_,rfl,a0,n0,rfl,ha,h3,ap,λ r A1 L H1 s1 p1 X1 GL lL NW=>?_⟩;refine⟨yS0,λ l nl=>?_⟩
 have la:l≠a0:=by
  obtain⟨x,y,z,_⟩:=p1;exact(kJ z nl).symm
 have g0:=kC nl (.lst [])
 refine⟨_,rfl,(n0:Int),rfl,by omega,by omega,jN (lo:=0) (n:=(n0:Int).toNat) (λ i v H2=>∃(x4 Z Y x7 x8:Option V)(g:List Nat),v=[some (.ref a0),some (vn n0),some (.ref r),some (.ref l),x4,Z,Y,x7,x8]/\H2 l=some (.lst (g.map vn))/\g.Perm (df i)/\SameBut a0 H1 H2/\PotAt H2 a0)
  ⟨_,_,_,_,_,[],rfl,kB,.nil,.of g0,p1.kept g0⟩ ?_ ?_⟩
 ·rintro i v H2 hi ⟨x4,Z,Y,x7,x8,g,rfl,hl,hp,s2,p2⟩
  have ln:g.length=i:=by rw[hp.length_eq,eV]
  refine⟨_,rfl,.inl ⟨rfl,_,SqL.of hl⟩,_,rfl,_,rfl,_,_,rfl,rfl,a0,_,rfl,p2,(by omega),gJ (gw (m:=151) (by omega) (by decide)),λ d O d0 d1 s3 p3=>?_⟩;have ba:=s3 _ _ la hl;refine⟨_,rfl,l,_,_,_,rfl,rfl,ba,d0,(by omega),(by rw[af,ln];exact kQ (by omega)),?_⟩;refine⟨_,_,_,_,_,g.take d.toNat++i::g.drop d.toNat,rfl,?_,tR hp,(λ b o nb e=>?_),p3.other la.symm⟩
  ·rw[dw,BE,eo,Bl,show vn i=V.int (0+(i:Int)) by rw[ve];rfl]
   exact kB
  ·rw[kL (kJ e nl)]
   exact s3 b o nb (s2 b o nb e)
 rintro v H0 ⟨x4,Z,Y,x7,x8,g,rfl,hl,hp,s2,p0⟩;subst lL;rw[fg]at hp;have X:=X1.but NW.pot.1 NW.pot.2 s2;have s0:=s1.trans s2;have S:=cG GL (by omega);have rng:∀(p:Nat)(row:List Nat),L[p]?=some row->∀ x∈row,x<L.length:=λ p row e x hx=>(GL.rng p row x e hx).1;clear s1 s2 p1 X1 NW nl g0 ha;have an:g.length=L.length:=by rw[hp.length_eq,eV]
 have b7:∀{j:Nat}{n:Nat},g[j]?=some n->n<L.length:=λ{j n} e=>fz.mp (hp.mem_iff.mp (cu e));have b1:g.Nodup:=hp.nodup_iff.mpr me;have bd:=S.le;refine⟨yS0,λ e ne=>⟨yS1,λ l1 n1=>?_⟩⟩;have g1:=(kC ne (.tup [])).trans (kC n1 (.lst [.ref e]));have he:=(kC n1 (.lst [.ref e])) _ _ (kB (H:=H0) (a:=e) (o:=.tup []));have b5:=kB (H:=upd H0 e (.tup [])) (a:=l1) (o:=.lst [.ref e]);generalize upd (upd H0 e (.tup [])) l1 (.lst [.ref e])=H1 at *;refine⟨_,rfl,l1,_,_,rfl,rfl,b5,(by omega),(by omega),ka (kQ (by simp;omega)),λ f nf=>?_⟩;rw[fg,tM];have gf:=kC nf (.lst ((dh L.length e).map V.ref));have g2:=g1.trans gf;have as:=gf _ _ he;have ax:=kB (H:=H1) (a:=f) (o:=.lst ((dh L.length e).map V.ref));generalize upd H1 f (.lst ((dh L.length e).map V.ref))=H2 at *
 refine⟨_,rfl,r,rfl,⟨_,SqL.of (g2 _ _ X.top)⟩,kAR (k:=true) (xs:=A1.map V.ref) (λ i v O=>∃(x3 x4 Z Y:Option V)(G:List ar)(W:Rows),v=[some (.ref a0),some (vn L.length),some (.ref r),some (.ref l),x3,some (.ref f),x4,Z,Y]/\O f=some (.lst (G.map V.ref))/\G.length=L.length/\W.length=L.length /\
   (∀(j:Nat)(a:ar)(row:List Nat),G[j]?=some a->W[j]?=some row->O a=some (.tup (row.map vn)))/\(∀ p,p<i->kMF L g W p)/\Same H0 O/\H0 f=none)
  ⟨_,_,_,_,dh L.length e,dh L.length [],rfl,ax,iV,iV,(λ j a row e1 e2=>?_),(λ p aq=>by omega),g2,g1.free nf⟩ ?_ ?_ ?_⟩
 ·have a1:=(vc.mp (cu e1)).2
  have a2:=(vc.mp (cu e2)).2;subst a1 a2;exact as
 ·rintro i v O _ ⟨x3,x4,Z,Y,G,W,rfl,hf,lt,lW,I,hW,g3,N⟩
  exact SqL.of (g3 _ _ X.top)
 ·rintro i x T v O hx nT ⟨x3,x4,Z,Y,G,W,rfl,hf,lt,lW,I,hW,g3,N⟩
  rw[ay]at hx;obtain⟨a,ea,rfl⟩:=ck.mp hx;have hi:i<L.length:=by rw[<-X.len];exact(ag.mp ea).1
  have u:=aa hi;have a9:=X.row i a _ ea u;obtain⟨b0,bf⟩:=S.ne i _ u;have rb:=rng i _ u;have gT:=g3.trans (kC nT (.tup [.int i,.ref a]));have b3:=(kC nT (.tup [.int i,.ref a])) _ _ hf;have ak:∀(j:Nat)(b:ar)(row:List Nat),G[j]?=some b->W[j]?=some row->upd O T (.tup [.int i,.ref a]) b=some (.tup (row.map vn)):=λ j b row w1 w2=>(kC nT (.tup [.int i,.ref a])) _ _ (I j b row w1 w2);refine⟨T,_,rfl,SqT.of kB,rfl,_,_,rfl,_,_,rfl,rfl,?_⟩;generalize upd O T (.tup [.int i,.ref a])=H4 at *
  generalize bi:L[i]=row at *
  refine⟨_,rfl,a,rfl,⟨_,SqL.of (gT _ _ a9)⟩,λ D nD=>?_⟩;refine xH (xs:=row.map vn) (λ j v H5=>∃ x:Option V,v=[x,some (.ref l)]/\H5 D=some (.lst (((row.take j).map λ q=>g.getD q 0).map vn))/\Same H4 H5) ⟨none,rfl,kB,kC nD _⟩ ?_ ?_ ?_
  ·rintro j v H5 _ ⟨x,rfl,J,g5⟩
   exact SqL.of (g5 _ _ (gT _ _ a9))
  ·rintro j x v H5 hx ⟨y,rfl,J,g5⟩
   rw[ay]at hx;obtain⟨q,eq,rfl⟩:=ck.mp hx;have hj:j<row.length:=(ag.mp eq).1;have hq:q<g.length:=by rw[an];exact rb q (cu eq)
   refine⟨_,rfl,_,rfl,l,_,_,_,rfl,rfl,SqL.of (g5 _ _ (gT _ _ hl)),rZ hq,_,J,(by rw[af,af,eO];exact kQ (by omega)),?_⟩;refine⟨_,rfl,?_,kY nD g5⟩;rw[jg,eq];simp only[vf,dw,eo,DT];rw[show g.getD q 0=g[q] by simp[ae,hq]];exact kB
  ·rintro v H5 ⟨x,rfl,J,g5⟩
   rw[af,iP]at J;generalize hc:(row.map λ q=>g.getD q 0)=c at *;have b6:c.length=row.length:=by rw[<-hc,af]
   have al:0<c.length:=by rw[b6];exact ub.mpr b0
   refine⟨_,rfl,.inl ⟨rfl,_,SqL.of J⟩,_,rfl,D,c.map ci,rfl,SqL.of (by rw[J,jE]),(by rw[af];exact al),λ M hM bc=>?_⟩;obtain⟨m,hm,rfl⟩:=ft.mp hM
   have b2:∀ j∈c,m<=j:=λ j hj=>by
    have:=bc (ci j) (ft.mpr ⟨j,hj,rfl⟩);simp only[ci]at this;omega
   have il:=fj hm
   refine⟨D,c.map ci,m,c.idxOf m,rfl,rfl,(by rw[J,jE]),qI hm,?_⟩
   have lv:(c.map vn).length=c.length:=af _;refine⟨_,rfl,_,rfl,_,rfl,D,_,rfl,SqL.of J,λ p1 m1=>?_⟩;rw[vU _ (by rw[lv];omega)];have h1:=kC m1 (.lst ((c.map vn).drop (c.idxOf m)));refine⟨_,rfl,_,rfl,_,rfl,D,_,rfl,SqL.of (h1 _ _ J),λ p2 m2=>?_⟩;rw[cJ _ (by rw[lv];omega)];have h2:=kC m2 (.lst ((c.map vn).take (c.idxOf m)));refine⟨p1,p2,_,_,rfl,rfl,h2 _ _ kB,kB,(by rw[iJ,eO,lv];exact ka (kQ (by omega))),λ p3 m3=>?_⟩;have h3:=kC m3 (.lst ((c.map vn).drop (c.idxOf m)++(c.map vn).take (c.idxOf m)));refine⟨p3,_,rfl,.inl ⟨SqL.of kB,λ t m4=>?_⟩⟩;have h4:=kC m4 (.tup ((c.map vn).drop (c.idxOf m)++(c.map vn).take (c.idxOf m)));have er:(c.map vn).drop (c.idxOf m)++(c.map vn).take (c.idxOf m)=(rot c m).map vn:=by unfold rot;rw[dw,Bl,BE]
   have hh:=h1.trans (h2.trans (h3.trans h4));have ht:upd (upd (upd (upd H5 p1 (.lst ((c.map vn).drop (c.idxOf m)))) p2 (.lst ((c.map vn).take (c.idxOf m)))) p3 (.lst ((c.map vn).drop (c.idxOf m)++(c.map vn).take (c.idxOf m)))) t (.tup ((c.map vn).drop (c.idxOf m)++(c.map vn).take (c.idxOf m))) t=some (.tup ((rot c m).map vn)):=by rw[<-er];exact kB
   generalize upd (upd (upd (upd H5 p1 (.lst ((c.map vn).drop (c.idxOf m)))) p2 (.lst ((c.map vn).take (c.idxOf m)))) p3 (.lst ((c.map vn).drop (c.idxOf m)++(c.map vn).take (c.idxOf m)))) t (.tup ((c.map vn).drop (c.idxOf m)++(c.map vn).take (c.idxOf m)))=H6 at *;have g6:=gT.trans (g5.trans hh);have a4:=hh _ _ (g5 _ _ b3);have a7:i<g.length:=by omega
   have a3:=aa a7;have b9:=b7 a3;refine⟨_,rfl,_,rfl,_,rfl,l,_,_,_,rfl,rfl,SqL.of (g6 _ _ hl),rZ a7,f,_,_,g[i],rfl,rfl,a4,kFH (by rw[af,lt];exact b9),?_⟩;refine⟨_,_,_,_,G.set g[i] t,W.set g[i] (rot c m),rfl,(by rw[Fg];exact kB),(by rw[As];exact lt),(by rw[As];exact lW),(λ j b b4 e1 e2=>?_),(λ p aq=>?_),kY N g6,N⟩
   ·have bt:b≠f->upd H6 f (.lst ((G.map V.ref).set g[i] (.ref t))) b=H6 b:=λ z=>kL z
    by_cases ej:g[i]=j
    ·subst ej
     rw[gy (by omega)]at e1;rw[gy (by omega)]at e2;cases e1
     cases e2
     rw[bt (yB ht a4 (by intro z;cases z))];exact ht
    ·rw[eB ej]at e1 e2
     have hb:=hh _ _ (g5 _ _ (ak j b b4 e1 e2));rw[bt (yB hb a4 (by intro z;cases z))];exact hb
   ·intro ac ab
    by_cases am:p=i
    ·subst am
     have e0:=u.symm.trans ab;cases e0
     refine⟨g[p],m,a3,(by rw[hc];exact hm),(λ j hj=>b2 j (by rw[hc]at hj;exact hj)),?_⟩;rw[hc,gy (by omega)]
    ·obtain⟨n',M',w1,w2,w3,w4⟩:=hW p (by omega) ac ab
     refine⟨n',M',w1,w2,w3,?_⟩
     have:g[i]≠n':=λ z=>by
      have b8:=(ag.mp w1).1;have:=(ze b8 b1).mp (w1.trans (by rw[<-z];exact a3.symm));exact am this
     rw[eB this];exact w4
 ·rintro v O ⟨x3,x4,Z,Y,G,W,rfl,hf,lt,lW,I,hW,g3,N⟩
  rw[af,X.len]at hW;refine⟨_,rfl,f,_,rfl,.inl ⟨SqL.of hf,λ t nt=>?_⟩⟩;have gt:=kC nt (.tup (G.map V.ref));have nm:=kHE hp lW hW;exact k t W _ (s0.trans (.of (g3.trans gt))) (p0.kept (g3.trans gt)) ⟨G,kB,by omega,λ j b row w1 w2=>gt _ _ (I j b row w1 w2)⟩ lW (tN GL nm) (kHF hp lW hW)
end
section
def prZ(t:Nat×Nat):List Int:=[(t.1:Int),(t.2:Int)]
def kBQ{H:Hp}{s:ar}{T:List (Nat×Nat)}(h:PairsAt H s T):∃ ps:List (ar×List Int),H s=some (.lst (ps.map λ q=>V.ref q.1))/\kRH H ps /\
  ∀(l:ar)(c:List (ar×List Int)),H l=none->c.Perm ps->c.Pairwise (λ a b=>Srt.lexLt b.2 a.2=false)->PairsAt (upd H l (.lst (c.map λ q=>V.ref q.1))) l (Fc.sortP T):=by
 obtain⟨g,h1,U,M⟩:=h
 have f:(g.zip (T.map prZ)).map (λ q=>V.ref q.1)=g.map V.ref:=by
  rw[show(λ q:ar×List Int=>V.ref q.1)=V.ref∘Av from rfl,<-yj,Bm (by rw[af];omega)]
 have mem:∀ q∈g.zip (T.map prZ),∃ t:Nat×Nat,q.2=prZ t/\H q.1=some (.tup [vn t.1,vn t.2]):=λ q u=>by
  obtain⟨i,C,rfl⟩:=eY.mp u;rw[yk,af]at C;refine⟨T[i]'(by omega),by simp,?_⟩;have:=M i (g[i]'(by omega)) (T[i]'(by omega)) (aa _) (aa _);simpa using this
 refine⟨g.zip (T.map prZ),by rw[f];exact h1,λ q u=>?_,λ l c J y O=>?_⟩
 ·obtain⟨t,e,o⟩:=mem q u
  rw[e];exact⟨o,by simp[prZ]⟩
 ·have back:∃ n:List (Nat×Nat),c.map (·.2)=n.map prZ/\n.Perm T:=by
   have S:(c.map (·.2)).Perm (T.map prZ):=by
    have:=y.map (λ q:ar×List Int=>q.2);rwa[Bj (by rw[af];omega)]at this
   obtain⟨m,a,b⟩:=Srt.perm_back S rfl;exact⟨m,b,a⟩
  obtain⟨n,r,L⟩:=back
  have p:n.Pairwise (λ a b=>Fc.leP a b=true):=by
   have B:(c.map (·.2)).Pairwise (λ a b=>Srt.lexLt b a=false):=iY.mpr O;rw[r]at B;refine(iY.mp B).imp λ{a b} Q=>?_;rw[<-Fc.leP_leL,Fc.leL_iff];exact Q
  have A:=Fc.sortP_is L p
  have D:c.length=n.length:=by
   have:=congrArg iB r;simpa using this
  refine⟨c.map (·.1),by rw[yj];exact kB,by rw[<-A,af,D],λ i b t f v=>?_⟩;rw[<-A]at v;have C:=(ag.mp v).1;have d:i<c.length:=by omega
  rw[ay,aa d]at f;have f:c[i].1=b:=bj f
  have x:c[i].2=prZ t:=by
   have:=congrArg (λ l=>l[i]?) r;rw[ay,ay,v,aa d]at this;exact bj this
  obtain⟨G,N,o⟩:=mem c[i] (y.mem_iff.mp (fe d))
  have I:G=t:=by
   rw[N]at x;unfold prZ at x;injection x with z1 z2
   injection z2 with z2 _
   exact kr (by omega) (by omega)
  rw[<-f,kL (kJ o J),o,I]
inductive kDW(vs:List V)(H:Hp)(Q:VK)(Y:XK):Prop
 | mk:∀(t:ar)(W:Rows),(vs=[.ref t])->(WebAt H t W)->(Nb W)->(W.length<=42)->(∀(s:ar)(H':Hp),Same H H'->H s=none->PairsAt H' s (Fc.stepsS W)->Q (.ref s) H')->kDW vs H Q Y
def kBN(W:Rows)(i:Nat)(hi:i<W.length):kN (W.take (i+1))=kN (W.take i)++(W[i].map λ q=>(i,q)):=by
 unfold kN;rw[eO,eO,jq (by omega),jq (by omega),Au,xr]
 congr 1
 ·rw[Dy,Dy]
  congr 1
  refine Ae λ p hp=>?_;have:=fz.mp hp;simp only[ae];rw[ko (by omega),ko (by omega)]
 ·rw[va]
  simp only[ae];rw[ko (by omega),aa hi]
  rfl
def Nb.take_len{W:Rows}(S:Nb W)(h:W.length<=42)(i:Nat):(kN (W.take i)).length<=1764:=by
 have a:=aG S h
 have:(kN (W.take i)).length<=(kN W).length:=by
  rw[xY,xY]
  conv=>rhs;rw[<-gh i W]
  rw[dw,EG];omega
 omega
def dA(B:Fx):Hs "steps_of" ["web"] 1 (kDW):=by
 refine qD B.X B.d4 sX λ f a4 A Y s0 H vs Q E nN hr h=>?_;obtain⟨t,W,rfl,hW,S,a3,k⟩:=h;refine⟨_,(kF (kS (kM lH rfl (B.z B.y8) ye (p1 (kMY (Nc:=["p","row","q"]) (js:=[none,none,none]) rfl rfl (aO false rfl (B.z B.y7) (p1 (pv 0))) (CS.of rfl rfl) rfl (λ C d c U g=>(show PG _ _ (kDA K 2 _) from jZ rfl (kR (pgc 0) (kR (pgc 1) jD)))) (λ C d c U g=>(show PI _ _ _ (kNS K _) from(wH (pv 1)))) (λ C d c U g=>(pgc 2)) (λ C d c U g D L=>(qM (qZ (jI (p2 (pv 0) (pv 2))))))))))),?_⟩
 try dsimp only[qK]
 obtain⟨ts,h1,I,h3⟩:=id hW;refine⟨_,rfl,t,rfl,⟨_,SqT.of h1⟩,λ D nD=>?_⟩
 refine bM (k:=false) (xs:=ts.map V.ref) (λ i n u=>∃(O M m:Option V),n=[O,M,m]/\Same H u/\PairsAt u D (kN (W.take i)))
  ⟨none,none,none,rfl,kC nD _,⟨[],kB,rfl,λ i b t e=>by simp at e⟩⟩ ?_ ?_ ?_
 ·rintro i n u _ ⟨O,M,m,rfl,s,_⟩
  exact SqT.of (s _ _ h1)
 ·rintro i x T n u hx nT ⟨O,M,m,rfl,s,N⟩
  rw[ay]at hx;obtain⟨a,ea,rfl⟩:=ck.mp hx;have Z:i<W.length:=by rw[<-I];exact(ag.mp ea).1
  have G:=h3 i a _ ea (aa Z);have rl:=S.len (aa Z);have gT:=kC nT (.tup [.int i,.ref a]);refine⟨T,_,rfl,SqT.of kB,rfl,_,_,rfl,_,_,rfl,rfl,?_⟩;have g3:=s.trans gT;have a2:=N.kept gT;generalize upd u T (.tup [.int i,.ref a])=H3 at *;refine⟨_,rfl,a,rfl,⟨_,SqT.of (g3 _ _ G)⟩,?_⟩;refine xJ (xs:=W[i].map vn) (λ j n r=>∃(m:Option V),n=[some (vn i),some (.ref a),m]/\Same H r/\PairsAt r D (kN (W.take i)++((W[i].take j).map λ q=>(i,q)))) ⟨m,rfl,g3,by simpa using a2⟩ ?_ ?_ ?_
  ·rintro j n r _ ⟨m,rfl,J,_⟩
   exact SqT.of (J _ _ G)
  ·rintro j v n r hv ⟨m,rfl,J,p⟩
   rw[ay]at hv;obtain⟨q,y,rfl⟩:=ck.mp hv;have hj:=(ag.mp y).1;refine⟨_,rfl,_,rfl,yS2,λ b nb=>?_⟩;have gb:=kC nb (.tup [vn i,vn q]);have hb:=kB (H:=r) (a:=b) (o:=.tup [vn i,vn q]);have a0:=p.kept gb;have g5:=J.trans gb;refine(λ(z:upd r b (.tup [vn i,vn q]) b=some (.tup [vn i,vn q]))=>?_) hb;generalize upd r b (.tup [vn i,vn q])=H5 at *;obtain⟨ss,c1,c2,c3⟩:=id a0;have l1:=Nb.take_len S a3 i
   have l2:ss.length<=1764+42:=by
    rw[c2,bg,af,eO];omega
   refine⟨_,c1,(by rw[af];exact yQ (by omega)),?_⟩;have A1:=PairsAt.app (H':=H5) c1 c2 c3 (t:=(i,q)) z;refine⟨_,rfl,kY nD g5,?_⟩;have tk:(W[i].take (j+1)).map (λ q=>(i,q))=(W[i].take j).map (λ q=>(i,q))++[(i,q)]:=by rw[jg,y,dw];rfl
   rw[tk,<-de];exact A1
  ·rintro n r ⟨m,rfl,J,p⟩
   rw[af,iP]at p;exact⟨_,_,_,rfl,J,by rw[kBN W i Z];exact p⟩
 ·rintro n u ⟨O,M,m,rfl,s,N⟩
  rw[af,I,iP]at N;obtain⟨ps,e1,e2,e3⟩:=kBQ N;refine⟨D,ps,rfl,.inl (SqL.of e1),e2,λ l a1 nl pm sr=>?_⟩;exact k l _ (s.trans (kC nl _)) (s.free nl) (e3 l a1 nl pm sr)
end
section
def RowsT(H:Hp)(s:ar)(T:List (List Nat)):Prop:=∃ a:List ar,H s=some (.lst (a.map V.ref))/\a.length=T.length/\∀(i:Nat)(b:ar)(t:List Nat),a[i]?=some b->T[i]?=some t->H b=some (.tup (t.map vn))
def RowsT.app{H:Hp}{s b:ar}{a:List ar}{T:List (List Nat)}{t:List Nat}(h1:H s=some (.lst (a.map V.ref)))(l:a.length=T.length)(n:∀(i:Nat)(b:ar)(t:List Nat),a[i]?=some b->T[i]?=some t->H b=some (.tup (t.map vn)))(g:H b=some (.tup (t.map vn))) :
  RowsT (upd H s (.lst (a.map V.ref++[.ref b]))) s (T++[t]):=by
 refine⟨a++[b],by rw[dw];exact kB,by simp[l],λ i c u d f=>?_⟩;have m:c≠s->upd H s (.lst (a.map V.ref++[.ref b])) c=H c:=λ z=>kL z;rcases fw i a.length with h | h
 ·rw[bh h]at d
  rw[bh (by omega)]at f;have:=n i c u d f;rw[m (yB this h1 (by simp))];exact this
 ·obtain rfl:i=a.length:=by
   have:=(ag.mp d).1;simp at this;omega
  rw[fq]at d;rw[l,fq]at f;cases d
  cases f
  rw[m (yB g h1 (by simp))];exact g
def kGN{H:Hp}{s:ar}{T:List (List Nat)}(h:RowsT H s T)(p:∀ t∈T,t≠[]):∃ ps:List (ar×List Int),H s=some (.lst (ps.map λ q=>V.ref q.1))/\kRH H ps /\
  ∀(l:ar)(c:List (ar×List Int)),H l=none->c.Perm ps->c.Pairwise (λ a b=>Srt.lexLt b.2 a.2=false)->RowsT (upd H l (.lst (c.map λ q=>V.ref q.1))) l (Fc.sortL T):=by
 obtain⟨g,h1,Y,O⟩:=h
 have f:(g.zip (T.map Fc.zl)).map (λ q=>V.ref q.1)=g.map V.ref:=by
  rw[show(λ q:ar×List Int=>V.ref q.1)=V.ref∘Av from rfl,<-yj,Bm (by rw[af];omega)]
 have J:∀ t:List Nat,(Fc.zl t).map V.int=t.map vn:=λ t=>by unfold Fc.zl;rw[yj];rfl
 have mem:∀ q∈g.zip (T.map Fc.zl),∃ t:List Nat,t∈T/\q.2=Fc.zl t/\H q.1=some (.tup (t.map vn)):=λ q v=>by
  obtain⟨i,C,rfl⟩:=eY.mp v;rw[yk,af]at C;refine⟨T[i]'(by omega),fe _,by simp,?_⟩;have:=O i (g[i]'(by omega)) (T[i]'(by omega)) (aa _) (aa _);simpa using this
 refine⟨g.zip (T.map Fc.zl),by rw[f];exact h1,λ q v=>?_,λ l c M y S=>?_⟩
 ·obtain⟨t,m,e,o⟩:=mem q v
  rw[e,J];refine⟨o,λ z=>p t m ?_⟩;unfold Fc.zl at z;exact Af.mp z
 ·have back:∃ n:List (List Nat),c.map (·.2)=n.map Fc.zl/\n.Perm T:=by
   have X:(c.map (·.2)).Perm (T.map Fc.zl):=by
    have:=y.map (λ q:ar×List Int=>q.2);rwa[Bj (by rw[af];omega)]at this
   obtain⟨m,a,b⟩:=Srt.perm_back X rfl;exact⟨m,b,a⟩
  obtain⟨n,u,N⟩:=back
  have r:n.Pairwise (λ a b=>Fc.leL a b=true):=by
   have B:(c.map (·.2)).Pairwise (λ a b=>Srt.lexLt b a=false):=iY.mpr S;rw[u]at B;refine(iY.mp B).imp λ{a b} U=>?_;rw[Fc.leL_iff];exact U
  have A:=Fc.sortL_is N r
  have G:c.length=n.length:=by
   have:=congrArg iB u;simpa using this
  refine⟨c.map (·.1),by rw[yj];exact kB,by rw[<-A,af,G],λ i b t f x=>?_⟩;rw[<-A]at x;have C:=(ag.mp x).1;have d:i<c.length:=by omega
  rw[ay,aa d]at f;have f:c[i].1=b:=bj f
  have D:c[i].2=Fc.zl t:=by
   have:=congrArg (λ l=>l[i]?) u;rw[ay,ay,x,aa d]at this;exact bj this
  obtain⟨I,m,Q,o⟩:=mem c[i] (y.mem_iff.mp (fe d))
  have L:I=t:=by
   rw[Q]at D;exact Fc.zl_inj D
  rw[<-f,kL (kJ o M),o,L]
inductive kJK(vs:List V)(H:Hp)(Q:VK)(Y:XK):Prop
 | mk:∀(t:ar)(W:Rows),(vs=[.ref t])->(WebAt H t W)->(Nb W)->(W.length<=42)->(∀(s:ar)(H':Hp),Same H H'->H s=none->PairsAt H' s (Fc.tiesS W)->Q (.ref s) H')->kJK vs H Q Y
def uJ{W:Rows}(S:Nb W)(h:W.length<=42):(Fc.stepsS W).length<=1764:=by
 have:=aG S h;rw[show(Fc.stepsS W).length=(kN W).length from(Fc.sortP_perm _).length_eq];exact this
def kEY(B:Fx):Hs "ties" ["web"] 2 (kJK):=by
 refine qD B.X B.d5 kMR λ f a0 A M s0 H vs Q E nN hr h=>?_;obtain⟨t,W,rfl,hW,S,r,k⟩:=h;refine⟨_,(kF (kS (qX (Nc:=["p","q"]) (js:=[none,none]) rfl rfl (xM (pf (dA B) hr (p1 (pv 0)))) (CS.of rfl rfl) rfl (λ C n m fp p=>(show PG _ _ (kDA K 2 _) from jZ rfl (kR (pgc 0) (kR (pgc 1) jD)))) (λ C n m fp p D L=>(yS (qO kOR (pv 0) (pv 1) (jJ _)) (qZ (jI (p2 (pv 0) (pv 1))))))))),?_⟩
 try dsimp only[qK]
 have l1:=uJ S r;refine⟨_,rfl,t,W,rfl,hW,S,r,λ s H1 U ns pr=>?_⟩;obtain⟨ss,h1,h2,h3⟩:=id pr;refine⟨s,rfl,⟨_,SqL.of h1⟩,λ D I=>?_⟩
 refine xH (xs:=ss.map V.ref) (λ i v g=>∃(u G:Option V),v=[u,G]/\Same H1 g/\PairsAt g D (((Fc.stepsS W).take i).filter λ t=>decide (t.1<t.2)))
  ⟨none,none,rfl,kC I _,⟨[],kB,rfl,λ i b t e=>by simp at e⟩⟩ ?_ ?_ ?_
 ·rintro i v g _ ⟨u,G,rfl,l,_⟩
  exact SqL.of (l _ _ h1)
 ·rintro i x v g hx ⟨u,G,rfl,l,d⟩
  rw[ay]at hx;obtain⟨b,Y,rfl⟩:=ck.mp hx;have hi:i<(Fc.stepsS W).length:=by rw[<-h2];exact(ag.mp Y).1
  have O:=aa hi;have hb:=h3 i b _ Y O;have tk:(Fc.stepsS W).take (i+1)=(Fc.stepsS W).take i++[(Fc.stepsS W)[i]]:=by rw[jg,O];rfl
  generalize(Fc.stepsS W)[i]=t at *;refine⟨b,_,rfl,SqT.of (l _ _ hb),rfl,_,_,rfl,_,_,rfl,rfl,?_⟩;refine⟨_,rfl,_,rfl,_,_,rfl,rfl,_,rfl,?_⟩;rw[tk];refine kLB (λ z=>?_) (λ z=>?_)
  ·have z:=of_decide_eq_true z
   refine⟨_,rfl,_,rfl,yS2,λ c nc=>?_⟩;have T:=kC nc (.tup [vn t.1,vn t.2]);have hc:=kB (H:=g) (a:=c) (o:=.tup [vn t.1,vn t.2]);have J:=d.kept T;have g3:=l.trans T;refine(λ(y:upd g c (.tup [vn t.1,vn t.2]) c=some (.tup [vn t.1,vn t.2]))=>?_) hc;generalize upd g c (.tup [vn t.1,vn t.2])=H3 at *;obtain⟨cs,N,Z,c3⟩:=id J
   have lc:cs.length<=1764:=by
    rw[Z];have:=ie (λ t:Nat×Nat=>decide (t.1<t.2)) ((Fc.stepsS W).take i);rw[eO]at this;omega
   refine⟨_,N,(by rw[af];exact yQ (by omega)),?_⟩;refine⟨_,_,rfl,kY I g3,?_⟩;rw[wa,lh,if_pos (by exact decide_eq_true (by omega))];exact PairsAt.app (H':=H3) N Z c3 y
  ·have z:¬ (t.1:Int)<(t.2:Int):=λ q=>z (decide_eq_true q)
   refine⟨_,_,rfl,l,?_⟩;rw[wa,lh,if_neg (by intro q;have:=of_decide_eq_true q;omega)];simpa using d
 ·rintro v g ⟨u,G,rfl,l,d⟩
  rw[af,h2,iP]at d;exact k D g (U.trans l) (U.free I) d
end
section
def pk(t:Nat×Nat):List Key:=[qw (t.1:Int),qw (t.2:Int)]
def kPW{a b:Nat×Nat}(h:pk a=pk b):a=b:=by
 unfold pk at h;injection h with h1 h2
 injection h2 with h2 _
 have:=CQ h1;have:=CQ h2;exact kr (by omega) (by omega)
def SeenAt(H:Hp)(d:ar)(X:List (Nat×Nat)):Prop:=∃ a:List (List Key×V),H d=some (.dT a)/\(∀ t:Nat×Nat,(qU a (pk t)).isSome=decide (t∈X))/\a.length<=X.length/\∀ y∈a,∃ t∈X,y.1=pk t
def SeenAt.kept{H H':Hp}{d:ar}{X:List (Nat×Nat)}(h:SeenAt H d X)(g:Same H H'):SeenAt H' d X:=by
 obtain⟨c,a,b⟩:=h;exact⟨c,g _ _ a,b⟩
def sW{H:Hp}{d:ar}:SeenAt (upd H d (.dT [])) d []:=⟨[],kB,λ t=>by simp[qU],av _,λ y a=>nomatch a⟩
def kAI{kvs:List (List Key×V)}{k:List Key}{v:V}{y:List Key×V}(h:y∈jY kvs k v):y.1=k\/∃ z∈kvs,z.1=y.1:=by
 unfold jY at h
 split at h
 ·obtain⟨z,a,rfl⟩:=ft.mp h
  split
  ·exact .inr ⟨z,a,rfl⟩
  ·exact .inr ⟨z,a,rfl⟩
 ·rcases bp.mp h with z | z
  ·exact .inr ⟨y,z,rfl⟩
  ·exact .inl (by rw[dg.mp z])
def kGR{kvs:List (List Key×V)}{X:List (Nat×Nat)}{t:Nat×Nat}{v:V}(h1:∀ t:Nat×Nat,(qU kvs (pk t)).isSome=decide (t∈X))(g:kvs.length<=X.length)(b:∀ y∈kvs,∃ t∈X,y.1=pk t) :
  (∀ u:Nat×Nat,(qU (jY kvs (pk t) v) (pk u)).isSome=decide (u∈X++[t]))/\(jY kvs (pk t) v).length<=(X++[t]).length/\∀ y∈jY kvs (pk t) v,∃ u∈X++[t],y.1=pk u:=by
 refine⟨λ u=>?_,?_,λ y d=>?_⟩
 ·rw[zV]
  by_cases e:pk u=pk t
  ·rw[if_pos e,kPW e]
   simp
  ·rw[if_neg e,h1 u]
   have:u≠t:=λ z=>e (by rw[z]);simp[this]
 ·have:=qR kvs (pk t) v
  rw[bg,iG];omega
 ·rcases kAI d with e | ⟨z,a,e⟩
  ·exact⟨t,by simp,e⟩
  ·obtain⟨u,c,f⟩:=b z a
   exact⟨u,cf _ c,by rw[<-e,f]⟩
theorem oA:∀(more kvs:List (List Key×V))(k:List Key),(qU (xO kvs more) k).isSome=((qU kvs k).isSome || (qU more k).isSome)
 | [],kvs,k=>by simp[xO,qU]
 | m::more,kvs,k=>by
  have:=oA more (jY kvs m.1 m.2) k;unfold xO at this ⊢;rw[ou,this,zV];by_cases e:m.1=k
  ·rw[if_pos e.symm,qT e]
   simp
  ·rw[if_neg (λ z=>e z.symm),qL e]
theorem oB:∀(more kvs:List (List Key×V)),(xO kvs more).length<=kvs.length+more.length
 | [],kvs=>av _
 | m::more,kvs=>by
  have:=oB more (jY kvs m.1 m.2);have:=qR kvs m.1 m.2;unfold xO at *;rw[ou,eQ];omega
theorem gX:∀(more kvs:List (List Key×V))(y:List Key×V),y∈xO kvs more->(∃ z∈kvs,z.1=y.1)\/∃ z∈more,z.1=y.1
 | [],kvs,y,h=>.inl ⟨y,h,rfl⟩
 | m::more,kvs,y,h=>by
  have h:y∈xO (jY kvs m.1 m.2) more:=h;rcases gX more _ y h with⟨z,b,e⟩ | ⟨z,b,e⟩
  ·rcases kAI b with a | ⟨d,c,a⟩
   ·exact .inr ⟨m,eW ..,by rw[<-e,a]⟩
   ·exact .inl ⟨d,c,by rw[a,e]⟩
  ·exact .inr ⟨z,dc _ b,e⟩
theorem SeenAt.upd{H:Hp}{d:ar}{X Y:List (Nat×Nat)}{kvs more:List (List Key×V)}(h1:∀ t:Nat×Nat,(qU kvs (pk t)).isSome=decide (t∈X))(m:kvs.length<=X.length)(g:∀ y∈kvs,∃ t∈X,y.1=pk t)
  (f:∀ t:Nat×Nat,(qU more (pk t)).isSome=decide (t∈Y)) (l:more.length<=Y.length) (h:∀ y∈more,∃ t∈Y,y.1=pk t):SeenAt (L2.upd H d (.dT (xO kvs more))) d (X++Y):=by
 refine⟨_,kB,λ t=>?_,?_,λ y i=>?_⟩
 ·rw[oA,h1,f,iH,AU,decide_eq_true_iff,decide_eq_true_iff,decide_eq_true_iff,bp]
 ·have:=oB more kvs
  rw[bg];omega
 ·rcases gX more kvs y i with⟨z,a,e⟩ | ⟨z,a,e⟩
  ·obtain⟨u,b,c⟩:=g z a
   exact⟨u,cf _ b,by rw[<-e,c]⟩
  ·obtain⟨u,b,c⟩:=h z a
   exact⟨u,cm _ b,by rw[<-e,c]⟩
def mP{W:Rows}{p q k:Nat}(T:Turns W p q k):Fc.per W (p,q)=k:=Fc.per_is T.pos T.back T.first
def kGH{W:Rows}{p q k:Nat}(T:Turns W p q k):orb W p q k=Fc.rnd W (p,q):=by
 unfold orb Fc.rnd;rw[mP T]
end
section
inductive kED(vs:List V)(H:Hp)(Q:VK)(Y:XK):Prop
 | mk:∀(t:ar)(W:Rows),(vs=[.ref t])->(WebAt H t W)->(Nb W)->(W.length<=42)->(∀(s:ar)(H':Hp),Same H H'->H s=none->RowsT H' s (Fc.facesS W)->Q (.ref s) H')->kED vs H Q Y
def kPO{W:Rows}(S:Nb W){t:Nat×Nat}(h:t∈kN W):(Fc.rnd W t).map (·.1)≠[]:=λ z=>by
 have:=Fc.rnd_self S h;rw[Af.mp z]at this;cases this
def kLO{W:Rows}(S:Nb W){T:List (Nat×Nat)}(b:∀ t∈T,t∈kN W):∀ f∈(Fc.fgo W T).1,f≠[]:=λ f a=>by
 obtain⟨R,c,d,_⟩:=(Fc.fgo_ok S T b).reps;rw[d]at a;obtain⟨r,g,rfl⟩:=ft.mp a;exact kPO S (b r (c r g))
def uI{W:Rows}:∀ t∈Fc.stepsS W,t∈kN W:=λ t h=>(Fc.sortP_perm _).mem_iff.mp h
def kMP{W:Rows}(S:Nb W)(h:W.length<=42){t:Nat×Nat}(a:t∈kN W):t.1<42/\t.2<42:=by
 have:=S.e (mem_steps.mp (show(t.1,t.2)∈kN W from a));omega
def tZ(B:Fx):Hs "faces" ["web"] 3 (kED):=by
 refine qD B.X B.d8 kJV λ f be A aw s0 H vs Q E nN hr h=>?_;obtain⟨t,W,rfl,hW,S,U,k⟩:=h
 refine⟨_,(kE (pst 1 nN (jF kU))
   (kE (pst 2 nN kKK)
   (kE (uE (xM (pf (dA B) hr (p1 (pv 0)))) (pgn 3 nN) (kF (xS (kCE (nM (zJ hr) (pv 3) (pv 2))) (kE (pst 4 nN (pf (vK B) hr (p2 (pv 0) (pv 3))))
   (kE (qE (cY Bg BZ PySem.F.type_dict_update (kNJ (zJ hr)) (pv 2) (p1 (kNA (Nc:=["one"]) (js:=[none]) rfl rfl (xM (pv 4)) (CS.of rfl rfl) rfl (λ C M J fp N=>(pgc 0)) (λ C M J fp N D L=>(qM (kEV (zJ hr) (pv 0) vI)))))))
   (kF (qE (jO iQ iR jU (pv 1) (p1 (qJ qA rfl (B.z B.y5) fc (p1 (qX (Nc:=["p","q"]) (js:=[none,none]) rfl rfl (xM (pv 4)) (CS.of rfl rfl) rfl (λ C M J fp N=>(show PG _ _ (kDA K 2 _) from jZ rfl (kR (pgc 0) (kR (pgc 1) jD)))) (λ C M J fp N D L=>(qM (qZ (pv 0))))))))))))) jA)))
   (kF (kS (kM lH rfl (B.z B.y8) ye (p1 (pv 1)))))))),?_⟩
 try dsimp only[qK]
 have l1:=uJ S U;have l0:=aG S U;refine⟨yS0,λ l nl=>?_⟩;have gl:=kC nl (.lst []);have hl:=kB (H:=H) (a:=l) (o:=.lst []);refine λ d nd=>?_;have gd:=kC nd (.dT []);have hd:=sW (H:=upd H l (.lst [])) (d:=d);have ap:l≠d:=λ z=>by rw[<-z,hl]at nd;cases nd
 have a0:=gd _ _ hl;have g1:=gl.trans gd;have b6:H d=none:=gl.free nd;refine(λ(Z:SeenAt (upd (upd H l (.lst [])) d (.dT [])) d [])=>?_) hd;generalize upd (upd H l (.lst [])) d (.dT [])=H1 at *;refine⟨_,rfl,t,W,rfl,hW.kept g1,S,U,λ s H2 g2 ns pr=>?_⟩;obtain⟨ss,h1,h2,h3⟩:=id pr;have an:=g1.trans g2;have b0:s≠l:=λ z=>by rw[z,a0]at ns;cases ns
 have b8:s≠d:=λ z=>by obtain⟨g,a,_⟩:=Z;rw[z,a]at ns;cases ns
 refine⟨s,rfl,⟨_,SqL.of h1⟩,?_⟩
 refine gU (xs:=ss.map V.ref) (λ i G Y=>∃(x3 x4:Option V),G=[some (.ref t),some (.ref l),some (.ref d),x3,x4]/\(∀ b o,b≠l->b≠d->H2 b=some o->Y b=some o)/\RowsT Y l (Fc.fgo W ((Fc.stepsS W).take i)).1/\SeenAt Y d (Fc.fgo W ((Fc.stepsS W).take i)).2)
  ⟨none,none,rfl,(λ b o _ _ e=>e),⟨[],g2 _ _ a0,rfl,λ i b t e=>by simp at e⟩,Z.kept g2⟩ ?_ ?_ ?_
 ·rintro i G Y _ ⟨x3,x4,rfl,f3,_⟩
  exact SqL.of (f3 _ _ b0 b8 h1)
 ·rintro i x G Y hx ⟨x3,x4,rfl,f3,rt,sn⟩
  rw[ay]at hx;obtain⟨b,eb,rfl⟩:=ck.mp hx;have hi:i<(Fc.stepsS W).length:=by rw[<-h2];exact(ag.mp eb).1
  have et:=aa hi;have hb:=h3 i b _ eb et;have tk:(Fc.stepsS W).take (i+1)=(Fc.stepsS W).take i++[(Fc.stepsS W)[i]]:=by rw[jg,et];rfl
  have mt:=uI _ (fe hi);have fi:=Fc.fgo_ok S ((Fc.stepsS W).take i) λ t h=>uI t (wu h);have lX:=fi.len;rw[tk,Fc.fgo_snoc]
  have lF:(Fc.fgo W ((Fc.stepsS W).take i)).1.length<=1764:=by
   have:∀ T:List (Nat×Nat),(Fc.fgo W T).1.length<=T.length:=λ T=>by
    have:∀ n,n<=T.length->(Fc.fgo W (T.take n)).1.length<=n:=λ n=>by
     induction n with
     | zero=>intro _;rw[CY];exact av _
     | succ n ih =>
      intro hn;rw[show T.take (n+1)=T.take n++[T[n]] by rw[jg,aa (by omega)];rfl,Fc.fgo_snoc];have:=ih (by omega);unfold Fc.fstep
      split
      ·omega
      ·rw[bg]
       show _+1<=_;omega
    have:=this T.length (av _);rwa[iP]at this
   have:=this ((Fc.stepsS W).take i);rw[eO]at this;omega
  generalize(Fc.stepsS W)[i]=u at *;generalize Fc.fgo W ((Fc.stepsS W).take i)=st at *
  have b3:b≠l:=λ z=>by
   have a:=g2 _ _ a0;rw[z,a]at hb;cases hb
  have ax:b≠d:=λ z=>by
   obtain⟨g,a,_⟩:=Z.kept g2;rw[z,a]at hb;cases hb
  have ab:=f3 _ _ b3 ax hb;obtain⟨g,k1,k2,k3,k4⟩:=id sn;refine⟨_,rfl,_,rfl,d,_,rfl,DGet.t (k:=pk u) k1 ab,_,rfl,?_⟩;rw[k2 u];unfold Fc.fstep;by_cases c:u∈st.2
  ·rw[decide_eq_true c,if_pos c]
   exact xN ⟨_,_,rfl,f3,rt,sn⟩
  rw[decide_eq_false c,if_neg c];obtain⟨r,p⟩:=u;have hE:Tri.E W r p:=mem_steps.mp mt
  have a7:WebAt Y t W:=by
   obtain⟨ts,q1,q2,q3⟩:=hW.kept an;have ok:∀(b:ar)(xs:List V),H2 b=some (.tup xs)->Y b=some (.tup xs):=λ b xs e=>f3 b _ (λ z=>by rw[z,g2 _ _ a0]at e;cases e) (λ z=>by obtain⟨g,a,_⟩:=Z.kept g2;rw[z,a]at e;cases e) e;exact⟨ts,ok _ _ q1,q2,λ j a row e1 e2=>ok _ _ (q3 j a row e1 e2)⟩
  refine yV ⟨_,rfl,_,rfl,t,b,W,r,p,rfl,a7,S,U,ab,hE,λ q m H4 g4 T ak=>?_⟩;rw[kGH T]at ak;have b7:=T.few;have lm:=mP T;obtain⟨qs,q1,q2,q3⟩:=id ak
  have lq:(Fc.rnd W (r,p)).length=m:=by rw[Fc.rnd_len,lm]
  refine⟨_,rfl,.inr (.inr (.inl ⟨rfl,.inr ⟨_,g4 _ _ k1⟩⟩)),_,rfl,q,rfl,⟨_,SqL.of q1⟩,λ D nD=>?_⟩;refine xH (xs:=qs.map V.ref) (λ j G I=>∃(x0:Option V),G=[x0]/\Same H4 I/\SeenAt I D ((Fc.rnd W (r,p)).take j)) ⟨none,rfl,kC nD _,sW⟩ ?_ ?_ ?_
  ·rintro j G I _ ⟨x0,rfl,g5,_⟩
   exact SqL.of (g5 _ _ q1)
  ·rintro j v G I hv ⟨x0,rfl,g5,sD⟩
   rw[ay]at hv;obtain⟨c',ec,rfl⟩:=ck.mp hv;have hj:j<(Fc.rnd W (r,p)).length:=by rw[<-q2];exact(ag.mp ec).1
   have ej:=aa hj;have hc:=g5 _ _ (q3 j c' _ ec ej);have a8:(Fc.rnd W (r,p)).take (j+1)=(Fc.rnd W (r,p)).take j++[(Fc.rnd W (r,p))[j]]:=by rw[jg,ej];rfl
   rw[a8];generalize(Fc.rnd W (r,p))[j]=y at *;obtain⟨O,d1,d2,d3,d4⟩:=sD;have ld:O.length<=1764:=by rw[eO]at d3;omega
   refine⟨_,rfl,_,DPut.t (k:=pk y) d1 hc (yQ (by omega)),?_⟩;obtain⟨a1,a2,a3⟩:=kGR (t:=y) (v:=.bl true) d2 d3 d4;exact⟨_,rfl,kY nD g5,⟨_,kB,a1,a2,a3⟩⟩
  ·rintro G I ⟨x0,rfl,g5,sD⟩
   rw[af,q2,iP]at sD;obtain⟨O,d1,d2,d3,d4⟩:=sD;have aq:=g4.trans g5;have a5:=aq _ _ k1;have bc:d≠D:=λ z=>by rw[<-z,g4 _ _ k1]at nD;cases nD
   refine⟨d,D,g,O,rfl,rfl,bc,a5,d1,(λ y hy=>?_),?_,?_⟩
   ·obtain⟨v,hv,e⟩:=d4 y hy
    have:=kMP S U (Fc.rnd_sub S mt hv);exact⟨v.1,v.2,e,this.1,this.2⟩
   ·have:g.length+O.length<=20000:=by omega
    exact ka (yQ this)
   have bd:=SeenAt.upd (H:=I) (d:=d) k2 k3 k4 d2 d3 d4;have f6:∀ b o,b≠d->Y b=some o->upd I d (.dT (xO g O)) b=some o:=λ b o nb e=>by rw[kL nb];exact aq _ _ e
   have ac:upd I d (.dT (xO g O)) q=some (.lst (qs.map V.ref)):=by
    rw[kL (yB (g5 _ _ q1) a5 (by simp))];exact g5 _ _ q1
   have b2:∀(i:Nat)(b:ar)(t:Nat×Nat),qs[i]?=some b->(Fc.rnd W (r,p))[i]?=some t->upd I d (.dT (xO g O)) b=some (.tup [vn t.1,vn t.2]):=λ i b t e1 e2=>by
    have:=g5 _ _ (q3 i b t e1 e2);rw[kL (yB this a5 (by simp))];exact this
   obtain⟨ls,r1,r2,r3⟩:=id rt;have as:upd I d (.dT (xO g O)) l=some (.lst (ls.map V.ref)):=f6 l _ ap r1
   have ba:∀(i:Nat)(b:ar)(t:List Nat),ls[i]?=some b->st.1[i]?=some t->upd I d (.dT (xO g O)) b=some (.tup (t.map vn)):=λ i b t e1 e2=>by
    have:=r3 i b t e1 e2;exact f6 b _ (yB this k1 (by simp)) this
   have b9:∀ b o,b≠l->b≠d->H2 b=some o->upd I d (.dT (xO g O)) b=some o:=λ b o n1 n2 e=>f6 b o n2 (f3 b o n1 n2 e)
   generalize upd I d (.dT (xO g O))=H6 at *
   refine⟨_,rfl,.inl ⟨rfl,_,SqL.of as⟩,_,rfl,q,rfl,⟨_,SqL.of ac⟩,λ D2 a9=>?_⟩;refine xH (xs:=qs.map V.ref) (λ j G H7=>∃(x0 x1:Option V),G=[x0,x1]/\Same H6 H7/\H7 D2=some (.lst ((((Fc.rnd W (r,p)).take j).map (·.1)).map vn))) ⟨none,none,rfl,kC a9 _,kB⟩ ?_ ?_ ?_
   ·rintro j G H7 _ ⟨x0,x1,rfl,g7,_⟩
    exact SqL.of (g7 _ _ ac)
   ·rintro j v G H7 hv ⟨x0,x1,rfl,g7,a4⟩
    rw[ay]at hv;obtain⟨c',ec,rfl⟩:=ck.mp hv;have hj:j<(Fc.rnd W (r,p)).length:=by rw[<-q2];exact(ag.mp ec).1
    have ej:=aa hj;have hc:=g7 _ _ (b2 j c' _ ec ej);have a8:(Fc.rnd W (r,p)).take (j+1)=(Fc.rnd W (r,p)).take j++[(Fc.rnd W (r,p))[j]]:=by rw[jg,ej];rfl
    rw[a8];generalize(Fc.rnd W (r,p))[j]=y at *;refine⟨c',_,rfl,SqT.of hc,rfl,_,_,rfl,_,_,rfl,rfl,?_⟩;refine⟨_,rfl,_,a4,(by rw[af,af,eO];exact yQ (by omega)),?_⟩;refine⟨_,_,rfl,kY a9 g7,?_⟩;rw[dw,dw];exact kB
   ·rintro G H7 ⟨x0,x1,rfl,g7,a4⟩
    rw[af,q2,iP]at a4;refine⟨D2,_,rfl,.inl ⟨SqL.of a4,λ f nf=>?_⟩⟩;have gf:=kC nf (.tup (((Fc.rnd W (r,p)).map (·.1)).map vn));have g8:=g7.trans gf;have hf:=kB (H:=H7) (a:=f) (o:=.tup (((Fc.rnd W (r,p)).map (·.1)).map vn));generalize bf:upd H7 f (.tup (((Fc.rnd W (r,p)).map (·.1)).map vn))=H8 at *;have am:=g8 _ _ as;have b1:∀(i:Nat)(b:ar)(t:List Nat),ls[i]?=some b->st.1[i]?=some t->H8 b=some (.tup (t.map vn)):=λ i b t e1 e2=>g8 _ _ (ba i b t e1 e2);refine⟨l,_,_,rfl,rfl,am,(by rw[af,r2];exact yQ (by omega)),?_⟩;refine⟨_,_,rfl,(λ b o n1 n2 e=>by rw[kL n1];exact g8 _ _ (b9 b o n1 n2 e)),RowsT.app am r2 b1 hf,?_⟩;obtain⟨b5,z1,z2⟩:=bd.kept g8;exact⟨b5,by rw[kL ap.symm];exact z1,z2⟩
 ·rintro G Y ⟨x3,x4,rfl,f3,rt,sn⟩
  rw[af,h2,iP]at rt;obtain⟨ps,e1,e2,e3⟩:=kGN rt (kLO S uI);have al:Same H Y:=λ b o e=>f3 b o (kJ e nl) (kJ e b6) (an b o e);refine⟨_,rfl,l,ps,rfl,.inl (SqL.of e1),e2,λ l' b4 a6 pm sr=>?_⟩;exact k l' _ (al.trans (kC a6 _)) (al.free a6) (e3 l' b4 a6 pm sr)
inductive kJQ(vs:List V)(H:Hp)(Q:VK)(Y:XK):Prop
 | mk:∀(t:ar)(W:Rows),(vs=[.ref t])->(WebAt H t W)->(Nb W)->(W.length<=42)->(∀(H':Hp),Same H H'->Q (.bl (decide (W.length+(Fc.facesS W).length=(Fc.tiesS W).length+2))) H')->kJQ vs H Q Y
def kCS(B:Fx):Hs "is_flat" ["web"] 4 (kJQ):=by
 refine qD B.X B.d9 kBZ λ f n A d L H C Q E I g h=>?_;obtain⟨t,W,rfl,c,S,a,k⟩:=h;refine⟨_,(kF (kS (jQ kEW (qG xV (kM kP rfl (B.z B.y0) eh (p1 (pv 0))) (kM kP rfl (B.z B.y0) eh (p1 (pf (tZ B) g (p1 (pv 0)))))) (qG xV (kM kP rfl (B.z B.y0) eh (p1 (pf (kEY B) g (p1 (pv 0))))) kO) (jJ _)))),?_⟩
 try dsimp only[qK]
 obtain⟨y,h1,b,D⟩:=id c;refine⟨_,rfl,t,_,rfl,.inr (SqT.of h1),_,rfl,t,W,rfl,c,S,a,λ s J i G r=>?_⟩;obtain⟨p,m,v,_⟩:=r;refine⟨s,_,rfl,.inl (SqL.of m),_,_,rfl,rfl,_,rfl,t,W,rfl,c.kept i,S,a,λ u o x M l=>?_⟩;obtain⟨q,p1,p2,_⟩:=l;refine⟨u,_,rfl,.inl (SqL.of p1),_,_,rfl,rfl,rfl,?_⟩
 have e:decide (V.int (((y.map V.ref).length:Int)+((p.map V.ref).length:Int))=V.int (((q.map V.ref).length:Int)+2))=decide (W.length+(Fc.facesS W).length=(Fc.tiesS W).length+2):=by
  rw[iH,decide_eq_true_iff,decide_eq_true_iff,af,af,af,b,v,p2];constructor
  ·intro z
   have:=V.int.inj z;omega
  ·intro z
   congr 1
   omega
 rw[e];exact k o (i.trans x)
end
section
inductive sI(vs:List V)(H:Hp)(Q:VK)(Y:XK):Prop
 | mk:∀(n:Nat),(vs=[vn n])->(Q (.bl true) H)->sI vs H Q Y
def tY(B:Fx):Hs "is_whole" ["thing"] 1 (sI):=by
 refine qD B.X B.d0 tG λ f b A a g H d Q E c i h=>?_;obtain⟨n,rfl,q⟩:=h;refine⟨_,(kF (kS (vJ (kM Own.call_isi rfl (B.z B.y9) mv (p2 (pv 0) (dZ (v:=.ty "int") rfl (B.z B.y11) Fm rfl))) (uP (kPZ (kM Own.call_isi rfl (B.z B.y9) mv (p2 (pv 0) (dZ (v:=.ty "bool") rfl (B.z B.y10) Fh rfl)))))))),?_⟩
 try dsimp only[qK]
 exact⟨_,rfl,_,_,_,_,rfl,.int _,rfl,_,rfl,yV ⟨_,rfl,_,_,_,_,rfl,.int _,rfl,_,rfl,q⟩⟩
inductive kBP(vs:List V)(H:Hp)(Q:VK)(Y:XK):Prop
 | mk:∀(a:ar)(ns:List Nat),(vs=[.ref a,vn ns.length])->(H a=some (.tup (ns.map vn)))->(ns.length<=1000)->(∀ H',Same H H'->Q (.bl true) H')->kBP vs H Q Y
def aR(B:Fx):Hs "are_whole" ["thing","many"] 2 (kBP):=by
 refine qD B.X B.d1 pG λ f G A r S H N Q E O y h=>?_;obtain⟨a,o,rfl,e,l,k⟩:=h;refine⟨_,(kF (kS (vJ (kM Own.call_isi rfl (B.z B.y9) mv (p2 (pv 0) (dZ (v:=.ty "tuple") rfl (B.z B.y5) fc rfl))) (vJ (jQ kEW (kM kP rfl (B.z B.y0) eh (p1 (pv 0))) (pv 1) (jJ _)) (uP (kM (xI rfl) rfl (B.z B.y12) iq (p1 (qX (Nc:=["one"]) (js:=[none]) rfl rfl (wH (pv 0)) (CS.of rfl rfl) rfl (λ C d c I i=>(pgc 0)) (λ C d c I i D L=>(qM (qZ (pf (tY B) y (p1 (pv 0)))))))))))))),?_⟩
 try dsimp only[qK]
 refine⟨_,rfl,_,_,_,_,rfl,.tup e,rfl,_,rfl,yV ⟨_,rfl,a,_,rfl,.inr (SqT.of e),_,rfl,rfl,_,rfl,?_⟩⟩;rw[decide_eq_true (show V.int (((o.map vn).length:Nat):Int)=vn o.length by rw[af];rfl)];refine yV ⟨_,rfl,a,rfl,⟨_,SqT.of e⟩,λ D s=>?_⟩;refine xJ (xs:=o.map vn) (λ n m b=>∃(u:Option V),m=[u]/\b D=some (.lst ((dh n true).map V.bl))/\Same H b) ⟨none,rfl,kB,kC s _⟩ ?_ ?_ ?_
 ·rintro n m b _ ⟨u,rfl,p,g⟩
  exact SqT.of (g _ _ e)
 ·rintro n v m b q ⟨u,rfl,p,g⟩
  have J:=(ag.mp q).1;rw[af]at J;rw[ay]at q;obtain⟨x,_,rfl⟩:=ck.mp q;refine⟨_,rfl,x,rfl,_,p,(by rw[af,iV];exact kQ (by omega)),?_⟩;exact⟨_,rfl,(by rw[qv,dw];exact kB),kY s g⟩
 ·rintro m b ⟨u,rfl,p,g⟩
  refine⟨D,_,rfl,SqL.of p,?_⟩
  have:(dh (o.map vn).length true).all id=true:=by
   rw[ni];intro x M;rw[List.eq_of_mem_replicate M]
   rfl
  rw[this];exact k b g
structure Tr(W:Rows):Prop where
 nb:Nb W
 le:W.length<=42
 three:∀ t∈kN W,(nxt W (nxt W t)).2=t.1
 cnt:(kN W).length+12=6*W.length
def Tr.flat{W:Rows}(T:Tr W):W.length+(Fc.facesS W).length=(Fc.tiesS W).length+2:=((Fc.three_cornered T.nb).mpr ⟨T.three,T.cnt⟩).1
def Tr.faces{W:Rows}(T:Tr W):∀ f∈Fc.facesS W,f.length=3:=((Fc.three_cornered T.nb).mpr ⟨T.three,T.cnt⟩).2
def Tr.turns{W:Rows}(T:Tr W){p q k:Nat}(a:Tri.E W p q)(Y:Turns W p q k):orb W p q k=[(p,q),(q,(nxt W (p,q)).2),((nxt W (p,q)).2,p)]:=by
 have g:(p,q)∈kN W:=mem_steps.mpr a;have c:p≠q:=λ z=>(T.nb.e a).2.2 z.symm;have f:=T.three _ g;have l:=T.three _ (mem_steps.mpr (kFI T.nb a 1):((nxt W (p,q)).1,(nxt W (p,q)).2)∈kN W);have n:nxt W (p,q)=(q,(nxt W (p,q)).2):=rfl;have d:nxt W (nxt W (p,q))=((nxt W (p,q)).2,p):=kr rfl f;have m:nxt W (nxt W (nxt W (p,q)))=(p,q):=kr f l
 have i:k=3:=by
  rcases wj k 3 with h | h | h
  ·exfalso
   have b:=Y.back;have:=Y.pos;have:k=1\/k=2:=by omega
   rcases this with rfl | rfl
   ·have b:nxt W (p,q)=(p,q):=b
    have:=congrArg Av b;exact c this.symm
   ·have b:nxt W (nxt W (p,q))=(p,q):=b
    rw[d]at b;exact c (congrArg Aw b)
  ·exact h
  ·exact absurd m (Y.first 3 (by decide) h)
 subst i;show[(p,q),nxt W (p,q),nxt W (nxt W (p,q))]=_;rw[d]
 rfl
def uQ(T:List (Nat×Nat)):Bs:=.list (T.map λ t=>prD t.1 t.2)
def kHA(T:List (Nat×Nat)):sj (T.map λ t=>prD t.1 t.2)=true/\vt (T.map λ t=>prD t.1 t.2)<=1:=by
 induction T with
 | nil=>exact⟨rfl,by decide⟩
 | cons t T ih =>
  have h1:ui (prD t.1 t.2)=true:=by simp[prD,ui,sj]
  have a:vd (prD t.1 t.2)<=1:=by simp[prD,vd,vt]
  simp only[eo,sj,vt,h1,ih.1];have:=ih.2;refine⟨rfl,?_⟩;omega
def nO(T:List (Nat×Nat)):nh (uQ T)=true:=by
 obtain⟨h1,a⟩:=kHA T;unfold uQ nh;simp only[ui,vd,h1]
 first | (simp;omega) | (rw[iF];exact⟨rfl,decide_eq_true (by omega)⟩) | simp_all
def PairsAt.dt{H:Hp}{s:ar}{T:List (Nat×Nat)}(h:PairsAt H s T):Dt K H (uQ T) (.ref s):=by
 obtain⟨c,h1,b,a⟩:=h;unfold uQ Dt;exact⟨s,_,rfl,SqL.of h1,kAW b a⟩
def kCI:∀(T U:List (Nat×Nat)),kl (uQ T) (uQ U)=decide (T=U):=by
 have go:∀(T U:List (Nat×Nat)),jz (T.map λ t=>prD t.1 t.2) (U.map λ t=>prD t.1 t.2)=decide (T=U):=λ T=>by
  induction T with
  | nil=>intro U;cases U<;>simp[jz]
  | cons t T ih =>
   intro U
   cases U with
   | nil=>simp[jz]
   | cons u U =>
    rw[eo,eo,jz,kES,ih U,iH,iF,decide_eq_true_iff,decide_eq_true_iff,decide_eq_true_iff];constructor
    ·rintro⟨⟨h1,a⟩,rfl⟩
     rw[show t=u from kr h1 a]
    ·intro h
     injection h with h1 a
     exact⟨⟨congrArg _ h1,congrArg _ h1⟩,a⟩
 intro T U;unfold uQ;rw[kl];exact go T U
inductive kJS(vs:List V)(H:Hp)(Q:VK)(Y:XK):Prop
 | mk:∀(w:ar)(W:Rows)(a c b:Nat),(vs=[.ref w,vn a,vn c,vn b])->(WebAt H w W)->(Tr W)->(Tri.E W a c)->(∀ H',Same H H'->Q (.bl (decide ((nxt W (a,c)).2=b))) H')->kJS vs H Q Y
def pW(B:Fx):Hs "are_round" ["web","p","q","r"] 3 (kJS):=by
 refine qD B.X B.d13 pH λ f M A y s0 H vs Q E nN I h=>?_;obtain⟨w,W,a,c,b,rfl,hW,T,J,k⟩:=h;refine⟨_,(kF (kS (jQ (kKP I.units) (pf (vK B) I (p2 (pv 0) (jI (p2 (pv 1) (pv 2))))) (jF (kD (jI (p2 (pv 1) (pv 2))) (kD (jI (p2 (pv 2) (pv 3))) (kD (jI (p2 (pv 3) (pv 1))) kU)))) (jJ _)))),?_⟩
 try dsimp only[qK]
 refine⟨_,rfl,_,rfl,_,rfl,yS2,λ z nz=>?_⟩;have L:=kC nz (.tup [vn a,vn c]);have S:=kB (H:=H) (a:=z) (o:=.tup [vn a,vn c]);refine⟨w,z,W,a,c,rfl,hW.kept L,T.nb,T.le,S,J,λ s m p O Y D=>?_⟩;rw[T.turns J Y]at D;have C:=L.trans O;refine⟨_,rfl,_,rfl,yS2,λ g n1=>⟨_,rfl,_,rfl,yS2,λ l n2=>⟨_,rfl,_,rfl,yS2,λ n N=>⟨yS3,λ u n4=>?_⟩⟩⟩⟩;have U:=kC n1 (.tup [vn a,vn c]);have G:=kC n2 (.tup [vn c,vn b]);have v:=kC N (.tup [vn b,vn a]);have r:=kC n4 (.lst [.ref g,.ref l,.ref n]);have q1:=r _ _ (v _ _ (G _ _ (kB (H:=p) (a:=g) (o:=.tup [vn a,vn c]))));have q2:=r _ _ (v _ _ (kB (H:=upd p g (.tup [vn a,vn c])) (a:=l) (o:=.tup [vn c,vn b])));have Z:=r _ _ (kB (H:=upd (upd p g (.tup [vn a,vn c])) l (.tup [vn c,vn b])) (a:=n) (o:=.tup [vn b,vn a]));have q4:=kB (H:=upd (upd (upd p g (.tup [vn a,vn c])) l (.tup [vn c,vn b])) n (.tup [vn b,vn a])) (a:=u) (o:=.lst [.ref g,.ref l,.ref n]);have kk:=U.trans (G.trans (v.trans r))
 have pu:PairsAt (upd (upd (upd (upd p g (.tup [vn a,vn c])) l (.tup [vn c,vn b])) n (.tup [vn b,vn a])) u (.lst [.ref g,.ref l,.ref n])) u [(a,c),(c,b),(b,a)] :=
  ⟨[g,l,n],q4,rfl,λ i d t q x=>by
   match i with
   | 0=>cases q;cases x;exact q1
   | 1=>cases q;cases x;exact q2
   | 2=>cases q;cases x;exact Z
   | i+3=>simp at q⟩
 refine⟨_,_,(D.kept kk).dt,pu.dt,nO _,nO _,?_⟩;rw[if_neg (by decide),kCI]
 have e:decide ([(a,c),(c,(nxt W (a,c)).2),((nxt W (a,c)).2,a)]=[(a,c),(c,b),(b,a)])=decide ((nxt W (a,c)).2=b):=by
  rw[iH,decide_eq_true_iff,decide_eq_true_iff];constructor
  ·intro h
   injection h with _ h
   injection h with h _
   exact congrArg Aw h
  ·intro h
   rw[h]
 rw[e];exact k _ (C.trans kk)
inductive fH(vs:List V)(H:Hp)(Q:VK)(Y:XK):Prop
 | mk:∀(t:ar)(W:Rows),(vs=[.ref t])->(WebAt H t W)->(Tr W)->(∀ H',Same H H'->Q .non H')->fH vs H Q Y
def dR(B:Fx):Hs "must_be_flat" ["web"] 5 (fH):=by
 refine qD B.X B.d10 dO λ f g A a n H m Q E l d h=>?_;obtain⟨t,W,rfl,i,T,k⟩:=h;refine⟨_,(kF (xS (vG (wE (pf (kCS B) d (p1 (pv 0))))) (kF dY) jA)),?_⟩
 try dsimp only[qK]
 refine⟨_,rfl,t,W,rfl,i,T.nb,T.le,λ b c=>⟨_,rfl,?_⟩⟩;rw[decide_eq_true T.flat];exact xN (k b c)
inductive sL(vs:List V)(H:Hp)(Q:VK)(Y:XK):Prop
 | mk:∀(t:ar)(W:Rows),(vs=[.ref t])->(WebAt H t W)->(Tr W)->(∀ H',Same H H'->Q .non H')->sL vs H Q Y
def uR(B:Fx):Hs "uncornered_face" ["web"] 4 (sL):=by
 refine qD B.X B.d12 uK λ f G A o s0 H vs Q E Y y h=>?_;obtain⟨t,W,rfl,S,T,k⟩:=h
 refine⟨_,(kE (pL (i:=1) (Nc:=["face"]) (js:=[none]) rfl rfl Y rfl (AO rfl) (xM (pf (tZ B) y (p1 (pv 0)))) (CS.of rfl rfl) rfl (λ C g d J l=>(pgc 0)) (λ C g d J l D L=>(yS (qO nP (kM (show xR _ _ (zR K) from kP) rfl (B.z B.y0) eh (p1 (pv 0))) kO (jJ _)) (qZ (pv 0)))))
   (kF (kS (gB (kKD (pv 1) (λ _=>rfl)) (pix kW (pv 1) kO) kKI)))),?_⟩
 try dsimp only[qK]
 refine⟨_,rfl,t,W,rfl,S,T.nb,T.le,λ s H1 M ns rt=>?_⟩;obtain⟨N,h1,h2,O⟩:=id rt;refine⟨s,rfl,⟨_,SqL.of h1⟩,λ D U=>?_⟩
 refine xH (xs:=N.map V.ref) (λ i n c=>∃(m:Option V),n=[m]/\Same H1 c/\c D=some (.lst []))
  ⟨none,rfl,kC U _,kB⟩ ?_ ?_ ?_
 ·rintro i n c _ ⟨m,rfl,a,_⟩
  exact SqL.of (a _ _ h1)
 ·rintro i x n c u ⟨m,rfl,a,p⟩
  rw[ay]at u;obtain⟨b,q,rfl⟩:=ck.mp u;have r:i<(Fc.facesS W).length:=by rw[<-h2];exact(ag.mp q).1
  have I:=aa r;have v:=O i b _ q I;have Z:=T.faces _ (fe r);refine⟨_,rfl,b,_,rfl,.inr (SqT.of (a _ _ v)),rfl,_,rfl,?_⟩;rw[af,Z];exact xN ⟨_,rfl,a,p⟩
 ·rintro n c ⟨m,rfl,a,p⟩
  exact⟨_,rfl,false,.inl ⟨_,SqL.of p,rfl⟩,k c (M.trans a)⟩
inductive kEF(vs:List V)(H:Hp)(Q:VK)(Y:XK):Prop
 | mk:∀(w z:ar)(W:Rows)(a b c:Nat),(vs=[.ref w,.ref z])->(WebAt H w W)->(Tr W)->(H z=some (.tup [vn a,vn b,vn c]))->(Tri.E W a c)->((nxt W (a,c)).2=b)->(∀ H',Same H H'->Q (.bl true) H')->kEF vs H Q Y
def kCT(B:Fx):Hs "is_base" ["web","thing"] 4 (kEF):=by
 refine qD B.X B.d14 kCA λ f v A o U H M Q E i q h=>?_;obtain⟨w,z,W,a,b,c,rfl,D,T,r,p,G,k⟩:=h
 refine⟨_,(kE (xS (vG (wE (pf (aR B) q (p2 (pv 1) kO)))) (kF (kS vI)) jA)
   (kE (yU (pv 1) (jZ (n:=3) rfl (kR (pgn 2 i) (kR (pgn 3 i) (kR (pgn 4 i) jD)))))
   (kF (kS (vJ (kKL kSG kOR kO (pv 2) (kM kP rfl (B.z B.y0) eh (p1 (pv 0)))) (vJ (jQ jM (pv 4) (pix kX (pv 0) (pv 2)) rfl) (uP (pf (pW B) q (kD (pv 0) (kD (pv 2) (kD (pv 4) (kD (pv 3) kU)))))))))))),?_⟩
 try dsimp only[qK]
 refine⟨_,rfl,z,[a,b,c],rfl,r,(by show 3<=1000;decide),λ S d=>⟨_,rfl,xN ?_⟩⟩;have l:=d _ _ r;have s:=D.kept d;obtain⟨L,h1,g,C⟩:=s.at;obtain⟨row,I,m⟩:=id p;obtain⟨y,u,x⟩:=C a row I;have O:=(T.nb.e p).1;refine⟨_,rfl,z,_,rfl,SqT.of l,rfl,_,_,rfl,_,_,rfl,_,_,rfl,rfl,?_⟩;refine⟨_,rfl,_,_,rfl,rfl,_,rfl,?_⟩;rw[decide_eq_true (show(0:Int)<=(a:Int) by omega)];refine yV ⟨_,rfl,w,_,rfl,.inr (SqT.of h1),_,_,rfl,rfl,_,rfl,?_⟩;rw[decide_eq_true (show(a:Int)<(((L.map V.ref).length:Nat):Int) by rw[af,g];omega)];refine yV ⟨_,rfl,_,rfl,_,rfl,w,_,_,_,rfl,rfl,SqT.of h1,u,y,_,rfl,.inr (SqT.of x),rfl,zZ _,_,rfl,?_⟩;rw[wQ,decide_eq_true m];refine yV ⟨_,rfl,_,rfl,_,rfl,_,rfl,w,W,a,c,b,rfl,s,T,p,λ N J=>?_⟩;rw[decide_eq_true G];exact k _ (d.trans J)
inductive fI(vs:List V)(H:Hp)(Q:VK)(Y:XK):Prop
 | mk:∀(w z:ar)(W:Rows)(a b c:Nat),(vs=[.ref w,.ref z])->(WebAt H w W)->(Tr W)->(H z=some (.tup [vn a,vn b,vn c]))->(Tri.E W a c)->((nxt W (a,c)).2=b)->(∀ H',Same H H'->Q .non H')->fI vs H Q Y
def aQ(B:Fx):Hs "must_have_base" ["web","base"] 6 (fI):=by
 refine qD B.X B.d15 aI λ f n A l y H v Q E q g h=>?_;obtain⟨w,z,W,a,b,c,rfl,i,T,o,u,p,k⟩:=h
 refine⟨_,(kE (qE (pf (dR B) g (p1 (pv 0))))
   (kE (pst 2 q (pf (uR B) g (p1 (pv 0))))
   (kE (xS (qO kNC (pv 2) kKI (jJ _)) (kF dY) jA)
   (kF (xS (vG (wE (pf (kCT B) g (p2 (pv 0) (pv 1))))) (kF dY) jA))))),?_⟩
 try dsimp only[qK]
 refine⟨_,rfl,w,W,rfl,i,T,λ x d=>?_⟩;refine⟨_,rfl,w,W,rfl,i.kept d,T,λ C m=>?_⟩;refine⟨_,rfl,rfl,_,rfl,xN ?_⟩;refine⟨_,rfl,_,rfl,w,z,W,a,b,c,rfl,(i.kept d).kept m,T,m _ _ (d _ _ o),u,p,λ r s=>⟨_,rfl,xN ?_⟩⟩;exact k r (d.trans (m.trans s))
end
section
def aV(a:List Nat):Bs:=.list (a.map λ n:Nat=>ju (n:Int))
def yO(a:List Nat):Bs:=.tuple (a.map λ n:Nat=>ju (n:Int))
def cD(T:List Nat):sj (T.map λ n:Nat=>ju (n:Int))=true/\vt (T.map λ n:Nat=>ju (n:Int))<=1:=by
 induction T with
 | nil=>exact⟨rfl,by decide⟩
 | cons t T ih =>
  simp only[eo,sj,vt,ui,vd,ih.1];have:=ih.2;refine⟨rfl,?_⟩;omega
def kAG(T:List Nat):nh (aV T)=true:=by
 obtain⟨h1,a⟩:=cD T;unfold aV nh;simp only[ui,vd,h1]
 first | (simp;omega) | (rw[iF];exact⟨rfl,decide_eq_true (by omega)⟩) | simp_all
def dX(T:List Nat):nh (yO T)=true:=by
 obtain⟨h1,a⟩:=cD T;unfold yO nh;simp only[ui,vd,h1]
 first | (simp;omega) | (rw[iF];exact⟨rfl,decide_eq_true (by omega)⟩) | simp_all
def kHK(T:List Nat):kl (aV T) (aV T)=true:=by
 unfold aV;rw[kl];exact kAL T
def kIR(T:List Nat):kl (yO T) (yO T)=true:=by
 unfold yO;rw[kl];exact kAL T
def kFP{H:Hp}{s:ar}{T:List Nat}(h:H s=some (.lst (T.map vn))):Dt K H (aV T) (.ref s):=by
 unfold aV Dt;exact⟨s,_,rfl,SqL.of h,kFQ T⟩
def cI{H:Hp}{s:ar}{T:List Nat}(h:H s=some (.tup (T.map vn))):Dt K H (yO T) (.ref s):=by
 unfold yO Dt;exact⟨s,_,rfl,SqT.of h,kFQ T⟩
def kGM(T U:List Nat):kl (yO T) (yO U)=decide (T=U):=by
 have go:∀(T U:List Nat),jz (T.map λ n:Nat=>ju (n:Int)) (U.map λ n:Nat=>ju (n:Int))=decide (T=U):=λ T=>by
  induction T with
  | nil=>intro U;cases U<;>simp[jz]
  | cons t T ih =>
   intro U
   cases U with
   | nil=>simp[jz]
   | cons u U =>
    rw[eo,eo,jz,ih U,iH,iF,decide_eq_true_iff,decide_eq_true_iff]
    have e:kl (ju (t:Int)) (ju (u:Int))=true↔t=u:=by
     simp only[kl,beq_iff_eq];omega
    rw[e];constructor
    ·rintro⟨h1,a⟩
     rw[h1,a]
    ·intro h
     injection h with h1 a
     exact⟨h1,a⟩
 unfold yO;rw[kl];exact go T U
end
section
inductive kJR(vs:List V)(H:Hp)(Q:VK)(Y:XK):Prop
 | mk:∀(a r:ar)(W:Rows),(vs=[.ref a,.ref r])->(PotAt H a)->(WebAt H r W)->(Good W)->(W.length<=42)->(∀(t:ar)(x y z:Nat)(H':Hp),SameBut a H H'->PotAt H' a->H t=none->H' t=some (.tup [vn x,vn y,vn z])->Tri.E W x z->(nxt W (x,z)).2=y->Q (.ref t) H')->kJR vs H Q Y
def tW(B:Fx):Hs "_law_base" ["_law_pot_here","_law_web_here"] 3 (kJR):=by
 refine qD B.X B.d36 tE λ f N A i s0 H vs Q E I u h=>?_;obtain⟨a,r,W,rfl,M,s,G,a0,k⟩:=h
 refine⟨_,(kE (yU (pf (vL B) u (p2 (pv 0) (pv 1))) (jZ (n:=2) rfl (kR (pgn 2 I) (kR (pgn 3 I) jD))))
   (kF (kS (jI (kD (pv 2) (kD (pf (yI B) u (kD (pv 1) (kD (pv 2) (kD (pv 3) kU)))) (kD (pv 3) kU))))))),?_⟩
 try dsimp only[qK]
 have S:=(Wb.of G).toNb;have l3:=G.three;refine⟨_,rfl,_,rfl,.inr ⟨a,r,W,rfl,M,s,by omega,by omega,λ p row e=>⟨G.ne p row e,by have:=S.len e;omega⟩,λ t p q H1 g p1 nt U d=>?_⟩⟩;refine⟨t,_,rfl,SqT.of U,rfl,_,_,rfl,_,_,rfl,rfl,?_⟩;have l:=s.pot g M;obtain⟨z,J,n2,n3,e1,e2⟩:=kMJ S (xG G).1 d;obtain⟨row,Z,nd,mem,pv⟩:=Fc.row_at S (S.e d).2.1;have o:p∈row:=(mem p).mpr (S.sym _ _ d)
 obtain⟨v,C⟩ : ∃ v,jX row p=some v:=by
  exact wF o
 have D:=pv p v C;rw[J]at D;obtain rfl:z=v:=congrArg Aw D;obtain⟨ts,h1,h2,Y⟩:=l.at;obtain⟨b,O,e4⟩:=Y q row Z;refine⟨_,rfl,_,rfl,_,rfl,_,rfl,r,b,_,p,q,row,z,rfl,.inr ⟨h1,e4⟩,O,o,C,_,rfl,yS3,λ m c=>?_⟩;have L:=kC c (.tup [vn p,vn z,vn q]);refine k m p z q _ ?_ ?_ ?_ kB d (by rw[J])
 ·exact g.trans (SameBut.of L)
 ·exact p1.kept L
 ·cases e:H m with
  | none=>rfl
  | some ob =>
   have T:m≠a:=λ z=>by
    obtain⟨x,y,hx,_⟩:=p1;rw[z,hx]at c;cases c
   rw[g _ _ T e]at c;cases c
def bJ{l:List Nat}{j:Nat}(h:j<l.length):atI (l.map vn) (j:Int)=some (vn (l.getD j 0)):=jW (by rw[ay,ae,aa h];rfl)
def uO(f:Nat->Bool)(j:Nat):(df (j+1)).filter f=(df j).filter f++if f j=true then[j] else[]:=by
 rw[Au,wa]
 congr 1
 by_cases c:f j=true
 ·rw[if_pos c,yw c,AZ]
 ·rw[if_neg c,yv c,AZ]
end
section
def isB(a b c p:Nat):Bool:=decide (p∈[a,b,c])
def isB_iff{a b c p:Nat}:isB a b c p=true↔(p=a\/p=b\/p=c):=by unfold isB;simp
def uC{a b c p:Nat}(h:isB a b c p=false):p≠a/\p≠b/\p≠c:=by
 unfold isB at h;simpa using h
def wP(n a b c:Nat):List Nat:=(df n).filter λ p=>!isB a b c p
def yW(p a b c:Nat):inV (vn p) [vn a,vn b,vn c]=isB a b c p:=wQ p [a,b,c]
def xW(a b c:Nat):([vn a,vn b,vn c]:List V).all vS=true:=rfl
inductive kEC(vs:List V)(H:Hp)(Q:VK)(Y:XK):Prop
 | mk:∀(w z:ar)(W:Rows)(a b c:Nat),(vs=[.ref w,.ref z])->(WebAt H w W)->(W.length<=42)->(H z=some (.tup [vn a,vn b,vn c]))->(∀(l:ar)(H':Hp),Same H H'->H l=none->H' l=some (.lst ((wP W.length a b c).map vn))->Q (.ref l) H')->kEC vs H Q Y
def dU(B:Fx):Hs "inner_places" ["web","base"] 1 (kEC):=by
 refine qD B.X B.d16 dQ λ f G A v s0 H U Q E nN Y h=>?_;obtain⟨w,z,W,a,b,c,rfl,M,O,J,k⟩:=h;refine⟨_,(kF (kS (qX (Nc:=["p","base"]) (js:=[none,some 1]) rfl rfl (qN rfl (B.z B.y4) (p1 (kM kP rfl (B.z B.y0) eh (p1 (pv 0))))) (CS.of rfl rfl) rfl (λ C l i I o=>(pgc 0)) (λ C l i I o D L=>(yS (qO (show OpR _ _ (rIn K true) from yH) (pv 0) (pv 1) rfl) (qZ (pv 0))))))),?_⟩
 try dsimp only[qK]
 obtain⟨S,h1,d,Z⟩:=M.at;refine⟨_,rfl,w,_,rfl,.inr (SqT.of h1),_,rfl,(by rw[af,d];omega),(by rw[af,d];omega),λ D u=>?_⟩;refine yN (lo:=0) (n:=((((S.map V.ref).length:Nat):Int)).toNat) (λ j s m=>∃(r:Option V),s=[r,some (.ref z)]/\Same H m/\m D=some (.lst ((wP j a b c).map vn))) ⟨none,rfl,kC u _,kB⟩ ?_ ?_
 ·rintro j s m x ⟨r,rfl,q,g⟩
  have N:j<W.length:=by rw[af,fg,d]at x;exact x
  have T:((wP j a b c).map vn).length<sizeLine:=by
   rw[af];have:=ie (λ p=>!isB a b c p) (df j);rw[eV]at this;exact kQ (by unfold wP;omega)
  have e:wP (j+1) a b c=wP j a b c++if(!isB a b c j)=true then[j] else[]:=uO (λ p=>!isB a b c p) j;rw[e];generalize wP j a b c=L at *;have y:V.int (0+(j:Int))=vn j:=by rw[ve];rfl
  refine⟨_,rfl,_,rfl,z,_,rfl,.inr (SqT.of (q _ _ J)),rfl,xW a b c,_,rfl,?_⟩;rw[y,yW]
  cases isB a b c j with
  | true=>exact xN ⟨_,rfl,q,by rw[if_neg (by decide),iM];exact g⟩
  | false =>
   refine yV ⟨_,rfl,_,g,T,⟨_,rfl,kY u q,?_⟩⟩;rw[if_pos (by decide),kB,dw]
   rfl
 ·rintro s m ⟨r,rfl,q,g⟩
  rw[af,fg,d]at g;exact k D m q u g
inductive sO(vs:List V)(H:Hp)(Q:VK)(Y:XK):Prop
 | mk:∀(w z t:ar)(W:Rows)(a b c p:Nat)(row r:List Nat),(vs=[.ref w,.ref z,vn p,.ref t])->(WebAt H w W)->(H z=some (.tup [vn a,vn b,vn c]))->(H t=some (.tup (r.map vn)))->(W[p]?=some row)->r.Nodup->(r.length=if isB a b c p=true then 0 else 3)->(∀ q∈r,q∈row)->(∀ H',Same H H'->Q (.bl true) H')->sO vs H Q Y
def mG(B:Fx):Hs "is_out_row" ["web","base","place","thing"] 3 (sO):=by
 refine qD B.X B.d17 mC λ f a0 A O s0 H vs Q E nN hr h=>?_;obtain⟨w,z,t,W,a,b,c,p,row,r,rfl,hW,hz,G,er,nd,i,sub,k⟩:=h
 refine⟨_,(kE (pst 4 nN (gB (qO jM (pv 2) (pv 1) rfl) kO kO))
   (kF (kS (vJ (pf (aR B) hr (p2 (pv 3) (pv 4))) (vJ (jQ kEW (kM kIJ rfl (B.z B.y0) eh (p1 (qJ (kIG rfl) rfl (B.z B.y13) Fn (p1 (pv 3))))) (pv 4) (jJ _)) (uP (kM (xI rfl) rfl (B.z B.y12) iq (p1 (qX (Nc:=["q","web","place"]) (js:=[none,some 0,some 2]) rfl rfl (wH (pv 3)) (CS.of rfl rfl) rfl (λ C s m fp y=>(pgc 0)) (λ C s m fp y D L=>(qM (qZ (jQ (show OpR _ _ (rIn K false) from jM) (pv 0) (pix (show IxR _ (mE K) from kX) (pv 1) (pv 2)) rfl))))))))))))),?_⟩
 try dsimp only[qK]
 have r3:r.length<=3:=by rw[i];split<;>omega
 have go:(kRN (kJD (kDT kBP [] E0 (aF (vC 3) (aF (vC 4) kBM))) (kJD (tOp rEq (tCB uY (aF (tCB (uX K) (aF (vC 3) kBM)) kBM)) (vC 4)) (tCB (uZ K) (aF (tLC [none,some 0,some 2] (kNS K (vC 3)) (gR 0) λ D=>kTC D (tOp (rIn K false) (vC 0) (tOp (mE K) (vC 1) (vC 2)))) kBM))))) {nx:=λ x H'=>Q V.non H',rt:=Q} [some (.ref w),some (.ref z),some (vn p),some (.ref t),some (vn r.length)] H:=by
  refine⟨_,rfl,_,rfl,t,r,rfl,G,by omega,λ H1 Y=>⟨_,rfl,yV ?_⟩⟩;have N:=Y _ _ G;refine⟨_,rfl,t,r.map ci,rfl,.inr (SqT.of (by rw[N,jE])),(by rw[af];omega),λ S f n nS hn le=>?_⟩;have gS:=kC nS (.set f n);have hS:=kB (H:=H1) (a:=S) (o:=.set f n);have M:(r.map ci).Nodup:=iY.mpr (nd.imp λ{a b} h e=>h (by simp only[ci]at e;omega));have en:n=r.length:=by rw[hn.mpr M,af]
  refine⟨S,f,n,rfl,hS,_,rfl,rfl,_,rfl,?_⟩;rw[decide_eq_true (show V.int (n:Int)=vn r.length by rw[en];rfl)];refine yV ?_;have J:=Y.trans gS;generalize upd H1 S (.set f n)=H2 at *;obtain⟨ts,h1,a1,h3⟩:=(hW.kept J).at;obtain⟨b',e1,e2⟩:=h3 p row er;refine⟨_,rfl,t,rfl,⟨_,SqT.of (J _ _ G)⟩,λ D Z=>?_⟩;refine xJ (xs:=r.map vn) (λ j I g=>∃(u:Option V),I=[u,some (.ref w),some (vn p)]/\g D=some (.lst ((dh j true).map V.bl))/\Same H2 g) ⟨none,rfl,kB,kC Z _⟩ ?_ ?_ ?_
  ·rintro j I g _ ⟨u,rfl,_,d⟩
   exact SqT.of (d _ _ (J _ _ G))
  ·rintro j v I g U ⟨u,rfl,T,d⟩
   rw[ay]at U;obtain⟨q,l,rfl⟩:=ck.mp U;have hj:=(ag.mp l).1;have qo:=sub q (cu l);refine⟨_,rfl,_,rfl,_,rfl,w,_,_,_,rfl,rfl,SqT.of (d _ _ h1),e1,b',_,rfl,.inr (SqT.of (d _ _ e2)),rfl,zZ _,?_⟩;rw[wQ,decide_eq_true qo];refine⟨_,T,(by rw[af,iV];exact kQ (by omega)),?_⟩;exact⟨_,rfl,(by rw[qv,dw];exact kB),kY Z d⟩
  ·rintro I g ⟨u,rfl,T,d⟩
   refine⟨D,_,rfl,SqL.of T,?_⟩;rw[show(dh (r.map vn).length true).all id=true by simp];exact k g (J.trans d)
 refine⟨_,rfl,_,rfl,z,_,rfl,.inr (SqT.of hz),rfl,xW a b c,_,rfl,?_⟩;rw[yW]
 cases hB:isB a b c p with
 | true =>
  rw[hB,if_pos rfl]at i;rw[i]at go;exact yV go
 | false =>
  rw[hB,if_neg (by decide)]at i;rw[i]at go;exact xN go
end
section
inductive sP(vs:List V)(H:Hp)(Q:VK)(Y:XK):Prop
 | mk:∀(z d t:ar)(D:Rows)(a b c p q:Nat)(rp rq:List Nat),(vs=[.ref z,.ref d,.ref t])->(H z=some (.tup [vn a,vn b,vn c]))->(WebAt H d D)->(H t=some (.tup [vn p,vn q]))->(D[p]?=some rp)->(D[q]?=some rq)->((isB a b c p=true/\isB a b c q=true)\/(q∈rp↔p∉rq))->(Q (.bl true) H)->sP vs H Q Y
def bU(B:Fx):Hs "leads_one_way" ["base","rows","tie"] 1 (sP):=by
 refine qD B.X B.d18 bQ λ f G A o s0 H Y Q E v Z h=>?_;obtain⟨z,d,t,D,a,b,c,p,q,u,C,rfl,r,U,J,y,T,i,k⟩:=h
 refine⟨_,(kE (yU (pv 2) (jZ (n:=2) rfl (kR (pgn 3 v) (kR (pgn 4 v) jD))))
   (kF (kS (kOQ (vJ (jQ jM (pv 3) (pv 0) rfl) (uP (jQ jM (pv 4) (pv 0) rfl))) (uP (jQ nP (jQ jM (pv 4) (pix kX (pv 1) (pv 3)) rfl) (jQ jM (pv 3) (pix kX (pv 1) (pv 4)) rfl) (jJ _))))))),?_⟩
 try dsimp only[qK]
 obtain⟨ts,h1,L,s⟩:=U.at;obtain⟨O,x,M⟩:=s p u y;obtain⟨S,I,N⟩:=s q C T;refine⟨_,rfl,t,_,rfl,SqT.of J,rfl,_,_,rfl,_,_,rfl,rfl,?_⟩;refine⟨_,rfl,_,rfl,z,_,rfl,.inr (SqT.of r),rfl,xW a b c,_,rfl,?_⟩
 have l:kIZ (tOp rNe (tOp (rIn K false) (vC 4) (tOp (mE K) (vC 1) (vC 3))) (tOp (rIn K false) (vC 3) (tOp (mE K) (vC 1) (vC 4)))) [some (.ref z),some (.ref d),some (.ref t),some (vn p),some (vn q)] Q (.bl false) H\/(isB a b c p=true/\isB a b c q=true):=by
  rcases i with i | i
  ·exact .inr i
  ·refine .inl ⟨_,rfl,xN ?_⟩
   refine⟨_,rfl,_,rfl,_,rfl,d,_,_,_,rfl,rfl,SqT.of h1,x,O,_,rfl,.inr (SqT.of M),rfl,zZ _,_,rfl,_,rfl,_,rfl,d,_,_,_,rfl,rfl,SqT.of h1,I,S,_,rfl,.inr (SqT.of N),rfl,zZ _,rfl,?_⟩;rw[wQ,wQ];by_cases m:q∈u
   ·rw[decide_eq_true m,decide_eq_false (i.mp m)]
    exact k
   ·rw[decide_eq_false m,decide_eq_true (gm λ z=>m (i.mpr z))]
    exact k
 rw[yW]
 cases hp:isB a b c p with
 | false =>
  rcases l with g | g
  ·exact xN g
  ·rw[hp]at g
   exact absurd g.1 (by decide)
 | true =>
  refine yV ⟨_,rfl,_,rfl,z,_,rfl,.inr (SqT.of r),rfl,xW a b c,?_⟩;rw[yW]
  cases hq:isB a b c q with
  | false =>
   rcases l with g | g
   ·exact g
   ·rw[hq]at g
    exact absurd g.2 (by decide)
  | true=>exact⟨_,rfl,yV k⟩
inductive sM(vs:List V)(H:Hp)(Q:VK)(Y:XK):Prop
 | mk:∀(d:ar)(D:Rows)(p q:Nat)(rp rq:List Nat),(vs=[.ref d,vn p,vn q])->(WebAt H d D)->(D[p]?=some rp)->(D[q]?=some rq)->(rp.length<=3)->(rq.length<=3)->(q∈rp\/p∈rq)->(Q (vn (wY D p q)) H)->sM vs H Q Y
def kHB(B:Fx):Hs "stands" ["rows","place","q"] 1 (sM):=by
 refine qD B.X B.d19 kGT λ f T A G s0 H vs Q E nN hr h=>?_;obtain⟨d,D,p,q,s,u,rfl,hD,J,S,l1,l2,cd,k⟩:=h;obtain⟨b,n,o⟩:=kOW B.X B.cOUT (by decide);obtain⟨a,c,g⟩:=kOW B.X B.cINTO (by decide)
 refine⟨_,(kE (xS (qO jM (pv 2) (pix kX (pv 0) (pv 1)) rfl) (kF (kS (pix kX (kEU (v:=.ref b) rfl n rfl) (cY ji jl jm yK (pix kX (pv 0) (pv 1)) (p1 (pv 2)))))) jA)
   (kF (kS (pix kX (kEU (v:=.ref a) rfl c rfl) (cY ji jl jm yK (pix kX (pv 0) (pv 2)) (p1 (pv 1))))))),?_⟩
 try dsimp only[qK]
 obtain⟨ts,h1,Z,L⟩:=hD.at;obtain⟨O,I,C⟩:=L p s J;obtain⟨b2,U,M⟩:=L q u S;have gp:D.getD p []=s:=by rw[ae,J];rfl
 have Y:D.getD q []=u:=by rw[ae,S];rfl
 unfold wY at k;rw[gp,Y]at k;have r:∀{x y z:Nat}{i:Nat},i<3->atI ([(x:Int),(y:Int),(z:Int)].map V.int) (i:Int)=some (vn ([x,y,z].getD i 0)):=λ{x y z i} hi=>bJ (l:=[x,y,z]) (by simpa using hi);refine⟨_,rfl,_,rfl,_,rfl,d,_,_,_,rfl,rfl,SqT.of h1,I,O,_,rfl,.inr (SqT.of C),rfl,zZ _,_,rfl,?_⟩;rw[wQ];by_cases m:q∈s
 ·rw[decide_eq_true m]
  rw[if_pos m]at k;have il:=fj m;refine yV ⟨_,rfl,_,rfl,d,_,_,_,rfl,rfl,SqT.of h1,I,.inr (.inl ⟨rfl,.inr ⟨_,C⟩⟩),_,rfl,O,s.map ci,q,s.idxOf q,rfl,rfl,SqT.of (by rw[C,jE]),qI m,?_⟩;exact⟨b,_,_,_,rfl,rfl,o _,r (x:=0) (y:=2) (z:=4) (by omega),k⟩
 ·rw[decide_eq_false m]
  rw[if_neg m]at k;have N:=cd.resolve_left m;have il:=fj N;refine xN ⟨_,rfl,_,rfl,d,_,_,_,rfl,rfl,SqT.of h1,U,.inr (.inl ⟨rfl,.inr ⟨_,M⟩⟩),_,rfl,b2,u.map ci,p,u.idxOf p,rfl,rfl,SqT.of (by rw[M,jE]),qI N,?_⟩;exact⟨a,_,_,_,rfl,rfl,g _,r (x:=3) (y:=5) (z:=1) (by omega),k⟩
end
section
inductive kJJ(vs:List V)(H:Hp)(Q:VK)(Y:XK):Prop
 | mk:∀(w d:ar)(W D:Rows)(p x:Nat)(row rp:List Nat),(vs=[.ref w,.ref d,vn p])->(WebAt H w W)->(WebAt H d D)->(W[p]?=some row)->(D[p]?=some (x::rp))->x∈row->row.length<=42->(∀ q∈row,∃ rq,D[q]?=some rq/\rq.length<=3/\(q∈x::rp\/p∈rq))->(x::rp).length<=3->((rot row x).map (wY D p)).Pairwise (·<=·)->(∀ H',Same H H'->Q (.bl true) H')->kJJ vs H Q Y
def bT(B:Fx):Hs "stand_in_turn" ["web","rows","place"] 2 (kJJ):=by
 refine qD B.X B.d20 bP λ f a0 A S s0 H vs Q E nN I h=>?_;obtain⟨w,d,W,D,p,x,row,rp,rfl,hW,hD,er,T,hx,a4,ok,l3,J,k⟩:=h
 refine⟨_,(kE (pL (i:=3) (Nc:=["q","rows","place"]) (js:=[none,some 1,some 2]) rfl rfl nN rfl (AO rfl) (wH (pf (uU B) I (p2 (pix kX (pv 0) (pv 2)) (pix kX (pix kX (pv 1) (pv 2)) kO)))) (CS.of rfl rfl) rfl (λ C o n fp r=>(pgc 0)) (λ C o n fp r D L=>(qM (qZ (pf (kHB B) I (kD (pv 1) (kD (pv 2) (kD (pv 0) kU))))))))
   (kF (kS (jQ (kKP I.units) (pv 3) (kM kDH rfl (B.z B.y8) ye (p1 (pv 3))) (jJ _))))),?_⟩
 try dsimp only[qK]
 obtain⟨ts,h1,a1,h3⟩:=hW.at;obtain⟨b1,e1,e2⟩:=h3 p row er;obtain⟨us,u1,a2,u3⟩:=hD.at;obtain⟨b2,f1,f2⟩:=u3 p _ T;have ml:∀ q,q∈rot row x↔q∈row:=λ q=>((bS row x).mem q).symm;have a3:(rot row x).length=row.length:=((bS row x).perm.length_eq).symm;refine⟨_,rfl,_,rfl,w,_,_,_,rfl,rfl,SqT.of h1,e1,_,rfl,_,rfl,d,_,_,_,rfl,rfl,SqT.of u1,f1,b2,_,_,_,rfl,rfl,SqT.of f2,(show atI (vn x::rp.map vn) 0=some (vn x) from jW (j:=0) rfl),b1,row,x,rfl,.inr e2,hx,by omega,λ t H1 Z Y=>?_⟩;refine⟨t,rfl,⟨_,SqT.of Y⟩,λ L nL=>?_⟩;refine xJ (xs:=(rot row x).map vn) (λ j y s=>∃(u:Option V),y=[u,some (.ref d),some (vn p)]/\s L=some (.lst ((((rot row x).take j).map (wY D p)).map vn))/\Same H1 s) ⟨none,rfl,kB,kC nL _⟩ ?_ ?_ ?_
 ·rintro j y s _ ⟨u,rfl,_,g⟩
  exact SqT.of (g _ _ Y)
 ·rintro j v y s U ⟨u,rfl,m,g⟩
  rw[ay]at U;obtain⟨q,c,rfl⟩:=ck.mp U;have hj:=(ag.mp c).1;obtain⟨rq,G,O,cd⟩:=ok q ((ml q).mp (cu c));refine⟨_,rfl,_,rfl,_,rfl,d,D,p,q,_,rq,rfl,(hD.kept Z).kept g,T,G,l3,O,cd,?_⟩;refine⟨_,m,(by rw[af,af,eO];exact kQ (by omega)),_,rfl,?_,kY nL g⟩;rw[jg,c,kB];simp
 ·rintro y s ⟨u,rfl,m,g⟩
  rw[af,iP]at m;generalize(rot row x).map (wY D p)=N at *;refine⟨_,rfl,_,rfl,L,N.map ci,rfl,.inl (SqL.of (by rw[m,jE])),λ l M nl pm sr=>?_⟩;have en:M=N.map ci:=List.Perm.eq_of_pairwise (le:=(·<=·)) (λ a b _ _ h1 h2=>Int.le_antisymm h1 h2) sr (iY.mpr (J.imp λ{a b} h=>by simp only[ci];omega)) pm;subst en;have gl:=kC nl (.lst ((N.map ci).map V.int));refine⟨aV N,aV N,kFP (gl _ _ m),kFP (by rw[jE];exact kB),kAG _,kAG _,?_⟩;rw[kHK];exact k _ (Z.trans (g.trans gl))
inductive kJM(vs:List V)(H:Hp)(Q:VK)(Y:XK):Prop
 | mk:∀(w z d:ar)(W D:Rows)(a b c k x:Nat)(row:List Nat),(vs=[.ref w,.ref z,.ref d,vn k])->(WebAt H w W)->(H z=some (.tup [vn a,vn b,vn c]))->(WebAt H d D)->([a,b,c][k]?=some x)->(W[x]?=some row)->row.length<=42->(∀ q∈row,isB a b c q=false->∃ rq,D[q]?=some rq/\rq[k]?=some x)->(∀ H',Same H H'->Q (.bl true) H')->kJM vs H Q Y
def kCN(B:Fx):Hs "lead_in" ["web","base","rows","k"] 1 (kJM):=by
 refine qD B.X B.d21 kBU λ f Y A G s0 H vs Q E nN hr h=>?_;obtain⟨w,z,d,W,D,a,b,c,k,x,row,rfl,hW,N,hD,ex,er,a2,ok,q0⟩:=h
 refine⟨_,(kE (pst 4 nN (pix kX (pv 1) (pv 3)))
   (kF (kS (kM (xI rfl) rfl (B.z B.y12) iq (p1 (qX (Nc:=["q","corner","k","rows","base"]) (js:=[none,some 4,some 3,some 2,some 1]) rfl rfl (wH (pix kX (pv 0) (pv 4))) (CS.of rfl rfl) rfl (λ C p o Z r=>(wI (i:=0) (show BD (α:=Str) ["q","corner","k","rows","base"] by decide +kernel) rfl (AO rfl))) (λ C p o Z r D L=>(yS (qO (show OpR _ _ (rIn K true) from yH) (pv 0) (pv 4) rfl) (qZ (jQ kEW (pix (show IxR _ (mE K) from kX) (pix (show IxR _ (mE K) from kX) (pv 3) (pv 0)) (pv 2)) (pv 1) (jJ _))))))))))),?_⟩
 try dsimp only[qK]
 obtain⟨ts,h1,a0,h3⟩:=hW.at;obtain⟨b1,U,M⟩:=h3 x row er;obtain⟨us,u1,a1,u3⟩:=hD.at;have S:atI [vn a,vn b,vn c] (k:Int)=some (vn x):=jW (by rw[show([vn a,vn b,vn c]:List V)=[a,b,c].map vn from rfl,ay,ex];rfl);refine⟨_,rfl,_,rfl,z,_,_,_,rfl,rfl,SqT.of N,S,?_⟩;refine⟨_,rfl,_,rfl,w,_,_,_,rfl,rfl,SqT.of h1,U,b1,rfl,⟨_,SqT.of M⟩,λ L O=>?_⟩;refine xJ (xs:=row.map vn) (λ j y l=>∃(u:Option V)(m:Nat),y=[u,some (vn x),some (vn k),some (.ref d),some (.ref z)]/\m<=j/\l L=some (.lst ((dh m true).map V.bl))/\Same H l) ⟨none,0,rfl,av _,kB,kC O _⟩ ?_ ?_ ?_
 ·rintro j y l _ ⟨u,m,rfl,_,_,g⟩
  exact SqT.of (g _ _ M)
 ·rintro j v y l J ⟨u,m,rfl,lm,s,g⟩
  rw[ay]at J;obtain⟨q,n,rfl⟩:=ck.mp J;have hj:=(ag.mp n).1;refine⟨_,rfl,_,rfl,z,_,rfl,.inr (SqT.of (g _ _ N)),rfl,xW a b c,_,rfl,?_⟩;rw[yW]
  cases hB:isB a b c q with
  | true=>exact xN ⟨_,m,rfl,by omega,s,g⟩
  | false =>
   obtain⟨I,eD,ek⟩:=ok q (cu n) hB;obtain⟨b2,f1,f2⟩:=u3 q I eD;have T:atI (I.map vn) (k:Int)=some (vn x):=jW (by rw[ay,ek];rfl);refine yV ⟨_,rfl,_,rfl,d,_,_,_,rfl,rfl,SqT.of (g _ _ u1),f1,_,rfl,b2,_,_,_,rfl,rfl,SqT.of (g _ _ f2),T,_,rfl,rfl,?_⟩;rw[decide_eq_true rfl];refine⟨_,s,(by rw[af,iV];exact kQ (by omega)),_,m+1,rfl,by omega,(by rw[qv,dw];exact kB),kY O g⟩
 ·rintro y l ⟨u,m,rfl,_,s,g⟩
  refine⟨L,_,rfl,SqL.of s,?_⟩;rw[show(dh m true).all id=true by simp];exact q0 l g
end
section
def aN(n:Nat):(dh n true).all id=true:=by simp
inductive fK(vs:List V)(H:Hp)(Q:VK)(Y:XK):Prop
 | mk:∀(w z d:ar)(W D:Rows)(a b c:Nat),(vs=[.ref w,.ref z,.ref d])->(WebAt H w W)->(H z=some (.tup [vn a,vn b,vn c]))->(WebAt H d D)->Nb W->W.length<=42->(a<W.length/\b<W.length/\c<W.length)->Wds W a b c D->(∀ H',Same H H'->Q (.bl true) H')->fK vs H Q Y
def pV(B:Fx):Hs "are_woods" ["web","base","thing"] 4 (fK):=by
 refine qD B.X B.d22 pE λ f b2 A ax s0 H vs Q E nN hr h=>?_;obtain⟨w,z,d,W,D,a,b,c,rfl,hW,hz,hD,S,a4,a6,wd,k⟩:=h
 refine⟨_,(kE (xS (PW.pt (kSD (vG (wE (kM Own.call_isi rfl (B.z B.y9) mv (p2 (pv 2) (dZ (v:=.ty "tuple") rfl (B.z B.y5) fc rfl))))) (kPS (qO nP (kM kP rfl (B.z B.y0) eh (p1 (pv 2))) (kM kP rfl (B.z B.y0) eh (p1 (pv 0))) (jJ _))))) (kF (kS vI)) jA)
   (kE (xS (vG (wE (kM (xI rfl) rfl (B.z B.y12) iq (p1 (qX (Nc:=["p","row","web","base"]) (js:=[none,none,some 0,some 1]) rfl rfl (aO false rfl (B.z B.y7) (p1 (pv 2))) (CS.of rfl rfl) rfl (λ C r o fp G=>(show PG _ _ (kDA K 2 _) from jZ rfl (kR (wI (i:=0) (show BD (α:=Str) ["p","row","web","base"] by decide +kernel) rfl (AO rfl)) (kR (wI (i:=1) (show BD (α:=Str) ["p","row","web","base"] by decide +kernel) rfl (AO rfl)) jD)))) (λ C r o fp G D L=>(qM (qZ (pf (mG B) hr (kD (pv 2) (kD (pv 3) (kD (pv 0) (kD (pv 1) kU))))))))))))) (kF (kS vI)) jA)
   (kE (xS (vG (wE (kM (xI rfl) rfl (B.z B.y12) iq (p1 (qX (Nc:=["tie","base","thing"]) (js:=[none,some 1,some 2]) rfl rfl (xM (pf (kEY B) hr (p1 (pv 0)))) (CS.of rfl rfl) rfl (λ C r o fp G=>(pgc 0)) (λ C r o fp G D L=>(qM (qZ (pf (bU B) hr (kD (pv 1) (kD (pv 2) (kD (pv 0) kU)))))))))))) (kF (kS vI)) jA)
   (kE (xS (vG (wE (kM (xI rfl) rfl (B.z B.y12) iq (p1 (qX (Nc:=["k","web","base","thing"]) (js:=[none,some 0,some 1,some 2]) rfl rfl (qN rfl (B.z B.y4) (p1 kO)) (CS.of rfl rfl) rfl (λ C r o fp G=>(wI (i:=0) (show BD (α:=Str) ["k","web","base","thing"] by decide +kernel) rfl (AO rfl))) (λ C r o fp G D L=>(qM (qZ (pf (kCN B) hr (kD (pv 1) (kD (pv 2) (kD (pv 3) (kD (pv 0) kU))))))))))))) (kF (kS vI)) jA)
   (kF (kS (kM (xI rfl) rfl (B.z B.y12) iq (p1 (qX (Nc:=["p","web","thing"]) (js:=[none,some 0,some 2]) rfl rfl (xM (pf (dU B) hr (p2 (pv 0) (pv 1)))) (CS.of rfl rfl) rfl (λ C r o fp G=>(pgc 0)) (λ C r o fp G D L=>(qM (qZ (pf (bT B) hr (kD (pv 1) (kD (pv 2) (kD (pv 0) kU)))))))))))))))),?_⟩
 try dsimp only[qK]
 have lD:=wd.len;have a2:∀{p:Nat},p<W.length->∃ row,W[p]?=some row/\row.length<=42:=λ{p} hp=>⟨W[p],aa hp,by have:=S.len (aa hp);omega⟩;have g:∀{p:Nat},p<W.length->D[p]?=some (D.getD p []):=λ{p} hp=>by rw[ae,aa (by omega)];rfl
 obtain⟨ts,h1,b0,h3⟩:=hW.at;obtain⟨us,u1,ap,u3⟩:=id hD;refine⟨_,rfl,_,_,_,_,rfl,.tup u1,rfl,_,rfl,xN ?_⟩;refine⟨_,rfl,d,_,rfl,.inr (SqT.of u1),_,rfl,w,_,rfl,.inr (SqT.of h1),rfl,_,rfl,?_⟩;rw[decide_eq_true (show V.int (((us.map V.ref).length:Nat):Int)=V.int (((ts.map V.ref).length:Nat):Int) by rw[af,af,b0,ap,lD])]
 refine xN ?_
 refine⟨_,rfl,d,rfl,⟨_,SqT.of u1⟩,λ L nL=>?_⟩;refine bM (k:=false) (xs:=us.map V.ref) (λ j J H3=>∃(I x1:Option V),J=[I,x1,some (.ref w),some (.ref z)]/\H3 L=some (.lst ((dh j true).map V.bl))/\Same H H3) ⟨none,none,rfl,kB,kC nL _⟩ ?_ ?_ ?_
 ·rintro j J H3 _ ⟨I,x1,rfl,_,g3⟩
  exact SqT.of (g3 _ _ u1)
 ·rintro j x T J H3 hx nT ⟨I,x1,rfl,hL,g3⟩
  rw[ay]at hx;obtain⟨u,eu,rfl⟩:=ck.mp hx;have O:j<W.length:=by rw[<-lD,<-ap];exact(ag.mp eu).1
  obtain⟨row,er,lr⟩:=a2 O;have gT:=kC nT (.tup [.int j,.ref u]);obtain⟨n1,n2⟩:=wd.three O;have hu:=u3 j u _ eu (g O)
  have sub:∀ q∈D.getD j [],q∈row:=λ q hq=>by
   by_cases cb:j=a\/j=b\/j=c
   ·rw[wd.base j cb]at hq
    cases hq
   ·obtain⟨x,y,z,an,e,am,m1,m2,m3,_⟩:=wd.sorted S O (λ z=>cb (.inl z)) (λ z=>cb (.inr (.inl z))) (λ z=>cb (.inr (.inr z)))
    rw[er]at am
    cases am
    rw[e]at hq;simp only[cn,fh,or_false]at hq;rcases hq with rfl | rfl | rfl
    ·exact m1
    ·exact m2
    ·exact m3
  refine⟨T,_,rfl,SqT.of kB,rfl,_,_,rfl,_,_,rfl,rfl,?_⟩;have g4:=g3.trans gT;have as:=gT _ _ hL;generalize upd H3 T (.tup [.int j,.ref u])=H4 at *;refine⟨_,rfl,_,rfl,_,rfl,_,rfl,w,z,u,W,a,b,c,j,row,D.getD j [],rfl,hW.kept g4,g4 _ _ hz,g4 _ _ hu,er,n1,?_,sub,λ H5 Z=>?_⟩
  ·rw[n2]
   by_cases cb:j=a\/j=b\/j=c
   ·rw[if_pos cb,if_pos (isB_iff.mpr cb)]
   ·rw[if_neg cb,if_neg (λ q=>cb (isB_iff.mp q))]
  ·refine⟨_,Z _ _ as,(by rw[af,iV];exact kQ (by omega)),_,_,rfl,(by rw[qv,dw];exact kB),kY nL (g4.trans Z)⟩
 rintro J H3 ⟨I,x1,rfl,hL,g3⟩;refine⟨L,_,rfl,SqL.of hL,_,rfl,?_⟩;rw[aN]
 refine xN ?_
 refine⟨_,rfl,w,W,rfl,hW.kept g3,S,a4,λ s H4 g4 ns pr=>?_⟩;obtain⟨ps,q1,q2,q3⟩:=id pr;have lt:(Fc.tiesS W).length<=1764:=gx (ie _ _) (uJ S a4);have al:=g3.trans g4;refine⟨s,rfl,⟨_,SqL.of q1⟩,λ L2 a5=>?_⟩;refine xH (xs:=ps.map V.ref) (λ j J H5=>∃(I:Option V),J=[I,some (.ref z),some (.ref d)]/\H5 L2=some (.lst ((dh j true).map V.bl))/\Same H4 H5) ⟨none,rfl,kB,kC a5 _⟩ ?_ ?_ ?_
 ·rintro j J H5 _ ⟨I,rfl,_,Z⟩
  exact SqL.of (Z _ _ q1)
 ·rintro j x J H5 hx ⟨I,rfl,a0,Z⟩
  rw[ay]at hx;obtain⟨u,eu,rfl⟩:=ck.mp hx;have O:j<(Fc.tiesS W).length:=by rw[<-q2];exact(ag.mp eu).1
  have et:=aa O;have hu:=q3 j u _ eu et;have mt:(Fc.tiesS W)[j]∈Fc.stepsS W:=(gn.mp (fe O)).1;generalize(Fc.tiesS W)[j]=t at *;have eE:Tri.E W t.1 t.2:=Fc.mem_stepsS.mp mt;obtain⟨l1,l2,_⟩:=S.e eE;have gg:=al.trans Z;refine⟨_,rfl,_,rfl,_,rfl,z,d,u,D,a,b,c,t.1,t.2,_,_,rfl,gg _ _ hz,hD.kept gg,Z _ _ hu,g l1,g l2,?_,?_⟩
  ·rcases wd.tie t.1 t.2 eE with⟨c1,c2⟩ | c1
   ·exact .inl ⟨isB_iff.mpr c1,isB_iff.mpr c2⟩
   ·exact .inr c1
  ·exact⟨_,a0,(by rw[af,iV];exact gw (m:=1764) (by omega) (by decide)),_,rfl,(by rw[qv,dw];exact kB),kY a5 Z⟩
 rintro J H5 ⟨I,rfl,a0,Z⟩;refine⟨L2,_,rfl,SqL.of a0,_,rfl,?_⟩;rw[aN];refine xN ?_;have g6:=al.trans Z
 clear q1 q2 q3 pr hL a0 nL a5 ns
 refine⟨3,rfl,by omega,by omega,λ L3 a3=>?_⟩;refine yN (lo:=0) (n:=(3:Int).toNat) (λ j J H7=>∃(I:Option V),J=[I,some (.ref w),some (.ref z),some (.ref d)]/\H7 L3=some (.lst ((dh j true).map V.bl))/\Same H5 H7) ⟨none,rfl,kB,kC a3 _⟩ ?_ ?_
 ·rintro j J H7 O ⟨I,rfl,a1,g7⟩
  have O:j<3:=O;have gg:=g6.trans g7;obtain⟨x,ex⟩ : ∃ x,[a,b,c][j]?=some x:=⟨_,aa O⟩
  have xl:x<W.length:=by
   have:=cu ex;simp only[cn,fh,or_false]at this;rcases this with rfl | rfl | rfl
   ·exact a6.1
   ·exact a6.2.1
   ·exact a6.2.2
  obtain⟨row,er,lr⟩:=a2 xl;refine⟨_,rfl,_,rfl,_,rfl,_,rfl,w,z,d,W,D,a,b,c,j,x,row,(by rw[ve];rfl),hW.kept gg,gg _ _ hz,hD.kept gg,ex,er,lr,λ q hq hB=>?_,λ H8 g8=>?_⟩
  ·have eE:Tri.E W x q:=⟨row,er,hq⟩
   obtain⟨qa,qb,qc⟩:=uC hB;have ql:=(S.e eE).2.1;obtain⟨y0,y1,y2,A,B,C,an,e,_⟩:=wd.row q ql qa qb qc;obtain⟨ak,a7,ab⟩:=wd.lead q qa qb qc;refine⟨_,g ql,?_⟩;rw[e]at ak a7 ab ⊢
   match j,O,ex with
   | 0,_,ex=>cases ex;rw[<-ak eE];rfl
   | 1,_,ex=>cases ex;rw[<-a7 eE];rfl
   | 2,_,ex=>cases ex;rw[<-ab eE];rfl
  ·exact⟨_,g8 _ _ a1,(by rw[af,iV];exact kQ (by omega)),_,rfl,(by rw[qv,dw];exact kB),kY a3 (g7.trans g8)⟩
 rintro J H7 ⟨I,rfl,a1,g7⟩;refine⟨L3,_,rfl,SqL.of a1,_,rfl,?_⟩;rw[aN];refine xN ?_;have g8:=g6.trans g7
 clear a1 a3
 refine⟨_,rfl,_,rfl,w,z,W,a,b,c,rfl,hW.kept g8,a4,g8 _ _ hz,λ l H9 g9 nl hl=>?_⟩;have ac:=g8.trans g9;refine⟨l,rfl,⟨_,SqL.of hl⟩,λ L4 a8=>?_⟩
 have ln:(wP W.length a b c).length<=42:=by
  have:=ie (λ p=>!isB a b c p) (df W.length);rw[eV]at this;unfold wP;omega
 have aq:∀ p∈wP W.length a b c,p<W.length/\p≠a/\p≠b/\p≠c:=λ p hp=>by
  obtain⟨m1,m2⟩:=gn.mp hp;exact⟨fz.mp m1,uC (by simpa using m2)⟩
 generalize wP W.length a b c=N at *;refine xH (xs:=N.map vn) (λ j J M=>∃(I:Option V),J=[I,some (.ref w),some (.ref d)]/\M L4=some (.lst ((dh j true).map V.bl))/\Same H9 M) ⟨none,rfl,kB,kC a8 _⟩ ?_ ?_ ?_
 ·rintro j J M _ ⟨I,rfl,_,U⟩
  exact SqL.of (U _ _ hl)
 ·rintro j x J M hx ⟨I,rfl,Y,U⟩
  rw[ay]at hx;obtain⟨p,ep,rfl⟩:=ck.mp hx;have O:=(ag.mp ep).1;obtain⟨pl,pa,pb,pc⟩:=aq p (cu ep);obtain⟨x,y,z',row,e,er,m1,m2,m3,aw,all⟩:=wd.sorted S pl pa pb pc;have lr:=S.len er;have gg:=ac.trans U;have eD:=g pl;rw[e]at eD;rw[e]at all;refine⟨_,rfl,_,rfl,_,rfl,w,d,W,D,p,x,row,[y,z'],rfl,hW.kept gg,hD.kept gg,er,eD,m1,by omega,λ q hq=>?_,av 3,aw,λ b1 a9=>?_⟩
  ·have ql:=(S.rng _ _ _ er hq).1
   exact⟨_,g ql,wd.le3 ql,all q hq⟩
  ·exact⟨_,a9 _ _ Y,(by rw[af,iV];exact kQ (by omega)),_,rfl,(by rw[qv,dw];exact kB),kY a8 (U.trans a9)⟩
 ·rintro J M ⟨I,rfl,Y,U⟩
  refine⟨L4,_,rfl,SqL.of Y,?_⟩;rw[aN];exact k M (ac.trans U)
inductive mT(vs:List V)(H:Hp)(Q:VK)(Y:XK):Prop
 | mk:∀(w z d:ar)(W D:Rows)(a b c:Nat),(vs=[.ref w,.ref z,.ref d])->(WebAt H w W)->(H z=some (.tup [vn a,vn b,vn c]))->(WebAt H d D)->Tr W->(Tri.E W a c)->((nxt W (a,c)).2=b)->Wds W a b c D->(∀ H',Same H H'->Q (.bl true) H')->mT vs H Q Y
def kFY{W:Rows}(T:Tr W){a b c:Nat}(d:Tri.E W a c)(f:(nxt W (a,c)).2=b):a<W.length/\b<W.length/\c<W.length:=by
 obtain⟨z,r,g,e⟩:=xK T.nb d;rw[g]at f;obtain rfl:z=b:=f;exact⟨(T.nb.e d).1,(T.nb.e e).2.1,(T.nb.e d).2.1⟩
def tX(B:Fx):Hs "is_woods" ["web","base","thing"] 7 (mT):=by
 refine qD B.X B.d23 tF λ f q A i G H x Q E y l h=>?_;obtain⟨w,z,d,W,D,a,b,c,rfl,n,m,v,T,p,o,r,k⟩:=h
 refine⟨_,(kE (qE (pf (aQ B) l (p2 (pv 0) (pv 1))))
   (kF (kS (pf (pV B) l (kD (pv 0) (kD (pv 1) (kD (pv 2) kU))))))),?_⟩
 try dsimp only[qK]
 refine⟨_,rfl,_,rfl,w,z,W,a,b,c,rfl,n,T,m,p,o,λ C g=>?_⟩;exact⟨_,rfl,_,rfl,_,rfl,w,z,d,W,D,a,b,c,rfl,n.kept g,g _ _ m,v.kept g,T.nb,T.le,kFY T p o,r,λ u s=>k u (g.trans s)⟩
end
section
def kIE(f l:Nat)(M:List Nat):wZ ((f::M++[l]).map vn) (some 1) (some (-1))=M.map vn:=by
 unfold wZ;have a:((f::M++[l]).map vn).length=M.length+2:=by simp
 have c:HT.sIx (M.length+2) 0 (some 1)=1:=by
  have:=HT.sIx_nat (M.length+2) 0 1;rw[show min 1 (M.length+2)=1 by omega]at this;exact this
 have b:HT.sIx (M.length+2) (M.length+2) (some (-1))=M.length+1:=by
  show(if(-1:Int)<0 then(-1+((M.length+2:Nat):Int)).toNat else min (-1:Int).toNat (M.length+2))=_;rw[if_pos (by decide)];omega
 rw[a,c,b];simp
structure OvI(ms:List Nat)(Fs:List (List Nat))(i m:Nat)(kvs:List (Key×V)):Prop where
 all:∀ j,j<i->∀ q∈(Fs.getD j []).tail.dropLast,qU kvs (Dcl.kn q)=some (vn (ms.getD (j+2) 0))
 now:∀ q∈((Fs.getD i []).tail.dropLast).take m,qU kvs (Dcl.kn q)=some (vn (ms.getD (i+2) 0))
 few:kvs.length<=50*i+m
def OvI.put{b:List Nat}{a:List (List Nat)}(once:∀ j k z,j<a.length->k<a.length->z∈(a.getD j []).tail.dropLast->z∈(a.getD k []).tail.dropLast->j=k){i m q:Nat}{kvs:List (Key×V)}(I:OvI b a i m kvs)(hi:i<a.length)(c:((a.getD i []).tail.dropLast)[m]?=some q):OvI b a i (m+1) (jY kvs (Dcl.kn q) (vn (b.getD (i+2) 0))):=by
 have f:=cu c;refine⟨λ j d p hp=>?_,λ p hp=>?_,?_⟩
 ·rw[zV,if_neg (λ e=>?_)]
  ·exact I.all j d p hp
  ·have:=Dcl.kn_inj e
   subst this;have:=once _ _ _ (by omega) hi hp f;omega
 ·rw[zV]
  by_cases e:Dcl.kn p=Dcl.kn q
  ·rw[if_pos e]
  ·rw[if_neg e]
   refine I.now p ?_;rw[jg,c]at hp;rcases bp.mp hp with z | z
   ·exact z
   ·exact absurd (by rw[dg.mp z]) e
 ·have:=qR kvs (Dcl.kn q) (vn (b.getD (i+2) 0))
  have:=I.few;omega
def OvI.next{d:List Nat}{b:List (List Nat)}{i m:Nat}{kvs:List (Key×V)}(I:OvI d b i m kvs)(f:m=((b.getD i []).tail.dropLast).length)(g:m<=50):OvI d b (i+1) 0 kvs:=by
 refine⟨λ j h q a=>?_,λ q a=>(by simp at a),by have:=I.few;omega⟩;rcases fw j i with c | c
 ·exact I.all j c q a
 ·have:j=i:=by omega
  subst this;refine I.now q ?_;rw[f,iP];exact a
end
section
def zO(T:List Nat):List (Key×V):=T.map λ p=>(Dcl.kn p,V.bl true)
def oV{T:List Nat}(h:T.Nodup):((zO T).map (·.1)).Nodup:=by
 unfold zO;rw[yj];exact iY.mpr (h.imp λ{a b} c e=>c (Dcl.kn_inj e))
def sV{T:List Nat}(h:T.Nodup)(q:Nat):(qU (zO T) (Dcl.kn q)).isSome=decide (q∈T):=by
 by_cases c:q∈T
 ·rw[Dcl.val_mem (oV h) (v:=.bl true) (ft.mpr ⟨q,c,rfl⟩),decide_eq_true c]
  rfl
 ·rw[Dcl.val_none λ m=>?_,decide_eq_false c]
  ·rfl
  ·unfold zO at m
   rw[yj]at m;obtain⟨p,hp,e⟩:=ft.mp m;exact c (Dcl.kn_inj e ▸ hp)
def cM(H:Hp)(l:ar)(n:Nat)(b:List Nat):Prop:=∃ a,H l=some (.dK a)/\a.length<=n/\∀ q,q<n->(qU a (Dcl.kn q)).isSome = !decide (q∈b)
inductive kDZ(vs:List V)(H:Hp)(Q:VK)(Y:XK):Prop
 | mk:∀(w h l:ar)(W:Rows)(T off:List Nat),(vs=[.ref w,.ref h,.ref l])->WebAt H w W->Nb W->W.length<=42->H h=some (.lst (T.map vn))->T.Nodup->(∀ x∈T,x<W.length)->2<=T.length->cM H l W.length off->(∀(r:ar)(H':Hp),Same H H'->H r=none->H' r=some (.lst ((((df (T.length-2)).filter (Fc.okF W T off)).map λ k=>T.getD (k+1) 0).map vn))->Q (.ref r) H')->kDZ vs H Q Y
def mF(B:Fx):Hs "_law_may_go" ["_law_web_here","_law_here","_law_left"] 1 (kDZ):=by
 refine qD B.X B.d37 lZ λ f b5 A al s0 H vs Q E nN hr h=>?_;obtain⟨w,h,l,W,T,b,rfl,hW,S,b4,hh,nd,rng,l2,LF,k⟩:=h
 refine⟨_,(kE (pst 3 nN (qJ (Dcl.call_dictL rfl) rfl (B.z B.y14) Bx (p1 (qX (Nc:=["_law_place"]) (js:=[none]) rfl rfl (xM (pv 1)) (CS.of rfl rfl) rfl (λ C v s fp y=>(pgc 0)) (λ C v s fp y D L=>(qM (qZ (jI (p2 (pv 0) vI)))))))))
   (kE (pst 4 nN (jF kU))
   (kE (uE (kGZ rfl (B.z B.y4) (p2 kO (qG zQ (kM kP rfl (B.z B.y0) eh (p1 (pv 1))) kO))) (pgn 5 nN) (kE (pst 6 nN (jI (p2 (pix kW (pv 1) (qG zQ (pv 5) kO)) (pix kW (pv 1) (qG xV (pv 5) kO)))))
   (kF (xS (wE (kM (xI rfl) rfl (B.z B.y12) iq (p1 (qX (Nc:=["_law_q","_law_beside","_law_there","_law_left"]) (js:=[none,some 6,some 3,some 2]) rfl rfl (wH (pix kX (pv 0) (pix kW (pv 1) (pv 5)))) (CS.of rfl rfl) rfl (λ C v s fp y=>(wI (i:=0) (show BD (α:=Str) ["_law_q","_law_beside","_law_there","_law_left"] by decide +kernel) rfl (AO rfl))) (λ C v s fp y D L=>(yS (kCE (kKM (zJ hr) (pv 0) (pv 3))) (qZ (kOQ (jQ (show OpR _ _ (rIn K false) from jM) (pv 0) (pv 1) rfl) (uP (kQA (nM (zJ hr) (pv 0) (pv 2)))))))))))) (kF (qE (jO iQ iR jU (pv 4) (p1 (pix kW (pv 1) (pv 5)))))) jA))))
   (kF (kS (pv 4)))))),?_⟩
 try dsimp only[qK]
 have lT:T.length<=42:=by
  have:=eI nd (l₂:=df W.length) λ x Z=>fz.mpr (rng x Z);rw[eV]at this;omega
 refine⟨_,rfl,h,rfl,⟨_,SqL.of hh⟩,λ D nD=>?_⟩;refine xH (xs:=T.map vn) (λ j m J=>∃(u:Option V)(U:List ar),m=[u]/\Same H J/\J D=some (.lst (U.map V.ref))/\U.length=j/\∀(i:Nat)(q:ar)(p:Nat),U[i]?=some q->T[i]?=some p->J q=some (.tup [vn p,.bl true])) ⟨none,[],rfl,kC nD _,kB,rfl,λ i q p e=>by simp at e⟩ ?_ ?_ ?_
 ·rintro j m J _ ⟨u,U,rfl,g1,_⟩
  exact SqL.of (g1 _ _ hh)
 ·rintro j x m J Z ⟨u,U,rfl,g1,hD,lq,oq⟩
  rw[ay]at Z;obtain⟨p,ep,rfl⟩:=ck.mp Z;have hj:=(ag.mp ep).1;refine⟨_,rfl,yS2,λ t nt=>?_⟩;have gt:=kC nt (.tup [vn p,.bl true]);have tD:t≠D:=(kJ hD nt).symm;refine⟨_,gt _ _ hD,(by rw[af];exact kQ (by omega)),_,U++[t],rfl,kY nD (g1.trans gt),(by rw[dw];exact kB),(by rw[bg,lq];rfl),λ i q p' e1 I=>?_⟩;rcases snoc e1 with⟨_,e3⟩ | ⟨e3,e4⟩
  ·have:=oq i q p' e3 I
   rw[kL (λ z=>by rw[z,hD]at this;cases this)];exact gt _ _ this
  ·cases e4
   rw[e3,lq,ep]at I;cases I
   rw[kL tD];exact kB
 rintro m J ⟨u,U,rfl,g1,hD,lq,oq⟩;rw[af]at lq;refine⟨D,U,zO T,rfl,hD,(by unfold zO;rw[af,lq]),(λ i q p e1 I=>?_),(by unfold zO;rw[af];omega),λ N as=>?_⟩
 ·unfold zO at I
  rw[ay]at I;obtain⟨p',e3,rfl⟩:=ck.mp I;exact oq i q p' e1 e3
 rw[Dcl.foldP_nd (oV nd)];have an:=kC as (.dK (zO T));have aw:=kB (H:=J) (a:=N) (o:=.dK (zO T));have g2:=g1.trans an;generalize upd J N (.dK (zO T))=H2 at *;refine⟨yS0,λ Y a5=>?_⟩;have a8:=kC a5 (.lst []);have ax:=kB (H:=H2) (a:=Y) (o:=.lst []);have g3:=g2.trans a8;have ab:=a8 _ _ aw;have ac:H Y=none:=g2.free a5;generalize upd H2 Y (.lst [])=H3 at *;have eL:((T.map vn).length:Int)=(T.length:Int):=by rw[af]
 refine⟨_,rfl,h,_,rfl,.inl (SqL.of (g3 _ _ hh)),_,_,rfl,rfl,1,_,rfl,⟨by omega,by omega,by rw[eL];omega,by rw[eL];omega⟩,?_⟩;rw[eL];refine jN (lo:=1) (n:=((T.length:Int)-1-1).toNat) (λ i m O=>∃(x5 x6:Option V),m=[some (.ref w),some (.ref h),some (.ref l),some (.ref N),some (.ref Y),x5,x6]/\Same H O/\O N=some (.dK (zO T))/\O Y=some (.lst ((((df i).filter (Fc.okF W T b)).map λ k=>T.getD (k+1) 0).map vn))) ⟨_,_,rfl,g3,ab,ax⟩ ?_ ?_
 ·rintro i m O hi ⟨x5,x6,rfl,g4,ak,d⟩
  have b2:i+2<T.length:=by omega
  have a9:=g4 _ _ hh;have a1:atI (T.map vn) (1+(i:Int)-1)=some (vn (T.getD i 0)):=by rw[show(1+(i:Int)-1)=(i:Int) by omega];exact bJ (by omega)
  have a2:atI (T.map vn) (1+(i:Int)+1)=some (vn (T.getD (i+2) 0)):=by rw[show(1+(i:Int)+1)=((i+2:Nat):Int) by omega];exact bJ b2
  have a3:atI (T.map vn) (1+(i:Int))=some (vn (T.getD (i+1) 0)):=by rw[show(1+(i:Int))=((i+1:Nat):Int) by omega];exact bJ (by omega)
  refine⟨_,rfl,_,rfl,_,_,rfl,rfl,h,_,_,_,rfl,rfl,SqL.of a9,a1,_,rfl,_,rfl,_,_,rfl,rfl,h,_,_,_,rfl,rfl,SqL.of a9,a2,yS2,λ be b3=>?_⟩;have a4:=kC b3 (.tup [vn (T.getD i 0),vn (T.getD (i+2) 0)]);have aq:=kB (H:=O) (a:=be) (o:=.tup [vn (T.getD i 0),vn (T.getD (i+2) 0)]);have c:=a4 _ _ ak;have a6:=a4 _ _ d;have g5:=g4.trans a4;generalize upd O be (.tup [vn (T.getD i 0),vn (T.getD (i+2) 0)])=H5 at *
  have vm:T.getD (i+1) 0∈T:=by
   rw[ae,aa (by omega)];exact fe _
  have vl:=rng _ vm;obtain⟨ts,h1,b6,h3⟩:=(hW.kept g5).at;have er:=aa vl;have lr:=S.len er;have inr:∀ q∈W[T.getD (i+1) 0],q<W.length:=λ q hq=>(S.rng _ _ _ er hq).1
  have am:Fc.okF W T b i=(W[T.getD (i+1) 0]).all λ q=>decide (q∈b) || (decide (q∈[T.getD i 0,T.getD (i+2) 0]) || !decide (q∈T)):=by
   unfold Fc.okF;rw[ae (l:=W),er]
   rfl
  obtain⟨b1,e1,I⟩:=h3 _ _ er;obtain⟨lk,ap,_,lv⟩:=id LF;generalize W[T.getD (i+1) 0]=row at *;have rf:=uO (Fc.okF W T b) i;rw[rf];refine⟨_,rfl,_,rfl,_,rfl,h,_,_,_,rfl,rfl,SqL.of (g5 _ _ hh),a3,w,_,_,_,rfl,rfl,SqT.of h1,e1,b1,rfl,⟨_,SqT.of I⟩,λ L nL=>?_⟩;refine xJ (xs:=row.map vn) (λ j m M=>∃(u:Option V)(bs:List Bool),m=[u,some (.ref be),some (.ref N),some (.ref l)]/\Same H5 M/\M L=some (.lst (bs.map V.bl))/\bs.length<=j/\bs.all id=(row.take j).all λ q=>decide (q∈b) || (decide (q∈[T.getD i 0,T.getD (i+2) 0]) || !decide (q∈T))) ⟨none,[],rfl,kC nL _,kB,av _,rfl⟩ ?_ ?_ ?_
  ·rintro j m M _ ⟨u,bs,rfl,r,_⟩
   exact SqT.of (r _ _ I)
  ·rintro j x m M Z ⟨u,bs,rfl,r,hL,lb,eb⟩
   rw[ay]at Z;obtain⟨q,eq,rfl⟩:=ck.mp Z;have hj:=(ag.mp eq).1;have ql:=inr q (cu eq);have b0:=g5.trans r;refine⟨_,rfl,_,rfl,l,_,rfl,.inl ⟨lk,Dcl.kn q,.inl (b0 _ _ ap),rfl,rfl⟩,_,rfl,?_⟩;rw[lv q ql]
   have nx:∀ G,(decide (q∈b) || (decide (q∈[T.getD i 0,T.getD (i+2) 0]) || !decide (q∈T)))=G->(row.take (j+1)).all (λ q=>decide (q∈b) || (decide (q∈[T.getD i 0,T.getD (i+2) 0]) || !decide (q∈T)))=(bs.all id && G):=λ G e=>by
    rw[jg,eq,EJ,eb];rw[vf,Cp,List.all_nil,FU,e]
   by_cases c1:q∈b
   ·rw[decide_eq_true c1]
    refine xN ⟨_,bs,rfl,r,hL,by omega,?_⟩;rw[nx true (by rw[decide_eq_true c1];rfl),FU]
   ·rw[decide_eq_false c1]
    refine yV ?_
    have a7:∀ G,(decide (q∈b) || (decide (q∈[T.getD i 0,T.getD (i+2) 0]) || !decide (q∈T)))=G->∃ xs,M L=some (.lst xs)/\xs.length<sizeLine/\∃(u:Option V)(bs:List Bool),[some (vn q),some (V.ref be),some (.ref N),some (.ref l)]=[u,some (.ref be),some (.ref N),some (.ref l)]/\Same H5 (upd M L (.lst (xs++[.bl G])))/\upd M L (.lst (xs++[.bl G])) L=some (.lst (bs.map V.bl))/\bs.length<=j+1/\bs.all id=(row.take (j+1)).all λ q=>decide (q∈b) || (decide (q∈[T.getD i 0,T.getD (i+2) 0]) || !decide (q∈T)):=λ G e=>by
     refine⟨_,hL,(by rw[af];exact kQ (by omega)),_,bs++[G],rfl,kY nL r,(by rw[kB,dw];rfl),(by rw[bg];exact Ds lb),?_⟩;rw[nx G e,EJ];show _=_;simp
    refine⟨_,rfl,_,rfl,be,_,rfl,.inr (SqT.of (r _ _ aq)),rfl,zZ [T.getD i 0,T.getD (i+2) 0],?_⟩;rw[show inV (vn q) [vn (T.getD i 0),vn (T.getD (i+2) 0)]=decide (q∈[T.getD i 0,T.getD (i+2) 0]) from wQ q [T.getD i 0,T.getD (i+2) 0]];by_cases c2:q∈[T.getD i 0,T.getD (i+2) 0]
    ·rw[decide_eq_true c2]
     exact⟨_,rfl,yV (a7 true (by rw[decide_eq_true c2,decide_eq_false c1];rfl))⟩
    ·rw[decide_eq_false c2]
     refine⟨_,rfl,xN ⟨_,rfl,_,rfl,N,_,rfl,.inl ⟨_,Dcl.kn q,.inl (r _ _ c),rfl,rfl⟩,?_⟩⟩;rw[sV nd];exact a7 _ (by rw[decide_eq_false c2,decide_eq_false c1];rfl)
  ·rintro m M ⟨u,bs,rfl,r,hL,lb,eb⟩
   rw[af,iP,<-am]at eb;refine⟨L,_,rfl,SqL.of hL,_,rfl,?_⟩;rw[eb];have g:=r _ _ a6;have a0:=g5.trans r
   have lz:((((df i).filter (Fc.okF W T b)).map λ k=>T.getD (k+1) 0).map vn).length<sizeLine:=by
    rw[af,af];have:=ie (Fc.okF W T b) (df i);rw[eV]at this;exact kQ (by omega)
   cases Fc.okF W T b i with
   | false=>exact xN ⟨_,_,rfl,a0,r _ _ c,by rw[if_neg (by decide),iM];exact g⟩
   | true =>
    refine yV ⟨_,rfl,.inl ⟨rfl,_,SqL.of g⟩,_,rfl,_,rfl,h,_,_,_,rfl,rfl,SqL.of (a0 _ _ hh),a3,Y,_,_,rfl,rfl,g,lz,?_⟩;refine⟨_,_,rfl,kY ac a0,?_,?_⟩
    ·rw[kL (λ z=>by have:=r _ _ c;rw[z,g]at this;cases this)]
     exact r _ _ c
    ·rw[if_pos rfl,kB,dw,dw]
     rfl
 ·rintro m O ⟨x5,x6,rfl,g4,_,d⟩
  rw[show((T.length:Int)-1-1).toNat=T.length-2 by omega]at d;exact⟨_,rfl,k Y O g4 ac d⟩
end
section
def spL(rest:List Nat)(a:List ar):List (Key×V):=(rest.zip a).map λ e=>(Dcl.kn e.1,V.ref e.2)
def kEB{rest:List Nat}{a:List ar}(h:a.length=rest.length)(v:Nat)(s:ar):spL (rest++[v]) (a++[s])=spL rest a++[(Dcl.kn v,.ref s)]:=by
 unfold spL;rw[List.zip_append h.symm,dw]
 rfl
def sR{rest:List Nat}{a:List ar}(h:a.length=rest.length):(spL rest a).map (·.1)=rest.map Dcl.kn:=by
 unfold spL;rw[yj];have:(rest.zip a).map Av=rest:=by rw[Bm];omega
 conv=>rhs;rw[<-this,yj]
 rfl
def kEA{rest:List Nat}{a:List ar}(h:a.length=rest.length):(spL rest a).length=rest.length:=by
 unfold spL;rw[af,yk];omega
def kJN{rest:List Nat}{c:List ar}(h:c.length=rest.length)(nd:rest.Nodup):((spL rest c).map (·.1)).Nodup:=by
 rw[sR h];exact iY.mpr (nd.imp λ{a b} d e=>d (Dcl.kn_inj e))
inductive kDV(vs:List V)(H:Hp)(Q:VK)(Y:XK):Prop
 | mk:∀(p w z:ar)(W:Rows)(a b c:Nat),(vs=[.ref p,.ref w,.ref z])->PotAt H p->WebAt H w W->Good W->W.length<=42->(H z=some (.tup [vn a,vn b,vn c]))->(Tri.E W a c)->((nxt W (a,c)).2=b) ->
  (∀(sp:ar)(rest:List Nat)(sa:List ar)(ss:List (List Nat))(H':Hp),SameBut p H H'->PotAt H' p->H sp=none->H' sp=some (.dK (spL rest sa))->sa.length=rest.length->(∀(i:Nat)(s:ar)(F:List Nat),sa[i]?=some s->ss[i]?=some F->H' s=some (.lst (F.map vn)))->Fc.PeelS W a b [a,c,b] [] rest ss->Q (.ref sp) H')->kDV vs H Q Y
def pU(B:Fx):Hs "_law_taken" ["_law_pot_here","_law_web_here","_law_base_here"] 2 (kDV):=by
 refine qD B.X B.d38 oX λ f f1 A e8 s0 H vs Q E nN hr h=>?_;obtain⟨p,w,z,W,a,b,c,rfl,hp,hW,G,eb,hz,es,e9,k⟩:=h
 refine⟨_,(kE (yU (pv 2) (jZ (n:=3) rfl (kR (pgn 3 nN) (kR (pgn 4 nN) (kR (pgn 5 nN) jD)))))
   (kE (pst 6 nN (jF (kD (pv 3) (kD (pv 5) (kD (pv 4) kU)))))
   (kE (pst 7 nN (qJ (Dcl.call_dictL rfl) rfl (B.z B.y14) Bx (p1 (qX (Nc:=["_law_place"]) (js:=[none]) rfl rfl (qN rfl (B.z B.y4) (p1 (kM kP rfl (B.z B.y0) eh (p1 (pv 1))))) (CS.of rfl rfl) rfl (λ C as an fp ax=>(pgc 0)) (λ C as an fp ax D L=>(qM (qZ (jI (p2 (pv 0) vI)))))))))
   (kE (pst 8 nN tT)
   (kE (uE (qN rfl (B.z B.y4) (p1 (qG zQ (kM kP rfl (B.z B.y0) eh (p1 (pv 1))) kO))) (pgn 9 nN) (kE (pst 10 nN (kMX (gB (qO kOS (pv 9) kO (jJ _)) (pf (mF B) hr (kD (pv 1) (kD (pv 6) (kD (pv 7) kU)))) (jF (p1 (pv 5))))))
   (kE (pst 11 nN (pix kW (pv 10) (pf (qP B) hr (p2 (pv 0) (kM kP rfl (B.z B.y0) eh (p1 (pv 10)))))))
   (kE (qE (kKJ (pv 7) (pv 11) ⟨rfl,rfl,rfl,rfl⟩))
   (kE (pst 12 nN (jO mj mm vM (pv 6) (p1 (pv 11))))
   (kE (pst 13 nN (cY ji jl jm yK (pix kX (pv 1) (pv 11)) (p1 (pix kW (pv 6) (qG zQ (pv 12) kO)))))
   (kE (kER (zJ hr) (pv 8) (pv 11) (qX (Nc:=["_law_q","_law_left"]) (js:=[none,some 7]) rfl rfl (wH (qG kNE (jK kEI (pix kX (pv 1) (pv 11)) (jP (pv 13)) xZ) (jK kEI (pix kX (pv 1) (pv 11)) xZ (jP (pv 13))))) (CS.of rfl rfl) rfl (λ C as an fp ax=>(pgc 0)) (λ C as an fp ax D L=>(yS (kCE (kKM (zJ hr) (pv 0) (pv 1))) (qZ (pv 0))))) rfl)
   (kF (pst 6 nN (qG gC (qG gC (jK zA (pv 6) xZ (jP (qG zQ (pv 12) kO))) (aP (zJ hr) (pv 8) (pv 11) (λ _ _=>rfl))) (jK zA (pv 6) (jP (qG xV (pv 12) kO)) xZ)))))))))))
   (kF (kS (pv 8)))))))),?_⟩
 try dsimp only[qK]
 have S:=(Wb.of G).toNb;have l3:=G.three;obtain⟨bz,rb,nb,_⟩:=xK S es
 have hb:Tri.R W c b a:=by
  have:=e9;rw[nb]at this;obtain rfl:bz=b:=this;exact rb
 obtain⟨ey,f3,ez⟩:=Fc.base_ne G hb;refine⟨_,rfl,z,_,rfl,SqT.of hz,rfl,_,_,rfl,_,_,rfl,_,_,rfl,rfl,?_⟩;refine⟨_,rfl,_,rfl,_,rfl,yS3,λ he dk=>?_⟩;have g1:=kC dk (.lst [vn a,vn c,vn b]);have a3:=kB (H:=H) (a:=he) (o:=.lst [vn a,vn c,vn b])
 generalize upd H he (.lst [vn a,vn c,vn b])=H1 at *
 obtain⟨wt,cs,aq,_⟩:=id (hW.kept g1);refine⟨_,rfl,w,_,rfl,.inr (SqT.of cs),_,rfl,(by rw[af,aq];omega),(by rw[af,aq];omega),λ D nD=>?_⟩;refine yN (lo:=0) (n:=((((wt.map V.ref).length:Nat):Int)).toNat) (λ j σ H2=>∃(x0:Option V)(qs:List ar),σ=[x0]/\Same H1 H2/\H2 D=some (.lst (qs.map V.ref))/\qs.length=j/\∀(i:Nat)(q:ar),qs[i]?=some q->H2 q=some (.tup [vn i,.bl true])) ⟨none,[],rfl,kC nD _,kB,rfl,λ i q e=>by simp at e⟩ ?_ ?_
 ·rintro j σ H2 hj ⟨x0,qs,rfl,g2,hD,lq,oq⟩
  have f5:j<W.length:=by rw[af,fg,aq]at hj;exact hj
  refine⟨_,rfl,yS2,λ t nt=>?_⟩;have e0:V.int (0+(j:Int))=vn j:=by rw[ve];rfl
  rw[e0];have gt:=kC nt (.tup [vn j,.bl true]);have tD:t≠D:=(kJ hD nt).symm;refine⟨_,gt _ _ hD,(by rw[af];exact kQ (by omega)),_,qs++[t],rfl,kY nD (g2.trans gt),(by rw[dw];exact kB),(by rw[bg,lq];rfl),λ i q e1=>?_⟩;rcases snoc e1 with⟨_,e3⟩ | ⟨e3,e4⟩
  ·have:=oq i q e3
   rw[kL (λ z=>by rw[z,hD]at this;cases this)];exact gt _ _ this
  ·cases e4
   rw[e3,lq,kL tD];exact kB
 rintro σ H2 ⟨x0,qs,rfl,g2,hD,lq,oq⟩;rw[af,fg,aq]at lq;refine⟨D,qs,zO (df W.length),rfl,hD,(by unfold zO;rw[af,lq,eV]),(λ i q e e1 M=>?_),(by unfold zO;rw[af,eV];omega),λ I bi=>?_⟩
 ·unfold zO at M
  rw[ay]at M;obtain⟨p',e3,rfl⟩:=ck.mp M;have hi:=(ag.mp e3).1;rw[eV]at hi;rw[Ac hi]at e3;cases e3
  exact oq i q e1
 rw[Dcl.foldP_nd (oV me)];have c4:=kC bi (.dK (zO (df W.length)));have bm:=kB (H:=H2) (a:=I) (o:=.dK (zO (df W.length)));have g3:=g1.trans (g2.trans c4);have ct:=c4 _ _ (g2 _ _ a3);have et:cM (upd H2 I (.dK (zO (df W.length)))) I W.length []:=⟨_,bm,by unfold zO;rw[af,eV];exact av _,λ q hq=>by rw[sV me,decide_eq_true (fz.mpr hq)];rfl⟩;generalize upd H2 I (.dK (zO (df W.length)))=H3 at *;refine λ O bt=>?_;have c7:=kC bt (.dK []);have a0:=kB (H:=H3) (a:=O) (o:=.dK []);have g4:=g3.trans c7;have d8:=c7 _ _ ct;have ba:I≠O:=kJ bm bt
 have e7:cM (upd H3 O (.dK [])) I W.length []:=by
  obtain⟨kv,h1,h2⟩:=et;exact⟨kv,c7 _ _ h1,h2⟩
 have ea:=hp.kept g4;obtain⟨px,py,el,_⟩:=id hp;have b2:he≠p:=(kJ el dk).symm;have ex:H I=none:=(g1.trans g2).free bi;have frs:H O=none:=g3.free bt;generalize upd H3 O (.dK [])=H4 at *;obtain⟨e5,d3,a6,_⟩:=id (hW.kept g4);clear bm c4 bi hD oq lq qs cs aq;refine⟨_,rfl,w,_,rfl,.inr (SqT.of d3),_,_,rfl,rfl,_,rfl,(by rw[af,a6];omega),(by rw[af,a6];omega),?_⟩
 refine jN (lo:=0) (n:=(((((e5.map V.ref).length:Nat):Int))-2).toNat) (λ i σ H5=>∃(x9 c3 bn cb bw:Option V)(he:ar)(T g:List Nat)(Z:List ar)(ss:List (List Nat)),σ=[some (.ref p),some (.ref w),some (.ref z),some (vn a),some (vn b),some (vn c),some (.ref he),some (.ref I),some (.ref O),x9,c3,bn,cb,bw]/\SameBut p H H5/\PotAt H5 p/\H5 he=some (.lst (T.map vn))/\he≠p/\cM H5 I W.length g/\H5 O=some (.dK (spL g Z))/\Z.length=g.length/\(∀(i:Nat)(s:ar)(F:List Nat),Z[i]?=some s->ss[i]?=some F->H5 s=some (.lst (F.map vn)))/\p∉Z/\Fc.Pel W a b T g/\g.length=i/\(∀ x∈g,x<W.length)/\ss.length=g.length/\(i=0->T=[a,c,b])/\∀ rest a9,Fc.PeelS W a b T g rest a9->Fc.PeelS W a b [a,c,b] [] (g++rest) (ss++a9))
  ⟨_,_,_,_,_,he,[a,c,b],[],[],[],rfl,.of g4,ea,d8,b2,e7,a0,rfl,(λ i s F e=>by simp at e),(by simp),Fc.Pel.start G hb,rfl,(λ x hx=>by cases hx),rfl,(λ _=>rfl),λ rest a9 q=>q⟩ ?_ ?_
 ·rintro i σ H5 hi ⟨x9,c3,bn,cb,bw,he,T,g,Z,ss,rfl,sb,pt,a3,b2,LF,a0,Y,b4,c6,PL,c5,c2,cd,t0,b0⟩
  have ek:g.length+2<W.length:=by
   rw[af,a6]at hi;omega
  have T3:=PL.more G ek;have ap:=PL.rng S
  have lT:T.length<=42:=by
   have:=eI PL.nd (l₂:=df W.length) λ x hx=>fz.mpr (ap x hx);rw[eV]at this;omega
  have du:=hW.pot sb hp;obtain⟨qx,qy,al,_⟩:=id pt;refine⟨λ x H6=>∃(so:ar)(N:List Nat),x=.ref so/\Same H5 H6/\H6 so=some (.lst (N.map vn))/\so≠p/\0<N.length/\N.length<=42/\∀ v∈N,∃ k,k+2<T.length/\v=T.getD (k+1) 0/\∀ z∈T,Tri.E W v z->z=T.getD k 0\/z=T.getD (k+2) 0,?_,?_⟩
  ·refine⟨_,rfl,_,_,rfl,rfl,_,rfl,kLB (λ c0=>?_) (λ c0=>?_)⟩
   ·refine⟨_,rfl,_,rfl,_,rfl,w,he,I,W,T,g,rfl,du,S,eb,a3,PL.nd,ap,PL.two,LF,λ r H6 g6 nr ej=>?_⟩
    obtain⟨k0,f6,ei⟩:=PL.some_ok G T3;have m0:k0∈(df (T.length-2)).filter (Fc.okF W T g):=gn.mpr ⟨fz.mpr (by omega),ei⟩;refine⟨r,_,rfl,g6,ej,?_,?_,?_,λ v hv=>?_⟩
    ·exact(kJ al nr).symm
    ·rw[af]
     exact List.length_pos_of_mem m0
    ·rw[af]
     have:=ie (Fc.okF W T g) (df (T.length-2));rw[eV]at this;omega
    ·obtain⟨k1,en,rfl⟩:=ft.mp hv
     obtain⟨m1,m2⟩:=gn.mp en;have:=fz.mp m1;exact⟨k1,by omega,rfl,Fc.okF_lo PL m2⟩
   ·have i0:i=0:=by
     have c0:¬ (0:Int)<0+(i:Int):=λ q=>c0 (decide_eq_true q);omega
    have eT:=t0 i0;refine⟨_,rfl,yS1,λ so d6=>⟨so,[c],rfl,kC d6 _,kB,(kJ al d6).symm,Nat.one_pos,(show 1<=42 by decide),λ v hv=>?_⟩⟩;rw[dg.mp hv,eT];refine⟨0,(show 2<3 by decide),rfl,λ z hz e=>?_⟩;simp only[cn,fh,or_false]at hz;rcases hz with rfl | rfl | rfl
    ·exact .inl rfl
    ·exact absurd rfl (S.e e).2.2
    ·exact .inr rfl
  rintro x H6 ⟨so,N,rfl,g6,c8,db,N0,ep,ok⟩;refine⟨_,rfl,_,rfl,_,rfl,so,_,rfl,.inl (SqL.of c8),p,_,rfl,pt.kept g6,(by rw[af];omega),gJ (by rw[af];exact gw (m:=42) (by omega) (by decide)),λ d H7 d0 d1 s7 p7=>?_⟩;rw[af]at d1;obtain⟨dn,rfl⟩:=jw d0;have br:dn<N.length:=by omega
  refine⟨so,_,_,_,rfl,rfl,SqL.of (s7 _ _ db c8),bJ br,?_⟩;obtain⟨kk,f2,ev,lo⟩:=ok (N.getD dn 0) (cu (by rw[ae,aa br];rfl));generalize N.getD dn 0=v at *;clear ok c8 db N0 ep br d0 d1;have dy:SameBut p H H7:=sb.trans ((SameBut.of g6).trans s7);have k7:∀ b o,b≠p->H5 b=some o->H7 b=some o:=λ b o nb e=>s7 b o nb (g6 b o e);have ac:=Fc.cut3 (T:=T) (i:=kk+1) (by omega) (by omega);rw[show kk+1-1=kk by omega,<-ev,show kk+1+1=kk+2 by omega,show kk+1+2=kk+3 by omega]at ac;have vT:v∈T:=by rw[ac];simp
  have vl:=ap v vT;have er:=aa vl;have lr:=S.len er;obtain⟨e6,b9,um,d4,turn⟩:=Fc.PeelS.turn G PL ac lo er;have d9:v∉g:=PL.out v vT;obtain⟨lk,a8,dm,lv⟩:=id LF;have cr:I≠p:=λ q=>by rw[q,al]at a8;cases a8
  have ch:O≠p:=λ q=>by rw[q,al]at a0;cases a0
  have ca:=k7 _ _ cr a8;obtain⟨bv,cp⟩:=xx.mp (show(qU lk (Dcl.kn v)).isSome=true by rw[lv v vl,decide_eq_false d9];rfl);refine⟨_,rfl,I,rfl,.inl ⟨_,.inl ca⟩,_,rfl,lk,Dcl.kn v,bv,ca,rfl,cp,?_⟩;have k8:∀ b o,b≠I->H7 b=some o->upd H7 I (.dK (xQ lk (Dcl.kn v))) b=some o:=λ b o nb e=>by rw[kL nb];exact e
  have J:=k8 _ _ (λ q=>by rw[q,a8]at a3;cases a3) (k7 _ _ b2 a3);have a2:=k8 _ _ ba.symm (k7 _ _ ch a0)
  have d2:cM (upd H7 I (.dK (xQ lk (Dcl.kn v)))) I W.length (g++[v]):=⟨_,kB,gx (Dcl.drop_len _) dm,λ q hq=>by
   rw[Dcl.val_drop];by_cases e:Dcl.kn q=Dcl.kn v
   ·rw[if_pos e,Dcl.kn_inj e,decide_eq_true (by simp)]
    rfl
   ·have nq:q≠v:=λ z=>e (by rw[z])
    rw[if_neg e,lv q hq]
    congr 1
    simp[nq]⟩
  have bq:SameBut p H (upd H7 I (.dK (xQ lk (Dcl.kn v)))):=λ b o nb e=>k8 b o (λ q=>by rw[q,ex]at e;cases e) (dy b o nb e)
  have be:PotAt (upd H7 I (.dK (xQ lk (Dcl.kn v)))) p:=by
   obtain⟨x,y,e,M⟩:=p7;exact⟨x,y,k8 _ _ (qe cr) e,M⟩
  have bd:∀(i:Nat)(s:ar)(F:List Nat),Z[i]?=some s->ss[i]?=some F->upd H7 I (.dK (xQ lk (Dcl.kn v))) s=some (.lst (F.map vn)):=λ i s F e1 M=>by
   have:=b4 i s F e1 M;exact k8 _ _ (λ q=>by rw[q,a8]at this;cases this) (k7 _ _ (λ q=>c6 (q ▸ cu e1)) this)
  have cl:=hW.pot bq hp;clear LF a8 ca cp lv dm k7 a0 a3 b4 pt sb du al k8 dy p7 s7 g6
  generalize upd H7 I (.dK (xQ lk (Dcl.kn v)))=H8 at *
  have ix:T.idxOf v=kk+1:=by
   rw[ac,show T.take kk++[T.getD kk 0,v,T.getD (kk+2) 0]++T.drop (kk+3)=(T.take kk++[T.getD kk 0])++v::(T.getD (kk+2) 0::T.drop (kk+3)) by simp];have nd:=PL.nd;rw[ac,show T.take kk++[T.getD kk 0,v,T.getD (kk+2) 0]++T.drop (kk+3)=(T.take kk++[T.getD kk 0])++v::(T.getD (kk+2) 0::T.drop (kk+3)) by simp]at nd;rw[gO (λ q=>(az.mp nd).2.2 v q v (by simp) rfl),bg,eO];simp;omega
  have fa:uD (T.map ci) (v:Int) (kk+1):=by
   rw[<-ix];exact qI vT
  refine⟨_,rfl,.inl ⟨rfl,_,SqL.of J⟩,_,rfl,he,T.map ci,v,kk+1,rfl,rfl,(by rw[J,jE]),fa,?_⟩;obtain⟨ts,h1,f4,h3⟩:=cl.at;obtain⟨b1,e1,M⟩:=h3 v _ er;generalize W[v]=row at *;have ul:=fj um;have a1:atI (T.map vn) (((kk+1:Nat):Int)-1)=some (vn (T.getD kk 0)):=by rw[show(((kk+1:Nat):Int)-1)=(kk:Int) by omega];exact bJ (by omega)
  refine⟨_,rfl,_,rfl,w,_,_,_,rfl,rfl,SqT.of h1,e1,.inr (.inl ⟨rfl,.inr ⟨_,M⟩⟩),_,rfl,_,rfl,_,_,rfl,rfl,he,_,_,_,rfl,rfl,SqL.of J,a1,b1,row.map ci,T.getD kk 0,row.idxOf (T.getD kk 0),rfl,rfl,SqT.of (by rw[M,jE]),qI um,?_⟩
  refine⟨_,rfl,_,rfl,w,_,_,_,rfl,rfl,SqT.of h1,e1,_,rfl,_,rfl,b1,_,rfl,M,λ p1 H9 g9 bx=>?_⟩;have g9:Same H8 H9:=g9;rw[vU _ (by rw[af];omega)]at bx;refine⟨_,rfl,_,rfl,w,_,_,_,rfl,rfl,SqT.of (g9 _ _ h1),e1,_,rfl,_,rfl,b1,_,rfl,g9 _ _ M,λ p2 d5 b5 bo=>?_⟩;have b5:Same H9 d5:=b5;rw[cJ _ (by rw[af];omega)]at bo;refine⟨p1,p2,_,_,rfl,rfl,b5 _ _ bx,bo,(by simp only[af,iJ,eO];exact ka (kQ (by omega))),λ p3 da ce b6=>?_⟩;have ce:Same d5 da:=ce;rw[pJ]at b6;have a7:=g9.trans (b5.trans ce);obtain⟨dv,bf,co,d7⟩:=id d2;have b7:=a7 _ _ bf
  have lR:(rot row (T.getD kk 0)).length<=42:=by
   rw[<-(bS row (T.getD kk 0)).perm.length_eq];omega
  have Rr:∀ q∈rot row (T.getD kk 0),q<W.length:=λ q hq=>(S.rng _ _ _ er (((bS row (T.getD kk 0)).mem q).mpr hq)).1;generalize hF:T.getD kk 0::e6++[T.getD (kk+2) 0]=F at *;generalize rot row (T.getD kk 0)=R at *;refine⟨p3,rfl,⟨_,SqT.of b6⟩,λ D2 b3=>?_⟩;refine xJ (xs:=R.map vn) (λ j σ l=>∃(x0:Option V),σ=[x0,some (.ref I)]/\Same da l/\l D2=some (.lst (((R.take j).filter λ q=>decide (q∉g++[v])).map vn))) ⟨none,rfl,kC b3 _,kB⟩ ?_ ?_ ?_
  ·rintro j σ l _ ⟨x0,rfl,a4,_⟩
   exact SqT.of (a4 _ _ b6)
  ·rintro j u σ l hv ⟨x0,rfl,a4,ab⟩
   rw[ay]at hv;obtain⟨q,eq,rfl⟩:=ck.mp hv;have hj:=(ag.mp eq).1;have ql:=Rr q (cu eq)
   have lz:(((R.take j).filter λ q=>decide (q∉g++[v])).map vn).length<sizeLine:=by
    rw[af];have:=ie (λ q=>decide (q∉g++[v])) (R.take j);rw[eO]at this;exact kQ (by omega)
   refine⟨_,rfl,_,rfl,I,_,rfl,.inl ⟨dv,Dcl.kn q,.inl (a4 _ _ b7),rfl,rfl⟩,_,rfl,?_⟩;rw[d7 q ql,jg,eq,vf,wa];by_cases c1:q∈g++[v]
   ·rw[decide_eq_true c1,show[q].filter (λ q=>decide (q∉g++[v]))=[] by rw[yv (by simpa using λ z=>(bp.mp c1).resolve_left z |> dg.mp),AZ],iM]
    exact xN ⟨_,rfl,a4,ab⟩
   ·rw[decide_eq_false c1,show[q].filter (λ q=>decide (q∉g++[v]))=[q] by rw[yw (by simpa using c1),AZ]]
    refine yV ⟨_,rfl,_,ab,lz,⟨_,rfl,kY b3 a4,?_⟩⟩;rw[kB,dw]
    rfl
  rintro σ l ⟨x0,rfl,a4,ab⟩;rw[af,iP,b9]at ab;have U:=a7.trans a4;have am:=U _ _ a2
  have dp:qU (spL g Z) (Dcl.kn v)=none:=Dcl.val_none λ m=>by
   rw[sR Y]at m;obtain⟨q,hq,e⟩:=ft.mp m;exact d9 (Dcl.kn_inj e ▸ hq)
  refine⟨_,rfl,_,rfl,O,_,rfl,DPut.k (k:=Dcl.kn v) am (by rw[kEA Y];exact kQ (by omega)),?_⟩;rw[tP _ dp,<-kEB Y];obtain⟨ox,oy,dx,_⟩:=id be;have ef:D2≠p:=(kJ (a7 _ _ dx) b3).symm;have ew:D2≠O:=(kJ (a7 _ _ a2) b3).symm;have a5:∀ b o,b≠O->l b=some o->upd l O (.dK (spL (g++[v]) (Z++[D2]))) b=some o:=λ b o nb e=>by rw[kL nb];exact e
  have ak:=kB (H:=l) (a:=O) (o:=.dK (spL (g++[v]) (Z++[D2])));have b8:=a5 _ _ ew ab;have aw:=a5 _ _ (λ q=>by rw[q,a2]at J;cases J) (U _ _ J);have cj:cM (upd l O (.dK (spL (g++[v]) (Z++[D2])))) I W.length (g++[v]):=⟨dv,a5 _ _ ba (U _ _ bf),co,d7⟩
  have bc:PotAt (upd l O (.dK (spL (g++[v]) (Z++[D2])))) p:=by
   obtain⟨x,y,e,M⟩:=be;exact⟨x,y,a5 _ _ (qe ch) (U _ _ e),M⟩
  have ds:SameBut p H (upd l O (.dK (spL (g++[v]) (Z++[D2])))):=λ b o nb e=>a5 b o (λ q=>by rw[q,frs]at e;cases e) (U _ _ (bq b o nb e))
  have c9:∀(i:Nat)(s:ar)(G:List Nat),(Z++[D2])[i]?=some s->(ss++[F])[i]?=some G->upd l O (.dK (spL (g++[v]) (Z++[D2]))) s=some (.lst (G.map vn)):=λ i s G e1 M=>by
   rcases snoc e1 with⟨l1,e3⟩ | ⟨l1,e3⟩
   ·rw[bh (by omega)]at M
    have:=bd i s G e3 M;exact a5 _ _ (λ q=>by rw[q,a2]at this;cases this) (U _ _ this)
   ·cases e3
    rw[l1,Y,<-cd,fq]at M;cases M
    exact b8
  generalize upd l O (.dK (spL (g++[v]) (Z++[D2])))=f0 at *
  clear bd d2 bf b7 am a2 ab J bq be dx cl a5 h1 e1 M h3 bx bo b6
  have lF:F.length<=42:=by
   rw[<-b9];exact gx (ie _ _) lR
  refine⟨_,rfl,_,rfl,_,_,rfl,rfl,_,rfl,he,_,rfl,SqL.of aw,λ q1 eu=>?_⟩;rw[show(((kk+1:Nat):Int)-1)=(kk:Int) by omega,cJ _ (by rw[af];omega),<-BE];have j1:=kC eu (.lst ((T.take kk).map vn));refine⟨_,rfl,_,rfl,O,_,rfl,.inl ⟨_,Dcl.kn v,.inl (j1 _ _ ak),rfl,(Dcl.val_mem (kJN (by rw[bg,bg,Y];rfl) d4.nof) (v:=.ref D2) (by rw[kEB Y];simp)).symm⟩,?_⟩;refine⟨q1,D2,_,_,rfl,rfl,kB,j1 _ _ b8,(by rw[af,af,eO];exact ka (kQ (by omega))),λ q2 eg=>?_⟩;rw[<-dw];have j2:=kC eg (.lst ((T.take kk++F).map vn));refine⟨_,rfl,_,rfl,_,_,rfl,rfl,_,rfl,he,_,rfl,SqL.of (j2 _ _ (j1 _ _ aw)),λ q3 ee=>?_⟩;rw[show(((kk+1:Nat):Int)+2)=((kk+3:Nat):Int) by omega,vU _ (by rw[af];omega),<-Bl];have j3:=kC ee (.lst ((T.drop (kk+3)).map vn));refine⟨q2,q3,_,_,rfl,rfl,j3 _ _ kB,kB,(by rw[af,af,bg,eO,iJ];exact ka (kQ (by omega))),λ q4 dd=>?_⟩;rw[<-dw];have j4:=kC dd (.lst ((T.take kk++F++T.drop (kk+3)).map vn));have jj:=j1.trans (j2.trans (j3.trans j4));obtain⟨rx,ry,ec,_⟩:=id bc;have dz:q4≠p:=(kJ (j3 _ _ (j2 _ _ (j1 _ _ ec))) dd).symm;refine⟨_,_,_,_,_,q4,_,g++[v],Z++[D2],ss++[F],rfl,ds.trans (.of jj),bc.kept jj,kB,dz,?_,jj _ _ ak,(by rw[bg,bg,Y];rfl),(λ i s G e1 M=>jj _ _ (c9 i s G e1 M)),?_,d4,(by rw[bg,c5];rfl),(λ x hx=>?_),(by rw[bg,bg,cd];rfl),(λ z=>by omega),λ rest a9 q=>?_⟩
  ·obtain⟨kv,h1,h2⟩:=cj
   exact⟨kv,jj _ _ h1,h2⟩
  ·intro m
   rcases bp.mp m with q | q
   ·exact c6 q
   ·exact ef (dg.mp q).symm
  ·rcases bp.mp hx with q | q
   ·exact c2 x q
   ·rw[dg.mp q];exact vl
  ·have:=b0 (v::rest) (F::a9) (turn rest a9 q)
   rw[de,de];exact this
 ·rintro σ H5 ⟨x9,c3,bn,cb,bw,he,T,g,Z,ss,rfl,sb,pt,a3,b2,LF,a0,Y,b4,c6,PL,c5,c2,cd,t0,b0⟩
  have e:=PL.none_left G (by rw[c5,af,a6];omega) c2;subst e;have:=b0 [] [] (.done PL);rw[iM,iM]at this;exact⟨_,rfl,k O g Z ss H5 sb pt frs a0 Y b4 this⟩
end
section
def tL{α:Type}{l:List α}{d:α}{k:Nat}(h:k<l.length):l.reverse.getD k d=l.getD (l.length-1-k) d:=by
 rw[ae,CM h,ae]
inductive sS(vs:List V)(H:Hp)(Q:VK)(Y:XK):Prop
 | mk:∀(w z sp:ar)(W:Rows)(a b c:Nat)(rest:List Nat)(sa:List ar)(ss Ts:List (List Nat)),(vs=[.ref w,.ref z,.ref sp])->WebAt H w W->W.length<=42->(H z=some (.tup [vn a,vn b,vn c]))->H sp=some (.dK (spL rest sa))->sa.length=rest.length->(∀(i:Nat)(s:ar)(F:List Nat),sa[i]?=some s->ss[i]?=some F->H s=some (.lst (F.map vn)))->ss.length=rest.length->Good W->Hist W (a::b::rest.reverse) a b c ss.reverse Ts->(∀(t:ar)(H':Hp),(∀ b o,b≠sp->H b=some o->H' b=some o)->Rd H' sp (.dK (spL rest sa))->WebAt H' t (wdF W.length a b c (a::b::rest.reverse) ss.reverse)->Q (.ref t) H')->sS vs H Q Y
def pS(B:Fx):Hs "_law_woods" ["_law_web_here","_law_base_here","_law_spans"] 1 (sS):=by
 refine qD B.X B.d40 oW λ f d0 A c4 s0 H vs Q E nN hr h=>?_;obtain⟨w,z,r,W,a,b,c,rest,v,C,Ts,rfl,hW,ct,hz,b1,b6,ba,bv,G,g,k⟩:=h
 refine⟨_,(kE (pst 3 nN tT)
   (kE (uE (kKG (pv 2)) (jZ (n:=2) rfl (kR (pgn 4 nN) (kR (pgn 5 nN) jD))) (kF (uE (xM (jK zA (pv 5) (jP kO) (jP (nK bO kO)))) (pgn 6 nN) (kF (kER (zJ hr) (pv 3) (pv 6) (pv 4) rfl)))))
   (kE (pst 7 nN (jF kU))
   (kE (uE (qN rfl (B.z B.y4) (p1 (kM kP rfl (B.z B.y0) eh (p1 (pv 0))))) (pgn 8 nN) (kF (xS (qO jM (pv 8) (pv 1) rfl) (kF (qE (jO iQ iR jU (pv 7) (p1 (jI kU))))) (kF (qE (jO iQ iR jU (pv 7) (p1 (jI (kD (pix kW (aP (zJ hr) (pv 2) (pv 8) (λ _ _=>rfl)) kO) (kD (pix kW (aP (zJ hr) (pv 2) (pv 8) (λ _ _=>rfl)) (nK bO kO)) (kD (aP (zJ hr) (pv 3) (pv 8) (λ _ _=>rfl)) kU)))))))))))
   (kF (kS (qJ qA rfl (B.z B.y5) fc (p1 (pv 7))))))))),?_⟩
 try dsimp only[qK]
 have lf:=g.lf;have lm:(a::b::rest.reverse).length=rest.length+2:=by simp
 have lW:rest.length+2<=42:=by
  have:=eI g.msn (l₂:=df W.length) λ x hx=>fz.mpr ((g.all x).mp hx);rw[eV]at this;omega
 have d1:C.reverse.length=rest.length:=by rw[xp,bv]
 have eF:∀ k,k<rest.length->C.getD k []=C.reverse.getD (rest.length-1-k) []:=λ k hk=>by rw[tL (by omega),bv];congr 1;omega
 have eM:∀ k,k<rest.length->rest.getD k 0=(a::b::rest.reverse).getD (rest.length-1-k+2) 0:=λ k hk=>by
  show _=rest.reverse.getD (rest.length-1-k) 0;rw[tL (by omega)]
  congr 1
  omega
 have once:∀ j k z,j<C.length->k<C.length->z∈(C.getD j []).tail.dropLast->z∈(C.getD k []).tail.dropLast->j=k:=λ j k z h1 h2 h3 h4=>by
  rw[eF j (by omega)]at h3;rw[eF k (by omega)]at h4;have:=g.once (by omega) (by omega) h3 h4;omega
 refine λ J ax=>?_;have b0:=kC ax (.dK []);have bo:=kB (H:=H) (a:=J) (o:=.dK []);have ap:=b0 _ _ b1;have a7:J≠r:=(kJ b1 ax).symm;generalize upd H J (.dK [])=H1 at *;refine⟨_,rfl,r,_,rfl,.inl ⟨ap,λ ob=>?_⟩⟩;have k2:∀ b o,b≠r->H1 b=some o->upd H1 r (.frz ob (.dK (spL rest v))) b=some o:=λ b o y e=>by rw[kL y];exact e
 have a5:=kB (H:=H1) (a:=r) (o:=.frz ob (.dK (spL rest v)));have a2:=k2 _ _ a7 bo;have kH:∀ b o,b≠r->H b=some o->upd H1 r (.frz ob (.dK (spL rest v))) b=some o:=λ b o y e=>k2 b o y (b0 b o e);have am:∀{b:ar}{o:HO},H b=some o->(∀ d,o≠.dK d)->b≠r:=λ{b o} e n q=>by rw[q,b1]at e;cases e;exact n _ rfl
 have bd:=kH _ _ (am hz (λ _ q=>by cases q)) hz
 have bl:WebAt (upd H1 r (.frz ob (.dK (spL rest v)))) w W:=by
  obtain⟨Y,h1,h2,h3⟩:=hW;exact⟨Y,kH _ _ (am h1 (λ _ q=>by cases q)) h1,h2,λ j a row e1 e2=>kH _ _ (am (h3 j a row e1 e2) (λ _ q=>by cases q)) (h3 j a row e1 e2)⟩
 have an:∀(i:Nat)(s:ar)(F:List Nat),v[i]?=some s->C[i]?=some F->upd H1 r (.frz ob (.dK (spL rest v))) s=some (.lst (F.map vn)):=λ i s F e1 e2=>kH _ _ (am (ba i s F e1 e2) (λ _ q=>by cases q)) (ba i s F e1 e2);have oF:∀ i,i<rest.length->upd H1 r (.frz ob (.dK (spL rest v))) (v.getD i 0)=some (.lst ((C.getD i []).map vn)):=λ i hi=>an i _ _ (by rw[ae,aa (by omega)];rfl) (by rw[ae,aa (by omega)];rfl);have bx:H J=none:=ax;generalize upd H1 r (.frz ob (.dK (spL rest v)))=H2 at *;have b9:=kEA b6
 have bi:∀ i kv,(spL rest v)[i]?=some kv->i<rest.length/\kv=(Dcl.kn (rest.getD i 0),V.ref (v.getD i 0)):=λ i kv e=>by
  have hi:=(ag.mp e).1;rw[b9]at hi;unfold spL at e;rw[ay]at e;obtain⟨t,e1,rfl⟩:=ck.mp e;obtain⟨q1,q2⟩:=xm.mp e1;exact⟨hi,by rw[ae,q1,ae,q2];rfl⟩
 have c2:∀ i,i<rest.length->∃ f M l,C.getD i []=f::M++[l]/\M.length<=42:=λ i hi=>by
  obtain⟨nd,iT,f,M,l,e,_⟩:=g.inF (k:=rest.length-1-i) (by omega);rw[<-eF i hi]at nd iT e;have:=eI nd (l₂:=a::b::rest.reverse) λ x hx=>wu ((g.top _ (by omega)).2 x (iT x hx));rw[lm,e]at this;refine⟨f,M,l,e,?_⟩;simp only[bg,eQ]at this;omega
 refine kHV (kvs:=spL rest v) (λ i σ H5=>∃(x4 S O x7 U:Option V)(d:List (Key×V)),σ=[some (.ref w),some (.ref z),some (.ref r),some (.ref J),x4,S,O,x7,U]/\(∀ b o,b≠J->H2 b=some o->H5 b=some o)/\H5 J=some (.dK d)/\OvI (0::0::rest) C i 0 d) ⟨_,_,_,_,_,[],rfl,λ b o _ e=>e,a2,⟨λ j hj=>absurd hj (AY j),λ q hq=>(by simp at hq),by simp⟩⟩ ?_ ?_ ?_
 ·rintro i σ H5 _ ⟨x4,S,O,x7,U,d,rfl,g5,_⟩
  exact g5 _ _ (qe a7) a5
 ·rintro i kv T σ H5 cd nT ⟨x4,S,O,x7,U,d,rfl,g5,hO,co⟩
  obtain⟨hi,rfl⟩:=bi i kv cd;have gT:=kC nT (.tup [kV (Dcl.kn (rest.getD i 0)),V.ref (v.getD i 0)]);have ce:=gT _ _ hO;refine⟨T,_,rfl,SqT.of kB,rfl,_,_,rfl,_,_,rfl,rfl,?_⟩;have g6:∀ b o,b≠J->H2 b=some o->upd H5 T (.tup [kV (Dcl.kn (rest.getD i 0)),V.ref (v.getD i 0)]) b=some o:=λ b o y e=>gT _ _ (g5 b o y e);generalize upd H5 T (.tup [kV (Dcl.kn (rest.getD i 0)),V.ref (v.getD i 0)])=H6 at *;obtain⟨fi,M,li,eS,lM⟩:=c2 i hi;have bn:=g6 _ _ (λ q=>by have:=oF i hi;rw[q,a2]at this;cases this) (oF i hi);rw[eS]at bn;refine⟨_,rfl,_,rfl,_,rfl,_,rfl,v.getD i 0,_,rfl,SqL.of bn,λ st ch=>?_⟩;have eC:=kIE fi li M;rw[show(-1:Int) = -(1:Int) from rfl]at eC;rw[eC];have bf:=kC ch (.lst (M.map vn));have b5:=kB (H:=H6) (a:=st) (o:=.lst (M.map vn));have aw:=bf _ _ ce;have g7:∀ b o,b≠J->H2 b=some o->upd H6 st (.lst (M.map vn)) b=some o:=λ b o y e=>bf _ _ (g6 b o y e);generalize upd H6 st (.lst (M.map vn))=H7 at *;have bm:(C.getD i []).tail.dropLast=M:=by rw[eS];exact yL
  refine⟨st,rfl,⟨_,SqL.of b5⟩,?_⟩;refine gU (xs:=M.map vn) (λ m σ I=>∃(S O x7 U:Option V)(d:List (Key×V)),σ=[some (.ref w),some (.ref z),some (.ref r),some (.ref J),some (vn (rest.getD i 0)),S,O,x7,U]/\(∀ b o,b≠J->H2 b=some o->I b=some o)/\I st=some (.lst (M.map vn))/\I J=some (.dK d)/\OvI (0::0::rest) C i m d) ⟨_,_,_,_,d,rfl,g7,b5,aw,co⟩ ?_ ?_ ?_
  ·rintro m σ I _ ⟨S,O,x7,U,d,rfl,g8,h8,_⟩
   exact SqL.of h8
  ·rintro m x σ I hx ⟨S,O,x7,U,d,rfl,g8,h8,a3,al⟩
   rw[ay]at hx;obtain⟨q,eq,rfl⟩:=ck.mp hx;have hm:=(ag.mp eq).1;have ca:=al.few;refine⟨_,rfl,_,rfl,_,rfl,J,_,rfl,DPut.k (k:=Dcl.kn q) a3 (gw (m:=3000) (by omega) (by decide)),_,_,_,_,_,rfl,(λ b o y e=>by rw[kL y];exact g8 b o y e),?_,kB,al.put once (by omega) (by rw[bm];exact eq)⟩;rw[kL (λ e=>by rw[e,a3]at h8;cases h8)];exact h8
  ·rintro σ I ⟨S,O,x7,U,d,rfl,g8,h8,a3,al⟩
   exact⟨_,_,_,_,_,d,rfl,g8,a3,al.next (by rw[bm,af]) (by rw[af];omega)⟩
 rintro σ H5 ⟨x4,S,O,x7,U,ov,rfl,g5,hO,OI⟩;rw[b9]at OI;have nz:∀{b:ar}{o:HO},H2 b=some o->o≠.dK []->H5 b=some o:=λ{b o} e n=>g5 b o (λ q=>by rw[q,a2]at e;cases e;exact n rfl) e;have c5:=nz bd (by simp);have a9:=g5 _ _ (qe a7) a5;have b8:=λ i hi=>nz (oF i hi) (by simp)
 have cp:WebAt H5 w W:=by
  obtain⟨Y,h1,h2,h3⟩:=bl;exact⟨Y,nz h1 (by simp),h2,λ j a row e1 e2=>nz (h3 j a row e1 e2) (by simp)⟩
 have bt:∀ b o,b≠r->H b=some o->H5 b=some o:=λ b o y e=>g5 b o (λ q=>by rw[q,bx]at e;cases e) (kH b o y e)
 clear a2 a5 oF bl bd g5 an kH k2 b0 bo ap nz
 refine⟨yS0,λ L nL=>?_⟩;have gL:=kC nL (.lst []);have hL:=kB (H:=H5) (a:=L) (o:=.lst []);have aw:=gL _ _ hO;have b4:=gL _ _ c5;have aq:=gL _ _ a9;have bz:=λ i hi=>gL _ _ (b8 i hi);have c3:∀ b o,b≠r->H b=some o->upd H5 L (.lst []) b=some o:=λ b o y e=>gL _ _ (bt b o y e);have cs:=cp.kept gL;have a4:∀{b:ar}{o:HO},H5 b=some o->b≠L:=λ{b o} e=>kJ e nL;generalize upd H5 L (.lst [])=H6 at *;obtain⟨ws,w1,ak,_⟩:=id cs;have nn:∀{b:ar}{xs:List V},H6 b=some (.tup xs)->b≠L:=λ{b xs} e q=>by rw[q,hL]at e;cases e
 have lD:(wdF W.length a b c (a::b::rest.reverse) C.reverse).length=W.length:=by unfold wdF;rw[af,eV]
 have bD:∀ p,p<W.length->isB a b c p=true->(wdF W.length a b c (a::b::rest.reverse) C.reverse).getD p []=[]:=λ p hp hB=>by rw[fF hp,if_pos (isB_iff.mp hB)]
 have cr:=λ k (hk:k+1<C.reverse.length)=>g.outs G hk;generalize wdF W.length a b c (a::b::rest.reverse) C.reverse=D at *;refine⟨_,rfl,w,_,rfl,.inr (SqT.of w1),_,rfl,(by rw[af,ak];omega),(by rw[af,ak];omega),?_⟩;refine jN (lo:=0) (n:=((((ws.map V.ref).length:Nat):Int)).toNat) (λ j σ I=>∃(x4 S O U:Option V)(Y:List ar),σ=[some (.ref w),some (.ref z),some (.ref r),some (.ref J),x4,S,O,some (.ref L),U]/\(∀ b o,b≠L->H6 b=some o->I b=some o)/\I L=some (.lst (Y.map V.ref))/\Y.length=j/\∀ i u,Y[i]?=some u->I u=some (.tup ((D.getD i []).map vn))) ⟨_,_,_,_,[],rfl,λ b o _ e=>e,hL,rfl,λ i u e=>by simp at e⟩ ?_ ?_
 ·rintro j σ I hj ⟨x4,S,O,U,Y,rfl,g8,N,ac,b2⟩
  have br:j<W.length:=by rw[af,fg,ak]at hj;exact hj
  have e0:V.int (0+(j:Int))=vn j:=by rw[ve];rfl
  have c8:=g8 _ _ (nn b4) b4
  have bc:∀(t:ar),I t=none->∃(x4 S O U:Option V)(Z:List ar),[some (V.ref w),some (.ref z),some (.ref r),some (.ref J),x4,S,O,some (.ref L),U]=[some (.ref w),some (.ref z),some (.ref r),some (.ref J),x4,S,O,some (.ref L),U]/\(∀ b o,b≠L->H6 b=some o->upd (upd I t (.tup ((D.getD j []).map vn))) L (.lst (Y.map V.ref++[.ref t])) b=some o)/\upd (upd I t (.tup ((D.getD j []).map vn))) L (.lst (Y.map V.ref++[.ref t])) L=some (.lst (Z.map V.ref))/\Z.length=j+1/\∀ i u,Z[i]?=some u->upd (upd I t (.tup ((D.getD j []).map vn))) L (.lst (Y.map V.ref++[.ref t])) u=some (.tup ((D.getD i []).map vn)):=λ t nt=>by
   have gt:=kC nt (.tup ((D.getD j []).map vn));refine⟨none,none,none,none,Y++[t],rfl,(λ b o y e=>by rw[kL y];exact gt _ _ (g8 b o y e)),(by rw[kB,dw];rfl),(by rw[bg,ac];rfl),λ i u eu=>?_⟩;rcases snoc eu with⟨_,e1⟩ | ⟨e1,e2⟩
   ·have:=b2 i u e1
    rw[kL (λ q=>by rw[q,N]at this;cases this)];exact gt _ _ this
   ·cases e2
    rw[e1,ac,kL (kJ N nt).symm];exact kB
  refine⟨_,rfl,_,rfl,z,_,rfl,.inr (SqT.of c8),rfl,xW a b c,_,rfl,?_⟩;rw[e0,yW]
  cases hB:isB a b c j with
  | true =>
   refine yV ⟨_,rfl,.inl ⟨rfl,_,SqL.of N⟩,yS0,λ t nt=>?_⟩;have f1:=bc t nt;rw[bD j br hB]at f1;obtain⟨_,_,_,_,Z,_,f2,f3,f4,f5⟩:=f1;have gt:=kC nt (.tup []);refine⟨L,_,_,rfl,rfl,gt _ _ N,(by rw[af];exact kQ (by omega)),?_⟩;exact⟨_,_,_,_,Z,rfl,f2,f3,f4,f5⟩
  | false =>
   obtain⟨pa,pb,pc⟩:=uC hB;obtain⟨kp,c6,be⟩:=g.place br pa pb pc;obtain⟨j2,f2,M2,l2,d3,d2,as,e2,b7⟩:=cr kp c6;rw[<-be]at as b7;have a8:rest.length-1-kp<rest.length:=by omega
   have c1:rest.getD (rest.length-1-kp) 0=j:=by rw[eM _ a8,show rest.length-1-(rest.length-1-kp)=kp by omega];exact be.symm
   have cb:C.getD (rest.length-1-kp) []=f2::M2++[l2]:=by rw[eF _ a8,show rest.length-1-(rest.length-1-kp)=kp by omega];exact e2
   have b3:rest.length-1-j2<rest.length:=by omega
   have cl:j∈(C.getD (rest.length-1-j2) []).tail.dropLast:=by rw[eF _ b3,show rest.length-1-(rest.length-1-j2)=j2 by omega];exact as
   have bq:=OI.all _ b3 j cl
   have c9:(0::0::rest).getD (rest.length-1-j2+2) 0=(a::b::rest.reverse).getD (j2+2) 0:=by
    show rest.getD (rest.length-1-j2) 0=_;rw[eM _ b3]
    congr 1
    omega
   rw[c9]at bq;have a6:=bz _ a8;rw[cb]at a6;have a6:=g8 _ _ (a4 (b8 _ a8)) a6;have bw:=g8 _ _ (a4 a9) aq;have a3:=g8 _ _ (a4 hO) aw
   have rnd:rest.Nodup:=by
    have:=g.msn;rw[dr,dr]at this;exact(zh rest).nodup_iff.mp this.2.2
   have vs:qU (spL rest v) (Dcl.kn j)=some (.ref (v.getD (rest.length-1-kp) 0)):=Dcl.val_mem (kJN b6 rnd) (by
    unfold spL;refine ft.mpr ⟨(j,v.getD (rest.length-1-kp) 0),cu (i:=rest.length-1-kp) (xm.mpr ⟨?_,?_⟩),rfl⟩
    ·rw[<-c1,ae,aa a8]
     rfl
    ·rw[ae,aa (by omega)]
     rfl)
   have du:DGet I r (vn j) (some (.ref (v.getD (rest.length-1-kp) 0))):=.inl ⟨_,Dcl.kn j,.inr ⟨ob,bw⟩,rfl,vs.symm⟩;have c7:DGet I J (vn j) (some (vn ((a::b::rest.reverse).getD (j2+2) 0))):=.inl ⟨_,Dcl.kn j,.inl a3,rfl,bq.symm⟩;have a0:atI ((f2::M2++[l2]).map vn) 0=some (vn f2):=jW (j:=0) rfl;have a1:atI ((f2::M2++[l2]).map vn) (-1)=some (vn l2):=by rw[dw];exact bK _ _
   refine xN ⟨_,rfl,.inl ⟨rfl,_,SqL.of N⟩,?_⟩;refine⟨_,rfl,_,rfl,r,_,rfl,du,v.getD (rest.length-1-kp) 0,_,_,_,rfl,rfl,SqL.of a6,a0,?_⟩;refine⟨_,rfl,_,rfl,r,_,rfl,du,_,rfl,v.getD (rest.length-1-kp) 0,_,_,_,rfl,rfl,SqL.of a6,a1,?_⟩;refine⟨_,rfl,_,rfl,J,_,rfl,c7,yS3,λ t nt=>?_⟩;have f1:=bc t nt;rw[b7]at f1;obtain⟨_,_,_,_,Z,_,cj,f3,f4,f5⟩:=f1;have gt:=kC nt (.tup ([f2,l2,(a::b::rest.reverse).getD (j2+2) 0].map vn));refine⟨L,_,_,rfl,rfl,gt _ _ N,(by rw[af];exact kQ (by omega)),?_⟩;exact⟨_,_,_,_,Z,rfl,cj,f3,f4,f5⟩
 ·rintro σ I ⟨x4,S,O,U,Y,rfl,g8,N,ac,b2⟩
  rw[af,fg,ak]at ac;refine⟨_,rfl,L,_,rfl,.inl ⟨SqL.of N,λ t nt=>?_⟩⟩;have gt:=kC nt (.tup (Y.map V.ref));refine k t _ (λ b o y e=>gt _ _ (g8 b o (a4 (bt b o y e)) (c3 b o y e))) (.inr ⟨ob,gt _ _ (g8 _ _ (a4 a9) aq)⟩) ⟨Y,kB,by rw[ac,lD],λ i u row e1 e2=>?_⟩;have hi:i<D.length:=(ag.mp e2).1;have:=gt _ _ (b2 i u e1);rw[ae,e2]at this;exact this
end
section
inductive kOH(vs:List V)(H:Hp)(Q:VK)(Y:XK):Prop
 | mk:∀(t l:ar)(W:Rows)(ns:List Nat),(vs=[.ref t,.ref l])->WebAt H t W->H l=some (.tup (ns.map vn))->ns.Perm (df W.length)->(∀(p:Nat)(row:List Nat),W[p]?=some row->row≠[]/\row.length<=1000/\∀ x∈row,x<W.length)->W.length<=42->(∀(u:ar)(V:Rows)(H':Hp),Same H H'->WebAt H' u V->Rnm W ns V->Q (.ref u) H')->kOH vs H Q Y
def kKT{a:List Nat}(nd:a.Nodup){p q:Nat}(hp:p<a.length)(b:q<a.length)(e:a.getD p 0=a.getD q 0):p=q:=by
 rw[ae,ae,aa hp,aa b]at e;exact(uk nd).mp e
def kCM(B:Fx):Hs "renamed" ["web","names"] 3 (kOH):=by
 refine qD B.X B.d11 kBT λ f ax A ab s0 H vs Q E nN hr h=>?_;obtain⟨t,l,W,g,rfl,hW,hl,perm,rows,b0,k⟩:=h
 refine⟨_,(kE (pst 2 nN (kMZ (Nc:=["p","row","names"]) (js:=[none,none,some 1]) rfl rfl (aO false rfl (B.z B.y7) (p1 (pv 0))) (CS.of rfl rfl) rfl (λ C G v fp I=>(show PG _ _ (kDA K 2 _) from jZ rfl (kR (pgc 0) (kR (pgc 1) jD)))) (λ C G v fp I D L=>(qM (kEV (zJ hr) (pix (show IxR _ (mE K) from kX) (pv 2) (pv 0)) (pf (mH B) hr (p1 (qX (Nc:=["q","names"]) (js:=[none,some 2]) rfl rfl (show PI _ _ _ (kNS K _) from(wH (pv 1))) (CS.of rfl rfl) rfl (λ C G v fp I=>(pgc 0)) (λ C G v fp I D L=>(qM (qZ (pix (show IxR _ (mE K) from kX) (pv 1) (pv 0)))))))))))))
   (kF (kS (qJ qA rfl (B.z B.y5) fc (p1 (qX (Nc:=["p","rows"]) (js:=[none,some 2]) rfl rfl (qN rfl (B.z B.y4) (p1 (kM kP rfl (B.z B.y0) eh (p1 (pv 0))))) (CS.of rfl rfl) rfl (λ C G v fp I=>(pgc 0)) (λ C G v fp I D L=>(qM (qZ (aP (zJ hr) (pv 1) (pv 0) (λ _ _=>rfl))))))))))),?_⟩
 try dsimp only[qK]
 obtain⟨ts,h1,a8,h3⟩:=id hW;have nl:g.length=W.length:=by rw[perm.length_eq,eV]
 have a4:g.Nodup:=perm.nodup_iff.mpr me
 have gd:∀ p,p<W.length->atI (g.map vn) (p:Int)=some (vn (g.getD p 0)):=λ p hp=>by
  rw[rZ (show p<g.length by omega),ae,aa (show p<g.length by omega)]
  rfl
 refine⟨_,rfl,t,rfl,⟨_,SqT.of h1⟩,λ d nd=>?_⟩
 refine bM (k:=false) (xs:=ts.map V.ref) (λ i J S=>∃(Y x1:Option V)(s:List (Key×V)),J=[Y,x1,some (.ref l)]/\Same H S/\S d=some (.dK s)/\s.length<=i /\
   ∀(p:Nat)(r:List Nat),p<i->W[p]?=some r->∃(b:ar)(o:List Nat),qU s (qw ((g.getD p 0:Nat):Int))=some (.ref b)/\S b=some (.tup (o.map vn))/\Ro (r.map λ q=>g.getD q 0) o/\Can o)
  ⟨none,none,[],rfl,kC nd _,kB,av _,(λ p r hp=>by omega)⟩ ?_ ?_ ?_
 ·rintro i J S _ ⟨Y,x1,s,rfl,g2,_⟩
  exact SqT.of (g2 _ _ h1)
 ·rintro i x T J S U nT ⟨Y,x1,s,rfl,g2,hd,lk,hk⟩
  rw[ay]at U;obtain⟨a,ea,rfl⟩:=ck.mp U;have hi:i<W.length:=by rw[<-a8];exact(ag.mp ea).1
  have er:=aa hi;have a7:=h3 i a _ ea er;obtain⟨ak,aq,a9⟩:=rows i _ er;generalize W[i]=row at *;have gT:=kC nT (.tup [.int i,.ref a]);refine⟨T,_,rfl,SqT.of kB,rfl,_,_,rfl,_,_,rfl,rfl,?_⟩;have M:=g2.trans gT;have al:=gT _ _ hd
  have am:∀(p:Nat)(r:List Nat),p<i->W[p]?=some r->∃(b:ar)(o:List Nat),qU s (qw ((g.getD p 0:Nat):Int))=some (.ref b)/\upd S T (.tup [.int i,.ref a]) b=some (.tup (o.map vn))/\Ro (r.map λ q=>g.getD q 0) o/\Can o:=λ p r hp e=>by
   obtain⟨b,o,z1,z2,z3⟩:=hk p r hp e;exact⟨b,o,z1,gT _ _ z2,z3⟩
  generalize upd S T (.tup [.int i,.ref a])=H3 at *;refine⟨_,rfl,_,rfl,l,_,_,_,rfl,rfl,SqT.of (M _ _ hl),gd i hi,?_⟩;refine⟨_,rfl,a,rfl,⟨_,SqT.of (M _ _ a7)⟩,λ D nD=>?_⟩;refine xJ (xs:=row.map vn) (λ j J H5=>∃ x:Option V,J=[x,some (.ref l)]/\H5 D=some (.lst (((row.take j).map λ q=>g.getD q 0).map vn))/\Same H3 H5) ⟨none,rfl,kB,kC nD _⟩ ?_ ?_ ?_
  ·rintro j J H5 _ ⟨x,rfl,N,g5⟩
   exact SqT.of (g5 _ _ (M _ _ a7))
  ·rintro j x J H5 U ⟨y,rfl,N,g5⟩
   rw[ay]at U;obtain⟨q,a1,rfl⟩:=ck.mp U;have hj:=(ag.mp a1).1;have hq:=a9 q (cu a1);refine⟨_,rfl,_,rfl,l,_,_,_,rfl,rfl,SqT.of (g5 _ _ (M _ _ hl)),gd q hq,_,N,(by rw[af,af,eO];exact kQ (by omega)),?_⟩;refine⟨_,rfl,?_,kY nD g5⟩;rw[jg,a1];simp only[vf,dw,eo,DT];exact kB
  ·rintro J H5 ⟨x,rfl,N,g5⟩
   rw[af,iP]at N;refine⟨D,_,rfl,.inl N,(by simpa using ak),(by rw[af];exact aq),λ m u H6 hm aw g6 ap=>?_⟩;have a0:=g5.trans g6;have a6:=a0 _ _ al;refine⟨_,DPut.k (k:=qw ((g.getD i 0:Nat):Int)) a6 (kQ (by omega)),?_⟩;refine⟨_,_,_,rfl,kY nd (M.trans a0),kB,(by have:=qR s (qw ((g.getD i 0:Nat):Int)) (V.ref u);omega),λ p r hp e=>?_⟩
   have up:∀(b:ar)(o:List Nat),H6 b=some (.tup (o.map vn))->upd H6 d (.dK (jY s (qw ((g.getD i 0:Nat):Int)) (V.ref u))) b=some (.tup (o.map vn)):=λ b o z=>by
    rw[kL (yB z a6 (by simp))];exact z
   rcases fw p i with a2 | an
   ·obtain⟨b,o,z1,z2,z3⟩:=am p r a2 e
    refine⟨b,o,?_,up _ _ (a0 _ _ z2),z3⟩;rw[zV,if_neg (λ z=>?_)]
    ·exact z1
    ·have:=CQ z
     have:=kKT a4 (show p<g.length by omega) (show i<g.length by omega) (by omega);omega
   ·obtain rfl:p=i:=by omega
    rw[er]at e;cases e
    exact⟨u,rot (row.map λ q=>g.getD q 0) m,by rw[zV,if_pos rfl],up _ _ ap,bS _ _,kEL hm aw⟩
 ·rintro J S ⟨Y,x1,s,rfl,g2,hd,lk,hk⟩
  rw[af,a8]at hk;have as:=g2 _ _ h1;refine⟨_,rfl,t,_,rfl,.inr (SqT.of as),_,rfl,(by rw[af];omega),(by rw[af];omega),λ D nD=>?_⟩
  refine yN (lo:=0) (n:=((ts.map V.ref).length:Int).toNat) (λ x J H3=>∃(Y:Option V)(O:List ar)(V':Rows),J=[Y,some (.ref d)]/\Same S H3/\H3 D=some (.lst (O.map V.ref))/\O.length=x/\V'.length=x/\(∀(j:Nat)(b:ar)(r:List Nat),O[j]?=some b->V'[j]?=some r->H3 b=some (.tup (r.map vn))) /\
    ∀(p:Nat)(r:List Nat),W[p]?=some r->g.getD p 0<x->∃ o,V'[g.getD p 0]?=some o/\Ro (r.map λ q=>g.getD q 0) o/\Can o)
   ⟨none,[],[],rfl,kC nD _,kB,rfl,rfl,(λ j b r e=>by simp at e),(λ p r _ hp=>by omega)⟩ ?_ ?_
  ·rintro x J H3 U ⟨Y,O,V',rfl,M,N,lu,lV,hu,hV⟩
   have U:x<W.length:=by rw[af]at U;omega
   obtain⟨p,a3,Z⟩:=eY.mp (perm.mem_iff.mpr (fz.mpr U));have ep:g.getD p 0=x:=by rw[ae,aa a3];exact Z
   have pl:p<W.length:=by omega
   have er:=aa pl;obtain⟨b,o,z1,z2,z3,z4⟩:=hk p _ pl er;rw[ep]at z1;rw[show V.int (0+(x:Int))=V.int (x:Int) by congr 1;omega];refine⟨_,rfl,_,rfl,d,_,rfl,(by rw[<-z1];exact DGet.k (k:=qw (x:Int)) (M _ _ hd)),?_⟩;have ac:=M _ _ z2;refine⟨_,N,(by rw[af,lu];exact kQ (by omega)),?_⟩;refine⟨_,O++[b],V'++[o],rfl,kY nD M,(by rw[dw];exact kB),(by rw[bg,lu];rfl),(by rw[bg,lV];rfl),(λ j c r e1 Z=>?_),(λ q r e hq=>?_)⟩
   ·have ok:H3 c=some (.tup (r.map vn)):=by
     rcases fw j O.length with hl | hl
     ·rw[bh hl]at e1
      rw[bh (by omega)]at Z;exact hu j c r e1 Z
     ·obtain rfl:j=O.length:=by
       have:=(ag.mp e1).1;simp at this;omega
      rw[fq]at e1;rw[lu,<-lV,fq]at Z;cases e1
      cases Z
      exact ac
    rw[kL (yB ok N (by simp))];exact ok
   ·rcases fw (g.getD q 0) x with a2 | an
    ·obtain⟨r2,e3,z⟩:=hV q r e a2
     exact⟨r2,by rw[bh (by omega)];exact e3,z⟩
    ·have a5:g.getD q 0=x:=by omega
     have ql:=(ag.mp e).1;have pq:p=q:=kKT a4 a3 (by omega) (by rw[ep,a5]);subst pq;rw[er]at e;cases e
     exact⟨o,by rw[a5,<-lV,fq],z3,z4⟩
  ·rintro J H3 ⟨Y,O,V',rfl,M,N,lu,lV,hu,hV⟩
   have en:((ts.map V.ref).length:Int).toNat=W.length:=by rw[af];omega
   rw[en]at lu lV hV;refine⟨D,_,rfl,.inl ⟨SqL.of N,λ u nu=>?_⟩⟩;have gu:=kC nu (.tup (O.map V.ref));refine k u V' _ (g2.trans (M.trans gu)) ⟨O,kB,by rw[lu,lV],λ j b r e1 Z=>gu _ _ (hu j b r e1 Z)⟩ ⟨lV,λ p r e=>hV p r e ?_⟩;have pl:=(ag.mp e).1;exact fz.mp (perm.mem_iff.mp (by rw[ae,aa (show p<g.length by omega)];exact fe _))
end
section
inductive cO(vs:List V)(H:Hp)(Q:VK)(Y:XK):Prop
 | mk:∀(w z d:ar)(W D:Rows)(a b c:Nat),(vs=[.ref w,.ref z,.ref d])->(WebAt H w W)->(H z=some (.tup [vn a,vn b,vn c]))->(WebAt H d D)->Tr W->(Tri.E W a c)->((nxt W (a,c)).2=b)->Wds W a b c D->(∀ H',Same H H'->Q .non H')->cO vs H Q Y
def uS(B:Fx):Hs "must_have_woods" ["web","base","woods"] 8 (cO):=by
 refine qD B.X B.d24 uL λ f l A g y H v Q E x i h=>?_;obtain⟨w,z,d,W,D,a,b,c,rfl,p,o,n,T,u,q,r,k⟩:=h;refine⟨_,(kF (xS (vG (wE (pf (tX B) i (kD (pv 0) (kD (pv 1) (kD (pv 2) kU)))))) (kF dY) jA)),?_⟩
 try dsimp only[qK]
 exact⟨_,rfl,_,rfl,_,rfl,w,z,d,W,D,a,b,c,rfl,p,o,n,T,u,q,r,λ s m=>⟨_,rfl,xN (k s m)⟩⟩
inductive sJ(vs:List V)(H:Hp)(Q:VK)(Y:XK):Prop
 | mk:∀(z d:ar)(D:Rows)(a b c p k x:Nat)(path:List Nat),(vs=[.ref z,.ref d,vn p,vn k])->(H z=some (.tup [vn a,vn b,vn c]))->WebAt H d D->[a,b,c][k]?=some x->Way D k x p path->path.length<=42->(∀(l:ar)(H':Hp),Same H H'->H' l=some (.lst (path.map vn))->Q (.ref l) H')->sJ vs H Q Y
def kDM{D:Rows}{u k v:Nat}(h:(D.getD u [])[k]?=some v):D[u]?=some (D.getD u []):=by
 rcases fw u D.length with c | c
 ·rw[ae,aa c];rfl
 ·rw[ae,ip c]at h
  simp at h
def kCL(B:Fx):Hs "way_out" ["base","woods","place","k"] 1 (sJ):=by
 refine qD B.X B.d25 kBS λ f O A G s0 H vs Q E nN hr h=>?_;obtain⟨z,d,D,a,b,c,p,k,x,path,rfl,S,hD,hx,wy,a1,q⟩:=h
 refine⟨_,(kE (pst 4 nN (jF (p1 (pv 2))))
   (kE (tQ CD (qO nP (pix kW (pv 4) (nK bO kO)) (pix kX (pv 0) (pv 3)) (jJ _)) (kF (qE (jO iQ iR jU (pv 4) (p1 (pix kX (pix kX (pv 1) (pix kW (pv 4) (nK bO kO))) (pv 3)))))))
   (kF (kS (pv 4))))),?_⟩
 try dsimp only[qK]
 have J:atI [vn a,vn b,vn c] (k:Int)=some (vn x):=jW (by rw[show([vn a,vn b,vn c]:List V)=[a,b,c].map vn from rfl,ay,hx];rfl);obtain⟨us,u1,a0,u3⟩:=hD.at;refine⟨_,rfl,yS1,λ l I=>?_⟩;refine rY (λ C i=>∃(u:Nat)(P R:List Nat),C=[some (.ref z),some (.ref d),some (vn p),some (vn k),some (.ref l)]/\Same H i/\i l=some (.lst ((P++[u]).map vn))/\Way D k x u R/\P++R=path) (kTU 50) ⟨p,[],path,rfl,kC I _,kB,wy,rfl⟩ ?_ ?_
 ·rintro C i ⟨u,P,R,rfl,o,n,wr,y⟩
  have g:atI ((P++[u]).map vn) (-1)=some (vn u):=by rw[dw];exact bK _ _
  refine⟨_,rfl,_,rfl,l,_,_,_,rfl,rfl,SqL.of n,g,_,rfl,_,rfl,z,_,_,_,rfl,rfl,SqT.of (o _ _ S),J,rfl,_,rfl,?_⟩
  cases wr with
  | stop =>
   rw[decide_eq_true rfl];refine xN ⟨_,rfl,q l i o ?_⟩;rw[<-y];exact n
  | step ne e wy' =>
   rename_i v R'
   rw[decide_eq_false (λ z=>ne (by have:=V.int.inj z;omega))];obtain⟨b1,r,s⟩:=u3 u _ (kDM e);have L:atI ((D.getD u []).map vn) (k:Int)=some (vn v):=jW (by rw[ay,e];rfl);have lP:P.length+R'.length+1=path.length:=by rw[<-y,bg,eQ];omega
   refine yV ⟨_,rfl,.inl ⟨rfl,_,SqL.of n⟩,_,rfl,_,rfl,_,rfl,l,_,_,_,rfl,rfl,SqL.of n,g,d,_,_,_,rfl,rfl,SqT.of (o _ _ u1),r,_,rfl,b1,_,_,_,rfl,rfl,SqT.of (o _ _ s),L,l,_,_,rfl,rfl,n,(by rw[af,bg];exact kQ (by simp;omega)),?_⟩;refine⟨⟨v,P++[u],R',rfl,kY I o,(by rw[kB,dw (l₁:=P++[u])];rfl),wy',by rw[<-y];simp⟩,?_⟩;show 50-lO (upd i l (.lst ((P++[u]).map vn++[vn v])) l)<50-lO (i l);rw[kB,n];show 50-((P++[u]).map vn++[vn v]).length<50-((P++[u]).map vn).length;rw[bg,af,bg];simp;omega
 ·rintro C H1 Q1 Q2 m ⟨T,r,v2,s,p1,x1,i1,Z,f1,f2,f3,f4,v3,e3,v4,e4,p2,Y,N,w2,h1,h2,U,h4,fl,kk,M,q1⟩
  exact⟨T,r,v2,s,p1,x1,i1,Z,f1,f2,f3,f4,v3,e3,v4,e4,p2,Y,N,w2,h1,h2,U,h4,fl,kk,M,m _ _ q1⟩
inductive kOG(vs:List V)(H:Hp)(Q:VK)(Y:XK):Prop
 | mk:∀(w z d:ar)(W D:Rows)(a b c p k x:Nat)(path:List Nat),(vs=[.ref w,.ref z,.ref d,vn p,vn k])->(WebAt H w W)->(H z=some (.tup [vn a,vn b,vn c]))->(WebAt H d D)->Tr W->(Tri.E W a c)->((nxt W (a,c)).2=b)->Wds W a b c D->[a,b,c][k]?=some x->Way D k x p path->path.length<=42->(∀(t:ar)(H':Hp),Same H H'->H' t=some (.tup (path.map vn))->Q (.ref t) H')->kOG vs H Q Y
def kKQ(B:Fx):Hs "way" ["web","base","woods","place","k"] 9 (kOG):=by
 refine qD B.X B.d26 kPL λ f s A i U H N Q E O n h=>?_;obtain⟨w,z,d,W,D,a,b,c,p,k,x,path,rfl,u,o,r,T,M,v,C,L,G,m,q⟩:=h
 refine⟨_,(kE (qE (pf (uS B) n (kD (pv 0) (kD (pv 1) (kD (pv 2) kU)))))
   (kF (kS (qJ qA rfl (B.z B.y5) fc (p1 (pf (kCL B) n (kD (pv 1) (kD (pv 2) (kD (pv 3) (kD (pv 4) kU)))))))))),?_⟩
 try dsimp only[qK]
 refine⟨_,rfl,_,rfl,_,rfl,w,z,d,W,D,a,b,c,rfl,u,o,r,T,M,v,C,λ S g=>?_⟩;refine⟨_,rfl,_,rfl,_,rfl,_,rfl,z,d,D,a,b,c,p,k,x,path,rfl,g _ _ o,r.kept g,L,G,m,λ l Y J I=>?_⟩;exact⟨l,_,rfl,.inl ⟨SqL.of I,λ t y=>q t _ (g.trans (J.trans (kC y _))) kB⟩⟩
inductive kJO(vs:List V)(H:Hp)(Q:VK)(Y:XK):Prop
 | mk:∀(d:ar)(D:Rows)(p k x:Nat)(path:List Nat),(vs=[.ref d,vn p,vn k])->WebAt H d D->Way D k x p path->D[x]?=some []->D.length<=42->path.length<=D.length->(∀(t:ar)(H':Hp),Same H H'->H' t=some (.tup (path.map vn))->Q (.ref t) H')->kJO vs H Q Y
def kCP(B:Fx):Hs "_law_way" ["_law_woods_here","_law_place","_law_k"] 1 (kJO):=by
 refine qD B.X B.d41 kBW λ f a0 A T s0 H vs Q E nN hr h=>?_;obtain⟨d,D,p,k,x,path,rfl,hD,wy,dx,a1,lp,q⟩:=h
 refine⟨_,(kE (pst 3 nN (jF (p1 (pv 1))))
   (kE (uE (qN rfl (B.z B.y4) (p1 (kM kP rfl (B.z B.y0) eh (p1 (pv 0))))) (pgn 4 nN) (kF (xS (qO (kCJ hr.units) (pix kX (pv 0) (pix kW (pv 3) (nK bO kO))) (jI kU) (jJ _)) (kF (qE (jO iQ iR jU (pv 3) (p1 (pix kX (pix kX (pv 0) (pix kW (pv 3) (nK bO kO))) (pv 2)))))) jA)))
   (kF (kS (qJ qA rfl (B.z B.y5) fc (p1 (pv 3))))))),?_⟩
 try dsimp only[qK]
 obtain⟨us,Z,g,u3⟩:=hD.at;refine⟨_,rfl,yS1,λ l N=>?_⟩;refine⟨_,rfl,d,_,rfl,.inr (SqT.of (kC N _ _ _ Z)),_,rfl,(by rw[af,g];omega),(by rw[af,g];omega),?_⟩;refine jN (lo:=0) (n:=((((us.map V.ref).length:Nat):Int)).toNat) (λ i O G=>∃(u:Nat)(P R:List Nat)(S:Option V),O=[some (.ref d),some (vn p),some (vn k),some (.ref l),S]/\Same H G/\G l=some (.lst ((P++[u]).map vn))/\Way D k x u R/\P++R=path/\(u=x\/P.length=i)) ⟨p,[],path,_,rfl,kC N _,kB,wy,rfl,.inr rfl⟩ ?_ ?_
 ·rintro i O G hi ⟨u,P,R,S,rfl,C,M,wr,o,I⟩
  have a:atI ((P++[u]).map vn) (-1)=some (vn u):=by rw[dw];exact bK _ _
  have U:P.length+R.length=path.length:=by rw[<-o,bg]
  obtain⟨r,er,cs⟩ : ∃ r,D[u]?=some r/\((r=[]/\u=x/\R=[x])\/∃ v J,r≠[]/\r[k]?=some v/\Way D k x v J/\R=u::J):=by
   cases wr with
   | stop=>exact⟨[],dx,.inl ⟨rfl,rfl,rfl⟩⟩
   | step ne e c =>
    refine⟨_,kDM e,.inr ⟨_,_,λ z=>?_,e,c,rfl⟩⟩;rw[z]at e;simp at e
  obtain⟨b1,e1,e2⟩:=u3 u r er;refine⟨_,rfl,_,rfl,_,rfl,l,_,_,_,rfl,rfl,SqL.of M,a,d,_,_,_,rfl,rfl,SqT.of (C _ _ Z),e1,yS0,λ em Y=>?_⟩;have m:=kC Y (.tup []);have b:=m _ _ M;have L:=C.trans m;refine⟨yO r,yO [],cI (m _ _ (C _ _ e2)),cI kB,dX _,dX _,_,rfl,?_⟩;rw[if_pos rfl,kGM];generalize upd G em (.tup [])=H3 at *;rcases cs with⟨rfl,rfl,rfl⟩ | ⟨v,J,y,ek,c,rfl⟩
  ·rw[decide_eq_true rfl]
   exact xN ⟨u,P,[u],_,rfl,L,b,.stop,o,.inl rfl⟩
  ·rw[decide_eq_false y]
   have ak:atI (r.map vn) (k:Int)=some (vn v):=jW (by rw[ay,ek];rfl)
   have hP:P.length=i:=I.resolve_left λ z=>by
    obtain⟨_,s⟩ : ∃ _:Unit,D[u]?=some []:=⟨(),by rw[z];exact dx⟩;rw[er]at s;exact y (bj s)
   rw[eQ]at U;refine yV ⟨_,rfl,.inl ⟨rfl,_,SqL.of b⟩,_,rfl,_,rfl,_,rfl,l,_,_,_,rfl,rfl,SqL.of b,a,d,_,_,_,rfl,rfl,SqT.of (L _ _ Z),e1,_,rfl,b1,_,_,_,rfl,rfl,SqT.of (L _ _ e2),ak,l,_,_,rfl,rfl,b,(by rw[af,bg];exact kQ (by simp;omega)),?_⟩;exact⟨v,P++[u],J,_,rfl,kY N L,(by rw[kB,dw (l₁:=P++[u])];rfl),c,by rw[<-o];simp,.inr (by rw[bg,hP];rfl)⟩
 ·rintro O G ⟨u,P,R,S,rfl,C,M,wr,o,I⟩
  rw[af,fg,g]at I
  have ux:R=[x]/\u=x:=by
   cases wr with
   | stop=>exact⟨rfl,rfl⟩
   | step ne e c =>
    exfalso;rcases I with z | z
    ·exact ne z
    ·have:=congrArg iB o
     rw[bg,eQ]at this;omega
  obtain⟨rfl,rfl⟩:=ux;refine⟨_,rfl,l,_,rfl,.inl ⟨SqL.of M,λ t nt=>q t _ (C.trans (kC nt _)) ?_⟩⟩;rw[kB,o]
inductive kDY(vs:List V)(H:Hp)(Q:VK)(Y:XK):Prop
 | mk:∀(n r:ar)(ns row:List Nat),(vs=[.ref n,.ref r])->H n=some (.lst (ns.map vn))->H r=some (.tup (row.map vn))->(∀ x∈row,x<ns.length)->row.length<=42->(∀(t:ar)(H':Hp),Same H H'->H' t=some (.tup ((row.map λ q=>ns.getD q 0).map vn))->Q (.ref t) H')->kDY vs H Q Y
def wJ(B:Fx):Hs "_law_named" ["_law_names","_law_row"] 1 (kDY):=by
 refine qD B.X B.d42 oY λ f v A p Y H O Q E T S h=>?_;obtain⟨n,r,I,row,rfl,J,d,rng,N,q⟩:=h;refine⟨_,(kF (kS (qJ qA rfl (B.z B.y5) fc (p1 (qX (Nc:=["_law_place","_law_names"]) (js:=[none,some 0]) rfl rfl (wH (pv 1)) (CS.of rfl rfl) rfl (λ C i g G l=>(pgc 0)) (λ C i g G l D L=>(qM (qZ (pix (show IxR _ (kMV K) from kW) (pv 1) (pv 0)))))))))),?_⟩
 try dsimp only[qK]
 refine⟨_,rfl,r,rfl,⟨_,SqT.of d⟩,λ D s=>?_⟩;refine xJ (xs:=row.map vn) (λ j o c=>∃ x:Option V,o=[x,some (.ref n)]/\c D=some (.lst (((row.take j).map λ q=>I.getD q 0).map vn))/\Same H c) ⟨none,rfl,kB,kC s _⟩ ?_ ?_ ?_
 ·rintro j o c _ ⟨x,rfl,m,b⟩
  exact SqT.of (b _ _ d)
 ·rintro j x o c u ⟨y,rfl,m,b⟩
  rw[ay]at u;obtain⟨q,a,rfl⟩:=ck.mp u;have U:=(ag.mp a).1;refine⟨_,rfl,_,rfl,n,_,_,_,rfl,rfl,SqL.of (b _ _ J),bJ (rng q (cu a)),_,m,(by rw[af,af,eO];exact kQ (by omega)),?_⟩;refine⟨_,rfl,?_,kY s b⟩;rw[jg,a];simp only[vf,dw,eo,DT];exact kB
 ·rintro o c ⟨x,rfl,m,b⟩
  rw[af,iP]at m;exact⟨D,_,rfl,.inl ⟨SqL.of m,λ t M=>q t _ (b.trans (kC M _)) kB⟩⟩
end
section
inductive sK(vs:List V)(H:Hp)(Q:VK)(Y:XK):Prop
 | mk:∀(n d:ar)(D:Rows)(ns:List Nat),(vs=[.ref n,.ref d])->H n=some (.lst (ns.map vn))->WebAt H d D->ns.Perm (df D.length)->D.length<=42->(∀(p:Nat)(row:List Nat),D[p]?=some row->row.length<=42/\∀ x∈row,x<D.length)->(∀(t:ar)(D':Rows)(H':Hp),Same H H'->WebAt H' t D'->kRJ D ns D'->Q (.ref t) H')->sK vs H Q Y
def uT(B:Fx):Hs "_law_woods_named" ["_law_names","_law_woods_here"] 2 (sK):=by
 refine qD B.X B.d43 uM λ f an A a4 s0 H vs Q E nN hr h=>?_;obtain⟨n,d,D,c,rfl,hn,hD,hp,am,rng,k⟩:=h
 refine⟨_,(kE (pst 2 nN (qG kKO (jF (p1 (jI kU))) (kM kP rfl (B.z B.y0) eh (p1 (pv 1)))))
   (kE (uE (aO false rfl (B.z B.y7) (p1 (pv 1))) (jZ (n:=2) rfl (kR (pgn 3 nN) (kR (pgn 4 nN) jD))) (kF (yU (pf (wJ B) hr (p2 (pv 0) (pv 4))) (pP (pv 2) (pix kW (pv 0) (pv 3)) aH))))
   (kF (kS (qJ qA rfl (B.z B.y5) fc (p1 (pv 2))))))),?_⟩
 try dsimp only[qK]
 obtain⟨us,u1,G,u3⟩:=id hD;have a0:c.length=D.length:=by rw[hp.length_eq,eV]
 have ak:∀{j:Nat},j<D.length->c.getD j 0<D.length:=λ{j} hj=>fz.mp (hp.mem_iff.mp (by rw[ae,aa (by omega)];exact fe _));have a6:c.Nodup:=hp.nodup_iff.mpr me;refine⟨yS0,λ e ne=>⟨yS1,λ l1 n1=>?_⟩⟩;have g1:=(kC ne (.tup [])).trans (kC n1 (.lst [.ref e]));have he:=(kC n1 (.lst [.ref e])) _ _ (kB (H:=H) (a:=e) (o:=.tup []));have ab:=kB (H:=upd H e (.tup [])) (a:=l1) (o:=.lst [.ref e]);generalize upd (upd H e (.tup [])) l1 (.lst [.ref e])=H1 at *;have lA:((us.map V.ref).length:Int)=D.length:=by rw[af,G]
 refine⟨_,rfl,d,_,rfl,.inr (SqT.of (g1 _ _ u1)),l1,_,_,rfl,rfl,ab,(by omega),(by omega),(by rw[lA];exact ka (kQ (by simp;omega))),λ f nf=>?_⟩;rw[lA,fg,tM];have gf:=kC nf (.lst ((dh D.length e).map V.ref));have g2:=g1.trans gf;have a3:=gf _ _ he;have a5:=kB (H:=H1) (a:=f) (o:=.lst ((dh D.length e).map V.ref));generalize upd H1 f (.lst ((dh D.length e).map V.ref))=H2 at *
 refine⟨_,rfl,d,rfl,⟨_,SqT.of (g2 _ _ u1)⟩,kAR (k:=false) (xs:=us.map V.ref) (λ i S u=>∃(x3 x4:Option V)(g:List ar)(W:Rows),S=[some (.ref n),some (.ref d),some (.ref f),x3,x4]/\u f=some (.lst (g.map V.ref))/\g.length=D.length/\W.length=D.length /\
   (∀(j:Nat)(a:ar)(row:List Nat),g[j]?=some a->W[j]?=some row->u a=some (.tup (row.map vn)))/\(∀ p,p<i->W[c.getD p 0]?=some ((D.getD p []).map λ q=>c.getD q 0))/\Same H u/\H f=none)
  ⟨none,none,dh D.length e,dh D.length [],rfl,a5,iV,iV,(λ j a row I J=>?_),(λ p v=>by omega),g2,g1.free nf⟩ ?_ ?_ ?_⟩
 ·have a1:=(vc.mp (cu I)).2
  have a2:=(vc.mp (cu J)).2;subst a1 a2;exact a3
 ·rintro i S u _ ⟨x3,x4,g,W,rfl,Y,lt,U,m,M,O,r⟩
  exact SqT.of (O _ _ u1)
 ·rintro i x T S u hx nT ⟨x3,x4,g,W,rfl,Y,lt,U,m,M,O,r⟩
  rw[ay]at hx;obtain⟨a,ea,rfl⟩:=ck.mp hx;have hi:i<D.length:=by rw[<-G];exact(ag.mp ea).1
  have s:D[i]?=some (D.getD i []):=by rw[ae,aa hi];rfl
  have a8:=u3 i a _ ea s;obtain⟨ac,rb⟩:=rng i _ s;have y:=kC nT (.tup [.int i,.ref a]);have gT:=O.trans y;have a7:=y _ _ Y;have L:∀(j:Nat)(b:ar)(row:List Nat),g[j]?=some b->W[j]?=some row->upd u T (.tup [.int i,.ref a]) b=some (.tup (row.map vn)):=λ j b row w1 w2=>y _ _ (m j b row w1 w2);refine⟨T,_,rfl,SqT.of kB,rfl,_,_,rfl,_,_,rfl,rfl,?_⟩;generalize upd u T (.tup [.int i,.ref a])=H4 at *;refine⟨_,rfl,_,rfl,n,a,c,_,rfl,gT _ _ hn,gT _ _ a8,(λ x hx=>by rw[a0];exact rb x hx),ac,λ t H5 Z ht=>?_⟩;have C:=Z _ _ a7;have al:=ak hi;refine⟨_,rfl,_,rfl,_,rfl,n,_,_,_,rfl,rfl,SqL.of (Z _ _ (gT _ _ hn)),bJ (show i<c.length by omega),f,_,_,c.getD i 0,rfl,rfl,C,kFH (by rw[af,lt];exact al),?_⟩;refine⟨_,_,g.set (c.getD i 0) t,W.set (c.getD i 0) ((D.getD i []).map λ q=>c.getD q 0),rfl,(by rw[Fg];exact kB),(by rw[As];exact lt),(by rw[As];exact U),(λ j b a9 I J=>?_),(λ p v=>?_),kY r (gT.trans Z),r⟩
  ·have bt:b≠f->upd H5 f (.lst ((g.map V.ref).set (c.getD i 0) (.ref t))) b=H5 b:=λ z=>kL z
   by_cases ej:c.getD i 0=j
   ·subst ej
    rw[gy (by omega)]at I;rw[gy (by omega)]at J;cases I
    cases J
    rw[bt (yB ht C (by intro z;cases z))];exact ht
   ·rw[eB ej]at I J
    have hb:=Z _ _ (L j b a9 I J);rw[bt (yB hb C (by intro z;cases z))];exact hb
  ·by_cases N:p=i
   ·subst N
    rw[gy (by omega)]
   ·rw[eB (λ z=>N (Fc.getD_inj a6 (by omega) (by omega) z).symm)]
    exact M p (by omega)
 ·rintro S u ⟨x3,x4,g,W,rfl,Y,lt,U,m,M,O,r⟩
  rw[af,G]at M;refine⟨_,rfl,f,_,rfl,.inl ⟨SqL.of Y,λ t nt=>?_⟩⟩;have gt:=kC nt (.tup (g.map V.ref));refine k t W _ (O.trans gt) ⟨g,kB,by omega,λ j b row w1 w2=>gt _ _ (m j b row w1 w2)⟩ ⟨U,λ p v=>?_⟩;rw[ae (l:=W),M p v]
  rfl
end
section
def kMI{xs:List Bs}{B n:Nat}(h:((mw xs).map (·.length)).sum<=B)(h':(mw xs).length=n):(PyData.tuple xs).shown.length<=B+2*n+3:=by
 rw[Fi];have:=PySem.tupleText_len_le (mw xs);omega
def kHR{l:List Nat}(h:∀ n∈l,n<1024):DH (l.map λ n:Nat=>ju (n:Int))=true/\Dl (l.map λ n:Nat=>ju (n:Int))=false/\((mw (l.map λ n:Nat=>ju (n:Int))).map (·.length)).sum<=11*l.length/\(mw (l.map λ n:Nat=>ju (n:Int))).length=l.length:=by
 induction l with
 | nil=>exact⟨rfl,rfl,by simp[mw],rfl⟩
 | cons n l ih =>
  obtain⟨i,b,o,c⟩:=ih λ m d=>h m (dc _ d);have f:=h n eW
  have a:((n:Int)).natAbs.log2<10:=by
   rw[DI];by_cases z:n=0
   ·rw[z];decide
   ·exact(Fy z).mpr f
  have s:(ng (toString (n:Int))).length<=11:=by
   have:=PySem.int_text_length_le (k:=10) (by decide) a;rw[PySem.ofString_length];exact this
  have g:(ju (n:Int)).showable=true:=by
   simp[EK];have:(n:Int).natAbs=n:=DI n;rw[this]at a;omega
  refine⟨?_,?_,?_,?_⟩
  ·rw[eo,DH,g,i];rfl
  ·rw[eo,Dl,b];rfl
  ·rw[eo,mw,eo,AI,eQ,Fi];omega
  ·rw[eo,mw,eQ,c];rfl
def kGL{l:List Nat}(h:∀ n∈l,n<1024)(d:l.length<=42):(yO l).showable=true/\(yO l).hasDict=false/\(yO l).depth<=60/\(yO l).shown.length<=sizeLine:=by
 obtain⟨f,a,c,b⟩:=kHR h;have g:=(cD l).2;refine⟨?_,?_,?_,?_⟩
 ·unfold yO;rw[EK,f]
 ·unfold yO;rw[PyData.hasDict,a]
 ·unfold yO;rw[vd];omega
 ·have:=kMI c b
  exact gx this (gx (show _<=3000 by omega) (by decide))
def kAJ{H a d:Hp}{p:ar}(g:Same H a)(n:H p=none)(b:SameBut p a d):Same H d:=λ c o e=>b c o (kJ e n) (g c o e)
def kMH{D:Rows}{n k x:Nat}(rng:∀ p q,q∈D.getD p []->q<n)(c:x<n){u:Nat}(b:u<n){path:List Nat}(w:Way D k x u path):∀ q∈path,q<n:=by
 induction w with
 | stop=>intro q a;rw[dg.mp a];exact c
 | step ne e _ ih =>
  intro q a;rcases cn.mp a with rfl | m
  ·exact b
  ·exact ih (rng _ _ (cu e)) q m
def kQE(B:Fx){f:ar}{fd:og}(F:Fun K "law" "law" kEJ f fd):FnOk P w K mg base CX0 11 f fd ["_law_script"] (mS K):=by
 refine F.ok sc_law (λ vs H Q E h=>?_) (λ ez A dv s H vs Q E X h=>?_)
 ·obtain⟨a,ns,rfl,_⟩:=h
  rfl
 obtain⟨a,ns,rfl,hS,el,q⟩:=h
 refine⟨_,(kE (uE (qN rfl (B.z B.y4) (p1 (kM (oH rfl) rfl (B.z B.y1) CP (p2 kO (kM (kII rfl) rfl (B.z B.y6) we (p2 kO (kM kP rfl (B.z B.y0) eh (p1 (pv 0))))))))) (pgn 1 sc_law.nd) (kE (pst 2 sc_law.nd (pf (kCQ B) X (p2 (pv 0) (pv 1))))
   (kE (pst 3 sc_law.nd (pf (kCO B) X (p2 (pv 2) (qG xV kO (pf (qP B) X (p2 (pv 2) kO))))))
   (kE (pst 4 sc_law.nd (pf (tW B) X (p2 (pv 2) (pv 3))))
   (kE (pst 5 sc_law.nd (pf (pS B) X (kD (pv 3) (kD (pv 4) (kD (pf (pU B) X (kD (pv 2) (kD (pv 3) (kD (pv 4) kU)))) kU)))))
   (kE (pst 6 sc_law.nd (jF kU))
   (kE (uE (qN rfl (B.z B.y4) (p1 (kM kP rfl (B.z B.y0) eh (p1 (pv 3))))) (pgn 7 sc_law.nd) (kF (qE (jO yc yd bW (pv 6) (p2 (pf (qP B) X (p2 (pv 2) (qG xV (pv 7) kO))) (pv 7))))))
   (kE (pst 8 sc_law.nd (jI (kD (pf (kCM B) X (p2 (pv 3) (qJ qA rfl (B.z B.y5) fc (p1 (pv 6))))) (kD (pf (wJ B) X (p2 (pv 6) (pv 4))) (kD (pf (uT B) X (p2 (pv 6) (pv 5))) kU)))))
   (kF (uE (xM (qX (Nc:=["_law_one","_law_base_here"]) (js:=[none,some 4]) rfl rfl (qN rfl (B.z B.y4) (p1 (kM kP rfl (B.z B.y0) eh (p1 (pv 3))))) (CS.of rfl rfl) rfl (λ C cl c9 fp d4=>(pgc 0)) (λ C cl c9 fp d4 D L=>(yS (qO (show OpR _ _ (rIn K true) from yH) (pv 0) (pv 1) rfl) (qZ (pv 0)))))) (pgn 7 sc_law.nd) (kF (uE (qN rfl (B.z B.y4) (p1 kO)) (pgn 9 sc_law.nd) (kE (pst 10 sc_law.nd (pf (kCP B) X (kD (pv 5) (kD (pv 7) (kD (pv 9) kU)))))
   (kE (xS (qO nP (kM (lJ X.gd X.units) rfl (B.z B.y15) By (p1 (pf (kKQ B) X (kD (pv 3) (kD (pv 4) (kD (pv 5) (kD (pv 7) (kD (pv 9) kU)))))))) (kM (lJ X.gd X.units) rfl (B.z B.y15) By (p1 (pv 10))) (jJ _)) (kF (kS vI)) jA)
   (kF (xS (qO (kCJ X.units) (pf (kKQ B) X (kD (pix kX (pv 8) kO) (kD (pix kX (pv 8) kO) (kD (pix kX (pv 8) kO) (kD (pix kW (pv 6) (pv 7)) (kD (pv 9) kU)))))) (pf (wJ B) X (p2 (pv 6) (pv 10))) (jJ _)) (kF (kS vI)) jA))))))))))))))))
   (kF (kS vI))),?_⟩
 try dsimp only[qK]
 have hl:(ns.map V.int).length=ns.length:=af _;refine⟨_,rfl,a,_,rfl,.inl hS,3,_,rfl,1,_,rfl,?_⟩;rw[hl];generalize hj:(if(if(ns.length:Int)<3 then(ns.length:Int) else 3)>1 then(if(ns.length:Int)<3 then(ns.length:Int) else 3) else 1)=j;have j0:0<=j:=by rw[<-hj];split<;>omega
 have j1:j<=63:=by
  rw[<-hj]
  split
  ·split<;>omega
  ·omega
 refine⟨j,rfl,by omega,by omega,jN (lo:=0) (n:=j.toNat) (λ i M H2=>∃(x1 x2 x3 x4 x5 x6 x7 x8 x9 l:Option V),M=[some (.ref a),x1,x2,x3,x4,x5,x6,x7,x8,x9,l]/\Same H H2)
  ⟨none,none,none,none,none,none,none,none,none,none,rfl,Same.refl H⟩ ?_ ?_⟩
 ·rintro i M H2 hi ⟨x1,x2,x3,x4,x5,x6,x7,x8,x9,l,rfl,g⟩
  refine⟨_,rfl,_,rfl,a,ns,_,rfl,g.seq hS,el,(by omega),(by omega),λ p x y H3 hx g3 hn hp=>?_⟩;have al:H p=none:=g.free hn;have gA:Same H H3:=g.trans g3;have pA:PotAt H3 p:=⟨x,y,hp,hx⟩;refine⟨_,rfl,_,rfl,p,9,rfl,pA,by decide,gJ (by decide),λ d H4 d0 d1 s4 p4=>⟨_,_,rfl,rfl,?_⟩⟩;obtain⟨dn,rfl⟩:=jw d0;have g4:=kAJ gA al s4;refine⟨p,4+dn,rfl,p4,by omega,by omega,λ w W H5 s5 p5 hW lW G ex=>?_⟩;have g5:=kAJ g4 al s5;have a5:W.length<=42:=by omega
  refine⟨_,rfl,_,rfl,p,w,W,rfl,p5,hW,G,a5,λ z v r I H6 s6 p6 nz hz ap b0=>?_⟩;have g6:=kAJ g5 al s6;have c6:=hW.pot s6 p5;refine⟨_,rfl,_,rfl,_,rfl,_,rfl,_,rfl,p,w,z,W,v,r,I,rfl,p6,c6,G,a5,hz,ap,b0,λ sp rest sa ss H7 s7 p7 e8 bx ds co PS=>?_⟩;have g7:=kAJ g6 al s7;have bw:=c6.pot s7 p6;obtain⟨px,py,ef,_⟩:=id p6;have c4:=s7 z _ (λ e=>by rw[e,ef]at hz;cases hz) hz;have S:=(Wb.of G).toNb;obtain⟨bz,rb,nb,ev⟩:=xK S ap
  have hb:Tri.R W I r v:=by
   have:=b0;rw[nb]at this;obtain rfl:bz=r:=this;exact rb
  obtain⟨pm,Ts,la⟩:=PS.laid G hb;have a3:=Hist.of G pm hb la;have wd:=a3.woods G hb;have ways:=λ(k x:Nat) (hx:[v,r,I][k]?=some x) (i:Nat) (hi:i+1<ss.reverse.length)=>a3.ways G hx hi;have er:=PS.len;refine⟨w,z,sp,W,v,r,I,rest,sa,ss,Ts,rfl,bw,a5,c4,bx,ds,co,er,G,a3,λ du H8 k8 eq d7=>?_⟩;have ec:H sp=none:=g6.free e8;have g8:Same H H8:=λ b o e=>k8 b o (kJ e ec) (g7 b o e);have ab:∀{b:ar}{o:HO},H7 b=some o->(∀ e5,o≠.dK e5)->H8 b=some o:=λ{b o} e n=>k8 b o (λ q=>by rw[q,bx]at e;cases e;exact n _ rfl) e;have b3:=ab c4 (λ _ q=>by cases q)
  have bi:WebAt H8 w W:=by
   obtain⟨ts,h1,h2,h3⟩:=bw;exact⟨ts,ab h1 (λ _ q=>by cases q),h2,λ j a row e1 e2=>ab (h3 j a row e1 e2) (λ _ q=>by cases q)⟩
  have p8:PotAt H8 p:=by
   obtain⟨x,y,e,e2⟩:=p7;exact⟨x,y,ab e (λ _ q=>by cases q),e2⟩
  have T:Tr W:=⟨S,a5,(xG G).1,(xG G).2⟩;have a0:=kFY T ap b0;clear hW c6 bw hz c4 co bx eq p7 s7 k8 ab;generalize f5:wdF W.length v r I (v::r::rest.reverse) ss.reverse=D at *;have lD:=wd.len
  have ac:∀ p q,q∈D.getD p []->q<W.length:=λ p q hq=>by
   by_cases be:p<W.length
   ·by_cases cb:p=v\/p=r\/p=I
    ·rw[wd.base p cb]at hq
     cases hq
    ·obtain⟨x,y,z',row,e2,ei,m1,m2,m3,_⟩:=wd.sorted S be (λ q=>cb (.inl q)) (λ q=>cb (.inr (.inl q))) (λ q=>cb (.inr (.inr q)))
     have rg:=λ x hx=>(S.rng _ _ x ei hx).1;rw[e2]at hq;simp only[cn,fh,or_false]at hq;rcases hq with rfl | rfl | rfl
     ·exact rg _ m1
     ·exact rg _ m2
     ·exact rg _ m3
   ·rw[ae,ip (by omega)]at hq
    cases hq
  refine⟨yS0,λ nm b7=>?_⟩;have b1:=kC b7 (.lst []);obtain⟨qx,qy,bf,_⟩:=id p8;have d3:nm≠p:=(kJ bf b7).symm;obtain⟨wt,ch,a9,_⟩:=id (bi.kept b1);refine⟨_,rfl,w,_,rfl,.inr (SqT.of ch),_,rfl,(by rw[af,a9];omega),(by rw[af,a9];omega),?_⟩;refine jN (lo:=0) (n:=((((wt.map V.ref).length:Nat):Int)).toNat) (λ i' M H9=>∃(x7 x8 x9 l:Option V)(c:List Nat),M=[some (.ref a),some (.int (0+(i:Int))),some (.ref p),some (.ref w),some (.ref z),some (.ref du),some (.ref nm),x7,x8,x9,l]/\H9 nm=some (.lst (c.map vn))/\c.Perm (df i')/\SameBut p H8 H9/\PotAt H9 p) ⟨_,_,_,_,[],rfl,kB,.nil,.of b1,p8.kept b1⟩ ?_ ?_
  ·rintro i' M H9 d2 ⟨x7,x8,x9,l,c,rfl,Z,U,s9,p9⟩
   have f1:i'<W.length:=by rw[af,fg,a9]at d2;exact d2
   have ln:c.length=i':=by rw[U.length_eq,eV]
   refine⟨_,rfl,.inl ⟨rfl,_,SqL.of Z⟩,_,rfl,_,rfl,_,_,rfl,rfl,p,_,rfl,p9,(by omega),gJ (gw (m:=151) (by omega) (by decide)),λ d cs d0 d1 da et=>?_⟩;have es:=da _ _ d3 Z;refine⟨_,rfl,nm,_,_,_,rfl,rfl,es,d0,(by omega),(by rw[af,ln];exact kQ (by omega)),?_⟩;refine⟨_,_,_,_,c.take d.toNat++i'::c.drop d.toNat,rfl,?_,tR U,(λ b o nb e=>?_),et.other d3.symm⟩
   ·rw[dw,BE,eo,Bl,show vn i'=V.int (0+(i':Int)) by rw[ve];rfl]
    exact kB
   ·rw[kL (kJ e b7)]
    exact da b o nb (s9 b o nb e)
  rintro M H9 ⟨f2,f3,f8,eu,c,rfl,Z,U,s9,p9⟩;rw[af,fg,a9]at U;have g9:=kAJ g8 al s9;have bd:=bi.pot s9 p8;have c3:=s9 z _ (λ e=>by rw[e,bf]at b3;cases b3) b3;have ak:=d7.pot s9 p8
  clear ch a9 p8 bf bi b3 d7 s9 b1 b7
  have cp:c.length=W.length:=by rw[U.length_eq,eV]
  have c1:∀(p:Nat)(row:List Nat),W[p]?=some row->row≠[]/\row.length<=1000/\∀ x∈row,x<W.length:=λ p row e=>⟨G.ne p row e,by have:=S.len e;omega,λ x hx=>(S.rng p row x e hx).1⟩;refine⟨_,rfl,_,rfl,nm,_,rfl,.inl ⟨SqL.of Z,λ t1 ek=>?_⟩⟩;have bo:=kC ek (.tup (c.map vn));refine⟨w,t1,W,c,rfl,bd.kept bo,kB,U,c1,a5,λ u VV cs ct hV bq=>?_⟩;have a1:Same H9 cs:=bo.trans ct;refine⟨_,rfl,_,rfl,nm,z,c,[v,r,I],rfl,a1 _ _ Z,a1 _ _ c3,(λ x hx=>?_),(show 3<=42 by decide),λ zb f6 c5 d6=>?_⟩
  ·simp only[cn,fh,or_false]at hx
   rw[cp];rcases hx with rfl | rfl | rfl
   ·exact a0.1
   ·exact a0.2.1
   ·exact a0.2.2
  have a2:=a1.trans c5;refine⟨_,rfl,_,rfl,nm,du,D,c,rfl,a2 _ _ Z,ak.kept a2,(by rw[lD];exact U),(by omega),(λ p row e=>?_),λ dd D' c7 b2 d9 rnd=>?_⟩
  ·have be:p<W.length:=by rw[<-lD];exact(ag.mp e).1
   have eg:D.getD p []=row:=by rw[ae,e];rfl
   refine⟨?_,λ x hx=>?_⟩
   ·have:=wd.le3 be
    rw[eg]at this;omega
   ·rw[lD]
    exact ac p x (by rw[eg];exact hx)
  have ba:=a2.trans b2;refine⟨yS3,λ th dz=>?_⟩;have a8:=kC dz (.tup [.ref u,.ref zb,.ref dd]);have e3:=kB (H:=c7) (a:=th) (o:=.tup [.ref u,.ref zb,.ref dd]);have O:=ba.trans a8;have cd:=(hV.kept (c5.trans b2)).kept a8;have bm:=a8 _ _ (b2 _ _ d6);have br:=d9.kept a8;have b8:=bd.kept O;have b9:=O _ _ c3;have aw:=ak.kept O;have as:=O _ _ Z;have e7:=g9.trans O;generalize upd c7 th (.tup [.ref u,.ref zb,.ref dd])=dp at *
  clear hV d6 d9 bd c3 ak Z O ba a2 a1 a8 c5 b2 bo ct
  have rn:=kEM U bq;have GV:=tN G rn;have SV:=(Wb.of GV).toNb;have TV:Tr VV:=⟨SV,by rw[bq.1];exact a5,(xG GV).1,(xG GV).2⟩;have e4:=wd.ren S bq U rnd a0;have ce:=rn.e_to ap;have c8:(nxt VV (c.getD v 0,c.getD I 0)).2=c.getD r 0:=gE SV.nd (rn.r_to hb)
  have d8:∀ p q,p<W.length->q<W.length->c.getD p 0=c.getD q 0->p=q:=λ p q h1 h2 e=>rn.inj h1 h2 e
  obtain⟨ws,w1,ax,_⟩:=id b8;refine⟨_,rfl,w,_,rfl,.inr (SqT.of w1),_,rfl,(by rw[af,ax];omega),(by rw[af,ax];omega),λ L nL=>?_⟩;refine yN (lo:=0) (n:=((((ws.map V.ref).length:Nat):Int)).toNat) (λ j M a6=>∃(x0:Option V),M=[x0,some (.ref z)]/\Same dp a6/\a6 L=some (.lst ((wP j v r I).map vn))) ⟨none,rfl,kC nL _,kB⟩ ?_ ?_
  ·rintro j M a6 hj ⟨x0,rfl,a4,hD⟩
   have f7:j<W.length:=by rw[af,fg,ax]at hj;exact hj
   have lz:((wP j v r I).map vn).length<sizeLine:=by
    rw[af];have:=ie (λ p=>!isB v r I p) (df j);rw[eV]at this;exact kQ (by unfold wP;omega)
   have e:wP (j+1) v r I=wP j v r I++if(!isB v r I j)=true then[j] else[]:=uO (λ p=>!isB v r I p) j;rw[e];generalize wP j v r I=N at *;have e0:V.int (0+(j:Int))=vn j:=by rw[ve];rfl
   refine⟨_,rfl,_,rfl,z,_,rfl,.inr (SqT.of (a4 _ _ b9)),rfl,xW v r I,_,rfl,?_⟩;rw[e0,yW]
   cases isB v r I j with
   | true=>exact xN ⟨_,rfl,a4,by rw[if_neg (by decide),iM];exact hD⟩
   | false =>
    refine yV ⟨_,rfl,_,hD,lz,⟨_,rfl,kY nL a4,?_⟩⟩;rw[if_pos (by decide),kB,dw]
    rfl
  rintro M a6 ⟨x0,rfl,a4,hL⟩;rw[af,fg,ax]at hL
  have db:∀ p∈wP W.length v r I,p<W.length/\p≠v/\p≠r/\p≠I:=λ p hp=>by
   obtain⟨m1,m2⟩:=gn.mp hp;exact⟨fz.mp m1,uC (by simpa using m2)⟩
  generalize wP W.length v r I=N at *;refine⟨L,rfl,⟨_,SqL.of hL⟩,?_⟩;refine gU (xs:=N.map vn) (λ m M b6=>∃(x7 x9 l:Option V),M=[some (.ref a),some (.int (0+(i:Int))),some (.ref p),some (.ref w),some (.ref z),some (.ref du),some (.ref nm),x7,some (.ref th),x9,l]/\Same a6 b6) ⟨_,_,_,rfl,Same.refl _⟩ ?_ ?_ ?_
  ·rintro m M b6 _ ⟨x7,x9,l,rfl,an⟩
   exact SqL.of (an _ _ hL)
  ·rintro m xv M b6 hx ⟨x7,x9,l,rfl,an⟩
   rw[ay]at hx;obtain⟨pl,ep,rfl⟩:=ck.mp hx;obtain⟨bl,pa,pb,pc⟩:=db pl (cu ep);obtain⟨kp,e6,e9⟩:=a3.place bl pa pb pc;refine⟨3,rfl,by omega,by omega,?_⟩;refine jN (lo:=0) (n:=(3:Int).toNat) (λ jj M bv=>∃(x9 l:Option V),M=[some (.ref a),some (.int (0+(i:Int))),some (.ref p),some (.ref w),some (.ref z),some (.ref du),some (.ref nm),some (vn pl),some (.ref th),x9,l]/\Same a6 bv) ⟨_,_,rfl,an⟩ ?_ ?_
   ·rintro jj M bv bn ⟨x9,l,rfl,b4⟩
    have bn:jj<3:=bn;obtain⟨xc,aq⟩ : ∃ x,[v,r,I][jj]?=some x:=⟨_,aa bn⟩;have ej:V.int (0+(jj:Int))=vn jj:=by rw[ve];rfl
    obtain⟨path,wy,en⟩:=ways jj xc aq kp e6;rw[<-e9]at wy
    have xl:xc<W.length:=by
     have:=cu aq;simp only[cn,fh,or_false]at this;rcases this with rfl | rfl | rfl
     ·exact a0.1
     ·exact a0.2.1
     ·exact a0.2.2
    have eb:D[xc]?=some []:=by
     have dm:xc=v\/xc=r\/xc=I:=by
      have:=cu aq;simpa using this
     have:=wd.base xc dm;rw[ae,aa (by omega)]at this;rw[aa (by omega)];exact congrArg some this
    have bc:=kMH ac xl bl wy;obtain⟨s1,s2,s3,ca⟩:=kGL (λ n hn=>by have:=bc n hn;omega) (show path.length<=42 by omega);have a7:=a4.trans b4;refine⟨_,rfl,_,rfl,_,rfl,du,D,pl,jj,xc,path,congrArg (λ q=>[V.ref du,vn pl,q]) ej,aw.kept a7,wy,eb,by omega,by omega,λ td ey cr d5=>?_⟩;have Y:=a7.trans cr;refine⟨_,rfl,_,rfl,_,rfl,_,rfl,_,rfl,w,z,du,W,D,v,r,I,pl,jj,xc,path,congrArg (λ q=>[V.ref w,V.ref z,V.ref du,vn pl,q]) ej,b8.kept Y,Y _ _ b9,aw.kept Y,T,ap,b0,wd,aq,wy,by omega,λ tw f0 b5 ea=>?_⟩;refine⟨tw,yO path,rfl,cI ea,s1,s2,s3,ca,_,rfl,td,yO path,rfl,cI (b5 _ _ d5),s1,s2,s3,ca,rfl,_,rfl,?_⟩;rw[decide_eq_true rfl];refine xN ?_;have J:=Y.trans b5
    have dx:[c.getD v 0,c.getD r 0,c.getD I 0][jj]?=some (c.getD xc 0):=by
     rw[show[c.getD v 0,c.getD r 0,c.getD I 0]=[v,r,I].map (λ q=>c.getD q 0) from rfl,ay,aq]
     rfl
    have ee:=Way.ren lD rnd d8 ac xl bl wy;have am:=J _ _ e3;have r0:atI [V.ref u,V.ref zb,V.ref dd] 0=some (.ref u):=rfl;have r1:atI [V.ref u,V.ref zb,V.ref dd] 1=some (.ref zb):=rfl;have r2:atI [V.ref u,V.ref zb,V.ref dd] 2=some (.ref dd):=rfl;refine⟨_,rfl,th,_,_,_,rfl,rfl,SqT.of am,r0,_,rfl,th,_,_,_,rfl,rfl,SqT.of am,r1,_,rfl,th,_,_,_,rfl,rfl,SqT.of am,r2,_,rfl,_,rfl,nm,_,_,_,rfl,rfl,SqL.of (J _ _ as),bJ (show pl<c.length by omega),_,rfl,u,zb,dd,VV,D',c.getD v 0,c.getD r 0,c.getD I 0,c.getD pl 0,jj,c.getD xc 0,path.map (λ q=>c.getD q 0),congrArg (λ q=>[V.ref u,V.ref zb,V.ref dd,vn (c.getD pl 0),q]) ej,cd.kept J,J _ _ bm,br.kept J,TV,ce,c8,e4,dx,ee,(by rw[af];omega),λ tv ew c2 dy=>?_⟩;have bt:=J.trans c2;refine⟨_,rfl,_,rfl,nm,td,c,path,rfl,bt _ _ as,c2 _ _ (b5 _ _ d5),(λ x hx=>by rw[cp];exact bc x hx),by omega,λ tn f4 cj dk=>?_⟩;refine⟨yO (path.map λ q=>c.getD q 0),yO (path.map λ q=>c.getD q 0),cI (cj _ _ dy),cI dk,dX _,dX _,_,rfl,?_⟩;rw[kIR];exact xN ⟨_,_,rfl,(b4.trans (cr.trans (b5.trans (c2.trans cj))))⟩
   ·rintro M bv ⟨x9,l,rfl,b4⟩
    exact⟨_,_,_,rfl,b4⟩
  ·rintro M b6 ⟨x7,x9,l,rfl,an⟩
   exact⟨_,_,_,_,_,_,_,_,_,_,rfl,e7.trans (a4.trans an)⟩
 ·rintro M H2 ⟨x1,x2,x3,x4,x5,x6,x7,x8,x9,l,rfl,g⟩
  exact q H2
end
def all_mk{l:CA}{w:fu}{K:au}{h:iC}{mg:Str->Option ai}{b:ar}(X:K.In h)(G:h.Ns eR mg)(a:mg "law" = some (.ref b))(B:FxG K mg):∃ fd:og,(∀(s:ao)(v:ai),DN s fd ⟨[v],[]⟩ [("_law_script",v)])/\∀ base:iC,K.In base->base.Ns eR mg->FnOk l.prog w K mg base CX0 11 b fd ["_law_script"] (mS K):=by
 obtain⟨f,fd,e,F⟩:=B.d44
 cases a.symm.trans (Cq X G e)
 refine⟨fd,λ s v=>?_,λ base _ _=>?_⟩
 ·obtain⟨y,A,kV,p,q,x,d,r,m,rfl,_⟩:=F.ex
  exact .of_eq rfl
 refine gm λ n=>?_;obtain⟨g,u,i,c,o⟩ : Bad c0:=Classical.epsilon_spec ⟨⟨l.prog,w,K,mg,base⟩,B,b,fd,F,n⟩;exact o (kQE g c)
def walk{l:CA}{q:eN}{loose:List Str}{m:(Str->Option ai)->iC->Prop}{c:fu->iC->Prop}{d:DefRec}{K:GH->au}(r:l.most=some 63)(b:d.params.defaults=[])
  (i:∀(w:fu)(h:iC),c w h->(K w.params).In h)
  (F:∀(w:fu)(mg:Str->Option ai)(g:ar)(h:iC),(K w.params).In h->h.Ns eR mg->mg d.name=some (.ref g) ->
   ∃ fd:og,(∀(s:ao)(u:ai),DN s fd ⟨[u],[]⟩ [("_law_script",u)])/\∀ base:iC,(K w.params).In base->base.Ns eR mg->FnOk l.prog w (K w.params) mg base CX0 11 g fd ["_law_script"] (mS (K w.params))) :
  FQ q loose m c l.row.toRowW d [] (λ f vs=>Eb f vs) :=
 L2.walk_of (n:=63) (k:=11) (x:="_law_script") (CX:=λ _=>CX0) (sp:=λ w=>mS (K w.params)) r (by decide) b ⟨rfl,by decide,by decide,rfl⟩ i F (λ _ _ a p o _ v=>⟨a,p,rfl,v,o,λ _=>rfl⟩) λ _ _ _ _ _ z=>z
end Prf
namespace PySem.W.Fast
def tw12797965976656049224:=0
def tw14301075737334301096:=0
def tw11915959332555833391:=0
def tw1826419893554561843:=0
def tw10098632038342214270:=0
def tw11427655609435822755:=0
def tw17007569808018421915:=0
def tw5371950304262739946:=0
def tw8964115751124519104:=0
def tw2310419106959187073:=0
def tw789628759414266816:=0
def tw16559247368025400954:=0
def tw6627119978670094563:=0
def tw6942880346242973699:=0
def tw3922381446021242938:=0
def tw129165635548283405:=0
def tw8783737561435539378:=0
def tw10584632070708118985:=0
def tw8109327225036848130:=0
def tw7871520204170549504:=0
def tw10267735018091923174:=0
def tw330033314469783845:=0
def tw13047910617779461163:=0
def tw1437889764623255246:=0
def tw13337251321571512489:=0
def tw9854347011238666620:=0
def tw8531315922244893070:=0
def tw12317628492167546910:=0
def tw548963194098804886:=0
def tw10572774620537701998:=0
def tw7928957963910675872:=0
def tw8763215156196305258:=0
def tw2285138849267001356:=0
def tw7429249928731276064:=0
def tw13368694250960104125:=0
def tw18359383035682784063:=0
def tw11998328039778633347:=0
def tw51810007905614957:=0
def tw10688295601687144577:=0
def tw597509559435482502:=0
def tw3205955957031982894:=0
def tw1621661993526977146:=0
def tw17822089137260653806:=0
def tw7019563636634194263:=0
def tw9837223769456431822:=0
def tw5005282115406257761:=0
def tw10938225603054463907:=0
def tw1512854793199835887:=0
def tw3530340958239946218:=0
def tw16049255424515088739:=0
def tw5982571511714411680:=0
def tw17131231800163783667:=0
def tw15267361329178350656:=0
def tw5991733264635360506:=0
def tw10764274354639812218:=0
def tw16531051061723892271:=0
def tw13960488893036083452:=0
def tw5601653528187538821:=0
def tw15322870011654526640:=0
def tw7448648254068370830:=0
def tw14695520557430755474:=0
def tw4504961710498898457:=0
def tw2558346433033772392:=0
def tw9313211976146892261:=0
def tw15219809775637578162:=0
def tw12229145978373764380:=0
def tw2424269148825756671:=0
def tw7019521942040012430:=0
def tw10433808353639740673:=0
def tw17218611713244294338:=0
def tw14957991525891723555:=0
def tw13918326518558666341:=0
def tw17920742280596040967:=0
def tw17746620768806566925:=0
def tw16919255037120640111:=0
def tw13067358846616493680:=0
def tw467888249746225138:=0
def tw13903104766592187542:=0
def tw2353853607010034905:=0
def tw8451319419705491322:=0
def tw11104318411415520571:=0
def tw9302326170023102942:=0
end PySem.W.Fast
open PySem PySem.W PyProof.Rows
set_option maxRecDepth 100000 in
set_option maxHeartbeats 0 in
theorem PySem.Challenge.cw_restdraw_k76_ways_of_woods_holds : PySem.Challenge.rw_restdraw_k76_ways_of_woods.Holds := by
 w_on;o_law;k_head;(case hw=>w_witness2)
 k_fill
 refine Prf.walk (l:=Bd) rfl rfl (λ w h Y=>PySem.W.kIn_of Y) ?F
 case F =>
  intro w mg fa h KX G hmg;refine' Prf.all_mk KX G hmg ?_;apply Prf.FxG.mk ⟨_,KX,G⟩<;>first | (refine' L2.df_mk ?a ?l ?c ?k;(case a=>k_is);(case l=>k_is);(case c=>k_is);(case k=>k_is)) | (refine' L2.cn_mk ?a ?l ?v;(case a=>k_is);(case l=>k_is);(case v=>first | rfl | decide)) | k_is
